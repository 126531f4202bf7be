import Derived.Test.YtllmpemmknblaaaDoorBL00
/- Part of the proof: HC, HA, HD, HE, HF. -/
set_option linter.unusedVariables false
set_option linter.unusedSimpArgs false
set_option linter.unusedSectionVars false
namespace Go.Proofs.YtllmpemmknblaaaDoor
open Go Go.RowKit Tw
def kindsL : List Value := [strV [50, 50, 71, 49], .int .u8 20, .bool false, .bool false, strV [50, 50, 82, 49], .int .u8 20, .bool false, .bool true, strV [52, 50, 71, 49], .int .u8 40, .bool false, .bool false, strV [52, 50, 82, 49], .int .u8 40, .bool false, .bool true, strV [52, 53, 71, 49], .int .u8 40, .bool true, .bool false, strV [52, 53, 82, 49], .int .u8 40, .bool true, .bool true]
structure Env (w : World) : Prop where
  kinds : w.var? Tryd.prog "twistlock/iso.kinds" = some kindsL.toArray
theorem var_keep {P : Program} {w w' : World} {n : String} {cs : Array Value} (h : w.var? P n = some cs) (hb : Below w.heap.size w w') : w'.var? P n = some cs := by
  unfold World.var? at *
  cases hg : P.globalNamed n with
  | none => rw [hg] at h; cases h
  | some g =>
    rw [hg] at h
    simp only [Option.bind_some] at h ⊢
    cases hh : w.heap[g]? with
    | none => rw [hh] at h; cases h
    | some o => rw [hb.block g (lt_of_block hh)]; exact h
theorem Env.keep {w w' : World} (h : Env w) (hb : Below w.heap.size w w') : Env w' := ⟨var_keep h.kinds hb⟩
theorem gKinds : Tryd.prog.globalNamed "twistlock/iso.kinds" = some 0 := by kernel_rfl
theorem Env.cells {w : World} (h : Env w) : ∀ (j : Nat) (v : Value), kindsL[j]? = some v → w.cell? ⟨0, 0 + j, none⟩ = some v := fun j v hv => by
  rw [Nat.zero_add, World.var?_cell gKinds h.kinds j]
  simpa using hv
theorem Env.lt {w : World} (h : Env w) : 0 < w.heap.size := World.block_lt_of_cell? _ _ (h.cells 0 (strV [50, 50, 71, 49]) rfl)
def codeV (n : Nat) (h r : Bool) : Value := if 20 = n ∧ false = h ∧ false = r then .tuple #[strV [50, 50, 71, 49], .int .i64 0] else if 20 = n ∧ false = h ∧ true = r then .tuple #[strV [50, 50, 82, 49], .int .i64 0] else if 40 = n ∧ false = h ∧ false = r then .tuple #[strV [52, 50, 71, 49], .int .i64 0] else if 40 = n ∧ false = h ∧ true = r then .tuple #[strV [52, 50, 82, 49], .int .i64 0] else if 40 = n ∧ true = h ∧ false = r then .tuple #[strV [52, 53, 71, 49], .int .i64 0] else if 40 = n ∧ true = h ∧ true = r then .tuple #[strV [52, 53, 82, 49], .int .i64 0] else .tuple #[strV [], .int .i64 32]
theorem eq_kind {x y : Nat} {a b c d e : Bool} {px py : Operand} (h : decide (x = y ∧ a = c ∧ b = d) = e) (w : World) : (do eqGuard .eql 37 px py (.agg #[.int .u8 ((x : Nat) : Int), .bool a, .bool b]) (.agg #[.int .u8 ((y : Nat) : Int), .bool c, .bool d]); binOp .eql 37 (.agg #[.int .u8 ((x : Nat) : Int), .bool a, .bool b]) (.agg #[.int .u8 ((y : Nat) : Int), .bool c, .bool d]) : Sem Value).run Tryd.prog w = .ok (.bool e) w := by
  subst h
  go_simp
  have e1 : ((x : Int) = (y : Int)) = (x = y) := by apply propext; omega
  simp only [e1]
  by_cases h1 : x = y <;> by_cases h2 : a = c <;> by_cases h3 : b = d <;> simp [h1, h2, h3]
set_option maxRecDepth 100000 in
set_option maxHeartbeats 4000000 in
theorem Code_any (n : Nat) (h r : Bool) (w : World) (hE : Env w) : Calls Tryd.prog 43 #[.agg #[.int .u8 ((n : Nat) : Int), .bool h, .bool r]] w fun e w' => e = .returned (codeV n h r) ∧ Below w.heap.size w w' := by
  have HE := Lib.hid hE
  clear hE
  go_enter Tryd.func43, Tryd.ntmps43
  refine wp_seq ?_
  refine wp_region_L (W0 := w) [] (KS.start w) ?_
  refine wpL_new (fun g => .pointer (some ⟨g, 0, none⟩)) (obi := .cells #[.int .u8 ((n : Nat) : Int), .bool h, .bool r] 37 (0, 0)) rfl rfl (fun _ => by kernel_rfl) (fun _ => by simp only [List.setIfInBounds_toArray, List.set_cons_succ, List.set_cons_zero] <;> rfl) fun g1 Bg1 Fg1 => ?_
  refine lm (v := strV []) rfl rfl ?_
  refine lm (v := .int .i64 0) rfl rfl ?_
  refine wpL_done (fun W1 hW1 => ?_)
  refine (show Code.wp _ _ _ _ _ from ?_)
  refine wp_seq ?_
  refine wp_seq ?_
  refine wp_region_L (W0 := w) [(g1, .cells #[.int .u8 ((n : Nat) : Int), .bool h, .bool r] 37 (0, 0))] (hW1) ?_
  refine lv (v := .agg #[strV [50, 50, 71, 49], .int .u8 20, .bool false, .bool false, strV [50, 50, 82, 49], .int .u8 20, .bool false, .bool true, strV [52, 50, 71, 49], .int .u8 40, .bool false, .bool false, strV [52, 50, 82, 49], .int .u8 40, .bool false, .bool true, strV [52, 53, 71, 49], .int .u8 40, .bool true, .bool false, strV [52, 53, 82, 49], .int .u8 40, .bool true, .bool true]) rfl rfl (yb_olds (cs := kindsL) rfl (by kernel_rfl) HE.out.cells HE.out.lt Tryd.underlying78 rfl (by kernel_rfl)) ?_
  refine lm (v := .int .i64 0) rfl rfl ?_
  refine wpL_done (fun W2 hW2 => ?_)
  refine (show Code.wp _ _ _ _ _ from ?_)
  refine wp_block ?_
  refine wp_loop_rounds 7 ?_
  refine (show Code.wp _ _ _ _ _ from ?_)
  refine wp_seq ?_
  refine wp_region_L (W0 := w) [(g1, .cells #[.int .u8 ((n : Nat) : Int), .bool h, .bool r] 37 (0, 0))] (hW2) ?_
  refine lm (v := .bool true) rfl rfl ?_
  refine wpL_done (fun W3 hW3 => ?_)
  refine (show Code.wp _ _ _ _ _ from ?_)
  refine wp_seq ?_
  refine wp_cond_true rfl ?_
  refine wp_skip ?_
  refine (show Code.wp _ _ _ _ _ from ?_)
  refine wp_seq ?_
  refine wp_block ?_
  refine wp_seq ?_
  refine wp_region_L (W0 := w) [(g1, .cells #[.int .u8 ((n : Nat) : Int), .bool h, .bool r] 37 (0, 0))] (hW3) ?_
  refine lm (v := .agg #[strV [50, 50, 71, 49], .int .u8 20, .bool false, .bool false]) rfl rfl ?_
  refine wpL_new (fun g => .pointer (some ⟨g, 0, none⟩)) (obi := .cells #[strV [], .int .u8 0, .bool false, .bool false] 77 (0, 0)) rfl rfl (fun _ => by kernel_rfl) (fun _ => by simp only [List.setIfInBounds_toArray, List.set_cons_succ, List.set_cons_zero] <;> rfl) fun g2 Bg2 Fg2 => ?_
  refine wpL_s [(g2, .cells #[strV [50, 50, 71, 49], .int .u8 20, .bool false, .bool false] 77 (0, 0)), (g1, .cells #[.int .u8 ((n : Nat) : Int), .bool h, .bool r] 37 (0, 0))] rfl rfl (st_row (off := 0) (v := .agg #[strV [50, 50, 71, 49], .int .u8 20, .bool false, .bool false]) rfl (by kernel_rfl) (by kernel_rfl) (.head _) Bg2 (by kernel_rfl) (by simp [Value.cells]) (by intro v hv; simp [Value.cells] at hv; first | (subst hv; rfl) | (rcases hv with rfl | rfl | rfl | rfl <;> rfl)) (by kernel_rfl) (List.forall_mem_cons.2 ⟨.inl rfl, (List.forall_mem_cons.2 ⟨.inr ⟨(.tail _ (.head _)), (Fg2 _ (.head _))⟩, (List.forall_mem_nil _)⟩)⟩)) ?_
  refine wpL_done (fun W4 hW4 => ?_)
  refine (show Code.wp _ _ _ _ _ from ?_)
  refine wp_seq ?_
  refine wp_region_L (W0 := w) [(g2, .cells #[strV [50, 50, 71, 49], .int .u8 20, .bool false, .bool false] 77 (0, 0)), (g1, .cells #[.int .u8 ((n : Nat) : Int), .bool h, .bool r] 37 (0, 0))] (hW4) ?_
  refine lm (v := .pointer (some ⟨g2, 1, none⟩)) rfl rfl ?_
  refine lv (v := .agg #[.int .u8 20, .bool false, .bool false]) rfl rfl (yb_load (n := 3) (off := 1) rfl (by kernel_rfl) (.head _) Tryd.underlying37 rfl (by kernel_rfl) (by simp) (by kernel_rfl)) ?_
  refine lv (v := .agg #[.int .u8 ((n : Nat) : Int), .bool h, .bool r]) rfl rfl (yb_load (n := 3) (off := 0) rfl (by kernel_rfl) (.tail _ (.head _)) Tryd.underlying37 rfl (by kernel_rfl) (by simp) (by kernel_rfl)) ?_
  refine lp (v := .bool (decide (20 = n ∧ false = h ∧ false = r))) rfl rfl (run_bin rfl (vx := .agg #[.int .u8 ((20 : Nat) : Int), .bool false, .bool false]) (vy := .agg #[.int .u8 ((n : Nat) : Int), .bool h, .bool r]) (by kernel_rfl) (by kernel_rfl) fun w => eq_kind rfl w) ?_
  refine wpL_done (fun W5 hW5 => ?_)
  refine (show Code.wp _ _ _ _ _ from ?_)
  cases hd1 : (decide (20 = n ∧ false = h ∧ false = r)) with
  | false =>
    have h1 : ¬ (20 = n ∧ false = h ∧ false = r) := of_decide_eq_false hd1
    clear hd1
    refine wp_cond_false rfl ?_
    refine wp_skip ?_
    refine (show Code.wp _ _ _ _ _ from ?_)
    refine wp_region_L (W0 := w) [(g2, .cells #[strV [50, 50, 71, 49], .int .u8 20, .bool false, .bool false] 77 (0, 0)), (g1, .cells #[.int .u8 ((n : Nat) : Int), .bool h, .bool r] 37 (0, 0))] (hW5) ?_
    refine lm (v := .int .i64 1) rfl rfl ?_
    refine lm (v := .int .i64 1) rfl rfl ?_
    refine wpL_done (fun W6 hW6 => ?_)
    refine (show Code.wp _ _ _ _ _ from ?_)
    refine wp_seq ?_
    refine wp_region_L (W0 := w) [(g2, .cells #[strV [50, 50, 71, 49], .int .u8 20, .bool false, .bool false] 77 (0, 0)), (g1, .cells #[.int .u8 ((n : Nat) : Int), .bool h, .bool r] 37 (0, 0))] (hW6) ?_
    refine lm (v := .bool true) rfl rfl ?_
    refine wpL_done (fun W7 hW7 => ?_)
    refine (show Code.wp _ _ _ _ _ from ?_)
    refine wp_seq ?_
    refine wp_cond_true rfl ?_
    refine wp_skip ?_
    refine (show Code.wp _ _ _ _ _ from ?_)
    refine wp_seq ?_
    refine wp_block ?_
    refine wp_seq ?_
    refine wp_region_L (W0 := w) [(g2, .cells #[strV [50, 50, 71, 49], .int .u8 20, .bool false, .bool false] 77 (0, 0)), (g1, .cells #[.int .u8 ((n : Nat) : Int), .bool h, .bool r] 37 (0, 0))] (hW7) ?_
    refine lm (v := .agg #[strV [50, 50, 82, 49], .int .u8 20, .bool false, .bool true]) rfl rfl ?_
    refine wpL_new (fun g => .pointer (some ⟨g, 0, none⟩)) (obi := .cells #[strV [], .int .u8 0, .bool false, .bool false] 77 (0, 0)) rfl rfl (fun _ => by kernel_rfl) (fun _ => by simp only [List.setIfInBounds_toArray, List.set_cons_succ, List.set_cons_zero] <;> rfl) fun g3 Bg3 Fg3 => ?_
    refine wpL_s [(g3, .cells #[strV [50, 50, 82, 49], .int .u8 20, .bool false, .bool true] 77 (0, 0)), (g2, .cells #[strV [50, 50, 71, 49], .int .u8 20, .bool false, .bool false] 77 (0, 0)), (g1, .cells #[.int .u8 ((n : Nat) : Int), .bool h, .bool r] 37 (0, 0))] rfl rfl (st_row (off := 0) (v := .agg #[strV [50, 50, 82, 49], .int .u8 20, .bool false, .bool true]) rfl (by kernel_rfl) (by kernel_rfl) (.head _) Bg3 (by kernel_rfl) (by simp [Value.cells]) (by intro v hv; simp [Value.cells] at hv; first | (subst hv; rfl) | (rcases hv with rfl | rfl | rfl | rfl <;> rfl)) (by kernel_rfl) (List.forall_mem_cons.2 ⟨.inl rfl, (List.forall_mem_cons.2 ⟨.inr ⟨(.tail _ (.head _)), (Fg3 _ (.head _))⟩, (List.forall_mem_cons.2 ⟨.inr ⟨(.tail _ (.tail _ (.head _))), (Fg3 _ (.tail _ (.head _)))⟩, (List.forall_mem_nil _)⟩)⟩)⟩)) ?_
    refine wpL_done (fun W8 hW8 => ?_)
    refine (show Code.wp _ _ _ _ _ from ?_)
    refine wp_seq ?_
    refine wp_region_L (W0 := w) [(g3, .cells #[strV [50, 50, 82, 49], .int .u8 20, .bool false, .bool true] 77 (0, 0)), (g2, .cells #[strV [50, 50, 71, 49], .int .u8 20, .bool false, .bool false] 77 (0, 0)), (g1, .cells #[.int .u8 ((n : Nat) : Int), .bool h, .bool r] 37 (0, 0))] (hW8) ?_
    refine lm (v := .pointer (some ⟨g3, 1, none⟩)) rfl rfl ?_
    refine lv (v := .agg #[.int .u8 20, .bool false, .bool true]) rfl rfl (yb_load (n := 3) (off := 1) rfl (by kernel_rfl) (.head _) Tryd.underlying37 rfl (by kernel_rfl) (by simp) (by kernel_rfl)) ?_
    refine lv (v := .agg #[.int .u8 ((n : Nat) : Int), .bool h, .bool r]) rfl rfl (yb_load (n := 3) (off := 0) rfl (by kernel_rfl) (.tail _ (.tail _ (.head _))) Tryd.underlying37 rfl (by kernel_rfl) (by simp) (by kernel_rfl)) ?_
    refine lp (v := .bool (decide (20 = n ∧ false = h ∧ true = r))) rfl rfl (run_bin rfl (vx := .agg #[.int .u8 ((20 : Nat) : Int), .bool false, .bool true]) (vy := .agg #[.int .u8 ((n : Nat) : Int), .bool h, .bool r]) (by kernel_rfl) (by kernel_rfl) fun w => eq_kind rfl w) ?_
    refine wpL_done (fun W9 hW9 => ?_)
    refine (show Code.wp _ _ _ _ _ from ?_)
    cases hd2 : (decide (20 = n ∧ false = h ∧ true = r)) with
    | false =>
      have h2 : ¬ (20 = n ∧ false = h ∧ true = r) := of_decide_eq_false hd2
      clear hd2
      refine wp_cond_false rfl ?_
      refine wp_skip ?_
      refine (show Code.wp _ _ _ _ _ from ?_)
      refine wp_region_L (W0 := w) [(g3, .cells #[strV [50, 50, 82, 49], .int .u8 20, .bool false, .bool true] 77 (0, 0)), (g2, .cells #[strV [50, 50, 71, 49], .int .u8 20, .bool false, .bool false] 77 (0, 0)), (g1, .cells #[.int .u8 ((n : Nat) : Int), .bool h, .bool r] 37 (0, 0))] (hW9) ?_
      refine lm (v := .int .i64 2) rfl rfl ?_
      refine lm (v := .int .i64 2) rfl rfl ?_
      refine wpL_done (fun W10 hW10 => ?_)
      refine (show Code.wp _ _ _ _ _ from ?_)
      refine wp_seq ?_
      refine wp_region_L (W0 := w) [(g3, .cells #[strV [50, 50, 82, 49], .int .u8 20, .bool false, .bool true] 77 (0, 0)), (g2, .cells #[strV [50, 50, 71, 49], .int .u8 20, .bool false, .bool false] 77 (0, 0)), (g1, .cells #[.int .u8 ((n : Nat) : Int), .bool h, .bool r] 37 (0, 0))] (hW10) ?_
      refine lm (v := .bool true) rfl rfl ?_
      refine wpL_done (fun W11 hW11 => ?_)
      refine (show Code.wp _ _ _ _ _ from ?_)
      refine wp_seq ?_
      refine wp_cond_true rfl ?_
      refine wp_skip ?_
      refine (show Code.wp _ _ _ _ _ from ?_)
      refine wp_seq ?_
      refine wp_block ?_
      refine wp_seq ?_
      refine wp_region_L (W0 := w) [(g3, .cells #[strV [50, 50, 82, 49], .int .u8 20, .bool false, .bool true] 77 (0, 0)), (g2, .cells #[strV [50, 50, 71, 49], .int .u8 20, .bool false, .bool false] 77 (0, 0)), (g1, .cells #[.int .u8 ((n : Nat) : Int), .bool h, .bool r] 37 (0, 0))] (hW11) ?_
      refine lm (v := .agg #[strV [52, 50, 71, 49], .int .u8 40, .bool false, .bool false]) rfl rfl ?_
      refine wpL_new (fun g => .pointer (some ⟨g, 0, none⟩)) (obi := .cells #[strV [], .int .u8 0, .bool false, .bool false] 77 (0, 0)) rfl rfl (fun _ => by kernel_rfl) (fun _ => by simp only [List.setIfInBounds_toArray, List.set_cons_succ, List.set_cons_zero] <;> rfl) fun g4 Bg4 Fg4 => ?_
      refine wpL_s [(g4, .cells #[strV [52, 50, 71, 49], .int .u8 40, .bool false, .bool false] 77 (0, 0)), (g3, .cells #[strV [50, 50, 82, 49], .int .u8 20, .bool false, .bool true] 77 (0, 0)), (g2, .cells #[strV [50, 50, 71, 49], .int .u8 20, .bool false, .bool false] 77 (0, 0)), (g1, .cells #[.int .u8 ((n : Nat) : Int), .bool h, .bool r] 37 (0, 0))] rfl rfl (st_row (off := 0) (v := .agg #[strV [52, 50, 71, 49], .int .u8 40, .bool false, .bool false]) rfl (by kernel_rfl) (by kernel_rfl) (.head _) Bg4 (by kernel_rfl) (by simp [Value.cells]) (by intro v hv; simp [Value.cells] at hv; first | (subst hv; rfl) | (rcases hv with rfl | rfl | rfl | rfl <;> rfl)) (by kernel_rfl) (List.forall_mem_cons.2 ⟨.inl rfl, (List.forall_mem_cons.2 ⟨.inr ⟨(.tail _ (.head _)), (Fg4 _ (.head _))⟩, (List.forall_mem_cons.2 ⟨.inr ⟨(.tail _ (.tail _ (.head _))), (Fg4 _ (.tail _ (.head _)))⟩, (List.forall_mem_cons.2 ⟨.inr ⟨(.tail _ (.tail _ (.tail _ (.head _)))), (Fg4 _ (.tail _ (.tail _ (.head _))))⟩, (List.forall_mem_nil _)⟩)⟩)⟩)⟩)) ?_
      refine wpL_done (fun W12 hW12 => ?_)
      refine (show Code.wp _ _ _ _ _ from ?_)
      refine wp_seq ?_
      refine wp_region_L (W0 := w) [(g4, .cells #[strV [52, 50, 71, 49], .int .u8 40, .bool false, .bool false] 77 (0, 0)), (g3, .cells #[strV [50, 50, 82, 49], .int .u8 20, .bool false, .bool true] 77 (0, 0)), (g2, .cells #[strV [50, 50, 71, 49], .int .u8 20, .bool false, .bool false] 77 (0, 0)), (g1, .cells #[.int .u8 ((n : Nat) : Int), .bool h, .bool r] 37 (0, 0))] (hW12) ?_
      refine lm (v := .pointer (some ⟨g4, 1, none⟩)) rfl rfl ?_
      refine lv (v := .agg #[.int .u8 40, .bool false, .bool false]) rfl rfl (yb_load (n := 3) (off := 1) rfl (by kernel_rfl) (.head _) Tryd.underlying37 rfl (by kernel_rfl) (by simp) (by kernel_rfl)) ?_
      refine lv (v := .agg #[.int .u8 ((n : Nat) : Int), .bool h, .bool r]) rfl rfl (yb_load (n := 3) (off := 0) rfl (by kernel_rfl) (.tail _ (.tail _ (.tail _ (.head _)))) Tryd.underlying37 rfl (by kernel_rfl) (by simp) (by kernel_rfl)) ?_
      refine lp (v := .bool (decide (40 = n ∧ false = h ∧ false = r))) rfl rfl (run_bin rfl (vx := .agg #[.int .u8 ((40 : Nat) : Int), .bool false, .bool false]) (vy := .agg #[.int .u8 ((n : Nat) : Int), .bool h, .bool r]) (by kernel_rfl) (by kernel_rfl) fun w => eq_kind rfl w) ?_
      refine wpL_done (fun W13 hW13 => ?_)
      refine (show Code.wp _ _ _ _ _ from ?_)
      cases hd3 : (decide (40 = n ∧ false = h ∧ false = r)) with
      | false =>
        have h3 : ¬ (40 = n ∧ false = h ∧ false = r) := of_decide_eq_false hd3
        clear hd3
        refine wp_cond_false rfl ?_
        refine wp_skip ?_
        refine (show Code.wp _ _ _ _ _ from ?_)
        refine wp_region_L (W0 := w) [(g4, .cells #[strV [52, 50, 71, 49], .int .u8 40, .bool false, .bool false] 77 (0, 0)), (g3, .cells #[strV [50, 50, 82, 49], .int .u8 20, .bool false, .bool true] 77 (0, 0)), (g2, .cells #[strV [50, 50, 71, 49], .int .u8 20, .bool false, .bool false] 77 (0, 0)), (g1, .cells #[.int .u8 ((n : Nat) : Int), .bool h, .bool r] 37 (0, 0))] (hW13) ?_
        refine lm (v := .int .i64 3) rfl rfl ?_
        refine lm (v := .int .i64 3) rfl rfl ?_
        refine wpL_done (fun W14 hW14 => ?_)
        refine (show Code.wp _ _ _ _ _ from ?_)
        refine wp_seq ?_
        refine wp_region_L (W0 := w) [(g4, .cells #[strV [52, 50, 71, 49], .int .u8 40, .bool false, .bool false] 77 (0, 0)), (g3, .cells #[strV [50, 50, 82, 49], .int .u8 20, .bool false, .bool true] 77 (0, 0)), (g2, .cells #[strV [50, 50, 71, 49], .int .u8 20, .bool false, .bool false] 77 (0, 0)), (g1, .cells #[.int .u8 ((n : Nat) : Int), .bool h, .bool r] 37 (0, 0))] (hW14) ?_
        refine lm (v := .bool true) rfl rfl ?_
        refine wpL_done (fun W15 hW15 => ?_)
        refine (show Code.wp _ _ _ _ _ from ?_)
        refine wp_seq ?_
        refine wp_cond_true rfl ?_
        refine wp_skip ?_
        refine (show Code.wp _ _ _ _ _ from ?_)
        refine wp_seq ?_
        refine wp_block ?_
        refine wp_seq ?_
        refine wp_region_L (W0 := w) [(g4, .cells #[strV [52, 50, 71, 49], .int .u8 40, .bool false, .bool false] 77 (0, 0)), (g3, .cells #[strV [50, 50, 82, 49], .int .u8 20, .bool false, .bool true] 77 (0, 0)), (g2, .cells #[strV [50, 50, 71, 49], .int .u8 20, .bool false, .bool false] 77 (0, 0)), (g1, .cells #[.int .u8 ((n : Nat) : Int), .bool h, .bool r] 37 (0, 0))] (hW15) ?_
        refine lm (v := .agg #[strV [52, 50, 82, 49], .int .u8 40, .bool false, .bool true]) rfl rfl ?_
        refine wpL_new (fun g => .pointer (some ⟨g, 0, none⟩)) (obi := .cells #[strV [], .int .u8 0, .bool false, .bool false] 77 (0, 0)) rfl rfl (fun _ => by kernel_rfl) (fun _ => by simp only [List.setIfInBounds_toArray, List.set_cons_succ, List.set_cons_zero] <;> rfl) fun g5 Bg5 Fg5 => ?_
        refine wpL_s [(g5, .cells #[strV [52, 50, 82, 49], .int .u8 40, .bool false, .bool true] 77 (0, 0)), (g4, .cells #[strV [52, 50, 71, 49], .int .u8 40, .bool false, .bool false] 77 (0, 0)), (g3, .cells #[strV [50, 50, 82, 49], .int .u8 20, .bool false, .bool true] 77 (0, 0)), (g2, .cells #[strV [50, 50, 71, 49], .int .u8 20, .bool false, .bool false] 77 (0, 0)), (g1, .cells #[.int .u8 ((n : Nat) : Int), .bool h, .bool r] 37 (0, 0))] rfl rfl (st_row (off := 0) (v := .agg #[strV [52, 50, 82, 49], .int .u8 40, .bool false, .bool true]) rfl (by kernel_rfl) (by kernel_rfl) (.head _) Bg5 (by kernel_rfl) (by simp [Value.cells]) (by intro v hv; simp [Value.cells] at hv; first | (subst hv; rfl) | (rcases hv with rfl | rfl | rfl | rfl <;> rfl)) (by kernel_rfl) (List.forall_mem_cons.2 ⟨.inl rfl, (List.forall_mem_cons.2 ⟨.inr ⟨(.tail _ (.head _)), (Fg5 _ (.head _))⟩, (List.forall_mem_cons.2 ⟨.inr ⟨(.tail _ (.tail _ (.head _))), (Fg5 _ (.tail _ (.head _)))⟩, (List.forall_mem_cons.2 ⟨.inr ⟨(.tail _ (.tail _ (.tail _ (.head _)))), (Fg5 _ (.tail _ (.tail _ (.head _))))⟩, (List.forall_mem_cons.2 ⟨.inr ⟨(.tail _ (.tail _ (.tail _ (.tail _ (.head _))))), (Fg5 _ (.tail _ (.tail _ (.tail _ (.head _)))))⟩, (List.forall_mem_nil _)⟩)⟩)⟩)⟩)⟩)) ?_
        refine wpL_done (fun W16 hW16 => ?_)
        refine (show Code.wp _ _ _ _ _ from ?_)
        refine wp_seq ?_
        refine wp_region_L (W0 := w) [(g5, .cells #[strV [52, 50, 82, 49], .int .u8 40, .bool false, .bool true] 77 (0, 0)), (g4, .cells #[strV [52, 50, 71, 49], .int .u8 40, .bool false, .bool false] 77 (0, 0)), (g3, .cells #[strV [50, 50, 82, 49], .int .u8 20, .bool false, .bool true] 77 (0, 0)), (g2, .cells #[strV [50, 50, 71, 49], .int .u8 20, .bool false, .bool false] 77 (0, 0)), (g1, .cells #[.int .u8 ((n : Nat) : Int), .bool h, .bool r] 37 (0, 0))] (hW16) ?_
        refine lm (v := .pointer (some ⟨g5, 1, none⟩)) rfl rfl ?_
        refine lv (v := .agg #[.int .u8 40, .bool false, .bool true]) rfl rfl (yb_load (n := 3) (off := 1) rfl (by kernel_rfl) (.head _) Tryd.underlying37 rfl (by kernel_rfl) (by simp) (by kernel_rfl)) ?_
        refine lv (v := .agg #[.int .u8 ((n : Nat) : Int), .bool h, .bool r]) rfl rfl (yb_load (n := 3) (off := 0) rfl (by kernel_rfl) (.tail _ (.tail _ (.tail _ (.tail _ (.head _))))) Tryd.underlying37 rfl (by kernel_rfl) (by simp) (by kernel_rfl)) ?_
        refine lp (v := .bool (decide (40 = n ∧ false = h ∧ true = r))) rfl rfl (run_bin rfl (vx := .agg #[.int .u8 ((40 : Nat) : Int), .bool false, .bool true]) (vy := .agg #[.int .u8 ((n : Nat) : Int), .bool h, .bool r]) (by kernel_rfl) (by kernel_rfl) fun w => eq_kind rfl w) ?_
        refine wpL_done (fun W17 hW17 => ?_)
        refine (show Code.wp _ _ _ _ _ from ?_)
        cases hd4 : (decide (40 = n ∧ false = h ∧ true = r)) with
        | false =>
          have h4 : ¬ (40 = n ∧ false = h ∧ true = r) := of_decide_eq_false hd4
          clear hd4
          refine wp_cond_false rfl ?_
          refine wp_skip ?_
          refine (show Code.wp _ _ _ _ _ from ?_)
          refine wp_region_L (W0 := w) [(g5, .cells #[strV [52, 50, 82, 49], .int .u8 40, .bool false, .bool true] 77 (0, 0)), (g4, .cells #[strV [52, 50, 71, 49], .int .u8 40, .bool false, .bool false] 77 (0, 0)), (g3, .cells #[strV [50, 50, 82, 49], .int .u8 20, .bool false, .bool true] 77 (0, 0)), (g2, .cells #[strV [50, 50, 71, 49], .int .u8 20, .bool false, .bool false] 77 (0, 0)), (g1, .cells #[.int .u8 ((n : Nat) : Int), .bool h, .bool r] 37 (0, 0))] (hW17) ?_
          refine lm (v := .int .i64 4) rfl rfl ?_
          refine lm (v := .int .i64 4) rfl rfl ?_
          refine wpL_done (fun W18 hW18 => ?_)
          refine (show Code.wp _ _ _ _ _ from ?_)
          refine wp_seq ?_
          refine wp_region_L (W0 := w) [(g5, .cells #[strV [52, 50, 82, 49], .int .u8 40, .bool false, .bool true] 77 (0, 0)), (g4, .cells #[strV [52, 50, 71, 49], .int .u8 40, .bool false, .bool false] 77 (0, 0)), (g3, .cells #[strV [50, 50, 82, 49], .int .u8 20, .bool false, .bool true] 77 (0, 0)), (g2, .cells #[strV [50, 50, 71, 49], .int .u8 20, .bool false, .bool false] 77 (0, 0)), (g1, .cells #[.int .u8 ((n : Nat) : Int), .bool h, .bool r] 37 (0, 0))] (hW18) ?_
          refine lm (v := .bool true) rfl rfl ?_
          refine wpL_done (fun W19 hW19 => ?_)
          refine (show Code.wp _ _ _ _ _ from ?_)
          refine wp_seq ?_
          refine wp_cond_true rfl ?_
          refine wp_skip ?_
          refine (show Code.wp _ _ _ _ _ from ?_)
          refine wp_seq ?_
          refine wp_block ?_
          refine wp_seq ?_
          refine wp_region_L (W0 := w) [(g5, .cells #[strV [52, 50, 82, 49], .int .u8 40, .bool false, .bool true] 77 (0, 0)), (g4, .cells #[strV [52, 50, 71, 49], .int .u8 40, .bool false, .bool false] 77 (0, 0)), (g3, .cells #[strV [50, 50, 82, 49], .int .u8 20, .bool false, .bool true] 77 (0, 0)), (g2, .cells #[strV [50, 50, 71, 49], .int .u8 20, .bool false, .bool false] 77 (0, 0)), (g1, .cells #[.int .u8 ((n : Nat) : Int), .bool h, .bool r] 37 (0, 0))] (hW19) ?_
          refine lm (v := .agg #[strV [52, 53, 71, 49], .int .u8 40, .bool true, .bool false]) rfl rfl ?_
          refine wpL_new (fun g => .pointer (some ⟨g, 0, none⟩)) (obi := .cells #[strV [], .int .u8 0, .bool false, .bool false] 77 (0, 0)) rfl rfl (fun _ => by kernel_rfl) (fun _ => by simp only [List.setIfInBounds_toArray, List.set_cons_succ, List.set_cons_zero] <;> rfl) fun g6 Bg6 Fg6 => ?_
          refine wpL_s [(g6, .cells #[strV [52, 53, 71, 49], .int .u8 40, .bool true, .bool false] 77 (0, 0)), (g5, .cells #[strV [52, 50, 82, 49], .int .u8 40, .bool false, .bool true] 77 (0, 0)), (g4, .cells #[strV [52, 50, 71, 49], .int .u8 40, .bool false, .bool false] 77 (0, 0)), (g3, .cells #[strV [50, 50, 82, 49], .int .u8 20, .bool false, .bool true] 77 (0, 0)), (g2, .cells #[strV [50, 50, 71, 49], .int .u8 20, .bool false, .bool false] 77 (0, 0)), (g1, .cells #[.int .u8 ((n : Nat) : Int), .bool h, .bool r] 37 (0, 0))] rfl rfl (st_row (off := 0) (v := .agg #[strV [52, 53, 71, 49], .int .u8 40, .bool true, .bool false]) rfl (by kernel_rfl) (by kernel_rfl) (.head _) Bg6 (by kernel_rfl) (by simp [Value.cells]) (by intro v hv; simp [Value.cells] at hv; first | (subst hv; rfl) | (rcases hv with rfl | rfl | rfl | rfl <;> rfl)) (by kernel_rfl) (List.forall_mem_cons.2 ⟨.inl rfl, (List.forall_mem_cons.2 ⟨.inr ⟨(.tail _ (.head _)), (Fg6 _ (.head _))⟩, (List.forall_mem_cons.2 ⟨.inr ⟨(.tail _ (.tail _ (.head _))), (Fg6 _ (.tail _ (.head _)))⟩, (List.forall_mem_cons.2 ⟨.inr ⟨(.tail _ (.tail _ (.tail _ (.head _)))), (Fg6 _ (.tail _ (.tail _ (.head _))))⟩, (List.forall_mem_cons.2 ⟨.inr ⟨(.tail _ (.tail _ (.tail _ (.tail _ (.head _))))), (Fg6 _ (.tail _ (.tail _ (.tail _ (.head _)))))⟩, (List.forall_mem_cons.2 ⟨.inr ⟨(.tail _ (.tail _ (.tail _ (.tail _ (.tail _ (.head _)))))), (Fg6 _ (.tail _ (.tail _ (.tail _ (.tail _ (.head _))))))⟩, (List.forall_mem_nil _)⟩)⟩)⟩)⟩)⟩)⟩)) ?_
          refine wpL_done (fun W20 hW20 => ?_)
          refine (show Code.wp _ _ _ _ _ from ?_)
          refine wp_seq ?_
          refine wp_region_L (W0 := w) [(g6, .cells #[strV [52, 53, 71, 49], .int .u8 40, .bool true, .bool false] 77 (0, 0)), (g5, .cells #[strV [52, 50, 82, 49], .int .u8 40, .bool false, .bool true] 77 (0, 0)), (g4, .cells #[strV [52, 50, 71, 49], .int .u8 40, .bool false, .bool false] 77 (0, 0)), (g3, .cells #[strV [50, 50, 82, 49], .int .u8 20, .bool false, .bool true] 77 (0, 0)), (g2, .cells #[strV [50, 50, 71, 49], .int .u8 20, .bool false, .bool false] 77 (0, 0)), (g1, .cells #[.int .u8 ((n : Nat) : Int), .bool h, .bool r] 37 (0, 0))] (hW20) ?_
          refine lm (v := .pointer (some ⟨g6, 1, none⟩)) rfl rfl ?_
          refine lv (v := .agg #[.int .u8 40, .bool true, .bool false]) rfl rfl (yb_load (n := 3) (off := 1) rfl (by kernel_rfl) (.head _) Tryd.underlying37 rfl (by kernel_rfl) (by simp) (by kernel_rfl)) ?_
          refine lv (v := .agg #[.int .u8 ((n : Nat) : Int), .bool h, .bool r]) rfl rfl (yb_load (n := 3) (off := 0) rfl (by kernel_rfl) (.tail _ (.tail _ (.tail _ (.tail _ (.tail _ (.head _)))))) Tryd.underlying37 rfl (by kernel_rfl) (by simp) (by kernel_rfl)) ?_
          refine lp (v := .bool (decide (40 = n ∧ true = h ∧ false = r))) rfl rfl (run_bin rfl (vx := .agg #[.int .u8 ((40 : Nat) : Int), .bool true, .bool false]) (vy := .agg #[.int .u8 ((n : Nat) : Int), .bool h, .bool r]) (by kernel_rfl) (by kernel_rfl) fun w => eq_kind rfl w) ?_
          refine wpL_done (fun W21 hW21 => ?_)
          refine (show Code.wp _ _ _ _ _ from ?_)
          cases hd5 : (decide (40 = n ∧ true = h ∧ false = r)) with
          | false =>
            have h5 : ¬ (40 = n ∧ true = h ∧ false = r) := of_decide_eq_false hd5
            clear hd5
            refine wp_cond_false rfl ?_
            refine wp_skip ?_
            refine (show Code.wp _ _ _ _ _ from ?_)
            refine wp_region_L (W0 := w) [(g6, .cells #[strV [52, 53, 71, 49], .int .u8 40, .bool true, .bool false] 77 (0, 0)), (g5, .cells #[strV [52, 50, 82, 49], .int .u8 40, .bool false, .bool true] 77 (0, 0)), (g4, .cells #[strV [52, 50, 71, 49], .int .u8 40, .bool false, .bool false] 77 (0, 0)), (g3, .cells #[strV [50, 50, 82, 49], .int .u8 20, .bool false, .bool true] 77 (0, 0)), (g2, .cells #[strV [50, 50, 71, 49], .int .u8 20, .bool false, .bool false] 77 (0, 0)), (g1, .cells #[.int .u8 ((n : Nat) : Int), .bool h, .bool r] 37 (0, 0))] (hW21) ?_
            refine lm (v := .int .i64 5) rfl rfl ?_
            refine lm (v := .int .i64 5) rfl rfl ?_
            refine wpL_done (fun W22 hW22 => ?_)
            refine (show Code.wp _ _ _ _ _ from ?_)
            refine wp_seq ?_
            refine wp_region_L (W0 := w) [(g6, .cells #[strV [52, 53, 71, 49], .int .u8 40, .bool true, .bool false] 77 (0, 0)), (g5, .cells #[strV [52, 50, 82, 49], .int .u8 40, .bool false, .bool true] 77 (0, 0)), (g4, .cells #[strV [52, 50, 71, 49], .int .u8 40, .bool false, .bool false] 77 (0, 0)), (g3, .cells #[strV [50, 50, 82, 49], .int .u8 20, .bool false, .bool true] 77 (0, 0)), (g2, .cells #[strV [50, 50, 71, 49], .int .u8 20, .bool false, .bool false] 77 (0, 0)), (g1, .cells #[.int .u8 ((n : Nat) : Int), .bool h, .bool r] 37 (0, 0))] (hW22) ?_
            refine lm (v := .bool true) rfl rfl ?_
            refine wpL_done (fun W23 hW23 => ?_)
            refine (show Code.wp _ _ _ _ _ from ?_)
            refine wp_seq ?_
            refine wp_cond_true rfl ?_
            refine wp_skip ?_
            refine (show Code.wp _ _ _ _ _ from ?_)
            refine wp_seq ?_
            refine wp_block ?_
            refine wp_seq ?_
            refine wp_region_L (W0 := w) [(g6, .cells #[strV [52, 53, 71, 49], .int .u8 40, .bool true, .bool false] 77 (0, 0)), (g5, .cells #[strV [52, 50, 82, 49], .int .u8 40, .bool false, .bool true] 77 (0, 0)), (g4, .cells #[strV [52, 50, 71, 49], .int .u8 40, .bool false, .bool false] 77 (0, 0)), (g3, .cells #[strV [50, 50, 82, 49], .int .u8 20, .bool false, .bool true] 77 (0, 0)), (g2, .cells #[strV [50, 50, 71, 49], .int .u8 20, .bool false, .bool false] 77 (0, 0)), (g1, .cells #[.int .u8 ((n : Nat) : Int), .bool h, .bool r] 37 (0, 0))] (hW23) ?_
            refine lm (v := .agg #[strV [52, 53, 82, 49], .int .u8 40, .bool true, .bool true]) rfl rfl ?_
            refine wpL_new (fun g => .pointer (some ⟨g, 0, none⟩)) (obi := .cells #[strV [], .int .u8 0, .bool false, .bool false] 77 (0, 0)) rfl rfl (fun _ => by kernel_rfl) (fun _ => by simp only [List.setIfInBounds_toArray, List.set_cons_succ, List.set_cons_zero] <;> rfl) fun g7 Bg7 Fg7 => ?_
            refine wpL_s [(g7, .cells #[strV [52, 53, 82, 49], .int .u8 40, .bool true, .bool true] 77 (0, 0)), (g6, .cells #[strV [52, 53, 71, 49], .int .u8 40, .bool true, .bool false] 77 (0, 0)), (g5, .cells #[strV [52, 50, 82, 49], .int .u8 40, .bool false, .bool true] 77 (0, 0)), (g4, .cells #[strV [52, 50, 71, 49], .int .u8 40, .bool false, .bool false] 77 (0, 0)), (g3, .cells #[strV [50, 50, 82, 49], .int .u8 20, .bool false, .bool true] 77 (0, 0)), (g2, .cells #[strV [50, 50, 71, 49], .int .u8 20, .bool false, .bool false] 77 (0, 0)), (g1, .cells #[.int .u8 ((n : Nat) : Int), .bool h, .bool r] 37 (0, 0))] rfl rfl (st_row (off := 0) (v := .agg #[strV [52, 53, 82, 49], .int .u8 40, .bool true, .bool true]) rfl (by kernel_rfl) (by kernel_rfl) (.head _) Bg7 (by kernel_rfl) (by simp [Value.cells]) (by intro v hv; simp [Value.cells] at hv; first | (subst hv; rfl) | (rcases hv with rfl | rfl | rfl | rfl <;> rfl)) (by kernel_rfl) (List.forall_mem_cons.2 ⟨.inl rfl, (List.forall_mem_cons.2 ⟨.inr ⟨(.tail _ (.head _)), (Fg7 _ (.head _))⟩, (List.forall_mem_cons.2 ⟨.inr ⟨(.tail _ (.tail _ (.head _))), (Fg7 _ (.tail _ (.head _)))⟩, (List.forall_mem_cons.2 ⟨.inr ⟨(.tail _ (.tail _ (.tail _ (.head _)))), (Fg7 _ (.tail _ (.tail _ (.head _))))⟩, (List.forall_mem_cons.2 ⟨.inr ⟨(.tail _ (.tail _ (.tail _ (.tail _ (.head _))))), (Fg7 _ (.tail _ (.tail _ (.tail _ (.head _)))))⟩, (List.forall_mem_cons.2 ⟨.inr ⟨(.tail _ (.tail _ (.tail _ (.tail _ (.tail _ (.head _)))))), (Fg7 _ (.tail _ (.tail _ (.tail _ (.tail _ (.head _))))))⟩, (List.forall_mem_cons.2 ⟨.inr ⟨(.tail _ (.tail _ (.tail _ (.tail _ (.tail _ (.tail _ (.head _))))))), (Fg7 _ (.tail _ (.tail _ (.tail _ (.tail _ (.tail _ (.head _)))))))⟩, (List.forall_mem_nil _)⟩)⟩)⟩)⟩)⟩)⟩)⟩)) ?_
            refine wpL_done (fun W24 hW24 => ?_)
            refine (show Code.wp _ _ _ _ _ from ?_)
            refine wp_seq ?_
            refine wp_region_L (W0 := w) [(g7, .cells #[strV [52, 53, 82, 49], .int .u8 40, .bool true, .bool true] 77 (0, 0)), (g6, .cells #[strV [52, 53, 71, 49], .int .u8 40, .bool true, .bool false] 77 (0, 0)), (g5, .cells #[strV [52, 50, 82, 49], .int .u8 40, .bool false, .bool true] 77 (0, 0)), (g4, .cells #[strV [52, 50, 71, 49], .int .u8 40, .bool false, .bool false] 77 (0, 0)), (g3, .cells #[strV [50, 50, 82, 49], .int .u8 20, .bool false, .bool true] 77 (0, 0)), (g2, .cells #[strV [50, 50, 71, 49], .int .u8 20, .bool false, .bool false] 77 (0, 0)), (g1, .cells #[.int .u8 ((n : Nat) : Int), .bool h, .bool r] 37 (0, 0))] (hW24) ?_
            refine lm (v := .pointer (some ⟨g7, 1, none⟩)) rfl rfl ?_
            refine lv (v := .agg #[.int .u8 40, .bool true, .bool true]) rfl rfl (yb_load (n := 3) (off := 1) rfl (by kernel_rfl) (.head _) Tryd.underlying37 rfl (by kernel_rfl) (by simp) (by kernel_rfl)) ?_
            refine lv (v := .agg #[.int .u8 ((n : Nat) : Int), .bool h, .bool r]) rfl rfl (yb_load (n := 3) (off := 0) rfl (by kernel_rfl) (.tail _ (.tail _ (.tail _ (.tail _ (.tail _ (.tail _ (.head _))))))) Tryd.underlying37 rfl (by kernel_rfl) (by simp) (by kernel_rfl)) ?_
            refine lp (v := .bool (decide (40 = n ∧ true = h ∧ true = r))) rfl rfl (run_bin rfl (vx := .agg #[.int .u8 ((40 : Nat) : Int), .bool true, .bool true]) (vy := .agg #[.int .u8 ((n : Nat) : Int), .bool h, .bool r]) (by kernel_rfl) (by kernel_rfl) fun w => eq_kind rfl w) ?_
            refine wpL_done (fun W25 hW25 => ?_)
            refine (show Code.wp _ _ _ _ _ from ?_)
            cases hd6 : (decide (40 = n ∧ true = h ∧ true = r)) with
            | false =>
              have h6 : ¬ (40 = n ∧ true = h ∧ true = r) := of_decide_eq_false hd6
              clear hd6
              refine wp_cond_false rfl ?_
              refine wp_skip ?_
              refine (show Code.wp _ _ _ _ _ from ?_)
              refine wp_region_L (W0 := w) [(g7, .cells #[strV [52, 53, 82, 49], .int .u8 40, .bool true, .bool true] 77 (0, 0)), (g6, .cells #[strV [52, 53, 71, 49], .int .u8 40, .bool true, .bool false] 77 (0, 0)), (g5, .cells #[strV [52, 50, 82, 49], .int .u8 40, .bool false, .bool true] 77 (0, 0)), (g4, .cells #[strV [52, 50, 71, 49], .int .u8 40, .bool false, .bool false] 77 (0, 0)), (g3, .cells #[strV [50, 50, 82, 49], .int .u8 20, .bool false, .bool true] 77 (0, 0)), (g2, .cells #[strV [50, 50, 71, 49], .int .u8 20, .bool false, .bool false] 77 (0, 0)), (g1, .cells #[.int .u8 ((n : Nat) : Int), .bool h, .bool r] 37 (0, 0))] (hW25) ?_
              refine lm (v := .int .i64 6) rfl rfl ?_
              refine lm (v := .int .i64 6) rfl rfl ?_
              refine wpL_done (fun W26 hW26 => ?_)
              refine (show Code.wp _ _ _ _ _ from ?_)
              refine wp_seq ?_
              refine wp_region_L (W0 := w) [(g7, .cells #[strV [52, 53, 82, 49], .int .u8 40, .bool true, .bool true] 77 (0, 0)), (g6, .cells #[strV [52, 53, 71, 49], .int .u8 40, .bool true, .bool false] 77 (0, 0)), (g5, .cells #[strV [52, 50, 82, 49], .int .u8 40, .bool false, .bool true] 77 (0, 0)), (g4, .cells #[strV [52, 50, 71, 49], .int .u8 40, .bool false, .bool false] 77 (0, 0)), (g3, .cells #[strV [50, 50, 82, 49], .int .u8 20, .bool false, .bool true] 77 (0, 0)), (g2, .cells #[strV [50, 50, 71, 49], .int .u8 20, .bool false, .bool false] 77 (0, 0)), (g1, .cells #[.int .u8 ((n : Nat) : Int), .bool h, .bool r] 37 (0, 0))] (hW26) ?_
              refine lm (v := .bool false) rfl rfl ?_
              refine wpL_done (fun W27 hW27 => ?_)
              refine (show Code.wp _ _ _ _ _ from ?_)
              refine wp_seq ?_
              refine wp_cond_false rfl ?_
              refine wp_exit ?_
              refine (show Code.wp _ _ _ _ _ from ?_)
              refine wp_seq ?_
              refine wp_region_L (W0 := w) [(g7, .cells #[strV [52, 53, 82, 49], .int .u8 40, .bool true, .bool true] 77 (0, 0)), (g6, .cells #[strV [52, 53, 71, 49], .int .u8 40, .bool true, .bool false] 77 (0, 0)), (g5, .cells #[strV [52, 50, 82, 49], .int .u8 40, .bool false, .bool true] 77 (0, 0)), (g4, .cells #[strV [52, 50, 71, 49], .int .u8 40, .bool false, .bool false] 77 (0, 0)), (g3, .cells #[strV [50, 50, 82, 49], .int .u8 20, .bool false, .bool true] 77 (0, 0)), (g2, .cells #[strV [50, 50, 71, 49], .int .u8 20, .bool false, .bool false] 77 (0, 0)), (g1, .cells #[.int .u8 ((n : Nat) : Int), .bool h, .bool r] 37 (0, 0))] (hW27) ?_
              refine lm (v := strV []) rfl rfl ?_
              refine lm (v := .int .i64 32) rfl rfl ?_
              refine wpL_done (fun W28 hW28 => ?_)
              refine (show Code.wp _ _ _ _ _ from ?_)
              refine wp_ret ?_
              try simp only [inBlock_ret, then_ret]
              refine bodyPost_ret (v := .tuple #[strV [], .int .i64 32]) ?_ rfl ?_
              · kernel_rfl
              · exact ⟨(by unfold codeV; rw [if_neg h1, if_neg h2, if_neg h3, if_neg h4, if_neg h5, if_neg h6]), hW28.1⟩
            | true =>
              have h6 : 40 = n ∧ true = h ∧ true = r := of_decide_eq_true hd6
              clear hd6
              refine wp_cond_true rfl ?_
              refine wp_seq ?_
              refine wp_region_L (W0 := w) [(g7, .cells #[strV [52, 53, 82, 49], .int .u8 40, .bool true, .bool true] 77 (0, 0)), (g6, .cells #[strV [52, 53, 71, 49], .int .u8 40, .bool true, .bool false] 77 (0, 0)), (g5, .cells #[strV [52, 50, 82, 49], .int .u8 40, .bool false, .bool true] 77 (0, 0)), (g4, .cells #[strV [52, 50, 71, 49], .int .u8 40, .bool false, .bool false] 77 (0, 0)), (g3, .cells #[strV [50, 50, 82, 49], .int .u8 20, .bool false, .bool true] 77 (0, 0)), (g2, .cells #[strV [50, 50, 71, 49], .int .u8 20, .bool false, .bool false] 77 (0, 0)), (g1, .cells #[.int .u8 ((n : Nat) : Int), .bool h, .bool r] 37 (0, 0))] (hW25) ?_
              refine lm (v := .pointer (some ⟨g7, 0, none⟩)) rfl rfl ?_
              refine lv (v := strV [52, 53, 82, 49]) rfl rfl (yb_cell (off := 0) rfl (by kernel_rfl) (.head _) Tryd.underlying9 rfl (by kernel_rfl)) ?_
              refine lm (v := strV [52, 53, 82, 49]) rfl rfl ?_
              refine lm (v := .int .i64 0) rfl rfl ?_
              refine wpL_done (fun W29 hW29 => ?_)
              refine (show Code.wp _ _ _ _ _ from ?_)
              refine wp_ret ?_
              try simp only [inBlock_ret, then_ret]
              refine bodyPost_ret (v := .tuple #[strV [52, 53, 82, 49], .int .i64 0]) ?_ rfl ?_
              · kernel_rfl
              · exact ⟨(by unfold codeV; rw [if_neg h1, if_neg h2, if_neg h3, if_neg h4, if_neg h5, if_pos h6]), hW29.1⟩
          | true =>
            have h5 : 40 = n ∧ true = h ∧ false = r := of_decide_eq_true hd5
            clear hd5
            refine wp_cond_true rfl ?_
            refine wp_seq ?_
            refine wp_region_L (W0 := w) [(g6, .cells #[strV [52, 53, 71, 49], .int .u8 40, .bool true, .bool false] 77 (0, 0)), (g5, .cells #[strV [52, 50, 82, 49], .int .u8 40, .bool false, .bool true] 77 (0, 0)), (g4, .cells #[strV [52, 50, 71, 49], .int .u8 40, .bool false, .bool false] 77 (0, 0)), (g3, .cells #[strV [50, 50, 82, 49], .int .u8 20, .bool false, .bool true] 77 (0, 0)), (g2, .cells #[strV [50, 50, 71, 49], .int .u8 20, .bool false, .bool false] 77 (0, 0)), (g1, .cells #[.int .u8 ((n : Nat) : Int), .bool h, .bool r] 37 (0, 0))] (hW21) ?_
            refine lm (v := .pointer (some ⟨g6, 0, none⟩)) rfl rfl ?_
            refine lv (v := strV [52, 53, 71, 49]) rfl rfl (yb_cell (off := 0) rfl (by kernel_rfl) (.head _) Tryd.underlying9 rfl (by kernel_rfl)) ?_
            refine lm (v := strV [52, 53, 71, 49]) rfl rfl ?_
            refine lm (v := .int .i64 0) rfl rfl ?_
            refine wpL_done (fun W30 hW30 => ?_)
            refine (show Code.wp _ _ _ _ _ from ?_)
            refine wp_ret ?_
            try simp only [inBlock_ret, then_ret]
            refine bodyPost_ret (v := .tuple #[strV [52, 53, 71, 49], .int .i64 0]) ?_ rfl ?_
            · kernel_rfl
            · exact ⟨(by unfold codeV; rw [if_neg h1, if_neg h2, if_neg h3, if_neg h4, if_pos h5]), hW30.1⟩
        | true =>
          have h4 : 40 = n ∧ false = h ∧ true = r := of_decide_eq_true hd4
          clear hd4
          refine wp_cond_true rfl ?_
          refine wp_seq ?_
          refine wp_region_L (W0 := w) [(g5, .cells #[strV [52, 50, 82, 49], .int .u8 40, .bool false, .bool true] 77 (0, 0)), (g4, .cells #[strV [52, 50, 71, 49], .int .u8 40, .bool false, .bool false] 77 (0, 0)), (g3, .cells #[strV [50, 50, 82, 49], .int .u8 20, .bool false, .bool true] 77 (0, 0)), (g2, .cells #[strV [50, 50, 71, 49], .int .u8 20, .bool false, .bool false] 77 (0, 0)), (g1, .cells #[.int .u8 ((n : Nat) : Int), .bool h, .bool r] 37 (0, 0))] (hW17) ?_
          refine lm (v := .pointer (some ⟨g5, 0, none⟩)) rfl rfl ?_
          refine lv (v := strV [52, 50, 82, 49]) rfl rfl (yb_cell (off := 0) rfl (by kernel_rfl) (.head _) Tryd.underlying9 rfl (by kernel_rfl)) ?_
          refine lm (v := strV [52, 50, 82, 49]) rfl rfl ?_
          refine lm (v := .int .i64 0) rfl rfl ?_
          refine wpL_done (fun W31 hW31 => ?_)
          refine (show Code.wp _ _ _ _ _ from ?_)
          refine wp_ret ?_
          try simp only [inBlock_ret, then_ret]
          refine bodyPost_ret (v := .tuple #[strV [52, 50, 82, 49], .int .i64 0]) ?_ rfl ?_
          · kernel_rfl
          · exact ⟨(by unfold codeV; rw [if_neg h1, if_neg h2, if_neg h3, if_pos h4]), hW31.1⟩
      | true =>
        have h3 : 40 = n ∧ false = h ∧ false = r := of_decide_eq_true hd3
        clear hd3
        refine wp_cond_true rfl ?_
        refine wp_seq ?_
        refine wp_region_L (W0 := w) [(g4, .cells #[strV [52, 50, 71, 49], .int .u8 40, .bool false, .bool false] 77 (0, 0)), (g3, .cells #[strV [50, 50, 82, 49], .int .u8 20, .bool false, .bool true] 77 (0, 0)), (g2, .cells #[strV [50, 50, 71, 49], .int .u8 20, .bool false, .bool false] 77 (0, 0)), (g1, .cells #[.int .u8 ((n : Nat) : Int), .bool h, .bool r] 37 (0, 0))] (hW13) ?_
        refine lm (v := .pointer (some ⟨g4, 0, none⟩)) rfl rfl ?_
        refine lv (v := strV [52, 50, 71, 49]) rfl rfl (yb_cell (off := 0) rfl (by kernel_rfl) (.head _) Tryd.underlying9 rfl (by kernel_rfl)) ?_
        refine lm (v := strV [52, 50, 71, 49]) rfl rfl ?_
        refine lm (v := .int .i64 0) rfl rfl ?_
        refine wpL_done (fun W32 hW32 => ?_)
        refine (show Code.wp _ _ _ _ _ from ?_)
        refine wp_ret ?_
        try simp only [inBlock_ret, then_ret]
        refine bodyPost_ret (v := .tuple #[strV [52, 50, 71, 49], .int .i64 0]) ?_ rfl ?_
        · kernel_rfl
        · exact ⟨(by unfold codeV; rw [if_neg h1, if_neg h2, if_pos h3]), hW32.1⟩
    | true =>
      have h2 : 20 = n ∧ false = h ∧ true = r := of_decide_eq_true hd2
      clear hd2
      refine wp_cond_true rfl ?_
      refine wp_seq ?_
      refine wp_region_L (W0 := w) [(g3, .cells #[strV [50, 50, 82, 49], .int .u8 20, .bool false, .bool true] 77 (0, 0)), (g2, .cells #[strV [50, 50, 71, 49], .int .u8 20, .bool false, .bool false] 77 (0, 0)), (g1, .cells #[.int .u8 ((n : Nat) : Int), .bool h, .bool r] 37 (0, 0))] (hW9) ?_
      refine lm (v := .pointer (some ⟨g3, 0, none⟩)) rfl rfl ?_
      refine lv (v := strV [50, 50, 82, 49]) rfl rfl (yb_cell (off := 0) rfl (by kernel_rfl) (.head _) Tryd.underlying9 rfl (by kernel_rfl)) ?_
      refine lm (v := strV [50, 50, 82, 49]) rfl rfl ?_
      refine lm (v := .int .i64 0) rfl rfl ?_
      refine wpL_done (fun W33 hW33 => ?_)
      refine (show Code.wp _ _ _ _ _ from ?_)
      refine wp_ret ?_
      try simp only [inBlock_ret, then_ret]
      refine bodyPost_ret (v := .tuple #[strV [50, 50, 82, 49], .int .i64 0]) ?_ rfl ?_
      · kernel_rfl
      · exact ⟨(by unfold codeV; rw [if_neg h1, if_pos h2]), hW33.1⟩
  | true =>
    have h1 : 20 = n ∧ false = h ∧ false = r := of_decide_eq_true hd1
    clear hd1
    refine wp_cond_true rfl ?_
    refine wp_seq ?_
    refine wp_region_L (W0 := w) [(g2, .cells #[strV [50, 50, 71, 49], .int .u8 20, .bool false, .bool false] 77 (0, 0)), (g1, .cells #[.int .u8 ((n : Nat) : Int), .bool h, .bool r] 37 (0, 0))] (hW5) ?_
    refine lm (v := .pointer (some ⟨g2, 0, none⟩)) rfl rfl ?_
    refine lv (v := strV [50, 50, 71, 49]) rfl rfl (yb_cell (off := 0) rfl (by kernel_rfl) (.head _) Tryd.underlying9 rfl (by kernel_rfl)) ?_
    refine lm (v := strV [50, 50, 71, 49]) rfl rfl ?_
    refine lm (v := .int .i64 0) rfl rfl ?_
    refine wpL_done (fun W34 hW34 => ?_)
    refine (show Code.wp _ _ _ _ _ from ?_)
    refine wp_ret ?_
    try simp only [inBlock_ret, then_ret]
    refine bodyPost_ret (v := .tuple #[strV [50, 50, 71, 49], .int .i64 0]) ?_ rfl ?_
    · kernel_rfl
    · exact ⟨(by unfold codeV; rw [if_pos h1]), hW34.1⟩
end Go.Proofs.YtllmpemmknblaaaDoor
/- Boxes in plain data: which are right, lists of them, what they add up to, their order. Nothing of the program. -/
namespace Go.Proofs.YtllmpemmknblaaaDoor
open Go
structure Bx where
  id : Int
  num : List UInt8
  size : Nat
  high : Bool
  kilos : Int
  load : Int
  dis : Int
  cls : Nat
  rf : Bool
def heightX (b : Bx) : Nat := if b.high = true then 2896 else 2591
def halvesX (b : Bx) : Nat := if b.size = 20 then 1 else if b.size = 40 then 2 else 0
def aboardX (b : Bx) (c : Int) : Bool := decide (b.load ≤ c) && decide (c < b.dis)
def rul1 (b : Bx) : Bool := decide (1 ≤ b.id) && decide (b.id ≤ 999999)
def rul2 (b : Bx) : Bool := decide (b.num = []) || decide (judgeN b.num = 0)
def rul3 (b : Bx) : Bool := decide (b.size = 20) || decide (b.size = 40)
def rul4 (b : Bx) : Bool := !b.high || decide (b.size = 40)
def rul5 (b : Bx) : Bool := decide (1 ≤ b.kilos)
def rulW (n m : Nat) (b : Bx) : Bool := !(decide (b.size = n)) || decide (b.kilos ≤ (m : Int))
def rul8 (b : Bx) : Bool := decide (0 ≤ b.load) && decide (b.load < b.dis)
def rul9 (b : Bx) : Bool := decide (b.dis < 20)
def rul10 (b : Bx) : Bool := decide (b.cls ≤ 9)
def rightX (b : Bx) : Bool := rul1 b && (rul2 b && (rul3 b && (rul4 b && (rul5 b && (rulW 20 32000 b && (rulW 40 40000 b && (rul8 b && (rul9 b && rul10 b))))))))
theorem right_kilos {b : Bx} (h : rightX b = true) : 1 ≤ b.kilos ∧ b.kilos ≤ 40000 := by
  unfold rightX rul5 rul3 rulW at h
  simp only [Bool.and_eq_true, Bool.or_eq_true, Bool.not_eq_true', decide_eq_true_eq, decide_eq_false_iff_not] at h
  omega
theorem halves_le (b : Bx) : halvesX b ≤ 2 := by unfold halvesX; repeat' split
                                                 all_goals omega
-- totals
structure Sm where
  n : Nat
  h : Nat
  k : Int
  r : Nat
  d : Nat
def sm0 : Sm := ⟨0, 0, 0, 0, 0⟩
def addX (s : Sm) (b : Bx) : Sm := if rightX b = true then ⟨s.n + 1, s.h + halvesX b, s.k + b.kilos, s.r + (if b.rf = true then 1 else 0), s.d + (if b.cls = 0 then 0 else 1)⟩ else s
def totalX (l : List Bx) : Sm := l.foldl addX sm0
def plusX (a b : Sm) : Sm := ⟨a.n + b.n, a.h + b.h, a.k + b.k, a.r + b.r, a.d + b.d⟩
theorem total_snoc {l : List Bx} {k : Nat} {b : Bx} (h : l[k]? = some b) : totalX (l.take (k + 1)) = addX (totalX (l.take k)) b := by
  obtain ⟨hk, rfl⟩ := List.getElem?_eq_some_iff.1 h
  unfold totalX
  rw [List.take_succ_eq_append_getElem hk, List.foldl_append]
  rfl
theorem add_plus (s t : Sm) (b : Bx) : addX (plusX s t) b = plusX s (addX t b) := by
  unfold addX plusX
  split
  · simp only [Sm.mk.injEq]; omega
  · rfl
theorem foldl_plus (l : List Bx) : ∀ s t : Sm, l.foldl addX (plusX s t) = plusX s (l.foldl addX t) := by
  induction l with
  | nil => intro s t; rfl
  | cons b l ih => intro s t; rw [List.foldl_cons, List.foldl_cons, add_plus, ih]
theorem plus_zero (s : Sm) : plusX s sm0 = s := by unfold plusX sm0; simp
theorem total_app (l m : List Bx) : totalX (l ++ m) = plusX (totalX l) (totalX m) := by
  unfold totalX
  rw [List.foldl_append, ← foldl_plus, plus_zero]
theorem total_cons (b : Bx) (l : List Bx) : totalX (b :: l) = plusX (totalX [b]) (totalX l) := total_app [b] l
theorem total_le (l : List Bx) : (totalX l).n ≤ l.length ∧ (totalX l).h ≤ 2 * l.length ∧ 0 ≤ (totalX l).k ∧ (totalX l).k ≤ 40000 * l.length ∧ (totalX l).r ≤ l.length ∧ (totalX l).d ≤ l.length := by
  induction l with
  | nil => decide
  | cons b l ih =>
    rw [total_cons]
    obtain ⟨h1, h2, h3, h4, h5, h6⟩ := ih
    have hh := halves_le b
    have : (totalX [b]).n ≤ 1 ∧ (totalX [b]).h ≤ 2 ∧ 0 ≤ (totalX [b]).k ∧ (totalX [b]).k ≤ 40000 ∧ (totalX [b]).r ≤ 1 ∧ (totalX [b]).d ≤ 1 := by
      show (addX sm0 b).n ≤ 1 ∧ (addX sm0 b).h ≤ 2 ∧ 0 ≤ (addX sm0 b).k ∧ (addX sm0 b).k ≤ 40000 ∧ (addX sm0 b).r ≤ 1 ∧ (addX sm0 b).d ≤ 1
      unfold addX sm0
      split
      · rename_i hr
        have := right_kilos hr
        dsimp only
        refine ⟨by omega, by omega, by omega, by omega, ?_, ?_⟩
        · split <;> omega
        · split <;> omega
      · dsimp only; omega
    unfold plusX
    simp only [List.length_cons, Int.natCast_add]
    omega
-- lists
def seenX (l : List Bx) (k : Nat) (n : List UInt8) : Bool := decide (n ≠ []) && (l.take k).any (fun b => decide (b.num = n))
def prevX (l : List Bx) (k : Nat) (b : Bx) : Bool := decide (0 < k) && (match l[k - 1]? with | some c => decide (b.id ≤ c.id) | none => false)
def badX (l : List Bx) (k : Nat) : Bool := match l[k]? with | some b => !rightX b || seenX l k b.num || prevX l k b | none => false
def firstBad (l : List Bx) : Option Nat := (List.range l.length).find? (badX l)
theorem find_range {p : Nat → Bool} {n k : Nat} (hk : k < n) (h : ∀ j, j < k → p j = false) (hp : p k = true) : (List.range n).find? p = some k := by
  rw [List.find?_eq_some_iff_append]
  refine ⟨hp, List.range k, (List.range (n - k - 1)).map (k + 1 + ·), ?_, fun a ha => ?_⟩
  · rw [show n = k + (1 + (n - k - 1)) from by omega, List.range_add, List.range_add]
    simp [Function.comp_def, Nat.add_assoc, List.range_succ]
  · rw [h a (List.mem_range.1 ha)]; rfl
theorem find_none {p : Nat → Bool} {n : Nat} (h : ∀ j, j < n → p j = false) : (List.range n).find? p = none := by
  rw [List.find?_eq_none]
  intro x hx
  rw [h x (List.mem_range.1 hx)]
  decide
theorem firstBad_some {l : List Bx} {k : Nat} (hk : k < l.length) (h : ∀ j, j < k → badX l j = false) (hp : badX l k = true) : firstBad l = some k := find_range hk h hp
theorem firstBad_none {l : List Bx} (h : ∀ j, j < l.length → badX l j = false) : firstBad l = none := find_none h
-- order
def before (a b : Bx) : Bool := decide (b.dis < a.dis) || decide (a.dis = b.dis) && (decide (b.kilos < a.kilos) || decide (a.kilos = b.kilos) && decide (a.id < b.id))
theorem before_iff (a b : Bx) : before a b = true ↔ b.dis < a.dis ∨ a.dis = b.dis ∧ (b.kilos < a.kilos ∨ a.kilos = b.kilos ∧ a.id < b.id) := by
  unfold before
  simp only [Bool.and_eq_true, Bool.or_eq_true, decide_eq_true_eq]
theorem nbefore_iff (a b : Bx) : before a b = false ↔ ¬ (b.dis < a.dis ∨ a.dis = b.dis ∧ (b.kilos < a.kilos ∨ a.kilos = b.kilos ∧ a.id < b.id)) := by
  rw [← before_iff, Bool.not_eq_true]
theorem before_le {a b c : Bx} (h1 : before b a = false) (h2 : before c b = false) : before c a = false := by
  rw [nbefore_iff] at *
  omega
theorem before_as {a b : Bx} (h : before a b = true) : before b a = false := by
  rw [nbefore_iff]
  rw [before_iff] at h
  omega
theorem before_ir (a : Bx) : before a a = false := by rw [nbefore_iff]; omega
def eqv (a b : Bx) : Bool := !before a b && !before b a
def SortedX (l : List Bx) : Prop := l.Pairwise fun a b => before b a = false
def insB (x : Bx) : List Bx → List Bx
  | [] => [x]
  | y :: r => if before x y = true then x :: y :: r else y :: insB x r
def orderX (l : List Bx) : List Bx := l.foldl (fun acc x => insB x acc) []
theorem insB_len (x : Bx) (l : List Bx) : (insB x l).length = l.length + 1 := by
  induction l with
  | nil => rfl
  | cons y r ih => unfold insB; split <;> simp [ih]
theorem insB_mem {x z : Bx} {l : List Bx} : z ∈ insB x l ↔ z = x ∨ z ∈ l := by
  induction l with
  | nil => simp [insB]
  | cons y r ih =>
    unfold insB
    split
    · simp
    · simp only [List.mem_cons, ih]
      constructor
      · rintro (h | h | h)
        · exact .inr (.inl h)
        · exact .inl h
        · exact .inr (.inr h)
      · rintro (h | h | h)
        · exact .inr (.inl h)
        · exact .inl h
        · exact .inr (.inr h)
theorem insB_sorted {x : Bx} {l : List Bx} (h : SortedX l) : SortedX (insB x l) := by
  unfold SortedX at *
  induction l with
  | nil => simp [insB]
  | cons y r ih =>
    rw [List.pairwise_cons] at h
    unfold insB
    split
    · rename_i hb
      rw [List.pairwise_cons, List.pairwise_cons]
      refine ⟨fun z hz => ?_, h⟩
      rcases List.mem_cons.1 hz with rfl | hz
      · exact before_as hb
      · exact before_le (before_as hb) (h.1 z hz)
    · rename_i hb
      rw [List.pairwise_cons]
      refine ⟨fun z hz => ?_, ih h.2⟩
      rcases insB_mem.1 hz with rfl | hz
      · simpa using hb
      · exact h.1 z hz
theorem insB_split {x : Bx} {A B : List Bx} (hA : ∀ y ∈ A, before x y = false) (hB : ∀ y ∈ B, before x y = true) : insB x (A ++ B) = A ++ x :: B := by
  induction A with
  | nil =>
    cases B with
    | nil => rfl
    | cons y r => show insB x (y :: r) = _; unfold insB; rw [if_pos (hB y (.head _))]; rfl
  | cons y r ih =>
    show insB x (y :: (r ++ B)) = _
    unfold insB
    rw [if_neg (by rw [hA y (.head _)]; decide), ih (fun z hz => hA z (.tail _ hz))]
    rfl
theorem order_snoc (l : List Bx) (x : Bx) : orderX (l ++ [x]) = insB x (orderX l) := by unfold orderX; rw [List.foldl_append]; rfl
theorem order_len (l : List Bx) : (orderX l).length = l.length := by
  rw [← List.reverse_reverse l]
  induction l.reverse with
  | nil => rfl
  | cons x l ih => rw [List.reverse_cons, order_snoc, insB_len, ih]; simp
theorem order_sorted (l : List Bx) : SortedX (orderX l) := by
  rw [← List.reverse_reverse l]
  induction l.reverse with
  | nil => exact List.Pairwise.nil
  | cons x l ih => rw [List.reverse_cons, order_snoc]; exact insB_sorted ih
theorem order_mem {z : Bx} {l : List Bx} : z ∈ orderX l ↔ z ∈ l := by
  rw [← List.reverse_reverse l]
  induction l.reverse with
  | nil => exact Iff.rfl
  | cons x l ih => rw [List.reverse_cons, order_snoc, insB_mem, ih]; simp [or_comm]
theorem eqv_before {z x y : Bx} (h : eqv z x = true) (hb : before x y = true) : eqv z y = false := by
  unfold eqv at *
  simp only [Bool.and_eq_true, Bool.not_eq_true', Bool.and_eq_false_iff, Bool.not_eq_false'] at *
  rw [nbefore_iff] at h
  rw [before_iff] at *
  rw [nbefore_iff] at h
  rw [before_iff]
  omega
theorem insB_filter {x : Bx} {l : List Bx} (h : SortedX l) (z : Bx) : (insB x l).filter (eqv z) = l.filter (eqv z) ++ [x].filter (eqv z) := by
  unfold SortedX at h
  induction l with
  | nil => simp [insB]
  | cons y r ih =>
    rw [List.pairwise_cons] at h
    unfold insB
    split
    · rename_i hb
      cases hz : eqv z x with
      | false => simp [List.filter_cons, hz]
      | true =>
        have h0 : (y :: r).filter (eqv z) = [] := by
          rw [List.filter_eq_nil_iff]
          intro w hw
          rw [Bool.not_eq_true]
          rcases List.mem_cons.1 hw with rfl | hw
          · exact eqv_before hz hb
          · refine eqv_before (x := x) hz ?_
            have h1 := h.1 w hw
            rw [nbefore_iff] at h1
            rw [before_iff] at *
            omega
        rw [List.filter_cons, if_pos hz, h0]
        simp [hz]
    · rw [List.filter_cons, List.filter_cons]
      split
      · rw [ih h.2]; rfl
      · exact ih h.2
theorem order_filter (l : List Bx) (z : Bx) : (orderX l).filter (eqv z) = l.filter (eqv z) := by
  rw [← List.reverse_reverse l]
  induction l.reverse with
  | nil => rfl
  | cons x l ih => rw [List.reverse_cons, order_snoc, insB_filter (order_sorted _), ih, List.filter_append]
theorem eqv_refl (a : Bx) : eqv a a = true := by unfold eqv; rw [before_ir]; rfl
theorem sorted_eq : ∀ {A B : List Bx}, SortedX A → SortedX B → (∀ z, A.filter (eqv z) = B.filter (eqv z)) → A = B
  | [], [], _, _, _ => rfl
  | [], y :: B, _, _, h => by have := h y; rw [List.filter_cons, if_pos (eqv_refl y)] at this; cases this
  | x :: A, [], _, _, h => by have := h x; rw [List.filter_cons, if_pos (eqv_refl x)] at this; cases this
  | x :: A, y :: B, hA, hB, h => by
    unfold SortedX at hA hB
    have hA' := List.pairwise_cons.1 hA
    have hB' := List.pairwise_cons.1 hB
    have h1 : before y x = false := by
      have hy : y ∈ (x :: A).filter (eqv y) := by rw [h y]; exact List.mem_filter.2 ⟨.head _, eqv_refl y⟩
      rcases List.mem_cons.1 (List.mem_filter.1 hy).1 with e | hy
      · rw [e]; exact before_ir x
      · exact hA'.1 y hy
    have h2 : before x y = false := by
      have hx : x ∈ (y :: B).filter (eqv x) := by rw [← h x]; exact List.mem_filter.2 ⟨.head _, eqv_refl x⟩
      rcases List.mem_cons.1 (List.mem_filter.1 hx).1 with e | hx
      · rw [e]; exact before_ir y
      · exact hB'.1 x hx
    have he : eqv x y = true := by unfold eqv; rw [h1, h2]; rfl
    have h3 := h x
    rw [List.filter_cons, List.filter_cons, if_pos (eqv_refl x), if_pos he] at h3
    obtain rfl := (List.cons.inj h3).1
    congr 1
    refine sorted_eq hA'.2 hB'.2 fun z => ?_
    have h4 := h z
    rw [List.filter_cons, List.filter_cons] at h4
    split at h4
    · exact (List.cons.inj h4).2
    · exact h4
theorem order_is {l R : List Bx} (h1 : SortedX R) (h2 : ∀ z, R.filter (eqv z) = l.filter (eqv z)) : R = orderX l := sorted_eq h1 (order_sorted l) fun z => by rw [h2, order_filter]
theorem order_idem {l : List Bx} (h : SortedX l) : orderX l = l := (order_is h fun _ => rfl).symm
end Go.Proofs.YtllmpemmknblaaaDoor
/- Boxes as values of the program, and lists of them that are read. -/
namespace Go.Proofs.YtllmpemmknblaaaDoor
open Go Go.RowKit Tw
theorem z_is {k : IntKind} {m n : Int} (h : m = n) : Ending.returned (.int k m) = .returned (.int k n) := by rw [h]
theorem ret_v {u v : Value} (h : u = v) : Ending.returned u = .returned v := by rw [h]
def bxC (b : Bx) : Array Value := #[.int .i64 b.id, strV b.num, .int .u8 ((b.size : Nat) : Int), .bool b.high, .int .i64 b.kilos, .int .i64 b.load, .int .i64 b.dis, .int .u8 ((b.cls : Nat) : Int), .bool b.rf]
def bxV (b : Bx) : Value := .agg (bxC b)
def bx0 : Bx := ⟨0, [], 0, false, 0, 0, 0, 0, false⟩
def bcs (l : List Bx) : List Value := l.flatMap fun b => (bxC b).toList
theorem bcs_len (l : List Bx) : (bcs l).length = l.length * 9 := by
  induction l with
  | nil => rfl
  | cons b l ih => show ((bxC b).toList ++ bcs l).length = _; rw [List.length_append, ih]; show 9 + l.length * 9 = (l.length + 1) * 9; omega
theorem bcs_app (l m : List Bx) : bcs (l ++ m) = bcs l ++ bcs m := by unfold bcs; rw [List.flatMap_append]
theorem bcs_one (b : Bx) : bcs [b] = (bxC b).toList := by unfold bcs; simp
theorem bcs_take (l : List Bx) (k : Nat) : (bcs l).take (k * 9) = bcs (l.take k) := by
  rcases Nat.le_total k l.length with hk | hk
  · conv => lhs; rw [← List.take_append_drop k l, bcs_app]
    exact List.take_left' (by rw [bcs_len, List.length_take, Nat.min_eq_left hk])
  · rw [List.take_of_length_le hk, List.take_of_length_le (by rw [bcs_len]; omega)]
theorem bcs_drop (l : List Bx) (k : Nat) : (bcs l).drop (k * 9) = bcs (l.drop k) := by
  rcases Nat.le_total k l.length with hk | hk
  · conv => lhs; rw [← List.take_append_drop k l, bcs_app]
    exact List.drop_left' (by rw [bcs_len, List.length_take, Nat.min_eq_left hk])
  · rw [List.drop_eq_nil_of_le hk, List.drop_eq_nil_of_le (by rw [bcs_len]; omega)]; rfl
theorem bcs_get {l : List Bx} {k j : Nat} {b : Bx} {v : Value} (h : l[k]? = some b) (hv : (bxC b).toList[j]? = some v) : (bcs l)[k * 9 + j]? = some v := by
  obtain ⟨hk, rfl⟩ := List.getElem?_eq_some_iff.1 h
  rw [← List.getElem?_drop, bcs_drop, List.drop_eq_getElem_cons hk]
  show ((bxC l[k]).toList ++ bcs (l.drop (k + 1)))[j]? = some v
  rw [List.getElem?_append_left (List.getElem?_eq_some_iff.1 hv).1]
  exact hv
theorem bcs_onec (l : List Bx) : ∀ v ∈ bcs l, v.oneCell' = true := by
  intro v hv
  obtain ⟨b, _, hb⟩ := List.mem_flatMap.1 hv
  unfold bxC strV at hb
  simp only [List.mem_cons, List.not_mem_nil, or_false] at hb
  rcases hb with rfl | rfl | rfl | rfl | rfl | rfl | rfl | rfl | rfl <;> rfl
theorem bl_at {W : World} {p : Option Addr} {l : List Bx} {k : Nat} (h : SLV W p (bcs l)) (hk : k < l.length) :
    ∃ b g off, l[k]? = some b ∧ p = some ⟨g, off, none⟩ ∧ g < W.heap.size ∧ ∀ (j : Nat) (v : Value), (bxC b).toList[j]? = some v → W.cell? ⟨g, off + k * 9 + j, none⟩ = some v := by
  have hy : l[k]? = some l[k] := List.getElem?_eq_getElem hk
  rcases h with h | ⟨g, off, rfl, hlt, hc⟩
  · have := bcs_len l; rw [h] at this; simp at this; omega
  · exact ⟨_, g, off, hy, rfl, hlt, fun j v hv => by rw [Nat.add_assoc]; exact hc _ v (bcs_get hy hv)⟩
theorem slv_take {W : World} {p : Option Addr} {l : List Bx} (n : Nat) (h : SLV W p (bcs l)) : SLV W p (bcs (l.take n)) := by
  rcases h with h | ⟨g, off, rfl, hlt, hc⟩
  · left; rw [← bcs_take, h]; simp
  · right; refine ⟨g, off, rfl, hlt, fun i u hu => hc i u ?_⟩
    rw [← bcs_take, List.getElem?_take] at hu
    split at hu
    · exact hu
    · cases hu
theorem st_bx {W0 : Base} {o : Oper} {a : Act} {K K' : List (Nat × Obj)} {ty t : TypeId} {x y : Operand} {g : Nat} {cs : Array Value} {b : Bx} (ho : o.op = .store ty x y) (hx : a.eval x = .pointer (some ⟨g, 0, none⟩)) (hv : a.eval y = bxV b)
    (hm : (g, .cells cs t (0, 0)) ∈ K) (hc : cs.size = 9) (hB : W0.B ≤ g) (hi : (Tryd.prog.info? ty).map (·.size) = some 9)
    (hK : ∀ p ∈ K', p = (g, .cells (bxC b) t (0, 0)) ∨ (p ∈ K ∧ p.1 ≠ g)) : ∀ w, KS W0 K w → ∃ w', (execOp a.eval o).run Tryd.prog w = .ok .skip w' ∧ KS W0 K' w' :=
  st_row (off := 0) (v := bxV b) ho hx hv hm hB hi (by rw [hc]; exact Nat.le_refl 9) (by show ∀ x ∈ (bxC b).toList, x.oneCell' = true; rw [← bcs_one]; exact bcs_onec _) (by
    have h9 : cs.toList.length = 9 := by simpa using hc
    show bxC b = (cs.toList.take 0 ++ (bxC b).toList ++ cs.toList.drop (0 + 9)).toArray
    rw [List.drop_eq_nil_of_le (by omega)]; simp) hK
theorem el_bx : Elem Tryd.prog 22 26 9 64 (bxV bx0) := Elem.mk' Tryd.underlying22 (by kernel_rfl) rfl
end Go.Proofs.YtllmpemmknblaaaDoor
namespace Go.Proofs.YtllmpemmknblaaaDoor
open Go Go.RowKit Tw
set_option maxRecDepth 100000 in
set_option maxHeartbeats 4000000 in
theorem rul1_any (b : Bx) (w : World) : Calls Tryd.prog 55 #[bxV b] w fun e w' => e = .returned (.bool (rul1 b)) ∧ Below w.heap.size w w' := by
  go_enter Tryd.func55, Tryd.ntmps55
  refine wp_seq ?_
  refine wp_region_L (W0 := w) [] (KS.start w) ?_
  refine wpL_new (fun g => .pointer (some ⟨g, 0, none⟩)) (obi := .cells (bxC b) 26 (0, 0)) rfl rfl (fun _ => by kernel_rfl) (fun _ => by simp only [List.setIfInBounds_toArray, List.set_cons_succ, List.set_cons_zero] <;> rfl) fun g1 Bg1 Fg1 => ?_
  refine lm (v := .bool false) rfl rfl ?_
  refine wpL_done (fun W1 hW1 => ?_)
  refine (show Code.wp _ _ _ _ _ from ?_)
  refine wp_seq ?_
  refine wp_region_L (W0 := w) [(g1, .cells (bxC b) 26 (0, 0))] (hW1) ?_
  refine lm (v := .pointer (some ⟨g1, 0, none⟩)) rfl rfl ?_
  refine lv (v := .int .i64 b.id) rfl rfl (yb_cell (off := 0) rfl (by kernel_rfl) (.head _) Tryd.underlying3 rfl (by kernel_rfl)) ?_
  refine lp (v := .bool (!(decide (b.id < 1)))) rfl rfl (run_bin rfl (vx := (.int .i64 b.id)) (vy := (.int .i64 1)) (by kernel_rfl) (by kernel_rfl) fun w => bi_geq rfl w) ?_
  refine lm (v := .bool (!(decide (b.id < 1)))) rfl rfl ?_
  cases hd1 : (decide (b.id < 1)) with
  | false =>
    have h1 : ¬ (b.id < 1) := of_decide_eq_false hd1
    clear hd1
    refine lm (v := .pointer (some ⟨g1, 0, none⟩)) rfl rfl ?_
    refine lv (v := .int .i64 b.id) rfl rfl (yb_cell (off := 0) rfl (by kernel_rfl) (.head _) Tryd.underlying3 rfl (by kernel_rfl)) ?_
    refine lp (v := .bool (!(decide (999999 < b.id)))) rfl rfl (run_bin rfl (vx := (.int .i64 b.id)) (vy := (.int .i64 999999)) (by kernel_rfl) (by kernel_rfl) fun w => bi_leq rfl w) ?_
    refine lm (v := .bool (!(decide (999999 < b.id)))) rfl rfl ?_
    refine lm (v := .bool (!(decide (999999 < b.id)))) rfl rfl ?_
    refine wpL_done (fun W2 hW2 => ?_)
    refine (show Code.wp _ _ _ _ _ from ?_)
    refine wp_ret ?_
    try simp only [inBlock_ret, then_ret]
    refine bodyPost_ret (v := .bool (!(decide (999999 < b.id)))) ?_ rfl ?_
    · kernel_rfl
    · exact ⟨(bool_is (by rw [Bool.eq_iff_iff]; simp [rul1, *] <;> omega)), hW2.1⟩
  | true =>
    have h1 : b.id < 1 := of_decide_eq_true hd1
    clear hd1
    refine ln rfl ?_
    refine ln rfl ?_
    refine ln rfl ?_
    refine lm (v := .bool false) rfl rfl ?_
    refine lm (v := .bool false) rfl rfl ?_
    refine wpL_done (fun W3 hW3 => ?_)
    refine (show Code.wp _ _ _ _ _ from ?_)
    refine wp_ret ?_
    try simp only [inBlock_ret, then_ret]
    refine bodyPost_ret (v := .bool false) ?_ rfl ?_
    · kernel_rfl
    · exact ⟨(bool_is (by rw [Bool.eq_iff_iff]; simp [rul1, *] <;> omega)), hW3.1⟩
set_option maxRecDepth 100000 in
set_option maxHeartbeats 4000000 in
theorem rul2_any (b : Bx) (w : World) : Calls Tryd.prog 56 #[bxV b] w fun e w' => e = .returned (.bool (rul2 b)) ∧ Below w.heap.size w w' := by
  go_enter Tryd.func56, Tryd.ntmps56
  refine wp_seq ?_
  refine wp_region_L (W0 := w) [] (KS.start w) ?_
  refine wpL_new (fun g => .pointer (some ⟨g, 0, none⟩)) (obi := .cells (bxC b) 26 (0, 0)) rfl rfl (fun _ => by kernel_rfl) (fun _ => by simp only [List.setIfInBounds_toArray, List.set_cons_succ, List.set_cons_zero] <;> rfl) fun g1 Bg1 Fg1 => ?_
  refine lm (v := .bool false) rfl rfl ?_
  refine wpL_done (fun W1 hW1 => ?_)
  refine (show Code.wp _ _ _ _ _ from ?_)
  refine wp_seq ?_
  refine wp_region_L (W0 := w) [(g1, .cells (bxC b) 26 (0, 0))] (hW1) ?_
  refine lm (v := .pointer (some ⟨g1, 1, none⟩)) rfl rfl ?_
  refine lv (v := strV b.num) rfl rfl (yb_cell (off := 1) rfl (by kernel_rfl) (.head _) Tryd.underlying9 rfl (by kernel_rfl)) ?_
  refine lp (v := .bool (decide (b.num = []))) rfl rfl (run_bin rfl (vx := strV b.num) (vy := strV []) (by kernel_rfl) (by kernel_rfl) fun w => bs_eql rfl w) ?_
  refine lm (v := .bool (decide (b.num = []))) rfl rfl ?_
  cases hd1 : (decide (b.num = [])) with
  | false =>
    have h1 : ¬ (b.num = []) := of_decide_eq_false hd1
    clear hd1
    refine lm (v := .pointer (some ⟨g1, 1, none⟩)) rfl rfl ?_
    refine lv (v := strV b.num) rfl rfl (yb_cell (off := 1) rfl (by kernel_rfl) (.head _) Tryd.underlying9 rfl (by kernel_rfl)) ?_
    refine lv (v := .bool (decide (judgeN b.num = 0))) rfl rfl (yb_call (f := 57) (args := #[strV b.num]) (fun _ => by kernel_rfl) fun W hW => Right_any b.num W) ?_
    refine lm (v := .bool (decide (judgeN b.num = 0))) rfl rfl ?_
    refine lm (v := .bool (decide (judgeN b.num = 0))) rfl rfl ?_
    refine wpL_done (fun W2 hW2 => ?_)
    refine (show Code.wp _ _ _ _ _ from ?_)
    refine wp_ret ?_
    try simp only [inBlock_ret, then_ret]
    refine bodyPost_ret (v := .bool (decide (judgeN b.num = 0))) ?_ rfl ?_
    · kernel_rfl
    · exact ⟨(bool_is (by rw [Bool.eq_iff_iff]; simp [rul2, *] <;> omega)), hW2.1⟩
  | true =>
    have h1 : b.num = [] := of_decide_eq_true hd1
    clear hd1
    refine ln rfl ?_
    refine ln rfl ?_
    refine ln rfl ?_
    refine lm (v := .bool true) rfl rfl ?_
    refine lm (v := .bool true) rfl rfl ?_
    refine wpL_done (fun W3 hW3 => ?_)
    refine (show Code.wp _ _ _ _ _ from ?_)
    refine wp_ret ?_
    try simp only [inBlock_ret, then_ret]
    refine bodyPost_ret (v := .bool true) ?_ rfl ?_
    · kernel_rfl
    · exact ⟨(bool_is (by rw [Bool.eq_iff_iff]; simp [rul2, *] <;> omega)), hW3.1⟩
set_option maxRecDepth 100000 in
set_option maxHeartbeats 4000000 in
theorem rul3_any (b : Bx) (w : World) : Calls Tryd.prog 58 #[bxV b] w fun e w' => e = .returned (.bool (rul3 b)) ∧ Below w.heap.size w w' := by
  go_enter Tryd.func58, Tryd.ntmps58
  refine wp_seq ?_
  refine wp_region_L (W0 := w) [] (KS.start w) ?_
  refine wpL_new (fun g => .pointer (some ⟨g, 0, none⟩)) (obi := .cells (bxC b) 26 (0, 0)) rfl rfl (fun _ => by kernel_rfl) (fun _ => by simp only [List.setIfInBounds_toArray, List.set_cons_succ, List.set_cons_zero] <;> rfl) fun g1 Bg1 Fg1 => ?_
  refine lm (v := .bool false) rfl rfl ?_
  refine wpL_done (fun W1 hW1 => ?_)
  refine (show Code.wp _ _ _ _ _ from ?_)
  refine wp_seq ?_
  refine wp_region_L (W0 := w) [(g1, .cells (bxC b) 26 (0, 0))] (hW1) ?_
  refine lm (v := .pointer (some ⟨g1, 2, none⟩)) rfl rfl ?_
  refine lv (v := .int .u8 ((b.size : Nat) : Int)) rfl rfl (yb_cell (off := 2) rfl (by kernel_rfl) (.head _) Tryd.underlying5 rfl (by kernel_rfl)) ?_
  refine lp (v := .bool (decide (b.size = 20))) rfl rfl (run_bin rfl (vx := (.int .u8 ((b.size : Nat) : Int))) (vy := (.int .u8 ((20 : Nat) : Int))) (by kernel_rfl) (by kernel_rfl) fun w => bn_eql rfl w) ?_
  refine lm (v := .bool (decide (b.size = 20))) rfl rfl ?_
  cases hd1 : (decide (b.size = 20)) with
  | false =>
    have h1 : ¬ (b.size = 20) := of_decide_eq_false hd1
    clear hd1
    refine lm (v := .pointer (some ⟨g1, 2, none⟩)) rfl rfl ?_
    refine lv (v := .int .u8 ((b.size : Nat) : Int)) rfl rfl (yb_cell (off := 2) rfl (by kernel_rfl) (.head _) Tryd.underlying5 rfl (by kernel_rfl)) ?_
    refine lp (v := .bool (decide (b.size = 40))) rfl rfl (run_bin rfl (vx := (.int .u8 ((b.size : Nat) : Int))) (vy := (.int .u8 ((40 : Nat) : Int))) (by kernel_rfl) (by kernel_rfl) fun w => bn_eql rfl w) ?_
    refine lm (v := .bool (decide (b.size = 40))) rfl rfl ?_
    refine lm (v := .bool (decide (b.size = 40))) rfl rfl ?_
    refine wpL_done (fun W2 hW2 => ?_)
    refine (show Code.wp _ _ _ _ _ from ?_)
    refine wp_ret ?_
    try simp only [inBlock_ret, then_ret]
    refine bodyPost_ret (v := .bool (decide (b.size = 40))) ?_ rfl ?_
    · kernel_rfl
    · exact ⟨(bool_is (by rw [Bool.eq_iff_iff]; simp [rul3, *] <;> omega)), hW2.1⟩
  | true =>
    have h1 : b.size = 20 := of_decide_eq_true hd1
    clear hd1
    refine ln rfl ?_
    refine ln rfl ?_
    refine ln rfl ?_
    refine lm (v := .bool true) rfl rfl ?_
    refine lm (v := .bool true) rfl rfl ?_
    refine wpL_done (fun W3 hW3 => ?_)
    refine (show Code.wp _ _ _ _ _ from ?_)
    refine wp_ret ?_
    try simp only [inBlock_ret, then_ret]
    refine bodyPost_ret (v := .bool true) ?_ rfl ?_
    · kernel_rfl
    · exact ⟨(bool_is (by rw [Bool.eq_iff_iff]; simp [rul3, *] <;> omega)), hW3.1⟩
set_option maxRecDepth 100000 in
set_option maxHeartbeats 4000000 in
theorem rul4_any (b : Bx) (w : World) : Calls Tryd.prog 59 #[bxV b] w fun e w' => e = .returned (.bool (rul4 b)) ∧ Below w.heap.size w w' := by
  go_enter Tryd.func59, Tryd.ntmps59
  refine wp_seq ?_
  refine wp_region_L (W0 := w) [] (KS.start w) ?_
  refine wpL_new (fun g => .pointer (some ⟨g, 0, none⟩)) (obi := .cells (bxC b) 26 (0, 0)) rfl rfl (fun _ => by kernel_rfl) (fun _ => by simp only [List.setIfInBounds_toArray, List.set_cons_succ, List.set_cons_zero] <;> rfl) fun g1 Bg1 Fg1 => ?_
  refine lm (v := .bool false) rfl rfl ?_
  refine wpL_done (fun W1 hW1 => ?_)
  refine (show Code.wp _ _ _ _ _ from ?_)
  refine wp_seq ?_
  refine wp_region_L (W0 := w) [(g1, .cells (bxC b) 26 (0, 0))] (hW1) ?_
  refine lm (v := .pointer (some ⟨g1, 3, none⟩)) rfl rfl ?_
  refine lv (v := .bool b.high) rfl rfl (yb_cell (off := 3) rfl (by kernel_rfl) (.head _) Tryd.underlying4 rfl (by kernel_rfl)) ?_
  refine lp (v := .bool (!b.high)) rfl rfl (run_un rfl (by kernel_rfl) fun w => un_not w) ?_
  refine lm (v := .bool (!b.high)) rfl rfl ?_
  cases h1 : b.high with
  | false =>
    refine ln rfl ?_
    refine ln rfl ?_
    refine ln rfl ?_
    refine lm (v := .bool true) rfl rfl ?_
    refine lm (v := .bool true) rfl rfl ?_
    refine wpL_done (fun W2 hW2 => ?_)
    refine (show Code.wp _ _ _ _ _ from ?_)
    refine wp_ret ?_
    try simp only [inBlock_ret, then_ret]
    refine bodyPost_ret (v := .bool true) ?_ rfl ?_
    · kernel_rfl
    · exact ⟨(bool_is (by rw [Bool.eq_iff_iff]; simp [rul4, *] <;> omega)), hW2.1⟩
  | true =>
    refine lm (v := .pointer (some ⟨g1, 2, none⟩)) rfl rfl ?_
    refine lv (v := .int .u8 ((b.size : Nat) : Int)) rfl rfl (yb_cell (off := 2) rfl (by kernel_rfl) (.head _) Tryd.underlying5 rfl (by kernel_rfl)) ?_
    refine lp (v := .bool (decide (b.size = 40))) rfl rfl (run_bin rfl (vx := (.int .u8 ((b.size : Nat) : Int))) (vy := (.int .u8 ((40 : Nat) : Int))) (by kernel_rfl) (by kernel_rfl) fun w => bn_eql rfl w) ?_
    refine lm (v := .bool (decide (b.size = 40))) rfl rfl ?_
    refine lm (v := .bool (decide (b.size = 40))) rfl rfl ?_
    refine wpL_done (fun W3 hW3 => ?_)
    refine (show Code.wp _ _ _ _ _ from ?_)
    refine wp_ret ?_
    try simp only [inBlock_ret, then_ret]
    refine bodyPost_ret (v := .bool (decide (b.size = 40))) ?_ rfl ?_
    · kernel_rfl
    · exact ⟨(bool_is (by rw [Bool.eq_iff_iff]; simp [rul4, *] <;> omega)), hW3.1⟩
set_option maxRecDepth 100000 in
set_option maxHeartbeats 4000000 in
theorem rul5_any (b : Bx) (w : World) : Calls Tryd.prog 60 #[bxV b] w fun e w' => e = .returned (.bool (rul5 b)) ∧ Below w.heap.size w w' := by
  go_enter Tryd.func60, Tryd.ntmps60
  refine wp_seq ?_
  refine wp_region_L (W0 := w) [] (KS.start w) ?_
  refine wpL_new (fun g => .pointer (some ⟨g, 0, none⟩)) (obi := .cells (bxC b) 26 (0, 0)) rfl rfl (fun _ => by kernel_rfl) (fun _ => by simp only [List.setIfInBounds_toArray, List.set_cons_succ, List.set_cons_zero] <;> rfl) fun g1 Bg1 Fg1 => ?_
  refine lm (v := .bool false) rfl rfl ?_
  refine wpL_done (fun W1 hW1 => ?_)
  refine (show Code.wp _ _ _ _ _ from ?_)
  refine wp_seq ?_
  refine wp_region_L (W0 := w) [(g1, .cells (bxC b) 26 (0, 0))] (hW1) ?_
  refine lm (v := .pointer (some ⟨g1, 4, none⟩)) rfl rfl ?_
  refine lv (v := .int .i64 b.kilos) rfl rfl (yb_cell (off := 4) rfl (by kernel_rfl) (.head _) Tryd.underlying3 rfl (by kernel_rfl)) ?_
  refine lp (v := .bool (!(decide (b.kilos < 1)))) rfl rfl (run_bin rfl (vx := (.int .i64 b.kilos)) (vy := (.int .i64 1)) (by kernel_rfl) (by kernel_rfl) fun w => bi_geq rfl w) ?_
  refine lm (v := .bool (!(decide (b.kilos < 1)))) rfl rfl ?_
  refine wpL_done (fun W2 hW2 => ?_)
  refine (show Code.wp _ _ _ _ _ from ?_)
  refine wp_ret ?_
  try simp only [inBlock_ret, then_ret]
  refine bodyPost_ret (v := .bool (!(decide (b.kilos < 1)))) ?_ rfl ?_
  · kernel_rfl
  · exact ⟨(bool_is (by rw [Bool.eq_iff_iff]; simp [rul5, *] <;> omega)), hW2.1⟩
set_option maxRecDepth 100000 in
set_option maxHeartbeats 4000000 in
theorem rul8_any (b : Bx) (w : World) : Calls Tryd.prog 61 #[bxV b] w fun e w' => e = .returned (.bool (rul8 b)) ∧ Below w.heap.size w w' := by
  go_enter Tryd.func61, Tryd.ntmps61
  refine wp_seq ?_
  refine wp_region_L (W0 := w) [] (KS.start w) ?_
  refine wpL_new (fun g => .pointer (some ⟨g, 0, none⟩)) (obi := .cells (bxC b) 26 (0, 0)) rfl rfl (fun _ => by kernel_rfl) (fun _ => by simp only [List.setIfInBounds_toArray, List.set_cons_succ, List.set_cons_zero] <;> rfl) fun g1 Bg1 Fg1 => ?_
  refine lm (v := .bool false) rfl rfl ?_
  refine wpL_done (fun W1 hW1 => ?_)
  refine (show Code.wp _ _ _ _ _ from ?_)
  refine wp_seq ?_
  refine wp_region_L (W0 := w) [(g1, .cells (bxC b) 26 (0, 0))] (hW1) ?_
  refine lm (v := .pointer (some ⟨g1, 5, none⟩)) rfl rfl ?_
  refine lv (v := .int .i64 b.load) rfl rfl (yb_cell (off := 5) rfl (by kernel_rfl) (.head _) Tryd.underlying3 rfl (by kernel_rfl)) ?_
  refine lp (v := .bool (!(decide (b.load < 0)))) rfl rfl (run_bin rfl (vx := (.int .i64 b.load)) (vy := (.int .i64 0)) (by kernel_rfl) (by kernel_rfl) fun w => bi_geq rfl w) ?_
  refine lm (v := .bool (!(decide (b.load < 0)))) rfl rfl ?_
  cases hd1 : (decide (b.load < 0)) with
  | false =>
    have h1 : ¬ (b.load < 0) := of_decide_eq_false hd1
    clear hd1
    refine lm (v := .pointer (some ⟨g1, 5, none⟩)) rfl rfl ?_
    refine lv (v := .int .i64 b.load) rfl rfl (yb_cell (off := 5) rfl (by kernel_rfl) (.head _) Tryd.underlying3 rfl (by kernel_rfl)) ?_
    refine lm (v := .pointer (some ⟨g1, 6, none⟩)) rfl rfl ?_
    refine lv (v := .int .i64 b.dis) rfl rfl (yb_cell (off := 6) rfl (by kernel_rfl) (.head _) Tryd.underlying3 rfl (by kernel_rfl)) ?_
    refine lp (v := .bool (decide (b.load < b.dis))) rfl rfl (run_bin rfl (vx := (.int .i64 b.load)) (vy := (.int .i64 b.dis)) (by kernel_rfl) (by kernel_rfl) fun w => bi_lss rfl w) ?_
    refine lm (v := .bool (decide (b.load < b.dis))) rfl rfl ?_
    refine lm (v := .bool (decide (b.load < b.dis))) rfl rfl ?_
    refine wpL_done (fun W2 hW2 => ?_)
    refine (show Code.wp _ _ _ _ _ from ?_)
    refine wp_ret ?_
    try simp only [inBlock_ret, then_ret]
    refine bodyPost_ret (v := .bool (decide (b.load < b.dis))) ?_ rfl ?_
    · kernel_rfl
    · exact ⟨(bool_is (by rw [Bool.eq_iff_iff]; simp [rul8, *] <;> omega)), hW2.1⟩
  | true =>
    have h1 : b.load < 0 := of_decide_eq_true hd1
    clear hd1
    refine ln rfl ?_
    refine ln rfl ?_
    refine ln rfl ?_
    refine ln rfl ?_
    refine ln rfl ?_
    refine lm (v := .bool false) rfl rfl ?_
    refine lm (v := .bool false) rfl rfl ?_
    refine wpL_done (fun W3 hW3 => ?_)
    refine (show Code.wp _ _ _ _ _ from ?_)
    refine wp_ret ?_
    try simp only [inBlock_ret, then_ret]
    refine bodyPost_ret (v := .bool false) ?_ rfl ?_
    · kernel_rfl
    · exact ⟨(bool_is (by rw [Bool.eq_iff_iff]; simp [rul8, *] <;> omega)), hW3.1⟩
set_option maxRecDepth 100000 in
set_option maxHeartbeats 4000000 in
theorem rul9_any (b : Bx) (w : World) : Calls Tryd.prog 62 #[bxV b] w fun e w' => e = .returned (.bool (rul9 b)) ∧ Below w.heap.size w w' := by
  go_enter Tryd.func62, Tryd.ntmps62
  refine wp_seq ?_
  refine wp_region_L (W0 := w) [] (KS.start w) ?_
  refine wpL_new (fun g => .pointer (some ⟨g, 0, none⟩)) (obi := .cells (bxC b) 26 (0, 0)) rfl rfl (fun _ => by kernel_rfl) (fun _ => by simp only [List.setIfInBounds_toArray, List.set_cons_succ, List.set_cons_zero] <;> rfl) fun g1 Bg1 Fg1 => ?_
  refine lm (v := .bool false) rfl rfl ?_
  refine wpL_done (fun W1 hW1 => ?_)
  refine (show Code.wp _ _ _ _ _ from ?_)
  refine wp_seq ?_
  refine wp_region_L (W0 := w) [(g1, .cells (bxC b) 26 (0, 0))] (hW1) ?_
  refine lm (v := .pointer (some ⟨g1, 6, none⟩)) rfl rfl ?_
  refine lv (v := .int .i64 b.dis) rfl rfl (yb_cell (off := 6) rfl (by kernel_rfl) (.head _) Tryd.underlying3 rfl (by kernel_rfl)) ?_
  refine lp (v := .bool (decide (b.dis < 20))) rfl rfl (run_bin rfl (vx := (.int .i64 b.dis)) (vy := (.int .i64 20)) (by kernel_rfl) (by kernel_rfl) fun w => bi_lss rfl w) ?_
  refine lm (v := .bool (decide (b.dis < 20))) rfl rfl ?_
  refine wpL_done (fun W2 hW2 => ?_)
  refine (show Code.wp _ _ _ _ _ from ?_)
  refine wp_ret ?_
  try simp only [inBlock_ret, then_ret]
  refine bodyPost_ret (v := .bool (decide (b.dis < 20))) ?_ rfl ?_
  · kernel_rfl
  · exact ⟨(bool_is (by rw [Bool.eq_iff_iff]; simp [rul9, *] <;> omega)), hW2.1⟩
set_option maxRecDepth 100000 in
set_option maxHeartbeats 4000000 in
theorem rul10_any (b : Bx) (w : World) : Calls Tryd.prog 63 #[bxV b] w fun e w' => e = .returned (.bool (rul10 b)) ∧ Below w.heap.size w w' := by
  go_enter Tryd.func63, Tryd.ntmps63
  refine wp_seq ?_
  refine wp_region_L (W0 := w) [] (KS.start w) ?_
  refine wpL_new (fun g => .pointer (some ⟨g, 0, none⟩)) (obi := .cells (bxC b) 26 (0, 0)) rfl rfl (fun _ => by kernel_rfl) (fun _ => by simp only [List.setIfInBounds_toArray, List.set_cons_succ, List.set_cons_zero] <;> rfl) fun g1 Bg1 Fg1 => ?_
  refine lm (v := .bool false) rfl rfl ?_
  refine wpL_done (fun W1 hW1 => ?_)
  refine (show Code.wp _ _ _ _ _ from ?_)
  refine wp_seq ?_
  refine wp_region_L (W0 := w) [(g1, .cells (bxC b) 26 (0, 0))] (hW1) ?_
  refine lm (v := .pointer (some ⟨g1, 7, none⟩)) rfl rfl ?_
  refine lv (v := .int .u8 ((b.cls : Nat) : Int)) rfl rfl (yb_cell (off := 7) rfl (by kernel_rfl) (.head _) Tryd.underlying5 rfl (by kernel_rfl)) ?_
  refine lp (v := .bool (!(decide (9 < b.cls)))) rfl rfl (run_bin rfl (vx := (.int .u8 ((b.cls : Nat) : Int))) (vy := (.int .u8 ((9 : Nat) : Int))) (by kernel_rfl) (by kernel_rfl) fun w => bn_leq rfl w) ?_
  refine lm (v := .bool (!(decide (9 < b.cls)))) rfl rfl ?_
  refine wpL_done (fun W2 hW2 => ?_)
  refine (show Code.wp _ _ _ _ _ from ?_)
  refine wp_ret ?_
  try simp only [inBlock_ret, then_ret]
  refine bodyPost_ret (v := .bool (!(decide (9 < b.cls)))) ?_ rfl ?_
  · kernel_rfl
  · exact ⟨(bool_is (by rw [Bool.eq_iff_iff]; simp [rul10, *] <;> omega)), hW2.1⟩
set_option maxRecDepth 100000 in
set_option maxHeartbeats 4000000 in
theorem carried_in (b : Bx) (n m p q : Nat) (w : World) (hp : w.cell? ⟨p, 0, none⟩ = some (.int .u8 ((n : Nat) : Int))) (hq : w.cell? ⟨q, 0, none⟩ = some (.int .i64 ((m : Nat) : Int))) :
    Calls Tryd.prog 54 #[bxV b, .pointer (some ⟨p, 0, none⟩), .pointer (some ⟨q, 0, none⟩)] w fun e w' => e = .returned (.bool (rulW n m b)) ∧ Below w.heap.size w w' := by
  have HP := Lib.hid hp
  have HQ := Lib.hid hq
  have ltp := World.block_lt_of_cell? _ _ hp
  have ltq := World.block_lt_of_cell? _ _ hq
  clear hp hq
  go_enter Tryd.func54, Tryd.ntmps54
  refine wp_seq ?_
  refine wp_region_L (W0 := w) [] (KS.start w) ?_
  refine wpL_new (fun g => .pointer (some ⟨g, 0, none⟩)) (obi := .cells (bxC b) 26 (0, 0)) rfl rfl (fun _ => by kernel_rfl) (fun _ => by simp only [List.setIfInBounds_toArray, List.set_cons_succ, List.set_cons_zero] <;> rfl) fun g1 Bg1 Fg1 => ?_
  refine lm (v := .bool false) rfl rfl ?_
  refine wpL_done (fun W1 hW1 => ?_)
  refine (show Code.wp _ _ _ _ _ from ?_)
  refine wp_seq ?_
  refine wp_region_L (W0 := w) [(g1, .cells (bxC b) 26 (0, 0))] (hW1) ?_
  refine lm (v := .pointer (some ⟨g1, 2, none⟩)) rfl rfl ?_
  refine lv (v := .int .u8 ((b.size : Nat) : Int)) rfl rfl (yb_cell (off := 2) rfl (by kernel_rfl) (.head _) Tryd.underlying5 rfl (by kernel_rfl)) ?_
  refine lv (v := .int .u8 ((n : Nat) : Int)) rfl rfl (yb_old (off := 0) rfl (by kernel_rfl) HP.out ltp Tryd.underlying5 rfl) ?_
  refine lp (v := .bool (!(decide (b.size = n)))) rfl rfl (run_bin rfl (vx := (.int .u8 ((b.size : Nat) : Int))) (vy := (.int .u8 ((n : Nat) : Int))) (by kernel_rfl) (by kernel_rfl) fun w => bn_neq rfl w) ?_
  refine lm (v := .bool (!(decide (b.size = n)))) rfl rfl ?_
  cases hd1 : (decide (b.size = n)) with
  | false =>
    have h1 : ¬ (b.size = n) := of_decide_eq_false hd1
    clear hd1
    refine ln rfl ?_
    refine ln rfl ?_
    refine ln rfl ?_
    refine ln rfl ?_
    refine lm (v := .bool true) rfl rfl ?_
    refine lm (v := .bool true) rfl rfl ?_
    refine wpL_done (fun W2 hW2 => ?_)
    refine (show Code.wp _ _ _ _ _ from ?_)
    refine wp_ret ?_
    try simp only [inBlock_ret, then_ret]
    refine bodyPost_ret (v := .bool true) ?_ rfl ?_
    · kernel_rfl
    · exact ⟨(bool_is (by rw [Bool.eq_iff_iff]; simp [rulW, *] <;> omega)), hW2.1⟩
  | true =>
    have h1 : b.size = n := of_decide_eq_true hd1
    clear hd1
    refine lm (v := .pointer (some ⟨g1, 4, none⟩)) rfl rfl ?_
    refine lv (v := .int .i64 b.kilos) rfl rfl (yb_cell (off := 4) rfl (by kernel_rfl) (.head _) Tryd.underlying3 rfl (by kernel_rfl)) ?_
    refine lv (v := .int .i64 ((m : Nat) : Int)) rfl rfl (yb_old (off := 0) rfl (by kernel_rfl) HQ.out ltq Tryd.underlying3 rfl) ?_
    refine lp (v := .bool (!(decide (((m : Nat) : Int) < b.kilos)))) rfl rfl (run_bin rfl (vx := (.int .i64 b.kilos)) (vy := (.int .i64 ((m : Nat) : Int))) (by kernel_rfl) (by kernel_rfl) fun w => bi_leq rfl w) ?_
    refine lm (v := .bool (!(decide (((m : Nat) : Int) < b.kilos)))) rfl rfl ?_
    refine lm (v := .bool (!(decide (((m : Nat) : Int) < b.kilos)))) rfl rfl ?_
    refine wpL_done (fun W3 hW3 => ?_)
    refine (show Code.wp _ _ _ _ _ from ?_)
    refine wp_ret ?_
    try simp only [inBlock_ret, then_ret]
    refine bodyPost_ret (v := .bool (!(decide (((m : Nat) : Int) < b.kilos)))) ?_ rfl ?_
    · kernel_rfl
    · exact ⟨(bool_is (by rw [Bool.eq_iff_iff]; simp [rulW, *] <;> omega)), hW3.1⟩
set_option maxRecDepth 100000 in
set_option maxHeartbeats 4000000 in
theorem carries_any (x y : Int) (w : World) : Calls Tryd.prog 53 #[.int .u8 x, .int .i64 y] w fun e w' => ∃ a b, e = .returned (.func (.func 54) #[] #[.pointer (some ⟨a, 0, none⟩), .pointer (some ⟨b, 0, none⟩)]) ∧ w.heap.size ≤ a ∧ w.heap.size ≤ b ∧ w'.heap[a]? = some (.cells #[.int .u8 x] 5 (0, 0)) ∧ w'.heap[b]? = some (.cells #[.int .i64 y] 3 (0, 0)) ∧ Below w.heap.size w w' := by
  go_enter Tryd.func53, Tryd.ntmps53
  refine wp_seq ?_
  refine wp_region_L (W0 := w) [] (KS.start w) ?_
  refine wpL_new (fun g => .pointer (some ⟨g, 0, none⟩)) (obi := .cells #[.int .u8 x] 5 (0, 0)) rfl rfl (fun _ => by kernel_rfl) (fun _ => by simp only [List.setIfInBounds_toArray, List.set_cons_succ, List.set_cons_zero] <;> rfl) fun g1 Bg1 Fg1 => ?_
  refine wpL_new (fun g => .pointer (some ⟨g, 0, none⟩)) (obi := .cells #[.int .i64 y] 3 (0, 0)) rfl rfl (fun _ => by kernel_rfl) (fun _ => by simp only [List.setIfInBounds_toArray, List.set_cons_succ, List.set_cons_zero] <;> rfl) fun g2 Bg2 Fg2 => ?_
  obtain dj3_0 : g1 ≠ g2 := by simpa only [dj_app_l, dj_app_r, dj_cons_l, dj_cons_r, dj_nil_l, dj_nil_r, dk_app, dk_cons, dk_nil, and_true, true_and, and_assoc] using (show Dk g2 [(g1, .cells #[.int .u8 x] 5 (0, 0))] from Fg2)
  refine lm (v := .nilFunc) rfl rfl ?_
  refine wpL_done (fun W1 hW1 => ?_)
  refine (show Code.wp _ _ _ _ _ from ?_)
  refine wp_seq ?_
  refine wp_region_L (W0 := w) [(g2, .cells #[.int .i64 y] 3 (0, 0)), (g1, .cells #[.int .u8 x] 5 (0, 0))] (hW1) ?_
  refine lm (v := .func (.func 54) #[] #[.pointer (some ⟨g1, 0, none⟩), .pointer (some ⟨g2, 0, none⟩)]) rfl rfl ?_
  refine lm (v := .func (.func 54) #[] #[.pointer (some ⟨g1, 0, none⟩), .pointer (some ⟨g2, 0, none⟩)]) rfl rfl ?_
  refine wpL_done (fun W2 hW2 => ?_)
  refine (show Code.wp _ _ _ _ _ from ?_)
  refine wp_ret ?_
  try simp only [inBlock_ret, then_ret]
  refine bodyPost_ret (v := .func (.func 54) #[] #[.pointer (some ⟨g1, 0, none⟩), .pointer (some ⟨g2, 0, none⟩)]) ?_ rfl ?_
  · kernel_rfl
  · exact ⟨g1, g2, rfl, Bg1, Bg2, hW2.2 _ (.tail _ (.head _)), hW2.2 _ (.head _), hW2.1⟩
def ruV (a b : Nat) : Value := .func (.func 54) #[] #[.pointer (some ⟨a, 0, none⟩), .pointer (some ⟨b, 0, none⟩)]
def GCa (W0 : Base) (K : List (Nat × Obj)) (x y : Int) (v : Value) (K' : List (Nat × Obj)) : Prop := ∃ a b, v = ruV a b ∧ W0.B ≤ a ∧ W0.B ≤ b ∧ (∀ p ∈ K, p.1 ≠ a) ∧ (∀ p ∈ K, p.1 ≠ b) ∧ a ≠ b ∧ K' = (b, .cells #[.int .i64 y] 3 (0, 0)) :: (a, .cells #[.int .u8 x] 5 (0, 0)) :: K
theorem calls_ca {W0 : Base} {W : World} {K : List (Nat × Obj)} (x y : Int) (hW : KS W0 K W) : Calls Tryd.prog 53 #[.int .u8 x, .int .i64 y] W fun e w' => ∃ v K', e = .returned v ∧ KS W0 K' w' ∧ GCa W0 K x y v K' :=
  (carries_any x y W).mono fun e w' ⟨a, b, he, ha, hb, h1, h2, hbel⟩ => by
    have hK := hW.below hbel
    refine ⟨_, _, he, ⟨hK.1, ?_⟩, a, b, rfl, Nat.le_trans hW.size ha, Nat.le_trans hW.size hb, fun p hp e => ?_, fun p hp e => ?_, fun e => ?_, rfl⟩
    · intro p hp
      rcases List.mem_cons.1 hp with rfl | hp
      · exact h2
      · rcases List.mem_cons.1 hp with rfl | hp
        · exact h1
        · exact hK.2 p hp
    · have := lt_of_block (hW.2 p hp); omega
    · have := lt_of_block (hW.2 p hp); omega
    · subst e; rw [h1] at h2; cases h2
def rulesV (a b c d : Nat) : Array Value := #[.func (.func 55) #[] #[], .func (.func 56) #[] #[], .func (.func 58) #[] #[], .func (.func 59) #[] #[], .func (.func 60) #[] #[], ruV a b, ruV c d, .func (.func 61) #[] #[], .func (.func 62) #[] #[], .func (.func 63) #[] #[]]
def ruK (a b c d g : Nat) (K : List (Nat × Obj)) : List (Nat × Obj) := (g, .cells (rulesV a b c d) 40 (0, 0)) :: (d, .cells #[.int .i64 40000] 3 (0, 0)) :: (c, .cells #[.int .u8 40] 5 (0, 0)) :: (b, .cells #[.int .i64 32000] 3 (0, 0)) :: (a, .cells #[.int .u8 20] 5 (0, 0)) :: K
set_option maxRecDepth 100000 in
set_option maxHeartbeats 4000000 in
theorem rules_any (w : World) : Calls Tryd.prog 44 #[] w fun e w' => ∃ a b c d g, e = .returned (.slice (some ⟨g, 0, none⟩) 10 10) ∧ w.heap.size ≤ a ∧ w.heap.size ≤ b ∧ w.heap.size ≤ c ∧ w.heap.size ≤ d ∧ w.heap.size ≤ g ∧ (∀ p ∈ ruK a b c d g [], w'.heap[p.1]? = some p.2) ∧ Below w.heap.size w w' := by
  go_enter Tryd.func44, Tryd.ntmps44
  refine wp_seq ?_
  refine wp_region_L (W0 := w) [] (KS.start w) ?_
  refine lm (v := .slice none 0 0) rfl rfl ?_
  refine wpL_done (fun W1 hW1 => ?_)
  refine (show Code.wp _ _ _ _ _ from ?_)
  refine wp_seq ?_
  refine wp_region_L (W0 := w) [] (hW1) ?_
  refine lm (v := .func (.func 53) #[] #[]) rfl rfl ?_
  refine wpL_done (fun W2 hW2 => ?_)
  refine (show Code.wp _ _ _ _ _ from ?_)
  refine wp_seq ?_
  refine wp_region_L (W0 := w) [] (hW2) ?_
  refine lm (v := .func (.func 53) #[] #[]) rfl rfl ?_
  refine wpL_c (f := 53) (args := #[.int .u8 20, .int .i64 32000]) (GCa w [] 20 32000) rfl (by kernel_rfl) (fun _ => (by kernel_rfl)) (fun W hW => calls_ca 20 32000 hW) (fun _ => by simp only [List.setIfInBounds_toArray, List.set_cons_succ, List.set_cons_zero] <;> rfl) ?_
  rintro v K9 ⟨g1, g2, rfl, Bg1, Bg2, Fg1, Fg2, Yg1, rfl⟩
  refine lm (v := .func (.func 53) #[] #[]) rfl rfl ?_
  refine wpL_c (f := 53) (args := #[.int .u8 40, .int .i64 40000]) (GCa w [(g2, .cells #[.int .i64 32000] 3 (0, 0)), (g1, .cells #[.int .u8 20] 5 (0, 0))] 40 40000) rfl (by kernel_rfl) (fun _ => (by kernel_rfl)) (fun W hW => calls_ca 40 40000 hW) (fun _ => by simp only [List.setIfInBounds_toArray, List.set_cons_succ, List.set_cons_zero] <;> rfl) ?_
  rintro v K9 ⟨g3, g4, rfl, Bg3, Bg4, Fg3, Fg4, Yg3, rfl⟩
  refine wpL_new (fun g => .slice (some ⟨g, 0, none⟩) 10 10) (obi := .cells #[.func (.func 55) #[] #[], .func (.func 56) #[] #[], .func (.func 58) #[] #[], .func (.func 59) #[] #[], .func (.func 60) #[] #[], ruV g1 g2, ruV g3 g4, .func (.func 61) #[] #[], .func (.func 62) #[] #[], .func (.func 63) #[] #[]] 40 (0, 0)) rfl rfl (fun _ => by kernel_rfl) (fun _ => by simp only [List.setIfInBounds_toArray, List.set_cons_succ, List.set_cons_zero] <;> rfl) fun g5 Bg5 Fg5 => ?_
  refine lm (v := .slice (some ⟨g5, 0, none⟩) 10 10) rfl rfl ?_
  refine wpL_done (fun W3 hW3 => ?_)
  refine (show Code.wp _ _ _ _ _ from ?_)
  refine wp_ret ?_
  try simp only [inBlock_ret, then_ret]
  refine bodyPost_ret (v := .slice (some ⟨g5, 0, none⟩) 10 10) ?_ rfl ?_
  · kernel_rfl
  · exact ⟨g1, g2, g3, g4, g5, rfl, Bg1, Bg2, Bg3, Bg4, Bg5, (List.forall_mem_cons.2 ⟨hW3.2 _ (.head _), (List.forall_mem_cons.2 ⟨hW3.2 _ (.tail _ (.head _)), (List.forall_mem_cons.2 ⟨hW3.2 _ (.tail _ (.tail _ (.head _))), (List.forall_mem_cons.2 ⟨hW3.2 _ (.tail _ (.tail _ (.tail _ (.head _)))), (List.forall_mem_cons.2 ⟨hW3.2 _ (.tail _ (.tail _ (.tail _ (.tail _ (.head _))))), (List.forall_mem_nil _)⟩)⟩)⟩)⟩)⟩), hW3.1⟩
def GRu (W0 : Base) (K : List (Nat × Obj)) (v : Value) (K' : List (Nat × Obj)) : Prop := ∃ a b c d g, v = .slice (some ⟨g, 0, none⟩) 10 10 ∧ W0.B ≤ a ∧ W0.B ≤ b ∧ W0.B ≤ c ∧ W0.B ≤ d ∧ W0.B ≤ g ∧ (∀ p ∈ K, p.1 ≠ a) ∧ (∀ p ∈ K, p.1 ≠ b) ∧ (∀ p ∈ K, p.1 ≠ c) ∧ (∀ p ∈ K, p.1 ≠ d) ∧ (∀ p ∈ K, p.1 ≠ g) ∧ K' = ruK a b c d g K
theorem calls_ru {W0 : Base} {W : World} {K : List (Nat × Obj)} (hW : KS W0 K W) : Calls Tryd.prog 44 #[] W fun e w' => ∃ v K', e = .returned v ∧ KS W0 K' w' ∧ GRu W0 K v K' :=
  (rules_any W).mono fun e w' ⟨a, b, c, d, g, he, ha, hb, hc, hd, hg, h1, hbel⟩ => by
    have hK := hW.below hbel
    have hz := hW.size
    refine ⟨_, _, he, ⟨hK.1, ?_⟩, a, b, c, d, g, rfl, by omega, by omega, by omega, by omega, by omega, fun p hp e => ?_, fun p hp e => ?_, fun p hp e => ?_, fun p hp e => ?_, fun p hp e => ?_, rfl⟩
    · intro p hp
      unfold ruK at hp h1
      rcases List.mem_cons.1 hp with rfl | hp
      · exact h1 _ (.head _)
      rcases List.mem_cons.1 hp with rfl | hp
      · exact h1 _ (.tail _ (.head _))
      rcases List.mem_cons.1 hp with rfl | hp
      · exact h1 _ (.tail _ (.tail _ (.head _)))
      rcases List.mem_cons.1 hp with rfl | hp
      · exact h1 _ (.tail _ (.tail _ (.tail _ (.head _))))
      rcases List.mem_cons.1 hp with rfl | hp
      · exact h1 _ (.tail _ (.tail _ (.tail _ (.tail _ (.head _)))))
      · exact hK.2 p hp
    all_goals (have := lt_of_block (hW.2 p hp); omega)
set_option maxRecDepth 100000 in
set_option maxHeartbeats 4000000 in
theorem BRight_any (b : Bx) (w : World) : Calls Tryd.prog 20 #[bxV b] w fun e w' => e = .returned (.bool (rightX b)) ∧ Below w.heap.size w w' := by
  go_enter Tryd.func20, Tryd.ntmps20
  refine wp_seq ?_
  refine wp_region_L (W0 := w) [] (KS.start w) ?_
  refine wpL_new (fun g => .pointer (some ⟨g, 0, none⟩)) (obi := .cells (bxC b) 26 (0, 0)) rfl rfl (fun _ => by kernel_rfl) (fun _ => by simp only [List.setIfInBounds_toArray, List.set_cons_succ, List.set_cons_zero] <;> rfl) fun g1 Bg1 Fg1 => ?_
  refine lm (v := .bool false) rfl rfl ?_
  refine wpL_done (fun W1 hW1 => ?_)
  refine (show Code.wp _ _ _ _ _ from ?_)
  refine wp_seq ?_
  refine wp_seq ?_
  refine wp_region_L (W0 := w) [(g1, .cells (bxC b) 26 (0, 0))] (hW1) ?_
  refine wpL_c (f := 44) (args := #[]) (GRu w [(g1, .cells (bxC b) 26 (0, 0))]) rfl (by kernel_rfl) (fun _ => (by kernel_rfl)) (fun W hW => calls_ru hW) (fun _ => by simp only [List.setIfInBounds_toArray, List.set_cons_succ, List.set_cons_zero] <;> rfl) ?_
  rintro v K9 ⟨ra, rb, rc, rd, rg, rfl, Bra, Brb, Brc, Brd, Brg, Fra, Frb, Frc, Frd, Frg, rfl⟩
  unfold ruK
  refine lm (v := .int .i64 10) rfl rfl ?_
  refine lm (v := .int .i64 0) rfl rfl ?_
  refine wpL_done (fun W2 hW2 => ?_)
  refine (show Code.wp _ _ _ _ _ from ?_)
  refine wp_block ?_
  refine wp_loop_rounds 11 ?_
  refine (show Code.wp _ _ _ _ _ from ?_)
  refine wp_seq ?_
  refine wp_region_L (W0 := w) [(rg, .cells (rulesV ra rb rc rd) 40 (0, 0)), (rd, .cells #[.int .i64 40000] 3 (0, 0)), (rc, .cells #[.int .u8 40] 5 (0, 0)), (rb, .cells #[.int .i64 32000] 3 (0, 0)), (ra, .cells #[.int .u8 20] 5 (0, 0)), (g1, .cells (bxC b) 26 (0, 0))] (hW2) ?_
  refine lm (v := .bool true) rfl rfl ?_
  refine wpL_done (fun W3 hW3 => ?_)
  refine (show Code.wp _ _ _ _ _ from ?_)
  refine wp_seq ?_
  refine wp_cond_true rfl ?_
  refine wp_skip ?_
  refine (show Code.wp _ _ _ _ _ from ?_)
  refine wp_seq ?_
  refine wp_block ?_
  refine wp_seq ?_
  refine wp_region_L (W0 := w) [(rg, .cells (rulesV ra rb rc rd) 40 (0, 0)), (rd, .cells #[.int .i64 40000] 3 (0, 0)), (rc, .cells #[.int .u8 40] 5 (0, 0)), (rb, .cells #[.int .i64 32000] 3 (0, 0)), (ra, .cells #[.int .u8 20] 5 (0, 0)), (g1, .cells (bxC b) 26 (0, 0))] (hW3) ?_
  refine lm (v := .pointer (some ⟨rg, 0, none⟩)) rfl rfl ?_
  refine lv (v := .func (.func 55) #[] #[]) rfl rfl (yb_cell (off := 0) rfl (by kernel_rfl) (.head _) Tryd.underlying40 rfl (by kernel_rfl)) ?_
  refine lm (v := .func (.func 55) #[] #[]) rfl rfl ?_
  refine wpL_done (fun W4 hW4 => ?_)
  refine (show Code.wp _ _ _ _ _ from ?_)
  refine wp_seq ?_
  refine wp_region_L (W0 := w) [(rg, .cells (rulesV ra rb rc rd) 40 (0, 0)), (rd, .cells #[.int .i64 40000] 3 (0, 0)), (rc, .cells #[.int .u8 40] 5 (0, 0)), (rb, .cells #[.int .i64 32000] 3 (0, 0)), (ra, .cells #[.int .u8 20] 5 (0, 0)), (g1, .cells (bxC b) 26 (0, 0))] (hW4) ?_
  refine lm (v := .func (.func 55) #[] #[]) rfl rfl ?_
  refine lv (v := bxV b) rfl rfl (yb_load (n := 9) (off := 0) rfl (by kernel_rfl) (.tail _ (.tail _ (.tail _ (.tail _ (.tail _ (.head _)))))) Tryd.underlying26 rfl (by kernel_rfl) (Nat.le_refl 9) (by kernel_rfl)) ?_
  refine lv (v := .bool (rul1 b)) rfl rfl (yb_call (f := 55) (args := #[bxV b]) (fun _ => by kernel_rfl) fun W hW => rul1_any b W) ?_
  refine lp (v := .bool (!(rul1 b))) rfl rfl (run_un rfl (by kernel_rfl) fun w => un_not w) ?_
  refine wpL_done (fun W5 hW5 => ?_)
  refine (show Code.wp _ _ _ _ _ from ?_)
  cases h1 : (rul1 b) with
  | false =>
    refine wp_cond_true rfl ?_
    refine wp_seq ?_
    refine wp_region_L (W0 := w) [(rg, .cells (rulesV ra rb rc rd) 40 (0, 0)), (rd, .cells #[.int .i64 40000] 3 (0, 0)), (rc, .cells #[.int .u8 40] 5 (0, 0)), (rb, .cells #[.int .i64 32000] 3 (0, 0)), (ra, .cells #[.int .u8 20] 5 (0, 0)), (g1, .cells (bxC b) 26 (0, 0))] (hW5) ?_
    refine lm (v := .bool false) rfl rfl ?_
    refine wpL_done (fun W6 hW6 => ?_)
    refine (show Code.wp _ _ _ _ _ from ?_)
    refine wp_ret ?_
    try simp only [inBlock_ret, then_ret]
    refine bodyPost_ret (v := .bool false) ?_ rfl ?_
    · kernel_rfl
    · exact ⟨(bool_is (by simp [rightX, h1])), hW6.1⟩
  | true =>
    refine wp_cond_false rfl ?_
    refine wp_skip ?_
    refine (show Code.wp _ _ _ _ _ from ?_)
    refine wp_region_L (W0 := w) [(rg, .cells (rulesV ra rb rc rd) 40 (0, 0)), (rd, .cells #[.int .i64 40000] 3 (0, 0)), (rc, .cells #[.int .u8 40] 5 (0, 0)), (rb, .cells #[.int .i64 32000] 3 (0, 0)), (ra, .cells #[.int .u8 20] 5 (0, 0)), (g1, .cells (bxC b) 26 (0, 0))] (hW5) ?_
    refine lm (v := .int .i64 1) rfl rfl ?_
    refine lm (v := .int .i64 1) rfl rfl ?_
    refine wpL_done (fun W7 hW7 => ?_)
    refine (show Code.wp _ _ _ _ _ from ?_)
    refine wp_seq ?_
    refine wp_region_L (W0 := w) [(rg, .cells (rulesV ra rb rc rd) 40 (0, 0)), (rd, .cells #[.int .i64 40000] 3 (0, 0)), (rc, .cells #[.int .u8 40] 5 (0, 0)), (rb, .cells #[.int .i64 32000] 3 (0, 0)), (ra, .cells #[.int .u8 20] 5 (0, 0)), (g1, .cells (bxC b) 26 (0, 0))] (hW7) ?_
    refine lm (v := .bool true) rfl rfl ?_
    refine wpL_done (fun W8 hW8 => ?_)
    refine (show Code.wp _ _ _ _ _ from ?_)
    refine wp_seq ?_
    refine wp_cond_true rfl ?_
    refine wp_skip ?_
    refine (show Code.wp _ _ _ _ _ from ?_)
    refine wp_seq ?_
    refine wp_block ?_
    refine wp_seq ?_
    refine wp_region_L (W0 := w) [(rg, .cells (rulesV ra rb rc rd) 40 (0, 0)), (rd, .cells #[.int .i64 40000] 3 (0, 0)), (rc, .cells #[.int .u8 40] 5 (0, 0)), (rb, .cells #[.int .i64 32000] 3 (0, 0)), (ra, .cells #[.int .u8 20] 5 (0, 0)), (g1, .cells (bxC b) 26 (0, 0))] (hW8) ?_
    refine lm (v := .pointer (some ⟨rg, 1, none⟩)) rfl rfl ?_
    refine lv (v := .func (.func 56) #[] #[]) rfl rfl (yb_cell (off := 1) rfl (by kernel_rfl) (.head _) Tryd.underlying40 rfl (by kernel_rfl)) ?_
    refine lm (v := .func (.func 56) #[] #[]) rfl rfl ?_
    refine wpL_done (fun W9 hW9 => ?_)
    refine (show Code.wp _ _ _ _ _ from ?_)
    refine wp_seq ?_
    refine wp_region_L (W0 := w) [(rg, .cells (rulesV ra rb rc rd) 40 (0, 0)), (rd, .cells #[.int .i64 40000] 3 (0, 0)), (rc, .cells #[.int .u8 40] 5 (0, 0)), (rb, .cells #[.int .i64 32000] 3 (0, 0)), (ra, .cells #[.int .u8 20] 5 (0, 0)), (g1, .cells (bxC b) 26 (0, 0))] (hW9) ?_
    refine lm (v := .func (.func 56) #[] #[]) rfl rfl ?_
    refine lv (v := bxV b) rfl rfl (yb_load (n := 9) (off := 0) rfl (by kernel_rfl) (.tail _ (.tail _ (.tail _ (.tail _ (.tail _ (.head _)))))) Tryd.underlying26 rfl (by kernel_rfl) (Nat.le_refl 9) (by kernel_rfl)) ?_
    refine lv (v := .bool (rul2 b)) rfl rfl (yb_call (f := 56) (args := #[bxV b]) (fun _ => by kernel_rfl) fun W hW => rul2_any b W) ?_
    refine lp (v := .bool (!(rul2 b))) rfl rfl (run_un rfl (by kernel_rfl) fun w => un_not w) ?_
    refine wpL_done (fun W10 hW10 => ?_)
    refine (show Code.wp _ _ _ _ _ from ?_)
    cases h2 : (rul2 b) with
    | false =>
      refine wp_cond_true rfl ?_
      refine wp_seq ?_
      refine wp_region_L (W0 := w) [(rg, .cells (rulesV ra rb rc rd) 40 (0, 0)), (rd, .cells #[.int .i64 40000] 3 (0, 0)), (rc, .cells #[.int .u8 40] 5 (0, 0)), (rb, .cells #[.int .i64 32000] 3 (0, 0)), (ra, .cells #[.int .u8 20] 5 (0, 0)), (g1, .cells (bxC b) 26 (0, 0))] (hW10) ?_
      refine lm (v := .bool false) rfl rfl ?_
      refine wpL_done (fun W11 hW11 => ?_)
      refine (show Code.wp _ _ _ _ _ from ?_)
      refine wp_ret ?_
      try simp only [inBlock_ret, then_ret]
      refine bodyPost_ret (v := .bool false) ?_ rfl ?_
      · kernel_rfl
      · exact ⟨(bool_is (by simp [rightX, h1, h2])), hW11.1⟩
    | true =>
      refine wp_cond_false rfl ?_
      refine wp_skip ?_
      refine (show Code.wp _ _ _ _ _ from ?_)
      refine wp_region_L (W0 := w) [(rg, .cells (rulesV ra rb rc rd) 40 (0, 0)), (rd, .cells #[.int .i64 40000] 3 (0, 0)), (rc, .cells #[.int .u8 40] 5 (0, 0)), (rb, .cells #[.int .i64 32000] 3 (0, 0)), (ra, .cells #[.int .u8 20] 5 (0, 0)), (g1, .cells (bxC b) 26 (0, 0))] (hW10) ?_
      refine lm (v := .int .i64 2) rfl rfl ?_
      refine lm (v := .int .i64 2) rfl rfl ?_
      refine wpL_done (fun W12 hW12 => ?_)
      refine (show Code.wp _ _ _ _ _ from ?_)
      refine wp_seq ?_
      refine wp_region_L (W0 := w) [(rg, .cells (rulesV ra rb rc rd) 40 (0, 0)), (rd, .cells #[.int .i64 40000] 3 (0, 0)), (rc, .cells #[.int .u8 40] 5 (0, 0)), (rb, .cells #[.int .i64 32000] 3 (0, 0)), (ra, .cells #[.int .u8 20] 5 (0, 0)), (g1, .cells (bxC b) 26 (0, 0))] (hW12) ?_
      refine lm (v := .bool true) rfl rfl ?_
      refine wpL_done (fun W13 hW13 => ?_)
      refine (show Code.wp _ _ _ _ _ from ?_)
      refine wp_seq ?_
      refine wp_cond_true rfl ?_
      refine wp_skip ?_
      refine (show Code.wp _ _ _ _ _ from ?_)
      refine wp_seq ?_
      refine wp_block ?_
      refine wp_seq ?_
      refine wp_region_L (W0 := w) [(rg, .cells (rulesV ra rb rc rd) 40 (0, 0)), (rd, .cells #[.int .i64 40000] 3 (0, 0)), (rc, .cells #[.int .u8 40] 5 (0, 0)), (rb, .cells #[.int .i64 32000] 3 (0, 0)), (ra, .cells #[.int .u8 20] 5 (0, 0)), (g1, .cells (bxC b) 26 (0, 0))] (hW13) ?_
      refine lm (v := .pointer (some ⟨rg, 2, none⟩)) rfl rfl ?_
      refine lv (v := .func (.func 58) #[] #[]) rfl rfl (yb_cell (off := 2) rfl (by kernel_rfl) (.head _) Tryd.underlying40 rfl (by kernel_rfl)) ?_
      refine lm (v := .func (.func 58) #[] #[]) rfl rfl ?_
      refine wpL_done (fun W14 hW14 => ?_)
      refine (show Code.wp _ _ _ _ _ from ?_)
      refine wp_seq ?_
      refine wp_region_L (W0 := w) [(rg, .cells (rulesV ra rb rc rd) 40 (0, 0)), (rd, .cells #[.int .i64 40000] 3 (0, 0)), (rc, .cells #[.int .u8 40] 5 (0, 0)), (rb, .cells #[.int .i64 32000] 3 (0, 0)), (ra, .cells #[.int .u8 20] 5 (0, 0)), (g1, .cells (bxC b) 26 (0, 0))] (hW14) ?_
      refine lm (v := .func (.func 58) #[] #[]) rfl rfl ?_
      refine lv (v := bxV b) rfl rfl (yb_load (n := 9) (off := 0) rfl (by kernel_rfl) (.tail _ (.tail _ (.tail _ (.tail _ (.tail _ (.head _)))))) Tryd.underlying26 rfl (by kernel_rfl) (Nat.le_refl 9) (by kernel_rfl)) ?_
      refine lv (v := .bool (rul3 b)) rfl rfl (yb_call (f := 58) (args := #[bxV b]) (fun _ => by kernel_rfl) fun W hW => rul3_any b W) ?_
      refine lp (v := .bool (!(rul3 b))) rfl rfl (run_un rfl (by kernel_rfl) fun w => un_not w) ?_
      refine wpL_done (fun W15 hW15 => ?_)
      refine (show Code.wp _ _ _ _ _ from ?_)
      cases h3 : (rul3 b) with
      | false =>
        refine wp_cond_true rfl ?_
        refine wp_seq ?_
        refine wp_region_L (W0 := w) [(rg, .cells (rulesV ra rb rc rd) 40 (0, 0)), (rd, .cells #[.int .i64 40000] 3 (0, 0)), (rc, .cells #[.int .u8 40] 5 (0, 0)), (rb, .cells #[.int .i64 32000] 3 (0, 0)), (ra, .cells #[.int .u8 20] 5 (0, 0)), (g1, .cells (bxC b) 26 (0, 0))] (hW15) ?_
        refine lm (v := .bool false) rfl rfl ?_
        refine wpL_done (fun W16 hW16 => ?_)
        refine (show Code.wp _ _ _ _ _ from ?_)
        refine wp_ret ?_
        try simp only [inBlock_ret, then_ret]
        refine bodyPost_ret (v := .bool false) ?_ rfl ?_
        · kernel_rfl
        · exact ⟨(bool_is (by simp [rightX, h1, h2, h3])), hW16.1⟩
      | true =>
        refine wp_cond_false rfl ?_
        refine wp_skip ?_
        refine (show Code.wp _ _ _ _ _ from ?_)
        refine wp_region_L (W0 := w) [(rg, .cells (rulesV ra rb rc rd) 40 (0, 0)), (rd, .cells #[.int .i64 40000] 3 (0, 0)), (rc, .cells #[.int .u8 40] 5 (0, 0)), (rb, .cells #[.int .i64 32000] 3 (0, 0)), (ra, .cells #[.int .u8 20] 5 (0, 0)), (g1, .cells (bxC b) 26 (0, 0))] (hW15) ?_
        refine lm (v := .int .i64 3) rfl rfl ?_
        refine lm (v := .int .i64 3) rfl rfl ?_
        refine wpL_done (fun W17 hW17 => ?_)
        refine (show Code.wp _ _ _ _ _ from ?_)
        refine wp_seq ?_
        refine wp_region_L (W0 := w) [(rg, .cells (rulesV ra rb rc rd) 40 (0, 0)), (rd, .cells #[.int .i64 40000] 3 (0, 0)), (rc, .cells #[.int .u8 40] 5 (0, 0)), (rb, .cells #[.int .i64 32000] 3 (0, 0)), (ra, .cells #[.int .u8 20] 5 (0, 0)), (g1, .cells (bxC b) 26 (0, 0))] (hW17) ?_
        refine lm (v := .bool true) rfl rfl ?_
        refine wpL_done (fun W18 hW18 => ?_)
        refine (show Code.wp _ _ _ _ _ from ?_)
        refine wp_seq ?_
        refine wp_cond_true rfl ?_
        refine wp_skip ?_
        refine (show Code.wp _ _ _ _ _ from ?_)
        refine wp_seq ?_
        refine wp_block ?_
        refine wp_seq ?_
        refine wp_region_L (W0 := w) [(rg, .cells (rulesV ra rb rc rd) 40 (0, 0)), (rd, .cells #[.int .i64 40000] 3 (0, 0)), (rc, .cells #[.int .u8 40] 5 (0, 0)), (rb, .cells #[.int .i64 32000] 3 (0, 0)), (ra, .cells #[.int .u8 20] 5 (0, 0)), (g1, .cells (bxC b) 26 (0, 0))] (hW18) ?_
        refine lm (v := .pointer (some ⟨rg, 3, none⟩)) rfl rfl ?_
        refine lv (v := .func (.func 59) #[] #[]) rfl rfl (yb_cell (off := 3) rfl (by kernel_rfl) (.head _) Tryd.underlying40 rfl (by kernel_rfl)) ?_
        refine lm (v := .func (.func 59) #[] #[]) rfl rfl ?_
        refine wpL_done (fun W19 hW19 => ?_)
        refine (show Code.wp _ _ _ _ _ from ?_)
        refine wp_seq ?_
        refine wp_region_L (W0 := w) [(rg, .cells (rulesV ra rb rc rd) 40 (0, 0)), (rd, .cells #[.int .i64 40000] 3 (0, 0)), (rc, .cells #[.int .u8 40] 5 (0, 0)), (rb, .cells #[.int .i64 32000] 3 (0, 0)), (ra, .cells #[.int .u8 20] 5 (0, 0)), (g1, .cells (bxC b) 26 (0, 0))] (hW19) ?_
        refine lm (v := .func (.func 59) #[] #[]) rfl rfl ?_
        refine lv (v := bxV b) rfl rfl (yb_load (n := 9) (off := 0) rfl (by kernel_rfl) (.tail _ (.tail _ (.tail _ (.tail _ (.tail _ (.head _)))))) Tryd.underlying26 rfl (by kernel_rfl) (Nat.le_refl 9) (by kernel_rfl)) ?_
        refine lv (v := .bool (rul4 b)) rfl rfl (yb_call (f := 59) (args := #[bxV b]) (fun _ => by kernel_rfl) fun W hW => rul4_any b W) ?_
        refine lp (v := .bool (!(rul4 b))) rfl rfl (run_un rfl (by kernel_rfl) fun w => un_not w) ?_
        refine wpL_done (fun W20 hW20 => ?_)
        refine (show Code.wp _ _ _ _ _ from ?_)
        cases h4 : (rul4 b) with
        | false =>
          refine wp_cond_true rfl ?_
          refine wp_seq ?_
          refine wp_region_L (W0 := w) [(rg, .cells (rulesV ra rb rc rd) 40 (0, 0)), (rd, .cells #[.int .i64 40000] 3 (0, 0)), (rc, .cells #[.int .u8 40] 5 (0, 0)), (rb, .cells #[.int .i64 32000] 3 (0, 0)), (ra, .cells #[.int .u8 20] 5 (0, 0)), (g1, .cells (bxC b) 26 (0, 0))] (hW20) ?_
          refine lm (v := .bool false) rfl rfl ?_
          refine wpL_done (fun W21 hW21 => ?_)
          refine (show Code.wp _ _ _ _ _ from ?_)
          refine wp_ret ?_
          try simp only [inBlock_ret, then_ret]
          refine bodyPost_ret (v := .bool false) ?_ rfl ?_
          · kernel_rfl
          · exact ⟨(bool_is (by simp [rightX, h1, h2, h3, h4])), hW21.1⟩
        | true =>
          refine wp_cond_false rfl ?_
          refine wp_skip ?_
          refine (show Code.wp _ _ _ _ _ from ?_)
          refine wp_region_L (W0 := w) [(rg, .cells (rulesV ra rb rc rd) 40 (0, 0)), (rd, .cells #[.int .i64 40000] 3 (0, 0)), (rc, .cells #[.int .u8 40] 5 (0, 0)), (rb, .cells #[.int .i64 32000] 3 (0, 0)), (ra, .cells #[.int .u8 20] 5 (0, 0)), (g1, .cells (bxC b) 26 (0, 0))] (hW20) ?_
          refine lm (v := .int .i64 4) rfl rfl ?_
          refine lm (v := .int .i64 4) rfl rfl ?_
          refine wpL_done (fun W22 hW22 => ?_)
          refine (show Code.wp _ _ _ _ _ from ?_)
          refine wp_seq ?_
          refine wp_region_L (W0 := w) [(rg, .cells (rulesV ra rb rc rd) 40 (0, 0)), (rd, .cells #[.int .i64 40000] 3 (0, 0)), (rc, .cells #[.int .u8 40] 5 (0, 0)), (rb, .cells #[.int .i64 32000] 3 (0, 0)), (ra, .cells #[.int .u8 20] 5 (0, 0)), (g1, .cells (bxC b) 26 (0, 0))] (hW22) ?_
          refine lm (v := .bool true) rfl rfl ?_
          refine wpL_done (fun W23 hW23 => ?_)
          refine (show Code.wp _ _ _ _ _ from ?_)
          refine wp_seq ?_
          refine wp_cond_true rfl ?_
          refine wp_skip ?_
          refine (show Code.wp _ _ _ _ _ from ?_)
          refine wp_seq ?_
          refine wp_block ?_
          refine wp_seq ?_
          refine wp_region_L (W0 := w) [(rg, .cells (rulesV ra rb rc rd) 40 (0, 0)), (rd, .cells #[.int .i64 40000] 3 (0, 0)), (rc, .cells #[.int .u8 40] 5 (0, 0)), (rb, .cells #[.int .i64 32000] 3 (0, 0)), (ra, .cells #[.int .u8 20] 5 (0, 0)), (g1, .cells (bxC b) 26 (0, 0))] (hW23) ?_
          refine lm (v := .pointer (some ⟨rg, 4, none⟩)) rfl rfl ?_
          refine lv (v := .func (.func 60) #[] #[]) rfl rfl (yb_cell (off := 4) rfl (by kernel_rfl) (.head _) Tryd.underlying40 rfl (by kernel_rfl)) ?_
          refine lm (v := .func (.func 60) #[] #[]) rfl rfl ?_
          refine wpL_done (fun W24 hW24 => ?_)
          refine (show Code.wp _ _ _ _ _ from ?_)
          refine wp_seq ?_
          refine wp_region_L (W0 := w) [(rg, .cells (rulesV ra rb rc rd) 40 (0, 0)), (rd, .cells #[.int .i64 40000] 3 (0, 0)), (rc, .cells #[.int .u8 40] 5 (0, 0)), (rb, .cells #[.int .i64 32000] 3 (0, 0)), (ra, .cells #[.int .u8 20] 5 (0, 0)), (g1, .cells (bxC b) 26 (0, 0))] (hW24) ?_
          refine lm (v := .func (.func 60) #[] #[]) rfl rfl ?_
          refine lv (v := bxV b) rfl rfl (yb_load (n := 9) (off := 0) rfl (by kernel_rfl) (.tail _ (.tail _ (.tail _ (.tail _ (.tail _ (.head _)))))) Tryd.underlying26 rfl (by kernel_rfl) (Nat.le_refl 9) (by kernel_rfl)) ?_
          refine lv (v := .bool (rul5 b)) rfl rfl (yb_call (f := 60) (args := #[bxV b]) (fun _ => by kernel_rfl) fun W hW => rul5_any b W) ?_
          refine lp (v := .bool (!(rul5 b))) rfl rfl (run_un rfl (by kernel_rfl) fun w => un_not w) ?_
          refine wpL_done (fun W25 hW25 => ?_)
          refine (show Code.wp _ _ _ _ _ from ?_)
          cases h5 : (rul5 b) with
          | false =>
            refine wp_cond_true rfl ?_
            refine wp_seq ?_
            refine wp_region_L (W0 := w) [(rg, .cells (rulesV ra rb rc rd) 40 (0, 0)), (rd, .cells #[.int .i64 40000] 3 (0, 0)), (rc, .cells #[.int .u8 40] 5 (0, 0)), (rb, .cells #[.int .i64 32000] 3 (0, 0)), (ra, .cells #[.int .u8 20] 5 (0, 0)), (g1, .cells (bxC b) 26 (0, 0))] (hW25) ?_
            refine lm (v := .bool false) rfl rfl ?_
            refine wpL_done (fun W26 hW26 => ?_)
            refine (show Code.wp _ _ _ _ _ from ?_)
            refine wp_ret ?_
            try simp only [inBlock_ret, then_ret]
            refine bodyPost_ret (v := .bool false) ?_ rfl ?_
            · kernel_rfl
            · exact ⟨(bool_is (by simp [rightX, h1, h2, h3, h4, h5])), hW26.1⟩
          | true =>
            refine wp_cond_false rfl ?_
            refine wp_skip ?_
            refine (show Code.wp _ _ _ _ _ from ?_)
            refine wp_region_L (W0 := w) [(rg, .cells (rulesV ra rb rc rd) 40 (0, 0)), (rd, .cells #[.int .i64 40000] 3 (0, 0)), (rc, .cells #[.int .u8 40] 5 (0, 0)), (rb, .cells #[.int .i64 32000] 3 (0, 0)), (ra, .cells #[.int .u8 20] 5 (0, 0)), (g1, .cells (bxC b) 26 (0, 0))] (hW25) ?_
            refine lm (v := .int .i64 5) rfl rfl ?_
            refine lm (v := .int .i64 5) rfl rfl ?_
            refine wpL_done (fun W27 hW27 => ?_)
            refine (show Code.wp _ _ _ _ _ from ?_)
            refine wp_seq ?_
            refine wp_region_L (W0 := w) [(rg, .cells (rulesV ra rb rc rd) 40 (0, 0)), (rd, .cells #[.int .i64 40000] 3 (0, 0)), (rc, .cells #[.int .u8 40] 5 (0, 0)), (rb, .cells #[.int .i64 32000] 3 (0, 0)), (ra, .cells #[.int .u8 20] 5 (0, 0)), (g1, .cells (bxC b) 26 (0, 0))] (hW27) ?_
            refine lm (v := .bool true) rfl rfl ?_
            refine wpL_done (fun W28 hW28 => ?_)
            refine (show Code.wp _ _ _ _ _ from ?_)
            refine wp_seq ?_
            refine wp_cond_true rfl ?_
            refine wp_skip ?_
            refine (show Code.wp _ _ _ _ _ from ?_)
            refine wp_seq ?_
            refine wp_block ?_
            refine wp_seq ?_
            refine wp_region_L (W0 := w) [(rg, .cells (rulesV ra rb rc rd) 40 (0, 0)), (rd, .cells #[.int .i64 40000] 3 (0, 0)), (rc, .cells #[.int .u8 40] 5 (0, 0)), (rb, .cells #[.int .i64 32000] 3 (0, 0)), (ra, .cells #[.int .u8 20] 5 (0, 0)), (g1, .cells (bxC b) 26 (0, 0))] (hW28) ?_
            refine lm (v := .pointer (some ⟨rg, 5, none⟩)) rfl rfl ?_
            refine lv (v := ruV ra rb) rfl rfl (yb_cell (off := 5) rfl (by kernel_rfl) (.head _) Tryd.underlying40 rfl (by kernel_rfl)) ?_
            refine lm (v := ruV ra rb) rfl rfl ?_
            refine wpL_done (fun W29 hW29 => ?_)
            refine (show Code.wp _ _ _ _ _ from ?_)
            refine wp_seq ?_
            refine wp_region_L (W0 := w) [(rg, .cells (rulesV ra rb rc rd) 40 (0, 0)), (rd, .cells #[.int .i64 40000] 3 (0, 0)), (rc, .cells #[.int .u8 40] 5 (0, 0)), (rb, .cells #[.int .i64 32000] 3 (0, 0)), (ra, .cells #[.int .u8 20] 5 (0, 0)), (g1, .cells (bxC b) 26 (0, 0))] (hW29) ?_
            refine lm (v := ruV ra rb) rfl rfl ?_
            refine lv (v := bxV b) rfl rfl (yb_load (n := 9) (off := 0) rfl (by kernel_rfl) (.tail _ (.tail _ (.tail _ (.tail _ (.tail _ (.head _)))))) Tryd.underlying26 rfl (by kernel_rfl) (Nat.le_refl 9) (by kernel_rfl)) ?_
            refine lv (v := .bool (rulW 20 32000 b)) rfl rfl (yb_call (f := 54) (args := #[bxV b, .pointer (some ⟨ra, 0, none⟩), .pointer (some ⟨rb, 0, none⟩)]) (fun _ => by kernel_rfl) fun W hW => carried_in b 20 32000 ra rb W ((cell_of_row W ra 0 _ _ _ (hW.2 _ (.tail _ (.tail _ (.tail _ (.tail _ (.head _))))))).trans rfl) ((cell_of_row W rb 0 _ _ _ (hW.2 _ (.tail _ (.tail _ (.tail _ (.head _)))))).trans rfl)) ?_
            refine lp (v := .bool (!(rulW 20 32000 b))) rfl rfl (run_un rfl (by kernel_rfl) fun w => un_not w) ?_
            refine wpL_done (fun W30 hW30 => ?_)
            refine (show Code.wp _ _ _ _ _ from ?_)
            cases h6 : (rulW 20 32000 b) with
            | false =>
              refine wp_cond_true rfl ?_
              refine wp_seq ?_
              refine wp_region_L (W0 := w) [(rg, .cells (rulesV ra rb rc rd) 40 (0, 0)), (rd, .cells #[.int .i64 40000] 3 (0, 0)), (rc, .cells #[.int .u8 40] 5 (0, 0)), (rb, .cells #[.int .i64 32000] 3 (0, 0)), (ra, .cells #[.int .u8 20] 5 (0, 0)), (g1, .cells (bxC b) 26 (0, 0))] (hW30) ?_
              refine lm (v := .bool false) rfl rfl ?_
              refine wpL_done (fun W31 hW31 => ?_)
              refine (show Code.wp _ _ _ _ _ from ?_)
              refine wp_ret ?_
              try simp only [inBlock_ret, then_ret]
              refine bodyPost_ret (v := .bool false) ?_ rfl ?_
              · kernel_rfl
              · exact ⟨(bool_is (by simp [rightX, h1, h2, h3, h4, h5, h6])), hW31.1⟩
            | true =>
              refine wp_cond_false rfl ?_
              refine wp_skip ?_
              refine (show Code.wp _ _ _ _ _ from ?_)
              refine wp_region_L (W0 := w) [(rg, .cells (rulesV ra rb rc rd) 40 (0, 0)), (rd, .cells #[.int .i64 40000] 3 (0, 0)), (rc, .cells #[.int .u8 40] 5 (0, 0)), (rb, .cells #[.int .i64 32000] 3 (0, 0)), (ra, .cells #[.int .u8 20] 5 (0, 0)), (g1, .cells (bxC b) 26 (0, 0))] (hW30) ?_
              refine lm (v := .int .i64 6) rfl rfl ?_
              refine lm (v := .int .i64 6) rfl rfl ?_
              refine wpL_done (fun W32 hW32 => ?_)
              refine (show Code.wp _ _ _ _ _ from ?_)
              refine wp_seq ?_
              refine wp_region_L (W0 := w) [(rg, .cells (rulesV ra rb rc rd) 40 (0, 0)), (rd, .cells #[.int .i64 40000] 3 (0, 0)), (rc, .cells #[.int .u8 40] 5 (0, 0)), (rb, .cells #[.int .i64 32000] 3 (0, 0)), (ra, .cells #[.int .u8 20] 5 (0, 0)), (g1, .cells (bxC b) 26 (0, 0))] (hW32) ?_
              refine lm (v := .bool true) rfl rfl ?_
              refine wpL_done (fun W33 hW33 => ?_)
              refine (show Code.wp _ _ _ _ _ from ?_)
              refine wp_seq ?_
              refine wp_cond_true rfl ?_
              refine wp_skip ?_
              refine (show Code.wp _ _ _ _ _ from ?_)
              refine wp_seq ?_
              refine wp_block ?_
              refine wp_seq ?_
              refine wp_region_L (W0 := w) [(rg, .cells (rulesV ra rb rc rd) 40 (0, 0)), (rd, .cells #[.int .i64 40000] 3 (0, 0)), (rc, .cells #[.int .u8 40] 5 (0, 0)), (rb, .cells #[.int .i64 32000] 3 (0, 0)), (ra, .cells #[.int .u8 20] 5 (0, 0)), (g1, .cells (bxC b) 26 (0, 0))] (hW33) ?_
              refine lm (v := .pointer (some ⟨rg, 6, none⟩)) rfl rfl ?_
              refine lv (v := ruV rc rd) rfl rfl (yb_cell (off := 6) rfl (by kernel_rfl) (.head _) Tryd.underlying40 rfl (by kernel_rfl)) ?_
              refine lm (v := ruV rc rd) rfl rfl ?_
              refine wpL_done (fun W34 hW34 => ?_)
              refine (show Code.wp _ _ _ _ _ from ?_)
              refine wp_seq ?_
              refine wp_region_L (W0 := w) [(rg, .cells (rulesV ra rb rc rd) 40 (0, 0)), (rd, .cells #[.int .i64 40000] 3 (0, 0)), (rc, .cells #[.int .u8 40] 5 (0, 0)), (rb, .cells #[.int .i64 32000] 3 (0, 0)), (ra, .cells #[.int .u8 20] 5 (0, 0)), (g1, .cells (bxC b) 26 (0, 0))] (hW34) ?_
              refine lm (v := ruV rc rd) rfl rfl ?_
              refine lv (v := bxV b) rfl rfl (yb_load (n := 9) (off := 0) rfl (by kernel_rfl) (.tail _ (.tail _ (.tail _ (.tail _ (.tail _ (.head _)))))) Tryd.underlying26 rfl (by kernel_rfl) (Nat.le_refl 9) (by kernel_rfl)) ?_
              refine lv (v := .bool (rulW 40 40000 b)) rfl rfl (yb_call (f := 54) (args := #[bxV b, .pointer (some ⟨rc, 0, none⟩), .pointer (some ⟨rd, 0, none⟩)]) (fun _ => by kernel_rfl) fun W hW => carried_in b 40 40000 rc rd W ((cell_of_row W rc 0 _ _ _ (hW.2 _ (.tail _ (.tail _ (.head _))))).trans rfl) ((cell_of_row W rd 0 _ _ _ (hW.2 _ (.tail _ (.head _)))).trans rfl)) ?_
              refine lp (v := .bool (!(rulW 40 40000 b))) rfl rfl (run_un rfl (by kernel_rfl) fun w => un_not w) ?_
              refine wpL_done (fun W35 hW35 => ?_)
              refine (show Code.wp _ _ _ _ _ from ?_)
              cases h7 : (rulW 40 40000 b) with
              | false =>
                refine wp_cond_true rfl ?_
                refine wp_seq ?_
                refine wp_region_L (W0 := w) [(rg, .cells (rulesV ra rb rc rd) 40 (0, 0)), (rd, .cells #[.int .i64 40000] 3 (0, 0)), (rc, .cells #[.int .u8 40] 5 (0, 0)), (rb, .cells #[.int .i64 32000] 3 (0, 0)), (ra, .cells #[.int .u8 20] 5 (0, 0)), (g1, .cells (bxC b) 26 (0, 0))] (hW35) ?_
                refine lm (v := .bool false) rfl rfl ?_
                refine wpL_done (fun W36 hW36 => ?_)
                refine (show Code.wp _ _ _ _ _ from ?_)
                refine wp_ret ?_
                try simp only [inBlock_ret, then_ret]
                refine bodyPost_ret (v := .bool false) ?_ rfl ?_
                · kernel_rfl
                · exact ⟨(bool_is (by simp [rightX, h1, h2, h3, h4, h5, h6, h7])), hW36.1⟩
              | true =>
                refine wp_cond_false rfl ?_
                refine wp_skip ?_
                refine (show Code.wp _ _ _ _ _ from ?_)
                refine wp_region_L (W0 := w) [(rg, .cells (rulesV ra rb rc rd) 40 (0, 0)), (rd, .cells #[.int .i64 40000] 3 (0, 0)), (rc, .cells #[.int .u8 40] 5 (0, 0)), (rb, .cells #[.int .i64 32000] 3 (0, 0)), (ra, .cells #[.int .u8 20] 5 (0, 0)), (g1, .cells (bxC b) 26 (0, 0))] (hW35) ?_
                refine lm (v := .int .i64 7) rfl rfl ?_
                refine lm (v := .int .i64 7) rfl rfl ?_
                refine wpL_done (fun W37 hW37 => ?_)
                refine (show Code.wp _ _ _ _ _ from ?_)
                refine wp_seq ?_
                refine wp_region_L (W0 := w) [(rg, .cells (rulesV ra rb rc rd) 40 (0, 0)), (rd, .cells #[.int .i64 40000] 3 (0, 0)), (rc, .cells #[.int .u8 40] 5 (0, 0)), (rb, .cells #[.int .i64 32000] 3 (0, 0)), (ra, .cells #[.int .u8 20] 5 (0, 0)), (g1, .cells (bxC b) 26 (0, 0))] (hW37) ?_
                refine lm (v := .bool true) rfl rfl ?_
                refine wpL_done (fun W38 hW38 => ?_)
                refine (show Code.wp _ _ _ _ _ from ?_)
                refine wp_seq ?_
                refine wp_cond_true rfl ?_
                refine wp_skip ?_
                refine (show Code.wp _ _ _ _ _ from ?_)
                refine wp_seq ?_
                refine wp_block ?_
                refine wp_seq ?_
                refine wp_region_L (W0 := w) [(rg, .cells (rulesV ra rb rc rd) 40 (0, 0)), (rd, .cells #[.int .i64 40000] 3 (0, 0)), (rc, .cells #[.int .u8 40] 5 (0, 0)), (rb, .cells #[.int .i64 32000] 3 (0, 0)), (ra, .cells #[.int .u8 20] 5 (0, 0)), (g1, .cells (bxC b) 26 (0, 0))] (hW38) ?_
                refine lm (v := .pointer (some ⟨rg, 7, none⟩)) rfl rfl ?_
                refine lv (v := .func (.func 61) #[] #[]) rfl rfl (yb_cell (off := 7) rfl (by kernel_rfl) (.head _) Tryd.underlying40 rfl (by kernel_rfl)) ?_
                refine lm (v := .func (.func 61) #[] #[]) rfl rfl ?_
                refine wpL_done (fun W39 hW39 => ?_)
                refine (show Code.wp _ _ _ _ _ from ?_)
                refine wp_seq ?_
                refine wp_region_L (W0 := w) [(rg, .cells (rulesV ra rb rc rd) 40 (0, 0)), (rd, .cells #[.int .i64 40000] 3 (0, 0)), (rc, .cells #[.int .u8 40] 5 (0, 0)), (rb, .cells #[.int .i64 32000] 3 (0, 0)), (ra, .cells #[.int .u8 20] 5 (0, 0)), (g1, .cells (bxC b) 26 (0, 0))] (hW39) ?_
                refine lm (v := .func (.func 61) #[] #[]) rfl rfl ?_
                refine lv (v := bxV b) rfl rfl (yb_load (n := 9) (off := 0) rfl (by kernel_rfl) (.tail _ (.tail _ (.tail _ (.tail _ (.tail _ (.head _)))))) Tryd.underlying26 rfl (by kernel_rfl) (Nat.le_refl 9) (by kernel_rfl)) ?_
                refine lv (v := .bool (rul8 b)) rfl rfl (yb_call (f := 61) (args := #[bxV b]) (fun _ => by kernel_rfl) fun W hW => rul8_any b W) ?_
                refine lp (v := .bool (!(rul8 b))) rfl rfl (run_un rfl (by kernel_rfl) fun w => un_not w) ?_
                refine wpL_done (fun W40 hW40 => ?_)
                refine (show Code.wp _ _ _ _ _ from ?_)
                cases h8 : (rul8 b) with
                | false =>
                  refine wp_cond_true rfl ?_
                  refine wp_seq ?_
                  refine wp_region_L (W0 := w) [(rg, .cells (rulesV ra rb rc rd) 40 (0, 0)), (rd, .cells #[.int .i64 40000] 3 (0, 0)), (rc, .cells #[.int .u8 40] 5 (0, 0)), (rb, .cells #[.int .i64 32000] 3 (0, 0)), (ra, .cells #[.int .u8 20] 5 (0, 0)), (g1, .cells (bxC b) 26 (0, 0))] (hW40) ?_
                  refine lm (v := .bool false) rfl rfl ?_
                  refine wpL_done (fun W41 hW41 => ?_)
                  refine (show Code.wp _ _ _ _ _ from ?_)
                  refine wp_ret ?_
                  try simp only [inBlock_ret, then_ret]
                  refine bodyPost_ret (v := .bool false) ?_ rfl ?_
                  · kernel_rfl
                  · exact ⟨(bool_is (by simp [rightX, h1, h2, h3, h4, h5, h6, h7, h8])), hW41.1⟩
                | true =>
                  refine wp_cond_false rfl ?_
                  refine wp_skip ?_
                  refine (show Code.wp _ _ _ _ _ from ?_)
                  refine wp_region_L (W0 := w) [(rg, .cells (rulesV ra rb rc rd) 40 (0, 0)), (rd, .cells #[.int .i64 40000] 3 (0, 0)), (rc, .cells #[.int .u8 40] 5 (0, 0)), (rb, .cells #[.int .i64 32000] 3 (0, 0)), (ra, .cells #[.int .u8 20] 5 (0, 0)), (g1, .cells (bxC b) 26 (0, 0))] (hW40) ?_
                  refine lm (v := .int .i64 8) rfl rfl ?_
                  refine lm (v := .int .i64 8) rfl rfl ?_
                  refine wpL_done (fun W42 hW42 => ?_)
                  refine (show Code.wp _ _ _ _ _ from ?_)
                  refine wp_seq ?_
                  refine wp_region_L (W0 := w) [(rg, .cells (rulesV ra rb rc rd) 40 (0, 0)), (rd, .cells #[.int .i64 40000] 3 (0, 0)), (rc, .cells #[.int .u8 40] 5 (0, 0)), (rb, .cells #[.int .i64 32000] 3 (0, 0)), (ra, .cells #[.int .u8 20] 5 (0, 0)), (g1, .cells (bxC b) 26 (0, 0))] (hW42) ?_
                  refine lm (v := .bool true) rfl rfl ?_
                  refine wpL_done (fun W43 hW43 => ?_)
                  refine (show Code.wp _ _ _ _ _ from ?_)
                  refine wp_seq ?_
                  refine wp_cond_true rfl ?_
                  refine wp_skip ?_
                  refine (show Code.wp _ _ _ _ _ from ?_)
                  refine wp_seq ?_
                  refine wp_block ?_
                  refine wp_seq ?_
                  refine wp_region_L (W0 := w) [(rg, .cells (rulesV ra rb rc rd) 40 (0, 0)), (rd, .cells #[.int .i64 40000] 3 (0, 0)), (rc, .cells #[.int .u8 40] 5 (0, 0)), (rb, .cells #[.int .i64 32000] 3 (0, 0)), (ra, .cells #[.int .u8 20] 5 (0, 0)), (g1, .cells (bxC b) 26 (0, 0))] (hW43) ?_
                  refine lm (v := .pointer (some ⟨rg, 8, none⟩)) rfl rfl ?_
                  refine lv (v := .func (.func 62) #[] #[]) rfl rfl (yb_cell (off := 8) rfl (by kernel_rfl) (.head _) Tryd.underlying40 rfl (by kernel_rfl)) ?_
                  refine lm (v := .func (.func 62) #[] #[]) rfl rfl ?_
                  refine wpL_done (fun W44 hW44 => ?_)
                  refine (show Code.wp _ _ _ _ _ from ?_)
                  refine wp_seq ?_
                  refine wp_region_L (W0 := w) [(rg, .cells (rulesV ra rb rc rd) 40 (0, 0)), (rd, .cells #[.int .i64 40000] 3 (0, 0)), (rc, .cells #[.int .u8 40] 5 (0, 0)), (rb, .cells #[.int .i64 32000] 3 (0, 0)), (ra, .cells #[.int .u8 20] 5 (0, 0)), (g1, .cells (bxC b) 26 (0, 0))] (hW44) ?_
                  refine lm (v := .func (.func 62) #[] #[]) rfl rfl ?_
                  refine lv (v := bxV b) rfl rfl (yb_load (n := 9) (off := 0) rfl (by kernel_rfl) (.tail _ (.tail _ (.tail _ (.tail _ (.tail _ (.head _)))))) Tryd.underlying26 rfl (by kernel_rfl) (Nat.le_refl 9) (by kernel_rfl)) ?_
                  refine lv (v := .bool (rul9 b)) rfl rfl (yb_call (f := 62) (args := #[bxV b]) (fun _ => by kernel_rfl) fun W hW => rul9_any b W) ?_
                  refine lp (v := .bool (!(rul9 b))) rfl rfl (run_un rfl (by kernel_rfl) fun w => un_not w) ?_
                  refine wpL_done (fun W45 hW45 => ?_)
                  refine (show Code.wp _ _ _ _ _ from ?_)
                  cases h9 : (rul9 b) with
                  | false =>
                    refine wp_cond_true rfl ?_
                    refine wp_seq ?_
                    refine wp_region_L (W0 := w) [(rg, .cells (rulesV ra rb rc rd) 40 (0, 0)), (rd, .cells #[.int .i64 40000] 3 (0, 0)), (rc, .cells #[.int .u8 40] 5 (0, 0)), (rb, .cells #[.int .i64 32000] 3 (0, 0)), (ra, .cells #[.int .u8 20] 5 (0, 0)), (g1, .cells (bxC b) 26 (0, 0))] (hW45) ?_
                    refine lm (v := .bool false) rfl rfl ?_
                    refine wpL_done (fun W46 hW46 => ?_)
                    refine (show Code.wp _ _ _ _ _ from ?_)
                    refine wp_ret ?_
                    try simp only [inBlock_ret, then_ret]
                    refine bodyPost_ret (v := .bool false) ?_ rfl ?_
                    · kernel_rfl
                    · exact ⟨(bool_is (by simp [rightX, h1, h2, h3, h4, h5, h6, h7, h8, h9])), hW46.1⟩
                  | true =>
                    refine wp_cond_false rfl ?_
                    refine wp_skip ?_
                    refine (show Code.wp _ _ _ _ _ from ?_)
                    refine wp_region_L (W0 := w) [(rg, .cells (rulesV ra rb rc rd) 40 (0, 0)), (rd, .cells #[.int .i64 40000] 3 (0, 0)), (rc, .cells #[.int .u8 40] 5 (0, 0)), (rb, .cells #[.int .i64 32000] 3 (0, 0)), (ra, .cells #[.int .u8 20] 5 (0, 0)), (g1, .cells (bxC b) 26 (0, 0))] (hW45) ?_
                    refine lm (v := .int .i64 9) rfl rfl ?_
                    refine lm (v := .int .i64 9) rfl rfl ?_
                    refine wpL_done (fun W47 hW47 => ?_)
                    refine (show Code.wp _ _ _ _ _ from ?_)
                    refine wp_seq ?_
                    refine wp_region_L (W0 := w) [(rg, .cells (rulesV ra rb rc rd) 40 (0, 0)), (rd, .cells #[.int .i64 40000] 3 (0, 0)), (rc, .cells #[.int .u8 40] 5 (0, 0)), (rb, .cells #[.int .i64 32000] 3 (0, 0)), (ra, .cells #[.int .u8 20] 5 (0, 0)), (g1, .cells (bxC b) 26 (0, 0))] (hW47) ?_
                    refine lm (v := .bool true) rfl rfl ?_
                    refine wpL_done (fun W48 hW48 => ?_)
                    refine (show Code.wp _ _ _ _ _ from ?_)
                    refine wp_seq ?_
                    refine wp_cond_true rfl ?_
                    refine wp_skip ?_
                    refine (show Code.wp _ _ _ _ _ from ?_)
                    refine wp_seq ?_
                    refine wp_block ?_
                    refine wp_seq ?_
                    refine wp_region_L (W0 := w) [(rg, .cells (rulesV ra rb rc rd) 40 (0, 0)), (rd, .cells #[.int .i64 40000] 3 (0, 0)), (rc, .cells #[.int .u8 40] 5 (0, 0)), (rb, .cells #[.int .i64 32000] 3 (0, 0)), (ra, .cells #[.int .u8 20] 5 (0, 0)), (g1, .cells (bxC b) 26 (0, 0))] (hW48) ?_
                    refine lm (v := .pointer (some ⟨rg, 9, none⟩)) rfl rfl ?_
                    refine lv (v := .func (.func 63) #[] #[]) rfl rfl (yb_cell (off := 9) rfl (by kernel_rfl) (.head _) Tryd.underlying40 rfl (by kernel_rfl)) ?_
                    refine lm (v := .func (.func 63) #[] #[]) rfl rfl ?_
                    refine wpL_done (fun W49 hW49 => ?_)
                    refine (show Code.wp _ _ _ _ _ from ?_)
                    refine wp_seq ?_
                    refine wp_region_L (W0 := w) [(rg, .cells (rulesV ra rb rc rd) 40 (0, 0)), (rd, .cells #[.int .i64 40000] 3 (0, 0)), (rc, .cells #[.int .u8 40] 5 (0, 0)), (rb, .cells #[.int .i64 32000] 3 (0, 0)), (ra, .cells #[.int .u8 20] 5 (0, 0)), (g1, .cells (bxC b) 26 (0, 0))] (hW49) ?_
                    refine lm (v := .func (.func 63) #[] #[]) rfl rfl ?_
                    refine lv (v := bxV b) rfl rfl (yb_load (n := 9) (off := 0) rfl (by kernel_rfl) (.tail _ (.tail _ (.tail _ (.tail _ (.tail _ (.head _)))))) Tryd.underlying26 rfl (by kernel_rfl) (Nat.le_refl 9) (by kernel_rfl)) ?_
                    refine lv (v := .bool (rul10 b)) rfl rfl (yb_call (f := 63) (args := #[bxV b]) (fun _ => by kernel_rfl) fun W hW => rul10_any b W) ?_
                    refine lp (v := .bool (!(rul10 b))) rfl rfl (run_un rfl (by kernel_rfl) fun w => un_not w) ?_
                    refine wpL_done (fun W50 hW50 => ?_)
                    refine (show Code.wp _ _ _ _ _ from ?_)
                    cases h10 : (rul10 b) with
                    | false =>
                      refine wp_cond_true rfl ?_
                      refine wp_seq ?_
                      refine wp_region_L (W0 := w) [(rg, .cells (rulesV ra rb rc rd) 40 (0, 0)), (rd, .cells #[.int .i64 40000] 3 (0, 0)), (rc, .cells #[.int .u8 40] 5 (0, 0)), (rb, .cells #[.int .i64 32000] 3 (0, 0)), (ra, .cells #[.int .u8 20] 5 (0, 0)), (g1, .cells (bxC b) 26 (0, 0))] (hW50) ?_
                      refine lm (v := .bool false) rfl rfl ?_
                      refine wpL_done (fun W51 hW51 => ?_)
                      refine (show Code.wp _ _ _ _ _ from ?_)
                      refine wp_ret ?_
                      try simp only [inBlock_ret, then_ret]
                      refine bodyPost_ret (v := .bool false) ?_ rfl ?_
                      · kernel_rfl
                      · exact ⟨(bool_is (by simp [rightX, h1, h2, h3, h4, h5, h6, h7, h8, h9, h10])), hW51.1⟩
                    | true =>
                      refine wp_cond_false rfl ?_
                      refine wp_skip ?_
                      refine (show Code.wp _ _ _ _ _ from ?_)
                      refine wp_region_L (W0 := w) [(rg, .cells (rulesV ra rb rc rd) 40 (0, 0)), (rd, .cells #[.int .i64 40000] 3 (0, 0)), (rc, .cells #[.int .u8 40] 5 (0, 0)), (rb, .cells #[.int .i64 32000] 3 (0, 0)), (ra, .cells #[.int .u8 20] 5 (0, 0)), (g1, .cells (bxC b) 26 (0, 0))] (hW50) ?_
                      refine lm (v := .int .i64 10) rfl rfl ?_
                      refine lm (v := .int .i64 10) rfl rfl ?_
                      refine wpL_done (fun W52 hW52 => ?_)
                      refine (show Code.wp _ _ _ _ _ from ?_)
                      refine wp_seq ?_
                      refine wp_region_L (W0 := w) [(rg, .cells (rulesV ra rb rc rd) 40 (0, 0)), (rd, .cells #[.int .i64 40000] 3 (0, 0)), (rc, .cells #[.int .u8 40] 5 (0, 0)), (rb, .cells #[.int .i64 32000] 3 (0, 0)), (ra, .cells #[.int .u8 20] 5 (0, 0)), (g1, .cells (bxC b) 26 (0, 0))] (hW52) ?_
                      refine lm (v := .bool false) rfl rfl ?_
                      refine wpL_done (fun W53 hW53 => ?_)
                      refine (show Code.wp _ _ _ _ _ from ?_)
                      refine wp_seq ?_
                      refine wp_cond_false rfl ?_
                      refine wp_exit ?_
                      refine (show Code.wp _ _ _ _ _ from ?_)
                      refine wp_seq ?_
                      refine wp_region_L (W0 := w) [(rg, .cells (rulesV ra rb rc rd) 40 (0, 0)), (rd, .cells #[.int .i64 40000] 3 (0, 0)), (rc, .cells #[.int .u8 40] 5 (0, 0)), (rb, .cells #[.int .i64 32000] 3 (0, 0)), (ra, .cells #[.int .u8 20] 5 (0, 0)), (g1, .cells (bxC b) 26 (0, 0))] (hW53) ?_
                      refine lm (v := .bool true) rfl rfl ?_
                      refine wpL_done (fun W54 hW54 => ?_)
                      refine (show Code.wp _ _ _ _ _ from ?_)
                      refine wp_ret ?_
                      try simp only [inBlock_ret, then_ret]
                      refine bodyPost_ret (v := .bool true) ?_ rfl ?_
                      · kernel_rfl
                      · exact ⟨(bool_is (by simp [rightX, h1, h2, h3, h4, h5, h6, h7, h8, h9, h10])), hW54.1⟩
end Go.Proofs.YtllmpemmknblaaaDoor
namespace Go.Proofs.YtllmpemmknblaaaDoor
open Go Go.RowKit Tw
def codeOk (b : Bx) : Bool := (decide (b.size = 20) && !b.high) || decide (b.size = 40)
def codeS (b : Bx) : List UInt8 := if b.size = 20 then (if b.rf = true then [50, 50, 82, 49] else [50, 50, 71, 49]) else if b.high = true then (if b.rf = true then [52, 53, 82, 49] else [52, 53, 71, 49]) else (if b.rf = true then [52, 50, 82, 49] else [52, 50, 71, 49])
theorem codeV_ok {b : Bx} (h : codeOk b = true) : codeV b.size b.high b.rf = .tuple #[strV (codeS b), .int .i64 0] := by
  obtain ⟨id, num, n, hi, k, l, d, c, r⟩ := b
  unfold codeOk at h
  simp only [Bool.or_eq_true, Bool.and_eq_true, decide_eq_true_eq, Bool.not_eq_true'] at h
  rcases h with ⟨rfl, rfl⟩ | rfl
  · cases r <;> rfl
  · cases hi <;> cases r <;> rfl
theorem codeV_no {b : Bx} (h : codeOk b = false) : codeV b.size b.high b.rf = .tuple #[strV [], .int .i64 32] := by
  obtain ⟨id, num, n, hi, k, l, d, c, r⟩ := b
  unfold codeOk at h
  unfold codeV
  simp only [Bool.or_eq_false_iff, Bool.and_eq_false_iff, decide_eq_false_iff_not, Bool.not_eq_false'] at h
  dsimp only at h ⊢
  obtain ⟨h1, h2⟩ := h
  have h3 : ¬ 40 = n := fun e => h2 e.symm
  cases hi with
  | false =>
    have h4 : ¬ 20 = n := fun e => h1.elim (fun h => h e.symm) (fun h => by cases h)
    cases r <;> simp [h3, h4]
  | true => cases r <;> simp [h3]
theorem icode_ok {b : Bx} (h : codeOk b = true) (W : World) (hE : Env W) : Calls Tryd.prog 43 #[.agg #[.int .u8 ((b.size : Nat) : Int), .bool b.high, .bool b.rf]] W fun e w' => e = .returned (.tuple #[strV (codeS b), .int .i64 0]) ∧ Below W.heap.size W w' := codeV_ok h ▸ Code_any b.size b.high b.rf W hE
theorem icode_no {b : Bx} (h : codeOk b = false) (W : World) (hE : Env W) : Calls Tryd.prog 43 #[.agg #[.int .u8 ((b.size : Nat) : Int), .bool b.high, .bool b.rf]] W fun e w' => e = .returned (.tuple #[strV [], .int .i64 32]) ∧ Below W.heap.size W w' := codeV_no h ▸ Code_any b.size b.high b.rf W hE
def codeT (b : Bx) : Value := if codeOk b = true then .tuple #[strV (codeS b), .int .i64 0] else .tuple #[strV [], .int .i64 60]
def idIs (n : Int) (b : Bx) : Bool := decide (b.id = n)
def numIs (n : List UInt8) (b : Bx) : Bool := decide (b.num = n)
def findX (l : List Bx) (n : Int) : Option Bx := l.find? (idIs n)
def numberedX (l : List Bx) (n : List UInt8) : Option Bx := if n = [] then none else l.find? (numIs n)
def findV : Option Bx → Value
  | some b => .tuple #[bxV b, .bool true]
  | none => .tuple #[bxV bx0, .bool false]
def numV : Option Bx → Value
  | some b => .tuple #[.int .i64 b.id, .bool true]
  | none => .tuple #[.int .i64 0, .bool false]
section
variable {α : Type} {p : α → Bool} {l : List α} {k : Nat} {b : α}
theorem find_at (h : (l.take k).find? p = none) (hb : l[k]? = some b) (hp : p b = true) : l.find? p = some b := by
  obtain ⟨hk, rfl⟩ := List.getElem?_eq_some_iff.1 hb
  conv => lhs; rw [← List.take_append_drop k l]
  rw [List.find?_append, h, List.drop_eq_getElem_cons hk, List.find?_cons_of_pos hp]
  rfl
theorem find_on (h : (l.take k).find? p = none) (hb : l[k]? = some b) (hp : p b = false) : (l.take (k + 1)).find? p = none := by
  obtain ⟨hk, rfl⟩ := List.getElem?_eq_some_iff.1 hb
  rw [List.take_succ_eq_append_getElem hk, List.find?_append, h]
  simp [hp]
theorem find_end (h : (l.take k).find? p = none) (hk : ¬ k < l.length) : l.find? p = none := by
  rwa [List.take_of_length_le (by omega)] at h
end
-- totals
def smC (s : Sm) : Array Value := #[.int .i64 ((s.n : Nat) : Int), .int .i64 ((s.h : Nat) : Int), .int .i64 s.k, .int .i64 ((s.r : Nat) : Int), .int .i64 ((s.d : Nat) : Int)]
def smV (s : Sm) : Value := .agg (smC s)
def add1 (s : Sm) (b : Bx) : Sm := ⟨s.n + 1, s.h + halvesX b, s.k + b.kilos, s.r + (if b.rf = true then 1 else 0), s.d + (if b.cls = 0 then 0 else 1)⟩
theorem add_right {s : Sm} {b : Bx} (h : rightX b = true) : addX s b = add1 s b := by unfold addX add1; rw [if_pos h]
theorem add_wrong {s : Sm} {b : Bx} (h : rightX b = false) : addX s b = s := by unfold addX; rw [if_neg (by rw [h]; decide)]
def SmOk (m : Nat) (s : Sm) : Prop := s.n ≤ m ∧ s.h ≤ 2 * m ∧ 0 ≤ s.k ∧ s.k ≤ 40000 * (m : Int) ∧ s.r ≤ m ∧ s.d ≤ m
theorem total_ok (l : List Bx) (k : Nat) : SmOk k (totalX (l.take k)) := by
  have h := total_le (l.take k)
  have h1 : (l.take k).length ≤ k := by rw [List.length_take]; exact Nat.min_le_left _ _
  have h2 : ((l.take k).length : Int) ≤ (k : Int) := by omega
  unfold SmOk
  generalize totalX (l.take k) = s at *
  generalize (l.take k).length = m at *
  obtain ⟨a1, a2, a3, a4, a5, a6⟩ := h
  exact ⟨by omega, by omega, a3, by omega, by omega, by omega⟩
set_option maxRecDepth 100000 in
set_option maxHeartbeats 4000000 in
theorem Height_any (b : Bx) (w : World) : Calls Tryd.prog 21 #[bxV b] w fun e w' => e = .returned (.int .i64 (((heightX b) : Nat) : Int)) ∧ Below w.heap.size w w' := by
  go_enter Tryd.func21, Tryd.ntmps21
  refine wp_seq ?_
  refine wp_region_L (W0 := w) [] (KS.start w) ?_
  refine wpL_new (fun g => .pointer (some ⟨g, 0, none⟩)) (obi := .cells (bxC b) 26 (0, 0)) rfl rfl (fun _ => by kernel_rfl) (fun _ => by simp only [List.setIfInBounds_toArray, List.set_cons_succ, List.set_cons_zero] <;> rfl) fun g1 Bg1 Fg1 => ?_
  refine lm (v := .int .i64 0) rfl rfl ?_
  refine wpL_done (fun W1 hW1 => ?_)
  refine (show Code.wp _ _ _ _ _ from ?_)
  refine wp_seq ?_
  refine wp_seq ?_
  refine wp_region_L (W0 := w) [(g1, .cells (bxC b) 26 (0, 0))] (hW1) ?_
  refine lm (v := .pointer (some ⟨g1, 3, none⟩)) rfl rfl ?_
  refine lv (v := .bool b.high) rfl rfl (yb_cell (off := 3) rfl (by kernel_rfl) (.head _) Tryd.underlying4 rfl (by kernel_rfl)) ?_
  refine wpL_done (fun W2 hW2 => ?_)
  refine (show Code.wp _ _ _ _ _ from ?_)
  cases h1 : b.high with
  | false =>
    refine wp_cond_false rfl ?_
    refine wp_skip ?_
    refine (show Code.wp _ _ _ _ _ from ?_)
    refine wp_seq ?_
    refine wp_region_L (W0 := w) [(g1, .cells (bxC b) 26 (0, 0))] (hW2) ?_
    refine lm (v := .int .i64 2591) rfl rfl ?_
    refine wpL_done (fun W3 hW3 => ?_)
    refine (show Code.wp _ _ _ _ _ from ?_)
    refine wp_ret ?_
    try simp only [inBlock_ret, then_ret]
    refine bodyPost_ret (v := .int .i64 2591) ?_ rfl ?_
    · kernel_rfl
    · exact ⟨(int_is (by simp [heightX, *])), hW3.1⟩
  | true =>
    refine wp_cond_true rfl ?_
    refine wp_seq ?_
    refine wp_region_L (W0 := w) [(g1, .cells (bxC b) 26 (0, 0))] (hW2) ?_
    refine lm (v := .int .i64 2896) rfl rfl ?_
    refine wpL_done (fun W4 hW4 => ?_)
    refine (show Code.wp _ _ _ _ _ from ?_)
    refine wp_ret ?_
    try simp only [inBlock_ret, then_ret]
    refine bodyPost_ret (v := .int .i64 2896) ?_ rfl ?_
    · kernel_rfl
    · exact ⟨(int_is (by simp [heightX, *])), hW4.1⟩
set_option maxRecDepth 100000 in
set_option maxHeartbeats 4000000 in
theorem Halves_any (b : Bx) (w : World) : Calls Tryd.prog 22 #[bxV b] w fun e w' => e = .returned (.int .i64 (((halvesX b) : Nat) : Int)) ∧ Below w.heap.size w w' := by
  go_enter Tryd.func22, Tryd.ntmps22
  refine wp_seq ?_
  refine wp_region_L (W0 := w) [] (KS.start w) ?_
  refine wpL_new (fun g => .pointer (some ⟨g, 0, none⟩)) (obi := .cells (bxC b) 26 (0, 0)) rfl rfl (fun _ => by kernel_rfl) (fun _ => by simp only [List.setIfInBounds_toArray, List.set_cons_succ, List.set_cons_zero] <;> rfl) fun g1 Bg1 Fg1 => ?_
  refine lm (v := .int .i64 0) rfl rfl ?_
  refine wpL_done (fun W1 hW1 => ?_)
  refine (show Code.wp _ _ _ _ _ from ?_)
  refine wp_seq ?_
  refine wp_seq ?_
  refine wp_region_L (W0 := w) [(g1, .cells (bxC b) 26 (0, 0))] (hW1) ?_
  refine lm (v := .pointer (some ⟨g1, 2, none⟩)) rfl rfl ?_
  refine lv (v := .int .u8 ((b.size : Nat) : Int)) rfl rfl (yb_cell (off := 2) rfl (by kernel_rfl) (.head _) Tryd.underlying5 rfl (by kernel_rfl)) ?_
  refine wpL_done (fun W2 hW2 => ?_)
  refine (show Code.wp _ _ _ _ _ from ?_)
  refine wp_block ?_
  refine wp_seq ?_
  refine wp_region_L (W0 := w) [(g1, .cells (bxC b) 26 (0, 0))] (hW2) ?_
  refine lp (v := .bool (decide (b.size = 20))) rfl rfl (run_bin rfl (vx := (.int .u8 ((b.size : Nat) : Int))) (vy := (.int .u8 ((20 : Nat) : Int))) (by kernel_rfl) (by kernel_rfl) fun w => bn_eql rfl w) ?_
  refine lm (v := .bool (decide (b.size = 20))) rfl rfl ?_
  refine wpL_done (fun W3 hW3 => ?_)
  refine (show Code.wp _ _ _ _ _ from ?_)
  cases hd1 : (decide (b.size = 20)) with
  | false =>
    have h1 : ¬ (b.size = 20) := of_decide_eq_false hd1
    clear hd1
    refine wp_cond_false rfl ?_
    refine wp_seq ?_
    refine wp_region_L (W0 := w) [(g1, .cells (bxC b) 26 (0, 0))] (hW3) ?_
    refine lp (v := .bool (decide (b.size = 40))) rfl rfl (run_bin rfl (vx := (.int .u8 ((b.size : Nat) : Int))) (vy := (.int .u8 ((40 : Nat) : Int))) (by kernel_rfl) (by kernel_rfl) fun w => bn_eql rfl w) ?_
    refine lm (v := .bool (decide (b.size = 40))) rfl rfl ?_
    refine wpL_done (fun W4 hW4 => ?_)
    refine (show Code.wp _ _ _ _ _ from ?_)
    cases hd2 : (decide (b.size = 40)) with
    | false =>
      have h2 : ¬ (b.size = 40) := of_decide_eq_false hd2
      clear hd2
      refine wp_cond_false rfl ?_
      refine wp_skip ?_
      refine (show Code.wp _ _ _ _ _ from ?_)
      refine wp_seq ?_
      refine wp_region_L (W0 := w) [(g1, .cells (bxC b) 26 (0, 0))] (hW4) ?_
      refine lm (v := .int .i64 0) rfl rfl ?_
      refine wpL_done (fun W5 hW5 => ?_)
      refine (show Code.wp _ _ _ _ _ from ?_)
      refine wp_ret ?_
      try simp only [inBlock_ret, then_ret]
      refine bodyPost_ret (v := .int .i64 0) ?_ rfl ?_
      · kernel_rfl
      · exact ⟨(int_is (by simp [halvesX, *])), hW5.1⟩
    | true =>
      have h2 : b.size = 40 := of_decide_eq_true hd2
      clear hd2
      refine wp_cond_true rfl ?_
      refine wp_seq ?_
      refine wp_region_L (W0 := w) [(g1, .cells (bxC b) 26 (0, 0))] (hW4) ?_
      refine lm (v := .int .i64 2) rfl rfl ?_
      refine wpL_done (fun W6 hW6 => ?_)
      refine (show Code.wp _ _ _ _ _ from ?_)
      refine wp_ret ?_
      try simp only [inBlock_ret, then_ret]
      refine bodyPost_ret (v := .int .i64 2) ?_ rfl ?_
      · kernel_rfl
      · exact ⟨(int_is (by simp [halvesX, *])), hW6.1⟩
  | true =>
    have h1 : b.size = 20 := of_decide_eq_true hd1
    clear hd1
    refine wp_cond_true rfl ?_
    refine wp_seq ?_
    refine wp_region_L (W0 := w) [(g1, .cells (bxC b) 26 (0, 0))] (hW3) ?_
    refine lm (v := .int .i64 1) rfl rfl ?_
    refine wpL_done (fun W7 hW7 => ?_)
    refine (show Code.wp _ _ _ _ _ from ?_)
    refine wp_ret ?_
    try simp only [inBlock_ret, then_ret]
    refine bodyPost_ret (v := .int .i64 1) ?_ rfl ?_
    · kernel_rfl
    · exact ⟨(int_is (by simp [halvesX, *])), hW7.1⟩
set_option maxRecDepth 100000 in
set_option maxHeartbeats 4000000 in
theorem Aboard_any (b : Bx) (c : Int) (w : World) : Calls Tryd.prog 23 #[bxV b, .int .i64 c] w fun e w' => e = .returned (.bool (aboardX b c)) ∧ Below w.heap.size w w' := by
  go_enter Tryd.func23, Tryd.ntmps23
  refine wp_seq ?_
  refine wp_region_L (W0 := w) [] (KS.start w) ?_
  refine wpL_new (fun g => .pointer (some ⟨g, 0, none⟩)) (obi := .cells (bxC b) 26 (0, 0)) rfl rfl (fun _ => by kernel_rfl) (fun _ => by simp only [List.setIfInBounds_toArray, List.set_cons_succ, List.set_cons_zero] <;> rfl) fun g1 Bg1 Fg1 => ?_
  refine lm (v := .bool false) rfl rfl ?_
  refine wpL_done (fun W1 hW1 => ?_)
  refine (show Code.wp _ _ _ _ _ from ?_)
  refine wp_seq ?_
  refine wp_region_L (W0 := w) [(g1, .cells (bxC b) 26 (0, 0))] (hW1) ?_
  refine lm (v := .int .i64 c) rfl rfl ?_
  refine lm (v := .pointer (some ⟨g1, 5, none⟩)) rfl rfl ?_
  refine lv (v := .int .i64 b.load) rfl rfl (yb_cell (off := 5) rfl (by kernel_rfl) (.head _) Tryd.underlying3 rfl (by kernel_rfl)) ?_
  refine lp (v := .bool (!(decide (c < b.load)))) rfl rfl (run_bin rfl (vx := (.int .i64 c)) (vy := (.int .i64 b.load)) (by kernel_rfl) (by kernel_rfl) fun w => bi_geq rfl w) ?_
  refine lm (v := .bool (!(decide (c < b.load)))) rfl rfl ?_
  cases hd1 : (decide (c < b.load)) with
  | false =>
    have h1 : ¬ (c < b.load) := of_decide_eq_false hd1
    clear hd1
    refine lm (v := .int .i64 c) rfl rfl ?_
    refine lm (v := .pointer (some ⟨g1, 6, none⟩)) rfl rfl ?_
    refine lv (v := .int .i64 b.dis) rfl rfl (yb_cell (off := 6) rfl (by kernel_rfl) (.head _) Tryd.underlying3 rfl (by kernel_rfl)) ?_
    refine lp (v := .bool (decide (c < b.dis))) rfl rfl (run_bin rfl (vx := (.int .i64 c)) (vy := (.int .i64 b.dis)) (by kernel_rfl) (by kernel_rfl) fun w => bi_lss rfl w) ?_
    refine lm (v := .bool (decide (c < b.dis))) rfl rfl ?_
    refine lm (v := .bool (decide (c < b.dis))) rfl rfl ?_
    refine wpL_done (fun W2 hW2 => ?_)
    refine (show Code.wp _ _ _ _ _ from ?_)
    refine wp_ret ?_
    try simp only [inBlock_ret, then_ret]
    refine bodyPost_ret (v := .bool (decide (c < b.dis))) ?_ rfl ?_
    · kernel_rfl
    · exact ⟨(bool_is (by rw [Bool.eq_iff_iff]; simp [aboardX, *] <;> omega)), hW2.1⟩
  | true =>
    have h1 : c < b.load := of_decide_eq_true hd1
    clear hd1
    refine ln rfl ?_
    refine ln rfl ?_
    refine ln rfl ?_
    refine ln rfl ?_
    refine lm (v := .bool false) rfl rfl ?_
    refine lm (v := .bool false) rfl rfl ?_
    refine wpL_done (fun W3 hW3 => ?_)
    refine (show Code.wp _ _ _ _ _ from ?_)
    refine wp_ret ?_
    try simp only [inBlock_ret, then_ret]
    refine bodyPost_ret (v := .bool false) ?_ rfl ?_
    · kernel_rfl
    · exact ⟨(bool_is (by rw [Bool.eq_iff_iff]; simp [aboardX, *] <;> omega)), hW3.1⟩
set_option maxRecDepth 100000 in
set_option maxHeartbeats 4000000 in
theorem BCode_any (b : Bx) (w : World) (hE : Env w) : Calls Tryd.prog 18 #[bxV b] w fun e w' => e = .returned (codeT b) ∧ Below w.heap.size w w' := by
  have HE := Lib.hid hE
  clear hE
  go_enter Tryd.func18, Tryd.ntmps18
  refine wp_seq ?_
  refine wp_region_L (W0 := w) [] (KS.start w) ?_
  refine wpL_new (fun g => .pointer (some ⟨g, 0, none⟩)) (obi := .cells (bxC b) 26 (0, 0)) rfl rfl (fun _ => by kernel_rfl) (fun _ => by simp only [List.setIfInBounds_toArray, List.set_cons_succ, List.set_cons_zero] <;> rfl) fun g1 Bg1 Fg1 => ?_
  refine lm (v := strV []) rfl rfl ?_
  refine lm (v := .int .i64 0) rfl rfl ?_
  refine wpL_done (fun W1 hW1 => ?_)
  refine (show Code.wp _ _ _ _ _ from ?_)
  refine wp_seq ?_
  refine wp_region_L (W0 := w) [(g1, .cells (bxC b) 26 (0, 0))] (hW1) ?_
  refine lm (v := .pointer (some ⟨g1, 2, none⟩)) rfl rfl ?_
  refine lv (v := .int .u8 ((b.size : Nat) : Int)) rfl rfl (yb_cell (off := 2) rfl (by kernel_rfl) (.head _) Tryd.underlying5 rfl (by kernel_rfl)) ?_
  refine lm (v := .pointer (some ⟨g1, 3, none⟩)) rfl rfl ?_
  refine lv (v := .bool b.high) rfl rfl (yb_cell (off := 3) rfl (by kernel_rfl) (.head _) Tryd.underlying4 rfl (by kernel_rfl)) ?_
  refine lm (v := .pointer (some ⟨g1, 8, none⟩)) rfl rfl ?_
  refine lv (v := .bool b.rf) rfl rfl (yb_cell (off := 8) rfl (by kernel_rfl) (.head _) Tryd.underlying4 rfl (by kernel_rfl)) ?_
  refine lm (v := .agg #[.int .u8 ((b.size : Nat) : Int), .bool b.high, .bool b.rf]) rfl rfl ?_
  cases h1 : (codeOk b) with
  | false =>
    refine lv (v := .tuple #[strV [], .int .i64 32]) rfl rfl (yb_call (f := 43) (args := #[.agg #[.int .u8 ((b.size : Nat) : Int), .bool b.high, .bool b.rf]]) (fun _ => by kernel_rfl) fun W hW => icode_no h1 W (HE.out.keep hW.1)) ?_
    refine lm (v := .tuple #[strV [], .int .i64 32]) rfl rfl ?_
    refine lm (v := strV []) rfl rfl ?_
    refine lm (v := .int .i64 32) rfl rfl ?_
    refine lm (v := strV []) rfl rfl ?_
    refine lm (v := .int .i64 32) rfl rfl ?_
    refine wpL_done (fun W2 hW2 => ?_)
    refine (show Code.wp _ _ _ _ _ from ?_)
    refine wp_seq ?_
    refine wp_seq ?_
    refine wp_region_L (W0 := w) [(g1, .cells (bxC b) 26 (0, 0))] (hW2) ?_
    refine lm (v := .int .i64 32) rfl rfl ?_
    refine lm (v := .bool true) rfl rfl ?_
    refine wpL_done (fun W3 hW3 => ?_)
    refine (show Code.wp _ _ _ _ _ from ?_)
    refine wp_cond_true rfl ?_
    refine wp_seq ?_
    refine wp_region_L (W0 := w) [(g1, .cells (bxC b) 26 (0, 0))] (hW3) ?_
    refine lm (v := strV []) rfl rfl ?_
    refine lm (v := .int .i64 60) rfl rfl ?_
    refine wpL_done (fun W4 hW4 => ?_)
    refine (show Code.wp _ _ _ _ _ from ?_)
    refine wp_ret ?_
    try simp only [inBlock_ret, then_ret]
    refine bodyPost_ret (v := .tuple #[strV [], .int .i64 60]) ?_ rfl ?_
    · kernel_rfl
    · exact ⟨(by unfold codeT; rw [if_neg (by rw [h1]; decide)]), hW4.1⟩
  | true =>
    refine lv (v := .tuple #[strV (codeS b), .int .i64 0]) rfl rfl (yb_call (f := 43) (args := #[.agg #[.int .u8 ((b.size : Nat) : Int), .bool b.high, .bool b.rf]]) (fun _ => by kernel_rfl) fun W hW => icode_ok h1 W (HE.out.keep hW.1)) ?_
    refine lm (v := .tuple #[strV (codeS b), .int .i64 0]) rfl rfl ?_
    refine lm (v := strV (codeS b)) rfl rfl ?_
    refine lm (v := .int .i64 0) rfl rfl ?_
    refine lm (v := strV (codeS b)) rfl rfl ?_
    refine lm (v := .int .i64 0) rfl rfl ?_
    refine wpL_done (fun W5 hW5 => ?_)
    refine (show Code.wp _ _ _ _ _ from ?_)
    refine wp_seq ?_
    refine wp_seq ?_
    refine wp_region_L (W0 := w) [(g1, .cells (bxC b) 26 (0, 0))] (hW5) ?_
    refine lm (v := .int .i64 0) rfl rfl ?_
    refine lm (v := .bool false) rfl rfl ?_
    refine wpL_done (fun W6 hW6 => ?_)
    refine (show Code.wp _ _ _ _ _ from ?_)
    refine wp_cond_false rfl ?_
    refine wp_skip ?_
    refine (show Code.wp _ _ _ _ _ from ?_)
    refine wp_seq ?_
    refine wp_region_L (W0 := w) [(g1, .cells (bxC b) 26 (0, 0))] (hW6) ?_
    refine lm (v := strV (codeS b)) rfl rfl ?_
    refine lm (v := strV (codeS b)) rfl rfl ?_
    refine lm (v := .int .i64 0) rfl rfl ?_
    refine wpL_done (fun W7 hW7 => ?_)
    refine (show Code.wp _ _ _ _ _ from ?_)
    refine wp_ret ?_
    try simp only [inBlock_ret, then_ret]
    refine bodyPost_ret (v := .tuple #[strV (codeS b), .int .i64 0]) ?_ rfl ?_
    · kernel_rfl
    · exact ⟨(by unfold codeT; rw [if_pos h1]), hW7.1⟩
theorem bcode_is {b : Bx} {v : Value} (h : codeT b = v) (W : World) (hE : Env W) : Calls Tryd.prog 18 #[bxV b] W fun e w' => e = .returned v ∧ Below W.heap.size W w' := h ▸ BCode_any b W hE
set_option maxRecDepth 100000 in
set_option maxHeartbeats 4000000 in
theorem Find_any (l : List Bx) (p : Option Addr) (c : Nat) (n : Int) (hl : l.length ≤ 4000000000) (w : World) (hp : SLV w p (bcs l)) : Calls Tryd.prog 30 #[.slice p l.length c, .int .i64 n] w fun e w' => e = .returned (findV (findX l n)) ∧ Below w.heap.size w w' := by
  have HP := Lib.hid hp
  clear hp
  go_enter Tryd.func30, Tryd.ntmps30
  refine wp_seq ?_
  refine wp_region_L (W0 := w) [] (KS.start w) ?_
  refine wpL_new (fun g => .pointer (some ⟨g, 0, none⟩)) (obi := .cells #[.int .i64 0, strV [], .int .u8 0, .bool false, .int .i64 0, .int .i64 0, .int .i64 0, .int .u8 0, .bool false] 26 (0, 0)) rfl rfl (fun _ => by kernel_rfl) (fun _ => by simp only [List.setIfInBounds_toArray, List.set_cons_succ, List.set_cons_zero] <;> rfl) fun g1 Bg1 Fg1 => ?_
  refine lm (v := .bool false) rfl rfl ?_
  refine wpL_done (fun W1 hW1 => ?_)
  refine (show Code.wp _ _ _ _ _ from ?_)
  refine wp_seq ?_
  refine wp_seq ?_
  refine wp_region_L (W0 := w) [(g1, .cells #[.int .i64 0, strV [], .int .u8 0, .bool false, .int .i64 0, .int .i64 0, .int .i64 0, .int .u8 0, .bool false] 26 (0, 0))] (hW1) ?_
  refine lm (v := .slice p l.length c) rfl rfl ?_
  refine lp (v := .int .i64 ((l.length : Nat) : Int)) rfl rfl (run_lenL (p := p) (cap := c) (n := l.length) rfl Tryd.underlying22 (by kernel_rfl)) ?_
  refine lm (v := .int .i64 0) rfl rfl ?_
  refine wpL_done (fun W2 hW2 => ?_)
  refine (show Code.wp _ _ _ _ _ from ?_)
  refine wp_block ?_
  go_loopw [10] (fun u10 wr => ∃ (k : Nat), (k ≤ l.length) ∧ ((l.take k).find? (idIs n) = none) ∧ u10 = .int .i64 ((k : Nat) : Int) ∧ KS w [(g1, .cells #[.int .i64 0, strV [], .int .u8 0, .bool false, .int .i64 0, .int .i64 0, .int .i64 0, .int .u8 0, .bool false] 26 (0, 0))] wr) (fun u10 _ => l.length - (intOf u10).toNat)
  case atStart => exact ⟨0, (Nat.zero_le _), rfl, rfl, (hW2.sub (fun p hp => by first | exact hp | (simp only [List.mem_cons, List.mem_append, List.nil_append, List.not_mem_nil, or_assoc, or_false, false_or] at hp ⊢ <;> grind)))⟩
  case round =>
    obtain ⟨k, hk, hf, rfl, hL3⟩ := hrel
    refine wp_seq ?_
    refine wp_region_L (W0 := w) [(g1, .cells #[.int .i64 0, strV [], .int .u8 0, .bool false, .int .i64 0, .int .i64 0, .int .i64 0, .int .u8 0, .bool false] 26 (0, 0))] (hL3) ?_
    refine lp (v := .bool (decide (k < l.length))) rfl rfl (run_bin rfl (vx := (.int .i64 ((k : Nat) : Int))) (vy := (.int .i64 ((l.length : Nat) : Int))) (by kernel_rfl) (by kernel_rfl) fun w => bn_lss rfl w) ?_
    refine wpL_done (fun W4 hW4 => ?_)
    refine (show Code.wp _ _ _ _ _ from ?_)
    refine wp_seq ?_
    cases hd1 : (decide (k < l.length)) with
    | false =>
      have h1 : ¬ (k < l.length) := of_decide_eq_false hd1
      clear hd1
      refine wp_cond_false rfl ?_
      refine wp_exit ?_
      refine (show Code.wp _ _ _ _ _ from ?_)
      refine wp_seq ?_
      refine wp_region_L (W0 := w) [(g1, .cells #[.int .i64 0, strV [], .int .u8 0, .bool false, .int .i64 0, .int .i64 0, .int .i64 0, .int .u8 0, .bool false] 26 (0, 0))] (hW4) ?_
      refine lm (v := bxV bx0) rfl rfl ?_
      refine wpL_s [(g1, .cells (bxC bx0) 26 (0, 0))] rfl rfl (st_bx (b := bx0) rfl (by kernel_rfl) (by kernel_rfl) (.head _) rfl Bg1 (by kernel_rfl) (List.forall_mem_cons.2 ⟨.inl rfl, (List.forall_mem_nil _)⟩)) ?_
      refine lm (v := .bool false) rfl rfl ?_
      refine wpL_done (fun W5 hW5 => ?_)
      refine (show Code.wp _ _ _ _ _ from ?_)
      refine wp_ret ?_
      try simp only [inBlock_ret, then_ret]
      refine bodyPost_ret (v := .tuple #[.agg #[.int .i64 bx0.id, strV bx0.num, .int .u8 ((bx0.size : Nat) : Int), .bool bx0.high, .int .i64 bx0.kilos, .int .i64 bx0.load, .int .i64 bx0.dis, .int .u8 ((bx0.cls : Nat) : Int), .bool bx0.rf], .bool false]) ?_ rfl ?_
      · exact (res_cell_tmp (p := 4) (q := 5) rfl rfl (hW5.2 _ (.head _)) Tryd.underlying26 rfl (by kernel_rfl))
      · exact ⟨(ret_v (by unfold findX; rw [find_end hf h1]; rfl)), hW5.1⟩
    | true =>
      have h1 : k < l.length := of_decide_eq_true hd1
      clear hd1
      refine wp_cond_true rfl ?_
      refine wp_skip ?_
      refine (show Code.wp _ _ _ _ _ from ?_)
      refine wp_seq ?_
      refine wp_block ?_
      refine wp_seq ?_
      refine wp_region_L (W0 := w) [(g1, .cells #[.int .i64 0, strV [], .int .u8 0, .bool false, .int .i64 0, .int .i64 0, .int .i64 0, .int .u8 0, .bool false] 26 (0, 0))] (hW4) ?_
      obtain ⟨b2, g2_, f2, hy2, hp2, lt2, hc2⟩ := bl_at (k := k) HP.out (by omega)
      refine lp (v := .pointer (some ⟨g2_, f2 + k * 9, none⟩)) rfl rfl (run_idxQ (p := p) (cap := c) (n := l.length) (j := .i64) (k := k) (sz := 9) rfl Tryd.underlying22 (by kernel_rfl) (by kernel_rfl) hp2 (by kernel_rfl) (by omega)) ?_
      refine lv (v := bxV b2) rfl rfl (yb_olds (off := f2 + k * 9) (cs := (bxC b2).toList) rfl (by kernel_rfl) hc2 lt2 Tryd.underlying26 rfl (by kernel_rfl)) ?_
      refine wpL_new (fun g => .pointer (some ⟨g, 0, none⟩)) (obi := .cells #[.int .i64 0, strV [], .int .u8 0, .bool false, .int .i64 0, .int .i64 0, .int .i64 0, .int .u8 0, .bool false] 26 (0, 0)) rfl rfl (fun _ => by kernel_rfl) (fun _ => by simp only [List.setIfInBounds_toArray, List.set_cons_succ, List.set_cons_zero] <;> rfl) fun g3 Bg3 Fg3 => ?_
      obtain dj4_0 : g1 ≠ g3 := by simpa only [dj_app_l, dj_app_r, dj_cons_l, dj_cons_r, dj_nil_l, dj_nil_r, dk_app, dk_cons, dk_nil, and_true, true_and, and_assoc] using (show Dk g3 [(g1, .cells #[.int .i64 0, strV [], .int .u8 0, .bool false, .int .i64 0, .int .i64 0, .int .i64 0, .int .u8 0, .bool false] 26 (0, 0))] from Fg3)
      refine wpL_s [(g3, .cells (bxC b2) 26 (0, 0)), (g1, .cells #[.int .i64 0, strV [], .int .u8 0, .bool false, .int .i64 0, .int .i64 0, .int .i64 0, .int .u8 0, .bool false] 26 (0, 0))] rfl rfl (st_bx (b := b2) rfl (by kernel_rfl) (by kernel_rfl) (.head _) rfl Bg3 (by kernel_rfl) (List.forall_mem_cons.2 ⟨.inl rfl, (List.forall_mem_cons.2 ⟨.inr ⟨(.tail _ (.head _)), (by first | assumption | exact Ne.symm (by assumption))⟩, (List.forall_mem_nil _)⟩)⟩)) ?_
      refine wpL_done (fun W6 hW6 => ?_)
      refine (show Code.wp _ _ _ _ _ from ?_)
      refine wp_seq ?_
      refine wp_region_L (W0 := w) [(g3, .cells (bxC b2) 26 (0, 0)), (g1, .cells #[.int .i64 0, strV [], .int .u8 0, .bool false, .int .i64 0, .int .i64 0, .int .i64 0, .int .u8 0, .bool false] 26 (0, 0))] (hW6) ?_
      refine lm (v := .pointer (some ⟨g3, 0, none⟩)) rfl rfl ?_
      refine lv (v := .int .i64 b2.id) rfl rfl (yb_cell (off := 0) rfl (by kernel_rfl) (.head _) Tryd.underlying3 rfl (by kernel_rfl)) ?_
      refine lm (v := .int .i64 n) rfl rfl ?_
      refine lp (v := .bool (decide (b2.id = n))) rfl rfl (run_bin rfl (vx := (.int .i64 b2.id)) (vy := (.int .i64 n)) (by kernel_rfl) (by kernel_rfl) fun w => bi_eql rfl w) ?_
      refine wpL_done (fun W7 hW7 => ?_)
      refine (show Code.wp _ _ _ _ _ from ?_)
      cases hd2 : (decide (b2.id = n)) with
      | false =>
        have h2 : ¬ (b2.id = n) := of_decide_eq_false hd2
        clear hd2
        refine wp_cond_false rfl ?_
        refine wp_skip ?_
        refine (show Code.wp _ _ _ _ _ from ?_)
        refine wp_region_L (W0 := w) [(g3, .cells (bxC b2) 26 (0, 0)), (g1, .cells #[.int .i64 0, strV [], .int .u8 0, .bool false, .int .i64 0, .int .i64 0, .int .i64 0, .int .u8 0, .bool false] 26 (0, 0))] (hW7) ?_
        refine lp (v := .int .i64 (((k + 1) : Nat) : Int)) rfl rfl (run_bin rfl (vx := (.int .i64 ((k : Nat) : Int))) (vy := (.int .i64 ((1 : Nat) : Int))) (by kernel_rfl) (by kernel_rfl) fun w => bn_add (z := (k + 1)) rfl (wr_i64 (by omega)) w) ?_
        refine lm (v := .int .i64 (((k + 1) : Nat) : Int)) rfl rfl ?_
        refine wpL_done (fun W8 hW8 => ?_)
        go_roundw
        case rel =>
          repeat apply Exists.intro
          exact ⟨⟨k + 1, (by omega), (find_on hf hy2 (decide_eq_false h2)), rfl, (hW8.sub (fun p hp => by first | exact hp | (simp only [List.mem_cons, List.mem_append, List.nil_append, List.not_mem_nil, or_assoc, or_false, false_or] at hp ⊢ <;> grind)))⟩, rfl⟩
        case measure => (show l.length - (intOf (.int .i64 (((k + 1) : Nat) : Int))).toNat < l.length - (intOf (.int .i64 ((k : Nat) : Int))).toNat); simp only [intOf]; omega
      | true =>
        have h2 : b2.id = n := of_decide_eq_true hd2
        clear hd2
        refine wp_cond_true rfl ?_
        refine wp_seq ?_
        refine wp_region_L (W0 := w) [(g3, .cells (bxC b2) 26 (0, 0)), (g1, .cells #[.int .i64 0, strV [], .int .u8 0, .bool false, .int .i64 0, .int .i64 0, .int .i64 0, .int .u8 0, .bool false] 26 (0, 0))] (hW7) ?_
        refine lv (v := bxV b2) rfl rfl (yb_load (n := 9) (off := 0) rfl (by kernel_rfl) (.head _) Tryd.underlying26 rfl (by kernel_rfl) (Nat.le_refl 9) (by kernel_rfl)) ?_
        refine wpL_s [(g3, .cells (bxC b2) 26 (0, 0)), (g1, .cells (bxC b2) 26 (0, 0))] rfl rfl (st_bx (b := b2) rfl (by kernel_rfl) (by kernel_rfl) (.tail _ (.head _)) rfl Bg1 (by kernel_rfl) (List.forall_mem_cons.2 ⟨.inr ⟨(.head _), (by first | assumption | exact Ne.symm (by assumption))⟩, (List.forall_mem_cons.2 ⟨.inl rfl, (List.forall_mem_nil _)⟩)⟩)) ?_
        refine lm (v := .bool true) rfl rfl ?_
        refine wpL_done (fun W9 hW9 => ?_)
        refine (show Code.wp _ _ _ _ _ from ?_)
        refine wp_ret ?_
        try simp only [inBlock_ret, then_ret]
        refine bodyPost_ret (v := .tuple #[.agg #[.int .i64 b2.id, strV b2.num, .int .u8 ((b2.size : Nat) : Int), .bool b2.high, .int .i64 b2.kilos, .int .i64 b2.load, .int .i64 b2.dis, .int .u8 ((b2.cls : Nat) : Int), .bool b2.rf], .bool true]) ?_ rfl ?_
        · exact (res_cell_tmp (p := 4) (q := 5) rfl rfl (hW9.2 _ (.tail _ (.head _))) Tryd.underlying26 rfl (by kernel_rfl))
        · exact ⟨(ret_v (by unfold findX; rw [find_at hf hy2 (decide_eq_true h2)]; rfl)), hW9.1⟩
set_option maxRecDepth 100000 in
set_option maxHeartbeats 4000000 in
theorem Numbered_any (l : List Bx) (p : Option Addr) (c : Nat) (n : List UInt8) (hl : l.length ≤ 4000000000) (w : World) (hp : SLV w p (bcs l)) : Calls Tryd.prog 31 #[.slice p l.length c, strV n] w fun e w' => e = .returned (numV (numberedX l n)) ∧ Below w.heap.size w w' := by
  have HP := Lib.hid hp
  clear hp
  go_enter Tryd.func31, Tryd.ntmps31
  refine wp_seq ?_
  refine wp_region_L (W0 := w) [] (KS.start w) ?_
  refine lm (v := .int .i64 0) rfl rfl ?_
  refine lm (v := .bool false) rfl rfl ?_
  refine wpL_done (fun W1 hW1 => ?_)
  refine (show Code.wp _ _ _ _ _ from ?_)
  refine wp_seq ?_
  refine wp_seq ?_
  refine wp_region_L (W0 := w) [] (hW1) ?_
  refine lm (v := strV n) rfl rfl ?_
  refine lp (v := .bool (decide (n = []))) rfl rfl (run_bin rfl (vx := strV n) (vy := strV []) (by kernel_rfl) (by kernel_rfl) fun w => bs_eql rfl w) ?_
  refine wpL_done (fun W2 hW2 => ?_)
  refine (show Code.wp _ _ _ _ _ from ?_)
  cases hd1 : (decide (n = [])) with
  | false =>
    have h1 : ¬ (n = []) := of_decide_eq_false hd1
    clear hd1
    refine wp_cond_false rfl ?_
    refine wp_skip ?_
    refine (show Code.wp _ _ _ _ _ from ?_)
    refine wp_seq ?_
    refine wp_seq ?_
    refine wp_region_L (W0 := w) [] (hW2) ?_
    refine lm (v := .slice p l.length c) rfl rfl ?_
    refine lp (v := .int .i64 ((l.length : Nat) : Int)) rfl rfl (run_lenL (p := p) (cap := c) (n := l.length) rfl Tryd.underlying22 (by kernel_rfl)) ?_
    refine lm (v := .int .i64 0) rfl rfl ?_
    refine wpL_done (fun W3 hW3 => ?_)
    refine (show Code.wp _ _ _ _ _ from ?_)
    refine wp_block ?_
    go_loopw [12] (fun u12 wr => ∃ (k : Nat), (k ≤ l.length) ∧ ((l.take k).find? (numIs n) = none) ∧ u12 = .int .i64 ((k : Nat) : Int) ∧ KS w [] wr) (fun u12 _ => l.length - (intOf u12).toNat)
    case atStart => exact ⟨0, (Nat.zero_le _), rfl, rfl, (hW3.sub (fun p hp => by first | exact hp | (simp only [List.mem_cons, List.mem_append, List.nil_append, List.not_mem_nil, or_assoc, or_false, false_or] at hp ⊢ <;> grind)))⟩
    case round =>
      obtain ⟨k, hk, hf, rfl, hL4⟩ := hrel
      refine wp_seq ?_
      refine wp_region_L (W0 := w) [] (hL4) ?_
      refine lp (v := .bool (decide (k < l.length))) rfl rfl (run_bin rfl (vx := (.int .i64 ((k : Nat) : Int))) (vy := (.int .i64 ((l.length : Nat) : Int))) (by kernel_rfl) (by kernel_rfl) fun w => bn_lss rfl w) ?_
      refine wpL_done (fun W5 hW5 => ?_)
      refine (show Code.wp _ _ _ _ _ from ?_)
      refine wp_seq ?_
      cases hd2 : (decide (k < l.length)) with
      | false =>
        have h2 : ¬ (k < l.length) := of_decide_eq_false hd2
        clear hd2
        refine wp_cond_false rfl ?_
        refine wp_exit ?_
        refine (show Code.wp _ _ _ _ _ from ?_)
        refine wp_seq ?_
        refine wp_region_L (W0 := w) [] (hW5) ?_
        refine lm (v := .int .i64 0) rfl rfl ?_
        refine lm (v := .bool false) rfl rfl ?_
        refine wpL_done (fun W6 hW6 => ?_)
        refine (show Code.wp _ _ _ _ _ from ?_)
        refine wp_ret ?_
        try simp only [inBlock_ret, then_ret]
        refine bodyPost_ret (v := .tuple #[.int .i64 0, .bool false]) ?_ rfl ?_
        · kernel_rfl
        · exact ⟨(ret_v (by unfold numberedX; rw [if_neg h1, find_end hf h2]; rfl)), hW6.1⟩
      | true =>
        have h2 : k < l.length := of_decide_eq_true hd2
        clear hd2
        refine wp_cond_true rfl ?_
        refine wp_skip ?_
        refine (show Code.wp _ _ _ _ _ from ?_)
        refine wp_seq ?_
        refine wp_block ?_
        refine wp_seq ?_
        refine wp_region_L (W0 := w) [] (hW5) ?_
        obtain ⟨b1, g1_, f1, hy1, hp1, lt1, hc1⟩ := bl_at (k := k) HP.out (by omega)
        refine lp (v := .pointer (some ⟨g1_, f1 + k * 9, none⟩)) rfl rfl (run_idxQ (p := p) (cap := c) (n := l.length) (j := .i64) (k := k) (sz := 9) rfl Tryd.underlying22 (by kernel_rfl) (by kernel_rfl) hp1 (by kernel_rfl) (by omega)) ?_
        refine lv (v := bxV b1) rfl rfl (yb_olds (off := f1 + k * 9) (cs := (bxC b1).toList) rfl (by kernel_rfl) hc1 lt1 Tryd.underlying26 rfl (by kernel_rfl)) ?_
        refine wpL_new (fun g => .pointer (some ⟨g, 0, none⟩)) (obi := .cells #[.int .i64 0, strV [], .int .u8 0, .bool false, .int .i64 0, .int .i64 0, .int .i64 0, .int .u8 0, .bool false] 26 (0, 0)) rfl rfl (fun _ => by kernel_rfl) (fun _ => by simp only [List.setIfInBounds_toArray, List.set_cons_succ, List.set_cons_zero] <;> rfl) fun g2 Bg2 Fg2 => ?_
        refine wpL_s [(g2, .cells (bxC b1) 26 (0, 0))] rfl rfl (st_bx (b := b1) rfl (by kernel_rfl) (by kernel_rfl) (.head _) rfl Bg2 (by kernel_rfl) (List.forall_mem_cons.2 ⟨.inl rfl, (List.forall_mem_nil _)⟩)) ?_
        refine wpL_done (fun W7 hW7 => ?_)
        refine (show Code.wp _ _ _ _ _ from ?_)
        refine wp_seq ?_
        refine wp_region_L (W0 := w) [(g2, .cells (bxC b1) 26 (0, 0))] (hW7) ?_
        refine lm (v := .pointer (some ⟨g2, 1, none⟩)) rfl rfl ?_
        refine lv (v := strV b1.num) rfl rfl (yb_cell (off := 1) rfl (by kernel_rfl) (.head _) Tryd.underlying9 rfl (by kernel_rfl)) ?_
        refine lm (v := strV n) rfl rfl ?_
        refine lp (v := .bool (decide (b1.num = n))) rfl rfl (run_bin rfl (vx := strV b1.num) (vy := strV n) (by kernel_rfl) (by kernel_rfl) fun w => bs_eql rfl w) ?_
        refine wpL_done (fun W8 hW8 => ?_)
        refine (show Code.wp _ _ _ _ _ from ?_)
        cases hd3 : (decide (b1.num = n)) with
        | false =>
          have h3 : ¬ (b1.num = n) := of_decide_eq_false hd3
          clear hd3
          refine wp_cond_false rfl ?_
          refine wp_skip ?_
          refine (show Code.wp _ _ _ _ _ from ?_)
          refine wp_region_L (W0 := w) [(g2, .cells (bxC b1) 26 (0, 0))] (hW8) ?_
          refine lp (v := .int .i64 (((k + 1) : Nat) : Int)) rfl rfl (run_bin rfl (vx := (.int .i64 ((k : Nat) : Int))) (vy := (.int .i64 ((1 : Nat) : Int))) (by kernel_rfl) (by kernel_rfl) fun w => bn_add (z := (k + 1)) rfl (wr_i64 (by omega)) w) ?_
          refine lm (v := .int .i64 (((k + 1) : Nat) : Int)) rfl rfl ?_
          refine wpL_done (fun W9 hW9 => ?_)
          go_roundw
          case rel =>
            repeat apply Exists.intro
            exact ⟨⟨k + 1, (by omega), (find_on hf hy1 (decide_eq_false h3)), rfl, (hW9.sub (fun p hp => by first | exact hp | (simp only [List.mem_cons, List.mem_append, List.nil_append, List.not_mem_nil, or_assoc, or_false, false_or] at hp ⊢ <;> grind)))⟩, rfl⟩
          case measure => (show l.length - (intOf (.int .i64 (((k + 1) : Nat) : Int))).toNat < l.length - (intOf (.int .i64 ((k : Nat) : Int))).toNat); simp only [intOf]; omega
        | true =>
          have h3 : b1.num = n := of_decide_eq_true hd3
          clear hd3
          refine wp_cond_true rfl ?_
          refine wp_seq ?_
          refine wp_region_L (W0 := w) [(g2, .cells (bxC b1) 26 (0, 0))] (hW8) ?_
          refine lm (v := .pointer (some ⟨g2, 0, none⟩)) rfl rfl ?_
          refine lv (v := .int .i64 b1.id) rfl rfl (yb_cell (off := 0) rfl (by kernel_rfl) (.head _) Tryd.underlying3 rfl (by kernel_rfl)) ?_
          refine lm (v := .int .i64 b1.id) rfl rfl ?_
          refine lm (v := .bool true) rfl rfl ?_
          refine wpL_done (fun W10 hW10 => ?_)
          refine (show Code.wp _ _ _ _ _ from ?_)
          refine wp_ret ?_
          try simp only [inBlock_ret, then_ret]
          refine bodyPost_ret (v := .tuple #[.int .i64 b1.id, .bool true]) ?_ rfl ?_
          · kernel_rfl
          · exact ⟨(ret_v (by unfold numberedX; rw [if_neg h1, find_at hf hy1 (decide_eq_true h3)]; rfl)), hW10.1⟩
  | true =>
    have h1 : n = [] := of_decide_eq_true hd1
    clear hd1
    refine wp_cond_true rfl ?_
    refine wp_seq ?_
    refine wp_region_L (W0 := w) [] (hW2) ?_
    refine lm (v := .int .i64 0) rfl rfl ?_
    refine lm (v := .bool false) rfl rfl ?_
    refine wpL_done (fun W11 hW11 => ?_)
    refine (show Code.wp _ _ _ _ _ from ?_)
    refine wp_ret ?_
    try simp only [inBlock_ret, then_ret]
    refine bodyPost_ret (v := .tuple #[.int .i64 0, .bool false]) ?_ rfl ?_
    · kernel_rfl
    · exact ⟨(ret_v (by unfold numberedX; rw [if_pos h1]; rfl)), hW11.1⟩
end Go.Proofs.YtllmpemmknblaaaDoor
