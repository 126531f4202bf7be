import Derived.Test.YtbceajgipmjmlaaDoorG02
/- IsoKinds: the law holds for every input; no condition but the row's own. -/
set_option linter.unusedVariables false
set_option linter.unusedSimpArgs false
set_option linter.unusedSectionVars false
namespace Go.Proofs.YtbceajgipmjmlaaDoor
open Go Go.RowKit Tw
theorem ne_kind2 {x0 y0 : Nat} {x1 y1 : Bool} {x2 y2 : Bool} {e : Bool} {px py : Operand} (h : decide (x0 = y0 ∧ x1 = y1 ∧ x2 = y2) = e) (w : World) : (do eqGuard .neq 26 px py (.agg #[.int .u8 ((x0 : Nat) : Int), .bool x1, .bool x2]) (.agg #[.int .u8 ((y0 : Nat) : Int), .bool y1, .bool y2]); binOp .neq 26 (.agg #[.int .u8 ((x0 : Nat) : Int), .bool x1, .bool x2]) (.agg #[.int .u8 ((y0 : Nat) : Int), .bool y1, .bool y2]) : Sem Value).run Tryd.prog w = .ok (.bool (!e)) w := by
  subst h
  go_simp
  have e0 : ((x0 : Int) = (y0 : Int)) = (x0 = y0) := by apply propext; omega
  simp only [e0]
  by_cases h0 : x0 = y0 <;> by_cases h1 : x1 = y1 <;> by_cases h2 : x2 = y2 <;> simp [h0, h1, h2]
theorem size_at (W : World) (hE : Env W) {l : List UInt8} {v : Value} (h : sizeV l = v) : Calls Tryd.prog 26 #[strV l] W fun e w' => e = .returned v ∧ Below W.heap.size W w' := h ▸ Size_any l W hE
theorem code_at (W : World) (hE : Env W) {n : Nat} {h r : Bool} {v : Value} (hv : codeV n h r = v) : Calls Tryd.prog 25 #[.agg #[.int .u8 ((n : Nat) : Int), .bool h, .bool r]] W fun e w' => e = .returned v ∧ Below W.heap.size W w' := hv ▸ Code_any n h r W hE
set_option maxRecDepth 100000 in
set_option maxHeartbeats 40000000 in
theorem IsoKinds_law (w : World) (hE : Env w) (l0 : List UInt8) (rr0 : l0.length ≤ 281474976710656) (a1 : Int) (rr1 : 0 ≤ a1 ∧ a1 ≤ 255) (h r : Bool) : Calls Tryd.prog 9 #[strV l0, .int .u8 a1, .bool h, .bool r] w fun e w' => e = .returned (.bool true) ∧ Below w.heap.size w w' := by
  have HE := Lib.hid hE
  clear hE
  obtain ⟨n, rfl⟩ : ∃ n : Nat, a1 = (n : Int) := ⟨a1.toNat, by omega⟩
  go_enter Tryd.func9, Tryd.ntmps9
  refine wp_seq ?_
  refine wp_region_L (W0 := w) [] (KS.start w) ?_
  refine lm (v := .bool false) rfl rfl ?_
  refine wpL_done (fun W1 hW1 => ?_)
  refine (show Code.wp _ _ _ _ _ from ?_)
  refine wp_seq ?_
  refine wp_seq ?_
  refine wp_region_L (W0 := w) [] (hW1) ?_
  refine lv (v := .bool true) rfl rfl (yb_call (f := 12) (args := #[]) (fun _ => by kernel_rfl) fun W hW => awake_any W (HE.out.keep hW.1)) ?_
  refine lm (v := .bool false) rfl rfl ?_
  refine wpL_done (fun W2 hW2 => ?_)
  refine (show Code.wp _ _ _ _ _ from ?_)
  refine wp_cond_false rfl ?_
  refine wp_skip ?_
  refine (show Code.wp _ _ _ _ _ from ?_)
  refine wp_seq ?_
  refine wp_region_L (W0 := w) [] (hW2) ?_
  refine lm (v := .int .u8 ((n : Nat) : Int)) rfl rfl ?_
  refine lm (v := .bool h) rfl rfl ?_
  refine lm (v := .bool r) rfl rfl ?_
  refine lm (v := .agg #[.int .u8 ((n : Nat) : Int), .bool h, .bool r]) rfl rfl ?_
  refine wpL_new (fun g => .pointer (some ⟨g, 0, none⟩)) (obi := .cells #[.int .u8 0, .bool false, .bool false] 26 (0, 0)) rfl rfl (fun _ => by kernel_rfl) (fun _ => by simp only [List.setIfInBounds_toArray, List.set_cons_succ, List.set_cons_zero] <;> rfl) fun g1 Bg1 Fg1 => ?_
  refine wpL_s [(g1, .cells #[.int .u8 ((n : Nat) : Int), .bool h, .bool r] 26 (0, 0))] rfl rfl (st_row (off := 0) (v := .agg #[.int .u8 ((n : Nat) : Int), .bool h, .bool r]) rfl (by kernel_rfl) (by kernel_rfl) (.head _) Bg1 (by kernel_rfl) (by simp [Value.cells]) (by intro v hv; simp [Value.cells] at hv; first | (subst hv; rfl) | (rcases hv with rfl | rfl | rfl <;> rfl)) (by kernel_rfl) (List.forall_mem_cons.2 ⟨.inl rfl, (List.forall_mem_nil _)⟩)) ?_
  refine wpL_done (fun W3 hW3 => ?_)
  refine (show Code.wp _ _ _ _ _ from ?_)
  refine wp_joins (JoinR (fun z => List.toArray ((strV l0) :: z 1 :: z 2 :: z 3 :: z 4 :: z 5 :: z 6 :: z 7 :: z 8 :: z 9 :: z 10 :: z 11 :: z 12 :: z 13 :: z 14 :: z 15 :: z 16 :: z 17 :: z 18 :: z 19 :: z 20 :: z 21 :: z 22 :: z 23 :: z 24 :: z 25 :: z 26 :: z 27 :: z 28 :: z 29 :: z 30 :: z 31 :: z 32 :: z 33 :: z 34 :: z 35 :: z 36 :: z 37 :: z 38 :: z 39 :: z 40 :: z 41 :: z 42 :: z 43 :: z 44 :: z 45 :: z 46 :: z 47 :: z 48 :: z 49 :: z 50 :: z 51 :: z 52 :: z 53 :: z 54 :: z 55 :: z 56 :: z 57 :: z 58 :: z 59 :: z 60 :: z 61 :: z 62 :: z 63 :: z 64 :: z 65 :: z 66 :: z 67 :: z 68 :: z 69 :: z 70 :: z 71 :: z 72 :: z 73 :: z 74 :: z 75 :: z 76 :: z 77 :: z 78 :: z 79 :: z 80 :: z 81 :: z 82 :: z 83 :: z 84 :: z 85 :: z 86 :: z 87 :: z 88 :: z 89 :: z 90 :: z 91 :: z 92 :: z 93 :: z 94 :: z 95 :: z 96 :: z 97 :: z 98 :: z 99 :: z 100 :: z 101 :: z 102 :: z 103 :: z 104 :: z 105 :: z 106 :: z 107 :: z 108 :: z 109 :: z 110 :: z 111 :: z 112 :: z 113 :: z 114 :: [])) w [(g1, .cells #[.int .u8 ((n : Nat) : Int), .bool h, .bool r] 26 (0, 0))]) 3 ?_ ?_
  · refine (show Code.wp _ _ _ _ _ from ?_)
    refine wp_region_L (W0 := w) [(g1, .cells #[.int .u8 ((n : Nat) : Int), .bool h, .bool r] 26 (0, 0))] (hW3) ?_
    refine lv (v := .agg #[.int .u8 ((n : Nat) : Int), .bool h, .bool r]) rfl rfl (yb_load (n := 3) (off := 0) rfl (by kernel_rfl) (.head _) Tryd.underlying26 rfl (by kernel_rfl) (by simp) (by kernel_rfl)) ?_
    cases hd1 : (decide (20 = n ∧ false = h ∧ false = r)) with
    | false =>
      have h1 : ¬ (20 = n ∧ false = h ∧ false = r) := of_decide_eq_false hd1
      clear hd1
      cases hd2 : (decide (20 = n ∧ false = h ∧ true = r)) with
      | false =>
        have h2 : ¬ (20 = n ∧ false = h ∧ true = r) := of_decide_eq_false hd2
        clear hd2
        cases hd3 : (decide (40 = n ∧ false = h ∧ false = r)) with
        | false =>
          have h3 : ¬ (40 = n ∧ false = h ∧ false = r) := of_decide_eq_false hd3
          clear hd3
          cases hd4 : (decide (40 = n ∧ false = h ∧ true = r)) with
          | false =>
            have h4 : ¬ (40 = n ∧ false = h ∧ true = r) := of_decide_eq_false hd4
            clear hd4
            cases hd5 : (decide (40 = n ∧ true = h ∧ false = r)) with
            | false =>
              have h5 : ¬ (40 = n ∧ true = h ∧ false = r) := of_decide_eq_false hd5
              clear hd5
              cases hd6 : (decide (40 = n ∧ true = h ∧ true = r)) with
              | false =>
                have h6 : ¬ (40 = n ∧ true = h ∧ true = r) := of_decide_eq_false hd6
                clear hd6
                have hn40 : ¬ (n = 40) := by rintro rfl; cases h <;> cases r <;> simp at h1 h2 h3 h4 h5 h6
                have hn20 : ¬ (n = 20 ∧ h = false) := by rintro ⟨rfl, rfl⟩; cases r <;> simp at h1 h2 h3 h4 h5 h6
                refine lv (v := .tuple #[strV [], .int .i64 32]) rfl rfl (yb_call (f := 25) (args := #[.agg #[.int .u8 ((n : Nat) : Int), .bool h, .bool r]]) (fun _ => by kernel_rfl) fun W hW => code_at (n := n) (h := h) (r := r) W (HE.out.keep hW.1) (by unfold codeV; rw [if_neg h1, if_neg h2, if_neg h3, if_neg h4, if_neg h5, if_neg h6])) ?_
                refine lm (v := .tuple #[strV [], .int .i64 32]) rfl rfl ?_
                refine lm (v := strV []) rfl rfl ?_
                refine lm (v := .int .i64 32) rfl rfl ?_
                refine lm (v := strV []) rfl rfl ?_
                refine lm (v := .int .i64 32) rfl rfl ?_
                refine wpL_done (fun W4 hW4 => ?_)
                refine (show Code.wp _ _ _ _ _ from ?_)
                refine wp_region_L (W0 := w) [(g1, .cells #[.int .u8 ((n : Nat) : Int), .bool h, .bool r] 26 (0, 0))] (hW4) ?_
                refine lm (v := strV []) rfl rfl ?_
                refine lv (v := .tuple #[.agg #[.int .u8 0, .bool false, .bool false], .int .i64 32]) rfl rfl (yb_call (f := 26) (args := #[strV []]) (fun _ => by kernel_rfl) fun W hW => size_at W (HE.out.keep hW.1) (by kernel_rfl)) ?_
                refine lm (v := .tuple #[.agg #[.int .u8 0, .bool false, .bool false], .int .i64 32]) rfl rfl ?_
                refine lm (v := .agg #[.int .u8 0, .bool false, .bool false]) rfl rfl ?_
                refine lm (v := .int .i64 32) rfl rfl ?_
                refine wpL_new (fun g => .pointer (some ⟨g, 0, none⟩)) (obi := .cells #[.int .u8 0, .bool false, .bool false] 26 (0, 0)) rfl rfl (fun _ => by kernel_rfl) (fun _ => by simp only [List.setIfInBounds_toArray, List.set_cons_succ, List.set_cons_zero] <;> rfl) fun g2 Bg2 Fg2 => ?_
                refine wpL_s [(g2, .cells #[.int .u8 0, .bool false, .bool false] 26 (0, 0)), (g1, .cells #[.int .u8 ((n : Nat) : Int), .bool h, .bool r] 26 (0, 0))] rfl rfl (st_row (off := 0) (v := .agg #[.int .u8 0, .bool false, .bool false]) rfl (by kernel_rfl) (by kernel_rfl) (.head _) Bg2 (by kernel_rfl) (by simp [Value.cells]) (by intro v hv; simp [Value.cells] at hv; first | (subst hv; rfl) | (rcases hv with rfl | rfl | rfl <;> rfl)) (by kernel_rfl) (List.forall_mem_cons.2 ⟨.inl rfl, (List.forall_mem_cons.2 ⟨.inr ⟨(.tail _ (.head _)), (Fg2 _ (.head _))⟩, (List.forall_mem_nil _)⟩)⟩)) ?_
                refine lm (v := .int .i64 32) rfl rfl ?_
                refine wpL_done (fun W5 hW5 => ?_)
                refine (show Code.wp _ _ _ _ _ from ?_)
                refine wp_seq ?_
                refine wp_region_L (W0 := w) [(g2, .cells #[.int .u8 0, .bool false, .bool false] 26 (0, 0)), (g1, .cells #[.int .u8 ((n : Nat) : Int), .bool h, .bool r] 26 (0, 0))] (hW5) ?_
                refine lm (v := .int .i64 32) rfl rfl ?_
                refine lm (v := .bool false) rfl rfl ?_
                refine lm (v := .bool false) rfl rfl ?_
                refine ln rfl ?_
                refine ln rfl ?_
                refine ln rfl ?_
                refine ln rfl ?_
                refine ln rfl ?_
                refine ln rfl ?_
                refine ln rfl ?_
                refine ln rfl ?_
                refine ln rfl ?_
                refine ln rfl ?_
                refine ln rfl ?_
                refine ln rfl ?_
                refine ln rfl ?_
                refine ln rfl ?_
                refine ln rfl ?_
                refine ln rfl ?_
                refine ln rfl ?_
                refine ln rfl ?_
                refine ln rfl ?_
                refine ln rfl ?_
                refine ln rfl ?_
                refine ln rfl ?_
                refine ln rfl ?_
                refine ln rfl ?_
                refine ln rfl ?_
                refine ln rfl ?_
                refine ln rfl ?_
                refine lm (v := .bool false) rfl rfl ?_
                refine lm (v := .bool false) rfl rfl ?_
                refine lm (v := .int .i64 32) rfl rfl ?_
                refine lm (v := .bool true) rfl rfl ?_
                refine lm (v := .bool true) rfl rfl ?_
                refine lm (v := .int .i64 32) rfl rfl ?_
                refine lm (v := .bool false) rfl rfl ?_
                refine lm (v := .bool false) rfl rfl ?_
                refine lm (v := strV []) rfl rfl ?_
                refine lp (v := .bool false) rfl rfl (run_bin rfl (vx := strV []) (vy := strV []) (by kernel_rfl) (by kernel_rfl) fun w => bs_neq (decide_eq_true rfl) w) ?_
                refine lm (v := .bool false) rfl rfl ?_
                refine lm (v := .bool false) rfl rfl ?_
                refine lm (v := .int .u8 ((n : Nat) : Int)) rfl rfl ?_
                refine lp (v := .bool (decide (n = 20))) rfl rfl (run_bin rfl (vx := (.int .u8 ((n : Nat) : Int))) (vy := (.int .u8 ((20 : Nat) : Int))) (by kernel_rfl) (by kernel_rfl) fun w => bn_eql rfl w) ?_
                refine lm (v := .bool (decide (n = 20))) rfl rfl ?_
                cases hd7 : (decide (n = 20)) with
                | false =>
                  have h7 : ¬ (n = 20) := of_decide_eq_false hd7
                  clear hd7
                  refine ln rfl ?_
                  refine ln rfl ?_
                  refine lm (v := .bool false) rfl rfl ?_
                  refine lm (v := .bool false) rfl rfl ?_
                  refine lm (v := .int .u8 ((n : Nat) : Int)) rfl rfl ?_
                  refine lp (v := .bool false) rfl rfl (run_bin rfl (vx := (.int .u8 ((n : Nat) : Int))) (vy := (.int .u8 ((40 : Nat) : Int))) (by kernel_rfl) (by kernel_rfl) fun w => bn_eql (decide_eq_false hn40) w) ?_
                  refine lm (v := .bool false) rfl rfl ?_
                  refine lm (v := .bool false) rfl rfl ?_
                  refine lm (v := .bool false) rfl rfl ?_
                  refine lm (v := .bool false) rfl rfl ?_
                  refine wpL_done (fun W6 hW6 => ?_)
                  refine (show Code.wp _ _ _ _ _ from ?_)
                  refine wp_cond_false rfl ?_
                  refine wp_skip ?_
                  exact join_mk (by kernel_rfl) (hW6.sub (fun p hp => (.tail _ hp)))
                | true =>
                  have h7 : n = 20 := of_decide_eq_true hd7
                  clear hd7
                  refine lm (v := .bool h) rfl rfl ?_
                  refine lp (v := .bool (!h)) rfl rfl (run_un rfl (by kernel_rfl) fun w => un_not w) ?_
                  refine lm (v := .bool (!h)) rfl rfl ?_
                  refine lm (v := .bool (!h)) rfl rfl ?_
                  cases h8 : h with
                  | false =>
                    exact absurd ⟨h7, h8⟩ hn20
                  | true =>
                    refine lm (v := .int .u8 ((n : Nat) : Int)) rfl rfl ?_
                    refine lp (v := .bool false) rfl rfl (run_bin rfl (vx := (.int .u8 ((n : Nat) : Int))) (vy := (.int .u8 ((40 : Nat) : Int))) (by kernel_rfl) (by kernel_rfl) fun w => bn_eql (decide_eq_false hn40) w) ?_
                    refine lm (v := .bool false) rfl rfl ?_
                    refine lm (v := .bool false) rfl rfl ?_
                    refine lm (v := .bool false) rfl rfl ?_
                    refine lm (v := .bool false) rfl rfl ?_
                    refine wpL_done (fun W7 hW7 => ?_)
                    refine (show Code.wp _ _ _ _ _ from ?_)
                    refine wp_cond_false rfl ?_
                    refine wp_skip ?_
                    exact join_mk (by kernel_rfl) (hW7.sub (fun p hp => (.tail _ hp)))
              | true =>
                have h6 : 40 = n ∧ true = h ∧ true = r := of_decide_eq_true hd6
                clear hd6
                obtain ⟨rfl, rfl, rfl⟩ := h6
                refine lv (v := .tuple #[strV [52, 53, 82, 49], .int .i64 0]) rfl rfl (yb_call (f := 25) (args := #[.agg #[.int .u8 40, .bool true, .bool true]]) (fun _ => by kernel_rfl) fun W hW => code_at (n := 40) (h := true) (r := true) W (HE.out.keep hW.1) (by kernel_rfl)) ?_
                refine lm (v := .tuple #[strV [52, 53, 82, 49], .int .i64 0]) rfl rfl ?_
                refine lm (v := strV [52, 53, 82, 49]) rfl rfl ?_
                refine lm (v := .int .i64 0) rfl rfl ?_
                refine lm (v := strV [52, 53, 82, 49]) rfl rfl ?_
                refine lm (v := .int .i64 0) rfl rfl ?_
                refine wpL_done (fun W8 hW8 => ?_)
                refine (show Code.wp _ _ _ _ _ from ?_)
                refine wp_region_L (W0 := w) [(g1, .cells #[.int .u8 40, .bool true, .bool true] 26 (0, 0))] (hW8) ?_
                refine lm (v := strV [52, 53, 82, 49]) rfl rfl ?_
                refine lv (v := .tuple #[.agg #[.int .u8 40, .bool true, .bool true], .int .i64 0]) rfl rfl (yb_call (f := 26) (args := #[strV [52, 53, 82, 49]]) (fun _ => by kernel_rfl) fun W hW => size_at W (HE.out.keep hW.1) (by kernel_rfl)) ?_
                refine lm (v := .tuple #[.agg #[.int .u8 40, .bool true, .bool true], .int .i64 0]) rfl rfl ?_
                refine lm (v := .agg #[.int .u8 40, .bool true, .bool true]) rfl rfl ?_
                refine lm (v := .int .i64 0) rfl rfl ?_
                refine wpL_new (fun g => .pointer (some ⟨g, 0, none⟩)) (obi := .cells #[.int .u8 0, .bool false, .bool false] 26 (0, 0)) rfl rfl (fun _ => by kernel_rfl) (fun _ => by simp only [List.setIfInBounds_toArray, List.set_cons_succ, List.set_cons_zero] <;> rfl) fun g3 Bg3 Fg3 => ?_
                refine wpL_s [(g3, .cells #[.int .u8 40, .bool true, .bool true] 26 (0, 0)), (g1, .cells #[.int .u8 40, .bool true, .bool true] 26 (0, 0))] rfl rfl (st_row (off := 0) (v := .agg #[.int .u8 40, .bool true, .bool true]) rfl (by kernel_rfl) (by kernel_rfl) (.head _) Bg3 (by kernel_rfl) (by simp [Value.cells]) (by intro v hv; simp [Value.cells] at hv; first | (subst hv; rfl) | (rcases hv with rfl | rfl | rfl <;> rfl)) (by kernel_rfl) (List.forall_mem_cons.2 ⟨.inl rfl, (List.forall_mem_cons.2 ⟨.inr ⟨(.tail _ (.head _)), (Fg3 _ (.head _))⟩, (List.forall_mem_nil _)⟩)⟩)) ?_
                refine lm (v := .int .i64 0) rfl rfl ?_
                refine wpL_done (fun W9 hW9 => ?_)
                refine (show Code.wp _ _ _ _ _ from ?_)
                refine wp_seq ?_
                refine wp_region_L (W0 := w) [(g3, .cells #[.int .u8 40, .bool true, .bool true] 26 (0, 0)), (g1, .cells #[.int .u8 40, .bool true, .bool true] 26 (0, 0))] (hW9) ?_
                refine lm (v := .int .i64 0) rfl rfl ?_
                refine lm (v := .bool true) rfl rfl ?_
                refine lm (v := .bool true) rfl rfl ?_
                refine lm (v := .int .i64 0) rfl rfl ?_
                refine lm (v := .bool false) rfl rfl ?_
                refine lm (v := .bool false) rfl rfl ?_
                refine lv (v := .agg #[.int .u8 40, .bool true, .bool true]) rfl rfl (yb_load (n := 3) (off := 0) rfl (by kernel_rfl) (.head _) Tryd.underlying26 rfl (by kernel_rfl) (by simp) (by kernel_rfl)) ?_
                refine lv (v := .agg #[.int .u8 40, .bool true, .bool true]) rfl rfl (yb_load (n := 3) (off := 0) rfl (by kernel_rfl) (.tail _ (.head _)) Tryd.underlying26 rfl (by kernel_rfl) (by simp) (by kernel_rfl)) ?_
                refine lp (v := .bool false) rfl rfl (run_bin rfl (vx := .agg #[.int .u8 ((40 : Nat) : Int), .bool true, .bool true]) (vy := .agg #[.int .u8 ((40 : Nat) : Int), .bool true, .bool true]) (by kernel_rfl) (by kernel_rfl) fun w => ne_kind2 (decide_eq_true (by simp)) w) ?_
                refine lm (v := .bool false) rfl rfl ?_
                refine lm (v := .bool false) rfl rfl ?_
                refine lm (v := strV [52, 53, 82, 49]) rfl rfl ?_
                refine lm (v := .int .i64 4) rfl rfl ?_
                refine lm (v := .bool false) rfl rfl ?_
                refine lm (v := .bool false) rfl rfl ?_
                refine lm (v := .bool false) rfl rfl ?_
                refine lm (v := .int .u8 40) rfl rfl ?_
                refine lm (v := .bool true) rfl rfl ?_
                refine lm (v := .bool true) rfl rfl ?_
                refine lm (v := .int .u8 40) rfl rfl ?_
                refine lm (v := .bool false) rfl rfl ?_
                refine lm (v := .bool false) rfl rfl ?_
                refine lm (v := .bool false) rfl rfl ?_
                refine lm (v := .bool false) rfl rfl ?_
                refine lm (v := .bool true) rfl rfl ?_
                refine lm (v := .bool true) rfl rfl ?_
                refine lm (v := .int .u8 40) rfl rfl ?_
                refine lm (v := .bool false) rfl rfl ?_
                refine lm (v := .bool false) rfl rfl ?_
                refine lm (v := .bool false) rfl rfl ?_
                refine lm (v := .bool false) rfl rfl ?_
                refine lm (v := .bool false) rfl rfl ?_
                refine lm (v := .int .i64 0) rfl rfl ?_
                refine lm (v := .bool false) rfl rfl ?_
                refine lm (v := .bool false) rfl rfl ?_
                refine ln rfl ?_
                refine ln rfl ?_
                refine ln rfl ?_
                refine ln rfl ?_
                refine ln rfl ?_
                refine ln rfl ?_
                refine ln rfl ?_
                refine ln rfl ?_
                refine ln rfl ?_
                refine ln rfl ?_
                refine ln rfl ?_
                refine ln rfl ?_
                refine ln rfl ?_
                refine ln rfl ?_
                refine ln rfl ?_
                refine ln rfl ?_
                refine ln rfl ?_
                refine ln rfl ?_
                refine lm (v := .bool false) rfl rfl ?_
                refine lm (v := .bool false) rfl rfl ?_
                refine wpL_done (fun W10 hW10 => ?_)
                refine (show Code.wp _ _ _ _ _ from ?_)
                refine wp_cond_false rfl ?_
                refine wp_skip ?_
                exact join_mk (by kernel_rfl) (hW10.sub (fun p hp => (.tail _ hp)))
            | true =>
              have h5 : 40 = n ∧ true = h ∧ false = r := of_decide_eq_true hd5
              clear hd5
              obtain ⟨rfl, rfl, rfl⟩ := h5
              refine lv (v := .tuple #[strV [52, 53, 71, 49], .int .i64 0]) rfl rfl (yb_call (f := 25) (args := #[.agg #[.int .u8 40, .bool true, .bool false]]) (fun _ => by kernel_rfl) fun W hW => code_at (n := 40) (h := true) (r := false) W (HE.out.keep hW.1) (by kernel_rfl)) ?_
              refine lm (v := .tuple #[strV [52, 53, 71, 49], .int .i64 0]) rfl rfl ?_
              refine lm (v := strV [52, 53, 71, 49]) rfl rfl ?_
              refine lm (v := .int .i64 0) rfl rfl ?_
              refine lm (v := strV [52, 53, 71, 49]) rfl rfl ?_
              refine lm (v := .int .i64 0) rfl rfl ?_
              refine wpL_done (fun W11 hW11 => ?_)
              refine (show Code.wp _ _ _ _ _ from ?_)
              refine wp_region_L (W0 := w) [(g1, .cells #[.int .u8 40, .bool true, .bool false] 26 (0, 0))] (hW11) ?_
              refine lm (v := strV [52, 53, 71, 49]) rfl rfl ?_
              refine lv (v := .tuple #[.agg #[.int .u8 40, .bool true, .bool false], .int .i64 0]) rfl rfl (yb_call (f := 26) (args := #[strV [52, 53, 71, 49]]) (fun _ => by kernel_rfl) fun W hW => size_at W (HE.out.keep hW.1) (by kernel_rfl)) ?_
              refine lm (v := .tuple #[.agg #[.int .u8 40, .bool true, .bool false], .int .i64 0]) rfl rfl ?_
              refine lm (v := .agg #[.int .u8 40, .bool true, .bool false]) rfl rfl ?_
              refine lm (v := .int .i64 0) rfl rfl ?_
              refine wpL_new (fun g => .pointer (some ⟨g, 0, none⟩)) (obi := .cells #[.int .u8 0, .bool false, .bool false] 26 (0, 0)) rfl rfl (fun _ => by kernel_rfl) (fun _ => by simp only [List.setIfInBounds_toArray, List.set_cons_succ, List.set_cons_zero] <;> rfl) fun g4 Bg4 Fg4 => ?_
              refine wpL_s [(g4, .cells #[.int .u8 40, .bool true, .bool false] 26 (0, 0)), (g1, .cells #[.int .u8 40, .bool true, .bool false] 26 (0, 0))] rfl rfl (st_row (off := 0) (v := .agg #[.int .u8 40, .bool true, .bool false]) rfl (by kernel_rfl) (by kernel_rfl) (.head _) Bg4 (by kernel_rfl) (by simp [Value.cells]) (by intro v hv; simp [Value.cells] at hv; first | (subst hv; rfl) | (rcases hv with rfl | rfl | rfl <;> rfl)) (by kernel_rfl) (List.forall_mem_cons.2 ⟨.inl rfl, (List.forall_mem_cons.2 ⟨.inr ⟨(.tail _ (.head _)), (Fg4 _ (.head _))⟩, (List.forall_mem_nil _)⟩)⟩)) ?_
              refine lm (v := .int .i64 0) rfl rfl ?_
              refine wpL_done (fun W12 hW12 => ?_)
              refine (show Code.wp _ _ _ _ _ from ?_)
              refine wp_seq ?_
              refine wp_region_L (W0 := w) [(g4, .cells #[.int .u8 40, .bool true, .bool false] 26 (0, 0)), (g1, .cells #[.int .u8 40, .bool true, .bool false] 26 (0, 0))] (hW12) ?_
              refine lm (v := .int .i64 0) rfl rfl ?_
              refine lm (v := .bool true) rfl rfl ?_
              refine lm (v := .bool true) rfl rfl ?_
              refine lm (v := .int .i64 0) rfl rfl ?_
              refine lm (v := .bool false) rfl rfl ?_
              refine lm (v := .bool false) rfl rfl ?_
              refine lv (v := .agg #[.int .u8 40, .bool true, .bool false]) rfl rfl (yb_load (n := 3) (off := 0) rfl (by kernel_rfl) (.head _) Tryd.underlying26 rfl (by kernel_rfl) (by simp) (by kernel_rfl)) ?_
              refine lv (v := .agg #[.int .u8 40, .bool true, .bool false]) rfl rfl (yb_load (n := 3) (off := 0) rfl (by kernel_rfl) (.tail _ (.head _)) Tryd.underlying26 rfl (by kernel_rfl) (by simp) (by kernel_rfl)) ?_
              refine lp (v := .bool false) rfl rfl (run_bin rfl (vx := .agg #[.int .u8 ((40 : Nat) : Int), .bool true, .bool false]) (vy := .agg #[.int .u8 ((40 : Nat) : Int), .bool true, .bool false]) (by kernel_rfl) (by kernel_rfl) fun w => ne_kind2 (decide_eq_true (by simp)) w) ?_
              refine lm (v := .bool false) rfl rfl ?_
              refine lm (v := .bool false) rfl rfl ?_
              refine lm (v := strV [52, 53, 71, 49]) rfl rfl ?_
              refine lm (v := .int .i64 4) rfl rfl ?_
              refine lm (v := .bool false) rfl rfl ?_
              refine lm (v := .bool false) rfl rfl ?_
              refine lm (v := .bool false) rfl rfl ?_
              refine lm (v := .int .u8 40) rfl rfl ?_
              refine lm (v := .bool true) rfl rfl ?_
              refine lm (v := .bool true) rfl rfl ?_
              refine lm (v := .int .u8 40) rfl rfl ?_
              refine lm (v := .bool false) rfl rfl ?_
              refine lm (v := .bool false) rfl rfl ?_
              refine lm (v := .bool false) rfl rfl ?_
              refine lm (v := .bool false) rfl rfl ?_
              refine lm (v := .bool true) rfl rfl ?_
              refine lm (v := .bool true) rfl rfl ?_
              refine lm (v := .int .u8 40) rfl rfl ?_
              refine lm (v := .bool false) rfl rfl ?_
              refine lm (v := .bool false) rfl rfl ?_
              refine lm (v := .bool false) rfl rfl ?_
              refine lm (v := .bool false) rfl rfl ?_
              refine lm (v := .bool false) rfl rfl ?_
              refine lm (v := .int .i64 0) rfl rfl ?_
              refine lm (v := .bool false) rfl rfl ?_
              refine lm (v := .bool false) rfl rfl ?_
              refine ln rfl ?_
              refine ln rfl ?_
              refine ln rfl ?_
              refine ln rfl ?_
              refine ln rfl ?_
              refine ln rfl ?_
              refine ln rfl ?_
              refine ln rfl ?_
              refine ln rfl ?_
              refine ln rfl ?_
              refine ln rfl ?_
              refine ln rfl ?_
              refine ln rfl ?_
              refine ln rfl ?_
              refine ln rfl ?_
              refine ln rfl ?_
              refine ln rfl ?_
              refine ln rfl ?_
              refine lm (v := .bool false) rfl rfl ?_
              refine lm (v := .bool false) rfl rfl ?_
              refine wpL_done (fun W13 hW13 => ?_)
              refine (show Code.wp _ _ _ _ _ from ?_)
              refine wp_cond_false rfl ?_
              refine wp_skip ?_
              exact join_mk (by kernel_rfl) (hW13.sub (fun p hp => (.tail _ hp)))
          | true =>
            have h4 : 40 = n ∧ false = h ∧ true = r := of_decide_eq_true hd4
            clear hd4
            obtain ⟨rfl, rfl, rfl⟩ := h4
            refine lv (v := .tuple #[strV [52, 50, 82, 49], .int .i64 0]) rfl rfl (yb_call (f := 25) (args := #[.agg #[.int .u8 40, .bool false, .bool true]]) (fun _ => by kernel_rfl) fun W hW => code_at (n := 40) (h := false) (r := true) W (HE.out.keep hW.1) (by kernel_rfl)) ?_
            refine lm (v := .tuple #[strV [52, 50, 82, 49], .int .i64 0]) rfl rfl ?_
            refine lm (v := strV [52, 50, 82, 49]) rfl rfl ?_
            refine lm (v := .int .i64 0) rfl rfl ?_
            refine lm (v := strV [52, 50, 82, 49]) rfl rfl ?_
            refine lm (v := .int .i64 0) rfl rfl ?_
            refine wpL_done (fun W14 hW14 => ?_)
            refine (show Code.wp _ _ _ _ _ from ?_)
            refine wp_region_L (W0 := w) [(g1, .cells #[.int .u8 40, .bool false, .bool true] 26 (0, 0))] (hW14) ?_
            refine lm (v := strV [52, 50, 82, 49]) rfl rfl ?_
            refine lv (v := .tuple #[.agg #[.int .u8 40, .bool false, .bool true], .int .i64 0]) rfl rfl (yb_call (f := 26) (args := #[strV [52, 50, 82, 49]]) (fun _ => by kernel_rfl) fun W hW => size_at W (HE.out.keep hW.1) (by kernel_rfl)) ?_
            refine lm (v := .tuple #[.agg #[.int .u8 40, .bool false, .bool true], .int .i64 0]) rfl rfl ?_
            refine lm (v := .agg #[.int .u8 40, .bool false, .bool true]) rfl rfl ?_
            refine lm (v := .int .i64 0) rfl rfl ?_
            refine wpL_new (fun g => .pointer (some ⟨g, 0, none⟩)) (obi := .cells #[.int .u8 0, .bool false, .bool false] 26 (0, 0)) rfl rfl (fun _ => by kernel_rfl) (fun _ => by simp only [List.setIfInBounds_toArray, List.set_cons_succ, List.set_cons_zero] <;> rfl) fun g5 Bg5 Fg5 => ?_
            refine wpL_s [(g5, .cells #[.int .u8 40, .bool false, .bool true] 26 (0, 0)), (g1, .cells #[.int .u8 40, .bool false, .bool true] 26 (0, 0))] rfl rfl (st_row (off := 0) (v := .agg #[.int .u8 40, .bool false, .bool true]) rfl (by kernel_rfl) (by kernel_rfl) (.head _) Bg5 (by kernel_rfl) (by simp [Value.cells]) (by intro v hv; simp [Value.cells] at hv; first | (subst hv; rfl) | (rcases hv with rfl | rfl | rfl <;> rfl)) (by kernel_rfl) (List.forall_mem_cons.2 ⟨.inl rfl, (List.forall_mem_cons.2 ⟨.inr ⟨(.tail _ (.head _)), (Fg5 _ (.head _))⟩, (List.forall_mem_nil _)⟩)⟩)) ?_
            refine lm (v := .int .i64 0) rfl rfl ?_
            refine wpL_done (fun W15 hW15 => ?_)
            refine (show Code.wp _ _ _ _ _ from ?_)
            refine wp_seq ?_
            refine wp_region_L (W0 := w) [(g5, .cells #[.int .u8 40, .bool false, .bool true] 26 (0, 0)), (g1, .cells #[.int .u8 40, .bool false, .bool true] 26 (0, 0))] (hW15) ?_
            refine lm (v := .int .i64 0) rfl rfl ?_
            refine lm (v := .bool true) rfl rfl ?_
            refine lm (v := .bool true) rfl rfl ?_
            refine lm (v := .int .i64 0) rfl rfl ?_
            refine lm (v := .bool false) rfl rfl ?_
            refine lm (v := .bool false) rfl rfl ?_
            refine lv (v := .agg #[.int .u8 40, .bool false, .bool true]) rfl rfl (yb_load (n := 3) (off := 0) rfl (by kernel_rfl) (.head _) Tryd.underlying26 rfl (by kernel_rfl) (by simp) (by kernel_rfl)) ?_
            refine lv (v := .agg #[.int .u8 40, .bool false, .bool true]) rfl rfl (yb_load (n := 3) (off := 0) rfl (by kernel_rfl) (.tail _ (.head _)) Tryd.underlying26 rfl (by kernel_rfl) (by simp) (by kernel_rfl)) ?_
            refine lp (v := .bool false) rfl rfl (run_bin rfl (vx := .agg #[.int .u8 ((40 : Nat) : Int), .bool false, .bool true]) (vy := .agg #[.int .u8 ((40 : Nat) : Int), .bool false, .bool true]) (by kernel_rfl) (by kernel_rfl) fun w => ne_kind2 (decide_eq_true (by simp)) w) ?_
            refine lm (v := .bool false) rfl rfl ?_
            refine lm (v := .bool false) rfl rfl ?_
            refine lm (v := strV [52, 50, 82, 49]) rfl rfl ?_
            refine lm (v := .int .i64 4) rfl rfl ?_
            refine lm (v := .bool false) rfl rfl ?_
            refine lm (v := .bool false) rfl rfl ?_
            refine lm (v := .bool false) rfl rfl ?_
            refine lm (v := .int .u8 40) rfl rfl ?_
            refine lm (v := .bool true) rfl rfl ?_
            refine lm (v := .bool true) rfl rfl ?_
            refine lm (v := .int .u8 40) rfl rfl ?_
            refine lm (v := .bool false) rfl rfl ?_
            refine lm (v := .bool false) rfl rfl ?_
            refine lm (v := .bool false) rfl rfl ?_
            refine lm (v := .bool false) rfl rfl ?_
            refine lm (v := .bool false) rfl rfl ?_
            refine lm (v := .bool false) rfl rfl ?_
            refine ln rfl ?_
            refine ln rfl ?_
            refine lm (v := .bool false) rfl rfl ?_
            refine lm (v := .bool false) rfl rfl ?_
            refine lm (v := .bool false) rfl rfl ?_
            refine lm (v := .bool false) rfl rfl ?_
            refine lm (v := .int .i64 0) rfl rfl ?_
            refine lm (v := .bool false) rfl rfl ?_
            refine lm (v := .bool false) rfl rfl ?_
            refine ln rfl ?_
            refine ln rfl ?_
            refine ln rfl ?_
            refine ln rfl ?_
            refine ln rfl ?_
            refine ln rfl ?_
            refine ln rfl ?_
            refine ln rfl ?_
            refine ln rfl ?_
            refine ln rfl ?_
            refine ln rfl ?_
            refine ln rfl ?_
            refine ln rfl ?_
            refine ln rfl ?_
            refine ln rfl ?_
            refine ln rfl ?_
            refine ln rfl ?_
            refine ln rfl ?_
            refine lm (v := .bool false) rfl rfl ?_
            refine lm (v := .bool false) rfl rfl ?_
            refine wpL_done (fun W16 hW16 => ?_)
            refine (show Code.wp _ _ _ _ _ from ?_)
            refine wp_cond_false rfl ?_
            refine wp_skip ?_
            exact join_mk (by kernel_rfl) (hW16.sub (fun p hp => (.tail _ hp)))
        | true =>
          have h3 : 40 = n ∧ false = h ∧ false = r := of_decide_eq_true hd3
          clear hd3
          obtain ⟨rfl, rfl, rfl⟩ := h3
          refine lv (v := .tuple #[strV [52, 50, 71, 49], .int .i64 0]) rfl rfl (yb_call (f := 25) (args := #[.agg #[.int .u8 40, .bool false, .bool false]]) (fun _ => by kernel_rfl) fun W hW => code_at (n := 40) (h := false) (r := false) W (HE.out.keep hW.1) (by kernel_rfl)) ?_
          refine lm (v := .tuple #[strV [52, 50, 71, 49], .int .i64 0]) rfl rfl ?_
          refine lm (v := strV [52, 50, 71, 49]) rfl rfl ?_
          refine lm (v := .int .i64 0) rfl rfl ?_
          refine lm (v := strV [52, 50, 71, 49]) rfl rfl ?_
          refine lm (v := .int .i64 0) rfl rfl ?_
          refine wpL_done (fun W17 hW17 => ?_)
          refine (show Code.wp _ _ _ _ _ from ?_)
          refine wp_region_L (W0 := w) [(g1, .cells #[.int .u8 40, .bool false, .bool false] 26 (0, 0))] (hW17) ?_
          refine lm (v := strV [52, 50, 71, 49]) rfl rfl ?_
          refine lv (v := .tuple #[.agg #[.int .u8 40, .bool false, .bool false], .int .i64 0]) rfl rfl (yb_call (f := 26) (args := #[strV [52, 50, 71, 49]]) (fun _ => by kernel_rfl) fun W hW => size_at W (HE.out.keep hW.1) (by kernel_rfl)) ?_
          refine lm (v := .tuple #[.agg #[.int .u8 40, .bool false, .bool false], .int .i64 0]) rfl rfl ?_
          refine lm (v := .agg #[.int .u8 40, .bool false, .bool false]) rfl rfl ?_
          refine lm (v := .int .i64 0) rfl rfl ?_
          refine wpL_new (fun g => .pointer (some ⟨g, 0, none⟩)) (obi := .cells #[.int .u8 0, .bool false, .bool false] 26 (0, 0)) rfl rfl (fun _ => by kernel_rfl) (fun _ => by simp only [List.setIfInBounds_toArray, List.set_cons_succ, List.set_cons_zero] <;> rfl) fun g6 Bg6 Fg6 => ?_
          refine wpL_s [(g6, .cells #[.int .u8 40, .bool false, .bool false] 26 (0, 0)), (g1, .cells #[.int .u8 40, .bool false, .bool false] 26 (0, 0))] rfl rfl (st_row (off := 0) (v := .agg #[.int .u8 40, .bool false, .bool false]) rfl (by kernel_rfl) (by kernel_rfl) (.head _) Bg6 (by kernel_rfl) (by simp [Value.cells]) (by intro v hv; simp [Value.cells] at hv; first | (subst hv; rfl) | (rcases hv with rfl | rfl | rfl <;> rfl)) (by kernel_rfl) (List.forall_mem_cons.2 ⟨.inl rfl, (List.forall_mem_cons.2 ⟨.inr ⟨(.tail _ (.head _)), (Fg6 _ (.head _))⟩, (List.forall_mem_nil _)⟩)⟩)) ?_
          refine lm (v := .int .i64 0) rfl rfl ?_
          refine wpL_done (fun W18 hW18 => ?_)
          refine (show Code.wp _ _ _ _ _ from ?_)
          refine wp_seq ?_
          refine wp_region_L (W0 := w) [(g6, .cells #[.int .u8 40, .bool false, .bool false] 26 (0, 0)), (g1, .cells #[.int .u8 40, .bool false, .bool false] 26 (0, 0))] (hW18) ?_
          refine lm (v := .int .i64 0) rfl rfl ?_
          refine lm (v := .bool true) rfl rfl ?_
          refine lm (v := .bool true) rfl rfl ?_
          refine lm (v := .int .i64 0) rfl rfl ?_
          refine lm (v := .bool false) rfl rfl ?_
          refine lm (v := .bool false) rfl rfl ?_
          refine lv (v := .agg #[.int .u8 40, .bool false, .bool false]) rfl rfl (yb_load (n := 3) (off := 0) rfl (by kernel_rfl) (.head _) Tryd.underlying26 rfl (by kernel_rfl) (by simp) (by kernel_rfl)) ?_
          refine lv (v := .agg #[.int .u8 40, .bool false, .bool false]) rfl rfl (yb_load (n := 3) (off := 0) rfl (by kernel_rfl) (.tail _ (.head _)) Tryd.underlying26 rfl (by kernel_rfl) (by simp) (by kernel_rfl)) ?_
          refine lp (v := .bool false) rfl rfl (run_bin rfl (vx := .agg #[.int .u8 ((40 : Nat) : Int), .bool false, .bool false]) (vy := .agg #[.int .u8 ((40 : Nat) : Int), .bool false, .bool false]) (by kernel_rfl) (by kernel_rfl) fun w => ne_kind2 (decide_eq_true (by simp)) w) ?_
          refine lm (v := .bool false) rfl rfl ?_
          refine lm (v := .bool false) rfl rfl ?_
          refine lm (v := strV [52, 50, 71, 49]) rfl rfl ?_
          refine lm (v := .int .i64 4) rfl rfl ?_
          refine lm (v := .bool false) rfl rfl ?_
          refine lm (v := .bool false) rfl rfl ?_
          refine lm (v := .bool false) rfl rfl ?_
          refine lm (v := .int .u8 40) rfl rfl ?_
          refine lm (v := .bool true) rfl rfl ?_
          refine lm (v := .bool true) rfl rfl ?_
          refine lm (v := .int .u8 40) rfl rfl ?_
          refine lm (v := .bool false) rfl rfl ?_
          refine lm (v := .bool false) rfl rfl ?_
          refine lm (v := .bool false) rfl rfl ?_
          refine lm (v := .bool false) rfl rfl ?_
          refine lm (v := .bool false) rfl rfl ?_
          refine lm (v := .bool false) rfl rfl ?_
          refine ln rfl ?_
          refine ln rfl ?_
          refine lm (v := .bool false) rfl rfl ?_
          refine lm (v := .bool false) rfl rfl ?_
          refine lm (v := .bool false) rfl rfl ?_
          refine lm (v := .bool false) rfl rfl ?_
          refine lm (v := .int .i64 0) rfl rfl ?_
          refine lm (v := .bool false) rfl rfl ?_
          refine lm (v := .bool false) rfl rfl ?_
          refine ln rfl ?_
          refine ln rfl ?_
          refine ln rfl ?_
          refine ln rfl ?_
          refine ln rfl ?_
          refine ln rfl ?_
          refine ln rfl ?_
          refine ln rfl ?_
          refine ln rfl ?_
          refine ln rfl ?_
          refine ln rfl ?_
          refine ln rfl ?_
          refine ln rfl ?_
          refine ln rfl ?_
          refine ln rfl ?_
          refine ln rfl ?_
          refine ln rfl ?_
          refine ln rfl ?_
          refine lm (v := .bool false) rfl rfl ?_
          refine lm (v := .bool false) rfl rfl ?_
          refine wpL_done (fun W19 hW19 => ?_)
          refine (show Code.wp _ _ _ _ _ from ?_)
          refine wp_cond_false rfl ?_
          refine wp_skip ?_
          exact join_mk (by kernel_rfl) (hW19.sub (fun p hp => (.tail _ hp)))
      | true =>
        have h2 : 20 = n ∧ false = h ∧ true = r := of_decide_eq_true hd2
        clear hd2
        obtain ⟨rfl, rfl, rfl⟩ := h2
        refine lv (v := .tuple #[strV [50, 50, 82, 49], .int .i64 0]) rfl rfl (yb_call (f := 25) (args := #[.agg #[.int .u8 20, .bool false, .bool true]]) (fun _ => by kernel_rfl) fun W hW => code_at (n := 20) (h := false) (r := true) W (HE.out.keep hW.1) (by kernel_rfl)) ?_
        refine lm (v := .tuple #[strV [50, 50, 82, 49], .int .i64 0]) rfl rfl ?_
        refine lm (v := strV [50, 50, 82, 49]) rfl rfl ?_
        refine lm (v := .int .i64 0) rfl rfl ?_
        refine lm (v := strV [50, 50, 82, 49]) rfl rfl ?_
        refine lm (v := .int .i64 0) rfl rfl ?_
        refine wpL_done (fun W20 hW20 => ?_)
        refine (show Code.wp _ _ _ _ _ from ?_)
        refine wp_region_L (W0 := w) [(g1, .cells #[.int .u8 20, .bool false, .bool true] 26 (0, 0))] (hW20) ?_
        refine lm (v := strV [50, 50, 82, 49]) rfl rfl ?_
        refine lv (v := .tuple #[.agg #[.int .u8 20, .bool false, .bool true], .int .i64 0]) rfl rfl (yb_call (f := 26) (args := #[strV [50, 50, 82, 49]]) (fun _ => by kernel_rfl) fun W hW => size_at W (HE.out.keep hW.1) (by kernel_rfl)) ?_
        refine lm (v := .tuple #[.agg #[.int .u8 20, .bool false, .bool true], .int .i64 0]) rfl rfl ?_
        refine lm (v := .agg #[.int .u8 20, .bool false, .bool true]) rfl rfl ?_
        refine lm (v := .int .i64 0) rfl rfl ?_
        refine wpL_new (fun g => .pointer (some ⟨g, 0, none⟩)) (obi := .cells #[.int .u8 0, .bool false, .bool false] 26 (0, 0)) rfl rfl (fun _ => by kernel_rfl) (fun _ => by simp only [List.setIfInBounds_toArray, List.set_cons_succ, List.set_cons_zero] <;> rfl) fun g7 Bg7 Fg7 => ?_
        refine wpL_s [(g7, .cells #[.int .u8 20, .bool false, .bool true] 26 (0, 0)), (g1, .cells #[.int .u8 20, .bool false, .bool true] 26 (0, 0))] rfl rfl (st_row (off := 0) (v := .agg #[.int .u8 20, .bool false, .bool true]) rfl (by kernel_rfl) (by kernel_rfl) (.head _) Bg7 (by kernel_rfl) (by simp [Value.cells]) (by intro v hv; simp [Value.cells] at hv; first | (subst hv; rfl) | (rcases hv with rfl | rfl | rfl <;> rfl)) (by kernel_rfl) (List.forall_mem_cons.2 ⟨.inl rfl, (List.forall_mem_cons.2 ⟨.inr ⟨(.tail _ (.head _)), (Fg7 _ (.head _))⟩, (List.forall_mem_nil _)⟩)⟩)) ?_
        refine lm (v := .int .i64 0) rfl rfl ?_
        refine wpL_done (fun W21 hW21 => ?_)
        refine (show Code.wp _ _ _ _ _ from ?_)
        refine wp_seq ?_
        refine wp_region_L (W0 := w) [(g7, .cells #[.int .u8 20, .bool false, .bool true] 26 (0, 0)), (g1, .cells #[.int .u8 20, .bool false, .bool true] 26 (0, 0))] (hW21) ?_
        refine lm (v := .int .i64 0) rfl rfl ?_
        refine lm (v := .bool true) rfl rfl ?_
        refine lm (v := .bool true) rfl rfl ?_
        refine lm (v := .int .i64 0) rfl rfl ?_
        refine lm (v := .bool false) rfl rfl ?_
        refine lm (v := .bool false) rfl rfl ?_
        refine lv (v := .agg #[.int .u8 20, .bool false, .bool true]) rfl rfl (yb_load (n := 3) (off := 0) rfl (by kernel_rfl) (.head _) Tryd.underlying26 rfl (by kernel_rfl) (by simp) (by kernel_rfl)) ?_
        refine lv (v := .agg #[.int .u8 20, .bool false, .bool true]) rfl rfl (yb_load (n := 3) (off := 0) rfl (by kernel_rfl) (.tail _ (.head _)) Tryd.underlying26 rfl (by kernel_rfl) (by simp) (by kernel_rfl)) ?_
        refine lp (v := .bool false) rfl rfl (run_bin rfl (vx := .agg #[.int .u8 ((20 : Nat) : Int), .bool false, .bool true]) (vy := .agg #[.int .u8 ((20 : Nat) : Int), .bool false, .bool true]) (by kernel_rfl) (by kernel_rfl) fun w => ne_kind2 (decide_eq_true (by simp)) w) ?_
        refine lm (v := .bool false) rfl rfl ?_
        refine lm (v := .bool false) rfl rfl ?_
        refine lm (v := strV [50, 50, 82, 49]) rfl rfl ?_
        refine lm (v := .int .i64 4) rfl rfl ?_
        refine lm (v := .bool false) rfl rfl ?_
        refine lm (v := .bool false) rfl rfl ?_
        refine lm (v := .bool false) rfl rfl ?_
        refine lm (v := .int .u8 20) rfl rfl ?_
        refine lm (v := .bool false) rfl rfl ?_
        refine lm (v := .bool false) rfl rfl ?_
        refine ln rfl ?_
        refine ln rfl ?_
        refine lm (v := .bool false) rfl rfl ?_
        refine lm (v := .bool false) rfl rfl ?_
        refine lm (v := .bool false) rfl rfl ?_
        refine lm (v := .bool false) rfl rfl ?_
        refine lm (v := .bool false) rfl rfl ?_
        refine ln rfl ?_
        refine ln rfl ?_
        refine lm (v := .bool false) rfl rfl ?_
        refine lm (v := .bool false) rfl rfl ?_
        refine lm (v := .bool false) rfl rfl ?_
        refine lm (v := .bool false) rfl rfl ?_
        refine lm (v := .int .i64 0) rfl rfl ?_
        refine lm (v := .bool false) rfl rfl ?_
        refine lm (v := .bool false) rfl rfl ?_
        refine ln rfl ?_
        refine ln rfl ?_
        refine ln rfl ?_
        refine ln rfl ?_
        refine ln rfl ?_
        refine ln rfl ?_
        refine ln rfl ?_
        refine ln rfl ?_
        refine ln rfl ?_
        refine ln rfl ?_
        refine ln rfl ?_
        refine ln rfl ?_
        refine ln rfl ?_
        refine ln rfl ?_
        refine ln rfl ?_
        refine ln rfl ?_
        refine ln rfl ?_
        refine ln rfl ?_
        refine lm (v := .bool false) rfl rfl ?_
        refine lm (v := .bool false) rfl rfl ?_
        refine wpL_done (fun W22 hW22 => ?_)
        refine (show Code.wp _ _ _ _ _ from ?_)
        refine wp_cond_false rfl ?_
        refine wp_skip ?_
        exact join_mk (by kernel_rfl) (hW22.sub (fun p hp => (.tail _ hp)))
    | true =>
      have h1 : 20 = n ∧ false = h ∧ false = r := of_decide_eq_true hd1
      clear hd1
      obtain ⟨rfl, rfl, rfl⟩ := h1
      refine lv (v := .tuple #[strV [50, 50, 71, 49], .int .i64 0]) rfl rfl (yb_call (f := 25) (args := #[.agg #[.int .u8 20, .bool false, .bool false]]) (fun _ => by kernel_rfl) fun W hW => code_at (n := 20) (h := false) (r := false) W (HE.out.keep hW.1) (by kernel_rfl)) ?_
      refine lm (v := .tuple #[strV [50, 50, 71, 49], .int .i64 0]) rfl rfl ?_
      refine lm (v := strV [50, 50, 71, 49]) rfl rfl ?_
      refine lm (v := .int .i64 0) rfl rfl ?_
      refine lm (v := strV [50, 50, 71, 49]) rfl rfl ?_
      refine lm (v := .int .i64 0) rfl rfl ?_
      refine wpL_done (fun W23 hW23 => ?_)
      refine (show Code.wp _ _ _ _ _ from ?_)
      refine wp_region_L (W0 := w) [(g1, .cells #[.int .u8 20, .bool false, .bool false] 26 (0, 0))] (hW23) ?_
      refine lm (v := strV [50, 50, 71, 49]) rfl rfl ?_
      refine lv (v := .tuple #[.agg #[.int .u8 20, .bool false, .bool false], .int .i64 0]) rfl rfl (yb_call (f := 26) (args := #[strV [50, 50, 71, 49]]) (fun _ => by kernel_rfl) fun W hW => size_at W (HE.out.keep hW.1) (by kernel_rfl)) ?_
      refine lm (v := .tuple #[.agg #[.int .u8 20, .bool false, .bool false], .int .i64 0]) rfl rfl ?_
      refine lm (v := .agg #[.int .u8 20, .bool false, .bool false]) rfl rfl ?_
      refine lm (v := .int .i64 0) rfl rfl ?_
      refine wpL_new (fun g => .pointer (some ⟨g, 0, none⟩)) (obi := .cells #[.int .u8 0, .bool false, .bool false] 26 (0, 0)) rfl rfl (fun _ => by kernel_rfl) (fun _ => by simp only [List.setIfInBounds_toArray, List.set_cons_succ, List.set_cons_zero] <;> rfl) fun g8 Bg8 Fg8 => ?_
      refine wpL_s [(g8, .cells #[.int .u8 20, .bool false, .bool false] 26 (0, 0)), (g1, .cells #[.int .u8 20, .bool false, .bool false] 26 (0, 0))] rfl rfl (st_row (off := 0) (v := .agg #[.int .u8 20, .bool false, .bool false]) rfl (by kernel_rfl) (by kernel_rfl) (.head _) Bg8 (by kernel_rfl) (by simp [Value.cells]) (by intro v hv; simp [Value.cells] at hv; first | (subst hv; rfl) | (rcases hv with rfl | rfl | rfl <;> rfl)) (by kernel_rfl) (List.forall_mem_cons.2 ⟨.inl rfl, (List.forall_mem_cons.2 ⟨.inr ⟨(.tail _ (.head _)), (Fg8 _ (.head _))⟩, (List.forall_mem_nil _)⟩)⟩)) ?_
      refine lm (v := .int .i64 0) rfl rfl ?_
      refine wpL_done (fun W24 hW24 => ?_)
      refine (show Code.wp _ _ _ _ _ from ?_)
      refine wp_seq ?_
      refine wp_region_L (W0 := w) [(g8, .cells #[.int .u8 20, .bool false, .bool false] 26 (0, 0)), (g1, .cells #[.int .u8 20, .bool false, .bool false] 26 (0, 0))] (hW24) ?_
      refine lm (v := .int .i64 0) rfl rfl ?_
      refine lm (v := .bool true) rfl rfl ?_
      refine lm (v := .bool true) rfl rfl ?_
      refine lm (v := .int .i64 0) rfl rfl ?_
      refine lm (v := .bool false) rfl rfl ?_
      refine lm (v := .bool false) rfl rfl ?_
      refine lv (v := .agg #[.int .u8 20, .bool false, .bool false]) rfl rfl (yb_load (n := 3) (off := 0) rfl (by kernel_rfl) (.head _) Tryd.underlying26 rfl (by kernel_rfl) (by simp) (by kernel_rfl)) ?_
      refine lv (v := .agg #[.int .u8 20, .bool false, .bool false]) rfl rfl (yb_load (n := 3) (off := 0) rfl (by kernel_rfl) (.tail _ (.head _)) Tryd.underlying26 rfl (by kernel_rfl) (by simp) (by kernel_rfl)) ?_
      refine lp (v := .bool false) rfl rfl (run_bin rfl (vx := .agg #[.int .u8 ((20 : Nat) : Int), .bool false, .bool false]) (vy := .agg #[.int .u8 ((20 : Nat) : Int), .bool false, .bool false]) (by kernel_rfl) (by kernel_rfl) fun w => ne_kind2 (decide_eq_true (by simp)) w) ?_
      refine lm (v := .bool false) rfl rfl ?_
      refine lm (v := .bool false) rfl rfl ?_
      refine lm (v := strV [50, 50, 71, 49]) rfl rfl ?_
      refine lm (v := .int .i64 4) rfl rfl ?_
      refine lm (v := .bool false) rfl rfl ?_
      refine lm (v := .bool false) rfl rfl ?_
      refine lm (v := .bool false) rfl rfl ?_
      refine lm (v := .int .u8 20) rfl rfl ?_
      refine lm (v := .bool false) rfl rfl ?_
      refine lm (v := .bool false) rfl rfl ?_
      refine ln rfl ?_
      refine ln rfl ?_
      refine lm (v := .bool false) rfl rfl ?_
      refine lm (v := .bool false) rfl rfl ?_
      refine lm (v := .bool false) rfl rfl ?_
      refine lm (v := .bool false) rfl rfl ?_
      refine lm (v := .bool false) rfl rfl ?_
      refine ln rfl ?_
      refine ln rfl ?_
      refine lm (v := .bool false) rfl rfl ?_
      refine lm (v := .bool false) rfl rfl ?_
      refine lm (v := .bool false) rfl rfl ?_
      refine lm (v := .bool false) rfl rfl ?_
      refine lm (v := .int .i64 0) rfl rfl ?_
      refine lm (v := .bool false) rfl rfl ?_
      refine lm (v := .bool false) rfl rfl ?_
      refine ln rfl ?_
      refine ln rfl ?_
      refine ln rfl ?_
      refine ln rfl ?_
      refine ln rfl ?_
      refine ln rfl ?_
      refine ln rfl ?_
      refine ln rfl ?_
      refine ln rfl ?_
      refine ln rfl ?_
      refine ln rfl ?_
      refine ln rfl ?_
      refine ln rfl ?_
      refine ln rfl ?_
      refine ln rfl ?_
      refine ln rfl ?_
      refine ln rfl ?_
      refine ln rfl ?_
      refine lm (v := .bool false) rfl rfl ?_
      refine lm (v := .bool false) rfl rfl ?_
      refine wpL_done (fun W25 hW25 => ?_)
      refine (show Code.wp _ _ _ _ _ from ?_)
      refine wp_cond_false rfl ?_
      refine wp_skip ?_
      exact join_mk (by kernel_rfl) (hW25.sub (fun p hp => (.tail _ hp)))
  · rintro a1 W1j ⟨⟨z, rfl⟩, hW1j⟩
    dsimp only [cutT]
    refine wp_seq ?_
    refine wp_region_L (W0 := w) [(g1, .cells #[.int .u8 ((n : Nat) : Int), .bool h, .bool r] 26 (0, 0))] (hW1j) ?_
    refine lm (v := strV l0) rfl rfl ?_
    cases hd9 : (decide ([50, 50, 71, 49] = l0)) with
    | false =>
      have h9 : ¬ ([50, 50, 71, 49] = l0) := of_decide_eq_false hd9
      clear hd9
      cases hd10 : (decide ([50, 50, 82, 49] = l0)) with
      | false =>
        have h10 : ¬ ([50, 50, 82, 49] = l0) := of_decide_eq_false hd10
        clear hd10
        cases hd11 : (decide ([52, 50, 71, 49] = l0)) with
        | false =>
          have h11 : ¬ ([52, 50, 71, 49] = l0) := of_decide_eq_false hd11
          clear hd11
          cases hd12 : (decide ([52, 50, 82, 49] = l0)) with
          | false =>
            have h12 : ¬ ([52, 50, 82, 49] = l0) := of_decide_eq_false hd12
            clear hd12
            cases hd13 : (decide ([52, 53, 71, 49] = l0)) with
            | false =>
              have h13 : ¬ ([52, 53, 71, 49] = l0) := of_decide_eq_false hd13
              clear hd13
              cases hd14 : (decide ([52, 53, 82, 49] = l0)) with
              | false =>
                have h14 : ¬ ([52, 53, 82, 49] = l0) := of_decide_eq_false hd14
                clear hd14
                refine lv (v := .tuple #[.agg #[.int .u8 0, .bool false, .bool false], .int .i64 32]) rfl rfl (yb_call (f := 26) (args := #[strV l0]) (fun _ => by kernel_rfl) fun W hW => size_at W (HE.out.keep hW.1) (by unfold sizeV; rw [if_neg h9, if_neg h10, if_neg h11, if_neg h12, if_neg h13, if_neg h14])) ?_
                refine lm (v := .tuple #[.agg #[.int .u8 0, .bool false, .bool false], .int .i64 32]) rfl rfl ?_
                refine lm (v := .agg #[.int .u8 0, .bool false, .bool false]) rfl rfl ?_
                refine lm (v := .int .i64 32) rfl rfl ?_
                refine wpL_new (fun g => .pointer (some ⟨g, 0, none⟩)) (obi := .cells #[.int .u8 0, .bool false, .bool false] 26 (0, 0)) rfl rfl (fun _ => by kernel_rfl) (fun _ => by simp only [List.setIfInBounds_toArray, List.set_cons_succ, List.set_cons_zero] <;> rfl) fun g9 Bg9 Fg9 => ?_
                refine wpL_s [(g9, .cells #[.int .u8 0, .bool false, .bool false] 26 (0, 0)), (g1, .cells #[.int .u8 ((n : Nat) : Int), .bool h, .bool r] 26 (0, 0))] rfl rfl (st_row (off := 0) (v := .agg #[.int .u8 0, .bool false, .bool false]) rfl (by kernel_rfl) (by kernel_rfl) (.head _) Bg9 (by kernel_rfl) (by simp [Value.cells]) (by intro v hv; simp [Value.cells] at hv; first | (subst hv; rfl) | (rcases hv with rfl | rfl | rfl <;> rfl)) (by kernel_rfl) (List.forall_mem_cons.2 ⟨.inl rfl, (List.forall_mem_cons.2 ⟨.inr ⟨(.tail _ (.head _)), (Fg9 _ (.head _))⟩, (List.forall_mem_nil _)⟩)⟩)) ?_
                refine lm (v := .int .i64 32) rfl rfl ?_
                refine wpL_done (fun W26 hW26 => ?_)
                refine (show Code.wp _ _ _ _ _ from ?_)
                refine wp_seq ?_
                refine wp_seq ?_
                refine wp_region_L (W0 := w) [(g9, .cells #[.int .u8 0, .bool false, .bool false] 26 (0, 0)), (g1, .cells #[.int .u8 ((n : Nat) : Int), .bool h, .bool r] 26 (0, 0))] (hW26) ?_
                refine lm (v := .int .i64 32) rfl rfl ?_
                refine lm (v := .bool true) rfl rfl ?_
                refine wpL_done (fun W27 hW27 => ?_)
                refine (show Code.wp _ _ _ _ _ from ?_)
                refine wp_cond_true rfl ?_
                refine wp_seq ?_
                refine wp_region_L (W0 := w) [(g9, .cells #[.int .u8 0, .bool false, .bool false] 26 (0, 0)), (g1, .cells #[.int .u8 ((n : Nat) : Int), .bool h, .bool r] 26 (0, 0))] (hW27) ?_
                refine lm (v := .int .i64 32) rfl rfl ?_
                refine lm (v := .bool true) rfl rfl ?_
                refine lm (v := .bool true) rfl rfl ?_
                refine lv (v := .agg #[.int .u8 0, .bool false, .bool false]) rfl rfl (yb_load (n := 3) (off := 0) rfl (by kernel_rfl) (.head _) Tryd.underlying26 rfl (by kernel_rfl) (by simp) (by kernel_rfl)) ?_
                refine lm (v := .agg #[.int .u8 0, .bool false, .bool false]) rfl rfl ?_
                refine lp (v := .bool true) rfl rfl (run_bin rfl (vx := .agg #[.int .u8 ((0 : Nat) : Int), .bool false, .bool false]) (vy := .agg #[.int .u8 ((0 : Nat) : Int), .bool false, .bool false]) (by kernel_rfl) (by kernel_rfl) fun w => eq_kind (decide_eq_true (by simp)) w) ?_
                refine lm (v := .bool true) rfl rfl ?_
                refine lm (v := .bool true) rfl rfl ?_
                refine wpL_done (fun W28 hW28 => ?_)
                refine (show Code.wp _ _ _ _ _ from ?_)
                refine wp_ret ?_
                try simp only [inBlock_ret, then_ret]
                refine bodyPost_ret (v := .bool true) ?_ rfl ?_
                · kernel_rfl
                · exact ⟨rfl, hW28.1⟩
              | true =>
                have h14 : [52, 53, 82, 49] = l0 := of_decide_eq_true hd14
                clear hd14
                refine lv (v := .tuple #[.agg #[.int .u8 40, .bool true, .bool true], .int .i64 0]) rfl rfl (yb_call (f := 26) (args := #[strV l0]) (fun _ => by kernel_rfl) fun W hW => size_at W (HE.out.keep hW.1) (by unfold sizeV; rw [if_neg h9, if_neg h10, if_neg h11, if_neg h12, if_neg h13, if_pos h14])) ?_
                refine lm (v := .tuple #[.agg #[.int .u8 40, .bool true, .bool true], .int .i64 0]) rfl rfl ?_
                refine lm (v := .agg #[.int .u8 40, .bool true, .bool true]) rfl rfl ?_
                refine lm (v := .int .i64 0) rfl rfl ?_
                refine wpL_new (fun g => .pointer (some ⟨g, 0, none⟩)) (obi := .cells #[.int .u8 0, .bool false, .bool false] 26 (0, 0)) rfl rfl (fun _ => by kernel_rfl) (fun _ => by simp only [List.setIfInBounds_toArray, List.set_cons_succ, List.set_cons_zero] <;> rfl) fun g10 Bg10 Fg10 => ?_
                refine wpL_s [(g10, .cells #[.int .u8 40, .bool true, .bool true] 26 (0, 0)), (g1, .cells #[.int .u8 ((n : Nat) : Int), .bool h, .bool r] 26 (0, 0))] rfl rfl (st_row (off := 0) (v := .agg #[.int .u8 40, .bool true, .bool true]) rfl (by kernel_rfl) (by kernel_rfl) (.head _) Bg10 (by kernel_rfl) (by simp [Value.cells]) (by intro v hv; simp [Value.cells] at hv; first | (subst hv; rfl) | (rcases hv with rfl | rfl | rfl <;> rfl)) (by kernel_rfl) (List.forall_mem_cons.2 ⟨.inl rfl, (List.forall_mem_cons.2 ⟨.inr ⟨(.tail _ (.head _)), (Fg10 _ (.head _))⟩, (List.forall_mem_nil _)⟩)⟩)) ?_
                refine lm (v := .int .i64 0) rfl rfl ?_
                refine wpL_done (fun W29 hW29 => ?_)
                refine (show Code.wp _ _ _ _ _ from ?_)
                refine wp_seq ?_
                refine wp_seq ?_
                refine wp_region_L (W0 := w) [(g10, .cells #[.int .u8 40, .bool true, .bool true] 26 (0, 0)), (g1, .cells #[.int .u8 ((n : Nat) : Int), .bool h, .bool r] 26 (0, 0))] (hW29) ?_
                refine lm (v := .int .i64 0) rfl rfl ?_
                refine lm (v := .bool false) rfl rfl ?_
                refine wpL_done (fun W30 hW30 => ?_)
                refine (show Code.wp _ _ _ _ _ from ?_)
                refine wp_cond_false rfl ?_
                refine wp_skip ?_
                refine (show Code.wp _ _ _ _ _ from ?_)
                refine wp_seq ?_
                refine wp_region_L (W0 := w) [(g10, .cells #[.int .u8 40, .bool true, .bool true] 26 (0, 0)), (g1, .cells #[.int .u8 ((n : Nat) : Int), .bool h, .bool r] 26 (0, 0))] (hW30) ?_
                refine lv (v := .agg #[.int .u8 40, .bool true, .bool true]) rfl rfl (yb_load (n := 3) (off := 0) rfl (by kernel_rfl) (.head _) Tryd.underlying26 rfl (by kernel_rfl) (by simp) (by kernel_rfl)) ?_
                refine lv (v := .tuple #[strV [52, 53, 82, 49], .int .i64 0]) rfl rfl (yb_call (f := 25) (args := #[.agg #[.int .u8 40, .bool true, .bool true]]) (fun _ => by kernel_rfl) fun W hW => code_at (n := 40) (h := true) (r := true) W (HE.out.keep hW.1) (by kernel_rfl)) ?_
                refine lm (v := .tuple #[strV [52, 53, 82, 49], .int .i64 0]) rfl rfl ?_
                refine lm (v := strV [52, 53, 82, 49]) rfl rfl ?_
                refine lm (v := .int .i64 0) rfl rfl ?_
                refine lm (v := strV [52, 53, 82, 49]) rfl rfl ?_
                refine lm (v := .int .i64 0) rfl rfl ?_
                refine wpL_done (fun W31 hW31 => ?_)
                refine (show Code.wp _ _ _ _ _ from ?_)
                refine wp_seq ?_
                refine wp_region_L (W0 := w) [(g10, .cells #[.int .u8 40, .bool true, .bool true] 26 (0, 0)), (g1, .cells #[.int .u8 ((n : Nat) : Int), .bool h, .bool r] 26 (0, 0))] (hW31) ?_
                refine lm (v := .int .i64 0) rfl rfl ?_
                refine lm (v := .bool true) rfl rfl ?_
                refine lm (v := .bool true) rfl rfl ?_
                refine lm (v := strV [52, 53, 82, 49]) rfl rfl ?_
                refine lm (v := strV l0) rfl rfl ?_
                refine lp (v := .bool true) rfl rfl (run_bin rfl (vx := strV [52, 53, 82, 49]) (vy := strV l0) (by kernel_rfl) (by kernel_rfl) fun w => bs_eql (decide_eq_true (by assumption)) w) ?_
                refine lm (v := .bool true) rfl rfl ?_
                refine lm (v := .bool true) rfl rfl ?_
                refine wpL_done (fun W32 hW32 => ?_)
                refine (show Code.wp _ _ _ _ _ from ?_)
                refine wp_ret ?_
                try simp only [inBlock_ret, then_ret]
                refine bodyPost_ret (v := .bool true) ?_ rfl ?_
                · kernel_rfl
                · exact ⟨rfl, hW32.1⟩
            | true =>
              have h13 : [52, 53, 71, 49] = l0 := of_decide_eq_true hd13
              clear hd13
              refine lv (v := .tuple #[.agg #[.int .u8 40, .bool true, .bool false], .int .i64 0]) rfl rfl (yb_call (f := 26) (args := #[strV l0]) (fun _ => by kernel_rfl) fun W hW => size_at W (HE.out.keep hW.1) (by unfold sizeV; rw [if_neg h9, if_neg h10, if_neg h11, if_neg h12, if_pos h13])) ?_
              refine lm (v := .tuple #[.agg #[.int .u8 40, .bool true, .bool false], .int .i64 0]) rfl rfl ?_
              refine lm (v := .agg #[.int .u8 40, .bool true, .bool false]) rfl rfl ?_
              refine lm (v := .int .i64 0) rfl rfl ?_
              refine wpL_new (fun g => .pointer (some ⟨g, 0, none⟩)) (obi := .cells #[.int .u8 0, .bool false, .bool false] 26 (0, 0)) rfl rfl (fun _ => by kernel_rfl) (fun _ => by simp only [List.setIfInBounds_toArray, List.set_cons_succ, List.set_cons_zero] <;> rfl) fun g11 Bg11 Fg11 => ?_
              refine wpL_s [(g11, .cells #[.int .u8 40, .bool true, .bool false] 26 (0, 0)), (g1, .cells #[.int .u8 ((n : Nat) : Int), .bool h, .bool r] 26 (0, 0))] rfl rfl (st_row (off := 0) (v := .agg #[.int .u8 40, .bool true, .bool false]) rfl (by kernel_rfl) (by kernel_rfl) (.head _) Bg11 (by kernel_rfl) (by simp [Value.cells]) (by intro v hv; simp [Value.cells] at hv; first | (subst hv; rfl) | (rcases hv with rfl | rfl | rfl <;> rfl)) (by kernel_rfl) (List.forall_mem_cons.2 ⟨.inl rfl, (List.forall_mem_cons.2 ⟨.inr ⟨(.tail _ (.head _)), (Fg11 _ (.head _))⟩, (List.forall_mem_nil _)⟩)⟩)) ?_
              refine lm (v := .int .i64 0) rfl rfl ?_
              refine wpL_done (fun W33 hW33 => ?_)
              refine (show Code.wp _ _ _ _ _ from ?_)
              refine wp_seq ?_
              refine wp_seq ?_
              refine wp_region_L (W0 := w) [(g11, .cells #[.int .u8 40, .bool true, .bool false] 26 (0, 0)), (g1, .cells #[.int .u8 ((n : Nat) : Int), .bool h, .bool r] 26 (0, 0))] (hW33) ?_
              refine lm (v := .int .i64 0) rfl rfl ?_
              refine lm (v := .bool false) rfl rfl ?_
              refine wpL_done (fun W34 hW34 => ?_)
              refine (show Code.wp _ _ _ _ _ from ?_)
              refine wp_cond_false rfl ?_
              refine wp_skip ?_
              refine (show Code.wp _ _ _ _ _ from ?_)
              refine wp_seq ?_
              refine wp_region_L (W0 := w) [(g11, .cells #[.int .u8 40, .bool true, .bool false] 26 (0, 0)), (g1, .cells #[.int .u8 ((n : Nat) : Int), .bool h, .bool r] 26 (0, 0))] (hW34) ?_
              refine lv (v := .agg #[.int .u8 40, .bool true, .bool false]) rfl rfl (yb_load (n := 3) (off := 0) rfl (by kernel_rfl) (.head _) Tryd.underlying26 rfl (by kernel_rfl) (by simp) (by kernel_rfl)) ?_
              refine lv (v := .tuple #[strV [52, 53, 71, 49], .int .i64 0]) rfl rfl (yb_call (f := 25) (args := #[.agg #[.int .u8 40, .bool true, .bool false]]) (fun _ => by kernel_rfl) fun W hW => code_at (n := 40) (h := true) (r := false) W (HE.out.keep hW.1) (by kernel_rfl)) ?_
              refine lm (v := .tuple #[strV [52, 53, 71, 49], .int .i64 0]) rfl rfl ?_
              refine lm (v := strV [52, 53, 71, 49]) rfl rfl ?_
              refine lm (v := .int .i64 0) rfl rfl ?_
              refine lm (v := strV [52, 53, 71, 49]) rfl rfl ?_
              refine lm (v := .int .i64 0) rfl rfl ?_
              refine wpL_done (fun W35 hW35 => ?_)
              refine (show Code.wp _ _ _ _ _ from ?_)
              refine wp_seq ?_
              refine wp_region_L (W0 := w) [(g11, .cells #[.int .u8 40, .bool true, .bool false] 26 (0, 0)), (g1, .cells #[.int .u8 ((n : Nat) : Int), .bool h, .bool r] 26 (0, 0))] (hW35) ?_
              refine lm (v := .int .i64 0) rfl rfl ?_
              refine lm (v := .bool true) rfl rfl ?_
              refine lm (v := .bool true) rfl rfl ?_
              refine lm (v := strV [52, 53, 71, 49]) rfl rfl ?_
              refine lm (v := strV l0) rfl rfl ?_
              refine lp (v := .bool true) rfl rfl (run_bin rfl (vx := strV [52, 53, 71, 49]) (vy := strV l0) (by kernel_rfl) (by kernel_rfl) fun w => bs_eql (decide_eq_true (by assumption)) w) ?_
              refine lm (v := .bool true) rfl rfl ?_
              refine lm (v := .bool true) rfl rfl ?_
              refine wpL_done (fun W36 hW36 => ?_)
              refine (show Code.wp _ _ _ _ _ from ?_)
              refine wp_ret ?_
              try simp only [inBlock_ret, then_ret]
              refine bodyPost_ret (v := .bool true) ?_ rfl ?_
              · kernel_rfl
              · exact ⟨rfl, hW36.1⟩
          | true =>
            have h12 : [52, 50, 82, 49] = l0 := of_decide_eq_true hd12
            clear hd12
            refine lv (v := .tuple #[.agg #[.int .u8 40, .bool false, .bool true], .int .i64 0]) rfl rfl (yb_call (f := 26) (args := #[strV l0]) (fun _ => by kernel_rfl) fun W hW => size_at W (HE.out.keep hW.1) (by unfold sizeV; rw [if_neg h9, if_neg h10, if_neg h11, if_pos h12])) ?_
            refine lm (v := .tuple #[.agg #[.int .u8 40, .bool false, .bool true], .int .i64 0]) rfl rfl ?_
            refine lm (v := .agg #[.int .u8 40, .bool false, .bool true]) rfl rfl ?_
            refine lm (v := .int .i64 0) rfl rfl ?_
            refine wpL_new (fun g => .pointer (some ⟨g, 0, none⟩)) (obi := .cells #[.int .u8 0, .bool false, .bool false] 26 (0, 0)) rfl rfl (fun _ => by kernel_rfl) (fun _ => by simp only [List.setIfInBounds_toArray, List.set_cons_succ, List.set_cons_zero] <;> rfl) fun g12 Bg12 Fg12 => ?_
            refine wpL_s [(g12, .cells #[.int .u8 40, .bool false, .bool true] 26 (0, 0)), (g1, .cells #[.int .u8 ((n : Nat) : Int), .bool h, .bool r] 26 (0, 0))] rfl rfl (st_row (off := 0) (v := .agg #[.int .u8 40, .bool false, .bool true]) rfl (by kernel_rfl) (by kernel_rfl) (.head _) Bg12 (by kernel_rfl) (by simp [Value.cells]) (by intro v hv; simp [Value.cells] at hv; first | (subst hv; rfl) | (rcases hv with rfl | rfl | rfl <;> rfl)) (by kernel_rfl) (List.forall_mem_cons.2 ⟨.inl rfl, (List.forall_mem_cons.2 ⟨.inr ⟨(.tail _ (.head _)), (Fg12 _ (.head _))⟩, (List.forall_mem_nil _)⟩)⟩)) ?_
            refine lm (v := .int .i64 0) rfl rfl ?_
            refine wpL_done (fun W37 hW37 => ?_)
            refine (show Code.wp _ _ _ _ _ from ?_)
            refine wp_seq ?_
            refine wp_seq ?_
            refine wp_region_L (W0 := w) [(g12, .cells #[.int .u8 40, .bool false, .bool true] 26 (0, 0)), (g1, .cells #[.int .u8 ((n : Nat) : Int), .bool h, .bool r] 26 (0, 0))] (hW37) ?_
            refine lm (v := .int .i64 0) rfl rfl ?_
            refine lm (v := .bool false) rfl rfl ?_
            refine wpL_done (fun W38 hW38 => ?_)
            refine (show Code.wp _ _ _ _ _ from ?_)
            refine wp_cond_false rfl ?_
            refine wp_skip ?_
            refine (show Code.wp _ _ _ _ _ from ?_)
            refine wp_seq ?_
            refine wp_region_L (W0 := w) [(g12, .cells #[.int .u8 40, .bool false, .bool true] 26 (0, 0)), (g1, .cells #[.int .u8 ((n : Nat) : Int), .bool h, .bool r] 26 (0, 0))] (hW38) ?_
            refine lv (v := .agg #[.int .u8 40, .bool false, .bool true]) rfl rfl (yb_load (n := 3) (off := 0) rfl (by kernel_rfl) (.head _) Tryd.underlying26 rfl (by kernel_rfl) (by simp) (by kernel_rfl)) ?_
            refine lv (v := .tuple #[strV [52, 50, 82, 49], .int .i64 0]) rfl rfl (yb_call (f := 25) (args := #[.agg #[.int .u8 40, .bool false, .bool true]]) (fun _ => by kernel_rfl) fun W hW => code_at (n := 40) (h := false) (r := true) W (HE.out.keep hW.1) (by kernel_rfl)) ?_
            refine lm (v := .tuple #[strV [52, 50, 82, 49], .int .i64 0]) rfl rfl ?_
            refine lm (v := strV [52, 50, 82, 49]) rfl rfl ?_
            refine lm (v := .int .i64 0) rfl rfl ?_
            refine lm (v := strV [52, 50, 82, 49]) rfl rfl ?_
            refine lm (v := .int .i64 0) rfl rfl ?_
            refine wpL_done (fun W39 hW39 => ?_)
            refine (show Code.wp _ _ _ _ _ from ?_)
            refine wp_seq ?_
            refine wp_region_L (W0 := w) [(g12, .cells #[.int .u8 40, .bool false, .bool true] 26 (0, 0)), (g1, .cells #[.int .u8 ((n : Nat) : Int), .bool h, .bool r] 26 (0, 0))] (hW39) ?_
            refine lm (v := .int .i64 0) rfl rfl ?_
            refine lm (v := .bool true) rfl rfl ?_
            refine lm (v := .bool true) rfl rfl ?_
            refine lm (v := strV [52, 50, 82, 49]) rfl rfl ?_
            refine lm (v := strV l0) rfl rfl ?_
            refine lp (v := .bool true) rfl rfl (run_bin rfl (vx := strV [52, 50, 82, 49]) (vy := strV l0) (by kernel_rfl) (by kernel_rfl) fun w => bs_eql (decide_eq_true (by assumption)) w) ?_
            refine lm (v := .bool true) rfl rfl ?_
            refine lm (v := .bool true) rfl rfl ?_
            refine wpL_done (fun W40 hW40 => ?_)
            refine (show Code.wp _ _ _ _ _ from ?_)
            refine wp_ret ?_
            try simp only [inBlock_ret, then_ret]
            refine bodyPost_ret (v := .bool true) ?_ rfl ?_
            · kernel_rfl
            · exact ⟨rfl, hW40.1⟩
        | true =>
          have h11 : [52, 50, 71, 49] = l0 := of_decide_eq_true hd11
          clear hd11
          refine lv (v := .tuple #[.agg #[.int .u8 40, .bool false, .bool false], .int .i64 0]) rfl rfl (yb_call (f := 26) (args := #[strV l0]) (fun _ => by kernel_rfl) fun W hW => size_at W (HE.out.keep hW.1) (by unfold sizeV; rw [if_neg h9, if_neg h10, if_pos h11])) ?_
          refine lm (v := .tuple #[.agg #[.int .u8 40, .bool false, .bool false], .int .i64 0]) rfl rfl ?_
          refine lm (v := .agg #[.int .u8 40, .bool false, .bool false]) rfl rfl ?_
          refine lm (v := .int .i64 0) rfl rfl ?_
          refine wpL_new (fun g => .pointer (some ⟨g, 0, none⟩)) (obi := .cells #[.int .u8 0, .bool false, .bool false] 26 (0, 0)) rfl rfl (fun _ => by kernel_rfl) (fun _ => by simp only [List.setIfInBounds_toArray, List.set_cons_succ, List.set_cons_zero] <;> rfl) fun g13 Bg13 Fg13 => ?_
          refine wpL_s [(g13, .cells #[.int .u8 40, .bool false, .bool false] 26 (0, 0)), (g1, .cells #[.int .u8 ((n : Nat) : Int), .bool h, .bool r] 26 (0, 0))] rfl rfl (st_row (off := 0) (v := .agg #[.int .u8 40, .bool false, .bool false]) rfl (by kernel_rfl) (by kernel_rfl) (.head _) Bg13 (by kernel_rfl) (by simp [Value.cells]) (by intro v hv; simp [Value.cells] at hv; first | (subst hv; rfl) | (rcases hv with rfl | rfl | rfl <;> rfl)) (by kernel_rfl) (List.forall_mem_cons.2 ⟨.inl rfl, (List.forall_mem_cons.2 ⟨.inr ⟨(.tail _ (.head _)), (Fg13 _ (.head _))⟩, (List.forall_mem_nil _)⟩)⟩)) ?_
          refine lm (v := .int .i64 0) rfl rfl ?_
          refine wpL_done (fun W41 hW41 => ?_)
          refine (show Code.wp _ _ _ _ _ from ?_)
          refine wp_seq ?_
          refine wp_seq ?_
          refine wp_region_L (W0 := w) [(g13, .cells #[.int .u8 40, .bool false, .bool false] 26 (0, 0)), (g1, .cells #[.int .u8 ((n : Nat) : Int), .bool h, .bool r] 26 (0, 0))] (hW41) ?_
          refine lm (v := .int .i64 0) rfl rfl ?_
          refine lm (v := .bool false) rfl rfl ?_
          refine wpL_done (fun W42 hW42 => ?_)
          refine (show Code.wp _ _ _ _ _ from ?_)
          refine wp_cond_false rfl ?_
          refine wp_skip ?_
          refine (show Code.wp _ _ _ _ _ from ?_)
          refine wp_seq ?_
          refine wp_region_L (W0 := w) [(g13, .cells #[.int .u8 40, .bool false, .bool false] 26 (0, 0)), (g1, .cells #[.int .u8 ((n : Nat) : Int), .bool h, .bool r] 26 (0, 0))] (hW42) ?_
          refine lv (v := .agg #[.int .u8 40, .bool false, .bool false]) rfl rfl (yb_load (n := 3) (off := 0) rfl (by kernel_rfl) (.head _) Tryd.underlying26 rfl (by kernel_rfl) (by simp) (by kernel_rfl)) ?_
          refine lv (v := .tuple #[strV [52, 50, 71, 49], .int .i64 0]) rfl rfl (yb_call (f := 25) (args := #[.agg #[.int .u8 40, .bool false, .bool false]]) (fun _ => by kernel_rfl) fun W hW => code_at (n := 40) (h := false) (r := false) W (HE.out.keep hW.1) (by kernel_rfl)) ?_
          refine lm (v := .tuple #[strV [52, 50, 71, 49], .int .i64 0]) rfl rfl ?_
          refine lm (v := strV [52, 50, 71, 49]) rfl rfl ?_
          refine lm (v := .int .i64 0) rfl rfl ?_
          refine lm (v := strV [52, 50, 71, 49]) rfl rfl ?_
          refine lm (v := .int .i64 0) rfl rfl ?_
          refine wpL_done (fun W43 hW43 => ?_)
          refine (show Code.wp _ _ _ _ _ from ?_)
          refine wp_seq ?_
          refine wp_region_L (W0 := w) [(g13, .cells #[.int .u8 40, .bool false, .bool false] 26 (0, 0)), (g1, .cells #[.int .u8 ((n : Nat) : Int), .bool h, .bool r] 26 (0, 0))] (hW43) ?_
          refine lm (v := .int .i64 0) rfl rfl ?_
          refine lm (v := .bool true) rfl rfl ?_
          refine lm (v := .bool true) rfl rfl ?_
          refine lm (v := strV [52, 50, 71, 49]) rfl rfl ?_
          refine lm (v := strV l0) rfl rfl ?_
          refine lp (v := .bool true) rfl rfl (run_bin rfl (vx := strV [52, 50, 71, 49]) (vy := strV l0) (by kernel_rfl) (by kernel_rfl) fun w => bs_eql (decide_eq_true (by assumption)) w) ?_
          refine lm (v := .bool true) rfl rfl ?_
          refine lm (v := .bool true) rfl rfl ?_
          refine wpL_done (fun W44 hW44 => ?_)
          refine (show Code.wp _ _ _ _ _ from ?_)
          refine wp_ret ?_
          try simp only [inBlock_ret, then_ret]
          refine bodyPost_ret (v := .bool true) ?_ rfl ?_
          · kernel_rfl
          · exact ⟨rfl, hW44.1⟩
      | true =>
        have h10 : [50, 50, 82, 49] = l0 := of_decide_eq_true hd10
        clear hd10
        refine lv (v := .tuple #[.agg #[.int .u8 20, .bool false, .bool true], .int .i64 0]) rfl rfl (yb_call (f := 26) (args := #[strV l0]) (fun _ => by kernel_rfl) fun W hW => size_at W (HE.out.keep hW.1) (by unfold sizeV; rw [if_neg h9, if_pos h10])) ?_
        refine lm (v := .tuple #[.agg #[.int .u8 20, .bool false, .bool true], .int .i64 0]) rfl rfl ?_
        refine lm (v := .agg #[.int .u8 20, .bool false, .bool true]) rfl rfl ?_
        refine lm (v := .int .i64 0) rfl rfl ?_
        refine wpL_new (fun g => .pointer (some ⟨g, 0, none⟩)) (obi := .cells #[.int .u8 0, .bool false, .bool false] 26 (0, 0)) rfl rfl (fun _ => by kernel_rfl) (fun _ => by simp only [List.setIfInBounds_toArray, List.set_cons_succ, List.set_cons_zero] <;> rfl) fun g14 Bg14 Fg14 => ?_
        refine wpL_s [(g14, .cells #[.int .u8 20, .bool false, .bool true] 26 (0, 0)), (g1, .cells #[.int .u8 ((n : Nat) : Int), .bool h, .bool r] 26 (0, 0))] rfl rfl (st_row (off := 0) (v := .agg #[.int .u8 20, .bool false, .bool true]) rfl (by kernel_rfl) (by kernel_rfl) (.head _) Bg14 (by kernel_rfl) (by simp [Value.cells]) (by intro v hv; simp [Value.cells] at hv; first | (subst hv; rfl) | (rcases hv with rfl | rfl | rfl <;> rfl)) (by kernel_rfl) (List.forall_mem_cons.2 ⟨.inl rfl, (List.forall_mem_cons.2 ⟨.inr ⟨(.tail _ (.head _)), (Fg14 _ (.head _))⟩, (List.forall_mem_nil _)⟩)⟩)) ?_
        refine lm (v := .int .i64 0) rfl rfl ?_
        refine wpL_done (fun W45 hW45 => ?_)
        refine (show Code.wp _ _ _ _ _ from ?_)
        refine wp_seq ?_
        refine wp_seq ?_
        refine wp_region_L (W0 := w) [(g14, .cells #[.int .u8 20, .bool false, .bool true] 26 (0, 0)), (g1, .cells #[.int .u8 ((n : Nat) : Int), .bool h, .bool r] 26 (0, 0))] (hW45) ?_
        refine lm (v := .int .i64 0) rfl rfl ?_
        refine lm (v := .bool false) rfl rfl ?_
        refine wpL_done (fun W46 hW46 => ?_)
        refine (show Code.wp _ _ _ _ _ from ?_)
        refine wp_cond_false rfl ?_
        refine wp_skip ?_
        refine (show Code.wp _ _ _ _ _ from ?_)
        refine wp_seq ?_
        refine wp_region_L (W0 := w) [(g14, .cells #[.int .u8 20, .bool false, .bool true] 26 (0, 0)), (g1, .cells #[.int .u8 ((n : Nat) : Int), .bool h, .bool r] 26 (0, 0))] (hW46) ?_
        refine lv (v := .agg #[.int .u8 20, .bool false, .bool true]) rfl rfl (yb_load (n := 3) (off := 0) rfl (by kernel_rfl) (.head _) Tryd.underlying26 rfl (by kernel_rfl) (by simp) (by kernel_rfl)) ?_
        refine lv (v := .tuple #[strV [50, 50, 82, 49], .int .i64 0]) rfl rfl (yb_call (f := 25) (args := #[.agg #[.int .u8 20, .bool false, .bool true]]) (fun _ => by kernel_rfl) fun W hW => code_at (n := 20) (h := false) (r := true) W (HE.out.keep hW.1) (by kernel_rfl)) ?_
        refine lm (v := .tuple #[strV [50, 50, 82, 49], .int .i64 0]) rfl rfl ?_
        refine lm (v := strV [50, 50, 82, 49]) rfl rfl ?_
        refine lm (v := .int .i64 0) rfl rfl ?_
        refine lm (v := strV [50, 50, 82, 49]) rfl rfl ?_
        refine lm (v := .int .i64 0) rfl rfl ?_
        refine wpL_done (fun W47 hW47 => ?_)
        refine (show Code.wp _ _ _ _ _ from ?_)
        refine wp_seq ?_
        refine wp_region_L (W0 := w) [(g14, .cells #[.int .u8 20, .bool false, .bool true] 26 (0, 0)), (g1, .cells #[.int .u8 ((n : Nat) : Int), .bool h, .bool r] 26 (0, 0))] (hW47) ?_
        refine lm (v := .int .i64 0) rfl rfl ?_
        refine lm (v := .bool true) rfl rfl ?_
        refine lm (v := .bool true) rfl rfl ?_
        refine lm (v := strV [50, 50, 82, 49]) rfl rfl ?_
        refine lm (v := strV l0) rfl rfl ?_
        refine lp (v := .bool true) rfl rfl (run_bin rfl (vx := strV [50, 50, 82, 49]) (vy := strV l0) (by kernel_rfl) (by kernel_rfl) fun w => bs_eql (decide_eq_true (by assumption)) w) ?_
        refine lm (v := .bool true) rfl rfl ?_
        refine lm (v := .bool true) rfl rfl ?_
        refine wpL_done (fun W48 hW48 => ?_)
        refine (show Code.wp _ _ _ _ _ from ?_)
        refine wp_ret ?_
        try simp only [inBlock_ret, then_ret]
        refine bodyPost_ret (v := .bool true) ?_ rfl ?_
        · kernel_rfl
        · exact ⟨rfl, hW48.1⟩
    | true =>
      have h9 : [50, 50, 71, 49] = l0 := of_decide_eq_true hd9
      clear hd9
      refine lv (v := .tuple #[.agg #[.int .u8 20, .bool false, .bool false], .int .i64 0]) rfl rfl (yb_call (f := 26) (args := #[strV l0]) (fun _ => by kernel_rfl) fun W hW => size_at W (HE.out.keep hW.1) (by unfold sizeV; rw [if_pos h9])) ?_
      refine lm (v := .tuple #[.agg #[.int .u8 20, .bool false, .bool false], .int .i64 0]) rfl rfl ?_
      refine lm (v := .agg #[.int .u8 20, .bool false, .bool false]) rfl rfl ?_
      refine lm (v := .int .i64 0) rfl rfl ?_
      refine wpL_new (fun g => .pointer (some ⟨g, 0, none⟩)) (obi := .cells #[.int .u8 0, .bool false, .bool false] 26 (0, 0)) rfl rfl (fun _ => by kernel_rfl) (fun _ => by simp only [List.setIfInBounds_toArray, List.set_cons_succ, List.set_cons_zero] <;> rfl) fun g15 Bg15 Fg15 => ?_
      refine wpL_s [(g15, .cells #[.int .u8 20, .bool false, .bool false] 26 (0, 0)), (g1, .cells #[.int .u8 ((n : Nat) : Int), .bool h, .bool r] 26 (0, 0))] rfl rfl (st_row (off := 0) (v := .agg #[.int .u8 20, .bool false, .bool false]) rfl (by kernel_rfl) (by kernel_rfl) (.head _) Bg15 (by kernel_rfl) (by simp [Value.cells]) (by intro v hv; simp [Value.cells] at hv; first | (subst hv; rfl) | (rcases hv with rfl | rfl | rfl <;> rfl)) (by kernel_rfl) (List.forall_mem_cons.2 ⟨.inl rfl, (List.forall_mem_cons.2 ⟨.inr ⟨(.tail _ (.head _)), (Fg15 _ (.head _))⟩, (List.forall_mem_nil _)⟩)⟩)) ?_
      refine lm (v := .int .i64 0) rfl rfl ?_
      refine wpL_done (fun W49 hW49 => ?_)
      refine (show Code.wp _ _ _ _ _ from ?_)
      refine wp_seq ?_
      refine wp_seq ?_
      refine wp_region_L (W0 := w) [(g15, .cells #[.int .u8 20, .bool false, .bool false] 26 (0, 0)), (g1, .cells #[.int .u8 ((n : Nat) : Int), .bool h, .bool r] 26 (0, 0))] (hW49) ?_
      refine lm (v := .int .i64 0) rfl rfl ?_
      refine lm (v := .bool false) rfl rfl ?_
      refine wpL_done (fun W50 hW50 => ?_)
      refine (show Code.wp _ _ _ _ _ from ?_)
      refine wp_cond_false rfl ?_
      refine wp_skip ?_
      refine (show Code.wp _ _ _ _ _ from ?_)
      refine wp_seq ?_
      refine wp_region_L (W0 := w) [(g15, .cells #[.int .u8 20, .bool false, .bool false] 26 (0, 0)), (g1, .cells #[.int .u8 ((n : Nat) : Int), .bool h, .bool r] 26 (0, 0))] (hW50) ?_
      refine lv (v := .agg #[.int .u8 20, .bool false, .bool false]) rfl rfl (yb_load (n := 3) (off := 0) rfl (by kernel_rfl) (.head _) Tryd.underlying26 rfl (by kernel_rfl) (by simp) (by kernel_rfl)) ?_
      refine lv (v := .tuple #[strV [50, 50, 71, 49], .int .i64 0]) rfl rfl (yb_call (f := 25) (args := #[.agg #[.int .u8 20, .bool false, .bool false]]) (fun _ => by kernel_rfl) fun W hW => code_at (n := 20) (h := false) (r := false) W (HE.out.keep hW.1) (by kernel_rfl)) ?_
      refine lm (v := .tuple #[strV [50, 50, 71, 49], .int .i64 0]) rfl rfl ?_
      refine lm (v := strV [50, 50, 71, 49]) rfl rfl ?_
      refine lm (v := .int .i64 0) rfl rfl ?_
      refine lm (v := strV [50, 50, 71, 49]) rfl rfl ?_
      refine lm (v := .int .i64 0) rfl rfl ?_
      refine wpL_done (fun W51 hW51 => ?_)
      refine (show Code.wp _ _ _ _ _ from ?_)
      refine wp_seq ?_
      refine wp_region_L (W0 := w) [(g15, .cells #[.int .u8 20, .bool false, .bool false] 26 (0, 0)), (g1, .cells #[.int .u8 ((n : Nat) : Int), .bool h, .bool r] 26 (0, 0))] (hW51) ?_
      refine lm (v := .int .i64 0) rfl rfl ?_
      refine lm (v := .bool true) rfl rfl ?_
      refine lm (v := .bool true) rfl rfl ?_
      refine lm (v := strV [50, 50, 71, 49]) rfl rfl ?_
      refine lm (v := strV l0) rfl rfl ?_
      refine lp (v := .bool true) rfl rfl (run_bin rfl (vx := strV [50, 50, 71, 49]) (vy := strV l0) (by kernel_rfl) (by kernel_rfl) fun w => bs_eql (decide_eq_true (by assumption)) w) ?_
      refine lm (v := .bool true) rfl rfl ?_
      refine lm (v := .bool true) rfl rfl ?_
      refine wpL_done (fun W52 hW52 => ?_)
      refine (show Code.wp _ _ _ _ _ from ?_)
      refine wp_ret ?_
      try simp only [inBlock_ret, then_ret]
      refine bodyPost_ret (v := .bool true) ?_ rfl ?_
      · kernel_rfl
      · exact ⟨rfl, hW52.1⟩
end Go.Proofs.YtbceajgipmjmlaaDoor
/- IsoKinds holds for every input: the program's own answer is true, wherever the listed variables are as the program's text lays them; each argument reads afterwards as it read before. -/
namespace Go.Proofs.YtbceajgipmjmlaaDoor
open Go.ChangeShapes Go.WideShapes Go.ChangeAt Go.RowKit Tw
set_option maxRecDepth 100000 in
theorem isoKinds_lifted (os : Os) (started : os.Started) (H : Type) (enc : TypeId × Value → H) :
    ReturnsInHanded {} Tryd.checked os 9 .any (fun w args => (Rows.isoKindsSpec.pre enc Tryd.prog Tryd.f9 Rows.isoKindsRow.domain false w args ∧ laidMetH Tryd.prog laidN w) ∧ sizedMet enc Tryd.prog Tryd.f9 (OpenSpec.ofChange Rows.isoKindsSpec) false w args) (Rows.isoKindsSpec.post enc Tryd.prog Tryd.f9 false true false false) := by
  refine handed_and_sized (C := Tryd.checked) (X := fun w => laidMetH Tryd.prog laidN w) (fun _ _ hh h => h.of_heap hh) own started (by kernel_rfl) Tryd.func9
    (ChangeSpec.witness_shaped (enc := enc) (C := Tryd.checked) (os := os) (X := fun w _ => laidMetH Tryd.prog laidN w) false (World.doorLaid Tryd.prog 1000 os) #[.string ByteArray.empty, .int .u8 0, .bool false, .bool false] 8 rfl (World.shaped_of_RefB (by kernel_rfl) (by kernel_rfl)) (by kernel_rfl) (by kernel_rfl) (by kernel_rfl) (door_met os _)) ?_
  intro W base args ds gs before hval0 hW hL hsh hsz
  have hval : ∀ (j : Nat) t v, Tryd.f9.params[j]? = some t → args[j]? = some v → Value.okWide Tryd.prog W .any base t v := hval0
  have hW2 := hW
  obtain ⟨p, q, hA0, hV, rfl, hfz, hnd⟩ := hW2
  have hA : DataW.TrodAll enc Tryd.prog W 0 (fun _ => true) true Tryd.f9.params.toList args.toList ds p := hA0
  rw [Tryd.params9] at hA hval
  obtain ⟨v0, vs0, d0, ds0, p0, q0, hargs, rfl, rfl, h0, r0⟩ := trodAll_cons hA
  obtain ⟨v1, vs1, d1, ds1, p1, q1, rfl, rfl, rfl, h1, r1⟩ := trodAll_cons r0
  obtain ⟨v2, vs2, d2, ds2, p2, q2, rfl, rfl, rfl, h2, r2⟩ := trodAll_cons r1
  obtain ⟨v3, vs3, d3, ds3, p3, q3, rfl, rfl, rfl, h3, r3⟩ := trodAll_cons r2
  obtain ⟨rfl, rfl, rfl⟩ := trodAll_nil r3
  obtain rfl : args = #[v0, v1, v2, v3] := by cases args; simp_all
  obtain ⟨rfl, rfl⟩ := trodVars_none hV
  obtain ⟨s0, rfl, rfl, rfl, w0⟩ := ChangeMaps.open_string Tryd.underlying9 (hval 0 9 v0 rfl rfl) h0
  have rr0 : s0.data.toList.length ≤ 281474976710656 := by have h1 := sized_string (j := 0) (t := 9) hsz rfl rfl; have h2 := reachBytes_lt; omega
  obtain ⟨a1, rfl, rfl, rfl, w1⟩ := open_int Tryd.underlying5 (hval 1 5 v1 rfl rfl) h1
  have rr1 : 0 ≤ a1 ∧ a1 ≤ 255 := of_wf w1
  obtain ⟨a2, rfl, rfl, rfl⟩ := open_bool Tryd.underlying4 (hval 2 4 v2 rfl rfl) h2
  obtain ⟨a3, rfl, rfl, rfl⟩ := open_bool Tryd.underlying4 (hval 3 4 v3 rfl rfl) h3
  clear hA0 hval0
  simp only [List.append_nil] at hW
  refine (IsoKinds_law W (env_of hL) s0.data.toList rr0 a1 rr1 a2 a3).mono fun e W' ⟨he, bel⟩ => ?_
  subst he
  exact ⟨_, rfl, _, _, _, [], [], [], hW, (trodAll_cons_mk (shut_bool Tryd.underlying4 _) trodAll_mk0), (trodAll_cons_mk (ChangeMaps.shut_string Tryd.underlying9 w0) (trodAll_cons_mk (shut_int Tryd.underlying5 w1) (trodAll_cons_mk (shut_bool Tryd.underlying4 _) (trodAll_cons_mk (shut_bool Tryd.underlying4 _) trodAll_mk0)))), rfl, bel.frame _, fun h => by cases h⟩
theorem isoKinds_said : Rows.IsoKindsSaid :=
  OpenClaim.holds_of_wide 9 Tryd.f9 rfl rfl rfl rfl rfl rfl rfl ⟨rfl, rfl, rfl, rfl, rfl⟩ rfl rfl rfl rfl rfl (by kernel_rfl) Tryd.func9 (by kernel_rfl)
    (of_decide_eq_true (by kernel_rfl)) (by unfold Func.isWrapper; first | (rw [if_pos (by decide +kernel)]; kernel_rfl) | (rw [if_neg (by decide +kernel)]; exact ⟨rfl, rfl⟩))
    (fun os started H enc _ => isoKinds_lifted os started H enc)
theorem isoKinds_proved : Rows.IsoKindsCardSaid :=
  Claim7.holds_tied_plain_at .later [] [.data] true Rows.isoKindsCard.stood.harness Rows.isoKindsCard.stood.looks
    isoKinds_said (fun _ h => by cases h) (by kernel_rfl) (fun _ h => by cases h) isoKinds_row_tie rfl ⟨rfl, rfl⟩ (by kernel_rfl) rfl
    (fun f fn hf hfn => by
      obtain rfl : f = 9 := Option.some.inj ((show Tryd.prog.funcNamed "twistlock/twistlocklaw03.IsoKinds" = some 9 by kernel_rfl).symm.trans hf) |>.symm
      obtain rfl : fn = Tryd.f9 := (Option.some.inj (Tryd.func9.symm.trans hfn)).symm
      exact ⟨by kernel_rfl, fun j t ht => by
        rw [Tryd.params9] at ht
        have hm : t ∈ [9, 5, 4, 4] := by simpa using Array.mem_of_getElem? ht
        have hall : ([9, 5, 4, 4].all fun u => !Tryd.prog.wantsStandIn u) = true := by kernel_rfl
        exact (show Tryd.prog.wantsStandIn t = false by simpa using List.all_eq_true.1 hall t hm)⟩)
    (by kernel_rfl)
#print axioms isoKinds_proved
end Go.Proofs.YtbceajgipmjmlaaDoor
