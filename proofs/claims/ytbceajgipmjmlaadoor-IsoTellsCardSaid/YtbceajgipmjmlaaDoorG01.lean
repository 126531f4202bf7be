import Derived.Test.YtbceajgipmjmlaaDoorG00
/- Part of the proof: Q4, Q5, Q6, Q7, Q8. -/
set_option linter.unusedVariables false
set_option linter.unusedSimpArgs false
set_option linter.unusedSectionVars false
namespace Go.Proofs.YtbceajgipmjmlaaDoor
open Go Go.RowKit Tw
theorem judge_len {l : List UInt8} (h : judgeN l = 0) : l.length = 11 := by
  unfold judgeN at h
  split at h
  · exact fit_len (by assumption)
  · omega
set_option maxRecDepth 100000 in
set_option maxHeartbeats 4000000 in
theorem fits_any (l : List UInt8) (n : Nat) (hn : n ≤ 11) (w : World) : Calls Tryd.prog 45 #[strV l, .int .i64 ((n : Nat) : Int)] w fun e w' => e = .returned (.bool (fitB l n)) ∧ Below w.heap.size w w' := by
  go_enter Tryd.func45, Tryd.ntmps45
  refine wp_seq ?_
  refine wp_region_L (W0 := w) [] (KS.start w) ?_
  refine lm (v := .bool false) rfl rfl ?_
  refine wpL_done (fun W1 hW1 => ?_)
  refine (show Code.wp _ _ _ _ _ from ?_)
  refine wp_seq ?_
  refine wp_seq ?_
  refine wp_region_L (W0 := w) [] (hW1) ?_
  refine lm (v := strV l) rfl rfl ?_
  refine lp (v := .int .i64 ((l.length : Nat) : Int)) rfl rfl (run_lenS (l := l) rfl Tryd.underlying9 (by kernel_rfl)) ?_
  refine lm (v := .int .i64 ((n : Nat) : Int)) rfl rfl ?_
  refine lp (v := .bool (!(decide (l.length = n)))) rfl rfl (run_bin rfl (vx := (.int .i64 ((l.length : Nat) : Int))) (vy := (.int .i64 ((n : Nat) : Int))) (by kernel_rfl) (by kernel_rfl) fun w => bn_neq rfl w) ?_
  refine wpL_done (fun W2 hW2 => ?_)
  refine (show Code.wp _ _ _ _ _ from ?_)
  cases hd1 : (decide (l.length = n)) with
  | false =>
    have h1 : ¬ (l.length = n) := of_decide_eq_false hd1
    clear hd1
    refine wp_cond_true rfl ?_
    refine wp_seq ?_
    refine wp_region_L (W0 := w) [] (hW2) ?_
    refine lm (v := .bool false) rfl rfl ?_
    refine wpL_done (fun W3 hW3 => ?_)
    refine (show Code.wp _ _ _ _ _ from ?_)
    refine wp_ret ?_
    try simp only [inBlock_ret, then_ret]
    refine bodyPost_ret (v := .bool false) ?_ rfl ?_
    · kernel_rfl
    · exact ⟨(bool_is (by unfold fitB; simp [*])), hW3.1⟩
  | true =>
    have h1 : l.length = n := of_decide_eq_true hd1
    clear hd1
    refine wp_cond_false rfl ?_
    refine wp_skip ?_
    refine (show Code.wp _ _ _ _ _ from ?_)
    refine wp_seq ?_
    refine wp_region_L (W0 := w) [] (hW2) ?_
    refine wpL_c (f := 42) (args := #[]) (GPl w []) rfl (by kernel_rfl) (fun _ => (by kernel_rfl)) (fun W hW => calls_pl hW) (fun _ => by simp only [List.setIfInBounds_toArray, List.set_cons_succ, List.set_cons_zero] <;> rfl) ?_
    rintro v K9 ⟨g1, g2, g3, g4, rfl, Bg1, Bg2, Bg3, Bg4, Fg1, Fg2, Fg3, Fg4, rfl⟩
    unfold plK
    refine wpL_new (fun g => .pointer (some ⟨g, 0, none⟩)) (obi := .cells #[.nilFunc, .nilFunc, .nilFunc, .nilFunc, .nilFunc, .nilFunc, .nilFunc, .nilFunc, .nilFunc, .nilFunc, .nilFunc] 85 (0, 0)) rfl rfl (fun _ => by kernel_rfl) (fun _ => by simp only [List.setIfInBounds_toArray, List.set_cons_succ, List.set_cons_zero] <;> rfl) fun g5 Bg5 Fg5 => ?_
    refine wpL_s [(g5, .cells (placesV g1 g2 g3 g4) 85 (0, 0)), (g4, .cells #[.int .u8 57] 5 (0, 0)), (g3, .cells #[.int .u8 48] 5 (0, 0)), (g2, .cells #[.int .u8 90] 5 (0, 0)), (g1, .cells #[.int .u8 65] 5 (0, 0))] rfl rfl (st_row (off := 0) (v := .agg (placesV g1 g2 g3 g4)) rfl (by kernel_rfl) (by kernel_rfl) (.head _) Bg5 (by kernel_rfl) (by simp [Value.cells, placesV]) (by intro v hv; simp [Value.cells, placesV] at hv; rcases hv with rfl | rfl | rfl | rfl | rfl | rfl | rfl | rfl | rfl | rfl | rfl <;> rfl) (by kernel_rfl) (List.forall_mem_cons.2 ⟨.inl rfl, (List.forall_mem_cons.2 ⟨.inr ⟨(.tail _ (.head _)), (Fg5 _ (.head _))⟩, (List.forall_mem_cons.2 ⟨.inr ⟨(.tail _ (.tail _ (.head _))), (Fg5 _ (.tail _ (.head _)))⟩, (List.forall_mem_cons.2 ⟨.inr ⟨(.tail _ (.tail _ (.tail _ (.head _)))), (Fg5 _ (.tail _ (.tail _ (.head _))))⟩, (List.forall_mem_cons.2 ⟨.inr ⟨(.tail _ (.tail _ (.tail _ (.tail _ (.head _))))), (Fg5 _ (.tail _ (.tail _ (.tail _ (.head _)))))⟩, (List.forall_mem_nil _)⟩)⟩)⟩)⟩)⟩)) ?_
    refine wpL_done (fun W4 hW4 => ?_)
    refine (show Code.wp _ _ _ _ _ from ?_)
    refine wp_seq ?_
    refine wp_seq ?_
    refine wp_region_L (W0 := w) [(g5, .cells (placesV g1 g2 g3 g4) 85 (0, 0)), (g4, .cells #[.int .u8 57] 5 (0, 0)), (g3, .cells #[.int .u8 48] 5 (0, 0)), (g2, .cells #[.int .u8 90] 5 (0, 0)), (g1, .cells #[.int .u8 65] 5 (0, 0))] (hW4) ?_
    refine lm (v := .int .i64 ((n : Nat) : Int)) rfl rfl ?_
    refine lm (v := .int .i64 0) rfl rfl ?_
    refine wpL_done (fun W5 hW5 => ?_)
    refine (show Code.wp _ _ _ _ _ from ?_)
    refine wp_block ?_
    go_loopw [13] (fun u13 wr => ∃ (k : Nat), (k ≤ n) ∧ (fitF 0 l = fitF k (l.drop k)) ∧ u13 = .int .i64 ((k : Nat) : Int) ∧ KS w [(g5, .cells (placesV g1 g2 g3 g4) 85 (0, 0)), (g4, .cells #[.int .u8 57] 5 (0, 0)), (g3, .cells #[.int .u8 48] 5 (0, 0)), (g2, .cells #[.int .u8 90] 5 (0, 0)), (g1, .cells #[.int .u8 65] 5 (0, 0))] wr) (fun u13 _ => n - (intOf u13).toNat)
    case atStart => exact ⟨0, (Nat.zero_le _), rfl, rfl, hW5⟩
    case round =>
      obtain ⟨k, hk, hf, rfl, hL6⟩ := hrel
      refine wp_seq ?_
      refine wp_region_L (W0 := w) [(g5, .cells (placesV g1 g2 g3 g4) 85 (0, 0)), (g4, .cells #[.int .u8 57] 5 (0, 0)), (g3, .cells #[.int .u8 48] 5 (0, 0)), (g2, .cells #[.int .u8 90] 5 (0, 0)), (g1, .cells #[.int .u8 65] 5 (0, 0))] (hL6) ?_
      refine lp (v := .bool (decide (k < n))) rfl rfl (run_bin rfl (vx := (.int .i64 ((k : Nat) : Int))) (vy := (.int .i64 ((n : Nat) : Int))) (by kernel_rfl) (by kernel_rfl) fun w => bn_lss rfl w) ?_
      refine wpL_done (fun W7 hW7 => ?_)
      refine (show Code.wp _ _ _ _ _ from ?_)
      refine wp_seq ?_
      cases hd2 : (decide (k < n)) with
      | false =>
        have h2 : ¬ (k < n) := of_decide_eq_false hd2
        clear hd2
        have hff : fitF 0 l = true := by rw [hf, List.drop_eq_nil_of_le (by omega)]; rfl
        refine wp_cond_false rfl ?_
        refine wp_exit ?_
        refine (show Code.wp _ _ _ _ _ from ?_)
        refine wp_seq ?_
        refine wp_region_L (W0 := w) [(g5, .cells (placesV g1 g2 g3 g4) 85 (0, 0)), (g4, .cells #[.int .u8 57] 5 (0, 0)), (g3, .cells #[.int .u8 48] 5 (0, 0)), (g2, .cells #[.int .u8 90] 5 (0, 0)), (g1, .cells #[.int .u8 65] 5 (0, 0))] (hW7) ?_
        refine lm (v := .bool true) rfl rfl ?_
        refine wpL_done (fun W8 hW8 => ?_)
        refine (show Code.wp _ _ _ _ _ from ?_)
        refine wp_ret ?_
        try simp only [inBlock_ret, then_ret]
        refine bodyPost_ret (v := .bool true) ?_ rfl ?_
        · kernel_rfl
        · exact ⟨(bool_is (by unfold fitB; rw [hff]; simp [*])), hW8.1⟩
      | true =>
        have h2 : k < n := of_decide_eq_true hd2
        clear hd2
        refine wp_cond_true rfl ?_
        refine wp_skip ?_
        refine (show Code.wp _ _ _ _ _ from ?_)
        refine wp_seq ?_
        refine wp_block ?_
        refine wp_seq ?_
        refine wp_region_L (W0 := w) [(g5, .cells (placesV g1 g2 g3 g4) 85 (0, 0)), (g4, .cells #[.int .u8 57] 5 (0, 0)), (g3, .cells #[.int .u8 48] 5 (0, 0)), (g2, .cells #[.int .u8 90] 5 (0, 0)), (g1, .cells #[.int .u8 65] 5 (0, 0))] (hW7) ?_
        refine lm (v := .int .i64 ((k : Nat) : Int)) rfl rfl ?_
        refine lm (v := .int .i64 ((k : Nat) : Int)) rfl rfl ?_
        refine wpL_done (fun W9 hW9 => ?_)
        refine (show Code.wp _ _ _ _ _ from ?_)
        refine wp_seq ?_
        refine wp_region_V (W0 := w) [(g5, .cells (placesV g1 g2 g3 g4) 85 (0, 0)), (g4, .cells #[.int .u8 57] 5 (0, 0)), (g3, .cells #[.int .u8 48] 5 (0, 0)), (g2, .cells #[.int .u8 90] 5 (0, 0)), (g1, .cells #[.int .u8 65] 5 (0, 0))] (by kernel_rfl) (hW9) ?_
        refine vm (i := 0) (v := .int .i64 ((k : Nat) : Int)) rfl rfl rfl ?_
        refine vp (i := 1) (v := .pointer (some ⟨g5, 0 + k * 1, none⟩)) rfl rfl rfl (run_idxA (j := .i64) (b := g5) (off := 0) (k := k) (sz := 1) rfl Tryd.underlying85 (by kernel_rfl) (by kernel_rfl) (by kernel_rfl) (by omega)) ?_
        refine vv (i := 2) (v := placeAt g1 g2 g3 g4 k) rfl rfl rfl (yb_cell rfl (by kernel_rfl) (.head _) Tryd.underlying84 rfl (places_get (by omega))) ?_
        refine vm (i := 3) (v := strV l) rfl rfl rfl ?_
        refine vm (i := 4) (v := .int .i64 ((k : Nat) : Int)) rfl rfl rfl ?_
        obtain ⟨b6, hb6⟩ : ∃ b, l[k]? = some b := ⟨_, List.getElem?_eq_getElem (by omega)⟩
        have lb6 := b6.toNat_lt
        refine vp (i := 5) (v := .int .u8 ((b6.toNat : Nat) : Int)) rfl rfl rfl (run_idxS (j := .i64) (l := l) (k := k) (b := b6) rfl Tryd.underlying9 (by kernel_rfl) (by kernel_rfl) hb6) ?_
        refine vv (i := 6) (v := .bool (mayB k b6)) rfl rfl rfl (yb_may (k := k) (b := b6) rfl (by kernel_rfl) (by kernel_rfl) (.tail _ (.tail _ (.tail _ (.tail _ (.head _))))) (.tail _ (.tail _ (.tail _ (.head _)))) (.tail _ (.tail _ (.head _))) (.tail _ (.head _))) ?_
        refine vp (i := 7) (v := .bool (!(mayB k b6))) rfl rfl rfl (run_un rfl (by kernel_rfl) fun w => un_not w) ?_
        refine wpV_done (by kernel_rfl) (fun W10 hW10 => ?_) _
        refine (show Code.wp _ _ _ _ _ from ?_)
        cases h3 : (mayB k b6) with
        | false =>
          have hff : fitF 0 l = false := by rw [hf, fitF_drop hb6, h3]; rfl
          refine wp_cond_true rfl ?_
          refine wp_seq ?_
          refine wp_region_L (W0 := w) [(g5, .cells (placesV g1 g2 g3 g4) 85 (0, 0)), (g4, .cells #[.int .u8 57] 5 (0, 0)), (g3, .cells #[.int .u8 48] 5 (0, 0)), (g2, .cells #[.int .u8 90] 5 (0, 0)), (g1, .cells #[.int .u8 65] 5 (0, 0))] (hW10) ?_
          refine lm (v := .bool false) rfl rfl ?_
          refine wpL_done (fun W11 hW11 => ?_)
          refine (show Code.wp _ _ _ _ _ from ?_)
          refine wp_ret ?_
          try simp only [inBlock_ret, then_ret]
          refine bodyPost_ret (v := .bool false) ?_ rfl ?_
          · kernel_rfl
          · exact ⟨(bool_is (by unfold fitB; rw [hff]; simp [*])), hW11.1⟩
        | true =>
          refine wp_cond_false rfl ?_
          refine wp_skip ?_
          refine (show Code.wp _ _ _ _ _ from ?_)
          refine wp_region_L (W0 := w) [(g5, .cells (placesV g1 g2 g3 g4) 85 (0, 0)), (g4, .cells #[.int .u8 57] 5 (0, 0)), (g3, .cells #[.int .u8 48] 5 (0, 0)), (g2, .cells #[.int .u8 90] 5 (0, 0)), (g1, .cells #[.int .u8 65] 5 (0, 0))] (hW10) ?_
          refine lp (v := .int .i64 (((k + 1) : Nat) : Int)) rfl rfl (run_bin rfl (vx := (.int .i64 ((k : Nat) : Int))) (vy := (.int .i64 ((1 : Nat) : Int))) (by kernel_rfl) (by kernel_rfl) fun w => bn_add (z := (k + 1)) rfl (wr_i64 (by omega)) w) ?_
          refine lm (v := .int .i64 (((k + 1) : Nat) : Int)) rfl rfl ?_
          refine wpL_done (fun W12 hW12 => ?_)
          go_roundw
          case rel =>
            repeat apply Exists.intro
            exact ⟨⟨k + 1, (by omega), (by rw [hf, fitF_drop hb6, h3]; rfl), rfl, hW12⟩, rfl⟩
          case measure => (show n - (intOf (.int .i64 (((k + 1) : Nat) : Int))).toNat < n - (intOf (.int .i64 ((k : Nat) : Int))).toNat); simp only [intOf]; omega
set_option maxRecDepth 100000 in
set_option maxHeartbeats 4000000 in
theorem agrees_any (l : List UInt8) (hl : l.length = 11) (w : World) : Calls Tryd.prog 43 #[strV l] w fun e w' => e = .returned (.bool (agrB l)) ∧ Below w.heap.size w w' := by
  go_enter Tryd.func43, Tryd.ntmps43
  refine wp_seq ?_
  refine wp_region_L (W0 := w) [] (KS.start w) ?_
  refine lm (v := .bool false) rfl rfl ?_
  refine wpL_done (fun W1 hW1 => ?_)
  refine (show Code.wp _ _ _ _ _ from ?_)
  refine wp_seq ?_
  refine wp_region_V (W0 := w) [] (by kernel_rfl) (hW1) ?_
  refine vm (i := 0) (v := strV l) rfl rfl rfl ?_
  refine vp (i := 1) (v := strV (l.take 10)) rfl rfl rfl (run_slH (k2 := .i64) (l := l) (r := (l.take 10)) (j := 10) rfl Tryd.underlying9 (by kernel_rfl) (by kernel_rfl) (by first | omega | (simp; omega)) rfl) ?_
  refine vv (i := 2) (v := .int .u8 (((chkN (l.take 10)) : Nat) : Int)) rfl rfl rfl (yb_call (f := 46) (args := #[strV (l.take 10)]) (fun _ => by kernel_rfl) fun W hW => checkDigit_any (l.take 10) (by simp; omega) W) ?_
  refine vm (i := 3) (v := strV l) rfl rfl rfl ?_
  obtain ⟨b1, hb1⟩ : ∃ b, l[10]? = some b := ⟨_, List.getElem?_eq_getElem (by omega)⟩
  have lb1 := b1.toNat_lt
  refine vp (i := 4) (v := .int .u8 ((b1.toNat : Nat) : Int)) rfl rfl rfl (run_idxS (j := .i64) (l := l) (k := 10) (b := b1) rfl Tryd.underlying9 (by kernel_rfl) (by kernel_rfl) hb1) ?_
  refine vp (i := 5) (v := .bool (decide ((chkN (l.take 10)) = b1.toNat))) rfl rfl rfl (run_bin rfl (vx := (.int .u8 (((chkN (l.take 10)) : Nat) : Int))) (vy := (.int .u8 ((b1.toNat : Nat) : Int))) (by kernel_rfl) (by kernel_rfl) fun w => bn_eql rfl w) ?_
  refine vm (i := 6) (v := .bool (decide ((chkN (l.take 10)) = b1.toNat))) rfl rfl rfl ?_
  refine wpV_done (by kernel_rfl) (fun W2 hW2 => ?_) _
  refine (show Code.wp _ _ _ _ _ from ?_)
  refine wp_ret ?_
  try simp only [inBlock_ret, then_ret]
  refine bodyPost_ret (v := .bool (decide ((chkN (l.take 10)) = b1.toNat))) ?_ rfl ?_
  · kernel_rfl
  · exact ⟨(bool_is (by unfold agrB; rw [show l.getD 10 0 = b1 from by rw [List.getD_eq_getElem?_getD, hb1]; rfl])), hW2.1⟩
set_option maxRecDepth 100000 in
set_option maxHeartbeats 4000000 in
theorem judge_any (l : List UInt8) (w : World) : Calls Tryd.prog 41 #[strV l] w fun e w' => e = .returned (.int .i64 (((judgeN l) : Nat) : Int)) ∧ Below w.heap.size w w' := by
  go_enter Tryd.func41, Tryd.ntmps41
  refine wp_seq ?_
  refine wp_region_L (W0 := w) [] (KS.start w) ?_
  refine lm (v := .int .i64 0) rfl rfl ?_
  refine wpL_done (fun W1 hW1 => ?_)
  refine (show Code.wp _ _ _ _ _ from ?_)
  refine wp_seq ?_
  refine wp_seq ?_
  refine wp_region_L (W0 := w) [] (hW1) ?_
  refine lm (v := strV l) rfl rfl ?_
  refine lv (v := .bool (fitB l 11)) rfl rfl (yb_call (f := 45) (args := #[strV l, .int .i64 11]) (fun _ => by kernel_rfl) fun W hW => fits_any l 11 (by omega) W) ?_
  refine lp (v := .bool (!(fitB l 11))) rfl rfl (run_un rfl (by kernel_rfl) fun w => un_not w) ?_
  refine wpL_done (fun W2 hW2 => ?_)
  refine (show Code.wp _ _ _ _ _ from ?_)
  cases h1 : (fitB l 11) with
  | false =>
    refine wp_cond_true rfl ?_
    refine wp_seq ?_
    refine wp_region_L (W0 := w) [] (hW2) ?_
    refine lm (v := .int .i64 30) rfl rfl ?_
    refine wpL_done (fun W3 hW3 => ?_)
    refine (show Code.wp _ _ _ _ _ from ?_)
    refine wp_ret ?_
    try simp only [inBlock_ret, then_ret]
    refine bodyPost_ret (v := .int .i64 30) ?_ rfl ?_
    · kernel_rfl
    · exact ⟨(int_is (m := 30) (by unfold judgeN; simp [*])), hW3.1⟩
  | true =>
    have hlen := fit_len h1
    refine wp_cond_false rfl ?_
    refine wp_skip ?_
    refine (show Code.wp _ _ _ _ _ from ?_)
    refine wp_seq ?_
    refine wp_seq ?_
    refine wp_region_L (W0 := w) [] (hW2) ?_
    refine lm (v := strV l) rfl rfl ?_
    refine lv (v := .bool (agrB l)) rfl rfl (yb_call (f := 43) (args := #[strV l]) (fun _ => by kernel_rfl) fun W hW => agrees_any l (by omega) W) ?_
    refine lp (v := .bool (!(agrB l))) rfl rfl (run_un rfl (by kernel_rfl) fun w => un_not w) ?_
    refine wpL_done (fun W4 hW4 => ?_)
    refine (show Code.wp _ _ _ _ _ from ?_)
    cases h2 : (agrB l) with
    | false =>
      refine wp_cond_true rfl ?_
      refine wp_seq ?_
      refine wp_region_L (W0 := w) [] (hW4) ?_
      refine lm (v := .int .i64 31) rfl rfl ?_
      refine wpL_done (fun W5 hW5 => ?_)
      refine (show Code.wp _ _ _ _ _ from ?_)
      refine wp_ret ?_
      try simp only [inBlock_ret, then_ret]
      refine bodyPost_ret (v := .int .i64 31) ?_ rfl ?_
      · kernel_rfl
      · exact ⟨(int_is (m := 31) (by unfold judgeN; simp [*])), hW5.1⟩
    | true =>
      refine wp_cond_false rfl ?_
      refine wp_skip ?_
      refine (show Code.wp _ _ _ _ _ from ?_)
      refine wp_seq ?_
      refine wp_region_L (W0 := w) [] (hW4) ?_
      refine lm (v := .int .i64 0) rfl rfl ?_
      refine wpL_done (fun W6 hW6 => ?_)
      refine (show Code.wp _ _ _ _ _ from ?_)
      refine wp_ret ?_
      try simp only [inBlock_ret, then_ret]
      refine bodyPost_ret (v := .int .i64 0) ?_ rfl ?_
      · kernel_rfl
      · exact ⟨(int_is (m := 0) (by unfold judgeN; simp [*])), hW6.1⟩
set_option maxRecDepth 100000 in
set_option maxHeartbeats 4000000 in
theorem Check_any (l : List UInt8) (w : World) : Calls Tryd.prog 24 #[strV l] w fun e w' => e = .returned ((if fitB l 10 = true then .tuple #[.int .u8 (((chkN l) : Nat) : Int), .int .i64 0] else .tuple #[.int .u8 0, .int .i64 30])) ∧ Below w.heap.size w w' := by
  go_enter Tryd.func24, Tryd.ntmps24
  refine wp_seq ?_
  refine wp_region_L (W0 := w) [] (KS.start w) ?_
  refine lm (v := .int .u8 0) rfl rfl ?_
  refine lm (v := .int .i64 0) rfl rfl ?_
  refine wpL_done (fun W1 hW1 => ?_)
  refine (show Code.wp _ _ _ _ _ from ?_)
  refine wp_seq ?_
  refine wp_seq ?_
  refine wp_region_L (W0 := w) [] (hW1) ?_
  refine lm (v := strV l) rfl rfl ?_
  refine lv (v := .bool (fitB l 10)) rfl rfl (yb_call (f := 45) (args := #[strV l, .int .i64 10]) (fun _ => by kernel_rfl) fun W hW => fits_any l 10 (by omega) W) ?_
  refine lp (v := .bool (!(fitB l 10))) rfl rfl (run_un rfl (by kernel_rfl) fun w => un_not w) ?_
  refine wpL_done (fun W2 hW2 => ?_)
  refine (show Code.wp _ _ _ _ _ from ?_)
  cases h1 : (fitB l 10) with
  | false =>
    refine wp_cond_true rfl ?_
    refine wp_seq ?_
    refine wp_region_L (W0 := w) [] (hW2) ?_
    refine lm (v := .int .u8 0) rfl rfl ?_
    refine lm (v := .int .i64 30) rfl rfl ?_
    refine wpL_done (fun W3 hW3 => ?_)
    refine (show Code.wp _ _ _ _ _ from ?_)
    refine wp_ret ?_
    try simp only [inBlock_ret, then_ret]
    refine bodyPost_ret (v := .tuple #[.int .u8 0, .int .i64 30]) ?_ rfl ?_
    · kernel_rfl
    · exact ⟨(by simp), hW3.1⟩
  | true =>
    have hlen := fit_len h1
    refine wp_cond_false rfl ?_
    refine wp_skip ?_
    refine (show Code.wp _ _ _ _ _ from ?_)
    refine wp_seq ?_
    refine wp_region_L (W0 := w) [] (hW2) ?_
    refine lm (v := strV l) rfl rfl ?_
    refine lv (v := .int .u8 (((chkN l) : Nat) : Int)) rfl rfl (yb_call (f := 46) (args := #[strV l]) (fun _ => by kernel_rfl) fun W hW => checkDigit_any l (by omega) W) ?_
    refine lm (v := .int .u8 (((chkN l) : Nat) : Int)) rfl rfl ?_
    refine lm (v := .int .i64 0) rfl rfl ?_
    refine wpL_done (fun W4 hW4 => ?_)
    refine (show Code.wp _ _ _ _ _ from ?_)
    refine wp_ret ?_
    try simp only [inBlock_ret, then_ret]
    refine bodyPost_ret (v := .tuple #[.int .u8 (((chkN l) : Nat) : Int), .int .i64 0]) ?_ rfl ?_
    · kernel_rfl
    · exact ⟨(by simp), hW4.1⟩
set_option maxRecDepth 100000 in
set_option maxHeartbeats 4000000 in
theorem Right_any (l : List UInt8) (w : World) : Calls Tryd.prog 18 #[strV l] w fun e w' => e = .returned (.bool (decide (judgeN l = 0))) ∧ Below w.heap.size w w' := by
  go_enter Tryd.func18, Tryd.ntmps18
  refine wp_seq ?_
  refine wp_region_L (W0 := w) [] (KS.start w) ?_
  refine lm (v := .bool false) rfl rfl ?_
  refine wpL_done (fun W1 hW1 => ?_)
  refine (show Code.wp _ _ _ _ _ from ?_)
  refine wp_seq ?_
  refine wp_region_L (W0 := w) [] (hW1) ?_
  refine lm (v := strV l) rfl rfl ?_
  refine lv (v := .int .i64 (((judgeN l) : Nat) : Int)) rfl rfl (yb_call (f := 41) (args := #[strV l]) (fun _ => by kernel_rfl) fun W hW => judge_any l W) ?_
  refine lp (v := .bool (decide ((judgeN l) = 0))) rfl rfl (run_bin rfl (vx := (.int .i64 (((judgeN l) : Nat) : Int))) (vy := (.int .i64 ((0 : Nat) : Int))) (by kernel_rfl) (by kernel_rfl) fun w => bn_eql rfl w) ?_
  refine lm (v := .bool (decide ((judgeN l) = 0))) rfl rfl ?_
  refine wpL_done (fun W2 hW2 => ?_)
  refine (show Code.wp _ _ _ _ _ from ?_)
  refine wp_ret ?_
  try simp only [inBlock_ret, then_ret]
  refine bodyPost_ret (v := .bool (decide ((judgeN l) = 0))) ?_ rfl ?_
  · kernel_rfl
  · exact ⟨rfl, hW2.1⟩
set_option maxRecDepth 100000 in
set_option maxHeartbeats 4000000 in
theorem Write_any (l : List UInt8) (w : World) : Calls Tryd.prog 22 #[strV l] w fun e w' => e = .returned ((if judgeN l = 0 then .tuple #[strV (l.take 4 ++ [32] ++ (l.take 10).drop 4 ++ [32] ++ l.drop 10), .int .i64 0] else .tuple #[strV [], .int .i64 (((judgeN l) : Nat) : Int)])) ∧ Below w.heap.size w w' := by
  go_enter Tryd.func22, Tryd.ntmps22
  refine wp_seq ?_
  refine wp_region_L (W0 := w) [] (KS.start w) ?_
  refine lm (v := strV []) rfl rfl ?_
  refine lm (v := .int .i64 0) rfl rfl ?_
  refine wpL_done (fun W1 hW1 => ?_)
  refine (show Code.wp _ _ _ _ _ from ?_)
  refine wp_seq ?_
  refine wp_seq ?_
  refine wp_region_L (W0 := w) [] (hW1) ?_
  refine lm (v := strV l) rfl rfl ?_
  refine lv (v := .int .i64 (((judgeN l) : Nat) : Int)) rfl rfl (yb_call (f := 41) (args := #[strV l]) (fun _ => by kernel_rfl) fun W hW => judge_any l W) ?_
  refine lm (v := .int .i64 (((judgeN l) : Nat) : Int)) rfl rfl ?_
  refine wpL_done (fun W2 hW2 => ?_)
  refine (show Code.wp _ _ _ _ _ from ?_)
  refine wp_seq ?_
  refine wp_region_L (W0 := w) [] (hW2) ?_
  refine lm (v := .int .i64 (((judgeN l) : Nat) : Int)) rfl rfl ?_
  refine lp (v := .bool (!(decide ((judgeN l) = 0)))) rfl rfl (run_bin rfl (vx := (.int .i64 (((judgeN l) : Nat) : Int))) (vy := (.int .i64 ((0 : Nat) : Int))) (by kernel_rfl) (by kernel_rfl) fun w => bn_neq rfl w) ?_
  refine wpL_done (fun W3 hW3 => ?_)
  refine (show Code.wp _ _ _ _ _ from ?_)
  cases hd1 : (decide ((judgeN l) = 0)) with
  | false =>
    have h1 : ¬ ((judgeN l) = 0) := of_decide_eq_false hd1
    clear hd1
    refine wp_cond_true rfl ?_
    refine wp_seq ?_
    refine wp_region_L (W0 := w) [] (hW3) ?_
    refine lm (v := .int .i64 (((judgeN l) : Nat) : Int)) rfl rfl ?_
    refine lm (v := strV []) rfl rfl ?_
    refine lm (v := .int .i64 (((judgeN l) : Nat) : Int)) rfl rfl ?_
    refine wpL_done (fun W4 hW4 => ?_)
    refine (show Code.wp _ _ _ _ _ from ?_)
    refine wp_ret ?_
    try simp only [inBlock_ret, then_ret]
    refine bodyPost_ret (v := .tuple #[strV [], .int .i64 (((judgeN l) : Nat) : Int)]) ?_ rfl ?_
    · kernel_rfl
    · exact ⟨(by rw [if_neg h1]), hW4.1⟩
  | true =>
    have h1 : (judgeN l) = 0 := of_decide_eq_true hd1
    clear hd1
    have hlen := judge_len h1
    refine wp_cond_false rfl ?_
    refine wp_skip ?_
    refine (show Code.wp _ _ _ _ _ from ?_)
    refine wp_seq ?_
    refine wp_region_V (W0 := w) [] (by kernel_rfl) (hW3) ?_
    refine vm (i := 0) (v := strV l) rfl rfl rfl ?_
    refine vp (i := 1) (v := strV (l.take 4)) rfl rfl rfl (run_slH (k2 := .i64) (l := l) (r := (l.take 4)) (j := 4) rfl Tryd.underlying9 (by kernel_rfl) (by kernel_rfl) (by first | omega | (simp; omega)) rfl) ?_
    refine vp (i := 2) (v := strV ((l.take 4) ++ [32])) rfl rfl rfl (run_bin rfl (vx := strV (l.take 4)) (vy := strV [32]) (by kernel_rfl) (by kernel_rfl) fun w => bs_add (c := ((l.take 4) ++ [32])) rfl (by simp; omega) w) ?_
    refine vm (i := 3) (v := strV l) rfl rfl rfl ?_
    refine vp (i := 4) (v := strV ((l.take 10).drop 4)) rfl rfl rfl (run_slT (k1 := .i64) (k2 := .i64) (l := l) (r := ((l.take 10).drop 4)) (i := 4) (j := 10) rfl Tryd.underlying9 (by kernel_rfl) (by kernel_rfl) (by kernel_rfl) (by omega) (by first | omega | (simp; omega)) rfl) ?_
    refine vp (i := 5) (v := strV (((l.take 4) ++ [32]) ++ ((l.take 10).drop 4))) rfl rfl rfl (run_bin rfl (vx := strV ((l.take 4) ++ [32])) (vy := strV ((l.take 10).drop 4)) (by kernel_rfl) (by kernel_rfl) fun w => bs_add (c := (((l.take 4) ++ [32]) ++ ((l.take 10).drop 4))) rfl (by simp; omega) w) ?_
    refine vp (i := 6) (v := strV ((((l.take 4) ++ [32]) ++ ((l.take 10).drop 4)) ++ [32])) rfl rfl rfl (run_bin rfl (vx := strV (((l.take 4) ++ [32]) ++ ((l.take 10).drop 4))) (vy := strV [32]) (by kernel_rfl) (by kernel_rfl) fun w => bs_add (c := ((((l.take 4) ++ [32]) ++ ((l.take 10).drop 4)) ++ [32])) rfl (by simp; omega) w) ?_
    refine vm (i := 7) (v := strV l) rfl rfl rfl ?_
    refine vp (i := 8) (v := strV (l.drop 10)) rfl rfl rfl (run_slL (k1 := .i64) (l := l) (r := (l.drop 10)) (i := 10) rfl Tryd.underlying9 (by kernel_rfl) (by kernel_rfl) (by first | omega | (simp; omega)) rfl) ?_
    refine vp (i := 9) (v := strV (((((l.take 4) ++ [32]) ++ ((l.take 10).drop 4)) ++ [32]) ++ (l.drop 10))) rfl rfl rfl (run_bin rfl (vx := strV ((((l.take 4) ++ [32]) ++ ((l.take 10).drop 4)) ++ [32])) (vy := strV (l.drop 10)) (by kernel_rfl) (by kernel_rfl) fun w => bs_add (c := (((((l.take 4) ++ [32]) ++ ((l.take 10).drop 4)) ++ [32]) ++ (l.drop 10))) rfl (by simp; omega) w) ?_
    refine vm (i := 10) (v := strV (((((l.take 4) ++ [32]) ++ ((l.take 10).drop 4)) ++ [32]) ++ (l.drop 10))) rfl rfl rfl ?_
    refine vm (i := 11) (v := .int .i64 0) rfl rfl rfl ?_
    refine wpV_done (by kernel_rfl) (fun W5 hW5 => ?_) _
    refine (show Code.wp _ _ _ _ _ from ?_)
    refine wp_ret ?_
    try simp only [inBlock_ret, then_ret]
    refine bodyPost_ret (v := .tuple #[strV (((((l.take 4) ++ [32]) ++ ((l.take 10).drop 4)) ++ [32]) ++ (l.drop 10)), .int .i64 0]) ?_ rfl ?_
    · kernel_rfl
    · exact ⟨(by rw [if_pos h1]), hW5.1⟩
end Go.Proofs.YtbceajgipmjmlaaDoor
namespace Go.Proofs.YtbceajgipmjmlaaDoor
open Go Go.RowKit Tw
theorem strip_keep {l : List UInt8} {k : Nat} {b : UInt8} (h : l[k]? = some b) (h1 : ¬ (b.toNat = 32)) (h2 : ¬ (b.toNat = 45)) : stripL (l.take (k + 1)) = stripL (l.take k) ++ [up b] := by
  rw [take_snoc h, strip_app, strip_one, if_neg (by unfold blankB; simp [h1, h2])]
theorem strip_skip {l : List UInt8} {k : Nat} {b : UInt8} (h : l[k]? = some b) (h1 : b.toNat = 32 ∨ b.toNat = 45) : stripL (l.take (k + 1)) = stripL (l.take k) := by
  rw [take_snoc h, strip_app, strip_one, if_pos (by unfold blankB; simp [h1]), List.append_nil]
theorem own_snoc {W0 : Base} {E : TypeId} {v : Value} {s s' : List UInt8} {K : List (Nat × Obj)} {x : Nat} {b : UInt8} (h : OwnL W0 E 1 v (s.length + 1) (u8s s ++ [.int .u8 ((x : Nat) : Int)]) K) (hx : x = b.toNat) (hs : s' = s ++ [b]) : OwnL W0 E 1 v s'.length (u8s s') K := by
  subst hs hx
  rw [u8s_app, List.length_append]
  exact h
theorem up_no {b : UInt8} (h : b.toNat < 97 ∨ 122 < b.toNat) : b.toNat = (up b).toNat := by unfold up; rw [if_neg (by omega)]
theorem up_yes {b : UInt8} (h : 97 ≤ b.toNat) (h2 : b.toNat ≤ 122) : b.toNat - 32 = (up b).toNat := by
  unfold up; rw [if_pos ⟨h, h2⟩, UInt8.toNat_ofNat']; omega
theorem el_u8 : Elem Tryd.prog 31 5 1 1 (.int .u8 0) := Elem.mk' Tryd.underlying31 (by kernel_rfl) rfl
theorem el_miss : Elem Tryd.prog 37 42 2 16 (.agg #[.int .i64 0, .int .u8 0]) := Elem.mk' Tryd.underlying37 (by kernel_rfl) rfl
def readL (l : List UInt8) : List UInt8 := if 40 < l.length then [] else if judgeN (stripL l) = 0 then stripL l else []
def readE (l : List UInt8) : Nat := if 40 < l.length then 3 else judgeN (stripL l)
def hitB (l : List UInt8) (i : Nat) (b : UInt8) : Bool := !decide (b.toNat = (l.getD i 0).toNat) && mayB i b && agrB (l.set i b)
def rowM (l : List UInt8) (i k : Nat) : List (Nat × UInt8) := (((List.range k).map UInt8.ofNat).filter (hitB l i)).map fun b => (i, b)
def missTo (l : List UInt8) (i : Nat) : List (Nat × UInt8) := (List.range i).flatMap fun i => rowM l i 256
def missL (l : List UInt8) : List (Nat × UInt8) := missTo l 11
def missOf (l : List UInt8) : List (Nat × UInt8) := if judgeN l = 0 then missL l else []
def mcells (m : List (Nat × UInt8)) : List Value := m.flatMap fun x => [.int .i64 ((x.1 : Nat) : Int), .int .u8 ((x.2.toNat : Nat) : Int)]
theorem rowM_succ (l : List UInt8) (i k : Nat) : rowM l i (k + 1) = rowM l i k ++ if hitB l i (UInt8.ofNat k) = true then [(i, UInt8.ofNat k)] else [] := by
  unfold rowM
  rw [List.range_succ, List.map_append, List.filter_append, List.map_append]
  congr 1
  cases h : hitB l i (UInt8.ofNat k) <;> simp [List.filter_cons, h]
theorem ofNat_toNat {b : UInt8} {k : Nat} (h : b.toNat = k) : UInt8.ofNat k = b := by rw [← h]; simp
theorem acc_hit {l : List UInt8} {i k : Nat} {b : UInt8} (hb : b.toNat = k) (h : hitB l i b = true) : missTo l i ++ rowM l i (k + 1) = (missTo l i ++ rowM l i k) ++ [(i, b)] := by
  rw [rowM_succ, ofNat_toNat hb, if_pos h, List.append_assoc]
theorem acc_no {l : List UInt8} {i k : Nat} {b : UInt8} (hb : b.toNat = k) (h : hitB l i b = false) : missTo l i ++ rowM l i (k + 1) = missTo l i ++ rowM l i k := by
  rw [rowM_succ, ofNat_toNat hb, if_neg (by rw [h]; decide), List.append_nil]
theorem missTo_succ (l : List UInt8) (i : Nat) : missTo l (i + 1) = missTo l i ++ rowM l i 256 := by
  unfold missTo; rw [List.range_succ, List.flatMap_append]; simp
theorem rowM_len (l : List UInt8) (i k : Nat) : (rowM l i k).length ≤ k := by
  unfold rowM; rw [List.length_map]; exact Nat.le_trans (List.length_filter_le _ _) (by simp)
theorem missTo_len (l : List UInt8) : ∀ i, (missTo l i).length ≤ 256 * i
  | 0 => by simp [missTo]
  | i + 1 => by rw [missTo_succ, List.length_append]; have := missTo_len l i; have := rowM_len l i 256; omega
theorem own_miss {W0 : Base} {E : TypeId} {v : Value} {s s' : List (Nat × UInt8)} {K : List (Nat × Obj)} {i : Nat} {b : UInt8} (h : OwnL W0 E 2 v (s.length + 1) (mcells s ++ [.int .i64 ((i : Nat) : Int), .int .u8 ((b.toNat : Nat) : Int)]) K) (hs : s' = s ++ [(i, b)]) : OwnL W0 E 2 v s'.length (mcells s') K := by
  subst hs
  rw [List.length_append]
  unfold mcells at *
  rw [List.flatMap_append]
  exact h
theorem hit_eq {l : List UInt8} {i : Nat} {b c : UInt8} (hb : l[i]? = some b) (h : c.toNat = b.toNat) : hitB l i c = false := by unfold hitB; rw [List.getD_eq_getElem?_getD, hb]; simp [h]
theorem hit_may {l : List UInt8} {i : Nat} {c : UInt8} (h : mayB i c = false) : hitB l i c = false := by unfold hitB; simp [h]
theorem hit_agr {l : List UInt8} {i : Nat} {c : UInt8} (h : agrB (l.set i c) = false) : hitB l i c = false := by unfold hitB; simp [h]
theorem hit_yes {l : List UInt8} {i : Nat} {b c : UInt8} (hb : l[i]? = some b) (h : ¬ (c.toNat = b.toNat)) (h2 : mayB i c = true) (h3 : agrB (l.set i c) = true) : hitB l i c = true := by unfold hitB; rw [List.getD_eq_getElem?_getD, hb]; simp [h, h2, h3]
theorem set_same {l : List UInt8} {i : Nat} {b : UInt8} (h : l[i]? = some b) : l.set i b = l := by
  obtain ⟨hi, rfl⟩ := List.getElem?_eq_some_iff.1 h
  exact List.set_getElem_self hi
theorem set_back {l : List UInt8} {i : Nat} {x b : UInt8} (h : l[i]? = some b) : (l.set i x).set i b = l := by rw [List.set_set, set_same h]
theorem getD_some {l : List UInt8} {i : Nat} {b : UInt8} (h : l[i]? = some b) : l.getD i 0 = b := by rw [List.getD_eq_getElem?_getD, h]; rfl
set_option maxRecDepth 100000 in
set_option maxHeartbeats 4000000 in
theorem strip_any (l : List UInt8) (hl : l.length ≤ 1000000) (w : World) : Calls Tryd.prog 44 #[strV l] w fun e w' => e = .returned (strV (stripL l)) ∧ Below w.heap.size w w' := by
  go_enter Tryd.func44, Tryd.ntmps44
  refine wp_seq ?_
  refine wp_region_L (W0 := w) [] (KS.start w) ?_
  refine lm (v := strV []) rfl rfl ?_
  refine wpL_done (fun W1 hW1 => ?_)
  refine (show Code.wp _ _ _ _ _ from ?_)
  refine wp_seq ?_
  refine wp_region_L (W0 := w) [] (hW1) ?_
  refine lm (v := .slice none 0 0) rfl rfl ?_
  refine wpL_done (fun W2 hW2 => ?_)
  refine (show Code.wp _ _ _ _ _ from ?_)
  refine wp_seq ?_
  refine wp_seq ?_
  refine wp_region_L (W0 := w) [] (hW2) ?_
  refine lm (v := strV l) rfl rfl ?_
  refine lp (v := .int .i64 ((l.length : Nat) : Int)) rfl rfl (run_lenS (l := l) rfl Tryd.underlying9 (by kernel_rfl)) ?_
  refine lm (v := .int .i64 0) rfl rfl ?_
  refine wpL_done (fun W3 hW3 => ?_)
  refine (show Code.wp _ _ _ _ _ from ?_)
  refine wp_block ?_
  go_loopw [3, 8] (fun u3 u8 wr => ∃ (k : Nat) (va : Value) (Kl : List (Nat × Obj)), (k ≤ l.length) ∧ (OwnL w 5 1 va (stripL (l.take k)).length (u8s (stripL (l.take k))) Kl) ∧ va = u3 ∧ u8 = .int .i64 ((k : Nat) : Int) ∧ KS w Kl wr) (fun _ u8 _ => l.length - (intOf u8).toNat)
  case atStart => exact ⟨0, (.slice none 0 0), [], (Nat.zero_le _), (OwnL.nil _ _ _), rfl, rfl, (hW3.sub (fun p hp => hp))⟩
  case round =>
    obtain ⟨k, va, Kl, hk, hO, rfl, rfl, hL4⟩ := hrel
    have hsl : (stripL (l.take k)).length ≤ k := Nat.le_trans (strip_len _) (List.length_take_le _ _)
    refine wp_seq ?_
    refine wp_region_L (W0 := w) Kl (hL4) ?_
    refine lp (v := .bool (decide (k < l.length))) rfl rfl (run_bin rfl (vx := (.int .i64 ((k : Nat) : Int))) (vy := (.int .i64 ((l.length : Nat) : Int))) (by kernel_rfl) (by kernel_rfl) fun w => bn_lss rfl w) ?_
    refine wpL_done (fun W5 hW5 => ?_)
    refine (show Code.wp _ _ _ _ _ from ?_)
    refine wp_seq ?_
    cases hd1 : (decide (k < l.length)) with
    | false =>
      have h1 : ¬ (k < l.length) := of_decide_eq_false hd1
      clear hd1
      have hlk : l.take k = l := List.take_of_length_le (by omega)
      rw [hlk] at hO
      refine wp_cond_false rfl ?_
      refine wp_exit ?_
      refine (show Code.wp _ _ _ _ _ from ?_)
      refine wp_seq ?_
      refine wp_region_L (W0 := w) Kl (hW5) ?_
      refine lm (v := va) rfl rfl ?_
      refine lv (v := strV (stripL l)) rfl rfl (yb_strO (W0 := w) (l := (stripL l)) rfl Tryd.underlying31 Tryd.underlying5 Tryd.underlying9 (by kernel_rfl) hO (fun p hp => hp)) ?_
      refine lm (v := strV (stripL l)) rfl rfl ?_
      refine wpL_done (fun W6 hW6 => ?_)
      refine (show Code.wp _ _ _ _ _ from ?_)
      refine wp_ret ?_
      try simp only [inBlock_ret, then_ret]
      refine bodyPost_ret (v := strV (stripL l)) ?_ rfl ?_
      · kernel_rfl
      · exact ⟨rfl, hW6.1⟩
    | true =>
      have h1 : k < l.length := of_decide_eq_true hd1
      clear hd1
      refine wp_cond_true rfl ?_
      refine wp_skip ?_
      refine (show Code.wp _ _ _ _ _ from ?_)
      refine wp_seq ?_
      refine wp_block ?_
      refine wp_seq ?_
      refine wp_region_L (W0 := w) Kl (hW5) ?_
      refine lm (v := .int .i64 ((k : Nat) : Int)) rfl rfl ?_
      refine lm (v := .int .i64 ((k : Nat) : Int)) rfl rfl ?_
      refine wpL_done (fun W7 hW7 => ?_)
      refine (show Code.wp _ _ _ _ _ from ?_)
      refine wp_seq ?_
      refine wp_region_L (W0 := w) Kl (hW7) ?_
      refine lm (v := strV l) rfl rfl ?_
      refine lm (v := .int .i64 ((k : Nat) : Int)) rfl rfl ?_
      obtain ⟨b1, hb1⟩ : ∃ b, l[k]? = some b := ⟨_, List.getElem?_eq_getElem (by omega)⟩
      have lb1 := b1.toNat_lt
      refine lp (v := .int .u8 ((b1.toNat : Nat) : Int)) rfl rfl (run_idxS (j := .i64) (l := l) (k := k) (b := b1) rfl Tryd.underlying9 (by kernel_rfl) (by kernel_rfl) hb1) ?_
      refine lm (v := .int .u8 ((b1.toNat : Nat) : Int)) rfl rfl ?_
      refine wpL_done (fun W8 hW8 => ?_)
      refine (show Code.wp _ _ _ _ _ from ?_)
      refine wp_seq ?_
      refine wp_seq ?_
      refine wp_region_L (W0 := w) Kl (hW8) ?_
      refine lm (v := .int .u8 ((b1.toNat : Nat) : Int)) rfl rfl ?_
      refine lp (v := .bool (decide (b1.toNat = 32))) rfl rfl (run_bin rfl (vx := (.int .u8 ((b1.toNat : Nat) : Int))) (vy := (.int .u8 ((32 : Nat) : Int))) (by kernel_rfl) (by kernel_rfl) fun w => bn_eql rfl w) ?_
      refine lm (v := .bool (decide (b1.toNat = 32))) rfl rfl ?_
      cases hd2 : (decide (b1.toNat = 32)) with
      | false =>
        have h2 : ¬ (b1.toNat = 32) := of_decide_eq_false hd2
        clear hd2
        refine lm (v := .int .u8 ((b1.toNat : Nat) : Int)) rfl rfl ?_
        refine lp (v := .bool (decide (b1.toNat = 45))) rfl rfl (run_bin rfl (vx := (.int .u8 ((b1.toNat : Nat) : Int))) (vy := (.int .u8 ((45 : Nat) : Int))) (by kernel_rfl) (by kernel_rfl) fun w => bn_eql rfl w) ?_
        refine lm (v := .bool (decide (b1.toNat = 45))) rfl rfl ?_
        refine wpL_done (fun W9 hW9 => ?_)
        refine (show Code.wp _ _ _ _ _ from ?_)
        cases hd3 : (decide (b1.toNat = 45)) with
        | false =>
          have h3 : ¬ (b1.toNat = 45) := of_decide_eq_false hd3
          clear hd3
          refine wp_cond_false rfl ?_
          refine wp_skip ?_
          refine (show Code.wp _ _ _ _ _ from ?_)
          refine wp_seq ?_
          refine wp_seq ?_
          refine wp_region_L (W0 := w) Kl (hW9) ?_
          refine lm (v := .int .u8 ((b1.toNat : Nat) : Int)) rfl rfl ?_
          refine lp (v := .bool (!(decide (b1.toNat < 97)))) rfl rfl (run_bin rfl (vx := (.int .u8 ((97 : Nat) : Int))) (vy := (.int .u8 ((b1.toNat : Nat) : Int))) (by kernel_rfl) (by kernel_rfl) fun w => bn_leq rfl w) ?_
          refine lm (v := .bool (!(decide (b1.toNat < 97)))) rfl rfl ?_
          cases hd4 : (decide (b1.toNat < 97)) with
          | false =>
            have h4 : ¬ (b1.toNat < 97) := of_decide_eq_false hd4
            clear hd4
            refine lm (v := .int .u8 ((b1.toNat : Nat) : Int)) rfl rfl ?_
            refine lp (v := .bool (!(decide (122 < b1.toNat)))) rfl rfl (run_bin rfl (vx := (.int .u8 ((b1.toNat : Nat) : Int))) (vy := (.int .u8 ((122 : Nat) : Int))) (by kernel_rfl) (by kernel_rfl) fun w => bn_leq rfl w) ?_
            refine lm (v := .bool (!(decide (122 < b1.toNat)))) rfl rfl ?_
            refine wpL_done (fun W10 hW10 => ?_)
            refine (show Code.wp _ _ _ _ _ from ?_)
            cases hd5 : (decide (122 < b1.toNat)) with
            | false =>
              have h5 : ¬ (122 < b1.toNat) := of_decide_eq_false hd5
              clear hd5
              refine wp_cond_true rfl ?_
              refine wp_region_L (W0 := w) Kl (hW10) ?_
              refine lm (v := .int .u8 ((b1.toNat : Nat) : Int)) rfl rfl ?_
              refine lp (v := .int .u8 (((b1.toNat - 32) : Nat) : Int)) rfl rfl (run_bin rfl (vx := (.int .u8 ((b1.toNat : Nat) : Int))) (vy := (.int .u8 ((32 : Nat) : Int))) (by kernel_rfl) (by kernel_rfl) fun w => bn_sub (z := (b1.toNat - 32)) rfl (by omega) (wr_u8 (by omega)) w) ?_
              refine lm (v := .int .u8 (((b1.toNat - 32) : Nat) : Int)) rfl rfl ?_
              refine wpL_done (fun W11 hW11 => ?_)
              refine (show Code.wp _ _ _ _ _ from ?_)
              refine wp_region_L (W0 := w) Kl (hW11) ?_
              refine lm (v := va) rfl rfl ?_
              refine lm (v := .int .u8 (((b1.toNat - 32) : Nat) : Int)) rfl rfl ?_
              refine wpL_new (fun g => .slice (some ⟨g, 0, none⟩) 1 1) (obi := .cells #[.int .u8 (((b1.toNat - 32) : Nat) : Int)] 5 (0, 0)) rfl rfl (fun _ => by kernel_rfl) (fun _ => by simp only [List.setIfInBounds_toArray, List.set_cons_succ, List.set_cons_zero] <;> rfl) fun g2 Bg2 Fg2 => ?_
              refine wpL_g (AppO w 5 1 [] (((stripL (l.take k)).length) + 1) ((u8s (stripL (l.take k))) ++ [.int .u8 (((b1.toNat - 32) : Nat) : Int)])) rfl rfl (app_own el_u8 (m := 1) (c := 1) (news := [.int .u8 (((b1.toNat - 32) : Nat) : Int)]) rfl (by kernel_rfl) (by kernel_rfl) (.head _) hO (fun p hp => (.tail _ hp)) (List.forall_mem_nil _) rfl (by simp [Value.oneCell']) (by omega) (by omega) (by omega)) (fun _ => by simp only [List.setIfInBounds_toArray, List.set_cons_succ, List.set_cons_zero] <;> rfl) ?_
              rintro v3 Kl3 ⟨_, O3, N3, rfl⟩
              refine lm (v := v3) rfl rfl ?_
              refine wpL_done (fun W12 hW12 => ?_)
              refine (show Code.wp _ _ _ _ _ from ?_)
              refine wp_region_L (W0 := w) Kl3 (hW12) ?_
              refine lp (v := .int .i64 (((k + 1) : Nat) : Int)) rfl rfl (run_bin rfl (vx := (.int .i64 ((k : Nat) : Int))) (vy := (.int .i64 ((1 : Nat) : Int))) (by kernel_rfl) (by kernel_rfl) fun w => bn_add (z := (k + 1)) rfl (wr_i64 (by omega)) w) ?_
              refine lm (v := .int .i64 (((k + 1) : Nat) : Int)) rfl rfl ?_
              refine wpL_done (fun W13 hW13 => ?_)
              go_roundw
              case rel =>
                repeat apply Exists.intro
                exact ⟨⟨k + 1, v3, Kl3, (by omega), (own_snoc O3 (up_yes (by omega) (by omega)) (strip_keep hb1 (by omega) (by omega))), rfl, rfl, hW13⟩, rfl⟩
              case measure => (show l.length - (intOf (.int .i64 (((k + 1) : Nat) : Int))).toNat < l.length - (intOf (.int .i64 ((k : Nat) : Int))).toNat); simp only [intOf]; omega
            | true =>
              have h5 : 122 < b1.toNat := of_decide_eq_true hd5
              clear hd5
              refine wp_cond_false rfl ?_
              refine wp_skip ?_
              refine (show Code.wp _ _ _ _ _ from ?_)
              refine wp_region_L (W0 := w) Kl (hW10) ?_
              refine lm (v := va) rfl rfl ?_
              refine lm (v := .int .u8 ((b1.toNat : Nat) : Int)) rfl rfl ?_
              refine wpL_new (fun g => .slice (some ⟨g, 0, none⟩) 1 1) (obi := .cells #[.int .u8 ((b1.toNat : Nat) : Int)] 5 (0, 0)) rfl rfl (fun _ => by kernel_rfl) (fun _ => by simp only [List.setIfInBounds_toArray, List.set_cons_succ, List.set_cons_zero] <;> rfl) fun g4 Bg4 Fg4 => ?_
              refine wpL_g (AppO w 5 1 [] (((stripL (l.take k)).length) + 1) ((u8s (stripL (l.take k))) ++ [.int .u8 ((b1.toNat : Nat) : Int)])) rfl rfl (app_own el_u8 (m := 1) (c := 1) (news := [.int .u8 ((b1.toNat : Nat) : Int)]) rfl (by kernel_rfl) (by kernel_rfl) (.head _) hO (fun p hp => (.tail _ hp)) (List.forall_mem_nil _) rfl (by simp [Value.oneCell']) (by omega) (by omega) (by omega)) (fun _ => by simp only [List.setIfInBounds_toArray, List.set_cons_succ, List.set_cons_zero] <;> rfl) ?_
              rintro v5 Kl5 ⟨_, O5, N5, rfl⟩
              refine lm (v := v5) rfl rfl ?_
              refine wpL_done (fun W14 hW14 => ?_)
              refine (show Code.wp _ _ _ _ _ from ?_)
              refine wp_region_L (W0 := w) Kl5 (hW14) ?_
              refine lp (v := .int .i64 (((k + 1) : Nat) : Int)) rfl rfl (run_bin rfl (vx := (.int .i64 ((k : Nat) : Int))) (vy := (.int .i64 ((1 : Nat) : Int))) (by kernel_rfl) (by kernel_rfl) fun w => bn_add (z := (k + 1)) rfl (wr_i64 (by omega)) w) ?_
              refine lm (v := .int .i64 (((k + 1) : Nat) : Int)) rfl rfl ?_
              refine wpL_done (fun W15 hW15 => ?_)
              go_roundw
              case rel =>
                repeat apply Exists.intro
                exact ⟨⟨k + 1, v5, Kl5, (by omega), (own_snoc O5 (up_no (by omega)) (strip_keep hb1 (by omega) (by omega))), rfl, rfl, hW15⟩, rfl⟩
              case measure => (show l.length - (intOf (.int .i64 (((k + 1) : Nat) : Int))).toNat < l.length - (intOf (.int .i64 ((k : Nat) : Int))).toNat); simp only [intOf]; omega
          | true =>
            have h4 : b1.toNat < 97 := of_decide_eq_true hd4
            clear hd4
            refine ln rfl ?_
            refine ln rfl ?_
            refine lm (v := .bool false) rfl rfl ?_
            refine wpL_done (fun W16 hW16 => ?_)
            refine (show Code.wp _ _ _ _ _ from ?_)
            refine wp_cond_false rfl ?_
            refine wp_skip ?_
            refine (show Code.wp _ _ _ _ _ from ?_)
            refine wp_region_L (W0 := w) Kl (hW16) ?_
            refine lm (v := va) rfl rfl ?_
            refine lm (v := .int .u8 ((b1.toNat : Nat) : Int)) rfl rfl ?_
            refine wpL_new (fun g => .slice (some ⟨g, 0, none⟩) 1 1) (obi := .cells #[.int .u8 ((b1.toNat : Nat) : Int)] 5 (0, 0)) rfl rfl (fun _ => by kernel_rfl) (fun _ => by simp only [List.setIfInBounds_toArray, List.set_cons_succ, List.set_cons_zero] <;> rfl) fun g6 Bg6 Fg6 => ?_
            refine wpL_g (AppO w 5 1 [] (((stripL (l.take k)).length) + 1) ((u8s (stripL (l.take k))) ++ [.int .u8 ((b1.toNat : Nat) : Int)])) rfl rfl (app_own el_u8 (m := 1) (c := 1) (news := [.int .u8 ((b1.toNat : Nat) : Int)]) rfl (by kernel_rfl) (by kernel_rfl) (.head _) hO (fun p hp => (.tail _ hp)) (List.forall_mem_nil _) rfl (by simp [Value.oneCell']) (by omega) (by omega) (by omega)) (fun _ => by simp only [List.setIfInBounds_toArray, List.set_cons_succ, List.set_cons_zero] <;> rfl) ?_
            rintro v7 Kl7 ⟨_, O7, N7, rfl⟩
            refine lm (v := v7) rfl rfl ?_
            refine wpL_done (fun W17 hW17 => ?_)
            refine (show Code.wp _ _ _ _ _ from ?_)
            refine wp_region_L (W0 := w) Kl7 (hW17) ?_
            refine lp (v := .int .i64 (((k + 1) : Nat) : Int)) rfl rfl (run_bin rfl (vx := (.int .i64 ((k : Nat) : Int))) (vy := (.int .i64 ((1 : Nat) : Int))) (by kernel_rfl) (by kernel_rfl) fun w => bn_add (z := (k + 1)) rfl (wr_i64 (by omega)) w) ?_
            refine lm (v := .int .i64 (((k + 1) : Nat) : Int)) rfl rfl ?_
            refine wpL_done (fun W18 hW18 => ?_)
            go_roundw
            case rel =>
              repeat apply Exists.intro
              exact ⟨⟨k + 1, v7, Kl7, (by omega), (own_snoc O7 (up_no (by omega)) (strip_keep hb1 (by omega) (by omega))), rfl, rfl, hW18⟩, rfl⟩
            case measure => (show l.length - (intOf (.int .i64 (((k + 1) : Nat) : Int))).toNat < l.length - (intOf (.int .i64 ((k : Nat) : Int))).toNat); simp only [intOf]; omega
        | true =>
          have h3 : b1.toNat = 45 := of_decide_eq_true hd3
          clear hd3
          refine wp_cond_true rfl ?_
          refine wp_exit ?_
          refine (show Code.wp _ _ _ _ _ from ?_)
          refine wp_region_L (W0 := w) Kl (hW9) ?_
          refine lp (v := .int .i64 (((k + 1) : Nat) : Int)) rfl rfl (run_bin rfl (vx := (.int .i64 ((k : Nat) : Int))) (vy := (.int .i64 ((1 : Nat) : Int))) (by kernel_rfl) (by kernel_rfl) fun w => bn_add (z := (k + 1)) rfl (wr_i64 (by omega)) w) ?_
          refine lm (v := .int .i64 (((k + 1) : Nat) : Int)) rfl rfl ?_
          refine wpL_done (fun W19 hW19 => ?_)
          go_roundw
          case rel =>
            repeat apply Exists.intro
            exact ⟨⟨k + 1, va, Kl, (by omega), (by rw [strip_skip hb1 (by omega)]; exact hO), rfl, rfl, hW19⟩, rfl⟩
          case measure => (show l.length - (intOf (.int .i64 (((k + 1) : Nat) : Int))).toNat < l.length - (intOf (.int .i64 ((k : Nat) : Int))).toNat); simp only [intOf]; omega
      | true =>
        have h2 : b1.toNat = 32 := of_decide_eq_true hd2
        clear hd2
        refine ln rfl ?_
        refine ln rfl ?_
        refine lm (v := .bool true) rfl rfl ?_
        refine wpL_done (fun W20 hW20 => ?_)
        refine (show Code.wp _ _ _ _ _ from ?_)
        refine wp_cond_true rfl ?_
        refine wp_exit ?_
        refine (show Code.wp _ _ _ _ _ from ?_)
        refine wp_region_L (W0 := w) Kl (hW20) ?_
        refine lp (v := .int .i64 (((k + 1) : Nat) : Int)) rfl rfl (run_bin rfl (vx := (.int .i64 ((k : Nat) : Int))) (vy := (.int .i64 ((1 : Nat) : Int))) (by kernel_rfl) (by kernel_rfl) fun w => bn_add (z := (k + 1)) rfl (wr_i64 (by omega)) w) ?_
        refine lm (v := .int .i64 (((k + 1) : Nat) : Int)) rfl rfl ?_
        refine wpL_done (fun W21 hW21 => ?_)
        go_roundw
        case rel =>
          repeat apply Exists.intro
          exact ⟨⟨k + 1, va, Kl, (by omega), (by rw [strip_skip hb1 (by omega)]; exact hO), rfl, rfl, hW21⟩, rfl⟩
        case measure => (show l.length - (intOf (.int .i64 (((k + 1) : Nat) : Int))).toNat < l.length - (intOf (.int .i64 ((k : Nat) : Int))).toNat); simp only [intOf]; omega
set_option maxRecDepth 100000 in
set_option maxHeartbeats 4000000 in
theorem Read_any (l : List UInt8) (w : World) : Calls Tryd.prog 23 #[strV l] w fun e w' => e = .returned (.tuple #[strV (readL l), .int .i64 (((readE l) : Nat) : Int)]) ∧ Below w.heap.size w w' := by
  go_enter Tryd.func23, Tryd.ntmps23
  refine wp_seq ?_
  refine wp_region_L (W0 := w) [] (KS.start w) ?_
  refine lm (v := strV []) rfl rfl ?_
  refine lm (v := .int .i64 0) rfl rfl ?_
  refine wpL_done (fun W1 hW1 => ?_)
  refine (show Code.wp _ _ _ _ _ from ?_)
  refine wp_seq ?_
  refine wp_seq ?_
  refine wp_region_L (W0 := w) [] (hW1) ?_
  refine lm (v := strV l) rfl rfl ?_
  refine lp (v := .int .i64 ((l.length : Nat) : Int)) rfl rfl (run_lenS (l := l) rfl Tryd.underlying9 (by kernel_rfl)) ?_
  refine lp (v := .bool (decide (40 < l.length))) rfl rfl (run_bin rfl (vx := (.int .i64 ((l.length : Nat) : Int))) (vy := (.int .i64 ((40 : Nat) : Int))) (by kernel_rfl) (by kernel_rfl) fun w => bn_gtr rfl w) ?_
  refine wpL_done (fun W2 hW2 => ?_)
  refine (show Code.wp _ _ _ _ _ from ?_)
  cases hd1 : (decide (40 < l.length)) with
  | false =>
    have h1 : ¬ (40 < l.length) := of_decide_eq_false hd1
    clear hd1
    refine wp_cond_false rfl ?_
    refine wp_skip ?_
    refine (show Code.wp _ _ _ _ _ from ?_)
    refine wp_seq ?_
    refine wp_region_L (W0 := w) [] (hW2) ?_
    refine lm (v := strV l) rfl rfl ?_
    refine lv (v := strV (stripL l)) rfl rfl (yb_call (f := 44) (args := #[strV l]) (fun _ => by kernel_rfl) fun W hW => strip_any l (by omega) W) ?_
    refine lm (v := strV (stripL l)) rfl rfl ?_
    refine wpL_done (fun W3 hW3 => ?_)
    refine (show Code.wp _ _ _ _ _ from ?_)
    refine wp_seq ?_
    refine wp_seq ?_
    refine wp_region_L (W0 := w) [] (hW3) ?_
    refine lm (v := strV (stripL l)) rfl rfl ?_
    refine lv (v := .int .i64 (((judgeN (stripL l)) : Nat) : Int)) rfl rfl (yb_call (f := 41) (args := #[strV (stripL l)]) (fun _ => by kernel_rfl) fun W hW => judge_any (stripL l) W) ?_
    refine lm (v := .int .i64 (((judgeN (stripL l)) : Nat) : Int)) rfl rfl ?_
    refine wpL_done (fun W4 hW4 => ?_)
    refine (show Code.wp _ _ _ _ _ from ?_)
    refine wp_seq ?_
    refine wp_region_L (W0 := w) [] (hW4) ?_
    refine lm (v := .int .i64 (((judgeN (stripL l)) : Nat) : Int)) rfl rfl ?_
    refine lp (v := .bool (!(decide ((judgeN (stripL l)) = 0)))) rfl rfl (run_bin rfl (vx := (.int .i64 (((judgeN (stripL l)) : Nat) : Int))) (vy := (.int .i64 ((0 : Nat) : Int))) (by kernel_rfl) (by kernel_rfl) fun w => bn_neq rfl w) ?_
    refine wpL_done (fun W5 hW5 => ?_)
    refine (show Code.wp _ _ _ _ _ from ?_)
    cases hd2 : (decide ((judgeN (stripL l)) = 0)) with
    | false =>
      have h2 : ¬ ((judgeN (stripL l)) = 0) := of_decide_eq_false hd2
      clear hd2
      refine wp_cond_true rfl ?_
      refine wp_seq ?_
      refine wp_region_L (W0 := w) [] (hW5) ?_
      refine lm (v := .int .i64 (((judgeN (stripL l)) : Nat) : Int)) rfl rfl ?_
      refine lm (v := strV []) rfl rfl ?_
      refine lm (v := .int .i64 (((judgeN (stripL l)) : Nat) : Int)) rfl rfl ?_
      refine wpL_done (fun W6 hW6 => ?_)
      refine (show Code.wp _ _ _ _ _ from ?_)
      refine wp_ret ?_
      try simp only [inBlock_ret, then_ret]
      refine bodyPost_ret (v := .tuple #[strV [], .int .i64 (((judgeN (stripL l)) : Nat) : Int)]) ?_ rfl ?_
      · kernel_rfl
      · exact ⟨(by unfold readL readE; simp [*]), hW6.1⟩
    | true =>
      have h2 : (judgeN (stripL l)) = 0 := of_decide_eq_true hd2
      clear hd2
      refine wp_cond_false rfl ?_
      refine wp_skip ?_
      refine (show Code.wp _ _ _ _ _ from ?_)
      refine wp_seq ?_
      refine wp_region_L (W0 := w) [] (hW5) ?_
      refine lm (v := strV (stripL l)) rfl rfl ?_
      refine lm (v := strV (stripL l)) rfl rfl ?_
      refine lm (v := .int .i64 0) rfl rfl ?_
      refine wpL_done (fun W7 hW7 => ?_)
      refine (show Code.wp _ _ _ _ _ from ?_)
      refine wp_ret ?_
      try simp only [inBlock_ret, then_ret]
      refine bodyPost_ret (v := .tuple #[strV (stripL l), .int .i64 0]) ?_ rfl ?_
      · kernel_rfl
      · exact ⟨(by unfold readL readE; simp [*]), hW7.1⟩
  | true =>
    have h1 : 40 < l.length := of_decide_eq_true hd1
    clear hd1
    refine wp_cond_true rfl ?_
    refine wp_seq ?_
    refine wp_region_L (W0 := w) [] (hW2) ?_
    refine lm (v := strV []) rfl rfl ?_
    refine lm (v := .int .i64 3) rfl rfl ?_
    refine wpL_done (fun W8 hW8 => ?_)
    refine (show Code.wp _ _ _ _ _ from ?_)
    refine wp_ret ?_
    try simp only [inBlock_ret, then_ret]
    refine bodyPost_ret (v := .tuple #[strV [], .int .i64 3]) ?_ rfl ?_
    · kernel_rfl
    · exact ⟨(by unfold readL readE; simp [*]), hW8.1⟩
end Go.Proofs.YtbceajgipmjmlaaDoor
namespace Go.Proofs.YtbceajgipmjmlaaDoor
open Go Go.RowKit Tw
set_option maxRecDepth 100000 in
set_option maxHeartbeats 4000000 in
theorem Misses_any (l : List UInt8) (w : World) : Calls Tryd.prog 20 #[strV l] w fun e w' => ∃ v, e = .returned (.tuple #[v, .int .i64 ((judgeN l : Nat) : Int)]) ∧ OutV w w' 42 2 v (missOf l).length (mcells (missOf l)) ∧ Below w.heap.size w w' := by
  go_enter Tryd.func20, Tryd.ntmps20
  refine wp_seq ?_
  refine wp_region_L (W0 := w) [] (KS.start w) ?_
  refine lm (v := .slice none 0 0) rfl rfl ?_
  refine lm (v := .int .i64 0) rfl rfl ?_
  refine wpL_done (fun W1 hW1 => ?_)
  refine (show Code.wp _ _ _ _ _ from ?_)
  refine wp_seq ?_
  refine wp_seq ?_
  refine wp_region_L (W0 := w) [] (hW1) ?_
  refine lm (v := strV l) rfl rfl ?_
  refine lv (v := .int .i64 (((judgeN l) : Nat) : Int)) rfl rfl (yb_call (f := 41) (args := #[strV l]) (fun _ => by kernel_rfl) fun W hW => judge_any l W) ?_
  refine lm (v := .int .i64 (((judgeN l) : Nat) : Int)) rfl rfl ?_
  refine wpL_done (fun W2 hW2 => ?_)
  refine (show Code.wp _ _ _ _ _ from ?_)
  refine wp_seq ?_
  refine wp_region_L (W0 := w) [] (hW2) ?_
  refine lm (v := .int .i64 (((judgeN l) : Nat) : Int)) rfl rfl ?_
  refine lp (v := .bool (!(decide ((judgeN l) = 0)))) rfl rfl (run_bin rfl (vx := (.int .i64 (((judgeN l) : Nat) : Int))) (vy := (.int .i64 ((0 : Nat) : Int))) (by kernel_rfl) (by kernel_rfl) fun w => bn_neq rfl w) ?_
  refine wpL_done (fun W3 hW3 => ?_)
  refine (show Code.wp _ _ _ _ _ from ?_)
  cases hd1 : (decide ((judgeN l) = 0)) with
  | false =>
    have h1 : ¬ ((judgeN l) = 0) := of_decide_eq_false hd1
    clear hd1
    refine wp_cond_true rfl ?_
    refine wp_seq ?_
    refine wp_region_L (W0 := w) [] (hW3) ?_
    refine lm (v := .int .i64 (((judgeN l) : Nat) : Int)) rfl rfl ?_
    refine lm (v := .slice none 0 0) rfl rfl ?_
    refine lm (v := .int .i64 (((judgeN l) : Nat) : Int)) rfl rfl ?_
    refine wpL_done (fun W4 hW4 => ?_)
    refine (show Code.wp _ _ _ _ _ from ?_)
    refine wp_ret ?_
    try simp only [inBlock_ret, then_ret]
    refine bodyPost_ret (v := .tuple #[.slice none 0 0, .int .i64 (((judgeN l) : Nat) : Int)]) ?_ rfl ?_
    · kernel_rfl
    · exact ⟨_, rfl, .inl ⟨by unfold missOf; rw [if_neg h1]; rfl, by unfold missOf; rw [if_neg h1]; rfl, rfl⟩, hW4.1⟩
  | true =>
    have h1 : (judgeN l) = 0 := of_decide_eq_true hd1
    clear hd1
    have hlen := judge_len h1
    refine wp_cond_false rfl ?_
    refine wp_skip ?_
    refine (show Code.wp _ _ _ _ _ from ?_)
    refine wp_seq ?_
    refine wp_region_L (W0 := w) [] (hW3) ?_
    refine lm (v := .slice none 0 0) rfl rfl ?_
    refine wpL_done (fun W5 hW5 => ?_)
    refine (show Code.wp _ _ _ _ _ from ?_)
    refine wp_seq ?_
    refine wp_region_L (W0 := w) [] (hW5) ?_
    refine lm (v := strV l) rfl rfl ?_
    refine wpL_g (ConvB w 5 [] l) rfl rfl (conv_bytes rfl Tryd.underlying31 Tryd.underlying5 Tryd.underlying9 (by kernel_rfl)) (fun _ => by simp only [List.setIfInBounds_toArray, List.set_cons_succ, List.set_cons_zero] <;> rfl) ?_
    rintro v K9 ⟨g1, capg1, curg1, frg1, rfl, Bg1, Fg1, Rg1, Zg1, Yg1, rfl⟩
    refine lm (v := .slice (some ⟨g1, 0, none⟩) l.length capg1) rfl rfl ?_
    refine wpL_done (fun W6 hW6 => ?_)
    refine (show Code.wp _ _ _ _ _ from ?_)
    refine wp_seq ?_
    refine wp_seq ?_
    refine wp_region_L (W0 := w) [(g1, .cells curg1 5 frg1)] (hW6) ?_
    refine wpL_c (f := 42) (args := #[]) (GPl w [(g1, .cells curg1 5 frg1)]) rfl (by kernel_rfl) (fun _ => (by kernel_rfl)) (fun W hW => calls_pl hW) (fun _ => by simp only [List.setIfInBounds_toArray, List.set_cons_succ, List.set_cons_zero] <;> rfl) ?_
    rintro v K9 ⟨g2, g3, g4, g5, rfl, Bg2, Bg3, Bg4, Bg5, Fg2, Fg3, Fg4, Fg5, rfl⟩
    unfold plK
    refine lm (v := .int .i64 0) rfl rfl ?_
    refine wpL_done (fun W7 hW7 => ?_)
    refine (show Code.wp _ _ _ _ _ from ?_)
    refine wp_block ?_
    go_loopw [5, 19] (fun u5 u19 wr => ∃ (i : Nat) (v1 : Value) (Kl1 : List (Nat × Obj)) (cur1 : Array Value), (i ≤ 11) ∧ (OwnL w 42 2 v1 (missTo l i).length (mcells (missTo l i)) Kl1) ∧ (RowB cur1 l) ∧ (l.length ≤ cur1.size) ∧ (cur1.size ≤ frg1.1) ∧ (∀ g ∈ ([g5, g4, g3, g2, g1] : List Nat), ∀ q ∈ Kl1, q.1 ≠ g) ∧ v1 = u5 ∧ u19 = .int .i64 ((i : Nat) : Int) ∧ KS w ((g5, .cells #[.int .u8 57] 5 (0, 0)) :: (g4, .cells #[.int .u8 48] 5 (0, 0)) :: (g3, .cells #[.int .u8 90] 5 (0, 0)) :: (g2, .cells #[.int .u8 65] 5 (0, 0)) :: (g1, .cells cur1 5 frg1) :: Kl1) wr) (fun _ u19 _ => 11 - (intOf u19).toNat)
    case atStart => exact ⟨0, (.slice none 0 0), [], curg1, (Nat.zero_le _), (OwnL.nil _ _ _), Rg1, Zg1, Yg1, (List.forall_mem_cons.2 ⟨(fun _ h => by cases h), (List.forall_mem_cons.2 ⟨(fun _ h => by cases h), (List.forall_mem_cons.2 ⟨(fun _ h => by cases h), (List.forall_mem_cons.2 ⟨(fun _ h => by cases h), (List.forall_mem_cons.2 ⟨(fun _ h => by cases h), (List.forall_mem_nil _)⟩)⟩)⟩)⟩)⟩), rfl, rfl, (hW7.sub (fun p hp => hp))⟩
    case round =>
      obtain ⟨i, v1, Kl1, cur1, hi, hO1, hr1, hz1, hy1, hn1, rfl, rfl, hL8⟩ := hrel
      have hml := missTo_len l i
      refine wp_seq ?_
      refine wp_region_L (W0 := w) ((g5, .cells #[.int .u8 57] 5 (0, 0)) :: (g4, .cells #[.int .u8 48] 5 (0, 0)) :: (g3, .cells #[.int .u8 90] 5 (0, 0)) :: (g2, .cells #[.int .u8 65] 5 (0, 0)) :: (g1, .cells cur1 5 frg1) :: Kl1) (hL8) ?_
      refine lp (v := .bool (decide (i < 11))) rfl rfl (run_bin rfl (vx := (.int .i64 ((i : Nat) : Int))) (vy := (.int .i64 ((11 : Nat) : Int))) (by kernel_rfl) (by kernel_rfl) fun w => bn_lss rfl w) ?_
      refine wpL_done (fun W9 hW9 => ?_)
      refine (show Code.wp _ _ _ _ _ from ?_)
      refine wp_seq ?_
      cases hd2 : (decide (i < 11)) with
      | false =>
        have h2 : ¬ (i < 11) := of_decide_eq_false hd2
        clear hd2
        refine wp_cond_false rfl ?_
        refine wp_exit ?_
        refine (show Code.wp _ _ _ _ _ from ?_)
        refine wp_seq ?_
        refine wp_region_L (W0 := w) ((g5, .cells #[.int .u8 57] 5 (0, 0)) :: (g4, .cells #[.int .u8 48] 5 (0, 0)) :: (g3, .cells #[.int .u8 90] 5 (0, 0)) :: (g2, .cells #[.int .u8 65] 5 (0, 0)) :: (g1, .cells cur1 5 frg1) :: Kl1) (hW9) ?_
        refine lm (v := v1) rfl rfl ?_
        refine lm (v := v1) rfl rfl ?_
        refine lm (v := .int .i64 0) rfl rfl ?_
        refine wpL_done (fun W10 hW10 => ?_)
        refine (show Code.wp _ _ _ _ _ from ?_)
        refine wp_ret ?_
        try simp only [inBlock_ret, then_ret]
        refine bodyPost_ret (v := .tuple #[v1, .int .i64 0]) ?_ rfl ?_
        · kernel_rfl
        · exact ⟨v1, (by rw [h1] <;> rfl), (by unfold missOf missL; rw [if_pos h1]; obtain rfl : i = 11 := (by omega); exact OwnL.out hO1 (fun p hp => (.tail _ (.tail _ (.tail _ (.tail _ (.tail _ hp)))))) hW10), hW10.1⟩
      | true =>
        have h2 : i < 11 := of_decide_eq_true hd2
        clear hd2
        refine wp_cond_true rfl ?_
        refine wp_skip ?_
        refine (show Code.wp _ _ _ _ _ from ?_)
        refine wp_seq ?_
        refine wp_block ?_
        refine wp_seq ?_
        refine wp_region_L (W0 := w) ((g5, .cells #[.int .u8 57] 5 (0, 0)) :: (g4, .cells #[.int .u8 48] 5 (0, 0)) :: (g3, .cells #[.int .u8 90] 5 (0, 0)) :: (g2, .cells #[.int .u8 65] 5 (0, 0)) :: (g1, .cells cur1 5 frg1) :: Kl1) (hW9) ?_
        refine lm (v := .int .i64 ((i : Nat) : Int)) rfl rfl ?_
        refine lp (v := placeAt g2 g3 g4 g5 i) rfl rfl (run_idxV (j := .i64) (k := i) rfl Tryd.underlying85 (by kernel_rfl) Tryd.underlying84 rfl (by kernel_rfl) (by kernel_rfl) (by omega) (places_get0 (by omega))) ?_
        refine lm (v := .int .i64 ((i : Nat) : Int)) rfl rfl ?_
        refine lm (v := placeAt g2 g3 g4 g5 i) rfl rfl ?_
        refine wpL_done (fun W11 hW11 => ?_)
        refine (show Code.wp _ _ _ _ _ from ?_)
        refine wp_seq ?_
        refine wp_seq ?_
        refine wp_region_L (W0 := w) ((g5, .cells #[.int .u8 57] 5 (0, 0)) :: (g4, .cells #[.int .u8 48] 5 (0, 0)) :: (g3, .cells #[.int .u8 90] 5 (0, 0)) :: (g2, .cells #[.int .u8 65] 5 (0, 0)) :: (g1, .cells cur1 5 frg1) :: Kl1) (hW11) ?_
        refine lm (v := .int .i64 0) rfl rfl ?_
        refine wpL_done (fun W12 hW12 => ?_)
        refine (show Code.wp _ _ _ _ _ from ?_)
        refine wp_block ?_
        obtain ⟨b6, hb6⟩ : ∃ b, l[i]? = some b := ⟨_, List.getElem?_eq_getElem (by omega)⟩
        have lb6 := b6.toNat_lt
        go_loopw [5, 23] (fun u5 u23 wr => ∃ (k : Nat) (v2 : Value) (Kl2 : List (Nat × Obj)) (cur2 : Array Value) (x : UInt8), (k ≤ 256) ∧ (OwnL w 42 2 v2 (missTo l i ++ rowM l i k).length (mcells (missTo l i ++ rowM l i k)) Kl2) ∧ (RowB cur2 (l.set i x)) ∧ ((l.set i x).length ≤ cur2.size) ∧ (cur2.size ≤ frg1.1) ∧ (∀ g ∈ ([g5, g4, g3, g2, g1] : List Nat), ∀ q ∈ Kl2, q.1 ≠ g) ∧ v2 = u5 ∧ u23 = .int .i64 ((k : Nat) : Int) ∧ KS w ((g5, .cells #[.int .u8 57] 5 (0, 0)) :: (g4, .cells #[.int .u8 48] 5 (0, 0)) :: (g3, .cells #[.int .u8 90] 5 (0, 0)) :: (g2, .cells #[.int .u8 65] 5 (0, 0)) :: (g1, .cells cur2 5 frg1) :: Kl2) wr) (fun _ u23 _ => 256 - (intOf u23).toNat)
        case atStart => exact ⟨0, v1, Kl1, cur1, b6, (Nat.zero_le _), (by rw [show (missTo l i ++ rowM l i 0) = missTo l i from by simp [rowM]]; exact hO1), (by rw [set_same hb6]; exact hr1), (by simpa using hz1), hy1, (List.forall_mem_cons.2 ⟨(fun q hq => ((hn1 g5 (.head _)) _ hq)), (List.forall_mem_cons.2 ⟨(fun q hq => ((hn1 g4 (.tail _ (.head _))) _ hq)), (List.forall_mem_cons.2 ⟨(fun q hq => ((hn1 g3 (.tail _ (.tail _ (.head _)))) _ hq)), (List.forall_mem_cons.2 ⟨(fun q hq => ((hn1 g2 (.tail _ (.tail _ (.tail _ (.head _))))) _ hq)), (List.forall_mem_cons.2 ⟨(fun q hq => ((hn1 g1 (.tail _ (.tail _ (.tail _ (.tail _ (.head _)))))) _ hq)), (List.forall_mem_nil _)⟩)⟩)⟩)⟩)⟩), rfl, rfl, hW12⟩
        case round =>
          obtain ⟨k, v2, Kl2, cur2, x, hk, hO2, hr2, hz2, hy2, hn2, rfl, rfl, hL13⟩ := hrel
          have hrl := rowM_len l i k
          have hal : (missTo l i ++ rowM l i k).length ≤ 256 * i + k := by rw [List.length_append]; omega
          have hsl : (l.set i x).length = l.length := List.length_set
          refine wp_seq ?_
          refine wp_region_L (W0 := w) ((g5, .cells #[.int .u8 57] 5 (0, 0)) :: (g4, .cells #[.int .u8 48] 5 (0, 0)) :: (g3, .cells #[.int .u8 90] 5 (0, 0)) :: (g2, .cells #[.int .u8 65] 5 (0, 0)) :: (g1, .cells cur2 5 frg1) :: Kl2) (hL13) ?_
          refine lp (v := .bool (decide (k < 256))) rfl rfl (run_bin rfl (vx := (.int .i64 ((k : Nat) : Int))) (vy := (.int .i64 ((256 : Nat) : Int))) (by kernel_rfl) (by kernel_rfl) fun w => bn_lss rfl w) ?_
          refine wpL_done (fun W14 hW14 => ?_)
          refine (show Code.wp _ _ _ _ _ from ?_)
          refine wp_seq ?_
          cases hd3 : (decide (k < 256)) with
          | false =>
            have h3 : ¬ (k < 256) := of_decide_eq_false hd3
            clear hd3
            obtain rfl : k = 256 := by omega
            refine wp_cond_false rfl ?_
            refine wp_exit ?_
            refine (show Code.wp _ _ _ _ _ from ?_)
            refine wp_region_L (W0 := w) ((g5, .cells #[.int .u8 57] 5 (0, 0)) :: (g4, .cells #[.int .u8 48] 5 (0, 0)) :: (g3, .cells #[.int .u8 90] 5 (0, 0)) :: (g2, .cells #[.int .u8 65] 5 (0, 0)) :: (g1, .cells cur2 5 frg1) :: Kl2) (hW14) ?_
            refine lm (v := .slice (some ⟨g1, 0, none⟩) l.length capg1) rfl rfl ?_
            refine lm (v := .int .i64 ((i : Nat) : Int)) rfl rfl ?_
            refine lm (v := strV l) rfl rfl ?_
            refine lm (v := .int .i64 ((i : Nat) : Int)) rfl rfl ?_
            refine lp (v := .int .u8 ((b6.toNat : Nat) : Int)) rfl rfl (run_idxS (j := .i64) (l := l) (k := i) (b := b6) rfl Tryd.underlying9 (by kernel_rfl) (by kernel_rfl) hb6) ?_
            refine lp (v := .pointer (some ⟨g1, 0 + i * 1, none⟩)) rfl rfl (run_idxL (j := .i64) (n := l.length) (cap := capg1) (b := g1) (off := 0) (k := i) (sz := 1) rfl Tryd.underlying31 (by kernel_rfl) (by kernel_rfl) (by kernel_rfl) (by omega)) ?_
            have Rcur7 : RowB (cur2.setIfInBounds (0 + i * 1) (.int .u8 ((b6.toNat : Nat) : Int))) ((l.set i x).set i b6) := rowb_set hr2 hz2 (by omega)
            have Zcur7 : ((l.set i x).set i b6).length ≤ (cur2.setIfInBounds (0 + i * 1) (.int .u8 ((b6.toNat : Nat) : Int))).size := by simpa using hz2
            have Ycur7 : (cur2.setIfInBounds (0 + i * 1) (.int .u8 ((b6.toNat : Nat) : Int))).size ≤ frg1.1 := by simpa using hy2
            rw [set_back hb6] at Rcur7 Zcur7
            refine wpL_s ((g5, .cells #[.int .u8 57] 5 (0, 0)) :: (g4, .cells #[.int .u8 48] 5 (0, 0)) :: (g3, .cells #[.int .u8 90] 5 (0, 0)) :: (g2, .cells #[.int .u8 65] 5 (0, 0)) :: (g1, .cells (cur2.setIfInBounds (0 + i * 1) (.int .u8 ((b6.toNat : Nat) : Int))) 5 frg1) :: Kl2) rfl rfl (st_at (off := 0 + i * 1) (v := .int .u8 ((b6.toNat : Nat) : Int)) rfl (by kernel_rfl) (by kernel_rfl) (.tail _ (.tail _ (.tail _ (.tail _ (.head _))))) Bg1 (by kernel_rfl) rfl rfl (by have := hz2; omega) (.inl hy2) (List.forall_mem_cons.2 ⟨.inr ⟨(.head _), (Ne.symm (Fg5 _ (.head _)))⟩, (List.forall_mem_cons.2 ⟨.inr ⟨(.tail _ (.head _)), (Ne.symm (Fg4 _ (.head _)))⟩, (List.forall_mem_cons.2 ⟨.inr ⟨(.tail _ (.tail _ (.head _))), (Ne.symm (Fg3 _ (.head _)))⟩, (List.forall_mem_cons.2 ⟨.inr ⟨(.tail _ (.tail _ (.tail _ (.head _)))), (Ne.symm (Fg2 _ (.head _)))⟩, (List.forall_mem_cons.2 ⟨.inl rfl, (fun p hp => .inr ⟨(.tail _ (.tail _ (.tail _ (.tail _ (.tail _ hp))))), ((hn2 g1 (.tail _ (.tail _ (.tail _ (.tail _ (.head _)))))) _ hp)⟩)⟩)⟩)⟩)⟩)⟩)) ?_
            refine wpL_done (fun W15 hW15 => ?_)
            refine (show Code.wp _ _ _ _ _ from ?_)
            refine wp_region_L (W0 := w) ((g5, .cells #[.int .u8 57] 5 (0, 0)) :: (g4, .cells #[.int .u8 48] 5 (0, 0)) :: (g3, .cells #[.int .u8 90] 5 (0, 0)) :: (g2, .cells #[.int .u8 65] 5 (0, 0)) :: (g1, .cells (cur2.setIfInBounds (0 + i * 1) (.int .u8 ((b6.toNat : Nat) : Int))) 5 frg1) :: Kl2) (hW15) ?_
            refine lp (v := .int .i64 (((i + 1) : Nat) : Int)) rfl rfl (run_bin rfl (vx := (.int .i64 ((i : Nat) : Int))) (vy := (.int .i64 ((1 : Nat) : Int))) (by kernel_rfl) (by kernel_rfl) fun w => bn_add (z := (i + 1)) rfl (wr_i64 (by omega)) w) ?_
            refine lm (v := .int .i64 (((i + 1) : Nat) : Int)) rfl rfl ?_
            refine wpL_done (fun W16 hW16 => ?_)
            go_roundw
            case rel =>
              repeat apply Exists.intro
              exact ⟨⟨i + 1, v2, Kl2, (cur2.setIfInBounds (0 + i * 1) (.int .u8 ((b6.toNat : Nat) : Int))), (by omega), (by rw [missTo_succ]; exact hO2), Rcur7, Zcur7, Ycur7, (List.forall_mem_cons.2 ⟨(fun q hq => ((hn2 g5 (.head _)) _ hq)), (List.forall_mem_cons.2 ⟨(fun q hq => ((hn2 g4 (.tail _ (.head _))) _ hq)), (List.forall_mem_cons.2 ⟨(fun q hq => ((hn2 g3 (.tail _ (.tail _ (.head _)))) _ hq)), (List.forall_mem_cons.2 ⟨(fun q hq => ((hn2 g2 (.tail _ (.tail _ (.tail _ (.head _))))) _ hq)), (List.forall_mem_cons.2 ⟨(fun q hq => ((hn2 g1 (.tail _ (.tail _ (.tail _ (.tail _ (.head _)))))) _ hq)), (List.forall_mem_nil _)⟩)⟩)⟩)⟩)⟩), rfl, rfl, hW16⟩, rfl⟩
            case measure => (show 11 - (intOf (.int .i64 (((i + 1) : Nat) : Int))).toNat < 11 - (intOf (.int .i64 ((i : Nat) : Int))).toNat); simp only [intOf]; omega
          | true =>
            have h3 : k < 256 := of_decide_eq_true hd3
            clear hd3
            obtain ⟨c, hc⟩ : ∃ c : UInt8, c.toNat = k := ⟨UInt8.ofNat k, by simp; omega⟩
            refine wp_cond_true rfl ?_
            refine wp_skip ?_
            refine (show Code.wp _ _ _ _ _ from ?_)
            refine wp_seq ?_
            refine wp_block ?_
            refine wp_seq ?_
            refine wp_region_L (W0 := w) ((g5, .cells #[.int .u8 57] 5 (0, 0)) :: (g4, .cells #[.int .u8 48] 5 (0, 0)) :: (g3, .cells #[.int .u8 90] 5 (0, 0)) :: (g2, .cells #[.int .u8 65] 5 (0, 0)) :: (g1, .cells cur2 5 frg1) :: Kl2) (hW14) ?_
            refine lm (v := .int .i64 ((k : Nat) : Int)) rfl rfl ?_
            refine lm (v := .int .i64 ((k : Nat) : Int)) rfl rfl ?_
            refine wpL_done (fun W17 hW17 => ?_)
            refine (show Code.wp _ _ _ _ _ from ?_)
            refine wp_seq ?_
            refine wp_region_L (W0 := w) ((g5, .cells #[.int .u8 57] 5 (0, 0)) :: (g4, .cells #[.int .u8 48] 5 (0, 0)) :: (g3, .cells #[.int .u8 90] 5 (0, 0)) :: (g2, .cells #[.int .u8 65] 5 (0, 0)) :: (g1, .cells cur2 5 frg1) :: Kl2) (hW17) ?_
            refine lm (v := .int .i64 ((k : Nat) : Int)) rfl rfl ?_
            refine lp (v := .int .u8 ((c.toNat : Nat) : Int)) rfl rfl (run_conv rfl (vx := (.int .i64 ((k : Nat) : Int))) (by kernel_rfl) fun w => cv_int Tryd.underlying3 Tryd.underlying5 (by rw [hc]; exact wr_u8 (by omega)) w) ?_
            refine lm (v := .int .u8 ((c.toNat : Nat) : Int)) rfl rfl ?_
            refine wpL_done (fun W18 hW18 => ?_)
            refine (show Code.wp _ _ _ _ _ from ?_)
            refine wp_seq ?_
            refine wp_region_L (W0 := w) ((g5, .cells #[.int .u8 57] 5 (0, 0)) :: (g4, .cells #[.int .u8 48] 5 (0, 0)) :: (g3, .cells #[.int .u8 90] 5 (0, 0)) :: (g2, .cells #[.int .u8 65] 5 (0, 0)) :: (g1, .cells cur2 5 frg1) :: Kl2) (hW18) ?_
            refine lm (v := .slice (some ⟨g1, 0, none⟩) l.length capg1) rfl rfl ?_
            refine lm (v := .int .i64 ((i : Nat) : Int)) rfl rfl ?_
            refine lm (v := .int .u8 ((c.toNat : Nat) : Int)) rfl rfl ?_
            refine lp (v := .pointer (some ⟨g1, 0 + i * 1, none⟩)) rfl rfl (run_idxL (j := .i64) (n := l.length) (cap := capg1) (b := g1) (off := 0) (k := i) (sz := 1) rfl Tryd.underlying31 (by kernel_rfl) (by kernel_rfl) (by kernel_rfl) (by omega)) ?_
            have Rcur8 : RowB (cur2.setIfInBounds (0 + i * 1) (.int .u8 ((c.toNat : Nat) : Int))) ((l.set i x).set i c) := rowb_set hr2 hz2 (by omega)
            have Zcur8 : ((l.set i x).set i c).length ≤ (cur2.setIfInBounds (0 + i * 1) (.int .u8 ((c.toNat : Nat) : Int))).size := by simpa using hz2
            have Ycur8 : (cur2.setIfInBounds (0 + i * 1) (.int .u8 ((c.toNat : Nat) : Int))).size ≤ frg1.1 := by simpa using hy2
            rw [List.set_set] at Rcur8 Zcur8
            refine wpL_s ((g5, .cells #[.int .u8 57] 5 (0, 0)) :: (g4, .cells #[.int .u8 48] 5 (0, 0)) :: (g3, .cells #[.int .u8 90] 5 (0, 0)) :: (g2, .cells #[.int .u8 65] 5 (0, 0)) :: (g1, .cells (cur2.setIfInBounds (0 + i * 1) (.int .u8 ((c.toNat : Nat) : Int))) 5 frg1) :: Kl2) rfl rfl (st_at (off := 0 + i * 1) (v := .int .u8 ((c.toNat : Nat) : Int)) rfl (by kernel_rfl) (by kernel_rfl) (.tail _ (.tail _ (.tail _ (.tail _ (.head _))))) Bg1 (by kernel_rfl) rfl rfl (by have := hz2; omega) (.inl hy2) (List.forall_mem_cons.2 ⟨.inr ⟨(.head _), (Ne.symm (Fg5 _ (.head _)))⟩, (List.forall_mem_cons.2 ⟨.inr ⟨(.tail _ (.head _)), (Ne.symm (Fg4 _ (.head _)))⟩, (List.forall_mem_cons.2 ⟨.inr ⟨(.tail _ (.tail _ (.head _))), (Ne.symm (Fg3 _ (.head _)))⟩, (List.forall_mem_cons.2 ⟨.inr ⟨(.tail _ (.tail _ (.tail _ (.head _)))), (Ne.symm (Fg2 _ (.head _)))⟩, (List.forall_mem_cons.2 ⟨.inl rfl, (fun p hp => .inr ⟨(.tail _ (.tail _ (.tail _ (.tail _ (.tail _ hp))))), ((hn2 g1 (.tail _ (.tail _ (.tail _ (.tail _ (.head _)))))) _ hp)⟩)⟩)⟩)⟩)⟩)⟩)) ?_
            refine wpL_done (fun W19 hW19 => ?_)
            refine (show Code.wp _ _ _ _ _ from ?_)
            refine wp_seq ?_
            refine wp_region_L (W0 := w) ((g5, .cells #[.int .u8 57] 5 (0, 0)) :: (g4, .cells #[.int .u8 48] 5 (0, 0)) :: (g3, .cells #[.int .u8 90] 5 (0, 0)) :: (g2, .cells #[.int .u8 65] 5 (0, 0)) :: (g1, .cells (cur2.setIfInBounds (0 + i * 1) (.int .u8 ((c.toNat : Nat) : Int))) 5 frg1) :: Kl2) (hW19) ?_
            refine lm (v := .int .u8 ((c.toNat : Nat) : Int)) rfl rfl ?_
            refine lm (v := strV l) rfl rfl ?_
            refine lm (v := .int .i64 ((i : Nat) : Int)) rfl rfl ?_
            refine lp (v := .int .u8 ((b6.toNat : Nat) : Int)) rfl rfl (run_idxS (j := .i64) (l := l) (k := i) (b := b6) rfl Tryd.underlying9 (by kernel_rfl) (by kernel_rfl) hb6) ?_
            refine lp (v := .bool (!(decide (c.toNat = b6.toNat)))) rfl rfl (run_bin rfl (vx := (.int .u8 ((c.toNat : Nat) : Int))) (vy := (.int .u8 ((b6.toNat : Nat) : Int))) (by kernel_rfl) (by kernel_rfl) fun w => bn_neq rfl w) ?_
            refine lm (v := .bool (!(decide (c.toNat = b6.toNat)))) rfl rfl ?_
            cases hd4 : (decide (c.toNat = b6.toNat)) with
            | false =>
              have h4 : ¬ (c.toNat = b6.toNat) := of_decide_eq_false hd4
              clear hd4
              refine lm (v := placeAt g2 g3 g4 g5 i) rfl rfl ?_
              refine lm (v := .int .u8 ((c.toNat : Nat) : Int)) rfl rfl ?_
              refine lv (v := .bool (mayB i c)) rfl rfl (yb_may (k := i) (b := c) rfl (by kernel_rfl) (by kernel_rfl) (.tail _ (.tail _ (.tail _ (.head _)))) (.tail _ (.tail _ (.head _))) (.tail _ (.head _)) (.head _)) ?_
              refine lm (v := .bool (mayB i c)) rfl rfl ?_
              refine lm (v := .bool (mayB i c)) rfl rfl ?_
              cases h5 : (mayB i c) with
              | false =>
                refine ln rfl ?_
                refine ln rfl ?_
                refine ln rfl ?_
                refine lm (v := .bool false) rfl rfl ?_
                refine wpL_done (fun W20 hW20 => ?_)
                refine (show Code.wp _ _ _ _ _ from ?_)
                refine wp_cond_false rfl ?_
                refine wp_skip ?_
                refine (show Code.wp _ _ _ _ _ from ?_)
                refine wp_region_L (W0 := w) ((g5, .cells #[.int .u8 57] 5 (0, 0)) :: (g4, .cells #[.int .u8 48] 5 (0, 0)) :: (g3, .cells #[.int .u8 90] 5 (0, 0)) :: (g2, .cells #[.int .u8 65] 5 (0, 0)) :: (g1, .cells (cur2.setIfInBounds (0 + i * 1) (.int .u8 ((c.toNat : Nat) : Int))) 5 frg1) :: Kl2) (hW20) ?_
                refine lp (v := .int .i64 (((k + 1) : Nat) : Int)) rfl rfl (run_bin rfl (vx := (.int .i64 ((k : Nat) : Int))) (vy := (.int .i64 ((1 : Nat) : Int))) (by kernel_rfl) (by kernel_rfl) fun w => bn_add (z := (k + 1)) rfl (wr_i64 (by omega)) w) ?_
                refine lm (v := .int .i64 (((k + 1) : Nat) : Int)) rfl rfl ?_
                refine wpL_done (fun W21 hW21 => ?_)
                go_roundw
                case rel =>
                  repeat apply Exists.intro
                  exact ⟨⟨k + 1, v2, Kl2, (cur2.setIfInBounds (0 + i * 1) (.int .u8 ((c.toNat : Nat) : Int))), c, (by omega), (by rw [acc_no hc (hit_may h5)]; exact hO2), Rcur8, Zcur8, Ycur8, (List.forall_mem_cons.2 ⟨(fun q hq => ((hn2 g5 (.head _)) _ hq)), (List.forall_mem_cons.2 ⟨(fun q hq => ((hn2 g4 (.tail _ (.head _))) _ hq)), (List.forall_mem_cons.2 ⟨(fun q hq => ((hn2 g3 (.tail _ (.tail _ (.head _)))) _ hq)), (List.forall_mem_cons.2 ⟨(fun q hq => ((hn2 g2 (.tail _ (.tail _ (.tail _ (.head _))))) _ hq)), (List.forall_mem_cons.2 ⟨(fun q hq => ((hn2 g1 (.tail _ (.tail _ (.tail _ (.tail _ (.head _)))))) _ hq)), (List.forall_mem_nil _)⟩)⟩)⟩)⟩)⟩), rfl, rfl, hW21⟩, rfl⟩
                case measure => (show 256 - (intOf (.int .i64 (((k + 1) : Nat) : Int))).toNat < 256 - (intOf (.int .i64 ((k : Nat) : Int))).toNat); simp only [intOf]; omega
              | true =>
                refine lm (v := .slice (some ⟨g1, 0, none⟩) l.length capg1) rfl rfl ?_
                refine lv (v := strV (l.set i c)) rfl rfl (yb_str (n := l.length) (cap := capg1) (l := (l.set i c)) rfl Tryd.underlying31 Tryd.underlying5 Tryd.underlying9 (by kernel_rfl) (by simp) (.tail _ (.tail _ (.tail _ (.tail _ (.head _))))) Rcur8) ?_
                refine lv (v := .bool (agrB (l.set i c))) rfl rfl (yb_call (f := 43) (args := #[strV (l.set i c)]) (fun _ => by kernel_rfl) fun W hW => agrees_any (l.set i c) (by simp; omega) W) ?_
                refine lm (v := .bool (agrB (l.set i c))) rfl rfl ?_
                refine wpL_done (fun W22 hW22 => ?_)
                refine (show Code.wp _ _ _ _ _ from ?_)
                cases h6 : (agrB (l.set i c)) with
                | false =>
                  refine wp_cond_false rfl ?_
                  refine wp_skip ?_
                  refine (show Code.wp _ _ _ _ _ from ?_)
                  refine wp_region_L (W0 := w) ((g5, .cells #[.int .u8 57] 5 (0, 0)) :: (g4, .cells #[.int .u8 48] 5 (0, 0)) :: (g3, .cells #[.int .u8 90] 5 (0, 0)) :: (g2, .cells #[.int .u8 65] 5 (0, 0)) :: (g1, .cells (cur2.setIfInBounds (0 + i * 1) (.int .u8 ((c.toNat : Nat) : Int))) 5 frg1) :: Kl2) (hW22) ?_
                  refine lp (v := .int .i64 (((k + 1) : Nat) : Int)) rfl rfl (run_bin rfl (vx := (.int .i64 ((k : Nat) : Int))) (vy := (.int .i64 ((1 : Nat) : Int))) (by kernel_rfl) (by kernel_rfl) fun w => bn_add (z := (k + 1)) rfl (wr_i64 (by omega)) w) ?_
                  refine lm (v := .int .i64 (((k + 1) : Nat) : Int)) rfl rfl ?_
                  refine wpL_done (fun W23 hW23 => ?_)
                  go_roundw
                  case rel =>
                    repeat apply Exists.intro
                    exact ⟨⟨k + 1, v2, Kl2, (cur2.setIfInBounds (0 + i * 1) (.int .u8 ((c.toNat : Nat) : Int))), c, (by omega), (by rw [acc_no hc (hit_agr h6)]; exact hO2), Rcur8, Zcur8, Ycur8, (List.forall_mem_cons.2 ⟨(fun q hq => ((hn2 g5 (.head _)) _ hq)), (List.forall_mem_cons.2 ⟨(fun q hq => ((hn2 g4 (.tail _ (.head _))) _ hq)), (List.forall_mem_cons.2 ⟨(fun q hq => ((hn2 g3 (.tail _ (.tail _ (.head _)))) _ hq)), (List.forall_mem_cons.2 ⟨(fun q hq => ((hn2 g2 (.tail _ (.tail _ (.tail _ (.head _))))) _ hq)), (List.forall_mem_cons.2 ⟨(fun q hq => ((hn2 g1 (.tail _ (.tail _ (.tail _ (.tail _ (.head _)))))) _ hq)), (List.forall_mem_nil _)⟩)⟩)⟩)⟩)⟩), rfl, rfl, hW23⟩, rfl⟩
                  case measure => (show 256 - (intOf (.int .i64 (((k + 1) : Nat) : Int))).toNat < 256 - (intOf (.int .i64 ((k : Nat) : Int))).toNat); simp only [intOf]; omega
                | true =>
                  refine wp_cond_true rfl ?_
                  refine wp_region_L (W0 := w) ((g5, .cells #[.int .u8 57] 5 (0, 0)) :: (g4, .cells #[.int .u8 48] 5 (0, 0)) :: (g3, .cells #[.int .u8 90] 5 (0, 0)) :: (g2, .cells #[.int .u8 65] 5 (0, 0)) :: (g1, .cells (cur2.setIfInBounds (0 + i * 1) (.int .u8 ((c.toNat : Nat) : Int))) 5 frg1) :: Kl2) (hW22) ?_
                  refine lm (v := v2) rfl rfl ?_
                  refine lm (v := .int .i64 ((i : Nat) : Int)) rfl rfl ?_
                  refine lm (v := .int .u8 ((c.toNat : Nat) : Int)) rfl rfl ?_
                  refine lm (v := .agg #[.int .i64 ((i : Nat) : Int), .int .u8 ((c.toNat : Nat) : Int)]) rfl rfl ?_
                  refine wpL_new (fun g => .slice (some ⟨g, 0, none⟩) 1 1) (obi := .cells #[.int .i64 ((i : Nat) : Int), .int .u8 ((c.toNat : Nat) : Int)] 42 (0, 0)) rfl rfl (fun _ => by kernel_rfl) (fun _ => by simp only [List.setIfInBounds_toArray, List.set_cons_succ, List.set_cons_zero] <;> rfl) fun g9 Bg9 Fg9 => ?_
                  refine wpL_g (AppO w 42 2 [(g5, .cells #[.int .u8 57] 5 (0, 0)), (g4, .cells #[.int .u8 48] 5 (0, 0)), (g3, .cells #[.int .u8 90] 5 (0, 0)), (g2, .cells #[.int .u8 65] 5 (0, 0)), (g1, .cells (cur2.setIfInBounds (0 + i * 1) (.int .u8 ((c.toNat : Nat) : Int))) 5 frg1)] (((missTo l i ++ rowM l i k).length) + 1) ((mcells (missTo l i ++ rowM l i k)) ++ [.int .i64 ((i : Nat) : Int), .int .u8 ((c.toNat : Nat) : Int)])) rfl rfl (app_own el_miss (m := 1) (c := 1) (news := [.int .i64 ((i : Nat) : Int), .int .u8 ((c.toNat : Nat) : Int)]) rfl (by kernel_rfl) (by kernel_rfl) (.head _) hO2 (fun p hp => (.tail _ (.tail _ (.tail _ (.tail _ (.tail _ (.tail _ hp))))))) (List.forall_mem_cons.2 ⟨⟨(.tail _ (.head _)), (fun q hq => ((hn2 g5 (.head _)) _ hq))⟩, (List.forall_mem_cons.2 ⟨⟨(.tail _ (.tail _ (.head _))), (fun q hq => ((hn2 g4 (.tail _ (.head _))) _ hq))⟩, (List.forall_mem_cons.2 ⟨⟨(.tail _ (.tail _ (.tail _ (.head _)))), (fun q hq => ((hn2 g3 (.tail _ (.tail _ (.head _)))) _ hq))⟩, (List.forall_mem_cons.2 ⟨⟨(.tail _ (.tail _ (.tail _ (.tail _ (.head _))))), (fun q hq => ((hn2 g2 (.tail _ (.tail _ (.tail _ (.head _))))) _ hq))⟩, (List.forall_mem_cons.2 ⟨⟨(.tail _ (.tail _ (.tail _ (.tail _ (.tail _ (.head _)))))), (fun q hq => ((hn2 g1 (.tail _ (.tail _ (.tail _ (.tail _ (.head _)))))) _ hq))⟩, (List.forall_mem_nil _)⟩)⟩)⟩)⟩)⟩) rfl (by simp [Value.oneCell']) (by omega) (by omega) (by omega)) (fun _ => by simp only [List.setIfInBounds_toArray, List.set_cons_succ, List.set_cons_zero] <;> rfl) ?_
                  rintro v10 K9 ⟨Kl10, O10, N10, rfl⟩
                  refine lm (v := v10) rfl rfl ?_
                  refine wpL_done (fun W24 hW24 => ?_)
                  refine (show Code.wp _ _ _ _ _ from ?_)
                  refine wp_region_L (W0 := w) ((g5, .cells #[.int .u8 57] 5 (0, 0)) :: (g4, .cells #[.int .u8 48] 5 (0, 0)) :: (g3, .cells #[.int .u8 90] 5 (0, 0)) :: (g2, .cells #[.int .u8 65] 5 (0, 0)) :: (g1, .cells (cur2.setIfInBounds (0 + i * 1) (.int .u8 ((c.toNat : Nat) : Int))) 5 frg1) :: Kl10) (hW24) ?_
                  refine lp (v := .int .i64 (((k + 1) : Nat) : Int)) rfl rfl (run_bin rfl (vx := (.int .i64 ((k : Nat) : Int))) (vy := (.int .i64 ((1 : Nat) : Int))) (by kernel_rfl) (by kernel_rfl) fun w => bn_add (z := (k + 1)) rfl (wr_i64 (by omega)) w) ?_
                  refine lm (v := .int .i64 (((k + 1) : Nat) : Int)) rfl rfl ?_
                  refine wpL_done (fun W25 hW25 => ?_)
                  go_roundw
                  case rel =>
                    repeat apply Exists.intro
                    exact ⟨⟨k + 1, v10, Kl10, (cur2.setIfInBounds (0 + i * 1) (.int .u8 ((c.toNat : Nat) : Int))), c, (by omega), (own_miss O10 (acc_hit hc (hit_yes hb6 h4 h5 h6))), Rcur8, Zcur8, Ycur8, (List.forall_mem_cons.2 ⟨(fun q hq => ((N10 _ (.head _)) _ hq)), (List.forall_mem_cons.2 ⟨(fun q hq => ((N10 _ (.tail _ (.head _))) _ hq)), (List.forall_mem_cons.2 ⟨(fun q hq => ((N10 _ (.tail _ (.tail _ (.head _)))) _ hq)), (List.forall_mem_cons.2 ⟨(fun q hq => ((N10 _ (.tail _ (.tail _ (.tail _ (.head _))))) _ hq)), (List.forall_mem_cons.2 ⟨(fun q hq => ((N10 _ (.tail _ (.tail _ (.tail _ (.tail _ (.head _)))))) _ hq)), (List.forall_mem_nil _)⟩)⟩)⟩)⟩)⟩), rfl, rfl, hW25⟩, rfl⟩
                  case measure => (show 256 - (intOf (.int .i64 (((k + 1) : Nat) : Int))).toNat < 256 - (intOf (.int .i64 ((k : Nat) : Int))).toNat); simp only [intOf]; omega
            | true =>
              have h4 : c.toNat = b6.toNat := of_decide_eq_true hd4
              clear hd4
              refine ln rfl ?_
              refine ln rfl ?_
              refine ln rfl ?_
              refine lm (v := .bool false) rfl rfl ?_
              refine lm (v := .bool false) rfl rfl ?_
              refine ln rfl ?_
              refine ln rfl ?_
              refine ln rfl ?_
              refine lm (v := .bool false) rfl rfl ?_
              refine wpL_done (fun W26 hW26 => ?_)
              refine (show Code.wp _ _ _ _ _ from ?_)
              refine wp_cond_false rfl ?_
              refine wp_skip ?_
              refine (show Code.wp _ _ _ _ _ from ?_)
              refine wp_region_L (W0 := w) ((g5, .cells #[.int .u8 57] 5 (0, 0)) :: (g4, .cells #[.int .u8 48] 5 (0, 0)) :: (g3, .cells #[.int .u8 90] 5 (0, 0)) :: (g2, .cells #[.int .u8 65] 5 (0, 0)) :: (g1, .cells (cur2.setIfInBounds (0 + i * 1) (.int .u8 ((c.toNat : Nat) : Int))) 5 frg1) :: Kl2) (hW26) ?_
              refine lp (v := .int .i64 (((k + 1) : Nat) : Int)) rfl rfl (run_bin rfl (vx := (.int .i64 ((k : Nat) : Int))) (vy := (.int .i64 ((1 : Nat) : Int))) (by kernel_rfl) (by kernel_rfl) fun w => bn_add (z := (k + 1)) rfl (wr_i64 (by omega)) w) ?_
              refine lm (v := .int .i64 (((k + 1) : Nat) : Int)) rfl rfl ?_
              refine wpL_done (fun W27 hW27 => ?_)
              go_roundw
              case rel =>
                repeat apply Exists.intro
                exact ⟨⟨k + 1, v2, Kl2, (cur2.setIfInBounds (0 + i * 1) (.int .u8 ((c.toNat : Nat) : Int))), c, (by omega), (by rw [acc_no hc (hit_eq hb6 h4)]; exact hO2), Rcur8, Zcur8, Ycur8, (List.forall_mem_cons.2 ⟨(fun q hq => ((hn2 g5 (.head _)) _ hq)), (List.forall_mem_cons.2 ⟨(fun q hq => ((hn2 g4 (.tail _ (.head _))) _ hq)), (List.forall_mem_cons.2 ⟨(fun q hq => ((hn2 g3 (.tail _ (.tail _ (.head _)))) _ hq)), (List.forall_mem_cons.2 ⟨(fun q hq => ((hn2 g2 (.tail _ (.tail _ (.tail _ (.head _))))) _ hq)), (List.forall_mem_cons.2 ⟨(fun q hq => ((hn2 g1 (.tail _ (.tail _ (.tail _ (.tail _ (.head _)))))) _ hq)), (List.forall_mem_nil _)⟩)⟩)⟩)⟩)⟩), rfl, rfl, hW27⟩, rfl⟩
              case measure => (show 256 - (intOf (.int .i64 (((k + 1) : Nat) : Int))).toNat < 256 - (intOf (.int .i64 ((k : Nat) : Int))).toNat); simp only [intOf]; omega
end Go.Proofs.YtbceajgipmjmlaaDoor
namespace Go.Proofs.YtbceajgipmjmlaaDoor
open Go Go.RowKit Tw
def kindsL : List Value := [strV [50, 50, 71, 49], .int .u8 20, .bool false, .bool false, strV [50, 50, 82, 49], .int .u8 20, .bool false, .bool true, strV [52, 50, 71, 49], .int .u8 40, .bool false, .bool false, strV [52, 50, 82, 49], .int .u8 40, .bool false, .bool true, strV [52, 53, 71, 49], .int .u8 40, .bool true, .bool false, strV [52, 53, 82, 49], .int .u8 40, .bool true, .bool true]
structure Env (w : World) : Prop where
  kinds : w.var? Tryd.prog "twistlock/iso.kinds" = some kindsL.toArray
theorem var_keep {P : Program} {w w' : World} {n : String} {cs : Array Value} (h : w.var? P n = some cs) (hb : Below w.heap.size w w') : w'.var? P n = some cs := by
  unfold World.var? at *
  cases hg : P.globalNamed n with
  | none => rw [hg] at h; cases h
  | some g =>
    rw [hg] at h
    simp only [Option.bind_some] at h ⊢
    cases hh : w.heap[g]? with
    | none => rw [hh] at h; cases h
    | some o => rw [hb.block g (lt_of_block hh)]; exact h
theorem Env.keep {w w' : World} (h : Env w) (hb : Below w.heap.size w w') : Env w' := ⟨var_keep h.kinds hb⟩
theorem gKinds : Tryd.prog.globalNamed "twistlock/iso.kinds" = some 0 := by kernel_rfl
theorem Env.cells {w : World} (h : Env w) : ∀ (j : Nat) (v : Value), kindsL[j]? = some v → w.cell? ⟨0, 0 + j, none⟩ = some v := fun j v hv => by
  rw [Nat.zero_add, World.var?_cell gKinds h.kinds j]
  simpa using hv
theorem Env.lt {w : World} (h : Env w) : 0 < w.heap.size := World.block_lt_of_cell? _ _ (h.cells 0 (strV [50, 50, 71, 49]) rfl)
def sizeV (l : List UInt8) : Value := if [50, 50, 71, 49] = l then .tuple #[.agg #[.int .u8 20, .bool false, .bool false], .int .i64 0] else if [50, 50, 82, 49] = l then .tuple #[.agg #[.int .u8 20, .bool false, .bool true], .int .i64 0] else if [52, 50, 71, 49] = l then .tuple #[.agg #[.int .u8 40, .bool false, .bool false], .int .i64 0] else if [52, 50, 82, 49] = l then .tuple #[.agg #[.int .u8 40, .bool false, .bool true], .int .i64 0] else if [52, 53, 71, 49] = l then .tuple #[.agg #[.int .u8 40, .bool true, .bool false], .int .i64 0] else if [52, 53, 82, 49] = l then .tuple #[.agg #[.int .u8 40, .bool true, .bool true], .int .i64 0] else .tuple #[.agg #[.int .u8 0, .bool false, .bool false], .int .i64 32]
def codeV (n : Nat) (h r : Bool) : Value := if 20 = n ∧ false = h ∧ false = r then .tuple #[strV [50, 50, 71, 49], .int .i64 0] else if 20 = n ∧ false = h ∧ true = r then .tuple #[strV [50, 50, 82, 49], .int .i64 0] else if 40 = n ∧ false = h ∧ false = r then .tuple #[strV [52, 50, 71, 49], .int .i64 0] else if 40 = n ∧ false = h ∧ true = r then .tuple #[strV [52, 50, 82, 49], .int .i64 0] else if 40 = n ∧ true = h ∧ false = r then .tuple #[strV [52, 53, 71, 49], .int .i64 0] else if 40 = n ∧ true = h ∧ true = r then .tuple #[strV [52, 53, 82, 49], .int .i64 0] else .tuple #[strV [], .int .i64 32]
theorem eq_kind {x y : Nat} {a b c d e : Bool} {px py : Operand} (h : decide (x = y ∧ a = c ∧ b = d) = e) (w : World) : (do eqGuard .eql 26 px py (.agg #[.int .u8 ((x : Nat) : Int), .bool a, .bool b]) (.agg #[.int .u8 ((y : Nat) : Int), .bool c, .bool d]); binOp .eql 26 (.agg #[.int .u8 ((x : Nat) : Int), .bool a, .bool b]) (.agg #[.int .u8 ((y : Nat) : Int), .bool c, .bool d]) : Sem Value).run Tryd.prog w = .ok (.bool e) w := by
  subst h
  go_simp
  have e1 : ((x : Int) = (y : Int)) = (x = y) := by apply propext; omega
  simp only [e1]
  by_cases h1 : x = y <;> by_cases h2 : a = c <;> by_cases h3 : b = d <;> simp [h1, h2, h3]
theorem eq_miss {x y : Nat} {a b : Nat} {e : Bool} {px py : Operand} (h : decide (x = y ∧ a = b) = e) (w : World) : (do eqGuard .eql 42 px py (.agg #[.int .i64 ((x : Nat) : Int), .int .u8 ((a : Nat) : Int)]) (.agg #[.int .i64 ((y : Nat) : Int), .int .u8 ((b : Nat) : Int)]); binOp .eql 42 (.agg #[.int .i64 ((x : Nat) : Int), .int .u8 ((a : Nat) : Int)]) (.agg #[.int .i64 ((y : Nat) : Int), .int .u8 ((b : Nat) : Int)]) : Sem Value).run Tryd.prog w = .ok (.bool e) w := by
  subst h
  go_simp
  have e1 : ((x : Int) = (y : Int)) = (x = y) := by apply propext; omega
  have e2 : ((a : Int) = (b : Int)) = (a = b) := by apply propext; omega
  simp only [e1, e2]
  by_cases h1 : x = y <;> by_cases h2 : a = b <;> simp [h1, h2]
theorem ne_miss {x y : Nat} {a b : Nat} {e : Bool} {px py : Operand} (h : decide (x = y ∧ a = b) = e) (w : World) : (do eqGuard .neq 42 px py (.agg #[.int .i64 ((x : Nat) : Int), .int .u8 ((a : Nat) : Int)]) (.agg #[.int .i64 ((y : Nat) : Int), .int .u8 ((b : Nat) : Int)]); binOp .neq 42 (.agg #[.int .i64 ((x : Nat) : Int), .int .u8 ((a : Nat) : Int)]) (.agg #[.int .i64 ((y : Nat) : Int), .int .u8 ((b : Nat) : Int)]) : Sem Value).run Tryd.prog w = .ok (.bool (!e)) w := by
  subst h
  go_simp
  have e1 : ((x : Int) = (y : Int)) = (x = y) := by apply propext; omega
  have e2 : ((a : Int) = (b : Int)) = (a = b) := by apply propext; omega
  simp only [e1, e2]
  by_cases h1 : x = y <;> by_cases h2 : a = b <;> simp [h1, h2]
set_option maxRecDepth 100000 in
set_option maxHeartbeats 4000000 in
theorem Size_any (l : List UInt8) (w : World) (hE : Env w) : Calls Tryd.prog 26 #[strV l] w fun e w' => e = .returned (sizeV l) ∧ Below w.heap.size w w' := by
  have HE := Lib.hid hE
  clear hE
  go_enter Tryd.func26, Tryd.ntmps26
  refine wp_seq ?_
  refine wp_region_L (W0 := w) [] (KS.start w) ?_
  refine wpL_new (fun g => .pointer (some ⟨g, 0, none⟩)) (obi := .cells #[.int .u8 0, .bool false, .bool false] 26 (0, 0)) rfl rfl (fun _ => by kernel_rfl) (fun _ => by simp only [List.setIfInBounds_toArray, List.set_cons_succ, List.set_cons_zero] <;> rfl) fun g1 Bg1 Fg1 => ?_
  refine lm (v := .int .i64 0) rfl rfl ?_
  refine wpL_done (fun W1 hW1 => ?_)
  refine (show Code.wp _ _ _ _ _ from ?_)
  refine wp_seq ?_
  refine wp_seq ?_
  refine wp_region_L (W0 := w) [(g1, .cells #[.int .u8 0, .bool false, .bool false] 26 (0, 0))] (hW1) ?_
  refine lv (v := .agg #[strV [50, 50, 71, 49], .int .u8 20, .bool false, .bool false, strV [50, 50, 82, 49], .int .u8 20, .bool false, .bool true, strV [52, 50, 71, 49], .int .u8 40, .bool false, .bool false, strV [52, 50, 82, 49], .int .u8 40, .bool false, .bool true, strV [52, 53, 71, 49], .int .u8 40, .bool true, .bool false, strV [52, 53, 82, 49], .int .u8 40, .bool true, .bool true]) rfl rfl (yb_olds (cs := kindsL) rfl (by kernel_rfl) HE.out.cells HE.out.lt Tryd.underlying92 rfl (by kernel_rfl)) ?_
  refine lm (v := .int .i64 0) rfl rfl ?_
  refine wpL_done (fun W2 hW2 => ?_)
  refine (show Code.wp _ _ _ _ _ from ?_)
  refine wp_block ?_
  refine wp_loop_rounds 7 ?_
  refine (show Code.wp _ _ _ _ _ from ?_)
  refine wp_seq ?_
  refine wp_region_L (W0 := w) [(g1, .cells #[.int .u8 0, .bool false, .bool false] 26 (0, 0))] (hW2) ?_
  refine lm (v := .bool true) rfl rfl ?_
  refine wpL_done (fun W3 hW3 => ?_)
  refine (show Code.wp _ _ _ _ _ from ?_)
  refine wp_seq ?_
  refine wp_cond_true rfl ?_
  refine wp_skip ?_
  refine (show Code.wp _ _ _ _ _ from ?_)
  refine wp_seq ?_
  refine wp_block ?_
  refine wp_seq ?_
  refine wp_region_L (W0 := w) [(g1, .cells #[.int .u8 0, .bool false, .bool false] 26 (0, 0))] (hW3) ?_
  refine lm (v := .agg #[strV [50, 50, 71, 49], .int .u8 20, .bool false, .bool false]) rfl rfl ?_
  refine wpL_new (fun g => .pointer (some ⟨g, 0, none⟩)) (obi := .cells #[strV [], .int .u8 0, .bool false, .bool false] 91 (0, 0)) rfl rfl (fun _ => by kernel_rfl) (fun _ => by simp only [List.setIfInBounds_toArray, List.set_cons_succ, List.set_cons_zero] <;> rfl) fun g2 Bg2 Fg2 => ?_
  refine wpL_s [(g2, .cells #[strV [50, 50, 71, 49], .int .u8 20, .bool false, .bool false] 91 (0, 0)), (g1, .cells #[.int .u8 0, .bool false, .bool false] 26 (0, 0))] rfl rfl (st_row (off := 0) (v := .agg #[strV [50, 50, 71, 49], .int .u8 20, .bool false, .bool false]) rfl (by kernel_rfl) (by kernel_rfl) (.head _) Bg2 (by kernel_rfl) (by simp [Value.cells]) (by intro v hv; simp [Value.cells] at hv; first | (subst hv; rfl) | (rcases hv with rfl | rfl | rfl | rfl <;> rfl)) (by kernel_rfl) (List.forall_mem_cons.2 ⟨.inl rfl, (List.forall_mem_cons.2 ⟨.inr ⟨(.tail _ (.head _)), (Fg2 _ (.head _))⟩, (List.forall_mem_nil _)⟩)⟩)) ?_
  refine wpL_done (fun W4 hW4 => ?_)
  refine (show Code.wp _ _ _ _ _ from ?_)
  refine wp_seq ?_
  refine wp_region_L (W0 := w) [(g2, .cells #[strV [50, 50, 71, 49], .int .u8 20, .bool false, .bool false] 91 (0, 0)), (g1, .cells #[.int .u8 0, .bool false, .bool false] 26 (0, 0))] (hW4) ?_
  refine lm (v := .pointer (some ⟨g2, 0, none⟩)) rfl rfl ?_
  refine lv (v := strV [50, 50, 71, 49]) rfl rfl (yb_cell (off := 0) rfl (by kernel_rfl) (.head _) Tryd.underlying9 rfl (by kernel_rfl)) ?_
  refine lm (v := strV l) rfl rfl ?_
  refine lp (v := .bool (decide ([50, 50, 71, 49] = l))) rfl rfl (run_bin rfl (vx := strV [50, 50, 71, 49]) (vy := strV l) (by kernel_rfl) (by kernel_rfl) fun w => bs_eql rfl w) ?_
  refine wpL_done (fun W5 hW5 => ?_)
  refine (show Code.wp _ _ _ _ _ from ?_)
  cases hd1 : (decide ([50, 50, 71, 49] = l)) with
  | false =>
    have h1 : ¬ ([50, 50, 71, 49] = l) := of_decide_eq_false hd1
    clear hd1
    refine wp_cond_false rfl ?_
    refine wp_skip ?_
    refine (show Code.wp _ _ _ _ _ from ?_)
    refine wp_region_L (W0 := w) [(g2, .cells #[strV [50, 50, 71, 49], .int .u8 20, .bool false, .bool false] 91 (0, 0)), (g1, .cells #[.int .u8 0, .bool false, .bool false] 26 (0, 0))] (hW5) ?_
    refine lm (v := .int .i64 1) rfl rfl ?_
    refine lm (v := .int .i64 1) rfl rfl ?_
    refine wpL_done (fun W6 hW6 => ?_)
    refine (show Code.wp _ _ _ _ _ from ?_)
    refine wp_seq ?_
    refine wp_region_L (W0 := w) [(g2, .cells #[strV [50, 50, 71, 49], .int .u8 20, .bool false, .bool false] 91 (0, 0)), (g1, .cells #[.int .u8 0, .bool false, .bool false] 26 (0, 0))] (hW6) ?_
    refine lm (v := .bool true) rfl rfl ?_
    refine wpL_done (fun W7 hW7 => ?_)
    refine (show Code.wp _ _ _ _ _ from ?_)
    refine wp_seq ?_
    refine wp_cond_true rfl ?_
    refine wp_skip ?_
    refine (show Code.wp _ _ _ _ _ from ?_)
    refine wp_seq ?_
    refine wp_block ?_
    refine wp_seq ?_
    refine wp_region_L (W0 := w) [(g2, .cells #[strV [50, 50, 71, 49], .int .u8 20, .bool false, .bool false] 91 (0, 0)), (g1, .cells #[.int .u8 0, .bool false, .bool false] 26 (0, 0))] (hW7) ?_
    refine lm (v := .agg #[strV [50, 50, 82, 49], .int .u8 20, .bool false, .bool true]) rfl rfl ?_
    refine wpL_new (fun g => .pointer (some ⟨g, 0, none⟩)) (obi := .cells #[strV [], .int .u8 0, .bool false, .bool false] 91 (0, 0)) rfl rfl (fun _ => by kernel_rfl) (fun _ => by simp only [List.setIfInBounds_toArray, List.set_cons_succ, List.set_cons_zero] <;> rfl) fun g3 Bg3 Fg3 => ?_
    refine wpL_s [(g3, .cells #[strV [50, 50, 82, 49], .int .u8 20, .bool false, .bool true] 91 (0, 0)), (g2, .cells #[strV [50, 50, 71, 49], .int .u8 20, .bool false, .bool false] 91 (0, 0)), (g1, .cells #[.int .u8 0, .bool false, .bool false] 26 (0, 0))] rfl rfl (st_row (off := 0) (v := .agg #[strV [50, 50, 82, 49], .int .u8 20, .bool false, .bool true]) rfl (by kernel_rfl) (by kernel_rfl) (.head _) Bg3 (by kernel_rfl) (by simp [Value.cells]) (by intro v hv; simp [Value.cells] at hv; first | (subst hv; rfl) | (rcases hv with rfl | rfl | rfl | rfl <;> rfl)) (by kernel_rfl) (List.forall_mem_cons.2 ⟨.inl rfl, (List.forall_mem_cons.2 ⟨.inr ⟨(.tail _ (.head _)), (Fg3 _ (.head _))⟩, (List.forall_mem_cons.2 ⟨.inr ⟨(.tail _ (.tail _ (.head _))), (Fg3 _ (.tail _ (.head _)))⟩, (List.forall_mem_nil _)⟩)⟩)⟩)) ?_
    refine wpL_done (fun W8 hW8 => ?_)
    refine (show Code.wp _ _ _ _ _ from ?_)
    refine wp_seq ?_
    refine wp_region_L (W0 := w) [(g3, .cells #[strV [50, 50, 82, 49], .int .u8 20, .bool false, .bool true] 91 (0, 0)), (g2, .cells #[strV [50, 50, 71, 49], .int .u8 20, .bool false, .bool false] 91 (0, 0)), (g1, .cells #[.int .u8 0, .bool false, .bool false] 26 (0, 0))] (hW8) ?_
    refine lm (v := .pointer (some ⟨g3, 0, none⟩)) rfl rfl ?_
    refine lv (v := strV [50, 50, 82, 49]) rfl rfl (yb_cell (off := 0) rfl (by kernel_rfl) (.head _) Tryd.underlying9 rfl (by kernel_rfl)) ?_
    refine lm (v := strV l) rfl rfl ?_
    refine lp (v := .bool (decide ([50, 50, 82, 49] = l))) rfl rfl (run_bin rfl (vx := strV [50, 50, 82, 49]) (vy := strV l) (by kernel_rfl) (by kernel_rfl) fun w => bs_eql rfl w) ?_
    refine wpL_done (fun W9 hW9 => ?_)
    refine (show Code.wp _ _ _ _ _ from ?_)
    cases hd2 : (decide ([50, 50, 82, 49] = l)) with
    | false =>
      have h2 : ¬ ([50, 50, 82, 49] = l) := of_decide_eq_false hd2
      clear hd2
      refine wp_cond_false rfl ?_
      refine wp_skip ?_
      refine (show Code.wp _ _ _ _ _ from ?_)
      refine wp_region_L (W0 := w) [(g3, .cells #[strV [50, 50, 82, 49], .int .u8 20, .bool false, .bool true] 91 (0, 0)), (g2, .cells #[strV [50, 50, 71, 49], .int .u8 20, .bool false, .bool false] 91 (0, 0)), (g1, .cells #[.int .u8 0, .bool false, .bool false] 26 (0, 0))] (hW9) ?_
      refine lm (v := .int .i64 2) rfl rfl ?_
      refine lm (v := .int .i64 2) rfl rfl ?_
      refine wpL_done (fun W10 hW10 => ?_)
      refine (show Code.wp _ _ _ _ _ from ?_)
      refine wp_seq ?_
      refine wp_region_L (W0 := w) [(g3, .cells #[strV [50, 50, 82, 49], .int .u8 20, .bool false, .bool true] 91 (0, 0)), (g2, .cells #[strV [50, 50, 71, 49], .int .u8 20, .bool false, .bool false] 91 (0, 0)), (g1, .cells #[.int .u8 0, .bool false, .bool false] 26 (0, 0))] (hW10) ?_
      refine lm (v := .bool true) rfl rfl ?_
      refine wpL_done (fun W11 hW11 => ?_)
      refine (show Code.wp _ _ _ _ _ from ?_)
      refine wp_seq ?_
      refine wp_cond_true rfl ?_
      refine wp_skip ?_
      refine (show Code.wp _ _ _ _ _ from ?_)
      refine wp_seq ?_
      refine wp_block ?_
      refine wp_seq ?_
      refine wp_region_L (W0 := w) [(g3, .cells #[strV [50, 50, 82, 49], .int .u8 20, .bool false, .bool true] 91 (0, 0)), (g2, .cells #[strV [50, 50, 71, 49], .int .u8 20, .bool false, .bool false] 91 (0, 0)), (g1, .cells #[.int .u8 0, .bool false, .bool false] 26 (0, 0))] (hW11) ?_
      refine lm (v := .agg #[strV [52, 50, 71, 49], .int .u8 40, .bool false, .bool false]) rfl rfl ?_
      refine wpL_new (fun g => .pointer (some ⟨g, 0, none⟩)) (obi := .cells #[strV [], .int .u8 0, .bool false, .bool false] 91 (0, 0)) rfl rfl (fun _ => by kernel_rfl) (fun _ => by simp only [List.setIfInBounds_toArray, List.set_cons_succ, List.set_cons_zero] <;> rfl) fun g4 Bg4 Fg4 => ?_
      refine wpL_s [(g4, .cells #[strV [52, 50, 71, 49], .int .u8 40, .bool false, .bool false] 91 (0, 0)), (g3, .cells #[strV [50, 50, 82, 49], .int .u8 20, .bool false, .bool true] 91 (0, 0)), (g2, .cells #[strV [50, 50, 71, 49], .int .u8 20, .bool false, .bool false] 91 (0, 0)), (g1, .cells #[.int .u8 0, .bool false, .bool false] 26 (0, 0))] rfl rfl (st_row (off := 0) (v := .agg #[strV [52, 50, 71, 49], .int .u8 40, .bool false, .bool false]) rfl (by kernel_rfl) (by kernel_rfl) (.head _) Bg4 (by kernel_rfl) (by simp [Value.cells]) (by intro v hv; simp [Value.cells] at hv; first | (subst hv; rfl) | (rcases hv with rfl | rfl | rfl | rfl <;> rfl)) (by kernel_rfl) (List.forall_mem_cons.2 ⟨.inl rfl, (List.forall_mem_cons.2 ⟨.inr ⟨(.tail _ (.head _)), (Fg4 _ (.head _))⟩, (List.forall_mem_cons.2 ⟨.inr ⟨(.tail _ (.tail _ (.head _))), (Fg4 _ (.tail _ (.head _)))⟩, (List.forall_mem_cons.2 ⟨.inr ⟨(.tail _ (.tail _ (.tail _ (.head _)))), (Fg4 _ (.tail _ (.tail _ (.head _))))⟩, (List.forall_mem_nil _)⟩)⟩)⟩)⟩)) ?_
      refine wpL_done (fun W12 hW12 => ?_)
      refine (show Code.wp _ _ _ _ _ from ?_)
      refine wp_seq ?_
      refine wp_region_L (W0 := w) [(g4, .cells #[strV [52, 50, 71, 49], .int .u8 40, .bool false, .bool false] 91 (0, 0)), (g3, .cells #[strV [50, 50, 82, 49], .int .u8 20, .bool false, .bool true] 91 (0, 0)), (g2, .cells #[strV [50, 50, 71, 49], .int .u8 20, .bool false, .bool false] 91 (0, 0)), (g1, .cells #[.int .u8 0, .bool false, .bool false] 26 (0, 0))] (hW12) ?_
      refine lm (v := .pointer (some ⟨g4, 0, none⟩)) rfl rfl ?_
      refine lv (v := strV [52, 50, 71, 49]) rfl rfl (yb_cell (off := 0) rfl (by kernel_rfl) (.head _) Tryd.underlying9 rfl (by kernel_rfl)) ?_
      refine lm (v := strV l) rfl rfl ?_
      refine lp (v := .bool (decide ([52, 50, 71, 49] = l))) rfl rfl (run_bin rfl (vx := strV [52, 50, 71, 49]) (vy := strV l) (by kernel_rfl) (by kernel_rfl) fun w => bs_eql rfl w) ?_
      refine wpL_done (fun W13 hW13 => ?_)
      refine (show Code.wp _ _ _ _ _ from ?_)
      cases hd3 : (decide ([52, 50, 71, 49] = l)) with
      | false =>
        have h3 : ¬ ([52, 50, 71, 49] = l) := of_decide_eq_false hd3
        clear hd3
        refine wp_cond_false rfl ?_
        refine wp_skip ?_
        refine (show Code.wp _ _ _ _ _ from ?_)
        refine wp_region_L (W0 := w) [(g4, .cells #[strV [52, 50, 71, 49], .int .u8 40, .bool false, .bool false] 91 (0, 0)), (g3, .cells #[strV [50, 50, 82, 49], .int .u8 20, .bool false, .bool true] 91 (0, 0)), (g2, .cells #[strV [50, 50, 71, 49], .int .u8 20, .bool false, .bool false] 91 (0, 0)), (g1, .cells #[.int .u8 0, .bool false, .bool false] 26 (0, 0))] (hW13) ?_
        refine lm (v := .int .i64 3) rfl rfl ?_
        refine lm (v := .int .i64 3) rfl rfl ?_
        refine wpL_done (fun W14 hW14 => ?_)
        refine (show Code.wp _ _ _ _ _ from ?_)
        refine wp_seq ?_
        refine wp_region_L (W0 := w) [(g4, .cells #[strV [52, 50, 71, 49], .int .u8 40, .bool false, .bool false] 91 (0, 0)), (g3, .cells #[strV [50, 50, 82, 49], .int .u8 20, .bool false, .bool true] 91 (0, 0)), (g2, .cells #[strV [50, 50, 71, 49], .int .u8 20, .bool false, .bool false] 91 (0, 0)), (g1, .cells #[.int .u8 0, .bool false, .bool false] 26 (0, 0))] (hW14) ?_
        refine lm (v := .bool true) rfl rfl ?_
        refine wpL_done (fun W15 hW15 => ?_)
        refine (show Code.wp _ _ _ _ _ from ?_)
        refine wp_seq ?_
        refine wp_cond_true rfl ?_
        refine wp_skip ?_
        refine (show Code.wp _ _ _ _ _ from ?_)
        refine wp_seq ?_
        refine wp_block ?_
        refine wp_seq ?_
        refine wp_region_L (W0 := w) [(g4, .cells #[strV [52, 50, 71, 49], .int .u8 40, .bool false, .bool false] 91 (0, 0)), (g3, .cells #[strV [50, 50, 82, 49], .int .u8 20, .bool false, .bool true] 91 (0, 0)), (g2, .cells #[strV [50, 50, 71, 49], .int .u8 20, .bool false, .bool false] 91 (0, 0)), (g1, .cells #[.int .u8 0, .bool false, .bool false] 26 (0, 0))] (hW15) ?_
        refine lm (v := .agg #[strV [52, 50, 82, 49], .int .u8 40, .bool false, .bool true]) rfl rfl ?_
        refine wpL_new (fun g => .pointer (some ⟨g, 0, none⟩)) (obi := .cells #[strV [], .int .u8 0, .bool false, .bool false] 91 (0, 0)) rfl rfl (fun _ => by kernel_rfl) (fun _ => by simp only [List.setIfInBounds_toArray, List.set_cons_succ, List.set_cons_zero] <;> rfl) fun g5 Bg5 Fg5 => ?_
        refine wpL_s [(g5, .cells #[strV [52, 50, 82, 49], .int .u8 40, .bool false, .bool true] 91 (0, 0)), (g4, .cells #[strV [52, 50, 71, 49], .int .u8 40, .bool false, .bool false] 91 (0, 0)), (g3, .cells #[strV [50, 50, 82, 49], .int .u8 20, .bool false, .bool true] 91 (0, 0)), (g2, .cells #[strV [50, 50, 71, 49], .int .u8 20, .bool false, .bool false] 91 (0, 0)), (g1, .cells #[.int .u8 0, .bool false, .bool false] 26 (0, 0))] rfl rfl (st_row (off := 0) (v := .agg #[strV [52, 50, 82, 49], .int .u8 40, .bool false, .bool true]) rfl (by kernel_rfl) (by kernel_rfl) (.head _) Bg5 (by kernel_rfl) (by simp [Value.cells]) (by intro v hv; simp [Value.cells] at hv; first | (subst hv; rfl) | (rcases hv with rfl | rfl | rfl | rfl <;> rfl)) (by kernel_rfl) (List.forall_mem_cons.2 ⟨.inl rfl, (List.forall_mem_cons.2 ⟨.inr ⟨(.tail _ (.head _)), (Fg5 _ (.head _))⟩, (List.forall_mem_cons.2 ⟨.inr ⟨(.tail _ (.tail _ (.head _))), (Fg5 _ (.tail _ (.head _)))⟩, (List.forall_mem_cons.2 ⟨.inr ⟨(.tail _ (.tail _ (.tail _ (.head _)))), (Fg5 _ (.tail _ (.tail _ (.head _))))⟩, (List.forall_mem_cons.2 ⟨.inr ⟨(.tail _ (.tail _ (.tail _ (.tail _ (.head _))))), (Fg5 _ (.tail _ (.tail _ (.tail _ (.head _)))))⟩, (List.forall_mem_nil _)⟩)⟩)⟩)⟩)⟩)) ?_
        refine wpL_done (fun W16 hW16 => ?_)
        refine (show Code.wp _ _ _ _ _ from ?_)
        refine wp_seq ?_
        refine wp_region_L (W0 := w) [(g5, .cells #[strV [52, 50, 82, 49], .int .u8 40, .bool false, .bool true] 91 (0, 0)), (g4, .cells #[strV [52, 50, 71, 49], .int .u8 40, .bool false, .bool false] 91 (0, 0)), (g3, .cells #[strV [50, 50, 82, 49], .int .u8 20, .bool false, .bool true] 91 (0, 0)), (g2, .cells #[strV [50, 50, 71, 49], .int .u8 20, .bool false, .bool false] 91 (0, 0)), (g1, .cells #[.int .u8 0, .bool false, .bool false] 26 (0, 0))] (hW16) ?_
        refine lm (v := .pointer (some ⟨g5, 0, none⟩)) rfl rfl ?_
        refine lv (v := strV [52, 50, 82, 49]) rfl rfl (yb_cell (off := 0) rfl (by kernel_rfl) (.head _) Tryd.underlying9 rfl (by kernel_rfl)) ?_
        refine lm (v := strV l) rfl rfl ?_
        refine lp (v := .bool (decide ([52, 50, 82, 49] = l))) rfl rfl (run_bin rfl (vx := strV [52, 50, 82, 49]) (vy := strV l) (by kernel_rfl) (by kernel_rfl) fun w => bs_eql rfl w) ?_
        refine wpL_done (fun W17 hW17 => ?_)
        refine (show Code.wp _ _ _ _ _ from ?_)
        cases hd4 : (decide ([52, 50, 82, 49] = l)) with
        | false =>
          have h4 : ¬ ([52, 50, 82, 49] = l) := of_decide_eq_false hd4
          clear hd4
          refine wp_cond_false rfl ?_
          refine wp_skip ?_
          refine (show Code.wp _ _ _ _ _ from ?_)
          refine wp_region_L (W0 := w) [(g5, .cells #[strV [52, 50, 82, 49], .int .u8 40, .bool false, .bool true] 91 (0, 0)), (g4, .cells #[strV [52, 50, 71, 49], .int .u8 40, .bool false, .bool false] 91 (0, 0)), (g3, .cells #[strV [50, 50, 82, 49], .int .u8 20, .bool false, .bool true] 91 (0, 0)), (g2, .cells #[strV [50, 50, 71, 49], .int .u8 20, .bool false, .bool false] 91 (0, 0)), (g1, .cells #[.int .u8 0, .bool false, .bool false] 26 (0, 0))] (hW17) ?_
          refine lm (v := .int .i64 4) rfl rfl ?_
          refine lm (v := .int .i64 4) rfl rfl ?_
          refine wpL_done (fun W18 hW18 => ?_)
          refine (show Code.wp _ _ _ _ _ from ?_)
          refine wp_seq ?_
          refine wp_region_L (W0 := w) [(g5, .cells #[strV [52, 50, 82, 49], .int .u8 40, .bool false, .bool true] 91 (0, 0)), (g4, .cells #[strV [52, 50, 71, 49], .int .u8 40, .bool false, .bool false] 91 (0, 0)), (g3, .cells #[strV [50, 50, 82, 49], .int .u8 20, .bool false, .bool true] 91 (0, 0)), (g2, .cells #[strV [50, 50, 71, 49], .int .u8 20, .bool false, .bool false] 91 (0, 0)), (g1, .cells #[.int .u8 0, .bool false, .bool false] 26 (0, 0))] (hW18) ?_
          refine lm (v := .bool true) rfl rfl ?_
          refine wpL_done (fun W19 hW19 => ?_)
          refine (show Code.wp _ _ _ _ _ from ?_)
          refine wp_seq ?_
          refine wp_cond_true rfl ?_
          refine wp_skip ?_
          refine (show Code.wp _ _ _ _ _ from ?_)
          refine wp_seq ?_
          refine wp_block ?_
          refine wp_seq ?_
          refine wp_region_L (W0 := w) [(g5, .cells #[strV [52, 50, 82, 49], .int .u8 40, .bool false, .bool true] 91 (0, 0)), (g4, .cells #[strV [52, 50, 71, 49], .int .u8 40, .bool false, .bool false] 91 (0, 0)), (g3, .cells #[strV [50, 50, 82, 49], .int .u8 20, .bool false, .bool true] 91 (0, 0)), (g2, .cells #[strV [50, 50, 71, 49], .int .u8 20, .bool false, .bool false] 91 (0, 0)), (g1, .cells #[.int .u8 0, .bool false, .bool false] 26 (0, 0))] (hW19) ?_
          refine lm (v := .agg #[strV [52, 53, 71, 49], .int .u8 40, .bool true, .bool false]) rfl rfl ?_
          refine wpL_new (fun g => .pointer (some ⟨g, 0, none⟩)) (obi := .cells #[strV [], .int .u8 0, .bool false, .bool false] 91 (0, 0)) rfl rfl (fun _ => by kernel_rfl) (fun _ => by simp only [List.setIfInBounds_toArray, List.set_cons_succ, List.set_cons_zero] <;> rfl) fun g6 Bg6 Fg6 => ?_
          refine wpL_s [(g6, .cells #[strV [52, 53, 71, 49], .int .u8 40, .bool true, .bool false] 91 (0, 0)), (g5, .cells #[strV [52, 50, 82, 49], .int .u8 40, .bool false, .bool true] 91 (0, 0)), (g4, .cells #[strV [52, 50, 71, 49], .int .u8 40, .bool false, .bool false] 91 (0, 0)), (g3, .cells #[strV [50, 50, 82, 49], .int .u8 20, .bool false, .bool true] 91 (0, 0)), (g2, .cells #[strV [50, 50, 71, 49], .int .u8 20, .bool false, .bool false] 91 (0, 0)), (g1, .cells #[.int .u8 0, .bool false, .bool false] 26 (0, 0))] rfl rfl (st_row (off := 0) (v := .agg #[strV [52, 53, 71, 49], .int .u8 40, .bool true, .bool false]) rfl (by kernel_rfl) (by kernel_rfl) (.head _) Bg6 (by kernel_rfl) (by simp [Value.cells]) (by intro v hv; simp [Value.cells] at hv; first | (subst hv; rfl) | (rcases hv with rfl | rfl | rfl | rfl <;> rfl)) (by kernel_rfl) (List.forall_mem_cons.2 ⟨.inl rfl, (List.forall_mem_cons.2 ⟨.inr ⟨(.tail _ (.head _)), (Fg6 _ (.head _))⟩, (List.forall_mem_cons.2 ⟨.inr ⟨(.tail _ (.tail _ (.head _))), (Fg6 _ (.tail _ (.head _)))⟩, (List.forall_mem_cons.2 ⟨.inr ⟨(.tail _ (.tail _ (.tail _ (.head _)))), (Fg6 _ (.tail _ (.tail _ (.head _))))⟩, (List.forall_mem_cons.2 ⟨.inr ⟨(.tail _ (.tail _ (.tail _ (.tail _ (.head _))))), (Fg6 _ (.tail _ (.tail _ (.tail _ (.head _)))))⟩, (List.forall_mem_cons.2 ⟨.inr ⟨(.tail _ (.tail _ (.tail _ (.tail _ (.tail _ (.head _)))))), (Fg6 _ (.tail _ (.tail _ (.tail _ (.tail _ (.head _))))))⟩, (List.forall_mem_nil _)⟩)⟩)⟩)⟩)⟩)⟩)) ?_
          refine wpL_done (fun W20 hW20 => ?_)
          refine (show Code.wp _ _ _ _ _ from ?_)
          refine wp_seq ?_
          refine wp_region_L (W0 := w) [(g6, .cells #[strV [52, 53, 71, 49], .int .u8 40, .bool true, .bool false] 91 (0, 0)), (g5, .cells #[strV [52, 50, 82, 49], .int .u8 40, .bool false, .bool true] 91 (0, 0)), (g4, .cells #[strV [52, 50, 71, 49], .int .u8 40, .bool false, .bool false] 91 (0, 0)), (g3, .cells #[strV [50, 50, 82, 49], .int .u8 20, .bool false, .bool true] 91 (0, 0)), (g2, .cells #[strV [50, 50, 71, 49], .int .u8 20, .bool false, .bool false] 91 (0, 0)), (g1, .cells #[.int .u8 0, .bool false, .bool false] 26 (0, 0))] (hW20) ?_
          refine lm (v := .pointer (some ⟨g6, 0, none⟩)) rfl rfl ?_
          refine lv (v := strV [52, 53, 71, 49]) rfl rfl (yb_cell (off := 0) rfl (by kernel_rfl) (.head _) Tryd.underlying9 rfl (by kernel_rfl)) ?_
          refine lm (v := strV l) rfl rfl ?_
          refine lp (v := .bool (decide ([52, 53, 71, 49] = l))) rfl rfl (run_bin rfl (vx := strV [52, 53, 71, 49]) (vy := strV l) (by kernel_rfl) (by kernel_rfl) fun w => bs_eql rfl w) ?_
          refine wpL_done (fun W21 hW21 => ?_)
          refine (show Code.wp _ _ _ _ _ from ?_)
          cases hd5 : (decide ([52, 53, 71, 49] = l)) with
          | false =>
            have h5 : ¬ ([52, 53, 71, 49] = l) := of_decide_eq_false hd5
            clear hd5
            refine wp_cond_false rfl ?_
            refine wp_skip ?_
            refine (show Code.wp _ _ _ _ _ from ?_)
            refine wp_region_L (W0 := w) [(g6, .cells #[strV [52, 53, 71, 49], .int .u8 40, .bool true, .bool false] 91 (0, 0)), (g5, .cells #[strV [52, 50, 82, 49], .int .u8 40, .bool false, .bool true] 91 (0, 0)), (g4, .cells #[strV [52, 50, 71, 49], .int .u8 40, .bool false, .bool false] 91 (0, 0)), (g3, .cells #[strV [50, 50, 82, 49], .int .u8 20, .bool false, .bool true] 91 (0, 0)), (g2, .cells #[strV [50, 50, 71, 49], .int .u8 20, .bool false, .bool false] 91 (0, 0)), (g1, .cells #[.int .u8 0, .bool false, .bool false] 26 (0, 0))] (hW21) ?_
            refine lm (v := .int .i64 5) rfl rfl ?_
            refine lm (v := .int .i64 5) rfl rfl ?_
            refine wpL_done (fun W22 hW22 => ?_)
            refine (show Code.wp _ _ _ _ _ from ?_)
            refine wp_seq ?_
            refine wp_region_L (W0 := w) [(g6, .cells #[strV [52, 53, 71, 49], .int .u8 40, .bool true, .bool false] 91 (0, 0)), (g5, .cells #[strV [52, 50, 82, 49], .int .u8 40, .bool false, .bool true] 91 (0, 0)), (g4, .cells #[strV [52, 50, 71, 49], .int .u8 40, .bool false, .bool false] 91 (0, 0)), (g3, .cells #[strV [50, 50, 82, 49], .int .u8 20, .bool false, .bool true] 91 (0, 0)), (g2, .cells #[strV [50, 50, 71, 49], .int .u8 20, .bool false, .bool false] 91 (0, 0)), (g1, .cells #[.int .u8 0, .bool false, .bool false] 26 (0, 0))] (hW22) ?_
            refine lm (v := .bool true) rfl rfl ?_
            refine wpL_done (fun W23 hW23 => ?_)
            refine (show Code.wp _ _ _ _ _ from ?_)
            refine wp_seq ?_
            refine wp_cond_true rfl ?_
            refine wp_skip ?_
            refine (show Code.wp _ _ _ _ _ from ?_)
            refine wp_seq ?_
            refine wp_block ?_
            refine wp_seq ?_
            refine wp_region_L (W0 := w) [(g6, .cells #[strV [52, 53, 71, 49], .int .u8 40, .bool true, .bool false] 91 (0, 0)), (g5, .cells #[strV [52, 50, 82, 49], .int .u8 40, .bool false, .bool true] 91 (0, 0)), (g4, .cells #[strV [52, 50, 71, 49], .int .u8 40, .bool false, .bool false] 91 (0, 0)), (g3, .cells #[strV [50, 50, 82, 49], .int .u8 20, .bool false, .bool true] 91 (0, 0)), (g2, .cells #[strV [50, 50, 71, 49], .int .u8 20, .bool false, .bool false] 91 (0, 0)), (g1, .cells #[.int .u8 0, .bool false, .bool false] 26 (0, 0))] (hW23) ?_
            refine lm (v := .agg #[strV [52, 53, 82, 49], .int .u8 40, .bool true, .bool true]) rfl rfl ?_
            refine wpL_new (fun g => .pointer (some ⟨g, 0, none⟩)) (obi := .cells #[strV [], .int .u8 0, .bool false, .bool false] 91 (0, 0)) rfl rfl (fun _ => by kernel_rfl) (fun _ => by simp only [List.setIfInBounds_toArray, List.set_cons_succ, List.set_cons_zero] <;> rfl) fun g7 Bg7 Fg7 => ?_
            refine wpL_s [(g7, .cells #[strV [52, 53, 82, 49], .int .u8 40, .bool true, .bool true] 91 (0, 0)), (g6, .cells #[strV [52, 53, 71, 49], .int .u8 40, .bool true, .bool false] 91 (0, 0)), (g5, .cells #[strV [52, 50, 82, 49], .int .u8 40, .bool false, .bool true] 91 (0, 0)), (g4, .cells #[strV [52, 50, 71, 49], .int .u8 40, .bool false, .bool false] 91 (0, 0)), (g3, .cells #[strV [50, 50, 82, 49], .int .u8 20, .bool false, .bool true] 91 (0, 0)), (g2, .cells #[strV [50, 50, 71, 49], .int .u8 20, .bool false, .bool false] 91 (0, 0)), (g1, .cells #[.int .u8 0, .bool false, .bool false] 26 (0, 0))] rfl rfl (st_row (off := 0) (v := .agg #[strV [52, 53, 82, 49], .int .u8 40, .bool true, .bool true]) rfl (by kernel_rfl) (by kernel_rfl) (.head _) Bg7 (by kernel_rfl) (by simp [Value.cells]) (by intro v hv; simp [Value.cells] at hv; first | (subst hv; rfl) | (rcases hv with rfl | rfl | rfl | rfl <;> rfl)) (by kernel_rfl) (List.forall_mem_cons.2 ⟨.inl rfl, (List.forall_mem_cons.2 ⟨.inr ⟨(.tail _ (.head _)), (Fg7 _ (.head _))⟩, (List.forall_mem_cons.2 ⟨.inr ⟨(.tail _ (.tail _ (.head _))), (Fg7 _ (.tail _ (.head _)))⟩, (List.forall_mem_cons.2 ⟨.inr ⟨(.tail _ (.tail _ (.tail _ (.head _)))), (Fg7 _ (.tail _ (.tail _ (.head _))))⟩, (List.forall_mem_cons.2 ⟨.inr ⟨(.tail _ (.tail _ (.tail _ (.tail _ (.head _))))), (Fg7 _ (.tail _ (.tail _ (.tail _ (.head _)))))⟩, (List.forall_mem_cons.2 ⟨.inr ⟨(.tail _ (.tail _ (.tail _ (.tail _ (.tail _ (.head _)))))), (Fg7 _ (.tail _ (.tail _ (.tail _ (.tail _ (.head _))))))⟩, (List.forall_mem_cons.2 ⟨.inr ⟨(.tail _ (.tail _ (.tail _ (.tail _ (.tail _ (.tail _ (.head _))))))), (Fg7 _ (.tail _ (.tail _ (.tail _ (.tail _ (.tail _ (.head _)))))))⟩, (List.forall_mem_nil _)⟩)⟩)⟩)⟩)⟩)⟩)⟩)) ?_
            refine wpL_done (fun W24 hW24 => ?_)
            refine (show Code.wp _ _ _ _ _ from ?_)
            refine wp_seq ?_
            refine wp_region_L (W0 := w) [(g7, .cells #[strV [52, 53, 82, 49], .int .u8 40, .bool true, .bool true] 91 (0, 0)), (g6, .cells #[strV [52, 53, 71, 49], .int .u8 40, .bool true, .bool false] 91 (0, 0)), (g5, .cells #[strV [52, 50, 82, 49], .int .u8 40, .bool false, .bool true] 91 (0, 0)), (g4, .cells #[strV [52, 50, 71, 49], .int .u8 40, .bool false, .bool false] 91 (0, 0)), (g3, .cells #[strV [50, 50, 82, 49], .int .u8 20, .bool false, .bool true] 91 (0, 0)), (g2, .cells #[strV [50, 50, 71, 49], .int .u8 20, .bool false, .bool false] 91 (0, 0)), (g1, .cells #[.int .u8 0, .bool false, .bool false] 26 (0, 0))] (hW24) ?_
            refine lm (v := .pointer (some ⟨g7, 0, none⟩)) rfl rfl ?_
            refine lv (v := strV [52, 53, 82, 49]) rfl rfl (yb_cell (off := 0) rfl (by kernel_rfl) (.head _) Tryd.underlying9 rfl (by kernel_rfl)) ?_
            refine lm (v := strV l) rfl rfl ?_
            refine lp (v := .bool (decide ([52, 53, 82, 49] = l))) rfl rfl (run_bin rfl (vx := strV [52, 53, 82, 49]) (vy := strV l) (by kernel_rfl) (by kernel_rfl) fun w => bs_eql rfl w) ?_
            refine wpL_done (fun W25 hW25 => ?_)
            refine (show Code.wp _ _ _ _ _ from ?_)
            cases hd6 : (decide ([52, 53, 82, 49] = l)) with
            | false =>
              have h6 : ¬ ([52, 53, 82, 49] = l) := of_decide_eq_false hd6
              clear hd6
              refine wp_cond_false rfl ?_
              refine wp_skip ?_
              refine (show Code.wp _ _ _ _ _ from ?_)
              refine wp_region_L (W0 := w) [(g7, .cells #[strV [52, 53, 82, 49], .int .u8 40, .bool true, .bool true] 91 (0, 0)), (g6, .cells #[strV [52, 53, 71, 49], .int .u8 40, .bool true, .bool false] 91 (0, 0)), (g5, .cells #[strV [52, 50, 82, 49], .int .u8 40, .bool false, .bool true] 91 (0, 0)), (g4, .cells #[strV [52, 50, 71, 49], .int .u8 40, .bool false, .bool false] 91 (0, 0)), (g3, .cells #[strV [50, 50, 82, 49], .int .u8 20, .bool false, .bool true] 91 (0, 0)), (g2, .cells #[strV [50, 50, 71, 49], .int .u8 20, .bool false, .bool false] 91 (0, 0)), (g1, .cells #[.int .u8 0, .bool false, .bool false] 26 (0, 0))] (hW25) ?_
              refine lm (v := .int .i64 6) rfl rfl ?_
              refine lm (v := .int .i64 6) rfl rfl ?_
              refine wpL_done (fun W26 hW26 => ?_)
              refine (show Code.wp _ _ _ _ _ from ?_)
              refine wp_seq ?_
              refine wp_region_L (W0 := w) [(g7, .cells #[strV [52, 53, 82, 49], .int .u8 40, .bool true, .bool true] 91 (0, 0)), (g6, .cells #[strV [52, 53, 71, 49], .int .u8 40, .bool true, .bool false] 91 (0, 0)), (g5, .cells #[strV [52, 50, 82, 49], .int .u8 40, .bool false, .bool true] 91 (0, 0)), (g4, .cells #[strV [52, 50, 71, 49], .int .u8 40, .bool false, .bool false] 91 (0, 0)), (g3, .cells #[strV [50, 50, 82, 49], .int .u8 20, .bool false, .bool true] 91 (0, 0)), (g2, .cells #[strV [50, 50, 71, 49], .int .u8 20, .bool false, .bool false] 91 (0, 0)), (g1, .cells #[.int .u8 0, .bool false, .bool false] 26 (0, 0))] (hW26) ?_
              refine lm (v := .bool false) rfl rfl ?_
              refine wpL_done (fun W27 hW27 => ?_)
              refine (show Code.wp _ _ _ _ _ from ?_)
              refine wp_seq ?_
              refine wp_cond_false rfl ?_
              refine wp_exit ?_
              refine (show Code.wp _ _ _ _ _ from ?_)
              refine wp_seq ?_
              refine wp_region_L (W0 := w) [(g7, .cells #[strV [52, 53, 82, 49], .int .u8 40, .bool true, .bool true] 91 (0, 0)), (g6, .cells #[strV [52, 53, 71, 49], .int .u8 40, .bool true, .bool false] 91 (0, 0)), (g5, .cells #[strV [52, 50, 82, 49], .int .u8 40, .bool false, .bool true] 91 (0, 0)), (g4, .cells #[strV [52, 50, 71, 49], .int .u8 40, .bool false, .bool false] 91 (0, 0)), (g3, .cells #[strV [50, 50, 82, 49], .int .u8 20, .bool false, .bool true] 91 (0, 0)), (g2, .cells #[strV [50, 50, 71, 49], .int .u8 20, .bool false, .bool false] 91 (0, 0)), (g1, .cells #[.int .u8 0, .bool false, .bool false] 26 (0, 0))] (hW27) ?_
              refine lm (v := .agg #[.int .u8 0, .bool false, .bool false]) rfl rfl ?_
              refine wpL_s [(g7, .cells #[strV [52, 53, 82, 49], .int .u8 40, .bool true, .bool true] 91 (0, 0)), (g6, .cells #[strV [52, 53, 71, 49], .int .u8 40, .bool true, .bool false] 91 (0, 0)), (g5, .cells #[strV [52, 50, 82, 49], .int .u8 40, .bool false, .bool true] 91 (0, 0)), (g4, .cells #[strV [52, 50, 71, 49], .int .u8 40, .bool false, .bool false] 91 (0, 0)), (g3, .cells #[strV [50, 50, 82, 49], .int .u8 20, .bool false, .bool true] 91 (0, 0)), (g2, .cells #[strV [50, 50, 71, 49], .int .u8 20, .bool false, .bool false] 91 (0, 0)), (g1, .cells #[.int .u8 0, .bool false, .bool false] 26 (0, 0))] rfl rfl (st_row (off := 0) (v := .agg #[.int .u8 0, .bool false, .bool false]) rfl (by kernel_rfl) (by kernel_rfl) (.tail _ (.tail _ (.tail _ (.tail _ (.tail _ (.tail _ (.head _))))))) Bg1 (by kernel_rfl) (by simp [Value.cells]) (by intro v hv; simp [Value.cells] at hv; first | (subst hv; rfl) | (rcases hv with rfl | rfl | rfl <;> rfl)) (by kernel_rfl) (List.forall_mem_cons.2 ⟨.inr ⟨(.head _), (Ne.symm (Fg7 _ (.tail _ (.tail _ (.tail _ (.tail _ (.tail _ (.head _))))))))⟩, (List.forall_mem_cons.2 ⟨.inr ⟨(.tail _ (.head _)), (Ne.symm (Fg6 _ (.tail _ (.tail _ (.tail _ (.tail _ (.head _)))))))⟩, (List.forall_mem_cons.2 ⟨.inr ⟨(.tail _ (.tail _ (.head _))), (Ne.symm (Fg5 _ (.tail _ (.tail _ (.tail _ (.head _))))))⟩, (List.forall_mem_cons.2 ⟨.inr ⟨(.tail _ (.tail _ (.tail _ (.head _)))), (Ne.symm (Fg4 _ (.tail _ (.tail _ (.head _)))))⟩, (List.forall_mem_cons.2 ⟨.inr ⟨(.tail _ (.tail _ (.tail _ (.tail _ (.head _))))), (Ne.symm (Fg3 _ (.tail _ (.head _))))⟩, (List.forall_mem_cons.2 ⟨.inr ⟨(.tail _ (.tail _ (.tail _ (.tail _ (.tail _ (.head _)))))), (Ne.symm (Fg2 _ (.head _)))⟩, (List.forall_mem_cons.2 ⟨.inl rfl, (List.forall_mem_nil _)⟩)⟩)⟩)⟩)⟩)⟩)⟩)) ?_
              refine lm (v := .int .i64 32) rfl rfl ?_
              refine wpL_done (fun W28 hW28 => ?_)
              refine (show Code.wp _ _ _ _ _ from ?_)
              refine wp_ret ?_
              try simp only [inBlock_ret, then_ret]
              refine bodyPost_ret (v := .tuple #[.agg #[.int .u8 0, .bool false, .bool false], .int .i64 32]) ?_ rfl ?_
              · exact (res_cell_tmp (p := 2) (q := 3) rfl rfl (hW28.2 _ (.tail _ (.tail _ (.tail _ (.tail _ (.tail _ (.tail _ (.head _)))))))) Tryd.underlying26 rfl (by kernel_rfl))
              · exact ⟨(by unfold sizeV; rw [if_neg h1, if_neg h2, if_neg h3, if_neg h4, if_neg h5, if_neg h6]), hW28.1⟩
            | true =>
              have h6 : [52, 53, 82, 49] = l := of_decide_eq_true hd6
              clear hd6
              refine wp_cond_true rfl ?_
              refine wp_seq ?_
              refine wp_region_L (W0 := w) [(g7, .cells #[strV [52, 53, 82, 49], .int .u8 40, .bool true, .bool true] 91 (0, 0)), (g6, .cells #[strV [52, 53, 71, 49], .int .u8 40, .bool true, .bool false] 91 (0, 0)), (g5, .cells #[strV [52, 50, 82, 49], .int .u8 40, .bool false, .bool true] 91 (0, 0)), (g4, .cells #[strV [52, 50, 71, 49], .int .u8 40, .bool false, .bool false] 91 (0, 0)), (g3, .cells #[strV [50, 50, 82, 49], .int .u8 20, .bool false, .bool true] 91 (0, 0)), (g2, .cells #[strV [50, 50, 71, 49], .int .u8 20, .bool false, .bool false] 91 (0, 0)), (g1, .cells #[.int .u8 0, .bool false, .bool false] 26 (0, 0))] (hW25) ?_
              refine lm (v := .pointer (some ⟨g7, 1, none⟩)) rfl rfl ?_
              refine lv (v := .agg #[.int .u8 40, .bool true, .bool true]) rfl rfl (yb_load (n := 3) (off := 1) rfl (by kernel_rfl) (.head _) Tryd.underlying26 rfl (by kernel_rfl) (by simp) (by kernel_rfl)) ?_
              refine wpL_s [(g7, .cells #[strV [52, 53, 82, 49], .int .u8 40, .bool true, .bool true] 91 (0, 0)), (g6, .cells #[strV [52, 53, 71, 49], .int .u8 40, .bool true, .bool false] 91 (0, 0)), (g5, .cells #[strV [52, 50, 82, 49], .int .u8 40, .bool false, .bool true] 91 (0, 0)), (g4, .cells #[strV [52, 50, 71, 49], .int .u8 40, .bool false, .bool false] 91 (0, 0)), (g3, .cells #[strV [50, 50, 82, 49], .int .u8 20, .bool false, .bool true] 91 (0, 0)), (g2, .cells #[strV [50, 50, 71, 49], .int .u8 20, .bool false, .bool false] 91 (0, 0)), (g1, .cells #[.int .u8 40, .bool true, .bool true] 26 (0, 0))] rfl rfl (st_row (off := 0) (v := .agg #[.int .u8 40, .bool true, .bool true]) rfl (by kernel_rfl) (by kernel_rfl) (.tail _ (.tail _ (.tail _ (.tail _ (.tail _ (.tail _ (.head _))))))) Bg1 (by kernel_rfl) (by simp [Value.cells]) (by intro v hv; simp [Value.cells] at hv; first | (subst hv; rfl) | (rcases hv with rfl | rfl | rfl <;> rfl)) (by kernel_rfl) (List.forall_mem_cons.2 ⟨.inr ⟨(.head _), (Ne.symm (Fg7 _ (.tail _ (.tail _ (.tail _ (.tail _ (.tail _ (.head _))))))))⟩, (List.forall_mem_cons.2 ⟨.inr ⟨(.tail _ (.head _)), (Ne.symm (Fg6 _ (.tail _ (.tail _ (.tail _ (.tail _ (.head _)))))))⟩, (List.forall_mem_cons.2 ⟨.inr ⟨(.tail _ (.tail _ (.head _))), (Ne.symm (Fg5 _ (.tail _ (.tail _ (.tail _ (.head _))))))⟩, (List.forall_mem_cons.2 ⟨.inr ⟨(.tail _ (.tail _ (.tail _ (.head _)))), (Ne.symm (Fg4 _ (.tail _ (.tail _ (.head _)))))⟩, (List.forall_mem_cons.2 ⟨.inr ⟨(.tail _ (.tail _ (.tail _ (.tail _ (.head _))))), (Ne.symm (Fg3 _ (.tail _ (.head _))))⟩, (List.forall_mem_cons.2 ⟨.inr ⟨(.tail _ (.tail _ (.tail _ (.tail _ (.tail _ (.head _)))))), (Ne.symm (Fg2 _ (.head _)))⟩, (List.forall_mem_cons.2 ⟨.inl rfl, (List.forall_mem_nil _)⟩)⟩)⟩)⟩)⟩)⟩)⟩)) ?_
              refine lm (v := .int .i64 0) rfl rfl ?_
              refine wpL_done (fun W29 hW29 => ?_)
              refine (show Code.wp _ _ _ _ _ from ?_)
              refine wp_ret ?_
              try simp only [inBlock_ret, then_ret]
              refine bodyPost_ret (v := .tuple #[.agg #[.int .u8 40, .bool true, .bool true], .int .i64 0]) ?_ rfl ?_
              · exact (res_cell_tmp (p := 2) (q := 3) rfl rfl (hW29.2 _ (.tail _ (.tail _ (.tail _ (.tail _ (.tail _ (.tail _ (.head _)))))))) Tryd.underlying26 rfl (by kernel_rfl))
              · exact ⟨(by unfold sizeV; rw [if_neg h1, if_neg h2, if_neg h3, if_neg h4, if_neg h5, if_pos h6]), hW29.1⟩
          | true =>
            have h5 : [52, 53, 71, 49] = l := of_decide_eq_true hd5
            clear hd5
            refine wp_cond_true rfl ?_
            refine wp_seq ?_
            refine wp_region_L (W0 := w) [(g6, .cells #[strV [52, 53, 71, 49], .int .u8 40, .bool true, .bool false] 91 (0, 0)), (g5, .cells #[strV [52, 50, 82, 49], .int .u8 40, .bool false, .bool true] 91 (0, 0)), (g4, .cells #[strV [52, 50, 71, 49], .int .u8 40, .bool false, .bool false] 91 (0, 0)), (g3, .cells #[strV [50, 50, 82, 49], .int .u8 20, .bool false, .bool true] 91 (0, 0)), (g2, .cells #[strV [50, 50, 71, 49], .int .u8 20, .bool false, .bool false] 91 (0, 0)), (g1, .cells #[.int .u8 0, .bool false, .bool false] 26 (0, 0))] (hW21) ?_
            refine lm (v := .pointer (some ⟨g6, 1, none⟩)) rfl rfl ?_
            refine lv (v := .agg #[.int .u8 40, .bool true, .bool false]) rfl rfl (yb_load (n := 3) (off := 1) rfl (by kernel_rfl) (.head _) Tryd.underlying26 rfl (by kernel_rfl) (by simp) (by kernel_rfl)) ?_
            refine wpL_s [(g6, .cells #[strV [52, 53, 71, 49], .int .u8 40, .bool true, .bool false] 91 (0, 0)), (g5, .cells #[strV [52, 50, 82, 49], .int .u8 40, .bool false, .bool true] 91 (0, 0)), (g4, .cells #[strV [52, 50, 71, 49], .int .u8 40, .bool false, .bool false] 91 (0, 0)), (g3, .cells #[strV [50, 50, 82, 49], .int .u8 20, .bool false, .bool true] 91 (0, 0)), (g2, .cells #[strV [50, 50, 71, 49], .int .u8 20, .bool false, .bool false] 91 (0, 0)), (g1, .cells #[.int .u8 40, .bool true, .bool false] 26 (0, 0))] rfl rfl (st_row (off := 0) (v := .agg #[.int .u8 40, .bool true, .bool false]) rfl (by kernel_rfl) (by kernel_rfl) (.tail _ (.tail _ (.tail _ (.tail _ (.tail _ (.head _)))))) Bg1 (by kernel_rfl) (by simp [Value.cells]) (by intro v hv; simp [Value.cells] at hv; first | (subst hv; rfl) | (rcases hv with rfl | rfl | rfl <;> rfl)) (by kernel_rfl) (List.forall_mem_cons.2 ⟨.inr ⟨(.head _), (Ne.symm (Fg6 _ (.tail _ (.tail _ (.tail _ (.tail _ (.head _)))))))⟩, (List.forall_mem_cons.2 ⟨.inr ⟨(.tail _ (.head _)), (Ne.symm (Fg5 _ (.tail _ (.tail _ (.tail _ (.head _))))))⟩, (List.forall_mem_cons.2 ⟨.inr ⟨(.tail _ (.tail _ (.head _))), (Ne.symm (Fg4 _ (.tail _ (.tail _ (.head _)))))⟩, (List.forall_mem_cons.2 ⟨.inr ⟨(.tail _ (.tail _ (.tail _ (.head _)))), (Ne.symm (Fg3 _ (.tail _ (.head _))))⟩, (List.forall_mem_cons.2 ⟨.inr ⟨(.tail _ (.tail _ (.tail _ (.tail _ (.head _))))), (Ne.symm (Fg2 _ (.head _)))⟩, (List.forall_mem_cons.2 ⟨.inl rfl, (List.forall_mem_nil _)⟩)⟩)⟩)⟩)⟩)⟩)) ?_
            refine lm (v := .int .i64 0) rfl rfl ?_
            refine wpL_done (fun W30 hW30 => ?_)
            refine (show Code.wp _ _ _ _ _ from ?_)
            refine wp_ret ?_
            try simp only [inBlock_ret, then_ret]
            refine bodyPost_ret (v := .tuple #[.agg #[.int .u8 40, .bool true, .bool false], .int .i64 0]) ?_ rfl ?_
            · exact (res_cell_tmp (p := 2) (q := 3) rfl rfl (hW30.2 _ (.tail _ (.tail _ (.tail _ (.tail _ (.tail _ (.head _))))))) Tryd.underlying26 rfl (by kernel_rfl))
            · exact ⟨(by unfold sizeV; rw [if_neg h1, if_neg h2, if_neg h3, if_neg h4, if_pos h5]), hW30.1⟩
        | true =>
          have h4 : [52, 50, 82, 49] = l := of_decide_eq_true hd4
          clear hd4
          refine wp_cond_true rfl ?_
          refine wp_seq ?_
          refine wp_region_L (W0 := w) [(g5, .cells #[strV [52, 50, 82, 49], .int .u8 40, .bool false, .bool true] 91 (0, 0)), (g4, .cells #[strV [52, 50, 71, 49], .int .u8 40, .bool false, .bool false] 91 (0, 0)), (g3, .cells #[strV [50, 50, 82, 49], .int .u8 20, .bool false, .bool true] 91 (0, 0)), (g2, .cells #[strV [50, 50, 71, 49], .int .u8 20, .bool false, .bool false] 91 (0, 0)), (g1, .cells #[.int .u8 0, .bool false, .bool false] 26 (0, 0))] (hW17) ?_
          refine lm (v := .pointer (some ⟨g5, 1, none⟩)) rfl rfl ?_
          refine lv (v := .agg #[.int .u8 40, .bool false, .bool true]) rfl rfl (yb_load (n := 3) (off := 1) rfl (by kernel_rfl) (.head _) Tryd.underlying26 rfl (by kernel_rfl) (by simp) (by kernel_rfl)) ?_
          refine wpL_s [(g5, .cells #[strV [52, 50, 82, 49], .int .u8 40, .bool false, .bool true] 91 (0, 0)), (g4, .cells #[strV [52, 50, 71, 49], .int .u8 40, .bool false, .bool false] 91 (0, 0)), (g3, .cells #[strV [50, 50, 82, 49], .int .u8 20, .bool false, .bool true] 91 (0, 0)), (g2, .cells #[strV [50, 50, 71, 49], .int .u8 20, .bool false, .bool false] 91 (0, 0)), (g1, .cells #[.int .u8 40, .bool false, .bool true] 26 (0, 0))] rfl rfl (st_row (off := 0) (v := .agg #[.int .u8 40, .bool false, .bool true]) rfl (by kernel_rfl) (by kernel_rfl) (.tail _ (.tail _ (.tail _ (.tail _ (.head _))))) Bg1 (by kernel_rfl) (by simp [Value.cells]) (by intro v hv; simp [Value.cells] at hv; first | (subst hv; rfl) | (rcases hv with rfl | rfl | rfl <;> rfl)) (by kernel_rfl) (List.forall_mem_cons.2 ⟨.inr ⟨(.head _), (Ne.symm (Fg5 _ (.tail _ (.tail _ (.tail _ (.head _))))))⟩, (List.forall_mem_cons.2 ⟨.inr ⟨(.tail _ (.head _)), (Ne.symm (Fg4 _ (.tail _ (.tail _ (.head _)))))⟩, (List.forall_mem_cons.2 ⟨.inr ⟨(.tail _ (.tail _ (.head _))), (Ne.symm (Fg3 _ (.tail _ (.head _))))⟩, (List.forall_mem_cons.2 ⟨.inr ⟨(.tail _ (.tail _ (.tail _ (.head _)))), (Ne.symm (Fg2 _ (.head _)))⟩, (List.forall_mem_cons.2 ⟨.inl rfl, (List.forall_mem_nil _)⟩)⟩)⟩)⟩)⟩)) ?_
          refine lm (v := .int .i64 0) rfl rfl ?_
          refine wpL_done (fun W31 hW31 => ?_)
          refine (show Code.wp _ _ _ _ _ from ?_)
          refine wp_ret ?_
          try simp only [inBlock_ret, then_ret]
          refine bodyPost_ret (v := .tuple #[.agg #[.int .u8 40, .bool false, .bool true], .int .i64 0]) ?_ rfl ?_
          · exact (res_cell_tmp (p := 2) (q := 3) rfl rfl (hW31.2 _ (.tail _ (.tail _ (.tail _ (.tail _ (.head _)))))) Tryd.underlying26 rfl (by kernel_rfl))
          · exact ⟨(by unfold sizeV; rw [if_neg h1, if_neg h2, if_neg h3, if_pos h4]), hW31.1⟩
      | true =>
        have h3 : [52, 50, 71, 49] = l := of_decide_eq_true hd3
        clear hd3
        refine wp_cond_true rfl ?_
        refine wp_seq ?_
        refine wp_region_L (W0 := w) [(g4, .cells #[strV [52, 50, 71, 49], .int .u8 40, .bool false, .bool false] 91 (0, 0)), (g3, .cells #[strV [50, 50, 82, 49], .int .u8 20, .bool false, .bool true] 91 (0, 0)), (g2, .cells #[strV [50, 50, 71, 49], .int .u8 20, .bool false, .bool false] 91 (0, 0)), (g1, .cells #[.int .u8 0, .bool false, .bool false] 26 (0, 0))] (hW13) ?_
        refine lm (v := .pointer (some ⟨g4, 1, none⟩)) rfl rfl ?_
        refine lv (v := .agg #[.int .u8 40, .bool false, .bool false]) rfl rfl (yb_load (n := 3) (off := 1) rfl (by kernel_rfl) (.head _) Tryd.underlying26 rfl (by kernel_rfl) (by simp) (by kernel_rfl)) ?_
        refine wpL_s [(g4, .cells #[strV [52, 50, 71, 49], .int .u8 40, .bool false, .bool false] 91 (0, 0)), (g3, .cells #[strV [50, 50, 82, 49], .int .u8 20, .bool false, .bool true] 91 (0, 0)), (g2, .cells #[strV [50, 50, 71, 49], .int .u8 20, .bool false, .bool false] 91 (0, 0)), (g1, .cells #[.int .u8 40, .bool false, .bool false] 26 (0, 0))] rfl rfl (st_row (off := 0) (v := .agg #[.int .u8 40, .bool false, .bool false]) rfl (by kernel_rfl) (by kernel_rfl) (.tail _ (.tail _ (.tail _ (.head _)))) Bg1 (by kernel_rfl) (by simp [Value.cells]) (by intro v hv; simp [Value.cells] at hv; first | (subst hv; rfl) | (rcases hv with rfl | rfl | rfl <;> rfl)) (by kernel_rfl) (List.forall_mem_cons.2 ⟨.inr ⟨(.head _), (Ne.symm (Fg4 _ (.tail _ (.tail _ (.head _)))))⟩, (List.forall_mem_cons.2 ⟨.inr ⟨(.tail _ (.head _)), (Ne.symm (Fg3 _ (.tail _ (.head _))))⟩, (List.forall_mem_cons.2 ⟨.inr ⟨(.tail _ (.tail _ (.head _))), (Ne.symm (Fg2 _ (.head _)))⟩, (List.forall_mem_cons.2 ⟨.inl rfl, (List.forall_mem_nil _)⟩)⟩)⟩)⟩)) ?_
        refine lm (v := .int .i64 0) rfl rfl ?_
        refine wpL_done (fun W32 hW32 => ?_)
        refine (show Code.wp _ _ _ _ _ from ?_)
        refine wp_ret ?_
        try simp only [inBlock_ret, then_ret]
        refine bodyPost_ret (v := .tuple #[.agg #[.int .u8 40, .bool false, .bool false], .int .i64 0]) ?_ rfl ?_
        · exact (res_cell_tmp (p := 2) (q := 3) rfl rfl (hW32.2 _ (.tail _ (.tail _ (.tail _ (.head _))))) Tryd.underlying26 rfl (by kernel_rfl))
        · exact ⟨(by unfold sizeV; rw [if_neg h1, if_neg h2, if_pos h3]), hW32.1⟩
    | true =>
      have h2 : [50, 50, 82, 49] = l := of_decide_eq_true hd2
      clear hd2
      refine wp_cond_true rfl ?_
      refine wp_seq ?_
      refine wp_region_L (W0 := w) [(g3, .cells #[strV [50, 50, 82, 49], .int .u8 20, .bool false, .bool true] 91 (0, 0)), (g2, .cells #[strV [50, 50, 71, 49], .int .u8 20, .bool false, .bool false] 91 (0, 0)), (g1, .cells #[.int .u8 0, .bool false, .bool false] 26 (0, 0))] (hW9) ?_
      refine lm (v := .pointer (some ⟨g3, 1, none⟩)) rfl rfl ?_
      refine lv (v := .agg #[.int .u8 20, .bool false, .bool true]) rfl rfl (yb_load (n := 3) (off := 1) rfl (by kernel_rfl) (.head _) Tryd.underlying26 rfl (by kernel_rfl) (by simp) (by kernel_rfl)) ?_
      refine wpL_s [(g3, .cells #[strV [50, 50, 82, 49], .int .u8 20, .bool false, .bool true] 91 (0, 0)), (g2, .cells #[strV [50, 50, 71, 49], .int .u8 20, .bool false, .bool false] 91 (0, 0)), (g1, .cells #[.int .u8 20, .bool false, .bool true] 26 (0, 0))] rfl rfl (st_row (off := 0) (v := .agg #[.int .u8 20, .bool false, .bool true]) rfl (by kernel_rfl) (by kernel_rfl) (.tail _ (.tail _ (.head _))) Bg1 (by kernel_rfl) (by simp [Value.cells]) (by intro v hv; simp [Value.cells] at hv; first | (subst hv; rfl) | (rcases hv with rfl | rfl | rfl <;> rfl)) (by kernel_rfl) (List.forall_mem_cons.2 ⟨.inr ⟨(.head _), (Ne.symm (Fg3 _ (.tail _ (.head _))))⟩, (List.forall_mem_cons.2 ⟨.inr ⟨(.tail _ (.head _)), (Ne.symm (Fg2 _ (.head _)))⟩, (List.forall_mem_cons.2 ⟨.inl rfl, (List.forall_mem_nil _)⟩)⟩)⟩)) ?_
      refine lm (v := .int .i64 0) rfl rfl ?_
      refine wpL_done (fun W33 hW33 => ?_)
      refine (show Code.wp _ _ _ _ _ from ?_)
      refine wp_ret ?_
      try simp only [inBlock_ret, then_ret]
      refine bodyPost_ret (v := .tuple #[.agg #[.int .u8 20, .bool false, .bool true], .int .i64 0]) ?_ rfl ?_
      · exact (res_cell_tmp (p := 2) (q := 3) rfl rfl (hW33.2 _ (.tail _ (.tail _ (.head _)))) Tryd.underlying26 rfl (by kernel_rfl))
      · exact ⟨(by unfold sizeV; rw [if_neg h1, if_pos h2]), hW33.1⟩
  | true =>
    have h1 : [50, 50, 71, 49] = l := of_decide_eq_true hd1
    clear hd1
    refine wp_cond_true rfl ?_
    refine wp_seq ?_
    refine wp_region_L (W0 := w) [(g2, .cells #[strV [50, 50, 71, 49], .int .u8 20, .bool false, .bool false] 91 (0, 0)), (g1, .cells #[.int .u8 0, .bool false, .bool false] 26 (0, 0))] (hW5) ?_
    refine lm (v := .pointer (some ⟨g2, 1, none⟩)) rfl rfl ?_
    refine lv (v := .agg #[.int .u8 20, .bool false, .bool false]) rfl rfl (yb_load (n := 3) (off := 1) rfl (by kernel_rfl) (.head _) Tryd.underlying26 rfl (by kernel_rfl) (by simp) (by kernel_rfl)) ?_
    refine wpL_s [(g2, .cells #[strV [50, 50, 71, 49], .int .u8 20, .bool false, .bool false] 91 (0, 0)), (g1, .cells #[.int .u8 20, .bool false, .bool false] 26 (0, 0))] rfl rfl (st_row (off := 0) (v := .agg #[.int .u8 20, .bool false, .bool false]) rfl (by kernel_rfl) (by kernel_rfl) (.tail _ (.head _)) Bg1 (by kernel_rfl) (by simp [Value.cells]) (by intro v hv; simp [Value.cells] at hv; first | (subst hv; rfl) | (rcases hv with rfl | rfl | rfl <;> rfl)) (by kernel_rfl) (List.forall_mem_cons.2 ⟨.inr ⟨(.head _), (Ne.symm (Fg2 _ (.head _)))⟩, (List.forall_mem_cons.2 ⟨.inl rfl, (List.forall_mem_nil _)⟩)⟩)) ?_
    refine lm (v := .int .i64 0) rfl rfl ?_
    refine wpL_done (fun W34 hW34 => ?_)
    refine (show Code.wp _ _ _ _ _ from ?_)
    refine wp_ret ?_
    try simp only [inBlock_ret, then_ret]
    refine bodyPost_ret (v := .tuple #[.agg #[.int .u8 20, .bool false, .bool false], .int .i64 0]) ?_ rfl ?_
    · exact (res_cell_tmp (p := 2) (q := 3) rfl rfl (hW34.2 _ (.tail _ (.head _))) Tryd.underlying26 rfl (by kernel_rfl))
    · exact ⟨(by unfold sizeV; rw [if_pos h1]), hW34.1⟩
set_option maxRecDepth 100000 in
set_option maxHeartbeats 4000000 in
theorem Code_any (n : Nat) (h r : Bool) (w : World) (hE : Env w) : Calls Tryd.prog 25 #[.agg #[.int .u8 ((n : Nat) : Int), .bool h, .bool r]] w fun e w' => e = .returned (codeV n h r) ∧ Below w.heap.size w w' := by
  have HE := Lib.hid hE
  clear hE
  go_enter Tryd.func25, Tryd.ntmps25
  refine wp_seq ?_
  refine wp_region_L (W0 := w) [] (KS.start w) ?_
  refine wpL_new (fun g => .pointer (some ⟨g, 0, none⟩)) (obi := .cells #[.int .u8 ((n : Nat) : Int), .bool h, .bool r] 26 (0, 0)) rfl rfl (fun _ => by kernel_rfl) (fun _ => by simp only [List.setIfInBounds_toArray, List.set_cons_succ, List.set_cons_zero] <;> rfl) fun g1 Bg1 Fg1 => ?_
  refine lm (v := strV []) rfl rfl ?_
  refine lm (v := .int .i64 0) rfl rfl ?_
  refine wpL_done (fun W1 hW1 => ?_)
  refine (show Code.wp _ _ _ _ _ from ?_)
  refine wp_seq ?_
  refine wp_seq ?_
  refine wp_region_L (W0 := w) [(g1, .cells #[.int .u8 ((n : Nat) : Int), .bool h, .bool r] 26 (0, 0))] (hW1) ?_
  refine lv (v := .agg #[strV [50, 50, 71, 49], .int .u8 20, .bool false, .bool false, strV [50, 50, 82, 49], .int .u8 20, .bool false, .bool true, strV [52, 50, 71, 49], .int .u8 40, .bool false, .bool false, strV [52, 50, 82, 49], .int .u8 40, .bool false, .bool true, strV [52, 53, 71, 49], .int .u8 40, .bool true, .bool false, strV [52, 53, 82, 49], .int .u8 40, .bool true, .bool true]) rfl rfl (yb_olds (cs := kindsL) rfl (by kernel_rfl) HE.out.cells HE.out.lt Tryd.underlying92 rfl (by kernel_rfl)) ?_
  refine lm (v := .int .i64 0) rfl rfl ?_
  refine wpL_done (fun W2 hW2 => ?_)
  refine (show Code.wp _ _ _ _ _ from ?_)
  refine wp_block ?_
  refine wp_loop_rounds 7 ?_
  refine (show Code.wp _ _ _ _ _ from ?_)
  refine wp_seq ?_
  refine wp_region_L (W0 := w) [(g1, .cells #[.int .u8 ((n : Nat) : Int), .bool h, .bool r] 26 (0, 0))] (hW2) ?_
  refine lm (v := .bool true) rfl rfl ?_
  refine wpL_done (fun W3 hW3 => ?_)
  refine (show Code.wp _ _ _ _ _ from ?_)
  refine wp_seq ?_
  refine wp_cond_true rfl ?_
  refine wp_skip ?_
  refine (show Code.wp _ _ _ _ _ from ?_)
  refine wp_seq ?_
  refine wp_block ?_
  refine wp_seq ?_
  refine wp_region_L (W0 := w) [(g1, .cells #[.int .u8 ((n : Nat) : Int), .bool h, .bool r] 26 (0, 0))] (hW3) ?_
  refine lm (v := .agg #[strV [50, 50, 71, 49], .int .u8 20, .bool false, .bool false]) rfl rfl ?_
  refine wpL_new (fun g => .pointer (some ⟨g, 0, none⟩)) (obi := .cells #[strV [], .int .u8 0, .bool false, .bool false] 91 (0, 0)) rfl rfl (fun _ => by kernel_rfl) (fun _ => by simp only [List.setIfInBounds_toArray, List.set_cons_succ, List.set_cons_zero] <;> rfl) fun g2 Bg2 Fg2 => ?_
  refine wpL_s [(g2, .cells #[strV [50, 50, 71, 49], .int .u8 20, .bool false, .bool false] 91 (0, 0)), (g1, .cells #[.int .u8 ((n : Nat) : Int), .bool h, .bool r] 26 (0, 0))] rfl rfl (st_row (off := 0) (v := .agg #[strV [50, 50, 71, 49], .int .u8 20, .bool false, .bool false]) rfl (by kernel_rfl) (by kernel_rfl) (.head _) Bg2 (by kernel_rfl) (by simp [Value.cells]) (by intro v hv; simp [Value.cells] at hv; first | (subst hv; rfl) | (rcases hv with rfl | rfl | rfl | rfl <;> rfl)) (by kernel_rfl) (List.forall_mem_cons.2 ⟨.inl rfl, (List.forall_mem_cons.2 ⟨.inr ⟨(.tail _ (.head _)), (Fg2 _ (.head _))⟩, (List.forall_mem_nil _)⟩)⟩)) ?_
  refine wpL_done (fun W4 hW4 => ?_)
  refine (show Code.wp _ _ _ _ _ from ?_)
  refine wp_seq ?_
  refine wp_region_L (W0 := w) [(g2, .cells #[strV [50, 50, 71, 49], .int .u8 20, .bool false, .bool false] 91 (0, 0)), (g1, .cells #[.int .u8 ((n : Nat) : Int), .bool h, .bool r] 26 (0, 0))] (hW4) ?_
  refine lm (v := .pointer (some ⟨g2, 1, none⟩)) rfl rfl ?_
  refine lv (v := .agg #[.int .u8 20, .bool false, .bool false]) rfl rfl (yb_load (n := 3) (off := 1) rfl (by kernel_rfl) (.head _) Tryd.underlying26 rfl (by kernel_rfl) (by simp) (by kernel_rfl)) ?_
  refine lv (v := .agg #[.int .u8 ((n : Nat) : Int), .bool h, .bool r]) rfl rfl (yb_load (n := 3) (off := 0) rfl (by kernel_rfl) (.tail _ (.head _)) Tryd.underlying26 rfl (by kernel_rfl) (by simp) (by kernel_rfl)) ?_
  refine lp (v := .bool (decide (20 = n ∧ false = h ∧ false = r))) rfl rfl (run_bin rfl (vx := .agg #[.int .u8 ((20 : Nat) : Int), .bool false, .bool false]) (vy := .agg #[.int .u8 ((n : Nat) : Int), .bool h, .bool r]) (by kernel_rfl) (by kernel_rfl) fun w => eq_kind rfl w) ?_
  refine wpL_done (fun W5 hW5 => ?_)
  refine (show Code.wp _ _ _ _ _ from ?_)
  cases hd1 : (decide (20 = n ∧ false = h ∧ false = r)) with
  | false =>
    have h1 : ¬ (20 = n ∧ false = h ∧ false = r) := of_decide_eq_false hd1
    clear hd1
    refine wp_cond_false rfl ?_
    refine wp_skip ?_
    refine (show Code.wp _ _ _ _ _ from ?_)
    refine wp_region_L (W0 := w) [(g2, .cells #[strV [50, 50, 71, 49], .int .u8 20, .bool false, .bool false] 91 (0, 0)), (g1, .cells #[.int .u8 ((n : Nat) : Int), .bool h, .bool r] 26 (0, 0))] (hW5) ?_
    refine lm (v := .int .i64 1) rfl rfl ?_
    refine lm (v := .int .i64 1) rfl rfl ?_
    refine wpL_done (fun W6 hW6 => ?_)
    refine (show Code.wp _ _ _ _ _ from ?_)
    refine wp_seq ?_
    refine wp_region_L (W0 := w) [(g2, .cells #[strV [50, 50, 71, 49], .int .u8 20, .bool false, .bool false] 91 (0, 0)), (g1, .cells #[.int .u8 ((n : Nat) : Int), .bool h, .bool r] 26 (0, 0))] (hW6) ?_
    refine lm (v := .bool true) rfl rfl ?_
    refine wpL_done (fun W7 hW7 => ?_)
    refine (show Code.wp _ _ _ _ _ from ?_)
    refine wp_seq ?_
    refine wp_cond_true rfl ?_
    refine wp_skip ?_
    refine (show Code.wp _ _ _ _ _ from ?_)
    refine wp_seq ?_
    refine wp_block ?_
    refine wp_seq ?_
    refine wp_region_L (W0 := w) [(g2, .cells #[strV [50, 50, 71, 49], .int .u8 20, .bool false, .bool false] 91 (0, 0)), (g1, .cells #[.int .u8 ((n : Nat) : Int), .bool h, .bool r] 26 (0, 0))] (hW7) ?_
    refine lm (v := .agg #[strV [50, 50, 82, 49], .int .u8 20, .bool false, .bool true]) rfl rfl ?_
    refine wpL_new (fun g => .pointer (some ⟨g, 0, none⟩)) (obi := .cells #[strV [], .int .u8 0, .bool false, .bool false] 91 (0, 0)) rfl rfl (fun _ => by kernel_rfl) (fun _ => by simp only [List.setIfInBounds_toArray, List.set_cons_succ, List.set_cons_zero] <;> rfl) fun g3 Bg3 Fg3 => ?_
    refine wpL_s [(g3, .cells #[strV [50, 50, 82, 49], .int .u8 20, .bool false, .bool true] 91 (0, 0)), (g2, .cells #[strV [50, 50, 71, 49], .int .u8 20, .bool false, .bool false] 91 (0, 0)), (g1, .cells #[.int .u8 ((n : Nat) : Int), .bool h, .bool r] 26 (0, 0))] rfl rfl (st_row (off := 0) (v := .agg #[strV [50, 50, 82, 49], .int .u8 20, .bool false, .bool true]) rfl (by kernel_rfl) (by kernel_rfl) (.head _) Bg3 (by kernel_rfl) (by simp [Value.cells]) (by intro v hv; simp [Value.cells] at hv; first | (subst hv; rfl) | (rcases hv with rfl | rfl | rfl | rfl <;> rfl)) (by kernel_rfl) (List.forall_mem_cons.2 ⟨.inl rfl, (List.forall_mem_cons.2 ⟨.inr ⟨(.tail _ (.head _)), (Fg3 _ (.head _))⟩, (List.forall_mem_cons.2 ⟨.inr ⟨(.tail _ (.tail _ (.head _))), (Fg3 _ (.tail _ (.head _)))⟩, (List.forall_mem_nil _)⟩)⟩)⟩)) ?_
    refine wpL_done (fun W8 hW8 => ?_)
    refine (show Code.wp _ _ _ _ _ from ?_)
    refine wp_seq ?_
    refine wp_region_L (W0 := w) [(g3, .cells #[strV [50, 50, 82, 49], .int .u8 20, .bool false, .bool true] 91 (0, 0)), (g2, .cells #[strV [50, 50, 71, 49], .int .u8 20, .bool false, .bool false] 91 (0, 0)), (g1, .cells #[.int .u8 ((n : Nat) : Int), .bool h, .bool r] 26 (0, 0))] (hW8) ?_
    refine lm (v := .pointer (some ⟨g3, 1, none⟩)) rfl rfl ?_
    refine lv (v := .agg #[.int .u8 20, .bool false, .bool true]) rfl rfl (yb_load (n := 3) (off := 1) rfl (by kernel_rfl) (.head _) Tryd.underlying26 rfl (by kernel_rfl) (by simp) (by kernel_rfl)) ?_
    refine lv (v := .agg #[.int .u8 ((n : Nat) : Int), .bool h, .bool r]) rfl rfl (yb_load (n := 3) (off := 0) rfl (by kernel_rfl) (.tail _ (.tail _ (.head _))) Tryd.underlying26 rfl (by kernel_rfl) (by simp) (by kernel_rfl)) ?_
    refine lp (v := .bool (decide (20 = n ∧ false = h ∧ true = r))) rfl rfl (run_bin rfl (vx := .agg #[.int .u8 ((20 : Nat) : Int), .bool false, .bool true]) (vy := .agg #[.int .u8 ((n : Nat) : Int), .bool h, .bool r]) (by kernel_rfl) (by kernel_rfl) fun w => eq_kind rfl w) ?_
    refine wpL_done (fun W9 hW9 => ?_)
    refine (show Code.wp _ _ _ _ _ from ?_)
    cases hd2 : (decide (20 = n ∧ false = h ∧ true = r)) with
    | false =>
      have h2 : ¬ (20 = n ∧ false = h ∧ true = r) := of_decide_eq_false hd2
      clear hd2
      refine wp_cond_false rfl ?_
      refine wp_skip ?_
      refine (show Code.wp _ _ _ _ _ from ?_)
      refine wp_region_L (W0 := w) [(g3, .cells #[strV [50, 50, 82, 49], .int .u8 20, .bool false, .bool true] 91 (0, 0)), (g2, .cells #[strV [50, 50, 71, 49], .int .u8 20, .bool false, .bool false] 91 (0, 0)), (g1, .cells #[.int .u8 ((n : Nat) : Int), .bool h, .bool r] 26 (0, 0))] (hW9) ?_
      refine lm (v := .int .i64 2) rfl rfl ?_
      refine lm (v := .int .i64 2) rfl rfl ?_
      refine wpL_done (fun W10 hW10 => ?_)
      refine (show Code.wp _ _ _ _ _ from ?_)
      refine wp_seq ?_
      refine wp_region_L (W0 := w) [(g3, .cells #[strV [50, 50, 82, 49], .int .u8 20, .bool false, .bool true] 91 (0, 0)), (g2, .cells #[strV [50, 50, 71, 49], .int .u8 20, .bool false, .bool false] 91 (0, 0)), (g1, .cells #[.int .u8 ((n : Nat) : Int), .bool h, .bool r] 26 (0, 0))] (hW10) ?_
      refine lm (v := .bool true) rfl rfl ?_
      refine wpL_done (fun W11 hW11 => ?_)
      refine (show Code.wp _ _ _ _ _ from ?_)
      refine wp_seq ?_
      refine wp_cond_true rfl ?_
      refine wp_skip ?_
      refine (show Code.wp _ _ _ _ _ from ?_)
      refine wp_seq ?_
      refine wp_block ?_
      refine wp_seq ?_
      refine wp_region_L (W0 := w) [(g3, .cells #[strV [50, 50, 82, 49], .int .u8 20, .bool false, .bool true] 91 (0, 0)), (g2, .cells #[strV [50, 50, 71, 49], .int .u8 20, .bool false, .bool false] 91 (0, 0)), (g1, .cells #[.int .u8 ((n : Nat) : Int), .bool h, .bool r] 26 (0, 0))] (hW11) ?_
      refine lm (v := .agg #[strV [52, 50, 71, 49], .int .u8 40, .bool false, .bool false]) rfl rfl ?_
      refine wpL_new (fun g => .pointer (some ⟨g, 0, none⟩)) (obi := .cells #[strV [], .int .u8 0, .bool false, .bool false] 91 (0, 0)) rfl rfl (fun _ => by kernel_rfl) (fun _ => by simp only [List.setIfInBounds_toArray, List.set_cons_succ, List.set_cons_zero] <;> rfl) fun g4 Bg4 Fg4 => ?_
      refine wpL_s [(g4, .cells #[strV [52, 50, 71, 49], .int .u8 40, .bool false, .bool false] 91 (0, 0)), (g3, .cells #[strV [50, 50, 82, 49], .int .u8 20, .bool false, .bool true] 91 (0, 0)), (g2, .cells #[strV [50, 50, 71, 49], .int .u8 20, .bool false, .bool false] 91 (0, 0)), (g1, .cells #[.int .u8 ((n : Nat) : Int), .bool h, .bool r] 26 (0, 0))] rfl rfl (st_row (off := 0) (v := .agg #[strV [52, 50, 71, 49], .int .u8 40, .bool false, .bool false]) rfl (by kernel_rfl) (by kernel_rfl) (.head _) Bg4 (by kernel_rfl) (by simp [Value.cells]) (by intro v hv; simp [Value.cells] at hv; first | (subst hv; rfl) | (rcases hv with rfl | rfl | rfl | rfl <;> rfl)) (by kernel_rfl) (List.forall_mem_cons.2 ⟨.inl rfl, (List.forall_mem_cons.2 ⟨.inr ⟨(.tail _ (.head _)), (Fg4 _ (.head _))⟩, (List.forall_mem_cons.2 ⟨.inr ⟨(.tail _ (.tail _ (.head _))), (Fg4 _ (.tail _ (.head _)))⟩, (List.forall_mem_cons.2 ⟨.inr ⟨(.tail _ (.tail _ (.tail _ (.head _)))), (Fg4 _ (.tail _ (.tail _ (.head _))))⟩, (List.forall_mem_nil _)⟩)⟩)⟩)⟩)) ?_
      refine wpL_done (fun W12 hW12 => ?_)
      refine (show Code.wp _ _ _ _ _ from ?_)
      refine wp_seq ?_
      refine wp_region_L (W0 := w) [(g4, .cells #[strV [52, 50, 71, 49], .int .u8 40, .bool false, .bool false] 91 (0, 0)), (g3, .cells #[strV [50, 50, 82, 49], .int .u8 20, .bool false, .bool true] 91 (0, 0)), (g2, .cells #[strV [50, 50, 71, 49], .int .u8 20, .bool false, .bool false] 91 (0, 0)), (g1, .cells #[.int .u8 ((n : Nat) : Int), .bool h, .bool r] 26 (0, 0))] (hW12) ?_
      refine lm (v := .pointer (some ⟨g4, 1, none⟩)) rfl rfl ?_
      refine lv (v := .agg #[.int .u8 40, .bool false, .bool false]) rfl rfl (yb_load (n := 3) (off := 1) rfl (by kernel_rfl) (.head _) Tryd.underlying26 rfl (by kernel_rfl) (by simp) (by kernel_rfl)) ?_
      refine lv (v := .agg #[.int .u8 ((n : Nat) : Int), .bool h, .bool r]) rfl rfl (yb_load (n := 3) (off := 0) rfl (by kernel_rfl) (.tail _ (.tail _ (.tail _ (.head _)))) Tryd.underlying26 rfl (by kernel_rfl) (by simp) (by kernel_rfl)) ?_
      refine lp (v := .bool (decide (40 = n ∧ false = h ∧ false = r))) rfl rfl (run_bin rfl (vx := .agg #[.int .u8 ((40 : Nat) : Int), .bool false, .bool false]) (vy := .agg #[.int .u8 ((n : Nat) : Int), .bool h, .bool r]) (by kernel_rfl) (by kernel_rfl) fun w => eq_kind rfl w) ?_
      refine wpL_done (fun W13 hW13 => ?_)
      refine (show Code.wp _ _ _ _ _ from ?_)
      cases hd3 : (decide (40 = n ∧ false = h ∧ false = r)) with
      | false =>
        have h3 : ¬ (40 = n ∧ false = h ∧ false = r) := of_decide_eq_false hd3
        clear hd3
        refine wp_cond_false rfl ?_
        refine wp_skip ?_
        refine (show Code.wp _ _ _ _ _ from ?_)
        refine wp_region_L (W0 := w) [(g4, .cells #[strV [52, 50, 71, 49], .int .u8 40, .bool false, .bool false] 91 (0, 0)), (g3, .cells #[strV [50, 50, 82, 49], .int .u8 20, .bool false, .bool true] 91 (0, 0)), (g2, .cells #[strV [50, 50, 71, 49], .int .u8 20, .bool false, .bool false] 91 (0, 0)), (g1, .cells #[.int .u8 ((n : Nat) : Int), .bool h, .bool r] 26 (0, 0))] (hW13) ?_
        refine lm (v := .int .i64 3) rfl rfl ?_
        refine lm (v := .int .i64 3) rfl rfl ?_
        refine wpL_done (fun W14 hW14 => ?_)
        refine (show Code.wp _ _ _ _ _ from ?_)
        refine wp_seq ?_
        refine wp_region_L (W0 := w) [(g4, .cells #[strV [52, 50, 71, 49], .int .u8 40, .bool false, .bool false] 91 (0, 0)), (g3, .cells #[strV [50, 50, 82, 49], .int .u8 20, .bool false, .bool true] 91 (0, 0)), (g2, .cells #[strV [50, 50, 71, 49], .int .u8 20, .bool false, .bool false] 91 (0, 0)), (g1, .cells #[.int .u8 ((n : Nat) : Int), .bool h, .bool r] 26 (0, 0))] (hW14) ?_
        refine lm (v := .bool true) rfl rfl ?_
        refine wpL_done (fun W15 hW15 => ?_)
        refine (show Code.wp _ _ _ _ _ from ?_)
        refine wp_seq ?_
        refine wp_cond_true rfl ?_
        refine wp_skip ?_
        refine (show Code.wp _ _ _ _ _ from ?_)
        refine wp_seq ?_
        refine wp_block ?_
        refine wp_seq ?_
        refine wp_region_L (W0 := w) [(g4, .cells #[strV [52, 50, 71, 49], .int .u8 40, .bool false, .bool false] 91 (0, 0)), (g3, .cells #[strV [50, 50, 82, 49], .int .u8 20, .bool false, .bool true] 91 (0, 0)), (g2, .cells #[strV [50, 50, 71, 49], .int .u8 20, .bool false, .bool false] 91 (0, 0)), (g1, .cells #[.int .u8 ((n : Nat) : Int), .bool h, .bool r] 26 (0, 0))] (hW15) ?_
        refine lm (v := .agg #[strV [52, 50, 82, 49], .int .u8 40, .bool false, .bool true]) rfl rfl ?_
        refine wpL_new (fun g => .pointer (some ⟨g, 0, none⟩)) (obi := .cells #[strV [], .int .u8 0, .bool false, .bool false] 91 (0, 0)) rfl rfl (fun _ => by kernel_rfl) (fun _ => by simp only [List.setIfInBounds_toArray, List.set_cons_succ, List.set_cons_zero] <;> rfl) fun g5 Bg5 Fg5 => ?_
        refine wpL_s [(g5, .cells #[strV [52, 50, 82, 49], .int .u8 40, .bool false, .bool true] 91 (0, 0)), (g4, .cells #[strV [52, 50, 71, 49], .int .u8 40, .bool false, .bool false] 91 (0, 0)), (g3, .cells #[strV [50, 50, 82, 49], .int .u8 20, .bool false, .bool true] 91 (0, 0)), (g2, .cells #[strV [50, 50, 71, 49], .int .u8 20, .bool false, .bool false] 91 (0, 0)), (g1, .cells #[.int .u8 ((n : Nat) : Int), .bool h, .bool r] 26 (0, 0))] rfl rfl (st_row (off := 0) (v := .agg #[strV [52, 50, 82, 49], .int .u8 40, .bool false, .bool true]) rfl (by kernel_rfl) (by kernel_rfl) (.head _) Bg5 (by kernel_rfl) (by simp [Value.cells]) (by intro v hv; simp [Value.cells] at hv; first | (subst hv; rfl) | (rcases hv with rfl | rfl | rfl | rfl <;> rfl)) (by kernel_rfl) (List.forall_mem_cons.2 ⟨.inl rfl, (List.forall_mem_cons.2 ⟨.inr ⟨(.tail _ (.head _)), (Fg5 _ (.head _))⟩, (List.forall_mem_cons.2 ⟨.inr ⟨(.tail _ (.tail _ (.head _))), (Fg5 _ (.tail _ (.head _)))⟩, (List.forall_mem_cons.2 ⟨.inr ⟨(.tail _ (.tail _ (.tail _ (.head _)))), (Fg5 _ (.tail _ (.tail _ (.head _))))⟩, (List.forall_mem_cons.2 ⟨.inr ⟨(.tail _ (.tail _ (.tail _ (.tail _ (.head _))))), (Fg5 _ (.tail _ (.tail _ (.tail _ (.head _)))))⟩, (List.forall_mem_nil _)⟩)⟩)⟩)⟩)⟩)) ?_
        refine wpL_done (fun W16 hW16 => ?_)
        refine (show Code.wp _ _ _ _ _ from ?_)
        refine wp_seq ?_
        refine wp_region_L (W0 := w) [(g5, .cells #[strV [52, 50, 82, 49], .int .u8 40, .bool false, .bool true] 91 (0, 0)), (g4, .cells #[strV [52, 50, 71, 49], .int .u8 40, .bool false, .bool false] 91 (0, 0)), (g3, .cells #[strV [50, 50, 82, 49], .int .u8 20, .bool false, .bool true] 91 (0, 0)), (g2, .cells #[strV [50, 50, 71, 49], .int .u8 20, .bool false, .bool false] 91 (0, 0)), (g1, .cells #[.int .u8 ((n : Nat) : Int), .bool h, .bool r] 26 (0, 0))] (hW16) ?_
        refine lm (v := .pointer (some ⟨g5, 1, none⟩)) rfl rfl ?_
        refine lv (v := .agg #[.int .u8 40, .bool false, .bool true]) rfl rfl (yb_load (n := 3) (off := 1) rfl (by kernel_rfl) (.head _) Tryd.underlying26 rfl (by kernel_rfl) (by simp) (by kernel_rfl)) ?_
        refine lv (v := .agg #[.int .u8 ((n : Nat) : Int), .bool h, .bool r]) rfl rfl (yb_load (n := 3) (off := 0) rfl (by kernel_rfl) (.tail _ (.tail _ (.tail _ (.tail _ (.head _))))) Tryd.underlying26 rfl (by kernel_rfl) (by simp) (by kernel_rfl)) ?_
        refine lp (v := .bool (decide (40 = n ∧ false = h ∧ true = r))) rfl rfl (run_bin rfl (vx := .agg #[.int .u8 ((40 : Nat) : Int), .bool false, .bool true]) (vy := .agg #[.int .u8 ((n : Nat) : Int), .bool h, .bool r]) (by kernel_rfl) (by kernel_rfl) fun w => eq_kind rfl w) ?_
        refine wpL_done (fun W17 hW17 => ?_)
        refine (show Code.wp _ _ _ _ _ from ?_)
        cases hd4 : (decide (40 = n ∧ false = h ∧ true = r)) with
        | false =>
          have h4 : ¬ (40 = n ∧ false = h ∧ true = r) := of_decide_eq_false hd4
          clear hd4
          refine wp_cond_false rfl ?_
          refine wp_skip ?_
          refine (show Code.wp _ _ _ _ _ from ?_)
          refine wp_region_L (W0 := w) [(g5, .cells #[strV [52, 50, 82, 49], .int .u8 40, .bool false, .bool true] 91 (0, 0)), (g4, .cells #[strV [52, 50, 71, 49], .int .u8 40, .bool false, .bool false] 91 (0, 0)), (g3, .cells #[strV [50, 50, 82, 49], .int .u8 20, .bool false, .bool true] 91 (0, 0)), (g2, .cells #[strV [50, 50, 71, 49], .int .u8 20, .bool false, .bool false] 91 (0, 0)), (g1, .cells #[.int .u8 ((n : Nat) : Int), .bool h, .bool r] 26 (0, 0))] (hW17) ?_
          refine lm (v := .int .i64 4) rfl rfl ?_
          refine lm (v := .int .i64 4) rfl rfl ?_
          refine wpL_done (fun W18 hW18 => ?_)
          refine (show Code.wp _ _ _ _ _ from ?_)
          refine wp_seq ?_
          refine wp_region_L (W0 := w) [(g5, .cells #[strV [52, 50, 82, 49], .int .u8 40, .bool false, .bool true] 91 (0, 0)), (g4, .cells #[strV [52, 50, 71, 49], .int .u8 40, .bool false, .bool false] 91 (0, 0)), (g3, .cells #[strV [50, 50, 82, 49], .int .u8 20, .bool false, .bool true] 91 (0, 0)), (g2, .cells #[strV [50, 50, 71, 49], .int .u8 20, .bool false, .bool false] 91 (0, 0)), (g1, .cells #[.int .u8 ((n : Nat) : Int), .bool h, .bool r] 26 (0, 0))] (hW18) ?_
          refine lm (v := .bool true) rfl rfl ?_
          refine wpL_done (fun W19 hW19 => ?_)
          refine (show Code.wp _ _ _ _ _ from ?_)
          refine wp_seq ?_
          refine wp_cond_true rfl ?_
          refine wp_skip ?_
          refine (show Code.wp _ _ _ _ _ from ?_)
          refine wp_seq ?_
          refine wp_block ?_
          refine wp_seq ?_
          refine wp_region_L (W0 := w) [(g5, .cells #[strV [52, 50, 82, 49], .int .u8 40, .bool false, .bool true] 91 (0, 0)), (g4, .cells #[strV [52, 50, 71, 49], .int .u8 40, .bool false, .bool false] 91 (0, 0)), (g3, .cells #[strV [50, 50, 82, 49], .int .u8 20, .bool false, .bool true] 91 (0, 0)), (g2, .cells #[strV [50, 50, 71, 49], .int .u8 20, .bool false, .bool false] 91 (0, 0)), (g1, .cells #[.int .u8 ((n : Nat) : Int), .bool h, .bool r] 26 (0, 0))] (hW19) ?_
          refine lm (v := .agg #[strV [52, 53, 71, 49], .int .u8 40, .bool true, .bool false]) rfl rfl ?_
          refine wpL_new (fun g => .pointer (some ⟨g, 0, none⟩)) (obi := .cells #[strV [], .int .u8 0, .bool false, .bool false] 91 (0, 0)) rfl rfl (fun _ => by kernel_rfl) (fun _ => by simp only [List.setIfInBounds_toArray, List.set_cons_succ, List.set_cons_zero] <;> rfl) fun g6 Bg6 Fg6 => ?_
          refine wpL_s [(g6, .cells #[strV [52, 53, 71, 49], .int .u8 40, .bool true, .bool false] 91 (0, 0)), (g5, .cells #[strV [52, 50, 82, 49], .int .u8 40, .bool false, .bool true] 91 (0, 0)), (g4, .cells #[strV [52, 50, 71, 49], .int .u8 40, .bool false, .bool false] 91 (0, 0)), (g3, .cells #[strV [50, 50, 82, 49], .int .u8 20, .bool false, .bool true] 91 (0, 0)), (g2, .cells #[strV [50, 50, 71, 49], .int .u8 20, .bool false, .bool false] 91 (0, 0)), (g1, .cells #[.int .u8 ((n : Nat) : Int), .bool h, .bool r] 26 (0, 0))] rfl rfl (st_row (off := 0) (v := .agg #[strV [52, 53, 71, 49], .int .u8 40, .bool true, .bool false]) rfl (by kernel_rfl) (by kernel_rfl) (.head _) Bg6 (by kernel_rfl) (by simp [Value.cells]) (by intro v hv; simp [Value.cells] at hv; first | (subst hv; rfl) | (rcases hv with rfl | rfl | rfl | rfl <;> rfl)) (by kernel_rfl) (List.forall_mem_cons.2 ⟨.inl rfl, (List.forall_mem_cons.2 ⟨.inr ⟨(.tail _ (.head _)), (Fg6 _ (.head _))⟩, (List.forall_mem_cons.2 ⟨.inr ⟨(.tail _ (.tail _ (.head _))), (Fg6 _ (.tail _ (.head _)))⟩, (List.forall_mem_cons.2 ⟨.inr ⟨(.tail _ (.tail _ (.tail _ (.head _)))), (Fg6 _ (.tail _ (.tail _ (.head _))))⟩, (List.forall_mem_cons.2 ⟨.inr ⟨(.tail _ (.tail _ (.tail _ (.tail _ (.head _))))), (Fg6 _ (.tail _ (.tail _ (.tail _ (.head _)))))⟩, (List.forall_mem_cons.2 ⟨.inr ⟨(.tail _ (.tail _ (.tail _ (.tail _ (.tail _ (.head _)))))), (Fg6 _ (.tail _ (.tail _ (.tail _ (.tail _ (.head _))))))⟩, (List.forall_mem_nil _)⟩)⟩)⟩)⟩)⟩)⟩)) ?_
          refine wpL_done (fun W20 hW20 => ?_)
          refine (show Code.wp _ _ _ _ _ from ?_)
          refine wp_seq ?_
          refine wp_region_L (W0 := w) [(g6, .cells #[strV [52, 53, 71, 49], .int .u8 40, .bool true, .bool false] 91 (0, 0)), (g5, .cells #[strV [52, 50, 82, 49], .int .u8 40, .bool false, .bool true] 91 (0, 0)), (g4, .cells #[strV [52, 50, 71, 49], .int .u8 40, .bool false, .bool false] 91 (0, 0)), (g3, .cells #[strV [50, 50, 82, 49], .int .u8 20, .bool false, .bool true] 91 (0, 0)), (g2, .cells #[strV [50, 50, 71, 49], .int .u8 20, .bool false, .bool false] 91 (0, 0)), (g1, .cells #[.int .u8 ((n : Nat) : Int), .bool h, .bool r] 26 (0, 0))] (hW20) ?_
          refine lm (v := .pointer (some ⟨g6, 1, none⟩)) rfl rfl ?_
          refine lv (v := .agg #[.int .u8 40, .bool true, .bool false]) rfl rfl (yb_load (n := 3) (off := 1) rfl (by kernel_rfl) (.head _) Tryd.underlying26 rfl (by kernel_rfl) (by simp) (by kernel_rfl)) ?_
          refine lv (v := .agg #[.int .u8 ((n : Nat) : Int), .bool h, .bool r]) rfl rfl (yb_load (n := 3) (off := 0) rfl (by kernel_rfl) (.tail _ (.tail _ (.tail _ (.tail _ (.tail _ (.head _)))))) Tryd.underlying26 rfl (by kernel_rfl) (by simp) (by kernel_rfl)) ?_
          refine lp (v := .bool (decide (40 = n ∧ true = h ∧ false = r))) rfl rfl (run_bin rfl (vx := .agg #[.int .u8 ((40 : Nat) : Int), .bool true, .bool false]) (vy := .agg #[.int .u8 ((n : Nat) : Int), .bool h, .bool r]) (by kernel_rfl) (by kernel_rfl) fun w => eq_kind rfl w) ?_
          refine wpL_done (fun W21 hW21 => ?_)
          refine (show Code.wp _ _ _ _ _ from ?_)
          cases hd5 : (decide (40 = n ∧ true = h ∧ false = r)) with
          | false =>
            have h5 : ¬ (40 = n ∧ true = h ∧ false = r) := of_decide_eq_false hd5
            clear hd5
            refine wp_cond_false rfl ?_
            refine wp_skip ?_
            refine (show Code.wp _ _ _ _ _ from ?_)
            refine wp_region_L (W0 := w) [(g6, .cells #[strV [52, 53, 71, 49], .int .u8 40, .bool true, .bool false] 91 (0, 0)), (g5, .cells #[strV [52, 50, 82, 49], .int .u8 40, .bool false, .bool true] 91 (0, 0)), (g4, .cells #[strV [52, 50, 71, 49], .int .u8 40, .bool false, .bool false] 91 (0, 0)), (g3, .cells #[strV [50, 50, 82, 49], .int .u8 20, .bool false, .bool true] 91 (0, 0)), (g2, .cells #[strV [50, 50, 71, 49], .int .u8 20, .bool false, .bool false] 91 (0, 0)), (g1, .cells #[.int .u8 ((n : Nat) : Int), .bool h, .bool r] 26 (0, 0))] (hW21) ?_
            refine lm (v := .int .i64 5) rfl rfl ?_
            refine lm (v := .int .i64 5) rfl rfl ?_
            refine wpL_done (fun W22 hW22 => ?_)
            refine (show Code.wp _ _ _ _ _ from ?_)
            refine wp_seq ?_
            refine wp_region_L (W0 := w) [(g6, .cells #[strV [52, 53, 71, 49], .int .u8 40, .bool true, .bool false] 91 (0, 0)), (g5, .cells #[strV [52, 50, 82, 49], .int .u8 40, .bool false, .bool true] 91 (0, 0)), (g4, .cells #[strV [52, 50, 71, 49], .int .u8 40, .bool false, .bool false] 91 (0, 0)), (g3, .cells #[strV [50, 50, 82, 49], .int .u8 20, .bool false, .bool true] 91 (0, 0)), (g2, .cells #[strV [50, 50, 71, 49], .int .u8 20, .bool false, .bool false] 91 (0, 0)), (g1, .cells #[.int .u8 ((n : Nat) : Int), .bool h, .bool r] 26 (0, 0))] (hW22) ?_
            refine lm (v := .bool true) rfl rfl ?_
            refine wpL_done (fun W23 hW23 => ?_)
            refine (show Code.wp _ _ _ _ _ from ?_)
            refine wp_seq ?_
            refine wp_cond_true rfl ?_
            refine wp_skip ?_
            refine (show Code.wp _ _ _ _ _ from ?_)
            refine wp_seq ?_
            refine wp_block ?_
            refine wp_seq ?_
            refine wp_region_L (W0 := w) [(g6, .cells #[strV [52, 53, 71, 49], .int .u8 40, .bool true, .bool false] 91 (0, 0)), (g5, .cells #[strV [52, 50, 82, 49], .int .u8 40, .bool false, .bool true] 91 (0, 0)), (g4, .cells #[strV [52, 50, 71, 49], .int .u8 40, .bool false, .bool false] 91 (0, 0)), (g3, .cells #[strV [50, 50, 82, 49], .int .u8 20, .bool false, .bool true] 91 (0, 0)), (g2, .cells #[strV [50, 50, 71, 49], .int .u8 20, .bool false, .bool false] 91 (0, 0)), (g1, .cells #[.int .u8 ((n : Nat) : Int), .bool h, .bool r] 26 (0, 0))] (hW23) ?_
            refine lm (v := .agg #[strV [52, 53, 82, 49], .int .u8 40, .bool true, .bool true]) rfl rfl ?_
            refine wpL_new (fun g => .pointer (some ⟨g, 0, none⟩)) (obi := .cells #[strV [], .int .u8 0, .bool false, .bool false] 91 (0, 0)) rfl rfl (fun _ => by kernel_rfl) (fun _ => by simp only [List.setIfInBounds_toArray, List.set_cons_succ, List.set_cons_zero] <;> rfl) fun g7 Bg7 Fg7 => ?_
            refine wpL_s [(g7, .cells #[strV [52, 53, 82, 49], .int .u8 40, .bool true, .bool true] 91 (0, 0)), (g6, .cells #[strV [52, 53, 71, 49], .int .u8 40, .bool true, .bool false] 91 (0, 0)), (g5, .cells #[strV [52, 50, 82, 49], .int .u8 40, .bool false, .bool true] 91 (0, 0)), (g4, .cells #[strV [52, 50, 71, 49], .int .u8 40, .bool false, .bool false] 91 (0, 0)), (g3, .cells #[strV [50, 50, 82, 49], .int .u8 20, .bool false, .bool true] 91 (0, 0)), (g2, .cells #[strV [50, 50, 71, 49], .int .u8 20, .bool false, .bool false] 91 (0, 0)), (g1, .cells #[.int .u8 ((n : Nat) : Int), .bool h, .bool r] 26 (0, 0))] rfl rfl (st_row (off := 0) (v := .agg #[strV [52, 53, 82, 49], .int .u8 40, .bool true, .bool true]) rfl (by kernel_rfl) (by kernel_rfl) (.head _) Bg7 (by kernel_rfl) (by simp [Value.cells]) (by intro v hv; simp [Value.cells] at hv; first | (subst hv; rfl) | (rcases hv with rfl | rfl | rfl | rfl <;> rfl)) (by kernel_rfl) (List.forall_mem_cons.2 ⟨.inl rfl, (List.forall_mem_cons.2 ⟨.inr ⟨(.tail _ (.head _)), (Fg7 _ (.head _))⟩, (List.forall_mem_cons.2 ⟨.inr ⟨(.tail _ (.tail _ (.head _))), (Fg7 _ (.tail _ (.head _)))⟩, (List.forall_mem_cons.2 ⟨.inr ⟨(.tail _ (.tail _ (.tail _ (.head _)))), (Fg7 _ (.tail _ (.tail _ (.head _))))⟩, (List.forall_mem_cons.2 ⟨.inr ⟨(.tail _ (.tail _ (.tail _ (.tail _ (.head _))))), (Fg7 _ (.tail _ (.tail _ (.tail _ (.head _)))))⟩, (List.forall_mem_cons.2 ⟨.inr ⟨(.tail _ (.tail _ (.tail _ (.tail _ (.tail _ (.head _)))))), (Fg7 _ (.tail _ (.tail _ (.tail _ (.tail _ (.head _))))))⟩, (List.forall_mem_cons.2 ⟨.inr ⟨(.tail _ (.tail _ (.tail _ (.tail _ (.tail _ (.tail _ (.head _))))))), (Fg7 _ (.tail _ (.tail _ (.tail _ (.tail _ (.tail _ (.head _)))))))⟩, (List.forall_mem_nil _)⟩)⟩)⟩)⟩)⟩)⟩)⟩)) ?_
            refine wpL_done (fun W24 hW24 => ?_)
            refine (show Code.wp _ _ _ _ _ from ?_)
            refine wp_seq ?_
            refine wp_region_L (W0 := w) [(g7, .cells #[strV [52, 53, 82, 49], .int .u8 40, .bool true, .bool true] 91 (0, 0)), (g6, .cells #[strV [52, 53, 71, 49], .int .u8 40, .bool true, .bool false] 91 (0, 0)), (g5, .cells #[strV [52, 50, 82, 49], .int .u8 40, .bool false, .bool true] 91 (0, 0)), (g4, .cells #[strV [52, 50, 71, 49], .int .u8 40, .bool false, .bool false] 91 (0, 0)), (g3, .cells #[strV [50, 50, 82, 49], .int .u8 20, .bool false, .bool true] 91 (0, 0)), (g2, .cells #[strV [50, 50, 71, 49], .int .u8 20, .bool false, .bool false] 91 (0, 0)), (g1, .cells #[.int .u8 ((n : Nat) : Int), .bool h, .bool r] 26 (0, 0))] (hW24) ?_
            refine lm (v := .pointer (some ⟨g7, 1, none⟩)) rfl rfl ?_
            refine lv (v := .agg #[.int .u8 40, .bool true, .bool true]) rfl rfl (yb_load (n := 3) (off := 1) rfl (by kernel_rfl) (.head _) Tryd.underlying26 rfl (by kernel_rfl) (by simp) (by kernel_rfl)) ?_
            refine lv (v := .agg #[.int .u8 ((n : Nat) : Int), .bool h, .bool r]) rfl rfl (yb_load (n := 3) (off := 0) rfl (by kernel_rfl) (.tail _ (.tail _ (.tail _ (.tail _ (.tail _ (.tail _ (.head _))))))) Tryd.underlying26 rfl (by kernel_rfl) (by simp) (by kernel_rfl)) ?_
            refine lp (v := .bool (decide (40 = n ∧ true = h ∧ true = r))) rfl rfl (run_bin rfl (vx := .agg #[.int .u8 ((40 : Nat) : Int), .bool true, .bool true]) (vy := .agg #[.int .u8 ((n : Nat) : Int), .bool h, .bool r]) (by kernel_rfl) (by kernel_rfl) fun w => eq_kind rfl w) ?_
            refine wpL_done (fun W25 hW25 => ?_)
            refine (show Code.wp _ _ _ _ _ from ?_)
            cases hd6 : (decide (40 = n ∧ true = h ∧ true = r)) with
            | false =>
              have h6 : ¬ (40 = n ∧ true = h ∧ true = r) := of_decide_eq_false hd6
              clear hd6
              refine wp_cond_false rfl ?_
              refine wp_skip ?_
              refine (show Code.wp _ _ _ _ _ from ?_)
              refine wp_region_L (W0 := w) [(g7, .cells #[strV [52, 53, 82, 49], .int .u8 40, .bool true, .bool true] 91 (0, 0)), (g6, .cells #[strV [52, 53, 71, 49], .int .u8 40, .bool true, .bool false] 91 (0, 0)), (g5, .cells #[strV [52, 50, 82, 49], .int .u8 40, .bool false, .bool true] 91 (0, 0)), (g4, .cells #[strV [52, 50, 71, 49], .int .u8 40, .bool false, .bool false] 91 (0, 0)), (g3, .cells #[strV [50, 50, 82, 49], .int .u8 20, .bool false, .bool true] 91 (0, 0)), (g2, .cells #[strV [50, 50, 71, 49], .int .u8 20, .bool false, .bool false] 91 (0, 0)), (g1, .cells #[.int .u8 ((n : Nat) : Int), .bool h, .bool r] 26 (0, 0))] (hW25) ?_
              refine lm (v := .int .i64 6) rfl rfl ?_
              refine lm (v := .int .i64 6) rfl rfl ?_
              refine wpL_done (fun W26 hW26 => ?_)
              refine (show Code.wp _ _ _ _ _ from ?_)
              refine wp_seq ?_
              refine wp_region_L (W0 := w) [(g7, .cells #[strV [52, 53, 82, 49], .int .u8 40, .bool true, .bool true] 91 (0, 0)), (g6, .cells #[strV [52, 53, 71, 49], .int .u8 40, .bool true, .bool false] 91 (0, 0)), (g5, .cells #[strV [52, 50, 82, 49], .int .u8 40, .bool false, .bool true] 91 (0, 0)), (g4, .cells #[strV [52, 50, 71, 49], .int .u8 40, .bool false, .bool false] 91 (0, 0)), (g3, .cells #[strV [50, 50, 82, 49], .int .u8 20, .bool false, .bool true] 91 (0, 0)), (g2, .cells #[strV [50, 50, 71, 49], .int .u8 20, .bool false, .bool false] 91 (0, 0)), (g1, .cells #[.int .u8 ((n : Nat) : Int), .bool h, .bool r] 26 (0, 0))] (hW26) ?_
              refine lm (v := .bool false) rfl rfl ?_
              refine wpL_done (fun W27 hW27 => ?_)
              refine (show Code.wp _ _ _ _ _ from ?_)
              refine wp_seq ?_
              refine wp_cond_false rfl ?_
              refine wp_exit ?_
              refine (show Code.wp _ _ _ _ _ from ?_)
              refine wp_seq ?_
              refine wp_region_L (W0 := w) [(g7, .cells #[strV [52, 53, 82, 49], .int .u8 40, .bool true, .bool true] 91 (0, 0)), (g6, .cells #[strV [52, 53, 71, 49], .int .u8 40, .bool true, .bool false] 91 (0, 0)), (g5, .cells #[strV [52, 50, 82, 49], .int .u8 40, .bool false, .bool true] 91 (0, 0)), (g4, .cells #[strV [52, 50, 71, 49], .int .u8 40, .bool false, .bool false] 91 (0, 0)), (g3, .cells #[strV [50, 50, 82, 49], .int .u8 20, .bool false, .bool true] 91 (0, 0)), (g2, .cells #[strV [50, 50, 71, 49], .int .u8 20, .bool false, .bool false] 91 (0, 0)), (g1, .cells #[.int .u8 ((n : Nat) : Int), .bool h, .bool r] 26 (0, 0))] (hW27) ?_
              refine lm (v := strV []) rfl rfl ?_
              refine lm (v := .int .i64 32) rfl rfl ?_
              refine wpL_done (fun W28 hW28 => ?_)
              refine (show Code.wp _ _ _ _ _ from ?_)
              refine wp_ret ?_
              try simp only [inBlock_ret, then_ret]
              refine bodyPost_ret (v := .tuple #[strV [], .int .i64 32]) ?_ rfl ?_
              · kernel_rfl
              · exact ⟨(by unfold codeV; rw [if_neg h1, if_neg h2, if_neg h3, if_neg h4, if_neg h5, if_neg h6]), hW28.1⟩
            | true =>
              have h6 : 40 = n ∧ true = h ∧ true = r := of_decide_eq_true hd6
              clear hd6
              refine wp_cond_true rfl ?_
              refine wp_seq ?_
              refine wp_region_L (W0 := w) [(g7, .cells #[strV [52, 53, 82, 49], .int .u8 40, .bool true, .bool true] 91 (0, 0)), (g6, .cells #[strV [52, 53, 71, 49], .int .u8 40, .bool true, .bool false] 91 (0, 0)), (g5, .cells #[strV [52, 50, 82, 49], .int .u8 40, .bool false, .bool true] 91 (0, 0)), (g4, .cells #[strV [52, 50, 71, 49], .int .u8 40, .bool false, .bool false] 91 (0, 0)), (g3, .cells #[strV [50, 50, 82, 49], .int .u8 20, .bool false, .bool true] 91 (0, 0)), (g2, .cells #[strV [50, 50, 71, 49], .int .u8 20, .bool false, .bool false] 91 (0, 0)), (g1, .cells #[.int .u8 ((n : Nat) : Int), .bool h, .bool r] 26 (0, 0))] (hW25) ?_
              refine lm (v := .pointer (some ⟨g7, 0, none⟩)) rfl rfl ?_
              refine lv (v := strV [52, 53, 82, 49]) rfl rfl (yb_cell (off := 0) rfl (by kernel_rfl) (.head _) Tryd.underlying9 rfl (by kernel_rfl)) ?_
              refine lm (v := strV [52, 53, 82, 49]) rfl rfl ?_
              refine lm (v := .int .i64 0) rfl rfl ?_
              refine wpL_done (fun W29 hW29 => ?_)
              refine (show Code.wp _ _ _ _ _ from ?_)
              refine wp_ret ?_
              try simp only [inBlock_ret, then_ret]
              refine bodyPost_ret (v := .tuple #[strV [52, 53, 82, 49], .int .i64 0]) ?_ rfl ?_
              · kernel_rfl
              · exact ⟨(by unfold codeV; rw [if_neg h1, if_neg h2, if_neg h3, if_neg h4, if_neg h5, if_pos h6]), hW29.1⟩
          | true =>
            have h5 : 40 = n ∧ true = h ∧ false = r := of_decide_eq_true hd5
            clear hd5
            refine wp_cond_true rfl ?_
            refine wp_seq ?_
            refine wp_region_L (W0 := w) [(g6, .cells #[strV [52, 53, 71, 49], .int .u8 40, .bool true, .bool false] 91 (0, 0)), (g5, .cells #[strV [52, 50, 82, 49], .int .u8 40, .bool false, .bool true] 91 (0, 0)), (g4, .cells #[strV [52, 50, 71, 49], .int .u8 40, .bool false, .bool false] 91 (0, 0)), (g3, .cells #[strV [50, 50, 82, 49], .int .u8 20, .bool false, .bool true] 91 (0, 0)), (g2, .cells #[strV [50, 50, 71, 49], .int .u8 20, .bool false, .bool false] 91 (0, 0)), (g1, .cells #[.int .u8 ((n : Nat) : Int), .bool h, .bool r] 26 (0, 0))] (hW21) ?_
            refine lm (v := .pointer (some ⟨g6, 0, none⟩)) rfl rfl ?_
            refine lv (v := strV [52, 53, 71, 49]) rfl rfl (yb_cell (off := 0) rfl (by kernel_rfl) (.head _) Tryd.underlying9 rfl (by kernel_rfl)) ?_
            refine lm (v := strV [52, 53, 71, 49]) rfl rfl ?_
            refine lm (v := .int .i64 0) rfl rfl ?_
            refine wpL_done (fun W30 hW30 => ?_)
            refine (show Code.wp _ _ _ _ _ from ?_)
            refine wp_ret ?_
            try simp only [inBlock_ret, then_ret]
            refine bodyPost_ret (v := .tuple #[strV [52, 53, 71, 49], .int .i64 0]) ?_ rfl ?_
            · kernel_rfl
            · exact ⟨(by unfold codeV; rw [if_neg h1, if_neg h2, if_neg h3, if_neg h4, if_pos h5]), hW30.1⟩
        | true =>
          have h4 : 40 = n ∧ false = h ∧ true = r := of_decide_eq_true hd4
          clear hd4
          refine wp_cond_true rfl ?_
          refine wp_seq ?_
          refine wp_region_L (W0 := w) [(g5, .cells #[strV [52, 50, 82, 49], .int .u8 40, .bool false, .bool true] 91 (0, 0)), (g4, .cells #[strV [52, 50, 71, 49], .int .u8 40, .bool false, .bool false] 91 (0, 0)), (g3, .cells #[strV [50, 50, 82, 49], .int .u8 20, .bool false, .bool true] 91 (0, 0)), (g2, .cells #[strV [50, 50, 71, 49], .int .u8 20, .bool false, .bool false] 91 (0, 0)), (g1, .cells #[.int .u8 ((n : Nat) : Int), .bool h, .bool r] 26 (0, 0))] (hW17) ?_
          refine lm (v := .pointer (some ⟨g5, 0, none⟩)) rfl rfl ?_
          refine lv (v := strV [52, 50, 82, 49]) rfl rfl (yb_cell (off := 0) rfl (by kernel_rfl) (.head _) Tryd.underlying9 rfl (by kernel_rfl)) ?_
          refine lm (v := strV [52, 50, 82, 49]) rfl rfl ?_
          refine lm (v := .int .i64 0) rfl rfl ?_
          refine wpL_done (fun W31 hW31 => ?_)
          refine (show Code.wp _ _ _ _ _ from ?_)
          refine wp_ret ?_
          try simp only [inBlock_ret, then_ret]
          refine bodyPost_ret (v := .tuple #[strV [52, 50, 82, 49], .int .i64 0]) ?_ rfl ?_
          · kernel_rfl
          · exact ⟨(by unfold codeV; rw [if_neg h1, if_neg h2, if_neg h3, if_pos h4]), hW31.1⟩
      | true =>
        have h3 : 40 = n ∧ false = h ∧ false = r := of_decide_eq_true hd3
        clear hd3
        refine wp_cond_true rfl ?_
        refine wp_seq ?_
        refine wp_region_L (W0 := w) [(g4, .cells #[strV [52, 50, 71, 49], .int .u8 40, .bool false, .bool false] 91 (0, 0)), (g3, .cells #[strV [50, 50, 82, 49], .int .u8 20, .bool false, .bool true] 91 (0, 0)), (g2, .cells #[strV [50, 50, 71, 49], .int .u8 20, .bool false, .bool false] 91 (0, 0)), (g1, .cells #[.int .u8 ((n : Nat) : Int), .bool h, .bool r] 26 (0, 0))] (hW13) ?_
        refine lm (v := .pointer (some ⟨g4, 0, none⟩)) rfl rfl ?_
        refine lv (v := strV [52, 50, 71, 49]) rfl rfl (yb_cell (off := 0) rfl (by kernel_rfl) (.head _) Tryd.underlying9 rfl (by kernel_rfl)) ?_
        refine lm (v := strV [52, 50, 71, 49]) rfl rfl ?_
        refine lm (v := .int .i64 0) rfl rfl ?_
        refine wpL_done (fun W32 hW32 => ?_)
        refine (show Code.wp _ _ _ _ _ from ?_)
        refine wp_ret ?_
        try simp only [inBlock_ret, then_ret]
        refine bodyPost_ret (v := .tuple #[strV [52, 50, 71, 49], .int .i64 0]) ?_ rfl ?_
        · kernel_rfl
        · exact ⟨(by unfold codeV; rw [if_neg h1, if_neg h2, if_pos h3]), hW32.1⟩
    | true =>
      have h2 : 20 = n ∧ false = h ∧ true = r := of_decide_eq_true hd2
      clear hd2
      refine wp_cond_true rfl ?_
      refine wp_seq ?_
      refine wp_region_L (W0 := w) [(g3, .cells #[strV [50, 50, 82, 49], .int .u8 20, .bool false, .bool true] 91 (0, 0)), (g2, .cells #[strV [50, 50, 71, 49], .int .u8 20, .bool false, .bool false] 91 (0, 0)), (g1, .cells #[.int .u8 ((n : Nat) : Int), .bool h, .bool r] 26 (0, 0))] (hW9) ?_
      refine lm (v := .pointer (some ⟨g3, 0, none⟩)) rfl rfl ?_
      refine lv (v := strV [50, 50, 82, 49]) rfl rfl (yb_cell (off := 0) rfl (by kernel_rfl) (.head _) Tryd.underlying9 rfl (by kernel_rfl)) ?_
      refine lm (v := strV [50, 50, 82, 49]) rfl rfl ?_
      refine lm (v := .int .i64 0) rfl rfl ?_
      refine wpL_done (fun W33 hW33 => ?_)
      refine (show Code.wp _ _ _ _ _ from ?_)
      refine wp_ret ?_
      try simp only [inBlock_ret, then_ret]
      refine bodyPost_ret (v := .tuple #[strV [50, 50, 82, 49], .int .i64 0]) ?_ rfl ?_
      · kernel_rfl
      · exact ⟨(by unfold codeV; rw [if_neg h1, if_pos h2]), hW33.1⟩
  | true =>
    have h1 : 20 = n ∧ false = h ∧ false = r := of_decide_eq_true hd1
    clear hd1
    refine wp_cond_true rfl ?_
    refine wp_seq ?_
    refine wp_region_L (W0 := w) [(g2, .cells #[strV [50, 50, 71, 49], .int .u8 20, .bool false, .bool false] 91 (0, 0)), (g1, .cells #[.int .u8 ((n : Nat) : Int), .bool h, .bool r] 26 (0, 0))] (hW5) ?_
    refine lm (v := .pointer (some ⟨g2, 0, none⟩)) rfl rfl ?_
    refine lv (v := strV [50, 50, 71, 49]) rfl rfl (yb_cell (off := 0) rfl (by kernel_rfl) (.head _) Tryd.underlying9 rfl (by kernel_rfl)) ?_
    refine lm (v := strV [50, 50, 71, 49]) rfl rfl ?_
    refine lm (v := .int .i64 0) rfl rfl ?_
    refine wpL_done (fun W34 hW34 => ?_)
    refine (show Code.wp _ _ _ _ _ from ?_)
    refine wp_ret ?_
    try simp only [inBlock_ret, then_ret]
    refine bodyPost_ret (v := .tuple #[strV [50, 50, 71, 49], .int .i64 0]) ?_ rfl ?_
    · kernel_rfl
    · exact ⟨(by unfold codeV; rw [if_pos h1]), hW34.1⟩
end Go.Proofs.YtbceajgipmjmlaaDoor
namespace Go.Proofs.YtbceajgipmjmlaaDoor
open Go Go.RowKit Tw
theorem mcells_len (m : List (Nat × UInt8)) : (mcells m).length = m.length * 2 := by
  induction m with
  | nil => rfl
  | cons x m ih => show (mcells m).length + 2 = _; rw [ih, List.length_cons]; omega
theorem mcells_get : ∀ {m : List (Nat × UInt8)} {k : Nat} {x : Nat × UInt8}, m[k]? = some x → (mcells m)[k * 2]? = some (.int .i64 ((x.1 : Nat) : Int)) ∧ (mcells m)[k * 2 + 1]? = some (.int .u8 ((x.2.toNat : Nat) : Int))
  | [], _, _, h => by simp at h
  | y :: m, 0, x, h => by simp at h; subst h; exact ⟨rfl, rfl⟩
  | y :: m, k + 1, x, h => by
    simp only [List.getElem?_cons_succ] at h
    have := mcells_get h
    rw [show (k + 1) * 2 = k * 2 + 1 + 1 from by omega]
    exact this
theorem miss_at {W : World} {p : Option Addr} {m : List (Nat × UInt8)} {k : Nat} (h : SLV W p (mcells m)) (hk : k < m.length) : ∃ x b off, m[k]? = some x ∧ p = some ⟨b, off, none⟩ ∧ b < W.heap.size ∧ ∀ (j : Nat) (v : Value), [Value.int .i64 ((x.1 : Nat) : Int), .int .u8 ((x.2.toNat : Nat) : Int)][j]? = some v → W.cell? ⟨b, off + k * 2 + j, none⟩ = some v := by
  have hx : m[k]? = some m[k] := List.getElem?_eq_getElem hk
  rcases h with h | ⟨b, off, hp, hlt, hc⟩
  · have := mcells_len m; rw [h] at this; simp at this; omega
  · obtain ⟨h1, h2⟩ := mcells_get hx
    refine ⟨m[k], b, off, hx, hp, hlt, fun j v hv => ?_⟩
    rcases j with _ | _ | j
    · simp only [List.getElem?_cons_zero, Option.some.injEq] at hv; subst hv; have := hc _ _ h1; rwa [show off + k * 2 + 0 = off + k * 2 from rfl]
    · simp only [Nat.zero_add, List.getElem?_cons_succ, List.getElem?_cons_zero, Option.some.injEq] at hv; subst hv; have := hc _ _ h2; rwa [show off + k * 2 + (0 + 1) = off + (k * 2 + 1) from by omega]
    · simp at hv
theorem take_eq_succ {α : Type} {a b : List α} {k : Nat} {x y : α} (h : a.take k = b.take k) (hx : a[k]? = some x) (hy : b[k]? = some y) (he : x = y) : a.take (k + 1) = b.take (k + 1) := by
  obtain ⟨h1, rfl⟩ := List.getElem?_eq_some_iff.1 hx
  obtain ⟨h2, rfl⟩ := List.getElem?_eq_some_iff.1 hy
  rw [List.take_succ_eq_append_getElem h1, List.take_succ_eq_append_getElem h2, h, he]
theorem miss_eq {x y : Nat × UInt8} (h : x.1 = y.1 ∧ x.2.toNat = y.2.toNat) : x = y := Prod.ext h.1 (UInt8.toNat_inj.1 h.2)
set_option maxRecDepth 100000 in
set_option maxHeartbeats 4000000 in
theorem same_any (A B : List (Nat × UInt8)) (pA pB : Option Addr) (cA cB : Nat) (lA : A.length ≤ 4000000000) (w : World) (hA : SLV w pA (mcells A)) (hB : SLV w pB (mcells B)) : Calls Tryd.prog 33 #[.slice pA A.length cA, .slice pB B.length cB] w fun e w' => e = .returned (.bool (decide (A = B))) ∧ Below w.heap.size w w' := by
  have HA := Lib.hid hA
  have HB := Lib.hid hB
  clear hA hB
  go_enter Tryd.func33, Tryd.ntmps33
  refine wp_seq ?_
  refine wp_region_L (W0 := w) [] (KS.start w) ?_
  refine lm (v := .bool false) rfl rfl ?_
  refine wpL_done (fun W1 hW1 => ?_)
  refine (show Code.wp _ _ _ _ _ from ?_)
  refine wp_seq ?_
  refine wp_seq ?_
  refine wp_region_L (W0 := w) [] (hW1) ?_
  refine lm (v := .slice pA A.length cA) rfl rfl ?_
  refine lp (v := .int .i64 ((A.length : Nat) : Int)) rfl rfl (run_lenL (p := pA) (cap := cA) (n := A.length) rfl Tryd.underlying37 (by kernel_rfl)) ?_
  refine lm (v := .slice pB B.length cB) rfl rfl ?_
  refine lp (v := .int .i64 ((B.length : Nat) : Int)) rfl rfl (run_lenL (p := pB) (cap := cB) (n := B.length) rfl Tryd.underlying37 (by kernel_rfl)) ?_
  refine lp (v := .bool (!(decide (A.length = B.length)))) rfl rfl (run_bin rfl (vx := (.int .i64 ((A.length : Nat) : Int))) (vy := (.int .i64 ((B.length : Nat) : Int))) (by kernel_rfl) (by kernel_rfl) fun w => bn_neq rfl w) ?_
  refine wpL_done (fun W2 hW2 => ?_)
  refine (show Code.wp _ _ _ _ _ from ?_)
  cases hd1 : (decide (A.length = B.length)) with
  | false =>
    have h1 : ¬ (A.length = B.length) := of_decide_eq_false hd1
    clear hd1
    refine wp_cond_true rfl ?_
    refine wp_seq ?_
    refine wp_region_L (W0 := w) [] (hW2) ?_
    refine lm (v := .bool false) rfl rfl ?_
    refine wpL_done (fun W3 hW3 => ?_)
    refine (show Code.wp _ _ _ _ _ from ?_)
    refine wp_ret ?_
    try simp only [inBlock_ret, then_ret]
    refine bodyPost_ret (v := .bool false) ?_ rfl ?_
    · kernel_rfl
    · exact ⟨(bool_is (by rw [eq_comm, decide_eq_false_iff_not]; intro e; exact h1 (by rw [e]))), hW3.1⟩
  | true =>
    have h1 : A.length = B.length := of_decide_eq_true hd1
    clear hd1
    refine wp_cond_false rfl ?_
    refine wp_skip ?_
    refine (show Code.wp _ _ _ _ _ from ?_)
    refine wp_seq ?_
    refine wp_seq ?_
    refine wp_region_L (W0 := w) [] (hW2) ?_
    refine lm (v := .int .i64 0) rfl rfl ?_
    refine wpL_done (fun W4 hW4 => ?_)
    refine (show Code.wp _ _ _ _ _ from ?_)
    refine wp_block ?_
    go_loopw [5] (fun u5 wr => ∃ (k : Nat), (k ≤ A.length) ∧ (A.take k = B.take k) ∧ u5 = .int .i64 ((k : Nat) : Int) ∧ KS w [] wr) (fun u5 _ => A.length - (intOf u5).toNat)
    case atStart => exact ⟨0, (Nat.zero_le _), rfl, rfl, hW4⟩
    case round =>
      obtain ⟨k, hk, hT, rfl, hL5⟩ := hrel
      refine wp_seq ?_
      refine wp_seq ?_
      refine wp_region_L (W0 := w) [] (hL5) ?_
      refine lm (v := .int .i64 ((k : Nat) : Int)) rfl rfl ?_
      refine lm (v := .slice pA A.length cA) rfl rfl ?_
      refine lp (v := .int .i64 ((A.length : Nat) : Int)) rfl rfl (run_lenL (p := pA) (cap := cA) (n := A.length) rfl Tryd.underlying37 (by kernel_rfl)) ?_
      refine lp (v := .bool (decide (k < A.length))) rfl rfl (run_bin rfl (vx := (.int .i64 ((k : Nat) : Int))) (vy := (.int .i64 ((A.length : Nat) : Int))) (by kernel_rfl) (by kernel_rfl) fun w => bn_lss rfl w) ?_
      refine wpL_done (fun W6 hW6 => ?_)
      refine (show Code.wp _ _ _ _ _ from ?_)
      cases hd2 : (decide (k < A.length)) with
      | false =>
        have h2 : ¬ (k < A.length) := of_decide_eq_false hd2
        clear hd2
        refine wp_cond_false rfl ?_
        refine wp_exit ?_
        refine (show Code.wp _ _ _ _ _ from ?_)
        refine wp_seq ?_
        refine wp_region_L (W0 := w) [] (hW6) ?_
        refine lm (v := .bool true) rfl rfl ?_
        refine wpL_done (fun W7 hW7 => ?_)
        refine (show Code.wp _ _ _ _ _ from ?_)
        refine wp_ret ?_
        try simp only [inBlock_ret, then_ret]
        refine bodyPost_ret (v := .bool true) ?_ rfl ?_
        · kernel_rfl
        · exact ⟨(bool_is (by rw [eq_comm, decide_eq_true_iff]; rw [List.take_of_length_le (by omega), List.take_of_length_le (by omega)] at hT; exact hT)), hW7.1⟩
      | true =>
        have h2 : k < A.length := of_decide_eq_true hd2
        clear hd2
        refine wp_cond_true rfl ?_
        refine wp_skip ?_
        refine (show Code.wp _ _ _ _ _ from ?_)
        refine wp_seq ?_
        refine wp_block ?_
        refine wp_seq ?_
        refine wp_region_V (W0 := w) [] (by kernel_rfl) (hW6) ?_
        refine vm (i := 0) (v := .slice pA A.length cA) rfl rfl rfl ?_
        refine vm (i := 1) (v := .int .i64 ((k : Nat) : Int)) rfl rfl rfl ?_
        obtain ⟨x1, b1, f1, hx1, hp1, lt1, hc1⟩ := miss_at (k := k) HA.out (by omega)
        have lx1 := x1.2.toNat_lt
        refine vp (i := 2) (v := .pointer (some ⟨b1, f1 + k * 2, none⟩)) rfl rfl rfl (run_idxQ (p := pA) (cap := cA) (n := A.length) (j := .i64) (k := k) (sz := 2) rfl Tryd.underlying37 (by kernel_rfl) (by kernel_rfl) hp1 (by kernel_rfl) (by omega)) ?_
        refine vv (i := 3) (v := .agg #[.int .i64 ((x1.1 : Nat) : Int), .int .u8 ((x1.2.toNat : Nat) : Int)]) rfl rfl rfl (yb_olds (cs := [.int .i64 ((x1.1 : Nat) : Int), .int .u8 ((x1.2.toNat : Nat) : Int)]) rfl (by kernel_rfl) hc1 lt1 Tryd.underlying42 rfl (by kernel_rfl)) ?_
        refine vm (i := 4) (v := .slice pB B.length cB) rfl rfl rfl ?_
        refine vm (i := 5) (v := .int .i64 ((k : Nat) : Int)) rfl rfl rfl ?_
        obtain ⟨x2, b2, f2, hx2, hp2, lt2, hc2⟩ := miss_at (k := k) HB.out (by omega)
        have lx2 := x2.2.toNat_lt
        refine vp (i := 6) (v := .pointer (some ⟨b2, f2 + k * 2, none⟩)) rfl rfl rfl (run_idxQ (p := pB) (cap := cB) (n := B.length) (j := .i64) (k := k) (sz := 2) rfl Tryd.underlying37 (by kernel_rfl) (by kernel_rfl) hp2 (by kernel_rfl) (by omega)) ?_
        refine vv (i := 7) (v := .agg #[.int .i64 ((x2.1 : Nat) : Int), .int .u8 ((x2.2.toNat : Nat) : Int)]) rfl rfl rfl (yb_olds (cs := [.int .i64 ((x2.1 : Nat) : Int), .int .u8 ((x2.2.toNat : Nat) : Int)]) rfl (by kernel_rfl) hc2 lt2 Tryd.underlying42 rfl (by kernel_rfl)) ?_
        refine vp (i := 8) (v := .bool (!(decide (x1.1 = x2.1 ∧ x1.2.toNat = x2.2.toNat)))) rfl rfl rfl (run_bin rfl (vx := .agg #[.int .i64 ((x1.1 : Nat) : Int), .int .u8 ((x1.2.toNat : Nat) : Int)]) (vy := .agg #[.int .i64 ((x2.1 : Nat) : Int), .int .u8 ((x2.2.toNat : Nat) : Int)]) (by kernel_rfl) (by kernel_rfl) fun w => ne_miss rfl w) ?_
        refine wpV_done (by kernel_rfl) (fun W8 hW8 => ?_) _
        refine (show Code.wp _ _ _ _ _ from ?_)
        cases hd3 : (decide (x1.1 = x2.1 ∧ x1.2.toNat = x2.2.toNat)) with
        | false =>
          have h3 : ¬ (x1.1 = x2.1 ∧ x1.2.toNat = x2.2.toNat) := of_decide_eq_false hd3
          clear hd3
          refine wp_cond_true rfl ?_
          refine wp_seq ?_
          refine wp_region_L (W0 := w) [] (hW8) ?_
          refine lm (v := .bool false) rfl rfl ?_
          refine wpL_done (fun W9 hW9 => ?_)
          refine (show Code.wp _ _ _ _ _ from ?_)
          refine wp_ret ?_
          try simp only [inBlock_ret, then_ret]
          refine bodyPost_ret (v := .bool false) ?_ rfl ?_
          · kernel_rfl
          · exact ⟨(bool_is (by rw [eq_comm, decide_eq_false_iff_not]; rintro rfl; rw [hx1] at hx2; cases hx2; exact h3 ⟨rfl, rfl⟩)), hW9.1⟩
        | true =>
          have h3 : x1.1 = x2.1 ∧ x1.2.toNat = x2.2.toNat := of_decide_eq_true hd3
          clear hd3
          refine wp_cond_false rfl ?_
          refine wp_skip ?_
          refine (show Code.wp _ _ _ _ _ from ?_)
          refine wp_region_L (W0 := w) [] (hW8) ?_
          refine lm (v := .int .i64 ((k : Nat) : Int)) rfl rfl ?_
          refine lp (v := .int .i64 (((k + 1) : Nat) : Int)) rfl rfl (run_bin rfl (vx := (.int .i64 ((k : Nat) : Int))) (vy := (.int .i64 ((1 : Nat) : Int))) (by kernel_rfl) (by kernel_rfl) fun w => bn_add (z := (k + 1)) rfl (wr_i64 (by omega)) w) ?_
          refine lm (v := .int .i64 (((k + 1) : Nat) : Int)) rfl rfl ?_
          refine wpL_done (fun W10 hW10 => ?_)
          go_roundw
          case rel =>
            repeat apply Exists.intro
            exact ⟨⟨k + 1, (by omega), (take_eq_succ hT hx1 hx2 (miss_eq h3)), rfl, hW10⟩, rfl⟩
          case measure => (show A.length - (intOf (.int .i64 (((k + 1) : Nat) : Int))).toNat < A.length - (intOf (.int .i64 ((k : Nat) : Int))).toNat); simp only [intOf]; omega
end Go.Proofs.YtbceajgipmjmlaaDoor
