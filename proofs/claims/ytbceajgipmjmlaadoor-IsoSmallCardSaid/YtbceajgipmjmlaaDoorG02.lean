import Derived.Test.YtbceajgipmjmlaaDoorG01
/- Part of the proof: Q6, Q7, Q8. -/
set_option linter.unusedVariables false
set_option linter.unusedSimpArgs false
set_option linter.unusedSectionVars false
namespace Go.Proofs.YtbceajgipmjmlaaDoor
open Go Go.RowKit Tw
set_option maxRecDepth 100000 in
set_option maxHeartbeats 4000000 in
theorem Misses_any (l : List UInt8) (w : World) : Calls Tryd.prog 20 #[strV l] w fun e w' => ∃ v, e = .returned (.tuple #[v, .int .i64 ((judgeN l : Nat) : Int)]) ∧ OutV w w' 42 2 v (missOf l).length (mcells (missOf l)) ∧ Below w.heap.size w w' := by
  go_enter Tryd.func20, Tryd.ntmps20
  refine wp_seq ?_
  refine wp_region_L (W0 := w) [] (KS.start w) ?_
  refine lm (v := .slice none 0 0) rfl rfl ?_
  refine lm (v := .int .i64 0) rfl rfl ?_
  refine wpL_done (fun W1 hW1 => ?_)
  refine (show Code.wp _ _ _ _ _ from ?_)
  refine wp_seq ?_
  refine wp_seq ?_
  refine wp_region_L (W0 := w) [] (hW1) ?_
  refine lm (v := strV l) rfl rfl ?_
  refine lv (v := .int .i64 (((judgeN l) : Nat) : Int)) rfl rfl (yb_call (f := 41) (args := #[strV l]) (fun _ => by kernel_rfl) fun W hW => judge_any l W) ?_
  refine lm (v := .int .i64 (((judgeN l) : Nat) : Int)) rfl rfl ?_
  refine wpL_done (fun W2 hW2 => ?_)
  refine (show Code.wp _ _ _ _ _ from ?_)
  refine wp_seq ?_
  refine wp_region_L (W0 := w) [] (hW2) ?_
  refine lm (v := .int .i64 (((judgeN l) : Nat) : Int)) rfl rfl ?_
  refine lp (v := .bool (!(decide ((judgeN l) = 0)))) rfl rfl (run_bin rfl (vx := (.int .i64 (((judgeN l) : Nat) : Int))) (vy := (.int .i64 ((0 : Nat) : Int))) (by kernel_rfl) (by kernel_rfl) fun w => bn_neq rfl w) ?_
  refine wpL_done (fun W3 hW3 => ?_)
  refine (show Code.wp _ _ _ _ _ from ?_)
  cases hd1 : (decide ((judgeN l) = 0)) with
  | false =>
    have h1 : ¬ ((judgeN l) = 0) := of_decide_eq_false hd1
    clear hd1
    refine wp_cond_true rfl ?_
    refine wp_seq ?_
    refine wp_region_L (W0 := w) [] (hW3) ?_
    refine lm (v := .int .i64 (((judgeN l) : Nat) : Int)) rfl rfl ?_
    refine lm (v := .slice none 0 0) rfl rfl ?_
    refine lm (v := .int .i64 (((judgeN l) : Nat) : Int)) rfl rfl ?_
    refine wpL_done (fun W4 hW4 => ?_)
    refine (show Code.wp _ _ _ _ _ from ?_)
    refine wp_ret ?_
    try simp only [inBlock_ret, then_ret]
    refine bodyPost_ret (v := .tuple #[.slice none 0 0, .int .i64 (((judgeN l) : Nat) : Int)]) ?_ rfl ?_
    · kernel_rfl
    · exact ⟨_, rfl, .inl ⟨by unfold missOf; rw [if_neg h1]; rfl, by unfold missOf; rw [if_neg h1]; rfl, rfl⟩, hW4.1⟩
  | true =>
    have h1 : (judgeN l) = 0 := of_decide_eq_true hd1
    clear hd1
    have hlen := judge_len h1
    refine wp_cond_false rfl ?_
    refine wp_skip ?_
    refine (show Code.wp _ _ _ _ _ from ?_)
    refine wp_seq ?_
    refine wp_region_L (W0 := w) [] (hW3) ?_
    refine lm (v := .slice none 0 0) rfl rfl ?_
    refine wpL_done (fun W5 hW5 => ?_)
    refine (show Code.wp _ _ _ _ _ from ?_)
    refine wp_seq ?_
    refine wp_region_L (W0 := w) [] (hW5) ?_
    refine lm (v := strV l) rfl rfl ?_
    refine wpL_g (ConvB w 5 [] l) rfl rfl (conv_bytes rfl Tryd.underlying31 Tryd.underlying5 Tryd.underlying9 (by kernel_rfl)) (fun _ => by simp only [List.setIfInBounds_toArray, List.set_cons_succ, List.set_cons_zero] <;> rfl) ?_
    rintro v K9 ⟨g1, capg1, curg1, frg1, rfl, Bg1, Fg1, Rg1, Zg1, Yg1, rfl⟩
    refine lm (v := .slice (some ⟨g1, 0, none⟩) l.length capg1) rfl rfl ?_
    refine wpL_done (fun W6 hW6 => ?_)
    refine (show Code.wp _ _ _ _ _ from ?_)
    refine wp_seq ?_
    refine wp_seq ?_
    refine wp_region_L (W0 := w) [(g1, .cells curg1 5 frg1)] (hW6) ?_
    refine wpL_c (f := 42) (args := #[]) (GPl w [(g1, .cells curg1 5 frg1)]) rfl (by kernel_rfl) (fun _ => (by kernel_rfl)) (fun W hW => calls_pl hW) (fun _ => by simp only [List.setIfInBounds_toArray, List.set_cons_succ, List.set_cons_zero] <;> rfl) ?_
    rintro v K9 ⟨g2, g3, g4, g5, rfl, Bg2, Bg3, Bg4, Bg5, Fg2, Fg3, Fg4, Fg5, rfl⟩
    unfold plK
    refine lm (v := .int .i64 0) rfl rfl ?_
    refine wpL_done (fun W7 hW7 => ?_)
    refine (show Code.wp _ _ _ _ _ from ?_)
    refine wp_block ?_
    go_loopw [5, 19] (fun u5 u19 wr => ∃ (i : Nat) (v1 : Value) (Kl1 : List (Nat × Obj)) (cur1 : Array Value), (i ≤ 11) ∧ (OwnL w 42 2 v1 (missTo l i).length (mcells (missTo l i)) Kl1) ∧ (RowB cur1 l) ∧ (l.length ≤ cur1.size) ∧ (cur1.size ≤ frg1.1) ∧ (∀ g ∈ ([g5, g4, g3, g2, g1] : List Nat), ∀ q ∈ Kl1, q.1 ≠ g) ∧ v1 = u5 ∧ u19 = .int .i64 ((i : Nat) : Int) ∧ KS w ((g5, .cells #[.int .u8 57] 5 (0, 0)) :: (g4, .cells #[.int .u8 48] 5 (0, 0)) :: (g3, .cells #[.int .u8 90] 5 (0, 0)) :: (g2, .cells #[.int .u8 65] 5 (0, 0)) :: (g1, .cells cur1 5 frg1) :: Kl1) wr) (fun _ u19 _ => 11 - (intOf u19).toNat)
    case atStart => exact ⟨0, (.slice none 0 0), [], curg1, (Nat.zero_le _), (OwnL.nil _ _ _), Rg1, Zg1, Yg1, (List.forall_mem_cons.2 ⟨(fun _ h => by cases h), (List.forall_mem_cons.2 ⟨(fun _ h => by cases h), (List.forall_mem_cons.2 ⟨(fun _ h => by cases h), (List.forall_mem_cons.2 ⟨(fun _ h => by cases h), (List.forall_mem_cons.2 ⟨(fun _ h => by cases h), (List.forall_mem_nil _)⟩)⟩)⟩)⟩)⟩), rfl, rfl, (hW7.sub (fun p hp => hp))⟩
    case round =>
      obtain ⟨i, v1, Kl1, cur1, hi, hO1, hr1, hz1, hy1, hn1, rfl, rfl, hL8⟩ := hrel
      have hml := missTo_len l i
      refine wp_seq ?_
      refine wp_region_L (W0 := w) ((g5, .cells #[.int .u8 57] 5 (0, 0)) :: (g4, .cells #[.int .u8 48] 5 (0, 0)) :: (g3, .cells #[.int .u8 90] 5 (0, 0)) :: (g2, .cells #[.int .u8 65] 5 (0, 0)) :: (g1, .cells cur1 5 frg1) :: Kl1) (hL8) ?_
      refine lp (v := .bool (decide (i < 11))) rfl rfl (run_bin rfl (vx := (.int .i64 ((i : Nat) : Int))) (vy := (.int .i64 ((11 : Nat) : Int))) (by kernel_rfl) (by kernel_rfl) fun w => bn_lss rfl w) ?_
      refine wpL_done (fun W9 hW9 => ?_)
      refine (show Code.wp _ _ _ _ _ from ?_)
      refine wp_seq ?_
      cases hd2 : (decide (i < 11)) with
      | false =>
        have h2 : ¬ (i < 11) := of_decide_eq_false hd2
        clear hd2
        refine wp_cond_false rfl ?_
        refine wp_exit ?_
        refine (show Code.wp _ _ _ _ _ from ?_)
        refine wp_seq ?_
        refine wp_region_L (W0 := w) ((g5, .cells #[.int .u8 57] 5 (0, 0)) :: (g4, .cells #[.int .u8 48] 5 (0, 0)) :: (g3, .cells #[.int .u8 90] 5 (0, 0)) :: (g2, .cells #[.int .u8 65] 5 (0, 0)) :: (g1, .cells cur1 5 frg1) :: Kl1) (hW9) ?_
        refine lm (v := v1) rfl rfl ?_
        refine lm (v := v1) rfl rfl ?_
        refine lm (v := .int .i64 0) rfl rfl ?_
        refine wpL_done (fun W10 hW10 => ?_)
        refine (show Code.wp _ _ _ _ _ from ?_)
        refine wp_ret ?_
        try simp only [inBlock_ret, then_ret]
        refine bodyPost_ret (v := .tuple #[v1, .int .i64 0]) ?_ rfl ?_
        · kernel_rfl
        · exact ⟨v1, (by rw [h1] <;> rfl), (by unfold missOf missL; rw [if_pos h1]; obtain rfl : i = 11 := (by omega); exact OwnL.out hO1 (fun p hp => (.tail _ (.tail _ (.tail _ (.tail _ (.tail _ hp)))))) hW10), hW10.1⟩
      | true =>
        have h2 : i < 11 := of_decide_eq_true hd2
        clear hd2
        refine wp_cond_true rfl ?_
        refine wp_skip ?_
        refine (show Code.wp _ _ _ _ _ from ?_)
        refine wp_seq ?_
        refine wp_block ?_
        refine wp_seq ?_
        refine wp_region_L (W0 := w) ((g5, .cells #[.int .u8 57] 5 (0, 0)) :: (g4, .cells #[.int .u8 48] 5 (0, 0)) :: (g3, .cells #[.int .u8 90] 5 (0, 0)) :: (g2, .cells #[.int .u8 65] 5 (0, 0)) :: (g1, .cells cur1 5 frg1) :: Kl1) (hW9) ?_
        refine lm (v := .int .i64 ((i : Nat) : Int)) rfl rfl ?_
        refine lp (v := placeAt g2 g3 g4 g5 i) rfl rfl (run_idxV (j := .i64) (k := i) rfl Tryd.underlying85 (by kernel_rfl) Tryd.underlying84 rfl (by kernel_rfl) (by kernel_rfl) (by omega) (places_get0 (by omega))) ?_
        refine lm (v := .int .i64 ((i : Nat) : Int)) rfl rfl ?_
        refine lm (v := placeAt g2 g3 g4 g5 i) rfl rfl ?_
        refine wpL_done (fun W11 hW11 => ?_)
        refine (show Code.wp _ _ _ _ _ from ?_)
        refine wp_seq ?_
        refine wp_seq ?_
        refine wp_region_L (W0 := w) ((g5, .cells #[.int .u8 57] 5 (0, 0)) :: (g4, .cells #[.int .u8 48] 5 (0, 0)) :: (g3, .cells #[.int .u8 90] 5 (0, 0)) :: (g2, .cells #[.int .u8 65] 5 (0, 0)) :: (g1, .cells cur1 5 frg1) :: Kl1) (hW11) ?_
        refine lm (v := .int .i64 0) rfl rfl ?_
        refine wpL_done (fun W12 hW12 => ?_)
        refine (show Code.wp _ _ _ _ _ from ?_)
        refine wp_block ?_
        obtain ⟨b6, hb6⟩ : ∃ b, l[i]? = some b := ⟨_, List.getElem?_eq_getElem (by omega)⟩
        have lb6 := b6.toNat_lt
        go_loopw [5, 23] (fun u5 u23 wr => ∃ (k : Nat) (v2 : Value) (Kl2 : List (Nat × Obj)) (cur2 : Array Value) (x : UInt8), (k ≤ 256) ∧ (OwnL w 42 2 v2 (missTo l i ++ rowM l i k).length (mcells (missTo l i ++ rowM l i k)) Kl2) ∧ (RowB cur2 (l.set i x)) ∧ ((l.set i x).length ≤ cur2.size) ∧ (cur2.size ≤ frg1.1) ∧ (∀ g ∈ ([g5, g4, g3, g2, g1] : List Nat), ∀ q ∈ Kl2, q.1 ≠ g) ∧ v2 = u5 ∧ u23 = .int .i64 ((k : Nat) : Int) ∧ KS w ((g5, .cells #[.int .u8 57] 5 (0, 0)) :: (g4, .cells #[.int .u8 48] 5 (0, 0)) :: (g3, .cells #[.int .u8 90] 5 (0, 0)) :: (g2, .cells #[.int .u8 65] 5 (0, 0)) :: (g1, .cells cur2 5 frg1) :: Kl2) wr) (fun _ u23 _ => 256 - (intOf u23).toNat)
        case atStart => exact ⟨0, v1, Kl1, cur1, b6, (Nat.zero_le _), (by rw [show (missTo l i ++ rowM l i 0) = missTo l i from by simp [rowM]]; exact hO1), (by rw [set_same hb6]; exact hr1), (by simpa using hz1), hy1, (List.forall_mem_cons.2 ⟨(fun q hq => ((hn1 g5 (.head _)) _ hq)), (List.forall_mem_cons.2 ⟨(fun q hq => ((hn1 g4 (.tail _ (.head _))) _ hq)), (List.forall_mem_cons.2 ⟨(fun q hq => ((hn1 g3 (.tail _ (.tail _ (.head _)))) _ hq)), (List.forall_mem_cons.2 ⟨(fun q hq => ((hn1 g2 (.tail _ (.tail _ (.tail _ (.head _))))) _ hq)), (List.forall_mem_cons.2 ⟨(fun q hq => ((hn1 g1 (.tail _ (.tail _ (.tail _ (.tail _ (.head _)))))) _ hq)), (List.forall_mem_nil _)⟩)⟩)⟩)⟩)⟩), rfl, rfl, hW12⟩
        case round =>
          obtain ⟨k, v2, Kl2, cur2, x, hk, hO2, hr2, hz2, hy2, hn2, rfl, rfl, hL13⟩ := hrel
          have hrl := rowM_len l i k
          have hal : (missTo l i ++ rowM l i k).length ≤ 256 * i + k := by rw [List.length_append]; omega
          have hsl : (l.set i x).length = l.length := List.length_set
          refine wp_seq ?_
          refine wp_region_L (W0 := w) ((g5, .cells #[.int .u8 57] 5 (0, 0)) :: (g4, .cells #[.int .u8 48] 5 (0, 0)) :: (g3, .cells #[.int .u8 90] 5 (0, 0)) :: (g2, .cells #[.int .u8 65] 5 (0, 0)) :: (g1, .cells cur2 5 frg1) :: Kl2) (hL13) ?_
          refine lp (v := .bool (decide (k < 256))) rfl rfl (run_bin rfl (vx := (.int .i64 ((k : Nat) : Int))) (vy := (.int .i64 ((256 : Nat) : Int))) (by kernel_rfl) (by kernel_rfl) fun w => bn_lss rfl w) ?_
          refine wpL_done (fun W14 hW14 => ?_)
          refine (show Code.wp _ _ _ _ _ from ?_)
          refine wp_seq ?_
          cases hd3 : (decide (k < 256)) with
          | false =>
            have h3 : ¬ (k < 256) := of_decide_eq_false hd3
            clear hd3
            obtain rfl : k = 256 := by omega
            refine wp_cond_false rfl ?_
            refine wp_exit ?_
            refine (show Code.wp _ _ _ _ _ from ?_)
            refine wp_region_L (W0 := w) ((g5, .cells #[.int .u8 57] 5 (0, 0)) :: (g4, .cells #[.int .u8 48] 5 (0, 0)) :: (g3, .cells #[.int .u8 90] 5 (0, 0)) :: (g2, .cells #[.int .u8 65] 5 (0, 0)) :: (g1, .cells cur2 5 frg1) :: Kl2) (hW14) ?_
            refine lm (v := .slice (some ⟨g1, 0, none⟩) l.length capg1) rfl rfl ?_
            refine lm (v := .int .i64 ((i : Nat) : Int)) rfl rfl ?_
            refine lm (v := strV l) rfl rfl ?_
            refine lm (v := .int .i64 ((i : Nat) : Int)) rfl rfl ?_
            refine lp (v := .int .u8 ((b6.toNat : Nat) : Int)) rfl rfl (run_idxS (j := .i64) (l := l) (k := i) (b := b6) rfl Tryd.underlying9 (by kernel_rfl) (by kernel_rfl) hb6) ?_
            refine lp (v := .pointer (some ⟨g1, 0 + i * 1, none⟩)) rfl rfl (run_idxL (j := .i64) (n := l.length) (cap := capg1) (b := g1) (off := 0) (k := i) (sz := 1) rfl Tryd.underlying31 (by kernel_rfl) (by kernel_rfl) (by kernel_rfl) (by omega)) ?_
            have Rcur7 : RowB (cur2.setIfInBounds (0 + i * 1) (.int .u8 ((b6.toNat : Nat) : Int))) ((l.set i x).set i b6) := rowb_set hr2 hz2 (by omega)
            have Zcur7 : ((l.set i x).set i b6).length ≤ (cur2.setIfInBounds (0 + i * 1) (.int .u8 ((b6.toNat : Nat) : Int))).size := by simpa using hz2
            have Ycur7 : (cur2.setIfInBounds (0 + i * 1) (.int .u8 ((b6.toNat : Nat) : Int))).size ≤ frg1.1 := by simpa using hy2
            rw [set_back hb6] at Rcur7 Zcur7
            refine wpL_s ((g5, .cells #[.int .u8 57] 5 (0, 0)) :: (g4, .cells #[.int .u8 48] 5 (0, 0)) :: (g3, .cells #[.int .u8 90] 5 (0, 0)) :: (g2, .cells #[.int .u8 65] 5 (0, 0)) :: (g1, .cells (cur2.setIfInBounds (0 + i * 1) (.int .u8 ((b6.toNat : Nat) : Int))) 5 frg1) :: Kl2) rfl rfl (st_at (off := 0 + i * 1) (v := .int .u8 ((b6.toNat : Nat) : Int)) rfl (by kernel_rfl) (by kernel_rfl) (.tail _ (.tail _ (.tail _ (.tail _ (.head _))))) Bg1 (by kernel_rfl) rfl rfl (by have := hz2; omega) (.inl hy2) (List.forall_mem_cons.2 ⟨.inr ⟨(.head _), (Ne.symm (Fg5 _ (.head _)))⟩, (List.forall_mem_cons.2 ⟨.inr ⟨(.tail _ (.head _)), (Ne.symm (Fg4 _ (.head _)))⟩, (List.forall_mem_cons.2 ⟨.inr ⟨(.tail _ (.tail _ (.head _))), (Ne.symm (Fg3 _ (.head _)))⟩, (List.forall_mem_cons.2 ⟨.inr ⟨(.tail _ (.tail _ (.tail _ (.head _)))), (Ne.symm (Fg2 _ (.head _)))⟩, (List.forall_mem_cons.2 ⟨.inl rfl, (fun p hp => .inr ⟨(.tail _ (.tail _ (.tail _ (.tail _ (.tail _ hp))))), ((hn2 g1 (.tail _ (.tail _ (.tail _ (.tail _ (.head _)))))) _ hp)⟩)⟩)⟩)⟩)⟩)⟩)) ?_
            refine wpL_done (fun W15 hW15 => ?_)
            refine (show Code.wp _ _ _ _ _ from ?_)
            refine wp_region_L (W0 := w) ((g5, .cells #[.int .u8 57] 5 (0, 0)) :: (g4, .cells #[.int .u8 48] 5 (0, 0)) :: (g3, .cells #[.int .u8 90] 5 (0, 0)) :: (g2, .cells #[.int .u8 65] 5 (0, 0)) :: (g1, .cells (cur2.setIfInBounds (0 + i * 1) (.int .u8 ((b6.toNat : Nat) : Int))) 5 frg1) :: Kl2) (hW15) ?_
            refine lp (v := .int .i64 (((i + 1) : Nat) : Int)) rfl rfl (run_bin rfl (vx := (.int .i64 ((i : Nat) : Int))) (vy := (.int .i64 ((1 : Nat) : Int))) (by kernel_rfl) (by kernel_rfl) fun w => bn_add (z := (i + 1)) rfl (wr_i64 (by omega)) w) ?_
            refine lm (v := .int .i64 (((i + 1) : Nat) : Int)) rfl rfl ?_
            refine wpL_done (fun W16 hW16 => ?_)
            go_roundw
            case rel =>
              repeat apply Exists.intro
              exact ⟨⟨i + 1, v2, Kl2, (cur2.setIfInBounds (0 + i * 1) (.int .u8 ((b6.toNat : Nat) : Int))), (by omega), (by rw [missTo_succ]; exact hO2), Rcur7, Zcur7, Ycur7, (List.forall_mem_cons.2 ⟨(fun q hq => ((hn2 g5 (.head _)) _ hq)), (List.forall_mem_cons.2 ⟨(fun q hq => ((hn2 g4 (.tail _ (.head _))) _ hq)), (List.forall_mem_cons.2 ⟨(fun q hq => ((hn2 g3 (.tail _ (.tail _ (.head _)))) _ hq)), (List.forall_mem_cons.2 ⟨(fun q hq => ((hn2 g2 (.tail _ (.tail _ (.tail _ (.head _))))) _ hq)), (List.forall_mem_cons.2 ⟨(fun q hq => ((hn2 g1 (.tail _ (.tail _ (.tail _ (.tail _ (.head _)))))) _ hq)), (List.forall_mem_nil _)⟩)⟩)⟩)⟩)⟩), rfl, rfl, hW16⟩, rfl⟩
            case measure => (show 11 - (intOf (.int .i64 (((i + 1) : Nat) : Int))).toNat < 11 - (intOf (.int .i64 ((i : Nat) : Int))).toNat); simp only [intOf]; omega
          | true =>
            have h3 : k < 256 := of_decide_eq_true hd3
            clear hd3
            obtain ⟨c, hc⟩ : ∃ c : UInt8, c.toNat = k := ⟨UInt8.ofNat k, by simp; omega⟩
            refine wp_cond_true rfl ?_
            refine wp_skip ?_
            refine (show Code.wp _ _ _ _ _ from ?_)
            refine wp_seq ?_
            refine wp_block ?_
            refine wp_seq ?_
            refine wp_region_L (W0 := w) ((g5, .cells #[.int .u8 57] 5 (0, 0)) :: (g4, .cells #[.int .u8 48] 5 (0, 0)) :: (g3, .cells #[.int .u8 90] 5 (0, 0)) :: (g2, .cells #[.int .u8 65] 5 (0, 0)) :: (g1, .cells cur2 5 frg1) :: Kl2) (hW14) ?_
            refine lm (v := .int .i64 ((k : Nat) : Int)) rfl rfl ?_
            refine lm (v := .int .i64 ((k : Nat) : Int)) rfl rfl ?_
            refine wpL_done (fun W17 hW17 => ?_)
            refine (show Code.wp _ _ _ _ _ from ?_)
            refine wp_seq ?_
            refine wp_region_L (W0 := w) ((g5, .cells #[.int .u8 57] 5 (0, 0)) :: (g4, .cells #[.int .u8 48] 5 (0, 0)) :: (g3, .cells #[.int .u8 90] 5 (0, 0)) :: (g2, .cells #[.int .u8 65] 5 (0, 0)) :: (g1, .cells cur2 5 frg1) :: Kl2) (hW17) ?_
            refine lm (v := .int .i64 ((k : Nat) : Int)) rfl rfl ?_
            refine lp (v := .int .u8 ((c.toNat : Nat) : Int)) rfl rfl (run_conv rfl (vx := (.int .i64 ((k : Nat) : Int))) (by kernel_rfl) fun w => cv_int Tryd.underlying3 Tryd.underlying5 (by rw [hc]; exact wr_u8 (by omega)) w) ?_
            refine lm (v := .int .u8 ((c.toNat : Nat) : Int)) rfl rfl ?_
            refine wpL_done (fun W18 hW18 => ?_)
            refine (show Code.wp _ _ _ _ _ from ?_)
            refine wp_seq ?_
            refine wp_region_L (W0 := w) ((g5, .cells #[.int .u8 57] 5 (0, 0)) :: (g4, .cells #[.int .u8 48] 5 (0, 0)) :: (g3, .cells #[.int .u8 90] 5 (0, 0)) :: (g2, .cells #[.int .u8 65] 5 (0, 0)) :: (g1, .cells cur2 5 frg1) :: Kl2) (hW18) ?_
            refine lm (v := .slice (some ⟨g1, 0, none⟩) l.length capg1) rfl rfl ?_
            refine lm (v := .int .i64 ((i : Nat) : Int)) rfl rfl ?_
            refine lm (v := .int .u8 ((c.toNat : Nat) : Int)) rfl rfl ?_
            refine lp (v := .pointer (some ⟨g1, 0 + i * 1, none⟩)) rfl rfl (run_idxL (j := .i64) (n := l.length) (cap := capg1) (b := g1) (off := 0) (k := i) (sz := 1) rfl Tryd.underlying31 (by kernel_rfl) (by kernel_rfl) (by kernel_rfl) (by omega)) ?_
            have Rcur8 : RowB (cur2.setIfInBounds (0 + i * 1) (.int .u8 ((c.toNat : Nat) : Int))) ((l.set i x).set i c) := rowb_set hr2 hz2 (by omega)
            have Zcur8 : ((l.set i x).set i c).length ≤ (cur2.setIfInBounds (0 + i * 1) (.int .u8 ((c.toNat : Nat) : Int))).size := by simpa using hz2
            have Ycur8 : (cur2.setIfInBounds (0 + i * 1) (.int .u8 ((c.toNat : Nat) : Int))).size ≤ frg1.1 := by simpa using hy2
            rw [List.set_set] at Rcur8 Zcur8
            refine wpL_s ((g5, .cells #[.int .u8 57] 5 (0, 0)) :: (g4, .cells #[.int .u8 48] 5 (0, 0)) :: (g3, .cells #[.int .u8 90] 5 (0, 0)) :: (g2, .cells #[.int .u8 65] 5 (0, 0)) :: (g1, .cells (cur2.setIfInBounds (0 + i * 1) (.int .u8 ((c.toNat : Nat) : Int))) 5 frg1) :: Kl2) rfl rfl (st_at (off := 0 + i * 1) (v := .int .u8 ((c.toNat : Nat) : Int)) rfl (by kernel_rfl) (by kernel_rfl) (.tail _ (.tail _ (.tail _ (.tail _ (.head _))))) Bg1 (by kernel_rfl) rfl rfl (by have := hz2; omega) (.inl hy2) (List.forall_mem_cons.2 ⟨.inr ⟨(.head _), (Ne.symm (Fg5 _ (.head _)))⟩, (List.forall_mem_cons.2 ⟨.inr ⟨(.tail _ (.head _)), (Ne.symm (Fg4 _ (.head _)))⟩, (List.forall_mem_cons.2 ⟨.inr ⟨(.tail _ (.tail _ (.head _))), (Ne.symm (Fg3 _ (.head _)))⟩, (List.forall_mem_cons.2 ⟨.inr ⟨(.tail _ (.tail _ (.tail _ (.head _)))), (Ne.symm (Fg2 _ (.head _)))⟩, (List.forall_mem_cons.2 ⟨.inl rfl, (fun p hp => .inr ⟨(.tail _ (.tail _ (.tail _ (.tail _ (.tail _ hp))))), ((hn2 g1 (.tail _ (.tail _ (.tail _ (.tail _ (.head _)))))) _ hp)⟩)⟩)⟩)⟩)⟩)⟩)) ?_
            refine wpL_done (fun W19 hW19 => ?_)
            refine (show Code.wp _ _ _ _ _ from ?_)
            refine wp_seq ?_
            refine wp_region_L (W0 := w) ((g5, .cells #[.int .u8 57] 5 (0, 0)) :: (g4, .cells #[.int .u8 48] 5 (0, 0)) :: (g3, .cells #[.int .u8 90] 5 (0, 0)) :: (g2, .cells #[.int .u8 65] 5 (0, 0)) :: (g1, .cells (cur2.setIfInBounds (0 + i * 1) (.int .u8 ((c.toNat : Nat) : Int))) 5 frg1) :: Kl2) (hW19) ?_
            refine lm (v := .int .u8 ((c.toNat : Nat) : Int)) rfl rfl ?_
            refine lm (v := strV l) rfl rfl ?_
            refine lm (v := .int .i64 ((i : Nat) : Int)) rfl rfl ?_
            refine lp (v := .int .u8 ((b6.toNat : Nat) : Int)) rfl rfl (run_idxS (j := .i64) (l := l) (k := i) (b := b6) rfl Tryd.underlying9 (by kernel_rfl) (by kernel_rfl) hb6) ?_
            refine lp (v := .bool (!(decide (c.toNat = b6.toNat)))) rfl rfl (run_bin rfl (vx := (.int .u8 ((c.toNat : Nat) : Int))) (vy := (.int .u8 ((b6.toNat : Nat) : Int))) (by kernel_rfl) (by kernel_rfl) fun w => bn_neq rfl w) ?_
            refine lm (v := .bool (!(decide (c.toNat = b6.toNat)))) rfl rfl ?_
            cases hd4 : (decide (c.toNat = b6.toNat)) with
            | false =>
              have h4 : ¬ (c.toNat = b6.toNat) := of_decide_eq_false hd4
              clear hd4
              refine lm (v := placeAt g2 g3 g4 g5 i) rfl rfl ?_
              refine lm (v := .int .u8 ((c.toNat : Nat) : Int)) rfl rfl ?_
              refine lv (v := .bool (mayB i c)) rfl rfl (yb_may (k := i) (b := c) rfl (by kernel_rfl) (by kernel_rfl) (.tail _ (.tail _ (.tail _ (.head _)))) (.tail _ (.tail _ (.head _))) (.tail _ (.head _)) (.head _)) ?_
              refine lm (v := .bool (mayB i c)) rfl rfl ?_
              refine lm (v := .bool (mayB i c)) rfl rfl ?_
              cases h5 : (mayB i c) with
              | false =>
                refine ln rfl ?_
                refine ln rfl ?_
                refine ln rfl ?_
                refine lm (v := .bool false) rfl rfl ?_
                refine wpL_done (fun W20 hW20 => ?_)
                refine (show Code.wp _ _ _ _ _ from ?_)
                refine wp_cond_false rfl ?_
                refine wp_skip ?_
                refine (show Code.wp _ _ _ _ _ from ?_)
                refine wp_region_L (W0 := w) ((g5, .cells #[.int .u8 57] 5 (0, 0)) :: (g4, .cells #[.int .u8 48] 5 (0, 0)) :: (g3, .cells #[.int .u8 90] 5 (0, 0)) :: (g2, .cells #[.int .u8 65] 5 (0, 0)) :: (g1, .cells (cur2.setIfInBounds (0 + i * 1) (.int .u8 ((c.toNat : Nat) : Int))) 5 frg1) :: Kl2) (hW20) ?_
                refine lp (v := .int .i64 (((k + 1) : Nat) : Int)) rfl rfl (run_bin rfl (vx := (.int .i64 ((k : Nat) : Int))) (vy := (.int .i64 ((1 : Nat) : Int))) (by kernel_rfl) (by kernel_rfl) fun w => bn_add (z := (k + 1)) rfl (wr_i64 (by omega)) w) ?_
                refine lm (v := .int .i64 (((k + 1) : Nat) : Int)) rfl rfl ?_
                refine wpL_done (fun W21 hW21 => ?_)
                go_roundw
                case rel =>
                  repeat apply Exists.intro
                  exact ⟨⟨k + 1, v2, Kl2, (cur2.setIfInBounds (0 + i * 1) (.int .u8 ((c.toNat : Nat) : Int))), c, (by omega), (by rw [acc_no hc (hit_may h5)]; exact hO2), Rcur8, Zcur8, Ycur8, (List.forall_mem_cons.2 ⟨(fun q hq => ((hn2 g5 (.head _)) _ hq)), (List.forall_mem_cons.2 ⟨(fun q hq => ((hn2 g4 (.tail _ (.head _))) _ hq)), (List.forall_mem_cons.2 ⟨(fun q hq => ((hn2 g3 (.tail _ (.tail _ (.head _)))) _ hq)), (List.forall_mem_cons.2 ⟨(fun q hq => ((hn2 g2 (.tail _ (.tail _ (.tail _ (.head _))))) _ hq)), (List.forall_mem_cons.2 ⟨(fun q hq => ((hn2 g1 (.tail _ (.tail _ (.tail _ (.tail _ (.head _)))))) _ hq)), (List.forall_mem_nil _)⟩)⟩)⟩)⟩)⟩), rfl, rfl, hW21⟩, rfl⟩
                case measure => (show 256 - (intOf (.int .i64 (((k + 1) : Nat) : Int))).toNat < 256 - (intOf (.int .i64 ((k : Nat) : Int))).toNat); simp only [intOf]; omega
              | true =>
                refine lm (v := .slice (some ⟨g1, 0, none⟩) l.length capg1) rfl rfl ?_
                refine lv (v := strV (l.set i c)) rfl rfl (yb_str (n := l.length) (cap := capg1) (l := (l.set i c)) rfl Tryd.underlying31 Tryd.underlying5 Tryd.underlying9 (by kernel_rfl) (by simp) (.tail _ (.tail _ (.tail _ (.tail _ (.head _))))) Rcur8) ?_
                refine lv (v := .bool (agrB (l.set i c))) rfl rfl (yb_call (f := 43) (args := #[strV (l.set i c)]) (fun _ => by kernel_rfl) fun W hW => agrees_any (l.set i c) (by simp; omega) W) ?_
                refine lm (v := .bool (agrB (l.set i c))) rfl rfl ?_
                refine wpL_done (fun W22 hW22 => ?_)
                refine (show Code.wp _ _ _ _ _ from ?_)
                cases h6 : (agrB (l.set i c)) with
                | false =>
                  refine wp_cond_false rfl ?_
                  refine wp_skip ?_
                  refine (show Code.wp _ _ _ _ _ from ?_)
                  refine wp_region_L (W0 := w) ((g5, .cells #[.int .u8 57] 5 (0, 0)) :: (g4, .cells #[.int .u8 48] 5 (0, 0)) :: (g3, .cells #[.int .u8 90] 5 (0, 0)) :: (g2, .cells #[.int .u8 65] 5 (0, 0)) :: (g1, .cells (cur2.setIfInBounds (0 + i * 1) (.int .u8 ((c.toNat : Nat) : Int))) 5 frg1) :: Kl2) (hW22) ?_
                  refine lp (v := .int .i64 (((k + 1) : Nat) : Int)) rfl rfl (run_bin rfl (vx := (.int .i64 ((k : Nat) : Int))) (vy := (.int .i64 ((1 : Nat) : Int))) (by kernel_rfl) (by kernel_rfl) fun w => bn_add (z := (k + 1)) rfl (wr_i64 (by omega)) w) ?_
                  refine lm (v := .int .i64 (((k + 1) : Nat) : Int)) rfl rfl ?_
                  refine wpL_done (fun W23 hW23 => ?_)
                  go_roundw
                  case rel =>
                    repeat apply Exists.intro
                    exact ⟨⟨k + 1, v2, Kl2, (cur2.setIfInBounds (0 + i * 1) (.int .u8 ((c.toNat : Nat) : Int))), c, (by omega), (by rw [acc_no hc (hit_agr h6)]; exact hO2), Rcur8, Zcur8, Ycur8, (List.forall_mem_cons.2 ⟨(fun q hq => ((hn2 g5 (.head _)) _ hq)), (List.forall_mem_cons.2 ⟨(fun q hq => ((hn2 g4 (.tail _ (.head _))) _ hq)), (List.forall_mem_cons.2 ⟨(fun q hq => ((hn2 g3 (.tail _ (.tail _ (.head _)))) _ hq)), (List.forall_mem_cons.2 ⟨(fun q hq => ((hn2 g2 (.tail _ (.tail _ (.tail _ (.head _))))) _ hq)), (List.forall_mem_cons.2 ⟨(fun q hq => ((hn2 g1 (.tail _ (.tail _ (.tail _ (.tail _ (.head _)))))) _ hq)), (List.forall_mem_nil _)⟩)⟩)⟩)⟩)⟩), rfl, rfl, hW23⟩, rfl⟩
                  case measure => (show 256 - (intOf (.int .i64 (((k + 1) : Nat) : Int))).toNat < 256 - (intOf (.int .i64 ((k : Nat) : Int))).toNat); simp only [intOf]; omega
                | true =>
                  refine wp_cond_true rfl ?_
                  refine wp_region_L (W0 := w) ((g5, .cells #[.int .u8 57] 5 (0, 0)) :: (g4, .cells #[.int .u8 48] 5 (0, 0)) :: (g3, .cells #[.int .u8 90] 5 (0, 0)) :: (g2, .cells #[.int .u8 65] 5 (0, 0)) :: (g1, .cells (cur2.setIfInBounds (0 + i * 1) (.int .u8 ((c.toNat : Nat) : Int))) 5 frg1) :: Kl2) (hW22) ?_
                  refine lm (v := v2) rfl rfl ?_
                  refine lm (v := .int .i64 ((i : Nat) : Int)) rfl rfl ?_
                  refine lm (v := .int .u8 ((c.toNat : Nat) : Int)) rfl rfl ?_
                  refine lm (v := .agg #[.int .i64 ((i : Nat) : Int), .int .u8 ((c.toNat : Nat) : Int)]) rfl rfl ?_
                  refine wpL_new (fun g => .slice (some ⟨g, 0, none⟩) 1 1) (obi := .cells #[.int .i64 ((i : Nat) : Int), .int .u8 ((c.toNat : Nat) : Int)] 42 (0, 0)) rfl rfl (fun _ => by kernel_rfl) (fun _ => by simp only [List.setIfInBounds_toArray, List.set_cons_succ, List.set_cons_zero] <;> rfl) fun g9 Bg9 Fg9 => ?_
                  refine wpL_g (AppO w 42 2 [(g5, .cells #[.int .u8 57] 5 (0, 0)), (g4, .cells #[.int .u8 48] 5 (0, 0)), (g3, .cells #[.int .u8 90] 5 (0, 0)), (g2, .cells #[.int .u8 65] 5 (0, 0)), (g1, .cells (cur2.setIfInBounds (0 + i * 1) (.int .u8 ((c.toNat : Nat) : Int))) 5 frg1)] (((missTo l i ++ rowM l i k).length) + 1) ((mcells (missTo l i ++ rowM l i k)) ++ [.int .i64 ((i : Nat) : Int), .int .u8 ((c.toNat : Nat) : Int)])) rfl rfl (app_own el_miss (m := 1) (c := 1) (news := [.int .i64 ((i : Nat) : Int), .int .u8 ((c.toNat : Nat) : Int)]) rfl (by kernel_rfl) (by kernel_rfl) (.head _) hO2 (fun p hp => (.tail _ (.tail _ (.tail _ (.tail _ (.tail _ (.tail _ hp))))))) (List.forall_mem_cons.2 ⟨⟨(.tail _ (.head _)), (fun q hq => ((hn2 g5 (.head _)) _ hq))⟩, (List.forall_mem_cons.2 ⟨⟨(.tail _ (.tail _ (.head _))), (fun q hq => ((hn2 g4 (.tail _ (.head _))) _ hq))⟩, (List.forall_mem_cons.2 ⟨⟨(.tail _ (.tail _ (.tail _ (.head _)))), (fun q hq => ((hn2 g3 (.tail _ (.tail _ (.head _)))) _ hq))⟩, (List.forall_mem_cons.2 ⟨⟨(.tail _ (.tail _ (.tail _ (.tail _ (.head _))))), (fun q hq => ((hn2 g2 (.tail _ (.tail _ (.tail _ (.head _))))) _ hq))⟩, (List.forall_mem_cons.2 ⟨⟨(.tail _ (.tail _ (.tail _ (.tail _ (.tail _ (.head _)))))), (fun q hq => ((hn2 g1 (.tail _ (.tail _ (.tail _ (.tail _ (.head _)))))) _ hq))⟩, (List.forall_mem_nil _)⟩)⟩)⟩)⟩)⟩) rfl (by simp [Value.oneCell']) (by omega) (by omega) (by omega)) (fun _ => by simp only [List.setIfInBounds_toArray, List.set_cons_succ, List.set_cons_zero] <;> rfl) ?_
                  rintro v10 K9 ⟨Kl10, O10, N10, rfl⟩
                  refine lm (v := v10) rfl rfl ?_
                  refine wpL_done (fun W24 hW24 => ?_)
                  refine (show Code.wp _ _ _ _ _ from ?_)
                  refine wp_region_L (W0 := w) ((g5, .cells #[.int .u8 57] 5 (0, 0)) :: (g4, .cells #[.int .u8 48] 5 (0, 0)) :: (g3, .cells #[.int .u8 90] 5 (0, 0)) :: (g2, .cells #[.int .u8 65] 5 (0, 0)) :: (g1, .cells (cur2.setIfInBounds (0 + i * 1) (.int .u8 ((c.toNat : Nat) : Int))) 5 frg1) :: Kl10) (hW24) ?_
                  refine lp (v := .int .i64 (((k + 1) : Nat) : Int)) rfl rfl (run_bin rfl (vx := (.int .i64 ((k : Nat) : Int))) (vy := (.int .i64 ((1 : Nat) : Int))) (by kernel_rfl) (by kernel_rfl) fun w => bn_add (z := (k + 1)) rfl (wr_i64 (by omega)) w) ?_
                  refine lm (v := .int .i64 (((k + 1) : Nat) : Int)) rfl rfl ?_
                  refine wpL_done (fun W25 hW25 => ?_)
                  go_roundw
                  case rel =>
                    repeat apply Exists.intro
                    exact ⟨⟨k + 1, v10, Kl10, (cur2.setIfInBounds (0 + i * 1) (.int .u8 ((c.toNat : Nat) : Int))), c, (by omega), (own_miss O10 (acc_hit hc (hit_yes hb6 h4 h5 h6))), Rcur8, Zcur8, Ycur8, (List.forall_mem_cons.2 ⟨(fun q hq => ((N10 _ (.head _)) _ hq)), (List.forall_mem_cons.2 ⟨(fun q hq => ((N10 _ (.tail _ (.head _))) _ hq)), (List.forall_mem_cons.2 ⟨(fun q hq => ((N10 _ (.tail _ (.tail _ (.head _)))) _ hq)), (List.forall_mem_cons.2 ⟨(fun q hq => ((N10 _ (.tail _ (.tail _ (.tail _ (.head _))))) _ hq)), (List.forall_mem_cons.2 ⟨(fun q hq => ((N10 _ (.tail _ (.tail _ (.tail _ (.tail _ (.head _)))))) _ hq)), (List.forall_mem_nil _)⟩)⟩)⟩)⟩)⟩), rfl, rfl, hW25⟩, rfl⟩
                  case measure => (show 256 - (intOf (.int .i64 (((k + 1) : Nat) : Int))).toNat < 256 - (intOf (.int .i64 ((k : Nat) : Int))).toNat); simp only [intOf]; omega
            | true =>
              have h4 : c.toNat = b6.toNat := of_decide_eq_true hd4
              clear hd4
              refine ln rfl ?_
              refine ln rfl ?_
              refine ln rfl ?_
              refine lm (v := .bool false) rfl rfl ?_
              refine lm (v := .bool false) rfl rfl ?_
              refine ln rfl ?_
              refine ln rfl ?_
              refine ln rfl ?_
              refine lm (v := .bool false) rfl rfl ?_
              refine wpL_done (fun W26 hW26 => ?_)
              refine (show Code.wp _ _ _ _ _ from ?_)
              refine wp_cond_false rfl ?_
              refine wp_skip ?_
              refine (show Code.wp _ _ _ _ _ from ?_)
              refine wp_region_L (W0 := w) ((g5, .cells #[.int .u8 57] 5 (0, 0)) :: (g4, .cells #[.int .u8 48] 5 (0, 0)) :: (g3, .cells #[.int .u8 90] 5 (0, 0)) :: (g2, .cells #[.int .u8 65] 5 (0, 0)) :: (g1, .cells (cur2.setIfInBounds (0 + i * 1) (.int .u8 ((c.toNat : Nat) : Int))) 5 frg1) :: Kl2) (hW26) ?_
              refine lp (v := .int .i64 (((k + 1) : Nat) : Int)) rfl rfl (run_bin rfl (vx := (.int .i64 ((k : Nat) : Int))) (vy := (.int .i64 ((1 : Nat) : Int))) (by kernel_rfl) (by kernel_rfl) fun w => bn_add (z := (k + 1)) rfl (wr_i64 (by omega)) w) ?_
              refine lm (v := .int .i64 (((k + 1) : Nat) : Int)) rfl rfl ?_
              refine wpL_done (fun W27 hW27 => ?_)
              go_roundw
              case rel =>
                repeat apply Exists.intro
                exact ⟨⟨k + 1, v2, Kl2, (cur2.setIfInBounds (0 + i * 1) (.int .u8 ((c.toNat : Nat) : Int))), c, (by omega), (by rw [acc_no hc (hit_eq hb6 h4)]; exact hO2), Rcur8, Zcur8, Ycur8, (List.forall_mem_cons.2 ⟨(fun q hq => ((hn2 g5 (.head _)) _ hq)), (List.forall_mem_cons.2 ⟨(fun q hq => ((hn2 g4 (.tail _ (.head _))) _ hq)), (List.forall_mem_cons.2 ⟨(fun q hq => ((hn2 g3 (.tail _ (.tail _ (.head _)))) _ hq)), (List.forall_mem_cons.2 ⟨(fun q hq => ((hn2 g2 (.tail _ (.tail _ (.tail _ (.head _))))) _ hq)), (List.forall_mem_cons.2 ⟨(fun q hq => ((hn2 g1 (.tail _ (.tail _ (.tail _ (.tail _ (.head _)))))) _ hq)), (List.forall_mem_nil _)⟩)⟩)⟩)⟩)⟩), rfl, rfl, hW27⟩, rfl⟩
              case measure => (show 256 - (intOf (.int .i64 (((k + 1) : Nat) : Int))).toNat < 256 - (intOf (.int .i64 ((k : Nat) : Int))).toNat); simp only [intOf]; omega
end Go.Proofs.YtbceajgipmjmlaaDoor
namespace Go.Proofs.YtbceajgipmjmlaaDoor
open Go Go.RowKit Tw
def kindsL : List Value := [strV [50, 50, 71, 49], .int .u8 20, .bool false, .bool false, strV [50, 50, 82, 49], .int .u8 20, .bool false, .bool true, strV [52, 50, 71, 49], .int .u8 40, .bool false, .bool false, strV [52, 50, 82, 49], .int .u8 40, .bool false, .bool true, strV [52, 53, 71, 49], .int .u8 40, .bool true, .bool false, strV [52, 53, 82, 49], .int .u8 40, .bool true, .bool true]
structure Env (w : World) : Prop where
  kinds : w.var? Tryd.prog "twistlock/iso.kinds" = some kindsL.toArray
theorem var_keep {P : Program} {w w' : World} {n : String} {cs : Array Value} (h : w.var? P n = some cs) (hb : Below w.heap.size w w') : w'.var? P n = some cs := by
  unfold World.var? at *
  cases hg : P.globalNamed n with
  | none => rw [hg] at h; cases h
  | some g =>
    rw [hg] at h
    simp only [Option.bind_some] at h ⊢
    cases hh : w.heap[g]? with
    | none => rw [hh] at h; cases h
    | some o => rw [hb.block g (lt_of_block hh)]; exact h
theorem Env.keep {w w' : World} (h : Env w) (hb : Below w.heap.size w w') : Env w' := ⟨var_keep h.kinds hb⟩
theorem gKinds : Tryd.prog.globalNamed "twistlock/iso.kinds" = some 0 := by kernel_rfl
theorem Env.cells {w : World} (h : Env w) : ∀ (j : Nat) (v : Value), kindsL[j]? = some v → w.cell? ⟨0, 0 + j, none⟩ = some v := fun j v hv => by
  rw [Nat.zero_add, World.var?_cell gKinds h.kinds j]
  simpa using hv
theorem Env.lt {w : World} (h : Env w) : 0 < w.heap.size := World.block_lt_of_cell? _ _ (h.cells 0 (strV [50, 50, 71, 49]) rfl)
def sizeV (l : List UInt8) : Value := if [50, 50, 71, 49] = l then .tuple #[.agg #[.int .u8 20, .bool false, .bool false], .int .i64 0] else if [50, 50, 82, 49] = l then .tuple #[.agg #[.int .u8 20, .bool false, .bool true], .int .i64 0] else if [52, 50, 71, 49] = l then .tuple #[.agg #[.int .u8 40, .bool false, .bool false], .int .i64 0] else if [52, 50, 82, 49] = l then .tuple #[.agg #[.int .u8 40, .bool false, .bool true], .int .i64 0] else if [52, 53, 71, 49] = l then .tuple #[.agg #[.int .u8 40, .bool true, .bool false], .int .i64 0] else if [52, 53, 82, 49] = l then .tuple #[.agg #[.int .u8 40, .bool true, .bool true], .int .i64 0] else .tuple #[.agg #[.int .u8 0, .bool false, .bool false], .int .i64 32]
def codeV (n : Nat) (h r : Bool) : Value := if 20 = n ∧ false = h ∧ false = r then .tuple #[strV [50, 50, 71, 49], .int .i64 0] else if 20 = n ∧ false = h ∧ true = r then .tuple #[strV [50, 50, 82, 49], .int .i64 0] else if 40 = n ∧ false = h ∧ false = r then .tuple #[strV [52, 50, 71, 49], .int .i64 0] else if 40 = n ∧ false = h ∧ true = r then .tuple #[strV [52, 50, 82, 49], .int .i64 0] else if 40 = n ∧ true = h ∧ false = r then .tuple #[strV [52, 53, 71, 49], .int .i64 0] else if 40 = n ∧ true = h ∧ true = r then .tuple #[strV [52, 53, 82, 49], .int .i64 0] else .tuple #[strV [], .int .i64 32]
theorem eq_kind {x y : Nat} {a b c d e : Bool} {px py : Operand} (h : decide (x = y ∧ a = c ∧ b = d) = e) (w : World) : (do eqGuard .eql 26 px py (.agg #[.int .u8 ((x : Nat) : Int), .bool a, .bool b]) (.agg #[.int .u8 ((y : Nat) : Int), .bool c, .bool d]); binOp .eql 26 (.agg #[.int .u8 ((x : Nat) : Int), .bool a, .bool b]) (.agg #[.int .u8 ((y : Nat) : Int), .bool c, .bool d]) : Sem Value).run Tryd.prog w = .ok (.bool e) w := by
  subst h
  go_simp
  have e1 : ((x : Int) = (y : Int)) = (x = y) := by apply propext; omega
  simp only [e1]
  by_cases h1 : x = y <;> by_cases h2 : a = c <;> by_cases h3 : b = d <;> simp [h1, h2, h3]
theorem eq_miss {x y : Nat} {a b : Nat} {e : Bool} {px py : Operand} (h : decide (x = y ∧ a = b) = e) (w : World) : (do eqGuard .eql 42 px py (.agg #[.int .i64 ((x : Nat) : Int), .int .u8 ((a : Nat) : Int)]) (.agg #[.int .i64 ((y : Nat) : Int), .int .u8 ((b : Nat) : Int)]); binOp .eql 42 (.agg #[.int .i64 ((x : Nat) : Int), .int .u8 ((a : Nat) : Int)]) (.agg #[.int .i64 ((y : Nat) : Int), .int .u8 ((b : Nat) : Int)]) : Sem Value).run Tryd.prog w = .ok (.bool e) w := by
  subst h
  go_simp
  have e1 : ((x : Int) = (y : Int)) = (x = y) := by apply propext; omega
  have e2 : ((a : Int) = (b : Int)) = (a = b) := by apply propext; omega
  simp only [e1, e2]
  by_cases h1 : x = y <;> by_cases h2 : a = b <;> simp [h1, h2]
theorem ne_miss {x y : Nat} {a b : Nat} {e : Bool} {px py : Operand} (h : decide (x = y ∧ a = b) = e) (w : World) : (do eqGuard .neq 42 px py (.agg #[.int .i64 ((x : Nat) : Int), .int .u8 ((a : Nat) : Int)]) (.agg #[.int .i64 ((y : Nat) : Int), .int .u8 ((b : Nat) : Int)]); binOp .neq 42 (.agg #[.int .i64 ((x : Nat) : Int), .int .u8 ((a : Nat) : Int)]) (.agg #[.int .i64 ((y : Nat) : Int), .int .u8 ((b : Nat) : Int)]) : Sem Value).run Tryd.prog w = .ok (.bool (!e)) w := by
  subst h
  go_simp
  have e1 : ((x : Int) = (y : Int)) = (x = y) := by apply propext; omega
  have e2 : ((a : Int) = (b : Int)) = (a = b) := by apply propext; omega
  simp only [e1, e2]
  by_cases h1 : x = y <;> by_cases h2 : a = b <;> simp [h1, h2]
set_option maxRecDepth 100000 in
set_option maxHeartbeats 4000000 in
theorem Size_any (l : List UInt8) (w : World) (hE : Env w) : Calls Tryd.prog 26 #[strV l] w fun e w' => e = .returned (sizeV l) ∧ Below w.heap.size w w' := by
  have HE := Lib.hid hE
  clear hE
  go_enter Tryd.func26, Tryd.ntmps26
  refine wp_seq ?_
  refine wp_region_L (W0 := w) [] (KS.start w) ?_
  refine wpL_new (fun g => .pointer (some ⟨g, 0, none⟩)) (obi := .cells #[.int .u8 0, .bool false, .bool false] 26 (0, 0)) rfl rfl (fun _ => by kernel_rfl) (fun _ => by simp only [List.setIfInBounds_toArray, List.set_cons_succ, List.set_cons_zero] <;> rfl) fun g1 Bg1 Fg1 => ?_
  refine lm (v := .int .i64 0) rfl rfl ?_
  refine wpL_done (fun W1 hW1 => ?_)
  refine (show Code.wp _ _ _ _ _ from ?_)
  refine wp_seq ?_
  refine wp_seq ?_
  refine wp_region_L (W0 := w) [(g1, .cells #[.int .u8 0, .bool false, .bool false] 26 (0, 0))] (hW1) ?_
  refine lv (v := .agg #[strV [50, 50, 71, 49], .int .u8 20, .bool false, .bool false, strV [50, 50, 82, 49], .int .u8 20, .bool false, .bool true, strV [52, 50, 71, 49], .int .u8 40, .bool false, .bool false, strV [52, 50, 82, 49], .int .u8 40, .bool false, .bool true, strV [52, 53, 71, 49], .int .u8 40, .bool true, .bool false, strV [52, 53, 82, 49], .int .u8 40, .bool true, .bool true]) rfl rfl (yb_olds (cs := kindsL) rfl (by kernel_rfl) HE.out.cells HE.out.lt Tryd.underlying92 rfl (by kernel_rfl)) ?_
  refine lm (v := .int .i64 0) rfl rfl ?_
  refine wpL_done (fun W2 hW2 => ?_)
  refine (show Code.wp _ _ _ _ _ from ?_)
  refine wp_block ?_
  refine wp_loop_rounds 7 ?_
  refine (show Code.wp _ _ _ _ _ from ?_)
  refine wp_seq ?_
  refine wp_region_L (W0 := w) [(g1, .cells #[.int .u8 0, .bool false, .bool false] 26 (0, 0))] (hW2) ?_
  refine lm (v := .bool true) rfl rfl ?_
  refine wpL_done (fun W3 hW3 => ?_)
  refine (show Code.wp _ _ _ _ _ from ?_)
  refine wp_seq ?_
  refine wp_cond_true rfl ?_
  refine wp_skip ?_
  refine (show Code.wp _ _ _ _ _ from ?_)
  refine wp_seq ?_
  refine wp_block ?_
  refine wp_seq ?_
  refine wp_region_L (W0 := w) [(g1, .cells #[.int .u8 0, .bool false, .bool false] 26 (0, 0))] (hW3) ?_
  refine lm (v := .agg #[strV [50, 50, 71, 49], .int .u8 20, .bool false, .bool false]) rfl rfl ?_
  refine wpL_new (fun g => .pointer (some ⟨g, 0, none⟩)) (obi := .cells #[strV [], .int .u8 0, .bool false, .bool false] 91 (0, 0)) rfl rfl (fun _ => by kernel_rfl) (fun _ => by simp only [List.setIfInBounds_toArray, List.set_cons_succ, List.set_cons_zero] <;> rfl) fun g2 Bg2 Fg2 => ?_
  refine wpL_s [(g2, .cells #[strV [50, 50, 71, 49], .int .u8 20, .bool false, .bool false] 91 (0, 0)), (g1, .cells #[.int .u8 0, .bool false, .bool false] 26 (0, 0))] rfl rfl (st_row (off := 0) (v := .agg #[strV [50, 50, 71, 49], .int .u8 20, .bool false, .bool false]) rfl (by kernel_rfl) (by kernel_rfl) (.head _) Bg2 (by kernel_rfl) (by simp [Value.cells]) (by intro v hv; simp [Value.cells] at hv; first | (subst hv; rfl) | (rcases hv with rfl | rfl | rfl | rfl <;> rfl)) (by kernel_rfl) (List.forall_mem_cons.2 ⟨.inl rfl, (List.forall_mem_cons.2 ⟨.inr ⟨(.tail _ (.head _)), (Fg2 _ (.head _))⟩, (List.forall_mem_nil _)⟩)⟩)) ?_
  refine wpL_done (fun W4 hW4 => ?_)
  refine (show Code.wp _ _ _ _ _ from ?_)
  refine wp_seq ?_
  refine wp_region_L (W0 := w) [(g2, .cells #[strV [50, 50, 71, 49], .int .u8 20, .bool false, .bool false] 91 (0, 0)), (g1, .cells #[.int .u8 0, .bool false, .bool false] 26 (0, 0))] (hW4) ?_
  refine lm (v := .pointer (some ⟨g2, 0, none⟩)) rfl rfl ?_
  refine lv (v := strV [50, 50, 71, 49]) rfl rfl (yb_cell (off := 0) rfl (by kernel_rfl) (.head _) Tryd.underlying9 rfl (by kernel_rfl)) ?_
  refine lm (v := strV l) rfl rfl ?_
  refine lp (v := .bool (decide ([50, 50, 71, 49] = l))) rfl rfl (run_bin rfl (vx := strV [50, 50, 71, 49]) (vy := strV l) (by kernel_rfl) (by kernel_rfl) fun w => bs_eql rfl w) ?_
  refine wpL_done (fun W5 hW5 => ?_)
  refine (show Code.wp _ _ _ _ _ from ?_)
  cases hd1 : (decide ([50, 50, 71, 49] = l)) with
  | false =>
    have h1 : ¬ ([50, 50, 71, 49] = l) := of_decide_eq_false hd1
    clear hd1
    refine wp_cond_false rfl ?_
    refine wp_skip ?_
    refine (show Code.wp _ _ _ _ _ from ?_)
    refine wp_region_L (W0 := w) [(g2, .cells #[strV [50, 50, 71, 49], .int .u8 20, .bool false, .bool false] 91 (0, 0)), (g1, .cells #[.int .u8 0, .bool false, .bool false] 26 (0, 0))] (hW5) ?_
    refine lm (v := .int .i64 1) rfl rfl ?_
    refine lm (v := .int .i64 1) rfl rfl ?_
    refine wpL_done (fun W6 hW6 => ?_)
    refine (show Code.wp _ _ _ _ _ from ?_)
    refine wp_seq ?_
    refine wp_region_L (W0 := w) [(g2, .cells #[strV [50, 50, 71, 49], .int .u8 20, .bool false, .bool false] 91 (0, 0)), (g1, .cells #[.int .u8 0, .bool false, .bool false] 26 (0, 0))] (hW6) ?_
    refine lm (v := .bool true) rfl rfl ?_
    refine wpL_done (fun W7 hW7 => ?_)
    refine (show Code.wp _ _ _ _ _ from ?_)
    refine wp_seq ?_
    refine wp_cond_true rfl ?_
    refine wp_skip ?_
    refine (show Code.wp _ _ _ _ _ from ?_)
    refine wp_seq ?_
    refine wp_block ?_
    refine wp_seq ?_
    refine wp_region_L (W0 := w) [(g2, .cells #[strV [50, 50, 71, 49], .int .u8 20, .bool false, .bool false] 91 (0, 0)), (g1, .cells #[.int .u8 0, .bool false, .bool false] 26 (0, 0))] (hW7) ?_
    refine lm (v := .agg #[strV [50, 50, 82, 49], .int .u8 20, .bool false, .bool true]) rfl rfl ?_
    refine wpL_new (fun g => .pointer (some ⟨g, 0, none⟩)) (obi := .cells #[strV [], .int .u8 0, .bool false, .bool false] 91 (0, 0)) rfl rfl (fun _ => by kernel_rfl) (fun _ => by simp only [List.setIfInBounds_toArray, List.set_cons_succ, List.set_cons_zero] <;> rfl) fun g3 Bg3 Fg3 => ?_
    refine wpL_s [(g3, .cells #[strV [50, 50, 82, 49], .int .u8 20, .bool false, .bool true] 91 (0, 0)), (g2, .cells #[strV [50, 50, 71, 49], .int .u8 20, .bool false, .bool false] 91 (0, 0)), (g1, .cells #[.int .u8 0, .bool false, .bool false] 26 (0, 0))] rfl rfl (st_row (off := 0) (v := .agg #[strV [50, 50, 82, 49], .int .u8 20, .bool false, .bool true]) rfl (by kernel_rfl) (by kernel_rfl) (.head _) Bg3 (by kernel_rfl) (by simp [Value.cells]) (by intro v hv; simp [Value.cells] at hv; first | (subst hv; rfl) | (rcases hv with rfl | rfl | rfl | rfl <;> rfl)) (by kernel_rfl) (List.forall_mem_cons.2 ⟨.inl rfl, (List.forall_mem_cons.2 ⟨.inr ⟨(.tail _ (.head _)), (Fg3 _ (.head _))⟩, (List.forall_mem_cons.2 ⟨.inr ⟨(.tail _ (.tail _ (.head _))), (Fg3 _ (.tail _ (.head _)))⟩, (List.forall_mem_nil _)⟩)⟩)⟩)) ?_
    refine wpL_done (fun W8 hW8 => ?_)
    refine (show Code.wp _ _ _ _ _ from ?_)
    refine wp_seq ?_
    refine wp_region_L (W0 := w) [(g3, .cells #[strV [50, 50, 82, 49], .int .u8 20, .bool false, .bool true] 91 (0, 0)), (g2, .cells #[strV [50, 50, 71, 49], .int .u8 20, .bool false, .bool false] 91 (0, 0)), (g1, .cells #[.int .u8 0, .bool false, .bool false] 26 (0, 0))] (hW8) ?_
    refine lm (v := .pointer (some ⟨g3, 0, none⟩)) rfl rfl ?_
    refine lv (v := strV [50, 50, 82, 49]) rfl rfl (yb_cell (off := 0) rfl (by kernel_rfl) (.head _) Tryd.underlying9 rfl (by kernel_rfl)) ?_
    refine lm (v := strV l) rfl rfl ?_
    refine lp (v := .bool (decide ([50, 50, 82, 49] = l))) rfl rfl (run_bin rfl (vx := strV [50, 50, 82, 49]) (vy := strV l) (by kernel_rfl) (by kernel_rfl) fun w => bs_eql rfl w) ?_
    refine wpL_done (fun W9 hW9 => ?_)
    refine (show Code.wp _ _ _ _ _ from ?_)
    cases hd2 : (decide ([50, 50, 82, 49] = l)) with
    | false =>
      have h2 : ¬ ([50, 50, 82, 49] = l) := of_decide_eq_false hd2
      clear hd2
      refine wp_cond_false rfl ?_
      refine wp_skip ?_
      refine (show Code.wp _ _ _ _ _ from ?_)
      refine wp_region_L (W0 := w) [(g3, .cells #[strV [50, 50, 82, 49], .int .u8 20, .bool false, .bool true] 91 (0, 0)), (g2, .cells #[strV [50, 50, 71, 49], .int .u8 20, .bool false, .bool false] 91 (0, 0)), (g1, .cells #[.int .u8 0, .bool false, .bool false] 26 (0, 0))] (hW9) ?_
      refine lm (v := .int .i64 2) rfl rfl ?_
      refine lm (v := .int .i64 2) rfl rfl ?_
      refine wpL_done (fun W10 hW10 => ?_)
      refine (show Code.wp _ _ _ _ _ from ?_)
      refine wp_seq ?_
      refine wp_region_L (W0 := w) [(g3, .cells #[strV [50, 50, 82, 49], .int .u8 20, .bool false, .bool true] 91 (0, 0)), (g2, .cells #[strV [50, 50, 71, 49], .int .u8 20, .bool false, .bool false] 91 (0, 0)), (g1, .cells #[.int .u8 0, .bool false, .bool false] 26 (0, 0))] (hW10) ?_
      refine lm (v := .bool true) rfl rfl ?_
      refine wpL_done (fun W11 hW11 => ?_)
      refine (show Code.wp _ _ _ _ _ from ?_)
      refine wp_seq ?_
      refine wp_cond_true rfl ?_
      refine wp_skip ?_
      refine (show Code.wp _ _ _ _ _ from ?_)
      refine wp_seq ?_
      refine wp_block ?_
      refine wp_seq ?_
      refine wp_region_L (W0 := w) [(g3, .cells #[strV [50, 50, 82, 49], .int .u8 20, .bool false, .bool true] 91 (0, 0)), (g2, .cells #[strV [50, 50, 71, 49], .int .u8 20, .bool false, .bool false] 91 (0, 0)), (g1, .cells #[.int .u8 0, .bool false, .bool false] 26 (0, 0))] (hW11) ?_
      refine lm (v := .agg #[strV [52, 50, 71, 49], .int .u8 40, .bool false, .bool false]) rfl rfl ?_
      refine wpL_new (fun g => .pointer (some ⟨g, 0, none⟩)) (obi := .cells #[strV [], .int .u8 0, .bool false, .bool false] 91 (0, 0)) rfl rfl (fun _ => by kernel_rfl) (fun _ => by simp only [List.setIfInBounds_toArray, List.set_cons_succ, List.set_cons_zero] <;> rfl) fun g4 Bg4 Fg4 => ?_
      refine wpL_s [(g4, .cells #[strV [52, 50, 71, 49], .int .u8 40, .bool false, .bool false] 91 (0, 0)), (g3, .cells #[strV [50, 50, 82, 49], .int .u8 20, .bool false, .bool true] 91 (0, 0)), (g2, .cells #[strV [50, 50, 71, 49], .int .u8 20, .bool false, .bool false] 91 (0, 0)), (g1, .cells #[.int .u8 0, .bool false, .bool false] 26 (0, 0))] rfl rfl (st_row (off := 0) (v := .agg #[strV [52, 50, 71, 49], .int .u8 40, .bool false, .bool false]) rfl (by kernel_rfl) (by kernel_rfl) (.head _) Bg4 (by kernel_rfl) (by simp [Value.cells]) (by intro v hv; simp [Value.cells] at hv; first | (subst hv; rfl) | (rcases hv with rfl | rfl | rfl | rfl <;> rfl)) (by kernel_rfl) (List.forall_mem_cons.2 ⟨.inl rfl, (List.forall_mem_cons.2 ⟨.inr ⟨(.tail _ (.head _)), (Fg4 _ (.head _))⟩, (List.forall_mem_cons.2 ⟨.inr ⟨(.tail _ (.tail _ (.head _))), (Fg4 _ (.tail _ (.head _)))⟩, (List.forall_mem_cons.2 ⟨.inr ⟨(.tail _ (.tail _ (.tail _ (.head _)))), (Fg4 _ (.tail _ (.tail _ (.head _))))⟩, (List.forall_mem_nil _)⟩)⟩)⟩)⟩)) ?_
      refine wpL_done (fun W12 hW12 => ?_)
      refine (show Code.wp _ _ _ _ _ from ?_)
      refine wp_seq ?_
      refine wp_region_L (W0 := w) [(g4, .cells #[strV [52, 50, 71, 49], .int .u8 40, .bool false, .bool false] 91 (0, 0)), (g3, .cells #[strV [50, 50, 82, 49], .int .u8 20, .bool false, .bool true] 91 (0, 0)), (g2, .cells #[strV [50, 50, 71, 49], .int .u8 20, .bool false, .bool false] 91 (0, 0)), (g1, .cells #[.int .u8 0, .bool false, .bool false] 26 (0, 0))] (hW12) ?_
      refine lm (v := .pointer (some ⟨g4, 0, none⟩)) rfl rfl ?_
      refine lv (v := strV [52, 50, 71, 49]) rfl rfl (yb_cell (off := 0) rfl (by kernel_rfl) (.head _) Tryd.underlying9 rfl (by kernel_rfl)) ?_
      refine lm (v := strV l) rfl rfl ?_
      refine lp (v := .bool (decide ([52, 50, 71, 49] = l))) rfl rfl (run_bin rfl (vx := strV [52, 50, 71, 49]) (vy := strV l) (by kernel_rfl) (by kernel_rfl) fun w => bs_eql rfl w) ?_
      refine wpL_done (fun W13 hW13 => ?_)
      refine (show Code.wp _ _ _ _ _ from ?_)
      cases hd3 : (decide ([52, 50, 71, 49] = l)) with
      | false =>
        have h3 : ¬ ([52, 50, 71, 49] = l) := of_decide_eq_false hd3
        clear hd3
        refine wp_cond_false rfl ?_
        refine wp_skip ?_
        refine (show Code.wp _ _ _ _ _ from ?_)
        refine wp_region_L (W0 := w) [(g4, .cells #[strV [52, 50, 71, 49], .int .u8 40, .bool false, .bool false] 91 (0, 0)), (g3, .cells #[strV [50, 50, 82, 49], .int .u8 20, .bool false, .bool true] 91 (0, 0)), (g2, .cells #[strV [50, 50, 71, 49], .int .u8 20, .bool false, .bool false] 91 (0, 0)), (g1, .cells #[.int .u8 0, .bool false, .bool false] 26 (0, 0))] (hW13) ?_
        refine lm (v := .int .i64 3) rfl rfl ?_
        refine lm (v := .int .i64 3) rfl rfl ?_
        refine wpL_done (fun W14 hW14 => ?_)
        refine (show Code.wp _ _ _ _ _ from ?_)
        refine wp_seq ?_
        refine wp_region_L (W0 := w) [(g4, .cells #[strV [52, 50, 71, 49], .int .u8 40, .bool false, .bool false] 91 (0, 0)), (g3, .cells #[strV [50, 50, 82, 49], .int .u8 20, .bool false, .bool true] 91 (0, 0)), (g2, .cells #[strV [50, 50, 71, 49], .int .u8 20, .bool false, .bool false] 91 (0, 0)), (g1, .cells #[.int .u8 0, .bool false, .bool false] 26 (0, 0))] (hW14) ?_
        refine lm (v := .bool true) rfl rfl ?_
        refine wpL_done (fun W15 hW15 => ?_)
        refine (show Code.wp _ _ _ _ _ from ?_)
        refine wp_seq ?_
        refine wp_cond_true rfl ?_
        refine wp_skip ?_
        refine (show Code.wp _ _ _ _ _ from ?_)
        refine wp_seq ?_
        refine wp_block ?_
        refine wp_seq ?_
        refine wp_region_L (W0 := w) [(g4, .cells #[strV [52, 50, 71, 49], .int .u8 40, .bool false, .bool false] 91 (0, 0)), (g3, .cells #[strV [50, 50, 82, 49], .int .u8 20, .bool false, .bool true] 91 (0, 0)), (g2, .cells #[strV [50, 50, 71, 49], .int .u8 20, .bool false, .bool false] 91 (0, 0)), (g1, .cells #[.int .u8 0, .bool false, .bool false] 26 (0, 0))] (hW15) ?_
        refine lm (v := .agg #[strV [52, 50, 82, 49], .int .u8 40, .bool false, .bool true]) rfl rfl ?_
        refine wpL_new (fun g => .pointer (some ⟨g, 0, none⟩)) (obi := .cells #[strV [], .int .u8 0, .bool false, .bool false] 91 (0, 0)) rfl rfl (fun _ => by kernel_rfl) (fun _ => by simp only [List.setIfInBounds_toArray, List.set_cons_succ, List.set_cons_zero] <;> rfl) fun g5 Bg5 Fg5 => ?_
        refine wpL_s [(g5, .cells #[strV [52, 50, 82, 49], .int .u8 40, .bool false, .bool true] 91 (0, 0)), (g4, .cells #[strV [52, 50, 71, 49], .int .u8 40, .bool false, .bool false] 91 (0, 0)), (g3, .cells #[strV [50, 50, 82, 49], .int .u8 20, .bool false, .bool true] 91 (0, 0)), (g2, .cells #[strV [50, 50, 71, 49], .int .u8 20, .bool false, .bool false] 91 (0, 0)), (g1, .cells #[.int .u8 0, .bool false, .bool false] 26 (0, 0))] rfl rfl (st_row (off := 0) (v := .agg #[strV [52, 50, 82, 49], .int .u8 40, .bool false, .bool true]) rfl (by kernel_rfl) (by kernel_rfl) (.head _) Bg5 (by kernel_rfl) (by simp [Value.cells]) (by intro v hv; simp [Value.cells] at hv; first | (subst hv; rfl) | (rcases hv with rfl | rfl | rfl | rfl <;> rfl)) (by kernel_rfl) (List.forall_mem_cons.2 ⟨.inl rfl, (List.forall_mem_cons.2 ⟨.inr ⟨(.tail _ (.head _)), (Fg5 _ (.head _))⟩, (List.forall_mem_cons.2 ⟨.inr ⟨(.tail _ (.tail _ (.head _))), (Fg5 _ (.tail _ (.head _)))⟩, (List.forall_mem_cons.2 ⟨.inr ⟨(.tail _ (.tail _ (.tail _ (.head _)))), (Fg5 _ (.tail _ (.tail _ (.head _))))⟩, (List.forall_mem_cons.2 ⟨.inr ⟨(.tail _ (.tail _ (.tail _ (.tail _ (.head _))))), (Fg5 _ (.tail _ (.tail _ (.tail _ (.head _)))))⟩, (List.forall_mem_nil _)⟩)⟩)⟩)⟩)⟩)) ?_
        refine wpL_done (fun W16 hW16 => ?_)
        refine (show Code.wp _ _ _ _ _ from ?_)
        refine wp_seq ?_
        refine wp_region_L (W0 := w) [(g5, .cells #[strV [52, 50, 82, 49], .int .u8 40, .bool false, .bool true] 91 (0, 0)), (g4, .cells #[strV [52, 50, 71, 49], .int .u8 40, .bool false, .bool false] 91 (0, 0)), (g3, .cells #[strV [50, 50, 82, 49], .int .u8 20, .bool false, .bool true] 91 (0, 0)), (g2, .cells #[strV [50, 50, 71, 49], .int .u8 20, .bool false, .bool false] 91 (0, 0)), (g1, .cells #[.int .u8 0, .bool false, .bool false] 26 (0, 0))] (hW16) ?_
        refine lm (v := .pointer (some ⟨g5, 0, none⟩)) rfl rfl ?_
        refine lv (v := strV [52, 50, 82, 49]) rfl rfl (yb_cell (off := 0) rfl (by kernel_rfl) (.head _) Tryd.underlying9 rfl (by kernel_rfl)) ?_
        refine lm (v := strV l) rfl rfl ?_
        refine lp (v := .bool (decide ([52, 50, 82, 49] = l))) rfl rfl (run_bin rfl (vx := strV [52, 50, 82, 49]) (vy := strV l) (by kernel_rfl) (by kernel_rfl) fun w => bs_eql rfl w) ?_
        refine wpL_done (fun W17 hW17 => ?_)
        refine (show Code.wp _ _ _ _ _ from ?_)
        cases hd4 : (decide ([52, 50, 82, 49] = l)) with
        | false =>
          have h4 : ¬ ([52, 50, 82, 49] = l) := of_decide_eq_false hd4
          clear hd4
          refine wp_cond_false rfl ?_
          refine wp_skip ?_
          refine (show Code.wp _ _ _ _ _ from ?_)
          refine wp_region_L (W0 := w) [(g5, .cells #[strV [52, 50, 82, 49], .int .u8 40, .bool false, .bool true] 91 (0, 0)), (g4, .cells #[strV [52, 50, 71, 49], .int .u8 40, .bool false, .bool false] 91 (0, 0)), (g3, .cells #[strV [50, 50, 82, 49], .int .u8 20, .bool false, .bool true] 91 (0, 0)), (g2, .cells #[strV [50, 50, 71, 49], .int .u8 20, .bool false, .bool false] 91 (0, 0)), (g1, .cells #[.int .u8 0, .bool false, .bool false] 26 (0, 0))] (hW17) ?_
          refine lm (v := .int .i64 4) rfl rfl ?_
          refine lm (v := .int .i64 4) rfl rfl ?_
          refine wpL_done (fun W18 hW18 => ?_)
          refine (show Code.wp _ _ _ _ _ from ?_)
          refine wp_seq ?_
          refine wp_region_L (W0 := w) [(g5, .cells #[strV [52, 50, 82, 49], .int .u8 40, .bool false, .bool true] 91 (0, 0)), (g4, .cells #[strV [52, 50, 71, 49], .int .u8 40, .bool false, .bool false] 91 (0, 0)), (g3, .cells #[strV [50, 50, 82, 49], .int .u8 20, .bool false, .bool true] 91 (0, 0)), (g2, .cells #[strV [50, 50, 71, 49], .int .u8 20, .bool false, .bool false] 91 (0, 0)), (g1, .cells #[.int .u8 0, .bool false, .bool false] 26 (0, 0))] (hW18) ?_
          refine lm (v := .bool true) rfl rfl ?_
          refine wpL_done (fun W19 hW19 => ?_)
          refine (show Code.wp _ _ _ _ _ from ?_)
          refine wp_seq ?_
          refine wp_cond_true rfl ?_
          refine wp_skip ?_
          refine (show Code.wp _ _ _ _ _ from ?_)
          refine wp_seq ?_
          refine wp_block ?_
          refine wp_seq ?_
          refine wp_region_L (W0 := w) [(g5, .cells #[strV [52, 50, 82, 49], .int .u8 40, .bool false, .bool true] 91 (0, 0)), (g4, .cells #[strV [52, 50, 71, 49], .int .u8 40, .bool false, .bool false] 91 (0, 0)), (g3, .cells #[strV [50, 50, 82, 49], .int .u8 20, .bool false, .bool true] 91 (0, 0)), (g2, .cells #[strV [50, 50, 71, 49], .int .u8 20, .bool false, .bool false] 91 (0, 0)), (g1, .cells #[.int .u8 0, .bool false, .bool false] 26 (0, 0))] (hW19) ?_
          refine lm (v := .agg #[strV [52, 53, 71, 49], .int .u8 40, .bool true, .bool false]) rfl rfl ?_
          refine wpL_new (fun g => .pointer (some ⟨g, 0, none⟩)) (obi := .cells #[strV [], .int .u8 0, .bool false, .bool false] 91 (0, 0)) rfl rfl (fun _ => by kernel_rfl) (fun _ => by simp only [List.setIfInBounds_toArray, List.set_cons_succ, List.set_cons_zero] <;> rfl) fun g6 Bg6 Fg6 => ?_
          refine wpL_s [(g6, .cells #[strV [52, 53, 71, 49], .int .u8 40, .bool true, .bool false] 91 (0, 0)), (g5, .cells #[strV [52, 50, 82, 49], .int .u8 40, .bool false, .bool true] 91 (0, 0)), (g4, .cells #[strV [52, 50, 71, 49], .int .u8 40, .bool false, .bool false] 91 (0, 0)), (g3, .cells #[strV [50, 50, 82, 49], .int .u8 20, .bool false, .bool true] 91 (0, 0)), (g2, .cells #[strV [50, 50, 71, 49], .int .u8 20, .bool false, .bool false] 91 (0, 0)), (g1, .cells #[.int .u8 0, .bool false, .bool false] 26 (0, 0))] rfl rfl (st_row (off := 0) (v := .agg #[strV [52, 53, 71, 49], .int .u8 40, .bool true, .bool false]) rfl (by kernel_rfl) (by kernel_rfl) (.head _) Bg6 (by kernel_rfl) (by simp [Value.cells]) (by intro v hv; simp [Value.cells] at hv; first | (subst hv; rfl) | (rcases hv with rfl | rfl | rfl | rfl <;> rfl)) (by kernel_rfl) (List.forall_mem_cons.2 ⟨.inl rfl, (List.forall_mem_cons.2 ⟨.inr ⟨(.tail _ (.head _)), (Fg6 _ (.head _))⟩, (List.forall_mem_cons.2 ⟨.inr ⟨(.tail _ (.tail _ (.head _))), (Fg6 _ (.tail _ (.head _)))⟩, (List.forall_mem_cons.2 ⟨.inr ⟨(.tail _ (.tail _ (.tail _ (.head _)))), (Fg6 _ (.tail _ (.tail _ (.head _))))⟩, (List.forall_mem_cons.2 ⟨.inr ⟨(.tail _ (.tail _ (.tail _ (.tail _ (.head _))))), (Fg6 _ (.tail _ (.tail _ (.tail _ (.head _)))))⟩, (List.forall_mem_cons.2 ⟨.inr ⟨(.tail _ (.tail _ (.tail _ (.tail _ (.tail _ (.head _)))))), (Fg6 _ (.tail _ (.tail _ (.tail _ (.tail _ (.head _))))))⟩, (List.forall_mem_nil _)⟩)⟩)⟩)⟩)⟩)⟩)) ?_
          refine wpL_done (fun W20 hW20 => ?_)
          refine (show Code.wp _ _ _ _ _ from ?_)
          refine wp_seq ?_
          refine wp_region_L (W0 := w) [(g6, .cells #[strV [52, 53, 71, 49], .int .u8 40, .bool true, .bool false] 91 (0, 0)), (g5, .cells #[strV [52, 50, 82, 49], .int .u8 40, .bool false, .bool true] 91 (0, 0)), (g4, .cells #[strV [52, 50, 71, 49], .int .u8 40, .bool false, .bool false] 91 (0, 0)), (g3, .cells #[strV [50, 50, 82, 49], .int .u8 20, .bool false, .bool true] 91 (0, 0)), (g2, .cells #[strV [50, 50, 71, 49], .int .u8 20, .bool false, .bool false] 91 (0, 0)), (g1, .cells #[.int .u8 0, .bool false, .bool false] 26 (0, 0))] (hW20) ?_
          refine lm (v := .pointer (some ⟨g6, 0, none⟩)) rfl rfl ?_
          refine lv (v := strV [52, 53, 71, 49]) rfl rfl (yb_cell (off := 0) rfl (by kernel_rfl) (.head _) Tryd.underlying9 rfl (by kernel_rfl)) ?_
          refine lm (v := strV l) rfl rfl ?_
          refine lp (v := .bool (decide ([52, 53, 71, 49] = l))) rfl rfl (run_bin rfl (vx := strV [52, 53, 71, 49]) (vy := strV l) (by kernel_rfl) (by kernel_rfl) fun w => bs_eql rfl w) ?_
          refine wpL_done (fun W21 hW21 => ?_)
          refine (show Code.wp _ _ _ _ _ from ?_)
          cases hd5 : (decide ([52, 53, 71, 49] = l)) with
          | false =>
            have h5 : ¬ ([52, 53, 71, 49] = l) := of_decide_eq_false hd5
            clear hd5
            refine wp_cond_false rfl ?_
            refine wp_skip ?_
            refine (show Code.wp _ _ _ _ _ from ?_)
            refine wp_region_L (W0 := w) [(g6, .cells #[strV [52, 53, 71, 49], .int .u8 40, .bool true, .bool false] 91 (0, 0)), (g5, .cells #[strV [52, 50, 82, 49], .int .u8 40, .bool false, .bool true] 91 (0, 0)), (g4, .cells #[strV [52, 50, 71, 49], .int .u8 40, .bool false, .bool false] 91 (0, 0)), (g3, .cells #[strV [50, 50, 82, 49], .int .u8 20, .bool false, .bool true] 91 (0, 0)), (g2, .cells #[strV [50, 50, 71, 49], .int .u8 20, .bool false, .bool false] 91 (0, 0)), (g1, .cells #[.int .u8 0, .bool false, .bool false] 26 (0, 0))] (hW21) ?_
            refine lm (v := .int .i64 5) rfl rfl ?_
            refine lm (v := .int .i64 5) rfl rfl ?_
            refine wpL_done (fun W22 hW22 => ?_)
            refine (show Code.wp _ _ _ _ _ from ?_)
            refine wp_seq ?_
            refine wp_region_L (W0 := w) [(g6, .cells #[strV [52, 53, 71, 49], .int .u8 40, .bool true, .bool false] 91 (0, 0)), (g5, .cells #[strV [52, 50, 82, 49], .int .u8 40, .bool false, .bool true] 91 (0, 0)), (g4, .cells #[strV [52, 50, 71, 49], .int .u8 40, .bool false, .bool false] 91 (0, 0)), (g3, .cells #[strV [50, 50, 82, 49], .int .u8 20, .bool false, .bool true] 91 (0, 0)), (g2, .cells #[strV [50, 50, 71, 49], .int .u8 20, .bool false, .bool false] 91 (0, 0)), (g1, .cells #[.int .u8 0, .bool false, .bool false] 26 (0, 0))] (hW22) ?_
            refine lm (v := .bool true) rfl rfl ?_
            refine wpL_done (fun W23 hW23 => ?_)
            refine (show Code.wp _ _ _ _ _ from ?_)
            refine wp_seq ?_
            refine wp_cond_true rfl ?_
            refine wp_skip ?_
            refine (show Code.wp _ _ _ _ _ from ?_)
            refine wp_seq ?_
            refine wp_block ?_
            refine wp_seq ?_
            refine wp_region_L (W0 := w) [(g6, .cells #[strV [52, 53, 71, 49], .int .u8 40, .bool true, .bool false] 91 (0, 0)), (g5, .cells #[strV [52, 50, 82, 49], .int .u8 40, .bool false, .bool true] 91 (0, 0)), (g4, .cells #[strV [52, 50, 71, 49], .int .u8 40, .bool false, .bool false] 91 (0, 0)), (g3, .cells #[strV [50, 50, 82, 49], .int .u8 20, .bool false, .bool true] 91 (0, 0)), (g2, .cells #[strV [50, 50, 71, 49], .int .u8 20, .bool false, .bool false] 91 (0, 0)), (g1, .cells #[.int .u8 0, .bool false, .bool false] 26 (0, 0))] (hW23) ?_
            refine lm (v := .agg #[strV [52, 53, 82, 49], .int .u8 40, .bool true, .bool true]) rfl rfl ?_
            refine wpL_new (fun g => .pointer (some ⟨g, 0, none⟩)) (obi := .cells #[strV [], .int .u8 0, .bool false, .bool false] 91 (0, 0)) rfl rfl (fun _ => by kernel_rfl) (fun _ => by simp only [List.setIfInBounds_toArray, List.set_cons_succ, List.set_cons_zero] <;> rfl) fun g7 Bg7 Fg7 => ?_
            refine wpL_s [(g7, .cells #[strV [52, 53, 82, 49], .int .u8 40, .bool true, .bool true] 91 (0, 0)), (g6, .cells #[strV [52, 53, 71, 49], .int .u8 40, .bool true, .bool false] 91 (0, 0)), (g5, .cells #[strV [52, 50, 82, 49], .int .u8 40, .bool false, .bool true] 91 (0, 0)), (g4, .cells #[strV [52, 50, 71, 49], .int .u8 40, .bool false, .bool false] 91 (0, 0)), (g3, .cells #[strV [50, 50, 82, 49], .int .u8 20, .bool false, .bool true] 91 (0, 0)), (g2, .cells #[strV [50, 50, 71, 49], .int .u8 20, .bool false, .bool false] 91 (0, 0)), (g1, .cells #[.int .u8 0, .bool false, .bool false] 26 (0, 0))] rfl rfl (st_row (off := 0) (v := .agg #[strV [52, 53, 82, 49], .int .u8 40, .bool true, .bool true]) rfl (by kernel_rfl) (by kernel_rfl) (.head _) Bg7 (by kernel_rfl) (by simp [Value.cells]) (by intro v hv; simp [Value.cells] at hv; first | (subst hv; rfl) | (rcases hv with rfl | rfl | rfl | rfl <;> rfl)) (by kernel_rfl) (List.forall_mem_cons.2 ⟨.inl rfl, (List.forall_mem_cons.2 ⟨.inr ⟨(.tail _ (.head _)), (Fg7 _ (.head _))⟩, (List.forall_mem_cons.2 ⟨.inr ⟨(.tail _ (.tail _ (.head _))), (Fg7 _ (.tail _ (.head _)))⟩, (List.forall_mem_cons.2 ⟨.inr ⟨(.tail _ (.tail _ (.tail _ (.head _)))), (Fg7 _ (.tail _ (.tail _ (.head _))))⟩, (List.forall_mem_cons.2 ⟨.inr ⟨(.tail _ (.tail _ (.tail _ (.tail _ (.head _))))), (Fg7 _ (.tail _ (.tail _ (.tail _ (.head _)))))⟩, (List.forall_mem_cons.2 ⟨.inr ⟨(.tail _ (.tail _ (.tail _ (.tail _ (.tail _ (.head _)))))), (Fg7 _ (.tail _ (.tail _ (.tail _ (.tail _ (.head _))))))⟩, (List.forall_mem_cons.2 ⟨.inr ⟨(.tail _ (.tail _ (.tail _ (.tail _ (.tail _ (.tail _ (.head _))))))), (Fg7 _ (.tail _ (.tail _ (.tail _ (.tail _ (.tail _ (.head _)))))))⟩, (List.forall_mem_nil _)⟩)⟩)⟩)⟩)⟩)⟩)⟩)) ?_
            refine wpL_done (fun W24 hW24 => ?_)
            refine (show Code.wp _ _ _ _ _ from ?_)
            refine wp_seq ?_
            refine wp_region_L (W0 := w) [(g7, .cells #[strV [52, 53, 82, 49], .int .u8 40, .bool true, .bool true] 91 (0, 0)), (g6, .cells #[strV [52, 53, 71, 49], .int .u8 40, .bool true, .bool false] 91 (0, 0)), (g5, .cells #[strV [52, 50, 82, 49], .int .u8 40, .bool false, .bool true] 91 (0, 0)), (g4, .cells #[strV [52, 50, 71, 49], .int .u8 40, .bool false, .bool false] 91 (0, 0)), (g3, .cells #[strV [50, 50, 82, 49], .int .u8 20, .bool false, .bool true] 91 (0, 0)), (g2, .cells #[strV [50, 50, 71, 49], .int .u8 20, .bool false, .bool false] 91 (0, 0)), (g1, .cells #[.int .u8 0, .bool false, .bool false] 26 (0, 0))] (hW24) ?_
            refine lm (v := .pointer (some ⟨g7, 0, none⟩)) rfl rfl ?_
            refine lv (v := strV [52, 53, 82, 49]) rfl rfl (yb_cell (off := 0) rfl (by kernel_rfl) (.head _) Tryd.underlying9 rfl (by kernel_rfl)) ?_
            refine lm (v := strV l) rfl rfl ?_
            refine lp (v := .bool (decide ([52, 53, 82, 49] = l))) rfl rfl (run_bin rfl (vx := strV [52, 53, 82, 49]) (vy := strV l) (by kernel_rfl) (by kernel_rfl) fun w => bs_eql rfl w) ?_
            refine wpL_done (fun W25 hW25 => ?_)
            refine (show Code.wp _ _ _ _ _ from ?_)
            cases hd6 : (decide ([52, 53, 82, 49] = l)) with
            | false =>
              have h6 : ¬ ([52, 53, 82, 49] = l) := of_decide_eq_false hd6
              clear hd6
              refine wp_cond_false rfl ?_
              refine wp_skip ?_
              refine (show Code.wp _ _ _ _ _ from ?_)
              refine wp_region_L (W0 := w) [(g7, .cells #[strV [52, 53, 82, 49], .int .u8 40, .bool true, .bool true] 91 (0, 0)), (g6, .cells #[strV [52, 53, 71, 49], .int .u8 40, .bool true, .bool false] 91 (0, 0)), (g5, .cells #[strV [52, 50, 82, 49], .int .u8 40, .bool false, .bool true] 91 (0, 0)), (g4, .cells #[strV [52, 50, 71, 49], .int .u8 40, .bool false, .bool false] 91 (0, 0)), (g3, .cells #[strV [50, 50, 82, 49], .int .u8 20, .bool false, .bool true] 91 (0, 0)), (g2, .cells #[strV [50, 50, 71, 49], .int .u8 20, .bool false, .bool false] 91 (0, 0)), (g1, .cells #[.int .u8 0, .bool false, .bool false] 26 (0, 0))] (hW25) ?_
              refine lm (v := .int .i64 6) rfl rfl ?_
              refine lm (v := .int .i64 6) rfl rfl ?_
              refine wpL_done (fun W26 hW26 => ?_)
              refine (show Code.wp _ _ _ _ _ from ?_)
              refine wp_seq ?_
              refine wp_region_L (W0 := w) [(g7, .cells #[strV [52, 53, 82, 49], .int .u8 40, .bool true, .bool true] 91 (0, 0)), (g6, .cells #[strV [52, 53, 71, 49], .int .u8 40, .bool true, .bool false] 91 (0, 0)), (g5, .cells #[strV [52, 50, 82, 49], .int .u8 40, .bool false, .bool true] 91 (0, 0)), (g4, .cells #[strV [52, 50, 71, 49], .int .u8 40, .bool false, .bool false] 91 (0, 0)), (g3, .cells #[strV [50, 50, 82, 49], .int .u8 20, .bool false, .bool true] 91 (0, 0)), (g2, .cells #[strV [50, 50, 71, 49], .int .u8 20, .bool false, .bool false] 91 (0, 0)), (g1, .cells #[.int .u8 0, .bool false, .bool false] 26 (0, 0))] (hW26) ?_
              refine lm (v := .bool false) rfl rfl ?_
              refine wpL_done (fun W27 hW27 => ?_)
              refine (show Code.wp _ _ _ _ _ from ?_)
              refine wp_seq ?_
              refine wp_cond_false rfl ?_
              refine wp_exit ?_
              refine (show Code.wp _ _ _ _ _ from ?_)
              refine wp_seq ?_
              refine wp_region_L (W0 := w) [(g7, .cells #[strV [52, 53, 82, 49], .int .u8 40, .bool true, .bool true] 91 (0, 0)), (g6, .cells #[strV [52, 53, 71, 49], .int .u8 40, .bool true, .bool false] 91 (0, 0)), (g5, .cells #[strV [52, 50, 82, 49], .int .u8 40, .bool false, .bool true] 91 (0, 0)), (g4, .cells #[strV [52, 50, 71, 49], .int .u8 40, .bool false, .bool false] 91 (0, 0)), (g3, .cells #[strV [50, 50, 82, 49], .int .u8 20, .bool false, .bool true] 91 (0, 0)), (g2, .cells #[strV [50, 50, 71, 49], .int .u8 20, .bool false, .bool false] 91 (0, 0)), (g1, .cells #[.int .u8 0, .bool false, .bool false] 26 (0, 0))] (hW27) ?_
              refine lm (v := .agg #[.int .u8 0, .bool false, .bool false]) rfl rfl ?_
              refine wpL_s [(g7, .cells #[strV [52, 53, 82, 49], .int .u8 40, .bool true, .bool true] 91 (0, 0)), (g6, .cells #[strV [52, 53, 71, 49], .int .u8 40, .bool true, .bool false] 91 (0, 0)), (g5, .cells #[strV [52, 50, 82, 49], .int .u8 40, .bool false, .bool true] 91 (0, 0)), (g4, .cells #[strV [52, 50, 71, 49], .int .u8 40, .bool false, .bool false] 91 (0, 0)), (g3, .cells #[strV [50, 50, 82, 49], .int .u8 20, .bool false, .bool true] 91 (0, 0)), (g2, .cells #[strV [50, 50, 71, 49], .int .u8 20, .bool false, .bool false] 91 (0, 0)), (g1, .cells #[.int .u8 0, .bool false, .bool false] 26 (0, 0))] rfl rfl (st_row (off := 0) (v := .agg #[.int .u8 0, .bool false, .bool false]) rfl (by kernel_rfl) (by kernel_rfl) (.tail _ (.tail _ (.tail _ (.tail _ (.tail _ (.tail _ (.head _))))))) Bg1 (by kernel_rfl) (by simp [Value.cells]) (by intro v hv; simp [Value.cells] at hv; first | (subst hv; rfl) | (rcases hv with rfl | rfl | rfl <;> rfl)) (by kernel_rfl) (List.forall_mem_cons.2 ⟨.inr ⟨(.head _), (Ne.symm (Fg7 _ (.tail _ (.tail _ (.tail _ (.tail _ (.tail _ (.head _))))))))⟩, (List.forall_mem_cons.2 ⟨.inr ⟨(.tail _ (.head _)), (Ne.symm (Fg6 _ (.tail _ (.tail _ (.tail _ (.tail _ (.head _)))))))⟩, (List.forall_mem_cons.2 ⟨.inr ⟨(.tail _ (.tail _ (.head _))), (Ne.symm (Fg5 _ (.tail _ (.tail _ (.tail _ (.head _))))))⟩, (List.forall_mem_cons.2 ⟨.inr ⟨(.tail _ (.tail _ (.tail _ (.head _)))), (Ne.symm (Fg4 _ (.tail _ (.tail _ (.head _)))))⟩, (List.forall_mem_cons.2 ⟨.inr ⟨(.tail _ (.tail _ (.tail _ (.tail _ (.head _))))), (Ne.symm (Fg3 _ (.tail _ (.head _))))⟩, (List.forall_mem_cons.2 ⟨.inr ⟨(.tail _ (.tail _ (.tail _ (.tail _ (.tail _ (.head _)))))), (Ne.symm (Fg2 _ (.head _)))⟩, (List.forall_mem_cons.2 ⟨.inl rfl, (List.forall_mem_nil _)⟩)⟩)⟩)⟩)⟩)⟩)⟩)) ?_
              refine lm (v := .int .i64 32) rfl rfl ?_
              refine wpL_done (fun W28 hW28 => ?_)
              refine (show Code.wp _ _ _ _ _ from ?_)
              refine wp_ret ?_
              try simp only [inBlock_ret, then_ret]
              refine bodyPost_ret (v := .tuple #[.agg #[.int .u8 0, .bool false, .bool false], .int .i64 32]) ?_ rfl ?_
              · exact (res_cell_tmp (p := 2) (q := 3) rfl rfl (hW28.2 _ (.tail _ (.tail _ (.tail _ (.tail _ (.tail _ (.tail _ (.head _)))))))) Tryd.underlying26 rfl (by kernel_rfl))
              · exact ⟨(by unfold sizeV; rw [if_neg h1, if_neg h2, if_neg h3, if_neg h4, if_neg h5, if_neg h6]), hW28.1⟩
            | true =>
              have h6 : [52, 53, 82, 49] = l := of_decide_eq_true hd6
              clear hd6
              refine wp_cond_true rfl ?_
              refine wp_seq ?_
              refine wp_region_L (W0 := w) [(g7, .cells #[strV [52, 53, 82, 49], .int .u8 40, .bool true, .bool true] 91 (0, 0)), (g6, .cells #[strV [52, 53, 71, 49], .int .u8 40, .bool true, .bool false] 91 (0, 0)), (g5, .cells #[strV [52, 50, 82, 49], .int .u8 40, .bool false, .bool true] 91 (0, 0)), (g4, .cells #[strV [52, 50, 71, 49], .int .u8 40, .bool false, .bool false] 91 (0, 0)), (g3, .cells #[strV [50, 50, 82, 49], .int .u8 20, .bool false, .bool true] 91 (0, 0)), (g2, .cells #[strV [50, 50, 71, 49], .int .u8 20, .bool false, .bool false] 91 (0, 0)), (g1, .cells #[.int .u8 0, .bool false, .bool false] 26 (0, 0))] (hW25) ?_
              refine lm (v := .pointer (some ⟨g7, 1, none⟩)) rfl rfl ?_
              refine lv (v := .agg #[.int .u8 40, .bool true, .bool true]) rfl rfl (yb_load (n := 3) (off := 1) rfl (by kernel_rfl) (.head _) Tryd.underlying26 rfl (by kernel_rfl) (by simp) (by kernel_rfl)) ?_
              refine wpL_s [(g7, .cells #[strV [52, 53, 82, 49], .int .u8 40, .bool true, .bool true] 91 (0, 0)), (g6, .cells #[strV [52, 53, 71, 49], .int .u8 40, .bool true, .bool false] 91 (0, 0)), (g5, .cells #[strV [52, 50, 82, 49], .int .u8 40, .bool false, .bool true] 91 (0, 0)), (g4, .cells #[strV [52, 50, 71, 49], .int .u8 40, .bool false, .bool false] 91 (0, 0)), (g3, .cells #[strV [50, 50, 82, 49], .int .u8 20, .bool false, .bool true] 91 (0, 0)), (g2, .cells #[strV [50, 50, 71, 49], .int .u8 20, .bool false, .bool false] 91 (0, 0)), (g1, .cells #[.int .u8 40, .bool true, .bool true] 26 (0, 0))] rfl rfl (st_row (off := 0) (v := .agg #[.int .u8 40, .bool true, .bool true]) rfl (by kernel_rfl) (by kernel_rfl) (.tail _ (.tail _ (.tail _ (.tail _ (.tail _ (.tail _ (.head _))))))) Bg1 (by kernel_rfl) (by simp [Value.cells]) (by intro v hv; simp [Value.cells] at hv; first | (subst hv; rfl) | (rcases hv with rfl | rfl | rfl <;> rfl)) (by kernel_rfl) (List.forall_mem_cons.2 ⟨.inr ⟨(.head _), (Ne.symm (Fg7 _ (.tail _ (.tail _ (.tail _ (.tail _ (.tail _ (.head _))))))))⟩, (List.forall_mem_cons.2 ⟨.inr ⟨(.tail _ (.head _)), (Ne.symm (Fg6 _ (.tail _ (.tail _ (.tail _ (.tail _ (.head _)))))))⟩, (List.forall_mem_cons.2 ⟨.inr ⟨(.tail _ (.tail _ (.head _))), (Ne.symm (Fg5 _ (.tail _ (.tail _ (.tail _ (.head _))))))⟩, (List.forall_mem_cons.2 ⟨.inr ⟨(.tail _ (.tail _ (.tail _ (.head _)))), (Ne.symm (Fg4 _ (.tail _ (.tail _ (.head _)))))⟩, (List.forall_mem_cons.2 ⟨.inr ⟨(.tail _ (.tail _ (.tail _ (.tail _ (.head _))))), (Ne.symm (Fg3 _ (.tail _ (.head _))))⟩, (List.forall_mem_cons.2 ⟨.inr ⟨(.tail _ (.tail _ (.tail _ (.tail _ (.tail _ (.head _)))))), (Ne.symm (Fg2 _ (.head _)))⟩, (List.forall_mem_cons.2 ⟨.inl rfl, (List.forall_mem_nil _)⟩)⟩)⟩)⟩)⟩)⟩)⟩)) ?_
              refine lm (v := .int .i64 0) rfl rfl ?_
              refine wpL_done (fun W29 hW29 => ?_)
              refine (show Code.wp _ _ _ _ _ from ?_)
              refine wp_ret ?_
              try simp only [inBlock_ret, then_ret]
              refine bodyPost_ret (v := .tuple #[.agg #[.int .u8 40, .bool true, .bool true], .int .i64 0]) ?_ rfl ?_
              · exact (res_cell_tmp (p := 2) (q := 3) rfl rfl (hW29.2 _ (.tail _ (.tail _ (.tail _ (.tail _ (.tail _ (.tail _ (.head _)))))))) Tryd.underlying26 rfl (by kernel_rfl))
              · exact ⟨(by unfold sizeV; rw [if_neg h1, if_neg h2, if_neg h3, if_neg h4, if_neg h5, if_pos h6]), hW29.1⟩
          | true =>
            have h5 : [52, 53, 71, 49] = l := of_decide_eq_true hd5
            clear hd5
            refine wp_cond_true rfl ?_
            refine wp_seq ?_
            refine wp_region_L (W0 := w) [(g6, .cells #[strV [52, 53, 71, 49], .int .u8 40, .bool true, .bool false] 91 (0, 0)), (g5, .cells #[strV [52, 50, 82, 49], .int .u8 40, .bool false, .bool true] 91 (0, 0)), (g4, .cells #[strV [52, 50, 71, 49], .int .u8 40, .bool false, .bool false] 91 (0, 0)), (g3, .cells #[strV [50, 50, 82, 49], .int .u8 20, .bool false, .bool true] 91 (0, 0)), (g2, .cells #[strV [50, 50, 71, 49], .int .u8 20, .bool false, .bool false] 91 (0, 0)), (g1, .cells #[.int .u8 0, .bool false, .bool false] 26 (0, 0))] (hW21) ?_
            refine lm (v := .pointer (some ⟨g6, 1, none⟩)) rfl rfl ?_
            refine lv (v := .agg #[.int .u8 40, .bool true, .bool false]) rfl rfl (yb_load (n := 3) (off := 1) rfl (by kernel_rfl) (.head _) Tryd.underlying26 rfl (by kernel_rfl) (by simp) (by kernel_rfl)) ?_
            refine wpL_s [(g6, .cells #[strV [52, 53, 71, 49], .int .u8 40, .bool true, .bool false] 91 (0, 0)), (g5, .cells #[strV [52, 50, 82, 49], .int .u8 40, .bool false, .bool true] 91 (0, 0)), (g4, .cells #[strV [52, 50, 71, 49], .int .u8 40, .bool false, .bool false] 91 (0, 0)), (g3, .cells #[strV [50, 50, 82, 49], .int .u8 20, .bool false, .bool true] 91 (0, 0)), (g2, .cells #[strV [50, 50, 71, 49], .int .u8 20, .bool false, .bool false] 91 (0, 0)), (g1, .cells #[.int .u8 40, .bool true, .bool false] 26 (0, 0))] rfl rfl (st_row (off := 0) (v := .agg #[.int .u8 40, .bool true, .bool false]) rfl (by kernel_rfl) (by kernel_rfl) (.tail _ (.tail _ (.tail _ (.tail _ (.tail _ (.head _)))))) Bg1 (by kernel_rfl) (by simp [Value.cells]) (by intro v hv; simp [Value.cells] at hv; first | (subst hv; rfl) | (rcases hv with rfl | rfl | rfl <;> rfl)) (by kernel_rfl) (List.forall_mem_cons.2 ⟨.inr ⟨(.head _), (Ne.symm (Fg6 _ (.tail _ (.tail _ (.tail _ (.tail _ (.head _)))))))⟩, (List.forall_mem_cons.2 ⟨.inr ⟨(.tail _ (.head _)), (Ne.symm (Fg5 _ (.tail _ (.tail _ (.tail _ (.head _))))))⟩, (List.forall_mem_cons.2 ⟨.inr ⟨(.tail _ (.tail _ (.head _))), (Ne.symm (Fg4 _ (.tail _ (.tail _ (.head _)))))⟩, (List.forall_mem_cons.2 ⟨.inr ⟨(.tail _ (.tail _ (.tail _ (.head _)))), (Ne.symm (Fg3 _ (.tail _ (.head _))))⟩, (List.forall_mem_cons.2 ⟨.inr ⟨(.tail _ (.tail _ (.tail _ (.tail _ (.head _))))), (Ne.symm (Fg2 _ (.head _)))⟩, (List.forall_mem_cons.2 ⟨.inl rfl, (List.forall_mem_nil _)⟩)⟩)⟩)⟩)⟩)⟩)) ?_
            refine lm (v := .int .i64 0) rfl rfl ?_
            refine wpL_done (fun W30 hW30 => ?_)
            refine (show Code.wp _ _ _ _ _ from ?_)
            refine wp_ret ?_
            try simp only [inBlock_ret, then_ret]
            refine bodyPost_ret (v := .tuple #[.agg #[.int .u8 40, .bool true, .bool false], .int .i64 0]) ?_ rfl ?_
            · exact (res_cell_tmp (p := 2) (q := 3) rfl rfl (hW30.2 _ (.tail _ (.tail _ (.tail _ (.tail _ (.tail _ (.head _))))))) Tryd.underlying26 rfl (by kernel_rfl))
            · exact ⟨(by unfold sizeV; rw [if_neg h1, if_neg h2, if_neg h3, if_neg h4, if_pos h5]), hW30.1⟩
        | true =>
          have h4 : [52, 50, 82, 49] = l := of_decide_eq_true hd4
          clear hd4
          refine wp_cond_true rfl ?_
          refine wp_seq ?_
          refine wp_region_L (W0 := w) [(g5, .cells #[strV [52, 50, 82, 49], .int .u8 40, .bool false, .bool true] 91 (0, 0)), (g4, .cells #[strV [52, 50, 71, 49], .int .u8 40, .bool false, .bool false] 91 (0, 0)), (g3, .cells #[strV [50, 50, 82, 49], .int .u8 20, .bool false, .bool true] 91 (0, 0)), (g2, .cells #[strV [50, 50, 71, 49], .int .u8 20, .bool false, .bool false] 91 (0, 0)), (g1, .cells #[.int .u8 0, .bool false, .bool false] 26 (0, 0))] (hW17) ?_
          refine lm (v := .pointer (some ⟨g5, 1, none⟩)) rfl rfl ?_
          refine lv (v := .agg #[.int .u8 40, .bool false, .bool true]) rfl rfl (yb_load (n := 3) (off := 1) rfl (by kernel_rfl) (.head _) Tryd.underlying26 rfl (by kernel_rfl) (by simp) (by kernel_rfl)) ?_
          refine wpL_s [(g5, .cells #[strV [52, 50, 82, 49], .int .u8 40, .bool false, .bool true] 91 (0, 0)), (g4, .cells #[strV [52, 50, 71, 49], .int .u8 40, .bool false, .bool false] 91 (0, 0)), (g3, .cells #[strV [50, 50, 82, 49], .int .u8 20, .bool false, .bool true] 91 (0, 0)), (g2, .cells #[strV [50, 50, 71, 49], .int .u8 20, .bool false, .bool false] 91 (0, 0)), (g1, .cells #[.int .u8 40, .bool false, .bool true] 26 (0, 0))] rfl rfl (st_row (off := 0) (v := .agg #[.int .u8 40, .bool false, .bool true]) rfl (by kernel_rfl) (by kernel_rfl) (.tail _ (.tail _ (.tail _ (.tail _ (.head _))))) Bg1 (by kernel_rfl) (by simp [Value.cells]) (by intro v hv; simp [Value.cells] at hv; first | (subst hv; rfl) | (rcases hv with rfl | rfl | rfl <;> rfl)) (by kernel_rfl) (List.forall_mem_cons.2 ⟨.inr ⟨(.head _), (Ne.symm (Fg5 _ (.tail _ (.tail _ (.tail _ (.head _))))))⟩, (List.forall_mem_cons.2 ⟨.inr ⟨(.tail _ (.head _)), (Ne.symm (Fg4 _ (.tail _ (.tail _ (.head _)))))⟩, (List.forall_mem_cons.2 ⟨.inr ⟨(.tail _ (.tail _ (.head _))), (Ne.symm (Fg3 _ (.tail _ (.head _))))⟩, (List.forall_mem_cons.2 ⟨.inr ⟨(.tail _ (.tail _ (.tail _ (.head _)))), (Ne.symm (Fg2 _ (.head _)))⟩, (List.forall_mem_cons.2 ⟨.inl rfl, (List.forall_mem_nil _)⟩)⟩)⟩)⟩)⟩)) ?_
          refine lm (v := .int .i64 0) rfl rfl ?_
          refine wpL_done (fun W31 hW31 => ?_)
          refine (show Code.wp _ _ _ _ _ from ?_)
          refine wp_ret ?_
          try simp only [inBlock_ret, then_ret]
          refine bodyPost_ret (v := .tuple #[.agg #[.int .u8 40, .bool false, .bool true], .int .i64 0]) ?_ rfl ?_
          · exact (res_cell_tmp (p := 2) (q := 3) rfl rfl (hW31.2 _ (.tail _ (.tail _ (.tail _ (.tail _ (.head _)))))) Tryd.underlying26 rfl (by kernel_rfl))
          · exact ⟨(by unfold sizeV; rw [if_neg h1, if_neg h2, if_neg h3, if_pos h4]), hW31.1⟩
      | true =>
        have h3 : [52, 50, 71, 49] = l := of_decide_eq_true hd3
        clear hd3
        refine wp_cond_true rfl ?_
        refine wp_seq ?_
        refine wp_region_L (W0 := w) [(g4, .cells #[strV [52, 50, 71, 49], .int .u8 40, .bool false, .bool false] 91 (0, 0)), (g3, .cells #[strV [50, 50, 82, 49], .int .u8 20, .bool false, .bool true] 91 (0, 0)), (g2, .cells #[strV [50, 50, 71, 49], .int .u8 20, .bool false, .bool false] 91 (0, 0)), (g1, .cells #[.int .u8 0, .bool false, .bool false] 26 (0, 0))] (hW13) ?_
        refine lm (v := .pointer (some ⟨g4, 1, none⟩)) rfl rfl ?_
        refine lv (v := .agg #[.int .u8 40, .bool false, .bool false]) rfl rfl (yb_load (n := 3) (off := 1) rfl (by kernel_rfl) (.head _) Tryd.underlying26 rfl (by kernel_rfl) (by simp) (by kernel_rfl)) ?_
        refine wpL_s [(g4, .cells #[strV [52, 50, 71, 49], .int .u8 40, .bool false, .bool false] 91 (0, 0)), (g3, .cells #[strV [50, 50, 82, 49], .int .u8 20, .bool false, .bool true] 91 (0, 0)), (g2, .cells #[strV [50, 50, 71, 49], .int .u8 20, .bool false, .bool false] 91 (0, 0)), (g1, .cells #[.int .u8 40, .bool false, .bool false] 26 (0, 0))] rfl rfl (st_row (off := 0) (v := .agg #[.int .u8 40, .bool false, .bool false]) rfl (by kernel_rfl) (by kernel_rfl) (.tail _ (.tail _ (.tail _ (.head _)))) Bg1 (by kernel_rfl) (by simp [Value.cells]) (by intro v hv; simp [Value.cells] at hv; first | (subst hv; rfl) | (rcases hv with rfl | rfl | rfl <;> rfl)) (by kernel_rfl) (List.forall_mem_cons.2 ⟨.inr ⟨(.head _), (Ne.symm (Fg4 _ (.tail _ (.tail _ (.head _)))))⟩, (List.forall_mem_cons.2 ⟨.inr ⟨(.tail _ (.head _)), (Ne.symm (Fg3 _ (.tail _ (.head _))))⟩, (List.forall_mem_cons.2 ⟨.inr ⟨(.tail _ (.tail _ (.head _))), (Ne.symm (Fg2 _ (.head _)))⟩, (List.forall_mem_cons.2 ⟨.inl rfl, (List.forall_mem_nil _)⟩)⟩)⟩)⟩)) ?_
        refine lm (v := .int .i64 0) rfl rfl ?_
        refine wpL_done (fun W32 hW32 => ?_)
        refine (show Code.wp _ _ _ _ _ from ?_)
        refine wp_ret ?_
        try simp only [inBlock_ret, then_ret]
        refine bodyPost_ret (v := .tuple #[.agg #[.int .u8 40, .bool false, .bool false], .int .i64 0]) ?_ rfl ?_
        · exact (res_cell_tmp (p := 2) (q := 3) rfl rfl (hW32.2 _ (.tail _ (.tail _ (.tail _ (.head _))))) Tryd.underlying26 rfl (by kernel_rfl))
        · exact ⟨(by unfold sizeV; rw [if_neg h1, if_neg h2, if_pos h3]), hW32.1⟩
    | true =>
      have h2 : [50, 50, 82, 49] = l := of_decide_eq_true hd2
      clear hd2
      refine wp_cond_true rfl ?_
      refine wp_seq ?_
      refine wp_region_L (W0 := w) [(g3, .cells #[strV [50, 50, 82, 49], .int .u8 20, .bool false, .bool true] 91 (0, 0)), (g2, .cells #[strV [50, 50, 71, 49], .int .u8 20, .bool false, .bool false] 91 (0, 0)), (g1, .cells #[.int .u8 0, .bool false, .bool false] 26 (0, 0))] (hW9) ?_
      refine lm (v := .pointer (some ⟨g3, 1, none⟩)) rfl rfl ?_
      refine lv (v := .agg #[.int .u8 20, .bool false, .bool true]) rfl rfl (yb_load (n := 3) (off := 1) rfl (by kernel_rfl) (.head _) Tryd.underlying26 rfl (by kernel_rfl) (by simp) (by kernel_rfl)) ?_
      refine wpL_s [(g3, .cells #[strV [50, 50, 82, 49], .int .u8 20, .bool false, .bool true] 91 (0, 0)), (g2, .cells #[strV [50, 50, 71, 49], .int .u8 20, .bool false, .bool false] 91 (0, 0)), (g1, .cells #[.int .u8 20, .bool false, .bool true] 26 (0, 0))] rfl rfl (st_row (off := 0) (v := .agg #[.int .u8 20, .bool false, .bool true]) rfl (by kernel_rfl) (by kernel_rfl) (.tail _ (.tail _ (.head _))) Bg1 (by kernel_rfl) (by simp [Value.cells]) (by intro v hv; simp [Value.cells] at hv; first | (subst hv; rfl) | (rcases hv with rfl | rfl | rfl <;> rfl)) (by kernel_rfl) (List.forall_mem_cons.2 ⟨.inr ⟨(.head _), (Ne.symm (Fg3 _ (.tail _ (.head _))))⟩, (List.forall_mem_cons.2 ⟨.inr ⟨(.tail _ (.head _)), (Ne.symm (Fg2 _ (.head _)))⟩, (List.forall_mem_cons.2 ⟨.inl rfl, (List.forall_mem_nil _)⟩)⟩)⟩)) ?_
      refine lm (v := .int .i64 0) rfl rfl ?_
      refine wpL_done (fun W33 hW33 => ?_)
      refine (show Code.wp _ _ _ _ _ from ?_)
      refine wp_ret ?_
      try simp only [inBlock_ret, then_ret]
      refine bodyPost_ret (v := .tuple #[.agg #[.int .u8 20, .bool false, .bool true], .int .i64 0]) ?_ rfl ?_
      · exact (res_cell_tmp (p := 2) (q := 3) rfl rfl (hW33.2 _ (.tail _ (.tail _ (.head _)))) Tryd.underlying26 rfl (by kernel_rfl))
      · exact ⟨(by unfold sizeV; rw [if_neg h1, if_pos h2]), hW33.1⟩
  | true =>
    have h1 : [50, 50, 71, 49] = l := of_decide_eq_true hd1
    clear hd1
    refine wp_cond_true rfl ?_
    refine wp_seq ?_
    refine wp_region_L (W0 := w) [(g2, .cells #[strV [50, 50, 71, 49], .int .u8 20, .bool false, .bool false] 91 (0, 0)), (g1, .cells #[.int .u8 0, .bool false, .bool false] 26 (0, 0))] (hW5) ?_
    refine lm (v := .pointer (some ⟨g2, 1, none⟩)) rfl rfl ?_
    refine lv (v := .agg #[.int .u8 20, .bool false, .bool false]) rfl rfl (yb_load (n := 3) (off := 1) rfl (by kernel_rfl) (.head _) Tryd.underlying26 rfl (by kernel_rfl) (by simp) (by kernel_rfl)) ?_
    refine wpL_s [(g2, .cells #[strV [50, 50, 71, 49], .int .u8 20, .bool false, .bool false] 91 (0, 0)), (g1, .cells #[.int .u8 20, .bool false, .bool false] 26 (0, 0))] rfl rfl (st_row (off := 0) (v := .agg #[.int .u8 20, .bool false, .bool false]) rfl (by kernel_rfl) (by kernel_rfl) (.tail _ (.head _)) Bg1 (by kernel_rfl) (by simp [Value.cells]) (by intro v hv; simp [Value.cells] at hv; first | (subst hv; rfl) | (rcases hv with rfl | rfl | rfl <;> rfl)) (by kernel_rfl) (List.forall_mem_cons.2 ⟨.inr ⟨(.head _), (Ne.symm (Fg2 _ (.head _)))⟩, (List.forall_mem_cons.2 ⟨.inl rfl, (List.forall_mem_nil _)⟩)⟩)) ?_
    refine lm (v := .int .i64 0) rfl rfl ?_
    refine wpL_done (fun W34 hW34 => ?_)
    refine (show Code.wp _ _ _ _ _ from ?_)
    refine wp_ret ?_
    try simp only [inBlock_ret, then_ret]
    refine bodyPost_ret (v := .tuple #[.agg #[.int .u8 20, .bool false, .bool false], .int .i64 0]) ?_ rfl ?_
    · exact (res_cell_tmp (p := 2) (q := 3) rfl rfl (hW34.2 _ (.tail _ (.head _))) Tryd.underlying26 rfl (by kernel_rfl))
    · exact ⟨(by unfold sizeV; rw [if_pos h1]), hW34.1⟩
set_option maxRecDepth 100000 in
set_option maxHeartbeats 4000000 in
theorem Code_any (n : Nat) (h r : Bool) (w : World) (hE : Env w) : Calls Tryd.prog 25 #[.agg #[.int .u8 ((n : Nat) : Int), .bool h, .bool r]] w fun e w' => e = .returned (codeV n h r) ∧ Below w.heap.size w w' := by
  have HE := Lib.hid hE
  clear hE
  go_enter Tryd.func25, Tryd.ntmps25
  refine wp_seq ?_
  refine wp_region_L (W0 := w) [] (KS.start w) ?_
  refine wpL_new (fun g => .pointer (some ⟨g, 0, none⟩)) (obi := .cells #[.int .u8 ((n : Nat) : Int), .bool h, .bool r] 26 (0, 0)) rfl rfl (fun _ => by kernel_rfl) (fun _ => by simp only [List.setIfInBounds_toArray, List.set_cons_succ, List.set_cons_zero] <;> rfl) fun g1 Bg1 Fg1 => ?_
  refine lm (v := strV []) rfl rfl ?_
  refine lm (v := .int .i64 0) rfl rfl ?_
  refine wpL_done (fun W1 hW1 => ?_)
  refine (show Code.wp _ _ _ _ _ from ?_)
  refine wp_seq ?_
  refine wp_seq ?_
  refine wp_region_L (W0 := w) [(g1, .cells #[.int .u8 ((n : Nat) : Int), .bool h, .bool r] 26 (0, 0))] (hW1) ?_
  refine lv (v := .agg #[strV [50, 50, 71, 49], .int .u8 20, .bool false, .bool false, strV [50, 50, 82, 49], .int .u8 20, .bool false, .bool true, strV [52, 50, 71, 49], .int .u8 40, .bool false, .bool false, strV [52, 50, 82, 49], .int .u8 40, .bool false, .bool true, strV [52, 53, 71, 49], .int .u8 40, .bool true, .bool false, strV [52, 53, 82, 49], .int .u8 40, .bool true, .bool true]) rfl rfl (yb_olds (cs := kindsL) rfl (by kernel_rfl) HE.out.cells HE.out.lt Tryd.underlying92 rfl (by kernel_rfl)) ?_
  refine lm (v := .int .i64 0) rfl rfl ?_
  refine wpL_done (fun W2 hW2 => ?_)
  refine (show Code.wp _ _ _ _ _ from ?_)
  refine wp_block ?_
  refine wp_loop_rounds 7 ?_
  refine (show Code.wp _ _ _ _ _ from ?_)
  refine wp_seq ?_
  refine wp_region_L (W0 := w) [(g1, .cells #[.int .u8 ((n : Nat) : Int), .bool h, .bool r] 26 (0, 0))] (hW2) ?_
  refine lm (v := .bool true) rfl rfl ?_
  refine wpL_done (fun W3 hW3 => ?_)
  refine (show Code.wp _ _ _ _ _ from ?_)
  refine wp_seq ?_
  refine wp_cond_true rfl ?_
  refine wp_skip ?_
  refine (show Code.wp _ _ _ _ _ from ?_)
  refine wp_seq ?_
  refine wp_block ?_
  refine wp_seq ?_
  refine wp_region_L (W0 := w) [(g1, .cells #[.int .u8 ((n : Nat) : Int), .bool h, .bool r] 26 (0, 0))] (hW3) ?_
  refine lm (v := .agg #[strV [50, 50, 71, 49], .int .u8 20, .bool false, .bool false]) rfl rfl ?_
  refine wpL_new (fun g => .pointer (some ⟨g, 0, none⟩)) (obi := .cells #[strV [], .int .u8 0, .bool false, .bool false] 91 (0, 0)) rfl rfl (fun _ => by kernel_rfl) (fun _ => by simp only [List.setIfInBounds_toArray, List.set_cons_succ, List.set_cons_zero] <;> rfl) fun g2 Bg2 Fg2 => ?_
  refine wpL_s [(g2, .cells #[strV [50, 50, 71, 49], .int .u8 20, .bool false, .bool false] 91 (0, 0)), (g1, .cells #[.int .u8 ((n : Nat) : Int), .bool h, .bool r] 26 (0, 0))] rfl rfl (st_row (off := 0) (v := .agg #[strV [50, 50, 71, 49], .int .u8 20, .bool false, .bool false]) rfl (by kernel_rfl) (by kernel_rfl) (.head _) Bg2 (by kernel_rfl) (by simp [Value.cells]) (by intro v hv; simp [Value.cells] at hv; first | (subst hv; rfl) | (rcases hv with rfl | rfl | rfl | rfl <;> rfl)) (by kernel_rfl) (List.forall_mem_cons.2 ⟨.inl rfl, (List.forall_mem_cons.2 ⟨.inr ⟨(.tail _ (.head _)), (Fg2 _ (.head _))⟩, (List.forall_mem_nil _)⟩)⟩)) ?_
  refine wpL_done (fun W4 hW4 => ?_)
  refine (show Code.wp _ _ _ _ _ from ?_)
  refine wp_seq ?_
  refine wp_region_L (W0 := w) [(g2, .cells #[strV [50, 50, 71, 49], .int .u8 20, .bool false, .bool false] 91 (0, 0)), (g1, .cells #[.int .u8 ((n : Nat) : Int), .bool h, .bool r] 26 (0, 0))] (hW4) ?_
  refine lm (v := .pointer (some ⟨g2, 1, none⟩)) rfl rfl ?_
  refine lv (v := .agg #[.int .u8 20, .bool false, .bool false]) rfl rfl (yb_load (n := 3) (off := 1) rfl (by kernel_rfl) (.head _) Tryd.underlying26 rfl (by kernel_rfl) (by simp) (by kernel_rfl)) ?_
  refine lv (v := .agg #[.int .u8 ((n : Nat) : Int), .bool h, .bool r]) rfl rfl (yb_load (n := 3) (off := 0) rfl (by kernel_rfl) (.tail _ (.head _)) Tryd.underlying26 rfl (by kernel_rfl) (by simp) (by kernel_rfl)) ?_
  refine lp (v := .bool (decide (20 = n ∧ false = h ∧ false = r))) rfl rfl (run_bin rfl (vx := .agg #[.int .u8 ((20 : Nat) : Int), .bool false, .bool false]) (vy := .agg #[.int .u8 ((n : Nat) : Int), .bool h, .bool r]) (by kernel_rfl) (by kernel_rfl) fun w => eq_kind rfl w) ?_
  refine wpL_done (fun W5 hW5 => ?_)
  refine (show Code.wp _ _ _ _ _ from ?_)
  cases hd1 : (decide (20 = n ∧ false = h ∧ false = r)) with
  | false =>
    have h1 : ¬ (20 = n ∧ false = h ∧ false = r) := of_decide_eq_false hd1
    clear hd1
    refine wp_cond_false rfl ?_
    refine wp_skip ?_
    refine (show Code.wp _ _ _ _ _ from ?_)
    refine wp_region_L (W0 := w) [(g2, .cells #[strV [50, 50, 71, 49], .int .u8 20, .bool false, .bool false] 91 (0, 0)), (g1, .cells #[.int .u8 ((n : Nat) : Int), .bool h, .bool r] 26 (0, 0))] (hW5) ?_
    refine lm (v := .int .i64 1) rfl rfl ?_
    refine lm (v := .int .i64 1) rfl rfl ?_
    refine wpL_done (fun W6 hW6 => ?_)
    refine (show Code.wp _ _ _ _ _ from ?_)
    refine wp_seq ?_
    refine wp_region_L (W0 := w) [(g2, .cells #[strV [50, 50, 71, 49], .int .u8 20, .bool false, .bool false] 91 (0, 0)), (g1, .cells #[.int .u8 ((n : Nat) : Int), .bool h, .bool r] 26 (0, 0))] (hW6) ?_
    refine lm (v := .bool true) rfl rfl ?_
    refine wpL_done (fun W7 hW7 => ?_)
    refine (show Code.wp _ _ _ _ _ from ?_)
    refine wp_seq ?_
    refine wp_cond_true rfl ?_
    refine wp_skip ?_
    refine (show Code.wp _ _ _ _ _ from ?_)
    refine wp_seq ?_
    refine wp_block ?_
    refine wp_seq ?_
    refine wp_region_L (W0 := w) [(g2, .cells #[strV [50, 50, 71, 49], .int .u8 20, .bool false, .bool false] 91 (0, 0)), (g1, .cells #[.int .u8 ((n : Nat) : Int), .bool h, .bool r] 26 (0, 0))] (hW7) ?_
    refine lm (v := .agg #[strV [50, 50, 82, 49], .int .u8 20, .bool false, .bool true]) rfl rfl ?_
    refine wpL_new (fun g => .pointer (some ⟨g, 0, none⟩)) (obi := .cells #[strV [], .int .u8 0, .bool false, .bool false] 91 (0, 0)) rfl rfl (fun _ => by kernel_rfl) (fun _ => by simp only [List.setIfInBounds_toArray, List.set_cons_succ, List.set_cons_zero] <;> rfl) fun g3 Bg3 Fg3 => ?_
    refine wpL_s [(g3, .cells #[strV [50, 50, 82, 49], .int .u8 20, .bool false, .bool true] 91 (0, 0)), (g2, .cells #[strV [50, 50, 71, 49], .int .u8 20, .bool false, .bool false] 91 (0, 0)), (g1, .cells #[.int .u8 ((n : Nat) : Int), .bool h, .bool r] 26 (0, 0))] rfl rfl (st_row (off := 0) (v := .agg #[strV [50, 50, 82, 49], .int .u8 20, .bool false, .bool true]) rfl (by kernel_rfl) (by kernel_rfl) (.head _) Bg3 (by kernel_rfl) (by simp [Value.cells]) (by intro v hv; simp [Value.cells] at hv; first | (subst hv; rfl) | (rcases hv with rfl | rfl | rfl | rfl <;> rfl)) (by kernel_rfl) (List.forall_mem_cons.2 ⟨.inl rfl, (List.forall_mem_cons.2 ⟨.inr ⟨(.tail _ (.head _)), (Fg3 _ (.head _))⟩, (List.forall_mem_cons.2 ⟨.inr ⟨(.tail _ (.tail _ (.head _))), (Fg3 _ (.tail _ (.head _)))⟩, (List.forall_mem_nil _)⟩)⟩)⟩)) ?_
    refine wpL_done (fun W8 hW8 => ?_)
    refine (show Code.wp _ _ _ _ _ from ?_)
    refine wp_seq ?_
    refine wp_region_L (W0 := w) [(g3, .cells #[strV [50, 50, 82, 49], .int .u8 20, .bool false, .bool true] 91 (0, 0)), (g2, .cells #[strV [50, 50, 71, 49], .int .u8 20, .bool false, .bool false] 91 (0, 0)), (g1, .cells #[.int .u8 ((n : Nat) : Int), .bool h, .bool r] 26 (0, 0))] (hW8) ?_
    refine lm (v := .pointer (some ⟨g3, 1, none⟩)) rfl rfl ?_
    refine lv (v := .agg #[.int .u8 20, .bool false, .bool true]) rfl rfl (yb_load (n := 3) (off := 1) rfl (by kernel_rfl) (.head _) Tryd.underlying26 rfl (by kernel_rfl) (by simp) (by kernel_rfl)) ?_
    refine lv (v := .agg #[.int .u8 ((n : Nat) : Int), .bool h, .bool r]) rfl rfl (yb_load (n := 3) (off := 0) rfl (by kernel_rfl) (.tail _ (.tail _ (.head _))) Tryd.underlying26 rfl (by kernel_rfl) (by simp) (by kernel_rfl)) ?_
    refine lp (v := .bool (decide (20 = n ∧ false = h ∧ true = r))) rfl rfl (run_bin rfl (vx := .agg #[.int .u8 ((20 : Nat) : Int), .bool false, .bool true]) (vy := .agg #[.int .u8 ((n : Nat) : Int), .bool h, .bool r]) (by kernel_rfl) (by kernel_rfl) fun w => eq_kind rfl w) ?_
    refine wpL_done (fun W9 hW9 => ?_)
    refine (show Code.wp _ _ _ _ _ from ?_)
    cases hd2 : (decide (20 = n ∧ false = h ∧ true = r)) with
    | false =>
      have h2 : ¬ (20 = n ∧ false = h ∧ true = r) := of_decide_eq_false hd2
      clear hd2
      refine wp_cond_false rfl ?_
      refine wp_skip ?_
      refine (show Code.wp _ _ _ _ _ from ?_)
      refine wp_region_L (W0 := w) [(g3, .cells #[strV [50, 50, 82, 49], .int .u8 20, .bool false, .bool true] 91 (0, 0)), (g2, .cells #[strV [50, 50, 71, 49], .int .u8 20, .bool false, .bool false] 91 (0, 0)), (g1, .cells #[.int .u8 ((n : Nat) : Int), .bool h, .bool r] 26 (0, 0))] (hW9) ?_
      refine lm (v := .int .i64 2) rfl rfl ?_
      refine lm (v := .int .i64 2) rfl rfl ?_
      refine wpL_done (fun W10 hW10 => ?_)
      refine (show Code.wp _ _ _ _ _ from ?_)
      refine wp_seq ?_
      refine wp_region_L (W0 := w) [(g3, .cells #[strV [50, 50, 82, 49], .int .u8 20, .bool false, .bool true] 91 (0, 0)), (g2, .cells #[strV [50, 50, 71, 49], .int .u8 20, .bool false, .bool false] 91 (0, 0)), (g1, .cells #[.int .u8 ((n : Nat) : Int), .bool h, .bool r] 26 (0, 0))] (hW10) ?_
      refine lm (v := .bool true) rfl rfl ?_
      refine wpL_done (fun W11 hW11 => ?_)
      refine (show Code.wp _ _ _ _ _ from ?_)
      refine wp_seq ?_
      refine wp_cond_true rfl ?_
      refine wp_skip ?_
      refine (show Code.wp _ _ _ _ _ from ?_)
      refine wp_seq ?_
      refine wp_block ?_
      refine wp_seq ?_
      refine wp_region_L (W0 := w) [(g3, .cells #[strV [50, 50, 82, 49], .int .u8 20, .bool false, .bool true] 91 (0, 0)), (g2, .cells #[strV [50, 50, 71, 49], .int .u8 20, .bool false, .bool false] 91 (0, 0)), (g1, .cells #[.int .u8 ((n : Nat) : Int), .bool h, .bool r] 26 (0, 0))] (hW11) ?_
      refine lm (v := .agg #[strV [52, 50, 71, 49], .int .u8 40, .bool false, .bool false]) rfl rfl ?_
      refine wpL_new (fun g => .pointer (some ⟨g, 0, none⟩)) (obi := .cells #[strV [], .int .u8 0, .bool false, .bool false] 91 (0, 0)) rfl rfl (fun _ => by kernel_rfl) (fun _ => by simp only [List.setIfInBounds_toArray, List.set_cons_succ, List.set_cons_zero] <;> rfl) fun g4 Bg4 Fg4 => ?_
      refine wpL_s [(g4, .cells #[strV [52, 50, 71, 49], .int .u8 40, .bool false, .bool false] 91 (0, 0)), (g3, .cells #[strV [50, 50, 82, 49], .int .u8 20, .bool false, .bool true] 91 (0, 0)), (g2, .cells #[strV [50, 50, 71, 49], .int .u8 20, .bool false, .bool false] 91 (0, 0)), (g1, .cells #[.int .u8 ((n : Nat) : Int), .bool h, .bool r] 26 (0, 0))] rfl rfl (st_row (off := 0) (v := .agg #[strV [52, 50, 71, 49], .int .u8 40, .bool false, .bool false]) rfl (by kernel_rfl) (by kernel_rfl) (.head _) Bg4 (by kernel_rfl) (by simp [Value.cells]) (by intro v hv; simp [Value.cells] at hv; first | (subst hv; rfl) | (rcases hv with rfl | rfl | rfl | rfl <;> rfl)) (by kernel_rfl) (List.forall_mem_cons.2 ⟨.inl rfl, (List.forall_mem_cons.2 ⟨.inr ⟨(.tail _ (.head _)), (Fg4 _ (.head _))⟩, (List.forall_mem_cons.2 ⟨.inr ⟨(.tail _ (.tail _ (.head _))), (Fg4 _ (.tail _ (.head _)))⟩, (List.forall_mem_cons.2 ⟨.inr ⟨(.tail _ (.tail _ (.tail _ (.head _)))), (Fg4 _ (.tail _ (.tail _ (.head _))))⟩, (List.forall_mem_nil _)⟩)⟩)⟩)⟩)) ?_
      refine wpL_done (fun W12 hW12 => ?_)
      refine (show Code.wp _ _ _ _ _ from ?_)
      refine wp_seq ?_
      refine wp_region_L (W0 := w) [(g4, .cells #[strV [52, 50, 71, 49], .int .u8 40, .bool false, .bool false] 91 (0, 0)), (g3, .cells #[strV [50, 50, 82, 49], .int .u8 20, .bool false, .bool true] 91 (0, 0)), (g2, .cells #[strV [50, 50, 71, 49], .int .u8 20, .bool false, .bool false] 91 (0, 0)), (g1, .cells #[.int .u8 ((n : Nat) : Int), .bool h, .bool r] 26 (0, 0))] (hW12) ?_
      refine lm (v := .pointer (some ⟨g4, 1, none⟩)) rfl rfl ?_
      refine lv (v := .agg #[.int .u8 40, .bool false, .bool false]) rfl rfl (yb_load (n := 3) (off := 1) rfl (by kernel_rfl) (.head _) Tryd.underlying26 rfl (by kernel_rfl) (by simp) (by kernel_rfl)) ?_
      refine lv (v := .agg #[.int .u8 ((n : Nat) : Int), .bool h, .bool r]) rfl rfl (yb_load (n := 3) (off := 0) rfl (by kernel_rfl) (.tail _ (.tail _ (.tail _ (.head _)))) Tryd.underlying26 rfl (by kernel_rfl) (by simp) (by kernel_rfl)) ?_
      refine lp (v := .bool (decide (40 = n ∧ false = h ∧ false = r))) rfl rfl (run_bin rfl (vx := .agg #[.int .u8 ((40 : Nat) : Int), .bool false, .bool false]) (vy := .agg #[.int .u8 ((n : Nat) : Int), .bool h, .bool r]) (by kernel_rfl) (by kernel_rfl) fun w => eq_kind rfl w) ?_
      refine wpL_done (fun W13 hW13 => ?_)
      refine (show Code.wp _ _ _ _ _ from ?_)
      cases hd3 : (decide (40 = n ∧ false = h ∧ false = r)) with
      | false =>
        have h3 : ¬ (40 = n ∧ false = h ∧ false = r) := of_decide_eq_false hd3
        clear hd3
        refine wp_cond_false rfl ?_
        refine wp_skip ?_
        refine (show Code.wp _ _ _ _ _ from ?_)
        refine wp_region_L (W0 := w) [(g4, .cells #[strV [52, 50, 71, 49], .int .u8 40, .bool false, .bool false] 91 (0, 0)), (g3, .cells #[strV [50, 50, 82, 49], .int .u8 20, .bool false, .bool true] 91 (0, 0)), (g2, .cells #[strV [50, 50, 71, 49], .int .u8 20, .bool false, .bool false] 91 (0, 0)), (g1, .cells #[.int .u8 ((n : Nat) : Int), .bool h, .bool r] 26 (0, 0))] (hW13) ?_
        refine lm (v := .int .i64 3) rfl rfl ?_
        refine lm (v := .int .i64 3) rfl rfl ?_
        refine wpL_done (fun W14 hW14 => ?_)
        refine (show Code.wp _ _ _ _ _ from ?_)
        refine wp_seq ?_
        refine wp_region_L (W0 := w) [(g4, .cells #[strV [52, 50, 71, 49], .int .u8 40, .bool false, .bool false] 91 (0, 0)), (g3, .cells #[strV [50, 50, 82, 49], .int .u8 20, .bool false, .bool true] 91 (0, 0)), (g2, .cells #[strV [50, 50, 71, 49], .int .u8 20, .bool false, .bool false] 91 (0, 0)), (g1, .cells #[.int .u8 ((n : Nat) : Int), .bool h, .bool r] 26 (0, 0))] (hW14) ?_
        refine lm (v := .bool true) rfl rfl ?_
        refine wpL_done (fun W15 hW15 => ?_)
        refine (show Code.wp _ _ _ _ _ from ?_)
        refine wp_seq ?_
        refine wp_cond_true rfl ?_
        refine wp_skip ?_
        refine (show Code.wp _ _ _ _ _ from ?_)
        refine wp_seq ?_
        refine wp_block ?_
        refine wp_seq ?_
        refine wp_region_L (W0 := w) [(g4, .cells #[strV [52, 50, 71, 49], .int .u8 40, .bool false, .bool false] 91 (0, 0)), (g3, .cells #[strV [50, 50, 82, 49], .int .u8 20, .bool false, .bool true] 91 (0, 0)), (g2, .cells #[strV [50, 50, 71, 49], .int .u8 20, .bool false, .bool false] 91 (0, 0)), (g1, .cells #[.int .u8 ((n : Nat) : Int), .bool h, .bool r] 26 (0, 0))] (hW15) ?_
        refine lm (v := .agg #[strV [52, 50, 82, 49], .int .u8 40, .bool false, .bool true]) rfl rfl ?_
        refine wpL_new (fun g => .pointer (some ⟨g, 0, none⟩)) (obi := .cells #[strV [], .int .u8 0, .bool false, .bool false] 91 (0, 0)) rfl rfl (fun _ => by kernel_rfl) (fun _ => by simp only [List.setIfInBounds_toArray, List.set_cons_succ, List.set_cons_zero] <;> rfl) fun g5 Bg5 Fg5 => ?_
        refine wpL_s [(g5, .cells #[strV [52, 50, 82, 49], .int .u8 40, .bool false, .bool true] 91 (0, 0)), (g4, .cells #[strV [52, 50, 71, 49], .int .u8 40, .bool false, .bool false] 91 (0, 0)), (g3, .cells #[strV [50, 50, 82, 49], .int .u8 20, .bool false, .bool true] 91 (0, 0)), (g2, .cells #[strV [50, 50, 71, 49], .int .u8 20, .bool false, .bool false] 91 (0, 0)), (g1, .cells #[.int .u8 ((n : Nat) : Int), .bool h, .bool r] 26 (0, 0))] rfl rfl (st_row (off := 0) (v := .agg #[strV [52, 50, 82, 49], .int .u8 40, .bool false, .bool true]) rfl (by kernel_rfl) (by kernel_rfl) (.head _) Bg5 (by kernel_rfl) (by simp [Value.cells]) (by intro v hv; simp [Value.cells] at hv; first | (subst hv; rfl) | (rcases hv with rfl | rfl | rfl | rfl <;> rfl)) (by kernel_rfl) (List.forall_mem_cons.2 ⟨.inl rfl, (List.forall_mem_cons.2 ⟨.inr ⟨(.tail _ (.head _)), (Fg5 _ (.head _))⟩, (List.forall_mem_cons.2 ⟨.inr ⟨(.tail _ (.tail _ (.head _))), (Fg5 _ (.tail _ (.head _)))⟩, (List.forall_mem_cons.2 ⟨.inr ⟨(.tail _ (.tail _ (.tail _ (.head _)))), (Fg5 _ (.tail _ (.tail _ (.head _))))⟩, (List.forall_mem_cons.2 ⟨.inr ⟨(.tail _ (.tail _ (.tail _ (.tail _ (.head _))))), (Fg5 _ (.tail _ (.tail _ (.tail _ (.head _)))))⟩, (List.forall_mem_nil _)⟩)⟩)⟩)⟩)⟩)) ?_
        refine wpL_done (fun W16 hW16 => ?_)
        refine (show Code.wp _ _ _ _ _ from ?_)
        refine wp_seq ?_
        refine wp_region_L (W0 := w) [(g5, .cells #[strV [52, 50, 82, 49], .int .u8 40, .bool false, .bool true] 91 (0, 0)), (g4, .cells #[strV [52, 50, 71, 49], .int .u8 40, .bool false, .bool false] 91 (0, 0)), (g3, .cells #[strV [50, 50, 82, 49], .int .u8 20, .bool false, .bool true] 91 (0, 0)), (g2, .cells #[strV [50, 50, 71, 49], .int .u8 20, .bool false, .bool false] 91 (0, 0)), (g1, .cells #[.int .u8 ((n : Nat) : Int), .bool h, .bool r] 26 (0, 0))] (hW16) ?_
        refine lm (v := .pointer (some ⟨g5, 1, none⟩)) rfl rfl ?_
        refine lv (v := .agg #[.int .u8 40, .bool false, .bool true]) rfl rfl (yb_load (n := 3) (off := 1) rfl (by kernel_rfl) (.head _) Tryd.underlying26 rfl (by kernel_rfl) (by simp) (by kernel_rfl)) ?_
        refine lv (v := .agg #[.int .u8 ((n : Nat) : Int), .bool h, .bool r]) rfl rfl (yb_load (n := 3) (off := 0) rfl (by kernel_rfl) (.tail _ (.tail _ (.tail _ (.tail _ (.head _))))) Tryd.underlying26 rfl (by kernel_rfl) (by simp) (by kernel_rfl)) ?_
        refine lp (v := .bool (decide (40 = n ∧ false = h ∧ true = r))) rfl rfl (run_bin rfl (vx := .agg #[.int .u8 ((40 : Nat) : Int), .bool false, .bool true]) (vy := .agg #[.int .u8 ((n : Nat) : Int), .bool h, .bool r]) (by kernel_rfl) (by kernel_rfl) fun w => eq_kind rfl w) ?_
        refine wpL_done (fun W17 hW17 => ?_)
        refine (show Code.wp _ _ _ _ _ from ?_)
        cases hd4 : (decide (40 = n ∧ false = h ∧ true = r)) with
        | false =>
          have h4 : ¬ (40 = n ∧ false = h ∧ true = r) := of_decide_eq_false hd4
          clear hd4
          refine wp_cond_false rfl ?_
          refine wp_skip ?_
          refine (show Code.wp _ _ _ _ _ from ?_)
          refine wp_region_L (W0 := w) [(g5, .cells #[strV [52, 50, 82, 49], .int .u8 40, .bool false, .bool true] 91 (0, 0)), (g4, .cells #[strV [52, 50, 71, 49], .int .u8 40, .bool false, .bool false] 91 (0, 0)), (g3, .cells #[strV [50, 50, 82, 49], .int .u8 20, .bool false, .bool true] 91 (0, 0)), (g2, .cells #[strV [50, 50, 71, 49], .int .u8 20, .bool false, .bool false] 91 (0, 0)), (g1, .cells #[.int .u8 ((n : Nat) : Int), .bool h, .bool r] 26 (0, 0))] (hW17) ?_
          refine lm (v := .int .i64 4) rfl rfl ?_
          refine lm (v := .int .i64 4) rfl rfl ?_
          refine wpL_done (fun W18 hW18 => ?_)
          refine (show Code.wp _ _ _ _ _ from ?_)
          refine wp_seq ?_
          refine wp_region_L (W0 := w) [(g5, .cells #[strV [52, 50, 82, 49], .int .u8 40, .bool false, .bool true] 91 (0, 0)), (g4, .cells #[strV [52, 50, 71, 49], .int .u8 40, .bool false, .bool false] 91 (0, 0)), (g3, .cells #[strV [50, 50, 82, 49], .int .u8 20, .bool false, .bool true] 91 (0, 0)), (g2, .cells #[strV [50, 50, 71, 49], .int .u8 20, .bool false, .bool false] 91 (0, 0)), (g1, .cells #[.int .u8 ((n : Nat) : Int), .bool h, .bool r] 26 (0, 0))] (hW18) ?_
          refine lm (v := .bool true) rfl rfl ?_
          refine wpL_done (fun W19 hW19 => ?_)
          refine (show Code.wp _ _ _ _ _ from ?_)
          refine wp_seq ?_
          refine wp_cond_true rfl ?_
          refine wp_skip ?_
          refine (show Code.wp _ _ _ _ _ from ?_)
          refine wp_seq ?_
          refine wp_block ?_
          refine wp_seq ?_
          refine wp_region_L (W0 := w) [(g5, .cells #[strV [52, 50, 82, 49], .int .u8 40, .bool false, .bool true] 91 (0, 0)), (g4, .cells #[strV [52, 50, 71, 49], .int .u8 40, .bool false, .bool false] 91 (0, 0)), (g3, .cells #[strV [50, 50, 82, 49], .int .u8 20, .bool false, .bool true] 91 (0, 0)), (g2, .cells #[strV [50, 50, 71, 49], .int .u8 20, .bool false, .bool false] 91 (0, 0)), (g1, .cells #[.int .u8 ((n : Nat) : Int), .bool h, .bool r] 26 (0, 0))] (hW19) ?_
          refine lm (v := .agg #[strV [52, 53, 71, 49], .int .u8 40, .bool true, .bool false]) rfl rfl ?_
          refine wpL_new (fun g => .pointer (some ⟨g, 0, none⟩)) (obi := .cells #[strV [], .int .u8 0, .bool false, .bool false] 91 (0, 0)) rfl rfl (fun _ => by kernel_rfl) (fun _ => by simp only [List.setIfInBounds_toArray, List.set_cons_succ, List.set_cons_zero] <;> rfl) fun g6 Bg6 Fg6 => ?_
          refine wpL_s [(g6, .cells #[strV [52, 53, 71, 49], .int .u8 40, .bool true, .bool false] 91 (0, 0)), (g5, .cells #[strV [52, 50, 82, 49], .int .u8 40, .bool false, .bool true] 91 (0, 0)), (g4, .cells #[strV [52, 50, 71, 49], .int .u8 40, .bool false, .bool false] 91 (0, 0)), (g3, .cells #[strV [50, 50, 82, 49], .int .u8 20, .bool false, .bool true] 91 (0, 0)), (g2, .cells #[strV [50, 50, 71, 49], .int .u8 20, .bool false, .bool false] 91 (0, 0)), (g1, .cells #[.int .u8 ((n : Nat) : Int), .bool h, .bool r] 26 (0, 0))] rfl rfl (st_row (off := 0) (v := .agg #[strV [52, 53, 71, 49], .int .u8 40, .bool true, .bool false]) rfl (by kernel_rfl) (by kernel_rfl) (.head _) Bg6 (by kernel_rfl) (by simp [Value.cells]) (by intro v hv; simp [Value.cells] at hv; first | (subst hv; rfl) | (rcases hv with rfl | rfl | rfl | rfl <;> rfl)) (by kernel_rfl) (List.forall_mem_cons.2 ⟨.inl rfl, (List.forall_mem_cons.2 ⟨.inr ⟨(.tail _ (.head _)), (Fg6 _ (.head _))⟩, (List.forall_mem_cons.2 ⟨.inr ⟨(.tail _ (.tail _ (.head _))), (Fg6 _ (.tail _ (.head _)))⟩, (List.forall_mem_cons.2 ⟨.inr ⟨(.tail _ (.tail _ (.tail _ (.head _)))), (Fg6 _ (.tail _ (.tail _ (.head _))))⟩, (List.forall_mem_cons.2 ⟨.inr ⟨(.tail _ (.tail _ (.tail _ (.tail _ (.head _))))), (Fg6 _ (.tail _ (.tail _ (.tail _ (.head _)))))⟩, (List.forall_mem_cons.2 ⟨.inr ⟨(.tail _ (.tail _ (.tail _ (.tail _ (.tail _ (.head _)))))), (Fg6 _ (.tail _ (.tail _ (.tail _ (.tail _ (.head _))))))⟩, (List.forall_mem_nil _)⟩)⟩)⟩)⟩)⟩)⟩)) ?_
          refine wpL_done (fun W20 hW20 => ?_)
          refine (show Code.wp _ _ _ _ _ from ?_)
          refine wp_seq ?_
          refine wp_region_L (W0 := w) [(g6, .cells #[strV [52, 53, 71, 49], .int .u8 40, .bool true, .bool false] 91 (0, 0)), (g5, .cells #[strV [52, 50, 82, 49], .int .u8 40, .bool false, .bool true] 91 (0, 0)), (g4, .cells #[strV [52, 50, 71, 49], .int .u8 40, .bool false, .bool false] 91 (0, 0)), (g3, .cells #[strV [50, 50, 82, 49], .int .u8 20, .bool false, .bool true] 91 (0, 0)), (g2, .cells #[strV [50, 50, 71, 49], .int .u8 20, .bool false, .bool false] 91 (0, 0)), (g1, .cells #[.int .u8 ((n : Nat) : Int), .bool h, .bool r] 26 (0, 0))] (hW20) ?_
          refine lm (v := .pointer (some ⟨g6, 1, none⟩)) rfl rfl ?_
          refine lv (v := .agg #[.int .u8 40, .bool true, .bool false]) rfl rfl (yb_load (n := 3) (off := 1) rfl (by kernel_rfl) (.head _) Tryd.underlying26 rfl (by kernel_rfl) (by simp) (by kernel_rfl)) ?_
          refine lv (v := .agg #[.int .u8 ((n : Nat) : Int), .bool h, .bool r]) rfl rfl (yb_load (n := 3) (off := 0) rfl (by kernel_rfl) (.tail _ (.tail _ (.tail _ (.tail _ (.tail _ (.head _)))))) Tryd.underlying26 rfl (by kernel_rfl) (by simp) (by kernel_rfl)) ?_
          refine lp (v := .bool (decide (40 = n ∧ true = h ∧ false = r))) rfl rfl (run_bin rfl (vx := .agg #[.int .u8 ((40 : Nat) : Int), .bool true, .bool false]) (vy := .agg #[.int .u8 ((n : Nat) : Int), .bool h, .bool r]) (by kernel_rfl) (by kernel_rfl) fun w => eq_kind rfl w) ?_
          refine wpL_done (fun W21 hW21 => ?_)
          refine (show Code.wp _ _ _ _ _ from ?_)
          cases hd5 : (decide (40 = n ∧ true = h ∧ false = r)) with
          | false =>
            have h5 : ¬ (40 = n ∧ true = h ∧ false = r) := of_decide_eq_false hd5
            clear hd5
            refine wp_cond_false rfl ?_
            refine wp_skip ?_
            refine (show Code.wp _ _ _ _ _ from ?_)
            refine wp_region_L (W0 := w) [(g6, .cells #[strV [52, 53, 71, 49], .int .u8 40, .bool true, .bool false] 91 (0, 0)), (g5, .cells #[strV [52, 50, 82, 49], .int .u8 40, .bool false, .bool true] 91 (0, 0)), (g4, .cells #[strV [52, 50, 71, 49], .int .u8 40, .bool false, .bool false] 91 (0, 0)), (g3, .cells #[strV [50, 50, 82, 49], .int .u8 20, .bool false, .bool true] 91 (0, 0)), (g2, .cells #[strV [50, 50, 71, 49], .int .u8 20, .bool false, .bool false] 91 (0, 0)), (g1, .cells #[.int .u8 ((n : Nat) : Int), .bool h, .bool r] 26 (0, 0))] (hW21) ?_
            refine lm (v := .int .i64 5) rfl rfl ?_
            refine lm (v := .int .i64 5) rfl rfl ?_
            refine wpL_done (fun W22 hW22 => ?_)
            refine (show Code.wp _ _ _ _ _ from ?_)
            refine wp_seq ?_
            refine wp_region_L (W0 := w) [(g6, .cells #[strV [52, 53, 71, 49], .int .u8 40, .bool true, .bool false] 91 (0, 0)), (g5, .cells #[strV [52, 50, 82, 49], .int .u8 40, .bool false, .bool true] 91 (0, 0)), (g4, .cells #[strV [52, 50, 71, 49], .int .u8 40, .bool false, .bool false] 91 (0, 0)), (g3, .cells #[strV [50, 50, 82, 49], .int .u8 20, .bool false, .bool true] 91 (0, 0)), (g2, .cells #[strV [50, 50, 71, 49], .int .u8 20, .bool false, .bool false] 91 (0, 0)), (g1, .cells #[.int .u8 ((n : Nat) : Int), .bool h, .bool r] 26 (0, 0))] (hW22) ?_
            refine lm (v := .bool true) rfl rfl ?_
            refine wpL_done (fun W23 hW23 => ?_)
            refine (show Code.wp _ _ _ _ _ from ?_)
            refine wp_seq ?_
            refine wp_cond_true rfl ?_
            refine wp_skip ?_
            refine (show Code.wp _ _ _ _ _ from ?_)
            refine wp_seq ?_
            refine wp_block ?_
            refine wp_seq ?_
            refine wp_region_L (W0 := w) [(g6, .cells #[strV [52, 53, 71, 49], .int .u8 40, .bool true, .bool false] 91 (0, 0)), (g5, .cells #[strV [52, 50, 82, 49], .int .u8 40, .bool false, .bool true] 91 (0, 0)), (g4, .cells #[strV [52, 50, 71, 49], .int .u8 40, .bool false, .bool false] 91 (0, 0)), (g3, .cells #[strV [50, 50, 82, 49], .int .u8 20, .bool false, .bool true] 91 (0, 0)), (g2, .cells #[strV [50, 50, 71, 49], .int .u8 20, .bool false, .bool false] 91 (0, 0)), (g1, .cells #[.int .u8 ((n : Nat) : Int), .bool h, .bool r] 26 (0, 0))] (hW23) ?_
            refine lm (v := .agg #[strV [52, 53, 82, 49], .int .u8 40, .bool true, .bool true]) rfl rfl ?_
            refine wpL_new (fun g => .pointer (some ⟨g, 0, none⟩)) (obi := .cells #[strV [], .int .u8 0, .bool false, .bool false] 91 (0, 0)) rfl rfl (fun _ => by kernel_rfl) (fun _ => by simp only [List.setIfInBounds_toArray, List.set_cons_succ, List.set_cons_zero] <;> rfl) fun g7 Bg7 Fg7 => ?_
            refine wpL_s [(g7, .cells #[strV [52, 53, 82, 49], .int .u8 40, .bool true, .bool true] 91 (0, 0)), (g6, .cells #[strV [52, 53, 71, 49], .int .u8 40, .bool true, .bool false] 91 (0, 0)), (g5, .cells #[strV [52, 50, 82, 49], .int .u8 40, .bool false, .bool true] 91 (0, 0)), (g4, .cells #[strV [52, 50, 71, 49], .int .u8 40, .bool false, .bool false] 91 (0, 0)), (g3, .cells #[strV [50, 50, 82, 49], .int .u8 20, .bool false, .bool true] 91 (0, 0)), (g2, .cells #[strV [50, 50, 71, 49], .int .u8 20, .bool false, .bool false] 91 (0, 0)), (g1, .cells #[.int .u8 ((n : Nat) : Int), .bool h, .bool r] 26 (0, 0))] rfl rfl (st_row (off := 0) (v := .agg #[strV [52, 53, 82, 49], .int .u8 40, .bool true, .bool true]) rfl (by kernel_rfl) (by kernel_rfl) (.head _) Bg7 (by kernel_rfl) (by simp [Value.cells]) (by intro v hv; simp [Value.cells] at hv; first | (subst hv; rfl) | (rcases hv with rfl | rfl | rfl | rfl <;> rfl)) (by kernel_rfl) (List.forall_mem_cons.2 ⟨.inl rfl, (List.forall_mem_cons.2 ⟨.inr ⟨(.tail _ (.head _)), (Fg7 _ (.head _))⟩, (List.forall_mem_cons.2 ⟨.inr ⟨(.tail _ (.tail _ (.head _))), (Fg7 _ (.tail _ (.head _)))⟩, (List.forall_mem_cons.2 ⟨.inr ⟨(.tail _ (.tail _ (.tail _ (.head _)))), (Fg7 _ (.tail _ (.tail _ (.head _))))⟩, (List.forall_mem_cons.2 ⟨.inr ⟨(.tail _ (.tail _ (.tail _ (.tail _ (.head _))))), (Fg7 _ (.tail _ (.tail _ (.tail _ (.head _)))))⟩, (List.forall_mem_cons.2 ⟨.inr ⟨(.tail _ (.tail _ (.tail _ (.tail _ (.tail _ (.head _)))))), (Fg7 _ (.tail _ (.tail _ (.tail _ (.tail _ (.head _))))))⟩, (List.forall_mem_cons.2 ⟨.inr ⟨(.tail _ (.tail _ (.tail _ (.tail _ (.tail _ (.tail _ (.head _))))))), (Fg7 _ (.tail _ (.tail _ (.tail _ (.tail _ (.tail _ (.head _)))))))⟩, (List.forall_mem_nil _)⟩)⟩)⟩)⟩)⟩)⟩)⟩)) ?_
            refine wpL_done (fun W24 hW24 => ?_)
            refine (show Code.wp _ _ _ _ _ from ?_)
            refine wp_seq ?_
            refine wp_region_L (W0 := w) [(g7, .cells #[strV [52, 53, 82, 49], .int .u8 40, .bool true, .bool true] 91 (0, 0)), (g6, .cells #[strV [52, 53, 71, 49], .int .u8 40, .bool true, .bool false] 91 (0, 0)), (g5, .cells #[strV [52, 50, 82, 49], .int .u8 40, .bool false, .bool true] 91 (0, 0)), (g4, .cells #[strV [52, 50, 71, 49], .int .u8 40, .bool false, .bool false] 91 (0, 0)), (g3, .cells #[strV [50, 50, 82, 49], .int .u8 20, .bool false, .bool true] 91 (0, 0)), (g2, .cells #[strV [50, 50, 71, 49], .int .u8 20, .bool false, .bool false] 91 (0, 0)), (g1, .cells #[.int .u8 ((n : Nat) : Int), .bool h, .bool r] 26 (0, 0))] (hW24) ?_
            refine lm (v := .pointer (some ⟨g7, 1, none⟩)) rfl rfl ?_
            refine lv (v := .agg #[.int .u8 40, .bool true, .bool true]) rfl rfl (yb_load (n := 3) (off := 1) rfl (by kernel_rfl) (.head _) Tryd.underlying26 rfl (by kernel_rfl) (by simp) (by kernel_rfl)) ?_
            refine lv (v := .agg #[.int .u8 ((n : Nat) : Int), .bool h, .bool r]) rfl rfl (yb_load (n := 3) (off := 0) rfl (by kernel_rfl) (.tail _ (.tail _ (.tail _ (.tail _ (.tail _ (.tail _ (.head _))))))) Tryd.underlying26 rfl (by kernel_rfl) (by simp) (by kernel_rfl)) ?_
            refine lp (v := .bool (decide (40 = n ∧ true = h ∧ true = r))) rfl rfl (run_bin rfl (vx := .agg #[.int .u8 ((40 : Nat) : Int), .bool true, .bool true]) (vy := .agg #[.int .u8 ((n : Nat) : Int), .bool h, .bool r]) (by kernel_rfl) (by kernel_rfl) fun w => eq_kind rfl w) ?_
            refine wpL_done (fun W25 hW25 => ?_)
            refine (show Code.wp _ _ _ _ _ from ?_)
            cases hd6 : (decide (40 = n ∧ true = h ∧ true = r)) with
            | false =>
              have h6 : ¬ (40 = n ∧ true = h ∧ true = r) := of_decide_eq_false hd6
              clear hd6
              refine wp_cond_false rfl ?_
              refine wp_skip ?_
              refine (show Code.wp _ _ _ _ _ from ?_)
              refine wp_region_L (W0 := w) [(g7, .cells #[strV [52, 53, 82, 49], .int .u8 40, .bool true, .bool true] 91 (0, 0)), (g6, .cells #[strV [52, 53, 71, 49], .int .u8 40, .bool true, .bool false] 91 (0, 0)), (g5, .cells #[strV [52, 50, 82, 49], .int .u8 40, .bool false, .bool true] 91 (0, 0)), (g4, .cells #[strV [52, 50, 71, 49], .int .u8 40, .bool false, .bool false] 91 (0, 0)), (g3, .cells #[strV [50, 50, 82, 49], .int .u8 20, .bool false, .bool true] 91 (0, 0)), (g2, .cells #[strV [50, 50, 71, 49], .int .u8 20, .bool false, .bool false] 91 (0, 0)), (g1, .cells #[.int .u8 ((n : Nat) : Int), .bool h, .bool r] 26 (0, 0))] (hW25) ?_
              refine lm (v := .int .i64 6) rfl rfl ?_
              refine lm (v := .int .i64 6) rfl rfl ?_
              refine wpL_done (fun W26 hW26 => ?_)
              refine (show Code.wp _ _ _ _ _ from ?_)
              refine wp_seq ?_
              refine wp_region_L (W0 := w) [(g7, .cells #[strV [52, 53, 82, 49], .int .u8 40, .bool true, .bool true] 91 (0, 0)), (g6, .cells #[strV [52, 53, 71, 49], .int .u8 40, .bool true, .bool false] 91 (0, 0)), (g5, .cells #[strV [52, 50, 82, 49], .int .u8 40, .bool false, .bool true] 91 (0, 0)), (g4, .cells #[strV [52, 50, 71, 49], .int .u8 40, .bool false, .bool false] 91 (0, 0)), (g3, .cells #[strV [50, 50, 82, 49], .int .u8 20, .bool false, .bool true] 91 (0, 0)), (g2, .cells #[strV [50, 50, 71, 49], .int .u8 20, .bool false, .bool false] 91 (0, 0)), (g1, .cells #[.int .u8 ((n : Nat) : Int), .bool h, .bool r] 26 (0, 0))] (hW26) ?_
              refine lm (v := .bool false) rfl rfl ?_
              refine wpL_done (fun W27 hW27 => ?_)
              refine (show Code.wp _ _ _ _ _ from ?_)
              refine wp_seq ?_
              refine wp_cond_false rfl ?_
              refine wp_exit ?_
              refine (show Code.wp _ _ _ _ _ from ?_)
              refine wp_seq ?_
              refine wp_region_L (W0 := w) [(g7, .cells #[strV [52, 53, 82, 49], .int .u8 40, .bool true, .bool true] 91 (0, 0)), (g6, .cells #[strV [52, 53, 71, 49], .int .u8 40, .bool true, .bool false] 91 (0, 0)), (g5, .cells #[strV [52, 50, 82, 49], .int .u8 40, .bool false, .bool true] 91 (0, 0)), (g4, .cells #[strV [52, 50, 71, 49], .int .u8 40, .bool false, .bool false] 91 (0, 0)), (g3, .cells #[strV [50, 50, 82, 49], .int .u8 20, .bool false, .bool true] 91 (0, 0)), (g2, .cells #[strV [50, 50, 71, 49], .int .u8 20, .bool false, .bool false] 91 (0, 0)), (g1, .cells #[.int .u8 ((n : Nat) : Int), .bool h, .bool r] 26 (0, 0))] (hW27) ?_
              refine lm (v := strV []) rfl rfl ?_
              refine lm (v := .int .i64 32) rfl rfl ?_
              refine wpL_done (fun W28 hW28 => ?_)
              refine (show Code.wp _ _ _ _ _ from ?_)
              refine wp_ret ?_
              try simp only [inBlock_ret, then_ret]
              refine bodyPost_ret (v := .tuple #[strV [], .int .i64 32]) ?_ rfl ?_
              · kernel_rfl
              · exact ⟨(by unfold codeV; rw [if_neg h1, if_neg h2, if_neg h3, if_neg h4, if_neg h5, if_neg h6]), hW28.1⟩
            | true =>
              have h6 : 40 = n ∧ true = h ∧ true = r := of_decide_eq_true hd6
              clear hd6
              refine wp_cond_true rfl ?_
              refine wp_seq ?_
              refine wp_region_L (W0 := w) [(g7, .cells #[strV [52, 53, 82, 49], .int .u8 40, .bool true, .bool true] 91 (0, 0)), (g6, .cells #[strV [52, 53, 71, 49], .int .u8 40, .bool true, .bool false] 91 (0, 0)), (g5, .cells #[strV [52, 50, 82, 49], .int .u8 40, .bool false, .bool true] 91 (0, 0)), (g4, .cells #[strV [52, 50, 71, 49], .int .u8 40, .bool false, .bool false] 91 (0, 0)), (g3, .cells #[strV [50, 50, 82, 49], .int .u8 20, .bool false, .bool true] 91 (0, 0)), (g2, .cells #[strV [50, 50, 71, 49], .int .u8 20, .bool false, .bool false] 91 (0, 0)), (g1, .cells #[.int .u8 ((n : Nat) : Int), .bool h, .bool r] 26 (0, 0))] (hW25) ?_
              refine lm (v := .pointer (some ⟨g7, 0, none⟩)) rfl rfl ?_
              refine lv (v := strV [52, 53, 82, 49]) rfl rfl (yb_cell (off := 0) rfl (by kernel_rfl) (.head _) Tryd.underlying9 rfl (by kernel_rfl)) ?_
              refine lm (v := strV [52, 53, 82, 49]) rfl rfl ?_
              refine lm (v := .int .i64 0) rfl rfl ?_
              refine wpL_done (fun W29 hW29 => ?_)
              refine (show Code.wp _ _ _ _ _ from ?_)
              refine wp_ret ?_
              try simp only [inBlock_ret, then_ret]
              refine bodyPost_ret (v := .tuple #[strV [52, 53, 82, 49], .int .i64 0]) ?_ rfl ?_
              · kernel_rfl
              · exact ⟨(by unfold codeV; rw [if_neg h1, if_neg h2, if_neg h3, if_neg h4, if_neg h5, if_pos h6]), hW29.1⟩
          | true =>
            have h5 : 40 = n ∧ true = h ∧ false = r := of_decide_eq_true hd5
            clear hd5
            refine wp_cond_true rfl ?_
            refine wp_seq ?_
            refine wp_region_L (W0 := w) [(g6, .cells #[strV [52, 53, 71, 49], .int .u8 40, .bool true, .bool false] 91 (0, 0)), (g5, .cells #[strV [52, 50, 82, 49], .int .u8 40, .bool false, .bool true] 91 (0, 0)), (g4, .cells #[strV [52, 50, 71, 49], .int .u8 40, .bool false, .bool false] 91 (0, 0)), (g3, .cells #[strV [50, 50, 82, 49], .int .u8 20, .bool false, .bool true] 91 (0, 0)), (g2, .cells #[strV [50, 50, 71, 49], .int .u8 20, .bool false, .bool false] 91 (0, 0)), (g1, .cells #[.int .u8 ((n : Nat) : Int), .bool h, .bool r] 26 (0, 0))] (hW21) ?_
            refine lm (v := .pointer (some ⟨g6, 0, none⟩)) rfl rfl ?_
            refine lv (v := strV [52, 53, 71, 49]) rfl rfl (yb_cell (off := 0) rfl (by kernel_rfl) (.head _) Tryd.underlying9 rfl (by kernel_rfl)) ?_
            refine lm (v := strV [52, 53, 71, 49]) rfl rfl ?_
            refine lm (v := .int .i64 0) rfl rfl ?_
            refine wpL_done (fun W30 hW30 => ?_)
            refine (show Code.wp _ _ _ _ _ from ?_)
            refine wp_ret ?_
            try simp only [inBlock_ret, then_ret]
            refine bodyPost_ret (v := .tuple #[strV [52, 53, 71, 49], .int .i64 0]) ?_ rfl ?_
            · kernel_rfl
            · exact ⟨(by unfold codeV; rw [if_neg h1, if_neg h2, if_neg h3, if_neg h4, if_pos h5]), hW30.1⟩
        | true =>
          have h4 : 40 = n ∧ false = h ∧ true = r := of_decide_eq_true hd4
          clear hd4
          refine wp_cond_true rfl ?_
          refine wp_seq ?_
          refine wp_region_L (W0 := w) [(g5, .cells #[strV [52, 50, 82, 49], .int .u8 40, .bool false, .bool true] 91 (0, 0)), (g4, .cells #[strV [52, 50, 71, 49], .int .u8 40, .bool false, .bool false] 91 (0, 0)), (g3, .cells #[strV [50, 50, 82, 49], .int .u8 20, .bool false, .bool true] 91 (0, 0)), (g2, .cells #[strV [50, 50, 71, 49], .int .u8 20, .bool false, .bool false] 91 (0, 0)), (g1, .cells #[.int .u8 ((n : Nat) : Int), .bool h, .bool r] 26 (0, 0))] (hW17) ?_
          refine lm (v := .pointer (some ⟨g5, 0, none⟩)) rfl rfl ?_
          refine lv (v := strV [52, 50, 82, 49]) rfl rfl (yb_cell (off := 0) rfl (by kernel_rfl) (.head _) Tryd.underlying9 rfl (by kernel_rfl)) ?_
          refine lm (v := strV [52, 50, 82, 49]) rfl rfl ?_
          refine lm (v := .int .i64 0) rfl rfl ?_
          refine wpL_done (fun W31 hW31 => ?_)
          refine (show Code.wp _ _ _ _ _ from ?_)
          refine wp_ret ?_
          try simp only [inBlock_ret, then_ret]
          refine bodyPost_ret (v := .tuple #[strV [52, 50, 82, 49], .int .i64 0]) ?_ rfl ?_
          · kernel_rfl
          · exact ⟨(by unfold codeV; rw [if_neg h1, if_neg h2, if_neg h3, if_pos h4]), hW31.1⟩
      | true =>
        have h3 : 40 = n ∧ false = h ∧ false = r := of_decide_eq_true hd3
        clear hd3
        refine wp_cond_true rfl ?_
        refine wp_seq ?_
        refine wp_region_L (W0 := w) [(g4, .cells #[strV [52, 50, 71, 49], .int .u8 40, .bool false, .bool false] 91 (0, 0)), (g3, .cells #[strV [50, 50, 82, 49], .int .u8 20, .bool false, .bool true] 91 (0, 0)), (g2, .cells #[strV [50, 50, 71, 49], .int .u8 20, .bool false, .bool false] 91 (0, 0)), (g1, .cells #[.int .u8 ((n : Nat) : Int), .bool h, .bool r] 26 (0, 0))] (hW13) ?_
        refine lm (v := .pointer (some ⟨g4, 0, none⟩)) rfl rfl ?_
        refine lv (v := strV [52, 50, 71, 49]) rfl rfl (yb_cell (off := 0) rfl (by kernel_rfl) (.head _) Tryd.underlying9 rfl (by kernel_rfl)) ?_
        refine lm (v := strV [52, 50, 71, 49]) rfl rfl ?_
        refine lm (v := .int .i64 0) rfl rfl ?_
        refine wpL_done (fun W32 hW32 => ?_)
        refine (show Code.wp _ _ _ _ _ from ?_)
        refine wp_ret ?_
        try simp only [inBlock_ret, then_ret]
        refine bodyPost_ret (v := .tuple #[strV [52, 50, 71, 49], .int .i64 0]) ?_ rfl ?_
        · kernel_rfl
        · exact ⟨(by unfold codeV; rw [if_neg h1, if_neg h2, if_pos h3]), hW32.1⟩
    | true =>
      have h2 : 20 = n ∧ false = h ∧ true = r := of_decide_eq_true hd2
      clear hd2
      refine wp_cond_true rfl ?_
      refine wp_seq ?_
      refine wp_region_L (W0 := w) [(g3, .cells #[strV [50, 50, 82, 49], .int .u8 20, .bool false, .bool true] 91 (0, 0)), (g2, .cells #[strV [50, 50, 71, 49], .int .u8 20, .bool false, .bool false] 91 (0, 0)), (g1, .cells #[.int .u8 ((n : Nat) : Int), .bool h, .bool r] 26 (0, 0))] (hW9) ?_
      refine lm (v := .pointer (some ⟨g3, 0, none⟩)) rfl rfl ?_
      refine lv (v := strV [50, 50, 82, 49]) rfl rfl (yb_cell (off := 0) rfl (by kernel_rfl) (.head _) Tryd.underlying9 rfl (by kernel_rfl)) ?_
      refine lm (v := strV [50, 50, 82, 49]) rfl rfl ?_
      refine lm (v := .int .i64 0) rfl rfl ?_
      refine wpL_done (fun W33 hW33 => ?_)
      refine (show Code.wp _ _ _ _ _ from ?_)
      refine wp_ret ?_
      try simp only [inBlock_ret, then_ret]
      refine bodyPost_ret (v := .tuple #[strV [50, 50, 82, 49], .int .i64 0]) ?_ rfl ?_
      · kernel_rfl
      · exact ⟨(by unfold codeV; rw [if_neg h1, if_pos h2]), hW33.1⟩
  | true =>
    have h1 : 20 = n ∧ false = h ∧ false = r := of_decide_eq_true hd1
    clear hd1
    refine wp_cond_true rfl ?_
    refine wp_seq ?_
    refine wp_region_L (W0 := w) [(g2, .cells #[strV [50, 50, 71, 49], .int .u8 20, .bool false, .bool false] 91 (0, 0)), (g1, .cells #[.int .u8 ((n : Nat) : Int), .bool h, .bool r] 26 (0, 0))] (hW5) ?_
    refine lm (v := .pointer (some ⟨g2, 0, none⟩)) rfl rfl ?_
    refine lv (v := strV [50, 50, 71, 49]) rfl rfl (yb_cell (off := 0) rfl (by kernel_rfl) (.head _) Tryd.underlying9 rfl (by kernel_rfl)) ?_
    refine lm (v := strV [50, 50, 71, 49]) rfl rfl ?_
    refine lm (v := .int .i64 0) rfl rfl ?_
    refine wpL_done (fun W34 hW34 => ?_)
    refine (show Code.wp _ _ _ _ _ from ?_)
    refine wp_ret ?_
    try simp only [inBlock_ret, then_ret]
    refine bodyPost_ret (v := .tuple #[strV [50, 50, 71, 49], .int .i64 0]) ?_ rfl ?_
    · kernel_rfl
    · exact ⟨(by unfold codeV; rw [if_pos h1]), hW34.1⟩
end Go.Proofs.YtbceajgipmjmlaaDoor
namespace Go.Proofs.YtbceajgipmjmlaaDoor
open Go Go.RowKit Tw
theorem mcells_len (m : List (Nat × UInt8)) : (mcells m).length = m.length * 2 := by
  induction m with
  | nil => rfl
  | cons x m ih => show (mcells m).length + 2 = _; rw [ih, List.length_cons]; omega
theorem mcells_get : ∀ {m : List (Nat × UInt8)} {k : Nat} {x : Nat × UInt8}, m[k]? = some x → (mcells m)[k * 2]? = some (.int .i64 ((x.1 : Nat) : Int)) ∧ (mcells m)[k * 2 + 1]? = some (.int .u8 ((x.2.toNat : Nat) : Int))
  | [], _, _, h => by simp at h
  | y :: m, 0, x, h => by simp at h; subst h; exact ⟨rfl, rfl⟩
  | y :: m, k + 1, x, h => by
    simp only [List.getElem?_cons_succ] at h
    have := mcells_get h
    rw [show (k + 1) * 2 = k * 2 + 1 + 1 from by omega]
    exact this
theorem miss_at {W : World} {p : Option Addr} {m : List (Nat × UInt8)} {k : Nat} (h : SLV W p (mcells m)) (hk : k < m.length) : ∃ x b off, m[k]? = some x ∧ p = some ⟨b, off, none⟩ ∧ b < W.heap.size ∧ ∀ (j : Nat) (v : Value), [Value.int .i64 ((x.1 : Nat) : Int), .int .u8 ((x.2.toNat : Nat) : Int)][j]? = some v → W.cell? ⟨b, off + k * 2 + j, none⟩ = some v := by
  have hx : m[k]? = some m[k] := List.getElem?_eq_getElem hk
  rcases h with h | ⟨b, off, hp, hlt, hc⟩
  · have := mcells_len m; rw [h] at this; simp at this; omega
  · obtain ⟨h1, h2⟩ := mcells_get hx
    refine ⟨m[k], b, off, hx, hp, hlt, fun j v hv => ?_⟩
    rcases j with _ | _ | j
    · simp only [List.getElem?_cons_zero, Option.some.injEq] at hv; subst hv; have := hc _ _ h1; rwa [show off + k * 2 + 0 = off + k * 2 from rfl]
    · simp only [Nat.zero_add, List.getElem?_cons_succ, List.getElem?_cons_zero, Option.some.injEq] at hv; subst hv; have := hc _ _ h2; rwa [show off + k * 2 + (0 + 1) = off + (k * 2 + 1) from by omega]
    · simp at hv
theorem take_eq_succ {α : Type} {a b : List α} {k : Nat} {x y : α} (h : a.take k = b.take k) (hx : a[k]? = some x) (hy : b[k]? = some y) (he : x = y) : a.take (k + 1) = b.take (k + 1) := by
  obtain ⟨h1, rfl⟩ := List.getElem?_eq_some_iff.1 hx
  obtain ⟨h2, rfl⟩ := List.getElem?_eq_some_iff.1 hy
  rw [List.take_succ_eq_append_getElem h1, List.take_succ_eq_append_getElem h2, h, he]
theorem miss_eq {x y : Nat × UInt8} (h : x.1 = y.1 ∧ x.2.toNat = y.2.toNat) : x = y := Prod.ext h.1 (UInt8.toNat_inj.1 h.2)
set_option maxRecDepth 100000 in
set_option maxHeartbeats 4000000 in
theorem same_any (A B : List (Nat × UInt8)) (pA pB : Option Addr) (cA cB : Nat) (lA : A.length ≤ 4000000000) (w : World) (hA : SLV w pA (mcells A)) (hB : SLV w pB (mcells B)) : Calls Tryd.prog 33 #[.slice pA A.length cA, .slice pB B.length cB] w fun e w' => e = .returned (.bool (decide (A = B))) ∧ Below w.heap.size w w' := by
  have HA := Lib.hid hA
  have HB := Lib.hid hB
  clear hA hB
  go_enter Tryd.func33, Tryd.ntmps33
  refine wp_seq ?_
  refine wp_region_L (W0 := w) [] (KS.start w) ?_
  refine lm (v := .bool false) rfl rfl ?_
  refine wpL_done (fun W1 hW1 => ?_)
  refine (show Code.wp _ _ _ _ _ from ?_)
  refine wp_seq ?_
  refine wp_seq ?_
  refine wp_region_L (W0 := w) [] (hW1) ?_
  refine lm (v := .slice pA A.length cA) rfl rfl ?_
  refine lp (v := .int .i64 ((A.length : Nat) : Int)) rfl rfl (run_lenL (p := pA) (cap := cA) (n := A.length) rfl Tryd.underlying37 (by kernel_rfl)) ?_
  refine lm (v := .slice pB B.length cB) rfl rfl ?_
  refine lp (v := .int .i64 ((B.length : Nat) : Int)) rfl rfl (run_lenL (p := pB) (cap := cB) (n := B.length) rfl Tryd.underlying37 (by kernel_rfl)) ?_
  refine lp (v := .bool (!(decide (A.length = B.length)))) rfl rfl (run_bin rfl (vx := (.int .i64 ((A.length : Nat) : Int))) (vy := (.int .i64 ((B.length : Nat) : Int))) (by kernel_rfl) (by kernel_rfl) fun w => bn_neq rfl w) ?_
  refine wpL_done (fun W2 hW2 => ?_)
  refine (show Code.wp _ _ _ _ _ from ?_)
  cases hd1 : (decide (A.length = B.length)) with
  | false =>
    have h1 : ¬ (A.length = B.length) := of_decide_eq_false hd1
    clear hd1
    refine wp_cond_true rfl ?_
    refine wp_seq ?_
    refine wp_region_L (W0 := w) [] (hW2) ?_
    refine lm (v := .bool false) rfl rfl ?_
    refine wpL_done (fun W3 hW3 => ?_)
    refine (show Code.wp _ _ _ _ _ from ?_)
    refine wp_ret ?_
    try simp only [inBlock_ret, then_ret]
    refine bodyPost_ret (v := .bool false) ?_ rfl ?_
    · kernel_rfl
    · exact ⟨(bool_is (by rw [eq_comm, decide_eq_false_iff_not]; intro e; exact h1 (by rw [e]))), hW3.1⟩
  | true =>
    have h1 : A.length = B.length := of_decide_eq_true hd1
    clear hd1
    refine wp_cond_false rfl ?_
    refine wp_skip ?_
    refine (show Code.wp _ _ _ _ _ from ?_)
    refine wp_seq ?_
    refine wp_seq ?_
    refine wp_region_L (W0 := w) [] (hW2) ?_
    refine lm (v := .int .i64 0) rfl rfl ?_
    refine wpL_done (fun W4 hW4 => ?_)
    refine (show Code.wp _ _ _ _ _ from ?_)
    refine wp_block ?_
    go_loopw [5] (fun u5 wr => ∃ (k : Nat), (k ≤ A.length) ∧ (A.take k = B.take k) ∧ u5 = .int .i64 ((k : Nat) : Int) ∧ KS w [] wr) (fun u5 _ => A.length - (intOf u5).toNat)
    case atStart => exact ⟨0, (Nat.zero_le _), rfl, rfl, hW4⟩
    case round =>
      obtain ⟨k, hk, hT, rfl, hL5⟩ := hrel
      refine wp_seq ?_
      refine wp_seq ?_
      refine wp_region_L (W0 := w) [] (hL5) ?_
      refine lm (v := .int .i64 ((k : Nat) : Int)) rfl rfl ?_
      refine lm (v := .slice pA A.length cA) rfl rfl ?_
      refine lp (v := .int .i64 ((A.length : Nat) : Int)) rfl rfl (run_lenL (p := pA) (cap := cA) (n := A.length) rfl Tryd.underlying37 (by kernel_rfl)) ?_
      refine lp (v := .bool (decide (k < A.length))) rfl rfl (run_bin rfl (vx := (.int .i64 ((k : Nat) : Int))) (vy := (.int .i64 ((A.length : Nat) : Int))) (by kernel_rfl) (by kernel_rfl) fun w => bn_lss rfl w) ?_
      refine wpL_done (fun W6 hW6 => ?_)
      refine (show Code.wp _ _ _ _ _ from ?_)
      cases hd2 : (decide (k < A.length)) with
      | false =>
        have h2 : ¬ (k < A.length) := of_decide_eq_false hd2
        clear hd2
        refine wp_cond_false rfl ?_
        refine wp_exit ?_
        refine (show Code.wp _ _ _ _ _ from ?_)
        refine wp_seq ?_
        refine wp_region_L (W0 := w) [] (hW6) ?_
        refine lm (v := .bool true) rfl rfl ?_
        refine wpL_done (fun W7 hW7 => ?_)
        refine (show Code.wp _ _ _ _ _ from ?_)
        refine wp_ret ?_
        try simp only [inBlock_ret, then_ret]
        refine bodyPost_ret (v := .bool true) ?_ rfl ?_
        · kernel_rfl
        · exact ⟨(bool_is (by rw [eq_comm, decide_eq_true_iff]; rw [List.take_of_length_le (by omega), List.take_of_length_le (by omega)] at hT; exact hT)), hW7.1⟩
      | true =>
        have h2 : k < A.length := of_decide_eq_true hd2
        clear hd2
        refine wp_cond_true rfl ?_
        refine wp_skip ?_
        refine (show Code.wp _ _ _ _ _ from ?_)
        refine wp_seq ?_
        refine wp_block ?_
        refine wp_seq ?_
        refine wp_region_V (W0 := w) [] (by kernel_rfl) (hW6) ?_
        refine vm (i := 0) (v := .slice pA A.length cA) rfl rfl rfl ?_
        refine vm (i := 1) (v := .int .i64 ((k : Nat) : Int)) rfl rfl rfl ?_
        obtain ⟨x1, b1, f1, hx1, hp1, lt1, hc1⟩ := miss_at (k := k) HA.out (by omega)
        have lx1 := x1.2.toNat_lt
        refine vp (i := 2) (v := .pointer (some ⟨b1, f1 + k * 2, none⟩)) rfl rfl rfl (run_idxQ (p := pA) (cap := cA) (n := A.length) (j := .i64) (k := k) (sz := 2) rfl Tryd.underlying37 (by kernel_rfl) (by kernel_rfl) hp1 (by kernel_rfl) (by omega)) ?_
        refine vv (i := 3) (v := .agg #[.int .i64 ((x1.1 : Nat) : Int), .int .u8 ((x1.2.toNat : Nat) : Int)]) rfl rfl rfl (yb_olds (cs := [.int .i64 ((x1.1 : Nat) : Int), .int .u8 ((x1.2.toNat : Nat) : Int)]) rfl (by kernel_rfl) hc1 lt1 Tryd.underlying42 rfl (by kernel_rfl)) ?_
        refine vm (i := 4) (v := .slice pB B.length cB) rfl rfl rfl ?_
        refine vm (i := 5) (v := .int .i64 ((k : Nat) : Int)) rfl rfl rfl ?_
        obtain ⟨x2, b2, f2, hx2, hp2, lt2, hc2⟩ := miss_at (k := k) HB.out (by omega)
        have lx2 := x2.2.toNat_lt
        refine vp (i := 6) (v := .pointer (some ⟨b2, f2 + k * 2, none⟩)) rfl rfl rfl (run_idxQ (p := pB) (cap := cB) (n := B.length) (j := .i64) (k := k) (sz := 2) rfl Tryd.underlying37 (by kernel_rfl) (by kernel_rfl) hp2 (by kernel_rfl) (by omega)) ?_
        refine vv (i := 7) (v := .agg #[.int .i64 ((x2.1 : Nat) : Int), .int .u8 ((x2.2.toNat : Nat) : Int)]) rfl rfl rfl (yb_olds (cs := [.int .i64 ((x2.1 : Nat) : Int), .int .u8 ((x2.2.toNat : Nat) : Int)]) rfl (by kernel_rfl) hc2 lt2 Tryd.underlying42 rfl (by kernel_rfl)) ?_
        refine vp (i := 8) (v := .bool (!(decide (x1.1 = x2.1 ∧ x1.2.toNat = x2.2.toNat)))) rfl rfl rfl (run_bin rfl (vx := .agg #[.int .i64 ((x1.1 : Nat) : Int), .int .u8 ((x1.2.toNat : Nat) : Int)]) (vy := .agg #[.int .i64 ((x2.1 : Nat) : Int), .int .u8 ((x2.2.toNat : Nat) : Int)]) (by kernel_rfl) (by kernel_rfl) fun w => ne_miss rfl w) ?_
        refine wpV_done (by kernel_rfl) (fun W8 hW8 => ?_) _
        refine (show Code.wp _ _ _ _ _ from ?_)
        cases hd3 : (decide (x1.1 = x2.1 ∧ x1.2.toNat = x2.2.toNat)) with
        | false =>
          have h3 : ¬ (x1.1 = x2.1 ∧ x1.2.toNat = x2.2.toNat) := of_decide_eq_false hd3
          clear hd3
          refine wp_cond_true rfl ?_
          refine wp_seq ?_
          refine wp_region_L (W0 := w) [] (hW8) ?_
          refine lm (v := .bool false) rfl rfl ?_
          refine wpL_done (fun W9 hW9 => ?_)
          refine (show Code.wp _ _ _ _ _ from ?_)
          refine wp_ret ?_
          try simp only [inBlock_ret, then_ret]
          refine bodyPost_ret (v := .bool false) ?_ rfl ?_
          · kernel_rfl
          · exact ⟨(bool_is (by rw [eq_comm, decide_eq_false_iff_not]; rintro rfl; rw [hx1] at hx2; cases hx2; exact h3 ⟨rfl, rfl⟩)), hW9.1⟩
        | true =>
          have h3 : x1.1 = x2.1 ∧ x1.2.toNat = x2.2.toNat := of_decide_eq_true hd3
          clear hd3
          refine wp_cond_false rfl ?_
          refine wp_skip ?_
          refine (show Code.wp _ _ _ _ _ from ?_)
          refine wp_region_L (W0 := w) [] (hW8) ?_
          refine lm (v := .int .i64 ((k : Nat) : Int)) rfl rfl ?_
          refine lp (v := .int .i64 (((k + 1) : Nat) : Int)) rfl rfl (run_bin rfl (vx := (.int .i64 ((k : Nat) : Int))) (vy := (.int .i64 ((1 : Nat) : Int))) (by kernel_rfl) (by kernel_rfl) fun w => bn_add (z := (k + 1)) rfl (wr_i64 (by omega)) w) ?_
          refine lm (v := .int .i64 (((k + 1) : Nat) : Int)) rfl rfl ?_
          refine wpL_done (fun W10 hW10 => ?_)
          go_roundw
          case rel =>
            repeat apply Exists.intro
            exact ⟨⟨k + 1, (by omega), (take_eq_succ hT hx1 hx2 (miss_eq h3)), rfl, hW10⟩, rfl⟩
          case measure => (show A.length - (intOf (.int .i64 (((k + 1) : Nat) : Int))).toNat < A.length - (intOf (.int .i64 ((k : Nat) : Int))).toNat); simp only [intOf]; omega
end Go.Proofs.YtbceajgipmjmlaaDoor
