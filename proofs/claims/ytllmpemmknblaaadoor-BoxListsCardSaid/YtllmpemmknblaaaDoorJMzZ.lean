import Derived.Test.YtllmpemmknblaaaDoorJMz01
import Derived.Test.YtllmpemmknblaaaDoorBL02
import Derived.Test.YtllmpemmknblaaaDoorJMz00
import Derived.Test.YtllmpemmknblaaaDoorBL00
import Derived.Test.YtllmpemmknblaaaDoorBL03
import Derived.Laws.OwnMore
import Derived.Laws.Small
/- BoxLists: the law holds for every input; no condition but the row's own. -/
set_option linter.unusedVariables false
set_option linter.unusedSimpArgs false
set_option linter.unusedSectionVars false
namespace Go.Proofs.YtllmpemmknblaaaDoor
open Go Go.RowKit Tw
set_option maxRecDepth 100000 in
set_option maxHeartbeats 4000000 in
theorem stable_any {W0 : Base} {K : List (Nat × Obj)} {g n cap : Nat} {cur : Array Value} (l : List Bx) (hn : l.length = n) (hn2 : n ≤ 4000000000) (hr : RowX cur l) (hB : W0.B ≤ g) (hg : ∀ q ∈ K, q.1 ≠ g) (w : World) (hw : KS W0 ((g, .cells cur 26 (0, 0)) :: K) w) :
    Calls Tryd.prog 64 #[.slice (some ⟨g, 0, none⟩) n cap, .int .i64 ((n : Nat) : Int), .func (.func 48) #[] #[]] w fun e w' => ∃ v K', e = .returned v ∧ KS W0 K' w' ∧ (v = .tuple #[] ∧ ∃ cur', RowX cur' (orderX l) ∧ cur'.size = cur.size ∧ K' = (g, .cells cur' 26 (0, 0)) :: K) := by
  go_enter Tryd.func64, Tryd.ntmps64
  refine wp_seq ?_
  refine wp_region_L (W0 := W0) ((g, .cells cur 26 (0, 0)) :: K) (hw) ?_
  refine lm (v := .int .i64 20) rfl rfl ?_
  refine wpL_done (fun W1 hW1 => ?_)
  refine (show Code.wp _ _ _ _ _ from ?_)
  refine wp_seq ?_
  refine wp_region_L (W0 := W0) ((g, .cells cur 26 (0, 0)) :: K) (hW1) ?_
  refine lm (v := .int .i64 20) rfl rfl ?_
  refine lm (v := .int .i64 0) rfl rfl ?_
  refine lm (v := .int .i64 20) rfl rfl ?_
  refine wpL_done (fun W2 hW2 => ?_)
  refine (show Code.wp _ _ _ _ _ from ?_)
  refine wp_seq ?_
  refine wp_block ?_
  go_loopw [7, 8] (fun u7 u8 wr => ∃ (a0 b0 : Nat) (P0 Q0 : List Bx) (cur0 : Array Value), (b0 = a0 + 20 ∧ a0 ≤ n) ∧ (P0.length = a0) ∧ (Fu 20 P0) ∧ (∀ z, (P0 ++ Q0).filter (eqv z) = l.filter (eqv z)) ∧ (RowX cur0 (P0 ++ Q0)) ∧ (cur0.size = cur.size) ∧ (P0.length + Q0.length = n) ∧ u7 = .int .i64 ((a0 : Nat) : Int) ∧ u8 = .int .i64 ((b0 : Nat) : Int) ∧ KS W0 ((g, .cells cur0 26 (0, 0)) :: K) wr) (fun u7 _ _ => n + 1 - (intOf u7).toNat)
  case atStart => exact ⟨0, 20, [], l, cur, (by omega), rfl, Fu.nil, (fun _ => rfl), hr, rfl, (by simpa using hn), rfl, rfl, hW2⟩
  case round =>
    obtain ⟨a0, b0, P0, Q0, cur0, hab0, hPl0, hFu0, hf0, hr0, hz0, hl0, rfl, rfl, hL3⟩ := hrel
    refine wp_seq ?_
    refine wp_seq ?_
    refine wp_region_L (W0 := W0) ((g, .cells cur0 26 (0, 0)) :: K) (hL3) ?_
    refine lm (v := .int .i64 ((b0 : Nat) : Int)) rfl rfl ?_
    refine lm (v := .int .i64 ((n : Nat) : Int)) rfl rfl ?_
    refine lp (v := .bool (!(decide (n < b0)))) rfl rfl (run_bin rfl (vx := (.int .i64 ((b0 : Nat) : Int))) (vy := (.int .i64 ((n : Nat) : Int))) (by kernel_rfl) (by kernel_rfl) fun w => bn_leq rfl w) ?_
    refine wpL_done (fun W4 hW4 => ?_)
    refine (show Code.wp _ _ _ _ _ from ?_)
    cases hd1 : (decide (n < b0)) with
    | false =>
      have h1 : ¬ (n < b0) := of_decide_eq_false hd1
      clear hd1
      refine wp_cond_true rfl ?_
      refine wp_skip ?_
      refine (show Code.wp _ _ _ _ _ from ?_)
      refine wp_block ?_
      refine wp_seq ?_
      refine wp_region_L (W0 := W0) ((g, .cells cur0 26 (0, 0)) :: K) (hW4) ?_
      refine lm (v := .slice (some ⟨g, 0, none⟩) n cap) rfl rfl ?_
      refine lm (v := .int .i64 ((a0 : Nat) : Int)) rfl rfl ?_
      refine lm (v := .int .i64 ((b0 : Nat) : Int)) rfl rfl ?_
      refine lm (v := .func (.func 48) #[] #[]) rfl rfl ?_
      refine wpL_c (f := 71) (args := #[.slice (some ⟨g, 0, none⟩) n cap, .int .i64 ((a0 : Nat) : Int), .int .i64 ((b0 : Nat) : Int), .func (.func 48) #[] #[]]) (fun v K9 => v = .tuple #[] ∧ ∃ cur', RowX cur' ((P0 ++ Q0).take a0 ++ orderX (((P0 ++ Q0).take b0).drop a0) ++ (P0 ++ Q0).drop b0) ∧ cur'.size = cur0.size ∧ K9 = ((g, .cells cur' 26 (0, 0)) :: K)) rfl (by kernel_rfl) (fun _ => (by kernel_rfl)) (fun W hW => ins_any (K := K) (cap := cap) (P0 ++ Q0) (by rw [List.length_append]; exact hl0) (by omega) a0 b0 (by omega) (by omega) hr0 hB (fun q hq => (hg _ hq)) W (hW.sub (List.forall_mem_cons.2 ⟨(.head _), (fun p hp => (.tail _ hp))⟩))) (fun _ => by simp only [List.setIfInBounds_toArray, List.set_cons_succ, List.set_cons_zero] <;> rfl) ?_
      rintro v K9 ⟨rfl, cu1, R1, Q1, rfl⟩
      refine wpL_done (fun W5 hW5 => ?_)
      refine (show Code.wp _ _ _ _ _ from ?_)
      refine wp_seq ?_
      refine wp_region_L (W0 := W0) ((g, .cells cu1 26 (0, 0)) :: K) (hW5) ?_
      refine lm (v := .int .i64 ((b0 : Nat) : Int)) rfl rfl ?_
      refine lm (v := .int .i64 ((b0 : Nat) : Int)) rfl rfl ?_
      refine wpL_done (fun W6 hW6 => ?_)
      refine (show Code.wp _ _ _ _ _ from ?_)
      refine wp_region_L (W0 := W0) ((g, .cells cu1 26 (0, 0)) :: K) (hW6) ?_
      refine lm (v := .int .i64 ((b0 : Nat) : Int)) rfl rfl ?_
      refine lm (v := .int .i64 20) rfl rfl ?_
      refine lp (v := .int .i64 (((b0 + 20) : Nat) : Int)) rfl rfl (run_bin rfl (vx := (.int .i64 ((b0 : Nat) : Int))) (vy := (.int .i64 ((20 : Nat) : Int))) (by kernel_rfl) (by kernel_rfl) fun w => bn_add (z := (b0 + 20)) rfl (wr_i64 (by omega)) w) ?_
      refine lm (v := .int .i64 (((b0 + 20) : Nat) : Int)) rfl rfl ?_
      refine wpL_done (fun W7 hW7 => ?_)
      go_roundw
      case rel =>
        repeat apply Exists.intro
        exact ⟨⟨b0, b0 + 20, P0 ++ orderX (Q0.take 20), Q0.drop 20, cu1, (by omega), (by first | omega | (simp only [List.length_append, order_len, List.length_take, List.length_drop, List.length_nil]; omega)), (Fu.snoc _ _ hFu0 (by rw [order_len, List.length_take]; omega) (order_sorted _)), (by intro z; rw [filt_pq]; exact hf0 z), (by have h := R1; rw [ins_pq 20 hPl0 hab0.1] at h; exact h), (by omega), (by first | omega | (simp only [List.length_append, order_len, List.length_take, List.length_drop, List.length_nil]; omega)), rfl, rfl, hW7⟩, rfl⟩
      case measure => (show n + 1 - (intOf (.int .i64 ((b0 : Nat) : Int))).toNat < n + 1 - (intOf (.int .i64 ((a0 : Nat) : Int))).toNat); simp only [intOf]; omega
    | true =>
      have h1 : n < b0 := of_decide_eq_true hd1
      clear hd1
      refine wp_cond_false rfl ?_
      refine wp_exit ?_
      refine (show Code.wp _ _ _ _ _ from ?_)
      refine wp_seq ?_
      refine wp_region_L (W0 := W0) ((g, .cells cur0 26 (0, 0)) :: K) (hW4) ?_
      refine lm (v := .slice (some ⟨g, 0, none⟩) n cap) rfl rfl ?_
      refine lm (v := .int .i64 ((a0 : Nat) : Int)) rfl rfl ?_
      refine lm (v := .int .i64 ((n : Nat) : Int)) rfl rfl ?_
      refine lm (v := .func (.func 48) #[] #[]) rfl rfl ?_
      refine wpL_c (f := 71) (args := #[.slice (some ⟨g, 0, none⟩) n cap, .int .i64 ((a0 : Nat) : Int), .int .i64 ((n : Nat) : Int), .func (.func 48) #[] #[]]) (fun v K9 => v = .tuple #[] ∧ ∃ cur', RowX cur' ((P0 ++ Q0).take a0 ++ orderX (((P0 ++ Q0).take n).drop a0) ++ (P0 ++ Q0).drop n) ∧ cur'.size = cur0.size ∧ K9 = ((g, .cells cur' 26 (0, 0)) :: K)) rfl (by kernel_rfl) (fun _ => (by kernel_rfl)) (fun W hW => ins_any (K := K) (cap := cap) (P0 ++ Q0) (by rw [List.length_append]; exact hl0) (by omega) a0 n (by omega) (by omega) hr0 hB (fun q hq => (hg _ hq)) W (hW.sub (List.forall_mem_cons.2 ⟨(.head _), (fun p hp => (.tail _ hp))⟩))) (fun _ => by simp only [List.setIfInBounds_toArray, List.set_cons_succ, List.set_cons_zero] <;> rfl) ?_
      rintro v K9 ⟨rfl, cu2, R2, Q2, rfl⟩
      refine wpL_done (fun W8 hW8 => ?_)
      refine (show Code.wp _ _ _ _ _ from ?_)
      refine wp_block ?_
      go_loopw [6] (fun u6 wr => ∃ (s : Nat) (M : List Bx) (cur1 : Array Value), (0 < s ∧ s ≤ 8000000020) ∧ (Bl s M) ∧ (∀ z, M.filter (eqv z) = l.filter (eqv z)) ∧ (RowX cur1 M) ∧ (cur1.size = cur.size) ∧ (M.length = n) ∧ u6 = .int .i64 ((s : Nat) : Int) ∧ KS W0 ((g, .cells cur1 26 (0, 0)) :: K) wr) (fun u6 _ => n + 1 - (intOf u6).toNat)
      case atStart => exact ⟨20, P0 ++ orderX Q0, cu2, (by omega), (hFu0.bl (.last _ (by rw [order_len]; omega) (order_sorted _))), (by intro z; rw [List.filter_append, order_filter, ← List.filter_append]; exact hf0 z), (by have h := R2; rw [ins_all hPl0 hl0] at h; exact h), (by omega), (by first | omega | (simp only [List.length_append, order_len, List.length_take, List.length_drop, List.length_nil]; omega)), rfl, hW8⟩
      case round =>
        obtain ⟨s, M, cur1, hs, hM, hf, hr1, hz, hl1, rfl, hL9⟩ := hrel
        refine wp_seq ?_
        refine wp_seq ?_
        refine wp_region_L (W0 := W0) ((g, .cells cur1 26 (0, 0)) :: K) (hL9) ?_
        refine lm (v := .int .i64 ((s : Nat) : Int)) rfl rfl ?_
        refine lm (v := .int .i64 ((n : Nat) : Int)) rfl rfl ?_
        refine lp (v := .bool (decide (s < n))) rfl rfl (run_bin rfl (vx := (.int .i64 ((s : Nat) : Int))) (vy := (.int .i64 ((n : Nat) : Int))) (by kernel_rfl) (by kernel_rfl) fun w => bn_lss rfl w) ?_
        refine wpL_done (fun W10 hW10 => ?_)
        refine (show Code.wp _ _ _ _ _ from ?_)
        cases hd2 : (decide (s < n)) with
        | false =>
          have h2 : ¬ (s < n) := of_decide_eq_false hd2
          clear hd2
          refine wp_cond_false rfl ?_
          refine wp_exit ?_
          simp only [exit_then, exit_in, exit_out]
          refine bodyPost_end (v := .tuple #[]) (results_none rfl _ _ _) rfl ?_
          exact ⟨_, _, rfl, hW10.sub (List.forall_mem_cons.2 ⟨(.head _), fun p hp => (.tail _ hp)⟩), rfl, _, (by rw [← order_is (hM.small (by omega)) hf]; exact hr1), hz, rfl⟩
        | true =>
          have h2 : s < n := of_decide_eq_true hd2
          clear hd2
          refine wp_cond_true rfl ?_
          refine wp_skip ?_
          refine (show Code.wp _ _ _ _ _ from ?_)
          refine wp_block ?_
          refine wp_seq ?_
          refine wp_region_L (W0 := W0) ((g, .cells cur1 26 (0, 0)) :: K) (hW10) ?_
          refine lm (v := .int .i64 ((s : Nat) : Int)) rfl rfl ?_
          refine lp (v := .int .i64 (((2 * s) : Nat) : Int)) rfl rfl (run_bin rfl (vx := (.int .i64 ((2 : Nat) : Int))) (vy := (.int .i64 ((s : Nat) : Int))) (by kernel_rfl) (by kernel_rfl) fun w => bn_mul (z := (2 * s)) rfl (wr_i64 (by omega)) w) ?_
          refine lm (v := .int .i64 0) rfl rfl ?_
          refine lm (v := .int .i64 (((2 * s) : Nat) : Int)) rfl rfl ?_
          refine wpL_done (fun W11 hW11 => ?_)
          refine (show Code.wp _ _ _ _ _ from ?_)
          refine wp_seq ?_
          refine wp_block ?_
          go_loopw [7, 8] (fun u7 u8 wr => ∃ (a b : Nat) (P Q : List Bx) (cur2 : Array Value), (b = a + 2 * s ∧ a ≤ n) ∧ (P.length = a) ∧ (Fu (2 * s) P) ∧ (Bl s Q) ∧ (∀ z, (P ++ Q).filter (eqv z) = l.filter (eqv z)) ∧ (RowX cur2 (P ++ Q)) ∧ (cur2.size = cur.size) ∧ (P.length + Q.length = n) ∧ u7 = .int .i64 ((a : Nat) : Int) ∧ u8 = .int .i64 ((b : Nat) : Int) ∧ KS W0 ((g, .cells cur2 26 (0, 0)) :: K) wr) (fun u7 _ _ => n + 1 - (intOf u7).toNat)
          case atStart => exact ⟨0, 2 * s, [], M, cur1, (by omega), rfl, Fu.nil, hM, hf, hr1, hz, (by simpa using hl1), rfl, rfl, hW11⟩
          case round =>
            obtain ⟨a, b, P, Q, cur2, hab, hPl, hFu, hQ, hf2, hr2, hz2, hl2, rfl, rfl, hL12⟩ := hrel
            refine wp_seq ?_
            refine wp_seq ?_
            refine wp_region_L (W0 := W0) ((g, .cells cur2 26 (0, 0)) :: K) (hL12) ?_
            refine lm (v := .int .i64 ((b : Nat) : Int)) rfl rfl ?_
            refine lm (v := .int .i64 ((n : Nat) : Int)) rfl rfl ?_
            refine lp (v := .bool (!(decide (n < b)))) rfl rfl (run_bin rfl (vx := (.int .i64 ((b : Nat) : Int))) (vy := (.int .i64 ((n : Nat) : Int))) (by kernel_rfl) (by kernel_rfl) fun w => bn_leq rfl w) ?_
            refine wpL_done (fun W13 hW13 => ?_)
            refine (show Code.wp _ _ _ _ _ from ?_)
            cases hd3 : (decide (n < b)) with
            | false =>
              have h3 : ¬ (n < b) := of_decide_eq_false hd3
              clear hd3
              obtain ⟨X1, X2, Q2, hQ2, hX1, hX2, sX1, sX2, hB2⟩ := hQ.two hs.1 (by omega)
              have hlQ := congrArg List.length hQ2
              simp only [List.length_append] at hlQ
              have hr3 : RowX cur2 (P ++ X1 ++ X2 ++ Q2) := by have h := hr2; rw [hQ2] at h; first | simpa only [List.append_assoc] using h | simpa using h
              refine wp_cond_true rfl ?_
              refine wp_skip ?_
              refine (show Code.wp _ _ _ _ _ from ?_)
              refine wp_block ?_
              refine wp_seq ?_
              refine wp_region_L (W0 := W0) ((g, .cells cur2 26 (0, 0)) :: K) (hW13) ?_
              refine lm (v := .slice (some ⟨g, 0, none⟩) n cap) rfl rfl ?_
              refine lm (v := .int .i64 ((a : Nat) : Int)) rfl rfl ?_
              refine lm (v := .int .i64 ((a : Nat) : Int)) rfl rfl ?_
              refine lm (v := .int .i64 ((s : Nat) : Int)) rfl rfl ?_
              refine lp (v := .int .i64 (((a + s) : Nat) : Int)) rfl rfl (run_bin rfl (vx := (.int .i64 ((a : Nat) : Int))) (vy := (.int .i64 ((s : Nat) : Int))) (by kernel_rfl) (by kernel_rfl) fun w => bn_add (z := (a + s)) rfl (wr_i64 (by omega)) w) ?_
              refine lm (v := .int .i64 ((b : Nat) : Int)) rfl rfl ?_
              refine lm (v := .func (.func 48) #[] #[]) rfl rfl ?_
              refine wpL_c (f := 72) (args := #[.slice (some ⟨g, 0, none⟩) n cap, .int .i64 ((a : Nat) : Int), .int .i64 (((a + s) : Nat) : Int), .int .i64 ((b : Nat) : Int), .func (.func 48) #[] #[]]) (fun v K9 => v = .tuple #[] ∧ ∃ cur', RowX cur' (P ++ orderX (X1 ++ X2) ++ Q2) ∧ cur'.size = cur2.size ∧ K9 = ((g, .cells cur' 26 (0, 0)) :: K)) rfl (by kernel_rfl) (fun _ => (by kernel_rfl)) (fun W hW => sym_all (K := K) (n := n) (cap := cap) (by omega) hB (fun q hq => (hg _ hq)) (X1.length + X2.length) cur2 P X1 X2 Q2 (by first | omega | (simp only [List.length_append, order_len, List.length_take, List.length_drop, List.length_nil]; omega)) (Nat.le_refl _) (by omega) (by omega) sX1 sX2 a (a + s) b (by first | omega | (simp only [List.length_append, order_len, List.length_take, List.length_drop, List.length_nil]; omega)) (by first | omega | (simp only [List.length_append, order_len, List.length_take, List.length_drop, List.length_nil]; omega)) (by first | omega | (simp only [List.length_append, order_len, List.length_take, List.length_drop, List.length_nil]; omega)) hr3 W (hW.sub (List.forall_mem_cons.2 ⟨(.head _), (fun p hp => (.tail _ hp))⟩))) (fun _ => by simp only [List.setIfInBounds_toArray, List.set_cons_succ, List.set_cons_zero] <;> rfl) ?_
              rintro v K9 ⟨rfl, cu3, R3, Q3, rfl⟩
              refine wpL_done (fun W14 hW14 => ?_)
              refine (show Code.wp _ _ _ _ _ from ?_)
              refine wp_seq ?_
              refine wp_region_L (W0 := W0) ((g, .cells cu3 26 (0, 0)) :: K) (hW14) ?_
              refine lm (v := .int .i64 ((b : Nat) : Int)) rfl rfl ?_
              refine lm (v := .int .i64 ((b : Nat) : Int)) rfl rfl ?_
              refine wpL_done (fun W15 hW15 => ?_)
              refine (show Code.wp _ _ _ _ _ from ?_)
              refine wp_region_L (W0 := W0) ((g, .cells cu3 26 (0, 0)) :: K) (hW15) ?_
              refine lm (v := .int .i64 ((b : Nat) : Int)) rfl rfl ?_
              refine lm (v := .int .i64 ((s : Nat) : Int)) rfl rfl ?_
              refine lp (v := .int .i64 (((2 * s) : Nat) : Int)) rfl rfl (run_bin rfl (vx := (.int .i64 ((2 : Nat) : Int))) (vy := (.int .i64 ((s : Nat) : Int))) (by kernel_rfl) (by kernel_rfl) fun w => bn_mul (z := (2 * s)) rfl (wr_i64 (by omega)) w) ?_
              refine lp (v := .int .i64 (((b + (2 * s)) : Nat) : Int)) rfl rfl (run_bin rfl (vx := (.int .i64 ((b : Nat) : Int))) (vy := (.int .i64 (((2 * s) : Nat) : Int))) (by kernel_rfl) (by kernel_rfl) fun w => bn_add (z := (b + (2 * s))) rfl (wr_i64 (by omega)) w) ?_
              refine lm (v := .int .i64 (((b + (2 * s)) : Nat) : Int)) rfl rfl ?_
              refine wpL_done (fun W16 hW16 => ?_)
              go_roundw
              case rel =>
                repeat apply Exists.intro
                exact ⟨⟨b, b + 2 * s, P ++ orderX (X1 ++ X2), Q2, cu3, (by omega), (by first | omega | (simp only [List.length_append, order_len, List.length_take, List.length_drop, List.length_nil]; omega)), (Fu.snoc _ _ hFu (by first | omega | (simp only [List.length_append, order_len, List.length_take, List.length_drop, List.length_nil]; omega)) (order_sorted _)), hB2, (by intro z; rw [filt_two, ← hQ2]; exact hf2 z), R3, (by omega), (by first | omega | (simp only [List.length_append, order_len, List.length_take, List.length_drop, List.length_nil]; omega)), rfl, rfl, hW16⟩, rfl⟩
              case measure => (show n + 1 - (intOf (.int .i64 ((b : Nat) : Int))).toNat < n + 1 - (intOf (.int .i64 ((a : Nat) : Int))).toNat); simp only [intOf]; omega
            | true =>
              have h3 : n < b := of_decide_eq_true hd3
              clear hd3
              refine wp_cond_false rfl ?_
              refine wp_exit ?_
              refine (show Code.wp _ _ _ _ _ from ?_)
              refine wp_seq ?_
              refine wp_seq ?_
              refine wp_region_L (W0 := W0) ((g, .cells cur2 26 (0, 0)) :: K) (hW13) ?_
              refine lm (v := .int .i64 ((a : Nat) : Int)) rfl rfl ?_
              refine lm (v := .int .i64 ((s : Nat) : Int)) rfl rfl ?_
              refine lp (v := .int .i64 (((a + s) : Nat) : Int)) rfl rfl (run_bin rfl (vx := (.int .i64 ((a : Nat) : Int))) (vy := (.int .i64 ((s : Nat) : Int))) (by kernel_rfl) (by kernel_rfl) fun w => bn_add (z := (a + s)) rfl (wr_i64 (by omega)) w) ?_
              refine lm (v := .int .i64 (((a + s) : Nat) : Int)) rfl rfl ?_
              refine wpL_done (fun W17 hW17 => ?_)
              refine (show Code.wp _ _ _ _ _ from ?_)
              refine wp_seq ?_
              refine wp_region_L (W0 := W0) ((g, .cells cur2 26 (0, 0)) :: K) (hW17) ?_
              refine lm (v := .int .i64 (((a + s) : Nat) : Int)) rfl rfl ?_
              refine lm (v := .int .i64 ((n : Nat) : Int)) rfl rfl ?_
              refine lp (v := .bool (decide ((a + s) < n))) rfl rfl (run_bin rfl (vx := (.int .i64 (((a + s) : Nat) : Int))) (vy := (.int .i64 ((n : Nat) : Int))) (by kernel_rfl) (by kernel_rfl) fun w => bn_lss rfl w) ?_
              refine wpL_done (fun W18 hW18 => ?_)
              refine (show Code.wp _ _ _ _ _ from ?_)
              cases hd4 : (decide ((a + s) < n)) with
              | false =>
                have h4 : ¬ ((a + s) < n) := of_decide_eq_false hd4
                clear hd4
                refine wp_cond_false rfl ?_
                refine wp_skip ?_
                refine (show Code.wp _ _ _ _ _ from ?_)
                refine wp_region_L (W0 := W0) ((g, .cells cur2 26 (0, 0)) :: K) (hW18) ?_
                refine lm (v := .int .i64 ((s : Nat) : Int)) rfl rfl ?_
                refine lp (v := .int .i64 (((s * 2) : Nat) : Int)) rfl rfl (run_bin rfl (vx := (.int .i64 ((s : Nat) : Int))) (vy := (.int .i64 ((2 : Nat) : Int))) (by kernel_rfl) (by kernel_rfl) fun w => bn_mul (z := (s * 2)) rfl (wr_i64 (by omega)) w) ?_
                refine lm (v := .int .i64 (((s * 2) : Nat) : Int)) rfl rfl ?_
                refine wpL_done (fun W19 hW19 => ?_)
                go_roundw
                case rel =>
                  repeat apply Exists.intro
                  exact ⟨⟨s * 2, P ++ Q, cur2, (by omega), (by rw [Nat.mul_comm s 2]; exact hFu.bl (.last _ (by omega) (hQ.small (by omega)))), hf2, hr2, hz2, (by first | omega | (simp only [List.length_append, order_len, List.length_take, List.length_drop, List.length_nil]; omega)), rfl, hW19⟩, rfl⟩
                case measure => (show n + 1 - (intOf (.int .i64 (((s * 2) : Nat) : Int))).toNat < n + 1 - (intOf (.int .i64 ((s : Nat) : Int))).toNat); simp only [intOf]; omega
              | true =>
                have h4 : (a + s) < n := of_decide_eq_true hd4
                clear hd4
                obtain ⟨X1, X2, hQ2, hX1, sX1, sX2⟩ := hQ.rest (by omega) (by omega)
                have hlQ := congrArg List.length hQ2
                simp only [List.length_append] at hlQ
                have hr3 : RowX cur2 (P ++ X1 ++ X2 ++ []) := by have h := hr2; rw [hQ2] at h; first | simpa only [List.append_assoc] using h | simpa using h
                refine wp_cond_true rfl ?_
                refine wp_region_L (W0 := W0) ((g, .cells cur2 26 (0, 0)) :: K) (hW18) ?_
                refine lm (v := .slice (some ⟨g, 0, none⟩) n cap) rfl rfl ?_
                refine lm (v := .int .i64 ((a : Nat) : Int)) rfl rfl ?_
                refine lm (v := .int .i64 (((a + s) : Nat) : Int)) rfl rfl ?_
                refine lm (v := .int .i64 ((n : Nat) : Int)) rfl rfl ?_
                refine lm (v := .func (.func 48) #[] #[]) rfl rfl ?_
                refine wpL_c (f := 72) (args := #[.slice (some ⟨g, 0, none⟩) n cap, .int .i64 ((a : Nat) : Int), .int .i64 (((a + s) : Nat) : Int), .int .i64 ((n : Nat) : Int), .func (.func 48) #[] #[]]) (fun v K9 => v = .tuple #[] ∧ ∃ cur', RowX cur' (P ++ orderX (X1 ++ X2) ++ []) ∧ cur'.size = cur2.size ∧ K9 = ((g, .cells cur' 26 (0, 0)) :: K)) rfl (by kernel_rfl) (fun _ => (by kernel_rfl)) (fun W hW => sym_all (K := K) (n := n) (cap := cap) (by omega) hB (fun q hq => (hg _ hq)) (X1.length + X2.length) cur2 P X1 X2 [] (by first | omega | (simp only [List.length_append, order_len, List.length_take, List.length_drop, List.length_nil]; omega)) (Nat.le_refl _) (by omega) (by omega) sX1 sX2 a (a + s) n (by first | omega | (simp only [List.length_append, order_len, List.length_take, List.length_drop, List.length_nil]; omega)) (by first | omega | (simp only [List.length_append, order_len, List.length_take, List.length_drop, List.length_nil]; omega)) (by first | omega | (simp only [List.length_append, order_len, List.length_take, List.length_drop, List.length_nil]; omega)) hr3 W (hW.sub (List.forall_mem_cons.2 ⟨(.head _), (fun p hp => (.tail _ hp))⟩))) (fun _ => by simp only [List.setIfInBounds_toArray, List.set_cons_succ, List.set_cons_zero] <;> rfl) ?_
                rintro v K9 ⟨rfl, cu4, R4, Q4, rfl⟩
                refine wpL_done (fun W20 hW20 => ?_)
                refine (show Code.wp _ _ _ _ _ from ?_)
                refine wp_region_L (W0 := W0) ((g, .cells cu4 26 (0, 0)) :: K) (hW20) ?_
                refine lm (v := .int .i64 ((s : Nat) : Int)) rfl rfl ?_
                refine lp (v := .int .i64 (((s * 2) : Nat) : Int)) rfl rfl (run_bin rfl (vx := (.int .i64 ((s : Nat) : Int))) (vy := (.int .i64 ((2 : Nat) : Int))) (by kernel_rfl) (by kernel_rfl) fun w => bn_mul (z := (s * 2)) rfl (wr_i64 (by omega)) w) ?_
                refine lm (v := .int .i64 (((s * 2) : Nat) : Int)) rfl rfl ?_
                refine wpL_done (fun W21 hW21 => ?_)
                go_roundw
                case rel =>
                  repeat apply Exists.intro
                  exact ⟨⟨s * 2, P ++ orderX (X1 ++ X2) ++ [], cu4, (by omega), (by rw [Nat.mul_comm s 2, List.append_nil]; exact hFu.bl (.last _ (by first | omega | (simp only [List.length_append, order_len, List.length_take, List.length_drop, List.length_nil]; omega)) (order_sorted _))), (by intro z; rw [filt_two, List.append_nil, ← hQ2]; exact hf2 z), R4, (by omega), (by first | omega | (simp only [List.length_append, order_len, List.length_take, List.length_drop, List.length_nil]; omega)), rfl, hW21⟩, rfl⟩
                case measure => (show n + 1 - (intOf (.int .i64 (((s * 2) : Nat) : Int))).toNat < n + 1 - (intOf (.int .i64 ((s : Nat) : Int))).toNat); simp only [intOf]; omega
set_option maxRecDepth 100000 in
set_option maxHeartbeats 4000000 in
theorem sort_any {W0 : Base} {K : List (Nat × Obj)} {g n cap : Nat} {cur : Array Value} (l : List Bx) (hn : l.length = n) (hn2 : n ≤ 4000000000) (hr : RowX cur l) (hB : W0.B ≤ g) (hg : ∀ q ∈ K, q.1 ≠ g) (w : World) (hw : KS W0 ((g, .cells cur 26 (0, 0)) :: K) w) :
    Calls Tryd.prog 47 #[.slice (some ⟨g, 0, none⟩) n cap, .func (.func 48) #[] #[]] w fun e w' => ∃ v K', e = .returned v ∧ KS W0 K' w' ∧ (v = .tuple #[] ∧ ∃ cur', RowX cur' (orderX l) ∧ cur'.size = cur.size ∧ K' = (g, .cells cur' 26 (0, 0)) :: K) := by
  go_enter Tryd.func47, Tryd.ntmps47
  refine wp_region_L (W0 := W0) ((g, .cells cur 26 (0, 0)) :: K) (hw) ?_
  refine lm (v := .slice (some ⟨g, 0, none⟩) n cap) rfl rfl ?_
  refine lm (v := .slice (some ⟨g, 0, none⟩) n cap) rfl rfl ?_
  refine lp (v := .int .i64 ((n : Nat) : Int)) rfl rfl (run_lenL (p := (some ⟨g, 0, none⟩)) (cap := cap) (n := n) rfl Tryd.underlying22 (by kernel_rfl)) ?_
  refine lm (v := .func (.func 48) #[] #[]) rfl rfl ?_
  refine wpL_c (f := 64) (args := #[.slice (some ⟨g, 0, none⟩) n cap, .int .i64 ((n : Nat) : Int), .func (.func 48) #[] #[]]) (fun v K9 => v = .tuple #[] ∧ ∃ cur', RowX cur' (orderX l) ∧ cur'.size = cur.size ∧ K9 = ((g, .cells cur' 26 (0, 0)) :: K)) rfl (by kernel_rfl) (fun _ => (by kernel_rfl)) (fun W hW => stable_any (K := K) (cap := cap) l (by omega) (by omega) hr hB (fun q hq => (hg _ hq)) W (hW.sub (List.forall_mem_cons.2 ⟨(.head _), (fun p hp => (.tail _ hp))⟩))) (fun _ => by simp only [List.setIfInBounds_toArray, List.set_cons_succ, List.set_cons_zero] <;> rfl) ?_
  rintro v K9 ⟨rfl, cu1, R1, Q1, rfl⟩
  refine wpL_done (fun W1 hW1 => ?_)
  refine bodyPost_end (v := .tuple #[]) (results_none rfl _ _ _) rfl ?_
  exact ⟨_, _, rfl, hW1.sub (List.forall_mem_cons.2 ⟨(.head _), fun p hp => (.tail _ hp)⟩), rfl, _, R1, Q1, rfl⟩
end Go.Proofs.YtllmpemmknblaaaDoor
namespace Go.Proofs.YtllmpemmknblaaaDoor
open Go Go.RowKit Tw
theorem sort_owns {W0 : Base} {K Kl : List (Nat × Obj)} {v : Value} (l : List Bx) (hsm : l.length ≤ 4000000000) (hO : OwnL W0 26 9 v l.length (bcs l) Kl) (hd : ∀ p ∈ K, ∀ q ∈ Kl, q.1 ≠ p.1) (w : World) (hw : KS W0 (K ++ Kl) w) :
    Calls Tryd.prog 47 #[v, .func (.func 48) #[] #[]] w fun e w' => ∃ u K', e = .returned u ∧ KS W0 K' w' ∧ (u = .tuple #[] ∧ ∃ Kl', OwnL W0 26 9 v l.length (bcs (orderX l)) Kl' ∧ (∀ p ∈ K, ∀ q ∈ Kl', q.1 ≠ p.1) ∧ K' = K ++ Kl') := by
  rcases hO with ⟨h1, h2, rfl, rfl⟩ | ⟨g, cap, cur, rfl, hB, hR, rfl⟩
  · have hl : l = [] := List.eq_nil_of_length_eq_zero h1
    subst hl
    exact (sort_nil w).mono fun e w' ⟨he, hb⟩ => ⟨_, _, he, hw.below hb, rfl, [], OwnL.nil _ _ _, (fun _ _ _ h => by cases h), rfl⟩
  · have hg : ∀ q ∈ K, q.1 ≠ g := fun q hq e => hd q hq (g, .cells cur 26 (0, 0)) (List.mem_singleton.2 rfl) e.symm
    refine (sort_any (cap := cap) l rfl hsm (rowx_own hR) hB hg w (hw.sub (fun p hp => by
      rcases List.mem_cons.1 hp with rfl | hp
      · exact List.mem_append_right _ (List.mem_singleton.2 rfl)
      · exact List.mem_append_left _ hp))).mono fun e w' ⟨u, K', he, hk, hu, cur', hr, hs, hK⟩ => ?_
    subst hK
    refine ⟨u, _, he, hk.sub (K' := K ++ [(g, .cells cur' 26 (0, 0))]) (fun p hp => ?_), hu, [(g, .cells cur' 26 (0, 0))], .inr ⟨g, cap, cur', rfl, hB, own_rowx hR hs hr (order_len l), rfl⟩, fun p hp q hq => ?_, rfl⟩
    · rcases List.mem_append.1 hp with hp | hp
      · exact .tail _ hp
      · cases List.mem_singleton.1 hp; exact .head _
    · cases List.mem_singleton.1 hq; exact fun e => hg p hp e.symm
set_option maxRecDepth 100000 in
set_option maxHeartbeats 4000000 in
theorem Order_any (l : List Bx) (p : Option Addr) (c : Nat) (hl : l.length ≤ 4000000000) (w : World) (hp : SLV w p (bcs l)) : Calls Tryd.prog 27 #[.slice p l.length c] w fun e w' => ∃ v, e = .returned v ∧ OutV w w' 26 9 v l.length (bcs (orderX l)) ∧ Below w.heap.size w w' := by
  have HP := Lib.hid hp
  clear hp
  go_enter Tryd.func27, Tryd.ntmps27
  refine wp_seq ?_
  refine wp_region_L (W0 := w) [] (KS.start w) ?_
  refine lm (v := .slice none 0 0) rfl rfl ?_
  refine wpL_done (fun W1 hW1 => ?_)
  refine (show Code.wp _ _ _ _ _ from ?_)
  refine wp_seq ?_
  refine wp_region_L (W0 := w) [] (hW1) ?_
  refine lm (v := .slice p l.length c) rfl rfl ?_
  refine wpL_c (f := 46) (args := #[.slice p l.length c]) (fun v K9 => ∃ Kl, OwnL w 26 9 v l.length (bcs l) Kl ∧ (∀ p ∈ ([] : List (Nat × Obj)), ∀ q ∈ Kl, q.1 ≠ p.1) ∧ K9 = [] ++ Kl) rfl (by kernel_rfl) (fun _ => (by kernel_rfl)) (fun W hW => calls_out hW (Clone_any l p c (by first | omega | (simp; done) | (simp; omega) | decide) W (HP.out.keep hW.1))) (fun _ => by simp only [List.setIfInBounds_toArray, List.set_cons_succ, List.set_cons_zero] <;> rfl) ?_
  rintro v1 Kl1 ⟨_, O1, N1, rfl⟩
  refine lm (v := v1) rfl rfl ?_
  refine wpL_done (fun W2 hW2 => ?_)
  refine (show Code.wp _ _ _ _ _ from ?_)
  refine wp_seq ?_
  refine wp_region_L (W0 := w) Kl1 (hW2) ?_
  refine lm (v := v1) rfl rfl ?_
  refine wpL_c (f := 47) (args := #[v1, .func (.func 48) #[] #[]]) (fun u K9 => u = .tuple #[] ∧ ∃ Kl', OwnL w 26 9 v1 l.length (bcs (orderX l)) Kl' ∧ (∀ p ∈ ([] : List (Nat × Obj)), ∀ q ∈ Kl', q.1 ≠ p.1) ∧ K9 = [] ++ Kl') rfl (by kernel_rfl) (fun _ => (by kernel_rfl)) (fun W hW => sort_owns (K := []) (Kl := Kl1) l (by omega) O1 (show Dj [] Kl1 from (by (try simp only [dj_app_l, dj_app_r, dj_cons_l, dj_cons_r, dj_nil_l, dj_nil_r, dk_app, dk_cons, dk_nil, and_true, true_and, and_assoc]); repeat' (first | trivial | assumption | exact Dj.symm (by assumption) | exact Ne.symm (by assumption) | apply And.intro))) W (hW.sub (fun p hp => by simp only [List.mem_cons, List.mem_append, List.nil_append, List.not_mem_nil, or_assoc, or_false, false_or, List.cons_append, List.append_assoc] at hp ⊢ <;> grind))) (fun _ => by simp only [List.setIfInBounds_toArray, List.set_cons_succ, List.set_cons_zero] <;> rfl) ?_
  rintro _ Kl2 ⟨rfl, _, O2, N2, rfl⟩
  refine wpL_done (fun W3 hW3 => ?_)
  refine (show Code.wp _ _ _ _ _ from ?_)
  refine wp_seq ?_
  refine wp_region_L (W0 := w) Kl2 (hW3) ?_
  refine lm (v := v1) rfl rfl ?_
  refine lm (v := v1) rfl rfl ?_
  refine wpL_done (fun W4 hW4 => ?_)
  refine (show Code.wp _ _ _ _ _ from ?_)
  refine wp_ret ?_
  try simp only [inBlock_ret, then_ret]
  refine bodyPost_ret (v := v1) ?_ rfl ?_
  · kernel_rfl
  · exact ⟨_, rfl, O2.out (fun p hp => by simp only [List.mem_cons, List.mem_append, List.nil_append, List.not_mem_nil, or_assoc, or_false, false_or, hp, true_or, or_true]) hW4, hW4.1⟩
end Go.Proofs.YtllmpemmknblaaaDoor
namespace Go.Proofs.YtllmpemmknblaaaDoor
open Go Go.RowKit Tw
end Go.Proofs.YtllmpemmknblaaaDoor
namespace Go.Proofs.YtllmpemmknblaaaDoor
open Go Go.RowKit Tw
end Go.Proofs.YtllmpemmknblaaaDoor
/- Lists of numbers that are read, cut and handed on: over any program. -/
namespace Tw
open Go Go.RowKit Go.Proofs.YtllmpemmknblaaaDoor
def nums (l : List Nat) : List Value := l.map fun n => .int .i64 ((n : Nat) : Int)
theorem nums_len (l : List Nat) : (nums l).length = l.length := by simp [nums]
theorem nums_get {l : List Nat} {k x : Nat} (h : l[k]? = some x) : (nums l)[k]? = some (.int .i64 ((x : Nat) : Int)) := by simp [nums, h]
theorem nums_take (l : List Nat) (k : Nat) : nums (l.take k) = (nums l).take k := by simp [nums, List.map_take]
theorem nums_drop (l : List Nat) (k : Nat) : nums (l.drop k) = (nums l).drop k := by simp [nums, List.map_drop]
theorem slv_take {W : World} {p : Option Addr} {xs : List Value} (h : SLV W p xs) (k : Nat) : SLV W p (xs.take k) := by
  rcases h with rfl | ⟨b, off, rfl, hlt, hc⟩
  · exact .inl (by simp)
  · refine .inr ⟨b, off, rfl, hlt, fun i u hu => hc i u ?_⟩
    rw [List.getElem?_take] at hu
    split at hu
    · exact hu
    · cases hu
def NS (W0 : Base) (p : Option Addr) (l : List Nat) (T : List (Nat × Obj)) : Prop := ∀ W, KS W0 T W → SLV W p (nums l)
section
variable {W0 : Base} {p : Option Addr} {l : List Nat} {K T : List (Nat × Obj)}
theorem NS.mono (h : NS W0 p l T) (hs : ∀ q ∈ T, q ∈ K) : NS W0 p l K := fun W hW => h W (hW.sub hs)
theorem NS.take (h : NS W0 p l T) (k : Nat) : NS W0 p (l.take k) T := fun W hW => by rw [nums_take]; exact slv_take (h W hW) k
theorem NS.nil : NS W0 p [] T := fun _ _ => .inl rfl
theorem NS.base {W : World} (h : SLV W p (nums l)) : NS (W : Base) p l [] := fun _ hW => h.keep hW.1
theorem NS.at {W : World} {k : Nat} (h : NS W0 p l T) (hW : KS W0 T W) (hk : k < l.length) : ∃ b off, p = some ⟨b, off, none⟩ ∧ ∀ W, KS W0 T W → ∀ (i x : Nat), l[i]? = some x → W.cell? ⟨b, off + i * 1, none⟩ = some (.int .i64 ((x : Nat) : Int)) := by
  have hne : nums l ≠ [] := fun e => by have := nums_len l; rw [e] at this; simp at this; omega
  rcases h W hW with h0 | ⟨b, off, rfl, _, _⟩
  · exact absurd h0 hne
  · refine ⟨b, off, rfl, fun W2 hW2 i x hx => ?_⟩
    rcases h W2 hW2 with h0 | ⟨b', off', he, _, hc⟩
    · exact absurd h0 hne
    · cases he
      rw [Nat.mul_one]
      exact hc i _ (nums_get hx)
theorem NS.drop {W : World} {c k : Nat} (h : NS W0 p l T) (hW : KS W0 T W) (hc : l.length ≤ c) : NS W0 (if c = k then p else p.map (·.add (k * 1))) (l.drop k) T := by
  rcases Nat.lt_or_ge k l.length with h1 | h1
  · obtain ⟨b, off, rfl, h2⟩ := h.at hW h1
    rw [if_neg (by omega)]
    intro W2 hW2
    rcases h W2 hW2 with h0 | ⟨b', off', he, hlt, hc⟩
    · have := nums_len l; rw [h0] at this; simp at this; omega
    · cases he
      refine .inr ⟨b, off + k * 1, by simp [addr_add], hlt, fun i u hu => ?_⟩
      rw [nums_drop, List.getElem?_drop] at hu
      rw [Nat.mul_one, Nat.add_assoc]
      exact hc _ u hu
  · rw [List.drop_of_length_le h1]; exact NS.nil
theorem cell_same {w w2 : World} {b off : Nat} (h : w.heap[b]? = w2.heap[b]?) : w.cell? ⟨b, off, none⟩ = w2.cell? ⟨b, off, none⟩ := by
  unfold World.cell?; simp only [h]
def SLF (W w2 : World) (p : Option Addr) (xs : List Value) : Prop := xs = [] ∨ ∃ b off, p = some ⟨b, off, none⟩ ∧ W.heap.size ≤ b ∧ b < w2.heap.size ∧ Cel w2 b off xs
theorem SLF.slv {W w2 : World} {xs : List Value} (h : SLF W w2 p xs) : SLV w2 p xs := h.imp id fun ⟨b, off, h1, _, h2, h3⟩ => ⟨b, off, h1, h2, h3⟩
theorem SLF.take {W w2 : World} {xs : List Value} (h : SLF W w2 p xs) (k : Nat) : SLF W w2 p (xs.take k) := by
  rcases h with rfl | ⟨b, off, rfl, h1, h2, hc⟩
  · exact .inl (by simp)
  · refine .inr ⟨b, off, rfl, h1, h2, fun i u hu => hc i u ?_⟩
    rw [List.getElem?_take] at hu
    split at hu
    · exact hu
    · cases hu
theorem ns_new {W w2 : World} (hW : KS W0 K W) (hB : Below W.heap.size W w2) (hs : SLF W w2 p (nums l)) : ∃ T, KS W0 (K ++ T) w2 ∧ Dj K T ∧ NS W0 p l T ∧ ∀ W3, KS W0 T W3 → W0.B = W0.w.heap.size → SLF W0.w W3 p (nums l) := by
  have hK := hW.below hB
  rcases hs with h0 | ⟨b, off, rfl, hge, hlt, hc⟩
  · exact ⟨[], by rw [List.append_nil]; exact hK, fun _ _ _ h => (by cases h), fun _ _ => .inl h0, fun _ _ _ => .inl h0⟩
  · have hb : w2.heap[b]? = some (w2.heap[b]) := Array.getElem?_eq_getElem hlt
    refine ⟨[(b, w2.heap[b])], ⟨hK.1, fun q hq => ?_⟩, fun q hq r hr e => ?_, fun W3 hW3 => .inr ⟨b, off, rfl, ?_, fun i u hu => ?_⟩, fun W3 hW3 e => .inr ⟨b, off, rfl, ?_, ?_, fun i u hu => ?_⟩⟩
    · rcases List.mem_append.1 hq with h | h
      · exact hK.2 q h
      · cases List.mem_singleton.1 h; exact hb
    · cases List.mem_singleton.1 hr
      have := lt_of_block (hW.2 q hq)
      have e' : b = q.1 := e
      omega
    · have := hW3.2 _ (.head _); exact lt_of_block this
    · rw [cell_same (w2 := w2) (by rw [hW3.2 _ (.head _)]; exact hb.symm)]; exact hc i u hu
    · have := hW.size; omega
    · have := hW3.2 _ (.head _); exact lt_of_block this
    · rw [cell_same (w2 := w2) (by rw [hW3.2 _ (.head _)]; exact hb.symm)]; exact hc i u hu
end
section
variable {P : Program} {T E : TypeId} {W0 : Base}
end
def Ans (w : World) (l : List Nat) (e : Ending) (w' : World) : Prop := ∃ q d, e = .returned (.slice q l.length d) ∧ l.length ≤ d ∧ SLF w w' q (nums l) ∧ Below w.heap.size w w'
def AnsV (w : World) (l : List Nat) (e : Ending) (w' : World) : Prop := ∃ q d, e = .returned (.slice q l.length d) ∧ l.length ≤ d ∧ SLV w' q (nums l) ∧ Below w.heap.size w w'
def AnsG (W0 : Base) (K : List (Nat × Obj)) (l : List Nat) (v : Value) (K2 : List (Nat × Obj)) : Prop := ∃ q d T, v = .slice q l.length d ∧ l.length ≤ d ∧ NS W0 q l T ∧ (∀ W3, KS W0 T W3 → W0.B = W0.w.heap.size → SLF W0.w W3 q (nums l)) ∧ Dj K T ∧ K2 = K ++ T
def AnsW (W0 : Base) (K : List (Nat × Obj)) (l : List Nat) (v : Value) (K2 : List (Nat × Obj)) : Prop := ∃ q d T, v = .slice q l.length d ∧ l.length ≤ d ∧ NS W0 q l T ∧ K2 = K ++ T
def Ans2 (w : World) (l m : List Nat) (e : Ending) (w' : World) : Prop := ∃ q d q2 d2, e = .returned (.tuple #[.slice q l.length d, .slice q2 m.length d2]) ∧ l.length ≤ d ∧ m.length ≤ d2 ∧ SLV w' q (nums l) ∧ SLV w' q2 (nums m) ∧ Below w.heap.size w w'
def AnsW2 (W0 : Base) (K : List (Nat × Obj)) (l m : List Nat) (v : Value) (K2 : List (Nat × Obj)) : Prop := ∃ q d q2 d2 T, v = .tuple #[.slice q l.length d, .slice q2 m.length d2] ∧ l.length ≤ d ∧ m.length ≤ d2 ∧ NS W0 q l T ∧ NS W0 q2 m T ∧ K2 = K ++ T
section
variable {W0 : Base} {K : List (Nat × Obj)} {W w2 : World} {l m : List Nat} {e : Ending}
theorem Ans.v (h : Ans W l e w2) : AnsV W l e w2 := by
  obtain ⟨q, d, h1, h2, h3, h4⟩ := h
  exact ⟨q, d, h1, h2, h3.slv, h4⟩
theorem Ans.g (h : Ans W l e w2) (hW : KS W0 K W) : ∃ v K2, e = .returned v ∧ KS W0 K2 w2 ∧ AnsG W0 K l v K2 := by
  obtain ⟨q, d, h1, h2, h3, h4⟩ := h
  obtain ⟨T, a1, a2, a3, a4⟩ := ns_new hW h4 h3
  exact ⟨_, _, h1, a1, q, d, T, rfl, h2, a3, a4, a2, rfl⟩
theorem ns_of' {p : Option Addr} (hW : KS W0 K W) (hB : Below W.heap.size W w2) (hs : SLV w2 p (nums l)) : ∃ T, KS W0 (K ++ T) w2 ∧ NS W0 p l T := by
  have hK := hW.below hB
  rcases hs with h0 | ⟨b, off, rfl, hlt, hc⟩
  · exact ⟨[], by rw [List.append_nil]; exact hK, fun _ _ => .inl h0⟩
  · have hb : w2.heap[b]? = some (w2.heap[b]) := Array.getElem?_eq_getElem hlt
    refine ⟨[(b, w2.heap[b])], ⟨hK.1, fun q hq => ?_⟩, fun W3 hW3 => .inr ⟨b, off, rfl, ?_, fun i u hu => ?_⟩⟩
    · rcases List.mem_append.1 hq with h | h
      · exact hK.2 q h
      · cases List.mem_singleton.1 h; exact hb
    · have := hW3.2 _ (.head _); exact lt_of_block this
    · rw [cell_same (w2 := w2) (by rw [hW3.2 _ (.head _)]; exact hb.symm)]; exact hc i u hu
theorem AnsV.g (h : AnsV W l e w2) (hW : KS W0 K W) : ∃ v K2, e = .returned v ∧ KS W0 K2 w2 ∧ AnsW W0 K l v K2 := by
  obtain ⟨q, d, h1, h2, h3, h4⟩ := h
  obtain ⟨T, a1, a3⟩ := ns_of' hW h4 h3
  exact ⟨_, _, h1, a1, q, d, T, rfl, h2, a3, rfl⟩
theorem Ans2.g (h : Ans2 W l m e w2) (hW : KS W0 K W) : ∃ v K2, e = .returned v ∧ KS W0 K2 w2 ∧ AnsW2 W0 K l m v K2 := by
  obtain ⟨q, d, q2, d2, h1, h2, h3, h4, h5, h6⟩ := h
  obtain ⟨T, a1, a3⟩ := ns_of' hW h6 h4
  obtain ⟨U, b1, b3⟩ := ns_of' a1 (Below.refl _ _) h5
  refine ⟨_, _, h1, b1, q, d, q2, d2, T ++ U, rfl, h2, h3, a3.mono (fun q hq => List.mem_append_left _ hq), b3.mono (fun q hq => List.mem_append_right _ hq), by rw [List.append_assoc]⟩
end
section
variable {P : Program} {W0 : Base}
end
end Tw
namespace Go.Proofs.YtllmpemmknblaaaDoor
open Go Go.RowKit Tw
theorem same_is (A B : List Bx) (pA pB : Option Addr) (cA cB : Nat) {nA nB : Nat} (eA : A.length = nA) (eB : B.length = nB) (lA : A.length ≤ 4000000000) (w : World) (hA : SLV w pA (bcs A)) (hB : SLV w pB (bcs B)) (h : A = B) : Calls Tryd.prog 28 #[.slice pA nA cA, .slice pB nB cB] w fun e w' => e = .returned (.bool true) ∧ Below w.heap.size w w' := by
  subst eA; subst eB
  exact same_true A B pA pB cA cB lA w hA hB h
end Go.Proofs.YtllmpemmknblaaaDoor
/- Lists of boxes: what the law of lists leans on. -/
namespace Go.Proofs.YtllmpemmknblaaaDoor
open Go Go.RowKit Tw
def OutRL {α : Type} (cells : α → List Value) (W0 : Base) (K : List (Nat × Obj)) (l : List α) (v : Value) (K' : List (Nat × Obj)) : Prop :=
  ∃ p c Kl, v = .slice p l.length c ∧ l.length ≤ c ∧ RL cells W0 p l Kl ∧ (∀ p ∈ K, ∀ q ∈ Kl, q.1 ≠ p.1) ∧ K' = K ++ Kl
theorem OutRL.sub {α : Type} {cells : α → List Value} {W0 : Base} {K K' : List (Nat × Obj)} {l : List α} {v : Value} (h : OutRL cells W0 K l v K') : ∀ p ∈ K, p ∈ K' := by
  obtain ⟨_, _, _, _, _, _, _, rfl⟩ := h
  exact fun p hp => List.mem_append_left _ hp
def OutOL (W0 : Base) (K : List (Nat × Obj)) (E : TypeId) (sz n : Nat) (xs : List Value) (v : Value) (K' : List (Nat × Obj)) : Prop :=
  ∃ Kl, OwnL W0 E sz v n xs Kl ∧ (∀ p ∈ K, ∀ q ∈ Kl, q.1 ≠ p.1) ∧ K' = K ++ Kl
section
variable {P : Program} {W0 : Base} {K : List (Nat × Obj)} {W : World} {E : TypeId} {sz n : Nat} {f : FuncId} {args : Array Value}
theorem calls_r {α : Type} {cells : α → List Value} {l : List α} (hW : KS W0 K W) (h : Calls P f args W fun e w' => ∃ v, e = .returned v ∧ OutV W w' E sz v l.length (l.flatMap cells) ∧ Below W.heap.size W w') :
    Calls P f args W fun e w' => ∃ v K', e = .returned v ∧ KS W0 K' w' ∧ OutRL cells W0 K l v K' :=
  (calls_rl hW h).mono fun _ _ ⟨v, K', he, hk, p, c, Kl, hv, hn, hR, hd, hK⟩ => ⟨v, K', he, hk, p, c, Kl, hv, hn, hR, hd, hK⟩
theorem calls_o {xs : List Value} (hW : KS W0 K W) (h : Calls P f args W fun e w' => ∃ v, e = .returned v ∧ OutV W w' E sz v n xs ∧ Below W.heap.size W w') :
    Calls P f args W fun e w' => ∃ v K', e = .returned v ∧ KS W0 K' w' ∧ OutOL W0 K E sz n xs v K' :=
  h.mono fun e w' ⟨v, he, hO, hb⟩ => by
    obtain ⟨Kl, h1, h2, h3⟩ := hO.own hW hb
    exact ⟨v, _, he, h3, Kl, h1, h2, rfl⟩
end
theorem er_splitB {α : Type} {l : List α} {k : Nat} {x : α} (h : l[k]? = some x) : l = l.take k ++ x :: l.drop (k + 1) := by
  obtain ⟨hk, rfl⟩ := List.getElem?_eq_some_iff.1 h
  conv => lhs; rw [← List.take_append_drop k l, List.drop_eq_getElem_cons hk]
def RowR {α : Type} (cells : α → List Value) (cur : Array Value) (l : List α) : Prop := ∃ rest, cur.toList = l.flatMap cells ++ rest
section
variable {α : Type} {cells : α → List Value} {sz : Nat} {cur : Array Value} {l : List α} {k j : Nat} {c c' : α} {v : Value}
theorem RowR.get (h : RowR cells cur l) (hc : ∀ y, (cells y).length = sz) (hk : l[k]? = some c) : ∀ (j : Nat) (v : Value), (cells c)[j]? = some v → cur[0 + k * sz + j]? = some v := fun j v hv => by
  obtain ⟨rest, h⟩ := h
  have h1 := flat_get hc hk hv
  rw [← Array.getElem?_toList, h, Nat.zero_add, List.getElem?_append_left (List.getElem?_eq_some_iff.1 h1).1, h1]
theorem flat_set (hc : ∀ y, (cells y).length = sz) (hk : l[k]? = some c) (hj : j < sz) (he : cells c' = (cells c).set j v) : (l.flatMap cells).set (k * sz + j) v = (l.set k c').flatMap cells := by
  obtain ⟨hkl, hkc⟩ := List.getElem?_eq_some_iff.1 hk
  have e1 := er_splitB hk
  have hl : ((l.take k).flatMap cells).length = k * sz := by rw [flat_len hc, List.length_take, Nat.min_eq_left (by omega)]
  rw [show l.set k c' = l.take k ++ c' :: l.drop (k + 1) from by rw [List.set_eq_take_append_cons_drop, if_pos hkl], List.flatMap_append, List.flatMap_cons, he]
  conv => lhs; rw [e1, List.flatMap_append, List.flatMap_cons]
  rw [List.set_append_right _ _ (by rw [hl]; omega), hl, Nat.add_sub_cancel_left, List.set_append_left _ _ (by rw [hc]; exact hj)]
theorem RowR.set (h : RowR cells cur l) (hc : ∀ y, (cells y).length = sz) (hk : l[k]? = some c) (hj : j < sz) (he : cells c' = (cells c).set j v) : RowR cells (cur.setIfInBounds (0 + k * sz + j) v) (l.set k c') := by
  obtain ⟨rest, h⟩ := h
  refine ⟨rest, ?_⟩
  have hkl := (List.getElem?_eq_some_iff.1 hk).1
  have hlt : k * sz + j < (l.flatMap cells).length := by
    rw [flat_len hc]
    have : (k + 1) * sz ≤ l.length * sz := Nat.mul_le_mul_right _ hkl
    rw [Nat.succ_mul] at this; omega
  rw [Array.toList_setIfInBounds, h, Nat.zero_add, List.set_append_left _ _ hlt, flat_set hc hk hj he]
end
def bxL (b : Bx) : List Value := (bxC b).toList
theorem bxL_len (b : Bx) : (bxL b).length = 9 := rfl
theorem bxL_one (b : Bx) : ∀ v ∈ bxL b, v.oneCell' = true := by
  show ∀ v ∈ (bxC b).toList, v.oneCell' = true
  rw [← bcs_one]
  exact bcs_onec _
def smL (s : Sm) : List Value := (smC s).toList
theorem smL_one (s : Sm) : ∀ v ∈ smL s, v.oneCell' = true := fun v hv => by
  simp only [smL, smC, List.mem_cons, List.not_mem_nil, or_false] at hv
  rcases hv with rfl | rfl | rfl | rfl | rfl <;> rfl
theorem neq_smL {s : Sm} {px py : Operand} (w : World) : (do eqGuard .neq 47 px py (.agg (smL s).toArray) (.agg (smL s).toArray); binOp .neq 47 (.agg (smL s).toArray) (.agg (smL s).toArray) : Sem Value).run Tryd.prog w = .ok (.bool false) w := by
  unfold smL smC
  go_simp
theorem valid_two (l : List Bx) : ∃ va ve : Int, validV l = .tuple #[.int .i64 va, .int .i64 ve] ∧ 0 ≤ ve ∧ ve ≤ 60 := by
  unfold validV
  split
  · exact ⟨_, _, rfl, by decide, by decide⟩
  · split
    · exact ⟨_, _, rfl, by decide, by decide⟩
    · exact ⟨_, _, rfl, by decide, by decide⟩
theorem find_two (p : Bx → Bool) (l : List Bx) : (l.find? p = none ∧ idxFrom p 0 l = -1) ∨ ∃ b j, l.find? p = some b ∧ idxFrom p 0 l = ((j : Nat) : Int) ∧ l[j]? = some b := by
  rcases idx_find (p := p) (l := l) (k := 0) with h | ⟨b, j, h1, h2, h3⟩
  · exact .inl h
  · exact .inr ⟨b, j, h1, by rw [h2, Nat.zero_add], h3⟩
theorem numbered_p (l : List Bx) (n : List UInt8) : numberedX l n = l.find? (numP n) := by
  unfold numberedX
  by_cases h : n = []
  · rw [if_pos h]
    symm
    rw [List.find?_eq_none]
    intro b _
    unfold numP
    rw [decide_eq_true h]
    simp
  · rw [if_neg h]
    congr 1
    funext b
    unfold numP
    rw [decide_eq_false h]
    simp
theorem rep_last (l : List Bx) : l ++ (List.replicate (l.length + 1) bx0).drop l.length = l ++ [bx0] := by
  rw [List.drop_replicate, Nat.add_sub_cancel_left]; rfl
theorem set_last (l : List Bx) (a b : Bx) : (l ++ [a]).set l.length b = l ++ [b] := by
  rw [List.set_append_right _ _ (Nat.le_refl _), Nat.sub_self]; rfl
theorem row_put {cur : Array Value} {l : List Bx} (b : Bx) (h : RowX cur (l ++ [bx0])) : RowX (putR cur l.length b) (l ++ [b]) := by
  rw [← set_last l bx0 b]
  exact RowX.put h (by simp)
theorem row_rl {W0 : Base} {g : Nat} {cur : Array Value} {E : TypeId} {l r : List Bx} (h : RowX cur (l ++ r)) : RL bxL W0 (some ⟨g, 0, none⟩) l [(g, .cells cur E (0, 0))] := fun W hW => by
  have h1 := slv_take l.length (rowx_slv (hW.2 _ (.head _)) h)
  rw [List.take_left] at h1
  exact h1
theorem row_last {cur : Array Value} {l : List Bx} {b : Bx} (h : RowX cur (l ++ [b])) : ∀ (j : Nat) (v : Value), (bxC b).toList[j]? = some v → cur[0 + l.length * 9 + j]? = some v :=
  RowX.get h (by rw [List.getElem?_append_right (Nat.le_refl _), Nat.sub_self]; rfl)
theorem own_blk {W0 : Base} {v : Value} {n : Nat} {m : List Bx} {Kl : List (Nat × Obj)} (h : OwnL W0 26 9 v n (bcs m) Kl) (hn : 0 < n) : ∃ g cap cur, v = .slice (some ⟨g, 0, none⟩) n cap ∧ W0.B ≤ g ∧ RowN 9 cur cap n (bcs m) ∧ RowR bxL cur m ∧ Kl = [(g, .cells cur 26 (0, 0))] := by
  rcases h with ⟨rfl, _⟩ | ⟨g, cap, cur, hv, hB, hR, hK⟩
  · omega
  · exact ⟨g, cap, cur, hv, hB, hR, rowx_own hR, hK⟩
theorem blk_own {W0 : Base} {g cap n k : Nat} {m : List Bx} {b b' : Bx} {cur : Array Value} {v : Value} (hB : W0.B ≤ g) (hR : RowN 9 cur cap n (bcs m)) (hb : m[k]? = some b) (he : bxL b' = (bxL b).set 4 v) : OwnL W0 26 9 (.slice (some ⟨g, 0, none⟩) n cap) n (bcs (m.set k b')) [(g, .cells (cur.setIfInBounds (0 + k * 9 + 4) v) 26 (0, 0))] := by
  have hr : RowR bxL cur m := rowx_own hR
  have h2 : RowX (cur.setIfInBounds (0 + k * 9 + 4) v) (m.set k b') := RowR.set hr bxL_len hb (by decide) he
  have hl := hR.2.2.2.1
  rw [bcs_len] at hl
  exact .inr ⟨g, cap, _, rfl, hB, own_rowx hR (by simp) h2 (by rw [List.length_set]; omega), rfl⟩
end Go.Proofs.YtllmpemmknblaaaDoor
namespace Go.Proofs.YtllmpemmknblaaaDoor
open Go Go.RowKit Tw
set_option maxRecDepth 100000 in
set_option maxHeartbeats 4000000 in
theorem lists_00 (l : List Bx) (p : Option Addr) (c : Nat) (id : Int) (n : List UInt8) (hl : l.length ≤ 300) (f1 : findX l id = none) (f2 : idxFrom (idIs id) 0 l = -1) (nb1 : l.find? (numP n) = none) (nb2 : idxFrom (numP n) 0 l = -1) (w : World) (hp : SLV w p (bcs l)) : Calls Tryd.prog 11 #[.slice p l.length c, .int .i64 id, strV n] w fun e w' => e = .returned (.bool true) ∧ Below w.heap.size w w' := by
  have HP := Lib.hid hp
  clear hp
  obtain ⟨va, ve, hv, hv0, hv1⟩ := valid_two l
  have hol : (orderX l).length = l.length := order_len l
  go_enter Tryd.func11, Tryd.ntmps11
  refine wp_seq ?_
  refine wp_region_L (W0 := w) [] (KS.start w) ?_
  refine lm (v := .bool false) rfl rfl ?_
  refine wpL_done (fun W1 hW1 => ?_)
  refine (show Code.wp _ _ _ _ _ from ?_)
  refine wp_seq ?_
  refine wp_region_L (W0 := w) [] (hW1) ?_
  refine lm (v := .slice p l.length c) rfl rfl ?_
  refine lp (v := .int .i64 ((l.length : Nat) : Int)) rfl rfl (run_lenL (p := p) (cap := c) (n := l.length) rfl Tryd.underlying22 (by kernel_rfl)) ?_
  refine lp (v := .int .i64 (((l.length + 1) : Nat) : Int)) rfl rfl (run_bin rfl (vx := (.int .i64 ((l.length : Nat) : Int))) (vy := (.int .i64 ((1 : Nat) : Int))) (by kernel_rfl) (by kernel_rfl) fun w => bn_add (z := (l.length + 1)) rfl (wr_i64 (by omega)) w) ?_
  refine wpL_new (fun g => .slice (some ⟨g, 0, none⟩) (l.length + 1) (l.length + 1)) (obi := .cells (bcs (List.replicate (l.length + 1) bx0)).toArray 26 (0, 0)) rfl rfl (run_mkb (n := (l.length + 1)) (b := 64) rfl Tryd.underlying22 (by kernel_rfl) (by decide) (by kernel_rfl) (by kernel_rfl) (by omega)) (fun _ => by simp only [List.setIfInBounds_toArray, List.set_cons_succ, List.set_cons_zero] <;> rfl) fun g1 Bg1 Fg1 => ?_
  refine lm (v := .slice (some ⟨g1, 0, none⟩) (l.length + 1) (l.length + 1)) rfl rfl ?_
  refine wpL_done (fun W2 hW2 => ?_)
  refine (show Code.wp _ _ _ _ _ from ?_)
  refine wp_seq ?_
  refine wp_region_L (W0 := w) [(g1, .cells (bcs (List.replicate (l.length + 1) bx0)).toArray 26 (0, 0))] (hW2) ?_
  refine lm (v := .slice (some ⟨g1, 0, none⟩) (l.length + 1) (l.length + 1)) rfl rfl ?_
  refine lm (v := .slice p l.length c) rfl rfl ?_
  refine wpL_g (CopyB 26 g1 [] (l ++ (List.replicate (l.length + 1) bx0).drop l.length) l.length) rfl rfl (copy_all (m := l.length + 1) (dc := l.length + 1) (p := p) (sc := c) (r := List.replicate (l.length + 1) bx0) rfl Tryd.underlying22 (by kernel_rfl) (by kernel_rfl) (by kernel_rfl) (.head _) Bg1 (row_lit _) (by simp) (by omega) (fun W hW => ((RL.base HP.out) _ (hW.sub (fun _ h => by cases h)))) (fun _ h => by cases h)) (fun _ => by simp only [List.setIfInBounds_toArray, List.set_cons_succ, List.set_cons_zero] <;> rfl) ?_
  rintro _ _ ⟨rfl, cur1, hr1, rfl⟩
  rw [rep_last] at hr1
  refine wpL_done (fun W3 hW3 => ?_)
  refine (show Code.wp _ _ _ _ _ from ?_)
  refine wp_seq ?_
  refine wp_region_L (W0 := w) [(g1, .cells cur1 26 (0, 0))] (hW3) ?_
  refine lm (v := .slice (some ⟨g1, 0, none⟩) (l.length + 1) (l.length + 1)) rfl rfl ?_
  refine lm (v := .slice p l.length c) rfl rfl ?_
  refine lp (v := .int .i64 ((l.length : Nat) : Int)) rfl rfl (run_lenL (p := p) (cap := c) (n := l.length) rfl Tryd.underlying22 (by kernel_rfl)) ?_
  refine lv (v := .agg (bxL exB).toArray) rfl rfl (yb_call (f := 13) (args := #[]) (fun _ => by kernel_rfl) fun W hW => example_any W) ?_
  refine lp (v := .pointer (some ⟨g1, 0 + l.length * 9, none⟩)) rfl rfl (run_idxL (j := .i64) (n := (l.length + 1)) (cap := (l.length + 1)) (b := g1) (off := 0) (k := l.length) (sz := 9) rfl Tryd.underlying22 (by kernel_rfl) (by kernel_rfl) (by kernel_rfl) (by omega)) ?_
  refine wpL_s [(g1, .cells (putR cur1 l.length exB) 26 (0, 0))] rfl rfl (st_rec (b := exB) rfl (by kernel_rfl) (by kernel_rfl) (.head _) Bg1 (by kernel_rfl) hr1 (by simp) (List.forall_mem_cons.2 ⟨.inl rfl, (List.forall_mem_nil _)⟩)) ?_
  have hr2 := row_put exB hr1
  refine wpL_done (fun W4 hW4 => ?_)
  refine (show Code.wp _ _ _ _ _ from ?_)
  refine wp_seq ?_
  refine wp_region_L (W0 := w) [(g1, .cells (putR cur1 l.length exB) 26 (0, 0))] (hW4) ?_
  refine lm (v := .slice (some ⟨g1, 0, none⟩) (l.length + 1) (l.length + 1)) rfl rfl ?_
  refine lm (v := .slice p l.length c) rfl rfl ?_
  refine lp (v := .int .i64 ((l.length : Nat) : Int)) rfl rfl (run_lenL (p := p) (cap := c) (n := l.length) rfl Tryd.underlying22 (by kernel_rfl)) ?_
  have R0 : RL bxL w (some ⟨g1, 0, none⟩) l [(g1, .cells (putR cur1 l.length exB) 26 (0, 0))] := row_rl hr2
  refine lp (v := .slice (some ⟨g1, 0, none⟩) l.length (l.length + 1)) rfl rfl (run_slt (kd := .i64) (j := l.length) (n := (l.length + 1)) (c := (l.length + 1)) (sz := 9) rfl Tryd.underlying22 (by kernel_rfl) (by kernel_rfl) (by kernel_rfl) (by omega)) ?_
  refine lm (v := .slice (some ⟨g1, 0, none⟩) l.length (l.length + 1)) rfl rfl ?_
  refine wpL_done (fun W5 hW5 => ?_)
  refine (show Code.wp _ _ _ _ _ from ?_)
  refine wp_seq ?_
  refine wp_region_L (W0 := w) [(g1, .cells (putR cur1 l.length exB) 26 (0, 0))] (hW5) ?_
  refine lm (v := .slice (some ⟨g1, 0, none⟩) l.length (l.length + 1)) rfl rfl ?_
  refine lv (v := .tuple #[.int .i64 va, .int .i64 ve]) rfl rfl (yb_call (f := 29) (args := #[.slice (some ⟨g1, 0, none⟩) l.length (l.length + 1)]) (fun _ => by kernel_rfl) fun W hW => (by have h9 := Valid_any l (some ⟨g1, 0, none⟩) (l.length + 1) (by omega) W (R0 _ (hW.sub (fun p hp => by cases List.mem_singleton.1 hp; exact (.head _)))); rw [hv] at h9; exact h9)) ?_
  refine lm (v := .tuple #[.int .i64 va, .int .i64 ve]) rfl rfl ?_
  refine lm (v := .int .i64 va) rfl rfl ?_
  refine lm (v := .int .i64 ve) rfl rfl ?_
  refine lm (v := .int .i64 va) rfl rfl ?_
  refine lm (v := .int .i64 ve) rfl rfl ?_
  refine wpL_done (fun W6 hW6 => ?_)
  refine (show Code.wp _ _ _ _ _ from ?_)
  refine wp_seq ?_
  refine wp_region_L (W0 := w) [(g1, .cells (putR cur1 l.length exB) 26 (0, 0))] (hW6) ?_
  refine lm (v := .slice (some ⟨g1, 0, none⟩) l.length (l.length + 1)) rfl rfl ?_
  refine lm (v := .int .i64 id) rfl rfl ?_
  refine lv (v := .tuple #[.agg (bxL bx0).toArray, .bool false]) rfl rfl (yb_call (f := 30) (args := #[.slice (some ⟨g1, 0, none⟩) l.length (l.length + 1), .int .i64 id]) (fun _ => by kernel_rfl) fun W hW => (by have h9 := Find_any l (some ⟨g1, 0, none⟩) (l.length + 1) id (by omega) W (R0 _ (hW.sub (fun p hp => by cases List.mem_singleton.1 hp; exact (.head _)))); rw [f1] at h9; exact h9)) ?_
  refine lm (v := .tuple #[.agg (bxL bx0).toArray, .bool false]) rfl rfl ?_
  refine lm (v := .agg (bxL bx0).toArray) rfl rfl ?_
  refine lm (v := .bool false) rfl rfl ?_
  refine wpL_new (fun g => .pointer (some ⟨g, 0, none⟩)) (obi := .cells #[.int .i64 0, strV [], .int .u8 0, .bool false, .int .i64 0, .int .i64 0, .int .i64 0, .int .u8 0, .bool false] 26 (0, 0)) rfl rfl (fun _ => by kernel_rfl) (fun _ => by simp only [List.setIfInBounds_toArray, List.set_cons_succ, List.set_cons_zero] <;> rfl) fun g2 Bg2 Fg2 => ?_
  obtain dj3_0 : g1 ≠ g2 := by simpa only [dj_app_l, dj_app_r, dj_cons_l, dj_cons_r, dj_nil_l, dj_nil_r, dk_app, dk_cons, dk_nil, and_true, true_and, and_assoc] using (show Dk g2 [(g1, .cells (putR cur1 l.length exB) 26 (0, 0))] from Fg2)
  refine wpL_s [(g2, .cells (bxL bx0).toArray 26 (0, 0)), (g1, .cells (putR cur1 l.length exB) 26 (0, 0))] rfl rfl (st_row (off := 0) (v := .agg (bxL bx0).toArray) rfl (by kernel_rfl) (by kernel_rfl) (.head _) Bg2 (by kernel_rfl) (by first | (simp [Value.cells]; done) | exact Nat.le_of_ble_eq_true rfl) (fun v hv => bxL_one bx0 v hv) (by kernel_rfl) (List.forall_mem_cons.2 ⟨.inl rfl, (List.forall_mem_cons.2 ⟨.inr ⟨(.tail _ (.head _)), (by first | assumption | exact Ne.symm (by assumption))⟩, (List.forall_mem_nil _)⟩)⟩)) ?_
  refine lm (v := .bool false) rfl rfl ?_
  refine wpL_done (fun W7 hW7 => ?_)
  refine (show Code.wp _ _ _ _ _ from ?_)
  refine wp_seq ?_
  refine wp_region_L (W0 := w) [(g2, .cells (bxL bx0).toArray 26 (0, 0)), (g1, .cells (putR cur1 l.length exB) 26 (0, 0))] (hW7) ?_
  refine lm (v := .slice (some ⟨g1, 0, none⟩) l.length (l.length + 1)) rfl rfl ?_
  refine lm (v := strV n) rfl rfl ?_
  refine lv (v := .tuple #[.int .i64 0, .bool false]) rfl rfl (yb_call (f := 31) (args := #[.slice (some ⟨g1, 0, none⟩) l.length (l.length + 1), strV n]) (fun _ => by kernel_rfl) fun W hW => (by have h9 := Numbered_any l (some ⟨g1, 0, none⟩) (l.length + 1) n (by omega) W (R0 _ (hW.sub (fun p hp => by cases List.mem_singleton.1 hp; exact (.tail _ (.head _))))); rw [numbered_p, nb1] at h9; exact h9)) ?_
  refine lm (v := .tuple #[.int .i64 0, .bool false]) rfl rfl ?_
  refine lm (v := .int .i64 0) rfl rfl ?_
  refine lm (v := .bool false) rfl rfl ?_
  refine lm (v := .int .i64 0) rfl rfl ?_
  refine lm (v := .bool false) rfl rfl ?_
  refine wpL_done (fun W8 hW8 => ?_)
  refine (show Code.wp _ _ _ _ _ from ?_)
  refine wp_seq ?_
  refine wp_region_L (W0 := w) [(g2, .cells (bxL bx0).toArray 26 (0, 0)), (g1, .cells (putR cur1 l.length exB) 26 (0, 0))] (hW8) ?_
  refine lm (v := .slice (some ⟨g1, 0, none⟩) l.length (l.length + 1)) rfl rfl ?_
  refine lv (v := .agg (smL (totalX l)).toArray) rfl rfl (yb_call (f := 26) (args := #[.slice (some ⟨g1, 0, none⟩) l.length (l.length + 1)]) (fun _ => by kernel_rfl) fun W hW => Total_any l (some ⟨g1, 0, none⟩) (l.length + 1) (by omega) W (R0 _ (hW.sub (fun p hp => by cases List.mem_singleton.1 hp; exact (.tail _ (.head _)))))) ?_
  refine lm (v := .slice (some ⟨g1, 0, none⟩) l.length (l.length + 1)) rfl rfl ?_
  refine wpL_c (f := 27) (args := #[.slice (some ⟨g1, 0, none⟩) l.length (l.length + 1)]) (OutOL w [(g2, .cells (bxL bx0).toArray 26 (0, 0)), (g1, .cells (putR cur1 l.length exB) 26 (0, 0))] 26 9 (orderX l).length ((orderX l).flatMap bxL)) rfl (by kernel_rfl) (fun _ => (by kernel_rfl)) (fun W hW => calls_o hW (((Order_any l (some ⟨g1, 0, none⟩) (l.length + 1) (by omega) W (R0 _ (hW.sub (fun p hp => by cases List.mem_singleton.1 hp; exact (.tail _ (.head _)))))).mono fun _ _ ⟨v, h1, h2, h3⟩ => ⟨v, h1, by rw [order_len]; exact h2, h3⟩))) (fun _ => by simp only [List.setIfInBounds_toArray, List.set_cons_succ, List.set_cons_zero] <;> rfl) ?_
  rintro v4 _ ⟨Kl4, O4, N4, rfl⟩
  obtain ⟨dj5_0, dj5_1⟩ : Dk g2 Kl4 ∧ Dk g1 Kl4 := by simpa only [dj_app_l, dj_app_r, dj_cons_l, dj_cons_r, dj_nil_l, dj_nil_r, dk_app, dk_cons, dk_nil, and_true, true_and, and_assoc] using (show Dj [(g2, .cells (bxL bx0).toArray 26 (0, 0)), (g1, .cells (putR cur1 l.length exB) 26 (0, 0))] Kl4 from N4)
  refine wpL_new (fun g => .pointer (some ⟨g, 0, none⟩)) (obi := .cells #[.int .i64 0, .int .i64 0, .int .i64 0, .int .i64 0, .int .i64 0] 47 (0, 0)) rfl rfl (fun _ => by kernel_rfl) (fun _ => by simp only [List.setIfInBounds_toArray, List.set_cons_succ, List.set_cons_zero] <;> rfl) fun g6 Bg6 Fg6 => ?_
  obtain ⟨dj7_0, dj7_1, dj7_2⟩ : g2 ≠ g6 ∧ g1 ≠ g6 ∧ Dk g6 Kl4 := by simpa only [dj_app_l, dj_app_r, dj_cons_l, dj_cons_r, dj_nil_l, dj_nil_r, dk_app, dk_cons, dk_nil, and_true, true_and, and_assoc] using (show Dk g6 ((g2, .cells (bxL bx0).toArray 26 (0, 0)) :: (g1, .cells (putR cur1 l.length exB) 26 (0, 0)) :: Kl4) from Fg6)
  refine wpL_s ((g6, .cells (smL (totalX l)).toArray 47 (0, 0)) :: (g2, .cells (bxL bx0).toArray 26 (0, 0)) :: (g1, .cells (putR cur1 l.length exB) 26 (0, 0)) :: Kl4) rfl rfl (st_row (off := 0) (v := .agg (smL (totalX l)).toArray) rfl (by kernel_rfl) (by kernel_rfl) (.head _) Bg6 (by kernel_rfl) (by first | (simp [Value.cells]; done) | exact Nat.le_of_ble_eq_true rfl) (fun v hv => smL_one (totalX l) v hv) (by kernel_rfl) (List.forall_mem_cons.2 ⟨.inl rfl, (List.forall_mem_cons.2 ⟨.inr ⟨(.tail _ (.head _)), (by first | assumption | exact Ne.symm (by assumption))⟩, (List.forall_mem_cons.2 ⟨.inr ⟨(.tail _ (.tail _ (.head _))), (by first | assumption | exact Ne.symm (by assumption))⟩, (fun p hp => .inr ⟨(.tail _ (.tail _ (.tail _ hp))), ((show Dk g6 Kl4 from (by (try simp only [dj_app_l, dj_app_r, dj_cons_l, dj_cons_r, dj_nil_l, dj_nil_r, dk_app, dk_cons, dk_nil, and_true, true_and, and_assoc]); repeat' (first | trivial | assumption | exact Dj.symm (by assumption) | exact Ne.symm (by assumption) | apply And.intro))) _ hp)⟩)⟩)⟩)⟩)) ?_
  refine lm (v := v4) rfl rfl ?_
  refine wpL_done (fun W9 hW9 => ?_)
  refine (show Code.wp _ _ _ _ _ from ?_)
  refine wp_seq ?_
  refine wp_seq ?_
  refine wp_region_L (W0 := w) ((g6, .cells (smL (totalX l)).toArray 47 (0, 0)) :: (g2, .cells (bxL bx0).toArray 26 (0, 0)) :: (g1, .cells (putR cur1 l.length exB) 26 (0, 0)) :: Kl4) (hW9) ?_
  refine lm (v := v4) rfl rfl ?_
  refine lp (v := .int .i64 ((((orderX l).length) : Nat) : Int)) rfl rfl (run_lenO (W0 := w) rfl Tryd.underlying22 (by kernel_rfl) O4) ?_
  refine lm (v := .int .i64 0) rfl rfl ?_
  refine wpL_done (fun W10 hW10 => ?_)
  refine (show Code.wp _ _ _ _ _ from ?_)
  refine wp_block ?_
  go_loopw [62] (fun u62 wr => ∃ (k : Nat) (m : List Bx) (Km : List (Nat × Obj)), (k ≤ (orderX l).length) ∧ (m.length = (orderX l).length) ∧ (OwnL w 26 9 v4 (orderX l).length (bcs m) Km) ∧ (Dk g6 Km) ∧ (Dk g2 Km) ∧ (Dk g1 Km) ∧ u62 = .int .i64 ((k : Nat) : Int) ∧ KS w ((g6, .cells (smL (totalX l)).toArray 47 (0, 0)) :: (g2, .cells (bxL bx0).toArray 26 (0, 0)) :: (g1, .cells (putR cur1 l.length exB) 26 (0, 0)) :: Km) wr) (fun u62 _ => (orderX l).length - (intOf u62).toNat)
  case atStart => exact ⟨0, (orderX l), Kl4, (Nat.zero_le _), rfl, O4, (show Dk g6 Kl4 from (by (try simp only [dj_app_l, dj_app_r, dj_cons_l, dj_cons_r, dj_nil_l, dj_nil_r, dk_app, dk_cons, dk_nil, and_true, true_and, and_assoc]); repeat' (first | trivial | assumption | exact Dj.symm (by assumption) | exact Ne.symm (by assumption) | apply And.intro))), (show Dk g2 Kl4 from (by (try simp only [dj_app_l, dj_app_r, dj_cons_l, dj_cons_r, dj_nil_l, dj_nil_r, dk_app, dk_cons, dk_nil, and_true, true_and, and_assoc]); repeat' (first | trivial | assumption | exact Dj.symm (by assumption) | exact Ne.symm (by assumption) | apply And.intro))), (show Dk g1 Kl4 from (by (try simp only [dj_app_l, dj_app_r, dj_cons_l, dj_cons_r, dj_nil_l, dj_nil_r, dk_app, dk_cons, dk_nil, and_true, true_and, and_assoc]); repeat' (first | trivial | assumption | exact Dj.symm (by assumption) | exact Ne.symm (by assumption) | apply And.intro))), rfl, (hW10.sub (fun p hp => by first | exact hp | (simp only [List.mem_cons, List.mem_append, List.nil_append, List.not_mem_nil, or_assoc, or_false, false_or] at hp ⊢ <;> grind)))⟩
  case round =>
    obtain ⟨k, m, Km, hk, hm, hO, dh8_0, dh8_1, dh8_2, rfl, hL11⟩ := hrel
    refine wp_seq ?_
    refine wp_region_L (W0 := w) ((g6, .cells (smL (totalX l)).toArray 47 (0, 0)) :: (g2, .cells (bxL bx0).toArray 26 (0, 0)) :: (g1, .cells (putR cur1 l.length exB) 26 (0, 0)) :: Km) (hL11) ?_
    refine lp (v := .bool (decide (k < ((orderX l).length)))) rfl rfl (run_bin rfl (vx := (.int .i64 ((k : Nat) : Int))) (vy := (.int .i64 ((((orderX l).length) : Nat) : Int))) (by kernel_rfl) (by kernel_rfl) fun w => bn_lss rfl w) ?_
    refine wpL_done (fun W12 hW12 => ?_)
    refine (show Code.wp _ _ _ _ _ from ?_)
    refine wp_seq ?_
    cases hd1 : (decide (k < ((orderX l).length))) with
    | false =>
      have h1 : ¬ (k < ((orderX l).length)) := of_decide_eq_false hd1
      clear hd1
      refine wp_cond_false rfl ?_
      refine wp_exit ?_
      refine (show Code.wp _ _ _ _ _ from ?_)
      refine wp_seq ?_
      refine wp_region_L (W0 := w) ((g6, .cells (smL (totalX l)).toArray 47 (0, 0)) :: (g2, .cells (bxL bx0).toArray 26 (0, 0)) :: (g1, .cells (putR cur1 l.length exB) 26 (0, 0)) :: Km) (hW12) ?_
      refine lm (v := .slice (some ⟨g1, 0, none⟩) l.length (l.length + 1)) rfl rfl ?_
      refine wpL_c (f := 27) (args := #[.slice (some ⟨g1, 0, none⟩) l.length (l.length + 1)]) (OutRL bxL w ((g6, .cells (smL (totalX l)).toArray 47 (0, 0)) :: (g2, .cells (bxL bx0).toArray 26 (0, 0)) :: (g1, .cells (putR cur1 l.length exB) 26 (0, 0)) :: Km) (orderX l)) rfl (by kernel_rfl) (fun _ => (by kernel_rfl)) (fun W hW => calls_r hW (((Order_any l (some ⟨g1, 0, none⟩) (l.length + 1) (by omega) W (R0 _ (hW.sub (fun p hp => by cases List.mem_singleton.1 hp; exact (.tail _ (.tail _ (.head _))))))).mono fun _ _ ⟨v, h1, h2, h3⟩ => ⟨v, h1, by rw [order_len]; exact h2, h3⟩))) (fun _ => by simp only [List.setIfInBounds_toArray, List.set_cons_succ, List.set_cons_zero] <;> rfl) ?_
      rintro _ _ ⟨p9, c9, Kl9, rfl, n9, R9, N9, rfl⟩
      obtain ⟨dj10_0, dj10_1, dj10_2, dj10_3⟩ : Dk g6 Kl9 ∧ Dk g2 Kl9 ∧ Dk g1 Kl9 ∧ Dj Km Kl9 := by simpa only [dj_app_l, dj_app_r, dj_cons_l, dj_cons_r, dj_nil_l, dj_nil_r, dk_app, dk_cons, dk_nil, and_true, true_and, and_assoc] using (show Dj ((g6, .cells (smL (totalX l)).toArray 47 (0, 0)) :: (g2, .cells (bxL bx0).toArray 26 (0, 0)) :: (g1, .cells (putR cur1 l.length exB) 26 (0, 0)) :: Km) Kl9 from N9)
      refine wpL_sub (K2 := ((g6, .cells (smL (totalX l)).toArray 47 (0, 0)) :: (g2, .cells (bxL bx0).toArray 26 (0, 0)) :: (g1, .cells (putR cur1 l.length exB) 26 (0, 0)) :: (Km ++ Kl9))) (fun p hp => by simp only [List.mem_cons, List.mem_append, or_assoc] at hp ⊢; exact hp) ?_
      refine lm (v := .slice p9 ((orderX l).length) c9) rfl rfl ?_
      refine wpL_done (fun W13 hW13 => ?_)
      refine (show Code.wp _ _ _ _ _ from ?_)
      refine wp_seq ?_
      refine wp_seq ?_
      refine wp_region_V (W0 := w) ((g6, .cells (smL (totalX l)).toArray 47 (0, 0)) :: (g2, .cells (bxL bx0).toArray 26 (0, 0)) :: (g1, .cells (putR cur1 l.length exB) 26 (0, 0)) :: (Km ++ Kl9)) (by kernel_rfl) (hW13) ?_
      refine vm (i := 0) (v := .slice (some ⟨g1, 0, none⟩) l.length (l.length + 1)) rfl rfl rfl ?_
      refine vm (i := 1) (v := .slice p l.length c) rfl rfl rfl ?_
      refine vv (i := 2) (v := .bool true) rfl rfl rfl (yb_call (f := 28) (args := #[.slice (some ⟨g1, 0, none⟩) l.length (l.length + 1), .slice p l.length c]) (fun _ => by kernel_rfl) fun W hW => same_is l l (some ⟨g1, 0, none⟩) p (l.length + 1) c rfl rfl (by omega) W (R0 _ (hW.sub (fun p hp => by cases List.mem_singleton.1 hp; exact (.tail _ (.tail _ (.head _)))))) ((RL.base HP.out) _ (hW.sub (fun _ h => by cases h))) rfl) ?_
      refine vm (i := 3) (v := .bool false) rfl rfl rfl ?_
      refine vm (i := 4) (v := .bool false) rfl rfl rfl ?_
      refine vm (i := 5) (v := .slice (some ⟨g1, 0, none⟩) (l.length + 1) (l.length + 1)) rfl rfl rfl ?_
      refine vm (i := 6) (v := .slice p l.length c) rfl rfl rfl ?_
      refine vp (i := 7) (v := .int .i64 ((l.length : Nat) : Int)) rfl rfl rfl (run_lenL (p := p) (cap := c) (n := l.length) rfl Tryd.underlying22 (by kernel_rfl)) ?_
      refine vp (i := 8) (v := .pointer (some ⟨g1, 0 + l.length * 9, none⟩)) rfl rfl rfl (run_idxL (j := .i64) (n := (l.length + 1)) (cap := (l.length + 1)) (b := g1) (off := 0) (k := l.length) (sz := 9) rfl Tryd.underlying22 (by kernel_rfl) (by kernel_rfl) (by kernel_rfl) (by omega)) ?_
      refine vv (i := 9) (v := .agg (bxL exB).toArray) rfl rfl rfl (yb_cells (off := 0 + l.length * 9) (cur := (putR cur1 l.length exB)) (cs := bxL exB) rfl (by kernel_rfl) (.tail _ (.tail _ (.head _))) (row_last hr2) Tryd.underlying26 rfl (by kernel_rfl)) ?_
      refine vv (i := 10) (v := .agg (bxL exB).toArray) rfl rfl rfl (yb_call (f := 13) (args := #[]) (fun _ => by kernel_rfl) fun W hW => example_any W) ?_
      refine vp (i := 11) (v := .bool false) rfl rfl rfl (run_bin rfl (vx := .agg (bxL exB).toArray) (vy := .agg (bxL exB).toArray) (by kernel_rfl) (by kernel_rfl) fun w => neq_bx (a := exB) (b := exB) (decide_eq_true rfl) w) ?_
      refine vm (i := 12) (v := .bool false) rfl rfl rfl ?_
      refine wpV_done (by kernel_rfl) (fun W14 hW14 => ?_) _
      refine (show Code.wp _ _ _ _ _ from ?_)
      refine wp_cond_false rfl ?_
      refine wp_skip ?_
      refine (show Code.wp _ _ _ _ _ from ?_)
      refine wp_seq ?_
      refine wp_region_L (W0 := w) ((g6, .cells (smL (totalX l)).toArray 47 (0, 0)) :: (g2, .cells (bxL bx0).toArray 26 (0, 0)) :: (g1, .cells (putR cur1 l.length exB) 26 (0, 0)) :: (Km ++ Kl9)) (hW14) ?_
      refine lm (v := .slice p l.length c) rfl rfl ?_
      refine lv (v := .tuple #[.int .i64 va, .int .i64 ve]) rfl rfl (yb_call (f := 32) (args := #[.slice p l.length c]) (fun _ => by kernel_rfl) fun W hW => (by have h9 := RValid_any l p c (by omega) W ((RL.base HP.out) _ (hW.sub (fun _ h => by cases h))); rw [hv] at h9; exact h9)) ?_
      refine lm (v := .tuple #[.int .i64 va, .int .i64 ve]) rfl rfl ?_
      refine lm (v := .int .i64 va) rfl rfl ?_
      refine lm (v := .int .i64 ve) rfl rfl ?_
      refine lm (v := .int .i64 va) rfl rfl ?_
      refine lm (v := .int .i64 ve) rfl rfl ?_
      refine wpL_done (fun W15 hW15 => ?_)
      refine (show Code.wp _ _ _ _ _ from ?_)
      refine wp_seq ?_
      refine wp_seq ?_
      refine wp_region_L (W0 := w) ((g6, .cells (smL (totalX l)).toArray 47 (0, 0)) :: (g2, .cells (bxL bx0).toArray 26 (0, 0)) :: (g1, .cells (putR cur1 l.length exB) 26 (0, 0)) :: (Km ++ Kl9)) (hW15) ?_
      refine lm (v := .int .i64 va) rfl rfl ?_
      refine lm (v := .int .i64 va) rfl rfl ?_
      refine lp (v := .bool false) rfl rfl (run_bin rfl (vx := (.int .i64 va)) (vy := (.int .i64 va)) (by kernel_rfl) (by kernel_rfl) fun w => bi_neq (decide_eq_true rfl) w) ?_
      refine lm (v := .bool false) rfl rfl ?_
      refine lm (v := .int .i64 ve) rfl rfl ?_
      refine lm (v := .int .i64 ve) rfl rfl ?_
      refine lp (v := .bool false) rfl rfl (run_bin rfl (vx := (.int .i64 ve)) (vy := (.int .i64 ve)) (by kernel_rfl) (by kernel_rfl) fun w => bi_neq (decide_eq_true rfl) w) ?_
      refine lm (v := .bool false) rfl rfl ?_
      refine lm (v := .bool false) rfl rfl ?_
      refine lm (v := .slice p9 ((orderX l).length) c9) rfl rfl ?_
      refine lm (v := .slice p l.length c) rfl rfl ?_
      refine wpL_c (f := 33) (args := #[.slice p l.length c]) (OutRL bxL w ((g6, .cells (smL (totalX l)).toArray 47 (0, 0)) :: (g2, .cells (bxL bx0).toArray 26 (0, 0)) :: (g1, .cells (putR cur1 l.length exB) 26 (0, 0)) :: (Km ++ Kl9)) (orderX l)) rfl (by kernel_rfl) (fun _ => (by kernel_rfl)) (fun W hW => calls_r hW (((ROrder_any l p c (by omega) W ((RL.base HP.out) _ (hW.sub (fun _ h => by cases h)))).mono fun _ _ ⟨v, h1, h2, h3⟩ => ⟨v, h1, by rw [order_len]; exact h2, h3⟩))) (fun _ => by simp only [List.setIfInBounds_toArray, List.set_cons_succ, List.set_cons_zero] <;> rfl) ?_
      rintro _ _ ⟨p11, c11, Kl11, rfl, n11, R11, N11, rfl⟩
      obtain ⟨dj12_0, dj12_1, dj12_2, dj12_3, dj12_4⟩ : Dk g6 Kl11 ∧ Dk g2 Kl11 ∧ Dk g1 Kl11 ∧ Dj Km Kl11 ∧ Dj Kl9 Kl11 := by simpa only [dj_app_l, dj_app_r, dj_cons_l, dj_cons_r, dj_nil_l, dj_nil_r, dk_app, dk_cons, dk_nil, and_true, true_and, and_assoc] using (show Dj ((g6, .cells (smL (totalX l)).toArray 47 (0, 0)) :: (g2, .cells (bxL bx0).toArray 26 (0, 0)) :: (g1, .cells (putR cur1 l.length exB) 26 (0, 0)) :: (Km ++ Kl9)) Kl11 from N11)
      refine wpL_sub (K2 := ((g6, .cells (smL (totalX l)).toArray 47 (0, 0)) :: (g2, .cells (bxL bx0).toArray 26 (0, 0)) :: (g1, .cells (putR cur1 l.length exB) 26 (0, 0)) :: (Km ++ (Kl9 ++ Kl11)))) (fun p hp => by simp only [List.mem_cons, List.mem_append, or_assoc] at hp ⊢; exact hp) ?_
      refine lv (v := .bool true) rfl rfl (yb_call (f := 28) (args := #[.slice p9 ((orderX l).length) c9, .slice p11 ((orderX l).length) c11]) (fun _ => by kernel_rfl) fun W hW => same_is (orderX l) (orderX l) p9 p11 c9 c11 rfl rfl (by omega) W (R9 _ (hW.sub (fun p hp => by simp only [List.mem_cons, List.mem_append, List.nil_append, List.not_mem_nil, or_assoc, or_false, false_or, hp, true_or, or_true]))) (R11 _ (hW.sub (fun p hp => by simp only [List.mem_cons, List.mem_append, List.nil_append, List.not_mem_nil, or_assoc, or_false, false_or, hp, true_or, or_true]))) rfl) ?_
      refine lm (v := .bool false) rfl rfl ?_
      refine lm (v := .bool false) rfl rfl ?_
      refine wpL_done (fun W16 hW16 => ?_)
      refine (show Code.wp _ _ _ _ _ from ?_)
      refine wp_cond_false rfl ?_
      refine wp_skip ?_
      refine (show Code.wp _ _ _ _ _ from ?_)
      refine wp_seq ?_
      refine wp_region_L (W0 := w) ((g6, .cells (smL (totalX l)).toArray 47 (0, 0)) :: (g2, .cells (bxL bx0).toArray 26 (0, 0)) :: (g1, .cells (putR cur1 l.length exB) 26 (0, 0)) :: (Km ++ (Kl9 ++ Kl11))) (hW16) ?_
      refine lm (v := .slice p l.length c) rfl rfl ?_
      refine lv (v := .agg (smL (totalX l)).toArray) rfl rfl (yb_call (f := 34) (args := #[.slice p l.length c]) (fun _ => by kernel_rfl) fun W hW => RTotal_any l p c (by omega) W ((RL.base HP.out) _ (hW.sub (fun _ h => by cases h)))) ?_
      refine wpL_new (fun g => .pointer (some ⟨g, 0, none⟩)) (obi := .cells #[.int .i64 0, .int .i64 0, .int .i64 0, .int .i64 0, .int .i64 0] 66 (0, 0)) rfl rfl (fun _ => by kernel_rfl) (fun _ => by simp only [List.setIfInBounds_toArray, List.set_cons_succ, List.set_cons_zero] <;> rfl) fun g13 Bg13 Fg13 => ?_
      obtain ⟨dj14_0, dj14_1, dj14_2, dj14_3, dj14_4, dj14_5⟩ : g6 ≠ g13 ∧ g2 ≠ g13 ∧ g1 ≠ g13 ∧ Dk g13 Km ∧ Dk g13 Kl9 ∧ Dk g13 Kl11 := by simpa only [dj_app_l, dj_app_r, dj_cons_l, dj_cons_r, dj_nil_l, dj_nil_r, dk_app, dk_cons, dk_nil, and_true, true_and, and_assoc] using (show Dk g13 ((g6, .cells (smL (totalX l)).toArray 47 (0, 0)) :: (g2, .cells (bxL bx0).toArray 26 (0, 0)) :: (g1, .cells (putR cur1 l.length exB) 26 (0, 0)) :: (Km ++ (Kl9 ++ Kl11))) from Fg13)
      refine wpL_s ((g13, .cells (smL (totalX l)).toArray 66 (0, 0)) :: (g6, .cells (smL (totalX l)).toArray 47 (0, 0)) :: (g2, .cells (bxL bx0).toArray 26 (0, 0)) :: (g1, .cells (putR cur1 l.length exB) 26 (0, 0)) :: (Km ++ (Kl9 ++ Kl11))) rfl rfl (st_row (off := 0) (v := .agg (smL (totalX l)).toArray) rfl (by kernel_rfl) (by kernel_rfl) (.head _) Bg13 (by kernel_rfl) (by first | (simp [Value.cells]; done) | exact Nat.le_of_ble_eq_true rfl) (fun v hv => smL_one (totalX l) v hv) (by kernel_rfl) (List.forall_mem_cons.2 ⟨.inl rfl, (List.forall_mem_cons.2 ⟨.inr ⟨(.tail _ (.head _)), (by first | assumption | exact Ne.symm (by assumption))⟩, (List.forall_mem_cons.2 ⟨.inr ⟨(.tail _ (.tail _ (.head _))), (by first | assumption | exact Ne.symm (by assumption))⟩, (List.forall_mem_cons.2 ⟨.inr ⟨(.tail _ (.tail _ (.tail _ (.head _)))), (by first | assumption | exact Ne.symm (by assumption))⟩, (fun p hp => .inr ⟨(.tail _ (.tail _ (.tail _ (.tail _ hp)))), ((show Dk g13 (Km ++ (Kl9 ++ Kl11)) from (by (try simp only [dj_app_l, dj_app_r, dj_cons_l, dj_cons_r, dj_nil_l, dj_nil_r, dk_app, dk_cons, dk_nil, and_true, true_and, and_assoc]); repeat' (first | trivial | assumption | exact Dj.symm (by assumption) | exact Ne.symm (by assumption) | apply And.intro))) _ hp)⟩)⟩)⟩)⟩)⟩)) ?_
      refine wpL_done (fun W17 hW17 => ?_)
      refine (show Code.wp _ _ _ _ _ from ?_)
      refine wp_seq ?_
      refine wp_seq ?_
      refine wp_region_L (W0 := w) ((g13, .cells (smL (totalX l)).toArray 66 (0, 0)) :: (g6, .cells (smL (totalX l)).toArray 47 (0, 0)) :: (g2, .cells (bxL bx0).toArray 26 (0, 0)) :: (g1, .cells (putR cur1 l.length exB) 26 (0, 0)) :: (Km ++ (Kl9 ++ Kl11))) (hW17) ?_
      refine lv (v := .agg (smL (totalX l)).toArray) rfl rfl (yb_load (n := 5) (off := 0) rfl (by kernel_rfl) (.tail _ (.head _)) Tryd.underlying47 rfl (by kernel_rfl) (by first | (simp [Value.cells]; done) | exact Nat.le_of_ble_eq_true rfl) (by kernel_rfl)) ?_
      refine lm (v := .pointer (some ⟨g13, 0, none⟩)) rfl rfl ?_
      refine lv (v := .int .i64 ((((totalX l).n) : Nat) : Int)) rfl rfl (yb_cell (off := 0) rfl (by kernel_rfl) (.head _) Tryd.underlying3 rfl (by kernel_rfl)) ?_
      refine lm (v := .pointer (some ⟨g13, 1, none⟩)) rfl rfl ?_
      refine lv (v := .int .i64 ((((totalX l).h) : Nat) : Int)) rfl rfl (yb_cell (off := 1) rfl (by kernel_rfl) (.head _) Tryd.underlying3 rfl (by kernel_rfl)) ?_
      refine lm (v := .pointer (some ⟨g13, 2, none⟩)) rfl rfl ?_
      refine lv (v := .int .i64 ((totalX l).k)) rfl rfl (yb_cell (off := 2) rfl (by kernel_rfl) (.head _) Tryd.underlying3 rfl (by kernel_rfl)) ?_
      refine lm (v := .pointer (some ⟨g13, 3, none⟩)) rfl rfl ?_
      refine lv (v := .int .i64 ((((totalX l).r) : Nat) : Int)) rfl rfl (yb_cell (off := 3) rfl (by kernel_rfl) (.head _) Tryd.underlying3 rfl (by kernel_rfl)) ?_
      refine lm (v := .pointer (some ⟨g13, 4, none⟩)) rfl rfl ?_
      refine lv (v := .int .i64 ((((totalX l).d) : Nat) : Int)) rfl rfl (yb_cell (off := 4) rfl (by kernel_rfl) (.head _) Tryd.underlying3 rfl (by kernel_rfl)) ?_
      refine lm (v := .agg (smL (totalX l)).toArray) rfl rfl ?_
      refine lp (v := .bool false) rfl rfl (run_bin rfl (vx := .agg (smL (totalX l)).toArray) (vy := .agg (smL (totalX l)).toArray) (by kernel_rfl) (by kernel_rfl) fun w => neq_smL w) ?_
      refine wpL_done (fun W18 hW18 => ?_)
      refine (show Code.wp _ _ _ _ _ from ?_)
      refine wp_cond_false rfl ?_
      refine wp_skip ?_
      refine (show Code.wp _ _ _ _ _ from ?_)
      refine wp_seq ?_
      refine wp_region_L (W0 := w) ((g13, .cells (smL (totalX l)).toArray 66 (0, 0)) :: (g6, .cells (smL (totalX l)).toArray 47 (0, 0)) :: (g2, .cells (bxL bx0).toArray 26 (0, 0)) :: (g1, .cells (putR cur1 l.length exB) 26 (0, 0)) :: (Km ++ (Kl9 ++ Kl11))) (hW18) ?_
      refine lm (v := .slice p l.length c) rfl rfl ?_
      refine lm (v := .int .i64 id) rfl rfl ?_
      refine lv (v := .int .i64 (-1)) rfl rfl (yb_call (f := 35) (args := #[.slice p l.length c, .int .i64 id]) (fun _ => by kernel_rfl) fun W hW => (by have h9 := RFind_any l p c id (by omega) W ((RL.base HP.out) _ (hW.sub (fun _ h => by cases h))); rw [f2] at h9; exact h9)) ?_
      refine lm (v := .slice p l.length c) rfl rfl ?_
      refine lm (v := strV n) rfl rfl ?_
      refine lv (v := .int .i64 (-1)) rfl rfl (yb_call (f := 36) (args := #[.slice p l.length c, strV n]) (fun _ => by kernel_rfl) fun W hW => (by have h9 := RNumbered_any l p c n (by omega) W ((RL.base HP.out) _ (hW.sub (fun _ h => by cases h))); rw [nb2] at h9; exact h9)) ?_
      refine lm (v := .int .i64 (-1)) rfl rfl ?_
      refine lm (v := .int .i64 (-1)) rfl rfl ?_
      refine wpL_done (fun W19 hW19 => ?_)
      refine (show Code.wp _ _ _ _ _ from ?_)
      refine wp_seq ?_
      refine wp_seq ?_
      refine wp_region_V (W0 := w) ((g13, .cells (smL (totalX l)).toArray 66 (0, 0)) :: (g6, .cells (smL (totalX l)).toArray 47 (0, 0)) :: (g2, .cells (bxL bx0).toArray 26 (0, 0)) :: (g1, .cells (putR cur1 l.length exB) 26 (0, 0)) :: (Km ++ (Kl9 ++ Kl11))) (by kernel_rfl) (hW19) ?_
      refine vm (i := 0) (v := .bool false) rfl rfl rfl ?_
      refine vm (i := 1) (v := .int .i64 (-1)) rfl rfl rfl ?_
      refine vm (i := 2) (v := .bool false) rfl rfl rfl ?_
      refine vp (i := 3) (v := .bool false) rfl rfl rfl (run_bin rfl (vx := .bool false) (vy := .bool false) (by kernel_rfl) (by kernel_rfl) fun w => bn_bool_neq rfl Tryd.underlying4 w) ?_
      refine vm (i := 4) (v := .bool false) rfl rfl rfl ?_
      refine vm (i := 5) (v := .int .i64 (-1)) rfl rfl rfl ?_
      refine vm (i := 6) (v := .bool false) rfl rfl rfl ?_
      refine vm (i := 7) (v := .bool false) rfl rfl rfl ?_
      refine vn (i := 8) rfl rfl ?_
      refine vn (i := 9) rfl rfl ?_
      refine vn (i := 10) rfl rfl ?_
      refine vn (i := 11) rfl rfl ?_
      refine vn (i := 12) rfl rfl ?_
      refine vn (i := 13) rfl rfl ?_
      refine vm (i := 14) (v := .bool false) rfl rfl rfl ?_
      refine vm (i := 15) (v := .bool false) rfl rfl rfl ?_
      refine vm (i := 16) (v := .bool false) rfl rfl rfl ?_
      refine vm (i := 17) (v := .int .i64 (-1)) rfl rfl rfl ?_
      refine vm (i := 18) (v := .bool true) rfl rfl rfl ?_
      refine vm (i := 19) (v := .bool true) rfl rfl rfl ?_
      refine vv (i := 20) (v := .agg (bxL bx0).toArray) rfl rfl rfl (yb_load (n := 9) (off := 0) rfl (by kernel_rfl) (.tail _ (.tail _ (.head _))) Tryd.underlying26 rfl (by kernel_rfl) (by first | (simp [Value.cells]; done) | exact Nat.le_of_ble_eq_true rfl) (by kernel_rfl)) ?_
      refine vm (i := 21) (v := .agg #[.int .i64 0, strV [], .int .u8 0, .bool false, .int .i64 0, .int .i64 0, .int .i64 0, .int .u8 0, .bool false]) rfl rfl rfl ?_
      refine vp (i := 22) (v := .bool false) rfl rfl rfl (run_bin rfl (vx := .agg (bxL bx0).toArray) (vy := .agg (bxL bx0).toArray) (by kernel_rfl) (by kernel_rfl) fun w => neq_bx (a := bx0) (b := bx0) (decide_eq_true rfl) w) ?_
      refine vm (i := 23) (v := .bool false) rfl rfl rfl ?_
      refine vm (i := 24) (v := .bool false) rfl rfl rfl ?_
      refine wpV_done (by kernel_rfl) (fun W20 hW20 => ?_) _
      refine (show Code.wp _ _ _ _ _ from ?_)
      refine wp_cond_false rfl ?_
      refine wp_skip ?_
      refine (show Code.wp _ _ _ _ _ from ?_)
      refine wp_seq ?_
      refine wp_region_L (W0 := w) ((g13, .cells (smL (totalX l)).toArray 66 (0, 0)) :: (g6, .cells (smL (totalX l)).toArray 47 (0, 0)) :: (g2, .cells (bxL bx0).toArray 26 (0, 0)) :: (g1, .cells (putR cur1 l.length exB) 26 (0, 0)) :: (Km ++ (Kl9 ++ Kl11))) (hW20) ?_
      refine lm (v := .bool false) rfl rfl ?_
      refine lm (v := .int .i64 (-1)) rfl rfl ?_
      refine lm (v := .bool false) rfl rfl ?_
      refine lp (v := .bool true) rfl rfl (run_bin rfl (vx := .bool false) (vy := .bool false) (by kernel_rfl) (by kernel_rfl) fun w => bn_bool_eql rfl Tryd.underlying4 w) ?_
      refine lm (v := .bool true) rfl rfl ?_
      refine lm (v := .int .i64 (-1)) rfl rfl ?_
      refine lm (v := .bool false) rfl rfl ?_
      refine lm (v := .bool false) rfl rfl ?_
      refine ln rfl ?_
      refine ln rfl ?_
      refine ln rfl ?_
      refine ln rfl ?_
      refine ln rfl ?_
      refine ln rfl ?_
      refine ln rfl ?_
      refine lm (v := .bool false) rfl rfl ?_
      refine lm (v := .bool false) rfl rfl ?_
      refine lm (v := .int .i64 (-1)) rfl rfl ?_
      refine lm (v := .bool true) rfl rfl ?_
      refine lm (v := .bool true) rfl rfl ?_
      refine lm (v := .int .i64 0) rfl rfl ?_
      refine lm (v := .bool true) rfl rfl ?_
      refine lm (v := .bool true) rfl rfl ?_
      refine lm (v := .bool true) rfl rfl ?_
      refine lm (v := .bool true) rfl rfl ?_
      refine lm (v := .bool true) rfl rfl ?_
      refine wpL_done (fun W21 hW21 => ?_)
      refine (show Code.wp _ _ _ _ _ from ?_)
      refine wp_ret ?_
      try simp only [inBlock_ret, then_ret]
      refine bodyPost_ret (v := .bool true) ?_ rfl ?_
      · kernel_rfl
      · exact ⟨rfl, hW21.1⟩
    | true =>
      have h1 : k < ((orderX l).length) := of_decide_eq_true hd1
      clear hd1
      refine wp_cond_true rfl ?_
      refine wp_skip ?_
      refine (show Code.wp _ _ _ _ _ from ?_)
      refine wp_seq ?_
      refine wp_block ?_
      refine wp_seq ?_
      refine wp_region_L (W0 := w) ((g6, .cells (smL (totalX l)).toArray 47 (0, 0)) :: (g2, .cells (bxL bx0).toArray 26 (0, 0)) :: (g1, .cells (putR cur1 l.length exB) 26 (0, 0)) :: Km) (hW12) ?_
      refine lm (v := .int .i64 ((k : Nat) : Int)) rfl rfl ?_
      refine lm (v := .int .i64 ((k : Nat) : Int)) rfl rfl ?_
      refine wpL_done (fun W22 hW22 => ?_)
      refine (show Code.wp _ _ _ _ _ from ?_)
      obtain ⟨g9, cap9, cur9, rfl, hB9, hR9, hr9, rfl⟩ := own_blk hO (by omega)
      obtain ⟨bq, hbq⟩ : ∃ y, m[k]? = some y := ⟨_, List.getElem?_eq_getElem (by omega)⟩
      have hcap9 := hR9.2.2.1
      have gng6 : g9 ≠ g6 := by simpa only [dk_cons, dk_nil, and_true] using (show Dk g6 [(g9, .cells cur9 26 (0, 0))] from by assumption)
      have gng2 : g9 ≠ g2 := by simpa only [dk_cons, dk_nil, and_true] using (show Dk g2 [(g9, .cells cur9 26 (0, 0))] from by assumption)
      have gng1 : g9 ≠ g1 := by simpa only [dk_cons, dk_nil, and_true] using (show Dk g1 [(g9, .cells cur9 26 (0, 0))] from by assumption)
      refine wp_region_L (W0 := w) [(g6, .cells (smL (totalX l)).toArray 47 (0, 0)), (g2, .cells (bxL bx0).toArray 26 (0, 0)), (g1, .cells (putR cur1 l.length exB) 26 (0, 0)), (g9, .cells cur9 26 (0, 0))] (hW22) ?_
      refine lm (v := .slice (some ⟨g9, 0, none⟩) (orderX l).length cap9) rfl rfl ?_
      refine lm (v := .int .i64 ((k : Nat) : Int)) rfl rfl ?_
      refine lp (v := .pointer (some ⟨g9, 0 + k * 9, none⟩)) rfl rfl (run_idxL (j := .i64) (n := (orderX l).length) (cap := cap9) (b := g9) (off := 0) (k := k) (sz := 9) rfl Tryd.underlying22 (by kernel_rfl) (by kernel_rfl) (by kernel_rfl) (by omega)) ?_
      refine lm (v := .pointer (some ⟨g9, 0 + k * 9 + 4, none⟩)) rfl rfl ?_
      refine lv (v := .int .i64 bq.kilos) rfl rfl (yb_cell (off := 0 + k * 9 + 4) (v := .int .i64 bq.kilos) rfl (by kernel_rfl) (.tail _ (.tail _ (.tail _ (.head _)))) Tryd.underlying3 rfl (RowR.get hr9 bxL_len hbq 4 _ rfl)) ?_
      refine lp (v := .int .i64 (IntKind.i64.wrap (bq.kilos + 1))) rfl rfl (run_bin rfl (vx := .int .i64 bq.kilos) (vy := .int .i64 1) (by kernel_rfl) (by kernel_rfl) fun w => bw_add (z := (IntKind.i64.wrap (bq.kilos + 1))) rfl w) ?_
      refine lp (v := .pointer (some ⟨g9, 0 + k * 9, none⟩)) rfl rfl (run_idxL (j := .i64) (n := (orderX l).length) (cap := cap9) (b := g9) (off := 0) (k := k) (sz := 9) rfl Tryd.underlying22 (by kernel_rfl) (by kernel_rfl) (by kernel_rfl) (by omega)) ?_
      refine lm (v := .pointer (some ⟨g9, 0 + k * 9 + 4, none⟩)) rfl rfl ?_
      refine wpL_s [(g6, .cells (smL (totalX l)).toArray 47 (0, 0)), (g2, .cells (bxL bx0).toArray 26 (0, 0)), (g1, .cells (putR cur1 l.length exB) 26 (0, 0)), (g9, .cells (cur9.setIfInBounds (0 + k * 9 + 4) (.int .i64 (IntKind.i64.wrap (bq.kilos + 1)))) 26 (0, 0))] rfl rfl (st_at (off := 0 + k * 9 + 4) (v := .int .i64 (IntKind.i64.wrap (bq.kilos + 1))) rfl (by kernel_rfl) (by kernel_rfl) (.tail _ (.tail _ (.tail _ (.head _)))) hB9 (by kernel_rfl) rfl rfl (by rw [hR9.1]; have h9 := hR9.2.2.1; omega) (.inr rfl) (List.forall_mem_cons.2 ⟨.inr ⟨(.head _), (by first | assumption | exact Ne.symm (by assumption))⟩, (List.forall_mem_cons.2 ⟨.inr ⟨(.tail _ (.head _)), (by first | assumption | exact Ne.symm (by assumption))⟩, (List.forall_mem_cons.2 ⟨.inr ⟨(.tail _ (.tail _ (.head _))), (by first | assumption | exact Ne.symm (by assumption))⟩, (List.forall_mem_cons.2 ⟨.inl rfl, (List.forall_mem_nil _)⟩)⟩)⟩)⟩)) ?_
      refine wpL_done (fun W23 hW23 => ?_)
      refine (show Code.wp _ _ _ _ _ from ?_)
      refine wp_region_L (W0 := w) [(g6, .cells (smL (totalX l)).toArray 47 (0, 0)), (g2, .cells (bxL bx0).toArray 26 (0, 0)), (g1, .cells (putR cur1 l.length exB) 26 (0, 0)), (g9, .cells (cur9.setIfInBounds (0 + k * 9 + 4) (.int .i64 (IntKind.i64.wrap (bq.kilos + 1)))) 26 (0, 0))] (hW23) ?_
      refine lp (v := .int .i64 (((k + 1) : Nat) : Int)) rfl rfl (run_bin rfl (vx := (.int .i64 ((k : Nat) : Int))) (vy := (.int .i64 ((1 : Nat) : Int))) (by kernel_rfl) (by kernel_rfl) fun w => bn_add (z := (k + 1)) rfl (wr_i64 (by omega)) w) ?_
      refine lm (v := .int .i64 (((k + 1) : Nat) : Int)) rfl rfl ?_
      refine wpL_done (fun W24 hW24 => ?_)
      go_roundw
      case rel =>
        repeat apply Exists.intro
        exact ⟨⟨k + 1, (m.set k { bq with kilos := (IntKind.i64.wrap (bq.kilos + 1)) }), [(g9, .cells (cur9.setIfInBounds (0 + k * 9 + 4) (.int .i64 (IntKind.i64.wrap (bq.kilos + 1)))) 26 (0, 0))], (by omega), (by rw [List.length_set]; omega), (blk_own hB9 hR9 hbq rfl), (show Dk g6 [(g9, .cells (cur9.setIfInBounds (0 + k * 9 + 4) (.int .i64 (IntKind.i64.wrap (bq.kilos + 1)))) 26 (0, 0))] from (by (try simp only [dj_app_l, dj_app_r, dj_cons_l, dj_cons_r, dj_nil_l, dj_nil_r, dk_app, dk_cons, dk_nil, and_true, true_and, and_assoc]); repeat' (first | trivial | assumption | exact Dj.symm (by assumption) | exact Ne.symm (by assumption) | apply And.intro))), (show Dk g2 [(g9, .cells (cur9.setIfInBounds (0 + k * 9 + 4) (.int .i64 (IntKind.i64.wrap (bq.kilos + 1)))) 26 (0, 0))] from (by (try simp only [dj_app_l, dj_app_r, dj_cons_l, dj_cons_r, dj_nil_l, dj_nil_r, dk_app, dk_cons, dk_nil, and_true, true_and, and_assoc]); repeat' (first | trivial | assumption | exact Dj.symm (by assumption) | exact Ne.symm (by assumption) | apply And.intro))), (show Dk g1 [(g9, .cells (cur9.setIfInBounds (0 + k * 9 + 4) (.int .i64 (IntKind.i64.wrap (bq.kilos + 1)))) 26 (0, 0))] from (by (try simp only [dj_app_l, dj_app_r, dj_cons_l, dj_cons_r, dj_nil_l, dj_nil_r, dk_app, dk_cons, dk_nil, and_true, true_and, and_assoc]); repeat' (first | trivial | assumption | exact Dj.symm (by assumption) | exact Ne.symm (by assumption) | apply And.intro))), rfl, (hW24.sub (fun p hp => by first | exact hp | (simp only [List.mem_cons, List.mem_append, List.nil_append, List.not_mem_nil, or_assoc, or_false, false_or] at hp ⊢ <;> grind)))⟩, rfl⟩
      case measure => (show (orderX l).length - (intOf (.int .i64 (((k + 1) : Nat) : Int))).toNat < (orderX l).length - (intOf (.int .i64 ((k : Nat) : Int))).toNat); simp only [intOf]; omega
set_option maxRecDepth 100000 in
set_option maxHeartbeats 4000000 in
theorem lists_01 (l : List Bx) (p : Option Addr) (c : Nat) (id : Int) (n : List UInt8) (hl : l.length ≤ 300) (f1 : findX l id = none) (f2 : idxFrom (idIs id) 0 l = -1) (b2 : Bx) (j2 : Nat) (nb1 : l.find? (numP n) = some b2) (nb2 : idxFrom (numP n) 0 l = ((j2 : Nat) : Int)) (nb3 : l[j2]? = some b2) (w : World) (hp : SLV w p (bcs l)) : Calls Tryd.prog 11 #[.slice p l.length c, .int .i64 id, strV n] w fun e w' => e = .returned (.bool true) ∧ Below w.heap.size w w' := by
  have HP := Lib.hid hp
  clear hp
  obtain ⟨va, ve, hv, hv0, hv1⟩ := valid_two l
  have hol : (orderX l).length = l.length := order_len l
  have hj2 : j2 < l.length := (List.getElem?_eq_some_iff.1 nb3).1
  go_enter Tryd.func11, Tryd.ntmps11
  refine wp_seq ?_
  refine wp_region_L (W0 := w) [] (KS.start w) ?_
  refine lm (v := .bool false) rfl rfl ?_
  refine wpL_done (fun W1 hW1 => ?_)
  refine (show Code.wp _ _ _ _ _ from ?_)
  refine wp_seq ?_
  refine wp_region_L (W0 := w) [] (hW1) ?_
  refine lm (v := .slice p l.length c) rfl rfl ?_
  refine lp (v := .int .i64 ((l.length : Nat) : Int)) rfl rfl (run_lenL (p := p) (cap := c) (n := l.length) rfl Tryd.underlying22 (by kernel_rfl)) ?_
  refine lp (v := .int .i64 (((l.length + 1) : Nat) : Int)) rfl rfl (run_bin rfl (vx := (.int .i64 ((l.length : Nat) : Int))) (vy := (.int .i64 ((1 : Nat) : Int))) (by kernel_rfl) (by kernel_rfl) fun w => bn_add (z := (l.length + 1)) rfl (wr_i64 (by omega)) w) ?_
  refine wpL_new (fun g => .slice (some ⟨g, 0, none⟩) (l.length + 1) (l.length + 1)) (obi := .cells (bcs (List.replicate (l.length + 1) bx0)).toArray 26 (0, 0)) rfl rfl (run_mkb (n := (l.length + 1)) (b := 64) rfl Tryd.underlying22 (by kernel_rfl) (by decide) (by kernel_rfl) (by kernel_rfl) (by omega)) (fun _ => by simp only [List.setIfInBounds_toArray, List.set_cons_succ, List.set_cons_zero] <;> rfl) fun g1 Bg1 Fg1 => ?_
  refine lm (v := .slice (some ⟨g1, 0, none⟩) (l.length + 1) (l.length + 1)) rfl rfl ?_
  refine wpL_done (fun W2 hW2 => ?_)
  refine (show Code.wp _ _ _ _ _ from ?_)
  refine wp_seq ?_
  refine wp_region_L (W0 := w) [(g1, .cells (bcs (List.replicate (l.length + 1) bx0)).toArray 26 (0, 0))] (hW2) ?_
  refine lm (v := .slice (some ⟨g1, 0, none⟩) (l.length + 1) (l.length + 1)) rfl rfl ?_
  refine lm (v := .slice p l.length c) rfl rfl ?_
  refine wpL_g (CopyB 26 g1 [] (l ++ (List.replicate (l.length + 1) bx0).drop l.length) l.length) rfl rfl (copy_all (m := l.length + 1) (dc := l.length + 1) (p := p) (sc := c) (r := List.replicate (l.length + 1) bx0) rfl Tryd.underlying22 (by kernel_rfl) (by kernel_rfl) (by kernel_rfl) (.head _) Bg1 (row_lit _) (by simp) (by omega) (fun W hW => ((RL.base HP.out) _ (hW.sub (fun _ h => by cases h)))) (fun _ h => by cases h)) (fun _ => by simp only [List.setIfInBounds_toArray, List.set_cons_succ, List.set_cons_zero] <;> rfl) ?_
  rintro _ _ ⟨rfl, cur1, hr1, rfl⟩
  rw [rep_last] at hr1
  refine wpL_done (fun W3 hW3 => ?_)
  refine (show Code.wp _ _ _ _ _ from ?_)
  refine wp_seq ?_
  refine wp_region_L (W0 := w) [(g1, .cells cur1 26 (0, 0))] (hW3) ?_
  refine lm (v := .slice (some ⟨g1, 0, none⟩) (l.length + 1) (l.length + 1)) rfl rfl ?_
  refine lm (v := .slice p l.length c) rfl rfl ?_
  refine lp (v := .int .i64 ((l.length : Nat) : Int)) rfl rfl (run_lenL (p := p) (cap := c) (n := l.length) rfl Tryd.underlying22 (by kernel_rfl)) ?_
  refine lv (v := .agg (bxL exB).toArray) rfl rfl (yb_call (f := 13) (args := #[]) (fun _ => by kernel_rfl) fun W hW => example_any W) ?_
  refine lp (v := .pointer (some ⟨g1, 0 + l.length * 9, none⟩)) rfl rfl (run_idxL (j := .i64) (n := (l.length + 1)) (cap := (l.length + 1)) (b := g1) (off := 0) (k := l.length) (sz := 9) rfl Tryd.underlying22 (by kernel_rfl) (by kernel_rfl) (by kernel_rfl) (by omega)) ?_
  refine wpL_s [(g1, .cells (putR cur1 l.length exB) 26 (0, 0))] rfl rfl (st_rec (b := exB) rfl (by kernel_rfl) (by kernel_rfl) (.head _) Bg1 (by kernel_rfl) hr1 (by simp) (List.forall_mem_cons.2 ⟨.inl rfl, (List.forall_mem_nil _)⟩)) ?_
  have hr2 := row_put exB hr1
  refine wpL_done (fun W4 hW4 => ?_)
  refine (show Code.wp _ _ _ _ _ from ?_)
  refine wp_seq ?_
  refine wp_region_L (W0 := w) [(g1, .cells (putR cur1 l.length exB) 26 (0, 0))] (hW4) ?_
  refine lm (v := .slice (some ⟨g1, 0, none⟩) (l.length + 1) (l.length + 1)) rfl rfl ?_
  refine lm (v := .slice p l.length c) rfl rfl ?_
  refine lp (v := .int .i64 ((l.length : Nat) : Int)) rfl rfl (run_lenL (p := p) (cap := c) (n := l.length) rfl Tryd.underlying22 (by kernel_rfl)) ?_
  have R0 : RL bxL w (some ⟨g1, 0, none⟩) l [(g1, .cells (putR cur1 l.length exB) 26 (0, 0))] := row_rl hr2
  refine lp (v := .slice (some ⟨g1, 0, none⟩) l.length (l.length + 1)) rfl rfl (run_slt (kd := .i64) (j := l.length) (n := (l.length + 1)) (c := (l.length + 1)) (sz := 9) rfl Tryd.underlying22 (by kernel_rfl) (by kernel_rfl) (by kernel_rfl) (by omega)) ?_
  refine lm (v := .slice (some ⟨g1, 0, none⟩) l.length (l.length + 1)) rfl rfl ?_
  refine wpL_done (fun W5 hW5 => ?_)
  refine (show Code.wp _ _ _ _ _ from ?_)
  refine wp_seq ?_
  refine wp_region_L (W0 := w) [(g1, .cells (putR cur1 l.length exB) 26 (0, 0))] (hW5) ?_
  refine lm (v := .slice (some ⟨g1, 0, none⟩) l.length (l.length + 1)) rfl rfl ?_
  refine lv (v := .tuple #[.int .i64 va, .int .i64 ve]) rfl rfl (yb_call (f := 29) (args := #[.slice (some ⟨g1, 0, none⟩) l.length (l.length + 1)]) (fun _ => by kernel_rfl) fun W hW => (by have h9 := Valid_any l (some ⟨g1, 0, none⟩) (l.length + 1) (by omega) W (R0 _ (hW.sub (fun p hp => by cases List.mem_singleton.1 hp; exact (.head _)))); rw [hv] at h9; exact h9)) ?_
  refine lm (v := .tuple #[.int .i64 va, .int .i64 ve]) rfl rfl ?_
  refine lm (v := .int .i64 va) rfl rfl ?_
  refine lm (v := .int .i64 ve) rfl rfl ?_
  refine lm (v := .int .i64 va) rfl rfl ?_
  refine lm (v := .int .i64 ve) rfl rfl ?_
  refine wpL_done (fun W6 hW6 => ?_)
  refine (show Code.wp _ _ _ _ _ from ?_)
  refine wp_seq ?_
  refine wp_region_L (W0 := w) [(g1, .cells (putR cur1 l.length exB) 26 (0, 0))] (hW6) ?_
  refine lm (v := .slice (some ⟨g1, 0, none⟩) l.length (l.length + 1)) rfl rfl ?_
  refine lm (v := .int .i64 id) rfl rfl ?_
  refine lv (v := .tuple #[.agg (bxL bx0).toArray, .bool false]) rfl rfl (yb_call (f := 30) (args := #[.slice (some ⟨g1, 0, none⟩) l.length (l.length + 1), .int .i64 id]) (fun _ => by kernel_rfl) fun W hW => (by have h9 := Find_any l (some ⟨g1, 0, none⟩) (l.length + 1) id (by omega) W (R0 _ (hW.sub (fun p hp => by cases List.mem_singleton.1 hp; exact (.head _)))); rw [f1] at h9; exact h9)) ?_
  refine lm (v := .tuple #[.agg (bxL bx0).toArray, .bool false]) rfl rfl ?_
  refine lm (v := .agg (bxL bx0).toArray) rfl rfl ?_
  refine lm (v := .bool false) rfl rfl ?_
  refine wpL_new (fun g => .pointer (some ⟨g, 0, none⟩)) (obi := .cells #[.int .i64 0, strV [], .int .u8 0, .bool false, .int .i64 0, .int .i64 0, .int .i64 0, .int .u8 0, .bool false] 26 (0, 0)) rfl rfl (fun _ => by kernel_rfl) (fun _ => by simp only [List.setIfInBounds_toArray, List.set_cons_succ, List.set_cons_zero] <;> rfl) fun g2 Bg2 Fg2 => ?_
  obtain dj3_0 : g1 ≠ g2 := by simpa only [dj_app_l, dj_app_r, dj_cons_l, dj_cons_r, dj_nil_l, dj_nil_r, dk_app, dk_cons, dk_nil, and_true, true_and, and_assoc] using (show Dk g2 [(g1, .cells (putR cur1 l.length exB) 26 (0, 0))] from Fg2)
  refine wpL_s [(g2, .cells (bxL bx0).toArray 26 (0, 0)), (g1, .cells (putR cur1 l.length exB) 26 (0, 0))] rfl rfl (st_row (off := 0) (v := .agg (bxL bx0).toArray) rfl (by kernel_rfl) (by kernel_rfl) (.head _) Bg2 (by kernel_rfl) (by first | (simp [Value.cells]; done) | exact Nat.le_of_ble_eq_true rfl) (fun v hv => bxL_one bx0 v hv) (by kernel_rfl) (List.forall_mem_cons.2 ⟨.inl rfl, (List.forall_mem_cons.2 ⟨.inr ⟨(.tail _ (.head _)), (by first | assumption | exact Ne.symm (by assumption))⟩, (List.forall_mem_nil _)⟩)⟩)) ?_
  refine lm (v := .bool false) rfl rfl ?_
  refine wpL_done (fun W7 hW7 => ?_)
  refine (show Code.wp _ _ _ _ _ from ?_)
  refine wp_seq ?_
  refine wp_region_L (W0 := w) [(g2, .cells (bxL bx0).toArray 26 (0, 0)), (g1, .cells (putR cur1 l.length exB) 26 (0, 0))] (hW7) ?_
  refine lm (v := .slice (some ⟨g1, 0, none⟩) l.length (l.length + 1)) rfl rfl ?_
  refine lm (v := strV n) rfl rfl ?_
  refine lv (v := .tuple #[.int .i64 b2.id, .bool true]) rfl rfl (yb_call (f := 31) (args := #[.slice (some ⟨g1, 0, none⟩) l.length (l.length + 1), strV n]) (fun _ => by kernel_rfl) fun W hW => (by have h9 := Numbered_any l (some ⟨g1, 0, none⟩) (l.length + 1) n (by omega) W (R0 _ (hW.sub (fun p hp => by cases List.mem_singleton.1 hp; exact (.tail _ (.head _))))); rw [numbered_p, nb1] at h9; exact h9)) ?_
  refine lm (v := .tuple #[.int .i64 b2.id, .bool true]) rfl rfl ?_
  refine lm (v := .int .i64 b2.id) rfl rfl ?_
  refine lm (v := .bool true) rfl rfl ?_
  refine lm (v := .int .i64 b2.id) rfl rfl ?_
  refine lm (v := .bool true) rfl rfl ?_
  refine wpL_done (fun W8 hW8 => ?_)
  refine (show Code.wp _ _ _ _ _ from ?_)
  refine wp_seq ?_
  refine wp_region_L (W0 := w) [(g2, .cells (bxL bx0).toArray 26 (0, 0)), (g1, .cells (putR cur1 l.length exB) 26 (0, 0))] (hW8) ?_
  refine lm (v := .slice (some ⟨g1, 0, none⟩) l.length (l.length + 1)) rfl rfl ?_
  refine lv (v := .agg (smL (totalX l)).toArray) rfl rfl (yb_call (f := 26) (args := #[.slice (some ⟨g1, 0, none⟩) l.length (l.length + 1)]) (fun _ => by kernel_rfl) fun W hW => Total_any l (some ⟨g1, 0, none⟩) (l.length + 1) (by omega) W (R0 _ (hW.sub (fun p hp => by cases List.mem_singleton.1 hp; exact (.tail _ (.head _)))))) ?_
  refine lm (v := .slice (some ⟨g1, 0, none⟩) l.length (l.length + 1)) rfl rfl ?_
  refine wpL_c (f := 27) (args := #[.slice (some ⟨g1, 0, none⟩) l.length (l.length + 1)]) (OutOL w [(g2, .cells (bxL bx0).toArray 26 (0, 0)), (g1, .cells (putR cur1 l.length exB) 26 (0, 0))] 26 9 (orderX l).length ((orderX l).flatMap bxL)) rfl (by kernel_rfl) (fun _ => (by kernel_rfl)) (fun W hW => calls_o hW (((Order_any l (some ⟨g1, 0, none⟩) (l.length + 1) (by omega) W (R0 _ (hW.sub (fun p hp => by cases List.mem_singleton.1 hp; exact (.tail _ (.head _)))))).mono fun _ _ ⟨v, h1, h2, h3⟩ => ⟨v, h1, by rw [order_len]; exact h2, h3⟩))) (fun _ => by simp only [List.setIfInBounds_toArray, List.set_cons_succ, List.set_cons_zero] <;> rfl) ?_
  rintro v4 _ ⟨Kl4, O4, N4, rfl⟩
  obtain ⟨dj5_0, dj5_1⟩ : Dk g2 Kl4 ∧ Dk g1 Kl4 := by simpa only [dj_app_l, dj_app_r, dj_cons_l, dj_cons_r, dj_nil_l, dj_nil_r, dk_app, dk_cons, dk_nil, and_true, true_and, and_assoc] using (show Dj [(g2, .cells (bxL bx0).toArray 26 (0, 0)), (g1, .cells (putR cur1 l.length exB) 26 (0, 0))] Kl4 from N4)
  refine wpL_new (fun g => .pointer (some ⟨g, 0, none⟩)) (obi := .cells #[.int .i64 0, .int .i64 0, .int .i64 0, .int .i64 0, .int .i64 0] 47 (0, 0)) rfl rfl (fun _ => by kernel_rfl) (fun _ => by simp only [List.setIfInBounds_toArray, List.set_cons_succ, List.set_cons_zero] <;> rfl) fun g6 Bg6 Fg6 => ?_
  obtain ⟨dj7_0, dj7_1, dj7_2⟩ : g2 ≠ g6 ∧ g1 ≠ g6 ∧ Dk g6 Kl4 := by simpa only [dj_app_l, dj_app_r, dj_cons_l, dj_cons_r, dj_nil_l, dj_nil_r, dk_app, dk_cons, dk_nil, and_true, true_and, and_assoc] using (show Dk g6 ((g2, .cells (bxL bx0).toArray 26 (0, 0)) :: (g1, .cells (putR cur1 l.length exB) 26 (0, 0)) :: Kl4) from Fg6)
  refine wpL_s ((g6, .cells (smL (totalX l)).toArray 47 (0, 0)) :: (g2, .cells (bxL bx0).toArray 26 (0, 0)) :: (g1, .cells (putR cur1 l.length exB) 26 (0, 0)) :: Kl4) rfl rfl (st_row (off := 0) (v := .agg (smL (totalX l)).toArray) rfl (by kernel_rfl) (by kernel_rfl) (.head _) Bg6 (by kernel_rfl) (by first | (simp [Value.cells]; done) | exact Nat.le_of_ble_eq_true rfl) (fun v hv => smL_one (totalX l) v hv) (by kernel_rfl) (List.forall_mem_cons.2 ⟨.inl rfl, (List.forall_mem_cons.2 ⟨.inr ⟨(.tail _ (.head _)), (by first | assumption | exact Ne.symm (by assumption))⟩, (List.forall_mem_cons.2 ⟨.inr ⟨(.tail _ (.tail _ (.head _))), (by first | assumption | exact Ne.symm (by assumption))⟩, (fun p hp => .inr ⟨(.tail _ (.tail _ (.tail _ hp))), ((show Dk g6 Kl4 from (by (try simp only [dj_app_l, dj_app_r, dj_cons_l, dj_cons_r, dj_nil_l, dj_nil_r, dk_app, dk_cons, dk_nil, and_true, true_and, and_assoc]); repeat' (first | trivial | assumption | exact Dj.symm (by assumption) | exact Ne.symm (by assumption) | apply And.intro))) _ hp)⟩)⟩)⟩)⟩)) ?_
  refine lm (v := v4) rfl rfl ?_
  refine wpL_done (fun W9 hW9 => ?_)
  refine (show Code.wp _ _ _ _ _ from ?_)
  refine wp_seq ?_
  refine wp_seq ?_
  refine wp_region_L (W0 := w) ((g6, .cells (smL (totalX l)).toArray 47 (0, 0)) :: (g2, .cells (bxL bx0).toArray 26 (0, 0)) :: (g1, .cells (putR cur1 l.length exB) 26 (0, 0)) :: Kl4) (hW9) ?_
  refine lm (v := v4) rfl rfl ?_
  refine lp (v := .int .i64 ((((orderX l).length) : Nat) : Int)) rfl rfl (run_lenO (W0 := w) rfl Tryd.underlying22 (by kernel_rfl) O4) ?_
  refine lm (v := .int .i64 0) rfl rfl ?_
  refine wpL_done (fun W10 hW10 => ?_)
  refine (show Code.wp _ _ _ _ _ from ?_)
  refine wp_block ?_
  go_loopw [62] (fun u62 wr => ∃ (k : Nat) (m : List Bx) (Km : List (Nat × Obj)), (k ≤ (orderX l).length) ∧ (m.length = (orderX l).length) ∧ (OwnL w 26 9 v4 (orderX l).length (bcs m) Km) ∧ (Dk g6 Km) ∧ (Dk g2 Km) ∧ (Dk g1 Km) ∧ u62 = .int .i64 ((k : Nat) : Int) ∧ KS w ((g6, .cells (smL (totalX l)).toArray 47 (0, 0)) :: (g2, .cells (bxL bx0).toArray 26 (0, 0)) :: (g1, .cells (putR cur1 l.length exB) 26 (0, 0)) :: Km) wr) (fun u62 _ => (orderX l).length - (intOf u62).toNat)
  case atStart => exact ⟨0, (orderX l), Kl4, (Nat.zero_le _), rfl, O4, (show Dk g6 Kl4 from (by (try simp only [dj_app_l, dj_app_r, dj_cons_l, dj_cons_r, dj_nil_l, dj_nil_r, dk_app, dk_cons, dk_nil, and_true, true_and, and_assoc]); repeat' (first | trivial | assumption | exact Dj.symm (by assumption) | exact Ne.symm (by assumption) | apply And.intro))), (show Dk g2 Kl4 from (by (try simp only [dj_app_l, dj_app_r, dj_cons_l, dj_cons_r, dj_nil_l, dj_nil_r, dk_app, dk_cons, dk_nil, and_true, true_and, and_assoc]); repeat' (first | trivial | assumption | exact Dj.symm (by assumption) | exact Ne.symm (by assumption) | apply And.intro))), (show Dk g1 Kl4 from (by (try simp only [dj_app_l, dj_app_r, dj_cons_l, dj_cons_r, dj_nil_l, dj_nil_r, dk_app, dk_cons, dk_nil, and_true, true_and, and_assoc]); repeat' (first | trivial | assumption | exact Dj.symm (by assumption) | exact Ne.symm (by assumption) | apply And.intro))), rfl, (hW10.sub (fun p hp => by first | exact hp | (simp only [List.mem_cons, List.mem_append, List.nil_append, List.not_mem_nil, or_assoc, or_false, false_or] at hp ⊢ <;> grind)))⟩
  case round =>
    obtain ⟨k, m, Km, hk, hm, hO, dh8_0, dh8_1, dh8_2, rfl, hL11⟩ := hrel
    refine wp_seq ?_
    refine wp_region_L (W0 := w) ((g6, .cells (smL (totalX l)).toArray 47 (0, 0)) :: (g2, .cells (bxL bx0).toArray 26 (0, 0)) :: (g1, .cells (putR cur1 l.length exB) 26 (0, 0)) :: Km) (hL11) ?_
    refine lp (v := .bool (decide (k < ((orderX l).length)))) rfl rfl (run_bin rfl (vx := (.int .i64 ((k : Nat) : Int))) (vy := (.int .i64 ((((orderX l).length) : Nat) : Int))) (by kernel_rfl) (by kernel_rfl) fun w => bn_lss rfl w) ?_
    refine wpL_done (fun W12 hW12 => ?_)
    refine (show Code.wp _ _ _ _ _ from ?_)
    refine wp_seq ?_
    cases hd1 : (decide (k < ((orderX l).length))) with
    | false =>
      have h1 : ¬ (k < ((orderX l).length)) := of_decide_eq_false hd1
      clear hd1
      refine wp_cond_false rfl ?_
      refine wp_exit ?_
      refine (show Code.wp _ _ _ _ _ from ?_)
      refine wp_seq ?_
      refine wp_region_L (W0 := w) ((g6, .cells (smL (totalX l)).toArray 47 (0, 0)) :: (g2, .cells (bxL bx0).toArray 26 (0, 0)) :: (g1, .cells (putR cur1 l.length exB) 26 (0, 0)) :: Km) (hW12) ?_
      refine lm (v := .slice (some ⟨g1, 0, none⟩) l.length (l.length + 1)) rfl rfl ?_
      refine wpL_c (f := 27) (args := #[.slice (some ⟨g1, 0, none⟩) l.length (l.length + 1)]) (OutRL bxL w ((g6, .cells (smL (totalX l)).toArray 47 (0, 0)) :: (g2, .cells (bxL bx0).toArray 26 (0, 0)) :: (g1, .cells (putR cur1 l.length exB) 26 (0, 0)) :: Km) (orderX l)) rfl (by kernel_rfl) (fun _ => (by kernel_rfl)) (fun W hW => calls_r hW (((Order_any l (some ⟨g1, 0, none⟩) (l.length + 1) (by omega) W (R0 _ (hW.sub (fun p hp => by cases List.mem_singleton.1 hp; exact (.tail _ (.tail _ (.head _))))))).mono fun _ _ ⟨v, h1, h2, h3⟩ => ⟨v, h1, by rw [order_len]; exact h2, h3⟩))) (fun _ => by simp only [List.setIfInBounds_toArray, List.set_cons_succ, List.set_cons_zero] <;> rfl) ?_
      rintro _ _ ⟨p9, c9, Kl9, rfl, n9, R9, N9, rfl⟩
      obtain ⟨dj10_0, dj10_1, dj10_2, dj10_3⟩ : Dk g6 Kl9 ∧ Dk g2 Kl9 ∧ Dk g1 Kl9 ∧ Dj Km Kl9 := by simpa only [dj_app_l, dj_app_r, dj_cons_l, dj_cons_r, dj_nil_l, dj_nil_r, dk_app, dk_cons, dk_nil, and_true, true_and, and_assoc] using (show Dj ((g6, .cells (smL (totalX l)).toArray 47 (0, 0)) :: (g2, .cells (bxL bx0).toArray 26 (0, 0)) :: (g1, .cells (putR cur1 l.length exB) 26 (0, 0)) :: Km) Kl9 from N9)
      refine wpL_sub (K2 := ((g6, .cells (smL (totalX l)).toArray 47 (0, 0)) :: (g2, .cells (bxL bx0).toArray 26 (0, 0)) :: (g1, .cells (putR cur1 l.length exB) 26 (0, 0)) :: (Km ++ Kl9))) (fun p hp => by simp only [List.mem_cons, List.mem_append, or_assoc] at hp ⊢; exact hp) ?_
      refine lm (v := .slice p9 ((orderX l).length) c9) rfl rfl ?_
      refine wpL_done (fun W13 hW13 => ?_)
      refine (show Code.wp _ _ _ _ _ from ?_)
      refine wp_seq ?_
      refine wp_seq ?_
      refine wp_region_V (W0 := w) ((g6, .cells (smL (totalX l)).toArray 47 (0, 0)) :: (g2, .cells (bxL bx0).toArray 26 (0, 0)) :: (g1, .cells (putR cur1 l.length exB) 26 (0, 0)) :: (Km ++ Kl9)) (by kernel_rfl) (hW13) ?_
      refine vm (i := 0) (v := .slice (some ⟨g1, 0, none⟩) l.length (l.length + 1)) rfl rfl rfl ?_
      refine vm (i := 1) (v := .slice p l.length c) rfl rfl rfl ?_
      refine vv (i := 2) (v := .bool true) rfl rfl rfl (yb_call (f := 28) (args := #[.slice (some ⟨g1, 0, none⟩) l.length (l.length + 1), .slice p l.length c]) (fun _ => by kernel_rfl) fun W hW => same_is l l (some ⟨g1, 0, none⟩) p (l.length + 1) c rfl rfl (by omega) W (R0 _ (hW.sub (fun p hp => by cases List.mem_singleton.1 hp; exact (.tail _ (.tail _ (.head _)))))) ((RL.base HP.out) _ (hW.sub (fun _ h => by cases h))) rfl) ?_
      refine vm (i := 3) (v := .bool false) rfl rfl rfl ?_
      refine vm (i := 4) (v := .bool false) rfl rfl rfl ?_
      refine vm (i := 5) (v := .slice (some ⟨g1, 0, none⟩) (l.length + 1) (l.length + 1)) rfl rfl rfl ?_
      refine vm (i := 6) (v := .slice p l.length c) rfl rfl rfl ?_
      refine vp (i := 7) (v := .int .i64 ((l.length : Nat) : Int)) rfl rfl rfl (run_lenL (p := p) (cap := c) (n := l.length) rfl Tryd.underlying22 (by kernel_rfl)) ?_
      refine vp (i := 8) (v := .pointer (some ⟨g1, 0 + l.length * 9, none⟩)) rfl rfl rfl (run_idxL (j := .i64) (n := (l.length + 1)) (cap := (l.length + 1)) (b := g1) (off := 0) (k := l.length) (sz := 9) rfl Tryd.underlying22 (by kernel_rfl) (by kernel_rfl) (by kernel_rfl) (by omega)) ?_
      refine vv (i := 9) (v := .agg (bxL exB).toArray) rfl rfl rfl (yb_cells (off := 0 + l.length * 9) (cur := (putR cur1 l.length exB)) (cs := bxL exB) rfl (by kernel_rfl) (.tail _ (.tail _ (.head _))) (row_last hr2) Tryd.underlying26 rfl (by kernel_rfl)) ?_
      refine vv (i := 10) (v := .agg (bxL exB).toArray) rfl rfl rfl (yb_call (f := 13) (args := #[]) (fun _ => by kernel_rfl) fun W hW => example_any W) ?_
      refine vp (i := 11) (v := .bool false) rfl rfl rfl (run_bin rfl (vx := .agg (bxL exB).toArray) (vy := .agg (bxL exB).toArray) (by kernel_rfl) (by kernel_rfl) fun w => neq_bx (a := exB) (b := exB) (decide_eq_true rfl) w) ?_
      refine vm (i := 12) (v := .bool false) rfl rfl rfl ?_
      refine wpV_done (by kernel_rfl) (fun W14 hW14 => ?_) _
      refine (show Code.wp _ _ _ _ _ from ?_)
      refine wp_cond_false rfl ?_
      refine wp_skip ?_
      refine (show Code.wp _ _ _ _ _ from ?_)
      refine wp_seq ?_
      refine wp_region_L (W0 := w) ((g6, .cells (smL (totalX l)).toArray 47 (0, 0)) :: (g2, .cells (bxL bx0).toArray 26 (0, 0)) :: (g1, .cells (putR cur1 l.length exB) 26 (0, 0)) :: (Km ++ Kl9)) (hW14) ?_
      refine lm (v := .slice p l.length c) rfl rfl ?_
      refine lv (v := .tuple #[.int .i64 va, .int .i64 ve]) rfl rfl (yb_call (f := 32) (args := #[.slice p l.length c]) (fun _ => by kernel_rfl) fun W hW => (by have h9 := RValid_any l p c (by omega) W ((RL.base HP.out) _ (hW.sub (fun _ h => by cases h))); rw [hv] at h9; exact h9)) ?_
      refine lm (v := .tuple #[.int .i64 va, .int .i64 ve]) rfl rfl ?_
      refine lm (v := .int .i64 va) rfl rfl ?_
      refine lm (v := .int .i64 ve) rfl rfl ?_
      refine lm (v := .int .i64 va) rfl rfl ?_
      refine lm (v := .int .i64 ve) rfl rfl ?_
      refine wpL_done (fun W15 hW15 => ?_)
      refine (show Code.wp _ _ _ _ _ from ?_)
      refine wp_seq ?_
      refine wp_seq ?_
      refine wp_region_L (W0 := w) ((g6, .cells (smL (totalX l)).toArray 47 (0, 0)) :: (g2, .cells (bxL bx0).toArray 26 (0, 0)) :: (g1, .cells (putR cur1 l.length exB) 26 (0, 0)) :: (Km ++ Kl9)) (hW15) ?_
      refine lm (v := .int .i64 va) rfl rfl ?_
      refine lm (v := .int .i64 va) rfl rfl ?_
      refine lp (v := .bool false) rfl rfl (run_bin rfl (vx := (.int .i64 va)) (vy := (.int .i64 va)) (by kernel_rfl) (by kernel_rfl) fun w => bi_neq (decide_eq_true rfl) w) ?_
      refine lm (v := .bool false) rfl rfl ?_
      refine lm (v := .int .i64 ve) rfl rfl ?_
      refine lm (v := .int .i64 ve) rfl rfl ?_
      refine lp (v := .bool false) rfl rfl (run_bin rfl (vx := (.int .i64 ve)) (vy := (.int .i64 ve)) (by kernel_rfl) (by kernel_rfl) fun w => bi_neq (decide_eq_true rfl) w) ?_
      refine lm (v := .bool false) rfl rfl ?_
      refine lm (v := .bool false) rfl rfl ?_
      refine lm (v := .slice p9 ((orderX l).length) c9) rfl rfl ?_
      refine lm (v := .slice p l.length c) rfl rfl ?_
      refine wpL_c (f := 33) (args := #[.slice p l.length c]) (OutRL bxL w ((g6, .cells (smL (totalX l)).toArray 47 (0, 0)) :: (g2, .cells (bxL bx0).toArray 26 (0, 0)) :: (g1, .cells (putR cur1 l.length exB) 26 (0, 0)) :: (Km ++ Kl9)) (orderX l)) rfl (by kernel_rfl) (fun _ => (by kernel_rfl)) (fun W hW => calls_r hW (((ROrder_any l p c (by omega) W ((RL.base HP.out) _ (hW.sub (fun _ h => by cases h)))).mono fun _ _ ⟨v, h1, h2, h3⟩ => ⟨v, h1, by rw [order_len]; exact h2, h3⟩))) (fun _ => by simp only [List.setIfInBounds_toArray, List.set_cons_succ, List.set_cons_zero] <;> rfl) ?_
      rintro _ _ ⟨p11, c11, Kl11, rfl, n11, R11, N11, rfl⟩
      obtain ⟨dj12_0, dj12_1, dj12_2, dj12_3, dj12_4⟩ : Dk g6 Kl11 ∧ Dk g2 Kl11 ∧ Dk g1 Kl11 ∧ Dj Km Kl11 ∧ Dj Kl9 Kl11 := by simpa only [dj_app_l, dj_app_r, dj_cons_l, dj_cons_r, dj_nil_l, dj_nil_r, dk_app, dk_cons, dk_nil, and_true, true_and, and_assoc] using (show Dj ((g6, .cells (smL (totalX l)).toArray 47 (0, 0)) :: (g2, .cells (bxL bx0).toArray 26 (0, 0)) :: (g1, .cells (putR cur1 l.length exB) 26 (0, 0)) :: (Km ++ Kl9)) Kl11 from N11)
      refine wpL_sub (K2 := ((g6, .cells (smL (totalX l)).toArray 47 (0, 0)) :: (g2, .cells (bxL bx0).toArray 26 (0, 0)) :: (g1, .cells (putR cur1 l.length exB) 26 (0, 0)) :: (Km ++ (Kl9 ++ Kl11)))) (fun p hp => by simp only [List.mem_cons, List.mem_append, or_assoc] at hp ⊢; exact hp) ?_
      refine lv (v := .bool true) rfl rfl (yb_call (f := 28) (args := #[.slice p9 ((orderX l).length) c9, .slice p11 ((orderX l).length) c11]) (fun _ => by kernel_rfl) fun W hW => same_is (orderX l) (orderX l) p9 p11 c9 c11 rfl rfl (by omega) W (R9 _ (hW.sub (fun p hp => by simp only [List.mem_cons, List.mem_append, List.nil_append, List.not_mem_nil, or_assoc, or_false, false_or, hp, true_or, or_true]))) (R11 _ (hW.sub (fun p hp => by simp only [List.mem_cons, List.mem_append, List.nil_append, List.not_mem_nil, or_assoc, or_false, false_or, hp, true_or, or_true]))) rfl) ?_
      refine lm (v := .bool false) rfl rfl ?_
      refine lm (v := .bool false) rfl rfl ?_
      refine wpL_done (fun W16 hW16 => ?_)
      refine (show Code.wp _ _ _ _ _ from ?_)
      refine wp_cond_false rfl ?_
      refine wp_skip ?_
      refine (show Code.wp _ _ _ _ _ from ?_)
      refine wp_seq ?_
      refine wp_region_L (W0 := w) ((g6, .cells (smL (totalX l)).toArray 47 (0, 0)) :: (g2, .cells (bxL bx0).toArray 26 (0, 0)) :: (g1, .cells (putR cur1 l.length exB) 26 (0, 0)) :: (Km ++ (Kl9 ++ Kl11))) (hW16) ?_
      refine lm (v := .slice p l.length c) rfl rfl ?_
      refine lv (v := .agg (smL (totalX l)).toArray) rfl rfl (yb_call (f := 34) (args := #[.slice p l.length c]) (fun _ => by kernel_rfl) fun W hW => RTotal_any l p c (by omega) W ((RL.base HP.out) _ (hW.sub (fun _ h => by cases h)))) ?_
      refine wpL_new (fun g => .pointer (some ⟨g, 0, none⟩)) (obi := .cells #[.int .i64 0, .int .i64 0, .int .i64 0, .int .i64 0, .int .i64 0] 66 (0, 0)) rfl rfl (fun _ => by kernel_rfl) (fun _ => by simp only [List.setIfInBounds_toArray, List.set_cons_succ, List.set_cons_zero] <;> rfl) fun g13 Bg13 Fg13 => ?_
      obtain ⟨dj14_0, dj14_1, dj14_2, dj14_3, dj14_4, dj14_5⟩ : g6 ≠ g13 ∧ g2 ≠ g13 ∧ g1 ≠ g13 ∧ Dk g13 Km ∧ Dk g13 Kl9 ∧ Dk g13 Kl11 := by simpa only [dj_app_l, dj_app_r, dj_cons_l, dj_cons_r, dj_nil_l, dj_nil_r, dk_app, dk_cons, dk_nil, and_true, true_and, and_assoc] using (show Dk g13 ((g6, .cells (smL (totalX l)).toArray 47 (0, 0)) :: (g2, .cells (bxL bx0).toArray 26 (0, 0)) :: (g1, .cells (putR cur1 l.length exB) 26 (0, 0)) :: (Km ++ (Kl9 ++ Kl11))) from Fg13)
      refine wpL_s ((g13, .cells (smL (totalX l)).toArray 66 (0, 0)) :: (g6, .cells (smL (totalX l)).toArray 47 (0, 0)) :: (g2, .cells (bxL bx0).toArray 26 (0, 0)) :: (g1, .cells (putR cur1 l.length exB) 26 (0, 0)) :: (Km ++ (Kl9 ++ Kl11))) rfl rfl (st_row (off := 0) (v := .agg (smL (totalX l)).toArray) rfl (by kernel_rfl) (by kernel_rfl) (.head _) Bg13 (by kernel_rfl) (by first | (simp [Value.cells]; done) | exact Nat.le_of_ble_eq_true rfl) (fun v hv => smL_one (totalX l) v hv) (by kernel_rfl) (List.forall_mem_cons.2 ⟨.inl rfl, (List.forall_mem_cons.2 ⟨.inr ⟨(.tail _ (.head _)), (by first | assumption | exact Ne.symm (by assumption))⟩, (List.forall_mem_cons.2 ⟨.inr ⟨(.tail _ (.tail _ (.head _))), (by first | assumption | exact Ne.symm (by assumption))⟩, (List.forall_mem_cons.2 ⟨.inr ⟨(.tail _ (.tail _ (.tail _ (.head _)))), (by first | assumption | exact Ne.symm (by assumption))⟩, (fun p hp => .inr ⟨(.tail _ (.tail _ (.tail _ (.tail _ hp)))), ((show Dk g13 (Km ++ (Kl9 ++ Kl11)) from (by (try simp only [dj_app_l, dj_app_r, dj_cons_l, dj_cons_r, dj_nil_l, dj_nil_r, dk_app, dk_cons, dk_nil, and_true, true_and, and_assoc]); repeat' (first | trivial | assumption | exact Dj.symm (by assumption) | exact Ne.symm (by assumption) | apply And.intro))) _ hp)⟩)⟩)⟩)⟩)⟩)) ?_
      refine wpL_done (fun W17 hW17 => ?_)
      refine (show Code.wp _ _ _ _ _ from ?_)
      refine wp_seq ?_
      refine wp_seq ?_
      refine wp_region_L (W0 := w) ((g13, .cells (smL (totalX l)).toArray 66 (0, 0)) :: (g6, .cells (smL (totalX l)).toArray 47 (0, 0)) :: (g2, .cells (bxL bx0).toArray 26 (0, 0)) :: (g1, .cells (putR cur1 l.length exB) 26 (0, 0)) :: (Km ++ (Kl9 ++ Kl11))) (hW17) ?_
      refine lv (v := .agg (smL (totalX l)).toArray) rfl rfl (yb_load (n := 5) (off := 0) rfl (by kernel_rfl) (.tail _ (.head _)) Tryd.underlying47 rfl (by kernel_rfl) (by first | (simp [Value.cells]; done) | exact Nat.le_of_ble_eq_true rfl) (by kernel_rfl)) ?_
      refine lm (v := .pointer (some ⟨g13, 0, none⟩)) rfl rfl ?_
      refine lv (v := .int .i64 ((((totalX l).n) : Nat) : Int)) rfl rfl (yb_cell (off := 0) rfl (by kernel_rfl) (.head _) Tryd.underlying3 rfl (by kernel_rfl)) ?_
      refine lm (v := .pointer (some ⟨g13, 1, none⟩)) rfl rfl ?_
      refine lv (v := .int .i64 ((((totalX l).h) : Nat) : Int)) rfl rfl (yb_cell (off := 1) rfl (by kernel_rfl) (.head _) Tryd.underlying3 rfl (by kernel_rfl)) ?_
      refine lm (v := .pointer (some ⟨g13, 2, none⟩)) rfl rfl ?_
      refine lv (v := .int .i64 ((totalX l).k)) rfl rfl (yb_cell (off := 2) rfl (by kernel_rfl) (.head _) Tryd.underlying3 rfl (by kernel_rfl)) ?_
      refine lm (v := .pointer (some ⟨g13, 3, none⟩)) rfl rfl ?_
      refine lv (v := .int .i64 ((((totalX l).r) : Nat) : Int)) rfl rfl (yb_cell (off := 3) rfl (by kernel_rfl) (.head _) Tryd.underlying3 rfl (by kernel_rfl)) ?_
      refine lm (v := .pointer (some ⟨g13, 4, none⟩)) rfl rfl ?_
      refine lv (v := .int .i64 ((((totalX l).d) : Nat) : Int)) rfl rfl (yb_cell (off := 4) rfl (by kernel_rfl) (.head _) Tryd.underlying3 rfl (by kernel_rfl)) ?_
      refine lm (v := .agg (smL (totalX l)).toArray) rfl rfl ?_
      refine lp (v := .bool false) rfl rfl (run_bin rfl (vx := .agg (smL (totalX l)).toArray) (vy := .agg (smL (totalX l)).toArray) (by kernel_rfl) (by kernel_rfl) fun w => neq_smL w) ?_
      refine wpL_done (fun W18 hW18 => ?_)
      refine (show Code.wp _ _ _ _ _ from ?_)
      refine wp_cond_false rfl ?_
      refine wp_skip ?_
      refine (show Code.wp _ _ _ _ _ from ?_)
      refine wp_seq ?_
      refine wp_region_L (W0 := w) ((g13, .cells (smL (totalX l)).toArray 66 (0, 0)) :: (g6, .cells (smL (totalX l)).toArray 47 (0, 0)) :: (g2, .cells (bxL bx0).toArray 26 (0, 0)) :: (g1, .cells (putR cur1 l.length exB) 26 (0, 0)) :: (Km ++ (Kl9 ++ Kl11))) (hW18) ?_
      refine lm (v := .slice p l.length c) rfl rfl ?_
      refine lm (v := .int .i64 id) rfl rfl ?_
      refine lv (v := .int .i64 (-1)) rfl rfl (yb_call (f := 35) (args := #[.slice p l.length c, .int .i64 id]) (fun _ => by kernel_rfl) fun W hW => (by have h9 := RFind_any l p c id (by omega) W ((RL.base HP.out) _ (hW.sub (fun _ h => by cases h))); rw [f2] at h9; exact h9)) ?_
      refine lm (v := .slice p l.length c) rfl rfl ?_
      refine lm (v := strV n) rfl rfl ?_
      refine lv (v := .int .i64 ((j2 : Nat) : Int)) rfl rfl (yb_call (f := 36) (args := #[.slice p l.length c, strV n]) (fun _ => by kernel_rfl) fun W hW => (by have h9 := RNumbered_any l p c n (by omega) W ((RL.base HP.out) _ (hW.sub (fun _ h => by cases h))); rw [nb2] at h9; exact h9)) ?_
      refine lm (v := .int .i64 (-1)) rfl rfl ?_
      refine lm (v := .int .i64 ((j2 : Nat) : Int)) rfl rfl ?_
      refine wpL_done (fun W19 hW19 => ?_)
      refine (show Code.wp _ _ _ _ _ from ?_)
      refine wp_seq ?_
      refine wp_seq ?_
      refine wp_region_V (W0 := w) ((g13, .cells (smL (totalX l)).toArray 66 (0, 0)) :: (g6, .cells (smL (totalX l)).toArray 47 (0, 0)) :: (g2, .cells (bxL bx0).toArray 26 (0, 0)) :: (g1, .cells (putR cur1 l.length exB) 26 (0, 0)) :: (Km ++ (Kl9 ++ Kl11))) (by kernel_rfl) (hW19) ?_
      refine vm (i := 0) (v := .bool false) rfl rfl rfl ?_
      refine vm (i := 1) (v := .int .i64 (-1)) rfl rfl rfl ?_
      refine vm (i := 2) (v := .bool false) rfl rfl rfl ?_
      refine vp (i := 3) (v := .bool false) rfl rfl rfl (run_bin rfl (vx := .bool false) (vy := .bool false) (by kernel_rfl) (by kernel_rfl) fun w => bn_bool_neq rfl Tryd.underlying4 w) ?_
      refine vm (i := 4) (v := .bool false) rfl rfl rfl ?_
      refine vm (i := 5) (v := .int .i64 (-1)) rfl rfl rfl ?_
      refine vm (i := 6) (v := .bool false) rfl rfl rfl ?_
      refine vm (i := 7) (v := .bool false) rfl rfl rfl ?_
      refine vn (i := 8) rfl rfl ?_
      refine vn (i := 9) rfl rfl ?_
      refine vn (i := 10) rfl rfl ?_
      refine vn (i := 11) rfl rfl ?_
      refine vn (i := 12) rfl rfl ?_
      refine vn (i := 13) rfl rfl ?_
      refine vm (i := 14) (v := .bool false) rfl rfl rfl ?_
      refine vm (i := 15) (v := .bool false) rfl rfl rfl ?_
      refine vm (i := 16) (v := .bool false) rfl rfl rfl ?_
      refine vm (i := 17) (v := .int .i64 (-1)) rfl rfl rfl ?_
      refine vm (i := 18) (v := .bool true) rfl rfl rfl ?_
      refine vm (i := 19) (v := .bool true) rfl rfl rfl ?_
      refine vv (i := 20) (v := .agg (bxL bx0).toArray) rfl rfl rfl (yb_load (n := 9) (off := 0) rfl (by kernel_rfl) (.tail _ (.tail _ (.head _))) Tryd.underlying26 rfl (by kernel_rfl) (by first | (simp [Value.cells]; done) | exact Nat.le_of_ble_eq_true rfl) (by kernel_rfl)) ?_
      refine vm (i := 21) (v := .agg #[.int .i64 0, strV [], .int .u8 0, .bool false, .int .i64 0, .int .i64 0, .int .i64 0, .int .u8 0, .bool false]) rfl rfl rfl ?_
      refine vp (i := 22) (v := .bool false) rfl rfl rfl (run_bin rfl (vx := .agg (bxL bx0).toArray) (vy := .agg (bxL bx0).toArray) (by kernel_rfl) (by kernel_rfl) fun w => neq_bx (a := bx0) (b := bx0) (decide_eq_true rfl) w) ?_
      refine vm (i := 23) (v := .bool false) rfl rfl rfl ?_
      refine vm (i := 24) (v := .bool false) rfl rfl rfl ?_
      refine wpV_done (by kernel_rfl) (fun W20 hW20 => ?_) _
      refine (show Code.wp _ _ _ _ _ from ?_)
      refine wp_cond_false rfl ?_
      refine wp_skip ?_
      refine (show Code.wp _ _ _ _ _ from ?_)
      refine wp_seq ?_
      refine wp_region_L (W0 := w) ((g13, .cells (smL (totalX l)).toArray 66 (0, 0)) :: (g6, .cells (smL (totalX l)).toArray 47 (0, 0)) :: (g2, .cells (bxL bx0).toArray 26 (0, 0)) :: (g1, .cells (putR cur1 l.length exB) 26 (0, 0)) :: (Km ++ (Kl9 ++ Kl11))) (hW20) ?_
      refine lm (v := .bool true) rfl rfl ?_
      refine lm (v := .int .i64 ((j2 : Nat) : Int)) rfl rfl ?_
      refine lp (v := .bool true) rfl rfl (run_bin rfl (vx := (.int .i64 ((j2 : Nat) : Int))) (vy := (.int .i64 ((0 : Nat) : Int))) (by kernel_rfl) (by kernel_rfl) fun w => bn_geq (decide_eq_false (Nat.not_lt_zero _)) w) ?_
      refine lp (v := .bool true) rfl rfl (run_bin rfl (vx := .bool true) (vy := .bool true) (by kernel_rfl) (by kernel_rfl) fun w => bn_bool_eql rfl Tryd.underlying4 w) ?_
      refine lm (v := .bool true) rfl rfl ?_
      refine lm (v := .int .i64 ((j2 : Nat) : Int)) rfl rfl ?_
      refine lp (v := .bool true) rfl rfl (run_bin rfl (vx := (.int .i64 ((j2 : Nat) : Int))) (vy := (.int .i64 ((0 : Nat) : Int))) (by kernel_rfl) (by kernel_rfl) fun w => bn_geq (decide_eq_false (Nat.not_lt_zero _)) w) ?_
      refine lm (v := .bool true) rfl rfl ?_
      refine lm (v := .int .i64 b2.id) rfl rfl ?_
      refine lm (v := .slice p l.length c) rfl rfl ?_
      refine lm (v := .int .i64 ((j2 : Nat) : Int)) rfl rfl ?_
      obtain ⟨y15, g15_, f15_, hy15, hp15, hc15⟩ := RL.at (RL.base HP.out) bxL_len (by decide) (hW20.sub (fun _ h => by cases h)) (k := j2) (by omega)
      have ey15 : b2 = y15 := by rw [nb3] at hy15; exact Option.some.inj hy15
      subst ey15
      refine lp (v := .pointer (some ⟨g15_, f15_ + j2 * 9, none⟩)) rfl rfl (run_idxQ (p := p) (cap := c) (n := l.length) (j := .i64) (k := j2) (sz := 9) rfl Tryd.underlying22 (by kernel_rfl) (by kernel_rfl) hp15 (by kernel_rfl) (by omega)) ?_
      refine lm (v := .pointer (some ⟨g15_, f15_ + j2 * 9, none⟩)) rfl rfl ?_
      refine lv (v := .int .i64 b2.id) rfl rfl (yb_rf (v := .int .i64 b2.id) rfl (by kernel_rfl) (fun W hW => hc15 W (hW.sub (fun _ h => by cases h)) 0 _ rfl) Tryd.underlying3 rfl) ?_
      refine lp (v := .bool true) rfl rfl (run_bin rfl (vx := (.int .i64 b2.id)) (vy := (.int .i64 b2.id)) (by kernel_rfl) (by kernel_rfl) fun w => bi_eql (decide_eq_true rfl) w) ?_
      refine lm (v := .bool true) rfl rfl ?_
      refine lm (v := .bool true) rfl rfl ?_
      refine ln rfl ?_
      refine ln rfl ?_
      refine ln rfl ?_
      refine ln rfl ?_
      refine ln rfl ?_
      refine ln rfl ?_
      refine lm (v := .bool true) rfl rfl ?_
      refine lm (v := .bool true) rfl rfl ?_
      refine lm (v := .bool true) rfl rfl ?_
      refine wpL_done (fun W21 hW21 => ?_)
      refine (show Code.wp _ _ _ _ _ from ?_)
      refine wp_ret ?_
      try simp only [inBlock_ret, then_ret]
      refine bodyPost_ret (v := .bool true) ?_ rfl ?_
      · kernel_rfl
      · exact ⟨rfl, hW21.1⟩
    | true =>
      have h1 : k < ((orderX l).length) := of_decide_eq_true hd1
      clear hd1
      refine wp_cond_true rfl ?_
      refine wp_skip ?_
      refine (show Code.wp _ _ _ _ _ from ?_)
      refine wp_seq ?_
      refine wp_block ?_
      refine wp_seq ?_
      refine wp_region_L (W0 := w) ((g6, .cells (smL (totalX l)).toArray 47 (0, 0)) :: (g2, .cells (bxL bx0).toArray 26 (0, 0)) :: (g1, .cells (putR cur1 l.length exB) 26 (0, 0)) :: Km) (hW12) ?_
      refine lm (v := .int .i64 ((k : Nat) : Int)) rfl rfl ?_
      refine lm (v := .int .i64 ((k : Nat) : Int)) rfl rfl ?_
      refine wpL_done (fun W22 hW22 => ?_)
      refine (show Code.wp _ _ _ _ _ from ?_)
      obtain ⟨g9, cap9, cur9, rfl, hB9, hR9, hr9, rfl⟩ := own_blk hO (by omega)
      obtain ⟨bq, hbq⟩ : ∃ y, m[k]? = some y := ⟨_, List.getElem?_eq_getElem (by omega)⟩
      have hcap9 := hR9.2.2.1
      have gng6 : g9 ≠ g6 := by simpa only [dk_cons, dk_nil, and_true] using (show Dk g6 [(g9, .cells cur9 26 (0, 0))] from by assumption)
      have gng2 : g9 ≠ g2 := by simpa only [dk_cons, dk_nil, and_true] using (show Dk g2 [(g9, .cells cur9 26 (0, 0))] from by assumption)
      have gng1 : g9 ≠ g1 := by simpa only [dk_cons, dk_nil, and_true] using (show Dk g1 [(g9, .cells cur9 26 (0, 0))] from by assumption)
      refine wp_region_L (W0 := w) [(g6, .cells (smL (totalX l)).toArray 47 (0, 0)), (g2, .cells (bxL bx0).toArray 26 (0, 0)), (g1, .cells (putR cur1 l.length exB) 26 (0, 0)), (g9, .cells cur9 26 (0, 0))] (hW22) ?_
      refine lm (v := .slice (some ⟨g9, 0, none⟩) (orderX l).length cap9) rfl rfl ?_
      refine lm (v := .int .i64 ((k : Nat) : Int)) rfl rfl ?_
      refine lp (v := .pointer (some ⟨g9, 0 + k * 9, none⟩)) rfl rfl (run_idxL (j := .i64) (n := (orderX l).length) (cap := cap9) (b := g9) (off := 0) (k := k) (sz := 9) rfl Tryd.underlying22 (by kernel_rfl) (by kernel_rfl) (by kernel_rfl) (by omega)) ?_
      refine lm (v := .pointer (some ⟨g9, 0 + k * 9 + 4, none⟩)) rfl rfl ?_
      refine lv (v := .int .i64 bq.kilos) rfl rfl (yb_cell (off := 0 + k * 9 + 4) (v := .int .i64 bq.kilos) rfl (by kernel_rfl) (.tail _ (.tail _ (.tail _ (.head _)))) Tryd.underlying3 rfl (RowR.get hr9 bxL_len hbq 4 _ rfl)) ?_
      refine lp (v := .int .i64 (IntKind.i64.wrap (bq.kilos + 1))) rfl rfl (run_bin rfl (vx := .int .i64 bq.kilos) (vy := .int .i64 1) (by kernel_rfl) (by kernel_rfl) fun w => bw_add (z := (IntKind.i64.wrap (bq.kilos + 1))) rfl w) ?_
      refine lp (v := .pointer (some ⟨g9, 0 + k * 9, none⟩)) rfl rfl (run_idxL (j := .i64) (n := (orderX l).length) (cap := cap9) (b := g9) (off := 0) (k := k) (sz := 9) rfl Tryd.underlying22 (by kernel_rfl) (by kernel_rfl) (by kernel_rfl) (by omega)) ?_
      refine lm (v := .pointer (some ⟨g9, 0 + k * 9 + 4, none⟩)) rfl rfl ?_
      refine wpL_s [(g6, .cells (smL (totalX l)).toArray 47 (0, 0)), (g2, .cells (bxL bx0).toArray 26 (0, 0)), (g1, .cells (putR cur1 l.length exB) 26 (0, 0)), (g9, .cells (cur9.setIfInBounds (0 + k * 9 + 4) (.int .i64 (IntKind.i64.wrap (bq.kilos + 1)))) 26 (0, 0))] rfl rfl (st_at (off := 0 + k * 9 + 4) (v := .int .i64 (IntKind.i64.wrap (bq.kilos + 1))) rfl (by kernel_rfl) (by kernel_rfl) (.tail _ (.tail _ (.tail _ (.head _)))) hB9 (by kernel_rfl) rfl rfl (by rw [hR9.1]; have h9 := hR9.2.2.1; omega) (.inr rfl) (List.forall_mem_cons.2 ⟨.inr ⟨(.head _), (by first | assumption | exact Ne.symm (by assumption))⟩, (List.forall_mem_cons.2 ⟨.inr ⟨(.tail _ (.head _)), (by first | assumption | exact Ne.symm (by assumption))⟩, (List.forall_mem_cons.2 ⟨.inr ⟨(.tail _ (.tail _ (.head _))), (by first | assumption | exact Ne.symm (by assumption))⟩, (List.forall_mem_cons.2 ⟨.inl rfl, (List.forall_mem_nil _)⟩)⟩)⟩)⟩)) ?_
      refine wpL_done (fun W23 hW23 => ?_)
      refine (show Code.wp _ _ _ _ _ from ?_)
      refine wp_region_L (W0 := w) [(g6, .cells (smL (totalX l)).toArray 47 (0, 0)), (g2, .cells (bxL bx0).toArray 26 (0, 0)), (g1, .cells (putR cur1 l.length exB) 26 (0, 0)), (g9, .cells (cur9.setIfInBounds (0 + k * 9 + 4) (.int .i64 (IntKind.i64.wrap (bq.kilos + 1)))) 26 (0, 0))] (hW23) ?_
      refine lp (v := .int .i64 (((k + 1) : Nat) : Int)) rfl rfl (run_bin rfl (vx := (.int .i64 ((k : Nat) : Int))) (vy := (.int .i64 ((1 : Nat) : Int))) (by kernel_rfl) (by kernel_rfl) fun w => bn_add (z := (k + 1)) rfl (wr_i64 (by omega)) w) ?_
      refine lm (v := .int .i64 (((k + 1) : Nat) : Int)) rfl rfl ?_
      refine wpL_done (fun W24 hW24 => ?_)
      go_roundw
      case rel =>
        repeat apply Exists.intro
        exact ⟨⟨k + 1, (m.set k { bq with kilos := (IntKind.i64.wrap (bq.kilos + 1)) }), [(g9, .cells (cur9.setIfInBounds (0 + k * 9 + 4) (.int .i64 (IntKind.i64.wrap (bq.kilos + 1)))) 26 (0, 0))], (by omega), (by rw [List.length_set]; omega), (blk_own hB9 hR9 hbq rfl), (show Dk g6 [(g9, .cells (cur9.setIfInBounds (0 + k * 9 + 4) (.int .i64 (IntKind.i64.wrap (bq.kilos + 1)))) 26 (0, 0))] from (by (try simp only [dj_app_l, dj_app_r, dj_cons_l, dj_cons_r, dj_nil_l, dj_nil_r, dk_app, dk_cons, dk_nil, and_true, true_and, and_assoc]); repeat' (first | trivial | assumption | exact Dj.symm (by assumption) | exact Ne.symm (by assumption) | apply And.intro))), (show Dk g2 [(g9, .cells (cur9.setIfInBounds (0 + k * 9 + 4) (.int .i64 (IntKind.i64.wrap (bq.kilos + 1)))) 26 (0, 0))] from (by (try simp only [dj_app_l, dj_app_r, dj_cons_l, dj_cons_r, dj_nil_l, dj_nil_r, dk_app, dk_cons, dk_nil, and_true, true_and, and_assoc]); repeat' (first | trivial | assumption | exact Dj.symm (by assumption) | exact Ne.symm (by assumption) | apply And.intro))), (show Dk g1 [(g9, .cells (cur9.setIfInBounds (0 + k * 9 + 4) (.int .i64 (IntKind.i64.wrap (bq.kilos + 1)))) 26 (0, 0))] from (by (try simp only [dj_app_l, dj_app_r, dj_cons_l, dj_cons_r, dj_nil_l, dj_nil_r, dk_app, dk_cons, dk_nil, and_true, true_and, and_assoc]); repeat' (first | trivial | assumption | exact Dj.symm (by assumption) | exact Ne.symm (by assumption) | apply And.intro))), rfl, (hW24.sub (fun p hp => by first | exact hp | (simp only [List.mem_cons, List.mem_append, List.nil_append, List.not_mem_nil, or_assoc, or_false, false_or] at hp ⊢ <;> grind)))⟩, rfl⟩
      case measure => (show (orderX l).length - (intOf (.int .i64 (((k + 1) : Nat) : Int))).toNat < (orderX l).length - (intOf (.int .i64 ((k : Nat) : Int))).toNat); simp only [intOf]; omega
set_option maxRecDepth 100000 in
set_option maxHeartbeats 4000000 in
theorem lists_10 (l : List Bx) (p : Option Addr) (c : Nat) (id : Int) (n : List UInt8) (hl : l.length ≤ 300) (b1 : Bx) (j1 : Nat) (f1 : findX l id = some b1) (f2 : idxFrom (idIs id) 0 l = ((j1 : Nat) : Int)) (f3 : l[j1]? = some b1) (nb1 : l.find? (numP n) = none) (nb2 : idxFrom (numP n) 0 l = -1) (w : World) (hp : SLV w p (bcs l)) : Calls Tryd.prog 11 #[.slice p l.length c, .int .i64 id, strV n] w fun e w' => e = .returned (.bool true) ∧ Below w.heap.size w w' := by
  have HP := Lib.hid hp
  clear hp
  obtain ⟨va, ve, hv, hv0, hv1⟩ := valid_two l
  have hol : (orderX l).length = l.length := order_len l
  have hj1 : j1 < l.length := (List.getElem?_eq_some_iff.1 f3).1
  go_enter Tryd.func11, Tryd.ntmps11
  refine wp_seq ?_
  refine wp_region_L (W0 := w) [] (KS.start w) ?_
  refine lm (v := .bool false) rfl rfl ?_
  refine wpL_done (fun W1 hW1 => ?_)
  refine (show Code.wp _ _ _ _ _ from ?_)
  refine wp_seq ?_
  refine wp_region_L (W0 := w) [] (hW1) ?_
  refine lm (v := .slice p l.length c) rfl rfl ?_
  refine lp (v := .int .i64 ((l.length : Nat) : Int)) rfl rfl (run_lenL (p := p) (cap := c) (n := l.length) rfl Tryd.underlying22 (by kernel_rfl)) ?_
  refine lp (v := .int .i64 (((l.length + 1) : Nat) : Int)) rfl rfl (run_bin rfl (vx := (.int .i64 ((l.length : Nat) : Int))) (vy := (.int .i64 ((1 : Nat) : Int))) (by kernel_rfl) (by kernel_rfl) fun w => bn_add (z := (l.length + 1)) rfl (wr_i64 (by omega)) w) ?_
  refine wpL_new (fun g => .slice (some ⟨g, 0, none⟩) (l.length + 1) (l.length + 1)) (obi := .cells (bcs (List.replicate (l.length + 1) bx0)).toArray 26 (0, 0)) rfl rfl (run_mkb (n := (l.length + 1)) (b := 64) rfl Tryd.underlying22 (by kernel_rfl) (by decide) (by kernel_rfl) (by kernel_rfl) (by omega)) (fun _ => by simp only [List.setIfInBounds_toArray, List.set_cons_succ, List.set_cons_zero] <;> rfl) fun g1 Bg1 Fg1 => ?_
  refine lm (v := .slice (some ⟨g1, 0, none⟩) (l.length + 1) (l.length + 1)) rfl rfl ?_
  refine wpL_done (fun W2 hW2 => ?_)
  refine (show Code.wp _ _ _ _ _ from ?_)
  refine wp_seq ?_
  refine wp_region_L (W0 := w) [(g1, .cells (bcs (List.replicate (l.length + 1) bx0)).toArray 26 (0, 0))] (hW2) ?_
  refine lm (v := .slice (some ⟨g1, 0, none⟩) (l.length + 1) (l.length + 1)) rfl rfl ?_
  refine lm (v := .slice p l.length c) rfl rfl ?_
  refine wpL_g (CopyB 26 g1 [] (l ++ (List.replicate (l.length + 1) bx0).drop l.length) l.length) rfl rfl (copy_all (m := l.length + 1) (dc := l.length + 1) (p := p) (sc := c) (r := List.replicate (l.length + 1) bx0) rfl Tryd.underlying22 (by kernel_rfl) (by kernel_rfl) (by kernel_rfl) (.head _) Bg1 (row_lit _) (by simp) (by omega) (fun W hW => ((RL.base HP.out) _ (hW.sub (fun _ h => by cases h)))) (fun _ h => by cases h)) (fun _ => by simp only [List.setIfInBounds_toArray, List.set_cons_succ, List.set_cons_zero] <;> rfl) ?_
  rintro _ _ ⟨rfl, cur1, hr1, rfl⟩
  rw [rep_last] at hr1
  refine wpL_done (fun W3 hW3 => ?_)
  refine (show Code.wp _ _ _ _ _ from ?_)
  refine wp_seq ?_
  refine wp_region_L (W0 := w) [(g1, .cells cur1 26 (0, 0))] (hW3) ?_
  refine lm (v := .slice (some ⟨g1, 0, none⟩) (l.length + 1) (l.length + 1)) rfl rfl ?_
  refine lm (v := .slice p l.length c) rfl rfl ?_
  refine lp (v := .int .i64 ((l.length : Nat) : Int)) rfl rfl (run_lenL (p := p) (cap := c) (n := l.length) rfl Tryd.underlying22 (by kernel_rfl)) ?_
  refine lv (v := .agg (bxL exB).toArray) rfl rfl (yb_call (f := 13) (args := #[]) (fun _ => by kernel_rfl) fun W hW => example_any W) ?_
  refine lp (v := .pointer (some ⟨g1, 0 + l.length * 9, none⟩)) rfl rfl (run_idxL (j := .i64) (n := (l.length + 1)) (cap := (l.length + 1)) (b := g1) (off := 0) (k := l.length) (sz := 9) rfl Tryd.underlying22 (by kernel_rfl) (by kernel_rfl) (by kernel_rfl) (by omega)) ?_
  refine wpL_s [(g1, .cells (putR cur1 l.length exB) 26 (0, 0))] rfl rfl (st_rec (b := exB) rfl (by kernel_rfl) (by kernel_rfl) (.head _) Bg1 (by kernel_rfl) hr1 (by simp) (List.forall_mem_cons.2 ⟨.inl rfl, (List.forall_mem_nil _)⟩)) ?_
  have hr2 := row_put exB hr1
  refine wpL_done (fun W4 hW4 => ?_)
  refine (show Code.wp _ _ _ _ _ from ?_)
  refine wp_seq ?_
  refine wp_region_L (W0 := w) [(g1, .cells (putR cur1 l.length exB) 26 (0, 0))] (hW4) ?_
  refine lm (v := .slice (some ⟨g1, 0, none⟩) (l.length + 1) (l.length + 1)) rfl rfl ?_
  refine lm (v := .slice p l.length c) rfl rfl ?_
  refine lp (v := .int .i64 ((l.length : Nat) : Int)) rfl rfl (run_lenL (p := p) (cap := c) (n := l.length) rfl Tryd.underlying22 (by kernel_rfl)) ?_
  have R0 : RL bxL w (some ⟨g1, 0, none⟩) l [(g1, .cells (putR cur1 l.length exB) 26 (0, 0))] := row_rl hr2
  refine lp (v := .slice (some ⟨g1, 0, none⟩) l.length (l.length + 1)) rfl rfl (run_slt (kd := .i64) (j := l.length) (n := (l.length + 1)) (c := (l.length + 1)) (sz := 9) rfl Tryd.underlying22 (by kernel_rfl) (by kernel_rfl) (by kernel_rfl) (by omega)) ?_
  refine lm (v := .slice (some ⟨g1, 0, none⟩) l.length (l.length + 1)) rfl rfl ?_
  refine wpL_done (fun W5 hW5 => ?_)
  refine (show Code.wp _ _ _ _ _ from ?_)
  refine wp_seq ?_
  refine wp_region_L (W0 := w) [(g1, .cells (putR cur1 l.length exB) 26 (0, 0))] (hW5) ?_
  refine lm (v := .slice (some ⟨g1, 0, none⟩) l.length (l.length + 1)) rfl rfl ?_
  refine lv (v := .tuple #[.int .i64 va, .int .i64 ve]) rfl rfl (yb_call (f := 29) (args := #[.slice (some ⟨g1, 0, none⟩) l.length (l.length + 1)]) (fun _ => by kernel_rfl) fun W hW => (by have h9 := Valid_any l (some ⟨g1, 0, none⟩) (l.length + 1) (by omega) W (R0 _ (hW.sub (fun p hp => by cases List.mem_singleton.1 hp; exact (.head _)))); rw [hv] at h9; exact h9)) ?_
  refine lm (v := .tuple #[.int .i64 va, .int .i64 ve]) rfl rfl ?_
  refine lm (v := .int .i64 va) rfl rfl ?_
  refine lm (v := .int .i64 ve) rfl rfl ?_
  refine lm (v := .int .i64 va) rfl rfl ?_
  refine lm (v := .int .i64 ve) rfl rfl ?_
  refine wpL_done (fun W6 hW6 => ?_)
  refine (show Code.wp _ _ _ _ _ from ?_)
  refine wp_seq ?_
  refine wp_region_L (W0 := w) [(g1, .cells (putR cur1 l.length exB) 26 (0, 0))] (hW6) ?_
  refine lm (v := .slice (some ⟨g1, 0, none⟩) l.length (l.length + 1)) rfl rfl ?_
  refine lm (v := .int .i64 id) rfl rfl ?_
  refine lv (v := .tuple #[.agg (bxL b1).toArray, .bool true]) rfl rfl (yb_call (f := 30) (args := #[.slice (some ⟨g1, 0, none⟩) l.length (l.length + 1), .int .i64 id]) (fun _ => by kernel_rfl) fun W hW => (by have h9 := Find_any l (some ⟨g1, 0, none⟩) (l.length + 1) id (by omega) W (R0 _ (hW.sub (fun p hp => by cases List.mem_singleton.1 hp; exact (.head _)))); rw [f1] at h9; exact h9)) ?_
  refine lm (v := .tuple #[.agg (bxL b1).toArray, .bool true]) rfl rfl ?_
  refine lm (v := .agg (bxL b1).toArray) rfl rfl ?_
  refine lm (v := .bool true) rfl rfl ?_
  refine wpL_new (fun g => .pointer (some ⟨g, 0, none⟩)) (obi := .cells #[.int .i64 0, strV [], .int .u8 0, .bool false, .int .i64 0, .int .i64 0, .int .i64 0, .int .u8 0, .bool false] 26 (0, 0)) rfl rfl (fun _ => by kernel_rfl) (fun _ => by simp only [List.setIfInBounds_toArray, List.set_cons_succ, List.set_cons_zero] <;> rfl) fun g2 Bg2 Fg2 => ?_
  obtain dj3_0 : g1 ≠ g2 := by simpa only [dj_app_l, dj_app_r, dj_cons_l, dj_cons_r, dj_nil_l, dj_nil_r, dk_app, dk_cons, dk_nil, and_true, true_and, and_assoc] using (show Dk g2 [(g1, .cells (putR cur1 l.length exB) 26 (0, 0))] from Fg2)
  refine wpL_s [(g2, .cells (bxL b1).toArray 26 (0, 0)), (g1, .cells (putR cur1 l.length exB) 26 (0, 0))] rfl rfl (st_row (off := 0) (v := .agg (bxL b1).toArray) rfl (by kernel_rfl) (by kernel_rfl) (.head _) Bg2 (by kernel_rfl) (by first | (simp [Value.cells]; done) | exact Nat.le_of_ble_eq_true rfl) (fun v hv => bxL_one b1 v hv) (by kernel_rfl) (List.forall_mem_cons.2 ⟨.inl rfl, (List.forall_mem_cons.2 ⟨.inr ⟨(.tail _ (.head _)), (by first | assumption | exact Ne.symm (by assumption))⟩, (List.forall_mem_nil _)⟩)⟩)) ?_
  refine lm (v := .bool true) rfl rfl ?_
  refine wpL_done (fun W7 hW7 => ?_)
  refine (show Code.wp _ _ _ _ _ from ?_)
  refine wp_seq ?_
  refine wp_region_L (W0 := w) [(g2, .cells (bxL b1).toArray 26 (0, 0)), (g1, .cells (putR cur1 l.length exB) 26 (0, 0))] (hW7) ?_
  refine lm (v := .slice (some ⟨g1, 0, none⟩) l.length (l.length + 1)) rfl rfl ?_
  refine lm (v := strV n) rfl rfl ?_
  refine lv (v := .tuple #[.int .i64 0, .bool false]) rfl rfl (yb_call (f := 31) (args := #[.slice (some ⟨g1, 0, none⟩) l.length (l.length + 1), strV n]) (fun _ => by kernel_rfl) fun W hW => (by have h9 := Numbered_any l (some ⟨g1, 0, none⟩) (l.length + 1) n (by omega) W (R0 _ (hW.sub (fun p hp => by cases List.mem_singleton.1 hp; exact (.tail _ (.head _))))); rw [numbered_p, nb1] at h9; exact h9)) ?_
  refine lm (v := .tuple #[.int .i64 0, .bool false]) rfl rfl ?_
  refine lm (v := .int .i64 0) rfl rfl ?_
  refine lm (v := .bool false) rfl rfl ?_
  refine lm (v := .int .i64 0) rfl rfl ?_
  refine lm (v := .bool false) rfl rfl ?_
  refine wpL_done (fun W8 hW8 => ?_)
  refine (show Code.wp _ _ _ _ _ from ?_)
  refine wp_seq ?_
  refine wp_region_L (W0 := w) [(g2, .cells (bxL b1).toArray 26 (0, 0)), (g1, .cells (putR cur1 l.length exB) 26 (0, 0))] (hW8) ?_
  refine lm (v := .slice (some ⟨g1, 0, none⟩) l.length (l.length + 1)) rfl rfl ?_
  refine lv (v := .agg (smL (totalX l)).toArray) rfl rfl (yb_call (f := 26) (args := #[.slice (some ⟨g1, 0, none⟩) l.length (l.length + 1)]) (fun _ => by kernel_rfl) fun W hW => Total_any l (some ⟨g1, 0, none⟩) (l.length + 1) (by omega) W (R0 _ (hW.sub (fun p hp => by cases List.mem_singleton.1 hp; exact (.tail _ (.head _)))))) ?_
  refine lm (v := .slice (some ⟨g1, 0, none⟩) l.length (l.length + 1)) rfl rfl ?_
  refine wpL_c (f := 27) (args := #[.slice (some ⟨g1, 0, none⟩) l.length (l.length + 1)]) (OutOL w [(g2, .cells (bxL b1).toArray 26 (0, 0)), (g1, .cells (putR cur1 l.length exB) 26 (0, 0))] 26 9 (orderX l).length ((orderX l).flatMap bxL)) rfl (by kernel_rfl) (fun _ => (by kernel_rfl)) (fun W hW => calls_o hW (((Order_any l (some ⟨g1, 0, none⟩) (l.length + 1) (by omega) W (R0 _ (hW.sub (fun p hp => by cases List.mem_singleton.1 hp; exact (.tail _ (.head _)))))).mono fun _ _ ⟨v, h1, h2, h3⟩ => ⟨v, h1, by rw [order_len]; exact h2, h3⟩))) (fun _ => by simp only [List.setIfInBounds_toArray, List.set_cons_succ, List.set_cons_zero] <;> rfl) ?_
  rintro v4 _ ⟨Kl4, O4, N4, rfl⟩
  obtain ⟨dj5_0, dj5_1⟩ : Dk g2 Kl4 ∧ Dk g1 Kl4 := by simpa only [dj_app_l, dj_app_r, dj_cons_l, dj_cons_r, dj_nil_l, dj_nil_r, dk_app, dk_cons, dk_nil, and_true, true_and, and_assoc] using (show Dj [(g2, .cells (bxL b1).toArray 26 (0, 0)), (g1, .cells (putR cur1 l.length exB) 26 (0, 0))] Kl4 from N4)
  refine wpL_new (fun g => .pointer (some ⟨g, 0, none⟩)) (obi := .cells #[.int .i64 0, .int .i64 0, .int .i64 0, .int .i64 0, .int .i64 0] 47 (0, 0)) rfl rfl (fun _ => by kernel_rfl) (fun _ => by simp only [List.setIfInBounds_toArray, List.set_cons_succ, List.set_cons_zero] <;> rfl) fun g6 Bg6 Fg6 => ?_
  obtain ⟨dj7_0, dj7_1, dj7_2⟩ : g2 ≠ g6 ∧ g1 ≠ g6 ∧ Dk g6 Kl4 := by simpa only [dj_app_l, dj_app_r, dj_cons_l, dj_cons_r, dj_nil_l, dj_nil_r, dk_app, dk_cons, dk_nil, and_true, true_and, and_assoc] using (show Dk g6 ((g2, .cells (bxL b1).toArray 26 (0, 0)) :: (g1, .cells (putR cur1 l.length exB) 26 (0, 0)) :: Kl4) from Fg6)
  refine wpL_s ((g6, .cells (smL (totalX l)).toArray 47 (0, 0)) :: (g2, .cells (bxL b1).toArray 26 (0, 0)) :: (g1, .cells (putR cur1 l.length exB) 26 (0, 0)) :: Kl4) rfl rfl (st_row (off := 0) (v := .agg (smL (totalX l)).toArray) rfl (by kernel_rfl) (by kernel_rfl) (.head _) Bg6 (by kernel_rfl) (by first | (simp [Value.cells]; done) | exact Nat.le_of_ble_eq_true rfl) (fun v hv => smL_one (totalX l) v hv) (by kernel_rfl) (List.forall_mem_cons.2 ⟨.inl rfl, (List.forall_mem_cons.2 ⟨.inr ⟨(.tail _ (.head _)), (by first | assumption | exact Ne.symm (by assumption))⟩, (List.forall_mem_cons.2 ⟨.inr ⟨(.tail _ (.tail _ (.head _))), (by first | assumption | exact Ne.symm (by assumption))⟩, (fun p hp => .inr ⟨(.tail _ (.tail _ (.tail _ hp))), ((show Dk g6 Kl4 from (by (try simp only [dj_app_l, dj_app_r, dj_cons_l, dj_cons_r, dj_nil_l, dj_nil_r, dk_app, dk_cons, dk_nil, and_true, true_and, and_assoc]); repeat' (first | trivial | assumption | exact Dj.symm (by assumption) | exact Ne.symm (by assumption) | apply And.intro))) _ hp)⟩)⟩)⟩)⟩)) ?_
  refine lm (v := v4) rfl rfl ?_
  refine wpL_done (fun W9 hW9 => ?_)
  refine (show Code.wp _ _ _ _ _ from ?_)
  refine wp_seq ?_
  refine wp_seq ?_
  refine wp_region_L (W0 := w) ((g6, .cells (smL (totalX l)).toArray 47 (0, 0)) :: (g2, .cells (bxL b1).toArray 26 (0, 0)) :: (g1, .cells (putR cur1 l.length exB) 26 (0, 0)) :: Kl4) (hW9) ?_
  refine lm (v := v4) rfl rfl ?_
  refine lp (v := .int .i64 ((((orderX l).length) : Nat) : Int)) rfl rfl (run_lenO (W0 := w) rfl Tryd.underlying22 (by kernel_rfl) O4) ?_
  refine lm (v := .int .i64 0) rfl rfl ?_
  refine wpL_done (fun W10 hW10 => ?_)
  refine (show Code.wp _ _ _ _ _ from ?_)
  refine wp_block ?_
  go_loopw [62] (fun u62 wr => ∃ (k : Nat) (m : List Bx) (Km : List (Nat × Obj)), (k ≤ (orderX l).length) ∧ (m.length = (orderX l).length) ∧ (OwnL w 26 9 v4 (orderX l).length (bcs m) Km) ∧ (Dk g6 Km) ∧ (Dk g2 Km) ∧ (Dk g1 Km) ∧ u62 = .int .i64 ((k : Nat) : Int) ∧ KS w ((g6, .cells (smL (totalX l)).toArray 47 (0, 0)) :: (g2, .cells (bxL b1).toArray 26 (0, 0)) :: (g1, .cells (putR cur1 l.length exB) 26 (0, 0)) :: Km) wr) (fun u62 _ => (orderX l).length - (intOf u62).toNat)
  case atStart => exact ⟨0, (orderX l), Kl4, (Nat.zero_le _), rfl, O4, (show Dk g6 Kl4 from (by (try simp only [dj_app_l, dj_app_r, dj_cons_l, dj_cons_r, dj_nil_l, dj_nil_r, dk_app, dk_cons, dk_nil, and_true, true_and, and_assoc]); repeat' (first | trivial | assumption | exact Dj.symm (by assumption) | exact Ne.symm (by assumption) | apply And.intro))), (show Dk g2 Kl4 from (by (try simp only [dj_app_l, dj_app_r, dj_cons_l, dj_cons_r, dj_nil_l, dj_nil_r, dk_app, dk_cons, dk_nil, and_true, true_and, and_assoc]); repeat' (first | trivial | assumption | exact Dj.symm (by assumption) | exact Ne.symm (by assumption) | apply And.intro))), (show Dk g1 Kl4 from (by (try simp only [dj_app_l, dj_app_r, dj_cons_l, dj_cons_r, dj_nil_l, dj_nil_r, dk_app, dk_cons, dk_nil, and_true, true_and, and_assoc]); repeat' (first | trivial | assumption | exact Dj.symm (by assumption) | exact Ne.symm (by assumption) | apply And.intro))), rfl, (hW10.sub (fun p hp => by first | exact hp | (simp only [List.mem_cons, List.mem_append, List.nil_append, List.not_mem_nil, or_assoc, or_false, false_or] at hp ⊢ <;> grind)))⟩
  case round =>
    obtain ⟨k, m, Km, hk, hm, hO, dh8_0, dh8_1, dh8_2, rfl, hL11⟩ := hrel
    refine wp_seq ?_
    refine wp_region_L (W0 := w) ((g6, .cells (smL (totalX l)).toArray 47 (0, 0)) :: (g2, .cells (bxL b1).toArray 26 (0, 0)) :: (g1, .cells (putR cur1 l.length exB) 26 (0, 0)) :: Km) (hL11) ?_
    refine lp (v := .bool (decide (k < ((orderX l).length)))) rfl rfl (run_bin rfl (vx := (.int .i64 ((k : Nat) : Int))) (vy := (.int .i64 ((((orderX l).length) : Nat) : Int))) (by kernel_rfl) (by kernel_rfl) fun w => bn_lss rfl w) ?_
    refine wpL_done (fun W12 hW12 => ?_)
    refine (show Code.wp _ _ _ _ _ from ?_)
    refine wp_seq ?_
    cases hd1 : (decide (k < ((orderX l).length))) with
    | false =>
      have h1 : ¬ (k < ((orderX l).length)) := of_decide_eq_false hd1
      clear hd1
      refine wp_cond_false rfl ?_
      refine wp_exit ?_
      refine (show Code.wp _ _ _ _ _ from ?_)
      refine wp_seq ?_
      refine wp_region_L (W0 := w) ((g6, .cells (smL (totalX l)).toArray 47 (0, 0)) :: (g2, .cells (bxL b1).toArray 26 (0, 0)) :: (g1, .cells (putR cur1 l.length exB) 26 (0, 0)) :: Km) (hW12) ?_
      refine lm (v := .slice (some ⟨g1, 0, none⟩) l.length (l.length + 1)) rfl rfl ?_
      refine wpL_c (f := 27) (args := #[.slice (some ⟨g1, 0, none⟩) l.length (l.length + 1)]) (OutRL bxL w ((g6, .cells (smL (totalX l)).toArray 47 (0, 0)) :: (g2, .cells (bxL b1).toArray 26 (0, 0)) :: (g1, .cells (putR cur1 l.length exB) 26 (0, 0)) :: Km) (orderX l)) rfl (by kernel_rfl) (fun _ => (by kernel_rfl)) (fun W hW => calls_r hW (((Order_any l (some ⟨g1, 0, none⟩) (l.length + 1) (by omega) W (R0 _ (hW.sub (fun p hp => by cases List.mem_singleton.1 hp; exact (.tail _ (.tail _ (.head _))))))).mono fun _ _ ⟨v, h1, h2, h3⟩ => ⟨v, h1, by rw [order_len]; exact h2, h3⟩))) (fun _ => by simp only [List.setIfInBounds_toArray, List.set_cons_succ, List.set_cons_zero] <;> rfl) ?_
      rintro _ _ ⟨p9, c9, Kl9, rfl, n9, R9, N9, rfl⟩
      obtain ⟨dj10_0, dj10_1, dj10_2, dj10_3⟩ : Dk g6 Kl9 ∧ Dk g2 Kl9 ∧ Dk g1 Kl9 ∧ Dj Km Kl9 := by simpa only [dj_app_l, dj_app_r, dj_cons_l, dj_cons_r, dj_nil_l, dj_nil_r, dk_app, dk_cons, dk_nil, and_true, true_and, and_assoc] using (show Dj ((g6, .cells (smL (totalX l)).toArray 47 (0, 0)) :: (g2, .cells (bxL b1).toArray 26 (0, 0)) :: (g1, .cells (putR cur1 l.length exB) 26 (0, 0)) :: Km) Kl9 from N9)
      refine wpL_sub (K2 := ((g6, .cells (smL (totalX l)).toArray 47 (0, 0)) :: (g2, .cells (bxL b1).toArray 26 (0, 0)) :: (g1, .cells (putR cur1 l.length exB) 26 (0, 0)) :: (Km ++ Kl9))) (fun p hp => by simp only [List.mem_cons, List.mem_append, or_assoc] at hp ⊢; exact hp) ?_
      refine lm (v := .slice p9 ((orderX l).length) c9) rfl rfl ?_
      refine wpL_done (fun W13 hW13 => ?_)
      refine (show Code.wp _ _ _ _ _ from ?_)
      refine wp_seq ?_
      refine wp_seq ?_
      refine wp_region_V (W0 := w) ((g6, .cells (smL (totalX l)).toArray 47 (0, 0)) :: (g2, .cells (bxL b1).toArray 26 (0, 0)) :: (g1, .cells (putR cur1 l.length exB) 26 (0, 0)) :: (Km ++ Kl9)) (by kernel_rfl) (hW13) ?_
      refine vm (i := 0) (v := .slice (some ⟨g1, 0, none⟩) l.length (l.length + 1)) rfl rfl rfl ?_
      refine vm (i := 1) (v := .slice p l.length c) rfl rfl rfl ?_
      refine vv (i := 2) (v := .bool true) rfl rfl rfl (yb_call (f := 28) (args := #[.slice (some ⟨g1, 0, none⟩) l.length (l.length + 1), .slice p l.length c]) (fun _ => by kernel_rfl) fun W hW => same_is l l (some ⟨g1, 0, none⟩) p (l.length + 1) c rfl rfl (by omega) W (R0 _ (hW.sub (fun p hp => by cases List.mem_singleton.1 hp; exact (.tail _ (.tail _ (.head _)))))) ((RL.base HP.out) _ (hW.sub (fun _ h => by cases h))) rfl) ?_
      refine vm (i := 3) (v := .bool false) rfl rfl rfl ?_
      refine vm (i := 4) (v := .bool false) rfl rfl rfl ?_
      refine vm (i := 5) (v := .slice (some ⟨g1, 0, none⟩) (l.length + 1) (l.length + 1)) rfl rfl rfl ?_
      refine vm (i := 6) (v := .slice p l.length c) rfl rfl rfl ?_
      refine vp (i := 7) (v := .int .i64 ((l.length : Nat) : Int)) rfl rfl rfl (run_lenL (p := p) (cap := c) (n := l.length) rfl Tryd.underlying22 (by kernel_rfl)) ?_
      refine vp (i := 8) (v := .pointer (some ⟨g1, 0 + l.length * 9, none⟩)) rfl rfl rfl (run_idxL (j := .i64) (n := (l.length + 1)) (cap := (l.length + 1)) (b := g1) (off := 0) (k := l.length) (sz := 9) rfl Tryd.underlying22 (by kernel_rfl) (by kernel_rfl) (by kernel_rfl) (by omega)) ?_
      refine vv (i := 9) (v := .agg (bxL exB).toArray) rfl rfl rfl (yb_cells (off := 0 + l.length * 9) (cur := (putR cur1 l.length exB)) (cs := bxL exB) rfl (by kernel_rfl) (.tail _ (.tail _ (.head _))) (row_last hr2) Tryd.underlying26 rfl (by kernel_rfl)) ?_
      refine vv (i := 10) (v := .agg (bxL exB).toArray) rfl rfl rfl (yb_call (f := 13) (args := #[]) (fun _ => by kernel_rfl) fun W hW => example_any W) ?_
      refine vp (i := 11) (v := .bool false) rfl rfl rfl (run_bin rfl (vx := .agg (bxL exB).toArray) (vy := .agg (bxL exB).toArray) (by kernel_rfl) (by kernel_rfl) fun w => neq_bx (a := exB) (b := exB) (decide_eq_true rfl) w) ?_
      refine vm (i := 12) (v := .bool false) rfl rfl rfl ?_
      refine wpV_done (by kernel_rfl) (fun W14 hW14 => ?_) _
      refine (show Code.wp _ _ _ _ _ from ?_)
      refine wp_cond_false rfl ?_
      refine wp_skip ?_
      refine (show Code.wp _ _ _ _ _ from ?_)
      refine wp_seq ?_
      refine wp_region_L (W0 := w) ((g6, .cells (smL (totalX l)).toArray 47 (0, 0)) :: (g2, .cells (bxL b1).toArray 26 (0, 0)) :: (g1, .cells (putR cur1 l.length exB) 26 (0, 0)) :: (Km ++ Kl9)) (hW14) ?_
      refine lm (v := .slice p l.length c) rfl rfl ?_
      refine lv (v := .tuple #[.int .i64 va, .int .i64 ve]) rfl rfl (yb_call (f := 32) (args := #[.slice p l.length c]) (fun _ => by kernel_rfl) fun W hW => (by have h9 := RValid_any l p c (by omega) W ((RL.base HP.out) _ (hW.sub (fun _ h => by cases h))); rw [hv] at h9; exact h9)) ?_
      refine lm (v := .tuple #[.int .i64 va, .int .i64 ve]) rfl rfl ?_
      refine lm (v := .int .i64 va) rfl rfl ?_
      refine lm (v := .int .i64 ve) rfl rfl ?_
      refine lm (v := .int .i64 va) rfl rfl ?_
      refine lm (v := .int .i64 ve) rfl rfl ?_
      refine wpL_done (fun W15 hW15 => ?_)
      refine (show Code.wp _ _ _ _ _ from ?_)
      refine wp_seq ?_
      refine wp_seq ?_
      refine wp_region_L (W0 := w) ((g6, .cells (smL (totalX l)).toArray 47 (0, 0)) :: (g2, .cells (bxL b1).toArray 26 (0, 0)) :: (g1, .cells (putR cur1 l.length exB) 26 (0, 0)) :: (Km ++ Kl9)) (hW15) ?_
      refine lm (v := .int .i64 va) rfl rfl ?_
      refine lm (v := .int .i64 va) rfl rfl ?_
      refine lp (v := .bool false) rfl rfl (run_bin rfl (vx := (.int .i64 va)) (vy := (.int .i64 va)) (by kernel_rfl) (by kernel_rfl) fun w => bi_neq (decide_eq_true rfl) w) ?_
      refine lm (v := .bool false) rfl rfl ?_
      refine lm (v := .int .i64 ve) rfl rfl ?_
      refine lm (v := .int .i64 ve) rfl rfl ?_
      refine lp (v := .bool false) rfl rfl (run_bin rfl (vx := (.int .i64 ve)) (vy := (.int .i64 ve)) (by kernel_rfl) (by kernel_rfl) fun w => bi_neq (decide_eq_true rfl) w) ?_
      refine lm (v := .bool false) rfl rfl ?_
      refine lm (v := .bool false) rfl rfl ?_
      refine lm (v := .slice p9 ((orderX l).length) c9) rfl rfl ?_
      refine lm (v := .slice p l.length c) rfl rfl ?_
      refine wpL_c (f := 33) (args := #[.slice p l.length c]) (OutRL bxL w ((g6, .cells (smL (totalX l)).toArray 47 (0, 0)) :: (g2, .cells (bxL b1).toArray 26 (0, 0)) :: (g1, .cells (putR cur1 l.length exB) 26 (0, 0)) :: (Km ++ Kl9)) (orderX l)) rfl (by kernel_rfl) (fun _ => (by kernel_rfl)) (fun W hW => calls_r hW (((ROrder_any l p c (by omega) W ((RL.base HP.out) _ (hW.sub (fun _ h => by cases h)))).mono fun _ _ ⟨v, h1, h2, h3⟩ => ⟨v, h1, by rw [order_len]; exact h2, h3⟩))) (fun _ => by simp only [List.setIfInBounds_toArray, List.set_cons_succ, List.set_cons_zero] <;> rfl) ?_
      rintro _ _ ⟨p11, c11, Kl11, rfl, n11, R11, N11, rfl⟩
      obtain ⟨dj12_0, dj12_1, dj12_2, dj12_3, dj12_4⟩ : Dk g6 Kl11 ∧ Dk g2 Kl11 ∧ Dk g1 Kl11 ∧ Dj Km Kl11 ∧ Dj Kl9 Kl11 := by simpa only [dj_app_l, dj_app_r, dj_cons_l, dj_cons_r, dj_nil_l, dj_nil_r, dk_app, dk_cons, dk_nil, and_true, true_and, and_assoc] using (show Dj ((g6, .cells (smL (totalX l)).toArray 47 (0, 0)) :: (g2, .cells (bxL b1).toArray 26 (0, 0)) :: (g1, .cells (putR cur1 l.length exB) 26 (0, 0)) :: (Km ++ Kl9)) Kl11 from N11)
      refine wpL_sub (K2 := ((g6, .cells (smL (totalX l)).toArray 47 (0, 0)) :: (g2, .cells (bxL b1).toArray 26 (0, 0)) :: (g1, .cells (putR cur1 l.length exB) 26 (0, 0)) :: (Km ++ (Kl9 ++ Kl11)))) (fun p hp => by simp only [List.mem_cons, List.mem_append, or_assoc] at hp ⊢; exact hp) ?_
      refine lv (v := .bool true) rfl rfl (yb_call (f := 28) (args := #[.slice p9 ((orderX l).length) c9, .slice p11 ((orderX l).length) c11]) (fun _ => by kernel_rfl) fun W hW => same_is (orderX l) (orderX l) p9 p11 c9 c11 rfl rfl (by omega) W (R9 _ (hW.sub (fun p hp => by simp only [List.mem_cons, List.mem_append, List.nil_append, List.not_mem_nil, or_assoc, or_false, false_or, hp, true_or, or_true]))) (R11 _ (hW.sub (fun p hp => by simp only [List.mem_cons, List.mem_append, List.nil_append, List.not_mem_nil, or_assoc, or_false, false_or, hp, true_or, or_true]))) rfl) ?_
      refine lm (v := .bool false) rfl rfl ?_
      refine lm (v := .bool false) rfl rfl ?_
      refine wpL_done (fun W16 hW16 => ?_)
      refine (show Code.wp _ _ _ _ _ from ?_)
      refine wp_cond_false rfl ?_
      refine wp_skip ?_
      refine (show Code.wp _ _ _ _ _ from ?_)
      refine wp_seq ?_
      refine wp_region_L (W0 := w) ((g6, .cells (smL (totalX l)).toArray 47 (0, 0)) :: (g2, .cells (bxL b1).toArray 26 (0, 0)) :: (g1, .cells (putR cur1 l.length exB) 26 (0, 0)) :: (Km ++ (Kl9 ++ Kl11))) (hW16) ?_
      refine lm (v := .slice p l.length c) rfl rfl ?_
      refine lv (v := .agg (smL (totalX l)).toArray) rfl rfl (yb_call (f := 34) (args := #[.slice p l.length c]) (fun _ => by kernel_rfl) fun W hW => RTotal_any l p c (by omega) W ((RL.base HP.out) _ (hW.sub (fun _ h => by cases h)))) ?_
      refine wpL_new (fun g => .pointer (some ⟨g, 0, none⟩)) (obi := .cells #[.int .i64 0, .int .i64 0, .int .i64 0, .int .i64 0, .int .i64 0] 66 (0, 0)) rfl rfl (fun _ => by kernel_rfl) (fun _ => by simp only [List.setIfInBounds_toArray, List.set_cons_succ, List.set_cons_zero] <;> rfl) fun g13 Bg13 Fg13 => ?_
      obtain ⟨dj14_0, dj14_1, dj14_2, dj14_3, dj14_4, dj14_5⟩ : g6 ≠ g13 ∧ g2 ≠ g13 ∧ g1 ≠ g13 ∧ Dk g13 Km ∧ Dk g13 Kl9 ∧ Dk g13 Kl11 := by simpa only [dj_app_l, dj_app_r, dj_cons_l, dj_cons_r, dj_nil_l, dj_nil_r, dk_app, dk_cons, dk_nil, and_true, true_and, and_assoc] using (show Dk g13 ((g6, .cells (smL (totalX l)).toArray 47 (0, 0)) :: (g2, .cells (bxL b1).toArray 26 (0, 0)) :: (g1, .cells (putR cur1 l.length exB) 26 (0, 0)) :: (Km ++ (Kl9 ++ Kl11))) from Fg13)
      refine wpL_s ((g13, .cells (smL (totalX l)).toArray 66 (0, 0)) :: (g6, .cells (smL (totalX l)).toArray 47 (0, 0)) :: (g2, .cells (bxL b1).toArray 26 (0, 0)) :: (g1, .cells (putR cur1 l.length exB) 26 (0, 0)) :: (Km ++ (Kl9 ++ Kl11))) rfl rfl (st_row (off := 0) (v := .agg (smL (totalX l)).toArray) rfl (by kernel_rfl) (by kernel_rfl) (.head _) Bg13 (by kernel_rfl) (by first | (simp [Value.cells]; done) | exact Nat.le_of_ble_eq_true rfl) (fun v hv => smL_one (totalX l) v hv) (by kernel_rfl) (List.forall_mem_cons.2 ⟨.inl rfl, (List.forall_mem_cons.2 ⟨.inr ⟨(.tail _ (.head _)), (by first | assumption | exact Ne.symm (by assumption))⟩, (List.forall_mem_cons.2 ⟨.inr ⟨(.tail _ (.tail _ (.head _))), (by first | assumption | exact Ne.symm (by assumption))⟩, (List.forall_mem_cons.2 ⟨.inr ⟨(.tail _ (.tail _ (.tail _ (.head _)))), (by first | assumption | exact Ne.symm (by assumption))⟩, (fun p hp => .inr ⟨(.tail _ (.tail _ (.tail _ (.tail _ hp)))), ((show Dk g13 (Km ++ (Kl9 ++ Kl11)) from (by (try simp only [dj_app_l, dj_app_r, dj_cons_l, dj_cons_r, dj_nil_l, dj_nil_r, dk_app, dk_cons, dk_nil, and_true, true_and, and_assoc]); repeat' (first | trivial | assumption | exact Dj.symm (by assumption) | exact Ne.symm (by assumption) | apply And.intro))) _ hp)⟩)⟩)⟩)⟩)⟩)) ?_
      refine wpL_done (fun W17 hW17 => ?_)
      refine (show Code.wp _ _ _ _ _ from ?_)
      refine wp_seq ?_
      refine wp_seq ?_
      refine wp_region_L (W0 := w) ((g13, .cells (smL (totalX l)).toArray 66 (0, 0)) :: (g6, .cells (smL (totalX l)).toArray 47 (0, 0)) :: (g2, .cells (bxL b1).toArray 26 (0, 0)) :: (g1, .cells (putR cur1 l.length exB) 26 (0, 0)) :: (Km ++ (Kl9 ++ Kl11))) (hW17) ?_
      refine lv (v := .agg (smL (totalX l)).toArray) rfl rfl (yb_load (n := 5) (off := 0) rfl (by kernel_rfl) (.tail _ (.head _)) Tryd.underlying47 rfl (by kernel_rfl) (by first | (simp [Value.cells]; done) | exact Nat.le_of_ble_eq_true rfl) (by kernel_rfl)) ?_
      refine lm (v := .pointer (some ⟨g13, 0, none⟩)) rfl rfl ?_
      refine lv (v := .int .i64 ((((totalX l).n) : Nat) : Int)) rfl rfl (yb_cell (off := 0) rfl (by kernel_rfl) (.head _) Tryd.underlying3 rfl (by kernel_rfl)) ?_
      refine lm (v := .pointer (some ⟨g13, 1, none⟩)) rfl rfl ?_
      refine lv (v := .int .i64 ((((totalX l).h) : Nat) : Int)) rfl rfl (yb_cell (off := 1) rfl (by kernel_rfl) (.head _) Tryd.underlying3 rfl (by kernel_rfl)) ?_
      refine lm (v := .pointer (some ⟨g13, 2, none⟩)) rfl rfl ?_
      refine lv (v := .int .i64 ((totalX l).k)) rfl rfl (yb_cell (off := 2) rfl (by kernel_rfl) (.head _) Tryd.underlying3 rfl (by kernel_rfl)) ?_
      refine lm (v := .pointer (some ⟨g13, 3, none⟩)) rfl rfl ?_
      refine lv (v := .int .i64 ((((totalX l).r) : Nat) : Int)) rfl rfl (yb_cell (off := 3) rfl (by kernel_rfl) (.head _) Tryd.underlying3 rfl (by kernel_rfl)) ?_
      refine lm (v := .pointer (some ⟨g13, 4, none⟩)) rfl rfl ?_
      refine lv (v := .int .i64 ((((totalX l).d) : Nat) : Int)) rfl rfl (yb_cell (off := 4) rfl (by kernel_rfl) (.head _) Tryd.underlying3 rfl (by kernel_rfl)) ?_
      refine lm (v := .agg (smL (totalX l)).toArray) rfl rfl ?_
      refine lp (v := .bool false) rfl rfl (run_bin rfl (vx := .agg (smL (totalX l)).toArray) (vy := .agg (smL (totalX l)).toArray) (by kernel_rfl) (by kernel_rfl) fun w => neq_smL w) ?_
      refine wpL_done (fun W18 hW18 => ?_)
      refine (show Code.wp _ _ _ _ _ from ?_)
      refine wp_cond_false rfl ?_
      refine wp_skip ?_
      refine (show Code.wp _ _ _ _ _ from ?_)
      refine wp_seq ?_
      refine wp_region_L (W0 := w) ((g13, .cells (smL (totalX l)).toArray 66 (0, 0)) :: (g6, .cells (smL (totalX l)).toArray 47 (0, 0)) :: (g2, .cells (bxL b1).toArray 26 (0, 0)) :: (g1, .cells (putR cur1 l.length exB) 26 (0, 0)) :: (Km ++ (Kl9 ++ Kl11))) (hW18) ?_
      refine lm (v := .slice p l.length c) rfl rfl ?_
      refine lm (v := .int .i64 id) rfl rfl ?_
      refine lv (v := .int .i64 ((j1 : Nat) : Int)) rfl rfl (yb_call (f := 35) (args := #[.slice p l.length c, .int .i64 id]) (fun _ => by kernel_rfl) fun W hW => (by have h9 := RFind_any l p c id (by omega) W ((RL.base HP.out) _ (hW.sub (fun _ h => by cases h))); rw [f2] at h9; exact h9)) ?_
      refine lm (v := .slice p l.length c) rfl rfl ?_
      refine lm (v := strV n) rfl rfl ?_
      refine lv (v := .int .i64 (-1)) rfl rfl (yb_call (f := 36) (args := #[.slice p l.length c, strV n]) (fun _ => by kernel_rfl) fun W hW => (by have h9 := RNumbered_any l p c n (by omega) W ((RL.base HP.out) _ (hW.sub (fun _ h => by cases h))); rw [nb2] at h9; exact h9)) ?_
      refine lm (v := .int .i64 ((j1 : Nat) : Int)) rfl rfl ?_
      refine lm (v := .int .i64 (-1)) rfl rfl ?_
      refine wpL_done (fun W19 hW19 => ?_)
      refine (show Code.wp _ _ _ _ _ from ?_)
      refine wp_seq ?_
      refine wp_seq ?_
      refine wp_region_V (W0 := w) ((g13, .cells (smL (totalX l)).toArray 66 (0, 0)) :: (g6, .cells (smL (totalX l)).toArray 47 (0, 0)) :: (g2, .cells (bxL b1).toArray 26 (0, 0)) :: (g1, .cells (putR cur1 l.length exB) 26 (0, 0)) :: (Km ++ (Kl9 ++ Kl11))) (by kernel_rfl) (hW19) ?_
      refine vm (i := 0) (v := .bool true) rfl rfl rfl ?_
      refine vm (i := 1) (v := .int .i64 ((j1 : Nat) : Int)) rfl rfl rfl ?_
      refine vp (i := 2) (v := .bool true) rfl rfl rfl (run_bin rfl (vx := (.int .i64 ((j1 : Nat) : Int))) (vy := (.int .i64 ((0 : Nat) : Int))) (by kernel_rfl) (by kernel_rfl) fun w => bn_geq (decide_eq_false (Nat.not_lt_zero _)) w) ?_
      refine vp (i := 3) (v := .bool false) rfl rfl rfl (run_bin rfl (vx := .bool true) (vy := .bool true) (by kernel_rfl) (by kernel_rfl) fun w => bn_bool_neq rfl Tryd.underlying4 w) ?_
      refine vm (i := 4) (v := .bool false) rfl rfl rfl ?_
      refine vm (i := 5) (v := .int .i64 ((j1 : Nat) : Int)) rfl rfl rfl ?_
      refine vp (i := 6) (v := .bool true) rfl rfl rfl (run_bin rfl (vx := (.int .i64 ((j1 : Nat) : Int))) (vy := (.int .i64 ((0 : Nat) : Int))) (by kernel_rfl) (by kernel_rfl) fun w => bn_geq (decide_eq_false (Nat.not_lt_zero _)) w) ?_
      refine vm (i := 7) (v := .bool true) rfl rfl rfl ?_
      refine vv (i := 8) (v := .agg (bxL b1).toArray) rfl rfl rfl (yb_load (n := 9) (off := 0) rfl (by kernel_rfl) (.tail _ (.tail _ (.head _))) Tryd.underlying26 rfl (by kernel_rfl) (by first | (simp [Value.cells]; done) | exact Nat.le_of_ble_eq_true rfl) (by kernel_rfl)) ?_
      refine vm (i := 9) (v := .slice p l.length c) rfl rfl rfl ?_
      refine vm (i := 10) (v := .int .i64 ((j1 : Nat) : Int)) rfl rfl rfl ?_
      obtain ⟨y15, g15_, f15_, hy15, hp15, hc15⟩ := RL.at (RL.base HP.out) bxL_len (by decide) (hW19.sub (fun _ h => by cases h)) (k := j1) (by omega)
      have ey15 : b1 = y15 := by rw [f3] at hy15; exact Option.some.inj hy15
      subst ey15
      refine vp (i := 11) (v := .pointer (some ⟨g15_, f15_ + j1 * 9, none⟩)) rfl rfl rfl (run_idxQ (p := p) (cap := c) (n := l.length) (j := .i64) (k := j1) (sz := 9) rfl Tryd.underlying22 (by kernel_rfl) (by kernel_rfl) hp15 (by kernel_rfl) (by omega)) ?_
      refine vb (i := 12) (v := .agg (bxL b1).toArray) rfl rfl rfl (yb_rs (off := f15_ + j1 * 9) (cs := bxL b1) rfl (by kernel_rfl) (fun W hW => hc15 W (hW.sub (fun _ h => by cases h))) Tryd.underlying26 rfl (by kernel_rfl)) ?_
      refine vp (i := 13) (v := .bool false) rfl rfl rfl (run_bin rfl (vx := .agg (bxL b1).toArray) (vy := .agg (bxL b1).toArray) (by kernel_rfl) (by kernel_rfl) fun w => neq_bx (a := b1) (b := b1) (decide_eq_true rfl) w) ?_
      refine vm (i := 14) (v := .bool false) rfl rfl rfl ?_
      refine vm (i := 15) (v := .bool false) rfl rfl rfl ?_
      refine vm (i := 16) (v := .bool false) rfl rfl rfl ?_
      refine vm (i := 17) (v := .int .i64 ((j1 : Nat) : Int)) rfl rfl rfl ?_
      refine vp (i := 18) (v := .bool false) rfl rfl rfl (run_bin rfl (vx := (.int .i64 ((j1 : Nat) : Int))) (vy := (.int .i64 ((0 : Nat) : Int))) (by kernel_rfl) (by kernel_rfl) fun w => bn_lss (decide_eq_false (Nat.not_lt_zero _)) w) ?_
      refine vm (i := 19) (v := .bool false) rfl rfl rfl ?_
      refine vn (i := 20) rfl rfl ?_
      refine vn (i := 21) rfl rfl ?_
      refine vn (i := 22) rfl rfl ?_
      refine vm (i := 23) (v := .bool false) rfl rfl rfl ?_
      refine vm (i := 24) (v := .bool false) rfl rfl rfl ?_
      refine wpV_done (by kernel_rfl) (fun W20 hW20 => ?_) _
      refine (show Code.wp _ _ _ _ _ from ?_)
      refine wp_cond_false rfl ?_
      refine wp_skip ?_
      refine (show Code.wp _ _ _ _ _ from ?_)
      refine wp_seq ?_
      refine wp_region_L (W0 := w) ((g13, .cells (smL (totalX l)).toArray 66 (0, 0)) :: (g6, .cells (smL (totalX l)).toArray 47 (0, 0)) :: (g2, .cells (bxL b1).toArray 26 (0, 0)) :: (g1, .cells (putR cur1 l.length exB) 26 (0, 0)) :: (Km ++ (Kl9 ++ Kl11))) (hW20) ?_
      refine lm (v := .bool false) rfl rfl ?_
      refine lm (v := .int .i64 (-1)) rfl rfl ?_
      refine lm (v := .bool false) rfl rfl ?_
      refine lp (v := .bool true) rfl rfl (run_bin rfl (vx := .bool false) (vy := .bool false) (by kernel_rfl) (by kernel_rfl) fun w => bn_bool_eql rfl Tryd.underlying4 w) ?_
      refine lm (v := .bool true) rfl rfl ?_
      refine lm (v := .int .i64 (-1)) rfl rfl ?_
      refine lm (v := .bool false) rfl rfl ?_
      refine lm (v := .bool false) rfl rfl ?_
      refine ln rfl ?_
      refine ln rfl ?_
      refine ln rfl ?_
      refine ln rfl ?_
      refine ln rfl ?_
      refine ln rfl ?_
      refine ln rfl ?_
      refine lm (v := .bool false) rfl rfl ?_
      refine lm (v := .bool false) rfl rfl ?_
      refine lm (v := .int .i64 (-1)) rfl rfl ?_
      refine lm (v := .bool true) rfl rfl ?_
      refine lm (v := .bool true) rfl rfl ?_
      refine lm (v := .int .i64 0) rfl rfl ?_
      refine lm (v := .bool true) rfl rfl ?_
      refine lm (v := .bool true) rfl rfl ?_
      refine lm (v := .bool true) rfl rfl ?_
      refine lm (v := .bool true) rfl rfl ?_
      refine lm (v := .bool true) rfl rfl ?_
      refine wpL_done (fun W21 hW21 => ?_)
      refine (show Code.wp _ _ _ _ _ from ?_)
      refine wp_ret ?_
      try simp only [inBlock_ret, then_ret]
      refine bodyPost_ret (v := .bool true) ?_ rfl ?_
      · kernel_rfl
      · exact ⟨rfl, hW21.1⟩
    | true =>
      have h1 : k < ((orderX l).length) := of_decide_eq_true hd1
      clear hd1
      refine wp_cond_true rfl ?_
      refine wp_skip ?_
      refine (show Code.wp _ _ _ _ _ from ?_)
      refine wp_seq ?_
      refine wp_block ?_
      refine wp_seq ?_
      refine wp_region_L (W0 := w) ((g6, .cells (smL (totalX l)).toArray 47 (0, 0)) :: (g2, .cells (bxL b1).toArray 26 (0, 0)) :: (g1, .cells (putR cur1 l.length exB) 26 (0, 0)) :: Km) (hW12) ?_
      refine lm (v := .int .i64 ((k : Nat) : Int)) rfl rfl ?_
      refine lm (v := .int .i64 ((k : Nat) : Int)) rfl rfl ?_
      refine wpL_done (fun W22 hW22 => ?_)
      refine (show Code.wp _ _ _ _ _ from ?_)
      obtain ⟨g9, cap9, cur9, rfl, hB9, hR9, hr9, rfl⟩ := own_blk hO (by omega)
      obtain ⟨bq, hbq⟩ : ∃ y, m[k]? = some y := ⟨_, List.getElem?_eq_getElem (by omega)⟩
      have hcap9 := hR9.2.2.1
      have gng6 : g9 ≠ g6 := by simpa only [dk_cons, dk_nil, and_true] using (show Dk g6 [(g9, .cells cur9 26 (0, 0))] from by assumption)
      have gng2 : g9 ≠ g2 := by simpa only [dk_cons, dk_nil, and_true] using (show Dk g2 [(g9, .cells cur9 26 (0, 0))] from by assumption)
      have gng1 : g9 ≠ g1 := by simpa only [dk_cons, dk_nil, and_true] using (show Dk g1 [(g9, .cells cur9 26 (0, 0))] from by assumption)
      refine wp_region_L (W0 := w) [(g6, .cells (smL (totalX l)).toArray 47 (0, 0)), (g2, .cells (bxL b1).toArray 26 (0, 0)), (g1, .cells (putR cur1 l.length exB) 26 (0, 0)), (g9, .cells cur9 26 (0, 0))] (hW22) ?_
      refine lm (v := .slice (some ⟨g9, 0, none⟩) (orderX l).length cap9) rfl rfl ?_
      refine lm (v := .int .i64 ((k : Nat) : Int)) rfl rfl ?_
      refine lp (v := .pointer (some ⟨g9, 0 + k * 9, none⟩)) rfl rfl (run_idxL (j := .i64) (n := (orderX l).length) (cap := cap9) (b := g9) (off := 0) (k := k) (sz := 9) rfl Tryd.underlying22 (by kernel_rfl) (by kernel_rfl) (by kernel_rfl) (by omega)) ?_
      refine lm (v := .pointer (some ⟨g9, 0 + k * 9 + 4, none⟩)) rfl rfl ?_
      refine lv (v := .int .i64 bq.kilos) rfl rfl (yb_cell (off := 0 + k * 9 + 4) (v := .int .i64 bq.kilos) rfl (by kernel_rfl) (.tail _ (.tail _ (.tail _ (.head _)))) Tryd.underlying3 rfl (RowR.get hr9 bxL_len hbq 4 _ rfl)) ?_
      refine lp (v := .int .i64 (IntKind.i64.wrap (bq.kilos + 1))) rfl rfl (run_bin rfl (vx := .int .i64 bq.kilos) (vy := .int .i64 1) (by kernel_rfl) (by kernel_rfl) fun w => bw_add (z := (IntKind.i64.wrap (bq.kilos + 1))) rfl w) ?_
      refine lp (v := .pointer (some ⟨g9, 0 + k * 9, none⟩)) rfl rfl (run_idxL (j := .i64) (n := (orderX l).length) (cap := cap9) (b := g9) (off := 0) (k := k) (sz := 9) rfl Tryd.underlying22 (by kernel_rfl) (by kernel_rfl) (by kernel_rfl) (by omega)) ?_
      refine lm (v := .pointer (some ⟨g9, 0 + k * 9 + 4, none⟩)) rfl rfl ?_
      refine wpL_s [(g6, .cells (smL (totalX l)).toArray 47 (0, 0)), (g2, .cells (bxL b1).toArray 26 (0, 0)), (g1, .cells (putR cur1 l.length exB) 26 (0, 0)), (g9, .cells (cur9.setIfInBounds (0 + k * 9 + 4) (.int .i64 (IntKind.i64.wrap (bq.kilos + 1)))) 26 (0, 0))] rfl rfl (st_at (off := 0 + k * 9 + 4) (v := .int .i64 (IntKind.i64.wrap (bq.kilos + 1))) rfl (by kernel_rfl) (by kernel_rfl) (.tail _ (.tail _ (.tail _ (.head _)))) hB9 (by kernel_rfl) rfl rfl (by rw [hR9.1]; have h9 := hR9.2.2.1; omega) (.inr rfl) (List.forall_mem_cons.2 ⟨.inr ⟨(.head _), (by first | assumption | exact Ne.symm (by assumption))⟩, (List.forall_mem_cons.2 ⟨.inr ⟨(.tail _ (.head _)), (by first | assumption | exact Ne.symm (by assumption))⟩, (List.forall_mem_cons.2 ⟨.inr ⟨(.tail _ (.tail _ (.head _))), (by first | assumption | exact Ne.symm (by assumption))⟩, (List.forall_mem_cons.2 ⟨.inl rfl, (List.forall_mem_nil _)⟩)⟩)⟩)⟩)) ?_
      refine wpL_done (fun W23 hW23 => ?_)
      refine (show Code.wp _ _ _ _ _ from ?_)
      refine wp_region_L (W0 := w) [(g6, .cells (smL (totalX l)).toArray 47 (0, 0)), (g2, .cells (bxL b1).toArray 26 (0, 0)), (g1, .cells (putR cur1 l.length exB) 26 (0, 0)), (g9, .cells (cur9.setIfInBounds (0 + k * 9 + 4) (.int .i64 (IntKind.i64.wrap (bq.kilos + 1)))) 26 (0, 0))] (hW23) ?_
      refine lp (v := .int .i64 (((k + 1) : Nat) : Int)) rfl rfl (run_bin rfl (vx := (.int .i64 ((k : Nat) : Int))) (vy := (.int .i64 ((1 : Nat) : Int))) (by kernel_rfl) (by kernel_rfl) fun w => bn_add (z := (k + 1)) rfl (wr_i64 (by omega)) w) ?_
      refine lm (v := .int .i64 (((k + 1) : Nat) : Int)) rfl rfl ?_
      refine wpL_done (fun W24 hW24 => ?_)
      go_roundw
      case rel =>
        repeat apply Exists.intro
        exact ⟨⟨k + 1, (m.set k { bq with kilos := (IntKind.i64.wrap (bq.kilos + 1)) }), [(g9, .cells (cur9.setIfInBounds (0 + k * 9 + 4) (.int .i64 (IntKind.i64.wrap (bq.kilos + 1)))) 26 (0, 0))], (by omega), (by rw [List.length_set]; omega), (blk_own hB9 hR9 hbq rfl), (show Dk g6 [(g9, .cells (cur9.setIfInBounds (0 + k * 9 + 4) (.int .i64 (IntKind.i64.wrap (bq.kilos + 1)))) 26 (0, 0))] from (by (try simp only [dj_app_l, dj_app_r, dj_cons_l, dj_cons_r, dj_nil_l, dj_nil_r, dk_app, dk_cons, dk_nil, and_true, true_and, and_assoc]); repeat' (first | trivial | assumption | exact Dj.symm (by assumption) | exact Ne.symm (by assumption) | apply And.intro))), (show Dk g2 [(g9, .cells (cur9.setIfInBounds (0 + k * 9 + 4) (.int .i64 (IntKind.i64.wrap (bq.kilos + 1)))) 26 (0, 0))] from (by (try simp only [dj_app_l, dj_app_r, dj_cons_l, dj_cons_r, dj_nil_l, dj_nil_r, dk_app, dk_cons, dk_nil, and_true, true_and, and_assoc]); repeat' (first | trivial | assumption | exact Dj.symm (by assumption) | exact Ne.symm (by assumption) | apply And.intro))), (show Dk g1 [(g9, .cells (cur9.setIfInBounds (0 + k * 9 + 4) (.int .i64 (IntKind.i64.wrap (bq.kilos + 1)))) 26 (0, 0))] from (by (try simp only [dj_app_l, dj_app_r, dj_cons_l, dj_cons_r, dj_nil_l, dj_nil_r, dk_app, dk_cons, dk_nil, and_true, true_and, and_assoc]); repeat' (first | trivial | assumption | exact Dj.symm (by assumption) | exact Ne.symm (by assumption) | apply And.intro))), rfl, (hW24.sub (fun p hp => by first | exact hp | (simp only [List.mem_cons, List.mem_append, List.nil_append, List.not_mem_nil, or_assoc, or_false, false_or] at hp ⊢ <;> grind)))⟩, rfl⟩
      case measure => (show (orderX l).length - (intOf (.int .i64 (((k + 1) : Nat) : Int))).toNat < (orderX l).length - (intOf (.int .i64 ((k : Nat) : Int))).toNat); simp only [intOf]; omega
set_option maxRecDepth 100000 in
set_option maxHeartbeats 4000000 in
theorem lists_11 (l : List Bx) (p : Option Addr) (c : Nat) (id : Int) (n : List UInt8) (hl : l.length ≤ 300) (b1 : Bx) (j1 : Nat) (f1 : findX l id = some b1) (f2 : idxFrom (idIs id) 0 l = ((j1 : Nat) : Int)) (f3 : l[j1]? = some b1) (b2 : Bx) (j2 : Nat) (nb1 : l.find? (numP n) = some b2) (nb2 : idxFrom (numP n) 0 l = ((j2 : Nat) : Int)) (nb3 : l[j2]? = some b2) (w : World) (hp : SLV w p (bcs l)) : Calls Tryd.prog 11 #[.slice p l.length c, .int .i64 id, strV n] w fun e w' => e = .returned (.bool true) ∧ Below w.heap.size w w' := by
  have HP := Lib.hid hp
  clear hp
  obtain ⟨va, ve, hv, hv0, hv1⟩ := valid_two l
  have hol : (orderX l).length = l.length := order_len l
  have hj1 : j1 < l.length := (List.getElem?_eq_some_iff.1 f3).1
  have hj2 : j2 < l.length := (List.getElem?_eq_some_iff.1 nb3).1
  go_enter Tryd.func11, Tryd.ntmps11
  refine wp_seq ?_
  refine wp_region_L (W0 := w) [] (KS.start w) ?_
  refine lm (v := .bool false) rfl rfl ?_
  refine wpL_done (fun W1 hW1 => ?_)
  refine (show Code.wp _ _ _ _ _ from ?_)
  refine wp_seq ?_
  refine wp_region_L (W0 := w) [] (hW1) ?_
  refine lm (v := .slice p l.length c) rfl rfl ?_
  refine lp (v := .int .i64 ((l.length : Nat) : Int)) rfl rfl (run_lenL (p := p) (cap := c) (n := l.length) rfl Tryd.underlying22 (by kernel_rfl)) ?_
  refine lp (v := .int .i64 (((l.length + 1) : Nat) : Int)) rfl rfl (run_bin rfl (vx := (.int .i64 ((l.length : Nat) : Int))) (vy := (.int .i64 ((1 : Nat) : Int))) (by kernel_rfl) (by kernel_rfl) fun w => bn_add (z := (l.length + 1)) rfl (wr_i64 (by omega)) w) ?_
  refine wpL_new (fun g => .slice (some ⟨g, 0, none⟩) (l.length + 1) (l.length + 1)) (obi := .cells (bcs (List.replicate (l.length + 1) bx0)).toArray 26 (0, 0)) rfl rfl (run_mkb (n := (l.length + 1)) (b := 64) rfl Tryd.underlying22 (by kernel_rfl) (by decide) (by kernel_rfl) (by kernel_rfl) (by omega)) (fun _ => by simp only [List.setIfInBounds_toArray, List.set_cons_succ, List.set_cons_zero] <;> rfl) fun g1 Bg1 Fg1 => ?_
  refine lm (v := .slice (some ⟨g1, 0, none⟩) (l.length + 1) (l.length + 1)) rfl rfl ?_
  refine wpL_done (fun W2 hW2 => ?_)
  refine (show Code.wp _ _ _ _ _ from ?_)
  refine wp_seq ?_
  refine wp_region_L (W0 := w) [(g1, .cells (bcs (List.replicate (l.length + 1) bx0)).toArray 26 (0, 0))] (hW2) ?_
  refine lm (v := .slice (some ⟨g1, 0, none⟩) (l.length + 1) (l.length + 1)) rfl rfl ?_
  refine lm (v := .slice p l.length c) rfl rfl ?_
  refine wpL_g (CopyB 26 g1 [] (l ++ (List.replicate (l.length + 1) bx0).drop l.length) l.length) rfl rfl (copy_all (m := l.length + 1) (dc := l.length + 1) (p := p) (sc := c) (r := List.replicate (l.length + 1) bx0) rfl Tryd.underlying22 (by kernel_rfl) (by kernel_rfl) (by kernel_rfl) (.head _) Bg1 (row_lit _) (by simp) (by omega) (fun W hW => ((RL.base HP.out) _ (hW.sub (fun _ h => by cases h)))) (fun _ h => by cases h)) (fun _ => by simp only [List.setIfInBounds_toArray, List.set_cons_succ, List.set_cons_zero] <;> rfl) ?_
  rintro _ _ ⟨rfl, cur1, hr1, rfl⟩
  rw [rep_last] at hr1
  refine wpL_done (fun W3 hW3 => ?_)
  refine (show Code.wp _ _ _ _ _ from ?_)
  refine wp_seq ?_
  refine wp_region_L (W0 := w) [(g1, .cells cur1 26 (0, 0))] (hW3) ?_
  refine lm (v := .slice (some ⟨g1, 0, none⟩) (l.length + 1) (l.length + 1)) rfl rfl ?_
  refine lm (v := .slice p l.length c) rfl rfl ?_
  refine lp (v := .int .i64 ((l.length : Nat) : Int)) rfl rfl (run_lenL (p := p) (cap := c) (n := l.length) rfl Tryd.underlying22 (by kernel_rfl)) ?_
  refine lv (v := .agg (bxL exB).toArray) rfl rfl (yb_call (f := 13) (args := #[]) (fun _ => by kernel_rfl) fun W hW => example_any W) ?_
  refine lp (v := .pointer (some ⟨g1, 0 + l.length * 9, none⟩)) rfl rfl (run_idxL (j := .i64) (n := (l.length + 1)) (cap := (l.length + 1)) (b := g1) (off := 0) (k := l.length) (sz := 9) rfl Tryd.underlying22 (by kernel_rfl) (by kernel_rfl) (by kernel_rfl) (by omega)) ?_
  refine wpL_s [(g1, .cells (putR cur1 l.length exB) 26 (0, 0))] rfl rfl (st_rec (b := exB) rfl (by kernel_rfl) (by kernel_rfl) (.head _) Bg1 (by kernel_rfl) hr1 (by simp) (List.forall_mem_cons.2 ⟨.inl rfl, (List.forall_mem_nil _)⟩)) ?_
  have hr2 := row_put exB hr1
  refine wpL_done (fun W4 hW4 => ?_)
  refine (show Code.wp _ _ _ _ _ from ?_)
  refine wp_seq ?_
  refine wp_region_L (W0 := w) [(g1, .cells (putR cur1 l.length exB) 26 (0, 0))] (hW4) ?_
  refine lm (v := .slice (some ⟨g1, 0, none⟩) (l.length + 1) (l.length + 1)) rfl rfl ?_
  refine lm (v := .slice p l.length c) rfl rfl ?_
  refine lp (v := .int .i64 ((l.length : Nat) : Int)) rfl rfl (run_lenL (p := p) (cap := c) (n := l.length) rfl Tryd.underlying22 (by kernel_rfl)) ?_
  have R0 : RL bxL w (some ⟨g1, 0, none⟩) l [(g1, .cells (putR cur1 l.length exB) 26 (0, 0))] := row_rl hr2
  refine lp (v := .slice (some ⟨g1, 0, none⟩) l.length (l.length + 1)) rfl rfl (run_slt (kd := .i64) (j := l.length) (n := (l.length + 1)) (c := (l.length + 1)) (sz := 9) rfl Tryd.underlying22 (by kernel_rfl) (by kernel_rfl) (by kernel_rfl) (by omega)) ?_
  refine lm (v := .slice (some ⟨g1, 0, none⟩) l.length (l.length + 1)) rfl rfl ?_
  refine wpL_done (fun W5 hW5 => ?_)
  refine (show Code.wp _ _ _ _ _ from ?_)
  refine wp_seq ?_
  refine wp_region_L (W0 := w) [(g1, .cells (putR cur1 l.length exB) 26 (0, 0))] (hW5) ?_
  refine lm (v := .slice (some ⟨g1, 0, none⟩) l.length (l.length + 1)) rfl rfl ?_
  refine lv (v := .tuple #[.int .i64 va, .int .i64 ve]) rfl rfl (yb_call (f := 29) (args := #[.slice (some ⟨g1, 0, none⟩) l.length (l.length + 1)]) (fun _ => by kernel_rfl) fun W hW => (by have h9 := Valid_any l (some ⟨g1, 0, none⟩) (l.length + 1) (by omega) W (R0 _ (hW.sub (fun p hp => by cases List.mem_singleton.1 hp; exact (.head _)))); rw [hv] at h9; exact h9)) ?_
  refine lm (v := .tuple #[.int .i64 va, .int .i64 ve]) rfl rfl ?_
  refine lm (v := .int .i64 va) rfl rfl ?_
  refine lm (v := .int .i64 ve) rfl rfl ?_
  refine lm (v := .int .i64 va) rfl rfl ?_
  refine lm (v := .int .i64 ve) rfl rfl ?_
  refine wpL_done (fun W6 hW6 => ?_)
  refine (show Code.wp _ _ _ _ _ from ?_)
  refine wp_seq ?_
  refine wp_region_L (W0 := w) [(g1, .cells (putR cur1 l.length exB) 26 (0, 0))] (hW6) ?_
  refine lm (v := .slice (some ⟨g1, 0, none⟩) l.length (l.length + 1)) rfl rfl ?_
  refine lm (v := .int .i64 id) rfl rfl ?_
  refine lv (v := .tuple #[.agg (bxL b1).toArray, .bool true]) rfl rfl (yb_call (f := 30) (args := #[.slice (some ⟨g1, 0, none⟩) l.length (l.length + 1), .int .i64 id]) (fun _ => by kernel_rfl) fun W hW => (by have h9 := Find_any l (some ⟨g1, 0, none⟩) (l.length + 1) id (by omega) W (R0 _ (hW.sub (fun p hp => by cases List.mem_singleton.1 hp; exact (.head _)))); rw [f1] at h9; exact h9)) ?_
  refine lm (v := .tuple #[.agg (bxL b1).toArray, .bool true]) rfl rfl ?_
  refine lm (v := .agg (bxL b1).toArray) rfl rfl ?_
  refine lm (v := .bool true) rfl rfl ?_
  refine wpL_new (fun g => .pointer (some ⟨g, 0, none⟩)) (obi := .cells #[.int .i64 0, strV [], .int .u8 0, .bool false, .int .i64 0, .int .i64 0, .int .i64 0, .int .u8 0, .bool false] 26 (0, 0)) rfl rfl (fun _ => by kernel_rfl) (fun _ => by simp only [List.setIfInBounds_toArray, List.set_cons_succ, List.set_cons_zero] <;> rfl) fun g2 Bg2 Fg2 => ?_
  obtain dj3_0 : g1 ≠ g2 := by simpa only [dj_app_l, dj_app_r, dj_cons_l, dj_cons_r, dj_nil_l, dj_nil_r, dk_app, dk_cons, dk_nil, and_true, true_and, and_assoc] using (show Dk g2 [(g1, .cells (putR cur1 l.length exB) 26 (0, 0))] from Fg2)
  refine wpL_s [(g2, .cells (bxL b1).toArray 26 (0, 0)), (g1, .cells (putR cur1 l.length exB) 26 (0, 0))] rfl rfl (st_row (off := 0) (v := .agg (bxL b1).toArray) rfl (by kernel_rfl) (by kernel_rfl) (.head _) Bg2 (by kernel_rfl) (by first | (simp [Value.cells]; done) | exact Nat.le_of_ble_eq_true rfl) (fun v hv => bxL_one b1 v hv) (by kernel_rfl) (List.forall_mem_cons.2 ⟨.inl rfl, (List.forall_mem_cons.2 ⟨.inr ⟨(.tail _ (.head _)), (by first | assumption | exact Ne.symm (by assumption))⟩, (List.forall_mem_nil _)⟩)⟩)) ?_
  refine lm (v := .bool true) rfl rfl ?_
  refine wpL_done (fun W7 hW7 => ?_)
  refine (show Code.wp _ _ _ _ _ from ?_)
  refine wp_seq ?_
  refine wp_region_L (W0 := w) [(g2, .cells (bxL b1).toArray 26 (0, 0)), (g1, .cells (putR cur1 l.length exB) 26 (0, 0))] (hW7) ?_
  refine lm (v := .slice (some ⟨g1, 0, none⟩) l.length (l.length + 1)) rfl rfl ?_
  refine lm (v := strV n) rfl rfl ?_
  refine lv (v := .tuple #[.int .i64 b2.id, .bool true]) rfl rfl (yb_call (f := 31) (args := #[.slice (some ⟨g1, 0, none⟩) l.length (l.length + 1), strV n]) (fun _ => by kernel_rfl) fun W hW => (by have h9 := Numbered_any l (some ⟨g1, 0, none⟩) (l.length + 1) n (by omega) W (R0 _ (hW.sub (fun p hp => by cases List.mem_singleton.1 hp; exact (.tail _ (.head _))))); rw [numbered_p, nb1] at h9; exact h9)) ?_
  refine lm (v := .tuple #[.int .i64 b2.id, .bool true]) rfl rfl ?_
  refine lm (v := .int .i64 b2.id) rfl rfl ?_
  refine lm (v := .bool true) rfl rfl ?_
  refine lm (v := .int .i64 b2.id) rfl rfl ?_
  refine lm (v := .bool true) rfl rfl ?_
  refine wpL_done (fun W8 hW8 => ?_)
  refine (show Code.wp _ _ _ _ _ from ?_)
  refine wp_seq ?_
  refine wp_region_L (W0 := w) [(g2, .cells (bxL b1).toArray 26 (0, 0)), (g1, .cells (putR cur1 l.length exB) 26 (0, 0))] (hW8) ?_
  refine lm (v := .slice (some ⟨g1, 0, none⟩) l.length (l.length + 1)) rfl rfl ?_
  refine lv (v := .agg (smL (totalX l)).toArray) rfl rfl (yb_call (f := 26) (args := #[.slice (some ⟨g1, 0, none⟩) l.length (l.length + 1)]) (fun _ => by kernel_rfl) fun W hW => Total_any l (some ⟨g1, 0, none⟩) (l.length + 1) (by omega) W (R0 _ (hW.sub (fun p hp => by cases List.mem_singleton.1 hp; exact (.tail _ (.head _)))))) ?_
  refine lm (v := .slice (some ⟨g1, 0, none⟩) l.length (l.length + 1)) rfl rfl ?_
  refine wpL_c (f := 27) (args := #[.slice (some ⟨g1, 0, none⟩) l.length (l.length + 1)]) (OutOL w [(g2, .cells (bxL b1).toArray 26 (0, 0)), (g1, .cells (putR cur1 l.length exB) 26 (0, 0))] 26 9 (orderX l).length ((orderX l).flatMap bxL)) rfl (by kernel_rfl) (fun _ => (by kernel_rfl)) (fun W hW => calls_o hW (((Order_any l (some ⟨g1, 0, none⟩) (l.length + 1) (by omega) W (R0 _ (hW.sub (fun p hp => by cases List.mem_singleton.1 hp; exact (.tail _ (.head _)))))).mono fun _ _ ⟨v, h1, h2, h3⟩ => ⟨v, h1, by rw [order_len]; exact h2, h3⟩))) (fun _ => by simp only [List.setIfInBounds_toArray, List.set_cons_succ, List.set_cons_zero] <;> rfl) ?_
  rintro v4 _ ⟨Kl4, O4, N4, rfl⟩
  obtain ⟨dj5_0, dj5_1⟩ : Dk g2 Kl4 ∧ Dk g1 Kl4 := by simpa only [dj_app_l, dj_app_r, dj_cons_l, dj_cons_r, dj_nil_l, dj_nil_r, dk_app, dk_cons, dk_nil, and_true, true_and, and_assoc] using (show Dj [(g2, .cells (bxL b1).toArray 26 (0, 0)), (g1, .cells (putR cur1 l.length exB) 26 (0, 0))] Kl4 from N4)
  refine wpL_new (fun g => .pointer (some ⟨g, 0, none⟩)) (obi := .cells #[.int .i64 0, .int .i64 0, .int .i64 0, .int .i64 0, .int .i64 0] 47 (0, 0)) rfl rfl (fun _ => by kernel_rfl) (fun _ => by simp only [List.setIfInBounds_toArray, List.set_cons_succ, List.set_cons_zero] <;> rfl) fun g6 Bg6 Fg6 => ?_
  obtain ⟨dj7_0, dj7_1, dj7_2⟩ : g2 ≠ g6 ∧ g1 ≠ g6 ∧ Dk g6 Kl4 := by simpa only [dj_app_l, dj_app_r, dj_cons_l, dj_cons_r, dj_nil_l, dj_nil_r, dk_app, dk_cons, dk_nil, and_true, true_and, and_assoc] using (show Dk g6 ((g2, .cells (bxL b1).toArray 26 (0, 0)) :: (g1, .cells (putR cur1 l.length exB) 26 (0, 0)) :: Kl4) from Fg6)
  refine wpL_s ((g6, .cells (smL (totalX l)).toArray 47 (0, 0)) :: (g2, .cells (bxL b1).toArray 26 (0, 0)) :: (g1, .cells (putR cur1 l.length exB) 26 (0, 0)) :: Kl4) rfl rfl (st_row (off := 0) (v := .agg (smL (totalX l)).toArray) rfl (by kernel_rfl) (by kernel_rfl) (.head _) Bg6 (by kernel_rfl) (by first | (simp [Value.cells]; done) | exact Nat.le_of_ble_eq_true rfl) (fun v hv => smL_one (totalX l) v hv) (by kernel_rfl) (List.forall_mem_cons.2 ⟨.inl rfl, (List.forall_mem_cons.2 ⟨.inr ⟨(.tail _ (.head _)), (by first | assumption | exact Ne.symm (by assumption))⟩, (List.forall_mem_cons.2 ⟨.inr ⟨(.tail _ (.tail _ (.head _))), (by first | assumption | exact Ne.symm (by assumption))⟩, (fun p hp => .inr ⟨(.tail _ (.tail _ (.tail _ hp))), ((show Dk g6 Kl4 from (by (try simp only [dj_app_l, dj_app_r, dj_cons_l, dj_cons_r, dj_nil_l, dj_nil_r, dk_app, dk_cons, dk_nil, and_true, true_and, and_assoc]); repeat' (first | trivial | assumption | exact Dj.symm (by assumption) | exact Ne.symm (by assumption) | apply And.intro))) _ hp)⟩)⟩)⟩)⟩)) ?_
  refine lm (v := v4) rfl rfl ?_
  refine wpL_done (fun W9 hW9 => ?_)
  refine (show Code.wp _ _ _ _ _ from ?_)
  refine wp_seq ?_
  refine wp_seq ?_
  refine wp_region_L (W0 := w) ((g6, .cells (smL (totalX l)).toArray 47 (0, 0)) :: (g2, .cells (bxL b1).toArray 26 (0, 0)) :: (g1, .cells (putR cur1 l.length exB) 26 (0, 0)) :: Kl4) (hW9) ?_
  refine lm (v := v4) rfl rfl ?_
  refine lp (v := .int .i64 ((((orderX l).length) : Nat) : Int)) rfl rfl (run_lenO (W0 := w) rfl Tryd.underlying22 (by kernel_rfl) O4) ?_
  refine lm (v := .int .i64 0) rfl rfl ?_
  refine wpL_done (fun W10 hW10 => ?_)
  refine (show Code.wp _ _ _ _ _ from ?_)
  refine wp_block ?_
  go_loopw [62] (fun u62 wr => ∃ (k : Nat) (m : List Bx) (Km : List (Nat × Obj)), (k ≤ (orderX l).length) ∧ (m.length = (orderX l).length) ∧ (OwnL w 26 9 v4 (orderX l).length (bcs m) Km) ∧ (Dk g6 Km) ∧ (Dk g2 Km) ∧ (Dk g1 Km) ∧ u62 = .int .i64 ((k : Nat) : Int) ∧ KS w ((g6, .cells (smL (totalX l)).toArray 47 (0, 0)) :: (g2, .cells (bxL b1).toArray 26 (0, 0)) :: (g1, .cells (putR cur1 l.length exB) 26 (0, 0)) :: Km) wr) (fun u62 _ => (orderX l).length - (intOf u62).toNat)
  case atStart => exact ⟨0, (orderX l), Kl4, (Nat.zero_le _), rfl, O4, (show Dk g6 Kl4 from (by (try simp only [dj_app_l, dj_app_r, dj_cons_l, dj_cons_r, dj_nil_l, dj_nil_r, dk_app, dk_cons, dk_nil, and_true, true_and, and_assoc]); repeat' (first | trivial | assumption | exact Dj.symm (by assumption) | exact Ne.symm (by assumption) | apply And.intro))), (show Dk g2 Kl4 from (by (try simp only [dj_app_l, dj_app_r, dj_cons_l, dj_cons_r, dj_nil_l, dj_nil_r, dk_app, dk_cons, dk_nil, and_true, true_and, and_assoc]); repeat' (first | trivial | assumption | exact Dj.symm (by assumption) | exact Ne.symm (by assumption) | apply And.intro))), (show Dk g1 Kl4 from (by (try simp only [dj_app_l, dj_app_r, dj_cons_l, dj_cons_r, dj_nil_l, dj_nil_r, dk_app, dk_cons, dk_nil, and_true, true_and, and_assoc]); repeat' (first | trivial | assumption | exact Dj.symm (by assumption) | exact Ne.symm (by assumption) | apply And.intro))), rfl, (hW10.sub (fun p hp => by first | exact hp | (simp only [List.mem_cons, List.mem_append, List.nil_append, List.not_mem_nil, or_assoc, or_false, false_or] at hp ⊢ <;> grind)))⟩
  case round =>
    obtain ⟨k, m, Km, hk, hm, hO, dh8_0, dh8_1, dh8_2, rfl, hL11⟩ := hrel
    refine wp_seq ?_
    refine wp_region_L (W0 := w) ((g6, .cells (smL (totalX l)).toArray 47 (0, 0)) :: (g2, .cells (bxL b1).toArray 26 (0, 0)) :: (g1, .cells (putR cur1 l.length exB) 26 (0, 0)) :: Km) (hL11) ?_
    refine lp (v := .bool (decide (k < ((orderX l).length)))) rfl rfl (run_bin rfl (vx := (.int .i64 ((k : Nat) : Int))) (vy := (.int .i64 ((((orderX l).length) : Nat) : Int))) (by kernel_rfl) (by kernel_rfl) fun w => bn_lss rfl w) ?_
    refine wpL_done (fun W12 hW12 => ?_)
    refine (show Code.wp _ _ _ _ _ from ?_)
    refine wp_seq ?_
    cases hd1 : (decide (k < ((orderX l).length))) with
    | false =>
      have h1 : ¬ (k < ((orderX l).length)) := of_decide_eq_false hd1
      clear hd1
      refine wp_cond_false rfl ?_
      refine wp_exit ?_
      refine (show Code.wp _ _ _ _ _ from ?_)
      refine wp_seq ?_
      refine wp_region_L (W0 := w) ((g6, .cells (smL (totalX l)).toArray 47 (0, 0)) :: (g2, .cells (bxL b1).toArray 26 (0, 0)) :: (g1, .cells (putR cur1 l.length exB) 26 (0, 0)) :: Km) (hW12) ?_
      refine lm (v := .slice (some ⟨g1, 0, none⟩) l.length (l.length + 1)) rfl rfl ?_
      refine wpL_c (f := 27) (args := #[.slice (some ⟨g1, 0, none⟩) l.length (l.length + 1)]) (OutRL bxL w ((g6, .cells (smL (totalX l)).toArray 47 (0, 0)) :: (g2, .cells (bxL b1).toArray 26 (0, 0)) :: (g1, .cells (putR cur1 l.length exB) 26 (0, 0)) :: Km) (orderX l)) rfl (by kernel_rfl) (fun _ => (by kernel_rfl)) (fun W hW => calls_r hW (((Order_any l (some ⟨g1, 0, none⟩) (l.length + 1) (by omega) W (R0 _ (hW.sub (fun p hp => by cases List.mem_singleton.1 hp; exact (.tail _ (.tail _ (.head _))))))).mono fun _ _ ⟨v, h1, h2, h3⟩ => ⟨v, h1, by rw [order_len]; exact h2, h3⟩))) (fun _ => by simp only [List.setIfInBounds_toArray, List.set_cons_succ, List.set_cons_zero] <;> rfl) ?_
      rintro _ _ ⟨p9, c9, Kl9, rfl, n9, R9, N9, rfl⟩
      obtain ⟨dj10_0, dj10_1, dj10_2, dj10_3⟩ : Dk g6 Kl9 ∧ Dk g2 Kl9 ∧ Dk g1 Kl9 ∧ Dj Km Kl9 := by simpa only [dj_app_l, dj_app_r, dj_cons_l, dj_cons_r, dj_nil_l, dj_nil_r, dk_app, dk_cons, dk_nil, and_true, true_and, and_assoc] using (show Dj ((g6, .cells (smL (totalX l)).toArray 47 (0, 0)) :: (g2, .cells (bxL b1).toArray 26 (0, 0)) :: (g1, .cells (putR cur1 l.length exB) 26 (0, 0)) :: Km) Kl9 from N9)
      refine wpL_sub (K2 := ((g6, .cells (smL (totalX l)).toArray 47 (0, 0)) :: (g2, .cells (bxL b1).toArray 26 (0, 0)) :: (g1, .cells (putR cur1 l.length exB) 26 (0, 0)) :: (Km ++ Kl9))) (fun p hp => by simp only [List.mem_cons, List.mem_append, or_assoc] at hp ⊢; exact hp) ?_
      refine lm (v := .slice p9 ((orderX l).length) c9) rfl rfl ?_
      refine wpL_done (fun W13 hW13 => ?_)
      refine (show Code.wp _ _ _ _ _ from ?_)
      refine wp_seq ?_
      refine wp_seq ?_
      refine wp_region_V (W0 := w) ((g6, .cells (smL (totalX l)).toArray 47 (0, 0)) :: (g2, .cells (bxL b1).toArray 26 (0, 0)) :: (g1, .cells (putR cur1 l.length exB) 26 (0, 0)) :: (Km ++ Kl9)) (by kernel_rfl) (hW13) ?_
      refine vm (i := 0) (v := .slice (some ⟨g1, 0, none⟩) l.length (l.length + 1)) rfl rfl rfl ?_
      refine vm (i := 1) (v := .slice p l.length c) rfl rfl rfl ?_
      refine vv (i := 2) (v := .bool true) rfl rfl rfl (yb_call (f := 28) (args := #[.slice (some ⟨g1, 0, none⟩) l.length (l.length + 1), .slice p l.length c]) (fun _ => by kernel_rfl) fun W hW => same_is l l (some ⟨g1, 0, none⟩) p (l.length + 1) c rfl rfl (by omega) W (R0 _ (hW.sub (fun p hp => by cases List.mem_singleton.1 hp; exact (.tail _ (.tail _ (.head _)))))) ((RL.base HP.out) _ (hW.sub (fun _ h => by cases h))) rfl) ?_
      refine vm (i := 3) (v := .bool false) rfl rfl rfl ?_
      refine vm (i := 4) (v := .bool false) rfl rfl rfl ?_
      refine vm (i := 5) (v := .slice (some ⟨g1, 0, none⟩) (l.length + 1) (l.length + 1)) rfl rfl rfl ?_
      refine vm (i := 6) (v := .slice p l.length c) rfl rfl rfl ?_
      refine vp (i := 7) (v := .int .i64 ((l.length : Nat) : Int)) rfl rfl rfl (run_lenL (p := p) (cap := c) (n := l.length) rfl Tryd.underlying22 (by kernel_rfl)) ?_
      refine vp (i := 8) (v := .pointer (some ⟨g1, 0 + l.length * 9, none⟩)) rfl rfl rfl (run_idxL (j := .i64) (n := (l.length + 1)) (cap := (l.length + 1)) (b := g1) (off := 0) (k := l.length) (sz := 9) rfl Tryd.underlying22 (by kernel_rfl) (by kernel_rfl) (by kernel_rfl) (by omega)) ?_
      refine vv (i := 9) (v := .agg (bxL exB).toArray) rfl rfl rfl (yb_cells (off := 0 + l.length * 9) (cur := (putR cur1 l.length exB)) (cs := bxL exB) rfl (by kernel_rfl) (.tail _ (.tail _ (.head _))) (row_last hr2) Tryd.underlying26 rfl (by kernel_rfl)) ?_
      refine vv (i := 10) (v := .agg (bxL exB).toArray) rfl rfl rfl (yb_call (f := 13) (args := #[]) (fun _ => by kernel_rfl) fun W hW => example_any W) ?_
      refine vp (i := 11) (v := .bool false) rfl rfl rfl (run_bin rfl (vx := .agg (bxL exB).toArray) (vy := .agg (bxL exB).toArray) (by kernel_rfl) (by kernel_rfl) fun w => neq_bx (a := exB) (b := exB) (decide_eq_true rfl) w) ?_
      refine vm (i := 12) (v := .bool false) rfl rfl rfl ?_
      refine wpV_done (by kernel_rfl) (fun W14 hW14 => ?_) _
      refine (show Code.wp _ _ _ _ _ from ?_)
      refine wp_cond_false rfl ?_
      refine wp_skip ?_
      refine (show Code.wp _ _ _ _ _ from ?_)
      refine wp_seq ?_
      refine wp_region_L (W0 := w) ((g6, .cells (smL (totalX l)).toArray 47 (0, 0)) :: (g2, .cells (bxL b1).toArray 26 (0, 0)) :: (g1, .cells (putR cur1 l.length exB) 26 (0, 0)) :: (Km ++ Kl9)) (hW14) ?_
      refine lm (v := .slice p l.length c) rfl rfl ?_
      refine lv (v := .tuple #[.int .i64 va, .int .i64 ve]) rfl rfl (yb_call (f := 32) (args := #[.slice p l.length c]) (fun _ => by kernel_rfl) fun W hW => (by have h9 := RValid_any l p c (by omega) W ((RL.base HP.out) _ (hW.sub (fun _ h => by cases h))); rw [hv] at h9; exact h9)) ?_
      refine lm (v := .tuple #[.int .i64 va, .int .i64 ve]) rfl rfl ?_
      refine lm (v := .int .i64 va) rfl rfl ?_
      refine lm (v := .int .i64 ve) rfl rfl ?_
      refine lm (v := .int .i64 va) rfl rfl ?_
      refine lm (v := .int .i64 ve) rfl rfl ?_
      refine wpL_done (fun W15 hW15 => ?_)
      refine (show Code.wp _ _ _ _ _ from ?_)
      refine wp_seq ?_
      refine wp_seq ?_
      refine wp_region_L (W0 := w) ((g6, .cells (smL (totalX l)).toArray 47 (0, 0)) :: (g2, .cells (bxL b1).toArray 26 (0, 0)) :: (g1, .cells (putR cur1 l.length exB) 26 (0, 0)) :: (Km ++ Kl9)) (hW15) ?_
      refine lm (v := .int .i64 va) rfl rfl ?_
      refine lm (v := .int .i64 va) rfl rfl ?_
      refine lp (v := .bool false) rfl rfl (run_bin rfl (vx := (.int .i64 va)) (vy := (.int .i64 va)) (by kernel_rfl) (by kernel_rfl) fun w => bi_neq (decide_eq_true rfl) w) ?_
      refine lm (v := .bool false) rfl rfl ?_
      refine lm (v := .int .i64 ve) rfl rfl ?_
      refine lm (v := .int .i64 ve) rfl rfl ?_
      refine lp (v := .bool false) rfl rfl (run_bin rfl (vx := (.int .i64 ve)) (vy := (.int .i64 ve)) (by kernel_rfl) (by kernel_rfl) fun w => bi_neq (decide_eq_true rfl) w) ?_
      refine lm (v := .bool false) rfl rfl ?_
      refine lm (v := .bool false) rfl rfl ?_
      refine lm (v := .slice p9 ((orderX l).length) c9) rfl rfl ?_
      refine lm (v := .slice p l.length c) rfl rfl ?_
      refine wpL_c (f := 33) (args := #[.slice p l.length c]) (OutRL bxL w ((g6, .cells (smL (totalX l)).toArray 47 (0, 0)) :: (g2, .cells (bxL b1).toArray 26 (0, 0)) :: (g1, .cells (putR cur1 l.length exB) 26 (0, 0)) :: (Km ++ Kl9)) (orderX l)) rfl (by kernel_rfl) (fun _ => (by kernel_rfl)) (fun W hW => calls_r hW (((ROrder_any l p c (by omega) W ((RL.base HP.out) _ (hW.sub (fun _ h => by cases h)))).mono fun _ _ ⟨v, h1, h2, h3⟩ => ⟨v, h1, by rw [order_len]; exact h2, h3⟩))) (fun _ => by simp only [List.setIfInBounds_toArray, List.set_cons_succ, List.set_cons_zero] <;> rfl) ?_
      rintro _ _ ⟨p11, c11, Kl11, rfl, n11, R11, N11, rfl⟩
      obtain ⟨dj12_0, dj12_1, dj12_2, dj12_3, dj12_4⟩ : Dk g6 Kl11 ∧ Dk g2 Kl11 ∧ Dk g1 Kl11 ∧ Dj Km Kl11 ∧ Dj Kl9 Kl11 := by simpa only [dj_app_l, dj_app_r, dj_cons_l, dj_cons_r, dj_nil_l, dj_nil_r, dk_app, dk_cons, dk_nil, and_true, true_and, and_assoc] using (show Dj ((g6, .cells (smL (totalX l)).toArray 47 (0, 0)) :: (g2, .cells (bxL b1).toArray 26 (0, 0)) :: (g1, .cells (putR cur1 l.length exB) 26 (0, 0)) :: (Km ++ Kl9)) Kl11 from N11)
      refine wpL_sub (K2 := ((g6, .cells (smL (totalX l)).toArray 47 (0, 0)) :: (g2, .cells (bxL b1).toArray 26 (0, 0)) :: (g1, .cells (putR cur1 l.length exB) 26 (0, 0)) :: (Km ++ (Kl9 ++ Kl11)))) (fun p hp => by simp only [List.mem_cons, List.mem_append, or_assoc] at hp ⊢; exact hp) ?_
      refine lv (v := .bool true) rfl rfl (yb_call (f := 28) (args := #[.slice p9 ((orderX l).length) c9, .slice p11 ((orderX l).length) c11]) (fun _ => by kernel_rfl) fun W hW => same_is (orderX l) (orderX l) p9 p11 c9 c11 rfl rfl (by omega) W (R9 _ (hW.sub (fun p hp => by simp only [List.mem_cons, List.mem_append, List.nil_append, List.not_mem_nil, or_assoc, or_false, false_or, hp, true_or, or_true]))) (R11 _ (hW.sub (fun p hp => by simp only [List.mem_cons, List.mem_append, List.nil_append, List.not_mem_nil, or_assoc, or_false, false_or, hp, true_or, or_true]))) rfl) ?_
      refine lm (v := .bool false) rfl rfl ?_
      refine lm (v := .bool false) rfl rfl ?_
      refine wpL_done (fun W16 hW16 => ?_)
      refine (show Code.wp _ _ _ _ _ from ?_)
      refine wp_cond_false rfl ?_
      refine wp_skip ?_
      refine (show Code.wp _ _ _ _ _ from ?_)
      refine wp_seq ?_
      refine wp_region_L (W0 := w) ((g6, .cells (smL (totalX l)).toArray 47 (0, 0)) :: (g2, .cells (bxL b1).toArray 26 (0, 0)) :: (g1, .cells (putR cur1 l.length exB) 26 (0, 0)) :: (Km ++ (Kl9 ++ Kl11))) (hW16) ?_
      refine lm (v := .slice p l.length c) rfl rfl ?_
      refine lv (v := .agg (smL (totalX l)).toArray) rfl rfl (yb_call (f := 34) (args := #[.slice p l.length c]) (fun _ => by kernel_rfl) fun W hW => RTotal_any l p c (by omega) W ((RL.base HP.out) _ (hW.sub (fun _ h => by cases h)))) ?_
      refine wpL_new (fun g => .pointer (some ⟨g, 0, none⟩)) (obi := .cells #[.int .i64 0, .int .i64 0, .int .i64 0, .int .i64 0, .int .i64 0] 66 (0, 0)) rfl rfl (fun _ => by kernel_rfl) (fun _ => by simp only [List.setIfInBounds_toArray, List.set_cons_succ, List.set_cons_zero] <;> rfl) fun g13 Bg13 Fg13 => ?_
      obtain ⟨dj14_0, dj14_1, dj14_2, dj14_3, dj14_4, dj14_5⟩ : g6 ≠ g13 ∧ g2 ≠ g13 ∧ g1 ≠ g13 ∧ Dk g13 Km ∧ Dk g13 Kl9 ∧ Dk g13 Kl11 := by simpa only [dj_app_l, dj_app_r, dj_cons_l, dj_cons_r, dj_nil_l, dj_nil_r, dk_app, dk_cons, dk_nil, and_true, true_and, and_assoc] using (show Dk g13 ((g6, .cells (smL (totalX l)).toArray 47 (0, 0)) :: (g2, .cells (bxL b1).toArray 26 (0, 0)) :: (g1, .cells (putR cur1 l.length exB) 26 (0, 0)) :: (Km ++ (Kl9 ++ Kl11))) from Fg13)
      refine wpL_s ((g13, .cells (smL (totalX l)).toArray 66 (0, 0)) :: (g6, .cells (smL (totalX l)).toArray 47 (0, 0)) :: (g2, .cells (bxL b1).toArray 26 (0, 0)) :: (g1, .cells (putR cur1 l.length exB) 26 (0, 0)) :: (Km ++ (Kl9 ++ Kl11))) rfl rfl (st_row (off := 0) (v := .agg (smL (totalX l)).toArray) rfl (by kernel_rfl) (by kernel_rfl) (.head _) Bg13 (by kernel_rfl) (by first | (simp [Value.cells]; done) | exact Nat.le_of_ble_eq_true rfl) (fun v hv => smL_one (totalX l) v hv) (by kernel_rfl) (List.forall_mem_cons.2 ⟨.inl rfl, (List.forall_mem_cons.2 ⟨.inr ⟨(.tail _ (.head _)), (by first | assumption | exact Ne.symm (by assumption))⟩, (List.forall_mem_cons.2 ⟨.inr ⟨(.tail _ (.tail _ (.head _))), (by first | assumption | exact Ne.symm (by assumption))⟩, (List.forall_mem_cons.2 ⟨.inr ⟨(.tail _ (.tail _ (.tail _ (.head _)))), (by first | assumption | exact Ne.symm (by assumption))⟩, (fun p hp => .inr ⟨(.tail _ (.tail _ (.tail _ (.tail _ hp)))), ((show Dk g13 (Km ++ (Kl9 ++ Kl11)) from (by (try simp only [dj_app_l, dj_app_r, dj_cons_l, dj_cons_r, dj_nil_l, dj_nil_r, dk_app, dk_cons, dk_nil, and_true, true_and, and_assoc]); repeat' (first | trivial | assumption | exact Dj.symm (by assumption) | exact Ne.symm (by assumption) | apply And.intro))) _ hp)⟩)⟩)⟩)⟩)⟩)) ?_
      refine wpL_done (fun W17 hW17 => ?_)
      refine (show Code.wp _ _ _ _ _ from ?_)
      refine wp_seq ?_
      refine wp_seq ?_
      refine wp_region_L (W0 := w) ((g13, .cells (smL (totalX l)).toArray 66 (0, 0)) :: (g6, .cells (smL (totalX l)).toArray 47 (0, 0)) :: (g2, .cells (bxL b1).toArray 26 (0, 0)) :: (g1, .cells (putR cur1 l.length exB) 26 (0, 0)) :: (Km ++ (Kl9 ++ Kl11))) (hW17) ?_
      refine lv (v := .agg (smL (totalX l)).toArray) rfl rfl (yb_load (n := 5) (off := 0) rfl (by kernel_rfl) (.tail _ (.head _)) Tryd.underlying47 rfl (by kernel_rfl) (by first | (simp [Value.cells]; done) | exact Nat.le_of_ble_eq_true rfl) (by kernel_rfl)) ?_
      refine lm (v := .pointer (some ⟨g13, 0, none⟩)) rfl rfl ?_
      refine lv (v := .int .i64 ((((totalX l).n) : Nat) : Int)) rfl rfl (yb_cell (off := 0) rfl (by kernel_rfl) (.head _) Tryd.underlying3 rfl (by kernel_rfl)) ?_
      refine lm (v := .pointer (some ⟨g13, 1, none⟩)) rfl rfl ?_
      refine lv (v := .int .i64 ((((totalX l).h) : Nat) : Int)) rfl rfl (yb_cell (off := 1) rfl (by kernel_rfl) (.head _) Tryd.underlying3 rfl (by kernel_rfl)) ?_
      refine lm (v := .pointer (some ⟨g13, 2, none⟩)) rfl rfl ?_
      refine lv (v := .int .i64 ((totalX l).k)) rfl rfl (yb_cell (off := 2) rfl (by kernel_rfl) (.head _) Tryd.underlying3 rfl (by kernel_rfl)) ?_
      refine lm (v := .pointer (some ⟨g13, 3, none⟩)) rfl rfl ?_
      refine lv (v := .int .i64 ((((totalX l).r) : Nat) : Int)) rfl rfl (yb_cell (off := 3) rfl (by kernel_rfl) (.head _) Tryd.underlying3 rfl (by kernel_rfl)) ?_
      refine lm (v := .pointer (some ⟨g13, 4, none⟩)) rfl rfl ?_
      refine lv (v := .int .i64 ((((totalX l).d) : Nat) : Int)) rfl rfl (yb_cell (off := 4) rfl (by kernel_rfl) (.head _) Tryd.underlying3 rfl (by kernel_rfl)) ?_
      refine lm (v := .agg (smL (totalX l)).toArray) rfl rfl ?_
      refine lp (v := .bool false) rfl rfl (run_bin rfl (vx := .agg (smL (totalX l)).toArray) (vy := .agg (smL (totalX l)).toArray) (by kernel_rfl) (by kernel_rfl) fun w => neq_smL w) ?_
      refine wpL_done (fun W18 hW18 => ?_)
      refine (show Code.wp _ _ _ _ _ from ?_)
      refine wp_cond_false rfl ?_
      refine wp_skip ?_
      refine (show Code.wp _ _ _ _ _ from ?_)
      refine wp_seq ?_
      refine wp_region_L (W0 := w) ((g13, .cells (smL (totalX l)).toArray 66 (0, 0)) :: (g6, .cells (smL (totalX l)).toArray 47 (0, 0)) :: (g2, .cells (bxL b1).toArray 26 (0, 0)) :: (g1, .cells (putR cur1 l.length exB) 26 (0, 0)) :: (Km ++ (Kl9 ++ Kl11))) (hW18) ?_
      refine lm (v := .slice p l.length c) rfl rfl ?_
      refine lm (v := .int .i64 id) rfl rfl ?_
      refine lv (v := .int .i64 ((j1 : Nat) : Int)) rfl rfl (yb_call (f := 35) (args := #[.slice p l.length c, .int .i64 id]) (fun _ => by kernel_rfl) fun W hW => (by have h9 := RFind_any l p c id (by omega) W ((RL.base HP.out) _ (hW.sub (fun _ h => by cases h))); rw [f2] at h9; exact h9)) ?_
      refine lm (v := .slice p l.length c) rfl rfl ?_
      refine lm (v := strV n) rfl rfl ?_
      refine lv (v := .int .i64 ((j2 : Nat) : Int)) rfl rfl (yb_call (f := 36) (args := #[.slice p l.length c, strV n]) (fun _ => by kernel_rfl) fun W hW => (by have h9 := RNumbered_any l p c n (by omega) W ((RL.base HP.out) _ (hW.sub (fun _ h => by cases h))); rw [nb2] at h9; exact h9)) ?_
      refine lm (v := .int .i64 ((j1 : Nat) : Int)) rfl rfl ?_
      refine lm (v := .int .i64 ((j2 : Nat) : Int)) rfl rfl ?_
      refine wpL_done (fun W19 hW19 => ?_)
      refine (show Code.wp _ _ _ _ _ from ?_)
      refine wp_seq ?_
      refine wp_seq ?_
      refine wp_region_V (W0 := w) ((g13, .cells (smL (totalX l)).toArray 66 (0, 0)) :: (g6, .cells (smL (totalX l)).toArray 47 (0, 0)) :: (g2, .cells (bxL b1).toArray 26 (0, 0)) :: (g1, .cells (putR cur1 l.length exB) 26 (0, 0)) :: (Km ++ (Kl9 ++ Kl11))) (by kernel_rfl) (hW19) ?_
      refine vm (i := 0) (v := .bool true) rfl rfl rfl ?_
      refine vm (i := 1) (v := .int .i64 ((j1 : Nat) : Int)) rfl rfl rfl ?_
      refine vp (i := 2) (v := .bool true) rfl rfl rfl (run_bin rfl (vx := (.int .i64 ((j1 : Nat) : Int))) (vy := (.int .i64 ((0 : Nat) : Int))) (by kernel_rfl) (by kernel_rfl) fun w => bn_geq (decide_eq_false (Nat.not_lt_zero _)) w) ?_
      refine vp (i := 3) (v := .bool false) rfl rfl rfl (run_bin rfl (vx := .bool true) (vy := .bool true) (by kernel_rfl) (by kernel_rfl) fun w => bn_bool_neq rfl Tryd.underlying4 w) ?_
      refine vm (i := 4) (v := .bool false) rfl rfl rfl ?_
      refine vm (i := 5) (v := .int .i64 ((j1 : Nat) : Int)) rfl rfl rfl ?_
      refine vp (i := 6) (v := .bool true) rfl rfl rfl (run_bin rfl (vx := (.int .i64 ((j1 : Nat) : Int))) (vy := (.int .i64 ((0 : Nat) : Int))) (by kernel_rfl) (by kernel_rfl) fun w => bn_geq (decide_eq_false (Nat.not_lt_zero _)) w) ?_
      refine vm (i := 7) (v := .bool true) rfl rfl rfl ?_
      refine vv (i := 8) (v := .agg (bxL b1).toArray) rfl rfl rfl (yb_load (n := 9) (off := 0) rfl (by kernel_rfl) (.tail _ (.tail _ (.head _))) Tryd.underlying26 rfl (by kernel_rfl) (by first | (simp [Value.cells]; done) | exact Nat.le_of_ble_eq_true rfl) (by kernel_rfl)) ?_
      refine vm (i := 9) (v := .slice p l.length c) rfl rfl rfl ?_
      refine vm (i := 10) (v := .int .i64 ((j1 : Nat) : Int)) rfl rfl rfl ?_
      obtain ⟨y15, g15_, f15_, hy15, hp15, hc15⟩ := RL.at (RL.base HP.out) bxL_len (by decide) (hW19.sub (fun _ h => by cases h)) (k := j1) (by omega)
      have ey15 : b1 = y15 := by rw [f3] at hy15; exact Option.some.inj hy15
      subst ey15
      refine vp (i := 11) (v := .pointer (some ⟨g15_, f15_ + j1 * 9, none⟩)) rfl rfl rfl (run_idxQ (p := p) (cap := c) (n := l.length) (j := .i64) (k := j1) (sz := 9) rfl Tryd.underlying22 (by kernel_rfl) (by kernel_rfl) hp15 (by kernel_rfl) (by omega)) ?_
      refine vb (i := 12) (v := .agg (bxL b1).toArray) rfl rfl rfl (yb_rs (off := f15_ + j1 * 9) (cs := bxL b1) rfl (by kernel_rfl) (fun W hW => hc15 W (hW.sub (fun _ h => by cases h))) Tryd.underlying26 rfl (by kernel_rfl)) ?_
      refine vp (i := 13) (v := .bool false) rfl rfl rfl (run_bin rfl (vx := .agg (bxL b1).toArray) (vy := .agg (bxL b1).toArray) (by kernel_rfl) (by kernel_rfl) fun w => neq_bx (a := b1) (b := b1) (decide_eq_true rfl) w) ?_
      refine vm (i := 14) (v := .bool false) rfl rfl rfl ?_
      refine vm (i := 15) (v := .bool false) rfl rfl rfl ?_
      refine vm (i := 16) (v := .bool false) rfl rfl rfl ?_
      refine vm (i := 17) (v := .int .i64 ((j1 : Nat) : Int)) rfl rfl rfl ?_
      refine vp (i := 18) (v := .bool false) rfl rfl rfl (run_bin rfl (vx := (.int .i64 ((j1 : Nat) : Int))) (vy := (.int .i64 ((0 : Nat) : Int))) (by kernel_rfl) (by kernel_rfl) fun w => bn_lss (decide_eq_false (Nat.not_lt_zero _)) w) ?_
      refine vm (i := 19) (v := .bool false) rfl rfl rfl ?_
      refine vn (i := 20) rfl rfl ?_
      refine vn (i := 21) rfl rfl ?_
      refine vn (i := 22) rfl rfl ?_
      refine vm (i := 23) (v := .bool false) rfl rfl rfl ?_
      refine vm (i := 24) (v := .bool false) rfl rfl rfl ?_
      refine wpV_done (by kernel_rfl) (fun W20 hW20 => ?_) _
      refine (show Code.wp _ _ _ _ _ from ?_)
      refine wp_cond_false rfl ?_
      refine wp_skip ?_
      refine (show Code.wp _ _ _ _ _ from ?_)
      refine wp_seq ?_
      refine wp_region_L (W0 := w) ((g13, .cells (smL (totalX l)).toArray 66 (0, 0)) :: (g6, .cells (smL (totalX l)).toArray 47 (0, 0)) :: (g2, .cells (bxL b1).toArray 26 (0, 0)) :: (g1, .cells (putR cur1 l.length exB) 26 (0, 0)) :: (Km ++ (Kl9 ++ Kl11))) (hW20) ?_
      refine lm (v := .bool true) rfl rfl ?_
      refine lm (v := .int .i64 ((j2 : Nat) : Int)) rfl rfl ?_
      refine lp (v := .bool true) rfl rfl (run_bin rfl (vx := (.int .i64 ((j2 : Nat) : Int))) (vy := (.int .i64 ((0 : Nat) : Int))) (by kernel_rfl) (by kernel_rfl) fun w => bn_geq (decide_eq_false (Nat.not_lt_zero _)) w) ?_
      refine lp (v := .bool true) rfl rfl (run_bin rfl (vx := .bool true) (vy := .bool true) (by kernel_rfl) (by kernel_rfl) fun w => bn_bool_eql rfl Tryd.underlying4 w) ?_
      refine lm (v := .bool true) rfl rfl ?_
      refine lm (v := .int .i64 ((j2 : Nat) : Int)) rfl rfl ?_
      refine lp (v := .bool true) rfl rfl (run_bin rfl (vx := (.int .i64 ((j2 : Nat) : Int))) (vy := (.int .i64 ((0 : Nat) : Int))) (by kernel_rfl) (by kernel_rfl) fun w => bn_geq (decide_eq_false (Nat.not_lt_zero _)) w) ?_
      refine lm (v := .bool true) rfl rfl ?_
      refine lm (v := .int .i64 b2.id) rfl rfl ?_
      refine lm (v := .slice p l.length c) rfl rfl ?_
      refine lm (v := .int .i64 ((j2 : Nat) : Int)) rfl rfl ?_
      obtain ⟨y16, g16_, f16_, hy16, hp16, hc16⟩ := RL.at (RL.base HP.out) bxL_len (by decide) (hW20.sub (fun _ h => by cases h)) (k := j2) (by omega)
      have ey16 : b2 = y16 := by rw [nb3] at hy16; exact Option.some.inj hy16
      subst ey16
      refine lp (v := .pointer (some ⟨g16_, f16_ + j2 * 9, none⟩)) rfl rfl (run_idxQ (p := p) (cap := c) (n := l.length) (j := .i64) (k := j2) (sz := 9) rfl Tryd.underlying22 (by kernel_rfl) (by kernel_rfl) hp16 (by kernel_rfl) (by omega)) ?_
      refine lm (v := .pointer (some ⟨g16_, f16_ + j2 * 9, none⟩)) rfl rfl ?_
      refine lv (v := .int .i64 b2.id) rfl rfl (yb_rf (v := .int .i64 b2.id) rfl (by kernel_rfl) (fun W hW => hc16 W (hW.sub (fun _ h => by cases h)) 0 _ rfl) Tryd.underlying3 rfl) ?_
      refine lp (v := .bool true) rfl rfl (run_bin rfl (vx := (.int .i64 b2.id)) (vy := (.int .i64 b2.id)) (by kernel_rfl) (by kernel_rfl) fun w => bi_eql (decide_eq_true rfl) w) ?_
      refine lm (v := .bool true) rfl rfl ?_
      refine lm (v := .bool true) rfl rfl ?_
      refine ln rfl ?_
      refine ln rfl ?_
      refine ln rfl ?_
      refine ln rfl ?_
      refine ln rfl ?_
      refine ln rfl ?_
      refine lm (v := .bool true) rfl rfl ?_
      refine lm (v := .bool true) rfl rfl ?_
      refine lm (v := .bool true) rfl rfl ?_
      refine wpL_done (fun W21 hW21 => ?_)
      refine (show Code.wp _ _ _ _ _ from ?_)
      refine wp_ret ?_
      try simp only [inBlock_ret, then_ret]
      refine bodyPost_ret (v := .bool true) ?_ rfl ?_
      · kernel_rfl
      · exact ⟨rfl, hW21.1⟩
    | true =>
      have h1 : k < ((orderX l).length) := of_decide_eq_true hd1
      clear hd1
      refine wp_cond_true rfl ?_
      refine wp_skip ?_
      refine (show Code.wp _ _ _ _ _ from ?_)
      refine wp_seq ?_
      refine wp_block ?_
      refine wp_seq ?_
      refine wp_region_L (W0 := w) ((g6, .cells (smL (totalX l)).toArray 47 (0, 0)) :: (g2, .cells (bxL b1).toArray 26 (0, 0)) :: (g1, .cells (putR cur1 l.length exB) 26 (0, 0)) :: Km) (hW12) ?_
      refine lm (v := .int .i64 ((k : Nat) : Int)) rfl rfl ?_
      refine lm (v := .int .i64 ((k : Nat) : Int)) rfl rfl ?_
      refine wpL_done (fun W22 hW22 => ?_)
      refine (show Code.wp _ _ _ _ _ from ?_)
      obtain ⟨g9, cap9, cur9, rfl, hB9, hR9, hr9, rfl⟩ := own_blk hO (by omega)
      obtain ⟨bq, hbq⟩ : ∃ y, m[k]? = some y := ⟨_, List.getElem?_eq_getElem (by omega)⟩
      have hcap9 := hR9.2.2.1
      have gng6 : g9 ≠ g6 := by simpa only [dk_cons, dk_nil, and_true] using (show Dk g6 [(g9, .cells cur9 26 (0, 0))] from by assumption)
      have gng2 : g9 ≠ g2 := by simpa only [dk_cons, dk_nil, and_true] using (show Dk g2 [(g9, .cells cur9 26 (0, 0))] from by assumption)
      have gng1 : g9 ≠ g1 := by simpa only [dk_cons, dk_nil, and_true] using (show Dk g1 [(g9, .cells cur9 26 (0, 0))] from by assumption)
      refine wp_region_L (W0 := w) [(g6, .cells (smL (totalX l)).toArray 47 (0, 0)), (g2, .cells (bxL b1).toArray 26 (0, 0)), (g1, .cells (putR cur1 l.length exB) 26 (0, 0)), (g9, .cells cur9 26 (0, 0))] (hW22) ?_
      refine lm (v := .slice (some ⟨g9, 0, none⟩) (orderX l).length cap9) rfl rfl ?_
      refine lm (v := .int .i64 ((k : Nat) : Int)) rfl rfl ?_
      refine lp (v := .pointer (some ⟨g9, 0 + k * 9, none⟩)) rfl rfl (run_idxL (j := .i64) (n := (orderX l).length) (cap := cap9) (b := g9) (off := 0) (k := k) (sz := 9) rfl Tryd.underlying22 (by kernel_rfl) (by kernel_rfl) (by kernel_rfl) (by omega)) ?_
      refine lm (v := .pointer (some ⟨g9, 0 + k * 9 + 4, none⟩)) rfl rfl ?_
      refine lv (v := .int .i64 bq.kilos) rfl rfl (yb_cell (off := 0 + k * 9 + 4) (v := .int .i64 bq.kilos) rfl (by kernel_rfl) (.tail _ (.tail _ (.tail _ (.head _)))) Tryd.underlying3 rfl (RowR.get hr9 bxL_len hbq 4 _ rfl)) ?_
      refine lp (v := .int .i64 (IntKind.i64.wrap (bq.kilos + 1))) rfl rfl (run_bin rfl (vx := .int .i64 bq.kilos) (vy := .int .i64 1) (by kernel_rfl) (by kernel_rfl) fun w => bw_add (z := (IntKind.i64.wrap (bq.kilos + 1))) rfl w) ?_
      refine lp (v := .pointer (some ⟨g9, 0 + k * 9, none⟩)) rfl rfl (run_idxL (j := .i64) (n := (orderX l).length) (cap := cap9) (b := g9) (off := 0) (k := k) (sz := 9) rfl Tryd.underlying22 (by kernel_rfl) (by kernel_rfl) (by kernel_rfl) (by omega)) ?_
      refine lm (v := .pointer (some ⟨g9, 0 + k * 9 + 4, none⟩)) rfl rfl ?_
      refine wpL_s [(g6, .cells (smL (totalX l)).toArray 47 (0, 0)), (g2, .cells (bxL b1).toArray 26 (0, 0)), (g1, .cells (putR cur1 l.length exB) 26 (0, 0)), (g9, .cells (cur9.setIfInBounds (0 + k * 9 + 4) (.int .i64 (IntKind.i64.wrap (bq.kilos + 1)))) 26 (0, 0))] rfl rfl (st_at (off := 0 + k * 9 + 4) (v := .int .i64 (IntKind.i64.wrap (bq.kilos + 1))) rfl (by kernel_rfl) (by kernel_rfl) (.tail _ (.tail _ (.tail _ (.head _)))) hB9 (by kernel_rfl) rfl rfl (by rw [hR9.1]; have h9 := hR9.2.2.1; omega) (.inr rfl) (List.forall_mem_cons.2 ⟨.inr ⟨(.head _), (by first | assumption | exact Ne.symm (by assumption))⟩, (List.forall_mem_cons.2 ⟨.inr ⟨(.tail _ (.head _)), (by first | assumption | exact Ne.symm (by assumption))⟩, (List.forall_mem_cons.2 ⟨.inr ⟨(.tail _ (.tail _ (.head _))), (by first | assumption | exact Ne.symm (by assumption))⟩, (List.forall_mem_cons.2 ⟨.inl rfl, (List.forall_mem_nil _)⟩)⟩)⟩)⟩)) ?_
      refine wpL_done (fun W23 hW23 => ?_)
      refine (show Code.wp _ _ _ _ _ from ?_)
      refine wp_region_L (W0 := w) [(g6, .cells (smL (totalX l)).toArray 47 (0, 0)), (g2, .cells (bxL b1).toArray 26 (0, 0)), (g1, .cells (putR cur1 l.length exB) 26 (0, 0)), (g9, .cells (cur9.setIfInBounds (0 + k * 9 + 4) (.int .i64 (IntKind.i64.wrap (bq.kilos + 1)))) 26 (0, 0))] (hW23) ?_
      refine lp (v := .int .i64 (((k + 1) : Nat) : Int)) rfl rfl (run_bin rfl (vx := (.int .i64 ((k : Nat) : Int))) (vy := (.int .i64 ((1 : Nat) : Int))) (by kernel_rfl) (by kernel_rfl) fun w => bn_add (z := (k + 1)) rfl (wr_i64 (by omega)) w) ?_
      refine lm (v := .int .i64 (((k + 1) : Nat) : Int)) rfl rfl ?_
      refine wpL_done (fun W24 hW24 => ?_)
      go_roundw
      case rel =>
        repeat apply Exists.intro
        exact ⟨⟨k + 1, (m.set k { bq with kilos := (IntKind.i64.wrap (bq.kilos + 1)) }), [(g9, .cells (cur9.setIfInBounds (0 + k * 9 + 4) (.int .i64 (IntKind.i64.wrap (bq.kilos + 1)))) 26 (0, 0))], (by omega), (by rw [List.length_set]; omega), (blk_own hB9 hR9 hbq rfl), (show Dk g6 [(g9, .cells (cur9.setIfInBounds (0 + k * 9 + 4) (.int .i64 (IntKind.i64.wrap (bq.kilos + 1)))) 26 (0, 0))] from (by (try simp only [dj_app_l, dj_app_r, dj_cons_l, dj_cons_r, dj_nil_l, dj_nil_r, dk_app, dk_cons, dk_nil, and_true, true_and, and_assoc]); repeat' (first | trivial | assumption | exact Dj.symm (by assumption) | exact Ne.symm (by assumption) | apply And.intro))), (show Dk g2 [(g9, .cells (cur9.setIfInBounds (0 + k * 9 + 4) (.int .i64 (IntKind.i64.wrap (bq.kilos + 1)))) 26 (0, 0))] from (by (try simp only [dj_app_l, dj_app_r, dj_cons_l, dj_cons_r, dj_nil_l, dj_nil_r, dk_app, dk_cons, dk_nil, and_true, true_and, and_assoc]); repeat' (first | trivial | assumption | exact Dj.symm (by assumption) | exact Ne.symm (by assumption) | apply And.intro))), (show Dk g1 [(g9, .cells (cur9.setIfInBounds (0 + k * 9 + 4) (.int .i64 (IntKind.i64.wrap (bq.kilos + 1)))) 26 (0, 0))] from (by (try simp only [dj_app_l, dj_app_r, dj_cons_l, dj_cons_r, dj_nil_l, dj_nil_r, dk_app, dk_cons, dk_nil, and_true, true_and, and_assoc]); repeat' (first | trivial | assumption | exact Dj.symm (by assumption) | exact Ne.symm (by assumption) | apply And.intro))), rfl, (hW24.sub (fun p hp => by first | exact hp | (simp only [List.mem_cons, List.mem_append, List.nil_append, List.not_mem_nil, or_assoc, or_false, false_or] at hp ⊢ <;> grind)))⟩, rfl⟩
      case measure => (show (orderX l).length - (intOf (.int .i64 (((k + 1) : Nat) : Int))).toNat < (orderX l).length - (intOf (.int .i64 ((k : Nat) : Int))).toNat); simp only [intOf]; omega
theorem lists_any (l : List Bx) (p : Option Addr) (c : Nat) (id : Int) (n : List UInt8) (hl : l.length ≤ 300) (w : World) (hp : SLV w p (bcs l)) : Calls Tryd.prog 11 #[.slice p l.length c, .int .i64 id, strV n] w fun e w' => e = .returned (.bool true) ∧ Below w.heap.size w w' := by
  rcases find_two (idIs id) l with ⟨f1, f2⟩ | ⟨b1, j1, f1, f2, f3⟩ <;> rcases find_two (numP n) l with ⟨g1, g2⟩ | ⟨b2, j2, g1, g2, g3⟩
  · exact lists_00 l p c id n hl f1 f2 g1 g2 w hp
  · exact lists_01 l p c id n hl f1 f2 b2 j2 g1 g2 g3 w hp
  · exact lists_10 l p c id n hl b1 j1 f1 f2 f3 g1 g2 w hp
  · exact lists_11 l p c id n hl b1 j1 f1 f2 f3 b2 j2 g1 g2 g3 w hp
end Go.Proofs.YtllmpemmknblaaaDoor
namespace Go.Proofs.YtllmpemmknblaaaDoor
open Go Go.RowKit Tw
set_option maxRecDepth 100000 in
set_option maxHeartbeats 4000000 in
theorem BoxLists_any (l : List Bx) (p : Option Addr) (c : Nat) (id : Int) (n : List UInt8) (w : World) (hp : SLV w p (bcs l)) (hE : Env w) : Calls Tryd.prog 3 #[.slice p l.length c, .int .i64 id, strV n] w fun e w' => e = .returned (.bool true) ∧ Below w.heap.size w w' := by
  have HP := Lib.hid hp
  clear hp
  have HE := Lib.hid hE
  clear hE
  go_enter Tryd.func3, Tryd.ntmps3
  refine wp_seq ?_
  refine wp_region_L (W0 := w) [] (KS.start w) ?_
  refine lm (v := .bool false) rfl rfl ?_
  refine wpL_done (fun W1 hW1 => ?_)
  refine (show Code.wp _ _ _ _ _ from ?_)
  refine wp_seq ?_
  refine wp_region_L (W0 := w) [] (hW1) ?_
  refine lm (v := .slice p l.length c) rfl rfl ?_
  refine lp (v := .int .i64 ((l.length : Nat) : Int)) rfl rfl (run_lenL (p := p) (cap := c) (n := l.length) rfl Tryd.underlying22 (by kernel_rfl)) ?_
  refine lp (v := .bool (decide (300 < l.length))) rfl rfl (run_bin rfl (vx := (.int .i64 ((l.length : Nat) : Int))) (vy := (.int .i64 ((300 : Nat) : Int))) (by kernel_rfl) (by kernel_rfl) fun w => bn_gtr rfl w) ?_
  refine lm (v := .bool (decide (300 < l.length))) rfl rfl ?_
  cases hd1 : (decide (300 < l.length)) with
  | false =>
    have h1 : ¬ (300 < l.length) := of_decide_eq_false hd1
    clear hd1
    refine lm (v := .slice p l.length c) rfl rfl ?_
    refine lm (v := .int .i64 id) rfl rfl ?_
    refine lm (v := strV n) rfl rfl ?_
    refine lv (v := .bool true) rfl rfl (yb_call (f := 11) (args := #[.slice p l.length c, .int .i64 id, strV n]) (fun _ => by kernel_rfl) fun W hW => lists_any l p c id n (by omega) W ((RL.base HP.out) _ (hW.sub (fun _ h => by cases h)))) ?_
    refine lm (v := .bool true) rfl rfl ?_
    refine lm (v := .bool true) rfl rfl ?_
    refine lv (v := .bool true) rfl rfl (yb_call (f := 12) (args := #[]) (fun _ => by kernel_rfl) fun W hW => awake_any W (HE.out.keep hW.1)) ?_
    refine lm (v := .bool true) rfl rfl ?_
    refine lm (v := .bool true) rfl rfl ?_
    refine wpL_done (fun W2 hW2 => ?_)
    refine (show Code.wp _ _ _ _ _ from ?_)
    refine wp_ret ?_
    try simp only [inBlock_ret, then_ret]
    refine bodyPost_ret (v := .bool true) ?_ rfl ?_
    · kernel_rfl
    · exact ⟨rfl, hW2.1⟩
  | true =>
    have h1 : 300 < l.length := of_decide_eq_true hd1
    clear hd1
    refine ln rfl ?_
    refine ln rfl ?_
    refine ln rfl ?_
    refine ln rfl ?_
    refine lm (v := .bool true) rfl rfl ?_
    refine lm (v := .bool true) rfl rfl ?_
    refine lv (v := .bool true) rfl rfl (yb_call (f := 12) (args := #[]) (fun _ => by kernel_rfl) fun W hW => awake_any W (HE.out.keep hW.1)) ?_
    refine lm (v := .bool true) rfl rfl ?_
    refine lm (v := .bool true) rfl rfl ?_
    refine wpL_done (fun W3 hW3 => ?_)
    refine (show Code.wp _ _ _ _ _ from ?_)
    refine wp_ret ?_
    try simp only [inBlock_ret, then_ret]
    refine bodyPost_ret (v := .bool true) ?_ rfl ?_
    · kernel_rfl
    · exact ⟨rfl, hW3.1⟩
end Go.Proofs.YtllmpemmknblaaaDoor
namespace Go.Proofs.YtllmpemmknblaaaDoor
open Go Go.RowKit Tw
def bxOk (b : Bx) : Prop := (-9223372036854775808 ≤ b.id ∧ b.id ≤ 9223372036854775807) ∧ b.num.length ≤ maxLen ∧ b.size ≤ 255 ∧ (-9223372036854775808 ≤ b.kilos ∧ b.kilos ≤ 9223372036854775807) ∧ (-9223372036854775808 ≤ b.load ∧ b.load ≤ 9223372036854775807) ∧ (-9223372036854775808 ≤ b.dis ∧ b.dis ≤ 9223372036854775807) ∧ b.cls ≤ 255
theorem opens_bx : OpensC Tryd.prog 26 (fun b => (bxC b).toList) bxOk := by
  intro H enc w base sp held fuel cs x h
  obtain ⟨hl, hf⟩ := trod_fld Tryd.underlying26 h
  have c9 : Tryd.prog.cellsOf 26 = 9 := by kernel_rfl
  rw [c9] at hl
  obtain ⟨v0, v1, v2, v3, v4, v5, v6, v7, v8, rfl⟩ : ∃ v0 v1 v2 v3 v4 v5 v6 v7 v8, cs = [v0, v1, v2, v3, v4, v5, v6, v7, v8] := by
    rcases cs with _ | ⟨v0, _ | ⟨v1, _ | ⟨v2, _ | ⟨v3, _ | ⟨v4, _ | ⟨v5, _ | ⟨v6, _ | ⟨v7, _ | ⟨v8, _ | ⟨v9, cs⟩⟩⟩⟩⟩⟩⟩⟩⟩⟩ <;> simp at hl
    exact ⟨v0, v1, v2, v3, v4, v5, v6, v7, v8, rfl⟩
  have key : ∀ (T : TypeId) (i : Nat) (f : Field) (v : Value), Tryd.prog.cellsOf T = 1 → (#[v0, v1, v2, v3, v4, v5, v6, v7, v8] : Array Value)[i]? = some v → f.type = T → f.offset = i → (∃ n y, DataW.trod enc Tryd.prog w base sp held n f.type ((([v0, v1, v2, v3, v4, v5, v6, v7, v8] : List Value).drop f.offset).take (Tryd.prog.cellsOf f.type)) = some y) → ∃ n y, DataW.trod enc Tryd.prog w base sp held n T [v] = some y := by
    intro T i f v hc hv ht ho ⟨n, y, hy⟩
    rw [ht, hc, ho] at hy
    have hv2 : ([v0, v1, v2, v3, v4, v5, v6, v7, v8] : List Value)[i]? = some v := by simpa using hv
    obtain ⟨hi, hvi⟩ := List.getElem?_eq_some_iff.1 hv2
    rw [List.drop_eq_getElem_cons hi, hvi] at hy
    exact ⟨n, y, hy⟩
  have ki : ∀ (i : Nat) (f : Field) (v : Value), (#[v0, v1, v2, v3, v4, v5, v6, v7, v8] : Array Value)[i]? = some v → f.type = 3 → f.offset = i → (∃ n y, DataW.trod enc Tryd.prog w base sp held n f.type ((([v0, v1, v2, v3, v4, v5, v6, v7, v8] : List Value).drop f.offset).take (Tryd.prog.cellsOf f.type)) = some y) → ∃ z : Int, v = .int .i64 z ∧ -9223372036854775808 ≤ z ∧ z ≤ 9223372036854775807 := by
    intro i f v hv ht ho hy
    obtain ⟨n, y, hy2⟩ := key 3 i f v (by kernel_rfl) hv ht ho hy
    obtain ⟨z, hz, h1, h2⟩ := fld_int (P := Tryd.prog) Tryd.underlying3 hy2
    exact ⟨z, by simpa using hz, h1, h2⟩
  have ku : ∀ (i : Nat) (f : Field) (v : Value), (#[v0, v1, v2, v3, v4, v5, v6, v7, v8] : Array Value)[i]? = some v → f.type = 5 → f.offset = i → (∃ n y, DataW.trod enc Tryd.prog w base sp held n f.type ((([v0, v1, v2, v3, v4, v5, v6, v7, v8] : List Value).drop f.offset).take (Tryd.prog.cellsOf f.type)) = some y) → ∃ z : Nat, v = .int .u8 ((z : Nat) : Int) ∧ z ≤ 255 := by
    intro i f v hv ht ho hy
    obtain ⟨n, y, hy2⟩ := key 5 i f v (by kernel_rfl) hv ht ho hy
    obtain ⟨z, hz, h1, h2⟩ := fld_int (P := Tryd.prog) Tryd.underlying5 hy2
    have h3 : (0 : Int) ≤ z := h1
    have h4 : z ≤ (255 : Int) := h2
    have hz0 : v = .int .u8 z := by simpa using hz
    exact ⟨z.toNat, by rw [hz0, Int.toNat_of_nonneg h3], by omega⟩
  have ks : ∀ (i : Nat) (f : Field) (v : Value), (#[v0, v1, v2, v3, v4, v5, v6, v7, v8] : Array Value)[i]? = some v → f.type = 9 → f.offset = i → (∃ n y, DataW.trod enc Tryd.prog w base sp held n f.type ((([v0, v1, v2, v3, v4, v5, v6, v7, v8] : List Value).drop f.offset).take (Tryd.prog.cellsOf f.type)) = some y) → ∃ z : List UInt8, v = strV z ∧ z.length ≤ maxLen := by
    intro i f v hv ht ho hy
    obtain ⟨n, y, hy2⟩ := key 9 i f v (by kernel_rfl) hv ht ho hy
    obtain ⟨z, hz, h1⟩ := fld_str (P := Tryd.prog) Tryd.underlying9 hy2
    exact ⟨z, by simpa using hz, h1⟩
  have kb : ∀ (i : Nat) (f : Field) (v : Value), (#[v0, v1, v2, v3, v4, v5, v6, v7, v8] : Array Value)[i]? = some v → f.type = 4 → f.offset = i → (∃ n y, DataW.trod enc Tryd.prog w base sp held n f.type ((([v0, v1, v2, v3, v4, v5, v6, v7, v8] : List Value).drop f.offset).take (Tryd.prog.cellsOf f.type)) = some y) → ∃ z : Bool, v = .bool z := by
    intro i f v hv ht ho hy
    obtain ⟨n, y, hy2⟩ := key 4 i f v (by kernel_rfl) hv ht ho hy
    obtain ⟨z, hz⟩ := fld_bool (P := Tryd.prog) Tryd.underlying4 hy2
    exact ⟨z, by simpa using hz⟩
  obtain ⟨n0, rfl, b0, e0⟩ := ki 0 _ v0 rfl rfl rfl (hf 0 _ rfl)
  obtain ⟨n1, rfl, b1⟩ := ks 1 _ v1 rfl rfl rfl (hf 1 _ rfl)
  obtain ⟨n2, rfl, b2⟩ := ku 2 _ v2 rfl rfl rfl (hf 2 _ rfl)
  obtain ⟨n3, rfl⟩ := kb 3 _ v3 rfl rfl rfl (hf 3 _ rfl)
  obtain ⟨n4, rfl, b4, e4⟩ := ki 4 _ v4 rfl rfl rfl (hf 4 _ rfl)
  obtain ⟨n5, rfl, b5, e5⟩ := ki 5 _ v5 rfl rfl rfl (hf 5 _ rfl)
  obtain ⟨n6, rfl, b6, e6⟩ := ki 6 _ v6 rfl rfl rfl (hf 6 _ rfl)
  obtain ⟨n7, rfl, b7⟩ := ku 7 _ v7 rfl rfl rfl (hf 7 _ rfl)
  obtain ⟨n8, rfl⟩ := kb 8 _ v8 rfl rfl rfl (hf 8 _ rfl)
  exact ⟨⟨n0, n1, n2, n3, n4, n5, n6, n7, n8⟩, rfl, ⟨b0, e0⟩, b1, b2, ⟨b4, e4⟩, ⟨b5, e5⟩, ⟨b6, e6⟩, b7⟩
end Go.Proofs.YtllmpemmknblaaaDoor
/- BoxLists holds for every input: the program's own answer is true, wherever the listed variables are as the program's text lays them; each argument reads afterwards as it read before. -/
namespace Go.Proofs.YtllmpemmknblaaaDoor
open Go.ChangeShapes Go.WideShapes Go.ChangeAt Go.RowKit Tw
set_option maxRecDepth 100000 in
theorem boxLists_lifted (os : Os) (started : os.Started) (H : Type) (enc : TypeId × Value → H) :
    ReturnsInHanded {} Tryd.checked os 3 .any (fun w args => (Rows.boxListsSpec.pre enc Tryd.prog Tryd.f3 Rows.boxListsRow.domain false w args ∧ laidMetH Tryd.prog laidN w) ∧ sizedMet enc Tryd.prog Tryd.f3 (OpenSpec.ofChange Rows.boxListsSpec) false w args) (Rows.boxListsSpec.post enc Tryd.prog Tryd.f3 false true false false) := by
  refine handed_and_sized (C := Tryd.checked) (X := fun w => laidMetH Tryd.prog laidN w) (fun _ _ hh h => h.of_heap hh) own started (by kernel_rfl) Tryd.func3
    (ChangeSpec.witness_shaped (enc := enc) (C := Tryd.checked) (os := os) (X := fun w _ => laidMetH Tryd.prog laidN w) false (World.doorLaid Tryd.prog 1000 os) #[.slice none 0 0, .int .i64 0, .string ByteArray.empty] 8 rfl (World.shaped_of_RefB (by kernel_rfl) (by kernel_rfl)) (by kernel_rfl) (by kernel_rfl) (by kernel_rfl) (door_met os _)) ?_
  intro W base args ds gs before hval0 hW hL hsh hsz
  have hval : ∀ (j : Nat) t v, Tryd.f3.params[j]? = some t → args[j]? = some v → Value.okWide Tryd.prog W .any base t v := hval0
  have hW2 := hW
  obtain ⟨p, q, hA0, hV, rfl, hfz, hnd⟩ := hW2
  have hA : DataW.TrodAll enc Tryd.prog W 0 (fun _ => true) true Tryd.f3.params.toList args.toList ds p := hA0
  rw [Tryd.params3] at hA hval
  obtain ⟨v0, vs0, d0, ds0, p0, q0, hargs, rfl, rfl, h0, r0⟩ := trodAll_cons hA
  obtain ⟨v1, vs1, d1, ds1, p1, q1, rfl, rfl, rfl, h1, r1⟩ := trodAll_cons r0
  obtain ⟨v2, vs2, d2, ds2, p2, q2, rfl, rfl, rfl, h2, r2⟩ := trodAll_cons r1
  obtain ⟨rfl, rfl, rfl⟩ := trodAll_nil r2
  obtain rfl : args = #[v0, v1, v2] := by cases args; simp_all
  obtain ⟨rfl, rfl⟩ := trodVars_none hV
  have k0 := h0
  have lt0 : ∀ x ∈ p0, x.block < W.heap.size := by obtain ⟨m, hm⟩ := k0; exact DataW.trod_lt m _ _ _ hm
  obtain ⟨p0_, c0, l0, rfl, hb0, hok0, hl0, hc0⟩ := open_recs (sz := 9) Tryd.underlying22 opens_bx (by kernel_rfl) (by omega) (fun _ => rfl) (hval 0 22 v0 rfl rfl) h0
  obtain ⟨a1, rfl, rfl, rfl, w1⟩ := open_int Tryd.underlying3 (hval 1 3 v1 rfl rfl) h1
  obtain ⟨s2, rfl, rfl, rfl, w2⟩ := ChangeMaps.open_string Tryd.underlying9 (hval 2 9 v2 rfl rfl) h2
  clear hA0 hval0
  refine (BoxLists_any l0 p0_ c0 a1 s2.data.toList W hb0 (env_of hL)).mono fun e W' ⟨he, bel⟩ => ?_
  subst he
  exact ⟨_, rfl, _, _, _, [], _, [], hW, (trodAll_cons_mk (shut_bool Tryd.underlying4 _) trodAll_mk0), (trodAll_cons_mk (Below.trod laidOut (by kernel_rfl) (of_decide_eq_true (by kernel_rfl)) k0 bel lt0) (trodAll_cons_mk (shut_int Tryd.underlying3 w1) (trodAll_cons_mk (ChangeMaps.shut_string Tryd.underlying9 w2) trodAll_mk0))), rfl, bel.frame _, fun h => by cases h⟩
theorem boxLists_said : Rows.BoxListsSaid :=
  OpenClaim.holds_of_wide 3 Tryd.f3 rfl rfl rfl rfl rfl rfl rfl ⟨rfl, rfl, rfl, rfl, rfl⟩ rfl rfl rfl rfl rfl (by kernel_rfl) Tryd.func3 (by kernel_rfl)
    (of_decide_eq_true (by kernel_rfl)) (by unfold Func.isWrapper; first | (rw [if_pos (by decide +kernel)]; kernel_rfl) | (rw [if_neg (by decide +kernel)]; exact ⟨rfl, rfl⟩))
    (fun os started H enc _ => boxLists_lifted os started H enc)
theorem boxLists_proved : Rows.BoxListsCardSaid :=
  Claim7.holds_tied_plain_at .later [] [.data] true Rows.boxListsCard.stood.harness Rows.boxListsCard.stood.looks
    boxLists_said (fun _ h => by cases h) (by kernel_rfl) (fun _ h => by cases h) boxLists_row_tie rfl ⟨rfl, rfl⟩ (by kernel_rfl) rfl
    (fun f fn hf hfn => by
      obtain rfl : f = 3 := Option.some.inj ((show Tryd.prog.funcNamed "twistlock/twistlocklaw06.BoxLists" = some 3 by kernel_rfl).symm.trans hf) |>.symm
      obtain rfl : fn = Tryd.f3 := (Option.some.inj (Tryd.func3.symm.trans hfn)).symm
      exact ⟨by kernel_rfl, fun j t ht => by
        rw [Tryd.params3] at ht
        have hm : t ∈ [22, 3, 9] := by simpa using Array.mem_of_getElem? ht
        have hall : ([22, 3, 9].all fun u => !Tryd.prog.wantsStandIn u) = true := by kernel_rfl
        exact (show Tryd.prog.wantsStandIn t = false by simpa using List.all_eq_true.1 hall t hm)⟩)
    (by kernel_rfl)
#print axioms boxLists_proved
end Go.Proofs.YtllmpemmknblaaaDoor
