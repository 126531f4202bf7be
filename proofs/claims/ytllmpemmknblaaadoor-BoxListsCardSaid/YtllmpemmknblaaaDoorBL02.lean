import Derived.Test.YtllmpemmknblaaaDoorBL01
import Derived.Test.YtllmpemmknblaaaDoorBL00
import Derived.Carry
import Derived.MapKept
import Derived.ChangeMaps5
import Derived.Deep.AppendSrc
import Derived.Deep.Upon
import Derived.Laws.RangeAny
/- Part of the proof: HG, Hm, HH, HI, HJ, HK, HL, Sr, Sj, Hs, HM. -/
set_option linter.unusedVariables false
set_option linter.unusedSimpArgs false
set_option linter.unusedSectionVars false
namespace Go.Proofs.YtllmpemmknblaaaDoor
open Go Go.RowKit Tw
theorem sm_ok (l : List Bx) {k : Nat} (hk : k ≤ 4000000000) : SmOk 4000000000 (totalX (l.take k)) := by
  have h := total_ok l k
  unfold SmOk at *
  generalize totalX (l.take k) = s at *
  omega
set_option maxRecDepth 100000 in
set_option maxHeartbeats 4000000 in
theorem add_any {W0 : Base} {K : List (Nat × Obj)} {g : Nat} (s : Sm) (b : Bx) (hs : SmOk 4000000000 s) (hr : rightX b = true) (hB : W0.B ≤ g) (hg : ∀ q ∈ K, q.1 ≠ g) (w : World) (hw : KS W0 ((g, .cells (smC s) 82 (0, 0)) :: K) w) :
    Calls Tryd.prog 45 #[.pointer (some ⟨g, 0, none⟩), bxV b] w fun e w' => ∃ v K', e = .returned v ∧ KS W0 K' w' ∧ (v = .tuple #[] ∧ K' = (g, .cells (smC (add1 s b)) 82 (0, 0)) :: K) := by
  obtain ⟨h1, h2, h3, h4, h5, h6⟩ := hs
  have hk := right_kilos hr
  have hh := halves_le b
  go_enter Tryd.func45, Tryd.ntmps45
  refine wp_seq ?_
  refine wp_region_L (W0 := W0) ((g, .cells (smC s) 82 (0, 0)) :: K) (hw) ?_
  refine wpL_new (fun g => .pointer (some ⟨g, 0, none⟩)) (obi := .cells (bxC b) 26 (0, 0)) rfl rfl (fun _ => by kernel_rfl) (fun _ => by simp only [List.setIfInBounds_toArray, List.set_cons_succ, List.set_cons_zero] <;> rfl) fun g1 Bg1 Fg1 => ?_
  refine wpL_done (fun W1 hW1 => ?_)
  refine (show Code.wp _ _ _ _ _ from ?_)
  refine wp_seq ?_
  refine wp_region_L (W0 := W0) ((g1, .cells (bxC b) 26 (0, 0)) :: (g, .cells (smC s) 82 (0, 0)) :: K) (hW1) ?_
  refine lm (v := .pointer (some ⟨g, 0, none⟩)) rfl rfl ?_
  refine lm (v := .pointer (some ⟨g, 0, none⟩)) rfl rfl ?_
  refine lm (v := .pointer (some ⟨g, 0, none⟩)) rfl rfl ?_
  refine lm (v := .pointer (some ⟨g, 0, none⟩)) rfl rfl ?_
  refine lv (v := .int .i64 ((s.n : Nat) : Int)) rfl rfl (yb_cell (off := 0) rfl (by kernel_rfl) (.tail _ (.head _)) Tryd.underlying3 rfl (by kernel_rfl)) ?_
  refine lp (v := .int .i64 (((s.n + 1) : Nat) : Int)) rfl rfl (run_bin rfl (vx := (.int .i64 ((s.n : Nat) : Int))) (vy := (.int .i64 ((1 : Nat) : Int))) (by kernel_rfl) (by kernel_rfl) fun w => bn_add (z := (s.n + 1)) rfl (wr_i64 (by omega)) w) ?_
  refine lm (v := .pointer (some ⟨g, 0, none⟩)) rfl rfl ?_
  refine lm (v := .pointer (some ⟨g, 0, none⟩)) rfl rfl ?_
  refine lm (v := .pointer (some ⟨g, 0, none⟩)) rfl rfl ?_
  refine wpL_s ((g1, .cells (bxC b) 26 (0, 0)) :: (g, .cells #[.int .i64 (((s.n + 1) : Nat) : Int), .int .i64 ((s.h : Nat) : Int), .int .i64 s.k, .int .i64 ((s.r : Nat) : Int), .int .i64 ((s.d : Nat) : Int)] 82 (0, 0)) :: K) rfl rfl (st_row (off := 0) (v := .int .i64 (((s.n + 1) : Nat) : Int)) rfl (by kernel_rfl) (by kernel_rfl) (.tail _ (.head _)) hB (by kernel_rfl) (by first | (simp [Value.cells]; done) | exact Nat.le_of_ble_eq_true rfl) (by intro v hv; simp [Value.cells, strV] at hv; first | (subst hv; rfl) | (rcases hv with rfl <;> rfl)) (by kernel_rfl) (List.forall_mem_cons.2 ⟨.inr ⟨(.head _), (Ne.symm (Fg1 _ (.head _)))⟩, (List.forall_mem_cons.2 ⟨.inl rfl, (fun p hp => .inr ⟨(.tail _ (.tail _ hp)), (hg _ hp)⟩)⟩)⟩)) ?_
  refine wpL_done (fun W2 hW2 => ?_)
  refine (show Code.wp _ _ _ _ _ from ?_)
  refine wp_seq ?_
  refine wp_region_V (W0 := W0) ((g1, .cells (bxC b) 26 (0, 0)) :: (g, .cells #[.int .i64 (((s.n + 1) : Nat) : Int), .int .i64 ((s.h : Nat) : Int), .int .i64 s.k, .int .i64 ((s.r : Nat) : Int), .int .i64 ((s.d : Nat) : Int)] 82 (0, 0)) :: K) (by kernel_rfl) (hW2) ?_
  refine vm (i := 0) (v := .pointer (some ⟨g, 0, none⟩)) rfl rfl rfl ?_
  refine vm (i := 1) (v := .pointer (some ⟨g, 0, none⟩)) rfl rfl rfl ?_
  refine vm (i := 2) (v := .pointer (some ⟨g, 0, none⟩)) rfl rfl rfl ?_
  refine vm (i := 3) (v := .pointer (some ⟨g, 1, none⟩)) rfl rfl rfl ?_
  refine vv (i := 4) (v := .int .i64 ((s.h : Nat) : Int)) rfl rfl rfl (yb_cell (off := 1) rfl (by kernel_rfl) (.tail _ (.head _)) Tryd.underlying3 rfl (by kernel_rfl)) ?_
  refine vv (i := 5) (v := bxV b) rfl rfl rfl (yb_load (n := 9) (off := 0) rfl (by kernel_rfl) (.head _) Tryd.underlying26 rfl (by kernel_rfl) (Nat.le_refl 9) (by kernel_rfl)) ?_
  refine vv (i := 6) (v := .int .i64 (((halvesX b) : Nat) : Int)) rfl rfl rfl (yb_call (f := 22) (args := #[bxV b]) (fun _ => by kernel_rfl) fun W hW => Halves_any b W) ?_
  refine vp (i := 7) (v := .int .i64 (((s.h + (halvesX b)) : Nat) : Int)) rfl rfl rfl (run_bin rfl (vx := (.int .i64 ((s.h : Nat) : Int))) (vy := (.int .i64 (((halvesX b) : Nat) : Int))) (by kernel_rfl) (by kernel_rfl) fun w => bn_add (z := (s.h + (halvesX b))) rfl (wr_i64 (by omega)) w) ?_
  refine vm (i := 8) (v := .pointer (some ⟨g, 0, none⟩)) rfl rfl rfl ?_
  refine vm (i := 9) (v := .pointer (some ⟨g, 0, none⟩)) rfl rfl rfl ?_
  refine vm (i := 10) (v := .pointer (some ⟨g, 1, none⟩)) rfl rfl rfl ?_
  refine wpV_s ((g1, .cells (bxC b) 26 (0, 0)) :: (g, .cells #[.int .i64 (((s.n + 1) : Nat) : Int), .int .i64 (((s.h + (halvesX b)) : Nat) : Int), .int .i64 s.k, .int .i64 ((s.r : Nat) : Int), .int .i64 ((s.d : Nat) : Int)] 82 (0, 0)) :: K) (i := 11) rfl (by kernel_rfl) rfl rfl rfl (st_row (off := 1) (v := .int .i64 (((s.h + (halvesX b)) : Nat) : Int)) rfl (by kernel_rfl) (by kernel_rfl) (.tail _ (.head _)) hB (by kernel_rfl) (by first | (simp [Value.cells]; done) | exact Nat.le_of_ble_eq_true rfl) (by intro v hv; simp [Value.cells, strV] at hv; first | (subst hv; rfl) | (rcases hv with rfl <;> rfl)) (by kernel_rfl) (List.forall_mem_cons.2 ⟨.inr ⟨(.head _), (Ne.symm (Fg1 _ (.head _)))⟩, (List.forall_mem_cons.2 ⟨.inl rfl, (fun p hp => .inr ⟨(.tail _ (.tail _ hp)), (hg _ hp)⟩)⟩)⟩)) ?_
  refine wpV_done (by kernel_rfl) (fun W3 hW3 => ?_) _
  refine (show Code.wp _ _ _ _ _ from ?_)
  refine wp_seq ?_
  refine wp_region_V (W0 := W0) ((g1, .cells (bxC b) 26 (0, 0)) :: (g, .cells #[.int .i64 (((s.n + 1) : Nat) : Int), .int .i64 (((s.h + (halvesX b)) : Nat) : Int), .int .i64 s.k, .int .i64 ((s.r : Nat) : Int), .int .i64 ((s.d : Nat) : Int)] 82 (0, 0)) :: K) (by kernel_rfl) (hW3) ?_
  refine vm (i := 0) (v := .pointer (some ⟨g, 0, none⟩)) rfl rfl rfl ?_
  refine vm (i := 1) (v := .pointer (some ⟨g, 0, none⟩)) rfl rfl rfl ?_
  refine vm (i := 2) (v := .pointer (some ⟨g, 0, none⟩)) rfl rfl rfl ?_
  refine vm (i := 3) (v := .pointer (some ⟨g, 2, none⟩)) rfl rfl rfl ?_
  refine vv (i := 4) (v := .int .i64 s.k) rfl rfl rfl (yb_cell (off := 2) rfl (by kernel_rfl) (.tail _ (.head _)) Tryd.underlying3 rfl (by kernel_rfl)) ?_
  refine vm (i := 5) (v := .pointer (some ⟨g1, 4, none⟩)) rfl rfl rfl ?_
  refine vv (i := 6) (v := .int .i64 b.kilos) rfl rfl rfl (yb_cell (off := 4) rfl (by kernel_rfl) (.head _) Tryd.underlying3 rfl (by kernel_rfl)) ?_
  refine vp (i := 7) (v := .int .i64 (s.k + b.kilos)) rfl rfl rfl (run_bin rfl (vx := (.int .i64 s.k)) (vy := (.int .i64 b.kilos)) (by kernel_rfl) (by kernel_rfl) fun w => bi_add (z := (s.k + b.kilos)) rfl (wi_i64 (by omega)) w) ?_
  refine vm (i := 8) (v := .pointer (some ⟨g, 0, none⟩)) rfl rfl rfl ?_
  refine vm (i := 9) (v := .pointer (some ⟨g, 0, none⟩)) rfl rfl rfl ?_
  refine vm (i := 10) (v := .pointer (some ⟨g, 2, none⟩)) rfl rfl rfl ?_
  refine wpV_s ((g1, .cells (bxC b) 26 (0, 0)) :: (g, .cells #[.int .i64 (((s.n + 1) : Nat) : Int), .int .i64 (((s.h + (halvesX b)) : Nat) : Int), .int .i64 (s.k + b.kilos), .int .i64 ((s.r : Nat) : Int), .int .i64 ((s.d : Nat) : Int)] 82 (0, 0)) :: K) (i := 11) rfl (by kernel_rfl) rfl rfl rfl (st_row (off := 2) (v := .int .i64 (s.k + b.kilos)) rfl (by kernel_rfl) (by kernel_rfl) (.tail _ (.head _)) hB (by kernel_rfl) (by first | (simp [Value.cells]; done) | exact Nat.le_of_ble_eq_true rfl) (by intro v hv; simp [Value.cells, strV] at hv; first | (subst hv; rfl) | (rcases hv with rfl <;> rfl)) (by kernel_rfl) (List.forall_mem_cons.2 ⟨.inr ⟨(.head _), (Ne.symm (Fg1 _ (.head _)))⟩, (List.forall_mem_cons.2 ⟨.inl rfl, (fun p hp => .inr ⟨(.tail _ (.tail _ hp)), (hg _ hp)⟩)⟩)⟩)) ?_
  refine wpV_done (by kernel_rfl) (fun W4 hW4 => ?_) _
  refine (show Code.wp _ _ _ _ _ from ?_)
  refine wp_seq ?_
  refine wp_seq ?_
  refine wp_region_L (W0 := W0) ((g1, .cells (bxC b) 26 (0, 0)) :: (g, .cells #[.int .i64 (((s.n + 1) : Nat) : Int), .int .i64 (((s.h + (halvesX b)) : Nat) : Int), .int .i64 (s.k + b.kilos), .int .i64 ((s.r : Nat) : Int), .int .i64 ((s.d : Nat) : Int)] 82 (0, 0)) :: K) (hW4) ?_
  refine lm (v := .pointer (some ⟨g1, 8, none⟩)) rfl rfl ?_
  refine lv (v := .bool b.rf) rfl rfl (yb_cell (off := 8) rfl (by kernel_rfl) (.head _) Tryd.underlying4 rfl (by kernel_rfl)) ?_
  refine wpL_done (fun W5 hW5 => ?_)
  refine (show Code.wp _ _ _ _ _ from ?_)
  cases h1 : b.rf with
  | false =>
    refine wp_cond_false rfl ?_
    refine wp_skip ?_
    refine (show Code.wp _ _ _ _ _ from ?_)
    refine wp_seq ?_
    refine wp_region_L (W0 := W0) ((g1, .cells (bxC b) 26 (0, 0)) :: (g, .cells #[.int .i64 (((s.n + 1) : Nat) : Int), .int .i64 (((s.h + (halvesX b)) : Nat) : Int), .int .i64 (s.k + b.kilos), .int .i64 ((s.r : Nat) : Int), .int .i64 ((s.d : Nat) : Int)] 82 (0, 0)) :: K) (hW5) ?_
    refine lm (v := .pointer (some ⟨g1, 7, none⟩)) rfl rfl ?_
    refine lv (v := .int .u8 ((b.cls : Nat) : Int)) rfl rfl (yb_cell (off := 7) rfl (by kernel_rfl) (.head _) Tryd.underlying5 rfl (by kernel_rfl)) ?_
    refine lp (v := .bool (!(decide (b.cls = 0)))) rfl rfl (run_bin rfl (vx := (.int .u8 ((b.cls : Nat) : Int))) (vy := (.int .u8 ((0 : Nat) : Int))) (by kernel_rfl) (by kernel_rfl) fun w => bn_neq rfl w) ?_
    refine wpL_done (fun W6 hW6 => ?_)
    refine (show Code.wp _ _ _ _ _ from ?_)
    cases hd2 : (decide (b.cls = 0)) with
    | false =>
      have h2 : ¬ (b.cls = 0) := of_decide_eq_false hd2
      clear hd2
      refine wp_cond_true rfl ?_
      refine wp_region_L (W0 := W0) ((g1, .cells (bxC b) 26 (0, 0)) :: (g, .cells #[.int .i64 (((s.n + 1) : Nat) : Int), .int .i64 (((s.h + (halvesX b)) : Nat) : Int), .int .i64 (s.k + b.kilos), .int .i64 ((s.r : Nat) : Int), .int .i64 ((s.d : Nat) : Int)] 82 (0, 0)) :: K) (hW6) ?_
      refine lm (v := .pointer (some ⟨g, 0, none⟩)) rfl rfl ?_
      refine lm (v := .pointer (some ⟨g, 0, none⟩)) rfl rfl ?_
      refine lm (v := .pointer (some ⟨g, 0, none⟩)) rfl rfl ?_
      refine lm (v := .pointer (some ⟨g, 4, none⟩)) rfl rfl ?_
      refine lv (v := .int .i64 ((s.d : Nat) : Int)) rfl rfl (yb_cell (off := 4) rfl (by kernel_rfl) (.tail _ (.head _)) Tryd.underlying3 rfl (by kernel_rfl)) ?_
      refine lp (v := .int .i64 (((s.d + 1) : Nat) : Int)) rfl rfl (run_bin rfl (vx := (.int .i64 ((s.d : Nat) : Int))) (vy := (.int .i64 ((1 : Nat) : Int))) (by kernel_rfl) (by kernel_rfl) fun w => bn_add (z := (s.d + 1)) rfl (wr_i64 (by omega)) w) ?_
      refine lm (v := .pointer (some ⟨g, 0, none⟩)) rfl rfl ?_
      refine lm (v := .pointer (some ⟨g, 0, none⟩)) rfl rfl ?_
      refine lm (v := .pointer (some ⟨g, 4, none⟩)) rfl rfl ?_
      refine wpL_s ((g1, .cells (bxC b) 26 (0, 0)) :: (g, .cells #[.int .i64 (((s.n + 1) : Nat) : Int), .int .i64 (((s.h + (halvesX b)) : Nat) : Int), .int .i64 (s.k + b.kilos), .int .i64 ((s.r : Nat) : Int), .int .i64 (((s.d + 1) : Nat) : Int)] 82 (0, 0)) :: K) rfl rfl (st_row (off := 4) (v := .int .i64 (((s.d + 1) : Nat) : Int)) rfl (by kernel_rfl) (by kernel_rfl) (.tail _ (.head _)) hB (by kernel_rfl) (by first | (simp [Value.cells]; done) | exact Nat.le_of_ble_eq_true rfl) (by intro v hv; simp [Value.cells, strV] at hv; first | (subst hv; rfl) | (rcases hv with rfl <;> rfl)) (by kernel_rfl) (List.forall_mem_cons.2 ⟨.inr ⟨(.head _), (Ne.symm (Fg1 _ (.head _)))⟩, (List.forall_mem_cons.2 ⟨.inl rfl, (fun p hp => .inr ⟨(.tail _ (.tail _ hp)), (hg _ hp)⟩)⟩)⟩)) ?_
      refine wpL_done (fun W7 hW7 => ?_)
      refine bodyPost_end (v := .tuple #[]) (results_none rfl _ _ _) rfl ?_
      have he : (smC (add1 s b)) = #[.int .i64 (((s.n + 1) : Nat) : Int), .int .i64 (((s.h + (halvesX b)) : Nat) : Int), .int .i64 (s.k + b.kilos), .int .i64 ((s.r : Nat) : Int), .int .i64 (((s.d + 1) : Nat) : Int)] := by simp [smC, add1, h1, h2]
      exact ⟨_, _, rfl, by rw [he]; exact hW7.sub (List.forall_mem_cons.2 ⟨(.tail _ (.head _)), fun p hp => (.tail _ (.tail _ hp))⟩), rfl, rfl⟩
    | true =>
      have h2 : b.cls = 0 := of_decide_eq_true hd2
      clear hd2
      refine wp_cond_false rfl ?_
      refine wp_skip ?_
      refine bodyPost_end (v := .tuple #[]) (results_none rfl _ _ _) rfl ?_
      have he : (smC (add1 s b)) = #[.int .i64 (((s.n + 1) : Nat) : Int), .int .i64 (((s.h + (halvesX b)) : Nat) : Int), .int .i64 (s.k + b.kilos), .int .i64 ((s.r : Nat) : Int), .int .i64 ((s.d : Nat) : Int)] := by simp [smC, add1, h1, h2]
      exact ⟨_, _, rfl, by rw [he]; exact hW6.sub (List.forall_mem_cons.2 ⟨(.tail _ (.head _)), fun p hp => (.tail _ (.tail _ hp))⟩), rfl, rfl⟩
  | true =>
    refine wp_cond_true rfl ?_
    refine wp_region_L (W0 := W0) ((g1, .cells (bxC b) 26 (0, 0)) :: (g, .cells #[.int .i64 (((s.n + 1) : Nat) : Int), .int .i64 (((s.h + (halvesX b)) : Nat) : Int), .int .i64 (s.k + b.kilos), .int .i64 ((s.r : Nat) : Int), .int .i64 ((s.d : Nat) : Int)] 82 (0, 0)) :: K) (hW5) ?_
    refine lm (v := .pointer (some ⟨g, 0, none⟩)) rfl rfl ?_
    refine lm (v := .pointer (some ⟨g, 0, none⟩)) rfl rfl ?_
    refine lm (v := .pointer (some ⟨g, 0, none⟩)) rfl rfl ?_
    refine lm (v := .pointer (some ⟨g, 3, none⟩)) rfl rfl ?_
    refine lv (v := .int .i64 ((s.r : Nat) : Int)) rfl rfl (yb_cell (off := 3) rfl (by kernel_rfl) (.tail _ (.head _)) Tryd.underlying3 rfl (by kernel_rfl)) ?_
    refine lp (v := .int .i64 (((s.r + 1) : Nat) : Int)) rfl rfl (run_bin rfl (vx := (.int .i64 ((s.r : Nat) : Int))) (vy := (.int .i64 ((1 : Nat) : Int))) (by kernel_rfl) (by kernel_rfl) fun w => bn_add (z := (s.r + 1)) rfl (wr_i64 (by omega)) w) ?_
    refine lm (v := .pointer (some ⟨g, 0, none⟩)) rfl rfl ?_
    refine lm (v := .pointer (some ⟨g, 0, none⟩)) rfl rfl ?_
    refine lm (v := .pointer (some ⟨g, 3, none⟩)) rfl rfl ?_
    refine wpL_s ((g1, .cells (bxC b) 26 (0, 0)) :: (g, .cells #[.int .i64 (((s.n + 1) : Nat) : Int), .int .i64 (((s.h + (halvesX b)) : Nat) : Int), .int .i64 (s.k + b.kilos), .int .i64 (((s.r + 1) : Nat) : Int), .int .i64 ((s.d : Nat) : Int)] 82 (0, 0)) :: K) rfl rfl (st_row (off := 3) (v := .int .i64 (((s.r + 1) : Nat) : Int)) rfl (by kernel_rfl) (by kernel_rfl) (.tail _ (.head _)) hB (by kernel_rfl) (by first | (simp [Value.cells]; done) | exact Nat.le_of_ble_eq_true rfl) (by intro v hv; simp [Value.cells, strV] at hv; first | (subst hv; rfl) | (rcases hv with rfl <;> rfl)) (by kernel_rfl) (List.forall_mem_cons.2 ⟨.inr ⟨(.head _), (Ne.symm (Fg1 _ (.head _)))⟩, (List.forall_mem_cons.2 ⟨.inl rfl, (fun p hp => .inr ⟨(.tail _ (.tail _ hp)), (hg _ hp)⟩)⟩)⟩)) ?_
    refine wpL_done (fun W8 hW8 => ?_)
    refine (show Code.wp _ _ _ _ _ from ?_)
    refine wp_seq ?_
    refine wp_region_L (W0 := W0) ((g1, .cells (bxC b) 26 (0, 0)) :: (g, .cells #[.int .i64 (((s.n + 1) : Nat) : Int), .int .i64 (((s.h + (halvesX b)) : Nat) : Int), .int .i64 (s.k + b.kilos), .int .i64 (((s.r + 1) : Nat) : Int), .int .i64 ((s.d : Nat) : Int)] 82 (0, 0)) :: K) (hW8) ?_
    refine lm (v := .pointer (some ⟨g1, 7, none⟩)) rfl rfl ?_
    refine lv (v := .int .u8 ((b.cls : Nat) : Int)) rfl rfl (yb_cell (off := 7) rfl (by kernel_rfl) (.head _) Tryd.underlying5 rfl (by kernel_rfl)) ?_
    refine lp (v := .bool (!(decide (b.cls = 0)))) rfl rfl (run_bin rfl (vx := (.int .u8 ((b.cls : Nat) : Int))) (vy := (.int .u8 ((0 : Nat) : Int))) (by kernel_rfl) (by kernel_rfl) fun w => bn_neq rfl w) ?_
    refine wpL_done (fun W9 hW9 => ?_)
    refine (show Code.wp _ _ _ _ _ from ?_)
    cases hd3 : (decide (b.cls = 0)) with
    | false =>
      have h3 : ¬ (b.cls = 0) := of_decide_eq_false hd3
      clear hd3
      refine wp_cond_true rfl ?_
      refine wp_region_L (W0 := W0) ((g1, .cells (bxC b) 26 (0, 0)) :: (g, .cells #[.int .i64 (((s.n + 1) : Nat) : Int), .int .i64 (((s.h + (halvesX b)) : Nat) : Int), .int .i64 (s.k + b.kilos), .int .i64 (((s.r + 1) : Nat) : Int), .int .i64 ((s.d : Nat) : Int)] 82 (0, 0)) :: K) (hW9) ?_
      refine lm (v := .pointer (some ⟨g, 0, none⟩)) rfl rfl ?_
      refine lm (v := .pointer (some ⟨g, 0, none⟩)) rfl rfl ?_
      refine lm (v := .pointer (some ⟨g, 0, none⟩)) rfl rfl ?_
      refine lm (v := .pointer (some ⟨g, 4, none⟩)) rfl rfl ?_
      refine lv (v := .int .i64 ((s.d : Nat) : Int)) rfl rfl (yb_cell (off := 4) rfl (by kernel_rfl) (.tail _ (.head _)) Tryd.underlying3 rfl (by kernel_rfl)) ?_
      refine lp (v := .int .i64 (((s.d + 1) : Nat) : Int)) rfl rfl (run_bin rfl (vx := (.int .i64 ((s.d : Nat) : Int))) (vy := (.int .i64 ((1 : Nat) : Int))) (by kernel_rfl) (by kernel_rfl) fun w => bn_add (z := (s.d + 1)) rfl (wr_i64 (by omega)) w) ?_
      refine lm (v := .pointer (some ⟨g, 0, none⟩)) rfl rfl ?_
      refine lm (v := .pointer (some ⟨g, 0, none⟩)) rfl rfl ?_
      refine lm (v := .pointer (some ⟨g, 4, none⟩)) rfl rfl ?_
      refine wpL_s ((g1, .cells (bxC b) 26 (0, 0)) :: (g, .cells #[.int .i64 (((s.n + 1) : Nat) : Int), .int .i64 (((s.h + (halvesX b)) : Nat) : Int), .int .i64 (s.k + b.kilos), .int .i64 (((s.r + 1) : Nat) : Int), .int .i64 (((s.d + 1) : Nat) : Int)] 82 (0, 0)) :: K) rfl rfl (st_row (off := 4) (v := .int .i64 (((s.d + 1) : Nat) : Int)) rfl (by kernel_rfl) (by kernel_rfl) (.tail _ (.head _)) hB (by kernel_rfl) (by first | (simp [Value.cells]; done) | exact Nat.le_of_ble_eq_true rfl) (by intro v hv; simp [Value.cells, strV] at hv; first | (subst hv; rfl) | (rcases hv with rfl <;> rfl)) (by kernel_rfl) (List.forall_mem_cons.2 ⟨.inr ⟨(.head _), (Ne.symm (Fg1 _ (.head _)))⟩, (List.forall_mem_cons.2 ⟨.inl rfl, (fun p hp => .inr ⟨(.tail _ (.tail _ hp)), (hg _ hp)⟩)⟩)⟩)) ?_
      refine wpL_done (fun W10 hW10 => ?_)
      refine bodyPost_end (v := .tuple #[]) (results_none rfl _ _ _) rfl ?_
      have he : (smC (add1 s b)) = #[.int .i64 (((s.n + 1) : Nat) : Int), .int .i64 (((s.h + (halvesX b)) : Nat) : Int), .int .i64 (s.k + b.kilos), .int .i64 (((s.r + 1) : Nat) : Int), .int .i64 (((s.d + 1) : Nat) : Int)] := by simp [smC, add1, h1, h3]
      exact ⟨_, _, rfl, by rw [he]; exact hW10.sub (List.forall_mem_cons.2 ⟨(.tail _ (.head _)), fun p hp => (.tail _ (.tail _ hp))⟩), rfl, rfl⟩
    | true =>
      have h3 : b.cls = 0 := of_decide_eq_true hd3
      clear hd3
      refine wp_cond_false rfl ?_
      refine wp_skip ?_
      refine bodyPost_end (v := .tuple #[]) (results_none rfl _ _ _) rfl ?_
      have he : (smC (add1 s b)) = #[.int .i64 (((s.n + 1) : Nat) : Int), .int .i64 (((s.h + (halvesX b)) : Nat) : Int), .int .i64 (s.k + b.kilos), .int .i64 (((s.r + 1) : Nat) : Int), .int .i64 ((s.d : Nat) : Int)] := by simp [smC, add1, h1, h3]
      exact ⟨_, _, rfl, by rw [he]; exact hW9.sub (List.forall_mem_cons.2 ⟨(.tail _ (.head _)), fun p hp => (.tail _ (.tail _ hp))⟩), rfl, rfl⟩
set_option maxRecDepth 100000 in
set_option maxHeartbeats 4000000 in
theorem Total_any (l : List Bx) (p : Option Addr) (c : Nat) (hl : l.length ≤ 4000000000) (w : World) (hp : SLV w p (bcs l)) : Calls Tryd.prog 26 #[.slice p l.length c] w fun e w' => e = .returned (smV (totalX l)) ∧ Below w.heap.size w w' := by
  have HP := Lib.hid hp
  clear hp
  go_enter Tryd.func26, Tryd.ntmps26
  refine wp_seq ?_
  refine wp_region_L (W0 := w) [] (KS.start w) ?_
  refine wpL_new (fun g => .pointer (some ⟨g, 0, none⟩)) (obi := .cells #[.int .i64 0, .int .i64 0, .int .i64 0, .int .i64 0, .int .i64 0] 47 (0, 0)) rfl rfl (fun _ => by kernel_rfl) (fun _ => by simp only [List.setIfInBounds_toArray, List.set_cons_succ, List.set_cons_zero] <;> rfl) fun g1 Bg1 Fg1 => ?_
  refine wpL_done (fun W1 hW1 => ?_)
  refine (show Code.wp _ _ _ _ _ from ?_)
  refine wp_seq ?_
  refine wp_region_L (W0 := w) [(g1, .cells #[.int .i64 0, .int .i64 0, .int .i64 0, .int .i64 0, .int .i64 0] 47 (0, 0))] (hW1) ?_
  refine wpL_new (fun g => .pointer (some ⟨g, 0, none⟩)) (obi := .cells #[.int .i64 0, .int .i64 0, .int .i64 0, .int .i64 0, .int .i64 0] 82 (0, 0)) rfl rfl (fun _ => by kernel_rfl) (fun _ => by simp only [List.setIfInBounds_toArray, List.set_cons_succ, List.set_cons_zero] <;> rfl) fun g2 Bg2 Fg2 => ?_
  refine wpL_done (fun W2 hW2 => ?_)
  refine (show Code.wp _ _ _ _ _ from ?_)
  refine wp_seq ?_
  refine wp_seq ?_
  refine wp_region_L (W0 := w) [(g2, .cells #[.int .i64 0, .int .i64 0, .int .i64 0, .int .i64 0, .int .i64 0] 82 (0, 0)), (g1, .cells #[.int .i64 0, .int .i64 0, .int .i64 0, .int .i64 0, .int .i64 0] 47 (0, 0))] (hW2) ?_
  refine lm (v := .slice p l.length c) rfl rfl ?_
  refine lp (v := .int .i64 ((l.length : Nat) : Int)) rfl rfl (run_lenL (p := p) (cap := c) (n := l.length) rfl Tryd.underlying22 (by kernel_rfl)) ?_
  refine lm (v := .int .i64 0) rfl rfl ?_
  refine wpL_done (fun W3 hW3 => ?_)
  refine (show Code.wp _ _ _ _ _ from ?_)
  refine wp_block ?_
  go_loopw [8] (fun u8 wr => ∃ (k : Nat), (k ≤ l.length) ∧ u8 = .int .i64 ((k : Nat) : Int) ∧ KS w [(g2, .cells (smC (totalX (l.take k))) 82 (0, 0)), (g1, .cells #[.int .i64 0, .int .i64 0, .int .i64 0, .int .i64 0, .int .i64 0] 47 (0, 0))] wr) (fun u8 _ => l.length - (intOf u8).toNat)
  case atStart => exact ⟨0, (Nat.zero_le _), rfl, hW3⟩
  case round =>
    obtain ⟨k, hk, rfl, hL4⟩ := hrel
    refine wp_seq ?_
    refine wp_region_L (W0 := w) [(g2, .cells (smC (totalX (l.take k))) 82 (0, 0)), (g1, .cells #[.int .i64 0, .int .i64 0, .int .i64 0, .int .i64 0, .int .i64 0] 47 (0, 0))] (hL4) ?_
    refine lp (v := .bool (decide (k < l.length))) rfl rfl (run_bin rfl (vx := (.int .i64 ((k : Nat) : Int))) (vy := (.int .i64 ((l.length : Nat) : Int))) (by kernel_rfl) (by kernel_rfl) fun w => bn_lss rfl w) ?_
    refine wpL_done (fun W5 hW5 => ?_)
    refine (show Code.wp _ _ _ _ _ from ?_)
    refine wp_seq ?_
    cases hd1 : (decide (k < l.length)) with
    | false =>
      have h1 : ¬ (k < l.length) := of_decide_eq_false hd1
      clear hd1
      refine wp_cond_false rfl ?_
      refine wp_exit ?_
      refine (show Code.wp _ _ _ _ _ from ?_)
      refine wp_seq ?_
      refine wp_region_L (W0 := w) [(g2, .cells (smC (totalX (l.take k))) 82 (0, 0)), (g1, .cells #[.int .i64 0, .int .i64 0, .int .i64 0, .int .i64 0, .int .i64 0] 47 (0, 0))] (hW5) ?_
      refine lm (v := .pointer (some ⟨g2, 0, none⟩)) rfl rfl ?_
      refine lv (v := .agg #[.int .i64 ((((totalX (l.take k)).n) : Nat) : Int), .int .i64 ((((totalX (l.take k)).h) : Nat) : Int), .int .i64 ((totalX (l.take k)).k), .int .i64 ((((totalX (l.take k)).r) : Nat) : Int), .int .i64 ((((totalX (l.take k)).d) : Nat) : Int)]) rfl rfl (yb_load (n := 5) (off := 0) rfl (by kernel_rfl) (.head _) Tryd.underlying47 rfl (by kernel_rfl) (by first | (simp; done) | exact Nat.le_of_ble_eq_true rfl) (by kernel_rfl)) ?_
      refine wpL_s [(g2, .cells (smC (totalX (l.take k))) 82 (0, 0)), (g1, .cells #[.int .i64 ((((totalX (l.take k)).n) : Nat) : Int), .int .i64 ((((totalX (l.take k)).h) : Nat) : Int), .int .i64 ((totalX (l.take k)).k), .int .i64 ((((totalX (l.take k)).r) : Nat) : Int), .int .i64 ((((totalX (l.take k)).d) : Nat) : Int)] 47 (0, 0))] rfl rfl (st_row (off := 0) (v := .agg #[.int .i64 ((((totalX (l.take k)).n) : Nat) : Int), .int .i64 ((((totalX (l.take k)).h) : Nat) : Int), .int .i64 ((totalX (l.take k)).k), .int .i64 ((((totalX (l.take k)).r) : Nat) : Int), .int .i64 ((((totalX (l.take k)).d) : Nat) : Int)]) rfl (by kernel_rfl) (by kernel_rfl) (.tail _ (.head _)) Bg1 (by kernel_rfl) (by first | (simp [Value.cells]; done) | exact Nat.le_of_ble_eq_true rfl) (by intro v hv; simp [Value.cells, strV] at hv; first | (subst hv; rfl) | (rcases hv with rfl | rfl | rfl | rfl | rfl <;> rfl)) (by kernel_rfl) (List.forall_mem_cons.2 ⟨.inr ⟨(.head _), (Ne.symm (Fg2 _ (.head _)))⟩, (List.forall_mem_cons.2 ⟨.inl rfl, (List.forall_mem_nil _)⟩)⟩)) ?_
      refine wpL_done (fun W6 hW6 => ?_)
      refine (show Code.wp _ _ _ _ _ from ?_)
      refine wp_ret ?_
      try simp only [inBlock_ret, then_ret]
      refine bodyPost_ret (v := .agg #[.int .i64 ((((totalX (l.take k)).n) : Nat) : Int), .int .i64 ((((totalX (l.take k)).h) : Nat) : Int), .int .i64 ((totalX (l.take k)).k), .int .i64 ((((totalX (l.take k)).r) : Nat) : Int), .int .i64 ((((totalX (l.take k)).d) : Nat) : Int)]) ?_ rfl ?_
      · exact (res_cell (p := 2) rfl rfl (hW6.2 _ (.tail _ (.head _))) Tryd.underlying47 rfl (by kernel_rfl))
      · exact ⟨(ret_v (by rw [List.take_of_length_le (by omega)]; rfl)), hW6.1⟩
    | true =>
      have h1 : k < l.length := of_decide_eq_true hd1
      clear hd1
      refine wp_cond_true rfl ?_
      refine wp_skip ?_
      refine (show Code.wp _ _ _ _ _ from ?_)
      refine wp_seq ?_
      refine wp_block ?_
      refine wp_seq ?_
      refine wp_region_L (W0 := w) [(g2, .cells (smC (totalX (l.take k))) 82 (0, 0)), (g1, .cells #[.int .i64 0, .int .i64 0, .int .i64 0, .int .i64 0, .int .i64 0] 47 (0, 0))] (hW5) ?_
      obtain ⟨b3, g3_, f3, hy3, hp3, lt3, hc3⟩ := bl_at (k := k) HP.out (by omega)
      refine lp (v := .pointer (some ⟨g3_, f3 + k * 9, none⟩)) rfl rfl (run_idxQ (p := p) (cap := c) (n := l.length) (j := .i64) (k := k) (sz := 9) rfl Tryd.underlying22 (by kernel_rfl) (by kernel_rfl) hp3 (by kernel_rfl) (by omega)) ?_
      refine lv (v := bxV b3) rfl rfl (yb_olds (off := f3 + k * 9) (cs := (bxC b3).toList) rfl (by kernel_rfl) hc3 lt3 Tryd.underlying26 rfl (by kernel_rfl)) ?_
      refine wpL_new (fun g => .pointer (some ⟨g, 0, none⟩)) (obi := .cells #[.int .i64 0, strV [], .int .u8 0, .bool false, .int .i64 0, .int .i64 0, .int .i64 0, .int .u8 0, .bool false] 26 (0, 0)) rfl rfl (fun _ => by kernel_rfl) (fun _ => by simp only [List.setIfInBounds_toArray, List.set_cons_succ, List.set_cons_zero] <;> rfl) fun g4 Bg4 Fg4 => ?_
      refine wpL_s [(g4, .cells (bxC b3) 26 (0, 0)), (g2, .cells (smC (totalX (l.take k))) 82 (0, 0)), (g1, .cells #[.int .i64 0, .int .i64 0, .int .i64 0, .int .i64 0, .int .i64 0] 47 (0, 0))] rfl rfl (st_bx (b := b3) rfl (by kernel_rfl) (by kernel_rfl) (.head _) rfl Bg4 (by kernel_rfl) (List.forall_mem_cons.2 ⟨.inl rfl, (List.forall_mem_cons.2 ⟨.inr ⟨(.tail _ (.head _)), (Fg4 _ (.head _))⟩, (List.forall_mem_cons.2 ⟨.inr ⟨(.tail _ (.tail _ (.head _))), (Fg4 _ (.tail _ (.head _)))⟩, (List.forall_mem_nil _)⟩)⟩)⟩)) ?_
      refine wpL_done (fun W7 hW7 => ?_)
      refine (show Code.wp _ _ _ _ _ from ?_)
      refine wp_seq ?_
      refine wp_region_L (W0 := w) [(g4, .cells (bxC b3) 26 (0, 0)), (g2, .cells (smC (totalX (l.take k))) 82 (0, 0)), (g1, .cells #[.int .i64 0, .int .i64 0, .int .i64 0, .int .i64 0, .int .i64 0] 47 (0, 0))] (hW7) ?_
      refine lv (v := bxV b3) rfl rfl (yb_load (n := 9) (off := 0) rfl (by kernel_rfl) (.head _) Tryd.underlying26 rfl (by kernel_rfl) (Nat.le_refl 9) (by kernel_rfl)) ?_
      refine lv (v := .bool (rightX b3)) rfl rfl (yb_call (f := 20) (args := #[bxV b3]) (fun _ => by kernel_rfl) fun W hW => BRight_any b3 W) ?_
      refine wpL_done (fun W8 hW8 => ?_)
      refine (show Code.wp _ _ _ _ _ from ?_)
      cases h2 : (rightX b3) with
      | false =>
        refine wp_cond_false rfl ?_
        refine wp_skip ?_
        refine (show Code.wp _ _ _ _ _ from ?_)
        refine wp_region_L (W0 := w) [(g4, .cells (bxC b3) 26 (0, 0)), (g2, .cells (smC (totalX (l.take k))) 82 (0, 0)), (g1, .cells #[.int .i64 0, .int .i64 0, .int .i64 0, .int .i64 0, .int .i64 0] 47 (0, 0))] (hW8) ?_
        refine lp (v := .int .i64 (((k + 1) : Nat) : Int)) rfl rfl (run_bin rfl (vx := (.int .i64 ((k : Nat) : Int))) (vy := (.int .i64 ((1 : Nat) : Int))) (by kernel_rfl) (by kernel_rfl) fun w => bn_add (z := (k + 1)) rfl (wr_i64 (by omega)) w) ?_
        refine lm (v := .int .i64 (((k + 1) : Nat) : Int)) rfl rfl ?_
        refine wpL_done (fun W9 hW9 => ?_)
        have hts := (total_snoc hy3).trans (add_wrong h2)
        go_roundw
        case rel =>
          repeat apply Exists.intro
          exact ⟨⟨k + 1, (by omega), rfl, (by first | exact hW9.sub (List.forall_mem_cons.2 ⟨(.tail _ (.head _)), (List.forall_mem_cons.2 ⟨(.tail _ (.tail _ (.head _))), (List.forall_mem_nil _)⟩)⟩) | (rw [hts]; exact hW9.sub (List.forall_mem_cons.2 ⟨(.tail _ (.head _)), (List.forall_mem_cons.2 ⟨(.tail _ (.tail _ (.head _))), (List.forall_mem_nil _)⟩)⟩)))⟩, rfl⟩
        case measure => (show l.length - (intOf (.int .i64 (((k + 1) : Nat) : Int))).toNat < l.length - (intOf (.int .i64 ((k : Nat) : Int))).toNat); simp only [intOf]; omega
      | true =>
        refine wp_cond_true rfl ?_
        refine wp_region_L (W0 := w) [(g4, .cells (bxC b3) 26 (0, 0)), (g2, .cells (smC (totalX (l.take k))) 82 (0, 0)), (g1, .cells #[.int .i64 0, .int .i64 0, .int .i64 0, .int .i64 0, .int .i64 0] 47 (0, 0))] (hW8) ?_
        refine lv (v := bxV b3) rfl rfl (yb_load (n := 9) (off := 0) rfl (by kernel_rfl) (.head _) Tryd.underlying26 rfl (by kernel_rfl) (Nat.le_refl 9) (by kernel_rfl)) ?_
        refine wpL_c (f := 45) (args := #[.pointer (some ⟨g2, 0, none⟩), bxV b3]) (fun v K9 => v = .tuple #[] ∧ K9 = ((g2, .cells (smC (add1 (totalX (l.take k)) b3)) 82 (0, 0)) :: [(g4, .cells (bxC b3) 26 (0, 0)), (g1, .cells #[.int .i64 0, .int .i64 0, .int .i64 0, .int .i64 0, .int .i64 0] 47 (0, 0))])) rfl (by kernel_rfl) (fun _ => (by kernel_rfl)) (fun W hW => add_any (K := [(g4, .cells (bxC b3) 26 (0, 0)), (g1, .cells #[.int .i64 0, .int .i64 0, .int .i64 0, .int .i64 0, .int .i64 0] 47 (0, 0))]) (totalX (l.take k)) b3 (sm_ok l (k := k) (by omega)) h2 Bg2 (List.forall_mem_cons.2 ⟨(Ne.symm (Fg4 _ (.head _))), (List.forall_mem_cons.2 ⟨(Fg2 _ (.head _)), (List.forall_mem_nil _)⟩)⟩) W (hW.sub (List.forall_mem_cons.2 ⟨(.tail _ (.head _)), (List.forall_mem_cons.2 ⟨(.head _), (List.forall_mem_cons.2 ⟨(.tail _ (.tail _ (.head _))), (List.forall_mem_nil _)⟩)⟩)⟩))) (fun _ => by simp only [List.setIfInBounds_toArray, List.set_cons_succ, List.set_cons_zero] <;> rfl) ?_
        rintro v K9 ⟨rfl, rfl⟩
        refine wpL_done (fun W10 hW10 => ?_)
        refine (show Code.wp _ _ _ _ _ from ?_)
        refine wp_region_L (W0 := w) [(g2, .cells (smC (add1 (totalX (l.take k)) b3)) 82 (0, 0)), (g4, .cells (bxC b3) 26 (0, 0)), (g1, .cells #[.int .i64 0, .int .i64 0, .int .i64 0, .int .i64 0, .int .i64 0] 47 (0, 0))] (hW10) ?_
        refine lp (v := .int .i64 (((k + 1) : Nat) : Int)) rfl rfl (run_bin rfl (vx := (.int .i64 ((k : Nat) : Int))) (vy := (.int .i64 ((1 : Nat) : Int))) (by kernel_rfl) (by kernel_rfl) fun w => bn_add (z := (k + 1)) rfl (wr_i64 (by omega)) w) ?_
        refine lm (v := .int .i64 (((k + 1) : Nat) : Int)) rfl rfl ?_
        refine wpL_done (fun W11 hW11 => ?_)
        have hts := (total_snoc hy3).trans (add_right h2)
        go_roundw
        case rel =>
          repeat apply Exists.intro
          exact ⟨⟨k + 1, (by omega), rfl, (by first | exact hW11.sub (List.forall_mem_cons.2 ⟨(.head _), (List.forall_mem_cons.2 ⟨(.tail _ (.tail _ (.head _))), (List.forall_mem_nil _)⟩)⟩) | (rw [hts]; exact hW11.sub (List.forall_mem_cons.2 ⟨(.head _), (List.forall_mem_cons.2 ⟨(.tail _ (.tail _ (.head _))), (List.forall_mem_nil _)⟩)⟩)))⟩, rfl⟩
        case measure => (show l.length - (intOf (.int .i64 (((k + 1) : Nat) : Int))).toNat < l.length - (intOf (.int .i64 ((k : Nat) : Int))).toNat); simp only [intOf]; omega
end Go.Proofs.YtllmpemmknblaaaDoor
/- Maps whose keys are texts, among known blocks: what their entries are. Over any program. -/
namespace Tw
open Go Go.RowKit Go.Proofs.YtllmpemmknblaaaDoor
def MapS (es : Array MapEntry) (L : List (List UInt8 × Value)) : Prop := es.toList.map (fun e => (e.key, e.val)) = L.map fun x => (strV x.1, x.2)
def lkL (k : List UInt8) : List (List UInt8 × Value) → Nat → Option (Nat × Value)
  | [], _ => none
  | x :: L, i => if k = x.1 then some (i, x.2) else lkL k L (i + 1)
def mget (L : List (List UInt8 × Value)) (k : List UInt8) : Option Value := (lkL k L 0).map (·.2)
def mputL (L : List (List UInt8 × Value)) (k : List UInt8) (v : Value) : List (List UInt8 × Value) := match lkL k L 0 with
  | some x => L.set x.1 (k, v)
  | none => L ++ [(k, v)]
def mput (es : Array MapEntry) (cl : Nat) (k : List UInt8) (v : Value) : Array MapEntry × Nat := match Instr.findNow .string (strV k) es.toList 0 with
  | some (some x) => (es.modify x.1 fun e => { e with key := strV k, val := v }, cl)
  | _ => (es.push { key := strV k, val := v, born := cl }, cl + 1)
theorem same_str (a b : List UInt8) : Instr.sameNow .string (strV a) (strV b) = some (decide (a = b)) := by
  have : ((⟨a.toArray⟩ : ByteArray) == ⟨b.toArray⟩) = decide (a = b) := by
    show (a.toArray == b.toArray) = _
    rw [Bool.eq_iff_iff]; simp
  unfold strV Instr.sameNow
  simp only [this]
theorem find_str (k : List UInt8) : ∀ (es : List MapEntry) (L : List (List UInt8 × Value)) (i : Nat), es.map (fun e => (e.key, e.val)) = L.map (fun x => (strV x.1, x.2)) → Instr.findNow .string (strV k) es i = some (lkL k L i)
  | [], [], _, _ => rfl
  | [], _ :: _, _, h => by cases h
  | _ :: _, [], _, h => by cases h
  | e :: es, x :: L, i, h => by
    rw [List.map_cons, List.map_cons] at h
    obtain ⟨h1, h2⟩ := List.cons.inj h
    obtain ⟨hk, hv⟩ := Prod.mk.inj h1
    have ih := find_str k es L (i + 1) h2
    unfold Instr.findNow lkL
    rw [hk, same_str]
    by_cases hx : k = x.1
    · rw [if_pos hx, decide_eq_true hx, hv]
    · rw [if_neg hx, decide_eq_false hx]; exact ih
theorem lk_lt {k : List UInt8} : ∀ {L : List (List UInt8 × Value)} {i : Nat} {x : Nat × Value}, lkL k L i = some x → i ≤ x.1 ∧ x.1 < i + L.length
  | [], _, _, h => by cases h
  | y :: L, i, x, h => by
    unfold lkL at h
    split at h
    · cases h; simp
    · have := lk_lt h; simp only [List.length_cons]; omega
theorem lk_key {k : List UInt8} : ∀ {L : List (List UInt8 × Value)} {i : Nat} {x : Nat × Value} , lkL k L i = some x → ∀ {y : List UInt8 × Value}, L[x.1 - i]? = some y → k = y.1
  | [], _, _, h, _, _ => by cases h
  | z :: L, i, x, h, y, hy => by
    unfold lkL at h
    split at h
    · rename_i hz
      cases h
      simp at hy
      rw [← hy]; exact hz
    · have hl := lk_lt h
      rw [show x.1 - i = (x.1 - (i + 1)) + 1 from by omega, List.getElem?_cons_succ] at hy
      exact lk_key h hy
theorem lk_app {k k' : List UInt8} {v : Value} : ∀ (L : List (List UInt8 × Value)) (i : Nat), lkL k' L i = none → (lkL k (L ++ [(k', v)]) i).map (·.2) = if k = k' then some v else (lkL k L i).map (·.2)
  | [], i, _ => by simp only [List.nil_append, lkL]; split <;> rfl
  | y :: L, i, h => by
    have h0 := h
    unfold lkL at h
    split at h
    · cases h
    · rename_i hy
      simp only [List.cons_append, lkL]
      by_cases hk : k = y.1
      · rw [if_pos hk, if_neg (by rw [hk]; exact fun e => hy e.symm), if_pos hk]
      · rw [if_neg hk, if_neg hk]; exact lk_app L (i + 1) h
theorem lk_set {k k' : List UInt8} {v : Value} : ∀ (L : List (List UInt8 × Value)) (i : Nat) (x : Nat × Value), lkL k' L i = some x → (lkL k (L.set (x.1 - i) (k', v)) i).map (·.2) = if k = k' then some v else (lkL k L i).map (·.2)
  | [], _, _, h => by cases h
  | y :: L, i, x, h => by
    unfold lkL at h
    split at h
    · rename_i hy
      cases h
      simp only [Nat.sub_self, List.set_cons_zero, lkL]
      by_cases hk : k = k'
      · rw [if_pos hk, if_pos hk]; rfl
      · rw [if_neg hk, if_neg hk, if_neg (by rw [← hy]; exact hk)]
    · rename_i hy
      have hl := lk_lt h
      rw [show x.1 - i = (x.1 - (i + 1)) + 1 from by omega, List.set_cons_succ]
      simp only [lkL]
      by_cases hk : k = y.1
      · rw [if_pos hk, if_neg (by rw [hk]; exact fun e => hy e.symm), if_pos hk]
      · rw [if_neg hk, if_neg hk]; exact lk_set L (i + 1) x h
theorem mget_put (L : List (List UInt8 × Value)) (k k' : List UInt8) (v : Value) : mget (mputL L k' v) k = if k = k' then some v else mget L k := by
  unfold mget mputL
  cases h : lkL k' L 0 with
  | none => exact lk_app L 0 h
  | some x => exact lk_set L 0 x h
theorem MapS.nil : MapS #[] [] := rfl
theorem map_modify (l : List MapEntry) (f : MapEntry → MapEntry) (g : MapEntry → Value × Value) (y : Value × Value) (hf : ∀ e, g (f e) = y) : ∀ (i : Nat), i < l.length → (l.modify i f).map g = (l.map g).set i y := by
  induction l with
  | nil => intro i h; simp at h
  | cons e l ih =>
    intro i h
    cases i with
    | zero => simp [hf]
    | succ i => simp only [List.modify_succ_cons, List.map_cons, List.set_cons_succ]; rw [ih i (by simpa using h)]
theorem MapS.put {es : Array MapEntry} {L : List (List UInt8 × Value)} (h : MapS es L) (cl : Nat) (k : List UInt8) (v : Value) : MapS (mput es cl k v).1 (mputL L k v) := by
  have hf := find_str k _ _ 0 h
  have hlen : es.toList.length = L.length := by have := congrArg List.length h; simpa using this
  unfold MapS at h ⊢
  unfold mput mputL
  rw [hf]
  cases hl : lkL k L 0 with
  | none => simp only [Array.toList_push, List.map_append, h, List.map_cons, List.map_nil]
  | some x =>
    have := lk_lt hl
    simp only [Array.toList_modify]
    rw [map_modify es.toList (fun e => { e with key := strV k, val := v }) (fun e => (e.key, e.val)) (strV k, v) (fun _ => rfl) x.1 (by omega), h, List.map_set]
section
variable {P : Program} {W0 : Base} {T kt et : TypeId}
theorem run_checkKey_str {b : Bool} {n : Nat} {v : Value} (hk : P.underlying kt = some .string) (w : World) : (Instr.checkKey b (n + 1) kt v).run P w = .ok () w := by
  unfold Instr.checkKey
  rw [Sem.run_bind, run_underlying hk w]
  simp
theorem run_findKey_str {es : Array MapEntry} {L : List (List UInt8 × Value)} (hk : P.underlying kt = some .string) (h : MapS es L) (k : List UInt8) (w : World) : (Instr.findKey kt (strV k) es.toList).run P w = .ok (lkL k L 0) w := by
  unfold Instr.findKey
  rw [Sem.run_bind, run_underlying hk w]
  simp only [Result.andThen_ok, find_str k _ _ 0 h, Sem.run_pure]
theorem run_lookup_str {es : Array MapEntry} {cl g : Nat} {L : List (List UInt8 × Value)} {z : Value} {w : World} (hg : w.heap[g]? = some (.map es cl)) (hT : P.underlying T = some (.map kt et)) (hk : P.underlying kt = some .string) (hz : ∀ w, (zeroValue et).run P w = .ok z w) (h : MapS es L) (k : List UInt8) :
    (Instr.lookup T (.map (some g)) (strV k) false).run P w = .ok ((mget L k).getD z) w := by
  unfold Instr.lookup
  simp only [Sem.run_bind, run_underlying hT w, Result.andThen_ok, Sem.run_pure, MapKept.run_getObj_map hg, run_checkKey_str hk w, run_findKey_str hk h k w]
  unfold mget
  cases hl : lkL k L 0 with
  | none => simp [hz w]
  | some x => simp
theorem yb_lookup {o : Oper} {a : Act} {K : List (Nat × Obj)} {x y : Operand} {g cl : Nat} {es : Array MapEntry} {L : List (List UInt8 × Value)} {k : List UInt8} {z v : Value} (ho : o.op = .lookup T x y false) (hx : a.eval x = .map (some g)) (hy : a.eval y = strV k)
    (hm : (g, .map es cl) ∈ K) (hT : P.underlying T = some (.map kt et)) (hk : P.underlying kt = some .string) (hz : ∀ w, (zeroValue et).run P w = .ok z w) (h : MapS es L) (hv : (mget L k).getD z = v) :
    ∀ w, KS W0 K w → ∀ K' : Act → World → Prop, (∀ w', Below w.heap.size w w' → K' (a.put o.dst v) w') → Oper.wp P o a w K' (fun _ _ _ => False) := by
  intro w hw K' hk'
  have hr := run_lookup_str (P := P) (hw.2 _ hm) hT hk hz h k
  unfold Oper.wp execOp
  simp only [ho, hx, hy, Sem.run_bind, hr, Result.andThen_ok, Sem.run_pure]
  rw [hv]
  exact hk' w (Below.refl _ _)
theorem run_keyStays (k : List UInt8) (w : World) : (Instr.keyThatStays (strV k) (strV k)).run P w = .ok (strV k) w := by
  have : ((⟨k.toArray⟩ : ByteArray) == ⟨k.toArray⟩) = true := by
    show (k.toArray == k.toArray) = _
    simp
  unfold Instr.keyThatStays strV
  simp [Instr.sameBits, this]
theorem run_mapUpdate_str {es : Array MapEntry} {cl g : Nat} {L : List (List UInt8 × Value)} {w : World} (hg : w.heap[g]? = some (.map es cl)) (hT : P.underlying T = some (.map kt et)) (hk : P.underlying kt = some .string) (h : MapS es L) (k : List UInt8) (v : Value) :
    (Instr.mapUpdate T (.map (some g)) (strV k) v).run P w = .ok () { w with heap := w.heap.setIfInBounds g (.map (mput es cl k v).1 (mput es cl k v).2) } := by
  have hf := find_str k _ _ 0 h
  have hlen : es.toList.length = L.length := by have := congrArg List.length h; simpa using this
  unfold Instr.mapUpdate
  simp only [Sem.run_bind, run_underlying hT w, Result.andThen_ok, MapKept.run_getObj_map hg, run_checkKey_str hk w, run_findKey_str hk h k w]
  unfold mput
  rw [hf]
  cases hl : lkL k L 0 with
  | none => simp only [MapKept.run_setObj_map _ hg]
  | some x =>
    have hlt := lk_lt hl
    have hx : x.1 < es.size := by simp at hlen; omega
    have hkey : ((es[x.1]?).map (·.key)).getD (strV k) = strV k := by
      have h1 := congrArg (fun l => l[x.1]?) h
      simp only [List.getElem?_map, Array.getElem?_toList] at h1
      have h2 : es[x.1]? = some es[x.1] := Array.getElem?_eq_getElem hx
      rw [h2] at h1 ⊢
      have h3 : L[x.1]? = some (L[x.1]'(by simp at hlen; omega)) := List.getElem?_eq_getElem _
      rw [h3] at h1
      simp only [Option.map_some, Option.some.injEq, Prod.mk.injEq] at h1
      simp only [Option.map_some, Option.getD_some, h1.1]
      congr 1
      exact (lk_key hl h3).symm
    simp only [hkey, run_keyStays, Sem.run_bind, Result.andThen_ok, MapKept.run_setObj_map _ hg]
theorem st_map {o : Oper} {a : Act} {K K' : List (Nat × Obj)} {x y u : Operand} {g cl : Nat} {es : Array MapEntry} {L : List (List UInt8 × Value)} {k : List UInt8} {v : Value} (ho : o.op = .mapUpdate T x y u) (hx : a.eval x = .map (some g)) (hy : a.eval y = strV k) (hu : a.eval u = v)
    (hm : (g, .map es cl) ∈ K) (hB : W0.B ≤ g) (hT : P.underlying T = some (.map kt et)) (hk : P.underlying kt = some .string) (h : MapS es L)
    (hK : ∀ p ∈ K', p = (g, .map (mput es cl k v).1 (mput es cl k v).2) ∨ (p ∈ K ∧ p.1 ≠ g)) : ∀ w, KS W0 K w → ∃ w', (execOp a.eval o).run P w = .ok .skip w' ∧ KS W0 K' w' := by
  intro w hw
  have hg := hw.2 _ hm
  have hr := run_mapUpdate_str (P := P) hg hT hk h k v
  refine ⟨ChangeMaps.setBlock w g (.map (mput es cl k v).1 (mput es cl k v).2), ?_, ⟨⟨hw.1.os, hw.1.tape, hw.1.output, ?_, fun j hj => ?_⟩, fun p hp => ?_⟩⟩
  · unfold execOp
    simp only [ho, hx, hy, hu, Sem.run_bind, hr, Result.andThen_ok, Sem.run_pure]
    rfl
  · simpa [ChangeMaps.setBlock] using hw.1.size
  · have hne : j ≠ g := by omega
    exact (ChangeMaps.heap_setBlock_other hg _ hne).trans (hw.1.block j hj)
  · rcases hK p hp with rfl | ⟨hp, hne⟩
    · exact ChangeMaps.heap_setBlock_same hg _
    · exact (ChangeMaps.heap_setBlock_other hg _ hne).trans (hw.2 _ hp)
end
end Tw
namespace Go.Proofs.YtllmpemmknblaaaDoor
open Go Go.RowKit Tw
def validV (l : List Bx) : Value := if 2000 < l.length then .tuple #[.int .i64 (-1), .int .i64 5] else match firstBad l with
  | some k => .tuple #[.int .i64 ((k : Nat) : Int), .int .i64 60]
  | none => .tuple #[.int .i64 (-1), .int .i64 0]
theorem seen_zero (l : List Bx) (n : List UInt8) : seenX l 0 n = false := by unfold seenX; simp
theorem seen_succ {l : List Bx} {k : Nat} {b : Bx} (hb : l[k]? = some b) (n : List UInt8) : seenX l (k + 1) n = (seenX l k n || (decide (n ≠ []) && decide (b.num = n))) := by
  obtain ⟨hk, rfl⟩ := List.getElem?_eq_some_iff.1 hb
  unfold seenX
  rw [List.take_succ_eq_append_getElem hk, List.any_append]
  simp only [List.any_cons, List.any_nil, Bool.or_false]
  cases decide (n ≠ []) <;> simp
def SeenM (l : List Bx) (k : Nat) (L : List (List UInt8 × Value)) : Prop := ∀ n, mget L n = if seenX l k n = true then some (.bool true) else none
theorem seen_get {l : List Bx} {k : Nat} {L : List (List UInt8 × Value)} (h : SeenM l k L) (n : List UInt8) : (mget L n).getD (.bool false) = .bool (seenX l k n) := by
  rw [h n]
  cases seenX l k n <;> rfl
theorem seen_start (l : List Bx) : SeenM l 0 [] := fun n => by rw [seen_zero]; rfl
theorem seen_put {l : List Bx} {k : Nat} {L : List (List UInt8 × Value)} {b : Bx} (h : SeenM l k L) (hb : l[k]? = some b) (hn : ¬ (b.num = [])) : SeenM l (k + 1) (mputL L b.num (.bool true)) := fun n => by
  rw [mget_put, h n, seen_succ hb]
  by_cases e : n = b.num
  · subst e
    rw [if_pos rfl]
    simp [hn]
  · have e2 : ¬ (b.num = n) := fun x => e x.symm
    rw [if_neg e]
    simp [e2]
theorem seen_same {l : List Bx} {k : Nat} {L : List (List UInt8 × Value)} {b : Bx} (h : SeenM l k L) (hb : l[k]? = some b) (hn : b.num = []) : SeenM l (k + 1) L := fun n => by
  rw [h n, seen_succ hb, hn]
  by_cases e : n = []
  · simp [e]
  · have e2 : ¬ ([] = n) := fun x => e x.symm
    simp [e2]
section
variable {l : List Bx} {k : Nat} {b c : Bx}
theorem bad_right (hb : l[k]? = some b) (h : rightX b = false) : badX l k = true := by unfold badX; rw [hb]; simp [h]
theorem bad_seen (hb : l[k]? = some b) (h : seenX l k b.num = true) : badX l k = true := by unfold badX; rw [hb]; simp [h]
theorem bad_prev (hb : l[k]? = some b) (hc : l[k - 1]? = some c) (hk : 0 < k) (h : ¬ (c.id < b.id)) : badX l k = true := by
  have : b.id ≤ c.id := by omega
  unfold badX prevX; rw [hb]; simp [hc, hk, this]
theorem good_0 (hb : l[k]? = some b) (h : rightX b = true) (h2 : seenX l k b.num = false) (hk : ¬ (0 < k)) : badX l k = false := by
  unfold badX prevX; rw [hb]; simp [h, h2, hk]
theorem good_1 (hb : l[k]? = some b) (h : rightX b = true) (h2 : seenX l k b.num = false) (hc : l[k - 1]? = some c) (h3 : c.id < b.id) : badX l k = false := by
  have : ¬ (b.id ≤ c.id) := by omega
  unfold badX prevX; rw [hb]; simp [h, h2, hc, this]
theorem goods_on (h : ∀ j, j < k → badX l j = false) (hk : badX l k = false) : ∀ j, j < k + 1 → badX l j = false := fun j hj => by
  rcases Nat.lt_or_eq_of_le (Nat.le_of_lt_succ hj) with h1 | rfl
  · exact h j h1
  · exact hk
end
set_option maxRecDepth 100000 in
set_option maxHeartbeats 4000000 in
theorem Valid_any (l : List Bx) (p : Option Addr) (c : Nat) (hl : l.length ≤ 4000000000) (w : World) (hp : SLV w p (bcs l)) : Calls Tryd.prog 29 #[.slice p l.length c] w fun e w' => e = .returned (validV l) ∧ Below w.heap.size w w' := by
  have HP := Lib.hid hp
  clear hp
  obtain ⟨V, hV⟩ : ∃ V : Value, V = validV l := ⟨_, rfl⟩
  rw [← hV]
  unfold validV at hV
  go_enter Tryd.func29, Tryd.ntmps29
  refine wp_seq ?_
  refine wp_region_L (W0 := w) [] (KS.start w) ?_
  refine lm (v := .int .i64 0) rfl rfl ?_
  refine lm (v := .int .i64 0) rfl rfl ?_
  refine wpL_done (fun W1 hW1 => ?_)
  refine (show Code.wp _ _ _ _ _ from ?_)
  refine wp_seq ?_
  refine wp_seq ?_
  refine wp_region_L (W0 := w) [] (hW1) ?_
  refine lm (v := .slice p l.length c) rfl rfl ?_
  refine lp (v := .int .i64 ((l.length : Nat) : Int)) rfl rfl (run_lenL (p := p) (cap := c) (n := l.length) rfl Tryd.underlying22 (by kernel_rfl)) ?_
  refine lp (v := .bool (decide (2000 < l.length))) rfl rfl (run_bin rfl (vx := (.int .i64 ((l.length : Nat) : Int))) (vy := (.int .i64 ((2000 : Nat) : Int))) (by kernel_rfl) (by kernel_rfl) fun w => bn_gtr rfl w) ?_
  refine wpL_done (fun W2 hW2 => ?_)
  refine (show Code.wp _ _ _ _ _ from ?_)
  cases hd1 : (decide (2000 < l.length)) with
  | false =>
    have h1 : ¬ (2000 < l.length) := of_decide_eq_false hd1
    clear hd1
    refine wp_cond_false rfl ?_
    refine wp_skip ?_
    refine (show Code.wp _ _ _ _ _ from ?_)
    refine wp_seq ?_
    refine wp_region_L (W0 := w) [] (hW2) ?_
    refine wpL_new (fun g => .map (some g)) (obi := .map #[] 0) rfl rfl (fun _ => by kernel_rfl) (fun _ => by simp only [List.setIfInBounds_toArray, List.set_cons_succ, List.set_cons_zero] <;> rfl) fun g1 Bg1 Fg1 => ?_
    refine lm (v := .map (some g1)) rfl rfl ?_
    refine wpL_done (fun W3 hW3 => ?_)
    refine (show Code.wp _ _ _ _ _ from ?_)
    refine wp_seq ?_
    refine wp_seq ?_
    refine wp_region_L (W0 := w) [(g1, .map #[] 0)] (hW3) ?_
    refine lm (v := .slice p l.length c) rfl rfl ?_
    refine lp (v := .int .i64 ((l.length : Nat) : Int)) rfl rfl (run_lenL (p := p) (cap := c) (n := l.length) rfl Tryd.underlying22 (by kernel_rfl)) ?_
    refine lm (v := .int .i64 0) rfl rfl ?_
    refine wpL_done (fun W4 hW4 => ?_)
    refine (show Code.wp _ _ _ _ _ from ?_)
    refine wp_block ?_
    go_loopw [13] (fun u13 wr => ∃ (k : Nat) (es : Array MapEntry) (cl : Nat) (L : List (List UInt8 × Value)), (k ≤ l.length) ∧ (∀ j, j < k → badX l j = false) ∧ (MapS es L) ∧ (SeenM l k L) ∧ u13 = .int .i64 ((k : Nat) : Int) ∧ KS w [(g1, .map es cl)] wr) (fun u13 _ => l.length - (intOf u13).toNat)
    case atStart => exact ⟨0, #[], 0, [], (Nat.zero_le _), (fun j hj => absurd hj (Nat.not_lt_zero _)), MapS.nil, (seen_start l), rfl, hW4⟩
    case round =>
      obtain ⟨k, es, cl, L, hk, hb, hM, hg, rfl, hL5⟩ := hrel
      refine wp_seq ?_
      refine wp_region_L (W0 := w) [(g1, .map es cl)] (hL5) ?_
      refine lp (v := .bool (decide (k < l.length))) rfl rfl (run_bin rfl (vx := (.int .i64 ((k : Nat) : Int))) (vy := (.int .i64 ((l.length : Nat) : Int))) (by kernel_rfl) (by kernel_rfl) fun w => bn_lss rfl w) ?_
      refine wpL_done (fun W6 hW6 => ?_)
      refine (show Code.wp _ _ _ _ _ from ?_)
      refine wp_seq ?_
      cases hd2 : (decide (k < l.length)) with
      | false =>
        have h2 : ¬ (k < l.length) := of_decide_eq_false hd2
        clear hd2
        refine wp_cond_false rfl ?_
        refine wp_exit ?_
        refine (show Code.wp _ _ _ _ _ from ?_)
        refine wp_seq ?_
        refine wp_region_L (W0 := w) [(g1, .map es cl)] (hW6) ?_
        refine lm (v := .int .i64 (-1)) rfl rfl ?_
        refine lm (v := .int .i64 0) rfl rfl ?_
        refine wpL_done (fun W7 hW7 => ?_)
        refine (show Code.wp _ _ _ _ _ from ?_)
        refine wp_ret ?_
        try simp only [inBlock_ret, then_ret]
        refine bodyPost_ret (v := .tuple #[.int .i64 (-1), .int .i64 0]) ?_ rfl ?_
        · kernel_rfl
        · exact ⟨(ret_v (by rw [hV, if_neg h1, firstBad_none (fun j hj => hb j (by omega))])), hW7.1⟩
      | true =>
        have h2 : k < l.length := of_decide_eq_true hd2
        clear hd2
        refine wp_cond_true rfl ?_
        refine wp_skip ?_
        refine (show Code.wp _ _ _ _ _ from ?_)
        refine wp_seq ?_
        refine wp_block ?_
        refine wp_seq ?_
        refine wp_region_L (W0 := w) [(g1, .map es cl)] (hW6) ?_
        refine lm (v := .int .i64 ((k : Nat) : Int)) rfl rfl ?_
        obtain ⟨b2, g2_, f2, hy2, hp2, lt2, hc2⟩ := bl_at (k := k) HP.out (by omega)
        refine lp (v := .pointer (some ⟨g2_, f2 + k * 9, none⟩)) rfl rfl (run_idxQ (p := p) (cap := c) (n := l.length) (j := .i64) (k := k) (sz := 9) rfl Tryd.underlying22 (by kernel_rfl) (by kernel_rfl) hp2 (by kernel_rfl) (by omega)) ?_
        refine lv (v := bxV b2) rfl rfl (yb_olds (off := f2 + k * 9) (cs := (bxC b2).toList) rfl (by kernel_rfl) hc2 lt2 Tryd.underlying26 rfl (by kernel_rfl)) ?_
        refine wpL_new (fun g => .pointer (some ⟨g, 0, none⟩)) (obi := .cells #[.int .i64 0, strV [], .int .u8 0, .bool false, .int .i64 0, .int .i64 0, .int .i64 0, .int .u8 0, .bool false] 26 (0, 0)) rfl rfl (fun _ => by kernel_rfl) (fun _ => by simp only [List.setIfInBounds_toArray, List.set_cons_succ, List.set_cons_zero] <;> rfl) fun g3 Bg3 Fg3 => ?_
        obtain dj4_0 : g1 ≠ g3 := by simpa only [dj_app_l, dj_app_r, dj_cons_l, dj_cons_r, dj_nil_l, dj_nil_r, dk_app, dk_cons, dk_nil, and_true, true_and, and_assoc] using (show Dk g3 [(g1, .map es cl)] from Fg3)
        refine lm (v := .int .i64 ((k : Nat) : Int)) rfl rfl ?_
        refine wpL_s [(g3, .cells (bxC b2) 26 (0, 0)), (g1, .map es cl)] rfl rfl (st_bx (b := b2) rfl (by kernel_rfl) (by kernel_rfl) (.head _) rfl Bg3 (by kernel_rfl) (List.forall_mem_cons.2 ⟨.inl rfl, (List.forall_mem_cons.2 ⟨.inr ⟨(.tail _ (.head _)), (by first | assumption | exact Ne.symm (by assumption))⟩, (List.forall_mem_nil _)⟩)⟩)) ?_
        refine wpL_done (fun W8 hW8 => ?_)
        refine (show Code.wp _ _ _ _ _ from ?_)
        refine wp_seq ?_
        refine wp_seq ?_
        refine wp_region_V (W0 := w) [(g3, .cells (bxC b2) 26 (0, 0)), (g1, .map es cl)] (by kernel_rfl) (hW8) ?_
        refine vv (i := 0) (v := bxV b2) rfl rfl rfl (yb_load (n := 9) (off := 0) rfl (by kernel_rfl) (.head _) Tryd.underlying26 rfl (by kernel_rfl) (Nat.le_refl 9) (by kernel_rfl)) ?_
        refine vv (i := 1) (v := .bool (rightX b2)) rfl rfl rfl (yb_call (f := 20) (args := #[bxV b2]) (fun _ => by kernel_rfl) fun W hW => BRight_any b2 W) ?_
        refine vp (i := 2) (v := .bool (!(rightX b2))) rfl rfl rfl (run_un rfl (by kernel_rfl) fun w => un_not w) ?_
        refine vm (i := 3) (v := .bool (!(rightX b2))) rfl rfl rfl ?_
        cases h3 : (rightX b2) with
        | false =>
          refine vn (i := 4) rfl rfl ?_
          refine vn (i := 5) rfl rfl ?_
          refine vn (i := 6) rfl rfl ?_
          refine vn (i := 7) rfl rfl ?_
          refine vm (i := 8) (v := .bool true) rfl rfl rfl ?_
          refine vm (i := 9) (v := .bool true) rfl rfl rfl ?_
          refine vn (i := 10) rfl rfl ?_
          refine vn (i := 11) rfl rfl ?_
          refine vn (i := 12) rfl rfl ?_
          refine vn (i := 13) rfl rfl ?_
          refine vn (i := 14) rfl rfl ?_
          refine vn (i := 15) rfl rfl ?_
          refine vn (i := 16) rfl rfl ?_
          refine vn (i := 17) rfl rfl ?_
          refine vn (i := 18) rfl rfl ?_
          refine vn (i := 19) rfl rfl ?_
          refine vn (i := 20) rfl rfl ?_
          refine vn (i := 21) rfl rfl ?_
          refine vn (i := 22) rfl rfl ?_
          refine vm (i := 23) (v := .bool true) rfl rfl rfl ?_
          refine wpV_done (by kernel_rfl) (fun W9 hW9 => ?_) _
          refine (show Code.wp _ _ _ _ _ from ?_)
          refine wp_cond_true rfl ?_
          refine wp_seq ?_
          refine wp_region_L (W0 := w) [(g3, .cells (bxC b2) 26 (0, 0)), (g1, .map es cl)] (hW9) ?_
          refine lm (v := .int .i64 ((k : Nat) : Int)) rfl rfl ?_
          refine lm (v := .int .i64 ((k : Nat) : Int)) rfl rfl ?_
          refine lm (v := .int .i64 60) rfl rfl ?_
          refine wpL_done (fun W10 hW10 => ?_)
          refine (show Code.wp _ _ _ _ _ from ?_)
          refine wp_ret ?_
          try simp only [inBlock_ret, then_ret]
          refine bodyPost_ret (v := .tuple #[.int .i64 ((k : Nat) : Int), .int .i64 60]) ?_ rfl ?_
          · kernel_rfl
          · exact ⟨(ret_v (by rw [hV, if_neg h1, firstBad_some (by omega) hb (bad_right hy2 h3)])), hW10.1⟩
        | true =>
          refine vm (i := 4) (v := .map (some g1)) rfl rfl rfl ?_
          refine vm (i := 5) (v := .pointer (some ⟨g3, 1, none⟩)) rfl rfl rfl ?_
          refine vv (i := 6) (v := strV b2.num) rfl rfl rfl (yb_cell (off := 1) rfl (by kernel_rfl) (.head _) Tryd.underlying9 rfl (by kernel_rfl)) ?_
          refine vv (i := 7) (v := .bool (seenX l k b2.num)) rfl rfl rfl (yb_lookup (k := b2.num) (z := .bool false) rfl (by kernel_rfl) (by kernel_rfl) (.tail _ (.head _)) Tryd.underlying86 Tryd.underlying9 (fun _ => by kernel_rfl) hM (seen_get hg b2.num)) ?_
          refine vm (i := 8) (v := .bool (seenX l k b2.num)) rfl rfl rfl ?_
          refine vm (i := 9) (v := .bool (seenX l k b2.num)) rfl rfl rfl ?_
          cases h4 : (seenX l k b2.num) with
          | false =>
            refine vm (i := 10) (v := .int .i64 ((k : Nat) : Int)) rfl rfl rfl ?_
            refine vp (i := 11) (v := .bool (decide (0 < k))) rfl rfl rfl (run_bin rfl (vx := (.int .i64 ((k : Nat) : Int))) (vy := (.int .i64 ((0 : Nat) : Int))) (by kernel_rfl) (by kernel_rfl) fun w => bn_gtr rfl w) ?_
            refine vm (i := 12) (v := .bool (decide (0 < k))) rfl rfl rfl ?_
            cases hd5 : (decide (0 < k)) with
            | false =>
              have h5 : ¬ (0 < k) := of_decide_eq_false hd5
              clear hd5
              refine vn (i := 13) rfl rfl ?_
              refine vn (i := 14) rfl rfl ?_
              refine vn (i := 15) rfl rfl ?_
              refine vn (i := 16) rfl rfl ?_
              refine vn (i := 17) rfl rfl ?_
              refine vn (i := 18) rfl rfl ?_
              refine vn (i := 19) rfl rfl ?_
              refine vn (i := 20) rfl rfl ?_
              refine vn (i := 21) rfl rfl ?_
              refine vm (i := 22) (v := .bool false) rfl rfl rfl ?_
              refine vm (i := 23) (v := .bool false) rfl rfl rfl ?_
              refine wpV_done (by kernel_rfl) (fun W11 hW11 => ?_) _
              refine (show Code.wp _ _ _ _ _ from ?_)
              refine wp_cond_false rfl ?_
              refine wp_skip ?_
              refine (show Code.wp _ _ _ _ _ from ?_)
              refine wp_seq ?_
              refine wp_region_L (W0 := w) [(g3, .cells (bxC b2) 26 (0, 0)), (g1, .map es cl)] (hW11) ?_
              refine lm (v := .pointer (some ⟨g3, 1, none⟩)) rfl rfl ?_
              refine lv (v := strV b2.num) rfl rfl (yb_cell (off := 1) rfl (by kernel_rfl) (.head _) Tryd.underlying9 rfl (by kernel_rfl)) ?_
              refine lp (v := .bool (!(decide (b2.num = [])))) rfl rfl (run_bin rfl (vx := strV b2.num) (vy := strV []) (by kernel_rfl) (by kernel_rfl) fun w => bs_neq rfl w) ?_
              refine wpL_done (fun W12 hW12 => ?_)
              refine (show Code.wp _ _ _ _ _ from ?_)
              cases hd6 : (decide (b2.num = [])) with
              | false =>
                have h6 : ¬ (b2.num = []) := of_decide_eq_false hd6
                clear hd6
                refine wp_cond_true rfl ?_
                refine wp_region_L (W0 := w) [(g3, .cells (bxC b2) 26 (0, 0)), (g1, .map es cl)] (hW12) ?_
                refine lm (v := .map (some g1)) rfl rfl ?_
                refine lm (v := .pointer (some ⟨g3, 1, none⟩)) rfl rfl ?_
                refine lv (v := strV b2.num) rfl rfl (yb_cell (off := 1) rfl (by kernel_rfl) (.head _) Tryd.underlying9 rfl (by kernel_rfl)) ?_
                refine wpL_s [(g3, .cells (bxC b2) 26 (0, 0)), (g1, .map (mput es cl b2.num (.bool true)).1 (mput es cl b2.num (.bool true)).2)] rfl rfl (st_map (k := b2.num) (v := .bool true) rfl (by kernel_rfl) (by kernel_rfl) (by kernel_rfl) (.tail _ (.head _)) Bg1 Tryd.underlying86 Tryd.underlying9 hM (List.forall_mem_cons.2 ⟨.inr ⟨(.head _), (by first | assumption | exact Ne.symm (by assumption))⟩, (List.forall_mem_cons.2 ⟨.inl rfl, (List.forall_mem_nil _)⟩)⟩)) ?_
                refine wpL_done (fun W13 hW13 => ?_)
                refine (show Code.wp _ _ _ _ _ from ?_)
                refine wp_region_L (W0 := w) [(g3, .cells (bxC b2) 26 (0, 0)), (g1, .map (mput es cl b2.num (.bool true)).1 (mput es cl b2.num (.bool true)).2)] (hW13) ?_
                refine lp (v := .int .i64 (((k + 1) : Nat) : Int)) rfl rfl (run_bin rfl (vx := (.int .i64 ((k : Nat) : Int))) (vy := (.int .i64 ((1 : Nat) : Int))) (by kernel_rfl) (by kernel_rfl) fun w => bn_add (z := (k + 1)) rfl (wr_i64 (by omega)) w) ?_
                refine lm (v := .int .i64 (((k + 1) : Nat) : Int)) rfl rfl ?_
                refine wpL_done (fun W14 hW14 => ?_)
                go_roundw
                case rel =>
                  repeat apply Exists.intro
                  exact ⟨⟨k + 1, (mput es cl b2.num (.bool true)).1, (mput es cl b2.num (.bool true)).2, (mputL L b2.num (.bool true)), (by omega), (goods_on hb (good_0 hy2 h3 h4 h5)), (MapS.put hM cl b2.num (.bool true)), (seen_put hg hy2 h6), rfl, (hW14.sub (fun p hp => (.tail _ hp)))⟩, rfl⟩
                case measure => (show l.length - (intOf (.int .i64 (((k + 1) : Nat) : Int))).toNat < l.length - (intOf (.int .i64 ((k : Nat) : Int))).toNat); simp only [intOf]; omega
              | true =>
                have h6 : b2.num = [] := of_decide_eq_true hd6
                clear hd6
                refine wp_cond_false rfl ?_
                refine wp_skip ?_
                refine (show Code.wp _ _ _ _ _ from ?_)
                refine wp_region_L (W0 := w) [(g3, .cells (bxC b2) 26 (0, 0)), (g1, .map es cl)] (hW12) ?_
                refine lp (v := .int .i64 (((k + 1) : Nat) : Int)) rfl rfl (run_bin rfl (vx := (.int .i64 ((k : Nat) : Int))) (vy := (.int .i64 ((1 : Nat) : Int))) (by kernel_rfl) (by kernel_rfl) fun w => bn_add (z := (k + 1)) rfl (wr_i64 (by omega)) w) ?_
                refine lm (v := .int .i64 (((k + 1) : Nat) : Int)) rfl rfl ?_
                refine wpL_done (fun W15 hW15 => ?_)
                go_roundw
                case rel =>
                  repeat apply Exists.intro
                  exact ⟨⟨k + 1, es, cl, L, (by omega), (goods_on hb (good_0 hy2 h3 h4 h5)), hM, (seen_same hg hy2 h6), rfl, (hW15.sub (fun p hp => (.tail _ hp)))⟩, rfl⟩
                case measure => (show l.length - (intOf (.int .i64 (((k + 1) : Nat) : Int))).toNat < l.length - (intOf (.int .i64 ((k : Nat) : Int))).toNat); simp only [intOf]; omega
            | true =>
              have h5 : 0 < k := of_decide_eq_true hd5
              clear hd5
              refine vm (i := 13) (v := .pointer (some ⟨g3, 0, none⟩)) rfl rfl rfl ?_
              refine vv (i := 14) (v := .int .i64 b2.id) rfl rfl rfl (yb_cell (off := 0) rfl (by kernel_rfl) (.head _) Tryd.underlying3 rfl (by kernel_rfl)) ?_
              refine vm (i := 15) (v := .slice p l.length c) rfl rfl rfl ?_
              refine vm (i := 16) (v := .int .i64 ((k : Nat) : Int)) rfl rfl rfl ?_
              refine vp (i := 17) (v := .int .i64 (((k - 1) : Nat) : Int)) rfl rfl rfl (run_bin rfl (vx := (.int .i64 ((k : Nat) : Int))) (vy := (.int .i64 ((1 : Nat) : Int))) (by kernel_rfl) (by kernel_rfl) fun w => bn_sub (z := (k - 1)) rfl (by omega) (wr_i64 (by omega)) w) ?_
              obtain ⟨b5, g5_, f5, hy5, hp5, lt5, hc5⟩ := bl_at (k := (k - 1)) HP.out (by omega)
              refine vp (i := 18) (v := .pointer (some ⟨g5_, f5 + (k - 1) * 9, none⟩)) rfl rfl rfl (run_idxQ (p := p) (cap := c) (n := l.length) (j := .i64) (k := (k - 1)) (sz := 9) rfl Tryd.underlying22 (by kernel_rfl) (by kernel_rfl) hp5 (by kernel_rfl) (by omega)) ?_
              refine vm (i := 19) (v := .pointer (some ⟨g5_, f5 + (k - 1) * 9, none⟩)) rfl rfl rfl ?_
              refine vv (i := 20) (v := .int .i64 b5.id) rfl rfl rfl (yb_old (off := f5 + (k - 1) * 9 + 0) rfl (by kernel_rfl) (hc5 0 _ rfl) lt5 Tryd.underlying3 rfl) ?_
              refine vp (i := 21) (v := .bool (!(decide (b5.id < b2.id)))) rfl rfl rfl (run_bin rfl (vx := (.int .i64 b2.id)) (vy := (.int .i64 b5.id)) (by kernel_rfl) (by kernel_rfl) fun w => bi_leq rfl w) ?_
              refine vm (i := 22) (v := .bool (!(decide (b5.id < b2.id)))) rfl rfl rfl ?_
              refine vm (i := 23) (v := .bool (!(decide (b5.id < b2.id)))) rfl rfl rfl ?_
              refine wpV_done (by kernel_rfl) (fun W16 hW16 => ?_) _
              refine (show Code.wp _ _ _ _ _ from ?_)
              cases hd7 : (decide (b5.id < b2.id)) with
              | false =>
                have h7 : ¬ (b5.id < b2.id) := of_decide_eq_false hd7
                clear hd7
                refine wp_cond_true rfl ?_
                refine wp_seq ?_
                refine wp_region_L (W0 := w) [(g3, .cells (bxC b2) 26 (0, 0)), (g1, .map es cl)] (hW16) ?_
                refine lm (v := .int .i64 ((k : Nat) : Int)) rfl rfl ?_
                refine lm (v := .int .i64 ((k : Nat) : Int)) rfl rfl ?_
                refine lm (v := .int .i64 60) rfl rfl ?_
                refine wpL_done (fun W17 hW17 => ?_)
                refine (show Code.wp _ _ _ _ _ from ?_)
                refine wp_ret ?_
                try simp only [inBlock_ret, then_ret]
                refine bodyPost_ret (v := .tuple #[.int .i64 ((k : Nat) : Int), .int .i64 60]) ?_ rfl ?_
                · kernel_rfl
                · exact ⟨(ret_v (by rw [hV, if_neg h1, firstBad_some (by omega) hb (bad_prev hy2 hy5 h5 h7)])), hW17.1⟩
              | true =>
                have h7 : b5.id < b2.id := of_decide_eq_true hd7
                clear hd7
                refine wp_cond_false rfl ?_
                refine wp_skip ?_
                refine (show Code.wp _ _ _ _ _ from ?_)
                refine wp_seq ?_
                refine wp_region_L (W0 := w) [(g3, .cells (bxC b2) 26 (0, 0)), (g1, .map es cl)] (hW16) ?_
                refine lm (v := .pointer (some ⟨g3, 1, none⟩)) rfl rfl ?_
                refine lv (v := strV b2.num) rfl rfl (yb_cell (off := 1) rfl (by kernel_rfl) (.head _) Tryd.underlying9 rfl (by kernel_rfl)) ?_
                refine lp (v := .bool (!(decide (b2.num = [])))) rfl rfl (run_bin rfl (vx := strV b2.num) (vy := strV []) (by kernel_rfl) (by kernel_rfl) fun w => bs_neq rfl w) ?_
                refine wpL_done (fun W18 hW18 => ?_)
                refine (show Code.wp _ _ _ _ _ from ?_)
                cases hd8 : (decide (b2.num = [])) with
                | false =>
                  have h8 : ¬ (b2.num = []) := of_decide_eq_false hd8
                  clear hd8
                  refine wp_cond_true rfl ?_
                  refine wp_region_L (W0 := w) [(g3, .cells (bxC b2) 26 (0, 0)), (g1, .map es cl)] (hW18) ?_
                  refine lm (v := .map (some g1)) rfl rfl ?_
                  refine lm (v := .pointer (some ⟨g3, 1, none⟩)) rfl rfl ?_
                  refine lv (v := strV b2.num) rfl rfl (yb_cell (off := 1) rfl (by kernel_rfl) (.head _) Tryd.underlying9 rfl (by kernel_rfl)) ?_
                  refine wpL_s [(g3, .cells (bxC b2) 26 (0, 0)), (g1, .map (mput es cl b2.num (.bool true)).1 (mput es cl b2.num (.bool true)).2)] rfl rfl (st_map (k := b2.num) (v := .bool true) rfl (by kernel_rfl) (by kernel_rfl) (by kernel_rfl) (.tail _ (.head _)) Bg1 Tryd.underlying86 Tryd.underlying9 hM (List.forall_mem_cons.2 ⟨.inr ⟨(.head _), (by first | assumption | exact Ne.symm (by assumption))⟩, (List.forall_mem_cons.2 ⟨.inl rfl, (List.forall_mem_nil _)⟩)⟩)) ?_
                  refine wpL_done (fun W19 hW19 => ?_)
                  refine (show Code.wp _ _ _ _ _ from ?_)
                  refine wp_region_L (W0 := w) [(g3, .cells (bxC b2) 26 (0, 0)), (g1, .map (mput es cl b2.num (.bool true)).1 (mput es cl b2.num (.bool true)).2)] (hW19) ?_
                  refine lp (v := .int .i64 (((k + 1) : Nat) : Int)) rfl rfl (run_bin rfl (vx := (.int .i64 ((k : Nat) : Int))) (vy := (.int .i64 ((1 : Nat) : Int))) (by kernel_rfl) (by kernel_rfl) fun w => bn_add (z := (k + 1)) rfl (wr_i64 (by omega)) w) ?_
                  refine lm (v := .int .i64 (((k + 1) : Nat) : Int)) rfl rfl ?_
                  refine wpL_done (fun W20 hW20 => ?_)
                  go_roundw
                  case rel =>
                    repeat apply Exists.intro
                    exact ⟨⟨k + 1, (mput es cl b2.num (.bool true)).1, (mput es cl b2.num (.bool true)).2, (mputL L b2.num (.bool true)), (by omega), (goods_on hb (good_1 hy2 h3 h4 hy5 h7)), (MapS.put hM cl b2.num (.bool true)), (seen_put hg hy2 h8), rfl, (hW20.sub (fun p hp => (.tail _ hp)))⟩, rfl⟩
                  case measure => (show l.length - (intOf (.int .i64 (((k + 1) : Nat) : Int))).toNat < l.length - (intOf (.int .i64 ((k : Nat) : Int))).toNat); simp only [intOf]; omega
                | true =>
                  have h8 : b2.num = [] := of_decide_eq_true hd8
                  clear hd8
                  refine wp_cond_false rfl ?_
                  refine wp_skip ?_
                  refine (show Code.wp _ _ _ _ _ from ?_)
                  refine wp_region_L (W0 := w) [(g3, .cells (bxC b2) 26 (0, 0)), (g1, .map es cl)] (hW18) ?_
                  refine lp (v := .int .i64 (((k + 1) : Nat) : Int)) rfl rfl (run_bin rfl (vx := (.int .i64 ((k : Nat) : Int))) (vy := (.int .i64 ((1 : Nat) : Int))) (by kernel_rfl) (by kernel_rfl) fun w => bn_add (z := (k + 1)) rfl (wr_i64 (by omega)) w) ?_
                  refine lm (v := .int .i64 (((k + 1) : Nat) : Int)) rfl rfl ?_
                  refine wpL_done (fun W21 hW21 => ?_)
                  go_roundw
                  case rel =>
                    repeat apply Exists.intro
                    exact ⟨⟨k + 1, es, cl, L, (by omega), (goods_on hb (good_1 hy2 h3 h4 hy5 h7)), hM, (seen_same hg hy2 h8), rfl, (hW21.sub (fun p hp => (.tail _ hp)))⟩, rfl⟩
                  case measure => (show l.length - (intOf (.int .i64 (((k + 1) : Nat) : Int))).toNat < l.length - (intOf (.int .i64 ((k : Nat) : Int))).toNat); simp only [intOf]; omega
          | true =>
            refine vn (i := 10) rfl rfl ?_
            refine vn (i := 11) rfl rfl ?_
            refine vn (i := 12) rfl rfl ?_
            refine vn (i := 13) rfl rfl ?_
            refine vn (i := 14) rfl rfl ?_
            refine vn (i := 15) rfl rfl ?_
            refine vn (i := 16) rfl rfl ?_
            refine vn (i := 17) rfl rfl ?_
            refine vn (i := 18) rfl rfl ?_
            refine vn (i := 19) rfl rfl ?_
            refine vn (i := 20) rfl rfl ?_
            refine vn (i := 21) rfl rfl ?_
            refine vn (i := 22) rfl rfl ?_
            refine vm (i := 23) (v := .bool true) rfl rfl rfl ?_
            refine wpV_done (by kernel_rfl) (fun W22 hW22 => ?_) _
            refine (show Code.wp _ _ _ _ _ from ?_)
            refine wp_cond_true rfl ?_
            refine wp_seq ?_
            refine wp_region_L (W0 := w) [(g3, .cells (bxC b2) 26 (0, 0)), (g1, .map es cl)] (hW22) ?_
            refine lm (v := .int .i64 ((k : Nat) : Int)) rfl rfl ?_
            refine lm (v := .int .i64 ((k : Nat) : Int)) rfl rfl ?_
            refine lm (v := .int .i64 60) rfl rfl ?_
            refine wpL_done (fun W23 hW23 => ?_)
            refine (show Code.wp _ _ _ _ _ from ?_)
            refine wp_ret ?_
            try simp only [inBlock_ret, then_ret]
            refine bodyPost_ret (v := .tuple #[.int .i64 ((k : Nat) : Int), .int .i64 60]) ?_ rfl ?_
            · kernel_rfl
            · exact ⟨(ret_v (by rw [hV, if_neg h1, firstBad_some (by omega) hb (bad_seen hy2 h4)])), hW23.1⟩
  | true =>
    have h1 : 2000 < l.length := of_decide_eq_true hd1
    clear hd1
    refine wp_cond_true rfl ?_
    refine wp_seq ?_
    refine wp_region_L (W0 := w) [] (hW2) ?_
    refine lm (v := .int .i64 (-1)) rfl rfl ?_
    refine lm (v := .int .i64 5) rfl rfl ?_
    refine wpL_done (fun W24 hW24 => ?_)
    refine (show Code.wp _ _ _ _ _ from ?_)
    refine wp_ret ?_
    try simp only [inBlock_ret, then_ret]
    refine bodyPost_ret (v := .tuple #[.int .i64 (-1), .int .i64 5]) ?_ rfl ?_
    · kernel_rfl
    · exact ⟨(ret_v (by rw [hV, if_pos h1])), hW24.1⟩
end Go.Proofs.YtllmpemmknblaaaDoor
namespace Go.Proofs.YtllmpemmknblaaaDoor
open Go Go.RowKit Tw
def cmpZ (x y : Int) : Int := if x < y then -1 else if y < x then 1 else 0
def orZ (x y z : Int) : Int := if x = 0 then (if y = 0 then z else y) else x
def cmpX (a b : Bx) : Int := orZ (cmpZ b.dis a.dis) (cmpZ b.kilos a.kilos) (cmpZ a.id b.id)
theorem cmpX_iff (a b : Bx) : cmpX a b < 0 ↔ before a b = true := by
  rw [before_iff]
  unfold cmpX orZ cmpZ
  (repeat' split) <;> omega
theorem cmpX_yes {a b : Bx} (h : cmpX a b < 0) : before a b = true := (cmpX_iff a b).1 h
theorem cmpX_no {a b : Bx} (h : ¬ (cmpX a b < 0)) : before a b = false := by
  rw [← Bool.not_eq_true]
  exact fun e => h ((cmpX_iff a b).2 e)
-- the part of a list from a to i put in order
def InsO (l : List Bx) (a b i : Nat) (l1 : List Bx) : Prop := l1 = l.take a ++ orderX ((l.take (min i b)).drop a) ++ l.drop (min i b)
def InsI (l : List Bx) (a i j : Nat) (l2 : List Bx) : Prop := ∃ x P, l[i]? = some x ∧ P = orderX ((l.take i).drop a) ∧ a ≤ j ∧ j ≤ i ∧ l2 = l.take a ++ (P.take (j - a) ++ x :: P.drop (j - a)) ++ l.drop (i + 1) ∧ ∀ y ∈ P.drop (j - a), before x y = true
theorem insO_start {l : List Bx} {a b : Nat} (hab : a ≤ b) (hb : b ≤ l.length) : InsO l a b (a + 1) l := by
  unfold InsO
  rcases Nat.lt_or_ge a b with h | h
  · rw [Nat.min_eq_left h]
    have ha : a < l.length := by omega
    rw [List.take_succ_eq_append_getElem ha, List.drop_append_of_le_length (by simp; omega), List.drop_eq_nil_of_le (by rw [List.length_take]; exact Nat.min_le_left _ _), List.nil_append]
    show l = l.take a ++ [l[a]] ++ l.drop (a + 1)
    rw [List.append_assoc, List.singleton_append, ← List.drop_eq_getElem_cons ha, List.take_append_drop]
  · have : b = a := by omega
    subst this
    rw [Nat.min_eq_right (by omega), List.drop_eq_nil_of_le (by simp; omega)]
    show l = l.take b ++ [] ++ l.drop b
    rw [List.append_nil, List.take_append_drop]
theorem ord_len {l : List Bx} {a i : Nat} (hi : i ≤ l.length) (ha : a ≤ i) : (orderX ((l.take i).drop a)).length = i - a := by
  rw [order_len, List.length_drop, List.length_take, Nat.min_eq_left hi]
theorem insI_start {l l1 : List Bx} {a b i : Nat} (h : InsO l a b i l1) (hi : i < b) (hb : b ≤ l.length) (ha : a ≤ i) : InsI l a i i l1 := by
  unfold InsO at h
  rw [Nat.min_eq_left (by omega)] at h
  have hl := ord_len (l := l) (a := a) (i := i) (by omega) ha
  obtain ⟨P, hP⟩ : ∃ P, P = orderX ((l.take i).drop a) := ⟨_, rfl⟩
  rw [← hP] at h hl
  refine ⟨l[i]'(by omega), P, List.getElem?_eq_getElem (by omega), hP, ha, Nat.le_refl _, ?_, ?_⟩
  · rw [h, show P.take (i - a) = P from List.take_of_length_le (by omega), show P.drop (i - a) = [] from List.drop_eq_nil_of_le (by omega), List.drop_eq_getElem_cons (show i < l.length by omega)]
    simp
  · rw [List.drop_eq_nil_of_le (by omega)]; exact fun y hy => by cases hy
theorem insI_at {l l2 : List Bx} {a i j : Nat} (h : InsI l a i j l2) (hi : i < l.length) : ∃ x P, P = orderX ((l.take i).drop a) ∧ l[i]? = some x ∧ l2[j]? = some x ∧ (a < j → ∃ y, P[j - 1 - a]? = some y ∧ l2[j - 1]? = some y) := by
  obtain ⟨x, P, hx, hP, h1, h2, h3, h4⟩ := h
  have hl : P.length = i - a := by rw [hP]; exact ord_len (by omega) (by omega)
  have hta : (l.take a).length = a := by rw [List.length_take]; omega
  have htp : (P.take (j - a)).length = j - a := by rw [List.length_take]; omega
  refine ⟨x, P, hP, hx, ?_, fun hj => ?_⟩
  · rw [h3, List.append_assoc, List.getElem?_append_right (by omega), hta, List.append_assoc, List.getElem?_append_right (by omega), htp, Nat.sub_self]; rfl
  · have hy : P[j - 1 - a]? = some (P[j - 1 - a]'(by omega)) := List.getElem?_eq_getElem _
    refine ⟨_, hy, ?_⟩
    rw [h3, List.append_assoc, List.getElem?_append_right (by omega), hta, List.append_assoc, List.getElem?_append_left (by omega), List.getElem?_take_of_lt (by omega)]
    exact hy
theorem insI_step {l l2 : List Bx} {a i j : Nat} {x y : Bx} (h : InsI l a i j l2) (hi : i < l.length) (hj : a < j) (hx : l2[j]? = some x) (hy : l2[j - 1]? = some y) (hb : before x y = true) : InsI l a i (j - 1) ((l2.set j y).set (j - 1) x) := by
  obtain ⟨x', P', hP', hx', hjx, hprev⟩ := insI_at h hi
  obtain ⟨y', hPy, hly⟩ := hprev hj
  obtain ⟨x0, P, h0, hP, h1, h2, h3, h4⟩ := h
  rw [hx] at hjx; cases hjx
  rw [hy] at hly; cases hly
  rw [h0] at hx'; cases hx'
  rw [hP'.trans hP.symm] at hPy
  have hl : P.length = i - a := by rw [hP]; exact ord_len (by omega) (by omega)
  obtain ⟨hlt, hge⟩ := List.getElem?_eq_some_iff.1 hPy
  have hta : (l.take a).length = a := by rw [List.length_take]; omega
  have e1 : P.take (j - a) = P.take (j - 1 - a) ++ [y] := by
    rw [show j - a = (j - 1 - a) + 1 from by omega, List.take_succ_eq_append_getElem hlt, hge]
  have e2 : P.drop (j - 1 - a) = y :: P.drop (j - a) := by
    rw [List.drop_eq_getElem_cons hlt, hge, show j - 1 - a + 1 = j - a from by omega]
  refine ⟨x, P, h0, hP, by omega, by omega, ?_, ?_⟩
  · have htp : (P.take (j - 1 - a)).length = j - 1 - a := by rw [List.length_take]; omega
    have e3 : l2 = (l.take a ++ P.take (j - 1 - a)) ++ (y :: x :: (P.drop (j - a) ++ l.drop (i + 1))) := by
      rw [h3, e1]; simp
    have hA : (l.take a ++ P.take (j - 1 - a)).length = j - 1 := by rw [List.length_append, hta, htp]; omega
    rw [e2, e3, List.set_append_right _ _ (by omega), hA, List.set_append_right _ _ (by omega), hA, show j - (j - 1) = 1 from by omega, Nat.sub_self]
    simp
  · rw [e2]
    intro z hz
    rcases List.mem_cons.1 hz with rfl | hz
    · exact hb
    · exact h4 z hz
theorem insO_next {l l2 : List Bx} {a b i j : Nat} (h : InsI l a i j l2) (hi : i < b) (hb : b ≤ l.length) (hstop : j = a ∨ ∃ x y, a < j ∧ l2[j]? = some x ∧ l2[j - 1]? = some y ∧ before x y = false) : InsO l a b (i + 1) l2 := by
  obtain ⟨x', P', hP', hx', hjx, hprev⟩ := insI_at h (by omega)
  obtain ⟨x, P, h0, hP, h1, h2, h3, h4⟩ := h
  rw [h0] at hx'; cases hx'
  unfold InsO
  rw [Nat.min_eq_left (by omega), h3]
  have hdrop : (l.take (i + 1)).drop a = (l.take i).drop a ++ [x'] := by
    obtain ⟨hil, hxe⟩ := List.getElem?_eq_some_iff.1 h0
    rw [List.take_succ_eq_append_getElem hil, List.drop_append_of_le_length (by rw [List.length_take]; omega), hxe]
  rw [hdrop, order_snoc, ← hP]
  congr 2
  conv => rhs; rw [← List.take_append_drop (j - a) P]
  symm
  refine insB_split (fun z hz => ?_) h4
  have hs : SortedX P := by rw [hP]; exact order_sorted _
  rcases hstop with rfl | ⟨x1, y, hj, hx1, hy, hb1⟩
  · rw [Nat.sub_self] at hz; cases hz
  · rw [hx1] at hjx; cases hjx
    obtain ⟨y', hPy, hly⟩ := hprev hj
    rw [hy] at hly; cases hly
    rw [hP'.trans hP.symm] at hPy
    obtain ⟨hlt, hge⟩ := List.getElem?_eq_some_iff.1 hPy
    have hPs : P = P.take (j - 1 - a) ++ (y :: P.drop (j - a)) := by
      conv => lhs; rw [← List.take_append_drop (j - 1 - a) P]
      rw [List.drop_eq_getElem_cons hlt, hge, show j - 1 - a + 1 = j - a from by omega]
    rw [show j - a = (j - 1 - a) + 1 from by omega, List.take_succ_eq_append_getElem hlt, hge] at hz
    rcases List.mem_append.1 hz with hz | hz
    · unfold SortedX at hs
      rw [hPs, List.pairwise_append] at hs
      exact before_le (hs.2.2 z hz y (.head _)) hb1
    · cases List.mem_singleton.1 hz; exact hb1
theorem insO_end {l l1 : List Bx} {a b i : Nat} (h : InsO l a b i l1) (hi : ¬ i < b) : l1 = l.take a ++ orderX ((l.take b).drop a) ++ l.drop b := by
  unfold InsO at h
  rwa [Nat.min_eq_right (by omega)] at h
theorem insI_len {l l2 : List Bx} {a i j : Nat} (h : InsI l a i j l2) (hi : i < l.length) : l2.length = l.length := by
  obtain ⟨x, P, hx, hP, h1, h2, h3, h4⟩ := h
  have hl : P.length = i - a := by rw [hP]; exact ord_len (by omega) (by omega)
  rw [h3]; simp; omega
set_option maxRecDepth 100000 in
set_option maxHeartbeats 4000000 in
theorem isNaN_any (x : Int) (w : World) : Calls Tryd.prog 73 #[.int .i64 x] w fun e w' => e = .returned (.bool false) ∧ Below w.heap.size w w' := by
  go_enter Tryd.func73, Tryd.ntmps73
  refine wp_seq ?_
  refine wp_region_L (W0 := w) [] (KS.start w) ?_
  refine lm (v := .bool false) rfl rfl ?_
  refine wpL_done (fun W1 hW1 => ?_)
  refine (show Code.wp _ _ _ _ _ from ?_)
  refine wp_seq ?_
  refine wp_region_L (W0 := w) [] (hW1) ?_
  refine lm (v := .int .i64 x) rfl rfl ?_
  refine lm (v := .int .i64 x) rfl rfl ?_
  refine lp (v := .bool false) rfl rfl (run_bin rfl (vx := (.int .i64 x)) (vy := (.int .i64 x)) (by kernel_rfl) (by kernel_rfl) fun w => bi_neq (decide_eq_true rfl) w) ?_
  refine lm (v := .bool false) rfl rfl ?_
  refine wpL_done (fun W2 hW2 => ?_)
  refine (show Code.wp _ _ _ _ _ from ?_)
  refine wp_ret ?_
  try simp only [inBlock_ret, then_ret]
  refine bodyPost_ret (v := .bool false) ?_ rfl ?_
  · kernel_rfl
  · exact ⟨rfl, hW2.1⟩
set_option maxRecDepth 100000 in
set_option maxHeartbeats 4000000 in
theorem Cmp_any (x y : Int) (w : World) : Calls Tryd.prog 66 #[.int .i64 x, .int .i64 y] w fun e w' => e = .returned (.int .i64 (cmpZ x y)) ∧ Below w.heap.size w w' := by
  go_enter Tryd.func66, Tryd.ntmps66
  refine wp_seq ?_
  refine wp_region_L (W0 := w) [] (KS.start w) ?_
  refine lm (v := .int .i64 0) rfl rfl ?_
  refine wpL_done (fun W1 hW1 => ?_)
  refine (show Code.wp _ _ _ _ _ from ?_)
  refine wp_seq ?_
  refine wp_region_L (W0 := w) [] (hW1) ?_
  refine lm (v := .int .i64 x) rfl rfl ?_
  refine lv (v := .bool false) rfl rfl (yb_call (f := 73) (args := #[.int .i64 x]) (fun _ => by kernel_rfl) fun W hW => isNaN_any x W) ?_
  refine lm (v := .bool false) rfl rfl ?_
  refine wpL_done (fun W2 hW2 => ?_)
  refine (show Code.wp _ _ _ _ _ from ?_)
  refine wp_seq ?_
  refine wp_region_L (W0 := w) [] (hW2) ?_
  refine lm (v := .int .i64 y) rfl rfl ?_
  refine lv (v := .bool false) rfl rfl (yb_call (f := 73) (args := #[.int .i64 y]) (fun _ => by kernel_rfl) fun W hW => isNaN_any y W) ?_
  refine lm (v := .bool false) rfl rfl ?_
  refine wpL_done (fun W3 hW3 => ?_)
  refine (show Code.wp _ _ _ _ _ from ?_)
  refine wp_seq ?_
  refine wp_seq ?_
  refine wp_region_L (W0 := w) [] (hW3) ?_
  refine lm (v := .bool false) rfl rfl ?_
  refine wpL_done (fun W4 hW4 => ?_)
  refine (show Code.wp _ _ _ _ _ from ?_)
  refine wp_cond_false rfl ?_
  refine wp_skip ?_
  refine (show Code.wp _ _ _ _ _ from ?_)
  refine wp_seq ?_
  refine wp_seq ?_
  refine wp_region_L (W0 := w) [] (hW4) ?_
  refine lm (v := .bool false) rfl rfl ?_
  refine wpL_done (fun W5 hW5 => ?_)
  refine (show Code.wp _ _ _ _ _ from ?_)
  refine wp_cond_false rfl ?_
  refine wp_skip ?_
  refine (show Code.wp _ _ _ _ _ from ?_)
  refine wp_seq ?_
  refine wp_seq ?_
  refine wp_region_L (W0 := w) [] (hW5) ?_
  refine lm (v := .int .i64 x) rfl rfl ?_
  refine lm (v := .int .i64 y) rfl rfl ?_
  refine lp (v := .bool (decide (x < y))) rfl rfl (run_bin rfl (vx := (.int .i64 x)) (vy := (.int .i64 y)) (by kernel_rfl) (by kernel_rfl) fun w => bi_lss rfl w) ?_
  refine wpL_done (fun W6 hW6 => ?_)
  refine (show Code.wp _ _ _ _ _ from ?_)
  cases hd1 : (decide (x < y)) with
  | false =>
    have h1 : ¬ (x < y) := of_decide_eq_false hd1
    clear hd1
    refine wp_cond_false rfl ?_
    refine wp_skip ?_
    refine (show Code.wp _ _ _ _ _ from ?_)
    refine wp_seq ?_
    refine wp_seq ?_
    refine wp_region_L (W0 := w) [] (hW6) ?_
    refine lm (v := .int .i64 x) rfl rfl ?_
    refine lm (v := .int .i64 y) rfl rfl ?_
    refine lp (v := .bool (decide (y < x))) rfl rfl (run_bin rfl (vx := (.int .i64 x)) (vy := (.int .i64 y)) (by kernel_rfl) (by kernel_rfl) fun w => bi_gtr rfl w) ?_
    refine wpL_done (fun W7 hW7 => ?_)
    refine (show Code.wp _ _ _ _ _ from ?_)
    cases hd2 : (decide (y < x)) with
    | false =>
      have h2 : ¬ (y < x) := of_decide_eq_false hd2
      clear hd2
      refine wp_cond_false rfl ?_
      refine wp_skip ?_
      refine (show Code.wp _ _ _ _ _ from ?_)
      refine wp_seq ?_
      refine wp_region_L (W0 := w) [] (hW7) ?_
      refine lm (v := .int .i64 0) rfl rfl ?_
      refine wpL_done (fun W8 hW8 => ?_)
      refine (show Code.wp _ _ _ _ _ from ?_)
      refine wp_ret ?_
      try simp only [inBlock_ret, then_ret]
      refine bodyPost_ret (v := .int .i64 0) ?_ rfl ?_
      · kernel_rfl
      · exact ⟨(z_is (by unfold cmpZ; simp only [*, if_true, if_false, reduceIte])), hW8.1⟩
    | true =>
      have h2 : y < x := of_decide_eq_true hd2
      clear hd2
      refine wp_cond_true rfl ?_
      refine wp_seq ?_
      refine wp_region_L (W0 := w) [] (hW7) ?_
      refine lm (v := .int .i64 1) rfl rfl ?_
      refine wpL_done (fun W9 hW9 => ?_)
      refine (show Code.wp _ _ _ _ _ from ?_)
      refine wp_ret ?_
      try simp only [inBlock_ret, then_ret]
      refine bodyPost_ret (v := .int .i64 1) ?_ rfl ?_
      · kernel_rfl
      · exact ⟨(z_is (by unfold cmpZ; simp only [*, if_true, if_false, reduceIte])), hW9.1⟩
  | true =>
    have h1 : x < y := of_decide_eq_true hd1
    clear hd1
    refine wp_cond_true rfl ?_
    refine wp_seq ?_
    refine wp_region_L (W0 := w) [] (hW6) ?_
    refine lm (v := .int .i64 (-1)) rfl rfl ?_
    refine wpL_done (fun W10 hW10 => ?_)
    refine (show Code.wp _ _ _ _ _ from ?_)
    refine wp_ret ?_
    try simp only [inBlock_ret, then_ret]
    refine bodyPost_ret (v := .int .i64 (-1)) ?_ rfl ?_
    · kernel_rfl
    · exact ⟨(z_is (by unfold cmpZ; simp only [*, if_true, if_false, reduceIte])), hW10.1⟩
set_option maxRecDepth 100000 in
set_option maxHeartbeats 4000000 in
theorem Or_any (x y z : Int) (g : Nat) (w : World) (hg : w.heap[g]? = some (.cells #[.int .i64 x, .int .i64 y, .int .i64 z] 3 (0, 0))) : Calls Tryd.prog 65 #[.slice (some ⟨g, 0, none⟩) 3 3] w fun e w' => e = .returned (.int .i64 (orZ x y z)) ∧ Below w.heap.size w w' := by
  have hk0 : KS w [(g, .cells #[.int .i64 x, .int .i64 y, .int .i64 z] 3 (0, 0))] w := ⟨Below.refl _ _, fun p hp => by cases List.mem_singleton.1 hp; exact hg⟩
  clear hg
  go_enter Tryd.func65, Tryd.ntmps65
  refine wp_seq ?_
  refine wp_region_L (W0 := w) [(g, .cells #[.int .i64 x, .int .i64 y, .int .i64 z] 3 (0, 0))] (hk0) ?_
  refine lm (v := .int .i64 0) rfl rfl ?_
  refine wpL_done (fun W1 hW1 => ?_)
  refine (show Code.wp _ _ _ _ _ from ?_)
  refine wp_seq ?_
  refine wp_region_L (W0 := w) [(g, .cells #[.int .i64 x, .int .i64 y, .int .i64 z] 3 (0, 0))] (hW1) ?_
  refine lm (v := .int .i64 0) rfl rfl ?_
  refine wpL_done (fun W2 hW2 => ?_)
  refine (show Code.wp _ _ _ _ _ from ?_)
  refine wp_seq ?_
  refine wp_seq ?_
  refine wp_region_L (W0 := w) [(g, .cells #[.int .i64 x, .int .i64 y, .int .i64 z] 3 (0, 0))] (hW2) ?_
  refine lm (v := .slice (some ⟨g, 0, none⟩) 3 3) rfl rfl ?_
  refine lm (v := .int .i64 3) rfl rfl ?_
  refine lm (v := .int .i64 0) rfl rfl ?_
  refine wpL_done (fun W3 hW3 => ?_)
  refine (show Code.wp _ _ _ _ _ from ?_)
  refine wp_block ?_
  refine wp_loop_rounds 4 ?_
  refine (show Code.wp _ _ _ _ _ from ?_)
  refine wp_seq ?_
  refine wp_region_L (W0 := w) [(g, .cells #[.int .i64 x, .int .i64 y, .int .i64 z] 3 (0, 0))] (hW3) ?_
  refine lm (v := .bool true) rfl rfl ?_
  refine wpL_done (fun W4 hW4 => ?_)
  refine (show Code.wp _ _ _ _ _ from ?_)
  refine wp_seq ?_
  refine wp_cond_true rfl ?_
  refine wp_skip ?_
  refine (show Code.wp _ _ _ _ _ from ?_)
  refine wp_seq ?_
  refine wp_block ?_
  refine wp_seq ?_
  refine wp_region_L (W0 := w) [(g, .cells #[.int .i64 x, .int .i64 y, .int .i64 z] 3 (0, 0))] (hW4) ?_
  refine lm (v := .pointer (some ⟨g, 0, none⟩)) rfl rfl ?_
  refine lv (v := .int .i64 x) rfl rfl (yb_cell (off := 0) rfl (by kernel_rfl) (.head _) Tryd.underlying3 rfl (by kernel_rfl)) ?_
  refine lm (v := .int .i64 x) rfl rfl ?_
  refine wpL_done (fun W5 hW5 => ?_)
  refine (show Code.wp _ _ _ _ _ from ?_)
  refine wp_seq ?_
  refine wp_region_L (W0 := w) [(g, .cells #[.int .i64 x, .int .i64 y, .int .i64 z] 3 (0, 0))] (hW5) ?_
  refine lm (v := .int .i64 x) rfl rfl ?_
  refine lm (v := .int .i64 0) rfl rfl ?_
  refine lp (v := .bool (!(decide (x = 0)))) rfl rfl (run_bin rfl (vx := (.int .i64 x)) (vy := (.int .i64 0)) (by kernel_rfl) (by kernel_rfl) fun w => bi_neq rfl w) ?_
  refine wpL_done (fun W6 hW6 => ?_)
  refine (show Code.wp _ _ _ _ _ from ?_)
  cases hd1 : (decide (x = 0)) with
  | false =>
    have h1 : ¬ (x = 0) := of_decide_eq_false hd1
    clear hd1
    refine wp_cond_true rfl ?_
    refine wp_seq ?_
    refine wp_region_L (W0 := w) [(g, .cells #[.int .i64 x, .int .i64 y, .int .i64 z] 3 (0, 0))] (hW6) ?_
    refine lm (v := .int .i64 x) rfl rfl ?_
    refine lm (v := .int .i64 x) rfl rfl ?_
    refine wpL_done (fun W7 hW7 => ?_)
    refine (show Code.wp _ _ _ _ _ from ?_)
    refine wp_ret ?_
    try simp only [inBlock_ret, then_ret]
    refine bodyPost_ret (v := .int .i64 x) ?_ rfl ?_
    · kernel_rfl
    · exact ⟨(z_is (by simp [orZ, h1])), hW7.1⟩
  | true =>
    have h1 : x = 0 := of_decide_eq_true hd1
    clear hd1
    refine wp_cond_false rfl ?_
    refine wp_skip ?_
    refine (show Code.wp _ _ _ _ _ from ?_)
    refine wp_region_L (W0 := w) [(g, .cells #[.int .i64 x, .int .i64 y, .int .i64 z] 3 (0, 0))] (hW6) ?_
    refine lm (v := .int .i64 1) rfl rfl ?_
    refine lm (v := .int .i64 1) rfl rfl ?_
    refine wpL_done (fun W8 hW8 => ?_)
    refine (show Code.wp _ _ _ _ _ from ?_)
    refine wp_seq ?_
    refine wp_region_L (W0 := w) [(g, .cells #[.int .i64 x, .int .i64 y, .int .i64 z] 3 (0, 0))] (hW8) ?_
    refine lm (v := .bool true) rfl rfl ?_
    refine wpL_done (fun W9 hW9 => ?_)
    refine (show Code.wp _ _ _ _ _ from ?_)
    refine wp_seq ?_
    refine wp_cond_true rfl ?_
    refine wp_skip ?_
    refine (show Code.wp _ _ _ _ _ from ?_)
    refine wp_seq ?_
    refine wp_block ?_
    refine wp_seq ?_
    refine wp_region_L (W0 := w) [(g, .cells #[.int .i64 x, .int .i64 y, .int .i64 z] 3 (0, 0))] (hW9) ?_
    refine lm (v := .pointer (some ⟨g, 1, none⟩)) rfl rfl ?_
    refine lv (v := .int .i64 y) rfl rfl (yb_cell (off := 1) rfl (by kernel_rfl) (.head _) Tryd.underlying3 rfl (by kernel_rfl)) ?_
    refine lm (v := .int .i64 y) rfl rfl ?_
    refine wpL_done (fun W10 hW10 => ?_)
    refine (show Code.wp _ _ _ _ _ from ?_)
    refine wp_seq ?_
    refine wp_region_L (W0 := w) [(g, .cells #[.int .i64 x, .int .i64 y, .int .i64 z] 3 (0, 0))] (hW10) ?_
    refine lm (v := .int .i64 y) rfl rfl ?_
    refine lm (v := .int .i64 0) rfl rfl ?_
    refine lp (v := .bool (!(decide (y = 0)))) rfl rfl (run_bin rfl (vx := (.int .i64 y)) (vy := (.int .i64 0)) (by kernel_rfl) (by kernel_rfl) fun w => bi_neq rfl w) ?_
    refine wpL_done (fun W11 hW11 => ?_)
    refine (show Code.wp _ _ _ _ _ from ?_)
    cases hd2 : (decide (y = 0)) with
    | false =>
      have h2 : ¬ (y = 0) := of_decide_eq_false hd2
      clear hd2
      refine wp_cond_true rfl ?_
      refine wp_seq ?_
      refine wp_region_L (W0 := w) [(g, .cells #[.int .i64 x, .int .i64 y, .int .i64 z] 3 (0, 0))] (hW11) ?_
      refine lm (v := .int .i64 y) rfl rfl ?_
      refine lm (v := .int .i64 y) rfl rfl ?_
      refine wpL_done (fun W12 hW12 => ?_)
      refine (show Code.wp _ _ _ _ _ from ?_)
      refine wp_ret ?_
      try simp only [inBlock_ret, then_ret]
      refine bodyPost_ret (v := .int .i64 y) ?_ rfl ?_
      · kernel_rfl
      · exact ⟨(z_is (by simp [orZ, h1, h2])), hW12.1⟩
    | true =>
      have h2 : y = 0 := of_decide_eq_true hd2
      clear hd2
      refine wp_cond_false rfl ?_
      refine wp_skip ?_
      refine (show Code.wp _ _ _ _ _ from ?_)
      refine wp_region_L (W0 := w) [(g, .cells #[.int .i64 x, .int .i64 y, .int .i64 z] 3 (0, 0))] (hW11) ?_
      refine lm (v := .int .i64 2) rfl rfl ?_
      refine lm (v := .int .i64 2) rfl rfl ?_
      refine wpL_done (fun W13 hW13 => ?_)
      refine (show Code.wp _ _ _ _ _ from ?_)
      refine wp_seq ?_
      refine wp_region_L (W0 := w) [(g, .cells #[.int .i64 x, .int .i64 y, .int .i64 z] 3 (0, 0))] (hW13) ?_
      refine lm (v := .bool true) rfl rfl ?_
      refine wpL_done (fun W14 hW14 => ?_)
      refine (show Code.wp _ _ _ _ _ from ?_)
      refine wp_seq ?_
      refine wp_cond_true rfl ?_
      refine wp_skip ?_
      refine (show Code.wp _ _ _ _ _ from ?_)
      refine wp_seq ?_
      refine wp_block ?_
      refine wp_seq ?_
      refine wp_region_L (W0 := w) [(g, .cells #[.int .i64 x, .int .i64 y, .int .i64 z] 3 (0, 0))] (hW14) ?_
      refine lm (v := .pointer (some ⟨g, 2, none⟩)) rfl rfl ?_
      refine lv (v := .int .i64 z) rfl rfl (yb_cell (off := 2) rfl (by kernel_rfl) (.head _) Tryd.underlying3 rfl (by kernel_rfl)) ?_
      refine lm (v := .int .i64 z) rfl rfl ?_
      refine wpL_done (fun W15 hW15 => ?_)
      refine (show Code.wp _ _ _ _ _ from ?_)
      refine wp_seq ?_
      refine wp_region_L (W0 := w) [(g, .cells #[.int .i64 x, .int .i64 y, .int .i64 z] 3 (0, 0))] (hW15) ?_
      refine lm (v := .int .i64 z) rfl rfl ?_
      refine lm (v := .int .i64 0) rfl rfl ?_
      refine lp (v := .bool (!(decide (z = 0)))) rfl rfl (run_bin rfl (vx := (.int .i64 z)) (vy := (.int .i64 0)) (by kernel_rfl) (by kernel_rfl) fun w => bi_neq rfl w) ?_
      refine wpL_done (fun W16 hW16 => ?_)
      refine (show Code.wp _ _ _ _ _ from ?_)
      cases hd3 : (decide (z = 0)) with
      | false =>
        have h3 : ¬ (z = 0) := of_decide_eq_false hd3
        clear hd3
        refine wp_cond_true rfl ?_
        refine wp_seq ?_
        refine wp_region_L (W0 := w) [(g, .cells #[.int .i64 x, .int .i64 y, .int .i64 z] 3 (0, 0))] (hW16) ?_
        refine lm (v := .int .i64 z) rfl rfl ?_
        refine lm (v := .int .i64 z) rfl rfl ?_
        refine wpL_done (fun W17 hW17 => ?_)
        refine (show Code.wp _ _ _ _ _ from ?_)
        refine wp_ret ?_
        try simp only [inBlock_ret, then_ret]
        refine bodyPost_ret (v := .int .i64 z) ?_ rfl ?_
        · kernel_rfl
        · exact ⟨(z_is (by simp [orZ, h1, h2, h3])), hW17.1⟩
      | true =>
        have h3 : z = 0 := of_decide_eq_true hd3
        clear hd3
        refine wp_cond_false rfl ?_
        refine wp_skip ?_
        refine (show Code.wp _ _ _ _ _ from ?_)
        refine wp_region_L (W0 := w) [(g, .cells #[.int .i64 x, .int .i64 y, .int .i64 z] 3 (0, 0))] (hW16) ?_
        refine lm (v := .int .i64 3) rfl rfl ?_
        refine lm (v := .int .i64 3) rfl rfl ?_
        refine wpL_done (fun W18 hW18 => ?_)
        refine (show Code.wp _ _ _ _ _ from ?_)
        refine wp_seq ?_
        refine wp_region_L (W0 := w) [(g, .cells #[.int .i64 x, .int .i64 y, .int .i64 z] 3 (0, 0))] (hW18) ?_
        refine lm (v := .bool false) rfl rfl ?_
        refine wpL_done (fun W19 hW19 => ?_)
        refine (show Code.wp _ _ _ _ _ from ?_)
        refine wp_seq ?_
        refine wp_cond_false rfl ?_
        refine wp_exit ?_
        refine (show Code.wp _ _ _ _ _ from ?_)
        refine wp_seq ?_
        refine wp_region_L (W0 := w) [(g, .cells #[.int .i64 x, .int .i64 y, .int .i64 z] 3 (0, 0))] (hW19) ?_
        refine lm (v := .int .i64 0) rfl rfl ?_
        refine lm (v := .int .i64 0) rfl rfl ?_
        refine wpL_done (fun W20 hW20 => ?_)
        refine (show Code.wp _ _ _ _ _ from ?_)
        refine wp_ret ?_
        try simp only [inBlock_ret, then_ret]
        refine bodyPost_ret (v := .int .i64 0) ?_ rfl ?_
        · kernel_rfl
        · exact ⟨(z_is (by simp [orZ, h1, h2, h3])), hW20.1⟩
set_option maxRecDepth 100000 in
set_option maxHeartbeats 4000000 in
theorem compare_any (a b : Bx) (w : World) : Calls Tryd.prog 48 #[bxV a, bxV b] w fun e w' => e = .returned (.int .i64 (cmpX a b)) ∧ Below w.heap.size w w' := by
  go_enter Tryd.func48, Tryd.ntmps48
  refine wp_seq ?_
  refine wp_region_L (W0 := w) [] (KS.start w) ?_
  refine wpL_new (fun g => .pointer (some ⟨g, 0, none⟩)) (obi := .cells (bxC a) 26 (0, 0)) rfl rfl (fun _ => by kernel_rfl) (fun _ => by simp only [List.setIfInBounds_toArray, List.set_cons_succ, List.set_cons_zero] <;> rfl) fun g1 Bg1 Fg1 => ?_
  refine wpL_new (fun g => .pointer (some ⟨g, 0, none⟩)) (obi := .cells (bxC b) 26 (0, 0)) rfl rfl (fun _ => by kernel_rfl) (fun _ => by simp only [List.setIfInBounds_toArray, List.set_cons_succ, List.set_cons_zero] <;> rfl) fun g2 Bg2 Fg2 => ?_
  obtain dj3_0 : g1 ≠ g2 := by simpa only [dj_app_l, dj_app_r, dj_cons_l, dj_cons_r, dj_nil_l, dj_nil_r, dk_app, dk_cons, dk_nil, and_true, true_and, and_assoc] using (show Dk g2 [(g1, .cells (bxC a) 26 (0, 0))] from Fg2)
  refine lm (v := .int .i64 0) rfl rfl ?_
  refine wpL_done (fun W1 hW1 => ?_)
  refine (show Code.wp _ _ _ _ _ from ?_)
  refine wp_seq ?_
  refine wp_region_V (W0 := w) [(g2, .cells (bxC b) 26 (0, 0)), (g1, .cells (bxC a) 26 (0, 0))] (by kernel_rfl) (hW1) ?_
  refine vm (i := 0) (v := .pointer (some ⟨g2, 6, none⟩)) rfl rfl rfl ?_
  refine vv (i := 1) (v := .int .i64 b.dis) rfl rfl rfl (yb_cell (off := 6) rfl (by kernel_rfl) (.head _) Tryd.underlying3 rfl (by kernel_rfl)) ?_
  refine vm (i := 2) (v := .pointer (some ⟨g1, 6, none⟩)) rfl rfl rfl ?_
  refine vv (i := 3) (v := .int .i64 a.dis) rfl rfl rfl (yb_cell (off := 6) rfl (by kernel_rfl) (.tail _ (.head _)) Tryd.underlying3 rfl (by kernel_rfl)) ?_
  refine vv (i := 4) (v := .int .i64 (cmpZ b.dis a.dis)) rfl rfl rfl (yb_call (f := 66) (args := #[.int .i64 b.dis, .int .i64 a.dis]) (fun _ => by kernel_rfl) fun W hW => Cmp_any b.dis a.dis W) ?_
  refine vm (i := 5) (v := .pointer (some ⟨g2, 4, none⟩)) rfl rfl rfl ?_
  refine vv (i := 6) (v := .int .i64 b.kilos) rfl rfl rfl (yb_cell (off := 4) rfl (by kernel_rfl) (.head _) Tryd.underlying3 rfl (by kernel_rfl)) ?_
  refine vm (i := 7) (v := .pointer (some ⟨g1, 4, none⟩)) rfl rfl rfl ?_
  refine vv (i := 8) (v := .int .i64 a.kilos) rfl rfl rfl (yb_cell (off := 4) rfl (by kernel_rfl) (.tail _ (.head _)) Tryd.underlying3 rfl (by kernel_rfl)) ?_
  refine vv (i := 9) (v := .int .i64 (cmpZ b.kilos a.kilos)) rfl rfl rfl (yb_call (f := 66) (args := #[.int .i64 b.kilos, .int .i64 a.kilos]) (fun _ => by kernel_rfl) fun W hW => Cmp_any b.kilos a.kilos W) ?_
  refine vm (i := 10) (v := .pointer (some ⟨g1, 0, none⟩)) rfl rfl rfl ?_
  refine vv (i := 11) (v := .int .i64 a.id) rfl rfl rfl (yb_cell (off := 0) rfl (by kernel_rfl) (.tail _ (.head _)) Tryd.underlying3 rfl (by kernel_rfl)) ?_
  refine vm (i := 12) (v := .pointer (some ⟨g2, 0, none⟩)) rfl rfl rfl ?_
  refine vv (i := 13) (v := .int .i64 b.id) rfl rfl rfl (yb_cell (off := 0) rfl (by kernel_rfl) (.head _) Tryd.underlying3 rfl (by kernel_rfl)) ?_
  refine vv (i := 14) (v := .int .i64 (cmpZ a.id b.id)) rfl rfl rfl (yb_call (f := 66) (args := #[.int .i64 a.id, .int .i64 b.id]) (fun _ => by kernel_rfl) fun W hW => Cmp_any a.id b.id W) ?_
  refine wpV_ns (fun g => .slice (some ⟨g, 0, none⟩) 3 3) (i := 15) (obi := .cells #[.int .i64 (cmpZ b.dis a.dis), .int .i64 (cmpZ b.kilos a.kilos), .int .i64 (cmpZ a.id b.id)] 3 (0, 0)) rfl rfl rfl (by kernel_rfl) (fun _ => by kernel_rfl) (fun _ => by simp only [List.setIfInBounds_toArray, List.set_cons_succ, List.set_cons_zero] <;> rfl) fun g4 Bg4 Fg4 => ?_
  obtain ⟨dj5_0, dj5_1⟩ : g2 ≠ g4 ∧ g1 ≠ g4 := by simpa only [dj_app_l, dj_app_r, dj_cons_l, dj_cons_r, dj_nil_l, dj_nil_r, dk_app, dk_cons, dk_nil, and_true, true_and, and_assoc] using (show Dk g4 [(g2, .cells (bxC b) 26 (0, 0)), (g1, .cells (bxC a) 26 (0, 0))] from Fg4)
  refine vv (i := 16) (v := .int .i64 (orZ (cmpZ b.dis a.dis) (cmpZ b.kilos a.kilos) (cmpZ a.id b.id))) rfl rfl rfl (yb_call (f := 65) (args := #[.slice (some ⟨g4, 0, none⟩) 3 3]) (fun _ => by kernel_rfl) fun W hW => Or_any (cmpZ b.dis a.dis) (cmpZ b.kilos a.kilos) (cmpZ a.id b.id) g4 W (hW.2 _ (.head _))) ?_
  refine vm (i := 17) (v := .int .i64 (orZ (cmpZ b.dis a.dis) (cmpZ b.kilos a.kilos) (cmpZ a.id b.id))) rfl rfl rfl ?_
  refine wpV_done (by kernel_rfl) (fun W2 hW2 => ?_) _
  refine (show Code.wp _ _ _ _ _ from ?_)
  refine wp_ret ?_
  try simp only [inBlock_ret, then_ret]
  refine bodyPost_ret (v := .int .i64 (orZ (cmpZ b.dis a.dis) (cmpZ b.kilos a.kilos) (cmpZ a.id b.id))) ?_ rfl ?_
  · kernel_rfl
  · exact ⟨rfl, hW2.1⟩
end Go.Proofs.YtllmpemmknblaaaDoor
namespace Go.Proofs.YtllmpemmknblaaaDoor
open Go Go.RowKit Tw
theorem exit_then (f : Act → World → Prop) (Q : Exit → Act → World → Prop) (n : Nat) (a : Act) (w : World) : Exit.then f Q (.exit n) a w = Q (.exit n) a w := rfl
theorem exit_in (n : Nat) (Q : Exit → Act → World → Prop) (a : Act) (w : World) : Exit.inBlock n Q (.exit n) a w = Q .normal a w := if_pos rfl
theorem exit_out (n m : Nat) (Q : Exit → Act → World → Prop) (a : Act) (w : World) (h : (m == n) = false) : Exit.inBlock n Q (.exit m) a w = Q (.exit m) a w := if_neg (by intro e; subst e; simp at h)
def RowX (cur : Array Value) (l : List Bx) : Prop := ∃ rest, cur.toList = bcs l ++ rest
def putR (cur : Array Value) (k : Nat) (b : Bx) : Array Value := (cur.toList.take (k * 9) ++ (bxC b).toList ++ cur.toList.drop (k * 9 + 9)).toArray
theorem RowX.size {cur : Array Value} {l : List Bx} (h : RowX cur l) : l.length * 9 ≤ cur.size := by
  obtain ⟨rest, h⟩ := h
  have := congrArg List.length h
  rw [List.length_append, bcs_len, Array.length_toList] at this
  omega
theorem RowX.get {cur : Array Value} {l : List Bx} {k : Nat} {b : Bx} (h : RowX cur l) (hb : l[k]? = some b) : ∀ (j : Nat) (v : Value), (bxC b).toList[j]? = some v → cur[0 + k * 9 + j]? = some v := fun j v hv => by
  obtain ⟨rest, h⟩ := h
  have h1 := bcs_get hb hv
  rw [← Array.getElem?_toList, h, Nat.zero_add, List.getElem?_append_left (List.getElem?_eq_some_iff.1 h1).1, h1]
theorem bcs_split {l : List Bx} {k : Nat} {b : Bx} (hb : l[k]? = some b) : bcs l = bcs (l.take k) ++ ((bxC b).toList ++ bcs (l.drop (k + 1))) := by
  obtain ⟨hk, rfl⟩ := List.getElem?_eq_some_iff.1 hb
  conv => lhs; rw [← List.take_append_drop k l, List.drop_eq_getElem_cons hk]
  rw [bcs_app]
  rfl
theorem set_is {l : List Bx} {k : Nat} {b : Bx} (hk : k < l.length) : l.set k b = l.take k ++ b :: l.drop (k + 1) := by
  rw [List.set_eq_take_append_cons_drop, if_pos hk]
theorem put_list {cur : Array Value} {l : List Bx} {k : Nat} {b : Bx} {rest : List Value} (h : cur.toList = bcs l ++ rest) (hk : k < l.length) : (putR cur k b).toList = bcs (l.set k b) ++ rest := by
  have hb : l[k]? = some l[k] := List.getElem?_eq_getElem hk
  have hl : (bcs (l.take k)).length = k * 9 := by rw [bcs_len, List.length_take, Nat.min_eq_left (by omega)]
  have h9 : (bxC l[k]).toList.length = 9 := rfl
  unfold putR
  rw [set_is hk, bcs_app, show bcs (b :: l.drop (k + 1)) = (bxC b).toList ++ bcs (l.drop (k + 1)) from rfl]
  simp only [h, bcs_split hb, List.append_assoc]
  rw [List.take_left' hl, ← List.drop_drop, List.drop_left' hl, List.drop_left' h9]
theorem RowX.put {cur : Array Value} {l : List Bx} {k : Nat} {b : Bx} (h : RowX cur l) (hk : k < l.length) : RowX (putR cur k b) (l.set k b) := by
  obtain ⟨rest, h⟩ := h
  exact ⟨rest, put_list h hk⟩
theorem put_size {cur : Array Value} {l : List Bx} {k : Nat} {b : Bx} (h : RowX cur l) (hk : k < l.length) : (putR cur k b).size = cur.size := by
  obtain ⟨rest, h⟩ := h
  have h1 := congrArg List.length (put_list (b := b) h hk)
  have h2 := congrArg List.length h
  simp only [List.length_append, bcs_len, List.length_set, Array.length_toList] at h1 h2
  omega
theorem st_rec {W0 : Base} {o : Oper} {a : Act} {K K' : List (Nat × Obj)} {ty t : TypeId} {x y : Operand} {g k : Nat} {cur : Array Value} {l : List Bx} {b : Bx} (ho : o.op = .store ty x y) (hx : a.eval x = .pointer (some ⟨g, 0 + k * 9, none⟩)) (hv : a.eval y = bxV b)
    (hm : (g, .cells cur t (0, 0)) ∈ K) (hB : W0.B ≤ g) (hi : (Tryd.prog.info? ty).map (·.size) = some 9) (hr : RowX cur l) (hk : k < l.length)
    (hK : ∀ p ∈ K', p = (g, .cells (putR cur k b) t (0, 0)) ∨ (p ∈ K ∧ p.1 ≠ g)) : ∀ w, KS W0 K w → ∃ w', (execOp a.eval o).run Tryd.prog w = .ok .skip w' ∧ KS W0 K' w' :=
  st_row (off := 0 + k * 9) (v := bxV b) ho hx hv hm hB hi (by have := hr.size; show 0 + k * 9 + 9 ≤ cur.size; omega) (by show ∀ x ∈ (bxC b).toList, x.oneCell' = true; rw [← bcs_one]; exact bcs_onec _) (by
    show putR cur k b = (cur.toList.take (0 + k * 9) ++ (bxC b).toList ++ cur.toList.drop (0 + k * 9 + 9)).toArray
    unfold putR; rw [Nat.zero_add]) hK
set_option maxRecDepth 100000 in
set_option maxHeartbeats 4000000 in
theorem ins_any {W0 : Base} {K : List (Nat × Obj)} {g n cap : Nat} {cur : Array Value} (l : List Bx) (hn : l.length = n) (hn2 : n ≤ 4000000000) (a b : Nat) (hab : a ≤ b) (hbn : b ≤ n) (hr : RowX cur l) (hB : W0.B ≤ g) (hg : ∀ q ∈ K, q.1 ≠ g) (w : World) (hw : KS W0 ((g, .cells cur 26 (0, 0)) :: K) w) :
    Calls Tryd.prog 71 #[.slice (some ⟨g, 0, none⟩) n cap, .int .i64 ((a : Nat) : Int), .int .i64 ((b : Nat) : Int), .func (.func 48) #[] #[]] w fun e w' => ∃ v K', e = .returned v ∧ KS W0 K' w' ∧ (v = .tuple #[] ∧ ∃ cur', RowX cur' (l.take a ++ orderX ((l.take b).drop a) ++ l.drop b) ∧ cur'.size = cur.size ∧ K' = (g, .cells cur' 26 (0, 0)) :: K) := by
  go_enter Tryd.func71, Tryd.ntmps71
  refine wp_seq ?_
  refine wp_region_L (W0 := W0) ((g, .cells cur 26 (0, 0)) :: K) (hw) ?_
  refine lm (v := .int .i64 ((a : Nat) : Int)) rfl rfl ?_
  refine lp (v := .int .i64 (((a + 1) : Nat) : Int)) rfl rfl (run_bin rfl (vx := (.int .i64 ((a : Nat) : Int))) (vy := (.int .i64 ((1 : Nat) : Int))) (by kernel_rfl) (by kernel_rfl) fun w => bn_add (z := (a + 1)) rfl (wr_i64 (by omega)) w) ?_
  refine lm (v := .int .i64 (((a + 1) : Nat) : Int)) rfl rfl ?_
  refine wpL_done (fun W1 hW1 => ?_)
  refine (show Code.wp _ _ _ _ _ from ?_)
  refine wp_block ?_
  go_loopw [8] (fun u8 wr => ∃ (i : Nat) (l1 : List Bx) (cur1 : Array Value), (a + 1 ≤ i ∧ i ≤ b + 1) ∧ (InsO l a b i l1) ∧ (RowX cur1 l1) ∧ (cur1.size = cur.size) ∧ (l1.length = l.length) ∧ u8 = .int .i64 ((i : Nat) : Int) ∧ KS W0 ((g, .cells cur1 26 (0, 0)) :: K) wr) (fun u8 _ => b + 1 - (intOf u8).toNat)
  case atStart => exact ⟨a + 1, l, cur, (by omega), (insO_start hab (by omega)), hr, rfl, rfl, rfl, hW1⟩
  case round =>
    obtain ⟨i, l1, cur1, hi, hO, hr1, hz, hl1, rfl, hL2⟩ := hrel
    refine wp_seq ?_
    refine wp_seq ?_
    refine wp_region_L (W0 := W0) ((g, .cells cur1 26 (0, 0)) :: K) (hL2) ?_
    refine lm (v := .int .i64 ((i : Nat) : Int)) rfl rfl ?_
    refine lm (v := .int .i64 ((b : Nat) : Int)) rfl rfl ?_
    refine lp (v := .bool (decide (i < b))) rfl rfl (run_bin rfl (vx := (.int .i64 ((i : Nat) : Int))) (vy := (.int .i64 ((b : Nat) : Int))) (by kernel_rfl) (by kernel_rfl) fun w => bn_lss rfl w) ?_
    refine wpL_done (fun W3 hW3 => ?_)
    refine (show Code.wp _ _ _ _ _ from ?_)
    cases hd1 : (decide (i < b)) with
    | false =>
      have h1 : ¬ (i < b) := of_decide_eq_false hd1
      clear hd1
      refine wp_cond_false rfl ?_
      refine wp_exit ?_
      simp only [exit_then, exit_in, exit_out]
      refine bodyPost_end (v := .tuple #[]) (results_none rfl _ _ _) rfl ?_
      exact ⟨_, _, rfl, hW3.sub (List.forall_mem_cons.2 ⟨(.head _), fun p hp => (.tail _ hp)⟩), rfl, _, (by rw [← insO_end hO h1]; exact hr1), hz, rfl⟩
    | true =>
      have h1 : i < b := of_decide_eq_true hd1
      clear hd1
      have hib := h1
      refine wp_cond_true rfl ?_
      refine wp_skip ?_
      refine (show Code.wp _ _ _ _ _ from ?_)
      refine wp_seq ?_
      refine wp_block ?_
      refine wp_seq ?_
      refine wp_region_L (W0 := W0) ((g, .cells cur1 26 (0, 0)) :: K) (hW3) ?_
      refine lm (v := .int .i64 ((i : Nat) : Int)) rfl rfl ?_
      refine lm (v := .int .i64 ((i : Nat) : Int)) rfl rfl ?_
      refine wpL_done (fun W4 hW4 => ?_)
      refine (show Code.wp _ _ _ _ _ from ?_)
      refine wp_block ?_
      have hI0 := insI_start hO hib (by omega) (by omega)
      go_loopw [9] (fun u9 wr => ∃ (j : Nat) (l2 : List Bx) (cur2 : Array Value), (a ≤ j ∧ j ≤ i) ∧ (InsI l a i j l2) ∧ (RowX cur2 l2) ∧ (cur2.size = cur.size) ∧ u9 = .int .i64 ((j : Nat) : Int) ∧ KS W0 ((g, .cells cur2 26 (0, 0)) :: K) wr) (fun u9 _ => (intOf u9).toNat)
      case atStart => exact ⟨i, l1, cur1, (by omega), hI0, hr1, hz, rfl, hW4⟩
      case round =>
        obtain ⟨j, l2, cur2, hj, hI, hr2, hz2, rfl, hL5⟩ := hrel
        have hl2 : l2.length = l.length := insI_len hI (by omega)
        refine wp_seq ?_
        refine wp_seq ?_
        refine wp_region_V (W0 := W0) ((g, .cells cur2 26 (0, 0)) :: K) (by kernel_rfl) (hL5) ?_
        refine vm (i := 0) (v := .int .i64 ((j : Nat) : Int)) rfl rfl rfl ?_
        refine vm (i := 1) (v := .int .i64 ((a : Nat) : Int)) rfl rfl rfl ?_
        refine vp (i := 2) (v := .bool (decide (a < j))) rfl rfl rfl (run_bin rfl (vx := (.int .i64 ((j : Nat) : Int))) (vy := (.int .i64 ((a : Nat) : Int))) (by kernel_rfl) (by kernel_rfl) fun w => bn_gtr rfl w) ?_
        refine vm (i := 3) (v := .bool (decide (a < j))) rfl rfl rfl ?_
        cases hd2 : (decide (a < j)) with
        | false =>
          have h2 : ¬ (a < j) := of_decide_eq_false hd2
          clear hd2
          refine vn (i := 4) rfl rfl ?_
          refine vn (i := 5) rfl rfl ?_
          refine vn (i := 6) rfl rfl ?_
          refine vn (i := 7) rfl rfl ?_
          refine vn (i := 8) rfl rfl ?_
          refine vn (i := 9) rfl rfl ?_
          refine vn (i := 10) rfl rfl ?_
          refine vn (i := 11) rfl rfl ?_
          refine vn (i := 12) rfl rfl ?_
          refine vn (i := 13) rfl rfl ?_
          refine vn (i := 14) rfl rfl ?_
          refine vn (i := 15) rfl rfl ?_
          refine vm (i := 16) (v := .bool false) rfl rfl rfl ?_
          refine wpV_done (by kernel_rfl) (fun W6 hW6 => ?_) _
          refine (show Code.wp _ _ _ _ _ from ?_)
          refine wp_cond_false rfl ?_
          refine wp_exit ?_
          refine (show Code.wp _ _ _ _ _ from ?_)
          refine wp_region_L (W0 := W0) ((g, .cells cur2 26 (0, 0)) :: K) (hW6) ?_
          refine lm (v := .int .i64 ((i : Nat) : Int)) rfl rfl ?_
          refine lp (v := .int .i64 (((i + 1) : Nat) : Int)) rfl rfl (run_bin rfl (vx := (.int .i64 ((i : Nat) : Int))) (vy := (.int .i64 ((1 : Nat) : Int))) (by kernel_rfl) (by kernel_rfl) fun w => bn_add (z := (i + 1)) rfl (wr_i64 (by omega)) w) ?_
          refine lm (v := .int .i64 (((i + 1) : Nat) : Int)) rfl rfl ?_
          refine wpL_done (fun W7 hW7 => ?_)
          go_roundw
          case rel =>
            repeat apply Exists.intro
            exact ⟨⟨i + 1, l2, cur2, (by omega), (insO_next hI hib (by omega) (.inl (by omega))), hr2, hz2, (insI_len hI (by omega)), rfl, hW7⟩, rfl⟩
          case measure => (show b + 1 - (intOf (.int .i64 (((i + 1) : Nat) : Int))).toNat < b + 1 - (intOf (.int .i64 ((i : Nat) : Int))).toNat); simp only [intOf]; omega
        | true =>
          have h2 : a < j := of_decide_eq_true hd2
          clear hd2
          refine vm (i := 4) (v := .func (.func 48) #[] #[]) rfl rfl rfl ?_
          refine vm (i := 5) (v := .slice (some ⟨g, 0, none⟩) n cap) rfl rfl rfl ?_
          refine vm (i := 6) (v := .int .i64 ((j : Nat) : Int)) rfl rfl rfl ?_
          refine vp (i := 7) (v := .pointer (some ⟨g, 0 + j * 9, none⟩)) rfl rfl rfl (run_idxL (j := .i64) (n := n) (cap := cap) (b := g) (off := 0) (k := j) (sz := 9) rfl Tryd.underlying22 (by kernel_rfl) (by kernel_rfl) (by kernel_rfl) (by omega)) ?_
          obtain ⟨b1, hy1⟩ : ∃ bz, (l2 : List Bx)[j]? = some bz := ⟨_, List.getElem?_eq_getElem (by first | omega | (simp only [List.length_set]; omega))⟩
          refine vv (i := 8) (v := bxV b1) rfl rfl rfl (yb_cells (off := 0 + j * 9) (cur := cur2) (cs := (bxC b1).toList) rfl (by kernel_rfl) (.head _) (RowX.get hr2 hy1) Tryd.underlying26 rfl (by kernel_rfl)) ?_
          refine vm (i := 9) (v := .slice (some ⟨g, 0, none⟩) n cap) rfl rfl rfl ?_
          refine vm (i := 10) (v := .int .i64 ((j : Nat) : Int)) rfl rfl rfl ?_
          refine vp (i := 11) (v := .int .i64 (((j - 1) : Nat) : Int)) rfl rfl rfl (run_bin rfl (vx := (.int .i64 ((j : Nat) : Int))) (vy := (.int .i64 ((1 : Nat) : Int))) (by kernel_rfl) (by kernel_rfl) fun w => bn_sub (z := (j - 1)) rfl (by omega) (wr_i64 (by omega)) w) ?_
          refine vp (i := 12) (v := .pointer (some ⟨g, 0 + (j - 1) * 9, none⟩)) rfl rfl rfl (run_idxL (j := .i64) (n := n) (cap := cap) (b := g) (off := 0) (k := (j - 1)) (sz := 9) rfl Tryd.underlying22 (by kernel_rfl) (by kernel_rfl) (by kernel_rfl) (by omega)) ?_
          obtain ⟨b2, hy2⟩ : ∃ bz, (l2 : List Bx)[(j - 1)]? = some bz := ⟨_, List.getElem?_eq_getElem (by first | omega | (simp only [List.length_set]; omega))⟩
          refine vv (i := 13) (v := bxV b2) rfl rfl rfl (yb_cells (off := 0 + (j - 1) * 9) (cur := cur2) (cs := (bxC b2).toList) rfl (by kernel_rfl) (.head _) (RowX.get hr2 hy2) Tryd.underlying26 rfl (by kernel_rfl)) ?_
          refine vv (i := 14) (v := .int .i64 (cmpX b1 b2)) rfl rfl rfl (yb_call (f := 48) (args := #[bxV b1, bxV b2]) (fun _ => by kernel_rfl) fun W hW => compare_any b1 b2 W) ?_
          refine vp (i := 15) (v := .bool (decide ((cmpX b1 b2) < 0))) rfl rfl rfl (run_bin rfl (vx := (.int .i64 (cmpX b1 b2))) (vy := (.int .i64 0)) (by kernel_rfl) (by kernel_rfl) fun w => bi_lss rfl w) ?_
          refine vm (i := 16) (v := .bool (decide ((cmpX b1 b2) < 0))) rfl rfl rfl ?_
          refine wpV_done (by kernel_rfl) (fun W8 hW8 => ?_) _
          refine (show Code.wp _ _ _ _ _ from ?_)
          cases hd3 : (decide ((cmpX b1 b2) < 0)) with
          | false =>
            have h3 : ¬ ((cmpX b1 b2) < 0) := of_decide_eq_false hd3
            clear hd3
            refine wp_cond_false rfl ?_
            refine wp_exit ?_
            refine (show Code.wp _ _ _ _ _ from ?_)
            refine wp_region_L (W0 := W0) ((g, .cells cur2 26 (0, 0)) :: K) (hW8) ?_
            refine lm (v := .int .i64 ((i : Nat) : Int)) rfl rfl ?_
            refine lp (v := .int .i64 (((i + 1) : Nat) : Int)) rfl rfl (run_bin rfl (vx := (.int .i64 ((i : Nat) : Int))) (vy := (.int .i64 ((1 : Nat) : Int))) (by kernel_rfl) (by kernel_rfl) fun w => bn_add (z := (i + 1)) rfl (wr_i64 (by omega)) w) ?_
            refine lm (v := .int .i64 (((i + 1) : Nat) : Int)) rfl rfl ?_
            refine wpL_done (fun W9 hW9 => ?_)
            go_roundw
            case rel =>
              repeat apply Exists.intro
              exact ⟨⟨i + 1, l2, cur2, (by omega), (insO_next hI hib (by omega) (.inr ⟨_, _, h2, hy1, hy2, cmpX_no h3⟩)), hr2, hz2, (insI_len hI (by omega)), rfl, hW9⟩, rfl⟩
            case measure => (show b + 1 - (intOf (.int .i64 (((i + 1) : Nat) : Int))).toNat < b + 1 - (intOf (.int .i64 ((i : Nat) : Int))).toNat); simp only [intOf]; omega
          | true =>
            have h3 : (cmpX b1 b2) < 0 := of_decide_eq_true hd3
            clear hd3
            have hbf := cmpX_yes h3
            refine wp_cond_true rfl ?_
            refine wp_skip ?_
            refine (show Code.wp _ _ _ _ _ from ?_)
            refine wp_seq ?_
            refine wp_block ?_
            refine wp_region_V (W0 := W0) ((g, .cells cur2 26 (0, 0)) :: K) (by kernel_rfl) (hW8) ?_
            refine vm (i := 0) (v := .slice (some ⟨g, 0, none⟩) n cap) rfl rfl rfl ?_
            refine vm (i := 1) (v := .int .i64 ((j : Nat) : Int)) rfl rfl rfl ?_
            refine vm (i := 2) (v := .slice (some ⟨g, 0, none⟩) n cap) rfl rfl rfl ?_
            refine vm (i := 3) (v := .int .i64 ((j : Nat) : Int)) rfl rfl rfl ?_
            refine vp (i := 4) (v := .int .i64 (((j - 1) : Nat) : Int)) rfl rfl rfl (run_bin rfl (vx := (.int .i64 ((j : Nat) : Int))) (vy := (.int .i64 ((1 : Nat) : Int))) (by kernel_rfl) (by kernel_rfl) fun w => bn_sub (z := (j - 1)) rfl (by omega) (wr_i64 (by omega)) w) ?_
            refine vm (i := 5) (v := .slice (some ⟨g, 0, none⟩) n cap) rfl rfl rfl ?_
            refine vm (i := 6) (v := .int .i64 ((j : Nat) : Int)) rfl rfl rfl ?_
            refine vp (i := 7) (v := .int .i64 (((j - 1) : Nat) : Int)) rfl rfl rfl (run_bin rfl (vx := (.int .i64 ((j : Nat) : Int))) (vy := (.int .i64 ((1 : Nat) : Int))) (by kernel_rfl) (by kernel_rfl) fun w => bn_sub (z := (j - 1)) rfl (by omega) (wr_i64 (by omega)) w) ?_
            refine vp (i := 8) (v := .pointer (some ⟨g, 0 + (j - 1) * 9, none⟩)) rfl rfl rfl (run_idxL (j := .i64) (n := n) (cap := cap) (b := g) (off := 0) (k := (j - 1)) (sz := 9) rfl Tryd.underlying22 (by kernel_rfl) (by kernel_rfl) (by kernel_rfl) (by omega)) ?_
            refine vv (i := 9) (v := bxV b2) rfl rfl rfl (yb_cells (off := 0 + (j - 1) * 9) (cur := cur2) (cs := (bxC b2).toList) rfl (by kernel_rfl) (.head _) (RowX.get hr2 hy2) Tryd.underlying26 rfl (by kernel_rfl)) ?_
            refine vm (i := 10) (v := .slice (some ⟨g, 0, none⟩) n cap) rfl rfl rfl ?_
            refine vm (i := 11) (v := .int .i64 ((j : Nat) : Int)) rfl rfl rfl ?_
            refine vp (i := 12) (v := .pointer (some ⟨g, 0 + j * 9, none⟩)) rfl rfl rfl (run_idxL (j := .i64) (n := n) (cap := cap) (b := g) (off := 0) (k := j) (sz := 9) rfl Tryd.underlying22 (by kernel_rfl) (by kernel_rfl) (by kernel_rfl) (by omega)) ?_
            refine vv (i := 13) (v := bxV b1) rfl rfl rfl (yb_cells (off := 0 + j * 9) (cur := cur2) (cs := (bxC b1).toList) rfl (by kernel_rfl) (.head _) (RowX.get hr2 hy1) Tryd.underlying26 rfl (by kernel_rfl)) ?_
            refine vp (i := 14) (v := .pointer (some ⟨g, 0 + j * 9, none⟩)) rfl rfl rfl (run_idxL (j := .i64) (n := n) (cap := cap) (b := g) (off := 0) (k := j) (sz := 9) rfl Tryd.underlying22 (by kernel_rfl) (by kernel_rfl) (by kernel_rfl) (by omega)) ?_
            have R3 := RowX.put (b := b2) hr2 (show j < l2.length by first | omega | (simp only [List.length_set]; omega))
            have Q3 := put_size (b := b2) hr2 (show j < l2.length by first | omega | (simp only [List.length_set]; omega))
            refine wpV_s ((g, .cells (putR cur2 j b2) 26 (0, 0)) :: K) (i := 15) rfl (by kernel_rfl) rfl rfl rfl (st_rec (k := j) (b := b2) rfl (by kernel_rfl) (by kernel_rfl) (.head _) hB (by kernel_rfl) hr2 (by first | omega | (simp only [List.length_set]; omega)) (List.forall_mem_cons.2 ⟨.inl rfl, (fun p hp => .inr ⟨(.tail _ hp), (hg _ hp)⟩)⟩)) ?_
            refine vp (i := 16) (v := .pointer (some ⟨g, 0 + (j - 1) * 9, none⟩)) rfl rfl rfl (run_idxL (j := .i64) (n := n) (cap := cap) (b := g) (off := 0) (k := (j - 1)) (sz := 9) rfl Tryd.underlying22 (by kernel_rfl) (by kernel_rfl) (by kernel_rfl) (by omega)) ?_
            have R4 := RowX.put (b := b1) R3 (show (j - 1) < (l2.set j b2).length by first | omega | (simp only [List.length_set]; omega))
            have Q4 := put_size (b := b1) R3 (show (j - 1) < (l2.set j b2).length by first | omega | (simp only [List.length_set]; omega))
            refine wpV_s ((g, .cells (putR (putR cur2 j b2) (j - 1) b1) 26 (0, 0)) :: K) (i := 17) rfl (by kernel_rfl) rfl rfl rfl (st_rec (k := (j - 1)) (b := b1) rfl (by kernel_rfl) (by kernel_rfl) (.head _) hB (by kernel_rfl) R3 (by first | omega | (simp only [List.length_set]; omega)) (List.forall_mem_cons.2 ⟨.inl rfl, (fun p hp => .inr ⟨(.tail _ hp), (hg _ hp)⟩)⟩)) ?_
            refine wpV_done (by kernel_rfl) (fun W10 hW10 => ?_) _
            refine (show Code.wp _ _ _ _ _ from ?_)
            refine wp_region_L (W0 := W0) ((g, .cells (putR (putR cur2 j b2) (j - 1) b1) 26 (0, 0)) :: K) (hW10) ?_
            refine lm (v := .int .i64 ((j : Nat) : Int)) rfl rfl ?_
            refine lp (v := .int .i64 (((j - 1) : Nat) : Int)) rfl rfl (run_bin rfl (vx := (.int .i64 ((j : Nat) : Int))) (vy := (.int .i64 ((1 : Nat) : Int))) (by kernel_rfl) (by kernel_rfl) fun w => bn_sub (z := (j - 1)) rfl (by omega) (wr_i64 (by omega)) w) ?_
            refine lm (v := .int .i64 (((j - 1) : Nat) : Int)) rfl rfl ?_
            refine wpL_done (fun W11 hW11 => ?_)
            go_roundw
            case rel =>
              repeat apply Exists.intro
              exact ⟨⟨j - 1, ((l2.set j b2).set (j - 1) b1), (putR (putR cur2 j b2) (j - 1) b1), (by omega), (insI_step hI (by omega) h2 hy1 hy2 hbf), R4, (by omega), rfl, hW11⟩, rfl⟩
            case measure => (show (intOf (.int .i64 (((j - 1) : Nat) : Int))).toNat < (intOf (.int .i64 ((j : Nat) : Int))).toNat); simp only [intOf]; omega
end Go.Proofs.YtllmpemmknblaaaDoor
namespace Go.Proofs.YtllmpemmknblaaaDoor
open Go Go.RowKit Tw
set_option maxRecDepth 100000 in
set_option maxHeartbeats 4000000 in
theorem stable_small {W0 : Base} {K : List (Nat × Obj)} {g n cap : Nat} {cur : Array Value} (l : List Bx) (hn : l.length = n) (hn2 : n ≤ 4000000000) (hsm : n < 20) (hr : RowX cur l) (hB : W0.B ≤ g) (hg : ∀ q ∈ K, q.1 ≠ g) (w : World) (hw : KS W0 ((g, .cells cur 26 (0, 0)) :: K) w) :
    Calls Tryd.prog 64 #[.slice (some ⟨g, 0, none⟩) n cap, .int .i64 ((n : Nat) : Int), .func (.func 48) #[] #[]] w fun e w' => ∃ v K', e = .returned v ∧ KS W0 K' w' ∧ (v = .tuple #[] ∧ ∃ cur', RowX cur' (orderX l) ∧ cur'.size = cur.size ∧ K' = (g, .cells cur' 26 (0, 0)) :: K) := by
  go_enter Tryd.func64, Tryd.ntmps64
  refine wp_seq ?_
  refine wp_region_L (W0 := W0) ((g, .cells cur 26 (0, 0)) :: K) (hw) ?_
  refine lm (v := .int .i64 20) rfl rfl ?_
  refine wpL_done (fun W1 hW1 => ?_)
  refine (show Code.wp _ _ _ _ _ from ?_)
  refine wp_seq ?_
  refine wp_region_L (W0 := W0) ((g, .cells cur 26 (0, 0)) :: K) (hW1) ?_
  refine lm (v := .int .i64 20) rfl rfl ?_
  refine lm (v := .int .i64 0) rfl rfl ?_
  refine lm (v := .int .i64 20) rfl rfl ?_
  refine wpL_done (fun W2 hW2 => ?_)
  refine (show Code.wp _ _ _ _ _ from ?_)
  refine wp_seq ?_
  refine wp_block ?_
  refine wp_loop_rounds 1 ?_
  refine (show Code.wp _ _ _ _ _ from ?_)
  refine wp_seq ?_
  refine wp_seq ?_
  refine wp_region_L (W0 := W0) ((g, .cells cur 26 (0, 0)) :: K) (hW2) ?_
  refine lm (v := .int .i64 20) rfl rfl ?_
  refine lm (v := .int .i64 ((n : Nat) : Int)) rfl rfl ?_
  refine lp (v := .bool false) rfl rfl (run_bin rfl (vx := (.int .i64 ((20 : Nat) : Int))) (vy := (.int .i64 ((n : Nat) : Int))) (by kernel_rfl) (by kernel_rfl) fun w => bn_leq (decide_eq_true hsm) w) ?_
  refine wpL_done (fun W3 hW3 => ?_)
  refine (show Code.wp _ _ _ _ _ from ?_)
  refine wp_cond_false rfl ?_
  refine wp_exit ?_
  refine (show Code.wp _ _ _ _ _ from ?_)
  refine wp_seq ?_
  refine wp_region_L (W0 := W0) ((g, .cells cur 26 (0, 0)) :: K) (hW3) ?_
  refine lm (v := .slice (some ⟨g, 0, none⟩) n cap) rfl rfl ?_
  refine lm (v := .int .i64 0) rfl rfl ?_
  refine lm (v := .int .i64 ((n : Nat) : Int)) rfl rfl ?_
  refine lm (v := .func (.func 48) #[] #[]) rfl rfl ?_
  refine wpL_c (f := 71) (args := #[.slice (some ⟨g, 0, none⟩) n cap, .int .i64 0, .int .i64 ((n : Nat) : Int), .func (.func 48) #[] #[]]) (fun v K9 => v = .tuple #[] ∧ ∃ cur', RowX cur' (l.take 0 ++ orderX ((l.take n).drop 0) ++ l.drop n) ∧ cur'.size = cur.size ∧ K9 = ((g, .cells cur' 26 (0, 0)) :: K)) rfl (by kernel_rfl) (fun _ => (by kernel_rfl)) (fun W hW => ins_any (K := K) (cap := cap) l (by omega) (by omega) 0 n (by omega) (by omega) hr hB (fun q hq => (hg _ hq)) W (hW.sub (List.forall_mem_cons.2 ⟨(.head _), (fun p hp => (.tail _ hp))⟩))) (fun _ => by simp only [List.setIfInBounds_toArray, List.set_cons_succ, List.set_cons_zero] <;> rfl) ?_
  rintro v K9 ⟨rfl, cu1, R1, Q1, rfl⟩
  refine wpL_done (fun W4 hW4 => ?_)
  refine (show Code.wp _ _ _ _ _ from ?_)
  refine wp_block ?_
  refine wp_loop_rounds 1 ?_
  refine (show Code.wp _ _ _ _ _ from ?_)
  refine wp_seq ?_
  refine wp_seq ?_
  refine wp_region_L (W0 := W0) ((g, .cells cu1 26 (0, 0)) :: K) (hW4) ?_
  refine lm (v := .int .i64 20) rfl rfl ?_
  refine lm (v := .int .i64 ((n : Nat) : Int)) rfl rfl ?_
  refine lp (v := .bool false) rfl rfl (run_bin rfl (vx := (.int .i64 ((20 : Nat) : Int))) (vy := (.int .i64 ((n : Nat) : Int))) (by kernel_rfl) (by kernel_rfl) fun w => bn_lss (decide_eq_false (by omega)) w) ?_
  refine wpL_done (fun W5 hW5 => ?_)
  refine (show Code.wp _ _ _ _ _ from ?_)
  refine wp_cond_false rfl ?_
  refine wp_exit ?_
  simp only [exit_then, exit_in, exit_out]
  refine bodyPost_end (v := .tuple #[]) (results_none rfl _ _ _) rfl ?_
  exact ⟨_, _, rfl, hW5.sub (List.forall_mem_cons.2 ⟨(.head _), fun p hp => (.tail _ hp)⟩), rfl, _, (by have h := R1; rw [List.take_of_length_le (show l.length ≤ n by omega), List.drop_of_length_le (show l.length ≤ n by omega)] at h; simpa using h), Q1, rfl⟩
set_option maxRecDepth 100000 in
set_option maxHeartbeats 4000000 in
theorem ins_nil (w : World) : Calls Tryd.prog 71 #[.slice none 0 0, .int .i64 0, .int .i64 0, .func (.func 48) #[] #[]] w fun e w' => e = .returned (.tuple #[]) ∧ Below w.heap.size w w' := by
  go_enter Tryd.func71, Tryd.ntmps71
  refine wp_seq ?_
  refine wp_region_L (W0 := w) [] (KS.start w) ?_
  refine lm (v := .int .i64 0) rfl rfl ?_
  refine lm (v := .int .i64 1) rfl rfl ?_
  refine lm (v := .int .i64 1) rfl rfl ?_
  refine wpL_done (fun W1 hW1 => ?_)
  refine (show Code.wp _ _ _ _ _ from ?_)
  refine wp_block ?_
  refine wp_loop_rounds 1 ?_
  refine (show Code.wp _ _ _ _ _ from ?_)
  refine wp_seq ?_
  refine wp_seq ?_
  refine wp_region_L (W0 := w) [] (hW1) ?_
  refine lm (v := .int .i64 1) rfl rfl ?_
  refine lm (v := .int .i64 0) rfl rfl ?_
  refine lm (v := .bool false) rfl rfl ?_
  refine wpL_done (fun W2 hW2 => ?_)
  refine (show Code.wp _ _ _ _ _ from ?_)
  refine wp_cond_false rfl ?_
  refine wp_exit ?_
  simp only [exit_then, exit_in, exit_out]
  refine bodyPost_end (v := .tuple #[]) (results_none rfl _ _ _) rfl ?_
  exact ⟨rfl, hW2.1⟩
set_option maxRecDepth 100000 in
set_option maxHeartbeats 4000000 in
theorem stable_nil (w : World) : Calls Tryd.prog 64 #[.slice none 0 0, .int .i64 0, .func (.func 48) #[] #[]] w fun e w' => e = .returned (.tuple #[]) ∧ Below w.heap.size w w' := by
  go_enter Tryd.func64, Tryd.ntmps64
  refine wp_seq ?_
  refine wp_region_L (W0 := w) [] (KS.start w) ?_
  refine lm (v := .int .i64 20) rfl rfl ?_
  refine wpL_done (fun W1 hW1 => ?_)
  refine (show Code.wp _ _ _ _ _ from ?_)
  refine wp_seq ?_
  refine wp_region_L (W0 := w) [] (hW1) ?_
  refine lm (v := .int .i64 20) rfl rfl ?_
  refine lm (v := .int .i64 0) rfl rfl ?_
  refine lm (v := .int .i64 20) rfl rfl ?_
  refine wpL_done (fun W2 hW2 => ?_)
  refine (show Code.wp _ _ _ _ _ from ?_)
  refine wp_seq ?_
  refine wp_block ?_
  refine wp_loop_rounds 1 ?_
  refine (show Code.wp _ _ _ _ _ from ?_)
  refine wp_seq ?_
  refine wp_seq ?_
  refine wp_region_L (W0 := w) [] (hW2) ?_
  refine lm (v := .int .i64 20) rfl rfl ?_
  refine lm (v := .int .i64 0) rfl rfl ?_
  refine lm (v := .bool false) rfl rfl ?_
  refine wpL_done (fun W3 hW3 => ?_)
  refine (show Code.wp _ _ _ _ _ from ?_)
  refine wp_cond_false rfl ?_
  refine wp_exit ?_
  refine (show Code.wp _ _ _ _ _ from ?_)
  refine wp_seq ?_
  refine wp_region_L (W0 := w) [] (hW3) ?_
  refine lm (v := .slice none 0 0) rfl rfl ?_
  refine lm (v := .int .i64 0) rfl rfl ?_
  refine lm (v := .int .i64 0) rfl rfl ?_
  refine lm (v := .func (.func 48) #[] #[]) rfl rfl ?_
  refine lv (v := .tuple #[]) rfl rfl (yb_call (f := 71) (args := #[.slice none 0 0, .int .i64 0, .int .i64 0, .func (.func 48) #[] #[]]) (fun _ => by kernel_rfl) fun W hW => ins_nil W) ?_
  refine wpL_done (fun W4 hW4 => ?_)
  refine (show Code.wp _ _ _ _ _ from ?_)
  refine wp_block ?_
  refine wp_loop_rounds 1 ?_
  refine (show Code.wp _ _ _ _ _ from ?_)
  refine wp_seq ?_
  refine wp_seq ?_
  refine wp_region_L (W0 := w) [] (hW4) ?_
  refine lm (v := .int .i64 20) rfl rfl ?_
  refine lm (v := .int .i64 0) rfl rfl ?_
  refine lm (v := .bool false) rfl rfl ?_
  refine wpL_done (fun W5 hW5 => ?_)
  refine (show Code.wp _ _ _ _ _ from ?_)
  refine wp_cond_false rfl ?_
  refine wp_exit ?_
  simp only [exit_then, exit_in, exit_out]
  refine bodyPost_end (v := .tuple #[]) (results_none rfl _ _ _) rfl ?_
  exact ⟨rfl, hW5.1⟩
set_option maxRecDepth 100000 in
set_option maxHeartbeats 4000000 in
theorem sort_nil (w : World) : Calls Tryd.prog 47 #[.slice none 0 0, .func (.func 48) #[] #[]] w fun e w' => e = .returned (.tuple #[]) ∧ Below w.heap.size w w' := by
  go_enter Tryd.func47, Tryd.ntmps47
  refine wp_region_L (W0 := w) [] (KS.start w) ?_
  refine lm (v := .slice none 0 0) rfl rfl ?_
  refine lm (v := .slice none 0 0) rfl rfl ?_
  refine lm (v := .int .i64 0) rfl rfl ?_
  refine lm (v := .func (.func 48) #[] #[]) rfl rfl ?_
  refine lv (v := .tuple #[]) rfl rfl (yb_call (f := 64) (args := #[.slice none 0 0, .int .i64 0, .func (.func 48) #[] #[]]) (fun _ => by kernel_rfl) fun W hW => stable_nil W) ?_
  refine wpL_done (fun W1 hW1 => ?_)
  refine bodyPost_end (v := .tuple #[]) (results_none rfl _ _ _) rfl ?_
  exact ⟨rfl, hW1.1⟩
set_option maxRecDepth 100000 in
set_option maxHeartbeats 4000000 in
theorem sort_small {W0 : Base} {K : List (Nat × Obj)} {g n cap : Nat} {cur : Array Value} (l : List Bx) (hn : l.length = n) (hn2 : n ≤ 4000000000) (hsm : n < 20) (hr : RowX cur l) (hB : W0.B ≤ g) (hg : ∀ q ∈ K, q.1 ≠ g) (w : World) (hw : KS W0 ((g, .cells cur 26 (0, 0)) :: K) w) :
    Calls Tryd.prog 47 #[.slice (some ⟨g, 0, none⟩) n cap, .func (.func 48) #[] #[]] w fun e w' => ∃ v K', e = .returned v ∧ KS W0 K' w' ∧ (v = .tuple #[] ∧ ∃ cur', RowX cur' (orderX l) ∧ cur'.size = cur.size ∧ K' = (g, .cells cur' 26 (0, 0)) :: K) := by
  go_enter Tryd.func47, Tryd.ntmps47
  refine wp_region_L (W0 := W0) ((g, .cells cur 26 (0, 0)) :: K) (hw) ?_
  refine lm (v := .slice (some ⟨g, 0, none⟩) n cap) rfl rfl ?_
  refine lm (v := .slice (some ⟨g, 0, none⟩) n cap) rfl rfl ?_
  refine lp (v := .int .i64 ((n : Nat) : Int)) rfl rfl (run_lenL (p := (some ⟨g, 0, none⟩)) (cap := cap) (n := n) rfl Tryd.underlying22 (by kernel_rfl)) ?_
  refine lm (v := .func (.func 48) #[] #[]) rfl rfl ?_
  refine wpL_c (f := 64) (args := #[.slice (some ⟨g, 0, none⟩) n cap, .int .i64 ((n : Nat) : Int), .func (.func 48) #[] #[]]) (fun v K9 => v = .tuple #[] ∧ ∃ cur', RowX cur' (orderX l) ∧ cur'.size = cur.size ∧ K9 = ((g, .cells cur' 26 (0, 0)) :: K)) rfl (by kernel_rfl) (fun _ => (by kernel_rfl)) (fun W hW => stable_small (K := K) (cap := cap) l (by omega) (by omega) hsm hr hB (fun q hq => (hg _ hq)) W (hW.sub (List.forall_mem_cons.2 ⟨(.head _), (fun p hp => (.tail _ hp))⟩))) (fun _ => by simp only [List.setIfInBounds_toArray, List.set_cons_succ, List.set_cons_zero] <;> rfl) ?_
  rintro v K9 ⟨rfl, cu1, R1, Q1, rfl⟩
  refine wpL_done (fun W1 hW1 => ?_)
  refine bodyPost_end (v := .tuple #[]) (results_none rfl _ _ _) rfl ?_
  exact ⟨_, _, rfl, hW1.sub (List.forall_mem_cons.2 ⟨(.head _), fun p hp => (.tail _ hp)⟩), rfl, _, R1, Q1, rfl⟩
end Go.Proofs.YtllmpemmknblaaaDoor
namespace Go.Proofs.YtllmpemmknblaaaDoor
open Go Go.RowKit Tw
theorem nil_eq {T E : TypeId} {px py : Operand} {p : Option Addr} {n c : Nat} (h : Tryd.prog.underlying T = some (.slice E)) (w : World) : (do eqGuard .eql T px py (.slice p n c) (.slice none 0 0); binOp .eql T (.slice p n c) (.slice none 0 0) : Sem Value).run Tryd.prog w = .ok (.bool p.isNone) w := by
  have h1 := Lib.run_equalIn_slice_nil (P := Tryd.prog) w 9999 T E p n c 0 0 h
  simp [eqGuard, binOp, Op.equal, Op.maxDepth, h1]
def BS (W0 : Base) (p : Option Addr) (l : List Bx) (T : List (Nat × Obj)) : Prop := ∀ W, KS W0 T W → SLV W p (bcs l)
section
variable {W0 : Base} {T T' : List (Nat × Obj)} {l : List Bx} {p : Option Addr}
theorem BS.base {w : World} (h : SLV w p (bcs l)) : BS (w : Base) p l [] := fun W hW => h.keep hW.1
theorem BS.mono (h : BS W0 p l T) (hs : ∀ q ∈ T, q ∈ T') : BS W0 p l T' := fun W hW => h W (hW.sub hs)
theorem BS.at (h : BS W0 p l T) {W : World} (hW : KS W0 T W) {k : Nat} (hk : k < l.length) :
    ∃ b g off, l[k]? = some b ∧ p = some ⟨g, off, none⟩ ∧ ∀ W, KS W0 T W → ∀ (j : Nat) (v : Value), (bxC b).toList[j]? = some v → W.cell? ⟨g, off + k * 9 + j, none⟩ = some v := by
  obtain ⟨b, g, off, hb, rfl, _, _⟩ := bl_at (h W hW) hk
  refine ⟨b, g, off, hb, rfl, fun W2 hW2 => ?_⟩
  obtain ⟨b2, g2, off2, hb2, he, _, hc⟩ := bl_at (h W2 hW2) hk
  rw [hb] at hb2; cases hb2; cases he
  exact hc
theorem own_bs {E : TypeId} {v : Value} {n : Nat} (h : OwnL W0 E 9 v n (bcs l) T) : ∃ p c, v = .slice p n c ∧ n ≤ c ∧ BS W0 p l T := by
  rcases h with ⟨rfl, h2, rfl, rfl⟩ | ⟨g, cap, cur, rfl, hB, hR, rfl⟩
  · exact ⟨none, 0, rfl, Nat.le_refl _, fun _ _ => .inl h2⟩
  · refine ⟨_, cap, rfl, hR.2.2.1, fun W hW => ?_⟩
    have hb := hW.2 _ (.head _)
    exact .inr ⟨g, 0, rfl, lt_of_block hb, hR.cel hb⟩
theorem own_bnone {E : TypeId} {g : Nat} (hB : W0.B ≤ g) : OwnL W0 E 9 (.slice (some ⟨g, 0, none⟩) 0 0) 0 (bcs []) [(g, .cells #[] E (0, 0))] :=
  .inr ⟨g, 0, _, rfl, hB, ⟨by simp, by unfold maxLen; omega, Nat.le_refl _, rfl, rfl⟩, rfl⟩
theorem src_bs {U : TypeId} {m c : Nat} (hU : Tryd.prog.underlying U = some (.slice 26)) (h : BS W0 p l T) (hm : m = l.length) : ∀ w, KS W0 T w → Src Tryd.prog 9 U (.slice p m c) m (bcs l) w := by
  intro w hw
  subst hm
  rcases h w hw with h0 | ⟨b, off, rfl, hlt, hc⟩
  · have hl : l = [] := by
      have := bcs_len l; rw [h0] at this; exact List.eq_nil_of_length_eq_zero (by simp at this; omega)
    subst hl
    cases p with
    | none => exact Src.ofNil w hU c
    | some ad => exact Src.ofSlice w hU ad 0 c [] (by simp) (fun j u h => by simp at h) (fun u hu => by cases hu)
  · exact Src.ofSlice w hU ⟨b, off, none⟩ l.length c (bcs l) (by simp [bcs_len]) (fun j u hj => by rw [addr_add]; exact hc j u hj) (bcs_onec l)
end
theorem rowx_slv {W : World} {g : Nat} {cur : Array Value} {l : List Bx} {t : TypeId} {fr : Nat × Nat} (hb : W.heap[g]? = some (.cells cur t fr)) (h : RowX cur l) : SLV W (some ⟨g, 0, none⟩) (bcs l) := by
  obtain ⟨rest, h⟩ := h
  refine .inr ⟨g, 0, rfl, lt_of_block hb, fun i u hu => ?_⟩
  rw [Nat.zero_add, cell_of_row W g i cur t fr hb, ← Array.getElem?_toList, h, List.getElem?_append_left (List.getElem?_eq_some_iff.1 hu).1, hu]
theorem rowx_own {cur : Array Value} {cap n : Nat} {l : List Bx} (h : RowN 9 cur cap n (bcs l)) : RowX cur l := ⟨cur.toList.drop (n * 9), by conv => lhs; rw [← List.take_append_drop (n * 9) cur.toList, h.2.2.2.2]⟩
theorem own_rowx {cur cur' : Array Value} {cap n : Nat} {l l' : List Bx} (h : RowN 9 cur cap n (bcs l)) (hs : cur'.size = cur.size) (hr : RowX cur' l') (hl : l'.length = n) : RowN 9 cur' cap n (bcs l') := by
  obtain ⟨h1, h2, h3, h4, h5⟩ := h
  obtain ⟨rest, hr⟩ := hr
  refine ⟨by rw [hs, h1], h2, h3, by rw [bcs_len, hl], ?_⟩
  rw [hr]
  exact List.take_left' (by rw [bcs_len, hl])
theorem row_lit (l : List Bx) : RowX (bcs l).toArray l := ⟨[], by simp⟩
theorem yb_bs {W0 : Base} {o : Oper} {a : Act} {K : List (Nat × Obj)} {ty : TypeId} {x : Operand} {g off : Nat} {b : Bx} {D : TypeDesc} (ho : o.op = .load ty x) (hx : a.eval x = .pointer (some ⟨g, off, none⟩))
    (hc : ∀ W, KS W0 K W → ∀ (j : Nat) (v : Value), (bxC b).toList[j]? = some v → W.cell? ⟨g, off + j, none⟩ = some v) (hu : Tryd.prog.underlying ty = some D) (hd : aggD D = true) (hi : (Tryd.prog.info? ty).map (·.size) = some 9) :
    ∀ w, KS W0 K w → ∀ K' : Act → World → Prop, (∀ w', Below w.heap.size w w' → K' (a.put o.dst (bxV b)) w') → Oper.wp Tryd.prog o a w K' (fun _ _ _ => False) := by
  intro w hw K' hk
  have hr := run_loadVar_list (P := Tryd.prog) (ty := ty) (cs := (bxC b).toList) w (hc w hw) hu hd hi
  unfold Oper.wp execOp
  simp only [ho, hx, Instr.loadAt, Instr.sureAddr, Sem.run_bind, Sem.run_pure, Result.andThen_ok, hr]
  exact hk w (Below.refl _ _)
theorem slv_none {W : World} {l : List Bx} (h : SLV W none (bcs l)) : l = [] := by
  rcases h with h | ⟨g, off, h, _⟩
  · have := bcs_len l; rw [h] at this; exact List.eq_nil_of_length_eq_zero (by simp at this; omega)
  · cases h
instance : DecidableEq Bx := fun a b => decidable_of_iff (a.id = b.id ∧ a.num = b.num ∧ a.size = b.size ∧ a.high = b.high ∧ a.kilos = b.kilos ∧ a.load = b.load ∧ a.dis = b.dis ∧ a.cls = b.cls ∧ a.rf = b.rf) (by cases a; cases b; simp)
theorem neq_bx {a b : Bx} {e : Bool} {px py : Operand} (h : decide (a = b) = e) (w : World) : (do eqGuard .neq 26 px py (bxV a) (bxV b); binOp .neq 26 (bxV a) (bxV b) : Sem Value).run Tryd.prog w = .ok (.bool (!e)) w := by
  subst h
  obtain ⟨a1, a2, a3, a4, a5, a6, a7, a8, a9⟩ := a
  obtain ⟨b1, b2, b3, b4, b5, b6, b7, b8, b9⟩ := b
  unfold bxV bxC strV
  go_simp
  have e3 : ((a3 : Int) = (b3 : Int)) = (a3 = b3) := by apply propext; omega
  have e8 : ((a8 : Int) = (b8 : Int)) = (a8 = b8) := by apply propext; omega
  simp only [e3, e8, Bx.mk.injEq]
  by_cases h1 : a1 = b1 <;> by_cases h2 : a2 = b2 <;> by_cases h3 : a3 = b3 <;> by_cases h4 : a4 = b4 <;> simp [h1, h2, h3, h4] <;>
  by_cases h5 : a5 = b5 <;> by_cases h6 : a6 = b6 <;> by_cases h7 : a7 = b7 <;> by_cases h8 : a8 = b8 <;> by_cases h9 : a9 = b9 <;> simp [h5, h6, h7, h8, h9]
end Go.Proofs.YtllmpemmknblaaaDoor
/- Loops over a string, calls of method values, lists cut to nothing. Over any program. -/
namespace Tw
open Go Go.RowKit Go.Proofs.YtllmpemmknblaaaDoor
section
variable {P : Program} {W0 : Base} {T E : TypeId}
end
section
def OVp {α : Type} (B : Nat) (E : TypeId) (R : World → Value → α → Prop) (W : World) (p : Option Addr) (l : List α) : Prop :=
  ∃ vs : List Value, vs.length = l.length ∧ (vs = [] ∨ ∃ g cur, p = some ⟨g, 0, none⟩ ∧ B ≤ g ∧ W.heap[g]? = some (.cells cur E (0, 0)) ∧ cur.toList.take vs.length = vs) ∧ ∀ (k : Nat) (x : Value) (y : α), vs[k]? = some x → l[k]? = some y → R W x y
def OV {α : Type} (B : Nat) (E : TypeId) (R : World → Value → α → Prop) (W : World) (v : Value) (l : List α) : Prop := ∃ p cap, v = .slice p l.length cap ∧ OVp B E R W p l
theorem OVp.lvp {α : Type} {B : Nat} {E : TypeId} {R R' : World → Value → α → Prop} (hR : ∀ W v y, R W v y → R' W v y) {W : World} {p : Option Addr} {l : List α} (h : OVp B E R W p l) : LVp R' W p l := by
  obtain ⟨vs, h2, h3, h4⟩ := h
  refine ⟨vs, ?_, h2, fun k x y hx hy => hR _ _ _ (h4 k x y hx hy)⟩
  rcases h3 with h | ⟨g, cur, e1, e2, e3, e4⟩
  · exact .inl h
  · refine .inr ⟨g, 0, e1, lt_of_block e3, fun i u hu => ?_⟩
    rw [Nat.zero_add, cell_of_row W g i cur _ _ e3]
    rw [← e4, List.getElem?_take] at hu
    split at hu
    · simpa using hu
    · cases hu
theorem OV.lv {α : Type} {B : Nat} {E : TypeId} {R R' : World → Value → α → Prop} (hR : ∀ W v y, R W v y → R' W v y) (W : World) (v : Value) (l : List α) (h : OV B E R W v l) : LV R' W v l := by
  obtain ⟨p, cap, h1, h2⟩ := h
  exact ⟨p, cap, h1, h2.lvp hR⟩
theorem MkE.own {α : Type} {R : World → Value → α → Prop} {W0 : Base} {E : TypeId} {v : Value} {n : Nat} {xs : List Value} {l : List α} {K T : List (Nat × Obj)} (hO : OwnL W0 E 1 v n xs K) (hE : MkE R W0 xs l T) (hn : n = l.length) : MkV (OV W0.B E R) W0 v l (T ++ K) := by
  obtain ⟨h1, h2⟩ := hE
  intro W hW
  have hA := h2 W (hW.sub (fun p hp => List.mem_append_left K hp))
  rcases hO with ⟨rfl, rfl, rfl, rfl⟩ | ⟨g, cap, cur, rfl, hB, hR, rfl⟩
  · exact ⟨none, 0, by rw [← hn], [], h1, .inl rfl, hA⟩
  · have hb := hW.2 _ (List.mem_append_right T (.head _))
    refine ⟨some ⟨g, 0, none⟩, cap, by rw [hn], xs, h1, .inr ⟨g, cur, rfl, hB, hb, ?_⟩, hA⟩
    have := hR.2.2.2.2
    rwa [Nat.mul_one, hn, ← h1] at this
end
end Tw
/- Paths of a walk that come together again. -/
namespace Tw
open Go Go.RowKit Go.Proofs.YtllmpemmknblaaaDoor
def normQ (R : Act → World → Prop) : Exit → Act → World → Prop
  | .normal, a, w => R a w
  | _, _, _ => False
def preW (P : Program) (R : Act → World → Prop) : Nat → Code → Act → World → Prop
  | 0, _, a, w => R a w
  | n + 1, .seq x y, a, w => x.wp P (normQ (preW P R n y)) a w
  | _ + 1, _, _, _ => False
def cutT : Nat → Code → Code
  | n + 1, .seq _ b => cutT n b
  | _, c => c
theorem wp_joins {P : Program} {Q : Exit → Act → World → Prop} (R : Act → World → Prop) : ∀ (n : Nat) {c : Code} {a : Act} {w : World}, preW P R n c a w → (∀ a' w', R a' w' → (cutT n c).wp P Q a' w') → c.wp P Q a w
  | 0, c, a, w, h1, h2 => by
    have := h2 a w h1
    cases c <;> exact this
  | n + 1, c, a, w, h1, h2 => by
    cases c with
    | seq x y =>
      refine wp_seq (wp_mono h1 ?_)
      rintro e a' w' hq
      cases e with
      | normal => exact wp_joins R n hq h2
      | _ => exact hq.elim
    | _ => exact h1.elim
def JoinR (F : (Nat → Value) → Array Value) (W0 : Base) (K : List (Nat × Obj)) (a : Act) (w : World) : Prop := (∃ z, a = { tmps := F z, defers := [] }) ∧ KS W0 K w
theorem join_mk {F : (Nat → Value) → Array Value} {W0 : Base} {K : List (Nat × Obj)} {T : Array Value} {w : World} (h : F (fun i => T.getD i undef) = T) (hK : KS W0 K w) : JoinR F W0 K { tmps := T, defers := [] } w := ⟨⟨_, by rw [h]⟩, hK⟩
end Tw
/- Steps of a drawn statement where several operations may come next. Over any program. -/
namespace Tw
open Go Go.RowKit Go.Proofs.YtllmpemmknblaaaDoor
section
variable {P : Program} {md : Region.Mode} {ops : Array Oper} {Q R : Exit → Act → World → Prop} {W0 : Base}
theorem stepV_nsg {i : Nat} {oi : Oper} {d : Nat} {obi : Obj} {n : Nat} {listed : Array Bool} {tm : Array Value} {df : List Deferred} {K : List (Nat × Obj)} {T : Nat → Array Value} (mk : Nat → Value)
    (hi : ops[i]? = some oi) (hdi : oi.dst = some d) (hw : Region.wanted oi (yielded ops tm) = true)
    (hai : ∀ w, (execOp (Act.eval ⟨tm, df⟩) oi).run P w = .ok (.value (mk w.heap.size)) (w.alloc obi))
    (hT : ∀ g, (tm.setIfInBounds d (mk g)) = T g)
    (h : ∀ g, W0.B ≤ g → (∀ p ∈ K, p.1 ≠ g) → wpV P md ops Q W0 n (listed.setIfInBounds i true) ⟨T g, df⟩ ((g, obi) :: K)) : StepV P md ops Q W0 n listed ⟨tm, df⟩ K i := by
  refine stepV_alloc mk hi hw hai fun g hg hf => ?_
  rw [hdi]
  simp only [Act.put]
  rw [hT g]
  exact h g hg hf
theorem stepV_c {i : Nat} {oi : Oper} {d n : Nat} {listed : Array Bool} {tm : Array Value} {df : List Deferred} {K : List (Nat × Obj)} {T : Value → Array Value} {f : FuncId} {args : Array Value} (G : Value → List (Nat × Obj) → Prop)
    (hi : ops[i]? = some oi) (hdi : oi.dst = some d) (hw : Region.wanted oi (yielded ops tm) = true)
    (hf : ∀ w, (execOp (Act.eval ⟨tm, df⟩) oi).run P w = .ok (.enter f args) w)
    (hc : ∀ w, KS W0 K w → Calls P f args w fun e w' => ∃ v K', e = .returned v ∧ KS W0 K' w' ∧ G v K') (hm : ∀ v K', G v K' → ∀ p ∈ K, p ∈ K')
    (hT : ∀ v, tm.setIfInBounds d v = T v)
    (h : ∀ v K', G v K' → wpV P md ops Q W0 n (listed.setIfInBounds i true) ⟨T v, df⟩ K') : StepV P md ops Q W0 n listed ⟨tm, df⟩ K i := by
    refine ⟨oi, hi, .inr (.inr (.inr ⟨G, .inr (.inl hm), ⟨hw, fun w hK => ?_⟩, fun v K' hG => ?_⟩))⟩
    · unfold Oto
      rw [hf w]
      exact (hc w hK).mono fun e w' ⟨v, K', he, hk, hG⟩ => ⟨v, he, K', hk, hG⟩
    · rw [hdi]
      simp only [Act.put]
      rw [hT v]
      exact h v K' hG
theorem vb {i : Nat} {oi : Oper} {v : Value} {d n : Nat} {listed : Array Bool} {tm : Array Value} {df : List Deferred} {K : List (Nat × Obj)} {T : Array Value} (hi : ops[i]? = some oi) (hd : oi.dst = some d) (hw : Region.wanted oi (yielded ops tm) = true)
    (hy : ∀ w, KS W0 [] w → ∀ K' : Act → World → Prop, (∀ w', Below w.heap.size w w' → K' (Act.put ⟨tm, df⟩ oi.dst v) w') → Oper.wp P oi ⟨tm, df⟩ w K' (fun _ _ _ => False))
    (h : wpV P md ops Q W0 n (listed.setIfInBounds i true) ⟨T, df⟩ K) (hlt : Nat.blt d tm.size = true := by kernel_rfl) (hf : freeP md ops listed i = true := by kernel_rfl) (hT : tm.setIfInBounds d v = T := by simp only [List.setIfInBounds_toArray, List.set_cons_succ, List.set_cons_zero] <;> rfl) : wpV P md ops Q W0 (n + 1) listed ⟨tm, df⟩ K := by
  unfold freeP at hf
  simp only [Bool.and_eq_true] at hf
  obtain ⟨h1, h2, h3, h4⟩ := hf
  refine wpV_first (v := v) hi (Region.noSelect_spec h1) n listed _ K (closed_of h4) (Region.free_spec hi h2) (by simpa using h3)
    (.inl fun K' => .inl ⟨hw, fun w hk => Oto.of_wp hd (Nat.le_of_ble_eq_true hlt) (hy w (hk.sub (fun _ h => by cases h)))⟩) ?_
  rw [hd]
  subst hT
  exact h
end
-- a statement that has the world of now as its base
end Tw
namespace Go.Proofs.YtllmpemmknblaaaDoor
open Go Go.RowKit Tw
theorem calls_out {W0 : Base} {W : World} {K : List (Nat × Obj)} {E : TypeId} {sz n : Nat} {xs : List Value} {f : FuncId} {args : Array Value} (hW : KS W0 K W) (h : Calls Tryd.prog f args W fun e w' => ∃ v, e = .returned v ∧ OutV W w' E sz v n xs ∧ Below W.heap.size W w') :
    Calls Tryd.prog f args W fun e w' => ∃ v K', e = .returned v ∧ KS W0 K' w' ∧ (∃ Kl, OwnL W0 E sz v n xs Kl ∧ (∀ p ∈ K, ∀ q ∈ Kl, q.1 ≠ p.1) ∧ K' = K ++ Kl) :=
  h.mono fun e w' ⟨v, he, hO, hb⟩ => by
    obtain ⟨Kl, h1, h2, h3⟩ := hO.own hW hb
    exact ⟨v, _, he, h3, Kl, h1, h2, rfl⟩
set_option maxRecDepth 100000 in
set_option maxHeartbeats 4000000 in
theorem Clone_any (l : List Bx) (p : Option Addr) (c : Nat) (hl : l.length ≤ 4000000000) (w : World) (hp : SLV w p (bcs l)) : Calls Tryd.prog 46 #[.slice p l.length c] w fun e w' => ∃ v, e = .returned v ∧ OutV w w' 26 9 v l.length (bcs l) ∧ Below w.heap.size w w' := by
  rcases p with _ | ad
  · obtain rfl := slv_none hp
    go_enter Tryd.func46, Tryd.ntmps46
    refine wp_seq ?_
    refine wp_region_L (W0 := w) [] (KS.start w) ?_
    refine lm (v := .slice none 0 0) rfl rfl ?_
    refine wpL_done (fun W1 hW1 => ?_)
    refine (show Code.wp _ _ _ _ _ from ?_)
    refine wp_seq ?_
    refine wp_seq ?_
    refine wp_region_L (W0 := w) [] (hW1) ?_
    refine lm (v := .slice none 0 c) rfl rfl ?_
    refine lp (v := .bool true) rfl rfl (run_bin rfl (vx := .slice none 0 c) (vy := .slice none 0 0) (by kernel_rfl) (by kernel_rfl) fun w => nil_eq Tryd.underlying22 w) ?_
    refine wpL_done (fun W2 hW2 => ?_)
    refine (show Code.wp _ _ _ _ _ from ?_)
    refine wp_cond_true rfl ?_
    refine wp_seq ?_
    refine wp_region_L (W0 := w) [] (hW2) ?_
    refine lm (v := .slice none 0 0) rfl rfl ?_
    refine wpL_done (fun W3 hW3 => ?_)
    refine (show Code.wp _ _ _ _ _ from ?_)
    refine wp_ret ?_
    try simp only [inBlock_ret, then_ret]
    refine bodyPost_ret (v := .slice none 0 0) ?_ rfl ?_
    · kernel_rfl
    · exact ⟨_, rfl, .inl ⟨rfl, rfl, rfl⟩, hW3.1⟩
  · have HP := Lib.hid hp
    clear hp
    go_enter Tryd.func46, Tryd.ntmps46
    refine wp_seq ?_
    refine wp_region_L (W0 := w) [] (KS.start w) ?_
    refine lm (v := .slice none 0 0) rfl rfl ?_
    refine wpL_done (fun W1 hW1 => ?_)
    refine (show Code.wp _ _ _ _ _ from ?_)
    refine wp_seq ?_
    refine wp_seq ?_
    refine wp_region_L (W0 := w) [] (hW1) ?_
    refine lm (v := .slice (some ad) l.length c) rfl rfl ?_
    refine lp (v := .bool false) rfl rfl (run_bin rfl (vx := .slice (some ad) l.length c) (vy := .slice none 0 0) (by kernel_rfl) (by kernel_rfl) fun w => nil_eq Tryd.underlying22 w) ?_
    refine wpL_done (fun W2 hW2 => ?_)
    refine (show Code.wp _ _ _ _ _ from ?_)
    refine wp_cond_false rfl ?_
    refine wp_skip ?_
    refine (show Code.wp _ _ _ _ _ from ?_)
    refine wp_seq ?_
    refine wp_region_L (W0 := w) [] (hW2) ?_
    refine wpL_new (fun g => .slice (some ⟨g, 0, none⟩) 0 0) (obi := .cells #[] 26 (0, 0)) rfl rfl (fun _ => by kernel_rfl) (fun _ => by simp only [List.setIfInBounds_toArray, List.set_cons_succ, List.set_cons_zero] <;> rfl) fun g1 Bg1 Fg1 => ?_
    refine lm (v := .slice (some ad) l.length c) rfl rfl ?_
    refine wpL_g (AppO w 26 9 [] (0 + l.length) ((bcs []) ++ (bcs l))) rfl rfl (app_any el_bx (m := l.length) (news := (bcs l)) rfl (by kernel_rfl) (by kernel_rfl) (src_bs (c := c) Tryd.underlying22 ((BS.base HP.out).mono (fun q hq => by cases hq)) rfl) (own_bnone Bg1) (fun p hp => by cases List.mem_singleton.1 hp; exact (.head _)) (fun _ h => by cases h) (by omega) (by omega)) (fun _ => by simp only [List.setIfInBounds_toArray, List.set_cons_succ, List.set_cons_zero] <;> rfl) ?_
    rintro v2 Kl2 ⟨_, O2, N2, rfl⟩
    replace O2 : OwnL w 26 9 v2 l.length (bcs l) Kl2 := by rw [Nat.zero_add] at O2; exact O2
    refine lm (v := v2) rfl rfl ?_
    refine wpL_done (fun W3 hW3 => ?_)
    refine (show Code.wp _ _ _ _ _ from ?_)
    refine wp_ret ?_
    try simp only [inBlock_ret, then_ret]
    refine bodyPost_ret (v := v2) ?_ rfl ?_
    · kernel_rfl
    · exact ⟨_, rfl, O2.out (fun p hp => by simp only [List.mem_cons, List.mem_append, List.nil_append, List.not_mem_nil, or_assoc, or_false, false_or, hp, true_or, or_true]) hW3, hW3.1⟩
theorem sort_own {W0 : Base} {K Kl : List (Nat × Obj)} {v : Value} (l : List Bx) (hsm : l.length < 20) (hO : OwnL W0 26 9 v l.length (bcs l) Kl) (hd : ∀ p ∈ K, ∀ q ∈ Kl, q.1 ≠ p.1) (w : World) (hw : KS W0 (K ++ Kl) w) :
    Calls Tryd.prog 47 #[v, .func (.func 48) #[] #[]] w fun e w' => ∃ u K', e = .returned u ∧ KS W0 K' w' ∧ (u = .tuple #[] ∧ ∃ Kl', OwnL W0 26 9 v l.length (bcs (orderX l)) Kl' ∧ (∀ p ∈ K, ∀ q ∈ Kl', q.1 ≠ p.1) ∧ K' = K ++ Kl') := by
  rcases hO with ⟨h1, h2, rfl, rfl⟩ | ⟨g, cap, cur, rfl, hB, hR, rfl⟩
  · have hl : l = [] := List.eq_nil_of_length_eq_zero h1
    subst hl
    exact (sort_nil w).mono fun e w' ⟨he, hb⟩ => ⟨_, _, he, hw.below hb, rfl, [], OwnL.nil _ _ _, (fun _ _ _ h => by cases h), rfl⟩
  · have hg : ∀ q ∈ K, q.1 ≠ g := fun q hq e => hd q hq (g, .cells cur 26 (0, 0)) (List.mem_singleton.2 rfl) e.symm
    refine (sort_small (cap := cap) l rfl (by omega) hsm (rowx_own hR) hB hg w (hw.sub (fun p hp => by
      rcases List.mem_cons.1 hp with rfl | hp
      · exact List.mem_append_right _ (List.mem_singleton.2 rfl)
      · exact List.mem_append_left _ hp))).mono fun e w' ⟨u, K', he, hk, hu, cur', hr, hs, hK⟩ => ?_
    subst hK
    refine ⟨u, _, he, hk.sub (K' := K ++ [(g, .cells cur' 26 (0, 0))]) (fun p hp => ?_), hu, [(g, .cells cur' 26 (0, 0))], .inr ⟨g, cap, cur', rfl, hB, own_rowx hR hs hr (order_len l), rfl⟩, fun p hp q hq => ?_, rfl⟩
    · rcases List.mem_append.1 hp with hp | hp
      · exact .tail _ hp
      · cases List.mem_singleton.1 hp; exact .head _
    · cases List.mem_singleton.1 hq; exact fun e => hg p hp e.symm
set_option maxRecDepth 100000 in
set_option maxHeartbeats 4000000 in
theorem Order_few (l : List Bx) (p : Option Addr) (c : Nat) (hsm : l.length < 20) (w : World) (hp : SLV w p (bcs l)) : Calls Tryd.prog 27 #[.slice p l.length c] w fun e w' => ∃ v, e = .returned v ∧ OutV w w' 26 9 v l.length (bcs (orderX l)) ∧ Below w.heap.size w w' := by
  have HP := Lib.hid hp
  clear hp
  go_enter Tryd.func27, Tryd.ntmps27
  refine wp_seq ?_
  refine wp_region_L (W0 := w) [] (KS.start w) ?_
  refine lm (v := .slice none 0 0) rfl rfl ?_
  refine wpL_done (fun W1 hW1 => ?_)
  refine (show Code.wp _ _ _ _ _ from ?_)
  refine wp_seq ?_
  refine wp_region_L (W0 := w) [] (hW1) ?_
  refine lm (v := .slice p l.length c) rfl rfl ?_
  refine wpL_c (f := 46) (args := #[.slice p l.length c]) (fun v K9 => ∃ Kl, OwnL w 26 9 v l.length (bcs l) Kl ∧ (∀ p ∈ ([] : List (Nat × Obj)), ∀ q ∈ Kl, q.1 ≠ p.1) ∧ K9 = [] ++ Kl) rfl (by kernel_rfl) (fun _ => (by kernel_rfl)) (fun W hW => calls_out hW (Clone_any l p c (by first | omega | (simp; done) | (simp; omega) | decide) W (HP.out.keep hW.1))) (fun _ => by simp only [List.setIfInBounds_toArray, List.set_cons_succ, List.set_cons_zero] <;> rfl) ?_
  rintro v1 Kl1 ⟨_, O1, N1, rfl⟩
  refine lm (v := v1) rfl rfl ?_
  refine wpL_done (fun W2 hW2 => ?_)
  refine (show Code.wp _ _ _ _ _ from ?_)
  refine wp_seq ?_
  refine wp_region_L (W0 := w) Kl1 (hW2) ?_
  refine lm (v := v1) rfl rfl ?_
  refine wpL_c (f := 47) (args := #[v1, .func (.func 48) #[] #[]]) (fun u K9 => u = .tuple #[] ∧ ∃ Kl', OwnL w 26 9 v1 l.length (bcs (orderX l)) Kl' ∧ (∀ p ∈ ([] : List (Nat × Obj)), ∀ q ∈ Kl', q.1 ≠ p.1) ∧ K9 = [] ++ Kl') rfl (by kernel_rfl) (fun _ => (by kernel_rfl)) (fun W hW => sort_own (K := []) (Kl := Kl1) l (by omega) O1 (show Dj [] Kl1 from (by (try simp only [dj_app_l, dj_app_r, dj_cons_l, dj_cons_r, dj_nil_l, dj_nil_r, dk_app, dk_cons, dk_nil, and_true, true_and, and_assoc]); repeat' (first | trivial | assumption | exact Dj.symm (by assumption) | exact Ne.symm (by assumption) | apply And.intro))) W (hW.sub (fun p hp => by simp only [List.mem_cons, List.mem_append, List.nil_append, List.not_mem_nil, or_assoc, or_false, false_or, List.cons_append, List.append_assoc] at hp ⊢ <;> grind))) (fun _ => by simp only [List.setIfInBounds_toArray, List.set_cons_succ, List.set_cons_zero] <;> rfl) ?_
  rintro _ Kl2 ⟨rfl, _, O2, N2, rfl⟩
  refine wpL_done (fun W3 hW3 => ?_)
  refine (show Code.wp _ _ _ _ _ from ?_)
  refine wp_seq ?_
  refine wp_region_L (W0 := w) Kl2 (hW3) ?_
  refine lm (v := v1) rfl rfl ?_
  refine lm (v := v1) rfl rfl ?_
  refine wpL_done (fun W4 hW4 => ?_)
  refine (show Code.wp _ _ _ _ _ from ?_)
  refine wp_ret ?_
  try simp only [inBlock_ret, then_ret]
  refine bodyPost_ret (v := v1) ?_ rfl ?_
  · kernel_rfl
  · exact ⟨_, rfl, O2.out (fun p hp => by simp only [List.mem_cons, List.mem_append, List.nil_append, List.not_mem_nil, or_assoc, or_false, false_or, hp, true_or, or_true]) hW4, hW4.1⟩
def exB : Bx := ⟨7, [67, 83, 81, 85, 51, 48, 53, 52, 51, 56, 51], 40, true, 30000, 1, 3, 0, false⟩
set_option maxRecDepth 100000 in
set_option maxHeartbeats 4000000 in
theorem example_any  (w : World) : Calls Tryd.prog 13 #[] w fun e w' => e = .returned (bxV exB) ∧ Below w.heap.size w w' := by
  go_enter Tryd.func13, Tryd.ntmps13
  refine wp_seq ?_
  refine wp_region_L (W0 := w) [] (KS.start w) ?_
  refine wpL_new (fun g => .pointer (some ⟨g, 0, none⟩)) (obi := .cells (bxC bx0) 26 (0, 0)) rfl rfl (fun _ => by kernel_rfl) (fun _ => by simp only [List.setIfInBounds_toArray, List.set_cons_succ, List.set_cons_zero] <;> rfl) fun g1 Bg1 Fg1 => ?_
  refine wpL_done (fun W1 hW1 => ?_)
  refine (show Code.wp _ _ _ _ _ from ?_)
  refine wp_seq ?_
  refine wp_region_L (W0 := w) [(g1, .cells (bxC bx0) 26 (0, 0))] (hW1) ?_
  refine lm (v := .agg #[.int .i64 7, strV [67, 83, 81, 85, 51, 48, 53, 52, 51, 56, 51], .int .u8 40, .bool true, .int .i64 30000, .int .i64 1, .int .i64 3, .int .u8 0, .bool false]) rfl rfl ?_
  refine wpL_s [(g1, .cells (bxC exB) 26 (0, 0))] rfl rfl (st_row (off := 0) (v := .agg #[.int .i64 7, strV [67, 83, 81, 85, 51, 48, 53, 52, 51, 56, 51], .int .u8 40, .bool true, .int .i64 30000, .int .i64 1, .int .i64 3, .int .u8 0, .bool false]) rfl (by kernel_rfl) (by kernel_rfl) (.head _) Bg1 (by kernel_rfl) (by first | (simp [Value.cells]; done) | exact Nat.le_of_ble_eq_true rfl) (by intro v hv; simp [Value.cells, strV] at hv; first | (subst hv; rfl) | (rcases hv with rfl | rfl | rfl | rfl | rfl | rfl | rfl | rfl | rfl <;> rfl)) (by kernel_rfl) (List.forall_mem_cons.2 ⟨.inl rfl, (List.forall_mem_nil _)⟩)) ?_
  refine wpL_done (fun W2 hW2 => ?_)
  refine (show Code.wp _ _ _ _ _ from ?_)
  refine wp_ret ?_
  try simp only [inBlock_ret, then_ret]
  refine bodyPost_ret (v := .agg #[.int .i64 7, strV [67, 83, 81, 85, 51, 48, 53, 52, 51, 56, 51], .int .u8 40, .bool true, .int .i64 30000, .int .i64 1, .int .i64 3, .int .u8 0, .bool false]) ?_ rfl ?_
  · exact (res_cell (p := 0) rfl rfl (hW2.2 _ (.head _)) Tryd.underlying26 rfl (by kernel_rfl))
  · exact ⟨rfl, hW2.1⟩
set_option maxRecDepth 100000 in
set_option maxHeartbeats 4000000 in
theorem same_any (A B : List Bx) (pA pB : Option Addr) (cA cB : Nat) (lA : A.length ≤ 4000000000) (w : World) (hA : SLV w pA (bcs A)) (hB : SLV w pB (bcs B)) : Calls Tryd.prog 28 #[.slice pA A.length cA, .slice pB B.length cB] w fun e w' => e = .returned (.bool (decide (A = B))) ∧ Below w.heap.size w w' := by
  have HA := Lib.hid hA
  have HB := Lib.hid hB
  clear hA hB
  go_enter Tryd.func28, Tryd.ntmps28
  refine wp_seq ?_
  refine wp_region_L (W0 := w) [] (KS.start w) ?_
  refine lm (v := .bool false) rfl rfl ?_
  refine wpL_done (fun W1 hW1 => ?_)
  refine (show Code.wp _ _ _ _ _ from ?_)
  refine wp_seq ?_
  refine wp_seq ?_
  refine wp_region_L (W0 := w) [] (hW1) ?_
  refine lm (v := .slice pA A.length cA) rfl rfl ?_
  refine lp (v := .int .i64 ((A.length : Nat) : Int)) rfl rfl (run_lenL (p := pA) (cap := cA) (n := A.length) rfl Tryd.underlying22 (by kernel_rfl)) ?_
  refine lm (v := .slice pB B.length cB) rfl rfl ?_
  refine lp (v := .int .i64 ((B.length : Nat) : Int)) rfl rfl (run_lenL (p := pB) (cap := cB) (n := B.length) rfl Tryd.underlying22 (by kernel_rfl)) ?_
  refine lp (v := .bool (!(decide (A.length = B.length)))) rfl rfl (run_bin rfl (vx := (.int .i64 ((A.length : Nat) : Int))) (vy := (.int .i64 ((B.length : Nat) : Int))) (by kernel_rfl) (by kernel_rfl) fun w => bn_neq rfl w) ?_
  refine wpL_done (fun W2 hW2 => ?_)
  refine (show Code.wp _ _ _ _ _ from ?_)
  cases hd1 : (decide (A.length = B.length)) with
  | false =>
    have h1 : ¬ (A.length = B.length) := of_decide_eq_false hd1
    clear hd1
    refine wp_cond_true rfl ?_
    refine wp_seq ?_
    refine wp_region_L (W0 := w) [] (hW2) ?_
    refine lm (v := .bool false) rfl rfl ?_
    refine wpL_done (fun W3 hW3 => ?_)
    refine (show Code.wp _ _ _ _ _ from ?_)
    refine wp_ret ?_
    try simp only [inBlock_ret, then_ret]
    refine bodyPost_ret (v := .bool false) ?_ rfl ?_
    · kernel_rfl
    · exact ⟨(bool_is (by rw [eq_comm, decide_eq_false_iff_not]; exact ne_len h1)), hW3.1⟩
  | true =>
    have h1 : A.length = B.length := of_decide_eq_true hd1
    clear hd1
    refine wp_cond_false rfl ?_
    refine wp_skip ?_
    refine (show Code.wp _ _ _ _ _ from ?_)
    refine wp_seq ?_
    refine wp_seq ?_
    refine wp_region_L (W0 := w) [] (hW2) ?_
    refine lm (v := .int .i64 0) rfl rfl ?_
    refine wpL_done (fun W4 hW4 => ?_)
    refine (show Code.wp _ _ _ _ _ from ?_)
    refine wp_block ?_
    go_loopw [5] (fun u5 wr => ∃ (k : Nat), (k ≤ A.length) ∧ (A.take k = B.take k) ∧ u5 = .int .i64 ((k : Nat) : Int) ∧ KS w [] wr) (fun u5 _ => A.length - (intOf u5).toNat)
    case atStart => exact ⟨0, (Nat.zero_le _), rfl, rfl, (hW4.sub (fun p hp => by first | exact hp | (simp only [List.mem_cons, List.mem_append, List.nil_append, List.not_mem_nil, or_assoc, or_false, false_or] at hp ⊢ <;> grind)))⟩
    case round =>
      obtain ⟨k, hk, hT, rfl, hL5⟩ := hrel
      refine wp_seq ?_
      refine wp_seq ?_
      refine wp_region_L (W0 := w) [] (hL5) ?_
      refine lm (v := .int .i64 ((k : Nat) : Int)) rfl rfl ?_
      refine lm (v := .slice pA A.length cA) rfl rfl ?_
      refine lp (v := .int .i64 ((A.length : Nat) : Int)) rfl rfl (run_lenL (p := pA) (cap := cA) (n := A.length) rfl Tryd.underlying22 (by kernel_rfl)) ?_
      refine lp (v := .bool (decide (k < A.length))) rfl rfl (run_bin rfl (vx := (.int .i64 ((k : Nat) : Int))) (vy := (.int .i64 ((A.length : Nat) : Int))) (by kernel_rfl) (by kernel_rfl) fun w => bn_lss rfl w) ?_
      refine wpL_done (fun W6 hW6 => ?_)
      refine (show Code.wp _ _ _ _ _ from ?_)
      cases hd2 : (decide (k < A.length)) with
      | false =>
        have h2 : ¬ (k < A.length) := of_decide_eq_false hd2
        clear hd2
        refine wp_cond_false rfl ?_
        refine wp_exit ?_
        refine (show Code.wp _ _ _ _ _ from ?_)
        refine wp_seq ?_
        refine wp_region_L (W0 := w) [] (hW6) ?_
        refine lm (v := .bool true) rfl rfl ?_
        refine wpL_done (fun W7 hW7 => ?_)
        refine (show Code.wp _ _ _ _ _ from ?_)
        refine wp_ret ?_
        try simp only [inBlock_ret, then_ret]
        refine bodyPost_ret (v := .bool true) ?_ rfl ?_
        · kernel_rfl
        · exact ⟨(bool_is (by rw [eq_comm, decide_eq_true_iff]; exact eq_of_take hT h2 h1)), hW7.1⟩
      | true =>
        have h2 : k < A.length := of_decide_eq_true hd2
        clear hd2
        refine wp_cond_true rfl ?_
        refine wp_skip ?_
        refine (show Code.wp _ _ _ _ _ from ?_)
        refine wp_seq ?_
        refine wp_block ?_
        refine wp_seq ?_
        refine wp_region_V (W0 := w) [] (by kernel_rfl) (hW6) ?_
        refine vm (i := 0) (v := .slice pA A.length cA) rfl rfl rfl ?_
        refine vm (i := 1) (v := .int .i64 ((k : Nat) : Int)) rfl rfl rfl ?_
        obtain ⟨b1, g1_, f1, hy1, hp1, lt1, hc1⟩ := bl_at (k := k) HA.out (by omega)
        refine vp (i := 2) (v := .pointer (some ⟨g1_, f1 + k * 9, none⟩)) rfl rfl rfl (run_idxQ (p := pA) (cap := cA) (n := A.length) (j := .i64) (k := k) (sz := 9) rfl Tryd.underlying22 (by kernel_rfl) (by kernel_rfl) hp1 (by kernel_rfl) (by omega)) ?_
        refine vv (i := 3) (v := bxV b1) rfl rfl rfl (yb_olds (off := f1 + k * 9) (cs := (bxC b1).toList) rfl (by kernel_rfl) hc1 lt1 Tryd.underlying26 rfl (by kernel_rfl)) ?_
        refine vm (i := 4) (v := .slice pB B.length cB) rfl rfl rfl ?_
        refine vm (i := 5) (v := .int .i64 ((k : Nat) : Int)) rfl rfl rfl ?_
        obtain ⟨b2, g2_, f2, hy2, hp2, lt2, hc2⟩ := bl_at (k := k) HB.out (by omega)
        refine vp (i := 6) (v := .pointer (some ⟨g2_, f2 + k * 9, none⟩)) rfl rfl rfl (run_idxQ (p := pB) (cap := cB) (n := B.length) (j := .i64) (k := k) (sz := 9) rfl Tryd.underlying22 (by kernel_rfl) (by kernel_rfl) hp2 (by kernel_rfl) (by omega)) ?_
        refine vv (i := 7) (v := bxV b2) rfl rfl rfl (yb_olds (off := f2 + k * 9) (cs := (bxC b2).toList) rfl (by kernel_rfl) hc2 lt2 Tryd.underlying26 rfl (by kernel_rfl)) ?_
        refine vp (i := 8) (v := .bool (!(decide (b1 = b2)))) rfl rfl rfl (run_bin rfl (vx := bxV b1) (vy := bxV b2) (by kernel_rfl) (by kernel_rfl) fun w => neq_bx rfl w) ?_
        refine wpV_done (by kernel_rfl) (fun W8 hW8 => ?_) _
        refine (show Code.wp _ _ _ _ _ from ?_)
        cases hd3 : (decide (b1 = b2)) with
        | false =>
          have h3 : ¬ (b1 = b2) := of_decide_eq_false hd3
          clear hd3
          refine wp_cond_true rfl ?_
          refine wp_seq ?_
          refine wp_region_L (W0 := w) [] (hW8) ?_
          refine lm (v := .bool false) rfl rfl ?_
          refine wpL_done (fun W9 hW9 => ?_)
          refine (show Code.wp _ _ _ _ _ from ?_)
          refine wp_ret ?_
          try simp only [inBlock_ret, then_ret]
          refine bodyPost_ret (v := .bool false) ?_ rfl ?_
          · kernel_rfl
          · exact ⟨(bool_is (by rw [eq_comm, decide_eq_false_iff_not]; exact ne_at hy1 hy2 h3)), hW9.1⟩
        | true =>
          have h3 : b1 = b2 := of_decide_eq_true hd3
          clear hd3
          refine wp_cond_false rfl ?_
          refine wp_skip ?_
          refine (show Code.wp _ _ _ _ _ from ?_)
          refine wp_region_L (W0 := w) [] (hW8) ?_
          refine lm (v := .int .i64 ((k : Nat) : Int)) rfl rfl ?_
          refine lp (v := .int .i64 (((k + 1) : Nat) : Int)) rfl rfl (run_bin rfl (vx := (.int .i64 ((k : Nat) : Int))) (vy := (.int .i64 ((1 : Nat) : Int))) (by kernel_rfl) (by kernel_rfl) fun w => bn_add (z := (k + 1)) rfl (wr_i64 (by omega)) w) ?_
          refine lm (v := .int .i64 (((k + 1) : Nat) : Int)) rfl rfl ?_
          refine wpL_done (fun W10 hW10 => ?_)
          go_roundw
          case rel =>
            repeat apply Exists.intro
            exact ⟨⟨k + 1, (by omega), (take_snoc_eq hT hy1 hy2 h3), rfl, (hW10.sub (fun p hp => by first | exact hp | (simp only [List.mem_cons, List.mem_append, List.nil_append, List.not_mem_nil, or_assoc, or_false, false_or] at hp ⊢ <;> grind)))⟩, rfl⟩
          case measure => (show A.length - (intOf (.int .i64 (((k + 1) : Nat) : Int))).toNat < A.length - (intOf (.int .i64 ((k : Nat) : Int))).toNat); simp only [intOf]; omega
theorem same_true (A B : List Bx) (pA pB : Option Addr) (cA cB : Nat) (lA : A.length ≤ 4000000000) (w : World) (hA : SLV w pA (bcs A)) (hB : SLV w pB (bcs B)) (h : A = B) : Calls Tryd.prog 28 #[.slice pA A.length cA, .slice pB B.length cB] w fun e w' => e = .returned (.bool true) ∧ Below w.heap.size w w' := by
  have h1 := same_any A B pA pB cA cB lA w hA hB
  rwa [decide_eq_true h] at h1
end Go.Proofs.YtllmpemmknblaaaDoor
