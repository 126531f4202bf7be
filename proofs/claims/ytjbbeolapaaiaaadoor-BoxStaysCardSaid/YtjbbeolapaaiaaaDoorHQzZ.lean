import Derived.Test.YtjbbeolapaaiaaaDoorG04
import Derived.Test.YtjbbeolapaaiaaaDoorG05
/- BoxStays: the law holds for every input; no condition but the row's own. -/
set_option linter.unusedVariables false
set_option linter.unusedSimpArgs false
set_option linter.unusedSectionVars false
namespace Go.Proofs.YtjbbeolapaaiaaaDoor
open Go Go.RowKit Tw
theorem made_calls (n : Nat) (x : Sk) : ∃ L D : Nat, (madeX n x).load = (L : Int) ∧ (madeX n x).dis = (D : Int) ∧ L < D ∧ D ≤ 19 := by
  refine ⟨x.load % 19, x.load % 19 + 1 + x.stay % (19 - x.load % 19), rfl, rfl, by omega, ?_⟩
  have := Nat.mod_lt x.stay (show 0 < 19 - x.load % 19 by omega)
  omega
set_option maxRecDepth 100000 in
set_option maxHeartbeats 40000000 in
theorem BoxStays_law (w : World) (hE : Env w) (x : Sk) (hx : skOk x) : Calls Tryd.prog 6 #[(.agg (skC x).toArray)] w fun e w' => e = .returned (.bool true) ∧ Below w.heap.size w w' := by
  have HE := Lib.hid hE
  clear hE
  obtain ⟨L, D, hL, hD, hLD, hD2⟩ := made_calls 0 x
  go_enter Tryd.func6, Tryd.ntmps6
  refine wp_seq ?_
  refine wp_region_L (W0 := w) [] (KS.start w) ?_
  refine wpL_new (fun g => .pointer (some ⟨g, 0, none⟩)) (obi := .cells (skC x).toArray 31 (0, 0)) rfl rfl (fun _ => by kernel_rfl) (fun _ => by simp only [List.setIfInBounds_toArray, List.set_cons_succ, List.set_cons_zero] <;> rfl) fun g1 Bg1 Fg1 => ?_
  refine lm (v := .bool false) rfl rfl ?_
  refine wpL_done (fun W1 hW1 => ?_)
  refine (show Code.wp _ _ _ _ _ from ?_)
  refine wp_seq ?_
  refine wp_region_L (W0 := w) [(g1, .cells (skC x).toArray 31 (0, 0))] (hW1) ?_
  refine lv (v := (.agg (skC x).toArray)) rfl rfl (yb_load (n := 6) (off := 0) rfl (by kernel_rfl) (.head _) Tryd.underlying31 rfl (by kernel_rfl) (by first | (simp; done) | exact Nat.le_of_ble_eq_true rfl) (by kernel_rfl)) ?_
  refine lv (v := bxV (madeX 0 x)) rfl rfl (yb_call (f := 17) (args := #[.int .i64 0, (.agg (skC x).toArray)]) (fun _ => by kernel_rfl) fun W hW => Made_any 0 x (by omega) hx W) ?_
  refine wpL_new (fun g => .pointer (some ⟨g, 0, none⟩)) (obi := .cells (bxC bx0) 26 (0, 0)) rfl rfl (fun _ => by kernel_rfl) (fun _ => by simp only [List.setIfInBounds_toArray, List.set_cons_succ, List.set_cons_zero] <;> rfl) fun g2 Bg2 Fg2 => ?_
  obtain dj3_0 : g1 ≠ g2 := by simpa only [dj_app_l, dj_app_r, dj_cons_l, dj_cons_r, dj_nil_l, dj_nil_r, dk_app, dk_cons, dk_nil, and_true, true_and, and_assoc] using (show Dk g2 [(g1, .cells (skC x).toArray 31 (0, 0))] from Fg2)
  refine wpL_s [(g2, .cells (bxC (madeX 0 x)) 26 (0, 0)), (g1, .cells (skC x).toArray 31 (0, 0))] rfl rfl (st_bx (b := (madeX 0 x)) rfl (by kernel_rfl) (by kernel_rfl) (.head _) rfl Bg2 (by kernel_rfl) (List.forall_mem_cons.2 ⟨.inl rfl, (List.forall_mem_cons.2 ⟨.inr ⟨(.tail _ (.head _)), (by first | assumption | exact Ne.symm (by assumption))⟩, (List.forall_mem_nil _)⟩)⟩)) ?_
  refine wpL_done (fun W2 hW2 => ?_)
  refine (show Code.wp _ _ _ _ _ from ?_)
  refine wp_seq ?_
  refine wp_region_L (W0 := w) [(g2, .cells (bxC (madeX 0 x)) 26 (0, 0)), (g1, .cells (skC x).toArray 31 (0, 0))] (hW2) ?_
  refine lm (v := .int .i64 0) rfl rfl ?_
  refine wpL_done (fun W3 hW3 => ?_)
  refine (show Code.wp _ _ _ _ _ from ?_)
  refine wp_seq ?_
  refine wp_seq ?_
  refine wp_region_L (W0 := w) [(g2, .cells (bxC (madeX 0 x)) 26 (0, 0)), (g1, .cells (skC x).toArray 31 (0, 0))] (hW3) ?_
  refine lm (v := .int .i64 (-2)) rfl rfl ?_
  refine wpL_done (fun W4 hW4 => ?_)
  refine (show Code.wp _ _ _ _ _ from ?_)
  refine wp_block ?_
  go_loopw [4, 5] (fun u4 u5 wr => ∃ (c n : Int), (-2 ≤ c ∧ c ≤ 25) ∧ ((c ≤ (L : Int) → n = 0) ∧ ((L : Int) ≤ c ∧ c ≤ (D : Int) → n = c - L) ∧ ((D : Int) ≤ c → n = (D : Int) - L)) ∧ u4 = .int .i64 n ∧ u5 = .int .i64 c ∧ KS w [(g2, .cells (bxC (madeX 0 x)) 26 (0, 0)), (g1, .cells (skC x).toArray 31 (0, 0))] wr) (fun _ u5 _ => (25 - intOf u5).toNat)
  case atStart => exact ⟨-2, 0, (by omega), (by omega), rfl, rfl, (hW4.sub (fun p hp => by first | exact hp | (simp only [List.mem_cons, List.mem_append, List.nil_append, List.not_mem_nil, or_assoc, or_false, false_or] at hp ⊢ <;> grind)))⟩
  case round =>
    obtain ⟨c, n, hc, hn, rfl, rfl, hL5⟩ := hrel
    refine wp_seq ?_
    refine wp_seq ?_
    refine wp_region_L (W0 := w) [(g2, .cells (bxC (madeX 0 x)) 26 (0, 0)), (g1, .cells (skC x).toArray 31 (0, 0))] (hL5) ?_
    refine lm (v := .int .i64 c) rfl rfl ?_
    refine lp (v := .bool (decide (c < 25))) rfl rfl (run_bin rfl (vx := (.int .i64 c)) (vy := (.int .i64 25)) (by kernel_rfl) (by kernel_rfl) fun w => bi_lss rfl w) ?_
    refine wpL_done (fun W6 hW6 => ?_)
    refine (show Code.wp _ _ _ _ _ from ?_)
    cases hd1 : (decide (c < 25)) with
    | false =>
      have h1 : ¬ (c < 25) := of_decide_eq_false hd1
      clear hd1
      refine wp_cond_false rfl ?_
      refine wp_exit ?_
      refine (show Code.wp _ _ _ _ _ from ?_)
      refine wp_seq ?_
      refine wp_region_L (W0 := w) [(g2, .cells (bxC (madeX 0 x)) 26 (0, 0)), (g1, .cells (skC x).toArray 31 (0, 0))] (hW6) ?_
      refine lm (v := .int .i64 n) rfl rfl ?_
      refine lm (v := .pointer (some ⟨g2, 6, none⟩)) rfl rfl ?_
      refine lv (v := .int .i64 ((madeX 0 x).dis)) rfl rfl (yb_cell (off := 6) rfl (by kernel_rfl) (.head _) Tryd.underlying3 rfl (by kernel_rfl)) ?_
      refine lm (v := .pointer (some ⟨g2, 5, none⟩)) rfl rfl ?_
      refine lv (v := .int .i64 ((madeX 0 x).load)) rfl rfl (yb_cell (off := 5) rfl (by kernel_rfl) (.head _) Tryd.underlying3 rfl (by kernel_rfl)) ?_
      refine lp (v := .int .i64 (((madeX 0 x).dis) - ((madeX 0 x).load))) rfl rfl (run_bin rfl (vx := (.int .i64 ((madeX 0 x).dis))) (vy := (.int .i64 ((madeX 0 x).load))) (by kernel_rfl) (by kernel_rfl) fun w => bi_sub (z := (((madeX 0 x).dis) - ((madeX 0 x).load))) rfl (wi_i64 (by omega)) w) ?_
      refine lp (v := .bool (decide (n = (((madeX 0 x).dis) - ((madeX 0 x).load))))) rfl rfl (run_bin rfl (vx := (.int .i64 n)) (vy := (.int .i64 (((madeX 0 x).dis) - ((madeX 0 x).load)))) (by kernel_rfl) (by kernel_rfl) fun w => bi_eql rfl w) ?_
      refine lm (v := .bool (decide (n = (((madeX 0 x).dis) - ((madeX 0 x).load))))) rfl rfl ?_
      cases hd2 : (decide (n = (((madeX 0 x).dis) - ((madeX 0 x).load)))) with
      | false =>
        have h2 : ¬ (n = (((madeX 0 x).dis) - ((madeX 0 x).load))) := of_decide_eq_false hd2
        clear hd2
        rw [hL, hD] at h2
        refine ln rfl ?_
        refine ln rfl ?_
        refine lm (v := .bool false) rfl rfl ?_
        refine lm (v := .bool false) rfl rfl ?_
        refine ln rfl ?_
        refine lm (v := .bool false) rfl rfl ?_
        refine lm (v := .bool false) rfl rfl ?_
        refine wpL_done (fun W7 hW7 => ?_)
        refine (show Code.wp _ _ _ _ _ from ?_)
        refine wp_ret ?_
        exfalso
        omega
      | true =>
        have h2 : n = (((madeX 0 x).dis) - ((madeX 0 x).load)) := of_decide_eq_true hd2
        clear hd2
        rw [hL, hD] at h2
        refine lm (v := .int .i64 n) rfl rfl ?_
        refine lp (v := .bool (decide (0 < n))) rfl rfl (run_bin rfl (vx := (.int .i64 n)) (vy := (.int .i64 0)) (by kernel_rfl) (by kernel_rfl) fun w => bi_gtr rfl w) ?_
        refine lm (v := .bool (decide (0 < n))) rfl rfl ?_
        refine lm (v := .bool (decide (0 < n))) rfl rfl ?_
        cases hd3 : (decide (0 < n)) with
        | false =>
          have h3 : ¬ (0 < n) := of_decide_eq_false hd3
          clear hd3
          refine ln rfl ?_
          refine lm (v := .bool false) rfl rfl ?_
          refine lm (v := .bool false) rfl rfl ?_
          refine wpL_done (fun W8 hW8 => ?_)
          refine (show Code.wp _ _ _ _ _ from ?_)
          refine wp_ret ?_
          exfalso
          omega
        | true =>
          have h3 : 0 < n := of_decide_eq_true hd3
          clear hd3
          refine lv (v := .bool true) rfl rfl (yb_call (f := 12) (args := #[]) (fun _ => by kernel_rfl) fun W hW => awake_any W (HE.out.keep hW.1)) ?_
          refine lm (v := .bool true) rfl rfl ?_
          refine lm (v := .bool true) rfl rfl ?_
          refine wpL_done (fun W9 hW9 => ?_)
          refine (show Code.wp _ _ _ _ _ from ?_)
          refine wp_ret ?_
          try simp only [inBlock_ret, then_ret]
          refine bodyPost_ret (v := .bool true) ?_ rfl ?_
          · kernel_rfl
          · exact ⟨rfl, hW9.1⟩
    | true =>
      have h1 : c < 25 := of_decide_eq_true hd1
      clear hd1
      refine wp_cond_true rfl ?_
      refine wp_skip ?_
      refine (show Code.wp _ _ _ _ _ from ?_)
      refine wp_seq ?_
      refine wp_block ?_
      refine wp_seq ?_
      refine wp_region_L (W0 := w) [(g2, .cells (bxC (madeX 0 x)) 26 (0, 0)), (g1, .cells (skC x).toArray 31 (0, 0))] (hW6) ?_
      refine lv (v := bxV (madeX 0 x)) rfl rfl (yb_load (n := 9) (off := 0) rfl (by kernel_rfl) (.head _) Tryd.underlying26 rfl (by kernel_rfl) (Nat.le_refl 9) (by kernel_rfl)) ?_
      refine lm (v := .int .i64 c) rfl rfl ?_
      refine lv (v := .bool (aboardX (madeX 0 x) c)) rfl rfl (yb_call (f := 23) (args := #[bxV (madeX 0 x), .int .i64 c]) (fun _ => by kernel_rfl) fun W hW => Aboard_any (madeX 0 x) c W) ?_
      refine wpL_done (fun W10 hW10 => ?_)
      refine (show Code.wp _ _ _ _ _ from ?_)
      cases h4 : (aboardX (madeX 0 x) c) with
      | false =>
        have ha : ¬ ((L : Int) ≤ c ∧ c < (D : Int)) := by rw [← hL, ← hD]; simpa [aboardX] using h4
        refine wp_cond_false rfl ?_
        refine wp_skip ?_
        refine (show Code.wp _ _ _ _ _ from ?_)
        refine wp_region_L (W0 := w) [(g2, .cells (bxC (madeX 0 x)) 26 (0, 0)), (g1, .cells (skC x).toArray 31 (0, 0))] (hW10) ?_
        refine lm (v := .int .i64 c) rfl rfl ?_
        refine lp (v := .int .i64 (c + 1)) rfl rfl (run_bin rfl (vx := (.int .i64 c)) (vy := (.int .i64 1)) (by kernel_rfl) (by kernel_rfl) fun w => bi_add (z := (c + 1)) rfl (wi_i64 (by omega)) w) ?_
        refine lm (v := .int .i64 (c + 1)) rfl rfl ?_
        refine wpL_done (fun W11 hW11 => ?_)
        go_roundw
        case rel =>
          repeat apply Exists.intro
          exact ⟨⟨c + 1, n, (by omega), (by omega), rfl, rfl, (hW11.sub (fun p hp => by first | exact hp | (simp only [List.mem_cons, List.mem_append, List.nil_append, List.not_mem_nil, or_assoc, or_false, false_or] at hp ⊢ <;> grind)))⟩, rfl⟩
        case measure => (show (25 - intOf (.int .i64 (c + 1))).toNat < (25 - intOf (.int .i64 c)).toNat); simp only [intOf]; omega
      | true =>
        have ha : ((L : Int) ≤ c ∧ c < (D : Int)) := by rw [← hL, ← hD]; simpa [aboardX] using h4
        refine wp_cond_true rfl ?_
        refine wp_seq ?_
        refine wp_region_L (W0 := w) [(g2, .cells (bxC (madeX 0 x)) 26 (0, 0)), (g1, .cells (skC x).toArray 31 (0, 0))] (hW10) ?_
        refine lm (v := .int .i64 n) rfl rfl ?_
        refine lp (v := .int .i64 (n + 1)) rfl rfl (run_bin rfl (vx := (.int .i64 n)) (vy := (.int .i64 1)) (by kernel_rfl) (by kernel_rfl) fun w => bi_add (z := (n + 1)) rfl (wi_i64 (by omega)) w) ?_
        refine lm (v := .int .i64 (n + 1)) rfl rfl ?_
        refine wpL_done (fun W12 hW12 => ?_)
        refine (show Code.wp _ _ _ _ _ from ?_)
        refine wp_seq ?_
        refine wp_region_L (W0 := w) [(g2, .cells (bxC (madeX 0 x)) 26 (0, 0)), (g1, .cells (skC x).toArray 31 (0, 0))] (hW12) ?_
        refine lm (v := .int .i64 c) rfl rfl ?_
        refine lm (v := .pointer (some ⟨g2, 5, none⟩)) rfl rfl ?_
        refine lv (v := .int .i64 ((madeX 0 x).load)) rfl rfl (yb_cell (off := 5) rfl (by kernel_rfl) (.head _) Tryd.underlying3 rfl (by kernel_rfl)) ?_
        refine lp (v := .bool (decide (c < ((madeX 0 x).load)))) rfl rfl (run_bin rfl (vx := (.int .i64 c)) (vy := (.int .i64 ((madeX 0 x).load))) (by kernel_rfl) (by kernel_rfl) fun w => bi_lss rfl w) ?_
        refine lm (v := .bool (decide (c < ((madeX 0 x).load)))) rfl rfl ?_
        cases hd5 : (decide (c < ((madeX 0 x).load))) with
        | false =>
          have h5 : ¬ (c < ((madeX 0 x).load)) := of_decide_eq_false hd5
          clear hd5
          rw [hL] at h5
          refine lm (v := .int .i64 c) rfl rfl ?_
          refine lm (v := .pointer (some ⟨g2, 6, none⟩)) rfl rfl ?_
          refine lv (v := .int .i64 ((madeX 0 x).dis)) rfl rfl (yb_cell (off := 6) rfl (by kernel_rfl) (.head _) Tryd.underlying3 rfl (by kernel_rfl)) ?_
          refine lp (v := .bool (!(decide (c < ((madeX 0 x).dis))))) rfl rfl (run_bin rfl (vx := (.int .i64 c)) (vy := (.int .i64 ((madeX 0 x).dis))) (by kernel_rfl) (by kernel_rfl) fun w => bi_geq rfl w) ?_
          refine lm (v := .bool (!(decide (c < ((madeX 0 x).dis))))) rfl rfl ?_
          refine wpL_done (fun W13 hW13 => ?_)
          refine (show Code.wp _ _ _ _ _ from ?_)
          cases hd6 : (decide (c < ((madeX 0 x).dis))) with
          | false =>
            have h6 : ¬ (c < ((madeX 0 x).dis)) := of_decide_eq_false hd6
            clear hd6
            rw [hD] at h6
            refine wp_cond_true rfl ?_
            refine wp_seq ?_
            refine wp_region_L (W0 := w) [(g2, .cells (bxC (madeX 0 x)) 26 (0, 0)), (g1, .cells (skC x).toArray 31 (0, 0))] (hW13) ?_
            refine lm (v := .bool false) rfl rfl ?_
            refine wpL_done (fun W14 hW14 => ?_)
            refine (show Code.wp _ _ _ _ _ from ?_)
            refine wp_ret ?_
            exfalso
            omega
          | true =>
            have h6 : c < ((madeX 0 x).dis) := of_decide_eq_true hd6
            clear hd6
            rw [hD] at h6
            refine wp_cond_false rfl ?_
            refine wp_skip ?_
            refine (show Code.wp _ _ _ _ _ from ?_)
            refine wp_region_L (W0 := w) [(g2, .cells (bxC (madeX 0 x)) 26 (0, 0)), (g1, .cells (skC x).toArray 31 (0, 0))] (hW13) ?_
            refine lm (v := .int .i64 c) rfl rfl ?_
            refine lp (v := .int .i64 (c + 1)) rfl rfl (run_bin rfl (vx := (.int .i64 c)) (vy := (.int .i64 1)) (by kernel_rfl) (by kernel_rfl) fun w => bi_add (z := (c + 1)) rfl (wi_i64 (by omega)) w) ?_
            refine lm (v := .int .i64 (c + 1)) rfl rfl ?_
            refine wpL_done (fun W15 hW15 => ?_)
            go_roundw
            case rel =>
              repeat apply Exists.intro
              exact ⟨⟨c + 1, (n + 1), (by omega), (by omega), rfl, rfl, (hW15.sub (fun p hp => by first | exact hp | (simp only [List.mem_cons, List.mem_append, List.nil_append, List.not_mem_nil, or_assoc, or_false, false_or] at hp ⊢ <;> grind)))⟩, rfl⟩
            case measure => (show (25 - intOf (.int .i64 (c + 1))).toNat < (25 - intOf (.int .i64 c)).toNat); simp only [intOf]; omega
        | true =>
          have h5 : c < ((madeX 0 x).load) := of_decide_eq_true hd5
          clear hd5
          rw [hL] at h5
          refine ln rfl ?_
          refine ln rfl ?_
          refine ln rfl ?_
          refine ln rfl ?_
          refine lm (v := .bool true) rfl rfl ?_
          refine wpL_done (fun W16 hW16 => ?_)
          refine (show Code.wp _ _ _ _ _ from ?_)
          refine wp_cond_true rfl ?_
          refine wp_seq ?_
          refine wp_region_L (W0 := w) [(g2, .cells (bxC (madeX 0 x)) 26 (0, 0)), (g1, .cells (skC x).toArray 31 (0, 0))] (hW16) ?_
          refine lm (v := .bool false) rfl rfl ?_
          refine wpL_done (fun W17 hW17 => ?_)
          refine (show Code.wp _ _ _ _ _ from ?_)
          refine wp_ret ?_
          exfalso
          omega
end Go.Proofs.YtjbbeolapaaiaaaDoor
/- BoxStays holds for every input: the program's own answer is true, wherever the listed variables are as the program's text lays them; each argument reads afterwards as it read before. -/
namespace Go.Proofs.YtjbbeolapaaiaaaDoor
open Go.ChangeShapes Go.WideShapes Go.ChangeAt Go.RowKit Tw
set_option maxRecDepth 100000 in
theorem boxStays_lifted (os : Os) (started : os.Started) (H : Type) (enc : TypeId × Value → H) :
    ReturnsInHanded {} Tryd.checked os 6 .any (fun w args => (Rows.boxStaysSpec.pre enc Tryd.prog Tryd.f6 Rows.boxStaysRow.domain false w args ∧ laidMetH Tryd.prog laidN w) ∧ sizedMet enc Tryd.prog Tryd.f6 (OpenSpec.ofChange Rows.boxStaysSpec) false w args) (Rows.boxStaysSpec.post enc Tryd.prog Tryd.f6 false true false false) := by
  refine handed_and_sized (C := Tryd.checked) (X := fun w => laidMetH Tryd.prog laidN w) (fun _ _ hh h => h.of_heap hh) own started (by kernel_rfl) Tryd.func6
    (ChangeSpec.witness_shaped (enc := enc) (C := Tryd.checked) (os := os) (X := fun w _ => laidMetH Tryd.prog laidN w) false (World.doorLaid Tryd.prog 1000 os) #[.agg #[.int .u8 0, .int .u8 0, .int .u8 0, .int .u8 0, .int .u8 0, .int .u8 0]] 8 rfl (World.shaped_of_RefB (by kernel_rfl) (by kernel_rfl)) (by kernel_rfl) (by kernel_rfl) (by kernel_rfl) (door_met os _)) ?_
  intro W base args ds gs before hval0 hW hL hsh hsz
  have hval : ∀ (j : Nat) t v, Tryd.f6.params[j]? = some t → args[j]? = some v → Value.okWide Tryd.prog W .any base t v := hval0
  have hW2 := hW
  obtain ⟨p, q, hA0, hV, rfl, hfz, hnd⟩ := hW2
  have hA : DataW.TrodAll enc Tryd.prog W 0 (fun _ => true) true Tryd.f6.params.toList args.toList ds p := hA0
  rw [Tryd.params6] at hA hval
  obtain ⟨v0, vs0, d0, ds0, p0, q0, hargs, rfl, rfl, h0, r0⟩ := trodAll_cons hA
  obtain ⟨rfl, rfl, rfl⟩ := trodAll_nil r0
  obtain rfl : args = #[v0] := by cases args; simp_all
  obtain ⟨rfl, rfl⟩ := trodVars_none hV
  have k0 := h0
  have lt0 : ∀ x ∈ p0, x.block < W.heap.size := by obtain ⟨m, hm⟩ := k0; exact DataW.trod_lt m _ _ _ hm
  obtain ⟨y0, rfl, hy0⟩ := open_rec Tryd.underlying31 opens_sk (hval 0 31 v0 rfl rfl) h0
  clear hA0 hval0
  refine (BoxStays_law W (env_of hL) y0 hy0).mono fun e W' ⟨he, bel⟩ => ?_
  subst he
  exact ⟨_, rfl, _, _, _, [], _, [], hW, (trodAll_cons_mk (shut_bool Tryd.underlying4 _) trodAll_mk0), (trodAll_cons_mk (Below.trod laidOut (by kernel_rfl) (of_decide_eq_true (by kernel_rfl)) k0 bel lt0) trodAll_mk0), rfl, bel.frame _, fun h => by cases h⟩
theorem boxStays_said : Rows.BoxStaysSaid :=
  OpenClaim.holds_of_wide 6 Tryd.f6 rfl rfl rfl rfl rfl rfl rfl ⟨rfl, rfl, rfl, rfl, rfl⟩ rfl rfl rfl rfl rfl (by kernel_rfl) Tryd.func6 (by kernel_rfl)
    (of_decide_eq_true (by kernel_rfl)) (by unfold Func.isWrapper; first | (rw [if_pos (by decide +kernel)]; kernel_rfl) | (rw [if_neg (by decide +kernel)]; exact ⟨rfl, rfl⟩))
    (fun os started H enc _ => boxStays_lifted os started H enc)
theorem boxStays_proved : Rows.BoxStaysCardSaid :=
  Claim7.holds_tied_plain_at .later [] [.data] true Rows.boxStaysCard.stood.harness Rows.boxStaysCard.stood.looks
    boxStays_said (fun _ h => by cases h) (by kernel_rfl) (fun _ h => by cases h) boxStays_row_tie rfl ⟨rfl, rfl⟩ (by kernel_rfl) rfl
    (fun f fn hf hfn => by
      obtain rfl : f = 6 := Option.some.inj ((show Tryd.prog.funcNamed "twistlock/twistlocklaw06.BoxStays" = some 6 by kernel_rfl).symm.trans hf) |>.symm
      obtain rfl : fn = Tryd.f6 := (Option.some.inj (Tryd.func6.symm.trans hfn)).symm
      exact ⟨by kernel_rfl, fun j t ht => by
        rw [Tryd.params6] at ht
        have hm : t ∈ [31] := by simpa using Array.mem_of_getElem? ht
        have hall : ([31].all fun u => !Tryd.prog.wantsStandIn u) = true := by kernel_rfl
        exact (show Tryd.prog.wantsStandIn t = false by simpa using List.all_eq_true.1 hall t hm)⟩)
    (by kernel_rfl)
#print axioms boxStays_proved
end Go.Proofs.YtjbbeolapaaiaaaDoor
