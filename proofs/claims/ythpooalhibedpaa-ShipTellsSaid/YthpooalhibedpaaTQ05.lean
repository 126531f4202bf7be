import Derived.Test.YthpooalhibedpaaTQ04
import Derived.Test.YthpooalhibedpaaTQ02
import Derived.Test.YthpooalhibedpaaTQ00
import Derived.Laws.OwnMore
import Derived.Laws.Small
/- Part of the proof: TI, TG0, Y1, TF0, TL0, TL, TK, TJ, U6. -/
set_option linter.unusedVariables false
set_option linter.unusedSimpArgs false
set_option linter.unusedSectionVars false
namespace Go.Proofs.Ythpooalhibedpaa
open Go Go.RowKit Tw
set_option maxRecDepth 100000 in
set_option maxHeartbeats 4000000 in
theorem RCoverOf_any (cs : List Col) (pc : Option Addr) (cc : Nat) (lc : cs.length ≤ 4000000000) (os : List Cov) (po : Option Addr) (co : Nat) (lo : os.length ≤ 4000000000) (t : Tl) (n : Int) (w : World) (hc : SLV w pc (cs.flatMap colC)) (ho : SLV w po (os.flatMap covC)) (hr : RwR w os) (lr : ∀ o ∈ os, o.rows.length ≤ 4000000000) : Calls Try.prog 13 #[.agg (shC (.slice pc cs.length cc) (.slice po os.length co) t).toArray, .int .i64 n] w fun e w' => e = .returned (.int .i64 (fiN (covOf cs os n))) ∧ Below w.heap.size w w' := by
  have HC := Lib.hid hc
  clear hc
  have HO := Lib.hid ho
  clear ho
  have HR := Lib.hid hr
  clear hr
  rcases Int.lt_or_le n 0 with hn | hn
  · skip
    go_enter Try.func13, Try.ntmps13
    refine wp_seq ?_
    refine wp_region_L (W0 := w) [] (KS.start w) ?_
    refine wpL_new (fun g => .pointer (some ⟨g, 0, none⟩)) (obi := .cells (shC (.slice pc cs.length cc) (.slice po os.length co) t).toArray 32 (0, 0)) rfl rfl (fun _ => by kernel_rfl) (fun _ => by simp only [List.setIfInBounds_toArray, List.set_cons_succ, List.set_cons_zero] <;> rfl) fun g1 Bg1 Fg1 => ?_
    refine lm (v := .int .i64 0) rfl rfl ?_
    refine wpL_done (fun W1 hW1 => ?_)
    refine (show Code.wp _ _ _ _ _ from ?_)
    refine wp_seq ?_
    refine wp_seq ?_
    refine wp_region_L (W0 := w) [(g1, .cells (shC (.slice pc cs.length cc) (.slice po os.length co) t).toArray 32 (0, 0))] (hW1) ?_
    refine lm (v := .int .i64 n) rfl rfl ?_
    refine lp (v := .bool true) rfl rfl (run_bin rfl (vx := (.int .i64 n)) (vy := (.int .i64 0)) (by kernel_rfl) (by kernel_rfl) fun w => bi_lss (decide_eq_true hn) w) ?_
    refine lm (v := .bool true) rfl rfl ?_
    refine ln rfl ?_
    refine ln rfl ?_
    refine ln rfl ?_
    refine ln rfl ?_
    refine ln rfl ?_
    refine lm (v := .bool true) rfl rfl ?_
    refine wpL_done (fun W2 hW2 => ?_)
    refine (show Code.wp _ _ _ _ _ from ?_)
    refine wp_cond_true rfl ?_
    refine wp_seq ?_
    refine wp_region_L (W0 := w) [(g1, .cells (shC (.slice pc cs.length cc) (.slice po os.length co) t).toArray 32 (0, 0))] (hW2) ?_
    refine lm (v := .int .i64 (-1)) rfl rfl ?_
    refine wpL_done (fun W3 hW3 => ?_)
    refine (show Code.wp _ _ _ _ _ from ?_)
    refine wp_ret ?_
    try simp only [inBlock_ret, then_ret]
    refine bodyPost_ret (v := .int .i64 (-1)) ?_ rfl ?_
    · kernel_rfl
    · exact ⟨(int_is (by rw [covOf_neg hn]; rfl)), hW3.1⟩
  · obtain ⟨m, rfl⟩ : ∃ m : Nat, n = (m : Int) := ⟨n.toNat, by omega⟩
    go_enter Try.func13, Try.ntmps13
    refine wp_seq ?_
    refine wp_region_L (W0 := w) [] (KS.start w) ?_
    refine wpL_new (fun g => .pointer (some ⟨g, 0, none⟩)) (obi := .cells (shC (.slice pc cs.length cc) (.slice po os.length co) t).toArray 32 (0, 0)) rfl rfl (fun _ => by kernel_rfl) (fun _ => by simp only [List.setIfInBounds_toArray, List.set_cons_succ, List.set_cons_zero] <;> rfl) fun g1 Bg1 Fg1 => ?_
    refine lm (v := .int .i64 0) rfl rfl ?_
    refine wpL_done (fun W1 hW1 => ?_)
    refine (show Code.wp _ _ _ _ _ from ?_)
    refine wp_seq ?_
    refine wp_seq ?_
    refine wp_region_L (W0 := w) [(g1, .cells (shC (.slice pc cs.length cc) (.slice po os.length co) t).toArray 32 (0, 0))] (hW1) ?_
    refine lm (v := .int .i64 ((m : Nat) : Int)) rfl rfl ?_
    refine lp (v := .bool false) rfl rfl (run_bin rfl (vx := (.int .i64 ((m : Nat) : Int))) (vy := (.int .i64 ((0 : Nat) : Int))) (by kernel_rfl) (by kernel_rfl) fun w => bn_lss (decide_eq_false (by omega)) w) ?_
    refine lm (v := .bool false) rfl rfl ?_
    refine lm (v := .int .i64 ((m : Nat) : Int)) rfl rfl ?_
    refine lm (v := .pointer (some ⟨g1, 0, none⟩)) rfl rfl ?_
    refine lv (v := .slice pc cs.length cc) rfl rfl (yb_cell (off := 0) rfl (by kernel_rfl) (.head _) Try.underlying22 rfl (by kernel_rfl)) ?_
    refine lp (v := .int .i64 ((cs.length : Nat) : Int)) rfl rfl (run_lenL (p := pc) (cap := cc) (n := cs.length) rfl Try.underlying22 (by kernel_rfl)) ?_
    refine lp (v := .bool (!(decide (m < cs.length)))) rfl rfl (run_bin rfl (vx := (.int .i64 ((m : Nat) : Int))) (vy := (.int .i64 ((cs.length : Nat) : Int))) (by kernel_rfl) (by kernel_rfl) fun w => bn_geq rfl w) ?_
    refine lm (v := .bool (!(decide (m < cs.length)))) rfl rfl ?_
    refine wpL_done (fun W2 hW2 => ?_)
    refine (show Code.wp _ _ _ _ _ from ?_)
    cases hd1 : (decide (m < cs.length)) with
    | false =>
      have h1 : ¬ (m < cs.length) := of_decide_eq_false hd1
      clear hd1
      refine wp_cond_true rfl ?_
      refine wp_seq ?_
      refine wp_region_L (W0 := w) [(g1, .cells (shC (.slice pc cs.length cc) (.slice po os.length co) t).toArray 32 (0, 0))] (hW2) ?_
      refine lm (v := .int .i64 (-1)) rfl rfl ?_
      refine wpL_done (fun W3 hW3 => ?_)
      refine (show Code.wp _ _ _ _ _ from ?_)
      refine wp_ret ?_
      try simp only [inBlock_ret, then_ret]
      refine bodyPost_ret (v := .int .i64 (-1)) ?_ rfl ?_
      · kernel_rfl
      · exact ⟨(int_is (by rw [covOf_big h1]; rfl)), hW3.1⟩
    | true =>
      have h1 : m < cs.length := of_decide_eq_true hd1
      clear hd1
      refine wp_cond_false rfl ?_
      refine wp_skip ?_
      refine (show Code.wp _ _ _ _ _ from ?_)
      refine wp_seq ?_
      refine wp_seq ?_
      refine wp_region_L (W0 := w) [(g1, .cells (shC (.slice pc cs.length cc) (.slice po os.length co) t).toArray 32 (0, 0))] (hW2) ?_
      refine lm (v := .int .i64 0) rfl rfl ?_
      refine wpL_done (fun W4 hW4 => ?_)
      refine (show Code.wp _ _ _ _ _ from ?_)
      refine wp_block ?_
      obtain ⟨cm, hcm⟩ : ∃ y, cs[m]? = some y := ⟨_, List.getElem?_eq_getElem (by omega)⟩
      go_loopw [5] (fun u5 wr => ∃ (k : Nat), (k ≤ os.length) ∧ (fstF (belX cm) 0 (os.take k) = none) ∧ u5 = .int .i64 ((k : Nat) : Int) ∧ KS w [(g1, .cells (shC (.slice pc cs.length cc) (.slice po os.length co) t).toArray 32 (0, 0))] wr) (fun u5 _ => os.length - (intOf u5).toNat)
      case atStart => exact ⟨0, (Nat.zero_le _), fst_zero, rfl, (hW4.sub (fun p hp => by first | exact hp | (simp only [List.mem_cons, List.mem_append, List.nil_append, List.not_mem_nil, or_assoc, or_false, false_or] at hp ⊢ <;> grind)))⟩
      case round =>
        obtain ⟨k, hk, hF, rfl, hL5⟩ := hrel
        refine wp_seq ?_
        refine wp_seq ?_
        refine wp_region_L (W0 := w) [(g1, .cells (shC (.slice pc cs.length cc) (.slice po os.length co) t).toArray 32 (0, 0))] (hL5) ?_
        refine lm (v := .int .i64 ((k : Nat) : Int)) rfl rfl ?_
        refine lm (v := .pointer (some ⟨g1, 1, none⟩)) rfl rfl ?_
        refine lv (v := .slice po os.length co) rfl rfl (yb_cell (off := 1) rfl (by kernel_rfl) (.head _) Try.underlying23 rfl (by kernel_rfl)) ?_
        refine lp (v := .int .i64 ((os.length : Nat) : Int)) rfl rfl (run_lenL (p := po) (cap := co) (n := os.length) rfl Try.underlying23 (by kernel_rfl)) ?_
        refine lp (v := .bool (decide (k < os.length))) rfl rfl (run_bin rfl (vx := (.int .i64 ((k : Nat) : Int))) (vy := (.int .i64 ((os.length : Nat) : Int))) (by kernel_rfl) (by kernel_rfl) fun w => bn_lss rfl w) ?_
        refine wpL_done (fun W6 hW6 => ?_)
        refine (show Code.wp _ _ _ _ _ from ?_)
        cases hd2 : (decide (k < os.length)) with
        | false =>
          have h2 : ¬ (k < os.length) := of_decide_eq_false hd2
          clear hd2
          refine wp_cond_false rfl ?_
          refine wp_exit ?_
          refine (show Code.wp _ _ _ _ _ from ?_)
          refine wp_seq ?_
          refine wp_region_L (W0 := w) [(g1, .cells (shC (.slice pc cs.length cc) (.slice po os.length co) t).toArray 32 (0, 0))] (hW6) ?_
          refine lm (v := .int .i64 (-1)) rfl rfl ?_
          refine wpL_done (fun W7 hW7 => ?_)
          refine (show Code.wp _ _ _ _ _ from ?_)
          refine wp_ret ?_
          try simp only [inBlock_ret, then_ret]
          refine bodyPost_ret (v := .int .i64 (-1)) ?_ rfl ?_
          · kernel_rfl
          · exact ⟨(int_is (by rw [covOf_at hcm, fst_end hF h2]; rfl)), hW7.1⟩
        | true =>
          have h2 : k < os.length := of_decide_eq_true hd2
          clear hd2
          refine wp_cond_true rfl ?_
          refine wp_skip ?_
          refine (show Code.wp _ _ _ _ _ from ?_)
          refine wp_seq ?_
          refine wp_block ?_
          refine wp_seq ?_
          refine wp_region_V (W0 := w) [(g1, .cells (shC (.slice pc cs.length cc) (.slice po os.length co) t).toArray 32 (0, 0))] (by kernel_rfl) (hW6) ?_
          refine vm (i := 0) (v := .pointer (some ⟨g1, 1, none⟩)) rfl rfl rfl ?_
          refine vv (i := 1) (v := .slice po os.length co) rfl rfl rfl (yb_cell (off := 1) rfl (by kernel_rfl) (.head _) Try.underlying23 rfl (by kernel_rfl)) ?_
          refine vm (i := 2) (v := .int .i64 ((k : Nat) : Int)) rfl rfl rfl ?_
          obtain ⟨y2, g2_, f2_, hy2, hp2, hc2⟩ := RL.at (RL.base HO.out) covC_len (by decide) (hW6.sub (fun _ h => by cases h)) (k := k) (by omega)
          refine vp (i := 3) (v := .pointer (some ⟨g2_, f2_ + k * 2, none⟩)) rfl rfl rfl (run_idxQ (p := po) (cap := co) (n := os.length) (j := .i64) (k := k) (sz := 2) rfl Try.underlying23 (by kernel_rfl) (by kernel_rfl) hp2 (by kernel_rfl) (by omega)) ?_
          refine vm (i := 4) (v := .pointer (some ⟨g2_, f2_ + k * 2, none⟩)) rfl rfl rfl ?_
          refine vb (i := 5) (v := .int .i64 y2.bay) rfl rfl rfl (yb_rf (v := .int .i64 y2.bay) rfl (by kernel_rfl) (fun W hW => hc2 W (hW.sub (fun _ h => by cases h)) 0 _ rfl) Try.underlying3 rfl) ?_
          refine vm (i := 6) (v := .pointer (some ⟨g1, 0, none⟩)) rfl rfl rfl ?_
          refine vv (i := 7) (v := .slice pc cs.length cc) rfl rfl rfl (yb_cell (off := 0) rfl (by kernel_rfl) (.head _) Try.underlying22 rfl (by kernel_rfl)) ?_
          refine vm (i := 8) (v := .int .i64 ((m : Nat) : Int)) rfl rfl rfl ?_
          obtain ⟨y3, g3_, f3_, hy3, hp3, hc3⟩ := RL.at (RL.base HC.out) colC_len (by decide) (hW6.sub (fun _ h => by cases h)) (k := m) (by omega)
          have ey3 : y3 = cm := by rw [hcm] at hy3; exact (Option.some.inj hy3).symm
          subst ey3
          refine vp (i := 9) (v := .pointer (some ⟨g3_, f3_ + m * 12, none⟩)) rfl rfl rfl (run_idxQ (p := pc) (cap := cc) (n := cs.length) (j := .i64) (k := m) (sz := 12) rfl Try.underlying22 (by kernel_rfl) (by kernel_rfl) hp3 (by kernel_rfl) (by omega)) ?_
          refine vm (i := 10) (v := .pointer (some ⟨g3_, f3_ + m * 12, none⟩)) rfl rfl rfl ?_
          refine vb (i := 11) (v := .int .i64 y3.bay) rfl rfl rfl (yb_rf (v := .int .i64 y3.bay) rfl (by kernel_rfl) (fun W hW => hc3 W (hW.sub (fun _ h => by cases h)) 0 _ rfl) Try.underlying3 rfl) ?_
          refine vp (i := 12) (v := .bool (decide (y2.bay = y3.bay))) rfl rfl rfl (run_bin rfl (vx := (.int .i64 y2.bay)) (vy := (.int .i64 y3.bay)) (by kernel_rfl) (by kernel_rfl) fun w => bi_eql rfl w) ?_
          refine vm (i := 13) (v := .bool (decide (y2.bay = y3.bay))) rfl rfl rfl ?_
          cases hd3 : (decide (y2.bay = y3.bay)) with
          | false =>
            have h3 : ¬ (y2.bay = y3.bay) := of_decide_eq_false hd3
            clear hd3
            refine vn (i := 14) rfl rfl ?_
            refine vn (i := 15) rfl rfl ?_
            refine vn (i := 16) rfl rfl ?_
            refine vn (i := 17) rfl rfl ?_
            refine vn (i := 18) rfl rfl ?_
            refine vn (i := 19) rfl rfl ?_
            refine vn (i := 20) rfl rfl ?_
            refine vn (i := 21) rfl rfl ?_
            refine vn (i := 22) rfl rfl ?_
            refine vn (i := 23) rfl rfl ?_
            refine vn (i := 24) rfl rfl ?_
            refine vn (i := 25) rfl rfl ?_
            refine vn (i := 26) rfl rfl ?_
            refine vm (i := 27) (v := .bool false) rfl rfl rfl ?_
            refine wpV_done (by kernel_rfl) (fun W8 hW8 => ?_) _
            refine (show Code.wp _ _ _ _ _ from ?_)
            refine wp_cond_false rfl ?_
            refine wp_skip ?_
            refine (show Code.wp _ _ _ _ _ from ?_)
            refine wp_region_L (W0 := w) [(g1, .cells (shC (.slice pc cs.length cc) (.slice po os.length co) t).toArray 32 (0, 0))] (hW8) ?_
            refine lm (v := .int .i64 ((k : Nat) : Int)) rfl rfl ?_
            refine lp (v := .int .i64 (((k + 1) : Nat) : Int)) rfl rfl (run_bin rfl (vx := (.int .i64 ((k : Nat) : Int))) (vy := (.int .i64 ((1 : Nat) : Int))) (by kernel_rfl) (by kernel_rfl) fun w => bn_add (z := (k + 1)) rfl (wr_i64 (by omega)) w) ?_
            refine lm (v := .int .i64 (((k + 1) : Nat) : Int)) rfl rfl ?_
            refine wpL_done (fun W9 hW9 => ?_)
            go_roundw
            case rel =>
              repeat apply Exists.intro
              exact ⟨⟨k + 1, (by omega), (fst_next hF hy2 (by unfold belX; simp [*])), rfl, (hW9.sub (fun p hp => by first | exact hp | (simp only [List.mem_cons, List.mem_append, List.nil_append, List.not_mem_nil, or_assoc, or_false, false_or] at hp ⊢ <;> grind)))⟩, rfl⟩
            case measure => (show os.length - (intOf (.int .i64 (((k + 1) : Nat) : Int))).toNat < os.length - (intOf (.int .i64 ((k : Nat) : Int))).toNat); simp only [intOf]; omega
          | true =>
            have h3 : y2.bay = y3.bay := of_decide_eq_true hd3
            clear hd3
            refine vm (i := 14) (v := .pointer (some ⟨g1, 1, none⟩)) rfl rfl rfl ?_
            refine vv (i := 15) (v := .slice po os.length co) rfl rfl rfl (yb_cell (off := 1) rfl (by kernel_rfl) (.head _) Try.underlying23 rfl (by kernel_rfl)) ?_
            refine vm (i := 16) (v := .int .i64 ((k : Nat) : Int)) rfl rfl rfl ?_
            refine vp (i := 17) (v := .pointer (some ⟨g2_, f2_ + k * 2, none⟩)) rfl rfl rfl (run_idxQ (p := po) (cap := co) (n := os.length) (j := .i64) (k := k) (sz := 2) rfl Try.underlying23 (by kernel_rfl) (by kernel_rfl) hp2 (by kernel_rfl) (by omega)) ?_
            refine vm (i := 18) (v := .pointer (some ⟨g2_, f2_ + k * 2 + 1, none⟩)) rfl rfl rfl ?_
            refine vb (i := 19) (v := .slice y2.rp y2.rows.length y2.rc) rfl rfl rfl (yb_rf (v := .slice y2.rp y2.rows.length y2.rc) rfl (by kernel_rfl) (fun W hW => hc2 W (hW.sub (fun _ h => by cases h)) 1 _ rfl) Try.underlying39 rfl) ?_
            refine vm (i := 20) (v := .pointer (some ⟨g1, 0, none⟩)) rfl rfl rfl ?_
            refine vv (i := 21) (v := .slice pc cs.length cc) rfl rfl rfl (yb_cell (off := 0) rfl (by kernel_rfl) (.head _) Try.underlying22 rfl (by kernel_rfl)) ?_
            refine vm (i := 22) (v := .int .i64 ((m : Nat) : Int)) rfl rfl rfl ?_
            refine vp (i := 23) (v := .pointer (some ⟨g3_, f3_ + m * 12, none⟩)) rfl rfl rfl (run_idxQ (p := pc) (cap := cc) (n := cs.length) (j := .i64) (k := m) (sz := 12) rfl Try.underlying22 (by kernel_rfl) (by kernel_rfl) hp3 (by kernel_rfl) (by omega)) ?_
            refine vm (i := 24) (v := .pointer (some ⟨g3_, f3_ + m * 12 + 1, none⟩)) rfl rfl rfl ?_
            refine vb (i := 25) (v := .int .i64 y3.row) rfl rfl rfl (yb_rf (v := .int .i64 y3.row) rfl (by kernel_rfl) (fun W hW => hc3 W (hW.sub (fun _ h => by cases h)) 1 _ rfl) Try.underlying3 rfl) ?_
            refine vv (i := 26) (v := .bool (hasN y2.rows y3.row)) rfl rfl rfl (yb_call (f := 39) (args := #[.slice y2.rp y2.rows.length y2.rc, .int .i64 y3.row]) (fun _ => by kernel_rfl) fun W hW => inside_any y2.rows y2.rp y2.rc y3.row (lr y2 (List.mem_of_getElem? hy2)) W ((RL.base (HR.out y2 (List.mem_of_getElem? hy2))) _ (hW.sub (fun _ h => by cases h)))) ?_
            refine vm (i := 27) (v := .bool (hasN y2.rows y3.row)) rfl rfl rfl ?_
            refine wpV_done (by kernel_rfl) (fun W10 hW10 => ?_) _
            refine (show Code.wp _ _ _ _ _ from ?_)
            cases h4 : (hasN y2.rows y3.row) with
            | false =>
              refine wp_cond_false rfl ?_
              refine wp_skip ?_
              refine (show Code.wp _ _ _ _ _ from ?_)
              refine wp_region_L (W0 := w) [(g1, .cells (shC (.slice pc cs.length cc) (.slice po os.length co) t).toArray 32 (0, 0))] (hW10) ?_
              refine lm (v := .int .i64 ((k : Nat) : Int)) rfl rfl ?_
              refine lp (v := .int .i64 (((k + 1) : Nat) : Int)) rfl rfl (run_bin rfl (vx := (.int .i64 ((k : Nat) : Int))) (vy := (.int .i64 ((1 : Nat) : Int))) (by kernel_rfl) (by kernel_rfl) fun w => bn_add (z := (k + 1)) rfl (wr_i64 (by omega)) w) ?_
              refine lm (v := .int .i64 (((k + 1) : Nat) : Int)) rfl rfl ?_
              refine wpL_done (fun W11 hW11 => ?_)
              go_roundw
              case rel =>
                repeat apply Exists.intro
                exact ⟨⟨k + 1, (by omega), (fst_next hF hy2 (by unfold belX; simp [*])), rfl, (hW11.sub (fun p hp => by first | exact hp | (simp only [List.mem_cons, List.mem_append, List.nil_append, List.not_mem_nil, or_assoc, or_false, false_or] at hp ⊢ <;> grind)))⟩, rfl⟩
              case measure => (show os.length - (intOf (.int .i64 (((k + 1) : Nat) : Int))).toNat < os.length - (intOf (.int .i64 ((k : Nat) : Int))).toNat); simp only [intOf]; omega
            | true =>
              refine wp_cond_true rfl ?_
              refine wp_seq ?_
              refine wp_region_L (W0 := w) [(g1, .cells (shC (.slice pc cs.length cc) (.slice po os.length co) t).toArray 32 (0, 0))] (hW10) ?_
              refine lm (v := .int .i64 ((k : Nat) : Int)) rfl rfl ?_
              refine lm (v := .int .i64 ((k : Nat) : Int)) rfl rfl ?_
              refine wpL_done (fun W12 hW12 => ?_)
              refine (show Code.wp _ _ _ _ _ from ?_)
              refine wp_ret ?_
              try simp only [inBlock_ret, then_ret]
              refine bodyPost_ret (v := .int .i64 ((k : Nat) : Int)) ?_ rfl ?_
              · kernel_rfl
              · exact ⟨(int_is (by rw [covOf_at hcm, fst_here hF hy2 (by unfold belX; simp [*])]; rfl)), hW12.1⟩
set_option maxRecDepth 100000 in
set_option maxHeartbeats 4000000 in
theorem Along_any (cs : List Col) (pc : Option Addr) (cc : Nat) (lc : cs.length ≤ 4000000000) (os : List Cov) (po : Option Addr) (co : Nat) (lo : os.length ≤ 4000000000) (t : Tl) (n : Int) (deck : Bool) (w : World) (hc : SLV w pc (cs.flatMap colC)) (ho : SLV w po (os.flatMap covC)) (hr : RwR w os) (lr : ∀ o ∈ os, o.rows.length ≤ 4000000000) : Calls Try.prog 17 #[.agg (shC (.slice pc cs.length cc) (.slice po os.length co) t).toArray, .int .i64 n, .bool deck] w fun e w' => ∃ v, e = .returned v ∧ OutV w w' 3 1 v (alongX cs os n deck).length ((alongX cs os n deck).flatMap inC) ∧ Below w.heap.size w w' := by
  have HC := Lib.hid hc
  clear hc
  have HO := Lib.hid ho
  clear ho
  have HR := Lib.hid hr
  clear hr
  rcases Int.lt_or_le n 0 with hn | hn
  · skip
    go_enter Try.func17, Try.ntmps17
    refine wp_seq ?_
    refine wp_region_L (W0 := w) [] (KS.start w) ?_
    refine wpL_new (fun g => .pointer (some ⟨g, 0, none⟩)) (obi := .cells (shC (.slice pc cs.length cc) (.slice po os.length co) t).toArray 32 (0, 0)) rfl rfl (fun _ => by kernel_rfl) (fun _ => by simp only [List.setIfInBounds_toArray, List.set_cons_succ, List.set_cons_zero] <;> rfl) fun g1 Bg1 Fg1 => ?_
    refine lm (v := .slice none 0 0) rfl rfl ?_
    refine wpL_done (fun W1 hW1 => ?_)
    refine (show Code.wp _ _ _ _ _ from ?_)
    refine wp_seq ?_
    refine wp_region_L (W0 := w) [(g1, .cells (shC (.slice pc cs.length cc) (.slice po os.length co) t).toArray 32 (0, 0))] (hW1) ?_
    refine lm (v := .slice none 0 0) rfl rfl ?_
    refine wpL_done (fun W2 hW2 => ?_)
    refine (show Code.wp _ _ _ _ _ from ?_)
    refine wp_seq ?_
    refine wp_seq ?_
    refine wp_region_L (W0 := w) [(g1, .cells (shC (.slice pc cs.length cc) (.slice po os.length co) t).toArray 32 (0, 0))] (hW2) ?_
    refine lm (v := .int .i64 n) rfl rfl ?_
    refine lp (v := .bool true) rfl rfl (run_bin rfl (vx := (.int .i64 n)) (vy := (.int .i64 0)) (by kernel_rfl) (by kernel_rfl) fun w => bi_lss (decide_eq_true hn) w) ?_
    refine lm (v := .bool true) rfl rfl ?_
    refine ln rfl ?_
    refine ln rfl ?_
    refine ln rfl ?_
    refine ln rfl ?_
    refine ln rfl ?_
    refine lm (v := .bool true) rfl rfl ?_
    refine wpL_done (fun W3 hW3 => ?_)
    refine (show Code.wp _ _ _ _ _ from ?_)
    refine wp_cond_true rfl ?_
    refine wp_seq ?_
    refine wp_region_L (W0 := w) [(g1, .cells (shC (.slice pc cs.length cc) (.slice po os.length co) t).toArray 32 (0, 0))] (hW3) ?_
    refine lm (v := .slice none 0 0) rfl rfl ?_
    refine lm (v := .slice none 0 0) rfl rfl ?_
    refine wpL_done (fun W4 hW4 => ?_)
    refine (show Code.wp _ _ _ _ _ from ?_)
    refine wp_ret ?_
    try simp only [inBlock_ret, then_ret]
    refine bodyPost_ret (v := .slice none 0 0) ?_ rfl ?_
    · kernel_rfl
    · exact ⟨_, rfl, out_nil (along_neg hn), hW4.1⟩
  · obtain ⟨m, rfl⟩ : ∃ m : Nat, n = (m : Int) := ⟨n.toNat, by omega⟩
    go_enter Try.func17, Try.ntmps17
    refine wp_seq ?_
    refine wp_region_L (W0 := w) [] (KS.start w) ?_
    refine wpL_new (fun g => .pointer (some ⟨g, 0, none⟩)) (obi := .cells (shC (.slice pc cs.length cc) (.slice po os.length co) t).toArray 32 (0, 0)) rfl rfl (fun _ => by kernel_rfl) (fun _ => by simp only [List.setIfInBounds_toArray, List.set_cons_succ, List.set_cons_zero] <;> rfl) fun g1 Bg1 Fg1 => ?_
    refine lm (v := .slice none 0 0) rfl rfl ?_
    refine wpL_done (fun W1 hW1 => ?_)
    refine (show Code.wp _ _ _ _ _ from ?_)
    refine wp_seq ?_
    refine wp_region_L (W0 := w) [(g1, .cells (shC (.slice pc cs.length cc) (.slice po os.length co) t).toArray 32 (0, 0))] (hW1) ?_
    refine lm (v := .slice none 0 0) rfl rfl ?_
    refine wpL_done (fun W2 hW2 => ?_)
    refine (show Code.wp _ _ _ _ _ from ?_)
    refine wp_seq ?_
    refine wp_seq ?_
    refine wp_region_L (W0 := w) [(g1, .cells (shC (.slice pc cs.length cc) (.slice po os.length co) t).toArray 32 (0, 0))] (hW2) ?_
    refine lm (v := .int .i64 ((m : Nat) : Int)) rfl rfl ?_
    refine lp (v := .bool false) rfl rfl (run_bin rfl (vx := (.int .i64 ((m : Nat) : Int))) (vy := (.int .i64 ((0 : Nat) : Int))) (by kernel_rfl) (by kernel_rfl) fun w => bn_lss (decide_eq_false (by omega)) w) ?_
    refine lm (v := .bool false) rfl rfl ?_
    refine lm (v := .int .i64 ((m : Nat) : Int)) rfl rfl ?_
    refine lm (v := .pointer (some ⟨g1, 1, none⟩)) rfl rfl ?_
    refine lv (v := .slice po os.length co) rfl rfl (yb_cell (off := 1) rfl (by kernel_rfl) (.head _) Try.underlying23 rfl (by kernel_rfl)) ?_
    refine lp (v := .int .i64 ((os.length : Nat) : Int)) rfl rfl (run_lenL (p := po) (cap := co) (n := os.length) rfl Try.underlying23 (by kernel_rfl)) ?_
    refine lp (v := .bool (!(decide (m < os.length)))) rfl rfl (run_bin rfl (vx := (.int .i64 ((m : Nat) : Int))) (vy := (.int .i64 ((os.length : Nat) : Int))) (by kernel_rfl) (by kernel_rfl) fun w => bn_geq rfl w) ?_
    refine lm (v := .bool (!(decide (m < os.length)))) rfl rfl ?_
    refine wpL_done (fun W3 hW3 => ?_)
    refine (show Code.wp _ _ _ _ _ from ?_)
    cases hd1 : (decide (m < os.length)) with
    | false =>
      have h1 : ¬ (m < os.length) := of_decide_eq_false hd1
      clear hd1
      refine wp_cond_true rfl ?_
      refine wp_seq ?_
      refine wp_region_L (W0 := w) [(g1, .cells (shC (.slice pc cs.length cc) (.slice po os.length co) t).toArray 32 (0, 0))] (hW3) ?_
      refine lm (v := .slice none 0 0) rfl rfl ?_
      refine lm (v := .slice none 0 0) rfl rfl ?_
      refine wpL_done (fun W4 hW4 => ?_)
      refine (show Code.wp _ _ _ _ _ from ?_)
      refine wp_ret ?_
      try simp only [inBlock_ret, then_ret]
      refine bodyPost_ret (v := .slice none 0 0) ?_ rfl ?_
      · kernel_rfl
      · exact ⟨_, rfl, out_nil (along_big h1), hW4.1⟩
    | true =>
      have h1 : m < os.length := of_decide_eq_true hd1
      clear hd1
      refine wp_cond_false rfl ?_
      refine wp_skip ?_
      refine (show Code.wp _ _ _ _ _ from ?_)
      refine wp_seq ?_
      refine wp_seq ?_
      refine wp_region_L (W0 := w) [(g1, .cells (shC (.slice pc cs.length cc) (.slice po os.length co) t).toArray 32 (0, 0))] (hW3) ?_
      refine lm (v := .int .i64 0) rfl rfl ?_
      refine wpL_done (fun W5 hW5 => ?_)
      refine (show Code.wp _ _ _ _ _ from ?_)
      refine wp_block ?_
      obtain ⟨om, hom⟩ : ∃ y, os[m]? = some y := ⟨_, List.getElem?_eq_getElem (by omega)⟩
      go_loopw [8, 7] (fun u8 u7 wr => ∃ (k z : Nat) (vo : Value) (Ko : List (Nat × Obj)), (k ≤ cs.length) ∧ ((idx (partOf deck om) (cs.take k)).length = z) ∧ (z ≤ k) ∧ (OwnL w 3 1 vo z ((idx (partOf deck om) (cs.take k)).flatMap inC) Ko) ∧ (Dk g1 Ko) ∧ u8 = .int .i64 ((k : Nat) : Int) ∧ vo = u7 ∧ KS w ((g1, .cells (shC (.slice pc cs.length cc) (.slice po os.length co) t).toArray 32 (0, 0)) :: Ko) wr) (fun u8 _ _ => cs.length - (intOf u8).toNat)
      case atStart => exact ⟨0, 0, (.slice none 0 0), [], (Nat.zero_le _), rfl, (Nat.le_refl _), (OwnL.nil _ _ _), (show Dk g1 [] from (by (try simp only [dj_app_l, dj_app_r, dj_cons_l, dj_cons_r, dj_nil_l, dj_nil_r, dk_app, dk_cons, dk_nil, and_true, true_and, and_assoc]); repeat' (first | trivial | assumption | exact Dj.symm (by assumption) | exact Ne.symm (by assumption) | apply And.intro))), rfl, rfl, (hW5.sub (fun p hp => by first | exact hp | (simp only [List.mem_cons, List.mem_append, List.nil_append, List.not_mem_nil, or_assoc, or_false, false_or] at hp ⊢ <;> grind)))⟩
      case round =>
        obtain ⟨k, z, vo, Ko, hk, hml, hmk, hO, dh2_0, rfl, rfl, hL6⟩ := hrel
        refine wp_seq ?_
        refine wp_seq ?_
        refine wp_region_L (W0 := w) ((g1, .cells (shC (.slice pc cs.length cc) (.slice po os.length co) t).toArray 32 (0, 0)) :: Ko) (hL6) ?_
        refine lm (v := .int .i64 ((k : Nat) : Int)) rfl rfl ?_
        refine lm (v := .pointer (some ⟨g1, 0, none⟩)) rfl rfl ?_
        refine lv (v := .slice pc cs.length cc) rfl rfl (yb_cell (off := 0) rfl (by kernel_rfl) (.head _) Try.underlying22 rfl (by kernel_rfl)) ?_
        refine lp (v := .int .i64 ((cs.length : Nat) : Int)) rfl rfl (run_lenL (p := pc) (cap := cc) (n := cs.length) rfl Try.underlying22 (by kernel_rfl)) ?_
        refine lp (v := .bool (decide (k < cs.length))) rfl rfl (run_bin rfl (vx := (.int .i64 ((k : Nat) : Int))) (vy := (.int .i64 ((cs.length : Nat) : Int))) (by kernel_rfl) (by kernel_rfl) fun w => bn_lss rfl w) ?_
        refine wpL_done (fun W7 hW7 => ?_)
        refine (show Code.wp _ _ _ _ _ from ?_)
        cases hd2 : (decide (k < cs.length)) with
        | false =>
          have h2 : ¬ (k < cs.length) := of_decide_eq_false hd2
          clear hd2
          refine wp_cond_false rfl ?_
          refine wp_exit ?_
          refine (show Code.wp _ _ _ _ _ from ?_)
          refine wp_seq ?_
          refine wp_region_L (W0 := w) ((g1, .cells (shC (.slice pc cs.length cc) (.slice po os.length co) t).toArray 32 (0, 0)) :: Ko) (hW7) ?_
          refine lm (v := vo) rfl rfl ?_
          refine lm (v := vo) rfl rfl ?_
          refine wpL_done (fun W8 hW8 => ?_)
          refine (show Code.wp _ _ _ _ _ from ?_)
          refine wp_ret ?_
          try simp only [inBlock_ret, then_ret]
          refine bodyPost_ret (v := vo) ?_ rfl ?_
          · kernel_rfl
          · exact ⟨_, rfl, (by have e := idx_all (P := (partOf deck om)) h2; rw [e] at hml hO; rw [along_at hom, hml]; exact hO.out (fun p hp => by simp only [List.mem_cons, List.mem_append, List.nil_append, List.not_mem_nil, or_assoc, or_false, false_or, hp, true_or, or_true]) hW8), hW8.1⟩
        | true =>
          have h2 : k < cs.length := of_decide_eq_true hd2
          clear hd2
          refine wp_cond_true rfl ?_
          refine wp_skip ?_
          refine (show Code.wp _ _ _ _ _ from ?_)
          refine wp_seq ?_
          refine wp_block ?_
          refine wp_seq ?_
          refine wp_region_V (W0 := w) ((g1, .cells (shC (.slice pc cs.length cc) (.slice po os.length co) t).toArray 32 (0, 0)) :: Ko) (by kernel_rfl) (hW7) ?_
          refine vm (i := 0) (v := .pointer (some ⟨g1, 0, none⟩)) rfl rfl rfl ?_
          refine vv (i := 1) (v := .slice pc cs.length cc) rfl rfl rfl (yb_cell (off := 0) rfl (by kernel_rfl) (.head _) Try.underlying22 rfl (by kernel_rfl)) ?_
          refine vm (i := 2) (v := .int .i64 ((k : Nat) : Int)) rfl rfl rfl ?_
          obtain ⟨y3, g3_, f3_, hy3, hp3, hc3⟩ := RL.at (RL.base HC.out) colC_len (by decide) (hW7.sub (fun _ h => by cases h)) (k := k) (by omega)
          refine vp (i := 3) (v := .pointer (some ⟨g3_, f3_ + k * 12, none⟩)) rfl rfl rfl (run_idxQ (p := pc) (cap := cc) (n := cs.length) (j := .i64) (k := k) (sz := 12) rfl Try.underlying22 (by kernel_rfl) (by kernel_rfl) hp3 (by kernel_rfl) (by omega)) ?_
          refine vm (i := 4) (v := .pointer (some ⟨g3_, f3_ + k * 12 + 2, none⟩)) rfl rfl rfl ?_
          refine vb (i := 5) (v := .bool y3.deck) rfl rfl rfl (yb_rf (v := .bool y3.deck) rfl (by kernel_rfl) (fun W hW => hc3 W (hW.sub (fun _ h => by cases h)) 2 _ rfl) Try.underlying4 rfl) ?_
          refine vm (i := 6) (v := .bool deck) rfl rfl rfl ?_
          refine vp (i := 7) (v := .bool (y3.deck == deck)) rfl rfl rfl (run_bin rfl (vx := .bool y3.deck) (vy := .bool deck) (by kernel_rfl) (by kernel_rfl) fun w => bn_bool_eql rfl Try.underlying4 w) ?_
          refine vm (i := 8) (v := .bool (y3.deck == deck)) rfl rfl rfl ?_
          cases h3 : (y3.deck == deck) with
          | false =>
            refine vn (i := 9) rfl rfl ?_
            refine vn (i := 10) rfl rfl ?_
            refine vn (i := 11) rfl rfl ?_
            refine vn (i := 12) rfl rfl ?_
            refine vn (i := 13) rfl rfl ?_
            refine vn (i := 14) rfl rfl ?_
            refine vn (i := 15) rfl rfl ?_
            refine vn (i := 16) rfl rfl ?_
            refine vn (i := 17) rfl rfl ?_
            refine vn (i := 18) rfl rfl ?_
            refine vn (i := 19) rfl rfl ?_
            refine vn (i := 20) rfl rfl ?_
            refine vn (i := 21) rfl rfl ?_
            refine vm (i := 22) (v := .bool false) rfl rfl rfl ?_
            refine vm (i := 23) (v := .bool false) rfl rfl rfl ?_
            refine vn (i := 24) rfl rfl ?_
            refine vn (i := 25) rfl rfl ?_
            refine vn (i := 26) rfl rfl ?_
            refine vn (i := 27) rfl rfl ?_
            refine vn (i := 28) rfl rfl ?_
            refine vn (i := 29) rfl rfl ?_
            refine vn (i := 30) rfl rfl ?_
            refine vn (i := 31) rfl rfl ?_
            refine vn (i := 32) rfl rfl ?_
            refine vn (i := 33) rfl rfl ?_
            refine vn (i := 34) rfl rfl ?_
            refine vn (i := 35) rfl rfl ?_
            refine vn (i := 36) rfl rfl ?_
            refine vm (i := 37) (v := .bool false) rfl rfl rfl ?_
            refine wpV_done (by kernel_rfl) (fun W9 hW9 => ?_) _
            refine (show Code.wp _ _ _ _ _ from ?_)
            refine wp_cond_false rfl ?_
            refine wp_skip ?_
            refine (show Code.wp _ _ _ _ _ from ?_)
            refine wp_region_L (W0 := w) ((g1, .cells (shC (.slice pc cs.length cc) (.slice po os.length co) t).toArray 32 (0, 0)) :: Ko) (hW9) ?_
            refine lm (v := .int .i64 ((k : Nat) : Int)) rfl rfl ?_
            refine lp (v := .int .i64 (((k + 1) : Nat) : Int)) rfl rfl (run_bin rfl (vx := (.int .i64 ((k : Nat) : Int))) (vy := (.int .i64 ((1 : Nat) : Int))) (by kernel_rfl) (by kernel_rfl) fun w => bn_add (z := (k + 1)) rfl (wr_i64 (by omega)) w) ?_
            refine lm (v := .int .i64 (((k + 1) : Nat) : Int)) rfl rfl ?_
            refine wpL_done (fun W10 hW10 => ?_)
            go_roundw
            case rel =>
              repeat apply Exists.intro
              exact ⟨⟨k + 1, z, vo, Ko, (by omega), (by rw [idx_no hy3 (by unfold partOf belX; rw [show decide (om.bay = y3.bay) = decide (y3.bay = om.bay) from decide_eq_decide.2 eq_comm]; simp [*])]; exact hml), (by omega), (by rw [idx_no hy3 (by unfold partOf belX; rw [show decide (om.bay = y3.bay) = decide (y3.bay = om.bay) from decide_eq_decide.2 eq_comm]; simp [*])]; exact hO), (show Dk g1 Ko from (by (try simp only [dj_app_l, dj_app_r, dj_cons_l, dj_cons_r, dj_nil_l, dj_nil_r, dk_app, dk_cons, dk_nil, and_true, true_and, and_assoc]); repeat' (first | trivial | assumption | exact Dj.symm (by assumption) | exact Ne.symm (by assumption) | apply And.intro))), rfl, rfl, (hW10.sub (fun p hp => by first | exact hp | (simp only [List.mem_cons, List.mem_append, List.nil_append, List.not_mem_nil, or_assoc, or_false, false_or] at hp ⊢ <;> grind)))⟩, rfl⟩
            case measure => (show cs.length - (intOf (.int .i64 (((k + 1) : Nat) : Int))).toNat < cs.length - (intOf (.int .i64 ((k : Nat) : Int))).toNat); simp only [intOf]; omega
          | true =>
            refine vm (i := 9) (v := .pointer (some ⟨g1, 0, none⟩)) rfl rfl rfl ?_
            refine vv (i := 10) (v := .slice pc cs.length cc) rfl rfl rfl (yb_cell (off := 0) rfl (by kernel_rfl) (.head _) Try.underlying22 rfl (by kernel_rfl)) ?_
            refine vm (i := 11) (v := .int .i64 ((k : Nat) : Int)) rfl rfl rfl ?_
            refine vp (i := 12) (v := .pointer (some ⟨g3_, f3_ + k * 12, none⟩)) rfl rfl rfl (run_idxQ (p := pc) (cap := cc) (n := cs.length) (j := .i64) (k := k) (sz := 12) rfl Try.underlying22 (by kernel_rfl) (by kernel_rfl) hp3 (by kernel_rfl) (by omega)) ?_
            refine vm (i := 13) (v := .pointer (some ⟨g3_, f3_ + k * 12, none⟩)) rfl rfl rfl ?_
            refine vb (i := 14) (v := .int .i64 y3.bay) rfl rfl rfl (yb_rf (v := .int .i64 y3.bay) rfl (by kernel_rfl) (fun W hW => hc3 W (hW.sub (fun _ h => by cases h)) 0 _ rfl) Try.underlying3 rfl) ?_
            refine vm (i := 15) (v := .pointer (some ⟨g1, 1, none⟩)) rfl rfl rfl ?_
            refine vv (i := 16) (v := .slice po os.length co) rfl rfl rfl (yb_cell (off := 1) rfl (by kernel_rfl) (.head _) Try.underlying23 rfl (by kernel_rfl)) ?_
            refine vm (i := 17) (v := .int .i64 ((m : Nat) : Int)) rfl rfl rfl ?_
            obtain ⟨y4, g4_, f4_, hy4, hp4, hc4⟩ := RL.at (RL.base HO.out) covC_len (by decide) (hW7.sub (fun _ h => by cases h)) (k := m) (by omega)
            have ey4 : om = y4 := by rw [hom] at hy4; exact Option.some.inj hy4
            subst ey4
            refine vp (i := 18) (v := .pointer (some ⟨g4_, f4_ + m * 2, none⟩)) rfl rfl rfl (run_idxQ (p := po) (cap := co) (n := os.length) (j := .i64) (k := m) (sz := 2) rfl Try.underlying23 (by kernel_rfl) (by kernel_rfl) hp4 (by kernel_rfl) (by omega)) ?_
            refine vm (i := 19) (v := .pointer (some ⟨g4_, f4_ + m * 2, none⟩)) rfl rfl rfl ?_
            refine vb (i := 20) (v := .int .i64 om.bay) rfl rfl rfl (yb_rf (v := .int .i64 om.bay) rfl (by kernel_rfl) (fun W hW => hc4 W (hW.sub (fun _ h => by cases h)) 0 _ rfl) Try.underlying3 rfl) ?_
            refine vp (i := 21) (v := .bool (decide (y3.bay = om.bay))) rfl rfl rfl (run_bin rfl (vx := (.int .i64 y3.bay)) (vy := (.int .i64 om.bay)) (by kernel_rfl) (by kernel_rfl) fun w => bi_eql rfl w) ?_
            refine vm (i := 22) (v := .bool (decide (y3.bay = om.bay))) rfl rfl rfl ?_
            refine vm (i := 23) (v := .bool (decide (y3.bay = om.bay))) rfl rfl rfl ?_
            cases hd4 : (decide (y3.bay = om.bay)) with
            | false =>
              have h4 : ¬ (y3.bay = om.bay) := of_decide_eq_false hd4
              clear hd4
              refine vn (i := 24) rfl rfl ?_
              refine vn (i := 25) rfl rfl ?_
              refine vn (i := 26) rfl rfl ?_
              refine vn (i := 27) rfl rfl ?_
              refine vn (i := 28) rfl rfl ?_
              refine vn (i := 29) rfl rfl ?_
              refine vn (i := 30) rfl rfl ?_
              refine vn (i := 31) rfl rfl ?_
              refine vn (i := 32) rfl rfl ?_
              refine vn (i := 33) rfl rfl ?_
              refine vn (i := 34) rfl rfl ?_
              refine vn (i := 35) rfl rfl ?_
              refine vn (i := 36) rfl rfl ?_
              refine vm (i := 37) (v := .bool false) rfl rfl rfl ?_
              refine wpV_done (by kernel_rfl) (fun W11 hW11 => ?_) _
              refine (show Code.wp _ _ _ _ _ from ?_)
              refine wp_cond_false rfl ?_
              refine wp_skip ?_
              refine (show Code.wp _ _ _ _ _ from ?_)
              refine wp_region_L (W0 := w) ((g1, .cells (shC (.slice pc cs.length cc) (.slice po os.length co) t).toArray 32 (0, 0)) :: Ko) (hW11) ?_
              refine lm (v := .int .i64 ((k : Nat) : Int)) rfl rfl ?_
              refine lp (v := .int .i64 (((k + 1) : Nat) : Int)) rfl rfl (run_bin rfl (vx := (.int .i64 ((k : Nat) : Int))) (vy := (.int .i64 ((1 : Nat) : Int))) (by kernel_rfl) (by kernel_rfl) fun w => bn_add (z := (k + 1)) rfl (wr_i64 (by omega)) w) ?_
              refine lm (v := .int .i64 (((k + 1) : Nat) : Int)) rfl rfl ?_
              refine wpL_done (fun W12 hW12 => ?_)
              go_roundw
              case rel =>
                repeat apply Exists.intro
                exact ⟨⟨k + 1, z, vo, Ko, (by omega), (by rw [idx_no hy3 (by unfold partOf belX; rw [show decide (om.bay = y3.bay) = decide (y3.bay = om.bay) from decide_eq_decide.2 eq_comm]; simp [*])]; exact hml), (by omega), (by rw [idx_no hy3 (by unfold partOf belX; rw [show decide (om.bay = y3.bay) = decide (y3.bay = om.bay) from decide_eq_decide.2 eq_comm]; simp [*])]; exact hO), (show Dk g1 Ko from (by (try simp only [dj_app_l, dj_app_r, dj_cons_l, dj_cons_r, dj_nil_l, dj_nil_r, dk_app, dk_cons, dk_nil, and_true, true_and, and_assoc]); repeat' (first | trivial | assumption | exact Dj.symm (by assumption) | exact Ne.symm (by assumption) | apply And.intro))), rfl, rfl, (hW12.sub (fun p hp => by first | exact hp | (simp only [List.mem_cons, List.mem_append, List.nil_append, List.not_mem_nil, or_assoc, or_false, false_or] at hp ⊢ <;> grind)))⟩, rfl⟩
              case measure => (show cs.length - (intOf (.int .i64 (((k + 1) : Nat) : Int))).toNat < cs.length - (intOf (.int .i64 ((k : Nat) : Int))).toNat); simp only [intOf]; omega
            | true =>
              have h4 : y3.bay = om.bay := of_decide_eq_true hd4
              clear hd4
              refine vm (i := 24) (v := .pointer (some ⟨g1, 1, none⟩)) rfl rfl rfl ?_
              refine vv (i := 25) (v := .slice po os.length co) rfl rfl rfl (yb_cell (off := 1) rfl (by kernel_rfl) (.head _) Try.underlying23 rfl (by kernel_rfl)) ?_
              refine vm (i := 26) (v := .int .i64 ((m : Nat) : Int)) rfl rfl rfl ?_
              refine vp (i := 27) (v := .pointer (some ⟨g4_, f4_ + m * 2, none⟩)) rfl rfl rfl (run_idxQ (p := po) (cap := co) (n := os.length) (j := .i64) (k := m) (sz := 2) rfl Try.underlying23 (by kernel_rfl) (by kernel_rfl) hp4 (by kernel_rfl) (by omega)) ?_
              refine vm (i := 28) (v := .pointer (some ⟨g4_, f4_ + m * 2 + 1, none⟩)) rfl rfl rfl ?_
              refine vb (i := 29) (v := .slice om.rp om.rows.length om.rc) rfl rfl rfl (yb_rf (v := .slice om.rp om.rows.length om.rc) rfl (by kernel_rfl) (fun W hW => hc4 W (hW.sub (fun _ h => by cases h)) 1 _ rfl) Try.underlying39 rfl) ?_
              refine vm (i := 30) (v := .pointer (some ⟨g1, 0, none⟩)) rfl rfl rfl ?_
              refine vv (i := 31) (v := .slice pc cs.length cc) rfl rfl rfl (yb_cell (off := 0) rfl (by kernel_rfl) (.head _) Try.underlying22 rfl (by kernel_rfl)) ?_
              refine vm (i := 32) (v := .int .i64 ((k : Nat) : Int)) rfl rfl rfl ?_
              refine vp (i := 33) (v := .pointer (some ⟨g3_, f3_ + k * 12, none⟩)) rfl rfl rfl (run_idxQ (p := pc) (cap := cc) (n := cs.length) (j := .i64) (k := k) (sz := 12) rfl Try.underlying22 (by kernel_rfl) (by kernel_rfl) hp3 (by kernel_rfl) (by omega)) ?_
              refine vm (i := 34) (v := .pointer (some ⟨g3_, f3_ + k * 12 + 1, none⟩)) rfl rfl rfl ?_
              refine vb (i := 35) (v := .int .i64 y3.row) rfl rfl rfl (yb_rf (v := .int .i64 y3.row) rfl (by kernel_rfl) (fun W hW => hc3 W (hW.sub (fun _ h => by cases h)) 1 _ rfl) Try.underlying3 rfl) ?_
              refine vv (i := 36) (v := .bool (hasN om.rows y3.row)) rfl rfl rfl (yb_call (f := 39) (args := #[.slice om.rp om.rows.length om.rc, .int .i64 y3.row]) (fun _ => by kernel_rfl) fun W hW => inside_any om.rows om.rp om.rc y3.row (lr om (List.mem_of_getElem? hom)) W ((RL.base (HR.out om (List.mem_of_getElem? hom))) _ (hW.sub (fun _ h => by cases h)))) ?_
              refine vm (i := 37) (v := .bool (hasN om.rows y3.row)) rfl rfl rfl ?_
              refine wpV_done (by kernel_rfl) (fun W13 hW13 => ?_) _
              refine (show Code.wp _ _ _ _ _ from ?_)
              cases h5 : (hasN om.rows y3.row) with
              | false =>
                refine wp_cond_false rfl ?_
                refine wp_skip ?_
                refine (show Code.wp _ _ _ _ _ from ?_)
                refine wp_region_L (W0 := w) ((g1, .cells (shC (.slice pc cs.length cc) (.slice po os.length co) t).toArray 32 (0, 0)) :: Ko) (hW13) ?_
                refine lm (v := .int .i64 ((k : Nat) : Int)) rfl rfl ?_
                refine lp (v := .int .i64 (((k + 1) : Nat) : Int)) rfl rfl (run_bin rfl (vx := (.int .i64 ((k : Nat) : Int))) (vy := (.int .i64 ((1 : Nat) : Int))) (by kernel_rfl) (by kernel_rfl) fun w => bn_add (z := (k + 1)) rfl (wr_i64 (by omega)) w) ?_
                refine lm (v := .int .i64 (((k + 1) : Nat) : Int)) rfl rfl ?_
                refine wpL_done (fun W14 hW14 => ?_)
                go_roundw
                case rel =>
                  repeat apply Exists.intro
                  exact ⟨⟨k + 1, z, vo, Ko, (by omega), (by rw [idx_no hy3 (by unfold partOf belX; rw [show decide (om.bay = y3.bay) = decide (y3.bay = om.bay) from decide_eq_decide.2 eq_comm]; simp [*])]; exact hml), (by omega), (by rw [idx_no hy3 (by unfold partOf belX; rw [show decide (om.bay = y3.bay) = decide (y3.bay = om.bay) from decide_eq_decide.2 eq_comm]; simp [*])]; exact hO), (show Dk g1 Ko from (by (try simp only [dj_app_l, dj_app_r, dj_cons_l, dj_cons_r, dj_nil_l, dj_nil_r, dk_app, dk_cons, dk_nil, and_true, true_and, and_assoc]); repeat' (first | trivial | assumption | exact Dj.symm (by assumption) | exact Ne.symm (by assumption) | apply And.intro))), rfl, rfl, (hW14.sub (fun p hp => by first | exact hp | (simp only [List.mem_cons, List.mem_append, List.nil_append, List.not_mem_nil, or_assoc, or_false, false_or] at hp ⊢ <;> grind)))⟩, rfl⟩
                case measure => (show cs.length - (intOf (.int .i64 (((k + 1) : Nat) : Int))).toNat < cs.length - (intOf (.int .i64 ((k : Nat) : Int))).toNat); simp only [intOf]; omega
              | true =>
                refine wp_cond_true rfl ?_
                refine wp_region_L (W0 := w) ((g1, .cells (shC (.slice pc cs.length cc) (.slice po os.length co) t).toArray 32 (0, 0)) :: Ko) (hW13) ?_
                refine lm (v := vo) rfl rfl ?_
                refine lm (v := .int .i64 ((k : Nat) : Int)) rfl rfl ?_
                refine wpL_new (fun g => .slice (some ⟨g, 0, none⟩) 1 1) (obi := .cells #[.int .i64 ((k : Nat) : Int)] 3 (0, 0)) rfl rfl (fun _ => by kernel_rfl) (fun _ => by simp only [List.setIfInBounds_toArray, List.set_cons_succ, List.set_cons_zero] <;> rfl) fun g5 Bg5 Fg5 => ?_
                obtain ⟨dj6_0, dj6_1⟩ : g1 ≠ g5 ∧ Dk g5 Ko := by simpa only [dj_app_l, dj_app_r, dj_cons_l, dj_cons_r, dj_nil_l, dj_nil_r, dk_app, dk_cons, dk_nil, and_true, true_and, and_assoc] using (show Dk g5 ((g1, .cells (shC (.slice pc cs.length cc) (.slice po os.length co) t).toArray 32 (0, 0)) :: Ko) from Fg5)
                refine wpL_g (AppO w 3 1 [(g1, .cells (shC (.slice pc cs.length cc) (.slice po os.length co) t).toArray 32 (0, 0))] (z + 1) (((idx (partOf deck om) (cs.take k)).flatMap inC) ++ [.int .i64 ((k : Nat) : Int)])) rfl rfl (app_own el_int (m := 1) (c := 1) (news := [.int .i64 ((k : Nat) : Int)]) rfl (by kernel_rfl) (by kernel_rfl) (.head _) hO (fun p hp => by simp only [List.mem_cons, List.mem_append, List.nil_append, List.not_mem_nil, or_assoc, or_false, false_or, hp, or_true, true_or]) (fun p hp => ⟨by simp only [List.mem_cons, List.mem_append, List.nil_append, List.not_mem_nil, or_assoc, or_false, false_or] at hp ⊢ <;> grind, (show Dj [(g1, .cells (shC (.slice pc cs.length cc) (.slice po os.length co) t).toArray 32 (0, 0))] Ko from (by (try simp only [dj_app_l, dj_app_r, dj_cons_l, dj_cons_r, dj_nil_l, dj_nil_r, dk_app, dk_cons, dk_nil, and_true, true_and, and_assoc]); repeat' (first | trivial | assumption | exact Dj.symm (by assumption) | exact Ne.symm (by assumption) | apply And.intro))) p hp⟩) rfl (by simp [strV, Value.oneCell']) (by omega) (by omega) (by omega)) (fun _ => by simp only [List.setIfInBounds_toArray, List.set_cons_succ, List.set_cons_zero] <;> rfl) ?_
                rintro v7 K9 ⟨Kl7, O7, N7, rfl⟩
                obtain dj8_0 : Dk g1 Kl7 := by simpa only [dj_app_l, dj_app_r, dj_cons_l, dj_cons_r, dj_nil_l, dj_nil_r, dk_app, dk_cons, dk_nil, and_true, true_and, and_assoc] using (show Dj [(g1, .cells (shC (.slice pc cs.length cc) (.slice po os.length co) t).toArray 32 (0, 0))] Kl7 from N7)
                refine lm (v := v7) rfl rfl ?_
                refine wpL_done (fun W15 hW15 => ?_)
                refine (show Code.wp _ _ _ _ _ from ?_)
                refine wp_region_L (W0 := w) ((g1, .cells (shC (.slice pc cs.length cc) (.slice po os.length co) t).toArray 32 (0, 0)) :: Kl7) (hW15) ?_
                refine lm (v := .int .i64 ((k : Nat) : Int)) rfl rfl ?_
                refine lp (v := .int .i64 (((k + 1) : Nat) : Int)) rfl rfl (run_bin rfl (vx := (.int .i64 ((k : Nat) : Int))) (vy := (.int .i64 ((1 : Nat) : Int))) (by kernel_rfl) (by kernel_rfl) fun w => bn_add (z := (k + 1)) rfl (wr_i64 (by omega)) w) ?_
                refine lm (v := .int .i64 (((k + 1) : Nat) : Int)) rfl rfl ?_
                refine wpL_done (fun W16 hW16 => ?_)
                go_roundw
                case rel =>
                  repeat apply Exists.intro
                  exact ⟨⟨k + 1, z + 1, v7, Kl7, (by omega), (by rw [idx_yes hy3 (by unfold partOf belX; rw [show decide (om.bay = y3.bay) = decide (y3.bay = om.bay) from decide_eq_decide.2 eq_comm]; simp [*]), List.length_append, hml]; rfl), (by omega), (own_snoc O7 (idx_yes hy3 (by unfold partOf belX; rw [show decide (om.bay = y3.bay) = decide (y3.bay = om.bay) from decide_eq_decide.2 eq_comm]; simp [*]))), (show Dk g1 Kl7 from (by (try simp only [dj_app_l, dj_app_r, dj_cons_l, dj_cons_r, dj_nil_l, dj_nil_r, dk_app, dk_cons, dk_nil, and_true, true_and, and_assoc]); repeat' (first | trivial | assumption | exact Dj.symm (by assumption) | exact Ne.symm (by assumption) | apply And.intro))), rfl, rfl, (hW16.sub (fun p hp => by first | exact hp | (simp only [List.mem_cons, List.mem_append, List.nil_append, List.not_mem_nil, or_assoc, or_false, false_or] at hp ⊢ <;> grind)))⟩, rfl⟩
                case measure => (show cs.length - (intOf (.int .i64 (((k + 1) : Nat) : Int))).toNat < cs.length - (intOf (.int .i64 ((k : Nat) : Int))).toNat); simp only [intOf]; omega
end Go.Proofs.Ythpooalhibedpaa
/- Records in a block that are written; ships that are not right: plain facts. -/
namespace Go.Proofs.Ythpooalhibedpaa
open Go Go.RowKit Tw
def RowR {α : Type} (cells : α → List Value) (cur : Array Value) (l : List α) : Prop := ∃ rest, cur.toList = l.flatMap cells ++ rest
section
variable {α : Type} {cells : α → List Value} {sz : Nat} {cur : Array Value} {l : List α} {k j : Nat} {c c' : α} {v : Value}
theorem RowR.get (h : RowR cells cur l) (hc : ∀ y, (cells y).length = sz) (hk : l[k]? = some c) : ∀ (j : Nat) (v : Value), (cells c)[j]? = some v → cur[0 + k * sz + j]? = some v := fun j v hv => by
  obtain ⟨rest, h⟩ := h
  have h1 := flat_get hc hk hv
  rw [← Array.getElem?_toList, h, Nat.zero_add, List.getElem?_append_left (List.getElem?_eq_some_iff.1 h1).1, h1]
theorem flat_set (hc : ∀ y, (cells y).length = sz) (hk : l[k]? = some c) (hj : j < sz) (he : cells c' = (cells c).set j v) : (l.flatMap cells).set (k * sz + j) v = (l.set k c').flatMap cells := by
  obtain ⟨hkl, hkc⟩ := List.getElem?_eq_some_iff.1 hk
  have e1 := er_split hk
  have hl : ((l.take k).flatMap cells).length = k * sz := by rw [flat_len hc, List.length_take, Nat.min_eq_left (by omega)]
  rw [show l.set k c' = l.take k ++ c' :: l.drop (k + 1) from by rw [List.set_eq_take_append_cons_drop, if_pos hkl], List.flatMap_append, List.flatMap_cons, he]
  conv => lhs; rw [e1, List.flatMap_append, List.flatMap_cons]
  rw [List.set_append_right _ _ (by rw [hl]; omega), hl, Nat.add_sub_cancel_left, List.set_append_left _ _ (by rw [hc]; exact hj)]
theorem RowR.set (h : RowR cells cur l) (hc : ∀ y, (cells y).length = sz) (hk : l[k]? = some c) (hj : j < sz) (he : cells c' = (cells c).set j v) : RowR cells (cur.setIfInBounds (0 + k * sz + j) v) (l.set k c') := by
  obtain ⟨rest, h⟩ := h
  refine ⟨rest, ?_⟩
  have hkl := (List.getElem?_eq_some_iff.1 hk).1
  have hlt : k * sz + j < (l.flatMap cells).length := by
    rw [flat_len hc]
    have : (k + 1) * sz ≤ l.length * sz := Nat.mul_le_mul_right _ hkl
    rw [Nat.succ_mul] at this; omega
  rw [Array.toList_setIfInBounds, h, Nat.zero_add, List.set_append_left _ _ hlt, flat_set hc hk hj he]
end
-- what is wrong
section
variable {cs : List Col} {os : List Cov}
theorem cols_f {c : Col} (hc : c ∈ cs) (hx : colX c = false) : colsX cs = false := by
  unfold colsX
  have : colsF [] cs = false := by
    cases h : colsF [] cs with
    | false => rfl
    | true => have := (cols_iff.1 h).1 c hc; rw [hx] at this; cases this
  rw [this]; simp
theorem cols_dup (h : ¬ (cs.map placeX).Nodup) : colsX cs = false := by
  unfold colsX
  have : colsF [] cs = false := by
    cases h2 : colsF [] cs with
    | false => rfl
    | true => exact absurd (cols_iff.1 h2).2.1 h
  rw [this]; simp
theorem right_c (h : colsX cs = false) : rightX cs os = false := by unfold rightX; rw [h]; rfl
theorem right_o (h : ovsX os = false) : rightX cs os = false := by unfold rightX; rw [h, Bool.and_false]
theorem ovs_t {os : List Cov} : ∀ {L : List I2}, ovsF L os = true → (∀ o ∈ os, ovX o = true) ∧ (keysO (os.map fun o => (o.bay, o.rows))).Nodup ∧ ∀ k ∈ keysO (os.map fun o => (o.bay, o.rows)), k ∉ L := by
  induction os with
  | nil => intro L _; exact ⟨fun _ h => (by cases h), by simp [keysO], fun _ h => (by simp [keysO] at h)⟩
  | cons o os ih =>
    intro L h
    have h : (ovX o && (freshF o.bay L o.rows && ovsF (L ++ o.rows.map (fun r => (o.bay, r))) os)) = true := h
    simp only [Bool.and_eq_true] at h
    obtain ⟨h1, h2, h3⟩ := h
    obtain ⟨f1, f2⟩ := fresh_iff.1 h2
    obtain ⟨i1, i2, i3⟩ := ih h3
    have e : keysO ((o :: os).map fun o => (o.bay, o.rows)) = (o.rows.map fun r => (o.bay, r)) ++ keysO (os.map fun o => (o.bay, o.rows)) := rfl
    rw [e]
    refine ⟨fun x hx => ?_, ?_, fun k hk => ?_⟩
    · rcases List.mem_cons.1 hx with rfl | hx
      · exact h1
      · exact i1 x hx
    · rw [List.nodup_append]
      refine ⟨?_, i2, fun a ha b hb e => ?_⟩
      · rw [List.Nodup, List.pairwise_map]
        exact f1.imp fun {a b} hn e => hn (Prod.mk.inj e).2
      · subst e
        exact i3 a hb (List.mem_append_right _ ha)
    · rcases List.mem_append.1 hk with hk | hk
      · obtain ⟨r, hr, rfl⟩ := List.mem_map.1 hk
        exact f2 r hr
      · exact fun hL => i3 k hk (List.mem_append_left _ hL)
theorem ov_bad {o : Cov} (ho : o ∈ os) (h : ovX o = false) : rightX cs os = false := right_o (by
  unfold ovsX
  have : ovsF [] os = false := by
    cases h2 : ovsF [] os with
    | false => rfl
    | true => have := (ovs_t h2).1 o ho; rw [h] at this; cases this
  rw [this, Bool.and_false])
end
end Go.Proofs.Ythpooalhibedpaa
/- Lists of numbers that are read, cut and handed on: over any program. -/
namespace Tw
open Go Go.RowKit Go.Proofs.Ythpooalhibedpaa
def nums (l : List Nat) : List Value := l.map fun n => .int .i64 ((n : Nat) : Int)
theorem nums_len (l : List Nat) : (nums l).length = l.length := by simp [nums]
theorem nums_app (l m : List Nat) : nums (l ++ m) = nums l ++ nums m := by simp [nums]
theorem nums_get {l : List Nat} {k x : Nat} (h : l[k]? = some x) : (nums l)[k]? = some (.int .i64 ((x : Nat) : Int)) := by simp [nums, h]
theorem nums_take (l : List Nat) (k : Nat) : nums (l.take k) = (nums l).take k := by simp [nums, List.map_take]
theorem nums_drop (l : List Nat) (k : Nat) : nums (l.drop k) = (nums l).drop k := by simp [nums, List.map_drop]
theorem slv_take {W : World} {p : Option Addr} {xs : List Value} (h : SLV W p xs) (k : Nat) : SLV W p (xs.take k) := by
  rcases h with rfl | ⟨b, off, rfl, hlt, hc⟩
  · exact .inl (by simp)
  · refine .inr ⟨b, off, rfl, hlt, fun i u hu => hc i u ?_⟩
    rw [List.getElem?_take] at hu
    split at hu
    · exact hu
    · cases hu
def NS (W0 : Base) (p : Option Addr) (l : List Nat) (T : List (Nat × Obj)) : Prop := ∀ W, KS W0 T W → SLV W p (nums l)
section
variable {W0 : Base} {p : Option Addr} {l : List Nat} {K T : List (Nat × Obj)}
theorem NS.mono (h : NS W0 p l T) (hs : ∀ q ∈ T, q ∈ K) : NS W0 p l K := fun W hW => h W (hW.sub hs)
theorem NS.take (h : NS W0 p l T) (k : Nat) : NS W0 p (l.take k) T := fun W hW => by rw [nums_take]; exact slv_take (h W hW) k
theorem NS.nil : NS W0 p [] T := fun _ _ => .inl rfl
theorem NS.base {W : World} (h : SLV W p (nums l)) : NS (W : Base) p l [] := fun _ hW => h.keep hW.1
theorem NS.at {W : World} {k : Nat} (h : NS W0 p l T) (hW : KS W0 T W) (hk : k < l.length) : ∃ b off, p = some ⟨b, off, none⟩ ∧ ∀ W, KS W0 T W → ∀ (i x : Nat), l[i]? = some x → W.cell? ⟨b, off + i * 1, none⟩ = some (.int .i64 ((x : Nat) : Int)) := by
  have hne : nums l ≠ [] := fun e => by have := nums_len l; rw [e] at this; simp at this; omega
  rcases h W hW with h0 | ⟨b, off, rfl, _, _⟩
  · exact absurd h0 hne
  · refine ⟨b, off, rfl, fun W2 hW2 i x hx => ?_⟩
    rcases h W2 hW2 with h0 | ⟨b', off', he, _, hc⟩
    · exact absurd h0 hne
    · cases he
      rw [Nat.mul_one]
      exact hc i _ (nums_get hx)
theorem NS.drop {W : World} {c k : Nat} (h : NS W0 p l T) (hW : KS W0 T W) (hc : l.length ≤ c) : NS W0 (if c = k then p else p.map (·.add (k * 1))) (l.drop k) T := by
  rcases Nat.lt_or_ge k l.length with h1 | h1
  · obtain ⟨b, off, rfl, h2⟩ := h.at hW h1
    rw [if_neg (by omega)]
    intro W2 hW2
    rcases h W2 hW2 with h0 | ⟨b', off', he, hlt, hc⟩
    · have := nums_len l; rw [h0] at this; simp at this; omega
    · cases he
      refine .inr ⟨b, off + k * 1, by simp [addr_add], hlt, fun i u hu => ?_⟩
      rw [nums_drop, List.getElem?_drop] at hu
      rw [Nat.mul_one, Nat.add_assoc]
      exact hc _ u hu
  · rw [List.drop_of_length_le h1]; exact NS.nil
theorem cell_same {w w2 : World} {b off : Nat} (h : w.heap[b]? = w2.heap[b]?) : w.cell? ⟨b, off, none⟩ = w2.cell? ⟨b, off, none⟩ := by
  unfold World.cell?; simp only [h]
def SLF (W w2 : World) (p : Option Addr) (xs : List Value) : Prop := xs = [] ∨ ∃ b off, p = some ⟨b, off, none⟩ ∧ W.heap.size ≤ b ∧ b < w2.heap.size ∧ Cel w2 b off xs
theorem SLF.slv {W w2 : World} {xs : List Value} (h : SLF W w2 p xs) : SLV w2 p xs := h.imp id fun ⟨b, off, h1, _, h2, h3⟩ => ⟨b, off, h1, h2, h3⟩
theorem SLF.take {W w2 : World} {xs : List Value} (h : SLF W w2 p xs) (k : Nat) : SLF W w2 p (xs.take k) := by
  rcases h with rfl | ⟨b, off, rfl, h1, h2, hc⟩
  · exact .inl (by simp)
  · refine .inr ⟨b, off, rfl, h1, h2, fun i u hu => hc i u ?_⟩
    rw [List.getElem?_take] at hu
    split at hu
    · exact hu
    · cases hu
theorem ns_new {W w2 : World} (hW : KS W0 K W) (hB : Below W.heap.size W w2) (hs : SLF W w2 p (nums l)) : ∃ T, KS W0 (K ++ T) w2 ∧ Dj K T ∧ NS W0 p l T ∧ ∀ W3, KS W0 T W3 → W0.B = W0.w.heap.size → SLF W0.w W3 p (nums l) := by
  have hK := hW.below hB
  rcases hs with h0 | ⟨b, off, rfl, hge, hlt, hc⟩
  · exact ⟨[], by rw [List.append_nil]; exact hK, fun _ _ _ h => (by cases h), fun _ _ => .inl h0, fun _ _ _ => .inl h0⟩
  · have hb : w2.heap[b]? = some (w2.heap[b]) := Array.getElem?_eq_getElem hlt
    refine ⟨[(b, w2.heap[b])], ⟨hK.1, fun q hq => ?_⟩, fun q hq r hr e => ?_, fun W3 hW3 => .inr ⟨b, off, rfl, ?_, fun i u hu => ?_⟩, fun W3 hW3 e => .inr ⟨b, off, rfl, ?_, ?_, fun i u hu => ?_⟩⟩
    · rcases List.mem_append.1 hq with h | h
      · exact hK.2 q h
      · cases List.mem_singleton.1 h; exact hb
    · cases List.mem_singleton.1 hr
      have := lt_of_block (hW.2 q hq)
      have e' : b = q.1 := e
      omega
    · have := hW3.2 _ (.head _); exact lt_of_block this
    · rw [cell_same (w2 := w2) (by rw [hW3.2 _ (.head _)]; exact hb.symm)]; exact hc i u hu
    · have := hW.size; omega
    · have := hW3.2 _ (.head _); exact lt_of_block this
    · rw [cell_same (w2 := w2) (by rw [hW3.2 _ (.head _)]; exact hb.symm)]; exact hc i u hu
end
section
variable {P : Program} {T E : TypeId} {W0 : Base}
end
def Ans (w : World) (l : List Nat) (e : Ending) (w' : World) : Prop := ∃ q d, e = .returned (.slice q l.length d) ∧ l.length ≤ d ∧ SLF w w' q (nums l) ∧ Below w.heap.size w w'
def AnsV (w : World) (l : List Nat) (e : Ending) (w' : World) : Prop := ∃ q d, e = .returned (.slice q l.length d) ∧ l.length ≤ d ∧ SLV w' q (nums l) ∧ Below w.heap.size w w'
def AnsG (W0 : Base) (K : List (Nat × Obj)) (l : List Nat) (v : Value) (K2 : List (Nat × Obj)) : Prop := ∃ q d T, v = .slice q l.length d ∧ l.length ≤ d ∧ NS W0 q l T ∧ (∀ W3, KS W0 T W3 → W0.B = W0.w.heap.size → SLF W0.w W3 q (nums l)) ∧ Dj K T ∧ K2 = K ++ T
def AnsW (W0 : Base) (K : List (Nat × Obj)) (l : List Nat) (v : Value) (K2 : List (Nat × Obj)) : Prop := ∃ q d T, v = .slice q l.length d ∧ l.length ≤ d ∧ NS W0 q l T ∧ K2 = K ++ T
def Ans2 (w : World) (l m : List Nat) (e : Ending) (w' : World) : Prop := ∃ q d q2 d2, e = .returned (.tuple #[.slice q l.length d, .slice q2 m.length d2]) ∧ l.length ≤ d ∧ m.length ≤ d2 ∧ SLV w' q (nums l) ∧ SLV w' q2 (nums m) ∧ Below w.heap.size w w'
def AnsW2 (W0 : Base) (K : List (Nat × Obj)) (l m : List Nat) (v : Value) (K2 : List (Nat × Obj)) : Prop := ∃ q d q2 d2 T, v = .tuple #[.slice q l.length d, .slice q2 m.length d2] ∧ l.length ≤ d ∧ m.length ≤ d2 ∧ NS W0 q l T ∧ NS W0 q2 m T ∧ K2 = K ++ T
section
variable {W0 : Base} {K : List (Nat × Obj)} {W w2 : World} {l m : List Nat} {e : Ending}
theorem Ans.v (h : Ans W l e w2) : AnsV W l e w2 := by
  obtain ⟨q, d, h1, h2, h3, h4⟩ := h
  exact ⟨q, d, h1, h2, h3.slv, h4⟩
theorem Ans.g (h : Ans W l e w2) (hW : KS W0 K W) : ∃ v K2, e = .returned v ∧ KS W0 K2 w2 ∧ AnsG W0 K l v K2 := by
  obtain ⟨q, d, h1, h2, h3, h4⟩ := h
  obtain ⟨T, a1, a2, a3, a4⟩ := ns_new hW h4 h3
  exact ⟨_, _, h1, a1, q, d, T, rfl, h2, a3, a4, a2, rfl⟩
theorem ns_of' {p : Option Addr} (hW : KS W0 K W) (hB : Below W.heap.size W w2) (hs : SLV w2 p (nums l)) : ∃ T, KS W0 (K ++ T) w2 ∧ NS W0 p l T := by
  have hK := hW.below hB
  rcases hs with h0 | ⟨b, off, rfl, hlt, hc⟩
  · exact ⟨[], by rw [List.append_nil]; exact hK, fun _ _ => .inl h0⟩
  · have hb : w2.heap[b]? = some (w2.heap[b]) := Array.getElem?_eq_getElem hlt
    refine ⟨[(b, w2.heap[b])], ⟨hK.1, fun q hq => ?_⟩, fun W3 hW3 => .inr ⟨b, off, rfl, ?_, fun i u hu => ?_⟩⟩
    · rcases List.mem_append.1 hq with h | h
      · exact hK.2 q h
      · cases List.mem_singleton.1 h; exact hb
    · have := hW3.2 _ (.head _); exact lt_of_block this
    · rw [cell_same (w2 := w2) (by rw [hW3.2 _ (.head _)]; exact hb.symm)]; exact hc i u hu
theorem AnsV.g (h : AnsV W l e w2) (hW : KS W0 K W) : ∃ v K2, e = .returned v ∧ KS W0 K2 w2 ∧ AnsW W0 K l v K2 := by
  obtain ⟨q, d, h1, h2, h3, h4⟩ := h
  obtain ⟨T, a1, a3⟩ := ns_of' hW h4 h3
  exact ⟨_, _, h1, a1, q, d, T, rfl, h2, a3, rfl⟩
theorem Ans2.g (h : Ans2 W l m e w2) (hW : KS W0 K W) : ∃ v K2, e = .returned v ∧ KS W0 K2 w2 ∧ AnsW2 W0 K l m v K2 := by
  obtain ⟨q, d, q2, d2, h1, h2, h3, h4, h5, h6⟩ := h
  obtain ⟨T, a1, a3⟩ := ns_of' hW h6 h4
  obtain ⟨U, b1, b3⟩ := ns_of' a1 (Below.refl _ _) h5
  refine ⟨_, _, h1, b1, q, d, q2, d2, T ++ U, rfl, h2, h3, a3.mono (fun q hq => List.mem_append_left _ hq), b3.mono (fun q hq => List.mem_append_right _ hq), by rw [List.append_assoc]⟩
theorem own_snoc {E : TypeId} {v : Value} {n d : Nat} (h : OwnL W0 E 1 v n (nums l ++ [.int .i64 ((d : Nat) : Int)]) K) : OwnL W0 E 1 v n (nums (l ++ [d])) K := by
  rw [nums_app]; exact h
end
section
variable {P : Program} {W0 : Base}
end
end Tw
/- Which columns have which cover; how often a column is met: plain facts. -/
namespace Go.Proofs.Ythpooalhibedpaa
open Go Go.RowKit Tw
section
variable {cs : List Col} {os : List Cov}
theorem keys_uni : ∀ {ov : List (Int × List Int)} {a b : Nat} {o1 o2 : Int × List Int} {r : Int}, (keysO ov).Nodup → ov[a]? = some o1 → ov[b]? = some o2 → r ∈ o1.2 → r ∈ o2.2 → o1.1 = o2.1 → a = b
  | [], _, _, _, _, _, _, h, _, _, _, _ => by simp at h
  | o :: ov, a, b, o1, o2, r, hn, h1, h2, r1, r2, e => by
    have hk : keysO (o :: ov) = (o.2.map fun r => (o.1, r)) ++ keysO ov := rfl
    rw [hk] at hn
    obtain ⟨n1, n2, n3⟩ := List.nodup_append.1 hn
    have hin : ∀ {j : Nat} {x : Int × List Int}, ov[j]? = some x → ∀ {r : Int}, r ∈ x.2 → (x.1, r) ∈ keysO ov := fun {j x} hx {r} hr => List.mem_flatMap.2 ⟨x, List.mem_of_getElem? hx, List.mem_map.2 ⟨r, hr, rfl⟩⟩
    cases a with
    | zero =>
      cases b with
      | zero => rfl
      | succ b =>
        simp at h1 h2
        subst h1
        exact absurd (by rw [e]) (n3 (o.1, r) (List.mem_map.2 ⟨r, r1, rfl⟩) (o2.1, r) (hin h2 r2))
    | succ a =>
      cases b with
      | zero =>
        simp at h1 h2
        subst h2
        exact absurd (by rw [e]) (n3 (o.1, r) (List.mem_map.2 ⟨r, r2, rfl⟩) (o1.1, r) (hin h1 r1))
      | succ b =>
        simp at h1 h2
        rw [keys_uni n2 h1 h2 r1 r2 e]
section
variable {n m k j x : Nat} {f : Nat → Nat} {sl : List Nat} {L : List Int}
end
end
end Go.Proofs.Ythpooalhibedpaa
/- Right ships, found pair by pair: plain facts. -/
namespace Go.Proofs.Ythpooalhibedpaa
open Go Go.RowKit Tw
section
variable {cs : List Col} {os : List Cov}
theorem place_inj {a b : Col} (h : placeX a = placeX b) : a.bay = b.bay ∧ a.row = b.row ∧ a.deck = b.deck := by
  unfold placeX at h
  simp only [Prod.mk.injEq] at h
  refine ⟨h.1, h.2.1, ?_⟩
  have h3 := h.2.2
  cases ha : a.deck <;> cases hb : b.deck <;> simp [ha, hb] at h3 ⊢
theorem dup_at {i k : Nat} {y z : Col} (hz : cs[k]? = some z) (hy : cs[i]? = some y) (hki : k < i) (he : placeX z = placeX y) : rightX cs os = false := right_c (cols_dup fun hn => by
  have h1 : (cs.map placeX)[k]? = some (placeX y) := by rw [List.getElem?_map, hz, ← he]; rfl
  have h2 : (cs.map placeX)[i]? = some (placeX y) := by rw [List.getElem?_map, hy]; rfl
  have hk := (List.getElem?_eq_some_iff.1 h1).1
  have := (List.getElem?_inj hk hn).1 (h1.trans h2.symm)
  omega)
def ColsT (cs : List Col) (i : Nat) : Prop := (∀ c ∈ cs.take i, colX c = true) ∧ ((cs.take i).map placeX).Nodup
theorem colsT_0 : ColsT cs 0 := ⟨fun _ h => (by cases h), by simp⟩
theorem colsT_s {i k : Nat} {y : Col} (h : ColsT cs i) (hy : cs[i]? = some y) (hx : colX y = true) (hk : ¬ k < i) (hn : ∀ j z, j < k → cs[j]? = some z → placeX z ≠ placeX y) : ColsT cs (i + 1) := by
  obtain ⟨hi, rfl⟩ := List.getElem?_eq_some_iff.1 hy
  unfold ColsT
  rw [List.take_succ_eq_append_getElem hi]
  refine ⟨fun c hc => ?_, ?_⟩
  · rcases List.mem_append.1 hc with hc | hc
    · exact h.1 c hc
    · cases List.mem_singleton.1 hc; exact hx
  · rw [List.map_append, List.nodup_append]
    refine ⟨h.2, by simp, fun x hx' z hz e => ?_⟩
    obtain ⟨c, hc, rfl⟩ := List.mem_map.1 hx'
    have hz : z = placeX cs[i] := by simpa using hz
    subst hz
    obtain ⟨j, hj⟩ := List.mem_iff_getElem?.1 hc
    rw [List.getElem?_take] at hj
    split at hj
    · rename_i hji
      exact hn j c (by omega) hj e
    · cases hj
theorem colsT_e {i : Nat} (h : ColsT cs i) (hi : ¬ i < cs.length) (hl : inR ((cs.length : Nat) : Int) 1 200 = true) : colsX cs = true := by
  unfold ColsT at h
  rw [List.take_of_length_le (by omega)] at h
  unfold inR at hl
  simp only [Bool.and_eq_true, Bool.not_eq_true', decide_eq_false_iff_not] at hl
  unfold colsX
  rw [decide_eq_false (by omega), decide_eq_false (by omega)]
  exact cols_iff.2 ⟨h.1, h.2, fun _ _ h => by cases h⟩
theorem len_bad (h : inR ((cs.length : Nat) : Int) 1 200 = false) : rightX cs os = false := right_c (by
  unfold colsX
  by_cases h1 : cs.length = 0
  · rw [decide_eq_true h1]; rfl
  · have h2 : 200 < cs.length := by
      unfold inR at h
      rw [decide_eq_false (by omega)] at h
      have : decide ((200 : Int) < ((cs.length : Nat) : Int)) = true := by simpa using h
      have := of_decide_eq_true this
      omega
    rw [decide_eq_true h2]; simp)
theorem many_bad (h : 40 < os.length) : rightX cs os = false := right_o (by unfold ovsX; rw [decide_eq_true h]; rfl)
theorem ov_dup_at {i k : Nat} {a b : Cov} {r : Int} (ha : os[k]? = some a) (hb : os[i]? = some b) (hki : k < i) (h : a.bay = b.bay) (h1 : hasN a.rows r = true) (h2 : r ∈ b.rows) : rightX cs os = false := right_o (by
  unfold ovsX
  have : ovsF [] os = false := by
    cases hf : ovsF [] os with
    | false => rfl
    | true =>
      exfalso
      have hn := (ovs_t hf).2.1
      have key : ∀ {ov : List (Int × List Int)} {a b : Nat} {o1 o2 : Int × List Int} {r : Int}, (keysO ov).Nodup → ov[a]? = some o1 → ov[b]? = some o2 → r ∈ o1.2 → r ∈ o2.2 → o1.1 = o2.1 → a = b := keys_uni
      have e := key hn (a := k) (b := i) (o1 := (a.bay, a.rows)) (o2 := (b.bay, b.rows)) (by rw [List.getElem?_map, ha]; rfl) (by rw [List.getElem?_map, hb]; rfl) (of_decide_eq_true h1) h2 h
      omega
  rw [this, Bool.and_false])
def OvsT (os : List Cov) (i : Nat) : Prop := (∀ o ∈ os.take i, ovX o = true) ∧ (keysO ((os.take i).map fun o => (o.bay, o.rows))).Nodup
theorem ovsT_0 : OvsT os 0 := ⟨fun _ h => (by cases h), by simp [keysO]⟩
def FreeR (os : List Cov) (i : Nat) (o : Cov) (l : List Int) : Prop := ∀ r ∈ l, ∀ k z, k < i → os[k]? = some z → ¬ (z.bay = o.bay ∧ hasN z.rows r = true)
theorem inc_nodup {l : List Int} : ∀ {last most : Int}, incF most last l = true → l.Nodup ∧ ∀ n ∈ l, last < n := by
  induction l with
  | nil => intro _ _ _; exact ⟨by simp, fun _ h => (by cases h)⟩
  | cons x l ih =>
    intro last most h
    have h : (decide (last < x) && (decide (x ≤ most) && incF most x l)) = true := h
    simp only [Bool.and_eq_true, decide_eq_true_eq] at h
    obtain ⟨i1, i2⟩ := ih h.2.2
    refine ⟨List.nodup_cons.2 ⟨fun hx => by have := i2 x hx; omega, i1⟩, fun n hn => ?_⟩
    rcases List.mem_cons.1 hn with rfl | hn
    · exact h.1
    · have := i2 n hn; omega
theorem ovsT_s {i : Nat} {o : Cov} (h : OvsT os i) (ho : os[i]? = some o) (hx : ovX o = true) (hf : FreeR os i o o.rows) : OvsT os (i + 1) := by
  obtain ⟨hi, rfl⟩ := List.getElem?_eq_some_iff.1 ho
  unfold OvsT
  rw [List.take_succ_eq_append_getElem hi]
  refine ⟨fun c hc => ?_, ?_⟩
  · rcases List.mem_append.1 hc with hc | hc
    · exact h.1 c hc
    · cases List.mem_singleton.1 hc; exact hx
  · have e : keysO ((os.take i ++ [os[i]]).map fun o => (o.bay, o.rows)) = keysO ((os.take i).map fun o => (o.bay, o.rows)) ++ (os[i].rows.map fun r => (os[i].bay, r)) := by
      unfold keysO
      rw [List.map_append, List.flatMap_append]
      simp
    rw [e, List.nodup_append]
    refine ⟨h.2, ?_, fun x hx' z hz he => ?_⟩
    · have hi2 : incX os[i].rows 30 = true := by
        unfold ovX at hx
        simp only [Bool.and_eq_true] at hx
        exact hx.2.2.2
      rw [List.Nodup, List.pairwise_map]
      exact (inc_nodup hi2).1.imp fun {a b} hn e => hn (Prod.mk.inj e).2
    · subst he
      obtain ⟨r, hr, hz2⟩ := List.mem_map.1 hz
      obtain ⟨p, hp, hk⟩ := List.mem_flatMap.1 hx'
      obtain ⟨c, hc, rfl⟩ := List.mem_map.1 hp
      obtain ⟨r2, hr2, he2⟩ := List.mem_map.1 hk
      obtain ⟨j, hj⟩ := List.mem_iff_getElem?.1 hc
      rw [List.getElem?_take] at hj
      split at hj
      · rename_i hji
        have e3 : (c.bay, r2) = (os[i].bay, r) := he2.trans hz2.symm
        obtain ⟨e4, e5⟩ := Prod.mk.inj e3
        have hr2 : r2 ∈ c.rows := hr2
        refine hf r hr j c hji hj ⟨e4, ?_⟩
        unfold hasN
        rw [← e5]
        exact decide_eq_true hr2
      · cases hj
theorem ovsT_e {i : Nat} (h : OvsT os i) (hi : ¬ i < os.length) (hl : ¬ 40 < os.length) : ovsX os = true := by
  unfold OvsT at h
  rw [List.take_of_length_le (by omega)] at h
  exact ovs_right rfl (fun p hp => by obtain ⟨o, ho, rfl⟩ := List.mem_map.1 hp; exact h.1 o ho) h.2 (by rw [List.length_map]; omega)
theorem right_t (h : colsX cs = true) (h2 : ovsX os = true) : rightX cs os = true := by unfold rightX; rw [h, h2]; rfl
theorem ov_bay {o : Cov} (h : inR o.bay 0 39 = false) : ovX o = false := by
  unfold ovX
  by_cases h1 : 0 ≤ o.bay
  · have h2 : ¬ o.bay ≤ 39 := by
      unfold inR at h
      rw [decide_eq_false (by omega)] at h
      have := of_decide_eq_true (show decide ((39 : Int) < o.bay) = true by simpa using h)
      omega
    rw [decide_eq_false h2]; simp
  · rw [decide_eq_false h1]; rfl
theorem ov_len {o : Cov} (h : o.rows.length = 0) : ovX o = false := by unfold ovX; rw [decide_eq_false (show ¬ 0 < o.rows.length by omega)]; simp
theorem ov_inc {o : Cov} (h : incX o.rows 30 = false) : ovX o = false := by unfold ovX; rw [h]; simp
theorem ov_ok {o : Cov} (h : inR o.bay 0 39 = true) (h2 : ¬ o.rows.length = 0) (h3 : incX o.rows 30 = true) : ovX o = true := by
  unfold inR at h
  simp only [Bool.and_eq_true, Bool.not_eq_true', decide_eq_false_iff_not] at h
  unfold ovX
  rw [decide_eq_true (show 0 ≤ o.bay by omega), decide_eq_true (show o.bay ≤ 39 by omega), decide_eq_true (show 0 < o.rows.length by omega), h3]; rfl
theorem inR_t {n a b : Int} (h : inR n a b = true) : a ≤ n ∧ n ≤ b := by
  unfold inR at h
  simp only [Bool.and_eq_true, Bool.not_eq_true', decide_eq_false_iff_not] at h
  omega
theorem inR_f {n a b : Int} (h : inR n a b = false) : n < a ∨ b < n := by
  unfold inR at h
  by_cases h1 : n < a
  · exact .inl h1
  · rw [decide_eq_false h1] at h
    exact .inr (of_decide_eq_true (show decide (b < n) = true by simpa using h))
theorem free_s {i j k : Nat} {o : Cov} {r : Int} (h : FreeR os i o (o.rows.take j)) (hr : o.rows[j]? = some r) (hk : ¬ k < i) (hn : ∀ q z, q < k → os[q]? = some z → ¬ (z.bay = o.bay ∧ hasN z.rows r = true)) : FreeR os i o (o.rows.take (j + 1)) := by
  obtain ⟨hj, rfl⟩ := List.getElem?_eq_some_iff.1 hr
  rw [List.take_succ_eq_append_getElem hj]
  intro x hx q z hq hz
  rcases List.mem_append.1 hx with hx | hx
  · exact h x hx q z hq hz
  · cases List.mem_singleton.1 hx
    exact hn q z (by omega) hz
theorem free_e {i j : Nat} {o : Cov} (h : FreeR os i o (o.rows.take j)) (hj : ¬ j < o.rows.length) : FreeR os i o o.rows := by rwa [List.take_of_length_le (by omega)] at h
theorem ne_s {P : Cov → Prop} {k : Nat} {z : Cov} (h : ∀ q z, q < k → os[q]? = some z → ¬ P z) (hz : os[k]? = some z) (hn : ¬ P z) : ∀ q z, q < k + 1 → os[q]? = some z → ¬ P z := fun q x hq hx => by
  rcases Nat.lt_or_eq_of_le (Nat.le_of_lt_succ hq) with h1 | rfl
  · exact h q x h1 hx
  · rw [hz] at hx; cases hx; exact hn
theorem ne_c {y : Col} {k : Nat} {z : Col} (h : ∀ q z, q < k → cs[q]? = some z → placeX z ≠ placeX y) (hz : cs[k]? = some z) (hn : placeX z ≠ placeX y) : ∀ q z, q < k + 1 → cs[q]? = some z → placeX z ≠ placeX y := fun q x hq hx => by
  rcases Nat.lt_or_eq_of_le (Nat.le_of_lt_succ hq) with h1 | rfl
  · exact h q x h1 hx
  · rw [hz] at hx; cases hx; exact hn
end
end Go.Proofs.Ythpooalhibedpaa
namespace Go.Proofs.Ythpooalhibedpaa
open Go Go.RowKit Tw
set_option maxRecDepth 100000 in
set_option maxHeartbeats 4000000 in
theorem RRight_any (cs : List Col) (pc : Option Addr) (cc : Nat) (lc : cs.length ≤ 4000000000) (os : List Cov) (po : Option Addr) (co : Nat) (lo : os.length ≤ 4000000000) (t : Tl) (w : World) (hc : SLV w pc (cs.flatMap colC)) (ho : SLV w po (os.flatMap covC)) (hr : RwR w os) (lr : ∀ o ∈ os, o.rows.length ≤ 4000000000) (hq : PlR w cs) (lq : ∀ c ∈ cs, c.plugs.length ≤ 4000000000) : Calls Try.prog 11 #[.agg (shC (.slice pc cs.length cc) (.slice po os.length co) t).toArray] w fun e w' => e = .returned (.bool (rightX cs os)) ∧ Below w.heap.size w w' := by
  have HC := Lib.hid hc
  clear hc
  have HO := Lib.hid ho
  clear ho
  have HR := Lib.hid hr
  clear hr
  have HQ := Lib.hid hq
  clear hq
  go_enter Try.func11, Try.ntmps11
  refine wp_seq ?_
  refine wp_region_L (W0 := w) [] (KS.start w) ?_
  refine wpL_new (fun g => .pointer (some ⟨g, 0, none⟩)) (obi := .cells (shC (.slice pc cs.length cc) (.slice po os.length co) t).toArray 32 (0, 0)) rfl rfl (fun _ => by kernel_rfl) (fun _ => by simp only [List.setIfInBounds_toArray, List.set_cons_succ, List.set_cons_zero] <;> rfl) fun g1 Bg1 Fg1 => ?_
  refine lm (v := .bool false) rfl rfl ?_
  refine wpL_done (fun W1 hW1 => ?_)
  refine (show Code.wp _ _ _ _ _ from ?_)
  refine wp_seq ?_
  refine wp_seq ?_
  refine wp_region_L (W0 := w) [(g1, .cells (shC (.slice pc cs.length cc) (.slice po os.length co) t).toArray 32 (0, 0))] (hW1) ?_
  refine lm (v := .pointer (some ⟨g1, 0, none⟩)) rfl rfl ?_
  refine lv (v := .slice pc cs.length cc) rfl rfl (yb_cell (off := 0) rfl (by kernel_rfl) (.head _) Try.underlying22 rfl (by kernel_rfl)) ?_
  refine lp (v := .int .i64 ((cs.length : Nat) : Int)) rfl rfl (run_lenL (p := pc) (cap := cc) (n := cs.length) rfl Try.underlying22 (by kernel_rfl)) ?_
  refine lv (v := .bool (inR ((cs.length : Nat) : Int) 1 200)) rfl rfl (yb_call (f := 37) (args := #[.int .i64 ((cs.length : Nat) : Int), .int .i64 1, .int .i64 200]) (fun _ => by kernel_rfl) fun W hW => within_any ((cs.length : Nat) : Int) 1 200 W) ?_
  refine lp (v := .bool (!(inR ((cs.length : Nat) : Int) 1 200))) rfl rfl (run_un rfl (by kernel_rfl) fun w => un_not w) ?_
  refine lm (v := .bool (!(inR ((cs.length : Nat) : Int) 1 200))) rfl rfl ?_
  cases h1 : (inR ((cs.length : Nat) : Int) 1 200) with
  | false =>
    refine ln rfl ?_
    refine ln rfl ?_
    refine ln rfl ?_
    refine ln rfl ?_
    refine lm (v := .bool true) rfl rfl ?_
    refine wpL_done (fun W2 hW2 => ?_)
    refine (show Code.wp _ _ _ _ _ from ?_)
    refine wp_cond_true rfl ?_
    refine wp_seq ?_
    refine wp_region_L (W0 := w) [(g1, .cells (shC (.slice pc cs.length cc) (.slice po os.length co) t).toArray 32 (0, 0))] (hW2) ?_
    refine lm (v := .bool false) rfl rfl ?_
    refine wpL_done (fun W3 hW3 => ?_)
    refine (show Code.wp _ _ _ _ _ from ?_)
    refine wp_ret ?_
    try simp only [inBlock_ret, then_ret]
    refine bodyPost_ret (v := .bool false) ?_ rfl ?_
    · kernel_rfl
    · exact ⟨(bool_is (len_bad h1).symm), hW3.1⟩
  | true =>
    refine lm (v := .pointer (some ⟨g1, 1, none⟩)) rfl rfl ?_
    refine lv (v := .slice po os.length co) rfl rfl (yb_cell (off := 1) rfl (by kernel_rfl) (.head _) Try.underlying23 rfl (by kernel_rfl)) ?_
    refine lp (v := .int .i64 ((os.length : Nat) : Int)) rfl rfl (run_lenL (p := po) (cap := co) (n := os.length) rfl Try.underlying23 (by kernel_rfl)) ?_
    refine lp (v := .bool (decide (40 < os.length))) rfl rfl (run_bin rfl (vx := (.int .i64 ((os.length : Nat) : Int))) (vy := (.int .i64 ((40 : Nat) : Int))) (by kernel_rfl) (by kernel_rfl) fun w => bn_gtr rfl w) ?_
    refine lm (v := .bool (decide (40 < os.length))) rfl rfl ?_
    refine wpL_done (fun W4 hW4 => ?_)
    refine (show Code.wp _ _ _ _ _ from ?_)
    cases hd2 : (decide (40 < os.length)) with
    | false =>
      have h2 : ¬ (40 < os.length) := of_decide_eq_false hd2
      clear hd2
      refine wp_cond_false rfl ?_
      refine wp_skip ?_
      refine (show Code.wp _ _ _ _ _ from ?_)
      refine wp_seq ?_
      refine wp_seq ?_
      refine wp_region_L (W0 := w) [(g1, .cells (shC (.slice pc cs.length cc) (.slice po os.length co) t).toArray 32 (0, 0))] (hW4) ?_
      refine lm (v := .int .i64 0) rfl rfl ?_
      refine wpL_done (fun W5 hW5 => ?_)
      refine (show Code.wp _ _ _ _ _ from ?_)
      refine wp_block ?_
      go_loopw [3] (fun u3 wr => ∃ (i : Nat), (i ≤ cs.length) ∧ (ColsT cs i) ∧ u3 = .int .i64 ((i : Nat) : Int) ∧ KS w [(g1, .cells (shC (.slice pc cs.length cc) (.slice po os.length co) t).toArray 32 (0, 0))] wr) (fun u3 _ => cs.length - (intOf u3).toNat)
      case atStart => exact ⟨0, (Nat.zero_le _), colsT_0, rfl, (hW5.sub (fun p hp => by first | exact hp | (simp only [List.mem_cons, List.mem_append, List.nil_append, List.not_mem_nil, or_assoc, or_false, false_or] at hp ⊢ <;> grind)))⟩
      case round =>
        obtain ⟨i, hi, hG, rfl, hL6⟩ := hrel
        refine wp_seq ?_
        refine wp_seq ?_
        refine wp_region_L (W0 := w) [(g1, .cells (shC (.slice pc cs.length cc) (.slice po os.length co) t).toArray 32 (0, 0))] (hL6) ?_
        refine lm (v := .int .i64 ((i : Nat) : Int)) rfl rfl ?_
        refine lm (v := .pointer (some ⟨g1, 0, none⟩)) rfl rfl ?_
        refine lv (v := .slice pc cs.length cc) rfl rfl (yb_cell (off := 0) rfl (by kernel_rfl) (.head _) Try.underlying22 rfl (by kernel_rfl)) ?_
        refine lp (v := .int .i64 ((cs.length : Nat) : Int)) rfl rfl (run_lenL (p := pc) (cap := cc) (n := cs.length) rfl Try.underlying22 (by kernel_rfl)) ?_
        refine lp (v := .bool (decide (i < cs.length))) rfl rfl (run_bin rfl (vx := (.int .i64 ((i : Nat) : Int))) (vy := (.int .i64 ((cs.length : Nat) : Int))) (by kernel_rfl) (by kernel_rfl) fun w => bn_lss rfl w) ?_
        refine wpL_done (fun W7 hW7 => ?_)
        refine (show Code.wp _ _ _ _ _ from ?_)
        cases hd3 : (decide (i < cs.length)) with
        | false =>
          have h3 : ¬ (i < cs.length) := of_decide_eq_false hd3
          clear hd3
          refine wp_cond_false rfl ?_
          refine wp_exit ?_
          refine (show Code.wp _ _ _ _ _ from ?_)
          refine wp_seq ?_
          refine wp_seq ?_
          refine wp_region_L (W0 := w) [(g1, .cells (shC (.slice pc cs.length cc) (.slice po os.length co) t).toArray 32 (0, 0))] (hW7) ?_
          refine lm (v := .int .i64 0) rfl rfl ?_
          refine wpL_done (fun W8 hW8 => ?_)
          refine (show Code.wp _ _ _ _ _ from ?_)
          refine wp_block ?_
          have hcX := colsT_e hG h3 h1
          go_loopw [5] (fun u5 wr => ∃ (i2 : Nat), (i2 ≤ os.length) ∧ (OvsT os i2) ∧ u5 = .int .i64 ((i2 : Nat) : Int) ∧ KS w [(g1, .cells (shC (.slice pc cs.length cc) (.slice po os.length co) t).toArray 32 (0, 0))] wr) (fun u5 _ => os.length - (intOf u5).toNat)
          case atStart => exact ⟨0, (Nat.zero_le _), ovsT_0, rfl, (hW8.sub (fun p hp => by first | exact hp | (simp only [List.mem_cons, List.mem_append, List.nil_append, List.not_mem_nil, or_assoc, or_false, false_or] at hp ⊢ <;> grind)))⟩
          case round =>
            obtain ⟨i2, hi2, hH, rfl, hL9⟩ := hrel
            refine wp_seq ?_
            refine wp_seq ?_
            refine wp_region_L (W0 := w) [(g1, .cells (shC (.slice pc cs.length cc) (.slice po os.length co) t).toArray 32 (0, 0))] (hL9) ?_
            refine lm (v := .int .i64 ((i2 : Nat) : Int)) rfl rfl ?_
            refine lm (v := .pointer (some ⟨g1, 1, none⟩)) rfl rfl ?_
            refine lv (v := .slice po os.length co) rfl rfl (yb_cell (off := 1) rfl (by kernel_rfl) (.head _) Try.underlying23 rfl (by kernel_rfl)) ?_
            refine lp (v := .int .i64 ((os.length : Nat) : Int)) rfl rfl (run_lenL (p := po) (cap := co) (n := os.length) rfl Try.underlying23 (by kernel_rfl)) ?_
            refine lp (v := .bool (decide (i2 < os.length))) rfl rfl (run_bin rfl (vx := (.int .i64 ((i2 : Nat) : Int))) (vy := (.int .i64 ((os.length : Nat) : Int))) (by kernel_rfl) (by kernel_rfl) fun w => bn_lss rfl w) ?_
            refine wpL_done (fun W10 hW10 => ?_)
            refine (show Code.wp _ _ _ _ _ from ?_)
            cases hd4 : (decide (i2 < os.length)) with
            | false =>
              have h4 : ¬ (i2 < os.length) := of_decide_eq_false hd4
              clear hd4
              refine wp_cond_false rfl ?_
              refine wp_exit ?_
              refine (show Code.wp _ _ _ _ _ from ?_)
              refine wp_seq ?_
              refine wp_region_L (W0 := w) [(g1, .cells (shC (.slice pc cs.length cc) (.slice po os.length co) t).toArray 32 (0, 0))] (hW10) ?_
              refine lm (v := .bool true) rfl rfl ?_
              refine wpL_done (fun W11 hW11 => ?_)
              refine (show Code.wp _ _ _ _ _ from ?_)
              refine wp_ret ?_
              try simp only [inBlock_ret, then_ret]
              refine bodyPost_ret (v := .bool true) ?_ rfl ?_
              · kernel_rfl
              · exact ⟨(bool_is (right_t hcX (ovsT_e hH h4 h2)).symm), hW11.1⟩
            | true =>
              have h4 : i2 < os.length := of_decide_eq_true hd4
              clear hd4
              refine wp_cond_true rfl ?_
              refine wp_skip ?_
              refine (show Code.wp _ _ _ _ _ from ?_)
              refine wp_seq ?_
              refine wp_block ?_
              refine wp_seq ?_
              refine wp_region_L (W0 := w) [(g1, .cells (shC (.slice pc cs.length cc) (.slice po os.length co) t).toArray 32 (0, 0))] (hW10) ?_
              refine lm (v := .pointer (some ⟨g1, 1, none⟩)) rfl rfl ?_
              refine lv (v := .slice po os.length co) rfl rfl (yb_cell (off := 1) rfl (by kernel_rfl) (.head _) Try.underlying23 rfl (by kernel_rfl)) ?_
              refine lm (v := .int .i64 ((i2 : Nat) : Int)) rfl rfl ?_
              obtain ⟨y2, g2_, f2_, hy2, hp2, hc2⟩ := RL.at (RL.base HO.out) covC_len (by decide) (hW10.sub (fun _ h => by cases h)) (k := i2) (by omega)
              refine lp (v := .pointer (some ⟨g2_, f2_ + i2 * 2, none⟩)) rfl rfl (run_idxQ (p := po) (cap := co) (n := os.length) (j := .i64) (k := i2) (sz := 2) rfl Try.underlying23 (by kernel_rfl) (by kernel_rfl) hp2 (by kernel_rfl) (by omega)) ?_
              refine lv (v := .agg (covC y2).toArray) rfl rfl (yb_rs (off := f2_ + i2 * 2) (cs := covC y2) rfl (by kernel_rfl) (fun W hW => hc2 W (hW.sub (fun _ h => by cases h))) Try.underlying51 rfl (by kernel_rfl)) ?_
              refine wpL_new (fun g => .pointer (some ⟨g, 0, none⟩)) (obi := .cells #[.int .i64 0, .slice none 0 0] 51 (0, 0)) rfl rfl (fun _ => by kernel_rfl) (fun _ => by simp only [List.setIfInBounds_toArray, List.set_cons_succ, List.set_cons_zero] <;> rfl) fun g3 Bg3 Fg3 => ?_
              obtain dj4_0 : g1 ≠ g3 := by simpa only [dj_app_l, dj_app_r, dj_cons_l, dj_cons_r, dj_nil_l, dj_nil_r, dk_app, dk_cons, dk_nil, and_true, true_and, and_assoc] using (show Dk g3 [(g1, .cells (shC (.slice pc cs.length cc) (.slice po os.length co) t).toArray 32 (0, 0))] from Fg3)
              refine wpL_s [(g3, .cells (covC y2).toArray 51 (0, 0)), (g1, .cells (shC (.slice pc cs.length cc) (.slice po os.length co) t).toArray 32 (0, 0))] rfl rfl (st_row (off := 0) (v := .agg (covC y2).toArray) rfl (by kernel_rfl) (by kernel_rfl) (.head _) Bg3 (by kernel_rfl) (by first | (simp [Value.cells]; done) | exact Nat.le_of_ble_eq_true rfl) (fun v hv => covC_one y2 v hv) (by kernel_rfl) (List.forall_mem_cons.2 ⟨.inl rfl, (List.forall_mem_cons.2 ⟨.inr ⟨(.tail _ (.head _)), (by first | assumption | exact Ne.symm (by assumption))⟩, (List.forall_mem_nil _)⟩)⟩)) ?_
              refine wpL_done (fun W12 hW12 => ?_)
              refine (show Code.wp _ _ _ _ _ from ?_)
              refine wp_seq ?_
              refine wp_seq ?_
              refine wp_region_L (W0 := w) [(g3, .cells (covC y2).toArray 51 (0, 0)), (g1, .cells (shC (.slice pc cs.length cc) (.slice po os.length co) t).toArray 32 (0, 0))] (hW12) ?_
              refine lm (v := .pointer (some ⟨g3, 0, none⟩)) rfl rfl ?_
              refine lv (v := .int .i64 y2.bay) rfl rfl (yb_cell (off := 0) rfl (by kernel_rfl) (.head _) Try.underlying3 rfl (by kernel_rfl)) ?_
              refine lv (v := .bool (inR y2.bay 0 39)) rfl rfl (yb_call (f := 37) (args := #[.int .i64 y2.bay, .int .i64 0, .int .i64 39]) (fun _ => by kernel_rfl) fun W hW => within_any y2.bay 0 39 W) ?_
              refine lp (v := .bool (!(inR y2.bay 0 39))) rfl rfl (run_un rfl (by kernel_rfl) fun w => un_not w) ?_
              refine lm (v := .bool (!(inR y2.bay 0 39))) rfl rfl ?_
              cases h5 : (inR y2.bay 0 39) with
              | false =>
                refine ln rfl ?_
                refine ln rfl ?_
                refine ln rfl ?_
                refine ln rfl ?_
                refine lm (v := .bool true) rfl rfl ?_
                refine wpL_done (fun W13 hW13 => ?_)
                refine (show Code.wp _ _ _ _ _ from ?_)
                refine wp_cond_true rfl ?_
                refine wp_seq ?_
                refine wp_region_L (W0 := w) [(g3, .cells (covC y2).toArray 51 (0, 0)), (g1, .cells (shC (.slice pc cs.length cc) (.slice po os.length co) t).toArray 32 (0, 0))] (hW13) ?_
                refine lm (v := .bool false) rfl rfl ?_
                refine wpL_done (fun W14 hW14 => ?_)
                refine (show Code.wp _ _ _ _ _ from ?_)
                refine wp_ret ?_
                try simp only [inBlock_ret, then_ret]
                refine bodyPost_ret (v := .bool false) ?_ rfl ?_
                · kernel_rfl
                · exact ⟨(bool_is (ov_bad (List.mem_of_getElem? hy2) (ov_bay h5)).symm), hW14.1⟩
              | true =>
                refine lm (v := .pointer (some ⟨g3, 1, none⟩)) rfl rfl ?_
                refine lv (v := .slice y2.rp y2.rows.length y2.rc) rfl rfl (yb_cell (off := 1) rfl (by kernel_rfl) (.head _) Try.underlying39 rfl (by kernel_rfl)) ?_
                refine lp (v := .int .i64 ((y2.rows.length : Nat) : Int)) rfl rfl (run_lenL (p := y2.rp) (cap := y2.rc) (n := y2.rows.length) rfl Try.underlying39 (by kernel_rfl)) ?_
                refine lp (v := .bool (decide (y2.rows.length = 0))) rfl rfl (run_bin rfl (vx := (.int .i64 ((y2.rows.length : Nat) : Int))) (vy := (.int .i64 ((0 : Nat) : Int))) (by kernel_rfl) (by kernel_rfl) fun w => bn_eql rfl w) ?_
                refine lm (v := .bool (decide (y2.rows.length = 0))) rfl rfl ?_
                refine wpL_done (fun W15 hW15 => ?_)
                refine (show Code.wp _ _ _ _ _ from ?_)
                cases hd6 : (decide (y2.rows.length = 0)) with
                | false =>
                  have h6 : ¬ (y2.rows.length = 0) := of_decide_eq_false hd6
                  clear hd6
                  refine wp_cond_false rfl ?_
                  refine wp_skip ?_
                  refine (show Code.wp _ _ _ _ _ from ?_)
                  refine wp_seq ?_
                  refine wp_region_L (W0 := w) [(g3, .cells (covC y2).toArray 51 (0, 0)), (g1, .cells (shC (.slice pc cs.length cc) (.slice po os.length co) t).toArray 32 (0, 0))] (hW15) ?_
                  refine lm (v := .int .i64 0) rfl rfl ?_
                  refine wpL_done (fun W16 hW16 => ?_)
                  refine (show Code.wp _ _ _ _ _ from ?_)
                  refine wp_block ?_
                  have lz2 := lr y2 (List.mem_of_getElem? hy2)
                  go_loopw [7] (fun u7 wr => ∃ (j : Nat) (z : Int), (j ≤ y2.rows.length) ∧ (incX y2.rows 30 = incF 30 z (y2.rows.drop j)) ∧ ((j = 0 ∧ z = -1) ∨ (0 < j ∧ 0 ≤ z ∧ y2.rows[j - 1]? = some z)) ∧ (FreeR os i2 y2 (y2.rows.take j)) ∧ u7 = .int .i64 ((j : Nat) : Int) ∧ KS w [(g3, .cells (covC y2).toArray 51 (0, 0)), (g1, .cells (shC (.slice pc cs.length cc) (.slice po os.length co) t).toArray 32 (0, 0))] wr) (fun u7 _ => y2.rows.length - (intOf u7).toNat)
                  case atStart => exact ⟨0, (-1), (Nat.zero_le _), rfl, (.inl ⟨rfl, rfl⟩), (fun r h => by cases h), rfl, (hW16.sub (fun p hp => by first | exact hp | (simp only [List.mem_cons, List.mem_append, List.nil_append, List.not_mem_nil, or_assoc, or_false, false_or] at hp ⊢ <;> grind)))⟩
                  case round =>
                    obtain ⟨j, z, hj, hI, hz, hFR, rfl, hL17⟩ := hrel
                    refine wp_seq ?_
                    refine wp_seq ?_
                    refine wp_region_L (W0 := w) [(g3, .cells (covC y2).toArray 51 (0, 0)), (g1, .cells (shC (.slice pc cs.length cc) (.slice po os.length co) t).toArray 32 (0, 0))] (hL17) ?_
                    refine lm (v := .int .i64 ((j : Nat) : Int)) rfl rfl ?_
                    refine lm (v := .pointer (some ⟨g3, 1, none⟩)) rfl rfl ?_
                    refine lv (v := .slice y2.rp y2.rows.length y2.rc) rfl rfl (yb_cell (off := 1) rfl (by kernel_rfl) (.head _) Try.underlying39 rfl (by kernel_rfl)) ?_
                    refine lp (v := .int .i64 ((y2.rows.length : Nat) : Int)) rfl rfl (run_lenL (p := y2.rp) (cap := y2.rc) (n := y2.rows.length) rfl Try.underlying39 (by kernel_rfl)) ?_
                    refine lp (v := .bool (decide (j < y2.rows.length))) rfl rfl (run_bin rfl (vx := (.int .i64 ((j : Nat) : Int))) (vy := (.int .i64 ((y2.rows.length : Nat) : Int))) (by kernel_rfl) (by kernel_rfl) fun w => bn_lss rfl w) ?_
                    refine wpL_done (fun W18 hW18 => ?_)
                    refine (show Code.wp _ _ _ _ _ from ?_)
                    cases hd7 : (decide (j < y2.rows.length)) with
                    | false =>
                      have h7 : ¬ (j < y2.rows.length) := of_decide_eq_false hd7
                      clear hd7
                      refine wp_cond_false rfl ?_
                      refine wp_exit ?_
                      refine (show Code.wp _ _ _ _ _ from ?_)
                      refine wp_region_L (W0 := w) [(g3, .cells (covC y2).toArray 51 (0, 0)), (g1, .cells (shC (.slice pc cs.length cc) (.slice po os.length co) t).toArray 32 (0, 0))] (hW18) ?_
                      refine lm (v := .int .i64 ((i2 : Nat) : Int)) rfl rfl ?_
                      refine lp (v := .int .i64 (((i2 + 1) : Nat) : Int)) rfl rfl (run_bin rfl (vx := (.int .i64 ((i2 : Nat) : Int))) (vy := (.int .i64 ((1 : Nat) : Int))) (by kernel_rfl) (by kernel_rfl) fun w => bn_add (z := (i2 + 1)) rfl (wr_i64 (by omega)) w) ?_
                      refine lm (v := .int .i64 (((i2 + 1) : Nat) : Int)) rfl rfl ?_
                      refine wpL_done (fun W19 hW19 => ?_)
                      go_roundw
                      case rel =>
                        repeat apply Exists.intro
                        exact ⟨⟨i2 + 1, (by omega), (ovsT_s hH hy2 (ov_ok h5 h6 (by rw [hI, inc_end h7])) (free_e hFR h7)), rfl, (hW19.sub (fun p hp => by first | exact hp | (simp only [List.mem_cons, List.mem_append, List.nil_append, List.not_mem_nil, or_assoc, or_false, false_or] at hp ⊢ <;> grind)))⟩, rfl⟩
                      case measure => (show os.length - (intOf (.int .i64 (((i2 + 1) : Nat) : Int))).toNat < os.length - (intOf (.int .i64 ((i2 : Nat) : Int))).toNat); simp only [intOf]; omega
                    | true =>
                      have h7 : j < y2.rows.length := of_decide_eq_true hd7
                      clear hd7
                      refine wp_cond_true rfl ?_
                      refine wp_skip ?_
                      refine (show Code.wp _ _ _ _ _ from ?_)
                      refine wp_seq ?_
                      refine wp_block ?_
                      refine wp_seq ?_
                      refine wp_seq ?_
                      refine wp_region_V (W0 := w) [(g3, .cells (covC y2).toArray 51 (0, 0)), (g1, .cells (shC (.slice pc cs.length cc) (.slice po os.length co) t).toArray 32 (0, 0))] (by kernel_rfl) (hW18) ?_
                      refine vm (i := 0) (v := .pointer (some ⟨g3, 1, none⟩)) rfl rfl rfl ?_
                      refine vv (i := 1) (v := .slice y2.rp y2.rows.length y2.rc) rfl rfl rfl (yb_cell (off := 1) rfl (by kernel_rfl) (.head _) Try.underlying39 rfl (by kernel_rfl)) ?_
                      refine vm (i := 2) (v := .int .i64 ((j : Nat) : Int)) rfl rfl rfl ?_
                      obtain ⟨y5, g5_, f5_, hy5, hp5, hc5⟩ := RL.at (RL.base (HR.out y2 (List.mem_of_getElem? hy2))) inC_len (by decide) (hW18.sub (fun _ h => by cases h)) (k := j) (by omega)
                      refine vp (i := 3) (v := .pointer (some ⟨g5_, f5_ + j * 1, none⟩)) rfl rfl rfl (run_idxQ (p := y2.rp) (cap := y2.rc) (n := y2.rows.length) (j := .i64) (k := j) (sz := 1) rfl Try.underlying39 (by kernel_rfl) (by kernel_rfl) hp5 (by kernel_rfl) (by omega)) ?_
                      refine vb (i := 4) (v := .int .i64 y5) rfl rfl rfl (yb_rf (v := .int .i64 y5) rfl (by kernel_rfl) (fun W hW => hc5 W (hW.sub (fun _ h => by cases h)) 0 _ rfl) Try.underlying3 rfl) ?_
                      refine vv (i := 5) (v := .bool (inR y5 0 30)) rfl rfl rfl (yb_call (f := 37) (args := #[.int .i64 y5, .int .i64 0, .int .i64 30]) (fun _ => by kernel_rfl) fun W hW => within_any y5 0 30 W) ?_
                      refine vp (i := 6) (v := .bool (!(inR y5 0 30))) rfl rfl rfl (run_un rfl (by kernel_rfl) fun w => un_not w) ?_
                      refine vm (i := 7) (v := .bool (!(inR y5 0 30))) rfl rfl rfl ?_
                      cases h8 : (inR y5 0 30) with
                      | false =>
                        refine vn (i := 8) rfl rfl ?_
                        refine vn (i := 9) rfl rfl ?_
                        refine vn (i := 10) rfl rfl ?_
                        refine vn (i := 11) rfl rfl ?_
                        refine vn (i := 12) rfl rfl ?_
                        refine vn (i := 13) rfl rfl ?_
                        refine vn (i := 14) rfl rfl ?_
                        refine vn (i := 15) rfl rfl ?_
                        refine vn (i := 16) rfl rfl ?_
                        refine vn (i := 17) rfl rfl ?_
                        refine vn (i := 18) rfl rfl ?_
                        refine vn (i := 19) rfl rfl ?_
                        refine vn (i := 20) rfl rfl ?_
                        refine vn (i := 21) rfl rfl ?_
                        refine vn (i := 22) rfl rfl ?_
                        refine vn (i := 23) rfl rfl ?_
                        refine vm (i := 24) (v := .bool true) rfl rfl rfl ?_
                        refine wpV_done (by kernel_rfl) (fun W20 hW20 => ?_) _
                        refine (show Code.wp _ _ _ _ _ from ?_)
                        refine wp_cond_true rfl ?_
                        refine wp_seq ?_
                        refine wp_region_L (W0 := w) [(g3, .cells (covC y2).toArray 51 (0, 0)), (g1, .cells (shC (.slice pc cs.length cc) (.slice po os.length co) t).toArray 32 (0, 0))] (hW20) ?_
                        refine lm (v := .bool false) rfl rfl ?_
                        refine wpL_done (fun W21 hW21 => ?_)
                        refine (show Code.wp _ _ _ _ _ from ?_)
                        refine wp_ret ?_
                        try simp only [inBlock_ret, then_ret]
                        refine bodyPost_ret (v := .bool false) ?_ rfl ?_
                        · kernel_rfl
                        · exact ⟨(bool_is (ov_bad (List.mem_of_getElem? hy2) (ov_inc (by have g1 := inR_f h8; rw [hI, inc_step hy5]; by_cases g2 : z < y5 <;> by_cases g3 : y5 ≤ 30 <;> simp [g2, g3] <;> omega))).symm), hW21.1⟩
                      | true =>
                        refine vm (i := 8) (v := .int .i64 ((j : Nat) : Int)) rfl rfl rfl ?_
                        refine vp (i := 9) (v := .bool (decide (0 < j))) rfl rfl rfl (run_bin rfl (vx := (.int .i64 ((j : Nat) : Int))) (vy := (.int .i64 ((0 : Nat) : Int))) (by kernel_rfl) (by kernel_rfl) fun w => bn_gtr rfl w) ?_
                        refine vm (i := 10) (v := .bool (decide (0 < j))) rfl rfl rfl ?_
                        cases hd9 : (decide (0 < j)) with
                        | false =>
                          have h9 : ¬ (0 < j) := of_decide_eq_false hd9
                          clear hd9
                          refine vn (i := 11) rfl rfl ?_
                          refine vn (i := 12) rfl rfl ?_
                          refine vn (i := 13) rfl rfl ?_
                          refine vn (i := 14) rfl rfl ?_
                          refine vn (i := 15) rfl rfl ?_
                          refine vn (i := 16) rfl rfl ?_
                          refine vn (i := 17) rfl rfl ?_
                          refine vn (i := 18) rfl rfl ?_
                          refine vn (i := 19) rfl rfl ?_
                          refine vn (i := 20) rfl rfl ?_
                          refine vn (i := 21) rfl rfl ?_
                          refine vn (i := 22) rfl rfl ?_
                          refine vm (i := 23) (v := .bool false) rfl rfl rfl ?_
                          refine vm (i := 24) (v := .bool false) rfl rfl rfl ?_
                          refine wpV_done (by kernel_rfl) (fun W22 hW22 => ?_) _
                          refine (show Code.wp _ _ _ _ _ from ?_)
                          refine wp_cond_false rfl ?_
                          refine wp_skip ?_
                          refine (show Code.wp _ _ _ _ _ from ?_)
                          refine wp_seq ?_
                          refine wp_region_L (W0 := w) [(g3, .cells (covC y2).toArray 51 (0, 0)), (g1, .cells (shC (.slice pc cs.length cc) (.slice po os.length co) t).toArray 32 (0, 0))] (hW22) ?_
                          refine lm (v := .int .i64 0) rfl rfl ?_
                          refine wpL_done (fun W23 hW23 => ?_)
                          refine (show Code.wp _ _ _ _ _ from ?_)
                          refine wp_block ?_
                          go_loopw [8] (fun u8 wr => ∃ (k2 : Nat), (k2 ≤ i2) ∧ (∀ q z, q < k2 → os[q]? = some z → ¬ (z.bay = y2.bay ∧ hasN z.rows y5 = true)) ∧ u8 = .int .i64 ((k2 : Nat) : Int) ∧ KS w [(g3, .cells (covC y2).toArray 51 (0, 0)), (g1, .cells (shC (.slice pc cs.length cc) (.slice po os.length co) t).toArray 32 (0, 0))] wr) (fun u8 _ => i2 - (intOf u8).toNat)
                          case atStart => exact ⟨0, (Nat.zero_le _), (fun q z h => by omega), rfl, (hW23.sub (fun p hp => by first | exact hp | (simp only [List.mem_cons, List.mem_append, List.nil_append, List.not_mem_nil, or_assoc, or_false, false_or] at hp ⊢ <;> grind)))⟩
                          case round =>
                            obtain ⟨k2, hk2, hM, rfl, hL24⟩ := hrel
                            refine wp_seq ?_
                            refine wp_seq ?_
                            refine wp_region_L (W0 := w) [(g3, .cells (covC y2).toArray 51 (0, 0)), (g1, .cells (shC (.slice pc cs.length cc) (.slice po os.length co) t).toArray 32 (0, 0))] (hL24) ?_
                            refine lm (v := .int .i64 ((k2 : Nat) : Int)) rfl rfl ?_
                            refine lm (v := .int .i64 ((i2 : Nat) : Int)) rfl rfl ?_
                            refine lp (v := .bool (decide (k2 < i2))) rfl rfl (run_bin rfl (vx := (.int .i64 ((k2 : Nat) : Int))) (vy := (.int .i64 ((i2 : Nat) : Int))) (by kernel_rfl) (by kernel_rfl) fun w => bn_lss rfl w) ?_
                            refine wpL_done (fun W25 hW25 => ?_)
                            refine (show Code.wp _ _ _ _ _ from ?_)
                            cases hd10 : (decide (k2 < i2)) with
                            | false =>
                              have h10 : ¬ (k2 < i2) := of_decide_eq_false hd10
                              clear hd10
                              refine wp_cond_false rfl ?_
                              refine wp_exit ?_
                              refine (show Code.wp _ _ _ _ _ from ?_)
                              refine wp_region_L (W0 := w) [(g3, .cells (covC y2).toArray 51 (0, 0)), (g1, .cells (shC (.slice pc cs.length cc) (.slice po os.length co) t).toArray 32 (0, 0))] (hW25) ?_
                              refine lm (v := .int .i64 ((j : Nat) : Int)) rfl rfl ?_
                              refine lp (v := .int .i64 (((j + 1) : Nat) : Int)) rfl rfl (run_bin rfl (vx := (.int .i64 ((j : Nat) : Int))) (vy := (.int .i64 ((1 : Nat) : Int))) (by kernel_rfl) (by kernel_rfl) fun w => bn_add (z := (j + 1)) rfl (wr_i64 (by omega)) w) ?_
                              refine lm (v := .int .i64 (((j + 1) : Nat) : Int)) rfl rfl ?_
                              refine wpL_done (fun W26 hW26 => ?_)
                              go_roundw
                              case rel =>
                                repeat apply Exists.intro
                                exact ⟨⟨j + 1, y5, (by omega), (by have g1 := inR_t h8; rw [hI, inc_step hy5, decide_eq_true (show z < y5 by omega), decide_eq_true (show y5 ≤ 30 by omega)]; rfl), (.inr ⟨by omega, by have g1 := inR_t h8; omega, by rw [Nat.add_sub_cancel]; exact hy5⟩), (free_s hFR hy5 h10 hM), rfl, (hW26.sub (fun p hp => by first | exact hp | (simp only [List.mem_cons, List.mem_append, List.nil_append, List.not_mem_nil, or_assoc, or_false, false_or] at hp ⊢ <;> grind)))⟩, rfl⟩
                              case measure => (show y2.rows.length - (intOf (.int .i64 (((j + 1) : Nat) : Int))).toNat < y2.rows.length - (intOf (.int .i64 ((j : Nat) : Int))).toNat); simp only [intOf]; omega
                            | true =>
                              have h10 : k2 < i2 := of_decide_eq_true hd10
                              clear hd10
                              refine wp_cond_true rfl ?_
                              refine wp_skip ?_
                              refine (show Code.wp _ _ _ _ _ from ?_)
                              refine wp_seq ?_
                              refine wp_block ?_
                              refine wp_seq ?_
                              refine wp_region_V (W0 := w) [(g3, .cells (covC y2).toArray 51 (0, 0)), (g1, .cells (shC (.slice pc cs.length cc) (.slice po os.length co) t).toArray 32 (0, 0))] (by kernel_rfl) (hW25) ?_
                              refine vm (i := 0) (v := .pointer (some ⟨g1, 1, none⟩)) rfl rfl rfl ?_
                              refine vv (i := 1) (v := .slice po os.length co) rfl rfl rfl (yb_cell (off := 1) rfl (by kernel_rfl) (.tail _ (.head _)) Try.underlying23 rfl (by kernel_rfl)) ?_
                              refine vm (i := 2) (v := .int .i64 ((k2 : Nat) : Int)) rfl rfl rfl ?_
                              obtain ⟨y6, g6_, f6_, hy6, hp6, hc6⟩ := RL.at (RL.base HO.out) covC_len (by decide) (hW25.sub (fun _ h => by cases h)) (k := k2) (by omega)
                              refine vp (i := 3) (v := .pointer (some ⟨g6_, f6_ + k2 * 2, none⟩)) rfl rfl rfl (run_idxQ (p := po) (cap := co) (n := os.length) (j := .i64) (k := k2) (sz := 2) rfl Try.underlying23 (by kernel_rfl) (by kernel_rfl) hp6 (by kernel_rfl) (by omega)) ?_
                              refine vm (i := 4) (v := .pointer (some ⟨g6_, f6_ + k2 * 2, none⟩)) rfl rfl rfl ?_
                              refine vb (i := 5) (v := .int .i64 y6.bay) rfl rfl rfl (yb_rf (v := .int .i64 y6.bay) rfl (by kernel_rfl) (fun W hW => hc6 W (hW.sub (fun _ h => by cases h)) 0 _ rfl) Try.underlying3 rfl) ?_
                              refine vm (i := 6) (v := .pointer (some ⟨g3, 0, none⟩)) rfl rfl rfl ?_
                              refine vv (i := 7) (v := .int .i64 y2.bay) rfl rfl rfl (yb_cell (off := 0) rfl (by kernel_rfl) (.head _) Try.underlying3 rfl (by kernel_rfl)) ?_
                              refine vp (i := 8) (v := .bool (decide (y6.bay = y2.bay))) rfl rfl rfl (run_bin rfl (vx := (.int .i64 y6.bay)) (vy := (.int .i64 y2.bay)) (by kernel_rfl) (by kernel_rfl) fun w => bi_eql rfl w) ?_
                              refine vm (i := 9) (v := .bool (decide (y6.bay = y2.bay))) rfl rfl rfl ?_
                              cases hd11 : (decide (y6.bay = y2.bay)) with
                              | false =>
                                have h11 : ¬ (y6.bay = y2.bay) := of_decide_eq_false hd11
                                clear hd11
                                refine vn (i := 10) rfl rfl ?_
                                refine vn (i := 11) rfl rfl ?_
                                refine vn (i := 12) rfl rfl ?_
                                refine vn (i := 13) rfl rfl ?_
                                refine vn (i := 14) rfl rfl ?_
                                refine vn (i := 15) rfl rfl ?_
                                refine vn (i := 16) rfl rfl ?_
                                refine vn (i := 17) rfl rfl ?_
                                refine vn (i := 18) rfl rfl ?_
                                refine vn (i := 19) rfl rfl ?_
                                refine vn (i := 20) rfl rfl ?_
                                refine vn (i := 21) rfl rfl ?_
                                refine vm (i := 22) (v := .bool false) rfl rfl rfl ?_
                                refine wpV_done (by kernel_rfl) (fun W27 hW27 => ?_) _
                                refine (show Code.wp _ _ _ _ _ from ?_)
                                refine wp_cond_false rfl ?_
                                refine wp_skip ?_
                                refine (show Code.wp _ _ _ _ _ from ?_)
                                refine wp_region_L (W0 := w) [(g3, .cells (covC y2).toArray 51 (0, 0)), (g1, .cells (shC (.slice pc cs.length cc) (.slice po os.length co) t).toArray 32 (0, 0))] (hW27) ?_
                                refine lm (v := .int .i64 ((k2 : Nat) : Int)) rfl rfl ?_
                                refine lp (v := .int .i64 (((k2 + 1) : Nat) : Int)) rfl rfl (run_bin rfl (vx := (.int .i64 ((k2 : Nat) : Int))) (vy := (.int .i64 ((1 : Nat) : Int))) (by kernel_rfl) (by kernel_rfl) fun w => bn_add (z := (k2 + 1)) rfl (wr_i64 (by omega)) w) ?_
                                refine lm (v := .int .i64 (((k2 + 1) : Nat) : Int)) rfl rfl ?_
                                refine wpL_done (fun W28 hW28 => ?_)
                                go_roundw
                                case rel =>
                                  repeat apply Exists.intro
                                  exact ⟨⟨k2 + 1, (by omega), (ne_s (P := fun z => z.bay = y2.bay ∧ hasN z.rows y5 = true) hM hy6 (fun e => by obtain ⟨g1, g2⟩ := e; simp_all)), rfl, (hW28.sub (fun p hp => by first | exact hp | (simp only [List.mem_cons, List.mem_append, List.nil_append, List.not_mem_nil, or_assoc, or_false, false_or] at hp ⊢ <;> grind)))⟩, rfl⟩
                                case measure => (show i2 - (intOf (.int .i64 (((k2 + 1) : Nat) : Int))).toNat < i2 - (intOf (.int .i64 ((k2 : Nat) : Int))).toNat); simp only [intOf]; omega
                              | true =>
                                have h11 : y6.bay = y2.bay := of_decide_eq_true hd11
                                clear hd11
                                refine vm (i := 10) (v := .pointer (some ⟨g1, 1, none⟩)) rfl rfl rfl ?_
                                refine vv (i := 11) (v := .slice po os.length co) rfl rfl rfl (yb_cell (off := 1) rfl (by kernel_rfl) (.tail _ (.head _)) Try.underlying23 rfl (by kernel_rfl)) ?_
                                refine vm (i := 12) (v := .int .i64 ((k2 : Nat) : Int)) rfl rfl rfl ?_
                                refine vp (i := 13) (v := .pointer (some ⟨g6_, f6_ + k2 * 2, none⟩)) rfl rfl rfl (run_idxQ (p := po) (cap := co) (n := os.length) (j := .i64) (k := k2) (sz := 2) rfl Try.underlying23 (by kernel_rfl) (by kernel_rfl) hp6 (by kernel_rfl) (by omega)) ?_
                                refine vm (i := 14) (v := .pointer (some ⟨g6_, f6_ + k2 * 2 + 1, none⟩)) rfl rfl rfl ?_
                                refine vb (i := 15) (v := .slice y6.rp y6.rows.length y6.rc) rfl rfl rfl (yb_rf (v := .slice y6.rp y6.rows.length y6.rc) rfl (by kernel_rfl) (fun W hW => hc6 W (hW.sub (fun _ h => by cases h)) 1 _ rfl) Try.underlying39 rfl) ?_
                                refine vm (i := 16) (v := .pointer (some ⟨g3, 1, none⟩)) rfl rfl rfl ?_
                                refine vv (i := 17) (v := .slice y2.rp y2.rows.length y2.rc) rfl rfl rfl (yb_cell (off := 1) rfl (by kernel_rfl) (.head _) Try.underlying39 rfl (by kernel_rfl)) ?_
                                refine vm (i := 18) (v := .int .i64 ((j : Nat) : Int)) rfl rfl rfl ?_
                                refine vp (i := 19) (v := .pointer (some ⟨g5_, f5_ + j * 1, none⟩)) rfl rfl rfl (run_idxQ (p := y2.rp) (cap := y2.rc) (n := y2.rows.length) (j := .i64) (k := j) (sz := 1) rfl Try.underlying39 (by kernel_rfl) (by kernel_rfl) hp5 (by kernel_rfl) (by omega)) ?_
                                refine vb (i := 20) (v := .int .i64 y5) rfl rfl rfl (yb_rf (v := .int .i64 y5) rfl (by kernel_rfl) (fun W hW => hc5 W (hW.sub (fun _ h => by cases h)) 0 _ rfl) Try.underlying3 rfl) ?_
                                refine vv (i := 21) (v := .bool (hasN y6.rows y5)) rfl rfl rfl (yb_call (f := 39) (args := #[.slice y6.rp y6.rows.length y6.rc, .int .i64 y5]) (fun _ => by kernel_rfl) fun W hW => inside_any y6.rows y6.rp y6.rc y5 (lr y6 (List.mem_of_getElem? hy6)) W ((RL.base (HR.out y6 (List.mem_of_getElem? hy6))) _ (hW.sub (fun _ h => by cases h)))) ?_
                                refine vm (i := 22) (v := .bool (hasN y6.rows y5)) rfl rfl rfl ?_
                                refine wpV_done (by kernel_rfl) (fun W29 hW29 => ?_) _
                                refine (show Code.wp _ _ _ _ _ from ?_)
                                cases h12 : (hasN y6.rows y5) with
                                | false =>
                                  refine wp_cond_false rfl ?_
                                  refine wp_skip ?_
                                  refine (show Code.wp _ _ _ _ _ from ?_)
                                  refine wp_region_L (W0 := w) [(g3, .cells (covC y2).toArray 51 (0, 0)), (g1, .cells (shC (.slice pc cs.length cc) (.slice po os.length co) t).toArray 32 (0, 0))] (hW29) ?_
                                  refine lm (v := .int .i64 ((k2 : Nat) : Int)) rfl rfl ?_
                                  refine lp (v := .int .i64 (((k2 + 1) : Nat) : Int)) rfl rfl (run_bin rfl (vx := (.int .i64 ((k2 : Nat) : Int))) (vy := (.int .i64 ((1 : Nat) : Int))) (by kernel_rfl) (by kernel_rfl) fun w => bn_add (z := (k2 + 1)) rfl (wr_i64 (by omega)) w) ?_
                                  refine lm (v := .int .i64 (((k2 + 1) : Nat) : Int)) rfl rfl ?_
                                  refine wpL_done (fun W30 hW30 => ?_)
                                  go_roundw
                                  case rel =>
                                    repeat apply Exists.intro
                                    exact ⟨⟨k2 + 1, (by omega), (ne_s (P := fun z => z.bay = y2.bay ∧ hasN z.rows y5 = true) hM hy6 (fun e => by obtain ⟨g1, g2⟩ := e; simp_all)), rfl, (hW30.sub (fun p hp => by first | exact hp | (simp only [List.mem_cons, List.mem_append, List.nil_append, List.not_mem_nil, or_assoc, or_false, false_or] at hp ⊢ <;> grind)))⟩, rfl⟩
                                  case measure => (show i2 - (intOf (.int .i64 (((k2 + 1) : Nat) : Int))).toNat < i2 - (intOf (.int .i64 ((k2 : Nat) : Int))).toNat); simp only [intOf]; omega
                                | true =>
                                  refine wp_cond_true rfl ?_
                                  refine wp_seq ?_
                                  refine wp_region_L (W0 := w) [(g3, .cells (covC y2).toArray 51 (0, 0)), (g1, .cells (shC (.slice pc cs.length cc) (.slice po os.length co) t).toArray 32 (0, 0))] (hW29) ?_
                                  refine lm (v := .bool false) rfl rfl ?_
                                  refine wpL_done (fun W31 hW31 => ?_)
                                  refine (show Code.wp _ _ _ _ _ from ?_)
                                  refine wp_ret ?_
                                  try simp only [inBlock_ret, then_ret]
                                  refine bodyPost_ret (v := .bool false) ?_ rfl ?_
                                  · kernel_rfl
                                  · exact ⟨(bool_is (ov_dup_at hy6 hy2 h10 h11 h12 (List.mem_of_getElem? hy5)).symm), hW31.1⟩
                        | true =>
                          have h9 : 0 < j := of_decide_eq_true hd9
                          clear hd9
                          refine vm (i := 11) (v := .pointer (some ⟨g3, 1, none⟩)) rfl rfl rfl ?_
                          refine vv (i := 12) (v := .slice y2.rp y2.rows.length y2.rc) rfl rfl rfl (yb_cell (off := 1) rfl (by kernel_rfl) (.head _) Try.underlying39 rfl (by kernel_rfl)) ?_
                          refine vm (i := 13) (v := .int .i64 ((j : Nat) : Int)) rfl rfl rfl ?_
                          refine vp (i := 14) (v := .int .i64 (((j - 1) : Nat) : Int)) rfl rfl rfl (run_bin rfl (vx := (.int .i64 ((j : Nat) : Int))) (vy := (.int .i64 ((1 : Nat) : Int))) (by kernel_rfl) (by kernel_rfl) fun w => bn_sub (z := (j - 1)) rfl (by omega) (wr_i64 (by omega)) w) ?_
                          obtain ⟨y7, g7_, f7_, hy7, hp7, hc7⟩ := RL.at (RL.base (HR.out y2 (List.mem_of_getElem? hy2))) inC_len (by decide) (hW18.sub (fun _ h => by cases h)) (k := (j - 1)) (by omega)
                          have ez7 : y7 = z := by
                            rcases hz with ⟨h8, _⟩ | ⟨_, _, h8⟩
                            · omega
                            · rw [h8] at hy7; exact (Option.some.inj hy7).symm
                          refine vp (i := 15) (v := .pointer (some ⟨g7_, f7_ + (j - 1) * 1, none⟩)) rfl rfl rfl (run_idxQ (p := y2.rp) (cap := y2.rc) (n := y2.rows.length) (j := .i64) (k := (j - 1)) (sz := 1) rfl Try.underlying39 (by kernel_rfl) (by kernel_rfl) hp7 (by kernel_rfl) (by omega)) ?_
                          refine vb (i := 16) (v := .int .i64 y7) rfl rfl rfl (yb_rf (v := .int .i64 y7) rfl (by kernel_rfl) (fun W hW => hc7 W (hW.sub (fun _ h => by cases h)) 0 _ rfl) Try.underlying3 rfl) ?_
                          refine vm (i := 17) (v := .pointer (some ⟨g3, 1, none⟩)) rfl rfl rfl ?_
                          refine vv (i := 18) (v := .slice y2.rp y2.rows.length y2.rc) rfl rfl rfl (yb_cell (off := 1) rfl (by kernel_rfl) (.head _) Try.underlying39 rfl (by kernel_rfl)) ?_
                          refine vm (i := 19) (v := .int .i64 ((j : Nat) : Int)) rfl rfl rfl ?_
                          refine vp (i := 20) (v := .pointer (some ⟨g5_, f5_ + j * 1, none⟩)) rfl rfl rfl (run_idxQ (p := y2.rp) (cap := y2.rc) (n := y2.rows.length) (j := .i64) (k := j) (sz := 1) rfl Try.underlying39 (by kernel_rfl) (by kernel_rfl) hp5 (by kernel_rfl) (by omega)) ?_
                          refine vb (i := 21) (v := .int .i64 y5) rfl rfl rfl (yb_rf (v := .int .i64 y5) rfl (by kernel_rfl) (fun W hW => hc5 W (hW.sub (fun _ h => by cases h)) 0 _ rfl) Try.underlying3 rfl) ?_
                          refine vp (i := 22) (v := .bool (!(decide (y7 < y5)))) rfl rfl rfl (run_bin rfl (vx := (.int .i64 y7)) (vy := (.int .i64 y5)) (by kernel_rfl) (by kernel_rfl) fun w => bi_geq rfl w) ?_
                          refine vm (i := 23) (v := .bool (!(decide (y7 < y5)))) rfl rfl rfl ?_
                          refine vm (i := 24) (v := .bool (!(decide (y7 < y5)))) rfl rfl rfl ?_
                          refine wpV_done (by kernel_rfl) (fun W32 hW32 => ?_) _
                          refine (show Code.wp _ _ _ _ _ from ?_)
                          cases hd13 : (decide (y7 < y5)) with
                          | false =>
                            have h13 : ¬ (y7 < y5) := of_decide_eq_false hd13
                            clear hd13
                            refine wp_cond_true rfl ?_
                            refine wp_seq ?_
                            refine wp_region_L (W0 := w) [(g3, .cells (covC y2).toArray 51 (0, 0)), (g1, .cells (shC (.slice pc cs.length cc) (.slice po os.length co) t).toArray 32 (0, 0))] (hW32) ?_
                            refine lm (v := .bool false) rfl rfl ?_
                            refine wpL_done (fun W33 hW33 => ?_)
                            refine (show Code.wp _ _ _ _ _ from ?_)
                            refine wp_ret ?_
                            try simp only [inBlock_ret, then_ret]
                            refine bodyPost_ret (v := .bool false) ?_ rfl ?_
                            · kernel_rfl
                            · exact ⟨(bool_is (ov_bad (List.mem_of_getElem? hy2) (ov_inc (by have g1 := inR_t h8; rw [hI, inc_step hy5]; by_cases g2 : z < y5 <;> by_cases g3 : y5 ≤ 30 <;> simp [g2, g3] <;> omega))).symm), hW33.1⟩
                          | true =>
                            have h13 : y7 < y5 := of_decide_eq_true hd13
                            clear hd13
                            refine wp_cond_false rfl ?_
                            refine wp_skip ?_
                            refine (show Code.wp _ _ _ _ _ from ?_)
                            refine wp_seq ?_
                            refine wp_region_L (W0 := w) [(g3, .cells (covC y2).toArray 51 (0, 0)), (g1, .cells (shC (.slice pc cs.length cc) (.slice po os.length co) t).toArray 32 (0, 0))] (hW32) ?_
                            refine lm (v := .int .i64 0) rfl rfl ?_
                            refine wpL_done (fun W34 hW34 => ?_)
                            refine (show Code.wp _ _ _ _ _ from ?_)
                            refine wp_block ?_
                            go_loopw [8] (fun u8 wr => ∃ (k2 : Nat), (k2 ≤ i2) ∧ (∀ q z, q < k2 → os[q]? = some z → ¬ (z.bay = y2.bay ∧ hasN z.rows y5 = true)) ∧ u8 = .int .i64 ((k2 : Nat) : Int) ∧ KS w [(g3, .cells (covC y2).toArray 51 (0, 0)), (g1, .cells (shC (.slice pc cs.length cc) (.slice po os.length co) t).toArray 32 (0, 0))] wr) (fun u8 _ => i2 - (intOf u8).toNat)
                            case atStart => exact ⟨0, (Nat.zero_le _), (fun q z h => by omega), rfl, (hW34.sub (fun p hp => by first | exact hp | (simp only [List.mem_cons, List.mem_append, List.nil_append, List.not_mem_nil, or_assoc, or_false, false_or] at hp ⊢ <;> grind)))⟩
                            case round =>
                              obtain ⟨k2, hk2, hM, rfl, hL35⟩ := hrel
                              refine wp_seq ?_
                              refine wp_seq ?_
                              refine wp_region_L (W0 := w) [(g3, .cells (covC y2).toArray 51 (0, 0)), (g1, .cells (shC (.slice pc cs.length cc) (.slice po os.length co) t).toArray 32 (0, 0))] (hL35) ?_
                              refine lm (v := .int .i64 ((k2 : Nat) : Int)) rfl rfl ?_
                              refine lm (v := .int .i64 ((i2 : Nat) : Int)) rfl rfl ?_
                              refine lp (v := .bool (decide (k2 < i2))) rfl rfl (run_bin rfl (vx := (.int .i64 ((k2 : Nat) : Int))) (vy := (.int .i64 ((i2 : Nat) : Int))) (by kernel_rfl) (by kernel_rfl) fun w => bn_lss rfl w) ?_
                              refine wpL_done (fun W36 hW36 => ?_)
                              refine (show Code.wp _ _ _ _ _ from ?_)
                              cases hd14 : (decide (k2 < i2)) with
                              | false =>
                                have h14 : ¬ (k2 < i2) := of_decide_eq_false hd14
                                clear hd14
                                refine wp_cond_false rfl ?_
                                refine wp_exit ?_
                                refine (show Code.wp _ _ _ _ _ from ?_)
                                refine wp_region_L (W0 := w) [(g3, .cells (covC y2).toArray 51 (0, 0)), (g1, .cells (shC (.slice pc cs.length cc) (.slice po os.length co) t).toArray 32 (0, 0))] (hW36) ?_
                                refine lm (v := .int .i64 ((j : Nat) : Int)) rfl rfl ?_
                                refine lp (v := .int .i64 (((j + 1) : Nat) : Int)) rfl rfl (run_bin rfl (vx := (.int .i64 ((j : Nat) : Int))) (vy := (.int .i64 ((1 : Nat) : Int))) (by kernel_rfl) (by kernel_rfl) fun w => bn_add (z := (j + 1)) rfl (wr_i64 (by omega)) w) ?_
                                refine lm (v := .int .i64 (((j + 1) : Nat) : Int)) rfl rfl ?_
                                refine wpL_done (fun W37 hW37 => ?_)
                                go_roundw
                                case rel =>
                                  repeat apply Exists.intro
                                  exact ⟨⟨j + 1, y5, (by omega), (by have g1 := inR_t h8; rw [hI, inc_step hy5, decide_eq_true (show z < y5 by omega), decide_eq_true (show y5 ≤ 30 by omega)]; rfl), (.inr ⟨by omega, by have g1 := inR_t h8; omega, by rw [Nat.add_sub_cancel]; exact hy5⟩), (free_s hFR hy5 h14 hM), rfl, (hW37.sub (fun p hp => by first | exact hp | (simp only [List.mem_cons, List.mem_append, List.nil_append, List.not_mem_nil, or_assoc, or_false, false_or] at hp ⊢ <;> grind)))⟩, rfl⟩
                                case measure => (show y2.rows.length - (intOf (.int .i64 (((j + 1) : Nat) : Int))).toNat < y2.rows.length - (intOf (.int .i64 ((j : Nat) : Int))).toNat); simp only [intOf]; omega
                              | true =>
                                have h14 : k2 < i2 := of_decide_eq_true hd14
                                clear hd14
                                refine wp_cond_true rfl ?_
                                refine wp_skip ?_
                                refine (show Code.wp _ _ _ _ _ from ?_)
                                refine wp_seq ?_
                                refine wp_block ?_
                                refine wp_seq ?_
                                refine wp_region_V (W0 := w) [(g3, .cells (covC y2).toArray 51 (0, 0)), (g1, .cells (shC (.slice pc cs.length cc) (.slice po os.length co) t).toArray 32 (0, 0))] (by kernel_rfl) (hW36) ?_
                                refine vm (i := 0) (v := .pointer (some ⟨g1, 1, none⟩)) rfl rfl rfl ?_
                                refine vv (i := 1) (v := .slice po os.length co) rfl rfl rfl (yb_cell (off := 1) rfl (by kernel_rfl) (.tail _ (.head _)) Try.underlying23 rfl (by kernel_rfl)) ?_
                                refine vm (i := 2) (v := .int .i64 ((k2 : Nat) : Int)) rfl rfl rfl ?_
                                obtain ⟨y8, g8_, f8_, hy8, hp8, hc8⟩ := RL.at (RL.base HO.out) covC_len (by decide) (hW36.sub (fun _ h => by cases h)) (k := k2) (by omega)
                                refine vp (i := 3) (v := .pointer (some ⟨g8_, f8_ + k2 * 2, none⟩)) rfl rfl rfl (run_idxQ (p := po) (cap := co) (n := os.length) (j := .i64) (k := k2) (sz := 2) rfl Try.underlying23 (by kernel_rfl) (by kernel_rfl) hp8 (by kernel_rfl) (by omega)) ?_
                                refine vm (i := 4) (v := .pointer (some ⟨g8_, f8_ + k2 * 2, none⟩)) rfl rfl rfl ?_
                                refine vb (i := 5) (v := .int .i64 y8.bay) rfl rfl rfl (yb_rf (v := .int .i64 y8.bay) rfl (by kernel_rfl) (fun W hW => hc8 W (hW.sub (fun _ h => by cases h)) 0 _ rfl) Try.underlying3 rfl) ?_
                                refine vm (i := 6) (v := .pointer (some ⟨g3, 0, none⟩)) rfl rfl rfl ?_
                                refine vv (i := 7) (v := .int .i64 y2.bay) rfl rfl rfl (yb_cell (off := 0) rfl (by kernel_rfl) (.head _) Try.underlying3 rfl (by kernel_rfl)) ?_
                                refine vp (i := 8) (v := .bool (decide (y8.bay = y2.bay))) rfl rfl rfl (run_bin rfl (vx := (.int .i64 y8.bay)) (vy := (.int .i64 y2.bay)) (by kernel_rfl) (by kernel_rfl) fun w => bi_eql rfl w) ?_
                                refine vm (i := 9) (v := .bool (decide (y8.bay = y2.bay))) rfl rfl rfl ?_
                                cases hd15 : (decide (y8.bay = y2.bay)) with
                                | false =>
                                  have h15 : ¬ (y8.bay = y2.bay) := of_decide_eq_false hd15
                                  clear hd15
                                  refine vn (i := 10) rfl rfl ?_
                                  refine vn (i := 11) rfl rfl ?_
                                  refine vn (i := 12) rfl rfl ?_
                                  refine vn (i := 13) rfl rfl ?_
                                  refine vn (i := 14) rfl rfl ?_
                                  refine vn (i := 15) rfl rfl ?_
                                  refine vn (i := 16) rfl rfl ?_
                                  refine vn (i := 17) rfl rfl ?_
                                  refine vn (i := 18) rfl rfl ?_
                                  refine vn (i := 19) rfl rfl ?_
                                  refine vn (i := 20) rfl rfl ?_
                                  refine vn (i := 21) rfl rfl ?_
                                  refine vm (i := 22) (v := .bool false) rfl rfl rfl ?_
                                  refine wpV_done (by kernel_rfl) (fun W38 hW38 => ?_) _
                                  refine (show Code.wp _ _ _ _ _ from ?_)
                                  refine wp_cond_false rfl ?_
                                  refine wp_skip ?_
                                  refine (show Code.wp _ _ _ _ _ from ?_)
                                  refine wp_region_L (W0 := w) [(g3, .cells (covC y2).toArray 51 (0, 0)), (g1, .cells (shC (.slice pc cs.length cc) (.slice po os.length co) t).toArray 32 (0, 0))] (hW38) ?_
                                  refine lm (v := .int .i64 ((k2 : Nat) : Int)) rfl rfl ?_
                                  refine lp (v := .int .i64 (((k2 + 1) : Nat) : Int)) rfl rfl (run_bin rfl (vx := (.int .i64 ((k2 : Nat) : Int))) (vy := (.int .i64 ((1 : Nat) : Int))) (by kernel_rfl) (by kernel_rfl) fun w => bn_add (z := (k2 + 1)) rfl (wr_i64 (by omega)) w) ?_
                                  refine lm (v := .int .i64 (((k2 + 1) : Nat) : Int)) rfl rfl ?_
                                  refine wpL_done (fun W39 hW39 => ?_)
                                  go_roundw
                                  case rel =>
                                    repeat apply Exists.intro
                                    exact ⟨⟨k2 + 1, (by omega), (ne_s (P := fun z => z.bay = y2.bay ∧ hasN z.rows y5 = true) hM hy8 (fun e => by obtain ⟨g1, g2⟩ := e; simp_all)), rfl, (hW39.sub (fun p hp => by first | exact hp | (simp only [List.mem_cons, List.mem_append, List.nil_append, List.not_mem_nil, or_assoc, or_false, false_or] at hp ⊢ <;> grind)))⟩, rfl⟩
                                  case measure => (show i2 - (intOf (.int .i64 (((k2 + 1) : Nat) : Int))).toNat < i2 - (intOf (.int .i64 ((k2 : Nat) : Int))).toNat); simp only [intOf]; omega
                                | true =>
                                  have h15 : y8.bay = y2.bay := of_decide_eq_true hd15
                                  clear hd15
                                  refine vm (i := 10) (v := .pointer (some ⟨g1, 1, none⟩)) rfl rfl rfl ?_
                                  refine vv (i := 11) (v := .slice po os.length co) rfl rfl rfl (yb_cell (off := 1) rfl (by kernel_rfl) (.tail _ (.head _)) Try.underlying23 rfl (by kernel_rfl)) ?_
                                  refine vm (i := 12) (v := .int .i64 ((k2 : Nat) : Int)) rfl rfl rfl ?_
                                  refine vp (i := 13) (v := .pointer (some ⟨g8_, f8_ + k2 * 2, none⟩)) rfl rfl rfl (run_idxQ (p := po) (cap := co) (n := os.length) (j := .i64) (k := k2) (sz := 2) rfl Try.underlying23 (by kernel_rfl) (by kernel_rfl) hp8 (by kernel_rfl) (by omega)) ?_
                                  refine vm (i := 14) (v := .pointer (some ⟨g8_, f8_ + k2 * 2 + 1, none⟩)) rfl rfl rfl ?_
                                  refine vb (i := 15) (v := .slice y8.rp y8.rows.length y8.rc) rfl rfl rfl (yb_rf (v := .slice y8.rp y8.rows.length y8.rc) rfl (by kernel_rfl) (fun W hW => hc8 W (hW.sub (fun _ h => by cases h)) 1 _ rfl) Try.underlying39 rfl) ?_
                                  refine vm (i := 16) (v := .pointer (some ⟨g3, 1, none⟩)) rfl rfl rfl ?_
                                  refine vv (i := 17) (v := .slice y2.rp y2.rows.length y2.rc) rfl rfl rfl (yb_cell (off := 1) rfl (by kernel_rfl) (.head _) Try.underlying39 rfl (by kernel_rfl)) ?_
                                  refine vm (i := 18) (v := .int .i64 ((j : Nat) : Int)) rfl rfl rfl ?_
                                  refine vp (i := 19) (v := .pointer (some ⟨g5_, f5_ + j * 1, none⟩)) rfl rfl rfl (run_idxQ (p := y2.rp) (cap := y2.rc) (n := y2.rows.length) (j := .i64) (k := j) (sz := 1) rfl Try.underlying39 (by kernel_rfl) (by kernel_rfl) hp5 (by kernel_rfl) (by omega)) ?_
                                  refine vb (i := 20) (v := .int .i64 y5) rfl rfl rfl (yb_rf (v := .int .i64 y5) rfl (by kernel_rfl) (fun W hW => hc5 W (hW.sub (fun _ h => by cases h)) 0 _ rfl) Try.underlying3 rfl) ?_
                                  refine vv (i := 21) (v := .bool (hasN y8.rows y5)) rfl rfl rfl (yb_call (f := 39) (args := #[.slice y8.rp y8.rows.length y8.rc, .int .i64 y5]) (fun _ => by kernel_rfl) fun W hW => inside_any y8.rows y8.rp y8.rc y5 (lr y8 (List.mem_of_getElem? hy8)) W ((RL.base (HR.out y8 (List.mem_of_getElem? hy8))) _ (hW.sub (fun _ h => by cases h)))) ?_
                                  refine vm (i := 22) (v := .bool (hasN y8.rows y5)) rfl rfl rfl ?_
                                  refine wpV_done (by kernel_rfl) (fun W40 hW40 => ?_) _
                                  refine (show Code.wp _ _ _ _ _ from ?_)
                                  cases h16 : (hasN y8.rows y5) with
                                  | false =>
                                    refine wp_cond_false rfl ?_
                                    refine wp_skip ?_
                                    refine (show Code.wp _ _ _ _ _ from ?_)
                                    refine wp_region_L (W0 := w) [(g3, .cells (covC y2).toArray 51 (0, 0)), (g1, .cells (shC (.slice pc cs.length cc) (.slice po os.length co) t).toArray 32 (0, 0))] (hW40) ?_
                                    refine lm (v := .int .i64 ((k2 : Nat) : Int)) rfl rfl ?_
                                    refine lp (v := .int .i64 (((k2 + 1) : Nat) : Int)) rfl rfl (run_bin rfl (vx := (.int .i64 ((k2 : Nat) : Int))) (vy := (.int .i64 ((1 : Nat) : Int))) (by kernel_rfl) (by kernel_rfl) fun w => bn_add (z := (k2 + 1)) rfl (wr_i64 (by omega)) w) ?_
                                    refine lm (v := .int .i64 (((k2 + 1) : Nat) : Int)) rfl rfl ?_
                                    refine wpL_done (fun W41 hW41 => ?_)
                                    go_roundw
                                    case rel =>
                                      repeat apply Exists.intro
                                      exact ⟨⟨k2 + 1, (by omega), (ne_s (P := fun z => z.bay = y2.bay ∧ hasN z.rows y5 = true) hM hy8 (fun e => by obtain ⟨g1, g2⟩ := e; simp_all)), rfl, (hW41.sub (fun p hp => by first | exact hp | (simp only [List.mem_cons, List.mem_append, List.nil_append, List.not_mem_nil, or_assoc, or_false, false_or] at hp ⊢ <;> grind)))⟩, rfl⟩
                                    case measure => (show i2 - (intOf (.int .i64 (((k2 + 1) : Nat) : Int))).toNat < i2 - (intOf (.int .i64 ((k2 : Nat) : Int))).toNat); simp only [intOf]; omega
                                  | true =>
                                    refine wp_cond_true rfl ?_
                                    refine wp_seq ?_
                                    refine wp_region_L (W0 := w) [(g3, .cells (covC y2).toArray 51 (0, 0)), (g1, .cells (shC (.slice pc cs.length cc) (.slice po os.length co) t).toArray 32 (0, 0))] (hW40) ?_
                                    refine lm (v := .bool false) rfl rfl ?_
                                    refine wpL_done (fun W42 hW42 => ?_)
                                    refine (show Code.wp _ _ _ _ _ from ?_)
                                    refine wp_ret ?_
                                    try simp only [inBlock_ret, then_ret]
                                    refine bodyPost_ret (v := .bool false) ?_ rfl ?_
                                    · kernel_rfl
                                    · exact ⟨(bool_is (ov_dup_at hy8 hy2 h14 h15 h16 (List.mem_of_getElem? hy5)).symm), hW42.1⟩
                | true =>
                  have h6 : y2.rows.length = 0 := of_decide_eq_true hd6
                  clear hd6
                  refine wp_cond_true rfl ?_
                  refine wp_seq ?_
                  refine wp_region_L (W0 := w) [(g3, .cells (covC y2).toArray 51 (0, 0)), (g1, .cells (shC (.slice pc cs.length cc) (.slice po os.length co) t).toArray 32 (0, 0))] (hW15) ?_
                  refine lm (v := .bool false) rfl rfl ?_
                  refine wpL_done (fun W43 hW43 => ?_)
                  refine (show Code.wp _ _ _ _ _ from ?_)
                  refine wp_ret ?_
                  try simp only [inBlock_ret, then_ret]
                  refine bodyPost_ret (v := .bool false) ?_ rfl ?_
                  · kernel_rfl
                  · exact ⟨(bool_is (ov_bad (List.mem_of_getElem? hy2) (ov_len h6)).symm), hW43.1⟩
        | true =>
          have h3 : i < cs.length := of_decide_eq_true hd3
          clear hd3
          refine wp_cond_true rfl ?_
          refine wp_skip ?_
          refine (show Code.wp _ _ _ _ _ from ?_)
          refine wp_seq ?_
          refine wp_block ?_
          refine wp_seq ?_
          refine wp_seq ?_
          refine wp_region_L (W0 := w) [(g1, .cells (shC (.slice pc cs.length cc) (.slice po os.length co) t).toArray 32 (0, 0))] (hW7) ?_
          refine lm (v := .pointer (some ⟨g1, 0, none⟩)) rfl rfl ?_
          refine lv (v := .slice pc cs.length cc) rfl rfl (yb_cell (off := 0) rfl (by kernel_rfl) (.head _) Try.underlying22 rfl (by kernel_rfl)) ?_
          refine lm (v := .int .i64 ((i : Nat) : Int)) rfl rfl ?_
          obtain ⟨y9, g9_, f9_, hy9, hp9, hc9⟩ := RL.at (RL.base HC.out) colC_len (by decide) (hW7.sub (fun _ h => by cases h)) (k := i) (by omega)
          refine lp (v := .pointer (some ⟨g9_, f9_ + i * 12, none⟩)) rfl rfl (run_idxQ (p := pc) (cap := cc) (n := cs.length) (j := .i64) (k := i) (sz := 12) rfl Try.underlying22 (by kernel_rfl) (by kernel_rfl) hp9 (by kernel_rfl) (by omega)) ?_
          refine lv (v := .agg (colC y9).toArray) rfl rfl (yb_rs (off := f9_ + i * 12) (cs := colC y9) rfl (by kernel_rfl) (fun W hW => hc9 W (hW.sub (fun _ h => by cases h))) Try.underlying49 rfl (by kernel_rfl)) ?_
          refine lv (v := .bool (colX y9)) rfl rfl (yb_call (f := 38) (args := #[.agg (colC y9).toArray]) (fun _ => by kernel_rfl) fun W hW => column_any y9 (lq y9 (List.mem_of_getElem? hy9)) W ((RL.base (HQ.out y9 (List.mem_of_getElem? hy9))) _ (hW.sub (fun _ h => by cases h)))) ?_
          refine lp (v := .bool (!(colX y9))) rfl rfl (run_un rfl (by kernel_rfl) fun w => un_not w) ?_
          refine wpL_done (fun W44 hW44 => ?_)
          refine (show Code.wp _ _ _ _ _ from ?_)
          cases h17 : (colX y9) with
          | false =>
            refine wp_cond_true rfl ?_
            refine wp_seq ?_
            refine wp_region_L (W0 := w) [(g1, .cells (shC (.slice pc cs.length cc) (.slice po os.length co) t).toArray 32 (0, 0))] (hW44) ?_
            refine lm (v := .bool false) rfl rfl ?_
            refine wpL_done (fun W45 hW45 => ?_)
            refine (show Code.wp _ _ _ _ _ from ?_)
            refine wp_ret ?_
            try simp only [inBlock_ret, then_ret]
            refine bodyPost_ret (v := .bool false) ?_ rfl ?_
            · kernel_rfl
            · exact ⟨(bool_is (right_c (cols_f (List.mem_of_getElem? hy9) h17)).symm), hW45.1⟩
          | true =>
            refine wp_cond_false rfl ?_
            refine wp_skip ?_
            refine (show Code.wp _ _ _ _ _ from ?_)
            refine wp_seq ?_
            refine wp_region_L (W0 := w) [(g1, .cells (shC (.slice pc cs.length cc) (.slice po os.length co) t).toArray 32 (0, 0))] (hW44) ?_
            refine lm (v := .int .i64 0) rfl rfl ?_
            refine wpL_done (fun W46 hW46 => ?_)
            refine (show Code.wp _ _ _ _ _ from ?_)
            refine wp_block ?_
            go_loopw [4] (fun u4 wr => ∃ (k : Nat), (k ≤ i) ∧ (∀ j z, j < k → cs[j]? = some z → placeX z ≠ placeX y9) ∧ u4 = .int .i64 ((k : Nat) : Int) ∧ KS w [(g1, .cells (shC (.slice pc cs.length cc) (.slice po os.length co) t).toArray 32 (0, 0))] wr) (fun u4 _ => i - (intOf u4).toNat)
            case atStart => exact ⟨0, (Nat.zero_le _), (fun j z h => by omega), rfl, (hW46.sub (fun p hp => by first | exact hp | (simp only [List.mem_cons, List.mem_append, List.nil_append, List.not_mem_nil, or_assoc, or_false, false_or] at hp ⊢ <;> grind)))⟩
            case round =>
              obtain ⟨k, hk, hN, rfl, hL47⟩ := hrel
              refine wp_seq ?_
              refine wp_seq ?_
              refine wp_region_L (W0 := w) [(g1, .cells (shC (.slice pc cs.length cc) (.slice po os.length co) t).toArray 32 (0, 0))] (hL47) ?_
              refine lm (v := .int .i64 ((k : Nat) : Int)) rfl rfl ?_
              refine lm (v := .int .i64 ((i : Nat) : Int)) rfl rfl ?_
              refine lp (v := .bool (decide (k < i))) rfl rfl (run_bin rfl (vx := (.int .i64 ((k : Nat) : Int))) (vy := (.int .i64 ((i : Nat) : Int))) (by kernel_rfl) (by kernel_rfl) fun w => bn_lss rfl w) ?_
              refine wpL_done (fun W48 hW48 => ?_)
              refine (show Code.wp _ _ _ _ _ from ?_)
              cases hd18 : (decide (k < i)) with
              | false =>
                have h18 : ¬ (k < i) := of_decide_eq_false hd18
                clear hd18
                refine wp_cond_false rfl ?_
                refine wp_exit ?_
                refine (show Code.wp _ _ _ _ _ from ?_)
                refine wp_region_L (W0 := w) [(g1, .cells (shC (.slice pc cs.length cc) (.slice po os.length co) t).toArray 32 (0, 0))] (hW48) ?_
                refine lm (v := .int .i64 ((i : Nat) : Int)) rfl rfl ?_
                refine lp (v := .int .i64 (((i + 1) : Nat) : Int)) rfl rfl (run_bin rfl (vx := (.int .i64 ((i : Nat) : Int))) (vy := (.int .i64 ((1 : Nat) : Int))) (by kernel_rfl) (by kernel_rfl) fun w => bn_add (z := (i + 1)) rfl (wr_i64 (by omega)) w) ?_
                refine lm (v := .int .i64 (((i + 1) : Nat) : Int)) rfl rfl ?_
                refine wpL_done (fun W49 hW49 => ?_)
                go_roundw
                case rel =>
                  repeat apply Exists.intro
                  exact ⟨⟨i + 1, (by omega), (colsT_s hG hy9 h17 h18 hN), rfl, (hW49.sub (fun p hp => by first | exact hp | (simp only [List.mem_cons, List.mem_append, List.nil_append, List.not_mem_nil, or_assoc, or_false, false_or] at hp ⊢ <;> grind)))⟩, rfl⟩
                case measure => (show cs.length - (intOf (.int .i64 (((i + 1) : Nat) : Int))).toNat < cs.length - (intOf (.int .i64 ((i : Nat) : Int))).toNat); simp only [intOf]; omega
              | true =>
                have h18 : k < i := of_decide_eq_true hd18
                clear hd18
                refine wp_cond_true rfl ?_
                refine wp_skip ?_
                refine (show Code.wp _ _ _ _ _ from ?_)
                refine wp_seq ?_
                refine wp_block ?_
                refine wp_seq ?_
                refine wp_region_V (W0 := w) [(g1, .cells (shC (.slice pc cs.length cc) (.slice po os.length co) t).toArray 32 (0, 0))] (by kernel_rfl) (hW48) ?_
                refine vm (i := 0) (v := .pointer (some ⟨g1, 0, none⟩)) rfl rfl rfl ?_
                refine vv (i := 1) (v := .slice pc cs.length cc) rfl rfl rfl (yb_cell (off := 0) rfl (by kernel_rfl) (.head _) Try.underlying22 rfl (by kernel_rfl)) ?_
                refine vm (i := 2) (v := .int .i64 ((k : Nat) : Int)) rfl rfl rfl ?_
                obtain ⟨y10, g10_, f10_, hy10, hp10, hc10⟩ := RL.at (RL.base HC.out) colC_len (by decide) (hW48.sub (fun _ h => by cases h)) (k := k) (by omega)
                refine vp (i := 3) (v := .pointer (some ⟨g10_, f10_ + k * 12, none⟩)) rfl rfl rfl (run_idxQ (p := pc) (cap := cc) (n := cs.length) (j := .i64) (k := k) (sz := 12) rfl Try.underlying22 (by kernel_rfl) (by kernel_rfl) hp10 (by kernel_rfl) (by omega)) ?_
                refine vm (i := 4) (v := .pointer (some ⟨g10_, f10_ + k * 12, none⟩)) rfl rfl rfl ?_
                refine vb (i := 5) (v := .int .i64 y10.bay) rfl rfl rfl (yb_rf (v := .int .i64 y10.bay) rfl (by kernel_rfl) (fun W hW => hc10 W (hW.sub (fun _ h => by cases h)) 0 _ rfl) Try.underlying3 rfl) ?_
                refine vm (i := 6) (v := .pointer (some ⟨g1, 0, none⟩)) rfl rfl rfl ?_
                refine vv (i := 7) (v := .slice pc cs.length cc) rfl rfl rfl (yb_cell (off := 0) rfl (by kernel_rfl) (.head _) Try.underlying22 rfl (by kernel_rfl)) ?_
                refine vm (i := 8) (v := .int .i64 ((i : Nat) : Int)) rfl rfl rfl ?_
                refine vp (i := 9) (v := .pointer (some ⟨g9_, f9_ + i * 12, none⟩)) rfl rfl rfl (run_idxQ (p := pc) (cap := cc) (n := cs.length) (j := .i64) (k := i) (sz := 12) rfl Try.underlying22 (by kernel_rfl) (by kernel_rfl) hp9 (by kernel_rfl) (by omega)) ?_
                refine vm (i := 10) (v := .pointer (some ⟨g9_, f9_ + i * 12, none⟩)) rfl rfl rfl ?_
                refine vb (i := 11) (v := .int .i64 y9.bay) rfl rfl rfl (yb_rf (v := .int .i64 y9.bay) rfl (by kernel_rfl) (fun W hW => hc9 W (hW.sub (fun _ h => by cases h)) 0 _ rfl) Try.underlying3 rfl) ?_
                refine vp (i := 12) (v := .bool (decide (y10.bay = y9.bay))) rfl rfl rfl (run_bin rfl (vx := (.int .i64 y10.bay)) (vy := (.int .i64 y9.bay)) (by kernel_rfl) (by kernel_rfl) fun w => bi_eql rfl w) ?_
                refine vm (i := 13) (v := .bool (decide (y10.bay = y9.bay))) rfl rfl rfl ?_
                cases hd19 : (decide (y10.bay = y9.bay)) with
                | false =>
                  have h19 : ¬ (y10.bay = y9.bay) := of_decide_eq_false hd19
                  clear hd19
                  refine vn (i := 14) rfl rfl ?_
                  refine vn (i := 15) rfl rfl ?_
                  refine vn (i := 16) rfl rfl ?_
                  refine vn (i := 17) rfl rfl ?_
                  refine vn (i := 18) rfl rfl ?_
                  refine vn (i := 19) rfl rfl ?_
                  refine vn (i := 20) rfl rfl ?_
                  refine vn (i := 21) rfl rfl ?_
                  refine vn (i := 22) rfl rfl ?_
                  refine vn (i := 23) rfl rfl ?_
                  refine vn (i := 24) rfl rfl ?_
                  refine vn (i := 25) rfl rfl ?_
                  refine vn (i := 26) rfl rfl ?_
                  refine vm (i := 27) (v := .bool false) rfl rfl rfl ?_
                  refine vm (i := 28) (v := .bool false) rfl rfl rfl ?_
                  refine vn (i := 29) rfl rfl ?_
                  refine vn (i := 30) rfl rfl ?_
                  refine vn (i := 31) rfl rfl ?_
                  refine vn (i := 32) rfl rfl ?_
                  refine vn (i := 33) rfl rfl ?_
                  refine vn (i := 34) rfl rfl ?_
                  refine vn (i := 35) rfl rfl ?_
                  refine vn (i := 36) rfl rfl ?_
                  refine vn (i := 37) rfl rfl ?_
                  refine vn (i := 38) rfl rfl ?_
                  refine vn (i := 39) rfl rfl ?_
                  refine vn (i := 40) rfl rfl ?_
                  refine vn (i := 41) rfl rfl ?_
                  refine vm (i := 42) (v := .bool false) rfl rfl rfl ?_
                  refine wpV_done (by kernel_rfl) (fun W50 hW50 => ?_) _
                  refine (show Code.wp _ _ _ _ _ from ?_)
                  refine wp_cond_false rfl ?_
                  refine wp_skip ?_
                  refine (show Code.wp _ _ _ _ _ from ?_)
                  refine wp_region_L (W0 := w) [(g1, .cells (shC (.slice pc cs.length cc) (.slice po os.length co) t).toArray 32 (0, 0))] (hW50) ?_
                  refine lm (v := .int .i64 ((k : Nat) : Int)) rfl rfl ?_
                  refine lp (v := .int .i64 (((k + 1) : Nat) : Int)) rfl rfl (run_bin rfl (vx := (.int .i64 ((k : Nat) : Int))) (vy := (.int .i64 ((1 : Nat) : Int))) (by kernel_rfl) (by kernel_rfl) fun w => bn_add (z := (k + 1)) rfl (wr_i64 (by omega)) w) ?_
                  refine lm (v := .int .i64 (((k + 1) : Nat) : Int)) rfl rfl ?_
                  refine wpL_done (fun W51 hW51 => ?_)
                  go_roundw
                  case rel =>
                    repeat apply Exists.intro
                    exact ⟨⟨k + 1, (by omega), (ne_c hN hy10 (fun e => by obtain ⟨g1, g2, g3⟩ := place_inj e; simp_all)), rfl, (hW51.sub (fun p hp => by first | exact hp | (simp only [List.mem_cons, List.mem_append, List.nil_append, List.not_mem_nil, or_assoc, or_false, false_or] at hp ⊢ <;> grind)))⟩, rfl⟩
                  case measure => (show i - (intOf (.int .i64 (((k + 1) : Nat) : Int))).toNat < i - (intOf (.int .i64 ((k : Nat) : Int))).toNat); simp only [intOf]; omega
                | true =>
                  have h19 : y10.bay = y9.bay := of_decide_eq_true hd19
                  clear hd19
                  refine vm (i := 14) (v := .pointer (some ⟨g1, 0, none⟩)) rfl rfl rfl ?_
                  refine vv (i := 15) (v := .slice pc cs.length cc) rfl rfl rfl (yb_cell (off := 0) rfl (by kernel_rfl) (.head _) Try.underlying22 rfl (by kernel_rfl)) ?_
                  refine vm (i := 16) (v := .int .i64 ((k : Nat) : Int)) rfl rfl rfl ?_
                  refine vp (i := 17) (v := .pointer (some ⟨g10_, f10_ + k * 12, none⟩)) rfl rfl rfl (run_idxQ (p := pc) (cap := cc) (n := cs.length) (j := .i64) (k := k) (sz := 12) rfl Try.underlying22 (by kernel_rfl) (by kernel_rfl) hp10 (by kernel_rfl) (by omega)) ?_
                  refine vm (i := 18) (v := .pointer (some ⟨g10_, f10_ + k * 12 + 1, none⟩)) rfl rfl rfl ?_
                  refine vb (i := 19) (v := .int .i64 y10.row) rfl rfl rfl (yb_rf (v := .int .i64 y10.row) rfl (by kernel_rfl) (fun W hW => hc10 W (hW.sub (fun _ h => by cases h)) 1 _ rfl) Try.underlying3 rfl) ?_
                  refine vm (i := 20) (v := .pointer (some ⟨g1, 0, none⟩)) rfl rfl rfl ?_
                  refine vv (i := 21) (v := .slice pc cs.length cc) rfl rfl rfl (yb_cell (off := 0) rfl (by kernel_rfl) (.head _) Try.underlying22 rfl (by kernel_rfl)) ?_
                  refine vm (i := 22) (v := .int .i64 ((i : Nat) : Int)) rfl rfl rfl ?_
                  refine vp (i := 23) (v := .pointer (some ⟨g9_, f9_ + i * 12, none⟩)) rfl rfl rfl (run_idxQ (p := pc) (cap := cc) (n := cs.length) (j := .i64) (k := i) (sz := 12) rfl Try.underlying22 (by kernel_rfl) (by kernel_rfl) hp9 (by kernel_rfl) (by omega)) ?_
                  refine vm (i := 24) (v := .pointer (some ⟨g9_, f9_ + i * 12 + 1, none⟩)) rfl rfl rfl ?_
                  refine vb (i := 25) (v := .int .i64 y9.row) rfl rfl rfl (yb_rf (v := .int .i64 y9.row) rfl (by kernel_rfl) (fun W hW => hc9 W (hW.sub (fun _ h => by cases h)) 1 _ rfl) Try.underlying3 rfl) ?_
                  refine vp (i := 26) (v := .bool (decide (y10.row = y9.row))) rfl rfl rfl (run_bin rfl (vx := (.int .i64 y10.row)) (vy := (.int .i64 y9.row)) (by kernel_rfl) (by kernel_rfl) fun w => bi_eql rfl w) ?_
                  refine vm (i := 27) (v := .bool (decide (y10.row = y9.row))) rfl rfl rfl ?_
                  refine vm (i := 28) (v := .bool (decide (y10.row = y9.row))) rfl rfl rfl ?_
                  cases hd20 : (decide (y10.row = y9.row)) with
                  | false =>
                    have h20 : ¬ (y10.row = y9.row) := of_decide_eq_false hd20
                    clear hd20
                    refine vn (i := 29) rfl rfl ?_
                    refine vn (i := 30) rfl rfl ?_
                    refine vn (i := 31) rfl rfl ?_
                    refine vn (i := 32) rfl rfl ?_
                    refine vn (i := 33) rfl rfl ?_
                    refine vn (i := 34) rfl rfl ?_
                    refine vn (i := 35) rfl rfl ?_
                    refine vn (i := 36) rfl rfl ?_
                    refine vn (i := 37) rfl rfl ?_
                    refine vn (i := 38) rfl rfl ?_
                    refine vn (i := 39) rfl rfl ?_
                    refine vn (i := 40) rfl rfl ?_
                    refine vn (i := 41) rfl rfl ?_
                    refine vm (i := 42) (v := .bool false) rfl rfl rfl ?_
                    refine wpV_done (by kernel_rfl) (fun W52 hW52 => ?_) _
                    refine (show Code.wp _ _ _ _ _ from ?_)
                    refine wp_cond_false rfl ?_
                    refine wp_skip ?_
                    refine (show Code.wp _ _ _ _ _ from ?_)
                    refine wp_region_L (W0 := w) [(g1, .cells (shC (.slice pc cs.length cc) (.slice po os.length co) t).toArray 32 (0, 0))] (hW52) ?_
                    refine lm (v := .int .i64 ((k : Nat) : Int)) rfl rfl ?_
                    refine lp (v := .int .i64 (((k + 1) : Nat) : Int)) rfl rfl (run_bin rfl (vx := (.int .i64 ((k : Nat) : Int))) (vy := (.int .i64 ((1 : Nat) : Int))) (by kernel_rfl) (by kernel_rfl) fun w => bn_add (z := (k + 1)) rfl (wr_i64 (by omega)) w) ?_
                    refine lm (v := .int .i64 (((k + 1) : Nat) : Int)) rfl rfl ?_
                    refine wpL_done (fun W53 hW53 => ?_)
                    go_roundw
                    case rel =>
                      repeat apply Exists.intro
                      exact ⟨⟨k + 1, (by omega), (ne_c hN hy10 (fun e => by obtain ⟨g1, g2, g3⟩ := place_inj e; simp_all)), rfl, (hW53.sub (fun p hp => by first | exact hp | (simp only [List.mem_cons, List.mem_append, List.nil_append, List.not_mem_nil, or_assoc, or_false, false_or] at hp ⊢ <;> grind)))⟩, rfl⟩
                    case measure => (show i - (intOf (.int .i64 (((k + 1) : Nat) : Int))).toNat < i - (intOf (.int .i64 ((k : Nat) : Int))).toNat); simp only [intOf]; omega
                  | true =>
                    have h20 : y10.row = y9.row := of_decide_eq_true hd20
                    clear hd20
                    refine vm (i := 29) (v := .pointer (some ⟨g1, 0, none⟩)) rfl rfl rfl ?_
                    refine vv (i := 30) (v := .slice pc cs.length cc) rfl rfl rfl (yb_cell (off := 0) rfl (by kernel_rfl) (.head _) Try.underlying22 rfl (by kernel_rfl)) ?_
                    refine vm (i := 31) (v := .int .i64 ((k : Nat) : Int)) rfl rfl rfl ?_
                    refine vp (i := 32) (v := .pointer (some ⟨g10_, f10_ + k * 12, none⟩)) rfl rfl rfl (run_idxQ (p := pc) (cap := cc) (n := cs.length) (j := .i64) (k := k) (sz := 12) rfl Try.underlying22 (by kernel_rfl) (by kernel_rfl) hp10 (by kernel_rfl) (by omega)) ?_
                    refine vm (i := 33) (v := .pointer (some ⟨g10_, f10_ + k * 12 + 2, none⟩)) rfl rfl rfl ?_
                    refine vb (i := 34) (v := .bool y10.deck) rfl rfl rfl (yb_rf (v := .bool y10.deck) rfl (by kernel_rfl) (fun W hW => hc10 W (hW.sub (fun _ h => by cases h)) 2 _ rfl) Try.underlying4 rfl) ?_
                    refine vm (i := 35) (v := .pointer (some ⟨g1, 0, none⟩)) rfl rfl rfl ?_
                    refine vv (i := 36) (v := .slice pc cs.length cc) rfl rfl rfl (yb_cell (off := 0) rfl (by kernel_rfl) (.head _) Try.underlying22 rfl (by kernel_rfl)) ?_
                    refine vm (i := 37) (v := .int .i64 ((i : Nat) : Int)) rfl rfl rfl ?_
                    refine vp (i := 38) (v := .pointer (some ⟨g9_, f9_ + i * 12, none⟩)) rfl rfl rfl (run_idxQ (p := pc) (cap := cc) (n := cs.length) (j := .i64) (k := i) (sz := 12) rfl Try.underlying22 (by kernel_rfl) (by kernel_rfl) hp9 (by kernel_rfl) (by omega)) ?_
                    refine vm (i := 39) (v := .pointer (some ⟨g9_, f9_ + i * 12 + 2, none⟩)) rfl rfl rfl ?_
                    refine vb (i := 40) (v := .bool y9.deck) rfl rfl rfl (yb_rf (v := .bool y9.deck) rfl (by kernel_rfl) (fun W hW => hc9 W (hW.sub (fun _ h => by cases h)) 2 _ rfl) Try.underlying4 rfl) ?_
                    refine vp (i := 41) (v := .bool (y10.deck == y9.deck)) rfl rfl rfl (run_bin rfl (vx := .bool y10.deck) (vy := .bool y9.deck) (by kernel_rfl) (by kernel_rfl) fun w => bn_bool_eql rfl Try.underlying4 w) ?_
                    refine vm (i := 42) (v := .bool (y10.deck == y9.deck)) rfl rfl rfl ?_
                    refine wpV_done (by kernel_rfl) (fun W54 hW54 => ?_) _
                    refine (show Code.wp _ _ _ _ _ from ?_)
                    cases h21 : (y10.deck == y9.deck) with
                    | false =>
                      refine wp_cond_false rfl ?_
                      refine wp_skip ?_
                      refine (show Code.wp _ _ _ _ _ from ?_)
                      refine wp_region_L (W0 := w) [(g1, .cells (shC (.slice pc cs.length cc) (.slice po os.length co) t).toArray 32 (0, 0))] (hW54) ?_
                      refine lm (v := .int .i64 ((k : Nat) : Int)) rfl rfl ?_
                      refine lp (v := .int .i64 (((k + 1) : Nat) : Int)) rfl rfl (run_bin rfl (vx := (.int .i64 ((k : Nat) : Int))) (vy := (.int .i64 ((1 : Nat) : Int))) (by kernel_rfl) (by kernel_rfl) fun w => bn_add (z := (k + 1)) rfl (wr_i64 (by omega)) w) ?_
                      refine lm (v := .int .i64 (((k + 1) : Nat) : Int)) rfl rfl ?_
                      refine wpL_done (fun W55 hW55 => ?_)
                      go_roundw
                      case rel =>
                        repeat apply Exists.intro
                        exact ⟨⟨k + 1, (by omega), (ne_c hN hy10 (fun e => by obtain ⟨g1, g2, g3⟩ := place_inj e; simp_all)), rfl, (hW55.sub (fun p hp => by first | exact hp | (simp only [List.mem_cons, List.mem_append, List.nil_append, List.not_mem_nil, or_assoc, or_false, false_or] at hp ⊢ <;> grind)))⟩, rfl⟩
                      case measure => (show i - (intOf (.int .i64 (((k + 1) : Nat) : Int))).toNat < i - (intOf (.int .i64 ((k : Nat) : Int))).toNat); simp only [intOf]; omega
                    | true =>
                      refine wp_cond_true rfl ?_
                      refine wp_seq ?_
                      refine wp_region_L (W0 := w) [(g1, .cells (shC (.slice pc cs.length cc) (.slice po os.length co) t).toArray 32 (0, 0))] (hW54) ?_
                      refine lm (v := .bool false) rfl rfl ?_
                      refine wpL_done (fun W56 hW56 => ?_)
                      refine (show Code.wp _ _ _ _ _ from ?_)
                      refine wp_ret ?_
                      try simp only [inBlock_ret, then_ret]
                      refine bodyPost_ret (v := .bool false) ?_ rfl ?_
                      · kernel_rfl
                      · exact ⟨(bool_is (dup_at hy10 hy9 h18 (place_eq h19 h20 (by simpa using h21))).symm), hW56.1⟩
    | true =>
      have h2 : 40 < os.length := of_decide_eq_true hd2
      clear hd2
      refine wp_cond_true rfl ?_
      refine wp_seq ?_
      refine wp_region_L (W0 := w) [(g1, .cells (shC (.slice pc cs.length cc) (.slice po os.length co) t).toArray 32 (0, 0))] (hW4) ?_
      refine lm (v := .bool false) rfl rfl ?_
      refine wpL_done (fun W57 hW57 => ?_)
      refine (show Code.wp _ _ _ _ _ from ?_)
      refine wp_ret ?_
      try simp only [inBlock_ret, then_ret]
      refine bodyPost_ret (v := .bool false) ?_ rfl ?_
      · kernel_rfl
      · exact ⟨(bool_is (many_bad h2).symm), hW57.1⟩
end Go.Proofs.Ythpooalhibedpaa
namespace Go.Proofs.Ythpooalhibedpaa
open Go Go.RowKit Tw
end Go.Proofs.Ythpooalhibedpaa
namespace Go.Proofs.Ythpooalhibedpaa
open Go Go.RowKit Tw
set_option maxRecDepth 100000 in
set_option maxHeartbeats 4000000 in
theorem RTallest_any (cs : List Col) (pc : Option Addr) (cc : Nat) (lc : cs.length ≤ 4000000000) (os : List Cov) (po : Option Addr) (co : Nat) (lo : os.length ≤ 4000000000) (t : Tl) (w : World) (hc : SLV w pc (cs.flatMap colC)) (ho : SLV w po (os.flatMap covC)) : Calls Try.prog 19 #[.agg (shC (.slice pc cs.length cc) (.slice po os.length co) t).toArray] w fun e w' => e = .returned (.int .i64 (tallX cs)) ∧ Below w.heap.size w w' := by
  have HC := Lib.hid hc
  clear hc
  have HO := Lib.hid ho
  clear ho
  go_enter Try.func19, Try.ntmps19
  refine wp_seq ?_
  refine wp_region_L (W0 := w) [] (KS.start w) ?_
  refine wpL_new (fun g => .pointer (some ⟨g, 0, none⟩)) (obi := .cells (shC (.slice pc cs.length cc) (.slice po os.length co) t).toArray 32 (0, 0)) rfl rfl (fun _ => by kernel_rfl) (fun _ => by simp only [List.setIfInBounds_toArray, List.set_cons_succ, List.set_cons_zero] <;> rfl) fun g1 Bg1 Fg1 => ?_
  refine lm (v := .int .i64 0) rfl rfl ?_
  refine wpL_done (fun W1 hW1 => ?_)
  refine (show Code.wp _ _ _ _ _ from ?_)
  refine wp_seq ?_
  refine wp_region_L (W0 := w) [(g1, .cells (shC (.slice pc cs.length cc) (.slice po os.length co) t).toArray 32 (0, 0))] (hW1) ?_
  refine lm (v := .int .i64 0) rfl rfl ?_
  refine wpL_done (fun W2 hW2 => ?_)
  refine (show Code.wp _ _ _ _ _ from ?_)
  refine wp_seq ?_
  refine wp_seq ?_
  refine wp_region_L (W0 := w) [(g1, .cells (shC (.slice pc cs.length cc) (.slice po os.length co) t).toArray 32 (0, 0))] (hW2) ?_
  refine lm (v := .int .i64 0) rfl rfl ?_
  refine wpL_done (fun W3 hW3 => ?_)
  refine (show Code.wp _ _ _ _ _ from ?_)
  refine wp_block ?_
  go_loopw [4, 3] (fun u4 u3 wr => ∃ (k : Nat) (m : Int), (k ≤ cs.length) ∧ (k = 0 ∨ tallX cs = tallF m (cs.drop k)) ∧ (k = 0 → m = 0) ∧ u4 = .int .i64 ((k : Nat) : Int) ∧ u3 = .int .i64 m ∧ KS w [(g1, .cells (shC (.slice pc cs.length cc) (.slice po os.length co) t).toArray 32 (0, 0))] wr) (fun u4 _ _ => cs.length - (intOf u4).toNat)
  case atStart => exact ⟨0, 0, (Nat.zero_le _), (.inl rfl), (fun _ => rfl), rfl, rfl, (hW3.sub (fun p hp => by first | exact hp | (simp only [List.mem_cons, List.mem_append, List.nil_append, List.not_mem_nil, or_assoc, or_false, false_or] at hp ⊢ <;> grind)))⟩
  case round =>
    obtain ⟨k, m, hk, hm, h0, rfl, rfl, hL4⟩ := hrel
    refine wp_seq ?_
    refine wp_seq ?_
    refine wp_region_L (W0 := w) [(g1, .cells (shC (.slice pc cs.length cc) (.slice po os.length co) t).toArray 32 (0, 0))] (hL4) ?_
    refine lm (v := .int .i64 ((k : Nat) : Int)) rfl rfl ?_
    refine lm (v := .pointer (some ⟨g1, 0, none⟩)) rfl rfl ?_
    refine lv (v := .slice pc cs.length cc) rfl rfl (yb_cell (off := 0) rfl (by kernel_rfl) (.head _) Try.underlying22 rfl (by kernel_rfl)) ?_
    refine lp (v := .int .i64 ((cs.length : Nat) : Int)) rfl rfl (run_lenL (p := pc) (cap := cc) (n := cs.length) rfl Try.underlying22 (by kernel_rfl)) ?_
    refine lp (v := .bool (decide (k < cs.length))) rfl rfl (run_bin rfl (vx := (.int .i64 ((k : Nat) : Int))) (vy := (.int .i64 ((cs.length : Nat) : Int))) (by kernel_rfl) (by kernel_rfl) fun w => bn_lss rfl w) ?_
    refine wpL_done (fun W5 hW5 => ?_)
    refine (show Code.wp _ _ _ _ _ from ?_)
    cases hd1 : (decide (k < cs.length)) with
    | false =>
      have h1 : ¬ (k < cs.length) := of_decide_eq_false hd1
      clear hd1
      refine wp_cond_false rfl ?_
      refine wp_exit ?_
      refine (show Code.wp _ _ _ _ _ from ?_)
      refine wp_seq ?_
      refine wp_region_L (W0 := w) [(g1, .cells (shC (.slice pc cs.length cc) (.slice po os.length co) t).toArray 32 (0, 0))] (hW5) ?_
      refine lm (v := .int .i64 m) rfl rfl ?_
      refine lm (v := .int .i64 m) rfl rfl ?_
      refine wpL_done (fun W6 hW6 => ?_)
      refine (show Code.wp _ _ _ _ _ from ?_)
      refine wp_ret ?_
      try simp only [inBlock_ret, then_ret]
      refine bodyPost_ret (v := .int .i64 m) ?_ rfl ?_
      · kernel_rfl
      · exact ⟨(int_is (tallE hm h0 h1)), hW6.1⟩
    | true =>
      have h1 : k < cs.length := of_decide_eq_true hd1
      clear hd1
      refine wp_cond_true rfl ?_
      refine wp_skip ?_
      refine (show Code.wp _ _ _ _ _ from ?_)
      refine wp_seq ?_
      refine wp_block ?_
      refine wp_seq ?_
      refine wp_region_L (W0 := w) [(g1, .cells (shC (.slice pc cs.length cc) (.slice po os.length co) t).toArray 32 (0, 0))] (hW5) ?_
      refine lm (v := .int .i64 ((k : Nat) : Int)) rfl rfl ?_
      refine lp (v := .bool (decide (k = 0))) rfl rfl (run_bin rfl (vx := (.int .i64 ((k : Nat) : Int))) (vy := (.int .i64 ((0 : Nat) : Int))) (by kernel_rfl) (by kernel_rfl) fun w => bn_eql rfl w) ?_
      refine lm (v := .bool (decide (k = 0))) rfl rfl ?_
      cases hd2 : (decide (k = 0)) with
      | false =>
        have h2 : ¬ (k = 0) := of_decide_eq_false hd2
        clear hd2
        refine lm (v := .pointer (some ⟨g1, 0, none⟩)) rfl rfl ?_
        refine lv (v := .slice pc cs.length cc) rfl rfl (yb_cell (off := 0) rfl (by kernel_rfl) (.head _) Try.underlying22 rfl (by kernel_rfl)) ?_
        refine lm (v := .int .i64 ((k : Nat) : Int)) rfl rfl ?_
        obtain ⟨y2, g2_, f2_, hy2, hp2, hc2⟩ := RL.at (RL.base HC.out) colC_len (by decide) (hW5.sub (fun _ h => by cases h)) (k := k) (by omega)
        refine lp (v := .pointer (some ⟨g2_, f2_ + k * 12, none⟩)) rfl rfl (run_idxQ (p := pc) (cap := cc) (n := cs.length) (j := .i64) (k := k) (sz := 12) rfl Try.underlying22 (by kernel_rfl) (by kernel_rfl) hp2 (by kernel_rfl) (by omega)) ?_
        refine lm (v := .pointer (some ⟨g2_, f2_ + k * 12 + 3, none⟩)) rfl rfl ?_
        refine lv (v := .int .i64 y2.tiers) rfl rfl (yb_rf (v := .int .i64 y2.tiers) rfl (by kernel_rfl) (fun W hW => hc2 W (hW.sub (fun _ h => by cases h)) 3 _ rfl) Try.underlying3 rfl) ?_
        refine lm (v := .int .i64 m) rfl rfl ?_
        refine lp (v := .bool (decide (m < y2.tiers))) rfl rfl (run_bin rfl (vx := (.int .i64 y2.tiers)) (vy := (.int .i64 m)) (by kernel_rfl) (by kernel_rfl) fun w => bi_gtr rfl w) ?_
        refine lm (v := .bool (decide (m < y2.tiers))) rfl rfl ?_
        refine wpL_done (fun W7 hW7 => ?_)
        refine (show Code.wp _ _ _ _ _ from ?_)
        cases hd3 : (decide (m < y2.tiers)) with
        | false =>
          have h3 : ¬ (m < y2.tiers) := of_decide_eq_false hd3
          clear hd3
          refine wp_cond_false rfl ?_
          refine wp_skip ?_
          refine (show Code.wp _ _ _ _ _ from ?_)
          refine wp_region_L (W0 := w) [(g1, .cells (shC (.slice pc cs.length cc) (.slice po os.length co) t).toArray 32 (0, 0))] (hW7) ?_
          refine lm (v := .int .i64 ((k : Nat) : Int)) rfl rfl ?_
          refine lp (v := .int .i64 (((k + 1) : Nat) : Int)) rfl rfl (run_bin rfl (vx := (.int .i64 ((k : Nat) : Int))) (vy := (.int .i64 ((1 : Nat) : Int))) (by kernel_rfl) (by kernel_rfl) fun w => bn_add (z := (k + 1)) rfl (wr_i64 (by omega)) w) ?_
          refine lm (v := .int .i64 (((k + 1) : Nat) : Int)) rfl rfl ?_
          refine wpL_done (fun W8 hW8 => ?_)
          go_roundw
          case rel =>
            repeat apply Exists.intro
            exact ⟨⟨k + 1, m, (by omega), (.inr (tallN hy2 hm h2 h3)), (fun h => by omega), rfl, rfl, (hW8.sub (fun p hp => by first | exact hp | (simp only [List.mem_cons, List.mem_append, List.nil_append, List.not_mem_nil, or_assoc, or_false, false_or] at hp ⊢ <;> grind)))⟩, rfl⟩
          case measure => (show cs.length - (intOf (.int .i64 (((k + 1) : Nat) : Int))).toNat < cs.length - (intOf (.int .i64 ((k : Nat) : Int))).toNat); simp only [intOf]; omega
        | true =>
          have h3 : m < y2.tiers := of_decide_eq_true hd3
          clear hd3
          refine wp_cond_true rfl ?_
          refine wp_region_L (W0 := w) [(g1, .cells (shC (.slice pc cs.length cc) (.slice po os.length co) t).toArray 32 (0, 0))] (hW7) ?_
          refine lm (v := .pointer (some ⟨g1, 0, none⟩)) rfl rfl ?_
          refine lv (v := .slice pc cs.length cc) rfl rfl (yb_cell (off := 0) rfl (by kernel_rfl) (.head _) Try.underlying22 rfl (by kernel_rfl)) ?_
          refine lm (v := .int .i64 ((k : Nat) : Int)) rfl rfl ?_
          refine lp (v := .pointer (some ⟨g2_, f2_ + k * 12, none⟩)) rfl rfl (run_idxQ (p := pc) (cap := cc) (n := cs.length) (j := .i64) (k := k) (sz := 12) rfl Try.underlying22 (by kernel_rfl) (by kernel_rfl) hp2 (by kernel_rfl) (by omega)) ?_
          refine lm (v := .pointer (some ⟨g2_, f2_ + k * 12 + 3, none⟩)) rfl rfl ?_
          refine lv (v := .int .i64 y2.tiers) rfl rfl (yb_rf (v := .int .i64 y2.tiers) rfl (by kernel_rfl) (fun W hW => hc2 W (hW.sub (fun _ h => by cases h)) 3 _ rfl) Try.underlying3 rfl) ?_
          refine lm (v := .int .i64 y2.tiers) rfl rfl ?_
          refine wpL_done (fun W9 hW9 => ?_)
          refine (show Code.wp _ _ _ _ _ from ?_)
          refine wp_region_L (W0 := w) [(g1, .cells (shC (.slice pc cs.length cc) (.slice po os.length co) t).toArray 32 (0, 0))] (hW9) ?_
          refine lm (v := .int .i64 ((k : Nat) : Int)) rfl rfl ?_
          refine lp (v := .int .i64 (((k + 1) : Nat) : Int)) rfl rfl (run_bin rfl (vx := (.int .i64 ((k : Nat) : Int))) (vy := (.int .i64 ((1 : Nat) : Int))) (by kernel_rfl) (by kernel_rfl) fun w => bn_add (z := (k + 1)) rfl (wr_i64 (by omega)) w) ?_
          refine lm (v := .int .i64 (((k + 1) : Nat) : Int)) rfl rfl ?_
          refine wpL_done (fun W10 hW10 => ?_)
          go_roundw
          case rel =>
            repeat apply Exists.intro
            exact ⟨⟨k + 1, y2.tiers, (by omega), (.inr (tallR hy2 hm (.inr h3))), (fun h => by omega), rfl, rfl, (hW10.sub (fun p hp => by first | exact hp | (simp only [List.mem_cons, List.mem_append, List.nil_append, List.not_mem_nil, or_assoc, or_false, false_or] at hp ⊢ <;> grind)))⟩, rfl⟩
          case measure => (show cs.length - (intOf (.int .i64 (((k + 1) : Nat) : Int))).toNat < cs.length - (intOf (.int .i64 ((k : Nat) : Int))).toNat); simp only [intOf]; omega
      | true =>
        have h2 : k = 0 := of_decide_eq_true hd2
        clear hd2
        refine ln rfl ?_
        refine ln rfl ?_
        refine ln rfl ?_
        refine ln rfl ?_
        refine ln rfl ?_
        refine ln rfl ?_
        refine ln rfl ?_
        refine ln rfl ?_
        refine lm (v := .bool true) rfl rfl ?_
        refine wpL_done (fun W11 hW11 => ?_)
        refine (show Code.wp _ _ _ _ _ from ?_)
        refine wp_cond_true rfl ?_
        refine wp_region_L (W0 := w) [(g1, .cells (shC (.slice pc cs.length cc) (.slice po os.length co) t).toArray 32 (0, 0))] (hW11) ?_
        refine lm (v := .pointer (some ⟨g1, 0, none⟩)) rfl rfl ?_
        refine lv (v := .slice pc cs.length cc) rfl rfl (yb_cell (off := 0) rfl (by kernel_rfl) (.head _) Try.underlying22 rfl (by kernel_rfl)) ?_
        refine lm (v := .int .i64 ((k : Nat) : Int)) rfl rfl ?_
        obtain ⟨y3, g3_, f3_, hy3, hp3, hc3⟩ := RL.at (RL.base HC.out) colC_len (by decide) (hW11.sub (fun _ h => by cases h)) (k := k) (by omega)
        refine lp (v := .pointer (some ⟨g3_, f3_ + k * 12, none⟩)) rfl rfl (run_idxQ (p := pc) (cap := cc) (n := cs.length) (j := .i64) (k := k) (sz := 12) rfl Try.underlying22 (by kernel_rfl) (by kernel_rfl) hp3 (by kernel_rfl) (by omega)) ?_
        refine lm (v := .pointer (some ⟨g3_, f3_ + k * 12 + 3, none⟩)) rfl rfl ?_
        refine lv (v := .int .i64 y3.tiers) rfl rfl (yb_rf (v := .int .i64 y3.tiers) rfl (by kernel_rfl) (fun W hW => hc3 W (hW.sub (fun _ h => by cases h)) 3 _ rfl) Try.underlying3 rfl) ?_
        refine lm (v := .int .i64 y3.tiers) rfl rfl ?_
        refine wpL_done (fun W12 hW12 => ?_)
        refine (show Code.wp _ _ _ _ _ from ?_)
        refine wp_region_L (W0 := w) [(g1, .cells (shC (.slice pc cs.length cc) (.slice po os.length co) t).toArray 32 (0, 0))] (hW12) ?_
        refine lm (v := .int .i64 ((k : Nat) : Int)) rfl rfl ?_
        refine lp (v := .int .i64 (((k + 1) : Nat) : Int)) rfl rfl (run_bin rfl (vx := (.int .i64 ((k : Nat) : Int))) (vy := (.int .i64 ((1 : Nat) : Int))) (by kernel_rfl) (by kernel_rfl) fun w => bn_add (z := (k + 1)) rfl (wr_i64 (by omega)) w) ?_
        refine lm (v := .int .i64 (((k + 1) : Nat) : Int)) rfl rfl ?_
        refine wpL_done (fun W13 hW13 => ?_)
        go_roundw
        case rel =>
          repeat apply Exists.intro
          exact ⟨⟨k + 1, y3.tiers, (by omega), (.inr (tallR hy3 hm (.inl h2))), (fun h => by omega), rfl, rfl, (hW13.sub (fun p hp => by first | exact hp | (simp only [List.mem_cons, List.mem_append, List.nil_append, List.not_mem_nil, or_assoc, or_false, false_or] at hp ⊢ <;> grind)))⟩, rfl⟩
        case measure => (show cs.length - (intOf (.int .i64 (((k + 1) : Nat) : Int))).toNat < cs.length - (intOf (.int .i64 ((k : Nat) : Int))).toNat); simp only [intOf]; omega
set_option maxRecDepth 100000 in
set_option maxHeartbeats 4000000 in
theorem RPlaces_any (cs : List Col) (pc : Option Addr) (cc : Nat) (lc : cs.length ≤ 4000000000) (os : List Cov) (po : Option Addr) (co : Nat) (lo : os.length ≤ 4000000000) (t : Tl) (w : World) (hc : SLV w pc (cs.flatMap colC)) (ho : SLV w po (os.flatMap covC)) : Calls Try.prog 21 #[.agg (shC (.slice pc cs.length cc) (.slice po os.length co) t).toArray] w fun e w' => e = .returned (.int .i64 (placesX cs)) ∧ Below w.heap.size w w' := by
  have HC := Lib.hid hc
  clear hc
  have HO := Lib.hid ho
  clear ho
  go_enter Try.func21, Try.ntmps21
  refine wp_seq ?_
  refine wp_region_L (W0 := w) [] (KS.start w) ?_
  refine wpL_new (fun g => .pointer (some ⟨g, 0, none⟩)) (obi := .cells (shC (.slice pc cs.length cc) (.slice po os.length co) t).toArray 32 (0, 0)) rfl rfl (fun _ => by kernel_rfl) (fun _ => by simp only [List.setIfInBounds_toArray, List.set_cons_succ, List.set_cons_zero] <;> rfl) fun g1 Bg1 Fg1 => ?_
  refine lm (v := .int .i64 0) rfl rfl ?_
  refine wpL_done (fun W1 hW1 => ?_)
  refine (show Code.wp _ _ _ _ _ from ?_)
  refine wp_seq ?_
  refine wp_region_L (W0 := w) [(g1, .cells (shC (.slice pc cs.length cc) (.slice po os.length co) t).toArray 32 (0, 0))] (hW1) ?_
  refine lm (v := .int .i64 0) rfl rfl ?_
  refine wpL_done (fun W2 hW2 => ?_)
  refine (show Code.wp _ _ _ _ _ from ?_)
  refine wp_seq ?_
  refine wp_seq ?_
  refine wp_region_L (W0 := w) [(g1, .cells (shC (.slice pc cs.length cc) (.slice po os.length co) t).toArray 32 (0, 0))] (hW2) ?_
  refine lm (v := .int .i64 0) rfl rfl ?_
  refine wpL_done (fun W3 hW3 => ?_)
  refine (show Code.wp _ _ _ _ _ from ?_)
  refine wp_block ?_
  go_loopw [4, 3] (fun u4 u3 wr => ∃ (k : Nat) (m s9 : Int), (k ≤ cs.length) ∧ (placesX cs = IntKind.i64.wrap (2 * tiersF m (cs.drop k))) ∧ (s9 = IntKind.i64.wrap (2 * m)) ∧ u4 = .int .i64 ((k : Nat) : Int) ∧ u3 = .int .i64 s9 ∧ KS w [(g1, .cells (shC (.slice pc cs.length cc) (.slice po os.length co) t).toArray 32 (0, 0))] wr) (fun u4 _ _ => cs.length - (intOf u4).toNat)
  case atStart => exact ⟨0, 0, 0, (Nat.zero_le _), rfl, (by decide), rfl, rfl, (hW3.sub (fun p hp => by first | exact hp | (simp only [List.mem_cons, List.mem_append, List.nil_append, List.not_mem_nil, or_assoc, or_false, false_or] at hp ⊢ <;> grind)))⟩
  case round =>
    obtain ⟨k, m, s9, hk, hP, hs, rfl, rfl, hL4⟩ := hrel
    refine wp_seq ?_
    refine wp_seq ?_
    refine wp_region_L (W0 := w) [(g1, .cells (shC (.slice pc cs.length cc) (.slice po os.length co) t).toArray 32 (0, 0))] (hL4) ?_
    refine lm (v := .int .i64 ((k : Nat) : Int)) rfl rfl ?_
    refine lm (v := .pointer (some ⟨g1, 0, none⟩)) rfl rfl ?_
    refine lv (v := .slice pc cs.length cc) rfl rfl (yb_cell (off := 0) rfl (by kernel_rfl) (.head _) Try.underlying22 rfl (by kernel_rfl)) ?_
    refine lp (v := .int .i64 ((cs.length : Nat) : Int)) rfl rfl (run_lenL (p := pc) (cap := cc) (n := cs.length) rfl Try.underlying22 (by kernel_rfl)) ?_
    refine lp (v := .bool (decide (k < cs.length))) rfl rfl (run_bin rfl (vx := (.int .i64 ((k : Nat) : Int))) (vy := (.int .i64 ((cs.length : Nat) : Int))) (by kernel_rfl) (by kernel_rfl) fun w => bn_lss rfl w) ?_
    refine wpL_done (fun W5 hW5 => ?_)
    refine (show Code.wp _ _ _ _ _ from ?_)
    cases hd1 : (decide (k < cs.length)) with
    | false =>
      have h1 : ¬ (k < cs.length) := of_decide_eq_false hd1
      clear hd1
      refine wp_cond_false rfl ?_
      refine wp_exit ?_
      refine (show Code.wp _ _ _ _ _ from ?_)
      refine wp_seq ?_
      refine wp_region_L (W0 := w) [(g1, .cells (shC (.slice pc cs.length cc) (.slice po os.length co) t).toArray 32 (0, 0))] (hW5) ?_
      refine lm (v := .int .i64 s9) rfl rfl ?_
      refine lm (v := .int .i64 s9) rfl rfl ?_
      refine wpL_done (fun W6 hW6 => ?_)
      refine (show Code.wp _ _ _ _ _ from ?_)
      refine wp_ret ?_
      try simp only [inBlock_ret, then_ret]
      refine bodyPost_ret (v := .int .i64 s9) ?_ rfl ?_
      · kernel_rfl
      · exact ⟨(int_is (by rw [hP, tiers_end h1, hs])), hW6.1⟩
    | true =>
      have h1 : k < cs.length := of_decide_eq_true hd1
      clear hd1
      refine wp_cond_true rfl ?_
      refine wp_skip ?_
      refine (show Code.wp _ _ _ _ _ from ?_)
      refine wp_seq ?_
      refine wp_block ?_
      refine wp_region_V (W0 := w) [(g1, .cells (shC (.slice pc cs.length cc) (.slice po os.length co) t).toArray 32 (0, 0))] (by kernel_rfl) (hW5) ?_
      refine vm (i := 0) (v := .int .i64 s9) rfl rfl rfl ?_
      refine vm (i := 1) (v := .pointer (some ⟨g1, 0, none⟩)) rfl rfl rfl ?_
      refine vv (i := 2) (v := .slice pc cs.length cc) rfl rfl rfl (yb_cell (off := 0) rfl (by kernel_rfl) (.head _) Try.underlying22 rfl (by kernel_rfl)) ?_
      refine vm (i := 3) (v := .int .i64 ((k : Nat) : Int)) rfl rfl rfl ?_
      obtain ⟨y2, g2_, f2_, hy2, hp2, hc2⟩ := RL.at (RL.base HC.out) colC_len (by decide) (hW5.sub (fun _ h => by cases h)) (k := k) (by omega)
      refine vp (i := 4) (v := .pointer (some ⟨g2_, f2_ + k * 12, none⟩)) rfl rfl rfl (run_idxQ (p := pc) (cap := cc) (n := cs.length) (j := .i64) (k := k) (sz := 12) rfl Try.underlying22 (by kernel_rfl) (by kernel_rfl) hp2 (by kernel_rfl) (by omega)) ?_
      refine vm (i := 5) (v := .pointer (some ⟨g2_, f2_ + k * 12 + 3, none⟩)) rfl rfl rfl ?_
      refine vb (i := 6) (v := .int .i64 y2.tiers) rfl rfl rfl (yb_rf (v := .int .i64 y2.tiers) rfl (by kernel_rfl) (fun W hW => hc2 W (hW.sub (fun _ h => by cases h)) 3 _ rfl) Try.underlying3 rfl) ?_
      refine vp (i := 7) (v := .int .i64 (IntKind.i64.wrap (s9 + y2.tiers))) rfl rfl rfl (run_bin rfl (vx := .int .i64 s9) (vy := .int .i64 y2.tiers) (by kernel_rfl) (by kernel_rfl) fun w => bw_add (z := (IntKind.i64.wrap (s9 + y2.tiers))) rfl w) ?_
      refine vm (i := 8) (v := .pointer (some ⟨g1, 0, none⟩)) rfl rfl rfl ?_
      refine vv (i := 9) (v := .slice pc cs.length cc) rfl rfl rfl (yb_cell (off := 0) rfl (by kernel_rfl) (.head _) Try.underlying22 rfl (by kernel_rfl)) ?_
      refine vm (i := 10) (v := .int .i64 ((k : Nat) : Int)) rfl rfl rfl ?_
      refine vp (i := 11) (v := .pointer (some ⟨g2_, f2_ + k * 12, none⟩)) rfl rfl rfl (run_idxQ (p := pc) (cap := cc) (n := cs.length) (j := .i64) (k := k) (sz := 12) rfl Try.underlying22 (by kernel_rfl) (by kernel_rfl) hp2 (by kernel_rfl) (by omega)) ?_
      refine vm (i := 12) (v := .pointer (some ⟨g2_, f2_ + k * 12 + 3, none⟩)) rfl rfl rfl ?_
      refine vb (i := 13) (v := .int .i64 y2.tiers) rfl rfl rfl (yb_rf (v := .int .i64 y2.tiers) rfl (by kernel_rfl) (fun W hW => hc2 W (hW.sub (fun _ h => by cases h)) 3 _ rfl) Try.underlying3 rfl) ?_
      refine vp (i := 14) (v := .int .i64 (IntKind.i64.wrap ((IntKind.i64.wrap (s9 + y2.tiers)) + y2.tiers))) rfl rfl rfl (run_bin rfl (vx := .int .i64 (IntKind.i64.wrap (s9 + y2.tiers))) (vy := .int .i64 y2.tiers) (by kernel_rfl) (by kernel_rfl) fun w => bw_add (z := (IntKind.i64.wrap ((IntKind.i64.wrap (s9 + y2.tiers)) + y2.tiers))) rfl w) ?_
      refine vm (i := 15) (v := .int .i64 (IntKind.i64.wrap ((IntKind.i64.wrap (s9 + y2.tiers)) + y2.tiers))) rfl rfl rfl ?_
      refine wpV_done (by kernel_rfl) (fun W7 hW7 => ?_) _
      refine (show Code.wp _ _ _ _ _ from ?_)
      refine wp_region_L (W0 := w) [(g1, .cells (shC (.slice pc cs.length cc) (.slice po os.length co) t).toArray 32 (0, 0))] (hW7) ?_
      refine lm (v := .int .i64 ((k : Nat) : Int)) rfl rfl ?_
      refine lp (v := .int .i64 (((k + 1) : Nat) : Int)) rfl rfl (run_bin rfl (vx := (.int .i64 ((k : Nat) : Int))) (vy := (.int .i64 ((1 : Nat) : Int))) (by kernel_rfl) (by kernel_rfl) fun w => bn_add (z := (k + 1)) rfl (wr_i64 (by omega)) w) ?_
      refine lm (v := .int .i64 (((k + 1) : Nat) : Int)) rfl rfl ?_
      refine wpL_done (fun W8 hW8 => ?_)
      go_roundw
      case rel =>
        repeat apply Exists.intro
        exact ⟨⟨k + 1, (IntKind.i64.wrap (m + y2.tiers)), (IntKind.i64.wrap ((IntKind.i64.wrap (s9 + y2.tiers)) + y2.tiers)), (by omega), (placesR hy2 hP hs).1, (placesR hy2 hP hs).2, rfl, rfl, (hW8.sub (fun p hp => by first | exact hp | (simp only [List.mem_cons, List.mem_append, List.nil_append, List.not_mem_nil, or_assoc, or_false, false_or] at hp ⊢ <;> grind)))⟩, rfl⟩
      case measure => (show cs.length - (intOf (.int .i64 (((k + 1) : Nat) : Int))).toNat < cs.length - (intOf (.int .i64 ((k : Nat) : Int))).toNat); simp only [intOf]; omega
end Go.Proofs.Ythpooalhibedpaa
namespace Go.Proofs.Ythpooalhibedpaa
open Go Go.RowKit Tw
set_option maxRecDepth 100000 in
set_option maxHeartbeats 4000000 in
theorem fewL_any (cs : List Col) (pc : Option Addr) (cc : Nat) (lc : cs.length ≤ 17592186044403) (os : List Cov) (po : Option Addr) (co : Nat) (lo : os.length ≤ 17592186044403) (t : Tl) (w : World) (hc : SLV w pc (cs.flatMap colC)) (ho : SLV w po (os.flatMap covC)) (lr : ∀ o ∈ os, o.rows.length ≤ 17592186044403) (lq : ∀ c ∈ cs, c.plugs.length ≤ 17592186044403) : Calls Try.prog 5 #[.agg (shC (.slice pc cs.length cc) (.slice po os.length co) t).toArray] w fun e w' => e = .returned (.bool (fewX cs os)) ∧ Below w.heap.size w w' := by
  have HC := Lib.hid hc
  clear hc
  have HO := Lib.hid ho
  clear ho
  go_enter Try.func5, Try.ntmps5
  refine wp_seq ?_
  refine wp_region_L (W0 := w) [] (KS.start w) ?_
  refine wpL_new (fun g => .pointer (some ⟨g, 0, none⟩)) (obi := .cells (shC (.slice pc cs.length cc) (.slice po os.length co) t).toArray 32 (0, 0)) rfl rfl (fun _ => by kernel_rfl) (fun _ => by simp only [List.setIfInBounds_toArray, List.set_cons_succ, List.set_cons_zero] <;> rfl) fun g1 Bg1 Fg1 => ?_
  refine lm (v := .bool false) rfl rfl ?_
  refine wpL_done (fun W1 hW1 => ?_)
  refine (show Code.wp _ _ _ _ _ from ?_)
  refine wp_seq ?_
  refine wp_seq ?_
  refine wp_region_L (W0 := w) [(g1, .cells (shC (.slice pc cs.length cc) (.slice po os.length co) t).toArray 32 (0, 0))] (hW1) ?_
  refine lm (v := .pointer (some ⟨g1, 0, none⟩)) rfl rfl ?_
  refine lv (v := .slice pc cs.length cc) rfl rfl (yb_cell (off := 0) rfl (by kernel_rfl) (.head _) Try.underlying22 rfl (by kernel_rfl)) ?_
  refine lp (v := .int .i64 ((cs.length : Nat) : Int)) rfl rfl (run_lenL (p := pc) (cap := cc) (n := cs.length) rfl Try.underlying22 (by kernel_rfl)) ?_
  refine lp (v := .bool (decide (250 < cs.length))) rfl rfl (run_bin rfl (vx := (.int .i64 ((cs.length : Nat) : Int))) (vy := (.int .i64 ((250 : Nat) : Int))) (by kernel_rfl) (by kernel_rfl) fun w => bn_gtr rfl w) ?_
  refine lm (v := .bool (decide (250 < cs.length))) rfl rfl ?_
  cases hd1 : (decide (250 < cs.length)) with
  | false =>
    have h1 : ¬ (250 < cs.length) := of_decide_eq_false hd1
    clear hd1
    refine lm (v := .pointer (some ⟨g1, 1, none⟩)) rfl rfl ?_
    refine lv (v := .slice po os.length co) rfl rfl (yb_cell (off := 1) rfl (by kernel_rfl) (.head _) Try.underlying23 rfl (by kernel_rfl)) ?_
    refine lp (v := .int .i64 ((os.length : Nat) : Int)) rfl rfl (run_lenL (p := po) (cap := co) (n := os.length) rfl Try.underlying23 (by kernel_rfl)) ?_
    refine lp (v := .bool (decide (60 < os.length))) rfl rfl (run_bin rfl (vx := (.int .i64 ((os.length : Nat) : Int))) (vy := (.int .i64 ((60 : Nat) : Int))) (by kernel_rfl) (by kernel_rfl) fun w => bn_gtr rfl w) ?_
    refine lm (v := .bool (decide (60 < os.length))) rfl rfl ?_
    refine wpL_done (fun W2 hW2 => ?_)
    refine (show Code.wp _ _ _ _ _ from ?_)
    cases hd2 : (decide (60 < os.length)) with
    | false =>
      have h2 : ¬ (60 < os.length) := of_decide_eq_false hd2
      clear hd2
      refine wp_cond_false rfl ?_
      refine wp_skip ?_
      refine (show Code.wp _ _ _ _ _ from ?_)
      refine wp_seq ?_
      refine wp_seq ?_
      refine wp_region_L (W0 := w) [(g1, .cells (shC (.slice pc cs.length cc) (.slice po os.length co) t).toArray 32 (0, 0))] (hW2) ?_
      refine lm (v := .pointer (some ⟨g1, 0, none⟩)) rfl rfl ?_
      refine lv (v := .slice pc cs.length cc) rfl rfl (yb_cell (off := 0) rfl (by kernel_rfl) (.head _) Try.underlying22 rfl (by kernel_rfl)) ?_
      refine lp (v := .int .i64 ((cs.length : Nat) : Int)) rfl rfl (run_lenL (p := pc) (cap := cc) (n := cs.length) rfl Try.underlying22 (by kernel_rfl)) ?_
      refine lm (v := .int .i64 0) rfl rfl ?_
      refine wpL_done (fun W3 hW3 => ?_)
      refine (show Code.wp _ _ _ _ _ from ?_)
      refine wp_block ?_
      go_loopw [20] (fun u20 wr => ∃ (i : Nat), (i ≤ cs.length) ∧ (∀ j c, j < i → cs[j]? = some c → c.plugs.length ≤ 12) ∧ u20 = .int .i64 ((i : Nat) : Int) ∧ KS w [(g1, .cells (shC (.slice pc cs.length cc) (.slice po os.length co) t).toArray 32 (0, 0))] wr) (fun u20 _ => cs.length - (intOf u20).toNat)
      case atStart => exact ⟨0, (Nat.zero_le _), (fun j c h => by omega), rfl, (hW3.sub (fun p hp => by first | exact hp | (simp only [List.mem_cons, List.mem_append, List.nil_append, List.not_mem_nil, or_assoc, or_false, false_or] at hp ⊢ <;> grind)))⟩
      case round =>
        obtain ⟨i, hi, hF, rfl, hL4⟩ := hrel
        refine wp_seq ?_
        refine wp_region_L (W0 := w) [(g1, .cells (shC (.slice pc cs.length cc) (.slice po os.length co) t).toArray 32 (0, 0))] (hL4) ?_
        refine lp (v := .bool (decide (i < cs.length))) rfl rfl (run_bin rfl (vx := (.int .i64 ((i : Nat) : Int))) (vy := (.int .i64 ((cs.length : Nat) : Int))) (by kernel_rfl) (by kernel_rfl) fun w => bn_lss rfl w) ?_
        refine wpL_done (fun W5 hW5 => ?_)
        refine (show Code.wp _ _ _ _ _ from ?_)
        refine wp_seq ?_
        cases hd3 : (decide (i < cs.length)) with
        | false =>
          have h3 : ¬ (i < cs.length) := of_decide_eq_false hd3
          clear hd3
          refine wp_cond_false rfl ?_
          refine wp_exit ?_
          refine (show Code.wp _ _ _ _ _ from ?_)
          refine wp_seq ?_
          refine wp_seq ?_
          refine wp_region_L (W0 := w) [(g1, .cells (shC (.slice pc cs.length cc) (.slice po os.length co) t).toArray 32 (0, 0))] (hW5) ?_
          refine lm (v := .pointer (some ⟨g1, 1, none⟩)) rfl rfl ?_
          refine lv (v := .slice po os.length co) rfl rfl (yb_cell (off := 1) rfl (by kernel_rfl) (.head _) Try.underlying23 rfl (by kernel_rfl)) ?_
          refine lp (v := .int .i64 ((os.length : Nat) : Int)) rfl rfl (run_lenL (p := po) (cap := co) (n := os.length) rfl Try.underlying23 (by kernel_rfl)) ?_
          refine lm (v := .int .i64 0) rfl rfl ?_
          refine wpL_done (fun W6 hW6 => ?_)
          refine (show Code.wp _ _ _ _ _ from ?_)
          refine wp_block ?_
          go_loopw [32] (fun u32 wr => ∃ (i2 : Nat), (i2 ≤ os.length) ∧ (∀ j o, j < i2 → os[j]? = some o → o.rows.length ≤ 40) ∧ u32 = .int .i64 ((i2 : Nat) : Int) ∧ KS w [(g1, .cells (shC (.slice pc cs.length cc) (.slice po os.length co) t).toArray 32 (0, 0))] wr) (fun u32 _ => os.length - (intOf u32).toNat)
          case atStart => exact ⟨0, (Nat.zero_le _), (fun j o h => by omega), rfl, (hW6.sub (fun p hp => by first | exact hp | (simp only [List.mem_cons, List.mem_append, List.nil_append, List.not_mem_nil, or_assoc, or_false, false_or] at hp ⊢ <;> grind)))⟩
          case round =>
            obtain ⟨i2, hi2, hG, rfl, hL7⟩ := hrel
            refine wp_seq ?_
            refine wp_region_L (W0 := w) [(g1, .cells (shC (.slice pc cs.length cc) (.slice po os.length co) t).toArray 32 (0, 0))] (hL7) ?_
            refine lp (v := .bool (decide (i2 < os.length))) rfl rfl (run_bin rfl (vx := (.int .i64 ((i2 : Nat) : Int))) (vy := (.int .i64 ((os.length : Nat) : Int))) (by kernel_rfl) (by kernel_rfl) fun w => bn_lss rfl w) ?_
            refine wpL_done (fun W8 hW8 => ?_)
            refine (show Code.wp _ _ _ _ _ from ?_)
            refine wp_seq ?_
            cases hd4 : (decide (i2 < os.length)) with
            | false =>
              have h4 : ¬ (i2 < os.length) := of_decide_eq_false hd4
              clear hd4
              refine wp_cond_false rfl ?_
              refine wp_exit ?_
              refine (show Code.wp _ _ _ _ _ from ?_)
              refine wp_seq ?_
              refine wp_region_L (W0 := w) [(g1, .cells (shC (.slice pc cs.length cc) (.slice po os.length co) t).toArray 32 (0, 0))] (hW8) ?_
              refine lm (v := .bool true) rfl rfl ?_
              refine wpL_done (fun W9 hW9 => ?_)
              refine (show Code.wp _ _ _ _ _ from ?_)
              refine wp_ret ?_
              try simp only [inBlock_ret, then_ret]
              refine bodyPost_ret (v := .bool true) ?_ rfl ?_
              · kernel_rfl
              · exact ⟨(bool_is (few_yes h1 h2 (fun j c g => hF j c (by omega)) (fun j c g => hG j c (by omega))).symm), hW9.1⟩
            | true =>
              have h4 : i2 < os.length := of_decide_eq_true hd4
              clear hd4
              refine wp_cond_true rfl ?_
              refine wp_skip ?_
              refine (show Code.wp _ _ _ _ _ from ?_)
              refine wp_seq ?_
              refine wp_block ?_
              refine wp_seq ?_
              refine wp_region_L (W0 := w) [(g1, .cells (shC (.slice pc cs.length cc) (.slice po os.length co) t).toArray 32 (0, 0))] (hW8) ?_
              obtain ⟨y2, g2_, f2_, hy2, hp2, hc2⟩ := RL.at (RL.base HO.out) covC_len (by decide) (hW8.sub (fun _ h => by cases h)) (k := i2) (by omega)
              refine lp (v := .pointer (some ⟨g2_, f2_ + i2 * 2, none⟩)) rfl rfl (run_idxQ (p := po) (cap := co) (n := os.length) (j := .i64) (k := i2) (sz := 2) rfl Try.underlying23 (by kernel_rfl) (by kernel_rfl) hp2 (by kernel_rfl) (by omega)) ?_
              refine lv (v := .agg (covC y2).toArray) rfl rfl (yb_rs (off := f2_ + i2 * 2) (cs := covC y2) rfl (by kernel_rfl) (fun W hW => hc2 W (hW.sub (fun _ h => by cases h))) Try.underlying51 rfl (by kernel_rfl)) ?_
              refine wpL_new (fun g => .pointer (some ⟨g, 0, none⟩)) (obi := .cells #[.int .i64 0, .slice none 0 0] 51 (0, 0)) rfl rfl (fun _ => by kernel_rfl) (fun _ => by simp only [List.setIfInBounds_toArray, List.set_cons_succ, List.set_cons_zero] <;> rfl) fun g3 Bg3 Fg3 => ?_
              obtain dj4_0 : g1 ≠ g3 := by simpa only [dj_app_l, dj_app_r, dj_cons_l, dj_cons_r, dj_nil_l, dj_nil_r, dk_app, dk_cons, dk_nil, and_true, true_and, and_assoc] using (show Dk g3 [(g1, .cells (shC (.slice pc cs.length cc) (.slice po os.length co) t).toArray 32 (0, 0))] from Fg3)
              refine wpL_s [(g3, .cells (covC y2).toArray 51 (0, 0)), (g1, .cells (shC (.slice pc cs.length cc) (.slice po os.length co) t).toArray 32 (0, 0))] rfl rfl (st_row (off := 0) (v := .agg (covC y2).toArray) rfl (by kernel_rfl) (by kernel_rfl) (.head _) Bg3 (by kernel_rfl) (by first | (simp [Value.cells]; done) | exact Nat.le_of_ble_eq_true rfl) (fun v hv => covC_one y2 v hv) (by kernel_rfl) (List.forall_mem_cons.2 ⟨.inl rfl, (List.forall_mem_cons.2 ⟨.inr ⟨(.tail _ (.head _)), (by first | assumption | exact Ne.symm (by assumption))⟩, (List.forall_mem_nil _)⟩)⟩)) ?_
              refine wpL_done (fun W10 hW10 => ?_)
              refine (show Code.wp _ _ _ _ _ from ?_)
              refine wp_seq ?_
              refine wp_region_L (W0 := w) [(g3, .cells (covC y2).toArray 51 (0, 0)), (g1, .cells (shC (.slice pc cs.length cc) (.slice po os.length co) t).toArray 32 (0, 0))] (hW10) ?_
              refine lm (v := .pointer (some ⟨g3, 1, none⟩)) rfl rfl ?_
              refine lv (v := .slice y2.rp y2.rows.length y2.rc) rfl rfl (yb_cell (off := 1) rfl (by kernel_rfl) (.head _) Try.underlying39 rfl (by kernel_rfl)) ?_
              refine lp (v := .int .i64 ((y2.rows.length : Nat) : Int)) rfl rfl (run_lenL (p := y2.rp) (cap := y2.rc) (n := y2.rows.length) rfl Try.underlying39 (by kernel_rfl)) ?_
              refine lp (v := .bool (decide (40 < y2.rows.length))) rfl rfl (run_bin rfl (vx := (.int .i64 ((y2.rows.length : Nat) : Int))) (vy := (.int .i64 ((40 : Nat) : Int))) (by kernel_rfl) (by kernel_rfl) fun w => bn_gtr rfl w) ?_
              refine wpL_done (fun W11 hW11 => ?_)
              refine (show Code.wp _ _ _ _ _ from ?_)
              cases hd5 : (decide (40 < y2.rows.length)) with
              | false =>
                have h5 : ¬ (40 < y2.rows.length) := of_decide_eq_false hd5
                clear hd5
                refine wp_cond_false rfl ?_
                refine wp_skip ?_
                refine (show Code.wp _ _ _ _ _ from ?_)
                refine wp_region_L (W0 := w) [(g3, .cells (covC y2).toArray 51 (0, 0)), (g1, .cells (shC (.slice pc cs.length cc) (.slice po os.length co) t).toArray 32 (0, 0))] (hW11) ?_
                refine lp (v := .int .i64 (((i2 + 1) : Nat) : Int)) rfl rfl (run_bin rfl (vx := (.int .i64 ((i2 : Nat) : Int))) (vy := (.int .i64 ((1 : Nat) : Int))) (by kernel_rfl) (by kernel_rfl) fun w => bn_add (z := (i2 + 1)) rfl (wr_i64 (by omega)) w) ?_
                refine lm (v := .int .i64 (((i2 + 1) : Nat) : Int)) rfl rfl ?_
                refine wpL_done (fun W12 hW12 => ?_)
                go_roundw
                case rel =>
                  repeat apply Exists.intro
                  exact ⟨⟨i2 + 1, (by omega), (few_o (q := i2) hG hy2 h5 rfl), rfl, (hW12.sub (fun p hp => by first | exact hp | (simp only [List.mem_cons, List.mem_append, List.nil_append, List.not_mem_nil, or_assoc, or_false, false_or] at hp ⊢ <;> grind)))⟩, rfl⟩
                case measure => (show os.length - (intOf (.int .i64 (((i2 + 1) : Nat) : Int))).toNat < os.length - (intOf (.int .i64 ((i2 : Nat) : Int))).toNat); simp only [intOf]; omega
              | true =>
                have h5 : 40 < y2.rows.length := of_decide_eq_true hd5
                clear hd5
                refine wp_cond_true rfl ?_
                refine wp_seq ?_
                refine wp_region_L (W0 := w) [(g3, .cells (covC y2).toArray 51 (0, 0)), (g1, .cells (shC (.slice pc cs.length cc) (.slice po os.length co) t).toArray 32 (0, 0))] (hW11) ?_
                refine lm (v := .bool false) rfl rfl ?_
                refine wpL_done (fun W13 hW13 => ?_)
                refine (show Code.wp _ _ _ _ _ from ?_)
                refine wp_ret ?_
                try simp only [inBlock_ret, then_ret]
                refine bodyPost_ret (v := .bool false) ?_ rfl ?_
                · kernel_rfl
                · exact ⟨(bool_is (few_no4 hy2 h5).symm), hW13.1⟩
        | true =>
          have h3 : i < cs.length := of_decide_eq_true hd3
          clear hd3
          refine wp_cond_true rfl ?_
          refine wp_skip ?_
          refine (show Code.wp _ _ _ _ _ from ?_)
          refine wp_seq ?_
          refine wp_block ?_
          refine wp_seq ?_
          refine wp_region_L (W0 := w) [(g1, .cells (shC (.slice pc cs.length cc) (.slice po os.length co) t).toArray 32 (0, 0))] (hW5) ?_
          obtain ⟨y5, g5_, f5_, hy5, hp5, hc5⟩ := RL.at (RL.base HC.out) colC_len (by decide) (hW5.sub (fun _ h => by cases h)) (k := i) (by omega)
          refine lp (v := .pointer (some ⟨g5_, f5_ + i * 12, none⟩)) rfl rfl (run_idxQ (p := pc) (cap := cc) (n := cs.length) (j := .i64) (k := i) (sz := 12) rfl Try.underlying22 (by kernel_rfl) (by kernel_rfl) hp5 (by kernel_rfl) (by omega)) ?_
          refine lv (v := .agg (colC y5).toArray) rfl rfl (yb_rs (off := f5_ + i * 12) (cs := colC y5) rfl (by kernel_rfl) (fun W hW => hc5 W (hW.sub (fun _ h => by cases h))) Try.underlying49 rfl (by kernel_rfl)) ?_
          refine wpL_new (fun g => .pointer (some ⟨g, 0, none⟩)) (obi := .cells #[.int .i64 0, .int .i64 0, .bool false, .int .i64 0, .int .i64 0, .int .i64 0, .int .i64 0, .int .i64 0, .slice none 0 0, .int .i64 0, .int .i64 0, .int .i64 0] 49 (0, 0)) rfl rfl (fun _ => by kernel_rfl) (fun _ => by simp only [List.setIfInBounds_toArray, List.set_cons_succ, List.set_cons_zero] <;> rfl) fun g6 Bg6 Fg6 => ?_
          obtain dj7_0 : g1 ≠ g6 := by simpa only [dj_app_l, dj_app_r, dj_cons_l, dj_cons_r, dj_nil_l, dj_nil_r, dk_app, dk_cons, dk_nil, and_true, true_and, and_assoc] using (show Dk g6 [(g1, .cells (shC (.slice pc cs.length cc) (.slice po os.length co) t).toArray 32 (0, 0))] from Fg6)
          refine wpL_s [(g6, .cells (colC y5).toArray 49 (0, 0)), (g1, .cells (shC (.slice pc cs.length cc) (.slice po os.length co) t).toArray 32 (0, 0))] rfl rfl (st_row (off := 0) (v := .agg (colC y5).toArray) rfl (by kernel_rfl) (by kernel_rfl) (.head _) Bg6 (by kernel_rfl) (by first | (simp [Value.cells]; done) | exact Nat.le_of_ble_eq_true rfl) (fun v hv => colC_one y5 v hv) (by kernel_rfl) (List.forall_mem_cons.2 ⟨.inl rfl, (List.forall_mem_cons.2 ⟨.inr ⟨(.tail _ (.head _)), (by first | assumption | exact Ne.symm (by assumption))⟩, (List.forall_mem_nil _)⟩)⟩)) ?_
          refine wpL_done (fun W14 hW14 => ?_)
          refine (show Code.wp _ _ _ _ _ from ?_)
          refine wp_seq ?_
          refine wp_region_L (W0 := w) [(g6, .cells (colC y5).toArray 49 (0, 0)), (g1, .cells (shC (.slice pc cs.length cc) (.slice po os.length co) t).toArray 32 (0, 0))] (hW14) ?_
          refine lm (v := .pointer (some ⟨g6, 8, none⟩)) rfl rfl ?_
          refine lv (v := .slice y5.pp y5.plugs.length y5.pc) rfl rfl (yb_cell (off := 8) rfl (by kernel_rfl) (.head _) Try.underlying39 rfl (by kernel_rfl)) ?_
          refine lp (v := .int .i64 ((y5.plugs.length : Nat) : Int)) rfl rfl (run_lenL (p := y5.pp) (cap := y5.pc) (n := y5.plugs.length) rfl Try.underlying39 (by kernel_rfl)) ?_
          refine lp (v := .bool (decide (12 < y5.plugs.length))) rfl rfl (run_bin rfl (vx := (.int .i64 ((y5.plugs.length : Nat) : Int))) (vy := (.int .i64 ((12 : Nat) : Int))) (by kernel_rfl) (by kernel_rfl) fun w => bn_gtr rfl w) ?_
          refine wpL_done (fun W15 hW15 => ?_)
          refine (show Code.wp _ _ _ _ _ from ?_)
          cases hd6 : (decide (12 < y5.plugs.length)) with
          | false =>
            have h6 : ¬ (12 < y5.plugs.length) := of_decide_eq_false hd6
            clear hd6
            refine wp_cond_false rfl ?_
            refine wp_skip ?_
            refine (show Code.wp _ _ _ _ _ from ?_)
            refine wp_region_L (W0 := w) [(g6, .cells (colC y5).toArray 49 (0, 0)), (g1, .cells (shC (.slice pc cs.length cc) (.slice po os.length co) t).toArray 32 (0, 0))] (hW15) ?_
            refine lp (v := .int .i64 (((i + 1) : Nat) : Int)) rfl rfl (run_bin rfl (vx := (.int .i64 ((i : Nat) : Int))) (vy := (.int .i64 ((1 : Nat) : Int))) (by kernel_rfl) (by kernel_rfl) fun w => bn_add (z := (i + 1)) rfl (wr_i64 (by omega)) w) ?_
            refine lm (v := .int .i64 (((i + 1) : Nat) : Int)) rfl rfl ?_
            refine wpL_done (fun W16 hW16 => ?_)
            go_roundw
            case rel =>
              repeat apply Exists.intro
              exact ⟨⟨i + 1, (by omega), (few_c (q := i) hF hy5 h6 rfl), rfl, (hW16.sub (fun p hp => by first | exact hp | (simp only [List.mem_cons, List.mem_append, List.nil_append, List.not_mem_nil, or_assoc, or_false, false_or] at hp ⊢ <;> grind)))⟩, rfl⟩
            case measure => (show cs.length - (intOf (.int .i64 (((i + 1) : Nat) : Int))).toNat < cs.length - (intOf (.int .i64 ((i : Nat) : Int))).toNat); simp only [intOf]; omega
          | true =>
            have h6 : 12 < y5.plugs.length := of_decide_eq_true hd6
            clear hd6
            refine wp_cond_true rfl ?_
            refine wp_seq ?_
            refine wp_region_L (W0 := w) [(g6, .cells (colC y5).toArray 49 (0, 0)), (g1, .cells (shC (.slice pc cs.length cc) (.slice po os.length co) t).toArray 32 (0, 0))] (hW15) ?_
            refine lm (v := .bool false) rfl rfl ?_
            refine wpL_done (fun W17 hW17 => ?_)
            refine (show Code.wp _ _ _ _ _ from ?_)
            refine wp_ret ?_
            try simp only [inBlock_ret, then_ret]
            refine bodyPost_ret (v := .bool false) ?_ rfl ?_
            · kernel_rfl
            · exact ⟨(bool_is (few_no3 hy5 h6).symm), hW17.1⟩
    | true =>
      have h2 : 60 < os.length := of_decide_eq_true hd2
      clear hd2
      refine wp_cond_true rfl ?_
      refine wp_seq ?_
      refine wp_region_L (W0 := w) [(g1, .cells (shC (.slice pc cs.length cc) (.slice po os.length co) t).toArray 32 (0, 0))] (hW2) ?_
      refine lm (v := .bool false) rfl rfl ?_
      refine wpL_done (fun W18 hW18 => ?_)
      refine (show Code.wp _ _ _ _ _ from ?_)
      refine wp_ret ?_
      try simp only [inBlock_ret, then_ret]
      refine bodyPost_ret (v := .bool false) ?_ rfl ?_
      · kernel_rfl
      · exact ⟨(bool_is (few_no2 h2).symm), hW18.1⟩
  | true =>
    have h1 : 250 < cs.length := of_decide_eq_true hd1
    clear hd1
    refine ln rfl ?_
    refine ln rfl ?_
    refine ln rfl ?_
    refine ln rfl ?_
    refine lm (v := .bool true) rfl rfl ?_
    refine wpL_done (fun W19 hW19 => ?_)
    refine (show Code.wp _ _ _ _ _ from ?_)
    refine wp_cond_true rfl ?_
    refine wp_seq ?_
    refine wp_region_L (W0 := w) [(g1, .cells (shC (.slice pc cs.length cc) (.slice po os.length co) t).toArray 32 (0, 0))] (hW19) ?_
    refine lm (v := .bool false) rfl rfl ?_
    refine wpL_done (fun W20 hW20 => ?_)
    refine (show Code.wp _ _ _ _ _ from ?_)
    refine wp_ret ?_
    try simp only [inBlock_ret, then_ret]
    refine bodyPost_ret (v := .bool false) ?_ rfl ?_
    · kernel_rfl
    · exact ⟨(bool_is (few_no1 h1).symm), hW20.1⟩
end Go.Proofs.Ythpooalhibedpaa
