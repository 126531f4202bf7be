import Derived.Test.YthpooalhibedpaaG06
import Derived.Test.YthpooalhibedpaaG05
import Derived.Test.YthpooalhibedpaaG03
import Derived.Test.YthpooalhibedpaaG04
import Derived.SizedLaws
import Derived.Test.YthpooalhibedpaaRows
import Derived.WalkKit
import Derived.ProofKit
import Derived.OpenShut
import Derived.ChangeOld
import Derived.ChangeMaps5
import Derived.Handed
/- Part of the proof: TK, TJ, U6, U8, UA. -/
set_option linter.unusedVariables false
set_option linter.unusedSimpArgs false
set_option linter.unusedSectionVars false
namespace Go.Proofs.Ythpooalhibedpaa
open Go Go.RowKit Tw
set_option maxRecDepth 100000 in
set_option maxHeartbeats 4000000 in
theorem RBeside_any (cs : List Col) (pc : Option Addr) (cc : Nat) (lc : cs.length ≤ 4000000000) (os : List Cov) (po : Option Addr) (co : Nat) (lo : os.length ≤ 4000000000) (t : Tl) (n : Int) (w : World) (hc : SLV w pc (cs.flatMap colC)) (ho : SLV w po (os.flatMap covC)) (hb : ∀ c ∈ cs, rowOk c) : Calls Try.prog 26 #[.agg (shC (.slice pc cs.length cc) (.slice po os.length co) t).toArray, .int .i64 n] w fun e w' => ∃ v, e = .returned v ∧ OutV w w' 3 1 v (besideX cs n).length ((besideX cs n).flatMap inC) ∧ Below w.heap.size w w' := by
  have HC := Lib.hid hc
  clear hc
  have HO := Lib.hid ho
  clear ho
  rcases Int.lt_or_le n 0 with hn | hn
  · skip
    go_enter Try.func26, Try.ntmps26
    refine wp_seq ?_
    refine wp_region_L (W0 := w) [] (KS.start w) ?_
    refine wpL_new (fun g => .pointer (some ⟨g, 0, none⟩)) (obi := .cells (shC (.slice pc cs.length cc) (.slice po os.length co) t).toArray 32 (0, 0)) rfl rfl (fun _ => by kernel_rfl) (fun _ => by simp only [List.setIfInBounds_toArray, List.set_cons_succ, List.set_cons_zero] <;> rfl) fun g1 Bg1 Fg1 => ?_
    refine lm (v := .slice none 0 0) rfl rfl ?_
    refine wpL_done (fun W1 hW1 => ?_)
    refine (show Code.wp _ _ _ _ _ from ?_)
    refine wp_seq ?_
    refine wp_region_L (W0 := w) [(g1, .cells (shC (.slice pc cs.length cc) (.slice po os.length co) t).toArray 32 (0, 0))] (hW1) ?_
    refine lm (v := .slice none 0 0) rfl rfl ?_
    refine wpL_done (fun W2 hW2 => ?_)
    refine (show Code.wp _ _ _ _ _ from ?_)
    refine wp_seq ?_
    refine wp_seq ?_
    refine wp_region_L (W0 := w) [(g1, .cells (shC (.slice pc cs.length cc) (.slice po os.length co) t).toArray 32 (0, 0))] (hW2) ?_
    refine lm (v := .int .i64 n) rfl rfl ?_
    refine lp (v := .bool true) rfl rfl (run_bin rfl (vx := (.int .i64 n)) (vy := (.int .i64 0)) (by kernel_rfl) (by kernel_rfl) fun w => bi_lss (decide_eq_true hn) w) ?_
    refine lm (v := .bool true) rfl rfl ?_
    refine ln rfl ?_
    refine ln rfl ?_
    refine ln rfl ?_
    refine ln rfl ?_
    refine ln rfl ?_
    refine lm (v := .bool true) rfl rfl ?_
    refine wpL_done (fun W3 hW3 => ?_)
    refine (show Code.wp _ _ _ _ _ from ?_)
    refine wp_cond_true rfl ?_
    refine wp_seq ?_
    refine wp_region_L (W0 := w) [(g1, .cells (shC (.slice pc cs.length cc) (.slice po os.length co) t).toArray 32 (0, 0))] (hW3) ?_
    refine lm (v := .slice none 0 0) rfl rfl ?_
    refine lm (v := .slice none 0 0) rfl rfl ?_
    refine wpL_done (fun W4 hW4 => ?_)
    refine (show Code.wp _ _ _ _ _ from ?_)
    refine wp_ret ?_
    try simp only [inBlock_ret, then_ret]
    refine bodyPost_ret (v := .slice none 0 0) ?_ rfl ?_
    · kernel_rfl
    · exact ⟨_, rfl, out_nil (beside_neg hn), hW4.1⟩
  · obtain ⟨m, rfl⟩ : ∃ m : Nat, n = (m : Int) := ⟨n.toNat, by omega⟩
    go_enter Try.func26, Try.ntmps26
    refine wp_seq ?_
    refine wp_region_L (W0 := w) [] (KS.start w) ?_
    refine wpL_new (fun g => .pointer (some ⟨g, 0, none⟩)) (obi := .cells (shC (.slice pc cs.length cc) (.slice po os.length co) t).toArray 32 (0, 0)) rfl rfl (fun _ => by kernel_rfl) (fun _ => by simp only [List.setIfInBounds_toArray, List.set_cons_succ, List.set_cons_zero] <;> rfl) fun g1 Bg1 Fg1 => ?_
    refine lm (v := .slice none 0 0) rfl rfl ?_
    refine wpL_done (fun W1 hW1 => ?_)
    refine (show Code.wp _ _ _ _ _ from ?_)
    refine wp_seq ?_
    refine wp_region_L (W0 := w) [(g1, .cells (shC (.slice pc cs.length cc) (.slice po os.length co) t).toArray 32 (0, 0))] (hW1) ?_
    refine lm (v := .slice none 0 0) rfl rfl ?_
    refine wpL_done (fun W2 hW2 => ?_)
    refine (show Code.wp _ _ _ _ _ from ?_)
    refine wp_seq ?_
    refine wp_seq ?_
    refine wp_region_L (W0 := w) [(g1, .cells (shC (.slice pc cs.length cc) (.slice po os.length co) t).toArray 32 (0, 0))] (hW2) ?_
    refine lm (v := .int .i64 ((m : Nat) : Int)) rfl rfl ?_
    refine lp (v := .bool false) rfl rfl (run_bin rfl (vx := (.int .i64 ((m : Nat) : Int))) (vy := (.int .i64 ((0 : Nat) : Int))) (by kernel_rfl) (by kernel_rfl) fun w => bn_lss (decide_eq_false (by omega)) w) ?_
    refine lm (v := .bool false) rfl rfl ?_
    refine lm (v := .int .i64 ((m : Nat) : Int)) rfl rfl ?_
    refine lm (v := .pointer (some ⟨g1, 0, none⟩)) rfl rfl ?_
    refine lv (v := .slice pc cs.length cc) rfl rfl (yb_cell (off := 0) rfl (by kernel_rfl) (.head _) Try.underlying22 rfl (by kernel_rfl)) ?_
    refine lp (v := .int .i64 ((cs.length : Nat) : Int)) rfl rfl (run_lenL (p := pc) (cap := cc) (n := cs.length) rfl Try.underlying22 (by kernel_rfl)) ?_
    refine lp (v := .bool (!(decide (m < cs.length)))) rfl rfl (run_bin rfl (vx := (.int .i64 ((m : Nat) : Int))) (vy := (.int .i64 ((cs.length : Nat) : Int))) (by kernel_rfl) (by kernel_rfl) fun w => bn_geq rfl w) ?_
    refine lm (v := .bool (!(decide (m < cs.length)))) rfl rfl ?_
    refine wpL_done (fun W3 hW3 => ?_)
    refine (show Code.wp _ _ _ _ _ from ?_)
    cases hd1 : (decide (m < cs.length)) with
    | false =>
      have h1 : ¬ (m < cs.length) := of_decide_eq_false hd1
      clear hd1
      refine wp_cond_true rfl ?_
      refine wp_seq ?_
      refine wp_region_L (W0 := w) [(g1, .cells (shC (.slice pc cs.length cc) (.slice po os.length co) t).toArray 32 (0, 0))] (hW3) ?_
      refine lm (v := .slice none 0 0) rfl rfl ?_
      refine lm (v := .slice none 0 0) rfl rfl ?_
      refine wpL_done (fun W4 hW4 => ?_)
      refine (show Code.wp _ _ _ _ _ from ?_)
      refine wp_ret ?_
      try simp only [inBlock_ret, then_ret]
      refine bodyPost_ret (v := .slice none 0 0) ?_ rfl ?_
      · kernel_rfl
      · exact ⟨_, rfl, out_nil (beside_big h1), hW4.1⟩
    | true =>
      have h1 : m < cs.length := of_decide_eq_true hd1
      clear hd1
      refine wp_cond_false rfl ?_
      refine wp_skip ?_
      refine (show Code.wp _ _ _ _ _ from ?_)
      refine wp_seq ?_
      refine wp_seq ?_
      refine wp_region_L (W0 := w) [(g1, .cells (shC (.slice pc cs.length cc) (.slice po os.length co) t).toArray 32 (0, 0))] (hW3) ?_
      refine lm (v := .int .i64 0) rfl rfl ?_
      refine wpL_done (fun W5 hW5 => ?_)
      refine (show Code.wp _ _ _ _ _ from ?_)
      refine wp_block ?_
      obtain ⟨cm, hcm⟩ : ∃ y, cs[m]? = some y := ⟨_, List.getElem?_eq_getElem (by omega)⟩
      obtain ⟨rm1, rm2⟩ := hb cm (List.mem_of_getElem? hcm)
      go_loopw [6, 5] (fun u6 u5 wr => ∃ (k z : Nat) (vo : Value) (Ko : List (Nat × Obj)), (k ≤ cs.length) ∧ ((idx (besideB cm) (cs.take k)).length = z) ∧ (z ≤ k) ∧ (OwnL w 3 1 vo z ((idx (besideB cm) (cs.take k)).flatMap inC) Ko) ∧ (Dk g1 Ko) ∧ u6 = .int .i64 ((k : Nat) : Int) ∧ vo = u5 ∧ KS w ((g1, .cells (shC (.slice pc cs.length cc) (.slice po os.length co) t).toArray 32 (0, 0)) :: Ko) wr) (fun u6 _ _ => cs.length - (intOf u6).toNat)
      case atStart => exact ⟨0, 0, (.slice none 0 0), [], (Nat.zero_le _), rfl, (Nat.le_refl _), (OwnL.nil _ _ _), (show Dk g1 [] from (by (try simp only [dj_app_l, dj_app_r, dj_cons_l, dj_cons_r, dj_nil_l, dj_nil_r, dk_app, dk_cons, dk_nil, and_true, true_and, and_assoc]); repeat' (first | trivial | assumption | exact Dj.symm (by assumption) | exact Ne.symm (by assumption) | apply And.intro))), rfl, rfl, (hW5.sub (fun p hp => by first | exact hp | (simp only [List.mem_cons, List.mem_append, List.nil_append, List.not_mem_nil, or_assoc, or_false, false_or] at hp ⊢ <;> grind)))⟩
      case round =>
        obtain ⟨k, z, vo, Ko, hk, hml, hmk, hO, dh2_0, rfl, rfl, hL6⟩ := hrel
        refine wp_seq ?_
        refine wp_seq ?_
        refine wp_region_L (W0 := w) ((g1, .cells (shC (.slice pc cs.length cc) (.slice po os.length co) t).toArray 32 (0, 0)) :: Ko) (hL6) ?_
        refine lm (v := .int .i64 ((k : Nat) : Int)) rfl rfl ?_
        refine lm (v := .pointer (some ⟨g1, 0, none⟩)) rfl rfl ?_
        refine lv (v := .slice pc cs.length cc) rfl rfl (yb_cell (off := 0) rfl (by kernel_rfl) (.head _) Try.underlying22 rfl (by kernel_rfl)) ?_
        refine lp (v := .int .i64 ((cs.length : Nat) : Int)) rfl rfl (run_lenL (p := pc) (cap := cc) (n := cs.length) rfl Try.underlying22 (by kernel_rfl)) ?_
        refine lp (v := .bool (decide (k < cs.length))) rfl rfl (run_bin rfl (vx := (.int .i64 ((k : Nat) : Int))) (vy := (.int .i64 ((cs.length : Nat) : Int))) (by kernel_rfl) (by kernel_rfl) fun w => bn_lss rfl w) ?_
        refine wpL_done (fun W7 hW7 => ?_)
        refine (show Code.wp _ _ _ _ _ from ?_)
        cases hd2 : (decide (k < cs.length)) with
        | false =>
          have h2 : ¬ (k < cs.length) := of_decide_eq_false hd2
          clear hd2
          refine wp_cond_false rfl ?_
          refine wp_exit ?_
          refine (show Code.wp _ _ _ _ _ from ?_)
          refine wp_seq ?_
          refine wp_region_L (W0 := w) ((g1, .cells (shC (.slice pc cs.length cc) (.slice po os.length co) t).toArray 32 (0, 0)) :: Ko) (hW7) ?_
          refine lm (v := vo) rfl rfl ?_
          refine lm (v := vo) rfl rfl ?_
          refine wpL_done (fun W8 hW8 => ?_)
          refine (show Code.wp _ _ _ _ _ from ?_)
          refine wp_ret ?_
          try simp only [inBlock_ret, then_ret]
          refine bodyPost_ret (v := vo) ?_ rfl ?_
          · kernel_rfl
          · exact ⟨_, rfl, (by have e := idx_all (P := (besideB cm)) h2; rw [e] at hml hO; rw [beside_at hcm, hml]; exact hO.out (fun p hp => by simp only [List.mem_cons, List.mem_append, List.nil_append, List.not_mem_nil, or_assoc, or_false, false_or, hp, true_or, or_true]) hW8), hW8.1⟩
        | true =>
          have h2 : k < cs.length := of_decide_eq_true hd2
          clear hd2
          refine wp_cond_true rfl ?_
          refine wp_skip ?_
          refine (show Code.wp _ _ _ _ _ from ?_)
          refine wp_seq ?_
          refine wp_block ?_
          refine wp_seq ?_
          refine wp_region_V (W0 := w) ((g1, .cells (shC (.slice pc cs.length cc) (.slice po os.length co) t).toArray 32 (0, 0)) :: Ko) (by kernel_rfl) (hW7) ?_
          refine vm (i := 0) (v := .pointer (some ⟨g1, 0, none⟩)) rfl rfl rfl ?_
          refine vv (i := 1) (v := .slice pc cs.length cc) rfl rfl rfl (yb_cell (off := 0) rfl (by kernel_rfl) (.head _) Try.underlying22 rfl (by kernel_rfl)) ?_
          refine vm (i := 2) (v := .int .i64 ((k : Nat) : Int)) rfl rfl rfl ?_
          obtain ⟨y3, g3_, f3_, hy3, hp3, hc3⟩ := RL.at (RL.base HC.out) colC_len (by decide) (hW7.sub (fun _ h => by cases h)) (k := k) (by omega)
          obtain ⟨r13, r23⟩ := hb y3 (List.mem_of_getElem? hy3)
          refine vp (i := 3) (v := .pointer (some ⟨g3_, f3_ + k * 12, none⟩)) rfl rfl rfl (run_idxQ (p := pc) (cap := cc) (n := cs.length) (j := .i64) (k := k) (sz := 12) rfl Try.underlying22 (by kernel_rfl) (by kernel_rfl) hp3 (by kernel_rfl) (by omega)) ?_
          refine vm (i := 4) (v := .pointer (some ⟨g3_, f3_ + k * 12 + 1, none⟩)) rfl rfl rfl ?_
          refine vb (i := 5) (v := .int .i64 y3.row) rfl rfl rfl (yb_rf (v := .int .i64 y3.row) rfl (by kernel_rfl) (fun W hW => hc3 W (hW.sub (fun _ h => by cases h)) 1 _ rfl) Try.underlying3 rfl) ?_
          refine vm (i := 6) (v := .pointer (some ⟨g1, 0, none⟩)) rfl rfl rfl ?_
          refine vv (i := 7) (v := .slice pc cs.length cc) rfl rfl rfl (yb_cell (off := 0) rfl (by kernel_rfl) (.head _) Try.underlying22 rfl (by kernel_rfl)) ?_
          refine vm (i := 8) (v := .int .i64 ((m : Nat) : Int)) rfl rfl rfl ?_
          obtain ⟨y4, g4_, f4_, hy4, hp4, hc4⟩ := RL.at (RL.base HC.out) colC_len (by decide) (hW7.sub (fun _ h => by cases h)) (k := m) (by omega)
          have ey4 : cm = y4 := by rw [hcm] at hy4; exact Option.some.inj hy4
          subst ey4
          refine vp (i := 9) (v := .pointer (some ⟨g4_, f4_ + m * 12, none⟩)) rfl rfl rfl (run_idxQ (p := pc) (cap := cc) (n := cs.length) (j := .i64) (k := m) (sz := 12) rfl Try.underlying22 (by kernel_rfl) (by kernel_rfl) hp4 (by kernel_rfl) (by omega)) ?_
          refine vm (i := 10) (v := .pointer (some ⟨g4_, f4_ + m * 12 + 1, none⟩)) rfl rfl rfl ?_
          refine vb (i := 11) (v := .int .i64 cm.row) rfl rfl rfl (yb_rf (v := .int .i64 cm.row) rfl (by kernel_rfl) (fun W hW => hc4 W (hW.sub (fun _ h => by cases h)) 1 _ rfl) Try.underlying3 rfl) ?_
          refine vm (i := 12) (v := .int .i64 y3.row) rfl rfl rfl ?_
          refine vm (i := 13) (v := .int .i64 cm.row) rfl rfl rfl ?_
          refine wpV_done (by kernel_rfl) (fun W9 hW9 => ?_) _
          refine (show Code.wp _ _ _ _ _ from ?_)
          refine wp_seq ?_
          refine wp_region_L (W0 := w) ((g1, .cells (shC (.slice pc cs.length cc) (.slice po os.length co) t).toArray 32 (0, 0)) :: Ko) (hW9) ?_
          refine lm (v := .int .i64 y3.row) rfl rfl ?_
          refine lm (v := .int .i64 cm.row) rfl rfl ?_
          refine lp (v := .bool (decide (cm.row < y3.row))) rfl rfl (run_bin rfl (vx := (.int .i64 y3.row)) (vy := (.int .i64 cm.row)) (by kernel_rfl) (by kernel_rfl) fun w => bi_gtr rfl w) ?_
          refine lm (v := .bool (decide (cm.row < y3.row))) rfl rfl ?_
          cases hd3 : (decide (cm.row < y3.row)) with
          | false =>
            have h3 : ¬ (cm.row < y3.row) := of_decide_eq_false hd3
            clear hd3
            refine ln rfl ?_
            refine ln rfl ?_
            refine ln rfl ?_
            refine ln rfl ?_
            refine lm (v := .bool false) rfl rfl ?_
            refine lm (v := .bool false) rfl rfl ?_
            refine lm (v := .int .i64 y3.row) rfl rfl ?_
            refine lm (v := .int .i64 cm.row) rfl rfl ?_
            refine lp (v := .bool (decide (y3.row < cm.row))) rfl rfl (run_bin rfl (vx := (.int .i64 y3.row)) (vy := (.int .i64 cm.row)) (by kernel_rfl) (by kernel_rfl) fun w => bi_lss rfl w) ?_
            refine lm (v := .bool (decide (y3.row < cm.row))) rfl rfl ?_
            cases hd4 : (decide (y3.row < cm.row)) with
            | false =>
              have h4 : ¬ (y3.row < cm.row) := of_decide_eq_false hd4
              clear hd4
              refine ln rfl ?_
              refine ln rfl ?_
              refine ln rfl ?_
              refine ln rfl ?_
              refine lm (v := .bool false) rfl rfl ?_
              refine lm (v := .bool false) rfl rfl ?_
              refine lm (v := .bool false) rfl rfl ?_
              refine wpL_done (fun W10 hW10 => ?_)
              refine (show Code.wp _ _ _ _ _ from ?_)
              refine wp_seq ?_
              refine wp_region_V (W0 := w) ((g1, .cells (shC (.slice pc cs.length cc) (.slice po os.length co) t).toArray 32 (0, 0)) :: Ko) (by kernel_rfl) (hW10) ?_
              refine vm (i := 0) (v := .pointer (some ⟨g1, 0, none⟩)) rfl rfl rfl ?_
              refine vv (i := 1) (v := .slice pc cs.length cc) rfl rfl rfl (yb_cell (off := 0) rfl (by kernel_rfl) (.head _) Try.underlying22 rfl (by kernel_rfl)) ?_
              refine vm (i := 2) (v := .int .i64 ((k : Nat) : Int)) rfl rfl rfl ?_
              refine vp (i := 3) (v := .pointer (some ⟨g3_, f3_ + k * 12, none⟩)) rfl rfl rfl (run_idxQ (p := pc) (cap := cc) (n := cs.length) (j := .i64) (k := k) (sz := 12) rfl Try.underlying22 (by kernel_rfl) (by kernel_rfl) hp3 (by kernel_rfl) (by omega)) ?_
              refine vm (i := 4) (v := .pointer (some ⟨g3_, f3_ + k * 12, none⟩)) rfl rfl rfl ?_
              refine vb (i := 5) (v := .int .i64 y3.bay) rfl rfl rfl (yb_rf (v := .int .i64 y3.bay) rfl (by kernel_rfl) (fun W hW => hc3 W (hW.sub (fun _ h => by cases h)) 0 _ rfl) Try.underlying3 rfl) ?_
              refine vm (i := 6) (v := .pointer (some ⟨g1, 0, none⟩)) rfl rfl rfl ?_
              refine vv (i := 7) (v := .slice pc cs.length cc) rfl rfl rfl (yb_cell (off := 0) rfl (by kernel_rfl) (.head _) Try.underlying22 rfl (by kernel_rfl)) ?_
              refine vm (i := 8) (v := .int .i64 ((m : Nat) : Int)) rfl rfl rfl ?_
              refine vp (i := 9) (v := .pointer (some ⟨g4_, f4_ + m * 12, none⟩)) rfl rfl rfl (run_idxQ (p := pc) (cap := cc) (n := cs.length) (j := .i64) (k := m) (sz := 12) rfl Try.underlying22 (by kernel_rfl) (by kernel_rfl) hp4 (by kernel_rfl) (by omega)) ?_
              refine vm (i := 10) (v := .pointer (some ⟨g4_, f4_ + m * 12, none⟩)) rfl rfl rfl ?_
              refine vb (i := 11) (v := .int .i64 cm.bay) rfl rfl rfl (yb_rf (v := .int .i64 cm.bay) rfl (by kernel_rfl) (fun W hW => hc4 W (hW.sub (fun _ h => by cases h)) 0 _ rfl) Try.underlying3 rfl) ?_
              refine vp (i := 12) (v := .bool (decide (y3.bay = cm.bay))) rfl rfl rfl (run_bin rfl (vx := (.int .i64 y3.bay)) (vy := (.int .i64 cm.bay)) (by kernel_rfl) (by kernel_rfl) fun w => bi_eql rfl w) ?_
              refine vm (i := 13) (v := .bool (decide (y3.bay = cm.bay))) rfl rfl rfl ?_
              cases hd5 : (decide (y3.bay = cm.bay)) with
              | false =>
                have h5 : ¬ (y3.bay = cm.bay) := of_decide_eq_false hd5
                clear hd5
                refine vn (i := 14) rfl rfl ?_
                refine vn (i := 15) rfl rfl ?_
                refine vn (i := 16) rfl rfl ?_
                refine vn (i := 17) rfl rfl ?_
                refine vn (i := 18) rfl rfl ?_
                refine vn (i := 19) rfl rfl ?_
                refine vn (i := 20) rfl rfl ?_
                refine vn (i := 21) rfl rfl ?_
                refine vn (i := 22) rfl rfl ?_
                refine vn (i := 23) rfl rfl ?_
                refine vn (i := 24) rfl rfl ?_
                refine vn (i := 25) rfl rfl ?_
                refine vn (i := 26) rfl rfl ?_
                refine vm (i := 27) (v := .bool false) rfl rfl rfl ?_
                refine vm (i := 28) (v := .bool false) rfl rfl rfl ?_
                refine vn (i := 29) rfl rfl ?_
                refine vm (i := 30) (v := .bool false) rfl rfl rfl ?_
                refine wpV_done (by kernel_rfl) (fun W11 hW11 => ?_) _
                refine (show Code.wp _ _ _ _ _ from ?_)
                refine wp_cond_false rfl ?_
                refine wp_skip ?_
                refine (show Code.wp _ _ _ _ _ from ?_)
                refine wp_region_L (W0 := w) ((g1, .cells (shC (.slice pc cs.length cc) (.slice po os.length co) t).toArray 32 (0, 0)) :: Ko) (hW11) ?_
                refine lm (v := .int .i64 ((k : Nat) : Int)) rfl rfl ?_
                refine lp (v := .int .i64 (((k + 1) : Nat) : Int)) rfl rfl (run_bin rfl (vx := (.int .i64 ((k : Nat) : Int))) (vy := (.int .i64 ((1 : Nat) : Int))) (by kernel_rfl) (by kernel_rfl) fun w => bn_add (z := (k + 1)) rfl (wr_i64 (by omega)) w) ?_
                refine lm (v := .int .i64 (((k + 1) : Nat) : Int)) rfl rfl ?_
                refine wpL_done (fun W12 hW12 => ?_)
                go_roundw
                case rel =>
                  repeat apply Exists.intro
                  exact ⟨⟨k + 1, z, vo, Ko, (by omega), (by rw [idx_no hy3 (by rw [bes_eval ⟨rm1, rm2⟩ ⟨r13, r23⟩]; simp [*])]; exact hml), (by omega), (by rw [idx_no hy3 (by rw [bes_eval ⟨rm1, rm2⟩ ⟨r13, r23⟩]; simp [*])]; exact hO), (show Dk g1 Ko from (by (try simp only [dj_app_l, dj_app_r, dj_cons_l, dj_cons_r, dj_nil_l, dj_nil_r, dk_app, dk_cons, dk_nil, and_true, true_and, and_assoc]); repeat' (first | trivial | assumption | exact Dj.symm (by assumption) | exact Ne.symm (by assumption) | apply And.intro))), rfl, rfl, (hW12.sub (fun p hp => by first | exact hp | (simp only [List.mem_cons, List.mem_append, List.nil_append, List.not_mem_nil, or_assoc, or_false, false_or] at hp ⊢ <;> grind)))⟩, rfl⟩
                case measure => (show cs.length - (intOf (.int .i64 (((k + 1) : Nat) : Int))).toNat < cs.length - (intOf (.int .i64 ((k : Nat) : Int))).toNat); simp only [intOf]; omega
              | true =>
                have h5 : y3.bay = cm.bay := of_decide_eq_true hd5
                clear hd5
                refine vm (i := 14) (v := .pointer (some ⟨g1, 0, none⟩)) rfl rfl rfl ?_
                refine vv (i := 15) (v := .slice pc cs.length cc) rfl rfl rfl (yb_cell (off := 0) rfl (by kernel_rfl) (.head _) Try.underlying22 rfl (by kernel_rfl)) ?_
                refine vm (i := 16) (v := .int .i64 ((k : Nat) : Int)) rfl rfl rfl ?_
                refine vp (i := 17) (v := .pointer (some ⟨g3_, f3_ + k * 12, none⟩)) rfl rfl rfl (run_idxQ (p := pc) (cap := cc) (n := cs.length) (j := .i64) (k := k) (sz := 12) rfl Try.underlying22 (by kernel_rfl) (by kernel_rfl) hp3 (by kernel_rfl) (by omega)) ?_
                refine vm (i := 18) (v := .pointer (some ⟨g3_, f3_ + k * 12 + 2, none⟩)) rfl rfl rfl ?_
                refine vb (i := 19) (v := .bool y3.deck) rfl rfl rfl (yb_rf (v := .bool y3.deck) rfl (by kernel_rfl) (fun W hW => hc3 W (hW.sub (fun _ h => by cases h)) 2 _ rfl) Try.underlying4 rfl) ?_
                refine vm (i := 20) (v := .pointer (some ⟨g1, 0, none⟩)) rfl rfl rfl ?_
                refine vv (i := 21) (v := .slice pc cs.length cc) rfl rfl rfl (yb_cell (off := 0) rfl (by kernel_rfl) (.head _) Try.underlying22 rfl (by kernel_rfl)) ?_
                refine vm (i := 22) (v := .int .i64 ((m : Nat) : Int)) rfl rfl rfl ?_
                refine vp (i := 23) (v := .pointer (some ⟨g4_, f4_ + m * 12, none⟩)) rfl rfl rfl (run_idxQ (p := pc) (cap := cc) (n := cs.length) (j := .i64) (k := m) (sz := 12) rfl Try.underlying22 (by kernel_rfl) (by kernel_rfl) hp4 (by kernel_rfl) (by omega)) ?_
                refine vm (i := 24) (v := .pointer (some ⟨g4_, f4_ + m * 12 + 2, none⟩)) rfl rfl rfl ?_
                refine vb (i := 25) (v := .bool cm.deck) rfl rfl rfl (yb_rf (v := .bool cm.deck) rfl (by kernel_rfl) (fun W hW => hc4 W (hW.sub (fun _ h => by cases h)) 2 _ rfl) Try.underlying4 rfl) ?_
                refine vp (i := 26) (v := .bool (y3.deck == cm.deck)) rfl rfl rfl (run_bin rfl (vx := .bool y3.deck) (vy := .bool cm.deck) (by kernel_rfl) (by kernel_rfl) fun w => bn_bool_eql rfl Try.underlying4 w) ?_
                refine vm (i := 27) (v := .bool (y3.deck == cm.deck)) rfl rfl rfl ?_
                refine vm (i := 28) (v := .bool (y3.deck == cm.deck)) rfl rfl rfl ?_
                cases h6 : (y3.deck == cm.deck) with
                | false =>
                  refine vn (i := 29) rfl rfl ?_
                  refine vm (i := 30) (v := .bool false) rfl rfl rfl ?_
                  refine wpV_done (by kernel_rfl) (fun W13 hW13 => ?_) _
                  refine (show Code.wp _ _ _ _ _ from ?_)
                  refine wp_cond_false rfl ?_
                  refine wp_skip ?_
                  refine (show Code.wp _ _ _ _ _ from ?_)
                  refine wp_region_L (W0 := w) ((g1, .cells (shC (.slice pc cs.length cc) (.slice po os.length co) t).toArray 32 (0, 0)) :: Ko) (hW13) ?_
                  refine lm (v := .int .i64 ((k : Nat) : Int)) rfl rfl ?_
                  refine lp (v := .int .i64 (((k + 1) : Nat) : Int)) rfl rfl (run_bin rfl (vx := (.int .i64 ((k : Nat) : Int))) (vy := (.int .i64 ((1 : Nat) : Int))) (by kernel_rfl) (by kernel_rfl) fun w => bn_add (z := (k + 1)) rfl (wr_i64 (by omega)) w) ?_
                  refine lm (v := .int .i64 (((k + 1) : Nat) : Int)) rfl rfl ?_
                  refine wpL_done (fun W14 hW14 => ?_)
                  go_roundw
                  case rel =>
                    repeat apply Exists.intro
                    exact ⟨⟨k + 1, z, vo, Ko, (by omega), (by rw [idx_no hy3 (by rw [bes_eval ⟨rm1, rm2⟩ ⟨r13, r23⟩]; simp [*])]; exact hml), (by omega), (by rw [idx_no hy3 (by rw [bes_eval ⟨rm1, rm2⟩ ⟨r13, r23⟩]; simp [*])]; exact hO), (show Dk g1 Ko from (by (try simp only [dj_app_l, dj_app_r, dj_cons_l, dj_cons_r, dj_nil_l, dj_nil_r, dk_app, dk_cons, dk_nil, and_true, true_and, and_assoc]); repeat' (first | trivial | assumption | exact Dj.symm (by assumption) | exact Ne.symm (by assumption) | apply And.intro))), rfl, rfl, (hW14.sub (fun p hp => by first | exact hp | (simp only [List.mem_cons, List.mem_append, List.nil_append, List.not_mem_nil, or_assoc, or_false, false_or] at hp ⊢ <;> grind)))⟩, rfl⟩
                  case measure => (show cs.length - (intOf (.int .i64 (((k + 1) : Nat) : Int))).toNat < cs.length - (intOf (.int .i64 ((k : Nat) : Int))).toNat); simp only [intOf]; omega
                | true =>
                  refine vm (i := 29) (v := .bool false) rfl rfl rfl ?_
                  refine vm (i := 30) (v := .bool false) rfl rfl rfl ?_
                  refine wpV_done (by kernel_rfl) (fun W15 hW15 => ?_) _
                  refine (show Code.wp _ _ _ _ _ from ?_)
                  refine wp_cond_false rfl ?_
                  refine wp_skip ?_
                  refine (show Code.wp _ _ _ _ _ from ?_)
                  refine wp_region_L (W0 := w) ((g1, .cells (shC (.slice pc cs.length cc) (.slice po os.length co) t).toArray 32 (0, 0)) :: Ko) (hW15) ?_
                  refine lm (v := .int .i64 ((k : Nat) : Int)) rfl rfl ?_
                  refine lp (v := .int .i64 (((k + 1) : Nat) : Int)) rfl rfl (run_bin rfl (vx := (.int .i64 ((k : Nat) : Int))) (vy := (.int .i64 ((1 : Nat) : Int))) (by kernel_rfl) (by kernel_rfl) fun w => bn_add (z := (k + 1)) rfl (wr_i64 (by omega)) w) ?_
                  refine lm (v := .int .i64 (((k + 1) : Nat) : Int)) rfl rfl ?_
                  refine wpL_done (fun W16 hW16 => ?_)
                  go_roundw
                  case rel =>
                    repeat apply Exists.intro
                    exact ⟨⟨k + 1, z, vo, Ko, (by omega), (by rw [idx_no hy3 (by rw [bes_eval ⟨rm1, rm2⟩ ⟨r13, r23⟩]; simp [*])]; exact hml), (by omega), (by rw [idx_no hy3 (by rw [bes_eval ⟨rm1, rm2⟩ ⟨r13, r23⟩]; simp [*])]; exact hO), (show Dk g1 Ko from (by (try simp only [dj_app_l, dj_app_r, dj_cons_l, dj_cons_r, dj_nil_l, dj_nil_r, dk_app, dk_cons, dk_nil, and_true, true_and, and_assoc]); repeat' (first | trivial | assumption | exact Dj.symm (by assumption) | exact Ne.symm (by assumption) | apply And.intro))), rfl, rfl, (hW16.sub (fun p hp => by first | exact hp | (simp only [List.mem_cons, List.mem_append, List.nil_append, List.not_mem_nil, or_assoc, or_false, false_or] at hp ⊢ <;> grind)))⟩, rfl⟩
                  case measure => (show cs.length - (intOf (.int .i64 (((k + 1) : Nat) : Int))).toNat < cs.length - (intOf (.int .i64 ((k : Nat) : Int))).toNat); simp only [intOf]; omega
            | true =>
              have h4 : y3.row < cm.row := of_decide_eq_true hd4
              clear hd4
              refine lm (v := .int .i64 y3.row) rfl rfl ?_
              refine lp (v := .int .i64 (y3.row + 1)) rfl rfl (run_bin rfl (vx := (.int .i64 y3.row)) (vy := (.int .i64 1)) (by kernel_rfl) (by kernel_rfl) fun w => bi_add (z := (y3.row + 1)) rfl (wi_i64 (by omega)) w) ?_
              refine lm (v := .int .i64 cm.row) rfl rfl ?_
              refine lp (v := .bool (decide ((y3.row + 1) = cm.row))) rfl rfl (run_bin rfl (vx := (.int .i64 (y3.row + 1))) (vy := (.int .i64 cm.row)) (by kernel_rfl) (by kernel_rfl) fun w => bi_eql rfl w) ?_
              refine lm (v := .bool (decide ((y3.row + 1) = cm.row))) rfl rfl ?_
              refine lm (v := .bool (decide ((y3.row + 1) = cm.row))) rfl rfl ?_
              refine lm (v := .bool (decide ((y3.row + 1) = cm.row))) rfl rfl ?_
              refine wpL_done (fun W17 hW17 => ?_)
              refine (show Code.wp _ _ _ _ _ from ?_)
              refine wp_seq ?_
              refine wp_region_V (W0 := w) ((g1, .cells (shC (.slice pc cs.length cc) (.slice po os.length co) t).toArray 32 (0, 0)) :: Ko) (by kernel_rfl) (hW17) ?_
              refine vm (i := 0) (v := .pointer (some ⟨g1, 0, none⟩)) rfl rfl rfl ?_
              refine vv (i := 1) (v := .slice pc cs.length cc) rfl rfl rfl (yb_cell (off := 0) rfl (by kernel_rfl) (.head _) Try.underlying22 rfl (by kernel_rfl)) ?_
              refine vm (i := 2) (v := .int .i64 ((k : Nat) : Int)) rfl rfl rfl ?_
              refine vp (i := 3) (v := .pointer (some ⟨g3_, f3_ + k * 12, none⟩)) rfl rfl rfl (run_idxQ (p := pc) (cap := cc) (n := cs.length) (j := .i64) (k := k) (sz := 12) rfl Try.underlying22 (by kernel_rfl) (by kernel_rfl) hp3 (by kernel_rfl) (by omega)) ?_
              refine vm (i := 4) (v := .pointer (some ⟨g3_, f3_ + k * 12, none⟩)) rfl rfl rfl ?_
              refine vb (i := 5) (v := .int .i64 y3.bay) rfl rfl rfl (yb_rf (v := .int .i64 y3.bay) rfl (by kernel_rfl) (fun W hW => hc3 W (hW.sub (fun _ h => by cases h)) 0 _ rfl) Try.underlying3 rfl) ?_
              refine vm (i := 6) (v := .pointer (some ⟨g1, 0, none⟩)) rfl rfl rfl ?_
              refine vv (i := 7) (v := .slice pc cs.length cc) rfl rfl rfl (yb_cell (off := 0) rfl (by kernel_rfl) (.head _) Try.underlying22 rfl (by kernel_rfl)) ?_
              refine vm (i := 8) (v := .int .i64 ((m : Nat) : Int)) rfl rfl rfl ?_
              refine vp (i := 9) (v := .pointer (some ⟨g4_, f4_ + m * 12, none⟩)) rfl rfl rfl (run_idxQ (p := pc) (cap := cc) (n := cs.length) (j := .i64) (k := m) (sz := 12) rfl Try.underlying22 (by kernel_rfl) (by kernel_rfl) hp4 (by kernel_rfl) (by omega)) ?_
              refine vm (i := 10) (v := .pointer (some ⟨g4_, f4_ + m * 12, none⟩)) rfl rfl rfl ?_
              refine vb (i := 11) (v := .int .i64 cm.bay) rfl rfl rfl (yb_rf (v := .int .i64 cm.bay) rfl (by kernel_rfl) (fun W hW => hc4 W (hW.sub (fun _ h => by cases h)) 0 _ rfl) Try.underlying3 rfl) ?_
              refine vp (i := 12) (v := .bool (decide (y3.bay = cm.bay))) rfl rfl rfl (run_bin rfl (vx := (.int .i64 y3.bay)) (vy := (.int .i64 cm.bay)) (by kernel_rfl) (by kernel_rfl) fun w => bi_eql rfl w) ?_
              refine vm (i := 13) (v := .bool (decide (y3.bay = cm.bay))) rfl rfl rfl ?_
              cases hd7 : (decide (y3.bay = cm.bay)) with
              | false =>
                have h7 : ¬ (y3.bay = cm.bay) := of_decide_eq_false hd7
                clear hd7
                refine vn (i := 14) rfl rfl ?_
                refine vn (i := 15) rfl rfl ?_
                refine vn (i := 16) rfl rfl ?_
                refine vn (i := 17) rfl rfl ?_
                refine vn (i := 18) rfl rfl ?_
                refine vn (i := 19) rfl rfl ?_
                refine vn (i := 20) rfl rfl ?_
                refine vn (i := 21) rfl rfl ?_
                refine vn (i := 22) rfl rfl ?_
                refine vn (i := 23) rfl rfl ?_
                refine vn (i := 24) rfl rfl ?_
                refine vn (i := 25) rfl rfl ?_
                refine vn (i := 26) rfl rfl ?_
                refine vm (i := 27) (v := .bool false) rfl rfl rfl ?_
                refine vm (i := 28) (v := .bool false) rfl rfl rfl ?_
                refine vn (i := 29) rfl rfl ?_
                refine vm (i := 30) (v := .bool false) rfl rfl rfl ?_
                refine wpV_done (by kernel_rfl) (fun W18 hW18 => ?_) _
                refine (show Code.wp _ _ _ _ _ from ?_)
                refine wp_cond_false rfl ?_
                refine wp_skip ?_
                refine (show Code.wp _ _ _ _ _ from ?_)
                refine wp_region_L (W0 := w) ((g1, .cells (shC (.slice pc cs.length cc) (.slice po os.length co) t).toArray 32 (0, 0)) :: Ko) (hW18) ?_
                refine lm (v := .int .i64 ((k : Nat) : Int)) rfl rfl ?_
                refine lp (v := .int .i64 (((k + 1) : Nat) : Int)) rfl rfl (run_bin rfl (vx := (.int .i64 ((k : Nat) : Int))) (vy := (.int .i64 ((1 : Nat) : Int))) (by kernel_rfl) (by kernel_rfl) fun w => bn_add (z := (k + 1)) rfl (wr_i64 (by omega)) w) ?_
                refine lm (v := .int .i64 (((k + 1) : Nat) : Int)) rfl rfl ?_
                refine wpL_done (fun W19 hW19 => ?_)
                go_roundw
                case rel =>
                  repeat apply Exists.intro
                  exact ⟨⟨k + 1, z, vo, Ko, (by omega), (by rw [idx_no hy3 (by rw [bes_eval ⟨rm1, rm2⟩ ⟨r13, r23⟩]; simp [*])]; exact hml), (by omega), (by rw [idx_no hy3 (by rw [bes_eval ⟨rm1, rm2⟩ ⟨r13, r23⟩]; simp [*])]; exact hO), (show Dk g1 Ko from (by (try simp only [dj_app_l, dj_app_r, dj_cons_l, dj_cons_r, dj_nil_l, dj_nil_r, dk_app, dk_cons, dk_nil, and_true, true_and, and_assoc]); repeat' (first | trivial | assumption | exact Dj.symm (by assumption) | exact Ne.symm (by assumption) | apply And.intro))), rfl, rfl, (hW19.sub (fun p hp => by first | exact hp | (simp only [List.mem_cons, List.mem_append, List.nil_append, List.not_mem_nil, or_assoc, or_false, false_or] at hp ⊢ <;> grind)))⟩, rfl⟩
                case measure => (show cs.length - (intOf (.int .i64 (((k + 1) : Nat) : Int))).toNat < cs.length - (intOf (.int .i64 ((k : Nat) : Int))).toNat); simp only [intOf]; omega
              | true =>
                have h7 : y3.bay = cm.bay := of_decide_eq_true hd7
                clear hd7
                refine vm (i := 14) (v := .pointer (some ⟨g1, 0, none⟩)) rfl rfl rfl ?_
                refine vv (i := 15) (v := .slice pc cs.length cc) rfl rfl rfl (yb_cell (off := 0) rfl (by kernel_rfl) (.head _) Try.underlying22 rfl (by kernel_rfl)) ?_
                refine vm (i := 16) (v := .int .i64 ((k : Nat) : Int)) rfl rfl rfl ?_
                refine vp (i := 17) (v := .pointer (some ⟨g3_, f3_ + k * 12, none⟩)) rfl rfl rfl (run_idxQ (p := pc) (cap := cc) (n := cs.length) (j := .i64) (k := k) (sz := 12) rfl Try.underlying22 (by kernel_rfl) (by kernel_rfl) hp3 (by kernel_rfl) (by omega)) ?_
                refine vm (i := 18) (v := .pointer (some ⟨g3_, f3_ + k * 12 + 2, none⟩)) rfl rfl rfl ?_
                refine vb (i := 19) (v := .bool y3.deck) rfl rfl rfl (yb_rf (v := .bool y3.deck) rfl (by kernel_rfl) (fun W hW => hc3 W (hW.sub (fun _ h => by cases h)) 2 _ rfl) Try.underlying4 rfl) ?_
                refine vm (i := 20) (v := .pointer (some ⟨g1, 0, none⟩)) rfl rfl rfl ?_
                refine vv (i := 21) (v := .slice pc cs.length cc) rfl rfl rfl (yb_cell (off := 0) rfl (by kernel_rfl) (.head _) Try.underlying22 rfl (by kernel_rfl)) ?_
                refine vm (i := 22) (v := .int .i64 ((m : Nat) : Int)) rfl rfl rfl ?_
                refine vp (i := 23) (v := .pointer (some ⟨g4_, f4_ + m * 12, none⟩)) rfl rfl rfl (run_idxQ (p := pc) (cap := cc) (n := cs.length) (j := .i64) (k := m) (sz := 12) rfl Try.underlying22 (by kernel_rfl) (by kernel_rfl) hp4 (by kernel_rfl) (by omega)) ?_
                refine vm (i := 24) (v := .pointer (some ⟨g4_, f4_ + m * 12 + 2, none⟩)) rfl rfl rfl ?_
                refine vb (i := 25) (v := .bool cm.deck) rfl rfl rfl (yb_rf (v := .bool cm.deck) rfl (by kernel_rfl) (fun W hW => hc4 W (hW.sub (fun _ h => by cases h)) 2 _ rfl) Try.underlying4 rfl) ?_
                refine vp (i := 26) (v := .bool (y3.deck == cm.deck)) rfl rfl rfl (run_bin rfl (vx := .bool y3.deck) (vy := .bool cm.deck) (by kernel_rfl) (by kernel_rfl) fun w => bn_bool_eql rfl Try.underlying4 w) ?_
                refine vm (i := 27) (v := .bool (y3.deck == cm.deck)) rfl rfl rfl ?_
                refine vm (i := 28) (v := .bool (y3.deck == cm.deck)) rfl rfl rfl ?_
                cases h8 : (y3.deck == cm.deck) with
                | false =>
                  refine vn (i := 29) rfl rfl ?_
                  refine vm (i := 30) (v := .bool false) rfl rfl rfl ?_
                  refine wpV_done (by kernel_rfl) (fun W20 hW20 => ?_) _
                  refine (show Code.wp _ _ _ _ _ from ?_)
                  refine wp_cond_false rfl ?_
                  refine wp_skip ?_
                  refine (show Code.wp _ _ _ _ _ from ?_)
                  refine wp_region_L (W0 := w) ((g1, .cells (shC (.slice pc cs.length cc) (.slice po os.length co) t).toArray 32 (0, 0)) :: Ko) (hW20) ?_
                  refine lm (v := .int .i64 ((k : Nat) : Int)) rfl rfl ?_
                  refine lp (v := .int .i64 (((k + 1) : Nat) : Int)) rfl rfl (run_bin rfl (vx := (.int .i64 ((k : Nat) : Int))) (vy := (.int .i64 ((1 : Nat) : Int))) (by kernel_rfl) (by kernel_rfl) fun w => bn_add (z := (k + 1)) rfl (wr_i64 (by omega)) w) ?_
                  refine lm (v := .int .i64 (((k + 1) : Nat) : Int)) rfl rfl ?_
                  refine wpL_done (fun W21 hW21 => ?_)
                  go_roundw
                  case rel =>
                    repeat apply Exists.intro
                    exact ⟨⟨k + 1, z, vo, Ko, (by omega), (by rw [idx_no hy3 (by rw [bes_eval ⟨rm1, rm2⟩ ⟨r13, r23⟩]; simp [*])]; exact hml), (by omega), (by rw [idx_no hy3 (by rw [bes_eval ⟨rm1, rm2⟩ ⟨r13, r23⟩]; simp [*])]; exact hO), (show Dk g1 Ko from (by (try simp only [dj_app_l, dj_app_r, dj_cons_l, dj_cons_r, dj_nil_l, dj_nil_r, dk_app, dk_cons, dk_nil, and_true, true_and, and_assoc]); repeat' (first | trivial | assumption | exact Dj.symm (by assumption) | exact Ne.symm (by assumption) | apply And.intro))), rfl, rfl, (hW21.sub (fun p hp => by first | exact hp | (simp only [List.mem_cons, List.mem_append, List.nil_append, List.not_mem_nil, or_assoc, or_false, false_or] at hp ⊢ <;> grind)))⟩, rfl⟩
                  case measure => (show cs.length - (intOf (.int .i64 (((k + 1) : Nat) : Int))).toNat < cs.length - (intOf (.int .i64 ((k : Nat) : Int))).toNat); simp only [intOf]; omega
                | true =>
                  refine vm (i := 29) (v := .bool (decide ((y3.row + 1) = cm.row))) rfl rfl rfl ?_
                  refine vm (i := 30) (v := .bool (decide ((y3.row + 1) = cm.row))) rfl rfl rfl ?_
                  refine wpV_done (by kernel_rfl) (fun W22 hW22 => ?_) _
                  refine (show Code.wp _ _ _ _ _ from ?_)
                  cases hd9 : (decide ((y3.row + 1) = cm.row)) with
                  | false =>
                    have h9 : ¬ ((y3.row + 1) = cm.row) := of_decide_eq_false hd9
                    clear hd9
                    refine wp_cond_false rfl ?_
                    refine wp_skip ?_
                    refine (show Code.wp _ _ _ _ _ from ?_)
                    refine wp_region_L (W0 := w) ((g1, .cells (shC (.slice pc cs.length cc) (.slice po os.length co) t).toArray 32 (0, 0)) :: Ko) (hW22) ?_
                    refine lm (v := .int .i64 ((k : Nat) : Int)) rfl rfl ?_
                    refine lp (v := .int .i64 (((k + 1) : Nat) : Int)) rfl rfl (run_bin rfl (vx := (.int .i64 ((k : Nat) : Int))) (vy := (.int .i64 ((1 : Nat) : Int))) (by kernel_rfl) (by kernel_rfl) fun w => bn_add (z := (k + 1)) rfl (wr_i64 (by omega)) w) ?_
                    refine lm (v := .int .i64 (((k + 1) : Nat) : Int)) rfl rfl ?_
                    refine wpL_done (fun W23 hW23 => ?_)
                    go_roundw
                    case rel =>
                      repeat apply Exists.intro
                      exact ⟨⟨k + 1, z, vo, Ko, (by omega), (by rw [idx_no hy3 (by rw [bes_eval ⟨rm1, rm2⟩ ⟨r13, r23⟩]; simp [*])]; exact hml), (by omega), (by rw [idx_no hy3 (by rw [bes_eval ⟨rm1, rm2⟩ ⟨r13, r23⟩]; simp [*])]; exact hO), (show Dk g1 Ko from (by (try simp only [dj_app_l, dj_app_r, dj_cons_l, dj_cons_r, dj_nil_l, dj_nil_r, dk_app, dk_cons, dk_nil, and_true, true_and, and_assoc]); repeat' (first | trivial | assumption | exact Dj.symm (by assumption) | exact Ne.symm (by assumption) | apply And.intro))), rfl, rfl, (hW23.sub (fun p hp => by first | exact hp | (simp only [List.mem_cons, List.mem_append, List.nil_append, List.not_mem_nil, or_assoc, or_false, false_or] at hp ⊢ <;> grind)))⟩, rfl⟩
                    case measure => (show cs.length - (intOf (.int .i64 (((k + 1) : Nat) : Int))).toNat < cs.length - (intOf (.int .i64 ((k : Nat) : Int))).toNat); simp only [intOf]; omega
                  | true =>
                    have h9 : (y3.row + 1) = cm.row := of_decide_eq_true hd9
                    clear hd9
                    refine wp_cond_true rfl ?_
                    refine wp_region_L (W0 := w) ((g1, .cells (shC (.slice pc cs.length cc) (.slice po os.length co) t).toArray 32 (0, 0)) :: Ko) (hW22) ?_
                    refine lm (v := vo) rfl rfl ?_
                    refine lm (v := .int .i64 ((k : Nat) : Int)) rfl rfl ?_
                    refine wpL_new (fun g => .slice (some ⟨g, 0, none⟩) 1 1) (obi := .cells #[.int .i64 ((k : Nat) : Int)] 3 (0, 0)) rfl rfl (fun _ => by kernel_rfl) (fun _ => by simp only [List.setIfInBounds_toArray, List.set_cons_succ, List.set_cons_zero] <;> rfl) fun g5 Bg5 Fg5 => ?_
                    obtain ⟨dj6_0, dj6_1⟩ : g1 ≠ g5 ∧ Dk g5 Ko := by simpa only [dj_app_l, dj_app_r, dj_cons_l, dj_cons_r, dj_nil_l, dj_nil_r, dk_app, dk_cons, dk_nil, and_true, true_and, and_assoc] using (show Dk g5 ((g1, .cells (shC (.slice pc cs.length cc) (.slice po os.length co) t).toArray 32 (0, 0)) :: Ko) from Fg5)
                    refine wpL_g (AppO w 3 1 [(g1, .cells (shC (.slice pc cs.length cc) (.slice po os.length co) t).toArray 32 (0, 0))] (z + 1) (((idx (besideB cm) (cs.take k)).flatMap inC) ++ [.int .i64 ((k : Nat) : Int)])) rfl rfl (app_own el_int (m := 1) (c := 1) (news := [.int .i64 ((k : Nat) : Int)]) rfl (by kernel_rfl) (by kernel_rfl) (.head _) hO (fun p hp => by simp only [List.mem_cons, List.mem_append, List.nil_append, List.not_mem_nil, or_assoc, or_false, false_or, hp, or_true, true_or]) (fun p hp => ⟨by simp only [List.mem_cons, List.mem_append, List.nil_append, List.not_mem_nil, or_assoc, or_false, false_or] at hp ⊢ <;> grind, (show Dj [(g1, .cells (shC (.slice pc cs.length cc) (.slice po os.length co) t).toArray 32 (0, 0))] Ko from (by (try simp only [dj_app_l, dj_app_r, dj_cons_l, dj_cons_r, dj_nil_l, dj_nil_r, dk_app, dk_cons, dk_nil, and_true, true_and, and_assoc]); repeat' (first | trivial | assumption | exact Dj.symm (by assumption) | exact Ne.symm (by assumption) | apply And.intro))) p hp⟩) rfl (by simp [strV, Value.oneCell']) (by omega) (by omega) (by omega)) (fun _ => by simp only [List.setIfInBounds_toArray, List.set_cons_succ, List.set_cons_zero] <;> rfl) ?_
                    rintro v7 K9 ⟨Kl7, O7, N7, rfl⟩
                    obtain dj8_0 : Dk g1 Kl7 := by simpa only [dj_app_l, dj_app_r, dj_cons_l, dj_cons_r, dj_nil_l, dj_nil_r, dk_app, dk_cons, dk_nil, and_true, true_and, and_assoc] using (show Dj [(g1, .cells (shC (.slice pc cs.length cc) (.slice po os.length co) t).toArray 32 (0, 0))] Kl7 from N7)
                    refine lm (v := v7) rfl rfl ?_
                    refine wpL_done (fun W24 hW24 => ?_)
                    refine (show Code.wp _ _ _ _ _ from ?_)
                    refine wp_region_L (W0 := w) ((g1, .cells (shC (.slice pc cs.length cc) (.slice po os.length co) t).toArray 32 (0, 0)) :: Kl7) (hW24) ?_
                    refine lm (v := .int .i64 ((k : Nat) : Int)) rfl rfl ?_
                    refine lp (v := .int .i64 (((k + 1) : Nat) : Int)) rfl rfl (run_bin rfl (vx := (.int .i64 ((k : Nat) : Int))) (vy := (.int .i64 ((1 : Nat) : Int))) (by kernel_rfl) (by kernel_rfl) fun w => bn_add (z := (k + 1)) rfl (wr_i64 (by omega)) w) ?_
                    refine lm (v := .int .i64 (((k + 1) : Nat) : Int)) rfl rfl ?_
                    refine wpL_done (fun W25 hW25 => ?_)
                    go_roundw
                    case rel =>
                      repeat apply Exists.intro
                      exact ⟨⟨k + 1, z + 1, v7, Kl7, (by omega), (by rw [idx_yes hy3 (by rw [bes_eval ⟨rm1, rm2⟩ ⟨r13, r23⟩]; simp [*]), List.length_append, hml]; rfl), (by omega), (own_snoc O7 (idx_yes hy3 (by rw [bes_eval ⟨rm1, rm2⟩ ⟨r13, r23⟩]; simp [*]))), (show Dk g1 Kl7 from (by (try simp only [dj_app_l, dj_app_r, dj_cons_l, dj_cons_r, dj_nil_l, dj_nil_r, dk_app, dk_cons, dk_nil, and_true, true_and, and_assoc]); repeat' (first | trivial | assumption | exact Dj.symm (by assumption) | exact Ne.symm (by assumption) | apply And.intro))), rfl, rfl, (hW25.sub (fun p hp => by first | exact hp | (simp only [List.mem_cons, List.mem_append, List.nil_append, List.not_mem_nil, or_assoc, or_false, false_or] at hp ⊢ <;> grind)))⟩, rfl⟩
                    case measure => (show cs.length - (intOf (.int .i64 (((k + 1) : Nat) : Int))).toNat < cs.length - (intOf (.int .i64 ((k : Nat) : Int))).toNat); simp only [intOf]; omega
          | true =>
            have h3 : cm.row < y3.row := of_decide_eq_true hd3
            clear hd3
            refine lm (v := .int .i64 cm.row) rfl rfl ?_
            refine lp (v := .int .i64 (cm.row + 1)) rfl rfl (run_bin rfl (vx := (.int .i64 cm.row)) (vy := (.int .i64 1)) (by kernel_rfl) (by kernel_rfl) fun w => bi_add (z := (cm.row + 1)) rfl (wi_i64 (by omega)) w) ?_
            refine lm (v := .int .i64 y3.row) rfl rfl ?_
            refine lp (v := .bool (decide ((cm.row + 1) = y3.row))) rfl rfl (run_bin rfl (vx := (.int .i64 (cm.row + 1))) (vy := (.int .i64 y3.row)) (by kernel_rfl) (by kernel_rfl) fun w => bi_eql rfl w) ?_
            refine lm (v := .bool (decide ((cm.row + 1) = y3.row))) rfl rfl ?_
            refine lm (v := .bool (decide ((cm.row + 1) = y3.row))) rfl rfl ?_
            cases hd10 : (decide ((cm.row + 1) = y3.row)) with
            | false =>
              have h10 : ¬ ((cm.row + 1) = y3.row) := of_decide_eq_false hd10
              clear hd10
              refine lm (v := .int .i64 y3.row) rfl rfl ?_
              refine lm (v := .int .i64 cm.row) rfl rfl ?_
              refine lp (v := .bool (decide (y3.row < cm.row))) rfl rfl (run_bin rfl (vx := (.int .i64 y3.row)) (vy := (.int .i64 cm.row)) (by kernel_rfl) (by kernel_rfl) fun w => bi_lss rfl w) ?_
              refine lm (v := .bool (decide (y3.row < cm.row))) rfl rfl ?_
              cases hd11 : (decide (y3.row < cm.row)) with
              | false =>
                have h11 : ¬ (y3.row < cm.row) := of_decide_eq_false hd11
                clear hd11
                refine ln rfl ?_
                refine ln rfl ?_
                refine ln rfl ?_
                refine ln rfl ?_
                refine lm (v := .bool false) rfl rfl ?_
                refine lm (v := .bool false) rfl rfl ?_
                refine lm (v := .bool false) rfl rfl ?_
                refine wpL_done (fun W26 hW26 => ?_)
                refine (show Code.wp _ _ _ _ _ from ?_)
                refine wp_seq ?_
                refine wp_region_V (W0 := w) ((g1, .cells (shC (.slice pc cs.length cc) (.slice po os.length co) t).toArray 32 (0, 0)) :: Ko) (by kernel_rfl) (hW26) ?_
                refine vm (i := 0) (v := .pointer (some ⟨g1, 0, none⟩)) rfl rfl rfl ?_
                refine vv (i := 1) (v := .slice pc cs.length cc) rfl rfl rfl (yb_cell (off := 0) rfl (by kernel_rfl) (.head _) Try.underlying22 rfl (by kernel_rfl)) ?_
                refine vm (i := 2) (v := .int .i64 ((k : Nat) : Int)) rfl rfl rfl ?_
                refine vp (i := 3) (v := .pointer (some ⟨g3_, f3_ + k * 12, none⟩)) rfl rfl rfl (run_idxQ (p := pc) (cap := cc) (n := cs.length) (j := .i64) (k := k) (sz := 12) rfl Try.underlying22 (by kernel_rfl) (by kernel_rfl) hp3 (by kernel_rfl) (by omega)) ?_
                refine vm (i := 4) (v := .pointer (some ⟨g3_, f3_ + k * 12, none⟩)) rfl rfl rfl ?_
                refine vb (i := 5) (v := .int .i64 y3.bay) rfl rfl rfl (yb_rf (v := .int .i64 y3.bay) rfl (by kernel_rfl) (fun W hW => hc3 W (hW.sub (fun _ h => by cases h)) 0 _ rfl) Try.underlying3 rfl) ?_
                refine vm (i := 6) (v := .pointer (some ⟨g1, 0, none⟩)) rfl rfl rfl ?_
                refine vv (i := 7) (v := .slice pc cs.length cc) rfl rfl rfl (yb_cell (off := 0) rfl (by kernel_rfl) (.head _) Try.underlying22 rfl (by kernel_rfl)) ?_
                refine vm (i := 8) (v := .int .i64 ((m : Nat) : Int)) rfl rfl rfl ?_
                refine vp (i := 9) (v := .pointer (some ⟨g4_, f4_ + m * 12, none⟩)) rfl rfl rfl (run_idxQ (p := pc) (cap := cc) (n := cs.length) (j := .i64) (k := m) (sz := 12) rfl Try.underlying22 (by kernel_rfl) (by kernel_rfl) hp4 (by kernel_rfl) (by omega)) ?_
                refine vm (i := 10) (v := .pointer (some ⟨g4_, f4_ + m * 12, none⟩)) rfl rfl rfl ?_
                refine vb (i := 11) (v := .int .i64 cm.bay) rfl rfl rfl (yb_rf (v := .int .i64 cm.bay) rfl (by kernel_rfl) (fun W hW => hc4 W (hW.sub (fun _ h => by cases h)) 0 _ rfl) Try.underlying3 rfl) ?_
                refine vp (i := 12) (v := .bool (decide (y3.bay = cm.bay))) rfl rfl rfl (run_bin rfl (vx := (.int .i64 y3.bay)) (vy := (.int .i64 cm.bay)) (by kernel_rfl) (by kernel_rfl) fun w => bi_eql rfl w) ?_
                refine vm (i := 13) (v := .bool (decide (y3.bay = cm.bay))) rfl rfl rfl ?_
                cases hd12 : (decide (y3.bay = cm.bay)) with
                | false =>
                  have h12 : ¬ (y3.bay = cm.bay) := of_decide_eq_false hd12
                  clear hd12
                  refine vn (i := 14) rfl rfl ?_
                  refine vn (i := 15) rfl rfl ?_
                  refine vn (i := 16) rfl rfl ?_
                  refine vn (i := 17) rfl rfl ?_
                  refine vn (i := 18) rfl rfl ?_
                  refine vn (i := 19) rfl rfl ?_
                  refine vn (i := 20) rfl rfl ?_
                  refine vn (i := 21) rfl rfl ?_
                  refine vn (i := 22) rfl rfl ?_
                  refine vn (i := 23) rfl rfl ?_
                  refine vn (i := 24) rfl rfl ?_
                  refine vn (i := 25) rfl rfl ?_
                  refine vn (i := 26) rfl rfl ?_
                  refine vm (i := 27) (v := .bool false) rfl rfl rfl ?_
                  refine vm (i := 28) (v := .bool false) rfl rfl rfl ?_
                  refine vn (i := 29) rfl rfl ?_
                  refine vm (i := 30) (v := .bool false) rfl rfl rfl ?_
                  refine wpV_done (by kernel_rfl) (fun W27 hW27 => ?_) _
                  refine (show Code.wp _ _ _ _ _ from ?_)
                  refine wp_cond_false rfl ?_
                  refine wp_skip ?_
                  refine (show Code.wp _ _ _ _ _ from ?_)
                  refine wp_region_L (W0 := w) ((g1, .cells (shC (.slice pc cs.length cc) (.slice po os.length co) t).toArray 32 (0, 0)) :: Ko) (hW27) ?_
                  refine lm (v := .int .i64 ((k : Nat) : Int)) rfl rfl ?_
                  refine lp (v := .int .i64 (((k + 1) : Nat) : Int)) rfl rfl (run_bin rfl (vx := (.int .i64 ((k : Nat) : Int))) (vy := (.int .i64 ((1 : Nat) : Int))) (by kernel_rfl) (by kernel_rfl) fun w => bn_add (z := (k + 1)) rfl (wr_i64 (by omega)) w) ?_
                  refine lm (v := .int .i64 (((k + 1) : Nat) : Int)) rfl rfl ?_
                  refine wpL_done (fun W28 hW28 => ?_)
                  go_roundw
                  case rel =>
                    repeat apply Exists.intro
                    exact ⟨⟨k + 1, z, vo, Ko, (by omega), (by rw [idx_no hy3 (by rw [bes_eval ⟨rm1, rm2⟩ ⟨r13, r23⟩]; simp [*])]; exact hml), (by omega), (by rw [idx_no hy3 (by rw [bes_eval ⟨rm1, rm2⟩ ⟨r13, r23⟩]; simp [*])]; exact hO), (show Dk g1 Ko from (by (try simp only [dj_app_l, dj_app_r, dj_cons_l, dj_cons_r, dj_nil_l, dj_nil_r, dk_app, dk_cons, dk_nil, and_true, true_and, and_assoc]); repeat' (first | trivial | assumption | exact Dj.symm (by assumption) | exact Ne.symm (by assumption) | apply And.intro))), rfl, rfl, (hW28.sub (fun p hp => by first | exact hp | (simp only [List.mem_cons, List.mem_append, List.nil_append, List.not_mem_nil, or_assoc, or_false, false_or] at hp ⊢ <;> grind)))⟩, rfl⟩
                  case measure => (show cs.length - (intOf (.int .i64 (((k + 1) : Nat) : Int))).toNat < cs.length - (intOf (.int .i64 ((k : Nat) : Int))).toNat); simp only [intOf]; omega
                | true =>
                  have h12 : y3.bay = cm.bay := of_decide_eq_true hd12
                  clear hd12
                  refine vm (i := 14) (v := .pointer (some ⟨g1, 0, none⟩)) rfl rfl rfl ?_
                  refine vv (i := 15) (v := .slice pc cs.length cc) rfl rfl rfl (yb_cell (off := 0) rfl (by kernel_rfl) (.head _) Try.underlying22 rfl (by kernel_rfl)) ?_
                  refine vm (i := 16) (v := .int .i64 ((k : Nat) : Int)) rfl rfl rfl ?_
                  refine vp (i := 17) (v := .pointer (some ⟨g3_, f3_ + k * 12, none⟩)) rfl rfl rfl (run_idxQ (p := pc) (cap := cc) (n := cs.length) (j := .i64) (k := k) (sz := 12) rfl Try.underlying22 (by kernel_rfl) (by kernel_rfl) hp3 (by kernel_rfl) (by omega)) ?_
                  refine vm (i := 18) (v := .pointer (some ⟨g3_, f3_ + k * 12 + 2, none⟩)) rfl rfl rfl ?_
                  refine vb (i := 19) (v := .bool y3.deck) rfl rfl rfl (yb_rf (v := .bool y3.deck) rfl (by kernel_rfl) (fun W hW => hc3 W (hW.sub (fun _ h => by cases h)) 2 _ rfl) Try.underlying4 rfl) ?_
                  refine vm (i := 20) (v := .pointer (some ⟨g1, 0, none⟩)) rfl rfl rfl ?_
                  refine vv (i := 21) (v := .slice pc cs.length cc) rfl rfl rfl (yb_cell (off := 0) rfl (by kernel_rfl) (.head _) Try.underlying22 rfl (by kernel_rfl)) ?_
                  refine vm (i := 22) (v := .int .i64 ((m : Nat) : Int)) rfl rfl rfl ?_
                  refine vp (i := 23) (v := .pointer (some ⟨g4_, f4_ + m * 12, none⟩)) rfl rfl rfl (run_idxQ (p := pc) (cap := cc) (n := cs.length) (j := .i64) (k := m) (sz := 12) rfl Try.underlying22 (by kernel_rfl) (by kernel_rfl) hp4 (by kernel_rfl) (by omega)) ?_
                  refine vm (i := 24) (v := .pointer (some ⟨g4_, f4_ + m * 12 + 2, none⟩)) rfl rfl rfl ?_
                  refine vb (i := 25) (v := .bool cm.deck) rfl rfl rfl (yb_rf (v := .bool cm.deck) rfl (by kernel_rfl) (fun W hW => hc4 W (hW.sub (fun _ h => by cases h)) 2 _ rfl) Try.underlying4 rfl) ?_
                  refine vp (i := 26) (v := .bool (y3.deck == cm.deck)) rfl rfl rfl (run_bin rfl (vx := .bool y3.deck) (vy := .bool cm.deck) (by kernel_rfl) (by kernel_rfl) fun w => bn_bool_eql rfl Try.underlying4 w) ?_
                  refine vm (i := 27) (v := .bool (y3.deck == cm.deck)) rfl rfl rfl ?_
                  refine vm (i := 28) (v := .bool (y3.deck == cm.deck)) rfl rfl rfl ?_
                  cases h13 : (y3.deck == cm.deck) with
                  | false =>
                    refine vn (i := 29) rfl rfl ?_
                    refine vm (i := 30) (v := .bool false) rfl rfl rfl ?_
                    refine wpV_done (by kernel_rfl) (fun W29 hW29 => ?_) _
                    refine (show Code.wp _ _ _ _ _ from ?_)
                    refine wp_cond_false rfl ?_
                    refine wp_skip ?_
                    refine (show Code.wp _ _ _ _ _ from ?_)
                    refine wp_region_L (W0 := w) ((g1, .cells (shC (.slice pc cs.length cc) (.slice po os.length co) t).toArray 32 (0, 0)) :: Ko) (hW29) ?_
                    refine lm (v := .int .i64 ((k : Nat) : Int)) rfl rfl ?_
                    refine lp (v := .int .i64 (((k + 1) : Nat) : Int)) rfl rfl (run_bin rfl (vx := (.int .i64 ((k : Nat) : Int))) (vy := (.int .i64 ((1 : Nat) : Int))) (by kernel_rfl) (by kernel_rfl) fun w => bn_add (z := (k + 1)) rfl (wr_i64 (by omega)) w) ?_
                    refine lm (v := .int .i64 (((k + 1) : Nat) : Int)) rfl rfl ?_
                    refine wpL_done (fun W30 hW30 => ?_)
                    go_roundw
                    case rel =>
                      repeat apply Exists.intro
                      exact ⟨⟨k + 1, z, vo, Ko, (by omega), (by rw [idx_no hy3 (by rw [bes_eval ⟨rm1, rm2⟩ ⟨r13, r23⟩]; simp [*])]; exact hml), (by omega), (by rw [idx_no hy3 (by rw [bes_eval ⟨rm1, rm2⟩ ⟨r13, r23⟩]; simp [*])]; exact hO), (show Dk g1 Ko from (by (try simp only [dj_app_l, dj_app_r, dj_cons_l, dj_cons_r, dj_nil_l, dj_nil_r, dk_app, dk_cons, dk_nil, and_true, true_and, and_assoc]); repeat' (first | trivial | assumption | exact Dj.symm (by assumption) | exact Ne.symm (by assumption) | apply And.intro))), rfl, rfl, (hW30.sub (fun p hp => by first | exact hp | (simp only [List.mem_cons, List.mem_append, List.nil_append, List.not_mem_nil, or_assoc, or_false, false_or] at hp ⊢ <;> grind)))⟩, rfl⟩
                    case measure => (show cs.length - (intOf (.int .i64 (((k + 1) : Nat) : Int))).toNat < cs.length - (intOf (.int .i64 ((k : Nat) : Int))).toNat); simp only [intOf]; omega
                  | true =>
                    refine vm (i := 29) (v := .bool false) rfl rfl rfl ?_
                    refine vm (i := 30) (v := .bool false) rfl rfl rfl ?_
                    refine wpV_done (by kernel_rfl) (fun W31 hW31 => ?_) _
                    refine (show Code.wp _ _ _ _ _ from ?_)
                    refine wp_cond_false rfl ?_
                    refine wp_skip ?_
                    refine (show Code.wp _ _ _ _ _ from ?_)
                    refine wp_region_L (W0 := w) ((g1, .cells (shC (.slice pc cs.length cc) (.slice po os.length co) t).toArray 32 (0, 0)) :: Ko) (hW31) ?_
                    refine lm (v := .int .i64 ((k : Nat) : Int)) rfl rfl ?_
                    refine lp (v := .int .i64 (((k + 1) : Nat) : Int)) rfl rfl (run_bin rfl (vx := (.int .i64 ((k : Nat) : Int))) (vy := (.int .i64 ((1 : Nat) : Int))) (by kernel_rfl) (by kernel_rfl) fun w => bn_add (z := (k + 1)) rfl (wr_i64 (by omega)) w) ?_
                    refine lm (v := .int .i64 (((k + 1) : Nat) : Int)) rfl rfl ?_
                    refine wpL_done (fun W32 hW32 => ?_)
                    go_roundw
                    case rel =>
                      repeat apply Exists.intro
                      exact ⟨⟨k + 1, z, vo, Ko, (by omega), (by rw [idx_no hy3 (by rw [bes_eval ⟨rm1, rm2⟩ ⟨r13, r23⟩]; simp [*])]; exact hml), (by omega), (by rw [idx_no hy3 (by rw [bes_eval ⟨rm1, rm2⟩ ⟨r13, r23⟩]; simp [*])]; exact hO), (show Dk g1 Ko from (by (try simp only [dj_app_l, dj_app_r, dj_cons_l, dj_cons_r, dj_nil_l, dj_nil_r, dk_app, dk_cons, dk_nil, and_true, true_and, and_assoc]); repeat' (first | trivial | assumption | exact Dj.symm (by assumption) | exact Ne.symm (by assumption) | apply And.intro))), rfl, rfl, (hW32.sub (fun p hp => by first | exact hp | (simp only [List.mem_cons, List.mem_append, List.nil_append, List.not_mem_nil, or_assoc, or_false, false_or] at hp ⊢ <;> grind)))⟩, rfl⟩
                    case measure => (show cs.length - (intOf (.int .i64 (((k + 1) : Nat) : Int))).toNat < cs.length - (intOf (.int .i64 ((k : Nat) : Int))).toNat); simp only [intOf]; omega
              | true =>
                have h11 : y3.row < cm.row := of_decide_eq_true hd11
                clear hd11
                refine lm (v := .int .i64 y3.row) rfl rfl ?_
                refine lp (v := .int .i64 (y3.row + 1)) rfl rfl (run_bin rfl (vx := (.int .i64 y3.row)) (vy := (.int .i64 1)) (by kernel_rfl) (by kernel_rfl) fun w => bi_add (z := (y3.row + 1)) rfl (wi_i64 (by omega)) w) ?_
                refine lm (v := .int .i64 cm.row) rfl rfl ?_
                refine lp (v := .bool (decide ((y3.row + 1) = cm.row))) rfl rfl (run_bin rfl (vx := (.int .i64 (y3.row + 1))) (vy := (.int .i64 cm.row)) (by kernel_rfl) (by kernel_rfl) fun w => bi_eql rfl w) ?_
                refine lm (v := .bool (decide ((y3.row + 1) = cm.row))) rfl rfl ?_
                refine lm (v := .bool (decide ((y3.row + 1) = cm.row))) rfl rfl ?_
                refine lm (v := .bool (decide ((y3.row + 1) = cm.row))) rfl rfl ?_
                refine wpL_done (fun W33 hW33 => ?_)
                refine (show Code.wp _ _ _ _ _ from ?_)
                refine wp_seq ?_
                refine wp_region_V (W0 := w) ((g1, .cells (shC (.slice pc cs.length cc) (.slice po os.length co) t).toArray 32 (0, 0)) :: Ko) (by kernel_rfl) (hW33) ?_
                refine vm (i := 0) (v := .pointer (some ⟨g1, 0, none⟩)) rfl rfl rfl ?_
                refine vv (i := 1) (v := .slice pc cs.length cc) rfl rfl rfl (yb_cell (off := 0) rfl (by kernel_rfl) (.head _) Try.underlying22 rfl (by kernel_rfl)) ?_
                refine vm (i := 2) (v := .int .i64 ((k : Nat) : Int)) rfl rfl rfl ?_
                refine vp (i := 3) (v := .pointer (some ⟨g3_, f3_ + k * 12, none⟩)) rfl rfl rfl (run_idxQ (p := pc) (cap := cc) (n := cs.length) (j := .i64) (k := k) (sz := 12) rfl Try.underlying22 (by kernel_rfl) (by kernel_rfl) hp3 (by kernel_rfl) (by omega)) ?_
                refine vm (i := 4) (v := .pointer (some ⟨g3_, f3_ + k * 12, none⟩)) rfl rfl rfl ?_
                refine vb (i := 5) (v := .int .i64 y3.bay) rfl rfl rfl (yb_rf (v := .int .i64 y3.bay) rfl (by kernel_rfl) (fun W hW => hc3 W (hW.sub (fun _ h => by cases h)) 0 _ rfl) Try.underlying3 rfl) ?_
                refine vm (i := 6) (v := .pointer (some ⟨g1, 0, none⟩)) rfl rfl rfl ?_
                refine vv (i := 7) (v := .slice pc cs.length cc) rfl rfl rfl (yb_cell (off := 0) rfl (by kernel_rfl) (.head _) Try.underlying22 rfl (by kernel_rfl)) ?_
                refine vm (i := 8) (v := .int .i64 ((m : Nat) : Int)) rfl rfl rfl ?_
                refine vp (i := 9) (v := .pointer (some ⟨g4_, f4_ + m * 12, none⟩)) rfl rfl rfl (run_idxQ (p := pc) (cap := cc) (n := cs.length) (j := .i64) (k := m) (sz := 12) rfl Try.underlying22 (by kernel_rfl) (by kernel_rfl) hp4 (by kernel_rfl) (by omega)) ?_
                refine vm (i := 10) (v := .pointer (some ⟨g4_, f4_ + m * 12, none⟩)) rfl rfl rfl ?_
                refine vb (i := 11) (v := .int .i64 cm.bay) rfl rfl rfl (yb_rf (v := .int .i64 cm.bay) rfl (by kernel_rfl) (fun W hW => hc4 W (hW.sub (fun _ h => by cases h)) 0 _ rfl) Try.underlying3 rfl) ?_
                refine vp (i := 12) (v := .bool (decide (y3.bay = cm.bay))) rfl rfl rfl (run_bin rfl (vx := (.int .i64 y3.bay)) (vy := (.int .i64 cm.bay)) (by kernel_rfl) (by kernel_rfl) fun w => bi_eql rfl w) ?_
                refine vm (i := 13) (v := .bool (decide (y3.bay = cm.bay))) rfl rfl rfl ?_
                cases hd14 : (decide (y3.bay = cm.bay)) with
                | false =>
                  have h14 : ¬ (y3.bay = cm.bay) := of_decide_eq_false hd14
                  clear hd14
                  refine vn (i := 14) rfl rfl ?_
                  refine vn (i := 15) rfl rfl ?_
                  refine vn (i := 16) rfl rfl ?_
                  refine vn (i := 17) rfl rfl ?_
                  refine vn (i := 18) rfl rfl ?_
                  refine vn (i := 19) rfl rfl ?_
                  refine vn (i := 20) rfl rfl ?_
                  refine vn (i := 21) rfl rfl ?_
                  refine vn (i := 22) rfl rfl ?_
                  refine vn (i := 23) rfl rfl ?_
                  refine vn (i := 24) rfl rfl ?_
                  refine vn (i := 25) rfl rfl ?_
                  refine vn (i := 26) rfl rfl ?_
                  refine vm (i := 27) (v := .bool false) rfl rfl rfl ?_
                  refine vm (i := 28) (v := .bool false) rfl rfl rfl ?_
                  refine vn (i := 29) rfl rfl ?_
                  refine vm (i := 30) (v := .bool false) rfl rfl rfl ?_
                  refine wpV_done (by kernel_rfl) (fun W34 hW34 => ?_) _
                  refine (show Code.wp _ _ _ _ _ from ?_)
                  refine wp_cond_false rfl ?_
                  refine wp_skip ?_
                  refine (show Code.wp _ _ _ _ _ from ?_)
                  refine wp_region_L (W0 := w) ((g1, .cells (shC (.slice pc cs.length cc) (.slice po os.length co) t).toArray 32 (0, 0)) :: Ko) (hW34) ?_
                  refine lm (v := .int .i64 ((k : Nat) : Int)) rfl rfl ?_
                  refine lp (v := .int .i64 (((k + 1) : Nat) : Int)) rfl rfl (run_bin rfl (vx := (.int .i64 ((k : Nat) : Int))) (vy := (.int .i64 ((1 : Nat) : Int))) (by kernel_rfl) (by kernel_rfl) fun w => bn_add (z := (k + 1)) rfl (wr_i64 (by omega)) w) ?_
                  refine lm (v := .int .i64 (((k + 1) : Nat) : Int)) rfl rfl ?_
                  refine wpL_done (fun W35 hW35 => ?_)
                  go_roundw
                  case rel =>
                    repeat apply Exists.intro
                    exact ⟨⟨k + 1, z, vo, Ko, (by omega), (by rw [idx_no hy3 (by rw [bes_eval ⟨rm1, rm2⟩ ⟨r13, r23⟩]; simp [*])]; exact hml), (by omega), (by rw [idx_no hy3 (by rw [bes_eval ⟨rm1, rm2⟩ ⟨r13, r23⟩]; simp [*])]; exact hO), (show Dk g1 Ko from (by (try simp only [dj_app_l, dj_app_r, dj_cons_l, dj_cons_r, dj_nil_l, dj_nil_r, dk_app, dk_cons, dk_nil, and_true, true_and, and_assoc]); repeat' (first | trivial | assumption | exact Dj.symm (by assumption) | exact Ne.symm (by assumption) | apply And.intro))), rfl, rfl, (hW35.sub (fun p hp => by first | exact hp | (simp only [List.mem_cons, List.mem_append, List.nil_append, List.not_mem_nil, or_assoc, or_false, false_or] at hp ⊢ <;> grind)))⟩, rfl⟩
                  case measure => (show cs.length - (intOf (.int .i64 (((k + 1) : Nat) : Int))).toNat < cs.length - (intOf (.int .i64 ((k : Nat) : Int))).toNat); simp only [intOf]; omega
                | true =>
                  have h14 : y3.bay = cm.bay := of_decide_eq_true hd14
                  clear hd14
                  refine vm (i := 14) (v := .pointer (some ⟨g1, 0, none⟩)) rfl rfl rfl ?_
                  refine vv (i := 15) (v := .slice pc cs.length cc) rfl rfl rfl (yb_cell (off := 0) rfl (by kernel_rfl) (.head _) Try.underlying22 rfl (by kernel_rfl)) ?_
                  refine vm (i := 16) (v := .int .i64 ((k : Nat) : Int)) rfl rfl rfl ?_
                  refine vp (i := 17) (v := .pointer (some ⟨g3_, f3_ + k * 12, none⟩)) rfl rfl rfl (run_idxQ (p := pc) (cap := cc) (n := cs.length) (j := .i64) (k := k) (sz := 12) rfl Try.underlying22 (by kernel_rfl) (by kernel_rfl) hp3 (by kernel_rfl) (by omega)) ?_
                  refine vm (i := 18) (v := .pointer (some ⟨g3_, f3_ + k * 12 + 2, none⟩)) rfl rfl rfl ?_
                  refine vb (i := 19) (v := .bool y3.deck) rfl rfl rfl (yb_rf (v := .bool y3.deck) rfl (by kernel_rfl) (fun W hW => hc3 W (hW.sub (fun _ h => by cases h)) 2 _ rfl) Try.underlying4 rfl) ?_
                  refine vm (i := 20) (v := .pointer (some ⟨g1, 0, none⟩)) rfl rfl rfl ?_
                  refine vv (i := 21) (v := .slice pc cs.length cc) rfl rfl rfl (yb_cell (off := 0) rfl (by kernel_rfl) (.head _) Try.underlying22 rfl (by kernel_rfl)) ?_
                  refine vm (i := 22) (v := .int .i64 ((m : Nat) : Int)) rfl rfl rfl ?_
                  refine vp (i := 23) (v := .pointer (some ⟨g4_, f4_ + m * 12, none⟩)) rfl rfl rfl (run_idxQ (p := pc) (cap := cc) (n := cs.length) (j := .i64) (k := m) (sz := 12) rfl Try.underlying22 (by kernel_rfl) (by kernel_rfl) hp4 (by kernel_rfl) (by omega)) ?_
                  refine vm (i := 24) (v := .pointer (some ⟨g4_, f4_ + m * 12 + 2, none⟩)) rfl rfl rfl ?_
                  refine vb (i := 25) (v := .bool cm.deck) rfl rfl rfl (yb_rf (v := .bool cm.deck) rfl (by kernel_rfl) (fun W hW => hc4 W (hW.sub (fun _ h => by cases h)) 2 _ rfl) Try.underlying4 rfl) ?_
                  refine vp (i := 26) (v := .bool (y3.deck == cm.deck)) rfl rfl rfl (run_bin rfl (vx := .bool y3.deck) (vy := .bool cm.deck) (by kernel_rfl) (by kernel_rfl) fun w => bn_bool_eql rfl Try.underlying4 w) ?_
                  refine vm (i := 27) (v := .bool (y3.deck == cm.deck)) rfl rfl rfl ?_
                  refine vm (i := 28) (v := .bool (y3.deck == cm.deck)) rfl rfl rfl ?_
                  cases h15 : (y3.deck == cm.deck) with
                  | false =>
                    refine vn (i := 29) rfl rfl ?_
                    refine vm (i := 30) (v := .bool false) rfl rfl rfl ?_
                    refine wpV_done (by kernel_rfl) (fun W36 hW36 => ?_) _
                    refine (show Code.wp _ _ _ _ _ from ?_)
                    refine wp_cond_false rfl ?_
                    refine wp_skip ?_
                    refine (show Code.wp _ _ _ _ _ from ?_)
                    refine wp_region_L (W0 := w) ((g1, .cells (shC (.slice pc cs.length cc) (.slice po os.length co) t).toArray 32 (0, 0)) :: Ko) (hW36) ?_
                    refine lm (v := .int .i64 ((k : Nat) : Int)) rfl rfl ?_
                    refine lp (v := .int .i64 (((k + 1) : Nat) : Int)) rfl rfl (run_bin rfl (vx := (.int .i64 ((k : Nat) : Int))) (vy := (.int .i64 ((1 : Nat) : Int))) (by kernel_rfl) (by kernel_rfl) fun w => bn_add (z := (k + 1)) rfl (wr_i64 (by omega)) w) ?_
                    refine lm (v := .int .i64 (((k + 1) : Nat) : Int)) rfl rfl ?_
                    refine wpL_done (fun W37 hW37 => ?_)
                    go_roundw
                    case rel =>
                      repeat apply Exists.intro
                      exact ⟨⟨k + 1, z, vo, Ko, (by omega), (by rw [idx_no hy3 (by rw [bes_eval ⟨rm1, rm2⟩ ⟨r13, r23⟩]; simp [*])]; exact hml), (by omega), (by rw [idx_no hy3 (by rw [bes_eval ⟨rm1, rm2⟩ ⟨r13, r23⟩]; simp [*])]; exact hO), (show Dk g1 Ko from (by (try simp only [dj_app_l, dj_app_r, dj_cons_l, dj_cons_r, dj_nil_l, dj_nil_r, dk_app, dk_cons, dk_nil, and_true, true_and, and_assoc]); repeat' (first | trivial | assumption | exact Dj.symm (by assumption) | exact Ne.symm (by assumption) | apply And.intro))), rfl, rfl, (hW37.sub (fun p hp => by first | exact hp | (simp only [List.mem_cons, List.mem_append, List.nil_append, List.not_mem_nil, or_assoc, or_false, false_or] at hp ⊢ <;> grind)))⟩, rfl⟩
                    case measure => (show cs.length - (intOf (.int .i64 (((k + 1) : Nat) : Int))).toNat < cs.length - (intOf (.int .i64 ((k : Nat) : Int))).toNat); simp only [intOf]; omega
                  | true =>
                    refine vm (i := 29) (v := .bool (decide ((y3.row + 1) = cm.row))) rfl rfl rfl ?_
                    refine vm (i := 30) (v := .bool (decide ((y3.row + 1) = cm.row))) rfl rfl rfl ?_
                    refine wpV_done (by kernel_rfl) (fun W38 hW38 => ?_) _
                    refine (show Code.wp _ _ _ _ _ from ?_)
                    cases hd16 : (decide ((y3.row + 1) = cm.row)) with
                    | false =>
                      have h16 : ¬ ((y3.row + 1) = cm.row) := of_decide_eq_false hd16
                      clear hd16
                      refine wp_cond_false rfl ?_
                      refine wp_skip ?_
                      refine (show Code.wp _ _ _ _ _ from ?_)
                      refine wp_region_L (W0 := w) ((g1, .cells (shC (.slice pc cs.length cc) (.slice po os.length co) t).toArray 32 (0, 0)) :: Ko) (hW38) ?_
                      refine lm (v := .int .i64 ((k : Nat) : Int)) rfl rfl ?_
                      refine lp (v := .int .i64 (((k + 1) : Nat) : Int)) rfl rfl (run_bin rfl (vx := (.int .i64 ((k : Nat) : Int))) (vy := (.int .i64 ((1 : Nat) : Int))) (by kernel_rfl) (by kernel_rfl) fun w => bn_add (z := (k + 1)) rfl (wr_i64 (by omega)) w) ?_
                      refine lm (v := .int .i64 (((k + 1) : Nat) : Int)) rfl rfl ?_
                      refine wpL_done (fun W39 hW39 => ?_)
                      go_roundw
                      case rel =>
                        repeat apply Exists.intro
                        exact ⟨⟨k + 1, z, vo, Ko, (by omega), (by rw [idx_no hy3 (by rw [bes_eval ⟨rm1, rm2⟩ ⟨r13, r23⟩]; simp [*])]; exact hml), (by omega), (by rw [idx_no hy3 (by rw [bes_eval ⟨rm1, rm2⟩ ⟨r13, r23⟩]; simp [*])]; exact hO), (show Dk g1 Ko from (by (try simp only [dj_app_l, dj_app_r, dj_cons_l, dj_cons_r, dj_nil_l, dj_nil_r, dk_app, dk_cons, dk_nil, and_true, true_and, and_assoc]); repeat' (first | trivial | assumption | exact Dj.symm (by assumption) | exact Ne.symm (by assumption) | apply And.intro))), rfl, rfl, (hW39.sub (fun p hp => by first | exact hp | (simp only [List.mem_cons, List.mem_append, List.nil_append, List.not_mem_nil, or_assoc, or_false, false_or] at hp ⊢ <;> grind)))⟩, rfl⟩
                      case measure => (show cs.length - (intOf (.int .i64 (((k + 1) : Nat) : Int))).toNat < cs.length - (intOf (.int .i64 ((k : Nat) : Int))).toNat); simp only [intOf]; omega
                    | true =>
                      have h16 : (y3.row + 1) = cm.row := of_decide_eq_true hd16
                      clear hd16
                      refine wp_cond_true rfl ?_
                      refine wp_region_L (W0 := w) ((g1, .cells (shC (.slice pc cs.length cc) (.slice po os.length co) t).toArray 32 (0, 0)) :: Ko) (hW38) ?_
                      refine lm (v := vo) rfl rfl ?_
                      refine lm (v := .int .i64 ((k : Nat) : Int)) rfl rfl ?_
                      refine wpL_new (fun g => .slice (some ⟨g, 0, none⟩) 1 1) (obi := .cells #[.int .i64 ((k : Nat) : Int)] 3 (0, 0)) rfl rfl (fun _ => by kernel_rfl) (fun _ => by simp only [List.setIfInBounds_toArray, List.set_cons_succ, List.set_cons_zero] <;> rfl) fun g9 Bg9 Fg9 => ?_
                      obtain ⟨dj10_0, dj10_1⟩ : g1 ≠ g9 ∧ Dk g9 Ko := by simpa only [dj_app_l, dj_app_r, dj_cons_l, dj_cons_r, dj_nil_l, dj_nil_r, dk_app, dk_cons, dk_nil, and_true, true_and, and_assoc] using (show Dk g9 ((g1, .cells (shC (.slice pc cs.length cc) (.slice po os.length co) t).toArray 32 (0, 0)) :: Ko) from Fg9)
                      refine wpL_g (AppO w 3 1 [(g1, .cells (shC (.slice pc cs.length cc) (.slice po os.length co) t).toArray 32 (0, 0))] (z + 1) (((idx (besideB cm) (cs.take k)).flatMap inC) ++ [.int .i64 ((k : Nat) : Int)])) rfl rfl (app_own el_int (m := 1) (c := 1) (news := [.int .i64 ((k : Nat) : Int)]) rfl (by kernel_rfl) (by kernel_rfl) (.head _) hO (fun p hp => by simp only [List.mem_cons, List.mem_append, List.nil_append, List.not_mem_nil, or_assoc, or_false, false_or, hp, or_true, true_or]) (fun p hp => ⟨by simp only [List.mem_cons, List.mem_append, List.nil_append, List.not_mem_nil, or_assoc, or_false, false_or] at hp ⊢ <;> grind, (show Dj [(g1, .cells (shC (.slice pc cs.length cc) (.slice po os.length co) t).toArray 32 (0, 0))] Ko from (by (try simp only [dj_app_l, dj_app_r, dj_cons_l, dj_cons_r, dj_nil_l, dj_nil_r, dk_app, dk_cons, dk_nil, and_true, true_and, and_assoc]); repeat' (first | trivial | assumption | exact Dj.symm (by assumption) | exact Ne.symm (by assumption) | apply And.intro))) p hp⟩) rfl (by simp [strV, Value.oneCell']) (by omega) (by omega) (by omega)) (fun _ => by simp only [List.setIfInBounds_toArray, List.set_cons_succ, List.set_cons_zero] <;> rfl) ?_
                      rintro v11 K9 ⟨Kl11, O11, N11, rfl⟩
                      obtain dj12_0 : Dk g1 Kl11 := by simpa only [dj_app_l, dj_app_r, dj_cons_l, dj_cons_r, dj_nil_l, dj_nil_r, dk_app, dk_cons, dk_nil, and_true, true_and, and_assoc] using (show Dj [(g1, .cells (shC (.slice pc cs.length cc) (.slice po os.length co) t).toArray 32 (0, 0))] Kl11 from N11)
                      refine lm (v := v11) rfl rfl ?_
                      refine wpL_done (fun W40 hW40 => ?_)
                      refine (show Code.wp _ _ _ _ _ from ?_)
                      refine wp_region_L (W0 := w) ((g1, .cells (shC (.slice pc cs.length cc) (.slice po os.length co) t).toArray 32 (0, 0)) :: Kl11) (hW40) ?_
                      refine lm (v := .int .i64 ((k : Nat) : Int)) rfl rfl ?_
                      refine lp (v := .int .i64 (((k + 1) : Nat) : Int)) rfl rfl (run_bin rfl (vx := (.int .i64 ((k : Nat) : Int))) (vy := (.int .i64 ((1 : Nat) : Int))) (by kernel_rfl) (by kernel_rfl) fun w => bn_add (z := (k + 1)) rfl (wr_i64 (by omega)) w) ?_
                      refine lm (v := .int .i64 (((k + 1) : Nat) : Int)) rfl rfl ?_
                      refine wpL_done (fun W41 hW41 => ?_)
                      go_roundw
                      case rel =>
                        repeat apply Exists.intro
                        exact ⟨⟨k + 1, z + 1, v11, Kl11, (by omega), (by rw [idx_yes hy3 (by rw [bes_eval ⟨rm1, rm2⟩ ⟨r13, r23⟩]; simp [*]), List.length_append, hml]; rfl), (by omega), (own_snoc O11 (idx_yes hy3 (by rw [bes_eval ⟨rm1, rm2⟩ ⟨r13, r23⟩]; simp [*]))), (show Dk g1 Kl11 from (by (try simp only [dj_app_l, dj_app_r, dj_cons_l, dj_cons_r, dj_nil_l, dj_nil_r, dk_app, dk_cons, dk_nil, and_true, true_and, and_assoc]); repeat' (first | trivial | assumption | exact Dj.symm (by assumption) | exact Ne.symm (by assumption) | apply And.intro))), rfl, rfl, (hW41.sub (fun p hp => by first | exact hp | (simp only [List.mem_cons, List.mem_append, List.nil_append, List.not_mem_nil, or_assoc, or_false, false_or] at hp ⊢ <;> grind)))⟩, rfl⟩
                      case measure => (show cs.length - (intOf (.int .i64 (((k + 1) : Nat) : Int))).toNat < cs.length - (intOf (.int .i64 ((k : Nat) : Int))).toNat); simp only [intOf]; omega
            | true =>
              have h10 : (cm.row + 1) = y3.row := of_decide_eq_true hd10
              clear hd10
              refine ln rfl ?_
              refine ln rfl ?_
              refine ln rfl ?_
              refine ln rfl ?_
              refine ln rfl ?_
              refine ln rfl ?_
              refine ln rfl ?_
              refine ln rfl ?_
              refine ln rfl ?_
              refine lm (v := .bool true) rfl rfl ?_
              refine lm (v := .bool true) rfl rfl ?_
              refine wpL_done (fun W42 hW42 => ?_)
              refine (show Code.wp _ _ _ _ _ from ?_)
              refine wp_seq ?_
              refine wp_region_V (W0 := w) ((g1, .cells (shC (.slice pc cs.length cc) (.slice po os.length co) t).toArray 32 (0, 0)) :: Ko) (by kernel_rfl) (hW42) ?_
              refine vm (i := 0) (v := .pointer (some ⟨g1, 0, none⟩)) rfl rfl rfl ?_
              refine vv (i := 1) (v := .slice pc cs.length cc) rfl rfl rfl (yb_cell (off := 0) rfl (by kernel_rfl) (.head _) Try.underlying22 rfl (by kernel_rfl)) ?_
              refine vm (i := 2) (v := .int .i64 ((k : Nat) : Int)) rfl rfl rfl ?_
              refine vp (i := 3) (v := .pointer (some ⟨g3_, f3_ + k * 12, none⟩)) rfl rfl rfl (run_idxQ (p := pc) (cap := cc) (n := cs.length) (j := .i64) (k := k) (sz := 12) rfl Try.underlying22 (by kernel_rfl) (by kernel_rfl) hp3 (by kernel_rfl) (by omega)) ?_
              refine vm (i := 4) (v := .pointer (some ⟨g3_, f3_ + k * 12, none⟩)) rfl rfl rfl ?_
              refine vb (i := 5) (v := .int .i64 y3.bay) rfl rfl rfl (yb_rf (v := .int .i64 y3.bay) rfl (by kernel_rfl) (fun W hW => hc3 W (hW.sub (fun _ h => by cases h)) 0 _ rfl) Try.underlying3 rfl) ?_
              refine vm (i := 6) (v := .pointer (some ⟨g1, 0, none⟩)) rfl rfl rfl ?_
              refine vv (i := 7) (v := .slice pc cs.length cc) rfl rfl rfl (yb_cell (off := 0) rfl (by kernel_rfl) (.head _) Try.underlying22 rfl (by kernel_rfl)) ?_
              refine vm (i := 8) (v := .int .i64 ((m : Nat) : Int)) rfl rfl rfl ?_
              refine vp (i := 9) (v := .pointer (some ⟨g4_, f4_ + m * 12, none⟩)) rfl rfl rfl (run_idxQ (p := pc) (cap := cc) (n := cs.length) (j := .i64) (k := m) (sz := 12) rfl Try.underlying22 (by kernel_rfl) (by kernel_rfl) hp4 (by kernel_rfl) (by omega)) ?_
              refine vm (i := 10) (v := .pointer (some ⟨g4_, f4_ + m * 12, none⟩)) rfl rfl rfl ?_
              refine vb (i := 11) (v := .int .i64 cm.bay) rfl rfl rfl (yb_rf (v := .int .i64 cm.bay) rfl (by kernel_rfl) (fun W hW => hc4 W (hW.sub (fun _ h => by cases h)) 0 _ rfl) Try.underlying3 rfl) ?_
              refine vp (i := 12) (v := .bool (decide (y3.bay = cm.bay))) rfl rfl rfl (run_bin rfl (vx := (.int .i64 y3.bay)) (vy := (.int .i64 cm.bay)) (by kernel_rfl) (by kernel_rfl) fun w => bi_eql rfl w) ?_
              refine vm (i := 13) (v := .bool (decide (y3.bay = cm.bay))) rfl rfl rfl ?_
              cases hd17 : (decide (y3.bay = cm.bay)) with
              | false =>
                have h17 : ¬ (y3.bay = cm.bay) := of_decide_eq_false hd17
                clear hd17
                refine vn (i := 14) rfl rfl ?_
                refine vn (i := 15) rfl rfl ?_
                refine vn (i := 16) rfl rfl ?_
                refine vn (i := 17) rfl rfl ?_
                refine vn (i := 18) rfl rfl ?_
                refine vn (i := 19) rfl rfl ?_
                refine vn (i := 20) rfl rfl ?_
                refine vn (i := 21) rfl rfl ?_
                refine vn (i := 22) rfl rfl ?_
                refine vn (i := 23) rfl rfl ?_
                refine vn (i := 24) rfl rfl ?_
                refine vn (i := 25) rfl rfl ?_
                refine vn (i := 26) rfl rfl ?_
                refine vm (i := 27) (v := .bool false) rfl rfl rfl ?_
                refine vm (i := 28) (v := .bool false) rfl rfl rfl ?_
                refine vn (i := 29) rfl rfl ?_
                refine vm (i := 30) (v := .bool false) rfl rfl rfl ?_
                refine wpV_done (by kernel_rfl) (fun W43 hW43 => ?_) _
                refine (show Code.wp _ _ _ _ _ from ?_)
                refine wp_cond_false rfl ?_
                refine wp_skip ?_
                refine (show Code.wp _ _ _ _ _ from ?_)
                refine wp_region_L (W0 := w) ((g1, .cells (shC (.slice pc cs.length cc) (.slice po os.length co) t).toArray 32 (0, 0)) :: Ko) (hW43) ?_
                refine lm (v := .int .i64 ((k : Nat) : Int)) rfl rfl ?_
                refine lp (v := .int .i64 (((k + 1) : Nat) : Int)) rfl rfl (run_bin rfl (vx := (.int .i64 ((k : Nat) : Int))) (vy := (.int .i64 ((1 : Nat) : Int))) (by kernel_rfl) (by kernel_rfl) fun w => bn_add (z := (k + 1)) rfl (wr_i64 (by omega)) w) ?_
                refine lm (v := .int .i64 (((k + 1) : Nat) : Int)) rfl rfl ?_
                refine wpL_done (fun W44 hW44 => ?_)
                go_roundw
                case rel =>
                  repeat apply Exists.intro
                  exact ⟨⟨k + 1, z, vo, Ko, (by omega), (by rw [idx_no hy3 (by rw [bes_eval ⟨rm1, rm2⟩ ⟨r13, r23⟩]; simp [*])]; exact hml), (by omega), (by rw [idx_no hy3 (by rw [bes_eval ⟨rm1, rm2⟩ ⟨r13, r23⟩]; simp [*])]; exact hO), (show Dk g1 Ko from (by (try simp only [dj_app_l, dj_app_r, dj_cons_l, dj_cons_r, dj_nil_l, dj_nil_r, dk_app, dk_cons, dk_nil, and_true, true_and, and_assoc]); repeat' (first | trivial | assumption | exact Dj.symm (by assumption) | exact Ne.symm (by assumption) | apply And.intro))), rfl, rfl, (hW44.sub (fun p hp => by first | exact hp | (simp only [List.mem_cons, List.mem_append, List.nil_append, List.not_mem_nil, or_assoc, or_false, false_or] at hp ⊢ <;> grind)))⟩, rfl⟩
                case measure => (show cs.length - (intOf (.int .i64 (((k + 1) : Nat) : Int))).toNat < cs.length - (intOf (.int .i64 ((k : Nat) : Int))).toNat); simp only [intOf]; omega
              | true =>
                have h17 : y3.bay = cm.bay := of_decide_eq_true hd17
                clear hd17
                refine vm (i := 14) (v := .pointer (some ⟨g1, 0, none⟩)) rfl rfl rfl ?_
                refine vv (i := 15) (v := .slice pc cs.length cc) rfl rfl rfl (yb_cell (off := 0) rfl (by kernel_rfl) (.head _) Try.underlying22 rfl (by kernel_rfl)) ?_
                refine vm (i := 16) (v := .int .i64 ((k : Nat) : Int)) rfl rfl rfl ?_
                refine vp (i := 17) (v := .pointer (some ⟨g3_, f3_ + k * 12, none⟩)) rfl rfl rfl (run_idxQ (p := pc) (cap := cc) (n := cs.length) (j := .i64) (k := k) (sz := 12) rfl Try.underlying22 (by kernel_rfl) (by kernel_rfl) hp3 (by kernel_rfl) (by omega)) ?_
                refine vm (i := 18) (v := .pointer (some ⟨g3_, f3_ + k * 12 + 2, none⟩)) rfl rfl rfl ?_
                refine vb (i := 19) (v := .bool y3.deck) rfl rfl rfl (yb_rf (v := .bool y3.deck) rfl (by kernel_rfl) (fun W hW => hc3 W (hW.sub (fun _ h => by cases h)) 2 _ rfl) Try.underlying4 rfl) ?_
                refine vm (i := 20) (v := .pointer (some ⟨g1, 0, none⟩)) rfl rfl rfl ?_
                refine vv (i := 21) (v := .slice pc cs.length cc) rfl rfl rfl (yb_cell (off := 0) rfl (by kernel_rfl) (.head _) Try.underlying22 rfl (by kernel_rfl)) ?_
                refine vm (i := 22) (v := .int .i64 ((m : Nat) : Int)) rfl rfl rfl ?_
                refine vp (i := 23) (v := .pointer (some ⟨g4_, f4_ + m * 12, none⟩)) rfl rfl rfl (run_idxQ (p := pc) (cap := cc) (n := cs.length) (j := .i64) (k := m) (sz := 12) rfl Try.underlying22 (by kernel_rfl) (by kernel_rfl) hp4 (by kernel_rfl) (by omega)) ?_
                refine vm (i := 24) (v := .pointer (some ⟨g4_, f4_ + m * 12 + 2, none⟩)) rfl rfl rfl ?_
                refine vb (i := 25) (v := .bool cm.deck) rfl rfl rfl (yb_rf (v := .bool cm.deck) rfl (by kernel_rfl) (fun W hW => hc4 W (hW.sub (fun _ h => by cases h)) 2 _ rfl) Try.underlying4 rfl) ?_
                refine vp (i := 26) (v := .bool (y3.deck == cm.deck)) rfl rfl rfl (run_bin rfl (vx := .bool y3.deck) (vy := .bool cm.deck) (by kernel_rfl) (by kernel_rfl) fun w => bn_bool_eql rfl Try.underlying4 w) ?_
                refine vm (i := 27) (v := .bool (y3.deck == cm.deck)) rfl rfl rfl ?_
                refine vm (i := 28) (v := .bool (y3.deck == cm.deck)) rfl rfl rfl ?_
                cases h18 : (y3.deck == cm.deck) with
                | false =>
                  refine vn (i := 29) rfl rfl ?_
                  refine vm (i := 30) (v := .bool false) rfl rfl rfl ?_
                  refine wpV_done (by kernel_rfl) (fun W45 hW45 => ?_) _
                  refine (show Code.wp _ _ _ _ _ from ?_)
                  refine wp_cond_false rfl ?_
                  refine wp_skip ?_
                  refine (show Code.wp _ _ _ _ _ from ?_)
                  refine wp_region_L (W0 := w) ((g1, .cells (shC (.slice pc cs.length cc) (.slice po os.length co) t).toArray 32 (0, 0)) :: Ko) (hW45) ?_
                  refine lm (v := .int .i64 ((k : Nat) : Int)) rfl rfl ?_
                  refine lp (v := .int .i64 (((k + 1) : Nat) : Int)) rfl rfl (run_bin rfl (vx := (.int .i64 ((k : Nat) : Int))) (vy := (.int .i64 ((1 : Nat) : Int))) (by kernel_rfl) (by kernel_rfl) fun w => bn_add (z := (k + 1)) rfl (wr_i64 (by omega)) w) ?_
                  refine lm (v := .int .i64 (((k + 1) : Nat) : Int)) rfl rfl ?_
                  refine wpL_done (fun W46 hW46 => ?_)
                  go_roundw
                  case rel =>
                    repeat apply Exists.intro
                    exact ⟨⟨k + 1, z, vo, Ko, (by omega), (by rw [idx_no hy3 (by rw [bes_eval ⟨rm1, rm2⟩ ⟨r13, r23⟩]; simp [*])]; exact hml), (by omega), (by rw [idx_no hy3 (by rw [bes_eval ⟨rm1, rm2⟩ ⟨r13, r23⟩]; simp [*])]; exact hO), (show Dk g1 Ko from (by (try simp only [dj_app_l, dj_app_r, dj_cons_l, dj_cons_r, dj_nil_l, dj_nil_r, dk_app, dk_cons, dk_nil, and_true, true_and, and_assoc]); repeat' (first | trivial | assumption | exact Dj.symm (by assumption) | exact Ne.symm (by assumption) | apply And.intro))), rfl, rfl, (hW46.sub (fun p hp => by first | exact hp | (simp only [List.mem_cons, List.mem_append, List.nil_append, List.not_mem_nil, or_assoc, or_false, false_or] at hp ⊢ <;> grind)))⟩, rfl⟩
                  case measure => (show cs.length - (intOf (.int .i64 (((k + 1) : Nat) : Int))).toNat < cs.length - (intOf (.int .i64 ((k : Nat) : Int))).toNat); simp only [intOf]; omega
                | true =>
                  refine vm (i := 29) (v := .bool true) rfl rfl rfl ?_
                  refine vm (i := 30) (v := .bool true) rfl rfl rfl ?_
                  refine wpV_done (by kernel_rfl) (fun W47 hW47 => ?_) _
                  refine (show Code.wp _ _ _ _ _ from ?_)
                  refine wp_cond_true rfl ?_
                  refine wp_region_L (W0 := w) ((g1, .cells (shC (.slice pc cs.length cc) (.slice po os.length co) t).toArray 32 (0, 0)) :: Ko) (hW47) ?_
                  refine lm (v := vo) rfl rfl ?_
                  refine lm (v := .int .i64 ((k : Nat) : Int)) rfl rfl ?_
                  refine wpL_new (fun g => .slice (some ⟨g, 0, none⟩) 1 1) (obi := .cells #[.int .i64 ((k : Nat) : Int)] 3 (0, 0)) rfl rfl (fun _ => by kernel_rfl) (fun _ => by simp only [List.setIfInBounds_toArray, List.set_cons_succ, List.set_cons_zero] <;> rfl) fun g13 Bg13 Fg13 => ?_
                  obtain ⟨dj14_0, dj14_1⟩ : g1 ≠ g13 ∧ Dk g13 Ko := by simpa only [dj_app_l, dj_app_r, dj_cons_l, dj_cons_r, dj_nil_l, dj_nil_r, dk_app, dk_cons, dk_nil, and_true, true_and, and_assoc] using (show Dk g13 ((g1, .cells (shC (.slice pc cs.length cc) (.slice po os.length co) t).toArray 32 (0, 0)) :: Ko) from Fg13)
                  refine wpL_g (AppO w 3 1 [(g1, .cells (shC (.slice pc cs.length cc) (.slice po os.length co) t).toArray 32 (0, 0))] (z + 1) (((idx (besideB cm) (cs.take k)).flatMap inC) ++ [.int .i64 ((k : Nat) : Int)])) rfl rfl (app_own el_int (m := 1) (c := 1) (news := [.int .i64 ((k : Nat) : Int)]) rfl (by kernel_rfl) (by kernel_rfl) (.head _) hO (fun p hp => by simp only [List.mem_cons, List.mem_append, List.nil_append, List.not_mem_nil, or_assoc, or_false, false_or, hp, or_true, true_or]) (fun p hp => ⟨by simp only [List.mem_cons, List.mem_append, List.nil_append, List.not_mem_nil, or_assoc, or_false, false_or] at hp ⊢ <;> grind, (show Dj [(g1, .cells (shC (.slice pc cs.length cc) (.slice po os.length co) t).toArray 32 (0, 0))] Ko from (by (try simp only [dj_app_l, dj_app_r, dj_cons_l, dj_cons_r, dj_nil_l, dj_nil_r, dk_app, dk_cons, dk_nil, and_true, true_and, and_assoc]); repeat' (first | trivial | assumption | exact Dj.symm (by assumption) | exact Ne.symm (by assumption) | apply And.intro))) p hp⟩) rfl (by simp [strV, Value.oneCell']) (by omega) (by omega) (by omega)) (fun _ => by simp only [List.setIfInBounds_toArray, List.set_cons_succ, List.set_cons_zero] <;> rfl) ?_
                  rintro v15 K9 ⟨Kl15, O15, N15, rfl⟩
                  obtain dj16_0 : Dk g1 Kl15 := by simpa only [dj_app_l, dj_app_r, dj_cons_l, dj_cons_r, dj_nil_l, dj_nil_r, dk_app, dk_cons, dk_nil, and_true, true_and, and_assoc] using (show Dj [(g1, .cells (shC (.slice pc cs.length cc) (.slice po os.length co) t).toArray 32 (0, 0))] Kl15 from N15)
                  refine lm (v := v15) rfl rfl ?_
                  refine wpL_done (fun W48 hW48 => ?_)
                  refine (show Code.wp _ _ _ _ _ from ?_)
                  refine wp_region_L (W0 := w) ((g1, .cells (shC (.slice pc cs.length cc) (.slice po os.length co) t).toArray 32 (0, 0)) :: Kl15) (hW48) ?_
                  refine lm (v := .int .i64 ((k : Nat) : Int)) rfl rfl ?_
                  refine lp (v := .int .i64 (((k + 1) : Nat) : Int)) rfl rfl (run_bin rfl (vx := (.int .i64 ((k : Nat) : Int))) (vy := (.int .i64 ((1 : Nat) : Int))) (by kernel_rfl) (by kernel_rfl) fun w => bn_add (z := (k + 1)) rfl (wr_i64 (by omega)) w) ?_
                  refine lm (v := .int .i64 (((k + 1) : Nat) : Int)) rfl rfl ?_
                  refine wpL_done (fun W49 hW49 => ?_)
                  go_roundw
                  case rel =>
                    repeat apply Exists.intro
                    exact ⟨⟨k + 1, z + 1, v15, Kl15, (by omega), (by rw [idx_yes hy3 (by rw [bes_eval ⟨rm1, rm2⟩ ⟨r13, r23⟩]; simp [*]), List.length_append, hml]; rfl), (by omega), (own_snoc O15 (idx_yes hy3 (by rw [bes_eval ⟨rm1, rm2⟩ ⟨r13, r23⟩]; simp [*]))), (show Dk g1 Kl15 from (by (try simp only [dj_app_l, dj_app_r, dj_cons_l, dj_cons_r, dj_nil_l, dj_nil_r, dk_app, dk_cons, dk_nil, and_true, true_and, and_assoc]); repeat' (first | trivial | assumption | exact Dj.symm (by assumption) | exact Ne.symm (by assumption) | apply And.intro))), rfl, rfl, (hW49.sub (fun p hp => by first | exact hp | (simp only [List.mem_cons, List.mem_append, List.nil_append, List.not_mem_nil, or_assoc, or_false, false_or] at hp ⊢ <;> grind)))⟩, rfl⟩
                  case measure => (show cs.length - (intOf (.int .i64 (((k + 1) : Nat) : Int))).toNat < cs.length - (intOf (.int .i64 ((k : Nat) : Int))).toNat); simp only [intOf]; omega
end Go.Proofs.Ythpooalhibedpaa
namespace Go.Proofs.Ythpooalhibedpaa
open Go Go.RowKit Tw
set_option maxRecDepth 100000 in
set_option maxHeartbeats 4000000 in
theorem RTallest_any (cs : List Col) (pc : Option Addr) (cc : Nat) (lc : cs.length ≤ 4000000000) (os : List Cov) (po : Option Addr) (co : Nat) (lo : os.length ≤ 4000000000) (t : Tl) (w : World) (hc : SLV w pc (cs.flatMap colC)) (ho : SLV w po (os.flatMap covC)) : Calls Try.prog 19 #[.agg (shC (.slice pc cs.length cc) (.slice po os.length co) t).toArray] w fun e w' => e = .returned (.int .i64 (tallX cs)) ∧ Below w.heap.size w w' := by
  have HC := Lib.hid hc
  clear hc
  have HO := Lib.hid ho
  clear ho
  go_enter Try.func19, Try.ntmps19
  refine wp_seq ?_
  refine wp_region_L (W0 := w) [] (KS.start w) ?_
  refine wpL_new (fun g => .pointer (some ⟨g, 0, none⟩)) (obi := .cells (shC (.slice pc cs.length cc) (.slice po os.length co) t).toArray 32 (0, 0)) rfl rfl (fun _ => by kernel_rfl) (fun _ => by simp only [List.setIfInBounds_toArray, List.set_cons_succ, List.set_cons_zero] <;> rfl) fun g1 Bg1 Fg1 => ?_
  refine lm (v := .int .i64 0) rfl rfl ?_
  refine wpL_done (fun W1 hW1 => ?_)
  refine (show Code.wp _ _ _ _ _ from ?_)
  refine wp_seq ?_
  refine wp_region_L (W0 := w) [(g1, .cells (shC (.slice pc cs.length cc) (.slice po os.length co) t).toArray 32 (0, 0))] (hW1) ?_
  refine lm (v := .int .i64 0) rfl rfl ?_
  refine wpL_done (fun W2 hW2 => ?_)
  refine (show Code.wp _ _ _ _ _ from ?_)
  refine wp_seq ?_
  refine wp_seq ?_
  refine wp_region_L (W0 := w) [(g1, .cells (shC (.slice pc cs.length cc) (.slice po os.length co) t).toArray 32 (0, 0))] (hW2) ?_
  refine lm (v := .int .i64 0) rfl rfl ?_
  refine wpL_done (fun W3 hW3 => ?_)
  refine (show Code.wp _ _ _ _ _ from ?_)
  refine wp_block ?_
  go_loopw [4, 3] (fun u4 u3 wr => ∃ (k : Nat) (m : Int), (k ≤ cs.length) ∧ (k = 0 ∨ tallX cs = tallF m (cs.drop k)) ∧ (k = 0 → m = 0) ∧ u4 = .int .i64 ((k : Nat) : Int) ∧ u3 = .int .i64 m ∧ KS w [(g1, .cells (shC (.slice pc cs.length cc) (.slice po os.length co) t).toArray 32 (0, 0))] wr) (fun u4 _ _ => cs.length - (intOf u4).toNat)
  case atStart => exact ⟨0, 0, (Nat.zero_le _), (.inl rfl), (fun _ => rfl), rfl, rfl, (hW3.sub (fun p hp => by first | exact hp | (simp only [List.mem_cons, List.mem_append, List.nil_append, List.not_mem_nil, or_assoc, or_false, false_or] at hp ⊢ <;> grind)))⟩
  case round =>
    obtain ⟨k, m, hk, hm, h0, rfl, rfl, hL4⟩ := hrel
    refine wp_seq ?_
    refine wp_seq ?_
    refine wp_region_L (W0 := w) [(g1, .cells (shC (.slice pc cs.length cc) (.slice po os.length co) t).toArray 32 (0, 0))] (hL4) ?_
    refine lm (v := .int .i64 ((k : Nat) : Int)) rfl rfl ?_
    refine lm (v := .pointer (some ⟨g1, 0, none⟩)) rfl rfl ?_
    refine lv (v := .slice pc cs.length cc) rfl rfl (yb_cell (off := 0) rfl (by kernel_rfl) (.head _) Try.underlying22 rfl (by kernel_rfl)) ?_
    refine lp (v := .int .i64 ((cs.length : Nat) : Int)) rfl rfl (run_lenL (p := pc) (cap := cc) (n := cs.length) rfl Try.underlying22 (by kernel_rfl)) ?_
    refine lp (v := .bool (decide (k < cs.length))) rfl rfl (run_bin rfl (vx := (.int .i64 ((k : Nat) : Int))) (vy := (.int .i64 ((cs.length : Nat) : Int))) (by kernel_rfl) (by kernel_rfl) fun w => bn_lss rfl w) ?_
    refine wpL_done (fun W5 hW5 => ?_)
    refine (show Code.wp _ _ _ _ _ from ?_)
    cases hd1 : (decide (k < cs.length)) with
    | false =>
      have h1 : ¬ (k < cs.length) := of_decide_eq_false hd1
      clear hd1
      refine wp_cond_false rfl ?_
      refine wp_exit ?_
      refine (show Code.wp _ _ _ _ _ from ?_)
      refine wp_seq ?_
      refine wp_region_L (W0 := w) [(g1, .cells (shC (.slice pc cs.length cc) (.slice po os.length co) t).toArray 32 (0, 0))] (hW5) ?_
      refine lm (v := .int .i64 m) rfl rfl ?_
      refine lm (v := .int .i64 m) rfl rfl ?_
      refine wpL_done (fun W6 hW6 => ?_)
      refine (show Code.wp _ _ _ _ _ from ?_)
      refine wp_ret ?_
      try simp only [inBlock_ret, then_ret]
      refine bodyPost_ret (v := .int .i64 m) ?_ rfl ?_
      · kernel_rfl
      · exact ⟨(int_is (tallE hm h0 h1)), hW6.1⟩
    | true =>
      have h1 : k < cs.length := of_decide_eq_true hd1
      clear hd1
      refine wp_cond_true rfl ?_
      refine wp_skip ?_
      refine (show Code.wp _ _ _ _ _ from ?_)
      refine wp_seq ?_
      refine wp_block ?_
      refine wp_seq ?_
      refine wp_region_L (W0 := w) [(g1, .cells (shC (.slice pc cs.length cc) (.slice po os.length co) t).toArray 32 (0, 0))] (hW5) ?_
      refine lm (v := .int .i64 ((k : Nat) : Int)) rfl rfl ?_
      refine lp (v := .bool (decide (k = 0))) rfl rfl (run_bin rfl (vx := (.int .i64 ((k : Nat) : Int))) (vy := (.int .i64 ((0 : Nat) : Int))) (by kernel_rfl) (by kernel_rfl) fun w => bn_eql rfl w) ?_
      refine lm (v := .bool (decide (k = 0))) rfl rfl ?_
      cases hd2 : (decide (k = 0)) with
      | false =>
        have h2 : ¬ (k = 0) := of_decide_eq_false hd2
        clear hd2
        refine lm (v := .pointer (some ⟨g1, 0, none⟩)) rfl rfl ?_
        refine lv (v := .slice pc cs.length cc) rfl rfl (yb_cell (off := 0) rfl (by kernel_rfl) (.head _) Try.underlying22 rfl (by kernel_rfl)) ?_
        refine lm (v := .int .i64 ((k : Nat) : Int)) rfl rfl ?_
        obtain ⟨y2, g2_, f2_, hy2, hp2, hc2⟩ := RL.at (RL.base HC.out) colC_len (by decide) (hW5.sub (fun _ h => by cases h)) (k := k) (by omega)
        refine lp (v := .pointer (some ⟨g2_, f2_ + k * 12, none⟩)) rfl rfl (run_idxQ (p := pc) (cap := cc) (n := cs.length) (j := .i64) (k := k) (sz := 12) rfl Try.underlying22 (by kernel_rfl) (by kernel_rfl) hp2 (by kernel_rfl) (by omega)) ?_
        refine lm (v := .pointer (some ⟨g2_, f2_ + k * 12 + 3, none⟩)) rfl rfl ?_
        refine lv (v := .int .i64 y2.tiers) rfl rfl (yb_rf (v := .int .i64 y2.tiers) rfl (by kernel_rfl) (fun W hW => hc2 W (hW.sub (fun _ h => by cases h)) 3 _ rfl) Try.underlying3 rfl) ?_
        refine lm (v := .int .i64 m) rfl rfl ?_
        refine lp (v := .bool (decide (m < y2.tiers))) rfl rfl (run_bin rfl (vx := (.int .i64 y2.tiers)) (vy := (.int .i64 m)) (by kernel_rfl) (by kernel_rfl) fun w => bi_gtr rfl w) ?_
        refine lm (v := .bool (decide (m < y2.tiers))) rfl rfl ?_
        refine wpL_done (fun W7 hW7 => ?_)
        refine (show Code.wp _ _ _ _ _ from ?_)
        cases hd3 : (decide (m < y2.tiers)) with
        | false =>
          have h3 : ¬ (m < y2.tiers) := of_decide_eq_false hd3
          clear hd3
          refine wp_cond_false rfl ?_
          refine wp_skip ?_
          refine (show Code.wp _ _ _ _ _ from ?_)
          refine wp_region_L (W0 := w) [(g1, .cells (shC (.slice pc cs.length cc) (.slice po os.length co) t).toArray 32 (0, 0))] (hW7) ?_
          refine lm (v := .int .i64 ((k : Nat) : Int)) rfl rfl ?_
          refine lp (v := .int .i64 (((k + 1) : Nat) : Int)) rfl rfl (run_bin rfl (vx := (.int .i64 ((k : Nat) : Int))) (vy := (.int .i64 ((1 : Nat) : Int))) (by kernel_rfl) (by kernel_rfl) fun w => bn_add (z := (k + 1)) rfl (wr_i64 (by omega)) w) ?_
          refine lm (v := .int .i64 (((k + 1) : Nat) : Int)) rfl rfl ?_
          refine wpL_done (fun W8 hW8 => ?_)
          go_roundw
          case rel =>
            repeat apply Exists.intro
            exact ⟨⟨k + 1, m, (by omega), (.inr (tallN hy2 hm h2 h3)), (fun h => by omega), rfl, rfl, (hW8.sub (fun p hp => by first | exact hp | (simp only [List.mem_cons, List.mem_append, List.nil_append, List.not_mem_nil, or_assoc, or_false, false_or] at hp ⊢ <;> grind)))⟩, rfl⟩
          case measure => (show cs.length - (intOf (.int .i64 (((k + 1) : Nat) : Int))).toNat < cs.length - (intOf (.int .i64 ((k : Nat) : Int))).toNat); simp only [intOf]; omega
        | true =>
          have h3 : m < y2.tiers := of_decide_eq_true hd3
          clear hd3
          refine wp_cond_true rfl ?_
          refine wp_region_L (W0 := w) [(g1, .cells (shC (.slice pc cs.length cc) (.slice po os.length co) t).toArray 32 (0, 0))] (hW7) ?_
          refine lm (v := .pointer (some ⟨g1, 0, none⟩)) rfl rfl ?_
          refine lv (v := .slice pc cs.length cc) rfl rfl (yb_cell (off := 0) rfl (by kernel_rfl) (.head _) Try.underlying22 rfl (by kernel_rfl)) ?_
          refine lm (v := .int .i64 ((k : Nat) : Int)) rfl rfl ?_
          refine lp (v := .pointer (some ⟨g2_, f2_ + k * 12, none⟩)) rfl rfl (run_idxQ (p := pc) (cap := cc) (n := cs.length) (j := .i64) (k := k) (sz := 12) rfl Try.underlying22 (by kernel_rfl) (by kernel_rfl) hp2 (by kernel_rfl) (by omega)) ?_
          refine lm (v := .pointer (some ⟨g2_, f2_ + k * 12 + 3, none⟩)) rfl rfl ?_
          refine lv (v := .int .i64 y2.tiers) rfl rfl (yb_rf (v := .int .i64 y2.tiers) rfl (by kernel_rfl) (fun W hW => hc2 W (hW.sub (fun _ h => by cases h)) 3 _ rfl) Try.underlying3 rfl) ?_
          refine lm (v := .int .i64 y2.tiers) rfl rfl ?_
          refine wpL_done (fun W9 hW9 => ?_)
          refine (show Code.wp _ _ _ _ _ from ?_)
          refine wp_region_L (W0 := w) [(g1, .cells (shC (.slice pc cs.length cc) (.slice po os.length co) t).toArray 32 (0, 0))] (hW9) ?_
          refine lm (v := .int .i64 ((k : Nat) : Int)) rfl rfl ?_
          refine lp (v := .int .i64 (((k + 1) : Nat) : Int)) rfl rfl (run_bin rfl (vx := (.int .i64 ((k : Nat) : Int))) (vy := (.int .i64 ((1 : Nat) : Int))) (by kernel_rfl) (by kernel_rfl) fun w => bn_add (z := (k + 1)) rfl (wr_i64 (by omega)) w) ?_
          refine lm (v := .int .i64 (((k + 1) : Nat) : Int)) rfl rfl ?_
          refine wpL_done (fun W10 hW10 => ?_)
          go_roundw
          case rel =>
            repeat apply Exists.intro
            exact ⟨⟨k + 1, y2.tiers, (by omega), (.inr (tallR hy2 hm (.inr h3))), (fun h => by omega), rfl, rfl, (hW10.sub (fun p hp => by first | exact hp | (simp only [List.mem_cons, List.mem_append, List.nil_append, List.not_mem_nil, or_assoc, or_false, false_or] at hp ⊢ <;> grind)))⟩, rfl⟩
          case measure => (show cs.length - (intOf (.int .i64 (((k + 1) : Nat) : Int))).toNat < cs.length - (intOf (.int .i64 ((k : Nat) : Int))).toNat); simp only [intOf]; omega
      | true =>
        have h2 : k = 0 := of_decide_eq_true hd2
        clear hd2
        refine ln rfl ?_
        refine ln rfl ?_
        refine ln rfl ?_
        refine ln rfl ?_
        refine ln rfl ?_
        refine ln rfl ?_
        refine ln rfl ?_
        refine ln rfl ?_
        refine lm (v := .bool true) rfl rfl ?_
        refine wpL_done (fun W11 hW11 => ?_)
        refine (show Code.wp _ _ _ _ _ from ?_)
        refine wp_cond_true rfl ?_
        refine wp_region_L (W0 := w) [(g1, .cells (shC (.slice pc cs.length cc) (.slice po os.length co) t).toArray 32 (0, 0))] (hW11) ?_
        refine lm (v := .pointer (some ⟨g1, 0, none⟩)) rfl rfl ?_
        refine lv (v := .slice pc cs.length cc) rfl rfl (yb_cell (off := 0) rfl (by kernel_rfl) (.head _) Try.underlying22 rfl (by kernel_rfl)) ?_
        refine lm (v := .int .i64 ((k : Nat) : Int)) rfl rfl ?_
        obtain ⟨y3, g3_, f3_, hy3, hp3, hc3⟩ := RL.at (RL.base HC.out) colC_len (by decide) (hW11.sub (fun _ h => by cases h)) (k := k) (by omega)
        refine lp (v := .pointer (some ⟨g3_, f3_ + k * 12, none⟩)) rfl rfl (run_idxQ (p := pc) (cap := cc) (n := cs.length) (j := .i64) (k := k) (sz := 12) rfl Try.underlying22 (by kernel_rfl) (by kernel_rfl) hp3 (by kernel_rfl) (by omega)) ?_
        refine lm (v := .pointer (some ⟨g3_, f3_ + k * 12 + 3, none⟩)) rfl rfl ?_
        refine lv (v := .int .i64 y3.tiers) rfl rfl (yb_rf (v := .int .i64 y3.tiers) rfl (by kernel_rfl) (fun W hW => hc3 W (hW.sub (fun _ h => by cases h)) 3 _ rfl) Try.underlying3 rfl) ?_
        refine lm (v := .int .i64 y3.tiers) rfl rfl ?_
        refine wpL_done (fun W12 hW12 => ?_)
        refine (show Code.wp _ _ _ _ _ from ?_)
        refine wp_region_L (W0 := w) [(g1, .cells (shC (.slice pc cs.length cc) (.slice po os.length co) t).toArray 32 (0, 0))] (hW12) ?_
        refine lm (v := .int .i64 ((k : Nat) : Int)) rfl rfl ?_
        refine lp (v := .int .i64 (((k + 1) : Nat) : Int)) rfl rfl (run_bin rfl (vx := (.int .i64 ((k : Nat) : Int))) (vy := (.int .i64 ((1 : Nat) : Int))) (by kernel_rfl) (by kernel_rfl) fun w => bn_add (z := (k + 1)) rfl (wr_i64 (by omega)) w) ?_
        refine lm (v := .int .i64 (((k + 1) : Nat) : Int)) rfl rfl ?_
        refine wpL_done (fun W13 hW13 => ?_)
        go_roundw
        case rel =>
          repeat apply Exists.intro
          exact ⟨⟨k + 1, y3.tiers, (by omega), (.inr (tallR hy3 hm (.inl h2))), (fun h => by omega), rfl, rfl, (hW13.sub (fun p hp => by first | exact hp | (simp only [List.mem_cons, List.mem_append, List.nil_append, List.not_mem_nil, or_assoc, or_false, false_or] at hp ⊢ <;> grind)))⟩, rfl⟩
        case measure => (show cs.length - (intOf (.int .i64 (((k + 1) : Nat) : Int))).toNat < cs.length - (intOf (.int .i64 ((k : Nat) : Int))).toNat); simp only [intOf]; omega
set_option maxRecDepth 100000 in
set_option maxHeartbeats 4000000 in
theorem RPlaces_any (cs : List Col) (pc : Option Addr) (cc : Nat) (lc : cs.length ≤ 4000000000) (os : List Cov) (po : Option Addr) (co : Nat) (lo : os.length ≤ 4000000000) (t : Tl) (w : World) (hc : SLV w pc (cs.flatMap colC)) (ho : SLV w po (os.flatMap covC)) : Calls Try.prog 21 #[.agg (shC (.slice pc cs.length cc) (.slice po os.length co) t).toArray] w fun e w' => e = .returned (.int .i64 (placesX cs)) ∧ Below w.heap.size w w' := by
  have HC := Lib.hid hc
  clear hc
  have HO := Lib.hid ho
  clear ho
  go_enter Try.func21, Try.ntmps21
  refine wp_seq ?_
  refine wp_region_L (W0 := w) [] (KS.start w) ?_
  refine wpL_new (fun g => .pointer (some ⟨g, 0, none⟩)) (obi := .cells (shC (.slice pc cs.length cc) (.slice po os.length co) t).toArray 32 (0, 0)) rfl rfl (fun _ => by kernel_rfl) (fun _ => by simp only [List.setIfInBounds_toArray, List.set_cons_succ, List.set_cons_zero] <;> rfl) fun g1 Bg1 Fg1 => ?_
  refine lm (v := .int .i64 0) rfl rfl ?_
  refine wpL_done (fun W1 hW1 => ?_)
  refine (show Code.wp _ _ _ _ _ from ?_)
  refine wp_seq ?_
  refine wp_region_L (W0 := w) [(g1, .cells (shC (.slice pc cs.length cc) (.slice po os.length co) t).toArray 32 (0, 0))] (hW1) ?_
  refine lm (v := .int .i64 0) rfl rfl ?_
  refine wpL_done (fun W2 hW2 => ?_)
  refine (show Code.wp _ _ _ _ _ from ?_)
  refine wp_seq ?_
  refine wp_seq ?_
  refine wp_region_L (W0 := w) [(g1, .cells (shC (.slice pc cs.length cc) (.slice po os.length co) t).toArray 32 (0, 0))] (hW2) ?_
  refine lm (v := .int .i64 0) rfl rfl ?_
  refine wpL_done (fun W3 hW3 => ?_)
  refine (show Code.wp _ _ _ _ _ from ?_)
  refine wp_block ?_
  go_loopw [4, 3] (fun u4 u3 wr => ∃ (k : Nat) (m s9 : Int), (k ≤ cs.length) ∧ (placesX cs = IntKind.i64.wrap (2 * tiersF m (cs.drop k))) ∧ (s9 = IntKind.i64.wrap (2 * m)) ∧ u4 = .int .i64 ((k : Nat) : Int) ∧ u3 = .int .i64 s9 ∧ KS w [(g1, .cells (shC (.slice pc cs.length cc) (.slice po os.length co) t).toArray 32 (0, 0))] wr) (fun u4 _ _ => cs.length - (intOf u4).toNat)
  case atStart => exact ⟨0, 0, 0, (Nat.zero_le _), rfl, (by decide), rfl, rfl, (hW3.sub (fun p hp => by first | exact hp | (simp only [List.mem_cons, List.mem_append, List.nil_append, List.not_mem_nil, or_assoc, or_false, false_or] at hp ⊢ <;> grind)))⟩
  case round =>
    obtain ⟨k, m, s9, hk, hP, hs, rfl, rfl, hL4⟩ := hrel
    refine wp_seq ?_
    refine wp_seq ?_
    refine wp_region_L (W0 := w) [(g1, .cells (shC (.slice pc cs.length cc) (.slice po os.length co) t).toArray 32 (0, 0))] (hL4) ?_
    refine lm (v := .int .i64 ((k : Nat) : Int)) rfl rfl ?_
    refine lm (v := .pointer (some ⟨g1, 0, none⟩)) rfl rfl ?_
    refine lv (v := .slice pc cs.length cc) rfl rfl (yb_cell (off := 0) rfl (by kernel_rfl) (.head _) Try.underlying22 rfl (by kernel_rfl)) ?_
    refine lp (v := .int .i64 ((cs.length : Nat) : Int)) rfl rfl (run_lenL (p := pc) (cap := cc) (n := cs.length) rfl Try.underlying22 (by kernel_rfl)) ?_
    refine lp (v := .bool (decide (k < cs.length))) rfl rfl (run_bin rfl (vx := (.int .i64 ((k : Nat) : Int))) (vy := (.int .i64 ((cs.length : Nat) : Int))) (by kernel_rfl) (by kernel_rfl) fun w => bn_lss rfl w) ?_
    refine wpL_done (fun W5 hW5 => ?_)
    refine (show Code.wp _ _ _ _ _ from ?_)
    cases hd1 : (decide (k < cs.length)) with
    | false =>
      have h1 : ¬ (k < cs.length) := of_decide_eq_false hd1
      clear hd1
      refine wp_cond_false rfl ?_
      refine wp_exit ?_
      refine (show Code.wp _ _ _ _ _ from ?_)
      refine wp_seq ?_
      refine wp_region_L (W0 := w) [(g1, .cells (shC (.slice pc cs.length cc) (.slice po os.length co) t).toArray 32 (0, 0))] (hW5) ?_
      refine lm (v := .int .i64 s9) rfl rfl ?_
      refine lm (v := .int .i64 s9) rfl rfl ?_
      refine wpL_done (fun W6 hW6 => ?_)
      refine (show Code.wp _ _ _ _ _ from ?_)
      refine wp_ret ?_
      try simp only [inBlock_ret, then_ret]
      refine bodyPost_ret (v := .int .i64 s9) ?_ rfl ?_
      · kernel_rfl
      · exact ⟨(int_is (by rw [hP, tiers_end h1, hs])), hW6.1⟩
    | true =>
      have h1 : k < cs.length := of_decide_eq_true hd1
      clear hd1
      refine wp_cond_true rfl ?_
      refine wp_skip ?_
      refine (show Code.wp _ _ _ _ _ from ?_)
      refine wp_seq ?_
      refine wp_block ?_
      refine wp_region_V (W0 := w) [(g1, .cells (shC (.slice pc cs.length cc) (.slice po os.length co) t).toArray 32 (0, 0))] (by kernel_rfl) (hW5) ?_
      refine vm (i := 0) (v := .int .i64 s9) rfl rfl rfl ?_
      refine vm (i := 1) (v := .pointer (some ⟨g1, 0, none⟩)) rfl rfl rfl ?_
      refine vv (i := 2) (v := .slice pc cs.length cc) rfl rfl rfl (yb_cell (off := 0) rfl (by kernel_rfl) (.head _) Try.underlying22 rfl (by kernel_rfl)) ?_
      refine vm (i := 3) (v := .int .i64 ((k : Nat) : Int)) rfl rfl rfl ?_
      obtain ⟨y2, g2_, f2_, hy2, hp2, hc2⟩ := RL.at (RL.base HC.out) colC_len (by decide) (hW5.sub (fun _ h => by cases h)) (k := k) (by omega)
      refine vp (i := 4) (v := .pointer (some ⟨g2_, f2_ + k * 12, none⟩)) rfl rfl rfl (run_idxQ (p := pc) (cap := cc) (n := cs.length) (j := .i64) (k := k) (sz := 12) rfl Try.underlying22 (by kernel_rfl) (by kernel_rfl) hp2 (by kernel_rfl) (by omega)) ?_
      refine vm (i := 5) (v := .pointer (some ⟨g2_, f2_ + k * 12 + 3, none⟩)) rfl rfl rfl ?_
      refine vb (i := 6) (v := .int .i64 y2.tiers) rfl rfl rfl (yb_rf (v := .int .i64 y2.tiers) rfl (by kernel_rfl) (fun W hW => hc2 W (hW.sub (fun _ h => by cases h)) 3 _ rfl) Try.underlying3 rfl) ?_
      refine vp (i := 7) (v := .int .i64 (IntKind.i64.wrap (s9 + y2.tiers))) rfl rfl rfl (run_bin rfl (vx := .int .i64 s9) (vy := .int .i64 y2.tiers) (by kernel_rfl) (by kernel_rfl) fun w => bw_add (z := (IntKind.i64.wrap (s9 + y2.tiers))) rfl w) ?_
      refine vm (i := 8) (v := .pointer (some ⟨g1, 0, none⟩)) rfl rfl rfl ?_
      refine vv (i := 9) (v := .slice pc cs.length cc) rfl rfl rfl (yb_cell (off := 0) rfl (by kernel_rfl) (.head _) Try.underlying22 rfl (by kernel_rfl)) ?_
      refine vm (i := 10) (v := .int .i64 ((k : Nat) : Int)) rfl rfl rfl ?_
      refine vp (i := 11) (v := .pointer (some ⟨g2_, f2_ + k * 12, none⟩)) rfl rfl rfl (run_idxQ (p := pc) (cap := cc) (n := cs.length) (j := .i64) (k := k) (sz := 12) rfl Try.underlying22 (by kernel_rfl) (by kernel_rfl) hp2 (by kernel_rfl) (by omega)) ?_
      refine vm (i := 12) (v := .pointer (some ⟨g2_, f2_ + k * 12 + 3, none⟩)) rfl rfl rfl ?_
      refine vb (i := 13) (v := .int .i64 y2.tiers) rfl rfl rfl (yb_rf (v := .int .i64 y2.tiers) rfl (by kernel_rfl) (fun W hW => hc2 W (hW.sub (fun _ h => by cases h)) 3 _ rfl) Try.underlying3 rfl) ?_
      refine vp (i := 14) (v := .int .i64 (IntKind.i64.wrap ((IntKind.i64.wrap (s9 + y2.tiers)) + y2.tiers))) rfl rfl rfl (run_bin rfl (vx := .int .i64 (IntKind.i64.wrap (s9 + y2.tiers))) (vy := .int .i64 y2.tiers) (by kernel_rfl) (by kernel_rfl) fun w => bw_add (z := (IntKind.i64.wrap ((IntKind.i64.wrap (s9 + y2.tiers)) + y2.tiers))) rfl w) ?_
      refine vm (i := 15) (v := .int .i64 (IntKind.i64.wrap ((IntKind.i64.wrap (s9 + y2.tiers)) + y2.tiers))) rfl rfl rfl ?_
      refine wpV_done (by kernel_rfl) (fun W7 hW7 => ?_) _
      refine (show Code.wp _ _ _ _ _ from ?_)
      refine wp_region_L (W0 := w) [(g1, .cells (shC (.slice pc cs.length cc) (.slice po os.length co) t).toArray 32 (0, 0))] (hW7) ?_
      refine lm (v := .int .i64 ((k : Nat) : Int)) rfl rfl ?_
      refine lp (v := .int .i64 (((k + 1) : Nat) : Int)) rfl rfl (run_bin rfl (vx := (.int .i64 ((k : Nat) : Int))) (vy := (.int .i64 ((1 : Nat) : Int))) (by kernel_rfl) (by kernel_rfl) fun w => bn_add (z := (k + 1)) rfl (wr_i64 (by omega)) w) ?_
      refine lm (v := .int .i64 (((k + 1) : Nat) : Int)) rfl rfl ?_
      refine wpL_done (fun W8 hW8 => ?_)
      go_roundw
      case rel =>
        repeat apply Exists.intro
        exact ⟨⟨k + 1, (IntKind.i64.wrap (m + y2.tiers)), (IntKind.i64.wrap ((IntKind.i64.wrap (s9 + y2.tiers)) + y2.tiers)), (by omega), (placesR hy2 hP hs).1, (placesR hy2 hP hs).2, rfl, rfl, (hW8.sub (fun p hp => by first | exact hp | (simp only [List.mem_cons, List.mem_append, List.nil_append, List.not_mem_nil, or_assoc, or_false, false_or] at hp ⊢ <;> grind)))⟩, rfl⟩
      case measure => (show cs.length - (intOf (.int .i64 (((k + 1) : Nat) : Int))).toNat < cs.length - (intOf (.int .i64 ((k : Nat) : Int))).toNat); simp only [intOf]; omega
set_option maxRecDepth 100000 in
set_option maxHeartbeats 4000000 in
theorem RApart_any (cs : List Col) (pc : Option Addr) (cc : Nat) (lc : cs.length ≤ 4000000000) (os : List Cov) (po : Option Addr) (co : Nat) (lo : os.length ≤ 4000000000) (t : Tl) (a b : Int) (w : World) (hc : SLV w pc (cs.flatMap colC)) (ho : SLV w po (os.flatMap covC)) : Calls Try.prog 24 #[.agg (shC (.slice pc cs.length cc) (.slice po os.length co) t).toArray, .int .i64 a, .int .i64 b] w fun e w' => e = .returned (.tuple #[.int .i64 (apN cs a b), .bool (apB cs a b)]) ∧ Below w.heap.size w w' := by
  have HC := Lib.hid hc
  clear hc
  have HO := Lib.hid ho
  clear ho
  rcases Int.lt_or_le a 0 with hn | hn
  · skip
    go_enter Try.func24, Try.ntmps24
    refine wp_seq ?_
    refine wp_region_L (W0 := w) [] (KS.start w) ?_
    refine wpL_new (fun g => .pointer (some ⟨g, 0, none⟩)) (obi := .cells (shC (.slice pc cs.length cc) (.slice po os.length co) t).toArray 32 (0, 0)) rfl rfl (fun _ => by kernel_rfl) (fun _ => by simp only [List.setIfInBounds_toArray, List.set_cons_succ, List.set_cons_zero] <;> rfl) fun g1 Bg1 Fg1 => ?_
    refine lm (v := .int .i64 0) rfl rfl ?_
    refine lm (v := .bool false) rfl rfl ?_
    refine wpL_done (fun W1 hW1 => ?_)
    refine (show Code.wp _ _ _ _ _ from ?_)
    refine wp_seq ?_
    refine wp_seq ?_
    refine wp_region_L (W0 := w) [(g1, .cells (shC (.slice pc cs.length cc) (.slice po os.length co) t).toArray 32 (0, 0))] (hW1) ?_
    refine lm (v := .int .i64 a) rfl rfl ?_
    refine lp (v := .bool true) rfl rfl (run_bin rfl (vx := (.int .i64 a)) (vy := (.int .i64 0)) (by kernel_rfl) (by kernel_rfl) fun w => bi_lss (decide_eq_true hn) w) ?_
    refine lm (v := .bool true) rfl rfl ?_
    refine ln rfl ?_
    refine ln rfl ?_
    refine lm (v := .bool true) rfl rfl ?_
    refine lm (v := .bool true) rfl rfl ?_
    refine ln rfl ?_
    refine ln rfl ?_
    refine ln rfl ?_
    refine ln rfl ?_
    refine ln rfl ?_
    refine lm (v := .bool true) rfl rfl ?_
    refine lm (v := .bool true) rfl rfl ?_
    refine ln rfl ?_
    refine ln rfl ?_
    refine ln rfl ?_
    refine ln rfl ?_
    refine ln rfl ?_
    refine lm (v := .bool true) rfl rfl ?_
    refine wpL_done (fun W2 hW2 => ?_)
    refine (show Code.wp _ _ _ _ _ from ?_)
    refine wp_cond_true rfl ?_
    refine wp_seq ?_
    refine wp_region_L (W0 := w) [(g1, .cells (shC (.slice pc cs.length cc) (.slice po os.length co) t).toArray 32 (0, 0))] (hW2) ?_
    refine lm (v := .int .i64 0) rfl rfl ?_
    refine lm (v := .bool false) rfl rfl ?_
    refine wpL_done (fun W3 hW3 => ?_)
    refine (show Code.wp _ _ _ _ _ from ?_)
    refine wp_ret ?_
    try simp only [inBlock_ret, then_ret]
    refine bodyPost_ret (v := .tuple #[.int .i64 0, .bool false]) ?_ rfl ?_
    · kernel_rfl
    · exact ⟨(by obtain ⟨h8, h9⟩ := ap_f (cs := cs) (.inl (bay_neg hn)); rw [h8, h9]), hW3.1⟩
  obtain ⟨m, rfl⟩ : ∃ m : Nat, a = (m : Int) := ⟨a.toNat, by omega⟩
  rcases Int.lt_or_le b 0 with hn2 | hn2
  · skip
    go_enter Try.func24, Try.ntmps24
    refine wp_seq ?_
    refine wp_region_L (W0 := w) [] (KS.start w) ?_
    refine wpL_new (fun g => .pointer (some ⟨g, 0, none⟩)) (obi := .cells (shC (.slice pc cs.length cc) (.slice po os.length co) t).toArray 32 (0, 0)) rfl rfl (fun _ => by kernel_rfl) (fun _ => by simp only [List.setIfInBounds_toArray, List.set_cons_succ, List.set_cons_zero] <;> rfl) fun g1 Bg1 Fg1 => ?_
    refine lm (v := .int .i64 0) rfl rfl ?_
    refine lm (v := .bool false) rfl rfl ?_
    refine wpL_done (fun W1 hW1 => ?_)
    refine (show Code.wp _ _ _ _ _ from ?_)
    refine wp_seq ?_
    refine wp_seq ?_
    refine wp_region_L (W0 := w) [(g1, .cells (shC (.slice pc cs.length cc) (.slice po os.length co) t).toArray 32 (0, 0))] (hW1) ?_
    refine lm (v := .int .i64 ((m : Nat) : Int)) rfl rfl ?_
    refine lp (v := .bool false) rfl rfl (run_bin rfl (vx := (.int .i64 ((m : Nat) : Int))) (vy := (.int .i64 ((0 : Nat) : Int))) (by kernel_rfl) (by kernel_rfl) fun w => bn_lss (decide_eq_false (by omega)) w) ?_
    refine lm (v := .bool false) rfl rfl ?_
    refine lm (v := .int .i64 b) rfl rfl ?_
    refine lp (v := .bool true) rfl rfl (run_bin rfl (vx := (.int .i64 b)) (vy := (.int .i64 0)) (by kernel_rfl) (by kernel_rfl) fun w => bi_lss (decide_eq_true hn2) w) ?_
    refine lm (v := .bool true) rfl rfl ?_
    refine lm (v := .bool true) rfl rfl ?_
    refine ln rfl ?_
    refine ln rfl ?_
    refine ln rfl ?_
    refine ln rfl ?_
    refine ln rfl ?_
    refine lm (v := .bool true) rfl rfl ?_
    refine lm (v := .bool true) rfl rfl ?_
    refine ln rfl ?_
    refine ln rfl ?_
    refine ln rfl ?_
    refine ln rfl ?_
    refine ln rfl ?_
    refine lm (v := .bool true) rfl rfl ?_
    refine wpL_done (fun W2 hW2 => ?_)
    refine (show Code.wp _ _ _ _ _ from ?_)
    refine wp_cond_true rfl ?_
    refine wp_seq ?_
    refine wp_region_L (W0 := w) [(g1, .cells (shC (.slice pc cs.length cc) (.slice po os.length co) t).toArray 32 (0, 0))] (hW2) ?_
    refine lm (v := .int .i64 0) rfl rfl ?_
    refine lm (v := .bool false) rfl rfl ?_
    refine wpL_done (fun W3 hW3 => ?_)
    refine (show Code.wp _ _ _ _ _ from ?_)
    refine wp_ret ?_
    try simp only [inBlock_ret, then_ret]
    refine bodyPost_ret (v := .tuple #[.int .i64 0, .bool false]) ?_ rfl ?_
    · kernel_rfl
    · exact ⟨(by obtain ⟨h8, h9⟩ := ap_f (cs := cs) (.inr (bay_neg hn2)); rw [h8, h9]), hW3.1⟩
  obtain ⟨n, rfl⟩ : ∃ n : Nat, b = (n : Int) := ⟨b.toNat, by omega⟩
  go_enter Try.func24, Try.ntmps24
  refine wp_seq ?_
  refine wp_region_L (W0 := w) [] (KS.start w) ?_
  refine wpL_new (fun g => .pointer (some ⟨g, 0, none⟩)) (obi := .cells (shC (.slice pc cs.length cc) (.slice po os.length co) t).toArray 32 (0, 0)) rfl rfl (fun _ => by kernel_rfl) (fun _ => by simp only [List.setIfInBounds_toArray, List.set_cons_succ, List.set_cons_zero] <;> rfl) fun g1 Bg1 Fg1 => ?_
  refine lm (v := .int .i64 0) rfl rfl ?_
  refine lm (v := .bool false) rfl rfl ?_
  refine wpL_done (fun W1 hW1 => ?_)
  refine (show Code.wp _ _ _ _ _ from ?_)
  refine wp_seq ?_
  refine wp_seq ?_
  refine wp_region_L (W0 := w) [(g1, .cells (shC (.slice pc cs.length cc) (.slice po os.length co) t).toArray 32 (0, 0))] (hW1) ?_
  refine lm (v := .int .i64 ((m : Nat) : Int)) rfl rfl ?_
  refine lp (v := .bool false) rfl rfl (run_bin rfl (vx := (.int .i64 ((m : Nat) : Int))) (vy := (.int .i64 ((0 : Nat) : Int))) (by kernel_rfl) (by kernel_rfl) fun w => bn_lss (decide_eq_false (by omega)) w) ?_
  refine lm (v := .bool false) rfl rfl ?_
  refine lm (v := .int .i64 ((n : Nat) : Int)) rfl rfl ?_
  refine lp (v := .bool false) rfl rfl (run_bin rfl (vx := (.int .i64 ((n : Nat) : Int))) (vy := (.int .i64 ((0 : Nat) : Int))) (by kernel_rfl) (by kernel_rfl) fun w => bn_lss (decide_eq_false (by omega)) w) ?_
  refine lm (v := .bool false) rfl rfl ?_
  refine lm (v := .bool false) rfl rfl ?_
  refine lm (v := .int .i64 ((m : Nat) : Int)) rfl rfl ?_
  refine lm (v := .pointer (some ⟨g1, 0, none⟩)) rfl rfl ?_
  refine lv (v := .slice pc cs.length cc) rfl rfl (yb_cell (off := 0) rfl (by kernel_rfl) (.head _) Try.underlying22 rfl (by kernel_rfl)) ?_
  refine lp (v := .int .i64 ((cs.length : Nat) : Int)) rfl rfl (run_lenL (p := pc) (cap := cc) (n := cs.length) rfl Try.underlying22 (by kernel_rfl)) ?_
  refine lp (v := .bool (!(decide (m < cs.length)))) rfl rfl (run_bin rfl (vx := (.int .i64 ((m : Nat) : Int))) (vy := (.int .i64 ((cs.length : Nat) : Int))) (by kernel_rfl) (by kernel_rfl) fun w => bn_geq rfl w) ?_
  refine lm (v := .bool (!(decide (m < cs.length)))) rfl rfl ?_
  refine lm (v := .bool (!(decide (m < cs.length)))) rfl rfl ?_
  cases hd1 : (decide (m < cs.length)) with
  | false =>
    have h1 : ¬ (m < cs.length) := of_decide_eq_false hd1
    clear hd1
    refine ln rfl ?_
    refine ln rfl ?_
    refine ln rfl ?_
    refine ln rfl ?_
    refine ln rfl ?_
    refine lm (v := .bool true) rfl rfl ?_
    refine wpL_done (fun W2 hW2 => ?_)
    refine (show Code.wp _ _ _ _ _ from ?_)
    refine wp_cond_true rfl ?_
    refine wp_seq ?_
    refine wp_region_L (W0 := w) [(g1, .cells (shC (.slice pc cs.length cc) (.slice po os.length co) t).toArray 32 (0, 0))] (hW2) ?_
    refine lm (v := .int .i64 0) rfl rfl ?_
    refine lm (v := .bool false) rfl rfl ?_
    refine wpL_done (fun W3 hW3 => ?_)
    refine (show Code.wp _ _ _ _ _ from ?_)
    refine wp_ret ?_
    try simp only [inBlock_ret, then_ret]
    refine bodyPost_ret (v := .tuple #[.int .i64 0, .bool false]) ?_ rfl ?_
    · kernel_rfl
    · exact ⟨(by obtain ⟨h8, h9⟩ := ap_f (cs := cs) (.inl (bay_big h1)); rw [h8, h9]), hW3.1⟩
  | true =>
    have h1 : m < cs.length := of_decide_eq_true hd1
    clear hd1
    refine lm (v := .int .i64 ((n : Nat) : Int)) rfl rfl ?_
    refine lm (v := .pointer (some ⟨g1, 0, none⟩)) rfl rfl ?_
    refine lv (v := .slice pc cs.length cc) rfl rfl (yb_cell (off := 0) rfl (by kernel_rfl) (.head _) Try.underlying22 rfl (by kernel_rfl)) ?_
    refine lp (v := .int .i64 ((cs.length : Nat) : Int)) rfl rfl (run_lenL (p := pc) (cap := cc) (n := cs.length) rfl Try.underlying22 (by kernel_rfl)) ?_
    refine lp (v := .bool (!(decide (n < cs.length)))) rfl rfl (run_bin rfl (vx := (.int .i64 ((n : Nat) : Int))) (vy := (.int .i64 ((cs.length : Nat) : Int))) (by kernel_rfl) (by kernel_rfl) fun w => bn_geq rfl w) ?_
    refine lm (v := .bool (!(decide (n < cs.length)))) rfl rfl ?_
    refine wpL_done (fun W4 hW4 => ?_)
    refine (show Code.wp _ _ _ _ _ from ?_)
    cases hd2 : (decide (n < cs.length)) with
    | false =>
      have h2 : ¬ (n < cs.length) := of_decide_eq_false hd2
      clear hd2
      refine wp_cond_true rfl ?_
      refine wp_seq ?_
      refine wp_region_L (W0 := w) [(g1, .cells (shC (.slice pc cs.length cc) (.slice po os.length co) t).toArray 32 (0, 0))] (hW4) ?_
      refine lm (v := .int .i64 0) rfl rfl ?_
      refine lm (v := .bool false) rfl rfl ?_
      refine wpL_done (fun W5 hW5 => ?_)
      refine (show Code.wp _ _ _ _ _ from ?_)
      refine wp_ret ?_
      try simp only [inBlock_ret, then_ret]
      refine bodyPost_ret (v := .tuple #[.int .i64 0, .bool false]) ?_ rfl ?_
      · kernel_rfl
      · exact ⟨(by obtain ⟨h8, h9⟩ := ap_f (cs := cs) (.inr (bay_big h2)); rw [h8, h9]), hW5.1⟩
    | true =>
      have h2 : n < cs.length := of_decide_eq_true hd2
      clear hd2
      refine wp_cond_false rfl ?_
      refine wp_skip ?_
      refine (show Code.wp _ _ _ _ _ from ?_)
      refine wp_seq ?_
      refine wp_seq ?_
      refine wp_region_L (W0 := w) [(g1, .cells (shC (.slice pc cs.length cc) (.slice po os.length co) t).toArray 32 (0, 0))] (hW4) ?_
      refine lm (v := .pointer (some ⟨g1, 0, none⟩)) rfl rfl ?_
      refine lv (v := .slice pc cs.length cc) rfl rfl (yb_cell (off := 0) rfl (by kernel_rfl) (.head _) Try.underlying22 rfl (by kernel_rfl)) ?_
      refine lm (v := .int .i64 ((m : Nat) : Int)) rfl rfl ?_
      obtain ⟨y2, g2_, f2_, hy2, hp2, hc2⟩ := RL.at (RL.base HC.out) colC_len (by decide) (hW4.sub (fun _ h => by cases h)) (k := m) (by omega)
      refine lp (v := .pointer (some ⟨g2_, f2_ + m * 12, none⟩)) rfl rfl (run_idxQ (p := pc) (cap := cc) (n := cs.length) (j := .i64) (k := m) (sz := 12) rfl Try.underlying22 (by kernel_rfl) (by kernel_rfl) hp2 (by kernel_rfl) (by omega)) ?_
      refine lm (v := .pointer (some ⟨g2_, f2_ + m * 12, none⟩)) rfl rfl ?_
      refine lv (v := .int .i64 y2.bay) rfl rfl (yb_rf (v := .int .i64 y2.bay) rfl (by kernel_rfl) (fun W hW => hc2 W (hW.sub (fun _ h => by cases h)) 0 _ rfl) Try.underlying3 rfl) ?_
      refine lv (v := .bool (inR y2.bay 0 39)) rfl rfl (yb_call (f := 37) (args := #[.int .i64 y2.bay, .int .i64 0, .int .i64 39]) (fun _ => by kernel_rfl) fun W hW => within_any y2.bay 0 39 W) ?_
      refine lp (v := .bool (!(inR y2.bay 0 39))) rfl rfl (run_un rfl (by kernel_rfl) fun w => un_not w) ?_
      refine lm (v := .bool (!(inR y2.bay 0 39))) rfl rfl ?_
      cases h3 : (inR y2.bay 0 39) with
      | false =>
        refine ln rfl ?_
        refine ln rfl ?_
        refine ln rfl ?_
        refine ln rfl ?_
        refine ln rfl ?_
        refine ln rfl ?_
        refine ln rfl ?_
        refine ln rfl ?_
        refine lm (v := .bool true) rfl rfl ?_
        refine wpL_done (fun W6 hW6 => ?_)
        refine (show Code.wp _ _ _ _ _ from ?_)
        refine wp_cond_true rfl ?_
        refine wp_seq ?_
        refine wp_region_L (W0 := w) [(g1, .cells (shC (.slice pc cs.length cc) (.slice po os.length co) t).toArray 32 (0, 0))] (hW6) ?_
        refine lm (v := .int .i64 0) rfl rfl ?_
        refine lm (v := .bool false) rfl rfl ?_
        refine wpL_done (fun W7 hW7 => ?_)
        refine (show Code.wp _ _ _ _ _ from ?_)
        refine wp_ret ?_
        try simp only [inBlock_ret, then_ret]
        refine bodyPost_ret (v := .tuple #[.int .i64 0, .bool false]) ?_ rfl ?_
        · kernel_rfl
        · exact ⟨(by obtain ⟨h8, h9⟩ := ap_f (cs := cs) (.inl (by rw [bay_at hy2]; exact h3)); rw [h8, h9]), hW7.1⟩
      | true =>
        refine lm (v := .pointer (some ⟨g1, 0, none⟩)) rfl rfl ?_
        refine lv (v := .slice pc cs.length cc) rfl rfl (yb_cell (off := 0) rfl (by kernel_rfl) (.head _) Try.underlying22 rfl (by kernel_rfl)) ?_
        refine lm (v := .int .i64 ((n : Nat) : Int)) rfl rfl ?_
        obtain ⟨y3, g3_, f3_, hy3, hp3, hc3⟩ := RL.at (RL.base HC.out) colC_len (by decide) (hW4.sub (fun _ h => by cases h)) (k := n) (by omega)
        refine lp (v := .pointer (some ⟨g3_, f3_ + n * 12, none⟩)) rfl rfl (run_idxQ (p := pc) (cap := cc) (n := cs.length) (j := .i64) (k := n) (sz := 12) rfl Try.underlying22 (by kernel_rfl) (by kernel_rfl) hp3 (by kernel_rfl) (by omega)) ?_
        refine lm (v := .pointer (some ⟨g3_, f3_ + n * 12, none⟩)) rfl rfl ?_
        refine lv (v := .int .i64 y3.bay) rfl rfl (yb_rf (v := .int .i64 y3.bay) rfl (by kernel_rfl) (fun W hW => hc3 W (hW.sub (fun _ h => by cases h)) 0 _ rfl) Try.underlying3 rfl) ?_
        refine lv (v := .bool (inR y3.bay 0 39)) rfl rfl (yb_call (f := 37) (args := #[.int .i64 y3.bay, .int .i64 0, .int .i64 39]) (fun _ => by kernel_rfl) fun W hW => within_any y3.bay 0 39 W) ?_
        refine lp (v := .bool (!(inR y3.bay 0 39))) rfl rfl (run_un rfl (by kernel_rfl) fun w => un_not w) ?_
        refine lm (v := .bool (!(inR y3.bay 0 39))) rfl rfl ?_
        refine wpL_done (fun W8 hW8 => ?_)
        refine (show Code.wp _ _ _ _ _ from ?_)
        cases h4 : (inR y3.bay 0 39) with
        | false =>
          refine wp_cond_true rfl ?_
          refine wp_seq ?_
          refine wp_region_L (W0 := w) [(g1, .cells (shC (.slice pc cs.length cc) (.slice po os.length co) t).toArray 32 (0, 0))] (hW8) ?_
          refine lm (v := .int .i64 0) rfl rfl ?_
          refine lm (v := .bool false) rfl rfl ?_
          refine wpL_done (fun W9 hW9 => ?_)
          refine (show Code.wp _ _ _ _ _ from ?_)
          refine wp_ret ?_
          try simp only [inBlock_ret, then_ret]
          refine bodyPost_ret (v := .tuple #[.int .i64 0, .bool false]) ?_ rfl ?_
          · kernel_rfl
          · exact ⟨(by obtain ⟨h8, h9⟩ := ap_f (cs := cs) (.inr (by rw [bay_at hy3]; exact h4)); rw [h8, h9]), hW9.1⟩
        | true =>
          refine wp_cond_false rfl ?_
          refine wp_skip ?_
          refine (show Code.wp _ _ _ _ _ from ?_)
          refine wp_seq ?_
          refine wp_seq ?_
          refine wp_region_V (W0 := w) [(g1, .cells (shC (.slice pc cs.length cc) (.slice po os.length co) t).toArray 32 (0, 0))] (by kernel_rfl) (hW8) ?_
          refine vm (i := 0) (v := .pointer (some ⟨g1, 0, none⟩)) rfl rfl rfl ?_
          refine vv (i := 1) (v := .slice pc cs.length cc) rfl rfl rfl (yb_cell (off := 0) rfl (by kernel_rfl) (.head _) Try.underlying22 rfl (by kernel_rfl)) ?_
          refine vm (i := 2) (v := .int .i64 ((m : Nat) : Int)) rfl rfl rfl ?_
          refine vp (i := 3) (v := .pointer (some ⟨g2_, f2_ + m * 12, none⟩)) rfl rfl rfl (run_idxQ (p := pc) (cap := cc) (n := cs.length) (j := .i64) (k := m) (sz := 12) rfl Try.underlying22 (by kernel_rfl) (by kernel_rfl) hp2 (by kernel_rfl) (by omega)) ?_
          refine vm (i := 4) (v := .pointer (some ⟨g2_, f2_ + m * 12, none⟩)) rfl rfl rfl ?_
          refine vb (i := 5) (v := .int .i64 y2.bay) rfl rfl rfl (yb_rf (v := .int .i64 y2.bay) rfl (by kernel_rfl) (fun W hW => hc2 W (hW.sub (fun _ h => by cases h)) 0 _ rfl) Try.underlying3 rfl) ?_
          refine vm (i := 6) (v := .pointer (some ⟨g1, 0, none⟩)) rfl rfl rfl ?_
          refine vv (i := 7) (v := .slice pc cs.length cc) rfl rfl rfl (yb_cell (off := 0) rfl (by kernel_rfl) (.head _) Try.underlying22 rfl (by kernel_rfl)) ?_
          refine vm (i := 8) (v := .int .i64 ((n : Nat) : Int)) rfl rfl rfl ?_
          refine vp (i := 9) (v := .pointer (some ⟨g3_, f3_ + n * 12, none⟩)) rfl rfl rfl (run_idxQ (p := pc) (cap := cc) (n := cs.length) (j := .i64) (k := n) (sz := 12) rfl Try.underlying22 (by kernel_rfl) (by kernel_rfl) hp3 (by kernel_rfl) (by omega)) ?_
          refine vm (i := 10) (v := .pointer (some ⟨g3_, f3_ + n * 12, none⟩)) rfl rfl rfl ?_
          refine vb (i := 11) (v := .int .i64 y3.bay) rfl rfl rfl (yb_rf (v := .int .i64 y3.bay) rfl (by kernel_rfl) (fun W hW => hc3 W (hW.sub (fun _ h => by cases h)) 0 _ rfl) Try.underlying3 rfl) ?_
          refine vp (i := 12) (v := .bool (decide (y2.bay < y3.bay))) rfl rfl rfl (run_bin rfl (vx := (.int .i64 y2.bay)) (vy := (.int .i64 y3.bay)) (by kernel_rfl) (by kernel_rfl) fun w => bi_lss rfl w) ?_
          refine wpV_done (by kernel_rfl) (fun W10 hW10 => ?_) _
          refine (show Code.wp _ _ _ _ _ from ?_)
          cases hd5 : (decide (y2.bay < y3.bay)) with
          | false =>
            have h5 : ¬ (y2.bay < y3.bay) := of_decide_eq_false hd5
            clear hd5
            refine wp_cond_false rfl ?_
            refine wp_skip ?_
            refine (show Code.wp _ _ _ _ _ from ?_)
            refine wp_seq ?_
            refine wp_region_V (W0 := w) [(g1, .cells (shC (.slice pc cs.length cc) (.slice po os.length co) t).toArray 32 (0, 0))] (by kernel_rfl) (hW10) ?_
            refine vm (i := 0) (v := .pointer (some ⟨g1, 0, none⟩)) rfl rfl rfl ?_
            refine vv (i := 1) (v := .slice pc cs.length cc) rfl rfl rfl (yb_cell (off := 0) rfl (by kernel_rfl) (.head _) Try.underlying22 rfl (by kernel_rfl)) ?_
            refine vm (i := 2) (v := .int .i64 ((m : Nat) : Int)) rfl rfl rfl ?_
            refine vp (i := 3) (v := .pointer (some ⟨g2_, f2_ + m * 12, none⟩)) rfl rfl rfl (run_idxQ (p := pc) (cap := cc) (n := cs.length) (j := .i64) (k := m) (sz := 12) rfl Try.underlying22 (by kernel_rfl) (by kernel_rfl) hp2 (by kernel_rfl) (by omega)) ?_
            refine vm (i := 4) (v := .pointer (some ⟨g2_, f2_ + m * 12, none⟩)) rfl rfl rfl ?_
            refine vb (i := 5) (v := .int .i64 y2.bay) rfl rfl rfl (yb_rf (v := .int .i64 y2.bay) rfl (by kernel_rfl) (fun W hW => hc2 W (hW.sub (fun _ h => by cases h)) 0 _ rfl) Try.underlying3 rfl) ?_
            refine vm (i := 6) (v := .pointer (some ⟨g1, 0, none⟩)) rfl rfl rfl ?_
            refine vv (i := 7) (v := .slice pc cs.length cc) rfl rfl rfl (yb_cell (off := 0) rfl (by kernel_rfl) (.head _) Try.underlying22 rfl (by kernel_rfl)) ?_
            refine vm (i := 8) (v := .int .i64 ((n : Nat) : Int)) rfl rfl rfl ?_
            refine vp (i := 9) (v := .pointer (some ⟨g3_, f3_ + n * 12, none⟩)) rfl rfl rfl (run_idxQ (p := pc) (cap := cc) (n := cs.length) (j := .i64) (k := n) (sz := 12) rfl Try.underlying22 (by kernel_rfl) (by kernel_rfl) hp3 (by kernel_rfl) (by omega)) ?_
            refine vm (i := 10) (v := .pointer (some ⟨g3_, f3_ + n * 12, none⟩)) rfl rfl rfl ?_
            refine vb (i := 11) (v := .int .i64 y3.bay) rfl rfl rfl (yb_rf (v := .int .i64 y3.bay) rfl (by kernel_rfl) (fun W hW => hc3 W (hW.sub (fun _ h => by cases h)) 0 _ rfl) Try.underlying3 rfl) ?_
            refine vp (i := 12) (v := .int .i64 (IntKind.i64.wrap (y2.bay - y3.bay))) rfl rfl rfl (run_bin rfl (vx := .int .i64 y2.bay) (vy := .int .i64 y3.bay) (by kernel_rfl) (by kernel_rfl) fun w => bw_sub (z := (IntKind.i64.wrap (y2.bay - y3.bay))) rfl w) ?_
            refine vm (i := 13) (v := .int .i64 (IntKind.i64.wrap (y2.bay - y3.bay))) rfl rfl rfl ?_
            refine vm (i := 14) (v := .bool true) rfl rfl rfl ?_
            refine wpV_done (by kernel_rfl) (fun W11 hW11 => ?_) _
            refine (show Code.wp _ _ _ _ _ from ?_)
            refine wp_ret ?_
            try simp only [inBlock_ret, then_ret]
            refine bodyPost_ret (v := .tuple #[.int .i64 (IntKind.i64.wrap (y2.bay - y3.bay)), .bool true]) ?_ rfl ?_
            · kernel_rfl
            · exact ⟨(by obtain ⟨h8, h9⟩ := ap_t hy2 hy3 h3 h4; rw [h8, h9, diff_ge h5]), hW11.1⟩
          | true =>
            have h5 : y2.bay < y3.bay := of_decide_eq_true hd5
            clear hd5
            refine wp_cond_true rfl ?_
            refine wp_seq ?_
            refine wp_region_V (W0 := w) [(g1, .cells (shC (.slice pc cs.length cc) (.slice po os.length co) t).toArray 32 (0, 0))] (by kernel_rfl) (hW10) ?_
            refine vm (i := 0) (v := .pointer (some ⟨g1, 0, none⟩)) rfl rfl rfl ?_
            refine vv (i := 1) (v := .slice pc cs.length cc) rfl rfl rfl (yb_cell (off := 0) rfl (by kernel_rfl) (.head _) Try.underlying22 rfl (by kernel_rfl)) ?_
            refine vm (i := 2) (v := .int .i64 ((n : Nat) : Int)) rfl rfl rfl ?_
            refine vp (i := 3) (v := .pointer (some ⟨g3_, f3_ + n * 12, none⟩)) rfl rfl rfl (run_idxQ (p := pc) (cap := cc) (n := cs.length) (j := .i64) (k := n) (sz := 12) rfl Try.underlying22 (by kernel_rfl) (by kernel_rfl) hp3 (by kernel_rfl) (by omega)) ?_
            refine vm (i := 4) (v := .pointer (some ⟨g3_, f3_ + n * 12, none⟩)) rfl rfl rfl ?_
            refine vb (i := 5) (v := .int .i64 y3.bay) rfl rfl rfl (yb_rf (v := .int .i64 y3.bay) rfl (by kernel_rfl) (fun W hW => hc3 W (hW.sub (fun _ h => by cases h)) 0 _ rfl) Try.underlying3 rfl) ?_
            refine vm (i := 6) (v := .pointer (some ⟨g1, 0, none⟩)) rfl rfl rfl ?_
            refine vv (i := 7) (v := .slice pc cs.length cc) rfl rfl rfl (yb_cell (off := 0) rfl (by kernel_rfl) (.head _) Try.underlying22 rfl (by kernel_rfl)) ?_
            refine vm (i := 8) (v := .int .i64 ((m : Nat) : Int)) rfl rfl rfl ?_
            refine vp (i := 9) (v := .pointer (some ⟨g2_, f2_ + m * 12, none⟩)) rfl rfl rfl (run_idxQ (p := pc) (cap := cc) (n := cs.length) (j := .i64) (k := m) (sz := 12) rfl Try.underlying22 (by kernel_rfl) (by kernel_rfl) hp2 (by kernel_rfl) (by omega)) ?_
            refine vm (i := 10) (v := .pointer (some ⟨g2_, f2_ + m * 12, none⟩)) rfl rfl rfl ?_
            refine vb (i := 11) (v := .int .i64 y2.bay) rfl rfl rfl (yb_rf (v := .int .i64 y2.bay) rfl (by kernel_rfl) (fun W hW => hc2 W (hW.sub (fun _ h => by cases h)) 0 _ rfl) Try.underlying3 rfl) ?_
            refine vp (i := 12) (v := .int .i64 (IntKind.i64.wrap (y3.bay - y2.bay))) rfl rfl rfl (run_bin rfl (vx := .int .i64 y3.bay) (vy := .int .i64 y2.bay) (by kernel_rfl) (by kernel_rfl) fun w => bw_sub (z := (IntKind.i64.wrap (y3.bay - y2.bay))) rfl w) ?_
            refine vm (i := 13) (v := .int .i64 (IntKind.i64.wrap (y3.bay - y2.bay))) rfl rfl rfl ?_
            refine vm (i := 14) (v := .bool true) rfl rfl rfl ?_
            refine wpV_done (by kernel_rfl) (fun W12 hW12 => ?_) _
            refine (show Code.wp _ _ _ _ _ from ?_)
            refine wp_ret ?_
            try simp only [inBlock_ret, then_ret]
            refine bodyPost_ret (v := .tuple #[.int .i64 (IntKind.i64.wrap (y3.bay - y2.bay)), .bool true]) ?_ rfl ?_
            · kernel_rfl
            · exact ⟨(by obtain ⟨h8, h9⟩ := ap_t hy2 hy3 h3 h4; rw [h8, h9, diff_lt h5]), hW12.1⟩
end Go.Proofs.Ythpooalhibedpaa
namespace Go.Proofs.Ythpooalhibedpaa
open Go Go.RowKit Tw
theorem beside_len (cs : List Col) (n : Int) : (besideX cs n).length ≤ cs.length := by
  unfold besideX
  split
  · exact idxF_len _ cs 0
  · exact Nat.zero_le _
set_option maxRecDepth 100000 in
set_option maxHeartbeats 4000000 in
theorem fewL_any (cs : List Col) (pc : Option Addr) (cc : Nat) (lc : cs.length ≤ 17592186044403) (os : List Cov) (po : Option Addr) (co : Nat) (lo : os.length ≤ 17592186044403) (t : Tl) (w : World) (hc : SLV w pc (cs.flatMap colC)) (ho : SLV w po (os.flatMap covC)) (lr : ∀ o ∈ os, o.rows.length ≤ 17592186044403) (lq : ∀ c ∈ cs, c.plugs.length ≤ 17592186044403) : Calls Try.prog 5 #[.agg (shC (.slice pc cs.length cc) (.slice po os.length co) t).toArray] w fun e w' => e = .returned (.bool (fewX cs os)) ∧ Below w.heap.size w w' := by
  have HC := Lib.hid hc
  clear hc
  have HO := Lib.hid ho
  clear ho
  go_enter Try.func5, Try.ntmps5
  refine wp_seq ?_
  refine wp_region_L (W0 := w) [] (KS.start w) ?_
  refine wpL_new (fun g => .pointer (some ⟨g, 0, none⟩)) (obi := .cells (shC (.slice pc cs.length cc) (.slice po os.length co) t).toArray 32 (0, 0)) rfl rfl (fun _ => by kernel_rfl) (fun _ => by simp only [List.setIfInBounds_toArray, List.set_cons_succ, List.set_cons_zero] <;> rfl) fun g1 Bg1 Fg1 => ?_
  refine lm (v := .bool false) rfl rfl ?_
  refine wpL_done (fun W1 hW1 => ?_)
  refine (show Code.wp _ _ _ _ _ from ?_)
  refine wp_seq ?_
  refine wp_seq ?_
  refine wp_region_L (W0 := w) [(g1, .cells (shC (.slice pc cs.length cc) (.slice po os.length co) t).toArray 32 (0, 0))] (hW1) ?_
  refine lm (v := .pointer (some ⟨g1, 0, none⟩)) rfl rfl ?_
  refine lv (v := .slice pc cs.length cc) rfl rfl (yb_cell (off := 0) rfl (by kernel_rfl) (.head _) Try.underlying22 rfl (by kernel_rfl)) ?_
  refine lp (v := .int .i64 ((cs.length : Nat) : Int)) rfl rfl (run_lenL (p := pc) (cap := cc) (n := cs.length) rfl Try.underlying22 (by kernel_rfl)) ?_
  refine lp (v := .bool (decide (250 < cs.length))) rfl rfl (run_bin rfl (vx := (.int .i64 ((cs.length : Nat) : Int))) (vy := (.int .i64 ((250 : Nat) : Int))) (by kernel_rfl) (by kernel_rfl) fun w => bn_gtr rfl w) ?_
  refine lm (v := .bool (decide (250 < cs.length))) rfl rfl ?_
  cases hd1 : (decide (250 < cs.length)) with
  | false =>
    have h1 : ¬ (250 < cs.length) := of_decide_eq_false hd1
    clear hd1
    refine lm (v := .pointer (some ⟨g1, 1, none⟩)) rfl rfl ?_
    refine lv (v := .slice po os.length co) rfl rfl (yb_cell (off := 1) rfl (by kernel_rfl) (.head _) Try.underlying23 rfl (by kernel_rfl)) ?_
    refine lp (v := .int .i64 ((os.length : Nat) : Int)) rfl rfl (run_lenL (p := po) (cap := co) (n := os.length) rfl Try.underlying23 (by kernel_rfl)) ?_
    refine lp (v := .bool (decide (60 < os.length))) rfl rfl (run_bin rfl (vx := (.int .i64 ((os.length : Nat) : Int))) (vy := (.int .i64 ((60 : Nat) : Int))) (by kernel_rfl) (by kernel_rfl) fun w => bn_gtr rfl w) ?_
    refine lm (v := .bool (decide (60 < os.length))) rfl rfl ?_
    refine wpL_done (fun W2 hW2 => ?_)
    refine (show Code.wp _ _ _ _ _ from ?_)
    cases hd2 : (decide (60 < os.length)) with
    | false =>
      have h2 : ¬ (60 < os.length) := of_decide_eq_false hd2
      clear hd2
      refine wp_cond_false rfl ?_
      refine wp_skip ?_
      refine (show Code.wp _ _ _ _ _ from ?_)
      refine wp_seq ?_
      refine wp_seq ?_
      refine wp_region_L (W0 := w) [(g1, .cells (shC (.slice pc cs.length cc) (.slice po os.length co) t).toArray 32 (0, 0))] (hW2) ?_
      refine lm (v := .pointer (some ⟨g1, 0, none⟩)) rfl rfl ?_
      refine lv (v := .slice pc cs.length cc) rfl rfl (yb_cell (off := 0) rfl (by kernel_rfl) (.head _) Try.underlying22 rfl (by kernel_rfl)) ?_
      refine lp (v := .int .i64 ((cs.length : Nat) : Int)) rfl rfl (run_lenL (p := pc) (cap := cc) (n := cs.length) rfl Try.underlying22 (by kernel_rfl)) ?_
      refine lm (v := .int .i64 0) rfl rfl ?_
      refine wpL_done (fun W3 hW3 => ?_)
      refine (show Code.wp _ _ _ _ _ from ?_)
      refine wp_block ?_
      go_loopw [20] (fun u20 wr => ∃ (i : Nat), (i ≤ cs.length) ∧ (∀ j c, j < i → cs[j]? = some c → c.plugs.length ≤ 12) ∧ u20 = .int .i64 ((i : Nat) : Int) ∧ KS w [(g1, .cells (shC (.slice pc cs.length cc) (.slice po os.length co) t).toArray 32 (0, 0))] wr) (fun u20 _ => cs.length - (intOf u20).toNat)
      case atStart => exact ⟨0, (Nat.zero_le _), (fun j c h => by omega), rfl, (hW3.sub (fun p hp => by first | exact hp | (simp only [List.mem_cons, List.mem_append, List.nil_append, List.not_mem_nil, or_assoc, or_false, false_or] at hp ⊢ <;> grind)))⟩
      case round =>
        obtain ⟨i, hi, hF, rfl, hL4⟩ := hrel
        refine wp_seq ?_
        refine wp_region_L (W0 := w) [(g1, .cells (shC (.slice pc cs.length cc) (.slice po os.length co) t).toArray 32 (0, 0))] (hL4) ?_
        refine lp (v := .bool (decide (i < cs.length))) rfl rfl (run_bin rfl (vx := (.int .i64 ((i : Nat) : Int))) (vy := (.int .i64 ((cs.length : Nat) : Int))) (by kernel_rfl) (by kernel_rfl) fun w => bn_lss rfl w) ?_
        refine wpL_done (fun W5 hW5 => ?_)
        refine (show Code.wp _ _ _ _ _ from ?_)
        refine wp_seq ?_
        cases hd3 : (decide (i < cs.length)) with
        | false =>
          have h3 : ¬ (i < cs.length) := of_decide_eq_false hd3
          clear hd3
          refine wp_cond_false rfl ?_
          refine wp_exit ?_
          refine (show Code.wp _ _ _ _ _ from ?_)
          refine wp_seq ?_
          refine wp_seq ?_
          refine wp_region_L (W0 := w) [(g1, .cells (shC (.slice pc cs.length cc) (.slice po os.length co) t).toArray 32 (0, 0))] (hW5) ?_
          refine lm (v := .pointer (some ⟨g1, 1, none⟩)) rfl rfl ?_
          refine lv (v := .slice po os.length co) rfl rfl (yb_cell (off := 1) rfl (by kernel_rfl) (.head _) Try.underlying23 rfl (by kernel_rfl)) ?_
          refine lp (v := .int .i64 ((os.length : Nat) : Int)) rfl rfl (run_lenL (p := po) (cap := co) (n := os.length) rfl Try.underlying23 (by kernel_rfl)) ?_
          refine lm (v := .int .i64 0) rfl rfl ?_
          refine wpL_done (fun W6 hW6 => ?_)
          refine (show Code.wp _ _ _ _ _ from ?_)
          refine wp_block ?_
          go_loopw [32] (fun u32 wr => ∃ (i2 : Nat), (i2 ≤ os.length) ∧ (∀ j o, j < i2 → os[j]? = some o → o.rows.length ≤ 40) ∧ u32 = .int .i64 ((i2 : Nat) : Int) ∧ KS w [(g1, .cells (shC (.slice pc cs.length cc) (.slice po os.length co) t).toArray 32 (0, 0))] wr) (fun u32 _ => os.length - (intOf u32).toNat)
          case atStart => exact ⟨0, (Nat.zero_le _), (fun j o h => by omega), rfl, (hW6.sub (fun p hp => by first | exact hp | (simp only [List.mem_cons, List.mem_append, List.nil_append, List.not_mem_nil, or_assoc, or_false, false_or] at hp ⊢ <;> grind)))⟩
          case round =>
            obtain ⟨i2, hi2, hG, rfl, hL7⟩ := hrel
            refine wp_seq ?_
            refine wp_region_L (W0 := w) [(g1, .cells (shC (.slice pc cs.length cc) (.slice po os.length co) t).toArray 32 (0, 0))] (hL7) ?_
            refine lp (v := .bool (decide (i2 < os.length))) rfl rfl (run_bin rfl (vx := (.int .i64 ((i2 : Nat) : Int))) (vy := (.int .i64 ((os.length : Nat) : Int))) (by kernel_rfl) (by kernel_rfl) fun w => bn_lss rfl w) ?_
            refine wpL_done (fun W8 hW8 => ?_)
            refine (show Code.wp _ _ _ _ _ from ?_)
            refine wp_seq ?_
            cases hd4 : (decide (i2 < os.length)) with
            | false =>
              have h4 : ¬ (i2 < os.length) := of_decide_eq_false hd4
              clear hd4
              refine wp_cond_false rfl ?_
              refine wp_exit ?_
              refine (show Code.wp _ _ _ _ _ from ?_)
              refine wp_seq ?_
              refine wp_region_L (W0 := w) [(g1, .cells (shC (.slice pc cs.length cc) (.slice po os.length co) t).toArray 32 (0, 0))] (hW8) ?_
              refine lm (v := .bool true) rfl rfl ?_
              refine wpL_done (fun W9 hW9 => ?_)
              refine (show Code.wp _ _ _ _ _ from ?_)
              refine wp_ret ?_
              try simp only [inBlock_ret, then_ret]
              refine bodyPost_ret (v := .bool true) ?_ rfl ?_
              · kernel_rfl
              · exact ⟨(bool_is (few_yes h1 h2 (fun j c g => hF j c (by omega)) (fun j c g => hG j c (by omega))).symm), hW9.1⟩
            | true =>
              have h4 : i2 < os.length := of_decide_eq_true hd4
              clear hd4
              refine wp_cond_true rfl ?_
              refine wp_skip ?_
              refine (show Code.wp _ _ _ _ _ from ?_)
              refine wp_seq ?_
              refine wp_block ?_
              refine wp_seq ?_
              refine wp_region_L (W0 := w) [(g1, .cells (shC (.slice pc cs.length cc) (.slice po os.length co) t).toArray 32 (0, 0))] (hW8) ?_
              obtain ⟨y2, g2_, f2_, hy2, hp2, hc2⟩ := RL.at (RL.base HO.out) covC_len (by decide) (hW8.sub (fun _ h => by cases h)) (k := i2) (by omega)
              refine lp (v := .pointer (some ⟨g2_, f2_ + i2 * 2, none⟩)) rfl rfl (run_idxQ (p := po) (cap := co) (n := os.length) (j := .i64) (k := i2) (sz := 2) rfl Try.underlying23 (by kernel_rfl) (by kernel_rfl) hp2 (by kernel_rfl) (by omega)) ?_
              refine lv (v := .agg (covC y2).toArray) rfl rfl (yb_rs (off := f2_ + i2 * 2) (cs := covC y2) rfl (by kernel_rfl) (fun W hW => hc2 W (hW.sub (fun _ h => by cases h))) Try.underlying51 rfl (by kernel_rfl)) ?_
              refine wpL_new (fun g => .pointer (some ⟨g, 0, none⟩)) (obi := .cells #[.int .i64 0, .slice none 0 0] 51 (0, 0)) rfl rfl (fun _ => by kernel_rfl) (fun _ => by simp only [List.setIfInBounds_toArray, List.set_cons_succ, List.set_cons_zero] <;> rfl) fun g3 Bg3 Fg3 => ?_
              obtain dj4_0 : g1 ≠ g3 := by simpa only [dj_app_l, dj_app_r, dj_cons_l, dj_cons_r, dj_nil_l, dj_nil_r, dk_app, dk_cons, dk_nil, and_true, true_and, and_assoc] using (show Dk g3 [(g1, .cells (shC (.slice pc cs.length cc) (.slice po os.length co) t).toArray 32 (0, 0))] from Fg3)
              refine wpL_s [(g3, .cells (covC y2).toArray 51 (0, 0)), (g1, .cells (shC (.slice pc cs.length cc) (.slice po os.length co) t).toArray 32 (0, 0))] rfl rfl (st_row (off := 0) (v := .agg (covC y2).toArray) rfl (by kernel_rfl) (by kernel_rfl) (.head _) Bg3 (by kernel_rfl) (by first | (simp [Value.cells]; done) | exact Nat.le_of_ble_eq_true rfl) (fun v hv => covC_one y2 v hv) (by kernel_rfl) (List.forall_mem_cons.2 ⟨.inl rfl, (List.forall_mem_cons.2 ⟨.inr ⟨(.tail _ (.head _)), (by first | assumption | exact Ne.symm (by assumption))⟩, (List.forall_mem_nil _)⟩)⟩)) ?_
              refine wpL_done (fun W10 hW10 => ?_)
              refine (show Code.wp _ _ _ _ _ from ?_)
              refine wp_seq ?_
              refine wp_region_L (W0 := w) [(g3, .cells (covC y2).toArray 51 (0, 0)), (g1, .cells (shC (.slice pc cs.length cc) (.slice po os.length co) t).toArray 32 (0, 0))] (hW10) ?_
              refine lm (v := .pointer (some ⟨g3, 1, none⟩)) rfl rfl ?_
              refine lv (v := .slice y2.rp y2.rows.length y2.rc) rfl rfl (yb_cell (off := 1) rfl (by kernel_rfl) (.head _) Try.underlying39 rfl (by kernel_rfl)) ?_
              refine lp (v := .int .i64 ((y2.rows.length : Nat) : Int)) rfl rfl (run_lenL (p := y2.rp) (cap := y2.rc) (n := y2.rows.length) rfl Try.underlying39 (by kernel_rfl)) ?_
              refine lp (v := .bool (decide (40 < y2.rows.length))) rfl rfl (run_bin rfl (vx := (.int .i64 ((y2.rows.length : Nat) : Int))) (vy := (.int .i64 ((40 : Nat) : Int))) (by kernel_rfl) (by kernel_rfl) fun w => bn_gtr rfl w) ?_
              refine wpL_done (fun W11 hW11 => ?_)
              refine (show Code.wp _ _ _ _ _ from ?_)
              cases hd5 : (decide (40 < y2.rows.length)) with
              | false =>
                have h5 : ¬ (40 < y2.rows.length) := of_decide_eq_false hd5
                clear hd5
                refine wp_cond_false rfl ?_
                refine wp_skip ?_
                refine (show Code.wp _ _ _ _ _ from ?_)
                refine wp_region_L (W0 := w) [(g3, .cells (covC y2).toArray 51 (0, 0)), (g1, .cells (shC (.slice pc cs.length cc) (.slice po os.length co) t).toArray 32 (0, 0))] (hW11) ?_
                refine lp (v := .int .i64 (((i2 + 1) : Nat) : Int)) rfl rfl (run_bin rfl (vx := (.int .i64 ((i2 : Nat) : Int))) (vy := (.int .i64 ((1 : Nat) : Int))) (by kernel_rfl) (by kernel_rfl) fun w => bn_add (z := (i2 + 1)) rfl (wr_i64 (by omega)) w) ?_
                refine lm (v := .int .i64 (((i2 + 1) : Nat) : Int)) rfl rfl ?_
                refine wpL_done (fun W12 hW12 => ?_)
                go_roundw
                case rel =>
                  repeat apply Exists.intro
                  exact ⟨⟨i2 + 1, (by omega), (few_o (q := i2) hG hy2 h5 rfl), rfl, (hW12.sub (fun p hp => by first | exact hp | (simp only [List.mem_cons, List.mem_append, List.nil_append, List.not_mem_nil, or_assoc, or_false, false_or] at hp ⊢ <;> grind)))⟩, rfl⟩
                case measure => (show os.length - (intOf (.int .i64 (((i2 + 1) : Nat) : Int))).toNat < os.length - (intOf (.int .i64 ((i2 : Nat) : Int))).toNat); simp only [intOf]; omega
              | true =>
                have h5 : 40 < y2.rows.length := of_decide_eq_true hd5
                clear hd5
                refine wp_cond_true rfl ?_
                refine wp_seq ?_
                refine wp_region_L (W0 := w) [(g3, .cells (covC y2).toArray 51 (0, 0)), (g1, .cells (shC (.slice pc cs.length cc) (.slice po os.length co) t).toArray 32 (0, 0))] (hW11) ?_
                refine lm (v := .bool false) rfl rfl ?_
                refine wpL_done (fun W13 hW13 => ?_)
                refine (show Code.wp _ _ _ _ _ from ?_)
                refine wp_ret ?_
                try simp only [inBlock_ret, then_ret]
                refine bodyPost_ret (v := .bool false) ?_ rfl ?_
                · kernel_rfl
                · exact ⟨(bool_is (few_no4 hy2 h5).symm), hW13.1⟩
        | true =>
          have h3 : i < cs.length := of_decide_eq_true hd3
          clear hd3
          refine wp_cond_true rfl ?_
          refine wp_skip ?_
          refine (show Code.wp _ _ _ _ _ from ?_)
          refine wp_seq ?_
          refine wp_block ?_
          refine wp_seq ?_
          refine wp_region_L (W0 := w) [(g1, .cells (shC (.slice pc cs.length cc) (.slice po os.length co) t).toArray 32 (0, 0))] (hW5) ?_
          obtain ⟨y5, g5_, f5_, hy5, hp5, hc5⟩ := RL.at (RL.base HC.out) colC_len (by decide) (hW5.sub (fun _ h => by cases h)) (k := i) (by omega)
          refine lp (v := .pointer (some ⟨g5_, f5_ + i * 12, none⟩)) rfl rfl (run_idxQ (p := pc) (cap := cc) (n := cs.length) (j := .i64) (k := i) (sz := 12) rfl Try.underlying22 (by kernel_rfl) (by kernel_rfl) hp5 (by kernel_rfl) (by omega)) ?_
          refine lv (v := .agg (colC y5).toArray) rfl rfl (yb_rs (off := f5_ + i * 12) (cs := colC y5) rfl (by kernel_rfl) (fun W hW => hc5 W (hW.sub (fun _ h => by cases h))) Try.underlying49 rfl (by kernel_rfl)) ?_
          refine wpL_new (fun g => .pointer (some ⟨g, 0, none⟩)) (obi := .cells #[.int .i64 0, .int .i64 0, .bool false, .int .i64 0, .int .i64 0, .int .i64 0, .int .i64 0, .int .i64 0, .slice none 0 0, .int .i64 0, .int .i64 0, .int .i64 0] 49 (0, 0)) rfl rfl (fun _ => by kernel_rfl) (fun _ => by simp only [List.setIfInBounds_toArray, List.set_cons_succ, List.set_cons_zero] <;> rfl) fun g6 Bg6 Fg6 => ?_
          obtain dj7_0 : g1 ≠ g6 := by simpa only [dj_app_l, dj_app_r, dj_cons_l, dj_cons_r, dj_nil_l, dj_nil_r, dk_app, dk_cons, dk_nil, and_true, true_and, and_assoc] using (show Dk g6 [(g1, .cells (shC (.slice pc cs.length cc) (.slice po os.length co) t).toArray 32 (0, 0))] from Fg6)
          refine wpL_s [(g6, .cells (colC y5).toArray 49 (0, 0)), (g1, .cells (shC (.slice pc cs.length cc) (.slice po os.length co) t).toArray 32 (0, 0))] rfl rfl (st_row (off := 0) (v := .agg (colC y5).toArray) rfl (by kernel_rfl) (by kernel_rfl) (.head _) Bg6 (by kernel_rfl) (by first | (simp [Value.cells]; done) | exact Nat.le_of_ble_eq_true rfl) (fun v hv => colC_one y5 v hv) (by kernel_rfl) (List.forall_mem_cons.2 ⟨.inl rfl, (List.forall_mem_cons.2 ⟨.inr ⟨(.tail _ (.head _)), (by first | assumption | exact Ne.symm (by assumption))⟩, (List.forall_mem_nil _)⟩)⟩)) ?_
          refine wpL_done (fun W14 hW14 => ?_)
          refine (show Code.wp _ _ _ _ _ from ?_)
          refine wp_seq ?_
          refine wp_region_L (W0 := w) [(g6, .cells (colC y5).toArray 49 (0, 0)), (g1, .cells (shC (.slice pc cs.length cc) (.slice po os.length co) t).toArray 32 (0, 0))] (hW14) ?_
          refine lm (v := .pointer (some ⟨g6, 8, none⟩)) rfl rfl ?_
          refine lv (v := .slice y5.pp y5.plugs.length y5.pc) rfl rfl (yb_cell (off := 8) rfl (by kernel_rfl) (.head _) Try.underlying39 rfl (by kernel_rfl)) ?_
          refine lp (v := .int .i64 ((y5.plugs.length : Nat) : Int)) rfl rfl (run_lenL (p := y5.pp) (cap := y5.pc) (n := y5.plugs.length) rfl Try.underlying39 (by kernel_rfl)) ?_
          refine lp (v := .bool (decide (12 < y5.plugs.length))) rfl rfl (run_bin rfl (vx := (.int .i64 ((y5.plugs.length : Nat) : Int))) (vy := (.int .i64 ((12 : Nat) : Int))) (by kernel_rfl) (by kernel_rfl) fun w => bn_gtr rfl w) ?_
          refine wpL_done (fun W15 hW15 => ?_)
          refine (show Code.wp _ _ _ _ _ from ?_)
          cases hd6 : (decide (12 < y5.plugs.length)) with
          | false =>
            have h6 : ¬ (12 < y5.plugs.length) := of_decide_eq_false hd6
            clear hd6
            refine wp_cond_false rfl ?_
            refine wp_skip ?_
            refine (show Code.wp _ _ _ _ _ from ?_)
            refine wp_region_L (W0 := w) [(g6, .cells (colC y5).toArray 49 (0, 0)), (g1, .cells (shC (.slice pc cs.length cc) (.slice po os.length co) t).toArray 32 (0, 0))] (hW15) ?_
            refine lp (v := .int .i64 (((i + 1) : Nat) : Int)) rfl rfl (run_bin rfl (vx := (.int .i64 ((i : Nat) : Int))) (vy := (.int .i64 ((1 : Nat) : Int))) (by kernel_rfl) (by kernel_rfl) fun w => bn_add (z := (i + 1)) rfl (wr_i64 (by omega)) w) ?_
            refine lm (v := .int .i64 (((i + 1) : Nat) : Int)) rfl rfl ?_
            refine wpL_done (fun W16 hW16 => ?_)
            go_roundw
            case rel =>
              repeat apply Exists.intro
              exact ⟨⟨i + 1, (by omega), (few_c (q := i) hF hy5 h6 rfl), rfl, (hW16.sub (fun p hp => by first | exact hp | (simp only [List.mem_cons, List.mem_append, List.nil_append, List.not_mem_nil, or_assoc, or_false, false_or] at hp ⊢ <;> grind)))⟩, rfl⟩
            case measure => (show cs.length - (intOf (.int .i64 (((i + 1) : Nat) : Int))).toNat < cs.length - (intOf (.int .i64 ((i : Nat) : Int))).toNat); simp only [intOf]; omega
          | true =>
            have h6 : 12 < y5.plugs.length := of_decide_eq_true hd6
            clear hd6
            refine wp_cond_true rfl ?_
            refine wp_seq ?_
            refine wp_region_L (W0 := w) [(g6, .cells (colC y5).toArray 49 (0, 0)), (g1, .cells (shC (.slice pc cs.length cc) (.slice po os.length co) t).toArray 32 (0, 0))] (hW15) ?_
            refine lm (v := .bool false) rfl rfl ?_
            refine wpL_done (fun W17 hW17 => ?_)
            refine (show Code.wp _ _ _ _ _ from ?_)
            refine wp_ret ?_
            try simp only [inBlock_ret, then_ret]
            refine bodyPost_ret (v := .bool false) ?_ rfl ?_
            · kernel_rfl
            · exact ⟨(bool_is (few_no3 hy5 h6).symm), hW17.1⟩
    | true =>
      have h2 : 60 < os.length := of_decide_eq_true hd2
      clear hd2
      refine wp_cond_true rfl ?_
      refine wp_seq ?_
      refine wp_region_L (W0 := w) [(g1, .cells (shC (.slice pc cs.length cc) (.slice po os.length co) t).toArray 32 (0, 0))] (hW2) ?_
      refine lm (v := .bool false) rfl rfl ?_
      refine wpL_done (fun W18 hW18 => ?_)
      refine (show Code.wp _ _ _ _ _ from ?_)
      refine wp_ret ?_
      try simp only [inBlock_ret, then_ret]
      refine bodyPost_ret (v := .bool false) ?_ rfl ?_
      · kernel_rfl
      · exact ⟨(bool_is (few_no2 h2).symm), hW18.1⟩
  | true =>
    have h1 : 250 < cs.length := of_decide_eq_true hd1
    clear hd1
    refine ln rfl ?_
    refine ln rfl ?_
    refine ln rfl ?_
    refine ln rfl ?_
    refine lm (v := .bool true) rfl rfl ?_
    refine wpL_done (fun W19 hW19 => ?_)
    refine (show Code.wp _ _ _ _ _ from ?_)
    refine wp_cond_true rfl ?_
    refine wp_seq ?_
    refine wp_region_L (W0 := w) [(g1, .cells (shC (.slice pc cs.length cc) (.slice po os.length co) t).toArray 32 (0, 0))] (hW19) ?_
    refine lm (v := .bool false) rfl rfl ?_
    refine wpL_done (fun W20 hW20 => ?_)
    refine (show Code.wp _ _ _ _ _ from ?_)
    refine wp_ret ?_
    try simp only [inBlock_ret, then_ret]
    refine bodyPost_ret (v := .bool false) ?_ rfl ?_
    · kernel_rfl
    · exact ⟨(bool_is (few_no1 h1).symm), hW20.1⟩
set_option maxRecDepth 100000 in
set_option maxHeartbeats 4000000 in
theorem ShipLies_law (s : Sp) (n1 : s.cs.length ≤ 17592186044403) (n2 : s.os.length ≤ 17592186044403) (lr : ∀ o ∈ s.os, o.rows.length ≤ 17592186044403) (lq : ∀ c ∈ s.cs, c.plugs.length ≤ 17592186044403) (hrow : ∀ c ∈ s.cs, rowOk c) (a b : Int) (w : World) (hc : SLV w s.pc (s.cs.flatMap colC)) (ho : SLV w s.po (s.os.flatMap covC)) (hin : fewX s.cs s.os = true → SpIn w s) : Calls Try.prog 4 #[.agg (spC s).toArray, .int .i64 a, .int .i64 b] w fun e w' => e = .returned (.bool true) ∧ Below w.heap.size w w' := by
  go_enter Try.func4, Try.ntmps4
  refine wp_seq ?_
  refine wp_region_L (W0 := w) [] (KS.start w) ?_
  refine wpL_new (fun g => .pointer (some ⟨g, 0, none⟩)) (obi := .cells #[.slice s.pc s.cs.length s.cc, .slice s.po s.os.length s.co, .int .i64 s.li.a, .int .i64 s.li.b, .int .i64 s.li.c, .int .i64 s.li.d, .slice s.pr s.rs.length s.cr, .slice s.pf s.fs.length s.cf, .slice s.pt s.ts.length s.ct, .int .i64 s.lm.a, .int .i64 s.lm.b, .int .i64 s.lm.c, .int .i64 s.lm.d] 32 (0, 0)) rfl rfl (fun _ => by kernel_rfl) (fun _ => by simp only [List.setIfInBounds_toArray, List.set_cons_succ, List.set_cons_zero] <;> rfl) fun g1 Bg1 Fg1 => ?_
  refine lm (v := .bool false) rfl rfl ?_
  refine wpL_done (fun W1 hW1 => ?_)
  refine (show Code.wp _ _ _ _ _ from ?_)
  refine wp_seq ?_
  refine wp_seq ?_
  refine wp_region_L (W0 := w) [(g1, .cells #[.slice s.pc s.cs.length s.cc, .slice s.po s.os.length s.co, .int .i64 s.li.a, .int .i64 s.li.b, .int .i64 s.li.c, .int .i64 s.li.d, .slice s.pr s.rs.length s.cr, .slice s.pf s.fs.length s.cf, .slice s.pt s.ts.length s.ct, .int .i64 s.lm.a, .int .i64 s.lm.b, .int .i64 s.lm.c, .int .i64 s.lm.d] 32 (0, 0))] (hW1) ?_
  refine lv (v := .agg #[.slice s.pc s.cs.length s.cc, .slice s.po s.os.length s.co, .int .i64 s.li.a, .int .i64 s.li.b, .int .i64 s.li.c, .int .i64 s.li.d, .slice s.pr s.rs.length s.cr, .slice s.pf s.fs.length s.cf, .slice s.pt s.ts.length s.ct, .int .i64 s.lm.a, .int .i64 s.lm.b, .int .i64 s.lm.c, .int .i64 s.lm.d]) rfl rfl (yb_load (n := 13) (off := 0) rfl (by kernel_rfl) (.head _) Try.underlying32 rfl (by kernel_rfl) (by first | (simp [Value.cells]; done) | exact Nat.le_of_ble_eq_true rfl) (by kernel_rfl)) ?_
  refine lv (v := .bool (fewX s.cs s.os)) rfl rfl (yb_call (f := 5) (args := #[.agg #[.slice s.pc s.cs.length s.cc, .slice s.po s.os.length s.co, .int .i64 s.li.a, .int .i64 s.li.b, .int .i64 s.li.c, .int .i64 s.li.d, .slice s.pr s.rs.length s.cr, .slice s.pf s.fs.length s.cf, .slice s.pt s.ts.length s.ct, .int .i64 s.lm.a, .int .i64 s.lm.b, .int .i64 s.lm.c, .int .i64 s.lm.d]]) (fun _ => by kernel_rfl) fun W hW => fewL_any s.cs s.pc s.cc n1 s.os s.po s.co n2 (spT s) W ((hc).keep hW.1) ((ho).keep hW.1) lr lq) ?_
  refine lp (v := .bool (!(fewX s.cs s.os))) rfl rfl (run_un rfl (by kernel_rfl) fun w => un_not w) ?_
  refine wpL_done (fun W2 hW2 => ?_)
  refine (show Code.wp _ _ _ _ _ from ?_)
  cases h1 : (fewX s.cs s.os) with
  | false =>
    refine wp_cond_true rfl ?_
    refine wp_seq ?_
    refine wp_region_L (W0 := w) [(g1, .cells #[.slice s.pc s.cs.length s.cc, .slice s.po s.os.length s.co, .int .i64 s.li.a, .int .i64 s.li.b, .int .i64 s.li.c, .int .i64 s.li.d, .slice s.pr s.rs.length s.cr, .slice s.pf s.fs.length s.cf, .slice s.pt s.ts.length s.ct, .int .i64 s.lm.a, .int .i64 s.lm.b, .int .i64 s.lm.c, .int .i64 s.lm.d] 32 (0, 0))] (hW2) ?_
    refine lv (v := .bool true) rfl rfl (yb_call (f := 6) (args := #[]) (fun _ => by kernel_rfl) fun W hW => awake_any W) ?_
    refine lm (v := .bool true) rfl rfl ?_
    refine wpL_done (fun W3 hW3 => ?_)
    refine (show Code.wp _ _ _ _ _ from ?_)
    refine wp_ret ?_
    try simp only [inBlock_ret, then_ret]
    refine bodyPost_ret (v := .bool true) ?_ rfl ?_
    · kernel_rfl
    · exact ⟨rfl, hW3.1⟩
  | true =>
    refine wp_cond_false rfl ?_
    refine wp_skip ?_
    refine (show Code.wp _ _ _ _ _ from ?_)
    refine wp_seq ?_
    refine wp_region_L (W0 := w) [(g1, .cells #[.slice s.pc s.cs.length s.cc, .slice s.po s.os.length s.co, .int .i64 s.li.a, .int .i64 s.li.b, .int .i64 s.li.c, .int .i64 s.li.d, .slice s.pr s.rs.length s.cr, .slice s.pf s.fs.length s.cf, .slice s.pt s.ts.length s.ct, .int .i64 s.lm.a, .int .i64 s.lm.b, .int .i64 s.lm.c, .int .i64 s.lm.d] 32 (0, 0))] (hW2) ?_
    refine lv (v := .agg #[.slice s.pc s.cs.length s.cc, .slice s.po s.os.length s.co, .int .i64 s.li.a, .int .i64 s.li.b, .int .i64 s.li.c, .int .i64 s.li.d, .slice s.pr s.rs.length s.cr, .slice s.pf s.fs.length s.cf, .slice s.pt s.ts.length s.ct, .int .i64 s.lm.a, .int .i64 s.lm.b, .int .i64 s.lm.c, .int .i64 s.lm.d]) rfl rfl (yb_load (n := 13) (off := 0) rfl (by kernel_rfl) (.head _) Try.underlying32 rfl (by kernel_rfl) (by first | (simp [Value.cells]; done) | exact Nat.le_of_ble_eq_true rfl) (by kernel_rfl)) ?_
    have hI := hin (by simpa using h1)
    obtain ⟨k1, k2, _, _⟩ := few_is (by simpa using h1)
    have hs1 : s.cs.length ≤ 4000000000 := by omega
    have hs2 : s.os.length ≤ 4000000000 := by omega
    refine wpL_c (f := 7) (args := #[.agg #[.slice s.pc s.cs.length s.cc, .slice s.po s.os.length s.co, .int .i64 s.li.a, .int .i64 s.li.b, .int .i64 s.li.c, .int .i64 s.li.d, .slice s.pr s.rs.length s.cr, .slice s.pf s.fs.length s.cf, .slice s.pt s.ts.length s.ct, .int .i64 s.lm.a, .int .i64 s.lm.b, .int .i64 s.lm.c, .int .i64 s.lm.d]]) (NewF (fun T v => ∃ t : Sp, v = .agg #[.slice t.pc t.cs.length t.cc, .slice t.po t.os.length t.co, .int .i64 t.li.a, .int .i64 t.li.b, .int .i64 t.li.c, .int .i64 t.li.d, .slice t.pr t.rs.length t.cr, .slice t.pf t.fs.length t.cf, .slice t.pt t.ts.length t.ct, .int .i64 t.lm.a, .int .i64 t.lm.b, .int .i64 t.lm.c, .int .i64 t.lm.d] ∧ LentSp s t T) w [(g1, .cells #[.slice s.pc s.cs.length s.cc, .slice s.po s.os.length s.co, .int .i64 s.li.a, .int .i64 s.li.b, .int .i64 s.li.c, .int .i64 s.li.d, .slice s.pr s.rs.length s.cr, .slice s.pf s.fs.length s.cf, .slice s.pt s.ts.length s.ct, .int .i64 s.lm.a, .int .i64 s.lm.b, .int .i64 s.lm.c, .int .i64 s.lm.d] 32 (0, 0))]) rfl (by kernel_rfl) (fun _ => (by kernel_rfl)) (fun W hW => calls_new hW ((LentShip_any s W (hI.keep hW.1)).mono fun _ _ ⟨t, T, h1, h2, h3, h4⟩ => ⟨_, T, h1, ⟨t, rfl, h2⟩, h3, h4⟩)) (fun _ => by simp only [List.setIfInBounds_toArray, List.set_cons_succ, List.set_cons_zero] <;> rfl) ?_
    rintro _ _ ⟨TS, ⟨t, rfl, hL⟩, hTn, hTd, rfl⟩
    obtain dj2_0 : Dk g1 TS := by simpa only [dj_app_l, dj_app_r, dj_cons_l, dj_cons_r, dj_nil_l, dj_nil_r, dk_app, dk_cons, dk_nil, and_true, true_and, and_assoc] using (show Dj [(g1, .cells #[.slice s.pc s.cs.length s.cc, .slice s.po s.os.length s.co, .int .i64 s.li.a, .int .i64 s.li.b, .int .i64 s.li.c, .int .i64 s.li.d, .slice s.pr s.rs.length s.cr, .slice s.pf s.fs.length s.cf, .slice s.pt s.ts.length s.ct, .int .i64 s.lm.a, .int .i64 s.lm.b, .int .i64 s.lm.c, .int .i64 s.lm.d] 32 (0, 0))] TS from hTd)
    have ht1 : t.cs.length ≤ 4000000000 := by have := hL.cs.1; omega
    have ht2 : t.os.length ≤ 4000000000 := by have := hL.os.1; omega
    have hHC : ∀ W : World, (∀ b ∈ TS, W.heap[b.1]? = some b.2) → SLV W t.pc (t.cs.flatMap colC) := fun W hh => slv_preg (hL.cs.2.2.1 W hh)
    have hHO : ∀ W : World, (∀ b ∈ TS, W.heap[b.1]? = some b.2) → SLV W t.po (t.os.flatMap covC) := fun W hh => slv_preg (hL.os.2.2.1 W hh)
    obtain ⟨e1, e2, e3, e4, e5, e6, e7, e8, e9⟩ := lent_says hL
    refine wpL_new (fun g => .pointer (some ⟨g, 0, none⟩)) (obi := .cells (shC (.slice none 0 0) (.slice none 0 0) tl0).toArray 32 (0, 0)) rfl rfl (fun _ => by kernel_rfl) (fun _ => by simp only [List.setIfInBounds_toArray, List.set_cons_succ, List.set_cons_zero] <;> rfl) fun g3 Bg3 Fg3 => ?_
    obtain ⟨dj4_0, dj4_1⟩ : g1 ≠ g3 ∧ Dk g3 TS := by simpa only [dj_app_l, dj_app_r, dj_cons_l, dj_cons_r, dj_nil_l, dj_nil_r, dk_app, dk_cons, dk_nil, and_true, true_and, and_assoc] using (show Dk g3 ((g1, .cells #[.slice s.pc s.cs.length s.cc, .slice s.po s.os.length s.co, .int .i64 s.li.a, .int .i64 s.li.b, .int .i64 s.li.c, .int .i64 s.li.d, .slice s.pr s.rs.length s.cr, .slice s.pf s.fs.length s.cf, .slice s.pt s.ts.length s.ct, .int .i64 s.lm.a, .int .i64 s.lm.b, .int .i64 s.lm.c, .int .i64 s.lm.d] 32 (0, 0)) :: TS) from Fg3)
    refine wpL_s ((g3, .cells #[.slice t.pc t.cs.length t.cc, .slice t.po t.os.length t.co, .int .i64 t.li.a, .int .i64 t.li.b, .int .i64 t.li.c, .int .i64 t.li.d, .slice t.pr t.rs.length t.cr, .slice t.pf t.fs.length t.cf, .slice t.pt t.ts.length t.ct, .int .i64 t.lm.a, .int .i64 t.lm.b, .int .i64 t.lm.c, .int .i64 t.lm.d] 32 (0, 0)) :: (g1, .cells #[.slice s.pc s.cs.length s.cc, .slice s.po s.os.length s.co, .int .i64 s.li.a, .int .i64 s.li.b, .int .i64 s.li.c, .int .i64 s.li.d, .slice s.pr s.rs.length s.cr, .slice s.pf s.fs.length s.cf, .slice s.pt s.ts.length s.ct, .int .i64 s.lm.a, .int .i64 s.lm.b, .int .i64 s.lm.c, .int .i64 s.lm.d] 32 (0, 0)) :: TS) rfl rfl (st_row (off := 0) (v := .agg #[.slice t.pc t.cs.length t.cc, .slice t.po t.os.length t.co, .int .i64 t.li.a, .int .i64 t.li.b, .int .i64 t.li.c, .int .i64 t.li.d, .slice t.pr t.rs.length t.cr, .slice t.pf t.fs.length t.cf, .slice t.pt t.ts.length t.ct, .int .i64 t.lm.a, .int .i64 t.lm.b, .int .i64 t.lm.c, .int .i64 t.lm.d]) rfl (by kernel_rfl) (by kernel_rfl) (.head _) Bg3 (by kernel_rfl) (by first | (simp [Value.cells]; done) | exact Nat.le_of_ble_eq_true rfl) (by intro v hv; simp [Value.cells] at hv; first | (subst hv; rfl) | (rcases hv with rfl | rfl | rfl | rfl | rfl | rfl | rfl | rfl | rfl | rfl | rfl | rfl | rfl <;> rfl)) (by kernel_rfl) (List.forall_mem_cons.2 ⟨.inl rfl, (List.forall_mem_cons.2 ⟨.inr ⟨(.tail _ (.head _)), (by first | assumption | exact Ne.symm (by assumption))⟩, (fun p hp => .inr ⟨(.tail _ (.tail _ hp)), ((show Dk g3 TS from (by (try simp only [dj_app_l, dj_app_r, dj_cons_l, dj_cons_r, dj_nil_l, dj_nil_r, dk_app, dk_cons, dk_nil, and_true, true_and, and_assoc]); repeat' (first | trivial | assumption | exact Dj.symm (by assumption) | exact Ne.symm (by assumption) | apply And.intro))) _ hp)⟩)⟩)⟩)) ?_
    refine wpL_done (fun W4 hW4 => ?_)
    refine (show Code.wp _ _ _ _ _ from ?_)
    refine wp_seq ?_
    refine wp_region_L (W0 := w) ((g3, .cells #[.slice t.pc t.cs.length t.cc, .slice t.po t.os.length t.co, .int .i64 t.li.a, .int .i64 t.li.b, .int .i64 t.li.c, .int .i64 t.li.d, .slice t.pr t.rs.length t.cr, .slice t.pf t.fs.length t.cf, .slice t.pt t.ts.length t.ct, .int .i64 t.lm.a, .int .i64 t.lm.b, .int .i64 t.lm.c, .int .i64 t.lm.d] 32 (0, 0)) :: (g1, .cells #[.slice s.pc s.cs.length s.cc, .slice s.po s.os.length s.co, .int .i64 s.li.a, .int .i64 s.li.b, .int .i64 s.li.c, .int .i64 s.li.d, .slice s.pr s.rs.length s.cr, .slice s.pf s.fs.length s.cf, .slice s.pt s.ts.length s.ct, .int .i64 s.lm.a, .int .i64 s.lm.b, .int .i64 s.lm.c, .int .i64 s.lm.d] 32 (0, 0)) :: TS) (hW4) ?_
    refine lv (v := .agg #[.slice t.pc t.cs.length t.cc, .slice t.po t.os.length t.co, .int .i64 t.li.a, .int .i64 t.li.b, .int .i64 t.li.c, .int .i64 t.li.d, .slice t.pr t.rs.length t.cr, .slice t.pf t.fs.length t.cf, .slice t.pt t.ts.length t.ct, .int .i64 t.lm.a, .int .i64 t.lm.b, .int .i64 t.lm.c, .int .i64 t.lm.d]) rfl rfl (yb_load (n := 13) (off := 0) rfl (by kernel_rfl) (.head _) Try.underlying32 rfl (by kernel_rfl) (by first | (simp [Value.cells]; done) | exact Nat.le_of_ble_eq_true rfl) (by kernel_rfl)) ?_
    refine lm (v := .int .i64 a) rfl rfl ?_
    refine lm (v := .int .i64 b) rfl rfl ?_
    refine lv (v := .tuple #[.int .i64 (apN s.cs a b), .bool (apB s.cs a b)]) rfl rfl (yb_call (f := 23) (args := #[.agg #[.slice t.pc t.cs.length t.cc, .slice t.po t.os.length t.co, .int .i64 t.li.a, .int .i64 t.li.b, .int .i64 t.li.c, .int .i64 t.li.d, .slice t.pr t.rs.length t.cr, .slice t.pf t.fs.length t.cf, .slice t.pt t.ts.length t.ct, .int .i64 t.lm.a, .int .i64 t.lm.b, .int .i64 t.lm.c, .int .i64 t.lm.d], .int .i64 a, .int .i64 b]) (fun _ => by kernel_rfl) fun W hW => (by have h9 := Apart_any t.cs t.pc t.cc ht1 t.os t.po t.co ht2 (spT t) a b W (hHC _ (fun b hb => hW.2 b (by simp only [List.mem_cons, List.mem_append, List.nil_append, List.not_mem_nil, or_assoc, or_false, false_or, hb, true_or, or_true]))) (hHO _ (fun b hb => hW.2 b (by simp only [List.mem_cons, List.mem_append, List.nil_append, List.not_mem_nil, or_assoc, or_false, false_or, hb, true_or, or_true]))); rw [e9, e8] at h9; exact h9)) ?_
    refine lm (v := .tuple #[.int .i64 (apN s.cs a b), .bool (apB s.cs a b)]) rfl rfl ?_
    refine lm (v := .int .i64 (apN s.cs a b)) rfl rfl ?_
    refine lm (v := .bool (apB s.cs a b)) rfl rfl ?_
    refine lm (v := .int .i64 (apN s.cs a b)) rfl rfl ?_
    refine lm (v := .bool (apB s.cs a b)) rfl rfl ?_
    refine wpL_done (fun W5 hW5 => ?_)
    refine (show Code.wp _ _ _ _ _ from ?_)
    refine wp_seq ?_
    refine wp_region_L (W0 := w) ((g3, .cells #[.slice t.pc t.cs.length t.cc, .slice t.po t.os.length t.co, .int .i64 t.li.a, .int .i64 t.li.b, .int .i64 t.li.c, .int .i64 t.li.d, .slice t.pr t.rs.length t.cr, .slice t.pf t.fs.length t.cf, .slice t.pt t.ts.length t.ct, .int .i64 t.lm.a, .int .i64 t.lm.b, .int .i64 t.lm.c, .int .i64 t.lm.d] 32 (0, 0)) :: (g1, .cells #[.slice s.pc s.cs.length s.cc, .slice s.po s.os.length s.co, .int .i64 s.li.a, .int .i64 s.li.b, .int .i64 s.li.c, .int .i64 s.li.d, .slice s.pr s.rs.length s.cr, .slice s.pf s.fs.length s.cf, .slice s.pt s.ts.length s.ct, .int .i64 s.lm.a, .int .i64 s.lm.b, .int .i64 s.lm.c, .int .i64 s.lm.d] 32 (0, 0)) :: TS) (hW5) ?_
    refine lv (v := .agg #[.slice s.pc s.cs.length s.cc, .slice s.po s.os.length s.co, .int .i64 s.li.a, .int .i64 s.li.b, .int .i64 s.li.c, .int .i64 s.li.d, .slice s.pr s.rs.length s.cr, .slice s.pf s.fs.length s.cf, .slice s.pt s.ts.length s.ct, .int .i64 s.lm.a, .int .i64 s.lm.b, .int .i64 s.lm.c, .int .i64 s.lm.d]) rfl rfl (yb_load (n := 13) (off := 0) rfl (by kernel_rfl) (.tail _ (.head _)) Try.underlying32 rfl (by kernel_rfl) (by first | (simp [Value.cells]; done) | exact Nat.le_of_ble_eq_true rfl) (by kernel_rfl)) ?_
    refine lm (v := .int .i64 a) rfl rfl ?_
    refine lm (v := .int .i64 b) rfl rfl ?_
    refine lv (v := .tuple #[.int .i64 (apN s.cs a b), .bool (apB s.cs a b)]) rfl rfl (yb_call (f := 24) (args := #[.agg #[.slice s.pc s.cs.length s.cc, .slice s.po s.os.length s.co, .int .i64 s.li.a, .int .i64 s.li.b, .int .i64 s.li.c, .int .i64 s.li.d, .slice s.pr s.rs.length s.cr, .slice s.pf s.fs.length s.cf, .slice s.pt s.ts.length s.ct, .int .i64 s.lm.a, .int .i64 s.lm.b, .int .i64 s.lm.c, .int .i64 s.lm.d], .int .i64 a, .int .i64 b]) (fun _ => by kernel_rfl) fun W hW => RApart_any s.cs s.pc s.cc hs1 s.os s.po s.co hs2 (spT s) a b W ((hc).keep hW.1) ((ho).keep hW.1)) ?_
    refine lm (v := .tuple #[.int .i64 (apN s.cs a b), .bool (apB s.cs a b)]) rfl rfl ?_
    refine lm (v := .int .i64 (apN s.cs a b)) rfl rfl ?_
    refine lm (v := .bool (apB s.cs a b)) rfl rfl ?_
    refine lm (v := .int .i64 (apN s.cs a b)) rfl rfl ?_
    refine lm (v := .bool (apB s.cs a b)) rfl rfl ?_
    refine wpL_done (fun W6 hW6 => ?_)
    refine (show Code.wp _ _ _ _ _ from ?_)
    refine wp_seq ?_
    refine wp_region_V (W0 := w) ((g3, .cells #[.slice t.pc t.cs.length t.cc, .slice t.po t.os.length t.co, .int .i64 t.li.a, .int .i64 t.li.b, .int .i64 t.li.c, .int .i64 t.li.d, .slice t.pr t.rs.length t.cr, .slice t.pf t.fs.length t.cf, .slice t.pt t.ts.length t.ct, .int .i64 t.lm.a, .int .i64 t.lm.b, .int .i64 t.lm.c, .int .i64 t.lm.d] 32 (0, 0)) :: (g1, .cells #[.slice s.pc s.cs.length s.cc, .slice s.po s.os.length s.co, .int .i64 s.li.a, .int .i64 s.li.b, .int .i64 s.li.c, .int .i64 s.li.d, .slice s.pr s.rs.length s.cr, .slice s.pf s.fs.length s.cf, .slice s.pt s.ts.length s.ct, .int .i64 s.lm.a, .int .i64 s.lm.b, .int .i64 s.lm.c, .int .i64 s.lm.d] 32 (0, 0)) :: TS) (by kernel_rfl) (hW6) ?_
    refine vm (i := 0) (v := .int .i64 (apN s.cs a b)) rfl rfl rfl ?_
    refine vm (i := 1) (v := .int .i64 (apN s.cs a b)) rfl rfl rfl ?_
    refine vp (i := 2) (v := .bool true) rfl rfl rfl (run_bin rfl (vx := (.int .i64 (apN s.cs a b))) (vy := (.int .i64 (apN s.cs a b))) (by kernel_rfl) (by kernel_rfl) fun w => bi_eql (decide_eq_true rfl) w) ?_
    refine vm (i := 3) (v := .bool true) rfl rfl rfl ?_
    refine vm (i := 4) (v := .bool (apB s.cs a b)) rfl rfl rfl ?_
    refine vm (i := 5) (v := .bool (apB s.cs a b)) rfl rfl rfl ?_
    refine vp (i := 6) (v := .bool ((apB s.cs a b) == (apB s.cs a b))) rfl rfl rfl (run_bin rfl (vx := .bool (apB s.cs a b)) (vy := .bool (apB s.cs a b)) (by kernel_rfl) (by kernel_rfl) fun w => bn_bool_eql rfl Try.underlying4 w) ?_
    refine vm (i := 7) (v := .bool ((apB s.cs a b) == (apB s.cs a b))) rfl rfl rfl ?_
    refine vm (i := 8) (v := .bool ((apB s.cs a b) == (apB s.cs a b))) rfl rfl rfl ?_
    cases h2 : ((apB s.cs a b) == (apB s.cs a b)) with
    | false =>
      exact absurd (show ((apB s.cs a b) == (apB s.cs a b)) = true from beq_self_eq_true _) (by rw [h2]; exact Bool.false_ne_true)
    | true =>
      refine vv (i := 9) (v := .agg #[.slice t.pc t.cs.length t.cc, .slice t.po t.os.length t.co, .int .i64 t.li.a, .int .i64 t.li.b, .int .i64 t.li.c, .int .i64 t.li.d, .slice t.pr t.rs.length t.cr, .slice t.pf t.fs.length t.cf, .slice t.pt t.ts.length t.ct, .int .i64 t.lm.a, .int .i64 t.lm.b, .int .i64 t.lm.c, .int .i64 t.lm.d]) rfl rfl rfl (yb_load (n := 13) (off := 0) rfl (by kernel_rfl) (.head _) Try.underlying32 rfl (by kernel_rfl) (by first | (simp [Value.cells]; done) | exact Nat.le_of_ble_eq_true rfl) (by kernel_rfl)) ?_
      refine vm (i := 10) (v := .int .i64 a) rfl rfl rfl ?_
      refine vv (i := 12) (v := .agg #[.slice s.pc s.cs.length s.cc, .slice s.po s.os.length s.co, .int .i64 s.li.a, .int .i64 s.li.b, .int .i64 s.li.c, .int .i64 s.li.d, .slice s.pr s.rs.length s.cr, .slice s.pf s.fs.length s.cf, .slice s.pt s.ts.length s.ct, .int .i64 s.lm.a, .int .i64 s.lm.b, .int .i64 s.lm.c, .int .i64 s.lm.d]) rfl rfl rfl (yb_load (n := 13) (off := 0) rfl (by kernel_rfl) (.tail _ (.head _)) Try.underlying32 rfl (by kernel_rfl) (by first | (simp [Value.cells]; done) | exact Nat.le_of_ble_eq_true rfl) (by kernel_rfl)) ?_
      refine vm (i := 13) (v := .int .i64 a) rfl rfl rfl ?_
      refine wpV_c (i := 11) (OutRL inC w ((g3, .cells #[.slice t.pc t.cs.length t.cc, .slice t.po t.os.length t.co, .int .i64 t.li.a, .int .i64 t.li.b, .int .i64 t.li.c, .int .i64 t.li.d, .slice t.pr t.rs.length t.cr, .slice t.pf t.fs.length t.cf, .slice t.pt t.ts.length t.ct, .int .i64 t.lm.a, .int .i64 t.lm.b, .int .i64 t.lm.c, .int .i64 t.lm.d] 32 (0, 0)) :: (g1, .cells #[.slice s.pc s.cs.length s.cc, .slice s.po s.os.length s.co, .int .i64 s.li.a, .int .i64 s.li.b, .int .i64 s.li.c, .int .i64 s.li.d, .slice s.pr s.rs.length s.cr, .slice s.pf s.fs.length s.cf, .slice s.pt s.ts.length s.ct, .int .i64 s.lm.a, .int .i64 s.lm.b, .int .i64 s.lm.c, .int .i64 s.lm.d] 32 (0, 0)) :: TS) (besideX s.cs a)) rfl rfl (by kernel_rfl) (by kernel_rfl) (fun _ => (by kernel_rfl)) (fun W hW => calls_r hW ((by have h9 := Beside_any t.cs t.pc t.cc ht1 t.os t.po t.co ht2 (spT t) a W (hHC _ (fun b hb => hW.2 b (by simp only [List.mem_cons, List.mem_append, List.nil_append, List.not_mem_nil, or_assoc, or_false, false_or, hb, true_or, or_true]))) (hHO _ (fun b hb => hW.2 b (by simp only [List.mem_cons, List.mem_append, List.nil_append, List.not_mem_nil, or_assoc, or_false, false_or, hb, true_or, or_true]))); rw [e7] at h9; exact h9))) (fun v K9 hG => hG.sub) (fun _ => by simp only [List.setIfInBounds_toArray, List.set_cons_succ, List.set_cons_zero] <;> rfl) ?_
      rintro _ _ ⟨p5, c5, Kl5, rfl, n5, R5, N5, rfl⟩
      obtain ⟨dj6_0, dj6_1, dj6_2⟩ : Dk g3 Kl5 ∧ Dk g1 Kl5 ∧ Dj TS Kl5 := by simpa only [dj_app_l, dj_app_r, dj_cons_l, dj_cons_r, dj_nil_l, dj_nil_r, dk_app, dk_cons, dk_nil, and_true, true_and, and_assoc] using (show Dj ((g3, .cells #[.slice t.pc t.cs.length t.cc, .slice t.po t.os.length t.co, .int .i64 t.li.a, .int .i64 t.li.b, .int .i64 t.li.c, .int .i64 t.li.d, .slice t.pr t.rs.length t.cr, .slice t.pf t.fs.length t.cf, .slice t.pt t.ts.length t.ct, .int .i64 t.lm.a, .int .i64 t.lm.b, .int .i64 t.lm.c, .int .i64 t.lm.d] 32 (0, 0)) :: (g1, .cells #[.slice s.pc s.cs.length s.cc, .slice s.po s.os.length s.co, .int .i64 s.li.a, .int .i64 s.li.b, .int .i64 s.li.c, .int .i64 s.li.d, .slice s.pr s.rs.length s.cr, .slice s.pf s.fs.length s.cf, .slice s.pt s.ts.length s.ct, .int .i64 s.lm.a, .int .i64 s.lm.b, .int .i64 s.lm.c, .int .i64 s.lm.d] 32 (0, 0)) :: TS) Kl5 from N5)
      have hbl5 : (besideX s.cs a).length ≤ 4000000000 := by have := beside_len s.cs a; omega
      refine wpV_c (i := 14) (OutRL inC w ((g3, .cells #[.slice t.pc t.cs.length t.cc, .slice t.po t.os.length t.co, .int .i64 t.li.a, .int .i64 t.li.b, .int .i64 t.li.c, .int .i64 t.li.d, .slice t.pr t.rs.length t.cr, .slice t.pf t.fs.length t.cf, .slice t.pt t.ts.length t.ct, .int .i64 t.lm.a, .int .i64 t.lm.b, .int .i64 t.lm.c, .int .i64 t.lm.d] 32 (0, 0)) :: (g1, .cells #[.slice s.pc s.cs.length s.cc, .slice s.po s.os.length s.co, .int .i64 s.li.a, .int .i64 s.li.b, .int .i64 s.li.c, .int .i64 s.li.d, .slice s.pr s.rs.length s.cr, .slice s.pf s.fs.length s.cf, .slice s.pt s.ts.length s.ct, .int .i64 s.lm.a, .int .i64 s.lm.b, .int .i64 s.lm.c, .int .i64 s.lm.d] 32 (0, 0)) :: (TS ++ Kl5)) (besideX s.cs a)) rfl rfl (by kernel_rfl) (by kernel_rfl) (fun _ => (by kernel_rfl)) (fun W hW => calls_r hW (RBeside_any s.cs s.pc s.cc hs1 s.os s.po s.co hs2 (spT s) a W ((hc).keep hW.1) ((ho).keep hW.1) hrow)) (fun v K9 hG => hG.sub) (fun _ => by simp only [List.setIfInBounds_toArray, List.set_cons_succ, List.set_cons_zero] <;> rfl) ?_
      rintro _ _ ⟨p7, c7, Kl7, rfl, n7, R7, N7, rfl⟩
      obtain ⟨dj8_0, dj8_1, dj8_2, dj8_3⟩ : Dk g3 Kl7 ∧ Dk g1 Kl7 ∧ Dj TS Kl7 ∧ Dj Kl5 Kl7 := by simpa only [dj_app_l, dj_app_r, dj_cons_l, dj_cons_r, dj_nil_l, dj_nil_r, dk_app, dk_cons, dk_nil, and_true, true_and, and_assoc] using (show Dj ((g3, .cells #[.slice t.pc t.cs.length t.cc, .slice t.po t.os.length t.co, .int .i64 t.li.a, .int .i64 t.li.b, .int .i64 t.li.c, .int .i64 t.li.d, .slice t.pr t.rs.length t.cr, .slice t.pf t.fs.length t.cf, .slice t.pt t.ts.length t.ct, .int .i64 t.lm.a, .int .i64 t.lm.b, .int .i64 t.lm.c, .int .i64 t.lm.d] 32 (0, 0)) :: (g1, .cells #[.slice s.pc s.cs.length s.cc, .slice s.po s.os.length s.co, .int .i64 s.li.a, .int .i64 s.li.b, .int .i64 s.li.c, .int .i64 s.li.d, .slice s.pr s.rs.length s.cr, .slice s.pf s.fs.length s.cf, .slice s.pt s.ts.length s.ct, .int .i64 s.lm.a, .int .i64 s.lm.b, .int .i64 s.lm.c, .int .i64 s.lm.d] 32 (0, 0)) :: (TS ++ Kl5)) Kl7 from N7)
      have hbl7 : (besideX s.cs a).length ≤ 4000000000 := by have := beside_len s.cs a; omega
      refine vv (i := 15) (v := .bool true) rfl rfl rfl (yb_call (f := 16) (args := #[.slice p5 ((besideX s.cs a).length) c5, .slice p7 ((besideX s.cs a).length) c7]) (fun _ => by kernel_rfl) fun W hW => SameInts_yes (besideX s.cs a) p5 p7 c5 c7 (by omega) W (R5 _ (hW.sub (fun p hp => by simp only [List.mem_cons, List.mem_append, List.nil_append, List.not_mem_nil, or_assoc, or_false, false_or, hp, true_or, or_true]))) (R7 _ (hW.sub (fun p hp => by simp only [List.mem_cons, List.mem_append, List.nil_append, List.not_mem_nil, or_assoc, or_false, false_or, hp, true_or, or_true])))) ?_
      refine vm (i := 16) (v := .bool true) rfl rfl rfl ?_
      refine vm (i := 17) (v := .bool true) rfl rfl rfl ?_
      refine vv (i := 18) (v := .agg #[.slice t.pc t.cs.length t.cc, .slice t.po t.os.length t.co, .int .i64 t.li.a, .int .i64 t.li.b, .int .i64 t.li.c, .int .i64 t.li.d, .slice t.pr t.rs.length t.cr, .slice t.pf t.fs.length t.cf, .slice t.pt t.ts.length t.ct, .int .i64 t.lm.a, .int .i64 t.lm.b, .int .i64 t.lm.c, .int .i64 t.lm.d]) rfl rfl rfl (yb_load (n := 13) (off := 0) rfl (by kernel_rfl) (.head _) Try.underlying32 rfl (by kernel_rfl) (by first | (simp [Value.cells]; done) | exact Nat.le_of_ble_eq_true rfl) (by kernel_rfl)) ?_
      refine vv (i := 19) (v := .agg #[.slice s.pc s.cs.length s.cc, .slice s.po s.os.length s.co, .int .i64 s.li.a, .int .i64 s.li.b, .int .i64 s.li.c, .int .i64 s.li.d, .slice s.pr s.rs.length s.cr, .slice s.pf s.fs.length s.cf, .slice s.pt s.ts.length s.ct, .int .i64 s.lm.a, .int .i64 s.lm.b, .int .i64 s.lm.c, .int .i64 s.lm.d]) rfl rfl rfl (yb_load (n := 13) (off := 0) rfl (by kernel_rfl) (.tail _ (.head _)) Try.underlying32 rfl (by kernel_rfl) (by first | (simp [Value.cells]; done) | exact Nat.le_of_ble_eq_true rfl) (by kernel_rfl)) ?_
      refine vv (i := 20) (v := .bool true) rfl rfl rfl (yb_call (f := 22) (args := #[.agg #[.slice t.pc t.cs.length t.cc, .slice t.po t.os.length t.co, .int .i64 t.li.a, .int .i64 t.li.b, .int .i64 t.li.c, .int .i64 t.li.d, .slice t.pr t.rs.length t.cr, .slice t.pf t.fs.length t.cf, .slice t.pt t.ts.length t.ct, .int .i64 t.lm.a, .int .i64 t.lm.b, .int .i64 t.lm.c, .int .i64 t.lm.d], .agg #[.slice s.pc s.cs.length s.cc, .slice s.po s.os.length s.co, .int .i64 s.li.a, .int .i64 s.li.b, .int .i64 s.li.c, .int .i64 s.li.d, .slice s.pr s.rs.length s.cr, .slice s.pf s.fs.length s.cf, .slice s.pt s.ts.length s.ct, .int .i64 s.lm.a, .int .i64 s.lm.b, .int .i64 s.lm.c, .int .i64 s.lm.d]]) (fun _ => by kernel_rfl) fun W hW => KeptShip_any s t TS W (hI.keep hW.1) hL (fun b hb => hW.2 b (by simp only [List.mem_cons, List.mem_append, List.nil_append, List.not_mem_nil, or_assoc, or_false, false_or, hb, true_or, or_true]))) ?_
      refine vm (i := 21) (v := .bool true) rfl rfl rfl ?_
      refine vm (i := 22) (v := .bool true) rfl rfl rfl ?_
      refine vv (i := 23) (v := .bool true) rfl rfl rfl (yb_call (f := 6) (args := #[]) (fun _ => by kernel_rfl) fun W hW => awake_any W) ?_
      refine vm (i := 24) (v := .bool true) rfl rfl rfl ?_
      refine vm (i := 25) (v := .bool true) rfl rfl rfl ?_
      refine wpV_done (by kernel_rfl) (fun W7 hW7 => ?_) _
      refine (show Code.wp _ _ _ _ _ from ?_)
      refine wp_ret ?_
      try simp only [inBlock_ret, then_ret]
      refine bodyPost_ret (v := .bool true) ?_ rfl ?_
      · kernel_rfl
      · exact ⟨rfl, hW7.1⟩
end Go.Proofs.Ythpooalhibedpaa
/- What came in, of what has its size. Over any program. -/
namespace Tw
open Go Go.RowKit Go.Proofs.Ythpooalhibedpaa Go.ChangeShapes Go.WideShapes
section
variable {P : Program} {α : Type}
def OpensS (P : Program) (t : TypeId) (cells : α → List Value) (ok : World → α → Prop) : Prop := ∀ (H : Type) (enc : TypeId × Value → H) (w : World) (base : Nat) (sp : Nat → Bool) (held : Bool) (fuel : Nat) (cs : List Value) (x : DataW H × List MemPlace),
  DataW.trod enc P w base sp held fuel t cs = some x → (∀ n ∈ x.1.weights P t, n ≤ reachBytes) → ∃ y : α, cs = cells y ∧ ok w y
def ListS (cells : α → List Value) (ok : World → α → Prop) (b : Nat) (w : World) (p : Option Addr) (c : Nat) (l : List α) : Prop := ListOk cells ok w p c l ∧ l.length * b ≤ reachBytes
theorem OpensS.of {t : TypeId} {cells : α → List Value} {ok : World → α → Prop} (h : OpensW P t cells ok) : OpensS P t cells ok := fun H enc w base sp held fuel cs x ht _ => h H enc w base sp held fuel cs x ht
theorem weights_all {H : Type} {e : TypeId} : ∀ {l : List (DataW H)} {d : DataW H}, d ∈ l → ∀ n ∈ d.weights P e, n ∈ DataW.weightsAll P e l
  | d0 :: l, d, hd, n, hn => by
    unfold DataW.weightsAll
    rcases List.mem_cons.1 hd with rfl | hd
    · exact List.mem_append_left _ hn
    · exact List.mem_append_right _ (weights_all hd n hn)
theorem opens_listS {H : Type} {enc : TypeId × Value → H} {w : World} {base : Nat} {a : Addr} {e : TypeId} {sz n : Nat} {cells : α → List Value} {ok : World → α → Prop} {sp : Nat → Bool} {held : Bool} {elems : List (DataW H × List MemPlace)} (hE : OpensS P e cells ok) (hsz : P.cellsOf e = sz) (hw : ∀ d ∈ elems, ∀ m ∈ d.1.weights P e, m ≤ reachBytes) :
    ∀ m, m ≤ elems.length → (∀ i, i < m → (w.cells? base (a.add (i * P.cellsOf e)) (P.cellsOf e)).bind (DataW.trod enc P w base sp held n e) = elems[i]?) → ∃ l : List α, l.length = m ∧ (∀ y ∈ l, ok w y) ∧ ∀ i y, l[i]? = some y → w.cells? base (a.add (i * sz)) sz = some (cells y)
  | 0, _, _ => ⟨[], rfl, (fun _ h => by cases h), fun i y h => by simp at h⟩
  | m + 1, hm, hel => by
    obtain ⟨l, h1, h2, h3⟩ := opens_listS hE hsz hw m (by omega) (fun i hi => hel i (by omega))
    have h0 := hel m (by omega)
    rw [List.getElem?_eq_getElem (by omega)] at h0
    obtain ⟨cs, hcs, ht⟩ := Option.bind_eq_some_iff.1 h0
    obtain ⟨y, rfl, hy⟩ := hE _ _ _ _ _ _ _ _ _ ht (hw _ (List.getElem_mem _))
    rw [hsz] at hcs
    refine ⟨l ++ [y], by simp [h1], fun z hz => ?_, fun i z hz => ?_⟩
    · rcases List.mem_append.1 hz with hz | hz
      · exact h2 z hz
      · cases List.mem_singleton.1 hz; exact hy
    · rcases Nat.lt_or_ge i m with hi | hi
      · rw [List.getElem?_append_left (by omega)] at hz
        exact h3 i z hz
      · obtain ⟨hlt, _⟩ := List.getElem?_eq_some_iff.1 hz
        have hi2 : i = m := by rw [List.length_append, h1, List.length_singleton] at hlt; omega
        subst hi2
        rw [List.getElem?_append_right (by omega), h1, Nat.sub_self] at hz
        cases hz
        exact hcs
theorem trod_recsS {H : Type} {enc : TypeId × Value → H} {w : World} {base : Nat} {sp : Nat → Bool} {held : Bool} {fuel : Nat} {cs : List Value} {x : DataW H × List MemPlace} {t e : TypeId} {sz by_ : Nat} {cells : α → List Value} {ok : World → α → Prop} (ht : P.underlying t = some (.slice e)) (hE : OpensS P e cells ok) (hsz : P.cellsOf e = sz) (hz : 0 < sz) (hc : ∀ y, (cells y).length = sz) (hb_ : P.bytesOf e = by_)
    (h : DataW.trod enc P w base sp held fuel t cs = some x) (hwt : ∀ n ∈ x.1.weights P t, n ≤ reachBytes) : ∃ (p : Option Addr) (cap : Nat) (l : List α), cs = [.slice p l.length cap] ∧ ListS cells ok by_ w p cap l := by
  rcases DataW.trod_slice ht h with ⟨rfl, _⟩ | ⟨a, len, cap, elems, rest, n, _, rfl, hx, hb, hl, hm, hlen, hel, _, _⟩
  · exact ⟨none, 0, [], rfl, ⟨.inl rfl, (fun _ h => by cases h), by simp, by simp⟩, by simp⟩
  · subst hx
    simp only [DataW.weights, ht, List.length_map, List.mem_cons, List.mem_append] at hwt
    have hw1 : ∀ d ∈ elems, ∀ m ∈ d.1.weights P e, m ≤ reachBytes := fun d hd m hm => hwt m (.inr (.inl (weights_all (List.mem_map_of_mem hd) m hm)))
    have hw2 := hwt _ (.inl rfl)
    obtain ⟨l, h1, h2, h3⟩ := opens_listS hE hsz hw1 len (by omega) hel
    refine ⟨some a, cap, l, by rw [h1], ⟨?_, h2, by omega, by omega⟩, ?_⟩
    · rcases Nat.eq_zero_or_pos len with h0 | h0
      · left; rw [List.length_eq_zero_iff.1 (h1.trans h0)]; rfl
      · obtain ⟨b, off, spot⟩ := a
        have hcell : ∀ i y, l[i]? = some y → ∀ j u, (cells y)[j]? = some u → w.cell? ((⟨b, off, spot⟩ : Addr).add (i * sz) |>.add j) = some u := by
          intro i y hy j u hu
          obtain ⟨_, h4, h5⟩ := World.cells?_some (h3 i y hy)
          obtain ⟨hj, _⟩ := List.getElem?_eq_some_iff.1 hu
          rw [hc] at hj
          rw [h5 j hj]; exact hu
        have h00 : l[0]? = some (l[0]'(by omega)) := List.getElem?_eq_getElem _
        have hspot : spot = none := by
          have hu : (cells (l[0]'(by omega)))[0]? = some ((cells (l[0]'(by omega)))[0]'(by rw [hc]; exact hz)) := List.getElem?_eq_getElem _
          have := World.cell?_spot (hcell 0 _ h00 0 _ hu)
          unfold Addr.add at this
          simp only at this
          split at this <;> simp_all
        subst hspot
        have hadd : ∀ (m j : Nat), ((⟨b, off, none⟩ : Addr).add m).add j = ⟨b, off + (m + j), none⟩ := fun m j => by rw [addr_add, addr_add, Nat.add_assoc]
        refine .inr ⟨b, off, rfl, ?_, fun i u hu => ?_⟩
        · have hu : (cells (l[0]'(by omega)))[0]? = some ((cells (l[0]'(by omega)))[0]'(by rw [hc]; exact hz)) := List.getElem?_eq_getElem _
          have := World.block_lt_of_cell? _ _ (hcell 0 _ h00 0 _ hu)
          rw [hadd] at this
          exact this
        · obtain ⟨y, hy1, hy2⟩ := flat_at hc hu
          have := hcell _ y hy1 _ u hy2
          rw [hadd, Nat.mul_comm, Nat.div_add_mod] at this
          exact this
    · rw [hb_, hlen] at hw2
      rw [h1]
      exact Nat.le_trans (Nat.mul_le_mul_right _ (Nat.le_add_right _ _)) hw2
theorem trod_fldS {H : Type} {enc : TypeId × Value → H} {w : World} {base : Nat} {sp : Nat → Bool} {held : Bool} {fuel : Nat} {t : TypeId} {cs : List Value} {x : DataW H × List MemPlace} {fs : Array Field} (ht : P.underlying t = some (.struct fs)) (h : DataW.trod enc P w base sp held fuel t cs = some x) (hwt : ∀ n ∈ x.1.weights P t, n ≤ reachBytes) :
    cs.length = P.cellsOf t ∧ ∀ (i : Nat) (f : Field), fs[i]? = some f → ∃ n y, DataW.trod enc P w base sp held n f.type ((cs.drop f.offset).take (P.cellsOf f.type)) = some y ∧ ∀ m ∈ y.1.weights P f.type, m ≤ reachBytes := by
  obtain ⟨xs, n, _, hxx, hl, hx, hg⟩ := DataW.trod_struct ht h
  subst hxx
  simp only [DataW.weights, ht] at hwt
  refine ⟨hl, fun i f hf => ?_⟩
  have h1 := hg i f hf
  have hi : i < xs.length := by rw [hx]; exact (Array.getElem?_eq_some_iff.1 hf).1
  rw [List.getElem?_eq_getElem hi] at h1
  refine ⟨n, _, h1, fun m hm => hwt m (DataW.weights_mem_each (j := i) (t := f.type) (d := (xs[i]).1) ?_ ?_ m hm)⟩
  · rw [List.getElem?_map, Array.getElem?_toList, hf]; rfl
  · rw [List.getElem?_map, List.getElem?_eq_getElem hi]; rfl
theorem open_recS {H : Type} {enc : TypeId × Value → H} {W : World} {t : TypeId} {fs : Array Field} {v : Value} {d : DataW H} {ps : List MemPlace} {base : Nat} {cells : α → List Value} {ok : World → α → Prop} (ht : P.underlying t = some (.struct fs)) (hE : OpensS P t cells ok)
    (hv : Value.okWide P W .any base t v) (h0 : DataW.Trod enc P W 0 (fun _ => true) true t v d ps) (hw : ∀ n ∈ d.weights P t, n ≤ reachBytes) : ∃ y : α, v = .agg (cells y).toArray ∧ ok W y := by
  obtain ⟨cs, rfl, _⟩ := okWide_struct ht hv
  obtain ⟨fuel, hf⟩ := h0
  obtain ⟨y, hy, hok⟩ := hE _ _ _ _ _ _ _ _ _ hf hw
  refine ⟨y, ?_, hok⟩
  rw [← hy]
  rfl
theorem open_recsS {H : Type} {enc : TypeId × Value → H} {W : World} {t e : TypeId} {sz by_ : Nat} {v : Value} {d : DataW H} {ps : List MemPlace} {base : Nat} {cells : α → List Value} {ok : World → α → Prop} (ht : P.underlying t = some (.slice e)) (hE : OpensS P e cells ok) (hsz : P.cellsOf e = sz) (hz : 0 < sz) (hc : ∀ y, (cells y).length = sz) (hb_ : P.bytesOf e = by_)
    (hv : Value.okWide P W .any base t v) (h0 : DataW.Trod enc P W 0 (fun _ => true) true t v d ps) (hw : ∀ n ∈ d.weights P t, n ≤ reachBytes) : ∃ (p : Option Addr) (cap : Nat) (l : List α), v = .slice p l.length cap ∧ ListS cells ok by_ W p cap l := by
  obtain ⟨a0, len0, cap0, rfl⟩ := okWide_slice ht hv
  obtain ⟨fuel, hf⟩ := h0
  have hcs : (Value.slice a0 len0 cap0).cells.toList = [.slice a0 len0 cap0] := by simp [Value.cells]
  rw [hcs] at hf
  obtain ⟨p, cap, l, h1, h2⟩ := trod_recsS ht hE hsz hz hc hb_ hf hw
  exact ⟨p, cap, l, by simpa using h1, h2⟩
theorem sized_par {H : Type} {ts : List TypeId} {ds : List (DataW H)} (h : (DataW.weightsEach P ts ds).all (· ≤ reachBytes) = true) {j : Nat} {t : TypeId} {d : DataW H} (ht : ts[j]? = some t) (hd : ds[j]? = some d) : ∀ n ∈ d.weights P t, n ≤ reachBytes := fun n hn => by
  simpa using List.all_eq_true.1 h _ (DataW.weights_mem_each ht hd n hn)
end
end Tw
/- What came in. -/
namespace Go.Proofs.Ythpooalhibedpaa
open Go.ChangeShapes Go.WideShapes Go.ChangeAt Go.RowKit Tw
open Go
theorem own : ownKnob Try.prog.godebug = none := by kernel_rfl
theorem laidOut : laidOutB Try.prog = true := by kernel_rfl
theorem of_wf {k : IntKind} {n : Int} (h : (Lit.int k n).wf = true) : k.min ≤ n ∧ n ≤ k.max := by simpa [Lit.wf] using h
end Go.Proofs.Ythpooalhibedpaa
