import Derived.Test.YtnbfljcilojllaaSS00
import Derived.Test.YtnbfljcilojllaaVJz01
import Derived.Test.YtnbfljcilojllaaVJz03
import Derived.Test.YtnbfljcilojllaaSS01
import Derived.Test.YtnbfljcilojllaaVJz00
import Derived.Test.YtnbfljcilojllaaVJz02
/- Part of the proof: V4, V6, V7, V8, VF. -/
set_option linter.unusedVariables false
set_option linter.unusedSimpArgs false
set_option linter.unusedSectionVars false
namespace Go.Proofs.Ytnbfljcilojllaa
open Go Go.RowKit Tw
set_option maxRecDepth 100000 in
set_option maxHeartbeats 4000000 in
theorem ladenOf_any (cs : List Col) (pc : Option Addr) (cc : Nat) (lc : cs.length ≤ 4000000000) (po : Option Addr) (on co : Nat) (t : Tl) (tol : Int) (bs : List Bo) (bp : Option Addr) (bc : Nat) (hl : bs.length ≤ 4000000000) (l : List Sd) (lq : Option Addr) (ld : Nat) (hm : l.length ≤ 4000000000) (c : Int) (w : World) (hc : SLV w pc (cs.flatMap colC)) (hp : SLV w bp (bs.flatMap boC)) (hs : SLV w lq (l.flatMap sdC)) : Calls Try.prog 41 #[.agg (shC (.slice pc cs.length cc) (.slice po on co) (tlT t tol)).toArray, .slice bp bs.length bc, .slice lq l.length ld, .int .i64 c] w fun e w' => ∃ v, e = .returned (.agg (ldnC (ldCol cs c) v (ldTol cs c tol)).toArray) ∧ OutV w w' 143 5 v (ldPile bs l cs c).length ((ldPile bs l cs c).flatMap loC) ∧ Below w.heap.size w w' := by
 have HC := Lib.hid hc
 clear hc
 have HBs := Lib.hid hp
 clear hp
 have HL := Lib.hid hs
 clear hs
 go_enter Try.func41, Try.ntmps41
 refine wp_seq ?_
 refine wp_region_L [] (KS.start w) ?_
 refine wpL_new (fun g => .pointer (some ⟨g, 0, none⟩)) (obi := .cells (shC (.slice pc cs.length cc) (.slice po on co) (tlT t tol)).toArray 32 (0, 0)) rfl rfl Tw.kf Tw.pf fun g1 Bg1 Fg1 => ?_
 refine wpL_new (fun g => .pointer (some ⟨g, 0, none⟩)) (obi := .cells #[.int .i64 0, .int .i64 0, .bool false, .int .i64 0, .int .i64 0, .int .i64 0, .int .i64 0, .int .i64 0, .slice none 0 0, .int .i64 0, .int .i64 0, .int .i64 0, .slice none 0 0, .int .i64 0] 103 (0, 0)) rfl rfl Tw.kf Tw.pf fun g2 Bg2 Fg2 => ?_
 obtain dj3_0 : g1 ≠ g2 := Tw.dkf Fg2
 refine wpL_done (fun W1 hW1 => ?_)
 change Code.wp ..
 refine wp_seq ?_
 refine wp_seq ?_
 refine wp_region_L _ hW1 ?_
 refine lm (v := .int .i64 c) rfl rfl ?_
 refine lp (v := .bool (decide (c < 0))) rfl rfl (run_bin rfl (vx := (.int .i64 c)) (vy := (.int .i64 0)) Tw.kr Tw.kr fun w => bi_lss rfl w) ?_
 refine lm (v := .bool (decide (c < 0))) rfl rfl ?_
 cases hd1 : (decide (c < 0)) with
 | false =>
   have h1 : ¬ (c < 0) := of_decide_eq_false hd1
   clear hd1
   refine lm (v := .int .i64 c) rfl rfl ?_
   refine lm (v := .pointer (some ⟨g1, 0, none⟩)) rfl rfl ?_
   refine lv (v := .slice pc cs.length cc) rfl rfl (yb_cell (off := 0) rfl Tw.kr Tw.m1 Try.underlying22 rfl Tw.kr) ?_
   refine lp (v := .int .i64 ((cs.length : Nat) : Int)) rfl rfl (run_lenL (p := pc) (cap := cc) (n := cs.length) rfl Try.underlying22 Tw.kr) ?_
   refine lp (v := .bool (!(decide (c < ((cs.length : Nat) : Int))))) rfl rfl (run_bin rfl (vx := (.int .i64 c)) (vy := (.int .i64 ((cs.length : Nat) : Int))) Tw.kr Tw.kr fun w => bi_geq rfl w) ?_
   refine lm (v := .bool (!(decide (c < ((cs.length : Nat) : Int))))) rfl rfl ?_
   refine wpL_done (fun W2 hW2 => ?_)
   change Code.wp ..
   cases hd2 : (decide (c < ((cs.length : Nat) : Int))) with
   | false =>
     have h2 : ¬ (c < ((cs.length : Nat) : Int)) := of_decide_eq_false hd2
     clear hd2
     refine wp_cond_true rfl ?_
     refine wp_seq ?_
     refine wp_region_L _ hW2 ?_
     refine lm (v := .agg #[.int .i64 0, .int .i64 0, .bool false, .int .i64 0, .int .i64 0, .int .i64 0, .int .i64 0, .int .i64 0, .slice none 0 0, .int .i64 0, .int .i64 0, .int .i64 0, .slice none 0 0, .int .i64 0]) rfl rfl ?_
     refine wpL_s [(g2, .cells #[.int .i64 0, .int .i64 0, .bool false, .int .i64 0, .int .i64 0, .int .i64 0, .int .i64 0, .int .i64 0, .slice none 0 0, .int .i64 0, .int .i64 0, .int .i64 0, .slice none 0 0, .int .i64 0] 103 (0, 0)), (g1, .cells (shC (.slice pc cs.length cc) (.slice po on co) (tlT t tol)).toArray 32 (0, 0))] rfl rfl (st_row (off := 0) (v := .agg #[.int .i64 0, .int .i64 0, .bool false, .int .i64 0, .int .i64 0, .int .i64 0, .int .i64 0, .int .i64 0, .slice none 0 0, .int .i64 0, .int .i64 0, .int .i64 0, .slice none 0 0, .int .i64 0]) rfl Tw.kr Tw.kr Tw.m0 Bg2 Tw.kr (by first | (simp [Value.cells]; done) | exact Nat.le_of_ble_eq_true rfl) (by intro v hv; simp [Value.cells] at hv; first | (subst hv; rfl) | (rcases hv with rfl | rfl | rfl | rfl | rfl | rfl | rfl | rfl | rfl | rfl | rfl | rfl | rfl | rfl <;> rfl)) Tw.kr (List.forall_mem_cons.2 ⟨.inl rfl, (List.forall_mem_cons.2 ⟨.inr ⟨Tw.m1, Tw.nee⟩, (List.forall_mem_nil _)⟩)⟩)) ?_
     refine wpL_done (fun W3 hW3 => ?_)
     change Code.wp ..
     refine wp_ret ?_
     try simp only [inBlock_ret, then_ret]
     refine bodyPost_ret (v := .agg #[.int .i64 0, .int .i64 0, .bool false, .int .i64 0, .int .i64 0, .int .i64 0, .int .i64 0, .int .i64 0, .slice none 0 0, .int .i64 0, .int .i64 0, .int .i64 0, .slice none 0 0, .int .i64 0]) ?_ rfl ?_
     · exact (res_cell (p := 8) rfl rfl (hW3.2 _ Tw.m0) Try.underlying103 rfl Tw.kr)
     · exact ⟨.slice none 0 0, (by rw [(ld_none (colAt_big Tw.om) bs l tol).1, (ld_none (colAt_big Tw.om) bs l tol).2.2] <;> rfl), (by rw [(ld_none (colAt_big Tw.om) bs l tol).2.1]; exact .inl ⟨rfl, rfl, rfl⟩), hW3.1⟩
   | true =>
     have h2 : c < ((cs.length : Nat) : Int) := of_decide_eq_true hd2
     clear hd2
     refine wp_cond_false rfl ?_
     refine wp_skip ?_
     change Code.wp ..
     refine wp_seq ?_
     refine wp_region_V _ Tw.kr hW2 ?_
     refine vm (i := 0) (v := .pointer (some ⟨g1, 0, none⟩)) rfl rfl rfl ?_
     refine vv (i := 1) (v := .slice pc cs.length cc) rfl rfl rfl (yb_cell (off := 0) rfl Tw.kr Tw.m1 Try.underlying22 rfl Tw.kr) ?_
     refine vm (i := 2) (v := .int .i64 c) rfl rfl rfl ?_
     obtain ⟨m, rfl⟩ : ∃ m : Nat, c = ((m : Nat) : Int) := ⟨c.toNat, by omega⟩
     obtain ⟨y4, g4_, f4_, hy4, hp4, hc4⟩ := RL.at (RL.base HC.out) colC_len (by decide) (hW2.sub (fun _ h => by cases h)) (k := m) Tw.om
     refine vp (i := 3) (v := .pointer (some ⟨g4_, f4_ + m * 12, none⟩)) rfl rfl rfl (run_idxQ (p := pc) (cap := cc) (n := cs.length) (j := .i64) (k := m) (sz := 12) rfl Try.underlying22 Tw.kr Tw.kr hp4 Tw.kr Tw.om) ?_
     refine vb (i := 4) (v := .agg (colC y4).toArray) rfl rfl rfl (yb_rs (off := f4_ + m * 12) (cs := colC y4) rfl Tw.kr (fun W hW => hc4 W (hW.sub (fun _ h => by cases h))) Try.underlying46 rfl Tw.kr) ?_
     refine vm (i := 5) (v := .slice bp bs.length bc) rfl rfl rfl ?_
     refine vm (i := 6) (v := .slice lq l.length ld) rfl rfl rfl ?_
     refine vm (i := 7) (v := .int .i64 ((m : Nat) : Int)) rfl rfl rfl ?_
     refine vm (i := 9) (v := .pointer (some ⟨g1, 9, none⟩)) rfl rfl rfl ?_
     refine vm (i := 10) (v := .pointer (some ⟨g1, 9, none⟩)) rfl rfl rfl ?_
     refine vv (i := 11) (v := .int .i64 tol) rfl rfl rfl (yb_cell (off := 9) rfl Tw.kr Tw.m1 Try.underlying3 rfl Tw.kr) ?_
     refine wpV_c (i := 8) (OutOL w [(g2, .cells #[.int .i64 0, .int .i64 0, .bool false, .int .i64 0, .int .i64 0, .int .i64 0, .int .i64 0, .int .i64 0, .slice none 0 0, .int .i64 0, .int .i64 0, .int .i64 0, .slice none 0 0, .int .i64 0] 103 (0, 0)), (g1, .cells (shC (.slice pc cs.length cc) (.slice po on co) (tlT t tol)).toArray 32 (0, 0))] 143 5 (pileK bs l ((m : Nat) : Int)).length ((pileK bs l ((m : Nat) : Int)).flatMap loC)) rfl rfl Tw.kr Tw.kr Tw.kf (fun W hW => calls_o hW (pileOf_any bs bp bc Tw.om l lq ld Tw.om ((m : Nat) : Int) W ((RL.base HBs.out) _ (hW.sub (fun _ h => by cases h))) ((RL.base HL.out) _ (hW.sub (fun _ h => by cases h))))) (fun v K9 hG => by obtain ⟨_, _, _, rfl⟩ := hG; exact fun p hp => List.mem_append_left _ hp) Tw.pf ?_
     rintro v5 _ ⟨Kl5, O5, N5, rfl⟩
     obtain ⟨dj6_0, dj6_1⟩ : Dk g2 Kl5 ∧ Dk g1 Kl5 := Tw.djf N5
     obtain ⟨p7, c7, rfl⟩ := own_shape O5
     refine vm (i := 12) (v := .agg (ldnC y4 (.slice p7 ((pileK bs l ((m : Nat) : Int)).length) c7) tol).toArray) rfl rfl rfl ?_
     refine wpV_s ((g2, .cells (ldnC y4 (.slice p7 ((pileK bs l ((m : Nat) : Int)).length) c7) tol).toArray 103 (0, 0)) :: (g1, .cells (shC (.slice pc cs.length cc) (.slice po on co) (tlT t tol)).toArray 32 (0, 0)) :: Kl5) (i := 13) rfl Tw.kr rfl rfl rfl (st_row (off := 0) (v := .agg (ldnC y4 (.slice p7 ((pileK bs l ((m : Nat) : Int)).length) c7) tol).toArray) rfl Tw.kr Tw.kr Tw.m0 Bg2 Tw.kr (by first | (simp [Value.cells]; done) | exact Nat.le_of_ble_eq_true rfl) (fun v hv => ldnC_one y4 tol rfl v hv) Tw.kr (List.forall_mem_cons.2 ⟨.inl rfl, (List.forall_mem_cons.2 ⟨.inr ⟨Tw.m1, Tw.nee⟩, (fun p hp => .inr ⟨(.tail _ (.tail _ hp)), ((show Dk g2 Kl5 from Tw.djt) _ hp)⟩)⟩)⟩)) ?_
     refine wpV_done Tw.kr (fun W4 hW4 => ?_) _
     change Code.wp ..
     refine wp_ret ?_
     try simp only [inBlock_ret, then_ret]
     refine bodyPost_ret (v := .agg (ldnC y4 (.slice p7 ((pileK bs l ((m : Nat) : Int)).length) c7) tol).toArray) ?_ rfl ?_
     · exact (res_cell (p := 8) rfl rfl (hW4.2 _ Tw.m0) Try.underlying103 rfl Tw.kr)
     · exact ⟨_, (by rw [ld_col hy4, ld_tol hy4] <;> rfl), (by rw [ld_pile hy4]; exact O5.out (fun p hp => by simp only [List.mem_cons, List.mem_append, List.nil_append, List.not_mem_nil, or_assoc, or_false, false_or, hp, true_or, or_true]) hW4), hW4.1⟩
 | true =>
   have h1 : c < 0 := of_decide_eq_true hd1
   clear hd1
   refine ln rfl ?_
   refine ln rfl ?_
   refine ln rfl ?_
   refine ln rfl ?_
   refine ln rfl ?_
   refine lm (v := .bool true) rfl rfl ?_
   refine wpL_done (fun W5 hW5 => ?_)
   change Code.wp ..
   refine wp_cond_true rfl ?_
   refine wp_seq ?_
   refine wp_region_L _ hW5 ?_
   refine lm (v := .agg #[.int .i64 0, .int .i64 0, .bool false, .int .i64 0, .int .i64 0, .int .i64 0, .int .i64 0, .int .i64 0, .slice none 0 0, .int .i64 0, .int .i64 0, .int .i64 0, .slice none 0 0, .int .i64 0]) rfl rfl ?_
   refine wpL_s [(g2, .cells #[.int .i64 0, .int .i64 0, .bool false, .int .i64 0, .int .i64 0, .int .i64 0, .int .i64 0, .int .i64 0, .slice none 0 0, .int .i64 0, .int .i64 0, .int .i64 0, .slice none 0 0, .int .i64 0] 103 (0, 0)), (g1, .cells (shC (.slice pc cs.length cc) (.slice po on co) (tlT t tol)).toArray 32 (0, 0))] rfl rfl (st_row (off := 0) (v := .agg #[.int .i64 0, .int .i64 0, .bool false, .int .i64 0, .int .i64 0, .int .i64 0, .int .i64 0, .int .i64 0, .slice none 0 0, .int .i64 0, .int .i64 0, .int .i64 0, .slice none 0 0, .int .i64 0]) rfl Tw.kr Tw.kr Tw.m0 Bg2 Tw.kr (by first | (simp [Value.cells]; done) | exact Nat.le_of_ble_eq_true rfl) (by intro v hv; simp [Value.cells] at hv; first | (subst hv; rfl) | (rcases hv with rfl | rfl | rfl | rfl | rfl | rfl | rfl | rfl | rfl | rfl | rfl | rfl | rfl | rfl <;> rfl)) Tw.kr (List.forall_mem_cons.2 ⟨.inl rfl, (List.forall_mem_cons.2 ⟨.inr ⟨Tw.m1, Tw.nee⟩, (List.forall_mem_nil _)⟩)⟩)) ?_
   refine wpL_done (fun W6 hW6 => ?_)
   change Code.wp ..
   refine wp_ret ?_
   try simp only [inBlock_ret, then_ret]
   refine bodyPost_ret (v := .agg #[.int .i64 0, .int .i64 0, .bool false, .int .i64 0, .int .i64 0, .int .i64 0, .int .i64 0, .int .i64 0, .slice none 0 0, .int .i64 0, .int .i64 0, .int .i64 0, .slice none 0 0, .int .i64 0]) ?_ rfl ?_
   · exact (res_cell (p := 8) rfl rfl (hW6.2 _ Tw.m0) Try.underlying103 rfl Tw.kr)
   · exact ⟨.slice none 0 0, (by rw [(ld_none (colAt_neg h1) bs l tol).1, (ld_none (colAt_neg h1) bs l tol).2.2] <;> rfl), (by rw [(ld_none (colAt_neg h1) bs l tol).2.1]; exact .inl ⟨rfl, rfl, rfl⟩), hW6.1⟩
set_option maxRecDepth 100000 in
set_option maxHeartbeats 4000000 in
theorem bears_any (co : Col) (l : List Lo) (p : Option Addr) (c : Nat) (hl : l.length ≤ 4000000000) (tl : Int) (x : Slt) (w : World) (hp : SLV w p (l.flatMap loC)) : Calls Try.prog 43 #[.agg (ldnC co (.slice p l.length c) tl).toArray, .agg (sltC x).toArray] w fun e w' => e = .returned (.tuple #[.int .i64 (bearX co l tl x), .bool (askB co x)]) ∧ Below w.heap.size w w' := by
 have HP := Lib.hid hp
 clear hp
 go_enter Try.func43, Try.ntmps43
 refine wp_seq ?_
 refine wp_region_L [] (KS.start w) ?_
 refine wpL_new (fun g => .pointer (some ⟨g, 0, none⟩)) (obi := .cells (ldnC co (.slice p l.length c) tl).toArray 103 (0, 0)) rfl rfl Tw.kf Tw.pf fun g1 Bg1 Fg1 => ?_
 refine wpL_new (fun g => .pointer (some ⟨g, 0, none⟩)) (obi := .cells (sltC x).toArray 40 (0, 0)) rfl rfl Tw.kf Tw.pf fun g2 Bg2 Fg2 => ?_
 obtain dj3_0 : g1 ≠ g2 := Tw.dkf Fg2
 refine lm (v := .int .i64 0) rfl rfl ?_
 refine lm (v := .bool false) rfl rfl ?_
 refine wpL_done (fun W1 hW1 => ?_)
 change Code.wp ..
 refine wp_seq ?_
 refine wp_seq ?_
 refine wp_region_L _ hW1 ?_
 refine lm (v := .pointer (some ⟨g1, 0, none⟩)) rfl rfl ?_
 refine lm (v := .pointer (some ⟨g1, 2, none⟩)) rfl rfl ?_
 refine lv (v := .bool co.deck) rfl rfl (yb_cell (off := 2) rfl Tw.kr Tw.m1 Try.underlying4 rfl Tw.kr) ?_
 refine lp (v := .bool (!co.deck)) rfl rfl (run_un rfl Tw.kr fun w => un_not w) ?_
 refine lm (v := .bool (!co.deck)) rfl rfl ?_
 cases h1 : co.deck with
 | false =>
   refine ln rfl ?_
   refine ln rfl ?_
   refine ln rfl ?_
   refine lm (v := .bool true) rfl rfl ?_
   refine wpL_done (fun W2 hW2 => ?_)
   change Code.wp ..
   refine wp_cond_true rfl ?_
   refine wp_seq ?_
   refine wp_region_L _ hW2 ?_
   refine lm (v := .int .i64 0) rfl rfl ?_
   refine lm (v := .bool false) rfl rfl ?_
   refine wpL_done (fun W3 hW3 => ?_)
   change Code.wp ..
   refine wp_ret ?_
   try simp only [inBlock_ret, then_ret]
   refine bodyPost_ret (v := .tuple #[.int .i64 0, .bool false]) ?_ rfl ?_
   · kernel_rfl
   · exact ⟨(by have h9 : askB co x = false := (by unfold askB; simp only [h1, Bool.and_true, Bool.true_and, Bool.and_false, Bool.false_and, Bool.or_true, Bool.true_or, Bool.or_false, Bool.false_or, Bool.and_self, Bool.or_self, Bool.not_true, Bool.not_false]); unfold bearX; rw [h9]; rfl), hW3.1⟩
 | true =>
   refine lm (v := .pointer (some ⟨g2, 1, none⟩)) rfl rfl ?_
   refine lv (v := .int .i64 x.tier) rfl rfl (yb_cell (off := 1) rfl Tw.kr Tw.m0 Try.underlying3 rfl Tw.kr) ?_
   refine lp (v := .bool (!(decide (0 < x.tier)))) rfl rfl (run_bin rfl (vx := (.int .i64 x.tier)) (vy := (.int .i64 0)) Tw.kr Tw.kr fun w => bi_leq rfl w) ?_
   refine lm (v := .bool (!(decide (0 < x.tier)))) rfl rfl ?_
   refine wpL_done (fun W4 hW4 => ?_)
   change Code.wp ..
   cases hd2 : (decide (0 < x.tier)) with
   | false =>
     have h2 : ¬ (0 < x.tier) := of_decide_eq_false hd2
     clear hd2
     refine wp_cond_true rfl ?_
     refine wp_seq ?_
     refine wp_region_L _ hW4 ?_
     refine lm (v := .int .i64 0) rfl rfl ?_
     refine lm (v := .bool false) rfl rfl ?_
     refine wpL_done (fun W5 hW5 => ?_)
     change Code.wp ..
     refine wp_ret ?_
     try simp only [inBlock_ret, then_ret]
     refine bodyPost_ret (v := .tuple #[.int .i64 0, .bool false]) ?_ rfl ?_
     · kernel_rfl
     · exact ⟨(by have h9 : askB co x = false := (by unfold askB; simp only [h1, decide_eq_false h2, Bool.and_true, Bool.true_and, Bool.and_false, Bool.false_and, Bool.or_true, Bool.true_or, Bool.or_false, Bool.false_or, Bool.and_self, Bool.or_self, Bool.not_true, Bool.not_false]); unfold bearX; rw [h9]; rfl), hW5.1⟩
   | true =>
     have h2 : 0 < x.tier := of_decide_eq_true hd2
     clear hd2
     refine wp_cond_false rfl ?_
     refine wp_skip ?_
     change Code.wp ..
     refine wp_seq ?_
     refine wp_region_V _ Tw.kr hW4 ?_
     refine vm (i := 0) (v := .pointer (some ⟨g1, 12, none⟩)) rfl rfl rfl ?_
     refine vv (i := 1) (v := .slice p l.length c) rfl rfl rfl (yb_cell (off := 12) rfl Tw.kr Tw.m1 Try.underlying101 rfl Tw.kr) ?_
     refine vv (i := 2) (v := .agg (sltC x).toArray) rfl rfl rfl (yb_load (n := 3) (off := 0) rfl Tw.kr Tw.m0 Try.underlying40 rfl Tw.kr (by first | (simp [Value.cells]; done) | exact Nat.le_of_ble_eq_true rfl) Tw.kr) ?_
     refine vv (i := 3) (v := .int .i64 (kilX (belowP x) l)) rfl rfl rfl (yb_call (f := 53) (args := #[.slice p l.length c, .agg (sltC x).toArray]) Tw.kf fun W hW => below_any l p c Tw.om x W ((RL.base HP.out) _ (hW.sub (fun _ h => by cases h)))) ?_
     refine vm (i := 4) (v := .pointer (some ⟨g1, 13, none⟩)) rfl rfl rfl ?_
     refine vv (i := 5) (v := .int .i64 tl) rfl rfl rfl (yb_cell (off := 13) rfl Tw.kr Tw.m1 Try.underlying3 rfl Tw.kr) ?_
     refine vp (i := 6) (v := .int .i64 (IntKind.i64.wrap ((kilX (belowP x) l) + tl))) rfl rfl rfl (run_bin rfl (vx := .int .i64 (kilX (belowP x) l)) (vy := .int .i64 tl) Tw.kr Tw.kr fun w => bw_add (z := (IntKind.i64.wrap ((kilX (belowP x) l) + tl))) rfl w) ?_
     refine vm (i := 7) (v := .int .i64 (IntKind.i64.wrap ((kilX (belowP x) l) + tl))) rfl rfl rfl ?_
     refine vm (i := 8) (v := .bool true) rfl rfl rfl ?_
     refine wpV_done Tw.kr (fun W6 hW6 => ?_) _
     change Code.wp ..
     refine wp_ret ?_
     try simp only [inBlock_ret, then_ret]
     refine bodyPost_ret (v := .tuple #[.int .i64 (IntKind.i64.wrap ((kilX (belowP x) l) + tl)), .bool true]) ?_ rfl ?_
     · kernel_rfl
     · exact ⟨(by have h9 : askB co x = true := (by unfold askB; simp only [h1, decide_eq_true h2, Bool.and_true, Bool.true_and, Bool.and_false, Bool.false_and, Bool.or_true, Bool.true_or, Bool.or_false, Bool.false_or, Bool.and_self, Bool.or_self, Bool.not_true, Bool.not_false]); unfold bearX; rw [h9]; rfl), hW6.1⟩
set_option maxRecDepth 100000 in
set_option maxHeartbeats 4000000 in
theorem Room_any (cs : List Col) (pc : Option Addr) (cc : Nat) (lc : cs.length ≤ 4000000000) (po : Option Addr) (on co : Nat) (t : Tl) (tol : Int) (bs : List Bo) (bp : Option Addr) (bc : Nat) (hl : bs.length ≤ 4000000000) (l : List Sd) (lq : Option Addr) (ld : Nat) (hm : l.length ≤ 4000000000) (x : Slt) (w : World) (hc : SLV w pc (cs.flatMap colC)) (hp : SLV w bp (bs.flatMap boC)) (hs : SLV w lq (l.flatMap sdC)) : Calls Try.prog 16 #[.agg (shC (.slice pc cs.length cc) (.slice po on co) (tlT t tol)).toArray, .slice bp bs.length bc, .slice lq l.length ld, .agg (sltC x).toArray] w fun e w' => e = .returned (.int .i64 (roomX cs bs l tol x)) ∧ Below w.heap.size w w' := by
 have HC := Lib.hid hc
 clear hc
 have HBs := Lib.hid hp
 clear hp
 have HL := Lib.hid hs
 clear hs
 go_enter Try.func16, Try.ntmps16
 refine wp_seq ?_
 refine wp_region_L [] (KS.start w) ?_
 refine wpL_new (fun g => .pointer (some ⟨g, 0, none⟩)) (obi := .cells (shC (.slice pc cs.length cc) (.slice po on co) (tlT t tol)).toArray 32 (0, 0)) rfl rfl Tw.kf Tw.pf fun g1 Bg1 Fg1 => ?_
 refine wpL_new (fun g => .pointer (some ⟨g, 0, none⟩)) (obi := .cells (sltC x).toArray 40 (0, 0)) rfl rfl Tw.kf Tw.pf fun g2 Bg2 Fg2 => ?_
 obtain dj3_0 : g1 ≠ g2 := Tw.dkf Fg2
 refine lm (v := .int .i64 0) rfl rfl ?_
 refine wpL_done (fun W1 hW1 => ?_)
 change Code.wp ..
 refine wp_seq ?_
 refine wp_region_L _ hW1 ?_
 refine lv (v := .agg (shC (.slice pc cs.length cc) (.slice po on co) (tlT t tol)).toArray) rfl rfl (yb_load (n := 13) (off := 0) rfl Tw.kr Tw.m1 Try.underlying32 rfl Tw.kr (by first | (simp [Value.cells]; done) | exact Nat.le_of_ble_eq_true rfl) Tw.kr) ?_
 refine lm (v := .slice bp bs.length bc) rfl rfl ?_
 refine lm (v := .slice lq l.length ld) rfl rfl ?_
 refine lm (v := .pointer (some ⟨g2, 0, none⟩)) rfl rfl ?_
 refine lv (v := .int .i64 x.col) rfl rfl (yb_cell (off := 0) rfl Tw.kr Tw.m0 Try.underlying3 rfl Tw.kr) ?_
 refine wpL_c (f := 41) (args := #[.agg (shC (.slice pc cs.length cc) (.slice po on co) (tlT t tol)).toArray, .slice bp bs.length bc, .slice lq l.length ld, .int .i64 x.col]) (fun v K9 => ∃ u, v = .agg (ldnC (ldCol cs x.col) u (ldTol cs x.col tol)).toArray ∧ OutHL loC 143 [(g2, .cells (sltC x).toArray 40 (0, 0)), (g1, .cells (shC (.slice pc cs.length cc) (.slice po on co) (tlT t tol)).toArray 32 (0, 0))] (ldPile bs l cs x.col) u K9) rfl Tw.kr Tw.kf (fun W hW => calls_ldn hW (ladenOf_any cs pc cc Tw.om po on co t tol bs bp bc Tw.om l lq ld Tw.om x.col W ((RL.base HC.out) _ (hW.sub (fun _ h => by cases h))) ((RL.base HBs.out) _ (hW.sub (fun _ h => by cases h))) ((RL.base HL.out) _ (hW.sub (fun _ h => by cases h))))) Tw.pf ?_
 rintro _ _ ⟨_, rfl, p4, c4, Kl4, rfl, R4, T4, N4, rfl⟩
 obtain ⟨dj5_0, dj5_1⟩ : Dk g2 Kl4 ∧ Dk g1 Kl4 := Tw.djf N4
 refine wpL_new (fun g => .pointer (some ⟨g, 0, none⟩)) (obi := .cells #[.int .i64 0, .int .i64 0, .bool false, .int .i64 0, .int .i64 0, .int .i64 0, .int .i64 0, .int .i64 0, .slice none 0 0, .int .i64 0, .int .i64 0, .int .i64 0, .slice none 0 0, .int .i64 0] 103 (0, 0)) rfl rfl Tw.kf Tw.pf fun g6 Bg6 Fg6 => ?_
 obtain ⟨dj7_0, dj7_1, dj7_2⟩ : g2 ≠ g6 ∧ g1 ≠ g6 ∧ Dk g6 Kl4 := Tw.dkf Fg6
 refine wpL_s ((g6, .cells (ldnC (ldCol cs x.col) (.slice p4 ((ldPile bs l cs x.col).length) c4) (ldTol cs x.col tol)).toArray 103 (0, 0)) :: (g2, .cells (sltC x).toArray 40 (0, 0)) :: (g1, .cells (shC (.slice pc cs.length cc) (.slice po on co) (tlT t tol)).toArray 32 (0, 0)) :: Kl4) rfl rfl (st_row (off := 0) (v := .agg (ldnC (ldCol cs x.col) (.slice p4 ((ldPile bs l cs x.col).length) c4) (ldTol cs x.col tol)).toArray) rfl Tw.kr Tw.kr Tw.m0 Bg6 Tw.kr (by first | (simp [Value.cells]; done) | exact Nat.le_of_ble_eq_true rfl) (fun v hv => ldnC_one (ldCol cs x.col) (ldTol cs x.col tol) rfl v hv) Tw.kr (List.forall_mem_cons.2 ⟨.inl rfl, (List.forall_mem_cons.2 ⟨.inr ⟨Tw.m1, Tw.nee⟩, (List.forall_mem_cons.2 ⟨.inr ⟨Tw.m2, Tw.nee⟩, (fun p hp => .inr ⟨(.tail _ (.tail _ (.tail _ hp))), ((show Dk g6 Kl4 from Tw.djt) _ hp)⟩)⟩)⟩)⟩)) ?_
 refine wpL_done (fun W2 hW2 => ?_)
 change Code.wp ..
 refine wp_seq ?_
 refine wp_region_L _ hW2 ?_
 refine lm (v := .pointer (some ⟨g6, 12, none⟩)) rfl rfl ?_
 refine lv (v := .slice p4 ((ldPile bs l cs x.col).length) c4) rfl rfl (yb_cell (off := 12) rfl Tw.kr Tw.m0 Try.underlying101 rfl Tw.kr) ?_
 refine lv (v := .agg #[.int .i64 (kilX (halfP 1) (ldPile bs l cs x.col)), .int .i64 (kilX (halfP 2) (ldPile bs l cs x.col)), .int .i64 (kilX allP (ldPile bs l cs x.col))]) rfl rfl (yb_call (f := 42) (args := #[.slice p4 ((ldPile bs l cs x.col).length) c4]) Tw.kf fun W hW => weigh_any (ldPile bs l cs x.col) p4 c4 (Nat.le_trans (ldPile_len _ _ _ _) Tw.om) W ((HLx.rl R4) _ (hW.sub (fun p hp => by simp only [List.mem_cons, List.mem_append, List.nil_append, List.not_mem_nil, or_assoc, or_false, false_or, hp, true_or, or_true])))) ?_
 refine wpL_new (fun g => .pointer (some ⟨g, 0, none⟩)) (obi := .cells #[.int .i64 0, .int .i64 0, .int .i64 0] 66 (0, 0)) rfl rfl Tw.kf Tw.pf fun g8 Bg8 Fg8 => ?_
 obtain ⟨dj9_0, dj9_1, dj9_2, dj9_3⟩ : g6 ≠ g8 ∧ g2 ≠ g8 ∧ g1 ≠ g8 ∧ Dk g8 Kl4 := Tw.dkf Fg8
 refine wpL_s ((g8, .cells #[.int .i64 (kilX (halfP 1) (ldPile bs l cs x.col)), .int .i64 (kilX (halfP 2) (ldPile bs l cs x.col)), .int .i64 (kilX allP (ldPile bs l cs x.col))] 66 (0, 0)) :: (g6, .cells (ldnC (ldCol cs x.col) (.slice p4 ((ldPile bs l cs x.col).length) c4) (ldTol cs x.col tol)).toArray 103 (0, 0)) :: (g2, .cells (sltC x).toArray 40 (0, 0)) :: (g1, .cells (shC (.slice pc cs.length cc) (.slice po on co) (tlT t tol)).toArray 32 (0, 0)) :: Kl4) rfl rfl (st_row (off := 0) (v := .agg #[.int .i64 (kilX (halfP 1) (ldPile bs l cs x.col)), .int .i64 (kilX (halfP 2) (ldPile bs l cs x.col)), .int .i64 (kilX allP (ldPile bs l cs x.col))]) rfl Tw.kr Tw.kr Tw.m0 Bg8 Tw.kr (by first | (simp [Value.cells]; done) | exact Nat.le_of_ble_eq_true rfl) (by intro v hv; simp [Value.cells] at hv; first | (subst hv; rfl) | (rcases hv with rfl | rfl | rfl <;> rfl)) Tw.kr (List.forall_mem_cons.2 ⟨.inl rfl, (List.forall_mem_cons.2 ⟨.inr ⟨Tw.m1, Tw.nee⟩, (List.forall_mem_cons.2 ⟨.inr ⟨Tw.m2, Tw.nee⟩, (List.forall_mem_cons.2 ⟨.inr ⟨Tw.m3, Tw.nee⟩, (fun p hp => .inr ⟨(.tail _ (.tail _ (.tail _ (.tail _ hp)))), ((show Dk g8 Kl4 from Tw.djt) _ hp)⟩)⟩)⟩)⟩)⟩)) ?_
 refine wpL_done (fun W3 hW3 => ?_)
 change Code.wp ..
 refine wp_seq ?_
 refine wp_region_L _ hW3 ?_
 refine lm (v := .pointer (some ⟨g6, 0, none⟩)) rfl rfl ?_
 refine lm (v := .pointer (some ⟨g6, 6, none⟩)) rfl rfl ?_
 refine lv (v := .int .i64 ((ldCol cs x.col).k40)) rfl rfl (yb_cell (off := 6) rfl Tw.kr Tw.m1 Try.underlying3 rfl Tw.kr) ?_
 refine lm (v := .pointer (some ⟨g8, 2, none⟩)) rfl rfl ?_
 refine lv (v := .int .i64 (kilX allP (ldPile bs l cs x.col))) rfl rfl (yb_cell (off := 2) rfl Tw.kr Tw.m0 Try.underlying3 rfl Tw.kr) ?_
 refine lp (v := .int .i64 (IntKind.i64.wrap (((ldCol cs x.col).k40) - (kilX allP (ldPile bs l cs x.col))))) rfl rfl (run_bin rfl (vx := .int .i64 ((ldCol cs x.col).k40)) (vy := .int .i64 (kilX allP (ldPile bs l cs x.col))) Tw.kr Tw.kr fun w => bw_sub (z := (IntKind.i64.wrap (((ldCol cs x.col).k40) - (kilX allP (ldPile bs l cs x.col))))) rfl w) ?_
 refine lm (v := .int .i64 (IntKind.i64.wrap (((ldCol cs x.col).k40) - (kilX allP (ldPile bs l cs x.col))))) rfl rfl ?_
 refine wpL_done (fun W4 hW4 => ?_)
 change Code.wp ..
 refine wp_seq ?_
 refine wp_seq ?_
 refine wp_region_L _ hW4 ?_
 refine lm (v := .pointer (some ⟨g2, 2, none⟩)) rfl rfl ?_
 refine lv (v := .int .u8 ((x.half : Nat) : Int)) rfl rfl (yb_cell (off := 2) rfl Tw.kr Tw.m2 Try.underlying5 rfl Tw.kr) ?_
 refine wpL_done (fun W5 hW5 => ?_)
 change Code.wp ..
 refine wp_block ?_
 refine wp_seq ?_
 refine wp_region_L _ hW5 ?_
 refine lp (v := .bool (decide (x.half = 1))) rfl rfl (run_bin rfl (vx := (.int .u8 ((x.half : Nat) : Int))) (vy := (.int .u8 ((1 : Nat) : Int))) Tw.kr Tw.kr fun w => bn_eql rfl w) ?_
 refine lm (v := .bool (decide (x.half = 1))) rfl rfl ?_
 refine wpL_done (fun W6 hW6 => ?_)
 change Code.wp ..
 cases hd1 : (decide (x.half = 1)) with
 | false =>
   have h1 : ¬ (x.half = 1) := of_decide_eq_false hd1
   clear hd1
   refine wp_cond_false rfl ?_
   refine wp_seq ?_
   refine wp_region_L _ hW6 ?_
   refine lp (v := .bool (decide (x.half = 2))) rfl rfl (run_bin rfl (vx := (.int .u8 ((x.half : Nat) : Int))) (vy := (.int .u8 ((2 : Nat) : Int))) Tw.kr Tw.kr fun w => bn_eql rfl w) ?_
   refine lm (v := .bool (decide (x.half = 2))) rfl rfl ?_
   refine wpL_done (fun W7 hW7 => ?_)
   change Code.wp ..
   cases hd2 : (decide (x.half = 2)) with
   | false =>
     have h2 : ¬ (x.half = 2) := of_decide_eq_false hd2
     clear hd2
     refine wp_cond_false rfl ?_
     refine wp_skip ?_
     change Code.wp ..
     refine wp_seq ?_
     refine wp_seq ?_
     refine wp_region_L _ hW7 ?_
     refine lv (v := .agg (ldnC (ldCol cs x.col) (.slice p4 ((ldPile bs l cs x.col).length) c4) (ldTol cs x.col tol)).toArray) rfl rfl (yb_load (n := 14) (off := 0) rfl Tw.kr Tw.m1 Try.underlying103 rfl Tw.kr (by first | (simp [Value.cells]; done) | exact Nat.le_of_ble_eq_true rfl) Tw.kr) ?_
     refine lv (v := .agg (sltC x).toArray) rfl rfl (yb_load (n := 3) (off := 0) rfl Tw.kr Tw.m2 Try.underlying40 rfl Tw.kr (by first | (simp [Value.cells]; done) | exact Nat.le_of_ble_eq_true rfl) Tw.kr) ?_
     refine lv (v := .tuple #[.int .i64 (bearX (ldCol cs x.col) (ldPile bs l cs x.col) (ldTol cs x.col tol) x), .bool (askB (ldCol cs x.col) x)]) rfl rfl (yb_call (f := 43) (args := #[.agg (ldnC (ldCol cs x.col) (.slice p4 ((ldPile bs l cs x.col).length) c4) (ldTol cs x.col tol)).toArray, .agg (sltC x).toArray]) Tw.kf fun W hW => bears_any (ldCol cs x.col) (ldPile bs l cs x.col) p4 c4 (Nat.le_trans (ldPile_len _ _ _ _) Tw.om) (ldTol cs x.col tol) x W ((HLx.rl R4) _ (hW.sub (fun p hp => by simp only [List.mem_cons, List.mem_append, List.nil_append, List.not_mem_nil, or_assoc, or_false, false_or, hp, true_or, or_true])))) ?_
     refine lm (v := .tuple #[.int .i64 (bearX (ldCol cs x.col) (ldPile bs l cs x.col) (ldTol cs x.col tol) x), .bool (askB (ldCol cs x.col) x)]) rfl rfl ?_
     refine lm (v := .int .i64 (bearX (ldCol cs x.col) (ldPile bs l cs x.col) (ldTol cs x.col tol) x)) rfl rfl ?_
     refine lm (v := .bool (askB (ldCol cs x.col) x)) rfl rfl ?_
     refine lm (v := .int .i64 (bearX (ldCol cs x.col) (ldPile bs l cs x.col) (ldTol cs x.col tol) x)) rfl rfl ?_
     refine lm (v := .bool (askB (ldCol cs x.col) x)) rfl rfl ?_
     refine wpL_done (fun W8 hW8 => ?_)
     change Code.wp ..
     refine wp_seq ?_
     refine wp_region_L _ hW8 ?_
     refine lm (v := .bool (askB (ldCol cs x.col) x)) rfl rfl ?_
     refine wpL_done (fun W9 hW9 => ?_)
     change Code.wp ..
     cases h3 : (askB (ldCol cs x.col) x) with
     | false =>
       refine wp_cond_false rfl ?_
       refine wp_skip ?_
       change Code.wp ..
       refine wp_seq ?_
       refine wp_region_L _ hW9 ?_
       refine lm (v := .int .i64 (IntKind.i64.wrap (((ldCol cs x.col).k40) - (kilX allP (ldPile bs l cs x.col))))) rfl rfl ?_
       refine lp (v := .int .i64 (max (IntKind.i64.wrap (((ldCol cs x.col).k40) - (kilX allP (ldPile bs l cs x.col)))) 0)) rfl rfl (run_max2 (x := (IntKind.i64.wrap (((ldCol cs x.col).k40) - (kilX allP (ldPile bs l cs x.col))))) (y := 0) (z := (max (IntKind.i64.wrap (((ldCol cs x.col).k40) - (kilX allP (ldPile bs l cs x.col)))) 0)) rfl Tw.kr Tw.kr rfl) ?_
       refine lm (v := .int .i64 (max (IntKind.i64.wrap (((ldCol cs x.col).k40) - (kilX allP (ldPile bs l cs x.col)))) 0)) rfl rfl ?_
       refine wpL_done (fun W10 hW10 => ?_)
       change Code.wp ..
       refine wp_ret ?_
       try simp only [inBlock_ret, then_ret]
       refine bodyPost_ret (v := .int .i64 (max (IntKind.i64.wrap (((ldCol cs x.col).k40) - (kilX allP (ldPile bs l cs x.col)))) 0)) ?_ rfl ?_
       · kernel_rfl
       · exact ⟨(int_is (by unfold roomX room2 room1; rw [if_neg (show ¬ _ = true from by rw [h3]; decide), if_neg h1, if_neg h2]; rfl)), hW10.1⟩
     | true =>
       refine wp_cond_true rfl ?_
       refine wp_region_L _ hW9 ?_
       refine lm (v := .int .i64 (IntKind.i64.wrap (((ldCol cs x.col).k40) - (kilX allP (ldPile bs l cs x.col))))) rfl rfl ?_
       refine lm (v := .int .i64 (bearX (ldCol cs x.col) (ldPile bs l cs x.col) (ldTol cs x.col tol) x)) rfl rfl ?_
       refine lp (v := .int .i64 (min (IntKind.i64.wrap (((ldCol cs x.col).k40) - (kilX allP (ldPile bs l cs x.col)))) (bearX (ldCol cs x.col) (ldPile bs l cs x.col) (ldTol cs x.col tol) x))) rfl rfl (run_min2 (x := (IntKind.i64.wrap (((ldCol cs x.col).k40) - (kilX allP (ldPile bs l cs x.col))))) (y := (bearX (ldCol cs x.col) (ldPile bs l cs x.col) (ldTol cs x.col tol) x)) (z := (min (IntKind.i64.wrap (((ldCol cs x.col).k40) - (kilX allP (ldPile bs l cs x.col)))) (bearX (ldCol cs x.col) (ldPile bs l cs x.col) (ldTol cs x.col tol) x))) rfl Tw.kr Tw.kr rfl) ?_
       refine lm (v := .int .i64 (min (IntKind.i64.wrap (((ldCol cs x.col).k40) - (kilX allP (ldPile bs l cs x.col)))) (bearX (ldCol cs x.col) (ldPile bs l cs x.col) (ldTol cs x.col tol) x))) rfl rfl ?_
       refine wpL_done (fun W11 hW11 => ?_)
       change Code.wp ..
       refine wp_seq ?_
       refine wp_region_L _ hW11 ?_
       refine lm (v := .int .i64 (min (IntKind.i64.wrap (((ldCol cs x.col).k40) - (kilX allP (ldPile bs l cs x.col)))) (bearX (ldCol cs x.col) (ldPile bs l cs x.col) (ldTol cs x.col tol) x))) rfl rfl ?_
       refine lp (v := .int .i64 (max (min (IntKind.i64.wrap (((ldCol cs x.col).k40) - (kilX allP (ldPile bs l cs x.col)))) (bearX (ldCol cs x.col) (ldPile bs l cs x.col) (ldTol cs x.col tol) x)) 0)) rfl rfl (run_max2 (x := (min (IntKind.i64.wrap (((ldCol cs x.col).k40) - (kilX allP (ldPile bs l cs x.col)))) (bearX (ldCol cs x.col) (ldPile bs l cs x.col) (ldTol cs x.col tol) x))) (y := 0) (z := (max (min (IntKind.i64.wrap (((ldCol cs x.col).k40) - (kilX allP (ldPile bs l cs x.col)))) (bearX (ldCol cs x.col) (ldPile bs l cs x.col) (ldTol cs x.col tol) x)) 0)) rfl Tw.kr Tw.kr rfl) ?_
       refine lm (v := .int .i64 (max (min (IntKind.i64.wrap (((ldCol cs x.col).k40) - (kilX allP (ldPile bs l cs x.col)))) (bearX (ldCol cs x.col) (ldPile bs l cs x.col) (ldTol cs x.col tol) x)) 0)) rfl rfl ?_
       refine wpL_done (fun W12 hW12 => ?_)
       change Code.wp ..
       refine wp_ret ?_
       try simp only [inBlock_ret, then_ret]
       refine bodyPost_ret (v := .int .i64 (max (min (IntKind.i64.wrap (((ldCol cs x.col).k40) - (kilX allP (ldPile bs l cs x.col)))) (bearX (ldCol cs x.col) (ldPile bs l cs x.col) (ldTol cs x.col tol) x)) 0)) ?_ rfl ?_
       · kernel_rfl
       · exact ⟨(int_is (by unfold roomX room2 room1; rw [if_pos h3, if_neg h1, if_neg h2]; rfl)), hW12.1⟩
   | true =>
     have h2 : x.half = 2 := of_decide_eq_true hd2
     clear hd2
     refine wp_cond_true rfl ?_
     refine wp_region_L _ hW7 ?_
     refine lm (v := .int .i64 (IntKind.i64.wrap (((ldCol cs x.col).k40) - (kilX allP (ldPile bs l cs x.col))))) rfl rfl ?_
     refine lm (v := .pointer (some ⟨g6, 0, none⟩)) rfl rfl ?_
     refine lm (v := .pointer (some ⟨g6, 5, none⟩)) rfl rfl ?_
     refine lv (v := .int .i64 ((ldCol cs x.col).k20)) rfl rfl (yb_cell (off := 5) rfl Tw.kr Tw.m1 Try.underlying3 rfl Tw.kr) ?_
     refine lm (v := .pointer (some ⟨g8, 1, none⟩)) rfl rfl ?_
     refine lv (v := .int .i64 (kilX (halfP 2) (ldPile bs l cs x.col))) rfl rfl (yb_cell (off := 1) rfl Tw.kr Tw.m0 Try.underlying3 rfl Tw.kr) ?_
     refine lp (v := .int .i64 (IntKind.i64.wrap (((ldCol cs x.col).k20) - (kilX (halfP 2) (ldPile bs l cs x.col))))) rfl rfl (run_bin rfl (vx := .int .i64 ((ldCol cs x.col).k20)) (vy := .int .i64 (kilX (halfP 2) (ldPile bs l cs x.col))) Tw.kr Tw.kr fun w => bw_sub (z := (IntKind.i64.wrap (((ldCol cs x.col).k20) - (kilX (halfP 2) (ldPile bs l cs x.col))))) rfl w) ?_
     refine lp (v := .int .i64 (min (IntKind.i64.wrap (((ldCol cs x.col).k40) - (kilX allP (ldPile bs l cs x.col)))) (IntKind.i64.wrap (((ldCol cs x.col).k20) - (kilX (halfP 2) (ldPile bs l cs x.col)))))) rfl rfl (run_min2 (x := (IntKind.i64.wrap (((ldCol cs x.col).k40) - (kilX allP (ldPile bs l cs x.col))))) (y := (IntKind.i64.wrap (((ldCol cs x.col).k20) - (kilX (halfP 2) (ldPile bs l cs x.col))))) (z := (min (IntKind.i64.wrap (((ldCol cs x.col).k40) - (kilX allP (ldPile bs l cs x.col)))) (IntKind.i64.wrap (((ldCol cs x.col).k20) - (kilX (halfP 2) (ldPile bs l cs x.col)))))) rfl Tw.kr Tw.kr rfl) ?_
     refine lm (v := .int .i64 (min (IntKind.i64.wrap (((ldCol cs x.col).k40) - (kilX allP (ldPile bs l cs x.col)))) (IntKind.i64.wrap (((ldCol cs x.col).k20) - (kilX (halfP 2) (ldPile bs l cs x.col)))))) rfl rfl ?_
     refine wpL_done (fun W13 hW13 => ?_)
     change Code.wp ..
     refine wp_seq ?_
     refine wp_seq ?_
     refine wp_region_L _ hW13 ?_
     refine lv (v := .agg (ldnC (ldCol cs x.col) (.slice p4 ((ldPile bs l cs x.col).length) c4) (ldTol cs x.col tol)).toArray) rfl rfl (yb_load (n := 14) (off := 0) rfl Tw.kr Tw.m1 Try.underlying103 rfl Tw.kr (by first | (simp [Value.cells]; done) | exact Nat.le_of_ble_eq_true rfl) Tw.kr) ?_
     refine lv (v := .agg (sltC x).toArray) rfl rfl (yb_load (n := 3) (off := 0) rfl Tw.kr Tw.m2 Try.underlying40 rfl Tw.kr (by first | (simp [Value.cells]; done) | exact Nat.le_of_ble_eq_true rfl) Tw.kr) ?_
     refine lv (v := .tuple #[.int .i64 (bearX (ldCol cs x.col) (ldPile bs l cs x.col) (ldTol cs x.col tol) x), .bool (askB (ldCol cs x.col) x)]) rfl rfl (yb_call (f := 43) (args := #[.agg (ldnC (ldCol cs x.col) (.slice p4 ((ldPile bs l cs x.col).length) c4) (ldTol cs x.col tol)).toArray, .agg (sltC x).toArray]) Tw.kf fun W hW => bears_any (ldCol cs x.col) (ldPile bs l cs x.col) p4 c4 (Nat.le_trans (ldPile_len _ _ _ _) Tw.om) (ldTol cs x.col tol) x W ((HLx.rl R4) _ (hW.sub (fun p hp => by simp only [List.mem_cons, List.mem_append, List.nil_append, List.not_mem_nil, or_assoc, or_false, false_or, hp, true_or, or_true])))) ?_
     refine lm (v := .tuple #[.int .i64 (bearX (ldCol cs x.col) (ldPile bs l cs x.col) (ldTol cs x.col tol) x), .bool (askB (ldCol cs x.col) x)]) rfl rfl ?_
     refine lm (v := .int .i64 (bearX (ldCol cs x.col) (ldPile bs l cs x.col) (ldTol cs x.col tol) x)) rfl rfl ?_
     refine lm (v := .bool (askB (ldCol cs x.col) x)) rfl rfl ?_
     refine lm (v := .int .i64 (bearX (ldCol cs x.col) (ldPile bs l cs x.col) (ldTol cs x.col tol) x)) rfl rfl ?_
     refine lm (v := .bool (askB (ldCol cs x.col) x)) rfl rfl ?_
     refine wpL_done (fun W14 hW14 => ?_)
     change Code.wp ..
     refine wp_seq ?_
     refine wp_region_L _ hW14 ?_
     refine lm (v := .bool (askB (ldCol cs x.col) x)) rfl rfl ?_
     refine wpL_done (fun W15 hW15 => ?_)
     change Code.wp ..
     cases h4 : (askB (ldCol cs x.col) x) with
     | false =>
       refine wp_cond_false rfl ?_
       refine wp_skip ?_
       change Code.wp ..
       refine wp_seq ?_
       refine wp_region_L _ hW15 ?_
       refine lm (v := .int .i64 (min (IntKind.i64.wrap (((ldCol cs x.col).k40) - (kilX allP (ldPile bs l cs x.col)))) (IntKind.i64.wrap (((ldCol cs x.col).k20) - (kilX (halfP 2) (ldPile bs l cs x.col)))))) rfl rfl ?_
       refine lp (v := .int .i64 (max (min (IntKind.i64.wrap (((ldCol cs x.col).k40) - (kilX allP (ldPile bs l cs x.col)))) (IntKind.i64.wrap (((ldCol cs x.col).k20) - (kilX (halfP 2) (ldPile bs l cs x.col))))) 0)) rfl rfl (run_max2 (x := (min (IntKind.i64.wrap (((ldCol cs x.col).k40) - (kilX allP (ldPile bs l cs x.col)))) (IntKind.i64.wrap (((ldCol cs x.col).k20) - (kilX (halfP 2) (ldPile bs l cs x.col)))))) (y := 0) (z := (max (min (IntKind.i64.wrap (((ldCol cs x.col).k40) - (kilX allP (ldPile bs l cs x.col)))) (IntKind.i64.wrap (((ldCol cs x.col).k20) - (kilX (halfP 2) (ldPile bs l cs x.col))))) 0)) rfl Tw.kr Tw.kr rfl) ?_
       refine lm (v := .int .i64 (max (min (IntKind.i64.wrap (((ldCol cs x.col).k40) - (kilX allP (ldPile bs l cs x.col)))) (IntKind.i64.wrap (((ldCol cs x.col).k20) - (kilX (halfP 2) (ldPile bs l cs x.col))))) 0)) rfl rfl ?_
       refine wpL_done (fun W16 hW16 => ?_)
       change Code.wp ..
       refine wp_ret ?_
       try simp only [inBlock_ret, then_ret]
       refine bodyPost_ret (v := .int .i64 (max (min (IntKind.i64.wrap (((ldCol cs x.col).k40) - (kilX allP (ldPile bs l cs x.col)))) (IntKind.i64.wrap (((ldCol cs x.col).k20) - (kilX (halfP 2) (ldPile bs l cs x.col))))) 0)) ?_ rfl ?_
       · kernel_rfl
       · exact ⟨(int_is (by unfold roomX room2 room1; rw [if_neg (show ¬ _ = true from by rw [h4]; decide), if_neg h1, if_pos h2]; rfl)), hW16.1⟩
     | true =>
       refine wp_cond_true rfl ?_
       refine wp_region_L _ hW15 ?_
       refine lm (v := .int .i64 (min (IntKind.i64.wrap (((ldCol cs x.col).k40) - (kilX allP (ldPile bs l cs x.col)))) (IntKind.i64.wrap (((ldCol cs x.col).k20) - (kilX (halfP 2) (ldPile bs l cs x.col)))))) rfl rfl ?_
       refine lm (v := .int .i64 (bearX (ldCol cs x.col) (ldPile bs l cs x.col) (ldTol cs x.col tol) x)) rfl rfl ?_
       refine lp (v := .int .i64 (min (min (IntKind.i64.wrap (((ldCol cs x.col).k40) - (kilX allP (ldPile bs l cs x.col)))) (IntKind.i64.wrap (((ldCol cs x.col).k20) - (kilX (halfP 2) (ldPile bs l cs x.col))))) (bearX (ldCol cs x.col) (ldPile bs l cs x.col) (ldTol cs x.col tol) x))) rfl rfl (run_min2 (x := (min (IntKind.i64.wrap (((ldCol cs x.col).k40) - (kilX allP (ldPile bs l cs x.col)))) (IntKind.i64.wrap (((ldCol cs x.col).k20) - (kilX (halfP 2) (ldPile bs l cs x.col)))))) (y := (bearX (ldCol cs x.col) (ldPile bs l cs x.col) (ldTol cs x.col tol) x)) (z := (min (min (IntKind.i64.wrap (((ldCol cs x.col).k40) - (kilX allP (ldPile bs l cs x.col)))) (IntKind.i64.wrap (((ldCol cs x.col).k20) - (kilX (halfP 2) (ldPile bs l cs x.col))))) (bearX (ldCol cs x.col) (ldPile bs l cs x.col) (ldTol cs x.col tol) x))) rfl Tw.kr Tw.kr rfl) ?_
       refine lm (v := .int .i64 (min (min (IntKind.i64.wrap (((ldCol cs x.col).k40) - (kilX allP (ldPile bs l cs x.col)))) (IntKind.i64.wrap (((ldCol cs x.col).k20) - (kilX (halfP 2) (ldPile bs l cs x.col))))) (bearX (ldCol cs x.col) (ldPile bs l cs x.col) (ldTol cs x.col tol) x))) rfl rfl ?_
       refine wpL_done (fun W17 hW17 => ?_)
       change Code.wp ..
       refine wp_seq ?_
       refine wp_region_L _ hW17 ?_
       refine lm (v := .int .i64 (min (min (IntKind.i64.wrap (((ldCol cs x.col).k40) - (kilX allP (ldPile bs l cs x.col)))) (IntKind.i64.wrap (((ldCol cs x.col).k20) - (kilX (halfP 2) (ldPile bs l cs x.col))))) (bearX (ldCol cs x.col) (ldPile bs l cs x.col) (ldTol cs x.col tol) x))) rfl rfl ?_
       refine lp (v := .int .i64 (max (min (min (IntKind.i64.wrap (((ldCol cs x.col).k40) - (kilX allP (ldPile bs l cs x.col)))) (IntKind.i64.wrap (((ldCol cs x.col).k20) - (kilX (halfP 2) (ldPile bs l cs x.col))))) (bearX (ldCol cs x.col) (ldPile bs l cs x.col) (ldTol cs x.col tol) x)) 0)) rfl rfl (run_max2 (x := (min (min (IntKind.i64.wrap (((ldCol cs x.col).k40) - (kilX allP (ldPile bs l cs x.col)))) (IntKind.i64.wrap (((ldCol cs x.col).k20) - (kilX (halfP 2) (ldPile bs l cs x.col))))) (bearX (ldCol cs x.col) (ldPile bs l cs x.col) (ldTol cs x.col tol) x))) (y := 0) (z := (max (min (min (IntKind.i64.wrap (((ldCol cs x.col).k40) - (kilX allP (ldPile bs l cs x.col)))) (IntKind.i64.wrap (((ldCol cs x.col).k20) - (kilX (halfP 2) (ldPile bs l cs x.col))))) (bearX (ldCol cs x.col) (ldPile bs l cs x.col) (ldTol cs x.col tol) x)) 0)) rfl Tw.kr Tw.kr rfl) ?_
       refine lm (v := .int .i64 (max (min (min (IntKind.i64.wrap (((ldCol cs x.col).k40) - (kilX allP (ldPile bs l cs x.col)))) (IntKind.i64.wrap (((ldCol cs x.col).k20) - (kilX (halfP 2) (ldPile bs l cs x.col))))) (bearX (ldCol cs x.col) (ldPile bs l cs x.col) (ldTol cs x.col tol) x)) 0)) rfl rfl ?_
       refine wpL_done (fun W18 hW18 => ?_)
       change Code.wp ..
       refine wp_ret ?_
       try simp only [inBlock_ret, then_ret]
       refine bodyPost_ret (v := .int .i64 (max (min (min (IntKind.i64.wrap (((ldCol cs x.col).k40) - (kilX allP (ldPile bs l cs x.col)))) (IntKind.i64.wrap (((ldCol cs x.col).k20) - (kilX (halfP 2) (ldPile bs l cs x.col))))) (bearX (ldCol cs x.col) (ldPile bs l cs x.col) (ldTol cs x.col tol) x)) 0)) ?_ rfl ?_
       · kernel_rfl
       · exact ⟨(int_is (by unfold roomX room2 room1; rw [if_pos h4, if_neg h1, if_pos h2]; rfl)), hW18.1⟩
 | true =>
   have h1 : x.half = 1 := of_decide_eq_true hd1
   clear hd1
   refine wp_cond_true rfl ?_
   refine wp_region_L _ hW6 ?_
   refine lm (v := .int .i64 (IntKind.i64.wrap (((ldCol cs x.col).k40) - (kilX allP (ldPile bs l cs x.col))))) rfl rfl ?_
   refine lm (v := .pointer (some ⟨g6, 0, none⟩)) rfl rfl ?_
   refine lm (v := .pointer (some ⟨g6, 5, none⟩)) rfl rfl ?_
   refine lv (v := .int .i64 ((ldCol cs x.col).k20)) rfl rfl (yb_cell (off := 5) rfl Tw.kr Tw.m1 Try.underlying3 rfl Tw.kr) ?_
   refine lm (v := .pointer (some ⟨g8, 0, none⟩)) rfl rfl ?_
   refine lv (v := .int .i64 (kilX (halfP 1) (ldPile bs l cs x.col))) rfl rfl (yb_cell (off := 0) rfl Tw.kr Tw.m0 Try.underlying3 rfl Tw.kr) ?_
   refine lp (v := .int .i64 (IntKind.i64.wrap (((ldCol cs x.col).k20) - (kilX (halfP 1) (ldPile bs l cs x.col))))) rfl rfl (run_bin rfl (vx := .int .i64 ((ldCol cs x.col).k20)) (vy := .int .i64 (kilX (halfP 1) (ldPile bs l cs x.col))) Tw.kr Tw.kr fun w => bw_sub (z := (IntKind.i64.wrap (((ldCol cs x.col).k20) - (kilX (halfP 1) (ldPile bs l cs x.col))))) rfl w) ?_
   refine lp (v := .int .i64 (min (IntKind.i64.wrap (((ldCol cs x.col).k40) - (kilX allP (ldPile bs l cs x.col)))) (IntKind.i64.wrap (((ldCol cs x.col).k20) - (kilX (halfP 1) (ldPile bs l cs x.col)))))) rfl rfl (run_min2 (x := (IntKind.i64.wrap (((ldCol cs x.col).k40) - (kilX allP (ldPile bs l cs x.col))))) (y := (IntKind.i64.wrap (((ldCol cs x.col).k20) - (kilX (halfP 1) (ldPile bs l cs x.col))))) (z := (min (IntKind.i64.wrap (((ldCol cs x.col).k40) - (kilX allP (ldPile bs l cs x.col)))) (IntKind.i64.wrap (((ldCol cs x.col).k20) - (kilX (halfP 1) (ldPile bs l cs x.col)))))) rfl Tw.kr Tw.kr rfl) ?_
   refine lm (v := .int .i64 (min (IntKind.i64.wrap (((ldCol cs x.col).k40) - (kilX allP (ldPile bs l cs x.col)))) (IntKind.i64.wrap (((ldCol cs x.col).k20) - (kilX (halfP 1) (ldPile bs l cs x.col)))))) rfl rfl ?_
   refine wpL_done (fun W19 hW19 => ?_)
   change Code.wp ..
   refine wp_seq ?_
   refine wp_seq ?_
   refine wp_region_L _ hW19 ?_
   refine lv (v := .agg (ldnC (ldCol cs x.col) (.slice p4 ((ldPile bs l cs x.col).length) c4) (ldTol cs x.col tol)).toArray) rfl rfl (yb_load (n := 14) (off := 0) rfl Tw.kr Tw.m1 Try.underlying103 rfl Tw.kr (by first | (simp [Value.cells]; done) | exact Nat.le_of_ble_eq_true rfl) Tw.kr) ?_
   refine lv (v := .agg (sltC x).toArray) rfl rfl (yb_load (n := 3) (off := 0) rfl Tw.kr Tw.m2 Try.underlying40 rfl Tw.kr (by first | (simp [Value.cells]; done) | exact Nat.le_of_ble_eq_true rfl) Tw.kr) ?_
   refine lv (v := .tuple #[.int .i64 (bearX (ldCol cs x.col) (ldPile bs l cs x.col) (ldTol cs x.col tol) x), .bool (askB (ldCol cs x.col) x)]) rfl rfl (yb_call (f := 43) (args := #[.agg (ldnC (ldCol cs x.col) (.slice p4 ((ldPile bs l cs x.col).length) c4) (ldTol cs x.col tol)).toArray, .agg (sltC x).toArray]) Tw.kf fun W hW => bears_any (ldCol cs x.col) (ldPile bs l cs x.col) p4 c4 (Nat.le_trans (ldPile_len _ _ _ _) Tw.om) (ldTol cs x.col tol) x W ((HLx.rl R4) _ (hW.sub (fun p hp => by simp only [List.mem_cons, List.mem_append, List.nil_append, List.not_mem_nil, or_assoc, or_false, false_or, hp, true_or, or_true])))) ?_
   refine lm (v := .tuple #[.int .i64 (bearX (ldCol cs x.col) (ldPile bs l cs x.col) (ldTol cs x.col tol) x), .bool (askB (ldCol cs x.col) x)]) rfl rfl ?_
   refine lm (v := .int .i64 (bearX (ldCol cs x.col) (ldPile bs l cs x.col) (ldTol cs x.col tol) x)) rfl rfl ?_
   refine lm (v := .bool (askB (ldCol cs x.col) x)) rfl rfl ?_
   refine lm (v := .int .i64 (bearX (ldCol cs x.col) (ldPile bs l cs x.col) (ldTol cs x.col tol) x)) rfl rfl ?_
   refine lm (v := .bool (askB (ldCol cs x.col) x)) rfl rfl ?_
   refine wpL_done (fun W20 hW20 => ?_)
   change Code.wp ..
   refine wp_seq ?_
   refine wp_region_L _ hW20 ?_
   refine lm (v := .bool (askB (ldCol cs x.col) x)) rfl rfl ?_
   refine wpL_done (fun W21 hW21 => ?_)
   change Code.wp ..
   cases h5 : (askB (ldCol cs x.col) x) with
   | false =>
     refine wp_cond_false rfl ?_
     refine wp_skip ?_
     change Code.wp ..
     refine wp_seq ?_
     refine wp_region_L _ hW21 ?_
     refine lm (v := .int .i64 (min (IntKind.i64.wrap (((ldCol cs x.col).k40) - (kilX allP (ldPile bs l cs x.col)))) (IntKind.i64.wrap (((ldCol cs x.col).k20) - (kilX (halfP 1) (ldPile bs l cs x.col)))))) rfl rfl ?_
     refine lp (v := .int .i64 (max (min (IntKind.i64.wrap (((ldCol cs x.col).k40) - (kilX allP (ldPile bs l cs x.col)))) (IntKind.i64.wrap (((ldCol cs x.col).k20) - (kilX (halfP 1) (ldPile bs l cs x.col))))) 0)) rfl rfl (run_max2 (x := (min (IntKind.i64.wrap (((ldCol cs x.col).k40) - (kilX allP (ldPile bs l cs x.col)))) (IntKind.i64.wrap (((ldCol cs x.col).k20) - (kilX (halfP 1) (ldPile bs l cs x.col)))))) (y := 0) (z := (max (min (IntKind.i64.wrap (((ldCol cs x.col).k40) - (kilX allP (ldPile bs l cs x.col)))) (IntKind.i64.wrap (((ldCol cs x.col).k20) - (kilX (halfP 1) (ldPile bs l cs x.col))))) 0)) rfl Tw.kr Tw.kr rfl) ?_
     refine lm (v := .int .i64 (max (min (IntKind.i64.wrap (((ldCol cs x.col).k40) - (kilX allP (ldPile bs l cs x.col)))) (IntKind.i64.wrap (((ldCol cs x.col).k20) - (kilX (halfP 1) (ldPile bs l cs x.col))))) 0)) rfl rfl ?_
     refine wpL_done (fun W22 hW22 => ?_)
     change Code.wp ..
     refine wp_ret ?_
     try simp only [inBlock_ret, then_ret]
     refine bodyPost_ret (v := .int .i64 (max (min (IntKind.i64.wrap (((ldCol cs x.col).k40) - (kilX allP (ldPile bs l cs x.col)))) (IntKind.i64.wrap (((ldCol cs x.col).k20) - (kilX (halfP 1) (ldPile bs l cs x.col))))) 0)) ?_ rfl ?_
     · kernel_rfl
     · exact ⟨(int_is (by unfold roomX room2 room1; rw [if_neg (show ¬ _ = true from by rw [h5]; decide), if_pos h1]; rfl)), hW22.1⟩
   | true =>
     refine wp_cond_true rfl ?_
     refine wp_region_L _ hW21 ?_
     refine lm (v := .int .i64 (min (IntKind.i64.wrap (((ldCol cs x.col).k40) - (kilX allP (ldPile bs l cs x.col)))) (IntKind.i64.wrap (((ldCol cs x.col).k20) - (kilX (halfP 1) (ldPile bs l cs x.col)))))) rfl rfl ?_
     refine lm (v := .int .i64 (bearX (ldCol cs x.col) (ldPile bs l cs x.col) (ldTol cs x.col tol) x)) rfl rfl ?_
     refine lp (v := .int .i64 (min (min (IntKind.i64.wrap (((ldCol cs x.col).k40) - (kilX allP (ldPile bs l cs x.col)))) (IntKind.i64.wrap (((ldCol cs x.col).k20) - (kilX (halfP 1) (ldPile bs l cs x.col))))) (bearX (ldCol cs x.col) (ldPile bs l cs x.col) (ldTol cs x.col tol) x))) rfl rfl (run_min2 (x := (min (IntKind.i64.wrap (((ldCol cs x.col).k40) - (kilX allP (ldPile bs l cs x.col)))) (IntKind.i64.wrap (((ldCol cs x.col).k20) - (kilX (halfP 1) (ldPile bs l cs x.col)))))) (y := (bearX (ldCol cs x.col) (ldPile bs l cs x.col) (ldTol cs x.col tol) x)) (z := (min (min (IntKind.i64.wrap (((ldCol cs x.col).k40) - (kilX allP (ldPile bs l cs x.col)))) (IntKind.i64.wrap (((ldCol cs x.col).k20) - (kilX (halfP 1) (ldPile bs l cs x.col))))) (bearX (ldCol cs x.col) (ldPile bs l cs x.col) (ldTol cs x.col tol) x))) rfl Tw.kr Tw.kr rfl) ?_
     refine lm (v := .int .i64 (min (min (IntKind.i64.wrap (((ldCol cs x.col).k40) - (kilX allP (ldPile bs l cs x.col)))) (IntKind.i64.wrap (((ldCol cs x.col).k20) - (kilX (halfP 1) (ldPile bs l cs x.col))))) (bearX (ldCol cs x.col) (ldPile bs l cs x.col) (ldTol cs x.col tol) x))) rfl rfl ?_
     refine wpL_done (fun W23 hW23 => ?_)
     change Code.wp ..
     refine wp_seq ?_
     refine wp_region_L _ hW23 ?_
     refine lm (v := .int .i64 (min (min (IntKind.i64.wrap (((ldCol cs x.col).k40) - (kilX allP (ldPile bs l cs x.col)))) (IntKind.i64.wrap (((ldCol cs x.col).k20) - (kilX (halfP 1) (ldPile bs l cs x.col))))) (bearX (ldCol cs x.col) (ldPile bs l cs x.col) (ldTol cs x.col tol) x))) rfl rfl ?_
     refine lp (v := .int .i64 (max (min (min (IntKind.i64.wrap (((ldCol cs x.col).k40) - (kilX allP (ldPile bs l cs x.col)))) (IntKind.i64.wrap (((ldCol cs x.col).k20) - (kilX (halfP 1) (ldPile bs l cs x.col))))) (bearX (ldCol cs x.col) (ldPile bs l cs x.col) (ldTol cs x.col tol) x)) 0)) rfl rfl (run_max2 (x := (min (min (IntKind.i64.wrap (((ldCol cs x.col).k40) - (kilX allP (ldPile bs l cs x.col)))) (IntKind.i64.wrap (((ldCol cs x.col).k20) - (kilX (halfP 1) (ldPile bs l cs x.col))))) (bearX (ldCol cs x.col) (ldPile bs l cs x.col) (ldTol cs x.col tol) x))) (y := 0) (z := (max (min (min (IntKind.i64.wrap (((ldCol cs x.col).k40) - (kilX allP (ldPile bs l cs x.col)))) (IntKind.i64.wrap (((ldCol cs x.col).k20) - (kilX (halfP 1) (ldPile bs l cs x.col))))) (bearX (ldCol cs x.col) (ldPile bs l cs x.col) (ldTol cs x.col tol) x)) 0)) rfl Tw.kr Tw.kr rfl) ?_
     refine lm (v := .int .i64 (max (min (min (IntKind.i64.wrap (((ldCol cs x.col).k40) - (kilX allP (ldPile bs l cs x.col)))) (IntKind.i64.wrap (((ldCol cs x.col).k20) - (kilX (halfP 1) (ldPile bs l cs x.col))))) (bearX (ldCol cs x.col) (ldPile bs l cs x.col) (ldTol cs x.col tol) x)) 0)) rfl rfl ?_
     refine wpL_done (fun W24 hW24 => ?_)
     change Code.wp ..
     refine wp_ret ?_
     try simp only [inBlock_ret, then_ret]
     refine bodyPost_ret (v := .int .i64 (max (min (min (IntKind.i64.wrap (((ldCol cs x.col).k40) - (kilX allP (ldPile bs l cs x.col)))) (IntKind.i64.wrap (((ldCol cs x.col).k20) - (kilX (halfP 1) (ldPile bs l cs x.col))))) (bearX (ldCol cs x.col) (ldPile bs l cs x.col) (ldTol cs x.col tol) x)) 0)) ?_ rfl ?_
     · kernel_rfl
     · exact ⟨(int_is (by unfold roomX room2 room1; rw [if_pos h5, if_pos h1]; rfl)), hW24.1⟩
end Go.Proofs.Ytnbfljcilojllaa
namespace Go.Proofs.Ytnbfljcilojllaa
open Go Go.RowKit Tw
set_option maxRecDepth 100000 in
set_option maxHeartbeats 4000000 in
theorem faults1_stops (n₀ b1 b2 b3 b4 : Nat) (cs : List Col) (pc : Option Addr) (cc : Nat) (lc : cs.length ≤ 4000000000) (po : Option Addr) (on co : Nat) (t : Tl) (tol : Int) (bs : List Bo) (bp : Option Addr) (bc : Nat) (hl : bs.length ≤ 4000000000) (l : List Sd) (lq : Option Addr) (ld : Nat) (hm : l.length ≤ 4000000000) (c : Int) (w0 : World) (hn0 : n₀ ≤ w0.heap.size)
   (hb1 : w0.heap[b1]? = some (.cells (shC (.slice pc cs.length cc) (.slice po on co) (tlT t tol)).toArray 32 (0, 0)))
   (hb2 : w0.heap[b2]? = some (.cells #[.slice bp bs.length bc] 33 (0, 0)))
   (hb3 : w0.heap[b3]? = some (.cells #[.slice lq l.length ld] 38 (0, 0)))
   (hb4 : w0.heap[b4]? = some (.cells #[.int .i64 c] 3 (0, 0)))
   (hc : ∀ W, Below n₀ w0 W → SLV W pc (cs.flatMap colC)) (hp : ∀ W, Below n₀ w0 W → SLV W bp (bs.flatMap boC)) (hs : ∀ W, Below n₀ w0 W → SLV W lq (l.flatMap sdC)) :
   SeqStopsK (FX none) 0 Try.prog 62 #[.pointer (some ⟨b1, 0, none⟩), .pointer (some ⟨b2, 0, none⟩), .pointer (some ⟨b3, 0, none⟩), .pointer (some ⟨b4, 0, none⟩)] encFt (KpT [71, 58] n₀) (fun ys => ys = faultsX cs bs l tol c) (fun _ => True) (faultsX cs bs l tol c).length w0 := by
 intro l0 J Jx W1 hB0 hJa hJxa hYd hJ0
 have hBw : Below n₀ w0 W1 := hB0.mono hn0
 have hlp := Nat.le_trans (ldPile_len bs l cs c) hm
 have hR1 : KS (W1 : World) [(b1, .cells (shC (.slice pc cs.length cc) (.slice po on co) (tlT t tol)).toArray 32 (0, 0)), (b2, .cells #[.slice bp bs.length bc] 33 (0, 0)), (b3, .cells #[.slice lq l.length ld] 38 (0, 0)), (b4, .cells #[.int .i64 c] 3 (0, 0))] W1 := ⟨Below.refl _ _, List.forall_mem_cons.2 ⟨(hB0.block b1 (lt_of_block hb1)).trans hb1, List.forall_mem_cons.2 ⟨(hB0.block b2 (lt_of_block hb2)).trans hb2, List.forall_mem_cons.2 ⟨(hB0.block b3 (lt_of_block hb3)).trans hb3, List.forall_mem_cons.2 ⟨(hB0.block b4 (lt_of_block hb4)).trans hb4, List.forall_mem_nil _⟩⟩⟩⟩⟩
 refine callsIn_of_wp Try.func62 rfl trivial ?_ rfl
 simp only [Try.ntmps62, List.size_toArray, List.length_cons, List.length_nil, Nat.reduceAdd, Nat.reduceSub, Array.replicate_succ, Array.replicate_zero, List.push_toArray, List.append_toArray, List.nil_append, List.cons_append]
 refine wpIn_seq ?_
 refine wp_region_LI (W0 := (W1 : World)) [(b1, .cells (shC (.slice pc cs.length cc) (.slice po on co) (tlT t tol)).toArray 32 (0, 0)), (b2, .cells #[.slice bp bs.length bc] 33 (0, 0)), (b3, .cells #[.slice lq l.length ld] 38 (0, 0)), (b4, .cells #[.int .i64 c] 3 (0, 0))] Tw.kr (hR1) ?_
 refine lv (v := .agg (shC (.slice pc cs.length cc) (.slice po on co) (tlT t tol)).toArray) rfl rfl (yb_load (n := 13) (off := 0) rfl Tw.kr Tw.m0 Try.underlying32 rfl Tw.kr (by first | (simp [Value.cells]; done) | exact Nat.le_of_ble_eq_true rfl) Tw.kr) ?_
 refine lv (v := .slice bp bs.length bc) rfl rfl (yb_cell (off := 0) rfl Tw.kr Tw.m1 Try.underlying33 rfl Tw.kr) ?_
 refine lv (v := .slice lq l.length ld) rfl rfl (yb_cell (off := 0) rfl Tw.kr Tw.m2 Try.underlying38 rfl Tw.kr) ?_
 refine lv (v := .int .i64 c) rfl rfl (yb_cell (off := 0) rfl Tw.kr Tw.m3 Try.underlying3 rfl Tw.kr) ?_
 refine wpL_c (f := 41) (args := #[.agg (shC (.slice pc cs.length cc) (.slice po on co) (tlT t tol)).toArray, .slice bp bs.length bc, .slice lq l.length ld, .int .i64 c]) (fun v K9 => ∃ u, v = .agg (ldnC (ldCol cs c) u (ldTol cs c tol)).toArray ∧ OutHL loC 143 [(b1, .cells (shC (.slice pc cs.length cc) (.slice po on co) (tlT t tol)).toArray 32 (0, 0)), (b2, .cells #[.slice bp bs.length bc] 33 (0, 0)), (b3, .cells #[.slice lq l.length ld] 38 (0, 0)), (b4, .cells #[.int .i64 c] 3 (0, 0))] (ldPile bs l cs c) u K9) rfl Tw.kr Tw.kf (fun W hW => calls_ldn hW (ladenOf_any cs pc cc Tw.om po on co t tol bs bp bc Tw.om l lq ld Tw.om c W ((RL.base (hc _ hBw)) _ (hW.sub (fun _ h => by cases h))) ((RL.base (hp _ hBw)) _ (hW.sub (fun _ h => by cases h))) ((RL.base (hs _ hBw)) _ (hW.sub (fun _ h => by cases h))))) Tw.pf ?_
 rintro _ _ ⟨_, rfl, p6, c6, Kl6, rfl, R6, T6, N6, rfl⟩
 obtain ⟨dj7_0, dj7_1, dj7_2, dj7_3⟩ : Dk b1 Kl6 ∧ Dk b2 Kl6 ∧ Dk b3 Kl6 ∧ Dk b4 Kl6 := Tw.djf N6
 have hTKl6 : ∀ p ∈ Kl6, p.2.isCells = true ∧ ownT [71, 58] p.2 = false := fun p hp => by obtain ⟨cur, e⟩ := T6 p hp; rw [e]; exact ⟨rfl, rfl⟩
 refine wpL_new (fun g => .pointer (some ⟨g, 0, none⟩)) (obi := .cells #[.int .i64 0, .int .i64 0, .bool false, .int .i64 0, .int .i64 0, .int .i64 0, .int .i64 0, .int .i64 0, .slice none 0 0, .int .i64 0, .int .i64 0, .int .i64 0, .slice none 0 0, .int .i64 0] 103 (0, 0)) rfl rfl Tw.kf Tw.pf fun g8 Bg8 Fg8 => ?_
 obtain ⟨dj9_0, dj9_1, dj9_2, dj9_3, dj9_4⟩ : b1 ≠ g8 ∧ b2 ≠ g8 ∧ b3 ≠ g8 ∧ b4 ≠ g8 ∧ Dk g8 Kl6 := Tw.dkf Fg8
 refine wpL_s ((g8, .cells (ldnC (ldCol cs c) (.slice p6 ((ldPile bs l cs c).length) c6) (ldTol cs c tol)).toArray 103 (0, 0)) :: (b1, .cells (shC (.slice pc cs.length cc) (.slice po on co) (tlT t tol)).toArray 32 (0, 0)) :: (b2, .cells #[.slice bp bs.length bc] 33 (0, 0)) :: (b3, .cells #[.slice lq l.length ld] 38 (0, 0)) :: (b4, .cells #[.int .i64 c] 3 (0, 0)) :: Kl6) rfl rfl (st_row (off := 0) (v := .agg (ldnC (ldCol cs c) (.slice p6 ((ldPile bs l cs c).length) c6) (ldTol cs c tol)).toArray) rfl Tw.kr Tw.kr Tw.m0 Bg8 Tw.kr (by first | (simp [Value.cells]; done) | exact Nat.le_of_ble_eq_true rfl) (fun v hv => ldnC_one (ldCol cs c) (ldTol cs c tol) rfl v hv) Tw.kr (List.forall_mem_cons.2 ⟨.inl rfl, (List.forall_mem_cons.2 ⟨.inr ⟨Tw.m1, Tw.nee⟩, (List.forall_mem_cons.2 ⟨.inr ⟨Tw.m2, Tw.nee⟩, (List.forall_mem_cons.2 ⟨.inr ⟨Tw.m3, Tw.nee⟩, (List.forall_mem_cons.2 ⟨.inr ⟨Tw.m4, Tw.nee⟩, (fun p hp => .inr ⟨(.tail _ (.tail _ (.tail _ (.tail _ (.tail _ hp))))), ((show Dk g8 Kl6 from Tw.djt) _ hp)⟩)⟩)⟩)⟩)⟩)⟩)) ?_
 refine wpL_done (fun W2 hW2 => ?_)
 have hR2 : KS (W2 : World) ((g8, .cells (ldnC (ldCol cs c) (.slice p6 ((ldPile bs l cs c).length) c6) (ldTol cs c tol)).toArray 103 (0, 0)) :: (b1, .cells (shC (.slice pc cs.length cc) (.slice po on co) (tlT t tol)).toArray 32 (0, 0)) :: (b2, .cells #[.slice bp bs.length bc] 33 (0, 0)) :: (b3, .cells #[.slice lq l.length ld] 38 (0, 0)) :: (b4, .cells #[.int .i64 c] 3 (0, 0)) :: Kl6) W2 := ⟨Below.refl _ _, hW2.2⟩
 have hJ2 := abideK hJa hJ0 hW2
 have hB2 := hBw.trans (hW2.1.mono (Nat.le_trans hn0 hBw.size))
 refine (show Code.wpIn _ _ _ _ _ _ _ from ?_)
 refine wpIn_seq ?_
 refine wp_region_LI (W0 := (W2 : World)) ((g8, .cells (ldnC (ldCol cs c) (.slice p6 ((ldPile bs l cs c).length) c6) (ldTol cs c tol)).toArray 103 (0, 0)) :: (b1, .cells (shC (.slice pc cs.length cc) (.slice po on co) (tlT t tol)).toArray 32 (0, 0)) :: (b2, .cells #[.slice bp bs.length bc] 33 (0, 0)) :: (b3, .cells #[.slice lq l.length ld] 38 (0, 0)) :: (b4, .cells #[.int .i64 c] 3 (0, 0)) :: Kl6) Tw.kr (hR2) ?_
 refine lm (v := .pointer (some ⟨g8, 12, none⟩)) rfl rfl ?_
 refine lv (v := .slice p6 ((ldPile bs l cs c).length) c6) rfl rfl (yb_cell (off := 12) rfl Tw.kr Tw.m0 Try.underlying101 rfl Tw.kr) ?_
 refine lv (v := .agg #[.int .i64 (kilX (halfP 1) (ldPile bs l cs c)), .int .i64 (kilX (halfP 2) (ldPile bs l cs c)), .int .i64 (kilX allP (ldPile bs l cs c))]) rfl rfl (yb_call (f := 42) (args := #[.slice p6 ((ldPile bs l cs c).length) c6]) Tw.kf fun W hW => weigh_any (ldPile bs l cs c) p6 c6 (Nat.le_trans (ldPile_len _ _ _ _) Tw.om) W ((HLx.rl R6) _ (hW.sub (fun p hp => by simp only [List.mem_cons, List.mem_append, List.nil_append, List.not_mem_nil, or_assoc, or_false, false_or, hp, true_or, or_true])))) ?_
 refine wpL_new (fun g => .pointer (some ⟨g, 0, none⟩)) (obi := .cells #[.int .i64 0, .int .i64 0, .int .i64 0] 66 (0, 0)) rfl rfl Tw.kf Tw.pf fun g10 Bg10 Fg10 => ?_
 obtain ⟨dj11_0, dj11_1, dj11_2, dj11_3, dj11_4, dj11_5⟩ : g8 ≠ g10 ∧ b1 ≠ g10 ∧ b2 ≠ g10 ∧ b3 ≠ g10 ∧ b4 ≠ g10 ∧ Dk g10 Kl6 := Tw.dkf Fg10
 refine wpL_s ((g10, .cells #[.int .i64 (kilX (halfP 1) (ldPile bs l cs c)), .int .i64 (kilX (halfP 2) (ldPile bs l cs c)), .int .i64 (kilX allP (ldPile bs l cs c))] 66 (0, 0)) :: (g8, .cells (ldnC (ldCol cs c) (.slice p6 ((ldPile bs l cs c).length) c6) (ldTol cs c tol)).toArray 103 (0, 0)) :: (b1, .cells (shC (.slice pc cs.length cc) (.slice po on co) (tlT t tol)).toArray 32 (0, 0)) :: (b2, .cells #[.slice bp bs.length bc] 33 (0, 0)) :: (b3, .cells #[.slice lq l.length ld] 38 (0, 0)) :: (b4, .cells #[.int .i64 c] 3 (0, 0)) :: Kl6) rfl rfl (st_row (off := 0) (v := .agg #[.int .i64 (kilX (halfP 1) (ldPile bs l cs c)), .int .i64 (kilX (halfP 2) (ldPile bs l cs c)), .int .i64 (kilX allP (ldPile bs l cs c))]) rfl Tw.kr Tw.kr Tw.m0 Bg10 Tw.kr (by first | (simp [Value.cells]; done) | exact Nat.le_of_ble_eq_true rfl) (by intro v hv; simp [Value.cells] at hv; first | (subst hv; rfl) | (rcases hv with rfl | rfl | rfl <;> rfl)) Tw.kr (List.forall_mem_cons.2 ⟨.inl rfl, (List.forall_mem_cons.2 ⟨.inr ⟨Tw.m1, Tw.nee⟩, (List.forall_mem_cons.2 ⟨.inr ⟨Tw.m2, Tw.nee⟩, (List.forall_mem_cons.2 ⟨.inr ⟨Tw.m3, Tw.nee⟩, (List.forall_mem_cons.2 ⟨.inr ⟨Tw.m4, Tw.nee⟩, (List.forall_mem_cons.2 ⟨.inr ⟨Tw.m5, Tw.nee⟩, (fun p hp => .inr ⟨(.tail _ (.tail _ (.tail _ (.tail _ (.tail _ (.tail _ hp)))))), ((show Dk g10 Kl6 from Tw.djt) _ hp)⟩)⟩)⟩)⟩)⟩)⟩)⟩)) ?_
 refine wpL_done (fun W3 hW3 => ?_)
 have hR3 : KS (W3 : World) ((g10, .cells #[.int .i64 (kilX (halfP 1) (ldPile bs l cs c)), .int .i64 (kilX (halfP 2) (ldPile bs l cs c)), .int .i64 (kilX allP (ldPile bs l cs c))] 66 (0, 0)) :: (g8, .cells (ldnC (ldCol cs c) (.slice p6 ((ldPile bs l cs c).length) c6) (ldTol cs c tol)).toArray 103 (0, 0)) :: (b1, .cells (shC (.slice pc cs.length cc) (.slice po on co) (tlT t tol)).toArray 32 (0, 0)) :: (b2, .cells #[.slice bp bs.length bc] 33 (0, 0)) :: (b3, .cells #[.slice lq l.length ld] 38 (0, 0)) :: (b4, .cells #[.int .i64 c] 3 (0, 0)) :: Kl6) W3 := ⟨Below.refl _ _, hW3.2⟩
 have hJ3 := abideK hJa hJ2 hW3
 have hB3 := hB2.trans (hW3.1.mono (Nat.le_trans hn0 hB2.size))
 refine (show Code.wpIn _ _ _ _ _ _ _ from ?_)
 refine wpIn_seq ?_
 refine wpIn_seq ?_
 refine wp_region_LI (W0 := (W3 : World)) ((g10, .cells #[.int .i64 (kilX (halfP 1) (ldPile bs l cs c)), .int .i64 (kilX (halfP 2) (ldPile bs l cs c)), .int .i64 (kilX allP (ldPile bs l cs c))] 66 (0, 0)) :: (g8, .cells (ldnC (ldCol cs c) (.slice p6 ((ldPile bs l cs c).length) c6) (ldTol cs c tol)).toArray 103 (0, 0)) :: (b1, .cells (shC (.slice pc cs.length cc) (.slice po on co) (tlT t tol)).toArray 32 (0, 0)) :: (b2, .cells #[.slice bp bs.length bc] 33 (0, 0)) :: (b3, .cells #[.slice lq l.length ld] 38 (0, 0)) :: (b4, .cells #[.int .i64 c] 3 (0, 0)) :: Kl6) Tw.kr (hR3) ?_
 refine lm (v := .pointer (some ⟨g10, 0, none⟩)) rfl rfl ?_
 refine lv (v := .int .i64 (kilX (halfP 1) (ldPile bs l cs c))) rfl rfl (yb_cell (off := 0) rfl Tw.kr Tw.m0 Try.underlying3 rfl Tw.kr) ?_
 refine lm (v := .pointer (some ⟨g8, 0, none⟩)) rfl rfl ?_
 refine lm (v := .pointer (some ⟨g8, 5, none⟩)) rfl rfl ?_
 refine lv (v := .int .i64 ((ldCol cs c).k20)) rfl rfl (yb_cell (off := 5) rfl Tw.kr Tw.m1 Try.underlying3 rfl Tw.kr) ?_
 refine lm (v := .agg #[.int .u8 1, .int .i64 (kilX (halfP 1) (ldPile bs l cs c)), .int .i64 ((ldCol cs c).k20)]) rfl rfl ?_
 refine lm (v := .pointer (some ⟨g10, 1, none⟩)) rfl rfl ?_
 refine lv (v := .int .i64 (kilX (halfP 2) (ldPile bs l cs c))) rfl rfl (yb_cell (off := 1) rfl Tw.kr Tw.m0 Try.underlying3 rfl Tw.kr) ?_
 refine lm (v := .pointer (some ⟨g8, 0, none⟩)) rfl rfl ?_
 refine lm (v := .pointer (some ⟨g8, 5, none⟩)) rfl rfl ?_
 refine lv (v := .int .i64 ((ldCol cs c).k20)) rfl rfl (yb_cell (off := 5) rfl Tw.kr Tw.m1 Try.underlying3 rfl Tw.kr) ?_
 refine lm (v := .agg #[.int .u8 2, .int .i64 (kilX (halfP 2) (ldPile bs l cs c)), .int .i64 ((ldCol cs c).k20)]) rfl rfl ?_
 refine lm (v := .pointer (some ⟨g10, 2, none⟩)) rfl rfl ?_
 refine lv (v := .int .i64 (kilX allP (ldPile bs l cs c))) rfl rfl (yb_cell (off := 2) rfl Tw.kr Tw.m0 Try.underlying3 rfl Tw.kr) ?_
 refine lm (v := .pointer (some ⟨g8, 0, none⟩)) rfl rfl ?_
 refine lm (v := .pointer (some ⟨g8, 6, none⟩)) rfl rfl ?_
 refine lv (v := .int .i64 ((ldCol cs c).k40)) rfl rfl (yb_cell (off := 6) rfl Tw.kr Tw.m1 Try.underlying3 rfl Tw.kr) ?_
 refine lm (v := .agg #[.int .u8 3, .int .i64 (kilX allP (ldPile bs l cs c)), .int .i64 ((ldCol cs c).k40)]) rfl rfl ?_
 refine lm (v := .agg #[.int .u8 1, .int .i64 (kilX (halfP 1) (ldPile bs l cs c)), .int .i64 ((ldCol cs c).k20), .int .u8 2, .int .i64 (kilX (halfP 2) (ldPile bs l cs c)), .int .i64 ((ldCol cs c).k20), .int .u8 3, .int .i64 (kilX allP (ldPile bs l cs c)), .int .i64 ((ldCol cs c).k40)]) rfl rfl ?_
 refine lm (v := .int .i64 0) rfl rfl ?_
 refine wpL_done (fun W4 hW4 => ?_)
 have hR4 : KS (W4 : World) ((g10, .cells #[.int .i64 (kilX (halfP 1) (ldPile bs l cs c)), .int .i64 (kilX (halfP 2) (ldPile bs l cs c)), .int .i64 (kilX allP (ldPile bs l cs c))] 66 (0, 0)) :: (g8, .cells (ldnC (ldCol cs c) (.slice p6 ((ldPile bs l cs c).length) c6) (ldTol cs c tol)).toArray 103 (0, 0)) :: (b1, .cells (shC (.slice pc cs.length cc) (.slice po on co) (tlT t tol)).toArray 32 (0, 0)) :: (b2, .cells #[.slice bp bs.length bc] 33 (0, 0)) :: (b3, .cells #[.slice lq l.length ld] 38 (0, 0)) :: (b4, .cells #[.int .i64 c] 3 (0, 0)) :: Kl6) W4 := ⟨Below.refl _ _, hW4.2⟩
 have hJ4 := abideK hJa hJ3 hW4
 have hB4 := hB3.trans (hW4.1.mono (Nat.le_trans hn0 hB3.size))
 refine (show Code.wpIn _ _ _ _ _ _ _ from ?_)
 refine wpIn_block ?_
 have hxs0 : faultsX cs bs l tol c = [] ++ (heavyF (ldCol cs c) (ldPile bs l cs c) c 3 0 ++ topF (ldCol cs c) (ldPile bs l cs c) (ldTol cs c tol) c (ldPile bs l cs c)) := rfl
 gi_loopw [41] (fun u41 wr => ∃ (k r0 : Nat) (pre1 : List Ft), (k + r0 = 3) ∧ (faultsX cs bs l tol c = pre1 ++ (heavyF (ldCol cs c) (ldPile bs l cs c) c r0 k ++ topF (ldCol cs c) (ldPile bs l cs c) (ldTol cs c tol) c (ldPile bs l cs c))) ∧ (J pre1 wr) ∧ (Below n₀ w0 wr) ∧ u41 = .int .i64 ((k : Nat) : Int) ∧ KS (wr : World) ((g10, .cells #[.int .i64 (kilX (halfP 1) (ldPile bs l cs c)), .int .i64 (kilX (halfP 2) (ldPile bs l cs c)), .int .i64 (kilX allP (ldPile bs l cs c))] 66 (0, 0)) :: (g8, .cells (ldnC (ldCol cs c) (.slice p6 ((ldPile bs l cs c).length) c6) (ldTol cs c tol)).toArray 103 (0, 0)) :: (b1, .cells (shC (.slice pc cs.length cc) (.slice po on co) (tlT t tol)).toArray 32 (0, 0)) :: (b2, .cells #[.slice bp bs.length bc] 33 (0, 0)) :: (b3, .cells #[.slice lq l.length ld] 38 (0, 0)) :: (b4, .cells #[.int .i64 c] 3 (0, 0)) :: Kl6) wr) (fun u41 _ => 3 - (intOf u41).toNat)
 case atStart => exact ⟨0, 3, [], Tw.om, hxs0, hJ4, hB4, rfl, (hR4.sub (fun p hp => by first | exact hp | (simp only [List.mem_cons, List.mem_append, List.nil_append, List.not_mem_nil, or_assoc, or_false, false_or] at hp ⊢ <;> grind)))⟩
 case round =>
   obtain ⟨k, r0, pre1, hk, hx1, hJl4, hBl4, rfl, hL5⟩ := hrel
   have hRl4 := hL5
   refine wpIn_seq ?_
   refine wp_region_LI (W0 := (wr : World)) ((g10, .cells #[.int .i64 (kilX (halfP 1) (ldPile bs l cs c)), .int .i64 (kilX (halfP 2) (ldPile bs l cs c)), .int .i64 (kilX allP (ldPile bs l cs c))] 66 (0, 0)) :: (g8, .cells (ldnC (ldCol cs c) (.slice p6 ((ldPile bs l cs c).length) c6) (ldTol cs c tol)).toArray 103 (0, 0)) :: (b1, .cells (shC (.slice pc cs.length cc) (.slice po on co) (tlT t tol)).toArray 32 (0, 0)) :: (b2, .cells #[.slice bp bs.length bc] 33 (0, 0)) :: (b3, .cells #[.slice lq l.length ld] 38 (0, 0)) :: (b4, .cells #[.int .i64 c] 3 (0, 0)) :: Kl6) Tw.kr (hRl4) ?_
   refine lp (v := .bool (decide (k < 3))) rfl rfl (run_bin rfl (vx := (.int .i64 ((k : Nat) : Int))) (vy := (.int .i64 ((3 : Nat) : Int))) Tw.kr Tw.kr fun w => bn_lss rfl w) ?_
   refine wpL_done (fun W6 hW6 => ?_)
   have hR6 : KS (W6 : World) ((g10, .cells #[.int .i64 (kilX (halfP 1) (ldPile bs l cs c)), .int .i64 (kilX (halfP 2) (ldPile bs l cs c)), .int .i64 (kilX allP (ldPile bs l cs c))] 66 (0, 0)) :: (g8, .cells (ldnC (ldCol cs c) (.slice p6 ((ldPile bs l cs c).length) c6) (ldTol cs c tol)).toArray 103 (0, 0)) :: (b1, .cells (shC (.slice pc cs.length cc) (.slice po on co) (tlT t tol)).toArray 32 (0, 0)) :: (b2, .cells #[.slice bp bs.length bc] 33 (0, 0)) :: (b3, .cells #[.slice lq l.length ld] 38 (0, 0)) :: (b4, .cells #[.int .i64 c] 3 (0, 0)) :: Kl6) W6 := ⟨Below.refl _ _, hW6.2⟩
   have hJ6 := abideK hJa hJl4 hW6
   have hB6 := hBl4.trans (hW6.1.mono (Nat.le_trans hn0 hBl4.size))
   refine (show Code.wpIn _ _ _ _ _ _ _ from ?_)
   refine wpIn_seq ?_
   cases hd1 : (decide (k < 3)) with
   | false =>
     have h1 : ¬ (k < 3) := of_decide_eq_false hd1
     clear hd1
     refine wpIn_cond_false rfl ?_
     refine wpIn_exit ?_
     refine (show Code.wpIn _ _ _ _ _ _ _ from ?_)
     refine wpIn_seq ?_
     refine wp_region_LI (W0 := (W6 : World)) ((g10, .cells #[.int .i64 (kilX (halfP 1) (ldPile bs l cs c)), .int .i64 (kilX (halfP 2) (ldPile bs l cs c)), .int .i64 (kilX allP (ldPile bs l cs c))] 66 (0, 0)) :: (g8, .cells (ldnC (ldCol cs c) (.slice p6 ((ldPile bs l cs c).length) c6) (ldTol cs c tol)).toArray 103 (0, 0)) :: (b1, .cells (shC (.slice pc cs.length cc) (.slice po on co) (tlT t tol)).toArray 32 (0, 0)) :: (b2, .cells #[.slice bp bs.length bc] 33 (0, 0)) :: (b3, .cells #[.slice lq l.length ld] 38 (0, 0)) :: (b4, .cells #[.int .i64 c] 3 (0, 0)) :: Kl6) Tw.kr (hR6) ?_
     refine lm (v := .pointer (some ⟨g8, 12, none⟩)) rfl rfl ?_
     refine lv (v := .slice p6 ((ldPile bs l cs c).length) c6) rfl rfl (yb_cell (off := 12) rfl Tw.kr Tw.m1 Try.underlying101 rfl Tw.kr) ?_
     refine lp (v := .int .i64 ((((ldPile bs l cs c).length) : Nat) : Int)) rfl rfl (run_lenL (p := p6) (cap := c6) (n := (ldPile bs l cs c).length) rfl Try.underlying101 Tw.kr) ?_
     refine lm (v := .int .i64 0) rfl rfl ?_
     refine wpL_done (fun W7 hW7 => ?_)
     have hR7 : KS (W7 : World) ((g10, .cells #[.int .i64 (kilX (halfP 1) (ldPile bs l cs c)), .int .i64 (kilX (halfP 2) (ldPile bs l cs c)), .int .i64 (kilX allP (ldPile bs l cs c))] 66 (0, 0)) :: (g8, .cells (ldnC (ldCol cs c) (.slice p6 ((ldPile bs l cs c).length) c6) (ldTol cs c tol)).toArray 103 (0, 0)) :: (b1, .cells (shC (.slice pc cs.length cc) (.slice po on co) (tlT t tol)).toArray 32 (0, 0)) :: (b2, .cells #[.slice bp bs.length bc] 33 (0, 0)) :: (b3, .cells #[.slice lq l.length ld] 38 (0, 0)) :: (b4, .cells #[.int .i64 c] 3 (0, 0)) :: Kl6) W7 := ⟨Below.refl _ _, hW7.2⟩
     have hJ7 := abideK hJa hJ6 hW7
     have hB7 := hB6.trans (hW7.1.mono (Nat.le_trans hn0 hB6.size))
     refine (show Code.wpIn _ _ _ _ _ _ _ from ?_)
     refine wpIn_block ?_
     obtain rfl : r0 = 0 := by omega
     gi_loopw [62] (fun u62 wr => ∃ (j : Nat) (pre2 : List Ft), (j ≤ (ldPile bs l cs c).length) ∧ (faultsX cs bs l tol c = pre2 ++ topF (ldCol cs c) (ldPile bs l cs c) (ldTol cs c tol) c ((ldPile bs l cs c).drop j)) ∧ (J pre2 wr) ∧ (Below n₀ w0 wr) ∧ u62 = .int .i64 ((j : Nat) : Int) ∧ KS (wr : World) ((g10, .cells #[.int .i64 (kilX (halfP 1) (ldPile bs l cs c)), .int .i64 (kilX (halfP 2) (ldPile bs l cs c)), .int .i64 (kilX allP (ldPile bs l cs c))] 66 (0, 0)) :: (g8, .cells (ldnC (ldCol cs c) (.slice p6 ((ldPile bs l cs c).length) c6) (ldTol cs c tol)).toArray 103 (0, 0)) :: (b1, .cells (shC (.slice pc cs.length cc) (.slice po on co) (tlT t tol)).toArray 32 (0, 0)) :: (b2, .cells #[.slice bp bs.length bc] 33 (0, 0)) :: (b3, .cells #[.slice lq l.length ld] 38 (0, 0)) :: (b4, .cells #[.int .i64 c] 3 (0, 0)) :: Kl6) wr) (fun u62 _ => (ldPile bs l cs c).length - (intOf u62).toNat)
     case atStart => exact ⟨0, pre1, (Nat.zero_le _), (by rw [hx1]; rfl), hJ7, hB7, rfl, (hR7.sub (fun p hp => by first | exact hp | (simp only [List.mem_cons, List.mem_append, List.nil_append, List.not_mem_nil, or_assoc, or_false, false_or] at hp ⊢ <;> grind)))⟩
     case round =>
       obtain ⟨j, pre2, hj, hx2, hJl7, hBl7, rfl, hL8⟩ := hrel
       have hRl7 := hL8
       refine wpIn_seq ?_
       refine wp_region_LI (W0 := (wr : World)) ((g10, .cells #[.int .i64 (kilX (halfP 1) (ldPile bs l cs c)), .int .i64 (kilX (halfP 2) (ldPile bs l cs c)), .int .i64 (kilX allP (ldPile bs l cs c))] 66 (0, 0)) :: (g8, .cells (ldnC (ldCol cs c) (.slice p6 ((ldPile bs l cs c).length) c6) (ldTol cs c tol)).toArray 103 (0, 0)) :: (b1, .cells (shC (.slice pc cs.length cc) (.slice po on co) (tlT t tol)).toArray 32 (0, 0)) :: (b2, .cells #[.slice bp bs.length bc] 33 (0, 0)) :: (b3, .cells #[.slice lq l.length ld] 38 (0, 0)) :: (b4, .cells #[.int .i64 c] 3 (0, 0)) :: Kl6) Tw.kr (hRl7) ?_
       refine lp (v := .bool (decide (j < ((ldPile bs l cs c).length)))) rfl rfl (run_bin rfl (vx := (.int .i64 ((j : Nat) : Int))) (vy := (.int .i64 ((((ldPile bs l cs c).length) : Nat) : Int))) Tw.kr Tw.kr fun w => bn_lss rfl w) ?_
       refine wpL_done (fun W9 hW9 => ?_)
       have hR9 : KS (W9 : World) ((g10, .cells #[.int .i64 (kilX (halfP 1) (ldPile bs l cs c)), .int .i64 (kilX (halfP 2) (ldPile bs l cs c)), .int .i64 (kilX allP (ldPile bs l cs c))] 66 (0, 0)) :: (g8, .cells (ldnC (ldCol cs c) (.slice p6 ((ldPile bs l cs c).length) c6) (ldTol cs c tol)).toArray 103 (0, 0)) :: (b1, .cells (shC (.slice pc cs.length cc) (.slice po on co) (tlT t tol)).toArray 32 (0, 0)) :: (b2, .cells #[.slice bp bs.length bc] 33 (0, 0)) :: (b3, .cells #[.slice lq l.length ld] 38 (0, 0)) :: (b4, .cells #[.int .i64 c] 3 (0, 0)) :: Kl6) W9 := ⟨Below.refl _ _, hW9.2⟩
       have hJ9 := abideK hJa hJl7 hW9
       have hB9 := hBl7.trans (hW9.1.mono (Nat.le_trans hn0 hBl7.size))
       refine (show Code.wpIn _ _ _ _ _ _ _ from ?_)
       refine wpIn_seq ?_
       cases hd2 : (decide (j < ((ldPile bs l cs c).length))) with
       | false =>
         have h2 : ¬ (j < ((ldPile bs l cs c).length)) := of_decide_eq_false hd2
         clear hd2
         refine wpIn_cond_false rfl ?_
         refine wpIn_exit ?_
         simp only [then_exitX, inBlock_exitX]
         refine bodyPost_end (results_none rfl _ _ _) rfl ?_
         rw [topF_end Tw.om, List.append_nil] at hx2
         exact ⟨⟨_, rfl⟩, .inl ⟨_, hx2.symm, hJ9⟩⟩
       | true =>
         have h2 : j < ((ldPile bs l cs c).length) := of_decide_eq_true hd2
         clear hd2
         refine wpIn_cond_true rfl ?_
         refine wpIn_skip ?_
         refine (show Code.wpIn _ _ _ _ _ _ _ from ?_)
         refine wpIn_seq ?_
         refine wpIn_block ?_
         refine wpIn_seq ?_
         refine wp_region_LI (W0 := (W9 : World)) ((g10, .cells #[.int .i64 (kilX (halfP 1) (ldPile bs l cs c)), .int .i64 (kilX (halfP 2) (ldPile bs l cs c)), .int .i64 (kilX allP (ldPile bs l cs c))] 66 (0, 0)) :: (g8, .cells (ldnC (ldCol cs c) (.slice p6 ((ldPile bs l cs c).length) c6) (ldTol cs c tol)).toArray 103 (0, 0)) :: (b1, .cells (shC (.slice pc cs.length cc) (.slice po on co) (tlT t tol)).toArray 32 (0, 0)) :: (b2, .cells #[.slice bp bs.length bc] 33 (0, 0)) :: (b3, .cells #[.slice lq l.length ld] 38 (0, 0)) :: (b4, .cells #[.int .i64 c] 3 (0, 0)) :: Kl6) Tw.kr (hR9) ?_
         obtain ⟨y12, g12_, f12_, hy12, hp12, hc12⟩ := RL.at (HLx.rl R6) loC_len (by decide) (hR9.sub (fun p hp => by simp only [List.mem_cons, List.mem_append, List.nil_append, List.not_mem_nil, or_assoc, or_false, false_or, hp, true_or, or_true])) (k := j) Tw.om
         refine lp (v := .pointer (some ⟨g12_, f12_ + j * 5, none⟩)) rfl rfl (run_idxQ (p := p6) (cap := c6) (n := (ldPile bs l cs c).length) (j := .i64) (k := j) (sz := 5) rfl Try.underlying101 Tw.kr Tw.kr hp12 Tw.kr Tw.om) ?_
         refine lv (v := .agg (loC y12).toArray) rfl rfl (yb_rs (off := f12_ + j * 5) (cs := loC y12) rfl Tw.kr (fun W hW => hc12 W (hW.sub (fun p hp => by simp only [List.mem_cons, List.mem_append, List.nil_append, List.not_mem_nil, or_assoc, or_false, false_or, hp, true_or, or_true]))) Try.underlying143 rfl Tw.kr) ?_
         refine wpL_new (fun g => .pointer (some ⟨g, 0, none⟩)) (obi := .cells #[.int .i64 0, .int .i64 0, .int .i64 0, .int .u8 0, .int .i64 0] 143 (0, 0)) rfl rfl Tw.kf Tw.pf fun g13 Bg13 Fg13 => ?_
         obtain ⟨dj14_0, dj14_1, dj14_2, dj14_3, dj14_4, dj14_5, dj14_6⟩ : g10 ≠ g13 ∧ g8 ≠ g13 ∧ b1 ≠ g13 ∧ b2 ≠ g13 ∧ b3 ≠ g13 ∧ b4 ≠ g13 ∧ Dk g13 Kl6 := Tw.dkf Fg13
         refine wpL_s ((g13, .cells (loC y12).toArray 143 (0, 0)) :: (g10, .cells #[.int .i64 (kilX (halfP 1) (ldPile bs l cs c)), .int .i64 (kilX (halfP 2) (ldPile bs l cs c)), .int .i64 (kilX allP (ldPile bs l cs c))] 66 (0, 0)) :: (g8, .cells (ldnC (ldCol cs c) (.slice p6 ((ldPile bs l cs c).length) c6) (ldTol cs c tol)).toArray 103 (0, 0)) :: (b1, .cells (shC (.slice pc cs.length cc) (.slice po on co) (tlT t tol)).toArray 32 (0, 0)) :: (b2, .cells #[.slice bp bs.length bc] 33 (0, 0)) :: (b3, .cells #[.slice lq l.length ld] 38 (0, 0)) :: (b4, .cells #[.int .i64 c] 3 (0, 0)) :: Kl6) rfl rfl (st_row (off := 0) (v := .agg (loC y12).toArray) rfl Tw.kr Tw.kr Tw.m0 Bg13 Tw.kr (by first | (simp [Value.cells]; done) | exact Nat.le_of_ble_eq_true rfl) (fun v hv => loC_one y12 v hv) Tw.kr (List.forall_mem_cons.2 ⟨.inl rfl, (List.forall_mem_cons.2 ⟨.inr ⟨Tw.m1, Tw.nee⟩, (List.forall_mem_cons.2 ⟨.inr ⟨Tw.m2, Tw.nee⟩, (List.forall_mem_cons.2 ⟨.inr ⟨Tw.m3, Tw.nee⟩, (List.forall_mem_cons.2 ⟨.inr ⟨Tw.m4, Tw.nee⟩, (List.forall_mem_cons.2 ⟨.inr ⟨Tw.m5, Tw.nee⟩, (List.forall_mem_cons.2 ⟨.inr ⟨(.tail _ Tw.m5), Tw.nee⟩, (fun p hp => .inr ⟨(.tail _ (.tail _ (.tail _ (.tail _ (.tail _ (.tail _ (.tail _ hp))))))), ((show Dk g13 Kl6 from Tw.djt) _ hp)⟩)⟩)⟩)⟩)⟩)⟩)⟩)⟩)) ?_
         refine wpL_done (fun W10 hW10 => ?_)
         have hR10 : KS (W10 : World) ((g13, .cells (loC y12).toArray 143 (0, 0)) :: (g10, .cells #[.int .i64 (kilX (halfP 1) (ldPile bs l cs c)), .int .i64 (kilX (halfP 2) (ldPile bs l cs c)), .int .i64 (kilX allP (ldPile bs l cs c))] 66 (0, 0)) :: (g8, .cells (ldnC (ldCol cs c) (.slice p6 ((ldPile bs l cs c).length) c6) (ldTol cs c tol)).toArray 103 (0, 0)) :: (b1, .cells (shC (.slice pc cs.length cc) (.slice po on co) (tlT t tol)).toArray 32 (0, 0)) :: (b2, .cells #[.slice bp bs.length bc] 33 (0, 0)) :: (b3, .cells #[.slice lq l.length ld] 38 (0, 0)) :: (b4, .cells #[.int .i64 c] 3 (0, 0)) :: Kl6) W10 := ⟨Below.refl _ _, hW10.2⟩
         have hJ10 := abideK hJa hJ9 hW10
         have hB10 := hB9.trans (hW10.1.mono (Nat.le_trans hn0 hB9.size))
         refine (show Code.wpIn _ _ _ _ _ _ _ from ?_)
         refine wpIn_seq ?_
         refine wp_region_LI (W0 := (W10 : World)) ((g13, .cells (loC y12).toArray 143 (0, 0)) :: (g10, .cells #[.int .i64 (kilX (halfP 1) (ldPile bs l cs c)), .int .i64 (kilX (halfP 2) (ldPile bs l cs c)), .int .i64 (kilX allP (ldPile bs l cs c))] 66 (0, 0)) :: (g8, .cells (ldnC (ldCol cs c) (.slice p6 ((ldPile bs l cs c).length) c6) (ldTol cs c tol)).toArray 103 (0, 0)) :: (b1, .cells (shC (.slice pc cs.length cc) (.slice po on co) (tlT t tol)).toArray 32 (0, 0)) :: (b2, .cells #[.slice bp bs.length bc] 33 (0, 0)) :: (b3, .cells #[.slice lq l.length ld] 38 (0, 0)) :: (b4, .cells #[.int .i64 c] 3 (0, 0)) :: Kl6) Tw.kr (hR10) ?_
         refine lv (v := .agg (ldnC (ldCol cs c) (.slice p6 ((ldPile bs l cs c).length) c6) (ldTol cs c tol)).toArray) rfl rfl (yb_load (n := 14) (off := 0) rfl Tw.kr Tw.m2 Try.underlying103 rfl Tw.kr (by first | (simp [Value.cells]; done) | exact Nat.le_of_ble_eq_true rfl) Tw.kr) ?_
         refine lm (v := .pointer (some ⟨g13, 0, none⟩)) rfl rfl ?_
         refine lm (v := .pointer (some ⟨g13, 1, none⟩)) rfl rfl ?_
         refine lv (v := .agg (sltC y12.sd.slot).toArray) rfl rfl (yb_load (n := 3) (off := 1) rfl Tw.kr Tw.m0 Try.underlying40 rfl Tw.kr (by first | (simp [Value.cells]; done) | exact Nat.le_of_ble_eq_true rfl) Tw.kr) ?_
         refine lv (v := .tuple #[.int .i64 (bearX (ldCol cs c) (ldPile bs l cs c) (ldTol cs c tol) y12.sd.slot), .bool (askB (ldCol cs c) y12.sd.slot)]) rfl rfl (yb_call (f := 43) (args := #[.agg (ldnC (ldCol cs c) (.slice p6 ((ldPile bs l cs c).length) c6) (ldTol cs c tol)).toArray, .agg (sltC y12.sd.slot).toArray]) Tw.kf fun W hW => bears_any (ldCol cs c) (ldPile bs l cs c) p6 c6 (Nat.le_trans (ldPile_len _ _ _ _) Tw.om) (ldTol cs c tol) y12.sd.slot W ((HLx.rl R6) _ (hW.sub (fun p hp => by simp only [List.mem_cons, List.mem_append, List.nil_append, List.not_mem_nil, or_assoc, or_false, false_or, hp, true_or, or_true])))) ?_
         refine lm (v := .tuple #[.int .i64 (bearX (ldCol cs c) (ldPile bs l cs c) (ldTol cs c tol) y12.sd.slot), .bool (askB (ldCol cs c) y12.sd.slot)]) rfl rfl ?_
         refine lm (v := .int .i64 (bearX (ldCol cs c) (ldPile bs l cs c) (ldTol cs c tol) y12.sd.slot)) rfl rfl ?_
         refine lm (v := .bool (askB (ldCol cs c) y12.sd.slot)) rfl rfl ?_
         refine lm (v := .int .i64 (bearX (ldCol cs c) (ldPile bs l cs c) (ldTol cs c tol) y12.sd.slot)) rfl rfl ?_
         refine lm (v := .bool (askB (ldCol cs c) y12.sd.slot)) rfl rfl ?_
         refine wpL_done (fun W11 hW11 => ?_)
         have hR11 : KS (W11 : World) ((g13, .cells (loC y12).toArray 143 (0, 0)) :: (g10, .cells #[.int .i64 (kilX (halfP 1) (ldPile bs l cs c)), .int .i64 (kilX (halfP 2) (ldPile bs l cs c)), .int .i64 (kilX allP (ldPile bs l cs c))] 66 (0, 0)) :: (g8, .cells (ldnC (ldCol cs c) (.slice p6 ((ldPile bs l cs c).length) c6) (ldTol cs c tol)).toArray 103 (0, 0)) :: (b1, .cells (shC (.slice pc cs.length cc) (.slice po on co) (tlT t tol)).toArray 32 (0, 0)) :: (b2, .cells #[.slice bp bs.length bc] 33 (0, 0)) :: (b3, .cells #[.slice lq l.length ld] 38 (0, 0)) :: (b4, .cells #[.int .i64 c] 3 (0, 0)) :: Kl6) W11 := ⟨Below.refl _ _, hW11.2⟩
         have hJ11 := abideK hJa hJ10 hW11
         have hB11 := hB10.trans (hW11.1.mono (Nat.le_trans hn0 hB10.size))
         refine (show Code.wpIn _ _ _ _ _ _ _ from ?_)
         refine wpIn_seq ?_
         refine wp_region_S (W0 := (W11 : World)) (List.take 14 _) (List.drop 14 _) ((g13, .cells (loC y12).toArray 143 (0, 0)) :: (g10, .cells #[.int .i64 (kilX (halfP 1) (ldPile bs l cs c)), .int .i64 (kilX (halfP 2) (ldPile bs l cs c)), .int .i64 (kilX allP (ldPile bs l cs c))] 66 (0, 0)) :: (g8, .cells (ldnC (ldCol cs c) (.slice p6 ((ldPile bs l cs c).length) c6) (ldTol cs c tol)).toArray 103 (0, 0)) :: (b1, .cells (shC (.slice pc cs.length cc) (.slice po on co) (tlT t tol)).toArray 32 (0, 0)) :: (b2, .cells #[.slice bp bs.length bc] 33 (0, 0)) :: (b3, .cells #[.slice lq l.length ld] 38 (0, 0)) :: (b4, .cells #[.int .i64 c] 3 (0, 0)) :: Kl6) (List.take_append_drop 14 _).symm Tw.kr (hR11) ?_
         simp only [List.take_succ_cons, List.take_zero, List.drop_succ_cons, List.drop_zero]
         refine lm (v := .bool (askB (ldCol cs c) y12.sd.slot)) rfl rfl ?_
         refine lm (v := .bool (askB (ldCol cs c) y12.sd.slot)) rfl rfl ?_
         cases h3 : (askB (ldCol cs c) y12.sd.slot) with
         | false =>
           rw [topF_drop hy12, top1_no1 h3] at hx2
           refine ln rfl ?_
           refine ln rfl ?_
           refine ln rfl ?_
           refine ln rfl ?_
           refine lm (v := .bool false) rfl rfl ?_
           refine lm (v := .bool false) rfl rfl ?_
           refine ln rfl ?_
           refine ln rfl ?_
           refine ln rfl ?_
           refine ln rfl ?_
           refine ln rfl ?_
           refine ln rfl ?_
           refine wpL_done (fun W12 hW12 => ?_)
           have hR12 : KS (W12 : World) ((g13, .cells (loC y12).toArray 143 (0, 0)) :: (g10, .cells #[.int .i64 (kilX (halfP 1) (ldPile bs l cs c)), .int .i64 (kilX (halfP 2) (ldPile bs l cs c)), .int .i64 (kilX allP (ldPile bs l cs c))] 66 (0, 0)) :: (g8, .cells (ldnC (ldCol cs c) (.slice p6 ((ldPile bs l cs c).length) c6) (ldTol cs c tol)).toArray 103 (0, 0)) :: (b1, .cells (shC (.slice pc cs.length cc) (.slice po on co) (tlT t tol)).toArray 32 (0, 0)) :: (b2, .cells #[.slice bp bs.length bc] 33 (0, 0)) :: (b3, .cells #[.slice lq l.length ld] 38 (0, 0)) :: (b4, .cells #[.int .i64 c] 3 (0, 0)) :: Kl6) W12 := ⟨Below.refl _ _, hW12.2⟩
           have hJ12 := abideK hJa hJ11 hW12
           have hB12 := hB11.trans (hW12.1.mono (Nat.le_trans hn0 hB11.size))
           refine (show wpListIn _ _ _ _ _ _ _ _ from ?_)
           refine wpl_rest (W0 := (W12 : World)) ((g13, .cells (loC y12).toArray 143 (0, 0)) :: (g10, .cells #[.int .i64 (kilX (halfP 1) (ldPile bs l cs c)), .int .i64 (kilX (halfP 2) (ldPile bs l cs c)), .int .i64 (kilX allP (ldPile bs l cs c))] 66 (0, 0)) :: (g8, .cells (ldnC (ldCol cs c) (.slice p6 ((ldPile bs l cs c).length) c6) (ldTol cs c tol)).toArray 103 (0, 0)) :: (b1, .cells (shC (.slice pc cs.length cc) (.slice po on co) (tlT t tol)).toArray 32 (0, 0)) :: (b2, .cells #[.slice bp bs.length bc] 33 (0, 0)) :: (b3, .cells #[.slice lq l.length ld] 38 (0, 0)) :: (b4, .cells #[.int .i64 c] 3 (0, 0)) :: Kl6) Tw.kr (hR12) ?_
           refine ln rfl ?_
           refine ln rfl ?_
           refine lm (v := .bool false) rfl rfl ?_
           refine wpL_done (fun W13 hW13 => ?_)
           have hR13 : KS (W13 : World) ((g13, .cells (loC y12).toArray 143 (0, 0)) :: (g10, .cells #[.int .i64 (kilX (halfP 1) (ldPile bs l cs c)), .int .i64 (kilX (halfP 2) (ldPile bs l cs c)), .int .i64 (kilX allP (ldPile bs l cs c))] 66 (0, 0)) :: (g8, .cells (ldnC (ldCol cs c) (.slice p6 ((ldPile bs l cs c).length) c6) (ldTol cs c tol)).toArray 103 (0, 0)) :: (b1, .cells (shC (.slice pc cs.length cc) (.slice po on co) (tlT t tol)).toArray 32 (0, 0)) :: (b2, .cells #[.slice bp bs.length bc] 33 (0, 0)) :: (b3, .cells #[.slice lq l.length ld] 38 (0, 0)) :: (b4, .cells #[.int .i64 c] 3 (0, 0)) :: Kl6) W13 := ⟨Below.refl _ _, hW13.2⟩
           have hJ13 := abideK hJa hJ12 hW13
           have hB13 := hB12.trans (hW13.1.mono (Nat.le_trans hn0 hB12.size))
           refine (show Code.wpIn _ _ _ _ _ _ _ from ?_)
           refine wpIn_cond_false rfl ?_
           refine wpIn_skip ?_
           refine (show Code.wpIn _ _ _ _ _ _ _ from ?_)
           refine wp_region_LI (W0 := (W13 : World)) ((g13, .cells (loC y12).toArray 143 (0, 0)) :: (g10, .cells #[.int .i64 (kilX (halfP 1) (ldPile bs l cs c)), .int .i64 (kilX (halfP 2) (ldPile bs l cs c)), .int .i64 (kilX allP (ldPile bs l cs c))] 66 (0, 0)) :: (g8, .cells (ldnC (ldCol cs c) (.slice p6 ((ldPile bs l cs c).length) c6) (ldTol cs c tol)).toArray 103 (0, 0)) :: (b1, .cells (shC (.slice pc cs.length cc) (.slice po on co) (tlT t tol)).toArray 32 (0, 0)) :: (b2, .cells #[.slice bp bs.length bc] 33 (0, 0)) :: (b3, .cells #[.slice lq l.length ld] 38 (0, 0)) :: (b4, .cells #[.int .i64 c] 3 (0, 0)) :: Kl6) Tw.kr (hR13) ?_
           refine lp (v := .int .i64 (((j + 1) : Nat) : Int)) rfl rfl (run_bin rfl (vx := (.int .i64 ((j : Nat) : Int))) (vy := (.int .i64 ((1 : Nat) : Int))) Tw.kr Tw.kr fun w => bn_add (z := (j + 1)) rfl (wr_i64 Tw.om) w) ?_
           refine lm (v := .int .i64 (((j + 1) : Nat) : Int)) rfl rfl ?_
           refine wpL_done (fun W14 hW14 => ?_)
           have hR14 : KS (W14 : World) ((g13, .cells (loC y12).toArray 143 (0, 0)) :: (g10, .cells #[.int .i64 (kilX (halfP 1) (ldPile bs l cs c)), .int .i64 (kilX (halfP 2) (ldPile bs l cs c)), .int .i64 (kilX allP (ldPile bs l cs c))] 66 (0, 0)) :: (g8, .cells (ldnC (ldCol cs c) (.slice p6 ((ldPile bs l cs c).length) c6) (ldTol cs c tol)).toArray 103 (0, 0)) :: (b1, .cells (shC (.slice pc cs.length cc) (.slice po on co) (tlT t tol)).toArray 32 (0, 0)) :: (b2, .cells #[.slice bp bs.length bc] 33 (0, 0)) :: (b3, .cells #[.slice lq l.length ld] 38 (0, 0)) :: (b4, .cells #[.int .i64 c] 3 (0, 0)) :: Kl6) W14 := ⟨Below.refl _ _, hW14.2⟩
           have hJ14 := abideK hJa hJ13 hW14
           have hB14 := hB13.trans (hW14.1.mono (Nat.le_trans hn0 hB13.size))
           go_roundw
           case rel =>
             repeat apply Exists.intro
             exact ⟨⟨j + 1, pre2, Tw.om, (by rw [hx2]; simp), hJ14, hB14, rfl, (hR14.sub (fun p hp => by first | exact hp | (simp only [List.mem_cons, List.mem_append, List.nil_append, List.not_mem_nil, or_assoc, or_false, false_or] at hp ⊢ <;> grind)))⟩, rfl⟩
           case measure => (show (ldPile bs l cs c).length - (intOf (.int .i64 (((j + 1) : Nat) : Int))).toNat < (ldPile bs l cs c).length - (intOf (.int .i64 ((j : Nat) : Int))).toNat); simp only [intOf]; omega
         | true =>
           refine lm (v := .pointer (some ⟨g13, 4, none⟩)) rfl rfl ?_
           refine lv (v := .int .i64 y12.k) rfl rfl (yb_cell (off := 4) rfl Tw.kr Tw.m0 Try.underlying3 rfl Tw.kr) ?_
           refine lm (v := .int .i64 (bearX (ldCol cs c) (ldPile bs l cs c) (ldTol cs c tol) y12.sd.slot)) rfl rfl ?_
           refine lp (v := .bool (decide ((bearX (ldCol cs c) (ldPile bs l cs c) (ldTol cs c tol) y12.sd.slot) < y12.k))) rfl rfl (run_bin rfl (vx := (.int .i64 y12.k)) (vy := (.int .i64 (bearX (ldCol cs c) (ldPile bs l cs c) (ldTol cs c tol) y12.sd.slot))) Tw.kr Tw.kr fun w => bi_gtr rfl w) ?_
           refine lm (v := .bool (decide ((bearX (ldCol cs c) (ldPile bs l cs c) (ldTol cs c tol) y12.sd.slot) < y12.k))) rfl rfl ?_
           refine lm (v := .bool (decide ((bearX (ldCol cs c) (ldPile bs l cs c) (ldTol cs c tol) y12.sd.slot) < y12.k))) rfl rfl ?_
           cases hd4 : (decide ((bearX (ldCol cs c) (ldPile bs l cs c) (ldTol cs c tol) y12.sd.slot) < y12.k)) with
           | false =>
             have h4 : ¬ ((bearX (ldCol cs c) (ldPile bs l cs c) (ldTol cs c tol) y12.sd.slot) < y12.k) := of_decide_eq_false hd4
             clear hd4
             rw [topF_drop hy12, top1_no2 h4] at hx2
             refine ln rfl ?_
             refine ln rfl ?_
             refine ln rfl ?_
             refine ln rfl ?_
             refine ln rfl ?_
             refine ln rfl ?_
             refine wpL_done (fun W15 hW15 => ?_)
             have hR15 : KS (W15 : World) ((g13, .cells (loC y12).toArray 143 (0, 0)) :: (g10, .cells #[.int .i64 (kilX (halfP 1) (ldPile bs l cs c)), .int .i64 (kilX (halfP 2) (ldPile bs l cs c)), .int .i64 (kilX allP (ldPile bs l cs c))] 66 (0, 0)) :: (g8, .cells (ldnC (ldCol cs c) (.slice p6 ((ldPile bs l cs c).length) c6) (ldTol cs c tol)).toArray 103 (0, 0)) :: (b1, .cells (shC (.slice pc cs.length cc) (.slice po on co) (tlT t tol)).toArray 32 (0, 0)) :: (b2, .cells #[.slice bp bs.length bc] 33 (0, 0)) :: (b3, .cells #[.slice lq l.length ld] 38 (0, 0)) :: (b4, .cells #[.int .i64 c] 3 (0, 0)) :: Kl6) W15 := ⟨Below.refl _ _, hW15.2⟩
             have hJ15 := abideK hJa hJ11 hW15
             have hB15 := hB11.trans (hW15.1.mono (Nat.le_trans hn0 hB11.size))
             refine (show wpListIn _ _ _ _ _ _ _ _ from ?_)
             refine wpl_rest (W0 := (W15 : World)) ((g13, .cells (loC y12).toArray 143 (0, 0)) :: (g10, .cells #[.int .i64 (kilX (halfP 1) (ldPile bs l cs c)), .int .i64 (kilX (halfP 2) (ldPile bs l cs c)), .int .i64 (kilX allP (ldPile bs l cs c))] 66 (0, 0)) :: (g8, .cells (ldnC (ldCol cs c) (.slice p6 ((ldPile bs l cs c).length) c6) (ldTol cs c tol)).toArray 103 (0, 0)) :: (b1, .cells (shC (.slice pc cs.length cc) (.slice po on co) (tlT t tol)).toArray 32 (0, 0)) :: (b2, .cells #[.slice bp bs.length bc] 33 (0, 0)) :: (b3, .cells #[.slice lq l.length ld] 38 (0, 0)) :: (b4, .cells #[.int .i64 c] 3 (0, 0)) :: Kl6) Tw.kr (hR15) ?_
             refine ln rfl ?_
             refine ln rfl ?_
             refine lm (v := .bool false) rfl rfl ?_
             refine wpL_done (fun W16 hW16 => ?_)
             have hR16 : KS (W16 : World) ((g13, .cells (loC y12).toArray 143 (0, 0)) :: (g10, .cells #[.int .i64 (kilX (halfP 1) (ldPile bs l cs c)), .int .i64 (kilX (halfP 2) (ldPile bs l cs c)), .int .i64 (kilX allP (ldPile bs l cs c))] 66 (0, 0)) :: (g8, .cells (ldnC (ldCol cs c) (.slice p6 ((ldPile bs l cs c).length) c6) (ldTol cs c tol)).toArray 103 (0, 0)) :: (b1, .cells (shC (.slice pc cs.length cc) (.slice po on co) (tlT t tol)).toArray 32 (0, 0)) :: (b2, .cells #[.slice bp bs.length bc] 33 (0, 0)) :: (b3, .cells #[.slice lq l.length ld] 38 (0, 0)) :: (b4, .cells #[.int .i64 c] 3 (0, 0)) :: Kl6) W16 := ⟨Below.refl _ _, hW16.2⟩
             have hJ16 := abideK hJa hJ15 hW16
             have hB16 := hB15.trans (hW16.1.mono (Nat.le_trans hn0 hB15.size))
             refine (show Code.wpIn _ _ _ _ _ _ _ from ?_)
             refine wpIn_cond_false rfl ?_
             refine wpIn_skip ?_
             refine (show Code.wpIn _ _ _ _ _ _ _ from ?_)
             refine wp_region_LI (W0 := (W16 : World)) ((g13, .cells (loC y12).toArray 143 (0, 0)) :: (g10, .cells #[.int .i64 (kilX (halfP 1) (ldPile bs l cs c)), .int .i64 (kilX (halfP 2) (ldPile bs l cs c)), .int .i64 (kilX allP (ldPile bs l cs c))] 66 (0, 0)) :: (g8, .cells (ldnC (ldCol cs c) (.slice p6 ((ldPile bs l cs c).length) c6) (ldTol cs c tol)).toArray 103 (0, 0)) :: (b1, .cells (shC (.slice pc cs.length cc) (.slice po on co) (tlT t tol)).toArray 32 (0, 0)) :: (b2, .cells #[.slice bp bs.length bc] 33 (0, 0)) :: (b3, .cells #[.slice lq l.length ld] 38 (0, 0)) :: (b4, .cells #[.int .i64 c] 3 (0, 0)) :: Kl6) Tw.kr (hR16) ?_
             refine lp (v := .int .i64 (((j + 1) : Nat) : Int)) rfl rfl (run_bin rfl (vx := (.int .i64 ((j : Nat) : Int))) (vy := (.int .i64 ((1 : Nat) : Int))) Tw.kr Tw.kr fun w => bn_add (z := (j + 1)) rfl (wr_i64 Tw.om) w) ?_
             refine lm (v := .int .i64 (((j + 1) : Nat) : Int)) rfl rfl ?_
             refine wpL_done (fun W17 hW17 => ?_)
             have hR17 : KS (W17 : World) ((g13, .cells (loC y12).toArray 143 (0, 0)) :: (g10, .cells #[.int .i64 (kilX (halfP 1) (ldPile bs l cs c)), .int .i64 (kilX (halfP 2) (ldPile bs l cs c)), .int .i64 (kilX allP (ldPile bs l cs c))] 66 (0, 0)) :: (g8, .cells (ldnC (ldCol cs c) (.slice p6 ((ldPile bs l cs c).length) c6) (ldTol cs c tol)).toArray 103 (0, 0)) :: (b1, .cells (shC (.slice pc cs.length cc) (.slice po on co) (tlT t tol)).toArray 32 (0, 0)) :: (b2, .cells #[.slice bp bs.length bc] 33 (0, 0)) :: (b3, .cells #[.slice lq l.length ld] 38 (0, 0)) :: (b4, .cells #[.int .i64 c] 3 (0, 0)) :: Kl6) W17 := ⟨Below.refl _ _, hW17.2⟩
             have hJ17 := abideK hJa hJ16 hW17
             have hB17 := hB16.trans (hW17.1.mono (Nat.le_trans hn0 hB16.size))
             go_roundw
             case rel =>
               repeat apply Exists.intro
               exact ⟨⟨j + 1, pre2, Tw.om, (by rw [hx2]; simp), hJ17, hB17, rfl, (hR17.sub (fun p hp => by first | exact hp | (simp only [List.mem_cons, List.mem_append, List.nil_append, List.not_mem_nil, or_assoc, or_false, false_or] at hp ⊢ <;> grind)))⟩, rfl⟩
             case measure => (show (ldPile bs l cs c).length - (intOf (.int .i64 (((j + 1) : Nat) : Int))).toNat < (ldPile bs l cs c).length - (intOf (.int .i64 ((j : Nat) : Int))).toNat); simp only [intOf]; omega
           | true =>
             have h4 : (bearX (ldCol cs c) (ldPile bs l cs c) (ldTol cs c tol) y12.sd.slot) < y12.k := of_decide_eq_true hd4
             clear hd4
             rw [topF_drop hy12, top1_yes h3 h4] at hx2
             refine lm (v := .func (.yield l0) #[] #[]) rfl rfl ?_
             refine lv (v := .int .i64 c) rfl rfl (yb_cell (off := 0) rfl Tw.kr (.tail _ Tw.m5) Try.underlying3 rfl Tw.kr) ?_
             refine lm (v := .pointer (some ⟨g13, 0, none⟩)) rfl rfl ?_
             refine lm (v := .pointer (some ⟨g13, 0, none⟩)) rfl rfl ?_
             refine lv (v := .int .i64 y12.sd.box) rfl rfl (yb_cell (off := 0) rfl Tw.kr Tw.m0 Try.underlying3 rfl Tw.kr) ?_
             refine lm (v := .agg #[.int .i64 c, .int .u8 4, .int .i64 y12.sd.box]) rfl rfl ?_
             refine wpL_done (fun W18 hW18 => ?_)
             have hR18 : KS (W18 : World) ((g13, .cells (loC y12).toArray 143 (0, 0)) :: (g10, .cells #[.int .i64 (kilX (halfP 1) (ldPile bs l cs c)), .int .i64 (kilX (halfP 2) (ldPile bs l cs c)), .int .i64 (kilX allP (ldPile bs l cs c))] 66 (0, 0)) :: (g8, .cells (ldnC (ldCol cs c) (.slice p6 ((ldPile bs l cs c).length) c6) (ldTol cs c tol)).toArray 103 (0, 0)) :: (b1, .cells (shC (.slice pc cs.length cc) (.slice po on co) (tlT t tol)).toArray 32 (0, 0)) :: (b2, .cells #[.slice bp bs.length bc] 33 (0, 0)) :: (b3, .cells #[.slice lq l.length ld] 38 (0, 0)) :: (b4, .cells #[.int .i64 c] 3 (0, 0)) :: Kl6) W18 := ⟨Below.refl _ _, hW18.2⟩
             have hJ18 := abideK hJa hJ11 hW18
             have hB18 := hB11.trans (hW18.1.mono (Nat.le_trans hn0 hB11.size))
             refine (show wpListIn _ _ _ _ _ _ _ _ from ?_)
             have hYY := hYd pre2 (⟨c, 4, y12.sd.box⟩ : Ft) W18 hJ18 (by rw [hx2]; simp)
             refine wpl_yield rfl rfl Tw.kr Tw.kr Tw.kr rfl hYY Tw.pu Tw.pu (fun W19 hA19 => ?_) (fun W19 hX19 => ?_)
             · obtain ⟨hJy19, hKy19⟩ := hA19
               have hko19 : ∀ p ∈ (((g13, .cells (loC y12).toArray 143 (0, 0)) :: (g10, .cells #[.int .i64 (kilX (halfP 1) (ldPile bs l cs c)), .int .i64 (kilX (halfP 2) (ldPile bs l cs c)), .int .i64 (kilX allP (ldPile bs l cs c))] 66 (0, 0)) :: (g8, .cells (ldnC (ldCol cs c) (.slice p6 ((ldPile bs l cs c).length) c6) (ldTol cs c tol)).toArray 103 (0, 0)) :: (b1, .cells (shC (.slice pc cs.length cc) (.slice po on co) (tlT t tol)).toArray 32 (0, 0)) :: (b2, .cells #[.slice bp bs.length bc] 33 (0, 0)) :: (b3, .cells #[.slice lq l.length ld] 38 (0, 0)) :: (b4, .cells #[.int .i64 c] 3 (0, 0)) :: Kl6) : List (Nat × Obj)), p.2.isCells = true ∧ ownT [71, 58] p.2 = false := (List.forall_mem_cons.2 ⟨⟨rfl, rfl⟩, (List.forall_mem_cons.2 ⟨⟨rfl, rfl⟩, (List.forall_mem_cons.2 ⟨⟨rfl, rfl⟩, (List.forall_mem_cons.2 ⟨⟨rfl, rfl⟩, (List.forall_mem_cons.2 ⟨⟨rfl, rfl⟩, (List.forall_mem_cons.2 ⟨⟨rfl, rfl⟩, (List.forall_mem_cons.2 ⟨⟨rfl, rfl⟩, hTKl6⟩)⟩)⟩)⟩)⟩)⟩)⟩)
               have hR19 : KS (W19 : World) ((g13, .cells (loC y12).toArray 143 (0, 0)) :: (g10, .cells #[.int .i64 (kilX (halfP 1) (ldPile bs l cs c)), .int .i64 (kilX (halfP 2) (ldPile bs l cs c)), .int .i64 (kilX allP (ldPile bs l cs c))] 66 (0, 0)) :: (g8, .cells (ldnC (ldCol cs c) (.slice p6 ((ldPile bs l cs c).length) c6) (ldTol cs c tol)).toArray 103 (0, 0)) :: (b1, .cells (shC (.slice pc cs.length cc) (.slice po on co) (tlT t tol)).toArray 32 (0, 0)) :: (b2, .cells #[.slice bp bs.length bc] 33 (0, 0)) :: (b3, .cells #[.slice lq l.length ld] 38 (0, 0)) :: (b4, .cells #[.int .i64 c] 3 (0, 0)) :: Kl6) W19 := ⟨Below.refl _ _, fun p hp => hKy19.same _ _ (hR18.2 p hp) (hko19 p hp).1 (hko19 p hp).2⟩
               have hB19 := hB18.trans hKy19.below
               refine wpl_rest (W0 := (W19 : World)) ((g13, .cells (loC y12).toArray 143 (0, 0)) :: (g10, .cells #[.int .i64 (kilX (halfP 1) (ldPile bs l cs c)), .int .i64 (kilX (halfP 2) (ldPile bs l cs c)), .int .i64 (kilX allP (ldPile bs l cs c))] 66 (0, 0)) :: (g8, .cells (ldnC (ldCol cs c) (.slice p6 ((ldPile bs l cs c).length) c6) (ldTol cs c tol)).toArray 103 (0, 0)) :: (b1, .cells (shC (.slice pc cs.length cc) (.slice po on co) (tlT t tol)).toArray 32 (0, 0)) :: (b2, .cells #[.slice bp bs.length bc] 33 (0, 0)) :: (b3, .cells #[.slice lq l.length ld] 38 (0, 0)) :: (b4, .cells #[.int .i64 c] 3 (0, 0)) :: Kl6) Tw.kr (hR19) ?_
               refine lm (v := .bool false) rfl rfl ?_
               refine lm (v := .bool false) rfl rfl ?_
               refine wpL_done (fun W20 hW20 => ?_)
               have hR20 : KS (W20 : World) ((g13, .cells (loC y12).toArray 143 (0, 0)) :: (g10, .cells #[.int .i64 (kilX (halfP 1) (ldPile bs l cs c)), .int .i64 (kilX (halfP 2) (ldPile bs l cs c)), .int .i64 (kilX allP (ldPile bs l cs c))] 66 (0, 0)) :: (g8, .cells (ldnC (ldCol cs c) (.slice p6 ((ldPile bs l cs c).length) c6) (ldTol cs c tol)).toArray 103 (0, 0)) :: (b1, .cells (shC (.slice pc cs.length cc) (.slice po on co) (tlT t tol)).toArray 32 (0, 0)) :: (b2, .cells #[.slice bp bs.length bc] 33 (0, 0)) :: (b3, .cells #[.slice lq l.length ld] 38 (0, 0)) :: (b4, .cells #[.int .i64 c] 3 (0, 0)) :: Kl6) W20 := ⟨Below.refl _ _, hW20.2⟩
               have hJ20 := abideK hJa hJy19 hW20
               have hB20 := hB19.trans (hW20.1.mono (Nat.le_trans hn0 hB19.size))
               refine (show Code.wpIn _ _ _ _ _ _ _ from ?_)
               refine wpIn_cond_false rfl ?_
               refine wpIn_skip ?_
               refine (show Code.wpIn _ _ _ _ _ _ _ from ?_)
               refine wp_region_LI (W0 := (W20 : World)) ((g13, .cells (loC y12).toArray 143 (0, 0)) :: (g10, .cells #[.int .i64 (kilX (halfP 1) (ldPile bs l cs c)), .int .i64 (kilX (halfP 2) (ldPile bs l cs c)), .int .i64 (kilX allP (ldPile bs l cs c))] 66 (0, 0)) :: (g8, .cells (ldnC (ldCol cs c) (.slice p6 ((ldPile bs l cs c).length) c6) (ldTol cs c tol)).toArray 103 (0, 0)) :: (b1, .cells (shC (.slice pc cs.length cc) (.slice po on co) (tlT t tol)).toArray 32 (0, 0)) :: (b2, .cells #[.slice bp bs.length bc] 33 (0, 0)) :: (b3, .cells #[.slice lq l.length ld] 38 (0, 0)) :: (b4, .cells #[.int .i64 c] 3 (0, 0)) :: Kl6) Tw.kr (hR20) ?_
               refine lp (v := .int .i64 (((j + 1) : Nat) : Int)) rfl rfl (run_bin rfl (vx := (.int .i64 ((j : Nat) : Int))) (vy := (.int .i64 ((1 : Nat) : Int))) Tw.kr Tw.kr fun w => bn_add (z := (j + 1)) rfl (wr_i64 Tw.om) w) ?_
               refine lm (v := .int .i64 (((j + 1) : Nat) : Int)) rfl rfl ?_
               refine wpL_done (fun W21 hW21 => ?_)
               have hR21 : KS (W21 : World) ((g13, .cells (loC y12).toArray 143 (0, 0)) :: (g10, .cells #[.int .i64 (kilX (halfP 1) (ldPile bs l cs c)), .int .i64 (kilX (halfP 2) (ldPile bs l cs c)), .int .i64 (kilX allP (ldPile bs l cs c))] 66 (0, 0)) :: (g8, .cells (ldnC (ldCol cs c) (.slice p6 ((ldPile bs l cs c).length) c6) (ldTol cs c tol)).toArray 103 (0, 0)) :: (b1, .cells (shC (.slice pc cs.length cc) (.slice po on co) (tlT t tol)).toArray 32 (0, 0)) :: (b2, .cells #[.slice bp bs.length bc] 33 (0, 0)) :: (b3, .cells #[.slice lq l.length ld] 38 (0, 0)) :: (b4, .cells #[.int .i64 c] 3 (0, 0)) :: Kl6) W21 := ⟨Below.refl _ _, hW21.2⟩
               have hJ21 := abideK hJa hJ20 hW21
               have hB21 := hB20.trans (hW21.1.mono (Nat.le_trans hn0 hB20.size))
               go_roundw
               case rel =>
                 repeat apply Exists.intro
                 exact ⟨⟨j + 1, (pre2 ++ [(⟨c, 4, y12.sd.box⟩ : Ft)]), Tw.om, (by rw [hx2]; simp), hJ21, hB21, rfl, (hR21.sub (fun p hp => by first | exact hp | (simp only [List.mem_cons, List.mem_append, List.nil_append, List.not_mem_nil, or_assoc, or_false, false_or] at hp ⊢ <;> grind)))⟩, rfl⟩
               case measure => (show (ldPile bs l cs c).length - (intOf (.int .i64 (((j + 1) : Nat) : Int))).toNat < (ldPile bs l cs c).length - (intOf (.int .i64 ((j : Nat) : Int))).toNat); simp only [intOf]; omega
             · refine wpl_rest (W0 := (W19 : World)) [] Tw.kr ((KS.start W19)) ?_
               refine lm (v := .bool true) rfl rfl ?_
               refine lm (v := .bool true) rfl rfl ?_
               refine wpL_done (fun W22 hW22 => ?_)
               refine (show Code.wpIn _ _ _ _ _ _ _ from ?_)
               refine wpIn_cond_true rfl ?_
               refine wpIn_ret ?_
               try simp only [inBlock_ret, then_ret]
               refine bodyPost_ret (results_none rfl _ _ _) rfl ?_
               exact ⟨⟨_, rfl⟩, .inr ⟨_, trivial, abideK hJxa hX19 hW22⟩⟩
   | true =>
     have h1 : k < 3 := of_decide_eq_true hd1
     clear hd1
     refine wpIn_cond_true rfl ?_
     refine wpIn_skip ?_
     refine (show Code.wpIn _ _ _ _ _ _ _ from ?_)
     refine wpIn_seq ?_
     refine wpIn_block ?_
     refine wpIn_seq ?_
     refine wp_region_LI (W0 := (W6 : World)) ((g10, .cells #[.int .i64 (kilX (halfP 1) (ldPile bs l cs c)), .int .i64 (kilX (halfP 2) (ldPile bs l cs c)), .int .i64 (kilX allP (ldPile bs l cs c))] 66 (0, 0)) :: (g8, .cells (ldnC (ldCol cs c) (.slice p6 ((ldPile bs l cs c).length) c6) (ldTol cs c tol)).toArray 103 (0, 0)) :: (b1, .cells (shC (.slice pc cs.length cc) (.slice po on co) (tlT t tol)).toArray 32 (0, 0)) :: (b2, .cells #[.slice bp bs.length bc] 33 (0, 0)) :: (b3, .cells #[.slice lq l.length ld] 38 (0, 0)) :: (b4, .cells #[.int .i64 c] 3 (0, 0)) :: Kl6) Tw.kr (hR6) ?_
     cases hd5 : (decide (k = 0)) with
     | false =>
       have h5 : ¬ (k = 0) := of_decide_eq_false hd5
       clear hd5
       cases hd6 : (decide (k = 1)) with
       | false =>
         have h6 : ¬ (k = 1) := of_decide_eq_false hd6
         clear hd6
         obtain rfl : k = 2 := by omega
         obtain rfl : r0 = 0 + 1 := by omega
         refine lm (v := .agg #[.int .u8 3, .int .i64 (kilX allP (ldPile bs l cs c)), .int .i64 ((ldCol cs c).k40)]) rfl rfl ?_
         refine wpL_new (fun g => .pointer (some ⟨g, 0, none⟩)) (obi := .cells #[.int .u8 0, .int .i64 0, .int .i64 0] 140 (0, 0)) rfl rfl Tw.kf Tw.pf fun g15 Bg15 Fg15 => ?_
         obtain ⟨dj16_0, dj16_1, dj16_2, dj16_3, dj16_4, dj16_5, dj16_6⟩ : g10 ≠ g15 ∧ g8 ≠ g15 ∧ b1 ≠ g15 ∧ b2 ≠ g15 ∧ b3 ≠ g15 ∧ b4 ≠ g15 ∧ Dk g15 Kl6 := Tw.dkf Fg15
         refine wpL_s ((g15, .cells #[.int .u8 3, .int .i64 (kilX allP (ldPile bs l cs c)), .int .i64 ((ldCol cs c).k40)] 140 (0, 0)) :: (g10, .cells #[.int .i64 (kilX (halfP 1) (ldPile bs l cs c)), .int .i64 (kilX (halfP 2) (ldPile bs l cs c)), .int .i64 (kilX allP (ldPile bs l cs c))] 66 (0, 0)) :: (g8, .cells (ldnC (ldCol cs c) (.slice p6 ((ldPile bs l cs c).length) c6) (ldTol cs c tol)).toArray 103 (0, 0)) :: (b1, .cells (shC (.slice pc cs.length cc) (.slice po on co) (tlT t tol)).toArray 32 (0, 0)) :: (b2, .cells #[.slice bp bs.length bc] 33 (0, 0)) :: (b3, .cells #[.slice lq l.length ld] 38 (0, 0)) :: (b4, .cells #[.int .i64 c] 3 (0, 0)) :: Kl6) rfl rfl (st_row (off := 0) (v := .agg #[.int .u8 3, .int .i64 (kilX allP (ldPile bs l cs c)), .int .i64 ((ldCol cs c).k40)]) rfl Tw.kr Tw.kr Tw.m0 Bg15 Tw.kr (by first | (simp [Value.cells]; done) | exact Nat.le_of_ble_eq_true rfl) (by intro v hv; simp [Value.cells] at hv; first | (subst hv; rfl) | (rcases hv with rfl | rfl | rfl <;> rfl)) Tw.kr (List.forall_mem_cons.2 ⟨.inl rfl, (List.forall_mem_cons.2 ⟨.inr ⟨Tw.m1, Tw.nee⟩, (List.forall_mem_cons.2 ⟨.inr ⟨Tw.m2, Tw.nee⟩, (List.forall_mem_cons.2 ⟨.inr ⟨Tw.m3, Tw.nee⟩, (List.forall_mem_cons.2 ⟨.inr ⟨Tw.m4, Tw.nee⟩, (List.forall_mem_cons.2 ⟨.inr ⟨Tw.m5, Tw.nee⟩, (List.forall_mem_cons.2 ⟨.inr ⟨(.tail _ Tw.m5), Tw.nee⟩, (fun p hp => .inr ⟨(.tail _ (.tail _ (.tail _ (.tail _ (.tail _ (.tail _ (.tail _ hp))))))), ((show Dk g15 Kl6 from Tw.djt) _ hp)⟩)⟩)⟩)⟩)⟩)⟩)⟩)⟩)) ?_
         refine wpL_done (fun W23 hW23 => ?_)
         have hR23 : KS (W23 : World) ((g15, .cells #[.int .u8 3, .int .i64 (kilX allP (ldPile bs l cs c)), .int .i64 ((ldCol cs c).k40)] 140 (0, 0)) :: (g10, .cells #[.int .i64 (kilX (halfP 1) (ldPile bs l cs c)), .int .i64 (kilX (halfP 2) (ldPile bs l cs c)), .int .i64 (kilX allP (ldPile bs l cs c))] 66 (0, 0)) :: (g8, .cells (ldnC (ldCol cs c) (.slice p6 ((ldPile bs l cs c).length) c6) (ldTol cs c tol)).toArray 103 (0, 0)) :: (b1, .cells (shC (.slice pc cs.length cc) (.slice po on co) (tlT t tol)).toArray 32 (0, 0)) :: (b2, .cells #[.slice bp bs.length bc] 33 (0, 0)) :: (b3, .cells #[.slice lq l.length ld] 38 (0, 0)) :: (b4, .cells #[.int .i64 c] 3 (0, 0)) :: Kl6) W23 := ⟨Below.refl _ _, hW23.2⟩
         have hJ23 := abideK hJa hJ6 hW23
         have hB23 := hB6.trans (hW23.1.mono (Nat.le_trans hn0 hB6.size))
         refine (show Code.wpIn _ _ _ _ _ _ _ from ?_)
         refine wpIn_seq ?_
         refine wp_region_S (W0 := (W23 : World)) (List.take 11 _) (List.drop 11 _) ((g15, .cells #[.int .u8 3, .int .i64 (kilX allP (ldPile bs l cs c)), .int .i64 ((ldCol cs c).k40)] 140 (0, 0)) :: (g10, .cells #[.int .i64 (kilX (halfP 1) (ldPile bs l cs c)), .int .i64 (kilX (halfP 2) (ldPile bs l cs c)), .int .i64 (kilX allP (ldPile bs l cs c))] 66 (0, 0)) :: (g8, .cells (ldnC (ldCol cs c) (.slice p6 ((ldPile bs l cs c).length) c6) (ldTol cs c tol)).toArray 103 (0, 0)) :: (b1, .cells (shC (.slice pc cs.length cc) (.slice po on co) (tlT t tol)).toArray 32 (0, 0)) :: (b2, .cells #[.slice bp bs.length bc] 33 (0, 0)) :: (b3, .cells #[.slice lq l.length ld] 38 (0, 0)) :: (b4, .cells #[.int .i64 c] 3 (0, 0)) :: Kl6) (List.take_append_drop 11 _).symm Tw.kr (hR23) ?_
         simp only [List.take_succ_cons, List.take_zero, List.drop_succ_cons, List.drop_zero]
         refine lm (v := .pointer (some ⟨g15, 1, none⟩)) rfl rfl ?_
         refine lv (v := .int .i64 (kilX allP (ldPile bs l cs c))) rfl rfl (yb_cell (off := 1) rfl Tw.kr Tw.m0 Try.underlying3 rfl Tw.kr) ?_
         refine lm (v := .pointer (some ⟨g15, 2, none⟩)) rfl rfl ?_
         refine lv (v := .int .i64 ((ldCol cs c).k40)) rfl rfl (yb_cell (off := 2) rfl Tw.kr Tw.m0 Try.underlying3 rfl Tw.kr) ?_
         refine lp (v := .bool (decide (((ldCol cs c).k40) < (kilX allP (ldPile bs l cs c))))) rfl rfl (run_bin rfl (vx := (.int .i64 (kilX allP (ldPile bs l cs c)))) (vy := (.int .i64 ((ldCol cs c).k40))) Tw.kr Tw.kr fun w => bi_gtr rfl w) ?_
         refine lm (v := .bool (decide (((ldCol cs c).k40) < (kilX allP (ldPile bs l cs c))))) rfl rfl ?_
         cases hd7 : (decide (((ldCol cs c).k40) < (kilX allP (ldPile bs l cs c)))) with
         | false =>
           have h7 : ¬ (((ldCol cs c).k40) < (kilX allP (ldPile bs l cs c))) := of_decide_eq_false hd7
           clear hd7
           rw [show heavyF (ldCol cs c) (ldPile bs l cs c) c (0 + 1) 2 = heavy1 (ldCol cs c) (ldPile bs l cs c) c 2 ++ heavyF (ldCol cs c) (ldPile bs l cs c) c 0 3 from rfl, heavy1_no (cc := (ldCol cs c)) (p := (ldPile bs l cs c)) (c := c) (k := 2) h7] at hx1
           refine ln rfl ?_
           refine ln rfl ?_
           refine ln rfl ?_
           refine ln rfl ?_
           refine ln rfl ?_
           refine wpL_done (fun W24 hW24 => ?_)
           have hR24 : KS (W24 : World) ((g15, .cells #[.int .u8 3, .int .i64 (kilX allP (ldPile bs l cs c)), .int .i64 ((ldCol cs c).k40)] 140 (0, 0)) :: (g10, .cells #[.int .i64 (kilX (halfP 1) (ldPile bs l cs c)), .int .i64 (kilX (halfP 2) (ldPile bs l cs c)), .int .i64 (kilX allP (ldPile bs l cs c))] 66 (0, 0)) :: (g8, .cells (ldnC (ldCol cs c) (.slice p6 ((ldPile bs l cs c).length) c6) (ldTol cs c tol)).toArray 103 (0, 0)) :: (b1, .cells (shC (.slice pc cs.length cc) (.slice po on co) (tlT t tol)).toArray 32 (0, 0)) :: (b2, .cells #[.slice bp bs.length bc] 33 (0, 0)) :: (b3, .cells #[.slice lq l.length ld] 38 (0, 0)) :: (b4, .cells #[.int .i64 c] 3 (0, 0)) :: Kl6) W24 := ⟨Below.refl _ _, hW24.2⟩
           have hJ24 := abideK hJa hJ23 hW24
           have hB24 := hB23.trans (hW24.1.mono (Nat.le_trans hn0 hB23.size))
           refine (show wpListIn _ _ _ _ _ _ _ _ from ?_)
           refine wpl_rest (W0 := (W24 : World)) ((g15, .cells #[.int .u8 3, .int .i64 (kilX allP (ldPile bs l cs c)), .int .i64 ((ldCol cs c).k40)] 140 (0, 0)) :: (g10, .cells #[.int .i64 (kilX (halfP 1) (ldPile bs l cs c)), .int .i64 (kilX (halfP 2) (ldPile bs l cs c)), .int .i64 (kilX allP (ldPile bs l cs c))] 66 (0, 0)) :: (g8, .cells (ldnC (ldCol cs c) (.slice p6 ((ldPile bs l cs c).length) c6) (ldTol cs c tol)).toArray 103 (0, 0)) :: (b1, .cells (shC (.slice pc cs.length cc) (.slice po on co) (tlT t tol)).toArray 32 (0, 0)) :: (b2, .cells #[.slice bp bs.length bc] 33 (0, 0)) :: (b3, .cells #[.slice lq l.length ld] 38 (0, 0)) :: (b4, .cells #[.int .i64 c] 3 (0, 0)) :: Kl6) Tw.kr (hR24) ?_
           refine ln rfl ?_
           refine ln rfl ?_
           refine lm (v := .bool false) rfl rfl ?_
           refine wpL_done (fun W25 hW25 => ?_)
           have hR25 : KS (W25 : World) ((g15, .cells #[.int .u8 3, .int .i64 (kilX allP (ldPile bs l cs c)), .int .i64 ((ldCol cs c).k40)] 140 (0, 0)) :: (g10, .cells #[.int .i64 (kilX (halfP 1) (ldPile bs l cs c)), .int .i64 (kilX (halfP 2) (ldPile bs l cs c)), .int .i64 (kilX allP (ldPile bs l cs c))] 66 (0, 0)) :: (g8, .cells (ldnC (ldCol cs c) (.slice p6 ((ldPile bs l cs c).length) c6) (ldTol cs c tol)).toArray 103 (0, 0)) :: (b1, .cells (shC (.slice pc cs.length cc) (.slice po on co) (tlT t tol)).toArray 32 (0, 0)) :: (b2, .cells #[.slice bp bs.length bc] 33 (0, 0)) :: (b3, .cells #[.slice lq l.length ld] 38 (0, 0)) :: (b4, .cells #[.int .i64 c] 3 (0, 0)) :: Kl6) W25 := ⟨Below.refl _ _, hW25.2⟩
           have hJ25 := abideK hJa hJ24 hW25
           have hB25 := hB24.trans (hW25.1.mono (Nat.le_trans hn0 hB24.size))
           refine (show Code.wpIn _ _ _ _ _ _ _ from ?_)
           refine wpIn_cond_false rfl ?_
           refine wpIn_skip ?_
           refine (show Code.wpIn _ _ _ _ _ _ _ from ?_)
           refine wp_region_LI (W0 := (W25 : World)) ((g15, .cells #[.int .u8 3, .int .i64 (kilX allP (ldPile bs l cs c)), .int .i64 ((ldCol cs c).k40)] 140 (0, 0)) :: (g10, .cells #[.int .i64 (kilX (halfP 1) (ldPile bs l cs c)), .int .i64 (kilX (halfP 2) (ldPile bs l cs c)), .int .i64 (kilX allP (ldPile bs l cs c))] 66 (0, 0)) :: (g8, .cells (ldnC (ldCol cs c) (.slice p6 ((ldPile bs l cs c).length) c6) (ldTol cs c tol)).toArray 103 (0, 0)) :: (b1, .cells (shC (.slice pc cs.length cc) (.slice po on co) (tlT t tol)).toArray 32 (0, 0)) :: (b2, .cells #[.slice bp bs.length bc] 33 (0, 0)) :: (b3, .cells #[.slice lq l.length ld] 38 (0, 0)) :: (b4, .cells #[.int .i64 c] 3 (0, 0)) :: Kl6) Tw.kr (hR25) ?_
           refine lm (v := .int .i64 3) rfl rfl ?_
           refine lm (v := .int .i64 3) rfl rfl ?_
           refine wpL_done (fun W26 hW26 => ?_)
           have hR26 : KS (W26 : World) ((g15, .cells #[.int .u8 3, .int .i64 (kilX allP (ldPile bs l cs c)), .int .i64 ((ldCol cs c).k40)] 140 (0, 0)) :: (g10, .cells #[.int .i64 (kilX (halfP 1) (ldPile bs l cs c)), .int .i64 (kilX (halfP 2) (ldPile bs l cs c)), .int .i64 (kilX allP (ldPile bs l cs c))] 66 (0, 0)) :: (g8, .cells (ldnC (ldCol cs c) (.slice p6 ((ldPile bs l cs c).length) c6) (ldTol cs c tol)).toArray 103 (0, 0)) :: (b1, .cells (shC (.slice pc cs.length cc) (.slice po on co) (tlT t tol)).toArray 32 (0, 0)) :: (b2, .cells #[.slice bp bs.length bc] 33 (0, 0)) :: (b3, .cells #[.slice lq l.length ld] 38 (0, 0)) :: (b4, .cells #[.int .i64 c] 3 (0, 0)) :: Kl6) W26 := ⟨Below.refl _ _, hW26.2⟩
           have hJ26 := abideK hJa hJ25 hW26
           have hB26 := hB25.trans (hW26.1.mono (Nat.le_trans hn0 hB25.size))
           go_roundw
           case rel =>
             repeat apply Exists.intro
             exact ⟨⟨3, 0, pre1, Tw.om, (by rw [hx1]; simp), hJ26, hB26, rfl, (hR26.sub (fun p hp => by first | exact hp | (simp only [List.mem_cons, List.mem_append, List.nil_append, List.not_mem_nil, or_assoc, or_false, false_or] at hp ⊢ <;> grind)))⟩, rfl⟩
           case measure => (show 3 - (intOf (.int .i64 3)).toNat < 3 - (intOf (.int .i64 2)).toNat); simp only [intOf]; omega
         | true =>
           have h7 : ((ldCol cs c).k40) < (kilX allP (ldPile bs l cs c)) := of_decide_eq_true hd7
           clear hd7
           rw [show heavyF (ldCol cs c) (ldPile bs l cs c) c (0 + 1) 2 = heavy1 (ldCol cs c) (ldPile bs l cs c) c 2 ++ heavyF (ldCol cs c) (ldPile bs l cs c) c 0 3 from rfl, heavy1_yes (cc := (ldCol cs c)) (p := (ldPile bs l cs c)) (c := c) (k := 2) h7] at hx1
           refine lm (v := .func (.yield l0) #[] #[]) rfl rfl ?_
           refine lv (v := .int .i64 c) rfl rfl (yb_cell (off := 0) rfl Tw.kr (.tail _ Tw.m5) Try.underlying3 rfl Tw.kr) ?_
           refine lm (v := .pointer (some ⟨g15, 0, none⟩)) rfl rfl ?_
           refine lv (v := .int .u8 3) rfl rfl (yb_cell (off := 0) rfl Tw.kr Tw.m0 Try.underlying5 rfl Tw.kr) ?_
           refine lm (v := .agg #[.int .i64 c, .int .u8 3, .int .i64 0]) rfl rfl ?_
           refine wpL_done (fun W27 hW27 => ?_)
           have hR27 : KS (W27 : World) ((g15, .cells #[.int .u8 3, .int .i64 (kilX allP (ldPile bs l cs c)), .int .i64 ((ldCol cs c).k40)] 140 (0, 0)) :: (g10, .cells #[.int .i64 (kilX (halfP 1) (ldPile bs l cs c)), .int .i64 (kilX (halfP 2) (ldPile bs l cs c)), .int .i64 (kilX allP (ldPile bs l cs c))] 66 (0, 0)) :: (g8, .cells (ldnC (ldCol cs c) (.slice p6 ((ldPile bs l cs c).length) c6) (ldTol cs c tol)).toArray 103 (0, 0)) :: (b1, .cells (shC (.slice pc cs.length cc) (.slice po on co) (tlT t tol)).toArray 32 (0, 0)) :: (b2, .cells #[.slice bp bs.length bc] 33 (0, 0)) :: (b3, .cells #[.slice lq l.length ld] 38 (0, 0)) :: (b4, .cells #[.int .i64 c] 3 (0, 0)) :: Kl6) W27 := ⟨Below.refl _ _, hW27.2⟩
           have hJ27 := abideK hJa hJ23 hW27
           have hB27 := hB23.trans (hW27.1.mono (Nat.le_trans hn0 hB23.size))
           refine (show wpListIn _ _ _ _ _ _ _ _ from ?_)
           have hYY := hYd pre1 (⟨c, 3, 0⟩ : Ft) W27 hJ27 (by rw [hx1]; simp)
           refine wpl_yield rfl rfl Tw.kr Tw.kr Tw.kr rfl hYY Tw.pu Tw.pu (fun W28 hA28 => ?_) (fun W28 hX28 => ?_)
           · obtain ⟨hJy28, hKy28⟩ := hA28
             have hko28 : ∀ p ∈ (((g15, .cells #[.int .u8 3, .int .i64 (kilX allP (ldPile bs l cs c)), .int .i64 ((ldCol cs c).k40)] 140 (0, 0)) :: (g10, .cells #[.int .i64 (kilX (halfP 1) (ldPile bs l cs c)), .int .i64 (kilX (halfP 2) (ldPile bs l cs c)), .int .i64 (kilX allP (ldPile bs l cs c))] 66 (0, 0)) :: (g8, .cells (ldnC (ldCol cs c) (.slice p6 ((ldPile bs l cs c).length) c6) (ldTol cs c tol)).toArray 103 (0, 0)) :: (b1, .cells (shC (.slice pc cs.length cc) (.slice po on co) (tlT t tol)).toArray 32 (0, 0)) :: (b2, .cells #[.slice bp bs.length bc] 33 (0, 0)) :: (b3, .cells #[.slice lq l.length ld] 38 (0, 0)) :: (b4, .cells #[.int .i64 c] 3 (0, 0)) :: Kl6) : List (Nat × Obj)), p.2.isCells = true ∧ ownT [71, 58] p.2 = false := (List.forall_mem_cons.2 ⟨⟨rfl, rfl⟩, (List.forall_mem_cons.2 ⟨⟨rfl, rfl⟩, (List.forall_mem_cons.2 ⟨⟨rfl, rfl⟩, (List.forall_mem_cons.2 ⟨⟨rfl, rfl⟩, (List.forall_mem_cons.2 ⟨⟨rfl, rfl⟩, (List.forall_mem_cons.2 ⟨⟨rfl, rfl⟩, (List.forall_mem_cons.2 ⟨⟨rfl, rfl⟩, hTKl6⟩)⟩)⟩)⟩)⟩)⟩)⟩)
             have hR28 : KS (W28 : World) ((g15, .cells #[.int .u8 3, .int .i64 (kilX allP (ldPile bs l cs c)), .int .i64 ((ldCol cs c).k40)] 140 (0, 0)) :: (g10, .cells #[.int .i64 (kilX (halfP 1) (ldPile bs l cs c)), .int .i64 (kilX (halfP 2) (ldPile bs l cs c)), .int .i64 (kilX allP (ldPile bs l cs c))] 66 (0, 0)) :: (g8, .cells (ldnC (ldCol cs c) (.slice p6 ((ldPile bs l cs c).length) c6) (ldTol cs c tol)).toArray 103 (0, 0)) :: (b1, .cells (shC (.slice pc cs.length cc) (.slice po on co) (tlT t tol)).toArray 32 (0, 0)) :: (b2, .cells #[.slice bp bs.length bc] 33 (0, 0)) :: (b3, .cells #[.slice lq l.length ld] 38 (0, 0)) :: (b4, .cells #[.int .i64 c] 3 (0, 0)) :: Kl6) W28 := ⟨Below.refl _ _, fun p hp => hKy28.same _ _ (hR27.2 p hp) (hko28 p hp).1 (hko28 p hp).2⟩
             have hB28 := hB27.trans hKy28.below
             refine wpl_rest (W0 := (W28 : World)) ((g15, .cells #[.int .u8 3, .int .i64 (kilX allP (ldPile bs l cs c)), .int .i64 ((ldCol cs c).k40)] 140 (0, 0)) :: (g10, .cells #[.int .i64 (kilX (halfP 1) (ldPile bs l cs c)), .int .i64 (kilX (halfP 2) (ldPile bs l cs c)), .int .i64 (kilX allP (ldPile bs l cs c))] 66 (0, 0)) :: (g8, .cells (ldnC (ldCol cs c) (.slice p6 ((ldPile bs l cs c).length) c6) (ldTol cs c tol)).toArray 103 (0, 0)) :: (b1, .cells (shC (.slice pc cs.length cc) (.slice po on co) (tlT t tol)).toArray 32 (0, 0)) :: (b2, .cells #[.slice bp bs.length bc] 33 (0, 0)) :: (b3, .cells #[.slice lq l.length ld] 38 (0, 0)) :: (b4, .cells #[.int .i64 c] 3 (0, 0)) :: Kl6) Tw.kr (hR28) ?_
             refine lm (v := .bool false) rfl rfl ?_
             refine lm (v := .bool false) rfl rfl ?_
             refine wpL_done (fun W29 hW29 => ?_)
             have hR29 : KS (W29 : World) ((g15, .cells #[.int .u8 3, .int .i64 (kilX allP (ldPile bs l cs c)), .int .i64 ((ldCol cs c).k40)] 140 (0, 0)) :: (g10, .cells #[.int .i64 (kilX (halfP 1) (ldPile bs l cs c)), .int .i64 (kilX (halfP 2) (ldPile bs l cs c)), .int .i64 (kilX allP (ldPile bs l cs c))] 66 (0, 0)) :: (g8, .cells (ldnC (ldCol cs c) (.slice p6 ((ldPile bs l cs c).length) c6) (ldTol cs c tol)).toArray 103 (0, 0)) :: (b1, .cells (shC (.slice pc cs.length cc) (.slice po on co) (tlT t tol)).toArray 32 (0, 0)) :: (b2, .cells #[.slice bp bs.length bc] 33 (0, 0)) :: (b3, .cells #[.slice lq l.length ld] 38 (0, 0)) :: (b4, .cells #[.int .i64 c] 3 (0, 0)) :: Kl6) W29 := ⟨Below.refl _ _, hW29.2⟩
             have hJ29 := abideK hJa hJy28 hW29
             have hB29 := hB28.trans (hW29.1.mono (Nat.le_trans hn0 hB28.size))
             refine (show Code.wpIn _ _ _ _ _ _ _ from ?_)
             refine wpIn_cond_false rfl ?_
             refine wpIn_skip ?_
             refine (show Code.wpIn _ _ _ _ _ _ _ from ?_)
             refine wp_region_LI (W0 := (W29 : World)) ((g15, .cells #[.int .u8 3, .int .i64 (kilX allP (ldPile bs l cs c)), .int .i64 ((ldCol cs c).k40)] 140 (0, 0)) :: (g10, .cells #[.int .i64 (kilX (halfP 1) (ldPile bs l cs c)), .int .i64 (kilX (halfP 2) (ldPile bs l cs c)), .int .i64 (kilX allP (ldPile bs l cs c))] 66 (0, 0)) :: (g8, .cells (ldnC (ldCol cs c) (.slice p6 ((ldPile bs l cs c).length) c6) (ldTol cs c tol)).toArray 103 (0, 0)) :: (b1, .cells (shC (.slice pc cs.length cc) (.slice po on co) (tlT t tol)).toArray 32 (0, 0)) :: (b2, .cells #[.slice bp bs.length bc] 33 (0, 0)) :: (b3, .cells #[.slice lq l.length ld] 38 (0, 0)) :: (b4, .cells #[.int .i64 c] 3 (0, 0)) :: Kl6) Tw.kr (hR29) ?_
             refine lm (v := .int .i64 3) rfl rfl ?_
             refine lm (v := .int .i64 3) rfl rfl ?_
             refine wpL_done (fun W30 hW30 => ?_)
             have hR30 : KS (W30 : World) ((g15, .cells #[.int .u8 3, .int .i64 (kilX allP (ldPile bs l cs c)), .int .i64 ((ldCol cs c).k40)] 140 (0, 0)) :: (g10, .cells #[.int .i64 (kilX (halfP 1) (ldPile bs l cs c)), .int .i64 (kilX (halfP 2) (ldPile bs l cs c)), .int .i64 (kilX allP (ldPile bs l cs c))] 66 (0, 0)) :: (g8, .cells (ldnC (ldCol cs c) (.slice p6 ((ldPile bs l cs c).length) c6) (ldTol cs c tol)).toArray 103 (0, 0)) :: (b1, .cells (shC (.slice pc cs.length cc) (.slice po on co) (tlT t tol)).toArray 32 (0, 0)) :: (b2, .cells #[.slice bp bs.length bc] 33 (0, 0)) :: (b3, .cells #[.slice lq l.length ld] 38 (0, 0)) :: (b4, .cells #[.int .i64 c] 3 (0, 0)) :: Kl6) W30 := ⟨Below.refl _ _, hW30.2⟩
             have hJ30 := abideK hJa hJ29 hW30
             have hB30 := hB29.trans (hW30.1.mono (Nat.le_trans hn0 hB29.size))
             go_roundw
             case rel =>
               repeat apply Exists.intro
               exact ⟨⟨3, 0, (pre1 ++ [(⟨c, 3, 0⟩ : Ft)]), Tw.om, (by rw [hx1]; simp), hJ30, hB30, rfl, (hR30.sub (fun p hp => by first | exact hp | (simp only [List.mem_cons, List.mem_append, List.nil_append, List.not_mem_nil, or_assoc, or_false, false_or] at hp ⊢ <;> grind)))⟩, rfl⟩
             case measure => (show 3 - (intOf (.int .i64 3)).toNat < 3 - (intOf (.int .i64 2)).toNat); simp only [intOf]; omega
           · refine wpl_rest (W0 := (W28 : World)) [] Tw.kr ((KS.start W28)) ?_
             refine lm (v := .bool true) rfl rfl ?_
             refine lm (v := .bool true) rfl rfl ?_
             refine wpL_done (fun W31 hW31 => ?_)
             refine (show Code.wpIn _ _ _ _ _ _ _ from ?_)
             refine wpIn_cond_true rfl ?_
             refine wpIn_ret ?_
             try simp only [inBlock_ret, then_ret]
             refine bodyPost_ret (results_none rfl _ _ _) rfl ?_
             exact ⟨⟨_, rfl⟩, .inr ⟨_, trivial, abideK hJxa hX28 hW31⟩⟩
       | true =>
         have h6 : k = 1 := of_decide_eq_true hd6
         clear hd6
         obtain rfl := h6
         obtain rfl : r0 = 1 + 1 := by omega
         refine lm (v := .agg #[.int .u8 2, .int .i64 (kilX (halfP 2) (ldPile bs l cs c)), .int .i64 ((ldCol cs c).k20)]) rfl rfl ?_
         refine wpL_new (fun g => .pointer (some ⟨g, 0, none⟩)) (obi := .cells #[.int .u8 0, .int .i64 0, .int .i64 0] 140 (0, 0)) rfl rfl Tw.kf Tw.pf fun g17 Bg17 Fg17 => ?_
         obtain ⟨dj18_0, dj18_1, dj18_2, dj18_3, dj18_4, dj18_5, dj18_6⟩ : g10 ≠ g17 ∧ g8 ≠ g17 ∧ b1 ≠ g17 ∧ b2 ≠ g17 ∧ b3 ≠ g17 ∧ b4 ≠ g17 ∧ Dk g17 Kl6 := Tw.dkf Fg17
         refine wpL_s ((g17, .cells #[.int .u8 2, .int .i64 (kilX (halfP 2) (ldPile bs l cs c)), .int .i64 ((ldCol cs c).k20)] 140 (0, 0)) :: (g10, .cells #[.int .i64 (kilX (halfP 1) (ldPile bs l cs c)), .int .i64 (kilX (halfP 2) (ldPile bs l cs c)), .int .i64 (kilX allP (ldPile bs l cs c))] 66 (0, 0)) :: (g8, .cells (ldnC (ldCol cs c) (.slice p6 ((ldPile bs l cs c).length) c6) (ldTol cs c tol)).toArray 103 (0, 0)) :: (b1, .cells (shC (.slice pc cs.length cc) (.slice po on co) (tlT t tol)).toArray 32 (0, 0)) :: (b2, .cells #[.slice bp bs.length bc] 33 (0, 0)) :: (b3, .cells #[.slice lq l.length ld] 38 (0, 0)) :: (b4, .cells #[.int .i64 c] 3 (0, 0)) :: Kl6) rfl rfl (st_row (off := 0) (v := .agg #[.int .u8 2, .int .i64 (kilX (halfP 2) (ldPile bs l cs c)), .int .i64 ((ldCol cs c).k20)]) rfl Tw.kr Tw.kr Tw.m0 Bg17 Tw.kr (by first | (simp [Value.cells]; done) | exact Nat.le_of_ble_eq_true rfl) (by intro v hv; simp [Value.cells] at hv; first | (subst hv; rfl) | (rcases hv with rfl | rfl | rfl <;> rfl)) Tw.kr (List.forall_mem_cons.2 ⟨.inl rfl, (List.forall_mem_cons.2 ⟨.inr ⟨Tw.m1, Tw.nee⟩, (List.forall_mem_cons.2 ⟨.inr ⟨Tw.m2, Tw.nee⟩, (List.forall_mem_cons.2 ⟨.inr ⟨Tw.m3, Tw.nee⟩, (List.forall_mem_cons.2 ⟨.inr ⟨Tw.m4, Tw.nee⟩, (List.forall_mem_cons.2 ⟨.inr ⟨Tw.m5, Tw.nee⟩, (List.forall_mem_cons.2 ⟨.inr ⟨(.tail _ Tw.m5), Tw.nee⟩, (fun p hp => .inr ⟨(.tail _ (.tail _ (.tail _ (.tail _ (.tail _ (.tail _ (.tail _ hp))))))), ((show Dk g17 Kl6 from Tw.djt) _ hp)⟩)⟩)⟩)⟩)⟩)⟩)⟩)⟩)) ?_
         refine wpL_done (fun W32 hW32 => ?_)
         have hR32 : KS (W32 : World) ((g17, .cells #[.int .u8 2, .int .i64 (kilX (halfP 2) (ldPile bs l cs c)), .int .i64 ((ldCol cs c).k20)] 140 (0, 0)) :: (g10, .cells #[.int .i64 (kilX (halfP 1) (ldPile bs l cs c)), .int .i64 (kilX (halfP 2) (ldPile bs l cs c)), .int .i64 (kilX allP (ldPile bs l cs c))] 66 (0, 0)) :: (g8, .cells (ldnC (ldCol cs c) (.slice p6 ((ldPile bs l cs c).length) c6) (ldTol cs c tol)).toArray 103 (0, 0)) :: (b1, .cells (shC (.slice pc cs.length cc) (.slice po on co) (tlT t tol)).toArray 32 (0, 0)) :: (b2, .cells #[.slice bp bs.length bc] 33 (0, 0)) :: (b3, .cells #[.slice lq l.length ld] 38 (0, 0)) :: (b4, .cells #[.int .i64 c] 3 (0, 0)) :: Kl6) W32 := ⟨Below.refl _ _, hW32.2⟩
         have hJ32 := abideK hJa hJ6 hW32
         have hB32 := hB6.trans (hW32.1.mono (Nat.le_trans hn0 hB6.size))
         refine (show Code.wpIn _ _ _ _ _ _ _ from ?_)
         refine wpIn_seq ?_
         refine wp_region_S (W0 := (W32 : World)) (List.take 11 _) (List.drop 11 _) ((g17, .cells #[.int .u8 2, .int .i64 (kilX (halfP 2) (ldPile bs l cs c)), .int .i64 ((ldCol cs c).k20)] 140 (0, 0)) :: (g10, .cells #[.int .i64 (kilX (halfP 1) (ldPile bs l cs c)), .int .i64 (kilX (halfP 2) (ldPile bs l cs c)), .int .i64 (kilX allP (ldPile bs l cs c))] 66 (0, 0)) :: (g8, .cells (ldnC (ldCol cs c) (.slice p6 ((ldPile bs l cs c).length) c6) (ldTol cs c tol)).toArray 103 (0, 0)) :: (b1, .cells (shC (.slice pc cs.length cc) (.slice po on co) (tlT t tol)).toArray 32 (0, 0)) :: (b2, .cells #[.slice bp bs.length bc] 33 (0, 0)) :: (b3, .cells #[.slice lq l.length ld] 38 (0, 0)) :: (b4, .cells #[.int .i64 c] 3 (0, 0)) :: Kl6) (List.take_append_drop 11 _).symm Tw.kr (hR32) ?_
         simp only [List.take_succ_cons, List.take_zero, List.drop_succ_cons, List.drop_zero]
         refine lm (v := .pointer (some ⟨g17, 1, none⟩)) rfl rfl ?_
         refine lv (v := .int .i64 (kilX (halfP 2) (ldPile bs l cs c))) rfl rfl (yb_cell (off := 1) rfl Tw.kr Tw.m0 Try.underlying3 rfl Tw.kr) ?_
         refine lm (v := .pointer (some ⟨g17, 2, none⟩)) rfl rfl ?_
         refine lv (v := .int .i64 ((ldCol cs c).k20)) rfl rfl (yb_cell (off := 2) rfl Tw.kr Tw.m0 Try.underlying3 rfl Tw.kr) ?_
         refine lp (v := .bool (decide (((ldCol cs c).k20) < (kilX (halfP 2) (ldPile bs l cs c))))) rfl rfl (run_bin rfl (vx := (.int .i64 (kilX (halfP 2) (ldPile bs l cs c)))) (vy := (.int .i64 ((ldCol cs c).k20))) Tw.kr Tw.kr fun w => bi_gtr rfl w) ?_
         refine lm (v := .bool (decide (((ldCol cs c).k20) < (kilX (halfP 2) (ldPile bs l cs c))))) rfl rfl ?_
         cases hd8 : (decide (((ldCol cs c).k20) < (kilX (halfP 2) (ldPile bs l cs c)))) with
         | false =>
           have h8 : ¬ (((ldCol cs c).k20) < (kilX (halfP 2) (ldPile bs l cs c))) := of_decide_eq_false hd8
           clear hd8
           rw [show heavyF (ldCol cs c) (ldPile bs l cs c) c (1 + 1) 1 = heavy1 (ldCol cs c) (ldPile bs l cs c) c 1 ++ heavyF (ldCol cs c) (ldPile bs l cs c) c 1 2 from rfl, heavy1_no (cc := (ldCol cs c)) (p := (ldPile bs l cs c)) (c := c) (k := 1) h8] at hx1
           refine ln rfl ?_
           refine ln rfl ?_
           refine ln rfl ?_
           refine ln rfl ?_
           refine ln rfl ?_
           refine wpL_done (fun W33 hW33 => ?_)
           have hR33 : KS (W33 : World) ((g17, .cells #[.int .u8 2, .int .i64 (kilX (halfP 2) (ldPile bs l cs c)), .int .i64 ((ldCol cs c).k20)] 140 (0, 0)) :: (g10, .cells #[.int .i64 (kilX (halfP 1) (ldPile bs l cs c)), .int .i64 (kilX (halfP 2) (ldPile bs l cs c)), .int .i64 (kilX allP (ldPile bs l cs c))] 66 (0, 0)) :: (g8, .cells (ldnC (ldCol cs c) (.slice p6 ((ldPile bs l cs c).length) c6) (ldTol cs c tol)).toArray 103 (0, 0)) :: (b1, .cells (shC (.slice pc cs.length cc) (.slice po on co) (tlT t tol)).toArray 32 (0, 0)) :: (b2, .cells #[.slice bp bs.length bc] 33 (0, 0)) :: (b3, .cells #[.slice lq l.length ld] 38 (0, 0)) :: (b4, .cells #[.int .i64 c] 3 (0, 0)) :: Kl6) W33 := ⟨Below.refl _ _, hW33.2⟩
           have hJ33 := abideK hJa hJ32 hW33
           have hB33 := hB32.trans (hW33.1.mono (Nat.le_trans hn0 hB32.size))
           refine (show wpListIn _ _ _ _ _ _ _ _ from ?_)
           refine wpl_rest (W0 := (W33 : World)) ((g17, .cells #[.int .u8 2, .int .i64 (kilX (halfP 2) (ldPile bs l cs c)), .int .i64 ((ldCol cs c).k20)] 140 (0, 0)) :: (g10, .cells #[.int .i64 (kilX (halfP 1) (ldPile bs l cs c)), .int .i64 (kilX (halfP 2) (ldPile bs l cs c)), .int .i64 (kilX allP (ldPile bs l cs c))] 66 (0, 0)) :: (g8, .cells (ldnC (ldCol cs c) (.slice p6 ((ldPile bs l cs c).length) c6) (ldTol cs c tol)).toArray 103 (0, 0)) :: (b1, .cells (shC (.slice pc cs.length cc) (.slice po on co) (tlT t tol)).toArray 32 (0, 0)) :: (b2, .cells #[.slice bp bs.length bc] 33 (0, 0)) :: (b3, .cells #[.slice lq l.length ld] 38 (0, 0)) :: (b4, .cells #[.int .i64 c] 3 (0, 0)) :: Kl6) Tw.kr (hR33) ?_
           refine ln rfl ?_
           refine ln rfl ?_
           refine lm (v := .bool false) rfl rfl ?_
           refine wpL_done (fun W34 hW34 => ?_)
           have hR34 : KS (W34 : World) ((g17, .cells #[.int .u8 2, .int .i64 (kilX (halfP 2) (ldPile bs l cs c)), .int .i64 ((ldCol cs c).k20)] 140 (0, 0)) :: (g10, .cells #[.int .i64 (kilX (halfP 1) (ldPile bs l cs c)), .int .i64 (kilX (halfP 2) (ldPile bs l cs c)), .int .i64 (kilX allP (ldPile bs l cs c))] 66 (0, 0)) :: (g8, .cells (ldnC (ldCol cs c) (.slice p6 ((ldPile bs l cs c).length) c6) (ldTol cs c tol)).toArray 103 (0, 0)) :: (b1, .cells (shC (.slice pc cs.length cc) (.slice po on co) (tlT t tol)).toArray 32 (0, 0)) :: (b2, .cells #[.slice bp bs.length bc] 33 (0, 0)) :: (b3, .cells #[.slice lq l.length ld] 38 (0, 0)) :: (b4, .cells #[.int .i64 c] 3 (0, 0)) :: Kl6) W34 := ⟨Below.refl _ _, hW34.2⟩
           have hJ34 := abideK hJa hJ33 hW34
           have hB34 := hB33.trans (hW34.1.mono (Nat.le_trans hn0 hB33.size))
           refine (show Code.wpIn _ _ _ _ _ _ _ from ?_)
           refine wpIn_cond_false rfl ?_
           refine wpIn_skip ?_
           refine (show Code.wpIn _ _ _ _ _ _ _ from ?_)
           refine wp_region_LI (W0 := (W34 : World)) ((g17, .cells #[.int .u8 2, .int .i64 (kilX (halfP 2) (ldPile bs l cs c)), .int .i64 ((ldCol cs c).k20)] 140 (0, 0)) :: (g10, .cells #[.int .i64 (kilX (halfP 1) (ldPile bs l cs c)), .int .i64 (kilX (halfP 2) (ldPile bs l cs c)), .int .i64 (kilX allP (ldPile bs l cs c))] 66 (0, 0)) :: (g8, .cells (ldnC (ldCol cs c) (.slice p6 ((ldPile bs l cs c).length) c6) (ldTol cs c tol)).toArray 103 (0, 0)) :: (b1, .cells (shC (.slice pc cs.length cc) (.slice po on co) (tlT t tol)).toArray 32 (0, 0)) :: (b2, .cells #[.slice bp bs.length bc] 33 (0, 0)) :: (b3, .cells #[.slice lq l.length ld] 38 (0, 0)) :: (b4, .cells #[.int .i64 c] 3 (0, 0)) :: Kl6) Tw.kr (hR34) ?_
           refine lm (v := .int .i64 2) rfl rfl ?_
           refine lm (v := .int .i64 2) rfl rfl ?_
           refine wpL_done (fun W35 hW35 => ?_)
           have hR35 : KS (W35 : World) ((g17, .cells #[.int .u8 2, .int .i64 (kilX (halfP 2) (ldPile bs l cs c)), .int .i64 ((ldCol cs c).k20)] 140 (0, 0)) :: (g10, .cells #[.int .i64 (kilX (halfP 1) (ldPile bs l cs c)), .int .i64 (kilX (halfP 2) (ldPile bs l cs c)), .int .i64 (kilX allP (ldPile bs l cs c))] 66 (0, 0)) :: (g8, .cells (ldnC (ldCol cs c) (.slice p6 ((ldPile bs l cs c).length) c6) (ldTol cs c tol)).toArray 103 (0, 0)) :: (b1, .cells (shC (.slice pc cs.length cc) (.slice po on co) (tlT t tol)).toArray 32 (0, 0)) :: (b2, .cells #[.slice bp bs.length bc] 33 (0, 0)) :: (b3, .cells #[.slice lq l.length ld] 38 (0, 0)) :: (b4, .cells #[.int .i64 c] 3 (0, 0)) :: Kl6) W35 := ⟨Below.refl _ _, hW35.2⟩
           have hJ35 := abideK hJa hJ34 hW35
           have hB35 := hB34.trans (hW35.1.mono (Nat.le_trans hn0 hB34.size))
           go_roundw
           case rel =>
             repeat apply Exists.intro
             exact ⟨⟨2, 1, pre1, Tw.om, (by rw [hx1]; simp), hJ35, hB35, rfl, (hR35.sub (fun p hp => by first | exact hp | (simp only [List.mem_cons, List.mem_append, List.nil_append, List.not_mem_nil, or_assoc, or_false, false_or] at hp ⊢ <;> grind)))⟩, rfl⟩
           case measure => (show 3 - (intOf (.int .i64 2)).toNat < 3 - (intOf (.int .i64 1)).toNat); simp only [intOf]; omega
         | true =>
           have h8 : ((ldCol cs c).k20) < (kilX (halfP 2) (ldPile bs l cs c)) := of_decide_eq_true hd8
           clear hd8
           rw [show heavyF (ldCol cs c) (ldPile bs l cs c) c (1 + 1) 1 = heavy1 (ldCol cs c) (ldPile bs l cs c) c 1 ++ heavyF (ldCol cs c) (ldPile bs l cs c) c 1 2 from rfl, heavy1_yes (cc := (ldCol cs c)) (p := (ldPile bs l cs c)) (c := c) (k := 1) h8] at hx1
           refine lm (v := .func (.yield l0) #[] #[]) rfl rfl ?_
           refine lv (v := .int .i64 c) rfl rfl (yb_cell (off := 0) rfl Tw.kr (.tail _ Tw.m5) Try.underlying3 rfl Tw.kr) ?_
           refine lm (v := .pointer (some ⟨g17, 0, none⟩)) rfl rfl ?_
           refine lv (v := .int .u8 2) rfl rfl (yb_cell (off := 0) rfl Tw.kr Tw.m0 Try.underlying5 rfl Tw.kr) ?_
           refine lm (v := .agg #[.int .i64 c, .int .u8 2, .int .i64 0]) rfl rfl ?_
           refine wpL_done (fun W36 hW36 => ?_)
           have hR36 : KS (W36 : World) ((g17, .cells #[.int .u8 2, .int .i64 (kilX (halfP 2) (ldPile bs l cs c)), .int .i64 ((ldCol cs c).k20)] 140 (0, 0)) :: (g10, .cells #[.int .i64 (kilX (halfP 1) (ldPile bs l cs c)), .int .i64 (kilX (halfP 2) (ldPile bs l cs c)), .int .i64 (kilX allP (ldPile bs l cs c))] 66 (0, 0)) :: (g8, .cells (ldnC (ldCol cs c) (.slice p6 ((ldPile bs l cs c).length) c6) (ldTol cs c tol)).toArray 103 (0, 0)) :: (b1, .cells (shC (.slice pc cs.length cc) (.slice po on co) (tlT t tol)).toArray 32 (0, 0)) :: (b2, .cells #[.slice bp bs.length bc] 33 (0, 0)) :: (b3, .cells #[.slice lq l.length ld] 38 (0, 0)) :: (b4, .cells #[.int .i64 c] 3 (0, 0)) :: Kl6) W36 := ⟨Below.refl _ _, hW36.2⟩
           have hJ36 := abideK hJa hJ32 hW36
           have hB36 := hB32.trans (hW36.1.mono (Nat.le_trans hn0 hB32.size))
           refine (show wpListIn _ _ _ _ _ _ _ _ from ?_)
           have hYY := hYd pre1 (⟨c, 2, 0⟩ : Ft) W36 hJ36 (by rw [hx1]; simp)
           refine wpl_yield rfl rfl Tw.kr Tw.kr Tw.kr rfl hYY Tw.pu Tw.pu (fun W37 hA37 => ?_) (fun W37 hX37 => ?_)
           · obtain ⟨hJy37, hKy37⟩ := hA37
             have hko37 : ∀ p ∈ (((g17, .cells #[.int .u8 2, .int .i64 (kilX (halfP 2) (ldPile bs l cs c)), .int .i64 ((ldCol cs c).k20)] 140 (0, 0)) :: (g10, .cells #[.int .i64 (kilX (halfP 1) (ldPile bs l cs c)), .int .i64 (kilX (halfP 2) (ldPile bs l cs c)), .int .i64 (kilX allP (ldPile bs l cs c))] 66 (0, 0)) :: (g8, .cells (ldnC (ldCol cs c) (.slice p6 ((ldPile bs l cs c).length) c6) (ldTol cs c tol)).toArray 103 (0, 0)) :: (b1, .cells (shC (.slice pc cs.length cc) (.slice po on co) (tlT t tol)).toArray 32 (0, 0)) :: (b2, .cells #[.slice bp bs.length bc] 33 (0, 0)) :: (b3, .cells #[.slice lq l.length ld] 38 (0, 0)) :: (b4, .cells #[.int .i64 c] 3 (0, 0)) :: Kl6) : List (Nat × Obj)), p.2.isCells = true ∧ ownT [71, 58] p.2 = false := (List.forall_mem_cons.2 ⟨⟨rfl, rfl⟩, (List.forall_mem_cons.2 ⟨⟨rfl, rfl⟩, (List.forall_mem_cons.2 ⟨⟨rfl, rfl⟩, (List.forall_mem_cons.2 ⟨⟨rfl, rfl⟩, (List.forall_mem_cons.2 ⟨⟨rfl, rfl⟩, (List.forall_mem_cons.2 ⟨⟨rfl, rfl⟩, (List.forall_mem_cons.2 ⟨⟨rfl, rfl⟩, hTKl6⟩)⟩)⟩)⟩)⟩)⟩)⟩)
             have hR37 : KS (W37 : World) ((g17, .cells #[.int .u8 2, .int .i64 (kilX (halfP 2) (ldPile bs l cs c)), .int .i64 ((ldCol cs c).k20)] 140 (0, 0)) :: (g10, .cells #[.int .i64 (kilX (halfP 1) (ldPile bs l cs c)), .int .i64 (kilX (halfP 2) (ldPile bs l cs c)), .int .i64 (kilX allP (ldPile bs l cs c))] 66 (0, 0)) :: (g8, .cells (ldnC (ldCol cs c) (.slice p6 ((ldPile bs l cs c).length) c6) (ldTol cs c tol)).toArray 103 (0, 0)) :: (b1, .cells (shC (.slice pc cs.length cc) (.slice po on co) (tlT t tol)).toArray 32 (0, 0)) :: (b2, .cells #[.slice bp bs.length bc] 33 (0, 0)) :: (b3, .cells #[.slice lq l.length ld] 38 (0, 0)) :: (b4, .cells #[.int .i64 c] 3 (0, 0)) :: Kl6) W37 := ⟨Below.refl _ _, fun p hp => hKy37.same _ _ (hR36.2 p hp) (hko37 p hp).1 (hko37 p hp).2⟩
             have hB37 := hB36.trans hKy37.below
             refine wpl_rest (W0 := (W37 : World)) ((g17, .cells #[.int .u8 2, .int .i64 (kilX (halfP 2) (ldPile bs l cs c)), .int .i64 ((ldCol cs c).k20)] 140 (0, 0)) :: (g10, .cells #[.int .i64 (kilX (halfP 1) (ldPile bs l cs c)), .int .i64 (kilX (halfP 2) (ldPile bs l cs c)), .int .i64 (kilX allP (ldPile bs l cs c))] 66 (0, 0)) :: (g8, .cells (ldnC (ldCol cs c) (.slice p6 ((ldPile bs l cs c).length) c6) (ldTol cs c tol)).toArray 103 (0, 0)) :: (b1, .cells (shC (.slice pc cs.length cc) (.slice po on co) (tlT t tol)).toArray 32 (0, 0)) :: (b2, .cells #[.slice bp bs.length bc] 33 (0, 0)) :: (b3, .cells #[.slice lq l.length ld] 38 (0, 0)) :: (b4, .cells #[.int .i64 c] 3 (0, 0)) :: Kl6) Tw.kr (hR37) ?_
             refine lm (v := .bool false) rfl rfl ?_
             refine lm (v := .bool false) rfl rfl ?_
             refine wpL_done (fun W38 hW38 => ?_)
             have hR38 : KS (W38 : World) ((g17, .cells #[.int .u8 2, .int .i64 (kilX (halfP 2) (ldPile bs l cs c)), .int .i64 ((ldCol cs c).k20)] 140 (0, 0)) :: (g10, .cells #[.int .i64 (kilX (halfP 1) (ldPile bs l cs c)), .int .i64 (kilX (halfP 2) (ldPile bs l cs c)), .int .i64 (kilX allP (ldPile bs l cs c))] 66 (0, 0)) :: (g8, .cells (ldnC (ldCol cs c) (.slice p6 ((ldPile bs l cs c).length) c6) (ldTol cs c tol)).toArray 103 (0, 0)) :: (b1, .cells (shC (.slice pc cs.length cc) (.slice po on co) (tlT t tol)).toArray 32 (0, 0)) :: (b2, .cells #[.slice bp bs.length bc] 33 (0, 0)) :: (b3, .cells #[.slice lq l.length ld] 38 (0, 0)) :: (b4, .cells #[.int .i64 c] 3 (0, 0)) :: Kl6) W38 := ⟨Below.refl _ _, hW38.2⟩
             have hJ38 := abideK hJa hJy37 hW38
             have hB38 := hB37.trans (hW38.1.mono (Nat.le_trans hn0 hB37.size))
             refine (show Code.wpIn _ _ _ _ _ _ _ from ?_)
             refine wpIn_cond_false rfl ?_
             refine wpIn_skip ?_
             refine (show Code.wpIn _ _ _ _ _ _ _ from ?_)
             refine wp_region_LI (W0 := (W38 : World)) ((g17, .cells #[.int .u8 2, .int .i64 (kilX (halfP 2) (ldPile bs l cs c)), .int .i64 ((ldCol cs c).k20)] 140 (0, 0)) :: (g10, .cells #[.int .i64 (kilX (halfP 1) (ldPile bs l cs c)), .int .i64 (kilX (halfP 2) (ldPile bs l cs c)), .int .i64 (kilX allP (ldPile bs l cs c))] 66 (0, 0)) :: (g8, .cells (ldnC (ldCol cs c) (.slice p6 ((ldPile bs l cs c).length) c6) (ldTol cs c tol)).toArray 103 (0, 0)) :: (b1, .cells (shC (.slice pc cs.length cc) (.slice po on co) (tlT t tol)).toArray 32 (0, 0)) :: (b2, .cells #[.slice bp bs.length bc] 33 (0, 0)) :: (b3, .cells #[.slice lq l.length ld] 38 (0, 0)) :: (b4, .cells #[.int .i64 c] 3 (0, 0)) :: Kl6) Tw.kr (hR38) ?_
             refine lm (v := .int .i64 2) rfl rfl ?_
             refine lm (v := .int .i64 2) rfl rfl ?_
             refine wpL_done (fun W39 hW39 => ?_)
             have hR39 : KS (W39 : World) ((g17, .cells #[.int .u8 2, .int .i64 (kilX (halfP 2) (ldPile bs l cs c)), .int .i64 ((ldCol cs c).k20)] 140 (0, 0)) :: (g10, .cells #[.int .i64 (kilX (halfP 1) (ldPile bs l cs c)), .int .i64 (kilX (halfP 2) (ldPile bs l cs c)), .int .i64 (kilX allP (ldPile bs l cs c))] 66 (0, 0)) :: (g8, .cells (ldnC (ldCol cs c) (.slice p6 ((ldPile bs l cs c).length) c6) (ldTol cs c tol)).toArray 103 (0, 0)) :: (b1, .cells (shC (.slice pc cs.length cc) (.slice po on co) (tlT t tol)).toArray 32 (0, 0)) :: (b2, .cells #[.slice bp bs.length bc] 33 (0, 0)) :: (b3, .cells #[.slice lq l.length ld] 38 (0, 0)) :: (b4, .cells #[.int .i64 c] 3 (0, 0)) :: Kl6) W39 := ⟨Below.refl _ _, hW39.2⟩
             have hJ39 := abideK hJa hJ38 hW39
             have hB39 := hB38.trans (hW39.1.mono (Nat.le_trans hn0 hB38.size))
             go_roundw
             case rel =>
               repeat apply Exists.intro
               exact ⟨⟨2, 1, (pre1 ++ [(⟨c, 2, 0⟩ : Ft)]), Tw.om, (by rw [hx1]; simp), hJ39, hB39, rfl, (hR39.sub (fun p hp => by first | exact hp | (simp only [List.mem_cons, List.mem_append, List.nil_append, List.not_mem_nil, or_assoc, or_false, false_or] at hp ⊢ <;> grind)))⟩, rfl⟩
             case measure => (show 3 - (intOf (.int .i64 2)).toNat < 3 - (intOf (.int .i64 1)).toNat); simp only [intOf]; omega
           · refine wpl_rest (W0 := (W37 : World)) [] Tw.kr ((KS.start W37)) ?_
             refine lm (v := .bool true) rfl rfl ?_
             refine lm (v := .bool true) rfl rfl ?_
             refine wpL_done (fun W40 hW40 => ?_)
             refine (show Code.wpIn _ _ _ _ _ _ _ from ?_)
             refine wpIn_cond_true rfl ?_
             refine wpIn_ret ?_
             try simp only [inBlock_ret, then_ret]
             refine bodyPost_ret (results_none rfl _ _ _) rfl ?_
             exact ⟨⟨_, rfl⟩, .inr ⟨_, trivial, abideK hJxa hX37 hW40⟩⟩
     | true =>
       have h5 : k = 0 := of_decide_eq_true hd5
       clear hd5
       obtain rfl := h5
       obtain rfl : r0 = 2 + 1 := by omega
       refine lm (v := .agg #[.int .u8 1, .int .i64 (kilX (halfP 1) (ldPile bs l cs c)), .int .i64 ((ldCol cs c).k20)]) rfl rfl ?_
       refine wpL_new (fun g => .pointer (some ⟨g, 0, none⟩)) (obi := .cells #[.int .u8 0, .int .i64 0, .int .i64 0] 140 (0, 0)) rfl rfl Tw.kf Tw.pf fun g19 Bg19 Fg19 => ?_
       obtain ⟨dj20_0, dj20_1, dj20_2, dj20_3, dj20_4, dj20_5, dj20_6⟩ : g10 ≠ g19 ∧ g8 ≠ g19 ∧ b1 ≠ g19 ∧ b2 ≠ g19 ∧ b3 ≠ g19 ∧ b4 ≠ g19 ∧ Dk g19 Kl6 := Tw.dkf Fg19
       refine wpL_s ((g19, .cells #[.int .u8 1, .int .i64 (kilX (halfP 1) (ldPile bs l cs c)), .int .i64 ((ldCol cs c).k20)] 140 (0, 0)) :: (g10, .cells #[.int .i64 (kilX (halfP 1) (ldPile bs l cs c)), .int .i64 (kilX (halfP 2) (ldPile bs l cs c)), .int .i64 (kilX allP (ldPile bs l cs c))] 66 (0, 0)) :: (g8, .cells (ldnC (ldCol cs c) (.slice p6 ((ldPile bs l cs c).length) c6) (ldTol cs c tol)).toArray 103 (0, 0)) :: (b1, .cells (shC (.slice pc cs.length cc) (.slice po on co) (tlT t tol)).toArray 32 (0, 0)) :: (b2, .cells #[.slice bp bs.length bc] 33 (0, 0)) :: (b3, .cells #[.slice lq l.length ld] 38 (0, 0)) :: (b4, .cells #[.int .i64 c] 3 (0, 0)) :: Kl6) rfl rfl (st_row (off := 0) (v := .agg #[.int .u8 1, .int .i64 (kilX (halfP 1) (ldPile bs l cs c)), .int .i64 ((ldCol cs c).k20)]) rfl Tw.kr Tw.kr Tw.m0 Bg19 Tw.kr (by first | (simp [Value.cells]; done) | exact Nat.le_of_ble_eq_true rfl) (by intro v hv; simp [Value.cells] at hv; first | (subst hv; rfl) | (rcases hv with rfl | rfl | rfl <;> rfl)) Tw.kr (List.forall_mem_cons.2 ⟨.inl rfl, (List.forall_mem_cons.2 ⟨.inr ⟨Tw.m1, Tw.nee⟩, (List.forall_mem_cons.2 ⟨.inr ⟨Tw.m2, Tw.nee⟩, (List.forall_mem_cons.2 ⟨.inr ⟨Tw.m3, Tw.nee⟩, (List.forall_mem_cons.2 ⟨.inr ⟨Tw.m4, Tw.nee⟩, (List.forall_mem_cons.2 ⟨.inr ⟨Tw.m5, Tw.nee⟩, (List.forall_mem_cons.2 ⟨.inr ⟨(.tail _ Tw.m5), Tw.nee⟩, (fun p hp => .inr ⟨(.tail _ (.tail _ (.tail _ (.tail _ (.tail _ (.tail _ (.tail _ hp))))))), ((show Dk g19 Kl6 from Tw.djt) _ hp)⟩)⟩)⟩)⟩)⟩)⟩)⟩)⟩)) ?_
       refine wpL_done (fun W41 hW41 => ?_)
       have hR41 : KS (W41 : World) ((g19, .cells #[.int .u8 1, .int .i64 (kilX (halfP 1) (ldPile bs l cs c)), .int .i64 ((ldCol cs c).k20)] 140 (0, 0)) :: (g10, .cells #[.int .i64 (kilX (halfP 1) (ldPile bs l cs c)), .int .i64 (kilX (halfP 2) (ldPile bs l cs c)), .int .i64 (kilX allP (ldPile bs l cs c))] 66 (0, 0)) :: (g8, .cells (ldnC (ldCol cs c) (.slice p6 ((ldPile bs l cs c).length) c6) (ldTol cs c tol)).toArray 103 (0, 0)) :: (b1, .cells (shC (.slice pc cs.length cc) (.slice po on co) (tlT t tol)).toArray 32 (0, 0)) :: (b2, .cells #[.slice bp bs.length bc] 33 (0, 0)) :: (b3, .cells #[.slice lq l.length ld] 38 (0, 0)) :: (b4, .cells #[.int .i64 c] 3 (0, 0)) :: Kl6) W41 := ⟨Below.refl _ _, hW41.2⟩
       have hJ41 := abideK hJa hJ6 hW41
       have hB41 := hB6.trans (hW41.1.mono (Nat.le_trans hn0 hB6.size))
       refine (show Code.wpIn _ _ _ _ _ _ _ from ?_)
       refine wpIn_seq ?_
       refine wp_region_S (W0 := (W41 : World)) (List.take 11 _) (List.drop 11 _) ((g19, .cells #[.int .u8 1, .int .i64 (kilX (halfP 1) (ldPile bs l cs c)), .int .i64 ((ldCol cs c).k20)] 140 (0, 0)) :: (g10, .cells #[.int .i64 (kilX (halfP 1) (ldPile bs l cs c)), .int .i64 (kilX (halfP 2) (ldPile bs l cs c)), .int .i64 (kilX allP (ldPile bs l cs c))] 66 (0, 0)) :: (g8, .cells (ldnC (ldCol cs c) (.slice p6 ((ldPile bs l cs c).length) c6) (ldTol cs c tol)).toArray 103 (0, 0)) :: (b1, .cells (shC (.slice pc cs.length cc) (.slice po on co) (tlT t tol)).toArray 32 (0, 0)) :: (b2, .cells #[.slice bp bs.length bc] 33 (0, 0)) :: (b3, .cells #[.slice lq l.length ld] 38 (0, 0)) :: (b4, .cells #[.int .i64 c] 3 (0, 0)) :: Kl6) (List.take_append_drop 11 _).symm Tw.kr (hR41) ?_
       simp only [List.take_succ_cons, List.take_zero, List.drop_succ_cons, List.drop_zero]
       refine lm (v := .pointer (some ⟨g19, 1, none⟩)) rfl rfl ?_
       refine lv (v := .int .i64 (kilX (halfP 1) (ldPile bs l cs c))) rfl rfl (yb_cell (off := 1) rfl Tw.kr Tw.m0 Try.underlying3 rfl Tw.kr) ?_
       refine lm (v := .pointer (some ⟨g19, 2, none⟩)) rfl rfl ?_
       refine lv (v := .int .i64 ((ldCol cs c).k20)) rfl rfl (yb_cell (off := 2) rfl Tw.kr Tw.m0 Try.underlying3 rfl Tw.kr) ?_
       refine lp (v := .bool (decide (((ldCol cs c).k20) < (kilX (halfP 1) (ldPile bs l cs c))))) rfl rfl (run_bin rfl (vx := (.int .i64 (kilX (halfP 1) (ldPile bs l cs c)))) (vy := (.int .i64 ((ldCol cs c).k20))) Tw.kr Tw.kr fun w => bi_gtr rfl w) ?_
       refine lm (v := .bool (decide (((ldCol cs c).k20) < (kilX (halfP 1) (ldPile bs l cs c))))) rfl rfl ?_
       cases hd9 : (decide (((ldCol cs c).k20) < (kilX (halfP 1) (ldPile bs l cs c)))) with
       | false =>
         have h9 : ¬ (((ldCol cs c).k20) < (kilX (halfP 1) (ldPile bs l cs c))) := of_decide_eq_false hd9
         clear hd9
         rw [show heavyF (ldCol cs c) (ldPile bs l cs c) c (2 + 1) 0 = heavy1 (ldCol cs c) (ldPile bs l cs c) c 0 ++ heavyF (ldCol cs c) (ldPile bs l cs c) c 2 1 from rfl, heavy1_no (cc := (ldCol cs c)) (p := (ldPile bs l cs c)) (c := c) (k := 0) h9] at hx1
         refine ln rfl ?_
         refine ln rfl ?_
         refine ln rfl ?_
         refine ln rfl ?_
         refine ln rfl ?_
         refine wpL_done (fun W42 hW42 => ?_)
         have hR42 : KS (W42 : World) ((g19, .cells #[.int .u8 1, .int .i64 (kilX (halfP 1) (ldPile bs l cs c)), .int .i64 ((ldCol cs c).k20)] 140 (0, 0)) :: (g10, .cells #[.int .i64 (kilX (halfP 1) (ldPile bs l cs c)), .int .i64 (kilX (halfP 2) (ldPile bs l cs c)), .int .i64 (kilX allP (ldPile bs l cs c))] 66 (0, 0)) :: (g8, .cells (ldnC (ldCol cs c) (.slice p6 ((ldPile bs l cs c).length) c6) (ldTol cs c tol)).toArray 103 (0, 0)) :: (b1, .cells (shC (.slice pc cs.length cc) (.slice po on co) (tlT t tol)).toArray 32 (0, 0)) :: (b2, .cells #[.slice bp bs.length bc] 33 (0, 0)) :: (b3, .cells #[.slice lq l.length ld] 38 (0, 0)) :: (b4, .cells #[.int .i64 c] 3 (0, 0)) :: Kl6) W42 := ⟨Below.refl _ _, hW42.2⟩
         have hJ42 := abideK hJa hJ41 hW42
         have hB42 := hB41.trans (hW42.1.mono (Nat.le_trans hn0 hB41.size))
         refine (show wpListIn _ _ _ _ _ _ _ _ from ?_)
         refine wpl_rest (W0 := (W42 : World)) ((g19, .cells #[.int .u8 1, .int .i64 (kilX (halfP 1) (ldPile bs l cs c)), .int .i64 ((ldCol cs c).k20)] 140 (0, 0)) :: (g10, .cells #[.int .i64 (kilX (halfP 1) (ldPile bs l cs c)), .int .i64 (kilX (halfP 2) (ldPile bs l cs c)), .int .i64 (kilX allP (ldPile bs l cs c))] 66 (0, 0)) :: (g8, .cells (ldnC (ldCol cs c) (.slice p6 ((ldPile bs l cs c).length) c6) (ldTol cs c tol)).toArray 103 (0, 0)) :: (b1, .cells (shC (.slice pc cs.length cc) (.slice po on co) (tlT t tol)).toArray 32 (0, 0)) :: (b2, .cells #[.slice bp bs.length bc] 33 (0, 0)) :: (b3, .cells #[.slice lq l.length ld] 38 (0, 0)) :: (b4, .cells #[.int .i64 c] 3 (0, 0)) :: Kl6) Tw.kr (hR42) ?_
         refine ln rfl ?_
         refine ln rfl ?_
         refine lm (v := .bool false) rfl rfl ?_
         refine wpL_done (fun W43 hW43 => ?_)
         have hR43 : KS (W43 : World) ((g19, .cells #[.int .u8 1, .int .i64 (kilX (halfP 1) (ldPile bs l cs c)), .int .i64 ((ldCol cs c).k20)] 140 (0, 0)) :: (g10, .cells #[.int .i64 (kilX (halfP 1) (ldPile bs l cs c)), .int .i64 (kilX (halfP 2) (ldPile bs l cs c)), .int .i64 (kilX allP (ldPile bs l cs c))] 66 (0, 0)) :: (g8, .cells (ldnC (ldCol cs c) (.slice p6 ((ldPile bs l cs c).length) c6) (ldTol cs c tol)).toArray 103 (0, 0)) :: (b1, .cells (shC (.slice pc cs.length cc) (.slice po on co) (tlT t tol)).toArray 32 (0, 0)) :: (b2, .cells #[.slice bp bs.length bc] 33 (0, 0)) :: (b3, .cells #[.slice lq l.length ld] 38 (0, 0)) :: (b4, .cells #[.int .i64 c] 3 (0, 0)) :: Kl6) W43 := ⟨Below.refl _ _, hW43.2⟩
         have hJ43 := abideK hJa hJ42 hW43
         have hB43 := hB42.trans (hW43.1.mono (Nat.le_trans hn0 hB42.size))
         refine (show Code.wpIn _ _ _ _ _ _ _ from ?_)
         refine wpIn_cond_false rfl ?_
         refine wpIn_skip ?_
         refine (show Code.wpIn _ _ _ _ _ _ _ from ?_)
         refine wp_region_LI (W0 := (W43 : World)) ((g19, .cells #[.int .u8 1, .int .i64 (kilX (halfP 1) (ldPile bs l cs c)), .int .i64 ((ldCol cs c).k20)] 140 (0, 0)) :: (g10, .cells #[.int .i64 (kilX (halfP 1) (ldPile bs l cs c)), .int .i64 (kilX (halfP 2) (ldPile bs l cs c)), .int .i64 (kilX allP (ldPile bs l cs c))] 66 (0, 0)) :: (g8, .cells (ldnC (ldCol cs c) (.slice p6 ((ldPile bs l cs c).length) c6) (ldTol cs c tol)).toArray 103 (0, 0)) :: (b1, .cells (shC (.slice pc cs.length cc) (.slice po on co) (tlT t tol)).toArray 32 (0, 0)) :: (b2, .cells #[.slice bp bs.length bc] 33 (0, 0)) :: (b3, .cells #[.slice lq l.length ld] 38 (0, 0)) :: (b4, .cells #[.int .i64 c] 3 (0, 0)) :: Kl6) Tw.kr (hR43) ?_
         refine lm (v := .int .i64 1) rfl rfl ?_
         refine lm (v := .int .i64 1) rfl rfl ?_
         refine wpL_done (fun W44 hW44 => ?_)
         have hR44 : KS (W44 : World) ((g19, .cells #[.int .u8 1, .int .i64 (kilX (halfP 1) (ldPile bs l cs c)), .int .i64 ((ldCol cs c).k20)] 140 (0, 0)) :: (g10, .cells #[.int .i64 (kilX (halfP 1) (ldPile bs l cs c)), .int .i64 (kilX (halfP 2) (ldPile bs l cs c)), .int .i64 (kilX allP (ldPile bs l cs c))] 66 (0, 0)) :: (g8, .cells (ldnC (ldCol cs c) (.slice p6 ((ldPile bs l cs c).length) c6) (ldTol cs c tol)).toArray 103 (0, 0)) :: (b1, .cells (shC (.slice pc cs.length cc) (.slice po on co) (tlT t tol)).toArray 32 (0, 0)) :: (b2, .cells #[.slice bp bs.length bc] 33 (0, 0)) :: (b3, .cells #[.slice lq l.length ld] 38 (0, 0)) :: (b4, .cells #[.int .i64 c] 3 (0, 0)) :: Kl6) W44 := ⟨Below.refl _ _, hW44.2⟩
         have hJ44 := abideK hJa hJ43 hW44
         have hB44 := hB43.trans (hW44.1.mono (Nat.le_trans hn0 hB43.size))
         go_roundw
         case rel =>
           repeat apply Exists.intro
           exact ⟨⟨1, 2, pre1, Tw.om, (by rw [hx1]; simp), hJ44, hB44, rfl, (hR44.sub (fun p hp => by first | exact hp | (simp only [List.mem_cons, List.mem_append, List.nil_append, List.not_mem_nil, or_assoc, or_false, false_or] at hp ⊢ <;> grind)))⟩, rfl⟩
         case measure => (show 3 - (intOf (.int .i64 1)).toNat < 3 - (intOf (.int .i64 0)).toNat); simp only [intOf]; omega
       | true =>
         have h9 : ((ldCol cs c).k20) < (kilX (halfP 1) (ldPile bs l cs c)) := of_decide_eq_true hd9
         clear hd9
         rw [show heavyF (ldCol cs c) (ldPile bs l cs c) c (2 + 1) 0 = heavy1 (ldCol cs c) (ldPile bs l cs c) c 0 ++ heavyF (ldCol cs c) (ldPile bs l cs c) c 2 1 from rfl, heavy1_yes (cc := (ldCol cs c)) (p := (ldPile bs l cs c)) (c := c) (k := 0) h9] at hx1
         refine lm (v := .func (.yield l0) #[] #[]) rfl rfl ?_
         refine lv (v := .int .i64 c) rfl rfl (yb_cell (off := 0) rfl Tw.kr (.tail _ Tw.m5) Try.underlying3 rfl Tw.kr) ?_
         refine lm (v := .pointer (some ⟨g19, 0, none⟩)) rfl rfl ?_
         refine lv (v := .int .u8 1) rfl rfl (yb_cell (off := 0) rfl Tw.kr Tw.m0 Try.underlying5 rfl Tw.kr) ?_
         refine lm (v := .agg #[.int .i64 c, .int .u8 1, .int .i64 0]) rfl rfl ?_
         refine wpL_done (fun W45 hW45 => ?_)
         have hR45 : KS (W45 : World) ((g19, .cells #[.int .u8 1, .int .i64 (kilX (halfP 1) (ldPile bs l cs c)), .int .i64 ((ldCol cs c).k20)] 140 (0, 0)) :: (g10, .cells #[.int .i64 (kilX (halfP 1) (ldPile bs l cs c)), .int .i64 (kilX (halfP 2) (ldPile bs l cs c)), .int .i64 (kilX allP (ldPile bs l cs c))] 66 (0, 0)) :: (g8, .cells (ldnC (ldCol cs c) (.slice p6 ((ldPile bs l cs c).length) c6) (ldTol cs c tol)).toArray 103 (0, 0)) :: (b1, .cells (shC (.slice pc cs.length cc) (.slice po on co) (tlT t tol)).toArray 32 (0, 0)) :: (b2, .cells #[.slice bp bs.length bc] 33 (0, 0)) :: (b3, .cells #[.slice lq l.length ld] 38 (0, 0)) :: (b4, .cells #[.int .i64 c] 3 (0, 0)) :: Kl6) W45 := ⟨Below.refl _ _, hW45.2⟩
         have hJ45 := abideK hJa hJ41 hW45
         have hB45 := hB41.trans (hW45.1.mono (Nat.le_trans hn0 hB41.size))
         refine (show wpListIn _ _ _ _ _ _ _ _ from ?_)
         have hYY := hYd pre1 (⟨c, 1, 0⟩ : Ft) W45 hJ45 (by rw [hx1]; simp)
         refine wpl_yield rfl rfl Tw.kr Tw.kr Tw.kr rfl hYY Tw.pu Tw.pu (fun W46 hA46 => ?_) (fun W46 hX46 => ?_)
         · obtain ⟨hJy46, hKy46⟩ := hA46
           have hko46 : ∀ p ∈ (((g19, .cells #[.int .u8 1, .int .i64 (kilX (halfP 1) (ldPile bs l cs c)), .int .i64 ((ldCol cs c).k20)] 140 (0, 0)) :: (g10, .cells #[.int .i64 (kilX (halfP 1) (ldPile bs l cs c)), .int .i64 (kilX (halfP 2) (ldPile bs l cs c)), .int .i64 (kilX allP (ldPile bs l cs c))] 66 (0, 0)) :: (g8, .cells (ldnC (ldCol cs c) (.slice p6 ((ldPile bs l cs c).length) c6) (ldTol cs c tol)).toArray 103 (0, 0)) :: (b1, .cells (shC (.slice pc cs.length cc) (.slice po on co) (tlT t tol)).toArray 32 (0, 0)) :: (b2, .cells #[.slice bp bs.length bc] 33 (0, 0)) :: (b3, .cells #[.slice lq l.length ld] 38 (0, 0)) :: (b4, .cells #[.int .i64 c] 3 (0, 0)) :: Kl6) : List (Nat × Obj)), p.2.isCells = true ∧ ownT [71, 58] p.2 = false := (List.forall_mem_cons.2 ⟨⟨rfl, rfl⟩, (List.forall_mem_cons.2 ⟨⟨rfl, rfl⟩, (List.forall_mem_cons.2 ⟨⟨rfl, rfl⟩, (List.forall_mem_cons.2 ⟨⟨rfl, rfl⟩, (List.forall_mem_cons.2 ⟨⟨rfl, rfl⟩, (List.forall_mem_cons.2 ⟨⟨rfl, rfl⟩, (List.forall_mem_cons.2 ⟨⟨rfl, rfl⟩, hTKl6⟩)⟩)⟩)⟩)⟩)⟩)⟩)
           have hR46 : KS (W46 : World) ((g19, .cells #[.int .u8 1, .int .i64 (kilX (halfP 1) (ldPile bs l cs c)), .int .i64 ((ldCol cs c).k20)] 140 (0, 0)) :: (g10, .cells #[.int .i64 (kilX (halfP 1) (ldPile bs l cs c)), .int .i64 (kilX (halfP 2) (ldPile bs l cs c)), .int .i64 (kilX allP (ldPile bs l cs c))] 66 (0, 0)) :: (g8, .cells (ldnC (ldCol cs c) (.slice p6 ((ldPile bs l cs c).length) c6) (ldTol cs c tol)).toArray 103 (0, 0)) :: (b1, .cells (shC (.slice pc cs.length cc) (.slice po on co) (tlT t tol)).toArray 32 (0, 0)) :: (b2, .cells #[.slice bp bs.length bc] 33 (0, 0)) :: (b3, .cells #[.slice lq l.length ld] 38 (0, 0)) :: (b4, .cells #[.int .i64 c] 3 (0, 0)) :: Kl6) W46 := ⟨Below.refl _ _, fun p hp => hKy46.same _ _ (hR45.2 p hp) (hko46 p hp).1 (hko46 p hp).2⟩
           have hB46 := hB45.trans hKy46.below
           refine wpl_rest (W0 := (W46 : World)) ((g19, .cells #[.int .u8 1, .int .i64 (kilX (halfP 1) (ldPile bs l cs c)), .int .i64 ((ldCol cs c).k20)] 140 (0, 0)) :: (g10, .cells #[.int .i64 (kilX (halfP 1) (ldPile bs l cs c)), .int .i64 (kilX (halfP 2) (ldPile bs l cs c)), .int .i64 (kilX allP (ldPile bs l cs c))] 66 (0, 0)) :: (g8, .cells (ldnC (ldCol cs c) (.slice p6 ((ldPile bs l cs c).length) c6) (ldTol cs c tol)).toArray 103 (0, 0)) :: (b1, .cells (shC (.slice pc cs.length cc) (.slice po on co) (tlT t tol)).toArray 32 (0, 0)) :: (b2, .cells #[.slice bp bs.length bc] 33 (0, 0)) :: (b3, .cells #[.slice lq l.length ld] 38 (0, 0)) :: (b4, .cells #[.int .i64 c] 3 (0, 0)) :: Kl6) Tw.kr (hR46) ?_
           refine lm (v := .bool false) rfl rfl ?_
           refine lm (v := .bool false) rfl rfl ?_
           refine wpL_done (fun W47 hW47 => ?_)
           have hR47 : KS (W47 : World) ((g19, .cells #[.int .u8 1, .int .i64 (kilX (halfP 1) (ldPile bs l cs c)), .int .i64 ((ldCol cs c).k20)] 140 (0, 0)) :: (g10, .cells #[.int .i64 (kilX (halfP 1) (ldPile bs l cs c)), .int .i64 (kilX (halfP 2) (ldPile bs l cs c)), .int .i64 (kilX allP (ldPile bs l cs c))] 66 (0, 0)) :: (g8, .cells (ldnC (ldCol cs c) (.slice p6 ((ldPile bs l cs c).length) c6) (ldTol cs c tol)).toArray 103 (0, 0)) :: (b1, .cells (shC (.slice pc cs.length cc) (.slice po on co) (tlT t tol)).toArray 32 (0, 0)) :: (b2, .cells #[.slice bp bs.length bc] 33 (0, 0)) :: (b3, .cells #[.slice lq l.length ld] 38 (0, 0)) :: (b4, .cells #[.int .i64 c] 3 (0, 0)) :: Kl6) W47 := ⟨Below.refl _ _, hW47.2⟩
           have hJ47 := abideK hJa hJy46 hW47
           have hB47 := hB46.trans (hW47.1.mono (Nat.le_trans hn0 hB46.size))
           refine (show Code.wpIn _ _ _ _ _ _ _ from ?_)
           refine wpIn_cond_false rfl ?_
           refine wpIn_skip ?_
           refine (show Code.wpIn _ _ _ _ _ _ _ from ?_)
           refine wp_region_LI (W0 := (W47 : World)) ((g19, .cells #[.int .u8 1, .int .i64 (kilX (halfP 1) (ldPile bs l cs c)), .int .i64 ((ldCol cs c).k20)] 140 (0, 0)) :: (g10, .cells #[.int .i64 (kilX (halfP 1) (ldPile bs l cs c)), .int .i64 (kilX (halfP 2) (ldPile bs l cs c)), .int .i64 (kilX allP (ldPile bs l cs c))] 66 (0, 0)) :: (g8, .cells (ldnC (ldCol cs c) (.slice p6 ((ldPile bs l cs c).length) c6) (ldTol cs c tol)).toArray 103 (0, 0)) :: (b1, .cells (shC (.slice pc cs.length cc) (.slice po on co) (tlT t tol)).toArray 32 (0, 0)) :: (b2, .cells #[.slice bp bs.length bc] 33 (0, 0)) :: (b3, .cells #[.slice lq l.length ld] 38 (0, 0)) :: (b4, .cells #[.int .i64 c] 3 (0, 0)) :: Kl6) Tw.kr (hR47) ?_
           refine lm (v := .int .i64 1) rfl rfl ?_
           refine lm (v := .int .i64 1) rfl rfl ?_
           refine wpL_done (fun W48 hW48 => ?_)
           have hR48 : KS (W48 : World) ((g19, .cells #[.int .u8 1, .int .i64 (kilX (halfP 1) (ldPile bs l cs c)), .int .i64 ((ldCol cs c).k20)] 140 (0, 0)) :: (g10, .cells #[.int .i64 (kilX (halfP 1) (ldPile bs l cs c)), .int .i64 (kilX (halfP 2) (ldPile bs l cs c)), .int .i64 (kilX allP (ldPile bs l cs c))] 66 (0, 0)) :: (g8, .cells (ldnC (ldCol cs c) (.slice p6 ((ldPile bs l cs c).length) c6) (ldTol cs c tol)).toArray 103 (0, 0)) :: (b1, .cells (shC (.slice pc cs.length cc) (.slice po on co) (tlT t tol)).toArray 32 (0, 0)) :: (b2, .cells #[.slice bp bs.length bc] 33 (0, 0)) :: (b3, .cells #[.slice lq l.length ld] 38 (0, 0)) :: (b4, .cells #[.int .i64 c] 3 (0, 0)) :: Kl6) W48 := ⟨Below.refl _ _, hW48.2⟩
           have hJ48 := abideK hJa hJ47 hW48
           have hB48 := hB47.trans (hW48.1.mono (Nat.le_trans hn0 hB47.size))
           go_roundw
           case rel =>
             repeat apply Exists.intro
             exact ⟨⟨1, 2, (pre1 ++ [(⟨c, 1, 0⟩ : Ft)]), Tw.om, (by rw [hx1]; simp), hJ48, hB48, rfl, (hR48.sub (fun p hp => by first | exact hp | (simp only [List.mem_cons, List.mem_append, List.nil_append, List.not_mem_nil, or_assoc, or_false, false_or] at hp ⊢ <;> grind)))⟩, rfl⟩
           case measure => (show 3 - (intOf (.int .i64 1)).toNat < 3 - (intOf (.int .i64 0)).toNat); simp only [intOf]; omega
         · refine wpl_rest (W0 := (W46 : World)) [] Tw.kr ((KS.start W46)) ?_
           refine lm (v := .bool true) rfl rfl ?_
           refine lm (v := .bool true) rfl rfl ?_
           refine wpL_done (fun W49 hW49 => ?_)
           refine (show Code.wpIn _ _ _ _ _ _ _ from ?_)
           refine wpIn_cond_true rfl ?_
           refine wpIn_ret ?_
           try simp only [inBlock_ret, then_ret]
           refine bodyPost_ret (results_none rfl _ _ _) rfl ?_
           exact ⟨⟨_, rfl⟩, .inr ⟨_, trivial, abideK hJxa hX46 hW49⟩⟩
end Go.Proofs.Ytnbfljcilojllaa
namespace Go.Proofs.Ytnbfljcilojllaa
open Go Go.RowKit Tw
theorem el_ft : Elem Try.prog 58 71 3 24 (.agg (ftC ft0).toArray) := Elem.mk' Try.underlying58 Tw.kr rfl
def ASF (W0 : Base) (n0 : Nat) (Z0 : List Value) (g : Nat) (pre : List Ft) (K : List (Nat × Obj)) : Prop := ∃ v Kl, K = (g, .cells #[v] 58 (0, 0)) :: Kl ∧ OwnL W0 71 3 v (n0 + pre.length) (Z0 ++ pre.flatMap ftC) Kl ∧ Dk g Kl
theorem asf_cells {W0 : Base} {n0 : Nat} {Z0 : List Value} {g : Nat} (ys : List Ft) (K : List (Nat × Obj)) (h : ASF W0 n0 Z0 g ys K) : ∀ p ∈ K, p.2.isCells = true := by
 obtain ⟨v, Kl, rfl, hO, _⟩ := h
 exact List.forall_mem_cons.2 ⟨rfl, own_cells hO⟩
set_option maxRecDepth 100000 in
set_option maxHeartbeats 4000000 in
theorem AppendSeqF_any {W0 : Base} (gf : Nat) (lb : Array Value) (n0 : Nat) (Z0 : List Value) (xs : List Ft) (hN : n0 + xs.length ≤ 4000000000) (v : Value) (Kv : List (Nat × Obj)) (hO : OwnL W0 71 3 v n0 Z0 Kv) (w : World) (hw : KS W0 Kv w) (eg : ∀ args W, (callFunc gf args).run Try.prog W = .ok (.enter gf args) W)
   (hseq : SeqStopsK (FX none) 0 Try.prog gf lb encFt (KpT [71, 58] W0.B) (fun ys => ys = xs) (fun _ => True) xs.length w) :
   Calls Try.prog 48 #[v, .func (.func gf) #[] lb] w fun e w' => ∃ v' Kl, e = .returned v' ∧ KS W0 Kl w' ∧ OwnL W0 71 3 v' (n0 + xs.length) (Z0 ++ xs.flatMap ftC) Kl := by
 obtain ⟨pv, cv, rfl⟩ := own_shape hO
 refine (callsIn_wide (n := 0)).1 ?_
 refine callsIn_of_wp_marks Try.func48 rfl trivial ?_
 simp only [Try.ntmps48, List.size_toArray, List.length_cons, List.length_nil, Nat.reduceAdd, Nat.reduceSub, Array.replicate_succ, Array.replicate_zero, List.push_toArray, List.append_toArray, List.nil_append, List.cons_append]
 refine wpIn_seq ?_
 refine wp_region_LI (W0 := (w : World)) [] Tw.kr ((KS.start w)) ?_
 refine wpL_new (fun g => .pointer (some ⟨g, 0, none⟩)) (obi := .cells #[.slice pv n0 cv] 58 (0, 0)) rfl rfl Tw.kf Tw.pf fun g1 Bg1 Fg1 => ?_
 refine lm (v := .slice none 0 0) rfl rfl ?_
 refine wpL_done (fun W1 hW1 => ?_)
 refine (show Code.wpIn _ _ _ _ _ _ _ from ?_)
 refine wpIn_seq ?_
 refine wpIn_seq ?_
 refine wp_region_LI (W0 := (w : World)) [(g1, .cells #[.slice pv n0 cv] 58 (0, 0))] Tw.kr (hW1) ?_
 refine lm (v := .func (.func gf) #[] lb) rfl rfl ?_
 refine wpL_done (fun W2 hW2 => ?_)
 refine (show Code.wpIn _ _ _ _ _ _ _ from ?_)
 refine wpIn_block ?_
 have hK0 : KS W0 ((g1, .cells #[.slice pv n0 cv] 58 (0, 0)) :: Kv) W2 := ⟨(hw.below hW2.1).1, List.forall_mem_cons.2 ⟨hW2.2 _ Tw.m0, (hw.below hW2.1).2⟩⟩
 refine range_k (α := Ft) (ts := [71, 58]) (gf := gf) (lb := lb) Tw.kr eg (encs := encFt) W0 hseq hW2.1 (fun _ => rfl) (ASF W0 n0 Z0 g1) (fun _ _ => False) asf_cells (fun _ _ h => h.elim) ⟨_, Kv, rfl, (by rw [List.flatMap_nil, List.append_nil]; exact hO), own_low hw (by assumption)⟩ hK0 ?round ?done ?stop
 case round =>
   rintro L pre x K W ⟨vo, Kl, rfl, hOl, hNl⟩ hK hlen
   have hn : W0.B ≤ W.heap.size := hK.size
   obtain ⟨Kr, hKr⟩ : ∃ Kr, Kr = restT [71, 58] W := ⟨_, rfl⟩
   have hS := at_start [71, 58] hn hK
   rw [← hKr] at hS
   have f1 : Dk g1 Kr := by rw [hKr]; exact restT_ne (hK.2 _ Tw.m0) rfl
   have f2 : Dj Kl Kr := by rw [hKr]; exact own_rest hOl hK (fun p hp => .tail _ hp) Tw.m0
   generalize hF : Array.foldl _ _ _ _ _ = F
   obtain rfl : F = #[.slice pv n0 cv, .func (.func gf) #[] lb, .pointer (some ⟨g1, 0, none⟩), undef, .slice none 0 0, undef, .func (.func gf) #[] lb, .agg (ftC x).toArray, undef, undef, undef, undef, undef] := hF.symm.trans Tw.kr
   clear hF
   obtain ⟨po, co, rfl⟩ := own_shape hOl
   have hOa : OwnL (atB W0 W hn) 71 3 (.slice po (n0 + pre.length) co) (n0 + pre.length) (Z0 ++ pre.flatMap ftC) Kl := hOl
   have hg2B : W0.B ≤ g1 := Nat.le_trans hw.size (by assumption)
   refine wp_region_LI (W0 := (atB W0 W hn)) ((g1, .cells #[.slice po (n0 + pre.length) co] 58 (0, 0)) :: (Kl ++ Kr)) Tw.kr (hS) ?_
   refine wpL_new (fun g => .pointer (some ⟨g, 0, none⟩)) (obi := .cells #[.int .i64 0, .int .u8 0, .int .i64 0] 71 (0, 0)) rfl rfl Tw.kf Tw.pf fun g2 Bg2 Fg2 => ?_
   obtain ⟨dj3_0, dj3_1, dj3_2⟩ : g1 ≠ g2 ∧ Dk g2 Kl ∧ Dk g2 Kr := Tw.dkf Fg2
   refine wpL_s ((g2, .cells (ftC x).toArray 71 (0, 0)) :: (g1, .cells #[.slice po (n0 + pre.length) co] 58 (0, 0)) :: (Kl ++ Kr)) rfl rfl (st_row (off := 0) (v := .agg (ftC x).toArray) rfl Tw.kr Tw.kr Tw.m0 Bg2 Tw.kr (by first | (simp [Value.cells]; done) | exact Nat.le_of_ble_eq_true rfl) (fun v hv => ftC_one x v hv) Tw.kr (List.forall_mem_cons.2 ⟨.inl rfl, (List.forall_mem_cons.2 ⟨.inr ⟨Tw.m1, Tw.nee⟩, (fun p hp => .inr ⟨(.tail _ (.tail _ hp)), ((show Dk g2 (Kl ++ Kr) from Tw.djt) _ hp)⟩)⟩)⟩)) ?_
   refine wpL_done (fun W3 hW3 => ?_)
   refine (show (KpA [71, 58] W W3 ∧ Below W0.B W W3 ∧ ∃ K2, (∀ p ∈ K2, p.2.isCells = true) ∧ KS W0 K2 W3 ∧ ∀ W3, KS W0 K2 W3 → _) from ?_)
   refine ⟨at_kp hW3 (fun p hp => by rw [← hKr] at hp; simp only [List.mem_cons, List.mem_append, hp, or_true]), hW3.1, ((g2, .cells (ftC x).toArray 71 (0, 0)) :: (g1, .cells #[.slice po (n0 + pre.length) co] 58 (0, 0)) :: Kl), List.forall_mem_cons.2 ⟨rfl, List.forall_mem_cons.2 ⟨rfl, own_cells hOl⟩⟩, (at_back hK hW3).sub (fun p hp => by simp only [List.mem_cons, List.mem_append] at hp ⊢; grind), fun V3 hV3 => ?_⟩
   have hn3 : W0.B ≤ V3.heap.size := hV3.size
   obtain ⟨Kq, hKq⟩ : ∃ Kq, Kq = restT [71, 58] V3 := ⟨_, rfl⟩
   have hS3 := at_start [71, 58] hn3 hV3
   rw [← hKq] at hS3
   have f3 : Dk g1 Kq := by rw [hKq]; exact restT_ne (hV3.2 _ Tw.m1) rfl
   have f5 : Dk g2 Kq := by rw [hKq]; exact restT_ne (hV3.2 _ Tw.m0) rfl
   have f4 : Dj Kl Kq := by rw [hKq]; exact own_rest hOl hV3 (fun p hp => .tail _ (.tail _ hp)) Tw.m0
   have hOb : OwnL (atB W0 V3 hn3) 71 3 (.slice po (n0 + pre.length) co) (n0 + pre.length) (Z0 ++ pre.flatMap ftC) Kl := hOl
   have hg5B : W0.B ≤ g2 := by assumption
   refine wpIn_block ?_
   refine wp_region_LI (W0 := (atB W0 V3 hn3)) ((g2, .cells (ftC x).toArray 71 (0, 0)) :: (g1, .cells #[.slice po (n0 + pre.length) co] 58 (0, 0)) :: (Kl ++ Kq)) Tw.kr (hS3) ?_
   refine lv (v := .slice po (n0 + pre.length) co) rfl rfl (yb_cell (off := 0) rfl Tw.kr Tw.m1 Try.underlying58 rfl Tw.kr) ?_
   refine lv (v := .agg (ftC x).toArray) rfl rfl (yb_load (n := 3) (off := 0) rfl Tw.kr Tw.m0 Try.underlying71 rfl Tw.kr (by first | (simp [Value.cells]; done) | exact Nat.le_of_ble_eq_true rfl) Tw.kr) ?_
   refine wpL_new (fun g => .slice (some ⟨g, 0, none⟩) 1 1) (obi := .cells (ftC x).toArray 71 (0, 0)) rfl rfl Tw.kf Tw.pf fun g4 Bg4 Fg4 => ?_
   obtain ⟨dj5_0, dj5_1, dj5_2, dj5_3⟩ : g2 ≠ g4 ∧ g1 ≠ g4 ∧ Dk g4 Kl ∧ Dk g4 Kq := Tw.dkf Fg4
   refine wpL_g (AppO (atB W0 V3 hn3) 71 3 ((g2, .cells (ftC x).toArray 71 (0, 0)) :: (g1, .cells #[.slice po (n0 + pre.length) co] 58 (0, 0)) :: Kq) ((n0 + pre.length) + 1) ((Z0 ++ pre.flatMap ftC) ++ [.int .i64 x.col, .int .u8 ((x.kind : Nat) : Int), .int .i64 x.box])) rfl rfl (app_own el_ft (m := 1) (c := 1) (news := [.int .i64 x.col, .int .u8 ((x.kind : Nat) : Int), .int .i64 x.box]) rfl Tw.kr Tw.kr Tw.m0 hOb Tw.sc (fun p hp => ⟨by simp only [List.mem_cons, List.mem_append, List.nil_append, List.not_mem_nil, or_assoc, or_false, false_or] at hp ⊢ <;> grind, (show Dj ((g2, .cells (ftC x).toArray 71 (0, 0)) :: (g1, .cells #[.slice po (n0 + pre.length) co] 58 (0, 0)) :: Kq) Kl from Tw.djt) p hp⟩) rfl (by simp [strV, Value.oneCell']) Tw.om Tw.om Tw.om) Tw.pf ?_
   rintro v6 K9 ⟨Kl6, O6, N6, rfl⟩
   obtain ⟨dj7_0, dj7_1, dj7_2⟩ : Dk g2 Kl6 ∧ Dk g1 Kl6 ∧ Dj Kq Kl6 := Tw.djf N6
   obtain ⟨p8, c8, rfl⟩ := own_shape O6
   refine wpL_s ((g2, .cells (ftC x).toArray 71 (0, 0)) :: (g1, .cells #[.slice p8 ((n0 + pre.length) + 1) c8] 58 (0, 0)) :: (Kq ++ Kl6)) rfl rfl (st_row (off := 0) (v := .slice p8 ((n0 + pre.length) + 1) c8) rfl Tw.kr Tw.kr Tw.m1 (show W0.B ≤ _ from hg2B) Tw.kr (by first | (simp [Value.cells]; done) | exact Nat.le_of_ble_eq_true rfl) (by intro v hv; simp [Value.cells] at hv; first | (subst hv; rfl) | (rcases hv with rfl <;> rfl)) Tw.kr (List.forall_mem_cons.2 ⟨.inr ⟨Tw.m0, Tw.nee⟩, (List.forall_mem_cons.2 ⟨.inl rfl, (fun p hp => .inr ⟨(.tail _ (.tail _ hp)), ((show Dk g1 (Kq ++ Kl6) from Tw.djt) _ hp)⟩)⟩)⟩)) ?_
   refine wpL_done (fun W4 hW4 => ?_)
   refine (show (KpA [71, 58] V3 W4 ∧ Below W0.B V3 W4 ∧ ∃ K, ASF W0 n0 Z0 g1 (pre ++ [x]) K ∧ KS W0 K W4) from ?_)
   exact ⟨at_kp hW4 (fun p hp => by rw [← hKq] at hp; simp only [List.mem_cons, List.mem_append, hp, or_true, true_or]), hW4.1, _, ⟨_, _, rfl, (by have h9 := O6; rw [List.flatMap_append, ← List.append_assoc, List.length_append, ← Nat.add_assoc]; exact h9), (show Dk g1 Kl6 from Tw.djt)⟩, (at_back hV3 hW4).sub (fun p hp => by simp only [List.mem_cons, List.mem_append] at hp ⊢; grind)⟩
 case stop =>
   rintro D pre K W _ hf
   exact hf.elim
 case done =>
   rintro D ys K W rfl ⟨vd, Kd, rfl, hOd, hNd⟩ hK hD
   obtain ⟨pd, cd, rfl⟩ := own_shape hOd
   refine (show Code.wpIn _ _ _ _ _ _ _ from ?_)
   refine wpIn_seq ?_
   refine wp_region_LI (W0 := W0) ((D, .deferred (some [])) :: (g1, .cells #[.slice pd (n0 + ys.length) cd] 58 (0, 0)) :: Kd) Tw.kr (hK) ?_
   refine lv (v := .slice pd (n0 + ys.length) cd) rfl rfl (yb_cell (off := 0) rfl Tw.kr Tw.m1 Try.underlying58 rfl Tw.kr) ?_
   refine lm (v := .slice pd (n0 + ys.length) cd) rfl rfl ?_
   refine wpL_done (fun W5 hW5 => ?_)
   refine (show Code.wpIn _ _ _ _ _ _ _ from ?_)
   refine wpIn_ret ?_
   try simp only [inBlock_ret, then_ret]
   have hD4 := hW5.2 (D, _) Tw.m0
   refine ⟨by simp, .inl ⟨_, _, rfl, run_takeDeferred hD4, ?_⟩⟩
   exact ⟨.slice pd (n0 + ys.length) cd, Tw.kr, _, Kd, rfl, ks_putN _ (hW5.sub (fun p hp => .tail _ (.tail _ hp))) (own_cells hOd) (Nat.le_trans (Nat.le_trans hw.size hW2.1.size) hD) hD4 rfl, hOd⟩
set_option maxRecDepth 100000 in
set_option maxHeartbeats 4000000 in
theorem CollectF_any (gf : Nat) (lb : Array Value) (xs : List Ft) (hN : xs.length ≤ 4000000000) (w : World) (eg : ∀ args W, (callFunc gf args).run Try.prog W = .ok (.enter gf args) W)
   (hseq : ∀ W, Below w.heap.size w W → SeqStopsK (FX none) 0 Try.prog gf lb encFt (KpT [71, 58] w.heap.size) (fun ys => ys = xs) (fun _ => True) xs.length W) :
   Calls Try.prog 39 #[.func (.func gf) #[] lb] w fun e w' => ∃ v, e = .returned v ∧ OutV w w' 71 3 v xs.length (xs.flatMap ftC) ∧ Below w.heap.size w w' := by
 go_enter Try.func39, Try.ntmps39
 refine wp_seq ?_
 refine wp_region_L [] (KS.start w) ?_
 refine lm (v := .slice none 0 0) rfl rfl ?_
 refine wpL_done (fun W1 hW1 => ?_)
 change Code.wp ..
 refine wp_seq ?_
 refine wp_region_L _ hW1 ?_
 refine lm (v := .func (.func gf) #[] lb) rfl rfl ?_
 refine wpL_c (f := 48) (args := #[.slice none 0 0, .func (.func gf) #[] lb]) (fun v K9 => OwnL (w : Base) 71 3 v xs.length (xs.flatMap ftC) K9) rfl Tw.kr Tw.kf (fun W hW => ((AppendSeqF_any (W0 := (w : Base)) gf lb 0 [] xs Tw.om _ _ (OwnL.nil _ _ _) W hW eg (hseq W hW.1)).mono fun e w' ⟨v, Kl, h1, h2, h3⟩ => ⟨v, Kl, h1, h2, (by rw [Nat.zero_add, List.nil_append] at h3; exact h3)⟩)) Tw.pf ?_
 rintro vq Kq hOq
 refine lm (v := vq) rfl rfl ?_
 refine wpL_done (fun W2 hW2 => ?_)
 change Code.wp ..
 refine wp_ret ?_
 try simp only [inBlock_ret, then_ret]
 refine bodyPost_ret (v := vq) ?_ rfl ?_
 · kernel_rfl
 · exact ⟨_, rfl, hOq.out (fun p hp => hp) hW2, hW2.1⟩
set_option maxRecDepth 100000 in
set_option maxHeartbeats 4000000 in
theorem faults_any {W0 : Base} {K : List (Nat × Obj)} (pc : Option Addr) (n cc : Nat) (po : Option Addr) (on co : Nat) (t : Tl) (tol : Int) (bp : Option Addr) (m bc : Nat) (lq : Option Addr) (k ld : Nat) (c : Int) (hot : OneT t) (w : World) (hw : KS W0 K w) : Calls Try.prog 40 #[.agg (shC (.slice pc n cc) (.slice po on co) (tlT t tol)).toArray, .slice bp m bc, .slice lq k ld, .int .i64 c] w fun e w' => ∃ v K', e = .returned v ∧ KS W0 K' w' ∧ (∃ b1 b2 b3 b4, v = .func (.func 62) #[] #[.pointer (some ⟨b1, 0, none⟩), .pointer (some ⟨b2, 0, none⟩), .pointer (some ⟨b3, 0, none⟩), .pointer (some ⟨b4, 0, none⟩)] ∧ K' = K ++ [(b4, .cells #[.int .i64 c] 3 (0, 0)), (b3, .cells #[.slice lq k ld] 38 (0, 0)), (b2, .cells #[.slice bp m bc] 33 (0, 0)), (b1, .cells (shC (.slice pc n cc) (.slice po on co) (tlT t tol)).toArray 32 (0, 0))] ∧ (∀ p ∈ K, p.1 ≠ b1 ∧ p.1 ≠ b2 ∧ p.1 ≠ b3 ∧ p.1 ≠ b4)) := by
 obtain ⟨hot0, hot1, hot2, hot3, hot4, hot5, hot6, hot7, hot8, hot9, hotA⟩ := hot
 go_enter Try.func40, Try.ntmps40
 refine wp_seq ?_
 refine wp_region_L [] (KS.start w) ?_
 refine wpL_new (fun g => .pointer (some ⟨g, 0, none⟩)) (obi := .cells (shC (.slice pc n cc) (.slice po on co) (tlT t tol)).toArray 32 (0, 0)) rfl rfl Tw.kf Tw.pf fun g1 Bg1 Fg1 => ?_
 refine wpL_new (fun g => .pointer (some ⟨g, 0, none⟩)) (obi := .cells #[.slice bp m bc] 33 (0, 0)) rfl rfl Tw.kf Tw.pf fun g2 Bg2 Fg2 => ?_
 obtain dj3_0 : g1 ≠ g2 := Tw.dkf Fg2
 refine wpL_new (fun g => .pointer (some ⟨g, 0, none⟩)) (obi := .cells #[.slice lq k ld] 38 (0, 0)) rfl rfl Tw.kf Tw.pf fun g4 Bg4 Fg4 => ?_
 obtain ⟨dj5_0, dj5_1⟩ : g2 ≠ g4 ∧ g1 ≠ g4 := Tw.dkf Fg4
 refine wpL_new (fun g => .pointer (some ⟨g, 0, none⟩)) (obi := .cells #[.int .i64 c] 3 (0, 0)) rfl rfl Tw.kf Tw.pf fun g6 Bg6 Fg6 => ?_
 obtain ⟨dj7_0, dj7_1, dj7_2⟩ : g4 ≠ g6 ∧ g2 ≠ g6 ∧ g1 ≠ g6 := Tw.dkf Fg6
 refine lm (v := .nilFunc) rfl rfl ?_
 refine wpL_done (fun W1 hW1 => ?_)
 change Code.wp ..
 refine wp_seq ?_
 refine wp_region_L _ hW1 ?_
 refine lm (v := .func (.func 62) #[] #[.pointer (some ⟨g1, 0, none⟩), .pointer (some ⟨g2, 0, none⟩), .pointer (some ⟨g4, 0, none⟩), .pointer (some ⟨g6, 0, none⟩)]) rfl rfl ?_
 refine lm (v := .func (.func 62) #[] #[.pointer (some ⟨g1, 0, none⟩), .pointer (some ⟨g2, 0, none⟩), .pointer (some ⟨g4, 0, none⟩), .pointer (some ⟨g6, 0, none⟩)]) rfl rfl ?_
 refine wpL_done (fun W2 hW2 => ?_)
 change Code.wp ..
 refine wp_ret ?_
 try simp only [inBlock_ret, then_ret]
 refine bodyPost_ret (v := .func (.func 62) #[] #[.pointer (some ⟨g1, 0, none⟩), .pointer (some ⟨g2, 0, none⟩), .pointer (some ⟨g4, 0, none⟩), .pointer (some ⟨g6, 0, none⟩)]) ?_ rfl ?_
 · kernel_rfl
 · exact ⟨_, _, rfl, ⟨(hw.below hW2.1).1, fun p hp => by rcases List.mem_append.1 hp with hp | hp; exact (hw.below hW2.1).2 p hp; exact hW2.2 p hp⟩, g1, g2, g4, g6, rfl, rfl, fun p hp => ⟨(fun e => by have h8 := lt_of_block (hw.2 p hp); have h9 : w.heap.size ≤ g1 := (by assumption); omega), (fun e => by have h8 := lt_of_block (hw.2 p hp); have h9 : w.heap.size ≤ g2 := (by assumption); omega), (fun e => by have h8 := lt_of_block (hw.2 p hp); have h9 : w.heap.size ≤ g4 := (by assumption); omega), (fun e => by have h8 := lt_of_block (hw.2 p hp); have h9 : w.heap.size ≤ g6 := (by assumption); omega)⟩⟩
set_option maxRecDepth 100000 in
set_option maxHeartbeats 4000000 in
theorem Faults_any (cs : List Col) (pc : Option Addr) (cc : Nat) (lc : cs.length ≤ 4000000000) (po : Option Addr) (on co : Nat) (t : Tl) (tol : Int) (bs : List Bo) (bp : Option Addr) (bc : Nat) (hl : bs.length ≤ 4000000000) (l : List Sd) (lq : Option Addr) (ld : Nat) (hm : l.length ≤ 3000000000) (c : Int) (w : World) (hc : SLV w pc (cs.flatMap colC)) (hp : SLV w bp (bs.flatMap boC)) (hs : SLV w lq (l.flatMap sdC)) (hot : OneT t) : Calls Try.prog 15 #[.agg (shC (.slice pc cs.length cc) (.slice po on co) (tlT t tol)).toArray, .slice bp bs.length bc, .slice lq l.length ld, .int .i64 c] w fun e w' => ∃ v, e = .returned v ∧ OutV w w' 71 3 v (faultsX cs bs l tol c).length ((faultsX cs bs l tol c).flatMap ftC) ∧ Below w.heap.size w w' := by
 have HC := Lib.hid hc
 clear hc
 have HBs := Lib.hid hp
 clear hp
 have HL := Lib.hid hs
 clear hs
 have hfl := faults_len cs bs l tol c
 obtain ⟨hot0, hot1, hot2, hot3, hot4, hot5, hot6, hot7, hot8, hot9, hotA⟩ := id hot
 go_enter Try.func15, Try.ntmps15
 refine wp_seq ?_
 refine wp_region_L [] (KS.start w) ?_
 refine wpL_new (fun g => .pointer (some ⟨g, 0, none⟩)) (obi := .cells (shC (.slice pc cs.length cc) (.slice po on co) (tlT t tol)).toArray 32 (0, 0)) rfl rfl Tw.kf Tw.pf fun g1 Bg1 Fg1 => ?_
 refine lm (v := .slice none 0 0) rfl rfl ?_
 refine wpL_done (fun W1 hW1 => ?_)
 change Code.wp ..
 refine wp_seq ?_
 refine wp_region_L _ hW1 ?_
 refine lv (v := .agg (shC (.slice pc cs.length cc) (.slice po on co) (tlT t tol)).toArray) rfl rfl (yb_load (n := 13) (off := 0) rfl Tw.kr Tw.m0 Try.underlying32 rfl Tw.kr (by first | (simp [Value.cells]; done) | exact Nat.le_of_ble_eq_true rfl) Tw.kr) ?_
 refine lm (v := .slice bp bs.length bc) rfl rfl ?_
 refine lm (v := .slice lq l.length ld) rfl rfl ?_
 refine lm (v := .int .i64 c) rfl rfl ?_
 refine wpL_c (f := 40) (args := #[.agg (shC (.slice pc cs.length cc) (.slice po on co) (tlT t tol)).toArray, .slice bp bs.length bc, .slice lq l.length ld, .int .i64 c]) (fun v K9 => ∃ b1 b2 b3 b4, v = .func (.func 62) #[] #[.pointer (some ⟨b1, 0, none⟩), .pointer (some ⟨b2, 0, none⟩), .pointer (some ⟨b3, 0, none⟩), .pointer (some ⟨b4, 0, none⟩)] ∧ K9 = [(g1, .cells (shC (.slice pc cs.length cc) (.slice po on co) (tlT t tol)).toArray 32 (0, 0))] ++ [(b4, .cells #[.int .i64 c] 3 (0, 0)), (b3, .cells #[.slice lq l.length ld] 38 (0, 0)), (b2, .cells #[.slice bp bs.length bc] 33 (0, 0)), (b1, .cells (shC (.slice pc cs.length cc) (.slice po on co) (tlT t tol)).toArray 32 (0, 0))] ∧ (∀ p ∈ ([(g1, .cells (shC (.slice pc cs.length cc) (.slice po on co) (tlT t tol)).toArray 32 (0, 0))] : List (Nat × Obj)), p.1 ≠ b1 ∧ p.1 ≠ b2 ∧ p.1 ≠ b3 ∧ p.1 ≠ b4)) rfl Tw.kr Tw.kf (fun W hW => (faults_any pc cs.length cc po on co t tol bp bs.length bc lq l.length ld c hot W hW)) Tw.pf ?_
 rintro _ _ ⟨b1, b2, b3, b4, rfl, rfl, hne⟩
 refine wpL_c (f := 39) (args := #[.func (.func 62) #[] #[.pointer (some ⟨b1, 0, none⟩), .pointer (some ⟨b2, 0, none⟩), .pointer (some ⟨b3, 0, none⟩), .pointer (some ⟨b4, 0, none⟩)]]) (OutOL w [(g1, .cells (shC (.slice pc cs.length cc) (.slice po on co) (tlT t tol)).toArray 32 (0, 0)), (b4, .cells #[.int .i64 c] 3 (0, 0)), (b3, .cells #[.slice lq l.length ld] 38 (0, 0)), (b2, .cells #[.slice bp bs.length bc] 33 (0, 0)), (b1, .cells (shC (.slice pc cs.length cc) (.slice po on co) (tlT t tol)).toArray 32 (0, 0))] 71 3 (faultsX cs bs l tol c).length ((faultsX cs bs l tol c).flatMap ftC)) rfl Tw.kr Tw.kf (fun W hW => calls_o hW (CollectF_any 62 #[.pointer (some ⟨b1, 0, none⟩), .pointer (some ⟨b2, 0, none⟩), .pointer (some ⟨b3, 0, none⟩), .pointer (some ⟨b4, 0, none⟩)] (faultsX cs bs l tol c) Tw.om W (fun _ _ => by kernel_rfl) (fun W2 hb2 => faults1_stops W.heap.size b1 b2 b3 b4 cs pc cc lc po on co t tol bs bp bc hl l lq ld Tw.om c W2 hb2.size ((hb2.block b1 (lt_of_block (hW.2 _ Tw.m4))).trans (hW.2 _ Tw.m4)) ((hb2.block b2 (lt_of_block (hW.2 _ Tw.m3))).trans (hW.2 _ Tw.m3)) ((hb2.block b3 (lt_of_block (hW.2 _ Tw.m2))).trans (hW.2 _ Tw.m2)) ((hb2.block b4 (lt_of_block (hW.2 _ Tw.m1))).trans (hW.2 _ Tw.m1)) (fun W9 h9 => HC.out.keep (hW.1.trans ((hb2.trans h9).mono hW.1.size))) (fun W9 h9 => HBs.out.keep (hW.1.trans ((hb2.trans h9).mono hW.1.size))) (fun W9 h9 => HL.out.keep (hW.1.trans ((hb2.trans h9).mono hW.1.size)))))) Tw.pf ?_
 rintro v2 _ ⟨Kl2, O2, N2, rfl⟩
 obtain ⟨dj3_0, dj3_1, dj3_2, dj3_3, dj3_4⟩ : Dk g1 Kl2 ∧ Dk b4 Kl2 ∧ Dk b3 Kl2 ∧ Dk b2 Kl2 ∧ Dk b1 Kl2 := Tw.djf N2
 refine lm (v := v2) rfl rfl ?_
 refine wpL_done (fun W2 hW2 => ?_)
 change Code.wp ..
 refine wp_ret ?_
 try simp only [inBlock_ret, then_ret]
 refine bodyPost_ret (v := v2) ?_ rfl ?_
 · kernel_rfl
 · exact ⟨_, rfl, O2.out (fun p hp => by simp only [List.mem_cons, List.mem_append, List.nil_append, List.not_mem_nil, or_assoc, or_false, false_or, hp, true_or, or_true]) hW2, hW2.1⟩
end Go.Proofs.Ytnbfljcilojllaa
namespace Go.Proofs.Ytnbfljcilojllaa
open Go Go.RowKit Tw
set_option maxRecDepth 100000 in
set_option maxHeartbeats 4000000 in
theorem Check_any (cs : List Col) (pc : Option Addr) (cc : Nat) (lc : cs.length ≤ 1000) (os : List Cov) (po : Option Addr) (co : Nat) (lo : os.length ≤ 4000000000) (t : Tl) (tol : Int) (bs : List Bo) (bp : Option Addr) (bc : Nat) (hl : bs.length ≤ 4000000000) (l : List Sd) (lq : Option Addr) (ld : Nat) (hm : l.length ≤ 1000000) (w : World) (hc : SLV w pc (cs.flatMap colC)) (ho : SLV w po (os.flatMap covC)) (hr : RwR w os) (lr : ∀ o ∈ os, o.rows.length ≤ 4000000000) (hq : PlR w cs) (lq2 : ∀ c ∈ cs, c.plugs.length ≤ 4000000000) (hp : SLV w bp (bs.flatMap boC)) (hs : SLV w lq (l.flatMap sdC)) (hot : OneT t) : Calls Try.prog 21 #[.agg (shC (.slice pc cs.length cc) (.slice po os.length co) (tlT t tol)).toArray, .slice bp bs.length bc, .slice lq l.length ld] w fun e w' => ∃ v, e = .returned (.tuple #[v, .int .i64 (checkE cs os bs l)]) ∧ OutV w w' 71 3 v (checkX cs os bs l tol).length ((checkX cs os bs l tol).flatMap ftC) ∧ Below w.heap.size w w' := by
 have HC := Lib.hid hc
 clear hc
 have HO := Lib.hid ho
 clear ho
 have HR := Lib.hid hr
 clear hr
 have HQ := Lib.hid hq
 clear hq
 have HBs := Lib.hid hp
 clear hp
 have HL := Lib.hid hs
 clear hs
 have HOT := Lib.hid hot
 clear hot
 obtain ⟨hot0, hot1, hot2, hot3, hot4, hot5, hot6, hot7, hot8, hot9, hotA⟩ := HOT.out
 have hfa := fun k => faultsA_len (cs := cs) (bs := bs) (tol := tol) hm k
 go_enter Try.func21, Try.ntmps21
 refine wp_seq ?_
 refine wp_region_L [] (KS.start w) ?_
 refine wpL_new (fun g => .pointer (some ⟨g, 0, none⟩)) (obi := .cells (shC (.slice pc cs.length cc) (.slice po os.length co) (tlT t tol)).toArray 32 (0, 0)) rfl rfl Tw.kf Tw.pf fun g1 Bg1 Fg1 => ?_
 refine lm (v := .slice none 0 0) rfl rfl ?_
 refine lm (v := .int .i64 0) rfl rfl ?_
 refine wpL_done (fun W1 hW1 => ?_)
 change Code.wp ..
 refine wp_seq ?_
 refine wp_seq ?_
 refine wp_region_L _ hW1 ?_
 refine lv (v := .agg (shC (.slice pc cs.length cc) (.slice po os.length co) (tlT t tol)).toArray) rfl rfl (yb_load (n := 13) (off := 0) rfl Tw.kr Tw.m0 Try.underlying32 rfl Tw.kr (by first | (simp [Value.cells]; done) | exact Nat.le_of_ble_eq_true rfl) Tw.kr) ?_
 refine lm (v := .slice bp bs.length bc) rfl rfl ?_
 refine lm (v := .slice lq l.length ld) rfl rfl ?_
 refine lv (v := .bool (loadX cs os bs l)) rfl rfl (yb_call (f := 18) (args := #[.agg (shC (.slice pc cs.length cc) (.slice po os.length co) (tlT t tol)).toArray, .slice bp bs.length bc, .slice lq l.length ld]) Tw.kf fun W hW => StRight_any cs pc cc Tw.om os po co Tw.om (tlT t tol) bs bp bc Tw.om l lq ld Tw.om W ((RL.base HC.out) _ (hW.sub (fun _ h => by cases h))) ((RL.base HO.out) _ (hW.sub (fun _ h => by cases h))) (HR.out.keep hW.1) lr (HQ.out.keep hW.1) lq2 ((RL.base HBs.out) _ (hW.sub (fun _ h => by cases h))) ((RL.base HL.out) _ (hW.sub (fun _ h => by cases h))) (tlT_one HOT.out)) ?_
 refine lp (v := .bool (!(loadX cs os bs l))) rfl rfl (run_un rfl Tw.kr fun w => un_not w) ?_
 refine wpL_done (fun W2 hW2 => ?_)
 change Code.wp ..
 cases h1 : (loadX cs os bs l) with
 | false =>
   refine wp_cond_true rfl ?_
   refine wp_seq ?_
   refine wp_region_L _ hW2 ?_
   refine lm (v := .slice none 0 0) rfl rfl ?_
   refine lm (v := .int .i64 2) rfl rfl ?_
   refine wpL_done (fun W3 hW3 => ?_)
   change Code.wp ..
   refine wp_ret ?_
   try simp only [inBlock_ret, then_ret]
   refine bodyPost_ret (v := .tuple #[.slice none 0 0, .int .i64 2]) ?_ rfl ?_
   · kernel_rfl
   · exact ⟨.slice none 0 0, (by rw [(check_no tol h1).2]), (by rw [(check_no tol h1).1]; exact .inl ⟨rfl, rfl, rfl⟩), hW3.1⟩
 | true =>
   refine wp_cond_false rfl ?_
   refine wp_skip ?_
   change Code.wp ..
   refine wp_seq ?_
   refine wp_region_L _ hW2 ?_
   refine lm (v := .slice none 0 0) rfl rfl ?_
   refine wpL_done (fun W4 hW4 => ?_)
   change Code.wp ..
   refine wp_seq ?_
   refine wp_seq ?_
   refine wp_region_L _ hW4 ?_
   refine wpL_rebase fun WB hWB => ?_
   have HC2 := Lib.hid (HC.out.keep hWB.1)
   have HB2 := Lib.hid (HBs.out.keep hWB.1)
   have HL2 := Lib.hid (HL.out.keep hWB.1)
   have HG2 := Lib.hid (CapR.of (cs := (shC (.slice pc cs.length cc) (.slice po os.length co) (tlT t tol))) hWB Tw.m0)
   refine lm (v := .pointer (some ⟨g1, 0, none⟩)) rfl rfl ?_
   refine lv (v := .slice pc cs.length cc) rfl rfl (yb_rf (v := .slice pc cs.length cc) rfl Tw.kr (fun W hW => ((HG2.out).keep hW.1).2 0 _ rfl) Try.underlying22 rfl) ?_
   refine lp (v := .int .i64 ((cs.length : Nat) : Int)) rfl rfl (run_lenL (p := pc) (cap := cc) (n := cs.length) rfl Try.underlying22 Tw.kr) ?_
   refine lm (v := .int .i64 0) rfl rfl ?_
   refine wpL_done (fun W5 hW5 => ?_)
   change Code.wp ..
   refine wp_block ?_
   go_loopw [18, 8] (fun u18 u8 wr => ∃ (k : Nat) (vA : Value) (KA : List (Nat × Obj)), (k ≤ cs.length) ∧ (OwnL (WB : Base) 71 3 vA (faultsA cs bs l tol k).length ((faultsA cs bs l tol k).flatMap ftC) KA) ∧ u18 = .int .i64 ((k : Nat) : Int) ∧ vA = u8 ∧ KS (WB : Base) KA wr) (fun u18 _ _ => cs.length - (intOf u18).toNat)
   case atStart => exact ⟨0, (.slice none 0 0), [], (Nat.zero_le _), (OwnL.nil _ _ _), rfl, rfl, (hW5.sub (fun p hp => by first | exact hp | (simp only [List.mem_cons, List.mem_append, List.nil_append, List.not_mem_nil, or_assoc, or_false, false_or] at hp ⊢ <;> grind)))⟩
   case round =>
     obtain ⟨k, vA, KA, hk, hOA, rfl, rfl, hL6⟩ := hrel
     have hfk := hfa k
     refine wp_seq ?_
     refine wp_region_L (W0 := (WB : Base)) KA (hL6) ?_
     refine lp (v := .bool (decide (k < cs.length))) rfl rfl (run_bin rfl (vx := (.int .i64 ((k : Nat) : Int))) (vy := (.int .i64 ((cs.length : Nat) : Int))) Tw.kr Tw.kr fun w => bn_lss rfl w) ?_
     refine wpL_done (fun W7 hW7 => ?_)
     change Code.wp ..
     refine wp_seq ?_
     cases hd2 : (decide (k < cs.length)) with
     | false =>
       have h2 : ¬ (k < cs.length) := of_decide_eq_false hd2
       clear hd2
       refine wp_cond_false rfl ?_
       refine wp_exit ?_
       change Code.wp ..
       refine wp_seq ?_
       refine wp_region_L (W0 := (WB : Base)) KA (hW7) ?_
       refine lm (v := vA) rfl rfl ?_
       refine lm (v := vA) rfl rfl ?_
       refine lm (v := .int .i64 0) rfl rfl ?_
       refine wpL_done (fun W8 hW8 => ?_)
       change Code.wp ..
       refine wp_ret ?_
       try simp only [inBlock_ret, then_ret]
       refine bodyPost_ret (v := .tuple #[vA, .int .i64 0]) ?_ rfl ?_
       · kernel_rfl
       · exact ⟨_, (by rw [(check_yes tol h1).2] <;> rfl), (by have h9 := hOA; rw [show k = cs.length from by omega, ← (check_yes tol h1).1] at h9; exact outV_down (h9.out (fun p hp => hp) hW8) hWB.1.size), (hWB.1.trans (hW8.1.mono hWB.1.size))⟩
     | true =>
       have h2 : k < cs.length := of_decide_eq_true hd2
       clear hd2
       refine wp_cond_true rfl ?_
       refine wp_skip ?_
       change Code.wp ..
       refine wp_seq ?_
       refine wp_block ?_
       refine wp_seq ?_
       refine wp_region_L (W0 := (WB : Base)) KA (hW7) ?_
       refine lm (v := .int .i64 ((k : Nat) : Int)) rfl rfl ?_
       refine lm (v := .int .i64 ((k : Nat) : Int)) rfl rfl ?_
       refine wpL_done (fun W9 hW9 => ?_)
       change Code.wp ..
       refine wp_region_L (W0 := (WB : Base)) KA (hW9) ?_
       refine lm (v := vA) rfl rfl ?_
       refine lv (v := .agg (shC (.slice pc cs.length cc) (.slice po os.length co) (tlT t tol)).toArray) rfl rfl (yb_rs (off := 0) (cs := _) rfl Tw.kr (fun W hW => ((HG2.out).keep hW.1).2) Try.underlying32 rfl Tw.kr) ?_
       refine lm (v := .slice bp bs.length bc) rfl rfl ?_
       refine lm (v := .slice lq l.length ld) rfl rfl ?_
       refine lm (v := .int .i64 ((k : Nat) : Int)) rfl rfl ?_
       refine wpL_c (f := 40) (args := #[.agg (shC (.slice pc cs.length cc) (.slice po os.length co) (tlT t tol)).toArray, .slice bp bs.length bc, .slice lq l.length ld, .int .i64 ((k : Nat) : Int)]) (fun v K9 => ∃ b1 b2 b3 b4, v = .func (.func 62) #[] #[.pointer (some ⟨b1, 0, none⟩), .pointer (some ⟨b2, 0, none⟩), .pointer (some ⟨b3, 0, none⟩), .pointer (some ⟨b4, 0, none⟩)] ∧ K9 = KA ++ [(b4, .cells #[.int .i64 ((k : Nat) : Int)] 3 (0, 0)), (b3, .cells #[.slice lq l.length ld] 38 (0, 0)), (b2, .cells #[.slice bp bs.length bc] 33 (0, 0)), (b1, .cells (shC (.slice pc cs.length cc) (.slice po os.length co) (tlT t tol)).toArray 32 (0, 0))] ∧ (∀ p ∈ (KA : List (Nat × Obj)), p.1 ≠ b1 ∧ p.1 ≠ b2 ∧ p.1 ≠ b3 ∧ p.1 ≠ b4)) rfl Tw.kr Tw.kf (fun W hW => (faults_any pc cs.length cc po os.length co t tol bp bs.length bc lq l.length ld ((k : Nat) : Int) HOT.out W hW)) Tw.pf ?_
       rintro _ _ ⟨b1, b2, b3, b4, rfl, rfl, hne⟩
       refine wpL_sub (K2 := ((b4, .cells #[.int .i64 ((k : Nat) : Int)] 3 (0, 0)) :: (b3, .cells #[.slice lq l.length ld] 38 (0, 0)) :: (b2, .cells #[.slice bp bs.length bc] 33 (0, 0)) :: (b1, .cells (shC (.slice pc cs.length cc) (.slice po os.length co) (tlT t tol)).toArray 32 (0, 0)) :: KA)) (fun p hp => by simp only [List.mem_cons, List.mem_append, or_assoc, List.not_mem_nil, or_false, false_or] at hp ⊢; grind) ?_
       refine wpL_c (f := 48) (args := #[vA, .func (.func 62) #[] #[.pointer (some ⟨b1, 0, none⟩), .pointer (some ⟨b2, 0, none⟩), .pointer (some ⟨b3, 0, none⟩), .pointer (some ⟨b4, 0, none⟩)]]) (fun v K9 => OwnL (WB : Base) 71 3 v (((faultsA cs bs l tol k).length) + (faultsX cs bs l tol ((k : Nat) : Int)).length) (((faultsA cs bs l tol k).flatMap ftC) ++ (faultsX cs bs l tol ((k : Nat) : Int)).flatMap ftC) K9) rfl Tw.kr Tw.kf (fun W hW => (AppendSeqF_any (W0 := (WB : Base)) 62 #[.pointer (some ⟨b1, 0, none⟩), .pointer (some ⟨b2, 0, none⟩), .pointer (some ⟨b3, 0, none⟩), .pointer (some ⟨b4, 0, none⟩)] ((faultsA cs bs l tol k).length) ((faultsA cs bs l tol k).flatMap ftC) (faultsX cs bs l tol ((k : Nat) : Int)) (by have := faults_len cs bs l tol ((k : Nat) : Int); omega) _ _ hOA W (hW.sub Tw.sc) (fun _ _ => by kernel_rfl) (faults1_stops WB.heap.size b1 b2 b3 b4 cs pc cc Tw.om po os.length co t tol bs bp bc hl l lq ld Tw.om ((k : Nat) : Int) W hW.size (hW.2 _ Tw.m3) (hW.2 _ Tw.m2) (hW.2 _ Tw.m1) (hW.2 _ Tw.m0) (fun W9 h9 => HC2.out.keep (hW.1.trans h9)) (fun W9 h9 => HB2.out.keep (hW.1.trans h9)) (fun W9 h9 => HL2.out.keep (hW.1.trans h9))))) Tw.pf ?_
       rintro vq Kq hOq
       refine lm (v := vq) rfl rfl ?_
       refine wpL_done (fun W10 hW10 => ?_)
       change Code.wp ..
       refine wp_region_L (W0 := (WB : Base)) Kq (hW10) ?_
       refine lp (v := .int .i64 (((k + 1) : Nat) : Int)) rfl rfl (run_bin rfl (vx := (.int .i64 ((k : Nat) : Int))) (vy := (.int .i64 ((1 : Nat) : Int))) Tw.kr Tw.kr fun w => bn_add (z := (k + 1)) rfl (wr_i64 Tw.om) w) ?_
       refine lm (v := .int .i64 (((k + 1) : Nat) : Int)) rfl rfl ?_
       refine wpL_done (fun W11 hW11 => ?_)
       go_roundw
       case rel =>
         repeat apply Exists.intro
         exact ⟨⟨k + 1, vq, Kq, Tw.om, (by rw [faultsA_succ, List.length_append, List.flatMap_append]; exact hOq), rfl, rfl, (hW11.sub (fun p hp => by first | exact hp | (simp only [List.mem_cons, List.mem_append, List.nil_append, List.not_mem_nil, or_assoc, or_false, false_or] at hp ⊢ <;> grind)))⟩, rfl⟩
       case measure => (show cs.length - (intOf (.int .i64 (((k + 1) : Nat) : Int))).toNat < cs.length - (intOf (.int .i64 ((k : Nat) : Int))).toNat); simp only [intOf]; omega
end Go.Proofs.Ytnbfljcilojllaa
namespace Go.Proofs.Ytnbfljcilojllaa
open Go Go.RowKit Tw
theorem ne_ft {x y : Ft} {px py : Operand} (w : World) : (do eqGuard .neq 71 px py (.agg (ftC x).toArray) (.agg (ftC y).toArray); binOp .neq 71 (.agg (ftC x).toArray) (.agg (ftC y).toArray) : Sem Value).run Try.prog w = .ok (.bool (!eqF x y)) w := by
 unfold ftC eqF
 go_simp
 have e2 : (((x.kind : Nat) : Int) = ((y.kind : Nat) : Int)) = (x.kind = y.kind) := by apply propext; omega
 simp only [e2]
 by_cases h0 : x.col = y.col <;> by_cases h1 : x.kind = y.kind <;> by_cases h2 : x.box = y.box <;> simp [h0, h1, h2]
theorem ne_kil {a b c d e f : Int} {px py : Operand} (w : World) : (do eqGuard .neq 66 px py (.agg #[.int .i64 a, .int .i64 b, .int .i64 c]) (.agg #[.int .i64 d, .int .i64 e, .int .i64 f]); binOp .neq 66 (.agg #[.int .i64 a, .int .i64 b, .int .i64 c]) (.agg #[.int .i64 d, .int .i64 e, .int .i64 f]) : Sem Value).run Try.prog w = .ok (.bool (!decide (a = d ∧ b = e ∧ c = f))) w := by
 go_simp
 by_cases h0 : a = d <;> by_cases h1 : b = e <;> by_cases h2 : c = f <;> simp [h0, h1, h2]
set_option maxRecDepth 100000 in
set_option maxHeartbeats 4000000 in
theorem at_any (b c t : Int) (h : Nat) (w : World) : Calls Try.prog 10 #[.int .i64 b, .int .i64 c, .int .i64 t, .int .u8 ((h : Nat) : Int)] w fun e w' => e = .returned (.agg (sdC ⟨b, ⟨c, t, h⟩⟩).toArray) ∧ Below w.heap.size w w' := by
 go_enter Try.func10, Try.ntmps10
 refine wp_seq ?_
 refine wp_region_L [] (KS.start w) ?_
 refine wpL_new (fun g => .pointer (some ⟨g, 0, none⟩)) (obi := .cells #[.int .i64 0, .int .i64 0, .int .i64 0, .int .u8 0] 42 (0, 0)) rfl rfl Tw.kf Tw.pf fun g1 Bg1 Fg1 => ?_
 refine wpL_done (fun W1 hW1 => ?_)
 change Code.wp ..
 refine wp_seq ?_
 refine wp_region_L _ hW1 ?_
 refine lm (v := .int .i64 b) rfl rfl ?_
 refine lm (v := .int .i64 c) rfl rfl ?_
 refine lm (v := .int .i64 t) rfl rfl ?_
 refine lm (v := .int .u8 ((h : Nat) : Int)) rfl rfl ?_
 refine lm (v := .agg #[.int .i64 c, .int .i64 t, .int .u8 ((h : Nat) : Int)]) rfl rfl ?_
 refine lm (v := .agg #[.int .i64 b, .int .i64 c, .int .i64 t, .int .u8 ((h : Nat) : Int)]) rfl rfl ?_
 refine wpL_s [(g1, .cells #[.int .i64 b, .int .i64 c, .int .i64 t, .int .u8 ((h : Nat) : Int)] 42 (0, 0))] rfl rfl (st_row (off := 0) (v := .agg #[.int .i64 b, .int .i64 c, .int .i64 t, .int .u8 ((h : Nat) : Int)]) rfl Tw.kr Tw.kr Tw.m0 Bg1 Tw.kr (by first | (simp [Value.cells]; done) | exact Nat.le_of_ble_eq_true rfl) (by intro v hv; simp [Value.cells] at hv; first | (subst hv; rfl) | (rcases hv with rfl | rfl | rfl | rfl <;> rfl)) Tw.kr (List.forall_mem_cons.2 ⟨.inl rfl, (List.forall_mem_nil _)⟩)) ?_
 refine wpL_done (fun W2 hW2 => ?_)
 change Code.wp ..
 refine wp_ret ?_
 try simp only [inBlock_ret, then_ret]
 refine bodyPost_ret (v := .agg #[.int .i64 b, .int .i64 c, .int .i64 t, .int .u8 ((h : Nat) : Int)]) ?_ rfl ?_
 · exact (res_cell (p := 8) rfl rfl (hW2.2 _ Tw.m0) Try.underlying42 rfl Tw.kr)
 · exact ⟨rfl, hW2.1⟩
set_option maxRecDepth 100000 in
set_option maxHeartbeats 4000000 in
theorem only_any (l m : List Ft) (p q : Option Addr) (c d : Nat) (hl : l.length ≤ 4000000000) (w : World) (hp : SLV w p (l.flatMap ftC)) (hq : SLV w q (m.flatMap ftC)) : Calls Try.prog 33 #[.slice p l.length c, .slice q m.length d] w fun e w' => e = .returned (.bool (eqFs l m)) ∧ Below w.heap.size w w' := by
 have HP := Lib.hid hp
 clear hp
 have HQ := Lib.hid hq
 clear hq
 go_enter Try.func33, Try.ntmps33
 refine wp_seq ?_
 refine wp_region_L [] (KS.start w) ?_
 refine lm (v := .bool false) rfl rfl ?_
 refine wpL_done (fun W1 hW1 => ?_)
 change Code.wp ..
 refine wp_seq ?_
 refine wp_seq ?_
 refine wp_region_L _ hW1 ?_
 refine lm (v := .slice p l.length c) rfl rfl ?_
 refine lp (v := .int .i64 ((l.length : Nat) : Int)) rfl rfl (run_lenL (p := p) (cap := c) (n := l.length) rfl Try.underlying58 Tw.kr) ?_
 refine lm (v := .slice q m.length d) rfl rfl ?_
 refine lp (v := .int .i64 ((m.length : Nat) : Int)) rfl rfl (run_lenL (p := q) (cap := d) (n := m.length) rfl Try.underlying58 Tw.kr) ?_
 refine lp (v := .bool (!(decide (l.length = m.length)))) rfl rfl (run_bin rfl (vx := (.int .i64 ((l.length : Nat) : Int))) (vy := (.int .i64 ((m.length : Nat) : Int))) Tw.kr Tw.kr fun w => bn_neq rfl w) ?_
 refine wpL_done (fun W2 hW2 => ?_)
 change Code.wp ..
 cases hd1 : (decide (l.length = m.length)) with
 | false =>
   have h1 : ¬ (l.length = m.length) := of_decide_eq_false hd1
   clear hd1
   refine wp_cond_true rfl ?_
   refine wp_seq ?_
   refine wp_region_L _ hW2 ?_
   refine lm (v := .bool false) rfl rfl ?_
   refine wpL_done (fun W3 hW3 => ?_)
   change Code.wp ..
   refine wp_ret ?_
   try simp only [inBlock_ret, then_ret]
   refine bodyPost_ret (v := .bool false) ?_ rfl ?_
   · kernel_rfl
   · exact ⟨(bool_is (by rw [eqFs_len h1])), hW3.1⟩
 | true =>
   have h1 : l.length = m.length := of_decide_eq_true hd1
   clear hd1
   refine wp_cond_false rfl ?_
   refine wp_skip ?_
   change Code.wp ..
   refine wp_seq ?_
   refine wp_seq ?_
   refine wp_region_L _ hW2 ?_
   refine lm (v := .int .i64 0) rfl rfl ?_
   refine wpL_done (fun W4 hW4 => ?_)
   change Code.wp ..
   refine wp_block ?_
   go_loopw [5] (fun u5 wr => ∃ (k : Nat), (k ≤ l.length) ∧ (eqFs l m = eqFs (l.drop k) (m.drop k)) ∧ u5 = .int .i64 ((k : Nat) : Int) ∧ KS w [] wr) (fun u5 _ => l.length - (intOf u5).toNat)
   case atStart => exact ⟨0, (Nat.zero_le _), rfl, rfl, (hW4.sub (fun p hp => by first | exact hp | (simp only [List.mem_cons, List.mem_append, List.nil_append, List.not_mem_nil, or_assoc, or_false, false_or] at hp ⊢ <;> grind)))⟩
   case round =>
     obtain ⟨k, hk, hT, rfl, hL5⟩ := hrel
     refine wp_seq ?_
     refine wp_seq ?_
     refine wp_region_L _ hL5 ?_
     refine lm (v := .int .i64 ((k : Nat) : Int)) rfl rfl ?_
     refine lm (v := .slice p l.length c) rfl rfl ?_
     refine lp (v := .int .i64 ((l.length : Nat) : Int)) rfl rfl (run_lenL (p := p) (cap := c) (n := l.length) rfl Try.underlying58 Tw.kr) ?_
     refine lp (v := .bool (decide (k < l.length))) rfl rfl (run_bin rfl (vx := (.int .i64 ((k : Nat) : Int))) (vy := (.int .i64 ((l.length : Nat) : Int))) Tw.kr Tw.kr fun w => bn_lss rfl w) ?_
     refine wpL_done (fun W6 hW6 => ?_)
     change Code.wp ..
     cases hd2 : (decide (k < l.length)) with
     | false =>
       have h2 : ¬ (k < l.length) := of_decide_eq_false hd2
       clear hd2
       refine wp_cond_false rfl ?_
       refine wp_exit ?_
       change Code.wp ..
       refine wp_seq ?_
       refine wp_region_L _ hW6 ?_
       refine lm (v := .bool true) rfl rfl ?_
       refine wpL_done (fun W7 hW7 => ?_)
       change Code.wp ..
       refine wp_ret ?_
       try simp only [inBlock_ret, then_ret]
       refine bodyPost_ret (v := .bool true) ?_ rfl ?_
       · kernel_rfl
       · exact ⟨(bool_is (by rw [hT, eqFs_end h2 h1])), hW7.1⟩
     | true =>
       have h2 : k < l.length := of_decide_eq_true hd2
       clear hd2
       refine wp_cond_true rfl ?_
       refine wp_skip ?_
       change Code.wp ..
       refine wp_seq ?_
       refine wp_block ?_
       refine wp_seq ?_
       refine wp_region_V _ Tw.kr hW6 ?_
       refine vm (i := 0) (v := .slice p l.length c) rfl rfl rfl ?_
       refine vm (i := 1) (v := .int .i64 ((k : Nat) : Int)) rfl rfl rfl ?_
       obtain ⟨y1, g1_, f1_, hy1, hp1, hc1⟩ := RL.at (RL.base HP.out) ftC_len (by decide) (hW6.sub (fun _ h => by cases h)) (k := k) Tw.om
       refine vp (i := 2) (v := .pointer (some ⟨g1_, f1_ + k * 3, none⟩)) rfl rfl rfl (run_idxQ (p := p) (cap := c) (n := l.length) (j := .i64) (k := k) (sz := 3) rfl Try.underlying58 Tw.kr Tw.kr hp1 Tw.kr Tw.om) ?_
       refine vb (i := 3) (v := .agg (ftC y1).toArray) rfl rfl rfl (yb_rs (off := f1_ + k * 3) (cs := ftC y1) rfl Tw.kr (fun W hW => hc1 W (hW.sub (fun _ h => by cases h))) Try.underlying71 rfl Tw.kr) ?_
       refine vm (i := 4) (v := .slice q m.length d) rfl rfl rfl ?_
       refine vm (i := 5) (v := .int .i64 ((k : Nat) : Int)) rfl rfl rfl ?_
       obtain ⟨y2, g2_, f2_, hy2, hp2, hc2⟩ := RL.at (RL.base HQ.out) ftC_len (by decide) (hW6.sub (fun _ h => by cases h)) (k := k) Tw.om
       refine vp (i := 6) (v := .pointer (some ⟨g2_, f2_ + k * 3, none⟩)) rfl rfl rfl (run_idxQ (p := q) (cap := d) (n := m.length) (j := .i64) (k := k) (sz := 3) rfl Try.underlying58 Tw.kr Tw.kr hp2 Tw.kr Tw.om) ?_
       refine vb (i := 7) (v := .agg (ftC y2).toArray) rfl rfl rfl (yb_rs (off := f2_ + k * 3) (cs := ftC y2) rfl Tw.kr (fun W hW => hc2 W (hW.sub (fun _ h => by cases h))) Try.underlying71 rfl Tw.kr) ?_
       refine vp (i := 8) (v := .bool (!(eqF y1 y2))) rfl rfl rfl (run_bin rfl (vx := .agg (ftC y1).toArray) (vy := .agg (ftC y2).toArray) Tw.kr Tw.kr fun w => ne_ft w) ?_
       refine wpV_done Tw.kr (fun W8 hW8 => ?_) _
       change Code.wp ..
       cases h3 : (eqF y1 y2) with
       | false =>
         refine wp_cond_true rfl ?_
         refine wp_seq ?_
         refine wp_region_L _ hW8 ?_
         refine lm (v := .bool false) rfl rfl ?_
         refine wpL_done (fun W9 hW9 => ?_)
         change Code.wp ..
         refine wp_ret ?_
         try simp only [inBlock_ret, then_ret]
         refine bodyPost_ret (v := .bool false) ?_ rfl ?_
         · kernel_rfl
         · exact ⟨(bool_is (by rw [hT, eqFs_drop hy1 hy2, h3, Bool.false_and])), hW9.1⟩
       | true =>
         refine wp_cond_false rfl ?_
         refine wp_skip ?_
         change Code.wp ..
         refine wp_region_L _ hW8 ?_
         refine lm (v := .int .i64 ((k : Nat) : Int)) rfl rfl ?_
         refine lp (v := .int .i64 (((k + 1) : Nat) : Int)) rfl rfl (run_bin rfl (vx := (.int .i64 ((k : Nat) : Int))) (vy := (.int .i64 ((1 : Nat) : Int))) Tw.kr Tw.kr fun w => bn_add (z := (k + 1)) rfl (wr_i64 Tw.om) w) ?_
         refine lm (v := .int .i64 (((k + 1) : Nat) : Int)) rfl rfl ?_
         refine wpL_done (fun W10 hW10 => ?_)
         go_roundw
         case rel =>
           repeat apply Exists.intro
           exact ⟨⟨k + 1, Tw.om, (by rw [hT, eqFs_drop hy1 hy2, h3, Bool.true_and]), rfl, (hW10.sub (fun p hp => by first | exact hp | (simp only [List.mem_cons, List.mem_append, List.nil_append, List.not_mem_nil, or_assoc, or_false, false_or] at hp ⊢ <;> grind)))⟩, rfl⟩
         case measure => (show l.length - (intOf (.int .i64 (((k + 1) : Nat) : Int))).toNat < l.length - (intOf (.int .i64 ((k : Nat) : Int))).toNat); simp only [intOf]; omega
set_option maxRecDepth 100000 in
set_option maxHeartbeats 4000000 in
theorem Example_own {W0 : Base} (w : World) (hw : KS W0 [] w) : Calls Try.prog 26 #[] w fun e w' => ∃ v T, e = .returned v ∧ KS W0 T w' ∧ ShipW W0 exCs [(0, [0, 1])] v T := by
 go_enter Try.func26, Try.ntmps26
 refine wp_seq ?_
 refine wp_region_L (W0 := W0) [] (hw) ?_
 refine wpL_new (fun g => .pointer (some ⟨g, 0, none⟩)) (obi := .cells (shC (.slice none 0 0) (.slice none 0 0) tl0).toArray 32 (0, 0)) rfl rfl Tw.kf Tw.pf fun g1 Bg1 Fg1 => ?_
 refine wpL_done (fun W1 hW1 => ?_)
 change Code.wp ..
 refine wp_seq ?_
 refine wp_region_L (W0 := W0) [(g1, .cells (shC (.slice none 0 0) (.slice none 0 0) tl0).toArray 32 (0, 0))] (hW1) ?_
 refine lm (v := .agg #[.int .i64 0, .int .i64 0, .bool false, .int .i64 2, .int .i64 0, .int .i64 0, .int .i64 0, .int .i64 0, .slice none 0 0, .int .i64 0, .int .i64 0, .int .i64 0]) rfl rfl ?_
 refine lm (v := .agg #[.int .i64 0, .int .i64 1, .bool false, .int .i64 2, .int .i64 0, .int .i64 0, .int .i64 0, .int .i64 0, .slice none 0 0, .int .i64 0, .int .i64 0, .int .i64 0]) rfl rfl ?_
 refine lm (v := .agg #[.int .i64 0, .int .i64 0, .bool true, .int .i64 3, .int .i64 0, .int .i64 0, .int .i64 0, .int .i64 0, .slice none 0 0, .int .i64 0, .int .i64 0, .int .i64 0]) rfl rfl ?_
 refine lm (v := .agg #[.int .i64 0, .int .i64 1, .bool true, .int .i64 3, .int .i64 0, .int .i64 0, .int .i64 0, .int .i64 0, .slice none 0 0, .int .i64 0, .int .i64 0, .int .i64 0]) rfl rfl ?_
 refine lm (v := .agg #[.int .i64 1, .int .i64 1, .bool true, .int .i64 4, .int .i64 0, .int .i64 0, .int .i64 0, .int .i64 0, .slice none 0 0, .int .i64 0, .int .i64 0, .int .i64 0]) rfl rfl ?_
 refine wpL_new (fun g => .slice (some ⟨g, 0, none⟩) 5 5) (obi := .cells #[.int .i64 0, .int .i64 0, .bool false, .int .i64 2, .int .i64 0, .int .i64 0, .int .i64 0, .int .i64 0, .slice none 0 0, .int .i64 0, .int .i64 0, .int .i64 0, .int .i64 0, .int .i64 1, .bool false, .int .i64 2, .int .i64 0, .int .i64 0, .int .i64 0, .int .i64 0, .slice none 0 0, .int .i64 0, .int .i64 0, .int .i64 0, .int .i64 0, .int .i64 0, .bool true, .int .i64 3, .int .i64 0, .int .i64 0, .int .i64 0, .int .i64 0, .slice none 0 0, .int .i64 0, .int .i64 0, .int .i64 0, .int .i64 0, .int .i64 1, .bool true, .int .i64 3, .int .i64 0, .int .i64 0, .int .i64 0, .int .i64 0, .slice none 0 0, .int .i64 0, .int .i64 0, .int .i64 0, .int .i64 1, .int .i64 1, .bool true, .int .i64 4, .int .i64 0, .int .i64 0, .int .i64 0, .int .i64 0, .slice none 0 0, .int .i64 0, .int .i64 0, .int .i64 0] 46 (0, 0)) rfl rfl Tw.kf Tw.pf fun g2 Bg2 Fg2 => ?_
 obtain dj3_0 : g1 ≠ g2 := Tw.dkf Fg2
 refine wpL_new (fun g => .slice (some ⟨g, 0, none⟩) 2 2) (obi := .cells #[.int .i64 0, .int .i64 1] 3 (0, 0)) rfl rfl Tw.kf Tw.pf fun g4 Bg4 Fg4 => ?_
 obtain ⟨dj5_0, dj5_1⟩ : g2 ≠ g4 ∧ g1 ≠ g4 := Tw.dkf Fg4
 refine lm (v := .agg #[.int .i64 0, .slice (some ⟨g4, 0, none⟩) 2 2]) rfl rfl ?_
 refine wpL_new (fun g => .slice (some ⟨g, 0, none⟩) 1 1) (obi := .cells #[.int .i64 0, .slice (some ⟨g4, 0, none⟩) 2 2] 123 (0, 0)) rfl rfl Tw.kf Tw.pf fun g6 Bg6 Fg6 => ?_
 obtain ⟨dj7_0, dj7_1, dj7_2⟩ : g4 ≠ g6 ∧ g2 ≠ g6 ∧ g1 ≠ g6 := Tw.dkf Fg6
 refine lm (v := .agg (shC (.slice (some ⟨g2, 0, none⟩) 5 5) (.slice (some ⟨g6, 0, none⟩) 1 1) tl0).toArray) rfl rfl ?_
 refine wpL_s [(g6, .cells #[.int .i64 0, .slice (some ⟨g4, 0, none⟩) 2 2] 123 (0, 0)), (g4, .cells #[.int .i64 0, .int .i64 1] 3 (0, 0)), (g2, .cells #[.int .i64 0, .int .i64 0, .bool false, .int .i64 2, .int .i64 0, .int .i64 0, .int .i64 0, .int .i64 0, .slice none 0 0, .int .i64 0, .int .i64 0, .int .i64 0, .int .i64 0, .int .i64 1, .bool false, .int .i64 2, .int .i64 0, .int .i64 0, .int .i64 0, .int .i64 0, .slice none 0 0, .int .i64 0, .int .i64 0, .int .i64 0, .int .i64 0, .int .i64 0, .bool true, .int .i64 3, .int .i64 0, .int .i64 0, .int .i64 0, .int .i64 0, .slice none 0 0, .int .i64 0, .int .i64 0, .int .i64 0, .int .i64 0, .int .i64 1, .bool true, .int .i64 3, .int .i64 0, .int .i64 0, .int .i64 0, .int .i64 0, .slice none 0 0, .int .i64 0, .int .i64 0, .int .i64 0, .int .i64 1, .int .i64 1, .bool true, .int .i64 4, .int .i64 0, .int .i64 0, .int .i64 0, .int .i64 0, .slice none 0 0, .int .i64 0, .int .i64 0, .int .i64 0] 46 (0, 0)), (g1, .cells (shC (.slice (some ⟨g2, 0, none⟩) 5 5) (.slice (some ⟨g6, 0, none⟩) 1 1) tl0).toArray 32 (0, 0))] rfl rfl (st_row (off := 0) (v := .agg (shC (.slice (some ⟨g2, 0, none⟩) 5 5) (.slice (some ⟨g6, 0, none⟩) 1 1) tl0).toArray) rfl Tw.kr Tw.kr Tw.m3 Bg1 Tw.kr (by first | (simp [Value.cells]; done) | exact Nat.le_of_ble_eq_true rfl) (fun v hv => shC_one v hv) Tw.kr (List.forall_mem_cons.2 ⟨.inr ⟨Tw.m0, Tw.nee⟩, (List.forall_mem_cons.2 ⟨.inr ⟨Tw.m1, Tw.nee⟩, (List.forall_mem_cons.2 ⟨.inr ⟨Tw.m2, Tw.nee⟩, (List.forall_mem_cons.2 ⟨.inl rfl, (List.forall_mem_nil _)⟩)⟩)⟩)⟩)) ?_
 refine wpL_done (fun W2 hW2 => ?_)
 change Code.wp ..
 refine wp_ret ?_
 try simp only [inBlock_ret, then_ret]
 refine bodyPost_ret (v := .agg (shC (.slice (some ⟨g2, 0, none⟩) 5 5) (.slice (some ⟨g6, 0, none⟩) 1 1) tl0).toArray) ?_ rfl ?_
 · exact (res_cell (p := 0) rfl rfl (hW2.2 _ Tw.m3) Try.underlying32 rfl Tw.kr)
 · exact ⟨_, [(g2, .cells #[.int .i64 0, .int .i64 0, .bool false, .int .i64 2, .int .i64 0, .int .i64 0, .int .i64 0, .int .i64 0, .slice none 0 0, .int .i64 0, .int .i64 0, .int .i64 0, .int .i64 0, .int .i64 1, .bool false, .int .i64 2, .int .i64 0, .int .i64 0, .int .i64 0, .int .i64 0, .slice none 0 0, .int .i64 0, .int .i64 0, .int .i64 0, .int .i64 0, .int .i64 0, .bool true, .int .i64 3, .int .i64 0, .int .i64 0, .int .i64 0, .int .i64 0, .slice none 0 0, .int .i64 0, .int .i64 0, .int .i64 0, .int .i64 0, .int .i64 1, .bool true, .int .i64 3, .int .i64 0, .int .i64 0, .int .i64 0, .int .i64 0, .slice none 0 0, .int .i64 0, .int .i64 0, .int .i64 0, .int .i64 1, .int .i64 1, .bool true, .int .i64 4, .int .i64 0, .int .i64 0, .int .i64 0, .int .i64 0, .slice none 0 0, .int .i64 0, .int .i64 0, .int .i64 0] 46 (0, 0))] ++ ([(g6, .cells #[.int .i64 0, .slice (some ⟨g4, 0, none⟩) 2 2] 123 (0, 0))] ++ [(g4, .cells #[.int .i64 0, .int .i64 1] 3 (0, 0))]), rfl, (hW2.sub (fun p hp => by simp only [List.mem_cons, List.mem_append, List.not_mem_nil, or_false] at hp ⊢; grind)), some ⟨g2, 0, none⟩, 5, [⟨0, [0, 1], some ⟨g4, 0, none⟩, 2⟩], some ⟨g6, 0, none⟩, 1, [(g2, .cells #[.int .i64 0, .int .i64 0, .bool false, .int .i64 2, .int .i64 0, .int .i64 0, .int .i64 0, .int .i64 0, .slice none 0 0, .int .i64 0, .int .i64 0, .int .i64 0, .int .i64 0, .int .i64 1, .bool false, .int .i64 2, .int .i64 0, .int .i64 0, .int .i64 0, .int .i64 0, .slice none 0 0, .int .i64 0, .int .i64 0, .int .i64 0, .int .i64 0, .int .i64 0, .bool true, .int .i64 3, .int .i64 0, .int .i64 0, .int .i64 0, .int .i64 0, .slice none 0 0, .int .i64 0, .int .i64 0, .int .i64 0, .int .i64 0, .int .i64 1, .bool true, .int .i64 3, .int .i64 0, .int .i64 0, .int .i64 0, .int .i64 0, .slice none 0 0, .int .i64 0, .int .i64 0, .int .i64 0, .int .i64 1, .int .i64 1, .bool true, .int .i64 4, .int .i64 0, .int .i64 0, .int .i64 0, .int .i64 0, .slice none 0 0, .int .i64 0, .int .i64 0, .int .i64 0] 46 (0, 0))], [(g6, .cells #[.int .i64 0, .slice (some ⟨g4, 0, none⟩) 2 2] 123 (0, 0))], [(g4, .cells #[.int .i64 0, .int .i64 1] 3 (0, 0))], rfl, (.inr ⟨g2, 5, _, rfl, Bg2, ⟨rfl, by unfold maxLen; omega, Nat.le_refl _, rfl, rfl⟩, rfl⟩), (.inr ⟨g6, 1, _, rfl, Bg6, ⟨rfl, by unfold maxLen; omega, Nat.le_refl _, rfl, rfl⟩, rfl⟩), (RB.snoc (o := ⟨0, [0, 1], some ⟨g4, 0, none⟩, 2⟩) RB.nil rfl (fun _ h => by cases h) Bg4), (fun p hp q hq => by cases List.mem_singleton.1 hp; cases List.mem_singleton.1 hq; exact Tw.nee), (fun p hp q hq => by cases List.mem_singleton.1 hp; cases List.mem_singleton.1 hq; exact Tw.nee), (fun p hp q hq => by cases List.mem_singleton.1 hp; cases List.mem_singleton.1 hq; exact Tw.nee), rfl, rfl⟩
set_option maxRecDepth 100000 in
set_option maxHeartbeats 4000000 in
theorem example_any (w : World) : Calls Try.prog 9 #[] w fun e w' => ∃ v K', e = .returned v ∧ KS (w : Base) K' w' ∧ ExT (w : Base) [] v K' := by
 have h5 : exCs.length = 5 := rfl
 go_enter Try.func9, Try.ntmps9
 refine wp_seq ?_
 refine wp_region_L [] (KS.start w) ?_
 refine wpL_new (fun g => .pointer (some ⟨g, 0, none⟩)) (obi := .cells (shC (.slice none 0 0) (.slice none 0 0) tl0).toArray 32 (0, 0)) rfl rfl Tw.kf Tw.pf fun g1 Bg1 Fg1 => ?_
 refine lm (v := .slice none 0 0) rfl rfl ?_
 refine wpL_done (fun W1 hW1 => ?_)
 change Code.wp ..
 refine wp_seq ?_
 refine wp_region_L _ hW1 ?_
 refine wpL_c (f := 26) (args := #[]) (ShipV w [(g1, .cells (shC (.slice none 0 0) (.slice none 0 0) tl0).toArray 32 (0, 0))] exCs [(0, [0, 1])]) rfl Tw.kr Tw.kf (fun W hW => calls_ship hW (Example_own (W0 := (W : Base)) W (KS.start W))) Tw.pf ?_
 rintro _ _ ⟨pcS, ccS, osS, poS, coS, Kc, Ko, Tr, rfl, hOc, hOo, hRB, dj1, dj2, dj3, hMS, hNe, rfl⟩
 obtain ⟨rp, rc, rfl⟩ := one_cov hMS
 obtain dj2_0 : Dk g1 Kc := by simpa only [dj_app_l, dj_app_r, dj_cons_l, dj_cons_r, dj_nil_l, dj_nil_r, dk_app, dk_cons, dk_nil, and_true, true_and, and_assoc] using (show Dj [(g1, .cells (shC (.slice none 0 0) (.slice none 0 0) tl0).toArray 32 (0, 0))] Kc from (fun p hp q hq => hNe p hp q (List.mem_append_left _ hq)))
 obtain dj3_0 : Dk g1 Ko := by simpa only [dj_app_l, dj_app_r, dj_cons_l, dj_cons_r, dj_nil_l, dj_nil_r, dk_app, dk_cons, dk_nil, and_true, true_and, and_assoc] using (show Dj [(g1, .cells (shC (.slice none 0 0) (.slice none 0 0) tl0).toArray 32 (0, 0))] Ko from (fun p hp q hq => hNe p hp q (List.mem_append_right _ (List.mem_append_left _ hq))))
 obtain dj4_0 : Dk g1 Tr := by simpa only [dj_app_l, dj_app_r, dj_cons_l, dj_cons_r, dj_nil_l, dj_nil_r, dk_app, dk_cons, dk_nil, and_true, true_and, and_assoc] using (show Dj [(g1, .cells (shC (.slice none 0 0) (.slice none 0 0) tl0).toArray 32 (0, 0))] Tr from (fun p hp q hq => hNe p hp q (List.mem_append_right _ (List.mem_append_right _ hq))))
 refine wpL_sub (K2 := ((g1, .cells (shC (.slice none 0 0) (.slice none 0 0) tl0).toArray 32 (0, 0)) :: (Kc ++ (Ko ++ Tr)))) (fun p hp => by simp only [List.mem_cons, List.mem_append, List.not_mem_nil, or_assoc, or_false, false_or] at hp ⊢; grind) ?_
 refine wpL_new (fun g => .pointer (some ⟨g, 0, none⟩)) (obi := .cells (shC (.slice none 0 0) (.slice none 0 0) tl0).toArray 32 (0, 0)) rfl rfl Tw.kf Tw.pf fun g5 Bg5 Fg5 => ?_
 obtain ⟨dj6_0, dj6_1, dj6_2, dj6_3⟩ : g1 ≠ g5 ∧ Dk g5 Kc ∧ Dk g5 Ko ∧ Dk g5 Tr := Tw.dkf Fg5
 refine wpL_s ((g5, .cells (shC (.slice pcS exCs.length ccS) (.slice poS ([(⟨0, [0, 1], rp, rc⟩ : Cov)].length) coS) tl0).toArray 32 (0, 0)) :: (g1, .cells (shC (.slice none 0 0) (.slice none 0 0) tl0).toArray 32 (0, 0)) :: (Kc ++ (Ko ++ Tr))) rfl rfl (st_row (off := 0) (v := .agg (shC (.slice pcS exCs.length ccS) (.slice poS ([(⟨0, [0, 1], rp, rc⟩ : Cov)].length) coS) tl0).toArray) rfl Tw.kr Tw.kr Tw.m0 Bg5 Tw.kr (by first | (simp [Value.cells]; done) | exact Nat.le_of_ble_eq_true rfl) (fun v hv => shC_one v hv) Tw.kr (List.forall_mem_cons.2 ⟨.inl rfl, (List.forall_mem_cons.2 ⟨.inr ⟨Tw.m1, Tw.nee⟩, (fun p hp => .inr ⟨(.tail _ (.tail _ hp)), ((show Dk g5 (Kc ++ (Ko ++ Tr)) from Tw.djt) _ hp)⟩)⟩)⟩)) ?_
 refine wpL_done (fun W2 hW2 => ?_)
 change Code.wp ..
 refine wp_seq ?_
 refine wp_seq ?_
 refine wp_region_L _ hW2 ?_
 refine lm (v := .pointer (some ⟨g5, 0, none⟩)) rfl rfl ?_
 refine lv (v := .slice pcS exCs.length ccS) rfl rfl (yb_cell (off := 0) rfl Tw.kr Tw.m0 Try.underlying22 rfl Tw.kr) ?_
 refine lp (v := .int .i64 ((exCs.length : Nat) : Int)) rfl rfl (run_lenL (p := pcS) (cap := ccS) (n := exCs.length) rfl Try.underlying22 Tw.kr) ?_
 refine lm (v := .int .i64 0) rfl rfl ?_
 refine wpL_done (fun W3 hW3 => ?_)
 change Code.wp ..
 refine wp_block ?_
 go_loopw [8] (fun u8 wr => ∃ (k : Nat) (Kx : List (Nat × Obj)), (k ≤ exCs.length) ∧ (OwnL w 46 12 (.slice pcS exCs.length ccS) exCs.length (((exCs.take k).map exK ++ exCs.drop k).flatMap colC) Kx) ∧ (Dk g5 Kx) ∧ (Dk g1 Kx) ∧ (Dj Ko Kx) ∧ (Dj Tr Kx) ∧ u8 = .int .i64 ((k : Nat) : Int) ∧ KS w ((g5, .cells (shC (.slice pcS exCs.length ccS) (.slice poS ([(⟨0, [0, 1], rp, rc⟩ : Cov)].length) coS) tl0).toArray 32 (0, 0)) :: (g1, .cells (shC (.slice none 0 0) (.slice none 0 0) tl0).toArray 32 (0, 0)) :: (Ko ++ (Tr ++ Kx))) wr) (fun u8 _ => exCs.length - (intOf u8).toNat)
 case atStart => exact ⟨0, Kc, (Nat.zero_le _), hOc, (show Dk g5 Kc from Tw.djt), (show Dk g1 Kc from Tw.djt), (show Dj Ko Kc from Tw.djt), (show Dj Tr Kc from Tw.djt), rfl, (hW3.sub (fun p hp => by first | exact hp | (simp only [List.mem_cons, List.mem_append, List.nil_append, List.not_mem_nil, or_assoc, or_false, false_or] at hp ⊢ <;> grind)))⟩
 case round =>
   obtain ⟨k, Kx, hk, hOx, dh7_0, dh7_1, dh7_2, dh7_3, rfl, hL4⟩ := hrel
   refine wp_seq ?_
   refine wp_region_L _ hL4 ?_
   refine lp (v := .bool (decide (k < exCs.length))) rfl rfl (run_bin rfl (vx := (.int .i64 ((k : Nat) : Int))) (vy := (.int .i64 ((exCs.length : Nat) : Int))) Tw.kr Tw.kr fun w => bn_lss rfl w) ?_
   refine wpL_done (fun W5 hW5 => ?_)
   change Code.wp ..
   refine wp_seq ?_
   cases hd1 : (decide (k < exCs.length)) with
   | false =>
     have h1 : ¬ (k < exCs.length) := of_decide_eq_false hd1
     clear hd1
     refine wp_cond_false rfl ?_
     refine wp_exit ?_
     change Code.wp ..
     refine wp_seq ?_
     refine wp_region_L _ hW5 ?_
     refine lm (v := .pointer (some ⟨g5, 9, none⟩)) rfl rfl ?_
     refine lm (v := .pointer (some ⟨g5, 9, none⟩)) rfl rfl ?_
     refine wpL_s ((g5, .cells #[.slice pcS exCs.length ccS, .slice poS ([(⟨0, [0, 1], rp, rc⟩ : Cov)].length) coS, tl0.a0, tl0.a1, tl0.a2, tl0.a3, tl0.a4, tl0.a5, tl0.a6, .int .i64 2000, tl0.a8, tl0.a9, tl0.aA] 32 (0, 0)) :: (g1, .cells (shC (.slice none 0 0) (.slice none 0 0) tl0).toArray 32 (0, 0)) :: (Ko ++ (Tr ++ Kx))) rfl rfl (st_row (off := 9) (v := .int .i64 2000) rfl Tw.kr Tw.kr Tw.m0 Bg5 Tw.kr (by first | (simp [Value.cells]; done) | exact Nat.le_of_ble_eq_true rfl) (by intro v hv; simp [Value.cells] at hv; first | (subst hv; rfl) | (rcases hv with rfl <;> rfl)) Tw.kr (List.forall_mem_cons.2 ⟨.inl rfl, (List.forall_mem_cons.2 ⟨.inr ⟨Tw.m1, Tw.nee⟩, (fun p hp => .inr ⟨(.tail _ (.tail _ hp)), ((show Dk g5 (Ko ++ (Tr ++ Kx)) from Tw.djt) _ hp)⟩)⟩)⟩)) ?_
     refine wpL_done (fun W6 hW6 => ?_)
     change Code.wp ..
     refine wp_seq ?_
     have hOL : OwnL w 46 12 (.slice pcS exL.length ccS) exL.length (exL.flatMap colC) Kx := by have h9 := hOx; rw [mix_end exK Tw.om] at h9; exact h9
     have hKT : KS w ((g5, .cells (shC (.slice pcS exL.length ccS) (.slice poS (exO rp rc).length coS) (tlT tl0 2000)).toArray 32 (0, 0)) :: (g1, .cells (shC (.slice none 0 0) (.slice none 0 0) tl0).toArray 32 (0, 0)) :: (Ko ++ (Tr ++ Kx))) W6 := hW6
     refine wp_region_L ((g5, .cells (shC (.slice pcS exL.length ccS) (.slice poS (exO rp rc).length coS) (tlT tl0 2000)).toArray 32 (0, 0)) :: (g1, .cells (shC (.slice none 0 0) (.slice none 0 0) tl0).toArray 32 (0, 0)) :: (Ko ++ (Tr ++ Kx))) (hKT) ?_
     refine lv (v := .agg (shC (.slice pcS exL.length ccS) (.slice poS (exO rp rc).length coS) (tlT tl0 2000)).toArray) rfl rfl (yb_load (n := 13) (off := 0) rfl Tw.kr Tw.m0 Try.underlying32 rfl Tw.kr (by first | (simp [Value.cells]; done) | exact Nat.le_of_ble_eq_true rfl) Tw.kr) ?_
     refine lm (v := .agg #[.int .i64 1, strV [], .int .u8 20, .bool false, .int .i64 15000, .int .i64 0, .int .i64 0, .int .u8 0, .bool false]) rfl rfl ?_
     refine lm (v := .agg #[.int .i64 2, strV [], .int .u8 20, .bool false, .int .i64 9000, .int .i64 0, .int .i64 0, .int .u8 0, .bool false]) rfl rfl ?_
     refine lm (v := .agg #[.int .i64 3, strV [], .int .u8 40, .bool false, .int .i64 26000, .int .i64 0, .int .i64 0, .int .u8 0, .bool false]) rfl rfl ?_
     refine lm (v := .agg #[.int .i64 4, strV [], .int .u8 20, .bool false, .int .i64 12000, .int .i64 0, .int .i64 0, .int .u8 0, .bool false]) rfl rfl ?_
     refine wpL_new (fun g => .slice (some ⟨g, 0, none⟩) 4 4) (obi := .cells #[.int .i64 1, strV [], .int .u8 20, .bool false, .int .i64 15000, .int .i64 0, .int .i64 0, .int .u8 0, .bool false, .int .i64 2, strV [], .int .u8 20, .bool false, .int .i64 9000, .int .i64 0, .int .i64 0, .int .u8 0, .bool false, .int .i64 3, strV [], .int .u8 40, .bool false, .int .i64 26000, .int .i64 0, .int .i64 0, .int .u8 0, .bool false, .int .i64 4, strV [], .int .u8 20, .bool false, .int .i64 12000, .int .i64 0, .int .i64 0, .int .u8 0, .bool false] 37 (0, 0)) rfl rfl Tw.kf Tw.pf fun g8 Bg8 Fg8 => ?_
     obtain ⟨dj9_0, dj9_1, dj9_2, dj9_3, dj9_4⟩ : g5 ≠ g8 ∧ g1 ≠ g8 ∧ Dk g8 Ko ∧ Dk g8 Tr ∧ Dk g8 Kx := Tw.dkf Fg8
     refine wpL_s ((g8, .cells #[.int .i64 1, strV [], .int .u8 20, .bool false, .int .i64 15000, .int .i64 0, .int .i64 0, .int .u8 0, .bool false, .int .i64 2, strV [], .int .u8 20, .bool false, .int .i64 9000, .int .i64 0, .int .i64 0, .int .u8 0, .bool false, .int .i64 3, strV [], .int .u8 40, .bool false, .int .i64 26000, .int .i64 0, .int .i64 0, .int .u8 0, .bool false, .int .i64 4, strV [], .int .u8 20, .bool false, .int .i64 12000, .int .i64 0, .int .i64 0, .int .u8 0, .bool false] 37 (0, 0)) :: (g5, .cells (shC (.slice pcS exL.length ccS) (.slice poS (exO rp rc).length coS) (tlT tl0 2000)).toArray 32 (0, 0)) :: (g1, .cells (shC (.slice pcS exL.length ccS) (.slice poS (exO rp rc).length coS) (tlT tl0 2000)).toArray 32 (0, 0)) :: (Ko ++ (Tr ++ Kx))) rfl rfl (st_row (off := 0) (v := .agg (shC (.slice pcS exL.length ccS) (.slice poS (exO rp rc).length coS) (tlT tl0 2000)).toArray) rfl Tw.kr Tw.kr Tw.m2 Bg1 Tw.kr (by first | (simp [Value.cells]; done) | exact Nat.le_of_ble_eq_true rfl) (fun v hv => shT_one v hv) Tw.kr (List.forall_mem_cons.2 ⟨.inr ⟨Tw.m0, Tw.nee⟩, (List.forall_mem_cons.2 ⟨.inr ⟨Tw.m1, Tw.nee⟩, (List.forall_mem_cons.2 ⟨.inl rfl, (fun p hp => .inr ⟨(.tail _ (.tail _ (.tail _ hp))), ((show Dk g1 (Ko ++ (Tr ++ Kx)) from Tw.djt) _ hp)⟩)⟩)⟩)⟩)) ?_
     refine lm (v := .slice (some ⟨g8, 0, none⟩) 4 4) rfl rfl ?_
     refine wpL_done (fun W7 hW7 => ?_)
     change Code.wp ..
     refine wp_ret ?_
     try simp only [inBlock_ret, then_ret]
     refine bodyPost_ret (v := .tuple #[.agg (shC (.slice pcS exL.length ccS) (.slice poS (exO rp rc).length coS) (tlT tl0 2000)).toArray, .slice (some ⟨g8, 0, none⟩) 4 4]) ?_ rfl ?_
     · exact (res_cell_tmp (p := 0) (q := 1) rfl rfl (hW7.2 _ Tw.m2) Try.underlying32 rfl Tw.kr)
     · exact ⟨_, _, rfl, (hW7.sub (K' := Kx ++ (Ko ++ (Tr ++ [(g8, Obj.cells ((exB 26000).flatMap boC).toArray 37 (0, 0))]))) (fun p hp => by rw [show (g8, Obj.cells ((exB 26000).flatMap boC).toArray 37 (0, 0)) = ((g8, .cells #[.int .i64 1, strV [], .int .u8 20, .bool false, .int .i64 15000, .int .i64 0, .int .i64 0, .int .u8 0, .bool false, .int .i64 2, strV [], .int .u8 20, .bool false, .int .i64 9000, .int .i64 0, .int .i64 0, .int .u8 0, .bool false, .int .i64 3, strV [], .int .u8 40, .bool false, .int .i64 26000, .int .i64 0, .int .i64 0, .int .u8 0, .bool false, .int .i64 4, strV [], .int .u8 20, .bool false, .int .i64 12000, .int .i64 0, .int .i64 0, .int .u8 0, .bool false] 37 (0, 0)) : Nat × Obj) from rfl] at hp; simp only [List.mem_cons, List.mem_append, List.not_mem_nil, or_false] at hp ⊢; grind)), pcS, ccS, poS, coS, rp, rc, g8, 4, Kx, Ko, Tr, rfl, hOL, hOo, hRB, Bg8, (show Dk g8 Kx from Tw.djt), (show Dk g8 Ko from Tw.djt), (show Dk g8 Tr from Tw.djt), (fun _ h => by cases h), rfl⟩
   | true =>
     have h1 : k < exCs.length := of_decide_eq_true hd1
     clear hd1
     refine wp_cond_true rfl ?_
     refine wp_skip ?_
     change Code.wp ..
     refine wp_seq ?_
     refine wp_block ?_
     refine wp_seq ?_
     refine wp_region_L _ hW5 ?_
     refine lm (v := .int .i64 ((k : Nat) : Int)) rfl rfl ?_
     refine lm (v := .int .i64 ((k : Nat) : Int)) rfl rfl ?_
     refine wpL_done (fun W8 hW8 => ?_)
     change Code.wp ..
     obtain ⟨gC, capC, curC, hvC, hBC, hRC, rfl⟩ := own_blkR hOx Tw.om
     obtain ⟨hpC, _, hcC⟩ := Value.slice.inj hvC
     obtain ⟨yc, hyc⟩ : ∃ y, exCs[k]? = some y := ⟨_, List.getElem?_eq_getElem Tw.om⟩
     have hxc := mix_at exK hyc
     have gn10 : gC ≠ g5 := by simpa only [dk_cons, dk_nil, and_true] using (show Dk g5 [(gC, .cells curC 46 (0, 0))] from by assumption)
     have gn11 : gC ≠ g1 := by simpa only [dk_cons, dk_nil, and_true] using (show Dk g1 [(gC, .cells curC 46 (0, 0))] from by assumption)
     have gn12 : Dk gC Ko := by simpa only [dj_cons_l, dj_nil_l, and_true] using (show Dj [(gC, .cells curC 46 (0, 0))] Ko from by first | assumption | exact Dj.symm (by assumption))
     have gn13 : Dk gC Tr := by simpa only [dj_cons_l, dj_nil_l, and_true] using (show Dj [(gC, .cells curC 46 (0, 0))] Tr from by first | assumption | exact Dj.symm (by assumption))
     have hKC := hW8.sub (K' := ((g5, .cells (shC (.slice pcS exCs.length ccS) (.slice poS ([(⟨0, [0, 1], rp, rc⟩ : Cov)].length) coS) tl0).toArray 32 (0, 0)) :: (g1, .cells (shC (.slice none 0 0) (.slice none 0 0) tl0).toArray 32 (0, 0)) :: (gC, .cells curC 46 (0, 0)) :: (Ko ++ Tr))) (fun p hp => by simp only [List.mem_cons, List.mem_append, List.not_mem_nil, or_false] at hp ⊢; grind)
     refine Z.wp_region_V (S := [(g5, .cells (shC (.slice pcS exCs.length ccS) (.slice poS ([(⟨0, [0, 1], rp, rc⟩ : Cov)].length) coS) tl0).toArray 32 (0, 0))]) (b := true) (W0 := w) ((g5, .cells (shC (.slice pcS exCs.length ccS) (.slice poS ([(⟨0, [0, 1], rp, rc⟩ : Cov)].length) coS) tl0).toArray 32 (0, 0)) :: (g1, .cells (shC (.slice none 0 0) (.slice none 0 0) tl0).toArray 32 (0, 0)) :: (gC, .cells curC 46 (0, 0)) :: (Ko ++ Tr)) Tw.kr (hKC) ?_
     refine Z.vm (i := 0) (v := .pointer (some ⟨g5, 0, none⟩)) rfl rfl rfl ?_
     refine Z.vT (i := 1) (v := .slice pcS exCs.length ccS) rfl rfl rfl (yb_cell (off := 0) rfl Tw.kr Tw.m0 Try.underlying22 rfl Tw.kr) (fun p hp => by rw [List.mem_singleton.1 hp]; simp only [List.mem_cons, List.mem_append, List.nil_append, List.not_mem_nil, or_assoc, or_false, false_or, true_or, or_true]) ?_
     refine Z.vm (i := 2) (v := .int .i64 ((k : Nat) : Int)) rfl rfl rfl ?_
     refine Z.vm (i := 3) (v := .pointer (some ⟨g5, 0, none⟩)) rfl rfl rfl ?_
     refine Z.vT (i := 4) (v := .slice pcS exCs.length ccS) rfl rfl rfl (yb_cell (off := 0) rfl Tw.kr Tw.m0 Try.underlying22 rfl Tw.kr) (fun p hp => by rw [List.mem_singleton.1 hp]; simp only [List.mem_cons, List.mem_append, List.nil_append, List.not_mem_nil, or_assoc, or_false, false_or, true_or, or_true]) ?_
     refine Z.vm (i := 5) (v := .int .i64 ((k : Nat) : Int)) rfl rfl rfl ?_
     refine Z.vp (i := 6) (v := .pointer (some ⟨gC, 0 + k * 12, none⟩)) rfl rfl rfl (run_idxL (j := .i64) (n := exCs.length) (cap := ccS) (b := gC) (off := 0) (k := k) (sz := 12) rfl Try.underlying22 Tw.kr ((show _ = Value.slice pcS exCs.length ccS from by kernel_rfl).trans (by rw [hpC])) Tw.kr Tw.om) ?_
     refine Z.vm (i := 7) (v := .pointer (some ⟨gC, 0 + k * 12 + 5, none⟩)) rfl rfl rfl ?_
     have hR14 := rown_set (b' := ({ yc with k20 := 30000 } : Col)) (j := 5) (u := .int .i64 30000) hRC colC_len hxc (by decide) rfl
     have hx14 : (((exCs.take k).map exK ++ exCs.drop k).set k ({ yc with k20 := 30000 } : Col))[k]? = some ({ yc with k20 := 30000 } : Col) := List.getElem?_set_self (by first | (rw [mix_len]; omega) | (rw [List.length_set, mix_len]; omega))
     refine Z.wpV_s ((g5, .cells (shC (.slice pcS exCs.length ccS) (.slice poS ([(⟨0, [0, 1], rp, rc⟩ : Cov)].length) coS) tl0).toArray 32 (0, 0)) :: (g1, .cells (shC (.slice none 0 0) (.slice none 0 0) tl0).toArray 32 (0, 0)) :: (gC, .cells (curC.setIfInBounds (0 + k * 12 + 5) (.int .i64 30000)) 46 (0, 0)) :: (Ko ++ Tr)) (i := 8) rfl Tw.kr rfl rfl rfl (st_at (off := 0 + k * 12 + 5) (v := .int .i64 30000) rfl Tw.kr Tw.kr Tw.m2 hBC Tw.kr rfl rfl (by rw [(hRC).1]; have h9 := (hRC).2.2.1; omega) (.inr rfl) (List.forall_mem_cons.2 ⟨.inr ⟨Tw.m0, Tw.nee⟩, (List.forall_mem_cons.2 ⟨.inr ⟨Tw.m1, Tw.nee⟩, (List.forall_mem_cons.2 ⟨.inl rfl, (fun p hp => .inr ⟨(.tail _ (.tail _ (.tail _ hp))), ((show Dk gC (Ko ++ Tr) from Tw.djt) _ hp)⟩)⟩)⟩)⟩)) (fun _ => (fun p hp => by rw [List.mem_singleton.1 hp]; simp only [List.mem_cons, List.mem_append, List.nil_append, List.not_mem_nil, or_assoc, or_false, false_or, true_or, or_true])) ?_
     refine Z.vp (i := 9) (v := .pointer (some ⟨gC, 0 + k * 12, none⟩)) rfl rfl rfl (run_idxL (j := .i64) (n := exCs.length) (cap := ccS) (b := gC) (off := 0) (k := k) (sz := 12) rfl Try.underlying22 Tw.kr ((show _ = Value.slice pcS exCs.length ccS from by kernel_rfl).trans (by rw [hpC])) Tw.kr Tw.om) ?_
     refine Z.vm (i := 10) (v := .pointer (some ⟨gC, 0 + k * 12 + 6, none⟩)) rfl rfl rfl ?_
     have hR15 := rown_set (b' := (exK yc)) (j := 6) (u := .int .i64 50000) hR14 colC_len hx14 (by decide) rfl
     have hx15 : ((((exCs.take k).map exK ++ exCs.drop k).set k ({ yc with k20 := 30000 } : Col)).set k (exK yc))[k]? = some (exK yc) := List.getElem?_set_self (by first | (rw [mix_len]; omega) | (rw [List.length_set, mix_len]; omega))
     refine Z.wpV_s ((g5, .cells (shC (.slice pcS exCs.length ccS) (.slice poS ([(⟨0, [0, 1], rp, rc⟩ : Cov)].length) coS) tl0).toArray 32 (0, 0)) :: (g1, .cells (shC (.slice none 0 0) (.slice none 0 0) tl0).toArray 32 (0, 0)) :: (gC, .cells ((curC.setIfInBounds (0 + k * 12 + 5) (.int .i64 30000)).setIfInBounds (0 + k * 12 + 6) (.int .i64 50000)) 46 (0, 0)) :: (Ko ++ Tr)) (i := 11) rfl Tw.kr rfl rfl rfl (st_at (off := 0 + k * 12 + 6) (v := .int .i64 50000) rfl Tw.kr Tw.kr Tw.m2 hBC Tw.kr rfl rfl (by rw [(hR14).1]; have h9 := (hR14).2.2.1; omega) (.inr rfl) (List.forall_mem_cons.2 ⟨.inr ⟨Tw.m0, Tw.nee⟩, (List.forall_mem_cons.2 ⟨.inr ⟨Tw.m1, Tw.nee⟩, (List.forall_mem_cons.2 ⟨.inl rfl, (fun p hp => .inr ⟨(.tail _ (.tail _ (.tail _ hp))), ((show Dk gC (Ko ++ Tr) from Tw.djt) _ hp)⟩)⟩)⟩)⟩)) (fun _ => (fun p hp => by rw [List.mem_singleton.1 hp]; simp only [List.mem_cons, List.mem_append, List.nil_append, List.not_mem_nil, or_assoc, or_false, false_or, true_or, or_true])) ?_
     refine Z.wpV_done Tw.kr (fun W9 hW9 => ?_) _
     change Code.wp ..
     refine wp_region_L _ hW9 ?_
     refine lp (v := .int .i64 (((k + 1) : Nat) : Int)) rfl rfl (run_bin rfl (vx := (.int .i64 ((k : Nat) : Int))) (vy := (.int .i64 ((1 : Nat) : Int))) Tw.kr Tw.kr fun w => bn_add (z := (k + 1)) rfl (wr_i64 Tw.om) w) ?_
     refine lm (v := .int .i64 (((k + 1) : Nat) : Int)) rfl rfl ?_
     refine wpL_done (fun W10 hW10 => ?_)
     go_roundw
     case rel =>
       repeat apply Exists.intro
       exact ⟨⟨k + 1, [(gC, .cells ((curC.setIfInBounds (0 + k * 12 + 5) (.int .i64 30000)).setIfInBounds (0 + k * 12 + 6) (.int .i64 50000)) 46 (0, 0))], Tw.om, (by have h9 := hR15; rw [List.set_set, mix_set exK hyc] at h9; exact .inr ⟨gC, capC, _, hvC, hBC, h9, rfl⟩), (show Dk g5 [(gC, .cells ((curC.setIfInBounds (0 + k * 12 + 5) (.int .i64 30000)).setIfInBounds (0 + k * 12 + 6) (.int .i64 50000)) 46 (0, 0))] from Tw.djt), (show Dk g1 [(gC, .cells ((curC.setIfInBounds (0 + k * 12 + 5) (.int .i64 30000)).setIfInBounds (0 + k * 12 + 6) (.int .i64 50000)) 46 (0, 0))] from Tw.djt), (show Dj Ko [(gC, .cells ((curC.setIfInBounds (0 + k * 12 + 5) (.int .i64 30000)).setIfInBounds (0 + k * 12 + 6) (.int .i64 50000)) 46 (0, 0))] from Tw.djt), (show Dj Tr [(gC, .cells ((curC.setIfInBounds (0 + k * 12 + 5) (.int .i64 30000)).setIfInBounds (0 + k * 12 + 6) (.int .i64 50000)) 46 (0, 0))] from Tw.djt), rfl, (hW10.sub (fun p hp => by first | exact hp | (simp only [List.mem_cons, List.mem_append, List.nil_append, List.not_mem_nil, or_assoc, or_false, false_or] at hp ⊢ <;> grind)))⟩, rfl⟩
     case measure => (show exCs.length - (intOf (.int .i64 (((k + 1) : Nat) : Int))).toNat < exCs.length - (intOf (.int .i64 ((k : Nat) : Int))).toNat); simp only [intOf]; omega
end Go.Proofs.Ytnbfljcilojllaa
