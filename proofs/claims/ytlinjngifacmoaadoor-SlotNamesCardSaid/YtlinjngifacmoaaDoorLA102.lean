import Derived.Test.YtlinjngifacmoaaDoorSN00
import Derived.Test.YtlinjngifacmoaaDoorLA101
import Derived.Test.YtlinjngifacmoaaDoorSN03
import Derived.Test.YtlinjngifacmoaaDoorSN02
/- Part of the proof: TL, L9x, L9l, L9z, U3. -/
set_option linter.unusedVariables false
set_option linter.unusedSimpArgs false
set_option linter.unusedSectionVars false
namespace Go.Proofs.YtlinjngifacmoaaDoor
open Go Go.RowKit Tw
set_option maxRecDepth 100000 in
set_option maxHeartbeats 4000000 in
theorem RRight_any (cs : List Col) (pc : Option Addr) (cc : Nat) (lc : cs.length ≤ 4000000000) (os : List Cov) (po : Option Addr) (co : Nat) (lo : os.length ≤ 4000000000) (t : Tl) (w : World) (hc : SLV w pc (cs.flatMap colC)) (ho : SLV w po (os.flatMap covC)) (hr : RwR w os) (lr : ∀ o ∈ os, o.rows.length ≤ 4000000000) (hq : PlR w cs) (lq : ∀ c ∈ cs, c.plugs.length ≤ 4000000000) : Calls Tryd.prog 68 #[.agg (shC (.slice pc cs.length cc) (.slice po os.length co) t).toArray] w fun e w' => e = .returned (.bool (rightX cs os)) ∧ Below w.heap.size w w' := by
 have HC := Lib.hid hc
 clear hc
 have HO := Lib.hid ho
 clear ho
 have HR := Lib.hid hr
 clear hr
 have HQ := Lib.hid hq
 clear hq
 go_enter Tryd.func68, Tryd.ntmps68
 refine wp_seq ?_
 refine wp_region_L [] (KS.start w) ?_
 refine wpL_new (fun g => .pointer (some ⟨g, 0, none⟩)) (obi := .cells (shC (.slice pc cs.length cc) (.slice po os.length co) t).toArray 32 (0, 0)) rfl rfl Tw.kf Tw.pf fun g1 Bg1 Fg1 => ?_
 refine lm (v := .bool false) rfl rfl ?_
 refine wpL_done (fun W1 hW1 => ?_)
 change Code.wp ..
 refine wp_seq ?_
 refine wp_seq ?_
 refine wp_region_L _ hW1 ?_
 refine lm (v := .pointer (some ⟨g1, 0, none⟩)) rfl rfl ?_
 refine lv (v := .slice pc cs.length cc) rfl rfl (yb_cell (off := 0) rfl Tw.kr Tw.m0 Tryd.underlying22 rfl Tw.kr) ?_
 refine lp (v := .int .i64 ((cs.length : Nat) : Int)) rfl rfl (run_lenL (p := pc) (cap := cc) (n := cs.length) rfl Tryd.underlying22 Tw.kr) ?_
 refine lv (v := .bool (inR ((cs.length : Nat) : Int) 1 200)) rfl rfl (yb_call (f := 100) (args := #[.int .i64 ((cs.length : Nat) : Int), .int .i64 1, .int .i64 200]) Tw.kf fun W hW => within_any ((cs.length : Nat) : Int) 1 200 W) ?_
 refine lp (v := .bool (!(inR ((cs.length : Nat) : Int) 1 200))) rfl rfl (run_un rfl Tw.kr fun w => un_not w) ?_
 refine lm (v := .bool (!(inR ((cs.length : Nat) : Int) 1 200))) rfl rfl ?_
 cases h1 : (inR ((cs.length : Nat) : Int) 1 200) with
 | false =>
   refine ln rfl ?_
   refine ln rfl ?_
   refine ln rfl ?_
   refine ln rfl ?_
   refine lm (v := .bool true) rfl rfl ?_
   refine wpL_done (fun W2 hW2 => ?_)
   change Code.wp ..
   refine wp_cond_true rfl ?_
   refine wp_seq ?_
   refine wp_region_L _ hW2 ?_
   refine lm (v := .bool false) rfl rfl ?_
   refine wpL_done (fun W3 hW3 => ?_)
   change Code.wp ..
   refine wp_ret ?_
   try simp only [inBlock_ret, then_ret]
   refine bodyPost_ret (v := .bool false) ?_ rfl ?_
   · kernel_rfl
   · exact ⟨(bool_is (len_bad h1).symm), hW3.1⟩
 | true =>
   refine lm (v := .pointer (some ⟨g1, 1, none⟩)) rfl rfl ?_
   refine lv (v := .slice po os.length co) rfl rfl (yb_cell (off := 1) rfl Tw.kr Tw.m0 Tryd.underlying23 rfl Tw.kr) ?_
   refine lp (v := .int .i64 ((os.length : Nat) : Int)) rfl rfl (run_lenL (p := po) (cap := co) (n := os.length) rfl Tryd.underlying23 Tw.kr) ?_
   refine lp (v := .bool (decide (40 < os.length))) rfl rfl (run_bin rfl (vx := (.int .i64 ((os.length : Nat) : Int))) (vy := (.int .i64 ((40 : Nat) : Int))) Tw.kr Tw.kr fun w => bn_gtr rfl w) ?_
   refine lm (v := .bool (decide (40 < os.length))) rfl rfl ?_
   refine wpL_done (fun W4 hW4 => ?_)
   change Code.wp ..
   cases hd2 : (decide (40 < os.length)) with
   | false =>
     have h2 : ¬ (40 < os.length) := of_decide_eq_false hd2
     clear hd2
     refine wp_cond_false rfl ?_
     refine wp_skip ?_
     change Code.wp ..
     refine wp_seq ?_
     refine wp_seq ?_
     refine wp_region_L _ hW4 ?_
     refine lm (v := .int .i64 0) rfl rfl ?_
     refine wpL_done (fun W5 hW5 => ?_)
     change Code.wp ..
     refine wp_block ?_
     go_loopw [3] (fun u3 wr => ∃ (i : Nat), (i ≤ cs.length) ∧ (ColsT cs i) ∧ u3 = .int .i64 ((i : Nat) : Int) ∧ KS w [(g1, .cells (shC (.slice pc cs.length cc) (.slice po os.length co) t).toArray 32 (0, 0))] wr) (fun u3 _ => cs.length - (intOf u3).toNat)
     case atStart => exact ⟨0, (Nat.zero_le _), colsT_0, rfl, (hW5.sub (fun p hp => by first | exact hp | (simp only [List.mem_cons, List.mem_append, List.nil_append, List.not_mem_nil, or_assoc, or_false, false_or] at hp ⊢ <;> grind)))⟩
     case round =>
       obtain ⟨i, hi, hG, rfl, hL6⟩ := hrel
       refine wp_seq ?_
       refine wp_seq ?_
       refine wp_region_L _ hL6 ?_
       refine lm (v := .int .i64 ((i : Nat) : Int)) rfl rfl ?_
       refine lm (v := .pointer (some ⟨g1, 0, none⟩)) rfl rfl ?_
       refine lv (v := .slice pc cs.length cc) rfl rfl (yb_cell (off := 0) rfl Tw.kr Tw.m0 Tryd.underlying22 rfl Tw.kr) ?_
       refine lp (v := .int .i64 ((cs.length : Nat) : Int)) rfl rfl (run_lenL (p := pc) (cap := cc) (n := cs.length) rfl Tryd.underlying22 Tw.kr) ?_
       refine lp (v := .bool (decide (i < cs.length))) rfl rfl (run_bin rfl (vx := (.int .i64 ((i : Nat) : Int))) (vy := (.int .i64 ((cs.length : Nat) : Int))) Tw.kr Tw.kr fun w => bn_lss rfl w) ?_
       refine wpL_done (fun W7 hW7 => ?_)
       change Code.wp ..
       cases hd3 : (decide (i < cs.length)) with
       | false =>
         have h3 : ¬ (i < cs.length) := of_decide_eq_false hd3
         clear hd3
         refine wp_cond_false rfl ?_
         refine wp_exit ?_
         change Code.wp ..
         refine wp_seq ?_
         refine wp_seq ?_
         refine wp_region_L _ hW7 ?_
         refine lm (v := .int .i64 0) rfl rfl ?_
         refine wpL_done (fun W8 hW8 => ?_)
         change Code.wp ..
         refine wp_block ?_
         have hcX := colsT_e hG h3 h1
         go_loopw [5] (fun u5 wr => ∃ (i2 : Nat), (i2 ≤ os.length) ∧ (OvsT os i2) ∧ u5 = .int .i64 ((i2 : Nat) : Int) ∧ KS w [(g1, .cells (shC (.slice pc cs.length cc) (.slice po os.length co) t).toArray 32 (0, 0))] wr) (fun u5 _ => os.length - (intOf u5).toNat)
         case atStart => exact ⟨0, (Nat.zero_le _), ovsT_0, rfl, (hW8.sub (fun p hp => by first | exact hp | (simp only [List.mem_cons, List.mem_append, List.nil_append, List.not_mem_nil, or_assoc, or_false, false_or] at hp ⊢ <;> grind)))⟩
         case round =>
           obtain ⟨i2, hi2, hH, rfl, hL9⟩ := hrel
           refine wp_seq ?_
           refine wp_seq ?_
           refine wp_region_L _ hL9 ?_
           refine lm (v := .int .i64 ((i2 : Nat) : Int)) rfl rfl ?_
           refine lm (v := .pointer (some ⟨g1, 1, none⟩)) rfl rfl ?_
           refine lv (v := .slice po os.length co) rfl rfl (yb_cell (off := 1) rfl Tw.kr Tw.m0 Tryd.underlying23 rfl Tw.kr) ?_
           refine lp (v := .int .i64 ((os.length : Nat) : Int)) rfl rfl (run_lenL (p := po) (cap := co) (n := os.length) rfl Tryd.underlying23 Tw.kr) ?_
           refine lp (v := .bool (decide (i2 < os.length))) rfl rfl (run_bin rfl (vx := (.int .i64 ((i2 : Nat) : Int))) (vy := (.int .i64 ((os.length : Nat) : Int))) Tw.kr Tw.kr fun w => bn_lss rfl w) ?_
           refine wpL_done (fun W10 hW10 => ?_)
           change Code.wp ..
           cases hd4 : (decide (i2 < os.length)) with
           | false =>
             have h4 : ¬ (i2 < os.length) := of_decide_eq_false hd4
             clear hd4
             refine wp_cond_false rfl ?_
             refine wp_exit ?_
             change Code.wp ..
             refine wp_seq ?_
             refine wp_region_L _ hW10 ?_
             refine lm (v := .bool true) rfl rfl ?_
             refine wpL_done (fun W11 hW11 => ?_)
             change Code.wp ..
             refine wp_ret ?_
             try simp only [inBlock_ret, then_ret]
             refine bodyPost_ret (v := .bool true) ?_ rfl ?_
             · kernel_rfl
             · exact ⟨(bool_is (right_t hcX (ovsT_e hH h4 h2)).symm), hW11.1⟩
           | true =>
             have h4 : i2 < os.length := of_decide_eq_true hd4
             clear hd4
             refine wp_cond_true rfl ?_
             refine wp_skip ?_
             change Code.wp ..
             refine wp_seq ?_
             refine wp_block ?_
             refine wp_seq ?_
             refine wp_region_L _ hW10 ?_
             refine lm (v := .pointer (some ⟨g1, 1, none⟩)) rfl rfl ?_
             refine lv (v := .slice po os.length co) rfl rfl (yb_cell (off := 1) rfl Tw.kr Tw.m0 Tryd.underlying23 rfl Tw.kr) ?_
             refine lm (v := .int .i64 ((i2 : Nat) : Int)) rfl rfl ?_
             obtain ⟨y2, g2_, f2_, hy2, hp2, hc2⟩ := RL.at (RL.base HO.out) covC_len (by decide) (hW10.sub (fun _ h => by cases h)) (k := i2) Tw.om
             refine lp (v := .pointer (some ⟨g2_, f2_ + i2 * 2, none⟩)) rfl rfl (run_idxQ (p := po) (cap := co) (n := os.length) (j := .i64) (k := i2) (sz := 2) rfl Tryd.underlying23 Tw.kr Tw.kr hp2 Tw.kr Tw.om) ?_
             refine lv (v := .agg (covC y2).toArray) rfl rfl (yb_rs (off := f2_ + i2 * 2) (cs := covC y2) rfl Tw.kr (fun W hW => hc2 W (hW.sub (fun _ h => by cases h))) Tryd.underlying67 rfl Tw.kr) ?_
             refine wpL_new (fun g => .pointer (some ⟨g, 0, none⟩)) (obi := .cells #[.int .i64 0, .slice none 0 0] 67 (0, 0)) rfl rfl Tw.kf Tw.pf fun g3 Bg3 Fg3 => ?_
             obtain dj4_0 : g1 ≠ g3 := Tw.dkf Fg3
             refine wpL_s [(g3, .cells (covC y2).toArray 67 (0, 0)), (g1, .cells (shC (.slice pc cs.length cc) (.slice po os.length co) t).toArray 32 (0, 0))] rfl rfl (st_row (off := 0) (v := .agg (covC y2).toArray) rfl Tw.kr Tw.kr Tw.m0 Bg3 Tw.kr (by first | (simp [Value.cells]; done) | exact Nat.le_of_ble_eq_true rfl) (fun v hv => covC_one y2 v hv) Tw.kr (List.forall_mem_cons.2 ⟨.inl rfl, (List.forall_mem_cons.2 ⟨.inr ⟨Tw.m1, Tw.nee⟩, (List.forall_mem_nil _)⟩)⟩)) ?_
             refine wpL_done (fun W12 hW12 => ?_)
             change Code.wp ..
             refine wp_seq ?_
             refine wp_seq ?_
             refine wp_region_L _ hW12 ?_
             refine lm (v := .pointer (some ⟨g3, 0, none⟩)) rfl rfl ?_
             refine lv (v := .int .i64 y2.bay) rfl rfl (yb_cell (off := 0) rfl Tw.kr Tw.m0 Tryd.underlying3 rfl Tw.kr) ?_
             refine lv (v := .bool (inR y2.bay 0 39)) rfl rfl (yb_call (f := 100) (args := #[.int .i64 y2.bay, .int .i64 0, .int .i64 39]) Tw.kf fun W hW => within_any y2.bay 0 39 W) ?_
             refine lp (v := .bool (!(inR y2.bay 0 39))) rfl rfl (run_un rfl Tw.kr fun w => un_not w) ?_
             refine lm (v := .bool (!(inR y2.bay 0 39))) rfl rfl ?_
             cases h5 : (inR y2.bay 0 39) with
             | false =>
               refine ln rfl ?_
               refine ln rfl ?_
               refine ln rfl ?_
               refine ln rfl ?_
               refine lm (v := .bool true) rfl rfl ?_
               refine wpL_done (fun W13 hW13 => ?_)
               change Code.wp ..
               refine wp_cond_true rfl ?_
               refine wp_seq ?_
               refine wp_region_L _ hW13 ?_
               refine lm (v := .bool false) rfl rfl ?_
               refine wpL_done (fun W14 hW14 => ?_)
               change Code.wp ..
               refine wp_ret ?_
               try simp only [inBlock_ret, then_ret]
               refine bodyPost_ret (v := .bool false) ?_ rfl ?_
               · kernel_rfl
               · exact ⟨(bool_is (ov_bad (List.mem_of_getElem? hy2) (ov_bay h5)).symm), hW14.1⟩
             | true =>
               refine lm (v := .pointer (some ⟨g3, 1, none⟩)) rfl rfl ?_
               refine lv (v := .slice y2.rp y2.rows.length y2.rc) rfl rfl (yb_cell (off := 1) rfl Tw.kr Tw.m0 Tryd.underlying63 rfl Tw.kr) ?_
               refine lp (v := .int .i64 ((y2.rows.length : Nat) : Int)) rfl rfl (run_lenL (p := y2.rp) (cap := y2.rc) (n := y2.rows.length) rfl Tryd.underlying63 Tw.kr) ?_
               refine lp (v := .bool (decide (y2.rows.length = 0))) rfl rfl (run_bin rfl (vx := (.int .i64 ((y2.rows.length : Nat) : Int))) (vy := (.int .i64 ((0 : Nat) : Int))) Tw.kr Tw.kr fun w => bn_eql rfl w) ?_
               refine lm (v := .bool (decide (y2.rows.length = 0))) rfl rfl ?_
               refine wpL_done (fun W15 hW15 => ?_)
               change Code.wp ..
               cases hd6 : (decide (y2.rows.length = 0)) with
               | false =>
                 have h6 : ¬ (y2.rows.length = 0) := of_decide_eq_false hd6
                 clear hd6
                 refine wp_cond_false rfl ?_
                 refine wp_skip ?_
                 change Code.wp ..
                 refine wp_seq ?_
                 refine wp_region_L _ hW15 ?_
                 refine lm (v := .int .i64 0) rfl rfl ?_
                 refine wpL_done (fun W16 hW16 => ?_)
                 change Code.wp ..
                 refine wp_block ?_
                 have lz2 := lr y2 (List.mem_of_getElem? hy2)
                 go_loopw [7] (fun u7 wr => ∃ (j : Nat) (z : Int), (j ≤ y2.rows.length) ∧ (incX y2.rows 30 = incF 30 z (y2.rows.drop j)) ∧ ((j = 0 ∧ z = -1) ∨ (0 < j ∧ 0 ≤ z ∧ y2.rows[j - 1]? = some z)) ∧ (FreeR os i2 y2 (y2.rows.take j)) ∧ u7 = .int .i64 ((j : Nat) : Int) ∧ KS w [(g3, .cells (covC y2).toArray 67 (0, 0)), (g1, .cells (shC (.slice pc cs.length cc) (.slice po os.length co) t).toArray 32 (0, 0))] wr) (fun u7 _ => y2.rows.length - (intOf u7).toNat)
                 case atStart => exact ⟨0, (-1), (Nat.zero_le _), rfl, (.inl ⟨rfl, rfl⟩), (fun r h => by cases h), rfl, (hW16.sub (fun p hp => by first | exact hp | (simp only [List.mem_cons, List.mem_append, List.nil_append, List.not_mem_nil, or_assoc, or_false, false_or] at hp ⊢ <;> grind)))⟩
                 case round =>
                   obtain ⟨j, z, hj, hI, hz, hFR, rfl, hL17⟩ := hrel
                   refine wp_seq ?_
                   refine wp_seq ?_
                   refine wp_region_L _ hL17 ?_
                   refine lm (v := .int .i64 ((j : Nat) : Int)) rfl rfl ?_
                   refine lm (v := .pointer (some ⟨g3, 1, none⟩)) rfl rfl ?_
                   refine lv (v := .slice y2.rp y2.rows.length y2.rc) rfl rfl (yb_cell (off := 1) rfl Tw.kr Tw.m0 Tryd.underlying63 rfl Tw.kr) ?_
                   refine lp (v := .int .i64 ((y2.rows.length : Nat) : Int)) rfl rfl (run_lenL (p := y2.rp) (cap := y2.rc) (n := y2.rows.length) rfl Tryd.underlying63 Tw.kr) ?_
                   refine lp (v := .bool (decide (j < y2.rows.length))) rfl rfl (run_bin rfl (vx := (.int .i64 ((j : Nat) : Int))) (vy := (.int .i64 ((y2.rows.length : Nat) : Int))) Tw.kr Tw.kr fun w => bn_lss rfl w) ?_
                   refine wpL_done (fun W18 hW18 => ?_)
                   change Code.wp ..
                   cases hd7 : (decide (j < y2.rows.length)) with
                   | false =>
                     have h7 : ¬ (j < y2.rows.length) := of_decide_eq_false hd7
                     clear hd7
                     refine wp_cond_false rfl ?_
                     refine wp_exit ?_
                     change Code.wp ..
                     refine wp_region_L _ hW18 ?_
                     refine lm (v := .int .i64 ((i2 : Nat) : Int)) rfl rfl ?_
                     refine lp (v := .int .i64 (((i2 + 1) : Nat) : Int)) rfl rfl (run_bin rfl (vx := (.int .i64 ((i2 : Nat) : Int))) (vy := (.int .i64 ((1 : Nat) : Int))) Tw.kr Tw.kr fun w => bn_add (z := (i2 + 1)) rfl (wr_i64 Tw.om) w) ?_
                     refine lm (v := .int .i64 (((i2 + 1) : Nat) : Int)) rfl rfl ?_
                     refine wpL_done (fun W19 hW19 => ?_)
                     go_roundw
                     case rel =>
                       repeat apply Exists.intro
                       exact ⟨⟨i2 + 1, Tw.om, (ovsT_s hH hy2 (ov_ok h5 h6 (by rw [hI, inc_end h7])) (free_e hFR h7)), rfl, (hW19.sub (fun p hp => by first | exact hp | (simp only [List.mem_cons, List.mem_append, List.nil_append, List.not_mem_nil, or_assoc, or_false, false_or] at hp ⊢ <;> grind)))⟩, rfl⟩
                     case measure => (show os.length - (intOf (.int .i64 (((i2 + 1) : Nat) : Int))).toNat < os.length - (intOf (.int .i64 ((i2 : Nat) : Int))).toNat); simp only [intOf]; omega
                   | true =>
                     have h7 : j < y2.rows.length := of_decide_eq_true hd7
                     clear hd7
                     refine wp_cond_true rfl ?_
                     refine wp_skip ?_
                     change Code.wp ..
                     refine wp_seq ?_
                     refine wp_block ?_
                     refine wp_seq ?_
                     refine wp_seq ?_
                     refine wp_region_V _ Tw.kr hW18 ?_
                     refine vm (i := 0) (v := .pointer (some ⟨g3, 1, none⟩)) rfl rfl rfl ?_
                     refine vv (i := 1) (v := .slice y2.rp y2.rows.length y2.rc) rfl rfl rfl (yb_cell (off := 1) rfl Tw.kr Tw.m0 Tryd.underlying63 rfl Tw.kr) ?_
                     refine vm (i := 2) (v := .int .i64 ((j : Nat) : Int)) rfl rfl rfl ?_
                     obtain ⟨y5, g5_, f5_, hy5, hp5, hc5⟩ := RL.at (RL.base (HR.out y2 (List.mem_of_getElem? hy2))) inC_len (by decide) (hW18.sub (fun _ h => by cases h)) (k := j) Tw.om
                     refine vp (i := 3) (v := .pointer (some ⟨g5_, f5_ + j * 1, none⟩)) rfl rfl rfl (run_idxQ (p := y2.rp) (cap := y2.rc) (n := y2.rows.length) (j := .i64) (k := j) (sz := 1) rfl Tryd.underlying63 Tw.kr Tw.kr hp5 Tw.kr Tw.om) ?_
                     refine vb (i := 4) (v := .int .i64 y5) rfl rfl rfl (yb_rf (v := .int .i64 y5) rfl Tw.kr (fun W hW => hc5 W (hW.sub (fun _ h => by cases h)) 0 _ rfl) Tryd.underlying3 rfl) ?_
                     refine vv (i := 5) (v := .bool (inR y5 0 30)) rfl rfl rfl (yb_call (f := 100) (args := #[.int .i64 y5, .int .i64 0, .int .i64 30]) Tw.kf fun W hW => within_any y5 0 30 W) ?_
                     refine vp (i := 6) (v := .bool (!(inR y5 0 30))) rfl rfl rfl (run_un rfl Tw.kr fun w => un_not w) ?_
                     refine vm (i := 7) (v := .bool (!(inR y5 0 30))) rfl rfl rfl ?_
                     cases h8 : (inR y5 0 30) with
                     | false =>
                       refine vn (i := 8) rfl rfl ?_
                       refine vn (i := 9) rfl rfl ?_
                       refine vn (i := 10) rfl rfl ?_
                       refine vn (i := 11) rfl rfl ?_
                       refine vn (i := 12) rfl rfl ?_
                       refine vn (i := 13) rfl rfl ?_
                       refine vn (i := 14) rfl rfl ?_
                       refine vn (i := 15) rfl rfl ?_
                       refine vn (i := 16) rfl rfl ?_
                       refine vn (i := 17) rfl rfl ?_
                       refine vn (i := 18) rfl rfl ?_
                       refine vn (i := 19) rfl rfl ?_
                       refine vn (i := 20) rfl rfl ?_
                       refine vn (i := 21) rfl rfl ?_
                       refine vn (i := 22) rfl rfl ?_
                       refine vn (i := 23) rfl rfl ?_
                       refine vm (i := 24) (v := .bool true) rfl rfl rfl ?_
                       refine wpV_done Tw.kr (fun W20 hW20 => ?_) _
                       change Code.wp ..
                       refine wp_cond_true rfl ?_
                       refine wp_seq ?_
                       refine wp_region_L _ hW20 ?_
                       refine lm (v := .bool false) rfl rfl ?_
                       refine wpL_done (fun W21 hW21 => ?_)
                       change Code.wp ..
                       refine wp_ret ?_
                       try simp only [inBlock_ret, then_ret]
                       refine bodyPost_ret (v := .bool false) ?_ rfl ?_
                       · kernel_rfl
                       · exact ⟨(bool_is (ov_bad (List.mem_of_getElem? hy2) (ov_inc (by have g1 := inR_f h8; rw [hI, inc_step hy5]; by_cases g2 : z < y5 <;> by_cases g3 : y5 ≤ 30 <;> simp [g2, g3] <;> omega))).symm), hW21.1⟩
                     | true =>
                       refine vm (i := 8) (v := .int .i64 ((j : Nat) : Int)) rfl rfl rfl ?_
                       refine vp (i := 9) (v := .bool (decide (0 < j))) rfl rfl rfl (run_bin rfl (vx := (.int .i64 ((j : Nat) : Int))) (vy := (.int .i64 ((0 : Nat) : Int))) Tw.kr Tw.kr fun w => bn_gtr rfl w) ?_
                       refine vm (i := 10) (v := .bool (decide (0 < j))) rfl rfl rfl ?_
                       cases hd9 : (decide (0 < j)) with
                       | false =>
                         have h9 : ¬ (0 < j) := of_decide_eq_false hd9
                         clear hd9
                         refine vn (i := 11) rfl rfl ?_
                         refine vn (i := 12) rfl rfl ?_
                         refine vn (i := 13) rfl rfl ?_
                         refine vn (i := 14) rfl rfl ?_
                         refine vn (i := 15) rfl rfl ?_
                         refine vn (i := 16) rfl rfl ?_
                         refine vn (i := 17) rfl rfl ?_
                         refine vn (i := 18) rfl rfl ?_
                         refine vn (i := 19) rfl rfl ?_
                         refine vn (i := 20) rfl rfl ?_
                         refine vn (i := 21) rfl rfl ?_
                         refine vn (i := 22) rfl rfl ?_
                         refine vm (i := 23) (v := .bool false) rfl rfl rfl ?_
                         refine vm (i := 24) (v := .bool false) rfl rfl rfl ?_
                         refine wpV_done Tw.kr (fun W22 hW22 => ?_) _
                         change Code.wp ..
                         refine wp_cond_false rfl ?_
                         refine wp_skip ?_
                         change Code.wp ..
                         refine wp_seq ?_
                         refine wp_region_L _ hW22 ?_
                         refine lm (v := .int .i64 0) rfl rfl ?_
                         refine wpL_done (fun W23 hW23 => ?_)
                         change Code.wp ..
                         refine wp_block ?_
                         go_loopw [8] (fun u8 wr => ∃ (k2 : Nat), (k2 ≤ i2) ∧ (∀ q z, q < k2 → os[q]? = some z → ¬ (z.bay = y2.bay ∧ hasN z.rows y5 = true)) ∧ u8 = .int .i64 ((k2 : Nat) : Int) ∧ KS w [(g3, .cells (covC y2).toArray 67 (0, 0)), (g1, .cells (shC (.slice pc cs.length cc) (.slice po os.length co) t).toArray 32 (0, 0))] wr) (fun u8 _ => i2 - (intOf u8).toNat)
                         case atStart => exact ⟨0, (Nat.zero_le _), (fun q z h => by omega), rfl, (hW23.sub (fun p hp => by first | exact hp | (simp only [List.mem_cons, List.mem_append, List.nil_append, List.not_mem_nil, or_assoc, or_false, false_or] at hp ⊢ <;> grind)))⟩
                         case round =>
                           obtain ⟨k2, hk2, hM, rfl, hL24⟩ := hrel
                           refine wp_seq ?_
                           refine wp_seq ?_
                           refine wp_region_L _ hL24 ?_
                           refine lm (v := .int .i64 ((k2 : Nat) : Int)) rfl rfl ?_
                           refine lm (v := .int .i64 ((i2 : Nat) : Int)) rfl rfl ?_
                           refine lp (v := .bool (decide (k2 < i2))) rfl rfl (run_bin rfl (vx := (.int .i64 ((k2 : Nat) : Int))) (vy := (.int .i64 ((i2 : Nat) : Int))) Tw.kr Tw.kr fun w => bn_lss rfl w) ?_
                           refine wpL_done (fun W25 hW25 => ?_)
                           change Code.wp ..
                           cases hd10 : (decide (k2 < i2)) with
                           | false =>
                             have h10 : ¬ (k2 < i2) := of_decide_eq_false hd10
                             clear hd10
                             refine wp_cond_false rfl ?_
                             refine wp_exit ?_
                             change Code.wp ..
                             refine wp_region_L _ hW25 ?_
                             refine lm (v := .int .i64 ((j : Nat) : Int)) rfl rfl ?_
                             refine lp (v := .int .i64 (((j + 1) : Nat) : Int)) rfl rfl (run_bin rfl (vx := (.int .i64 ((j : Nat) : Int))) (vy := (.int .i64 ((1 : Nat) : Int))) Tw.kr Tw.kr fun w => bn_add (z := (j + 1)) rfl (wr_i64 Tw.om) w) ?_
                             refine lm (v := .int .i64 (((j + 1) : Nat) : Int)) rfl rfl ?_
                             refine wpL_done (fun W26 hW26 => ?_)
                             go_roundw
                             case rel =>
                               repeat apply Exists.intro
                               exact ⟨⟨j + 1, y5, Tw.om, (by have g1 := inR_t h8; rw [hI, inc_step hy5, decide_eq_true (show z < y5 by omega), decide_eq_true (show y5 ≤ 30 by omega)]; rfl), (.inr ⟨by omega, by have g1 := inR_t h8; omega, by rw [Nat.add_sub_cancel]; exact hy5⟩), (free_s hFR hy5 h10 hM), rfl, (hW26.sub (fun p hp => by first | exact hp | (simp only [List.mem_cons, List.mem_append, List.nil_append, List.not_mem_nil, or_assoc, or_false, false_or] at hp ⊢ <;> grind)))⟩, rfl⟩
                             case measure => (show y2.rows.length - (intOf (.int .i64 (((j + 1) : Nat) : Int))).toNat < y2.rows.length - (intOf (.int .i64 ((j : Nat) : Int))).toNat); simp only [intOf]; omega
                           | true =>
                             have h10 : k2 < i2 := of_decide_eq_true hd10
                             clear hd10
                             refine wp_cond_true rfl ?_
                             refine wp_skip ?_
                             change Code.wp ..
                             refine wp_seq ?_
                             refine wp_block ?_
                             refine wp_seq ?_
                             refine wp_region_V _ Tw.kr hW25 ?_
                             refine vm (i := 0) (v := .pointer (some ⟨g1, 1, none⟩)) rfl rfl rfl ?_
                             refine vv (i := 1) (v := .slice po os.length co) rfl rfl rfl (yb_cell (off := 1) rfl Tw.kr Tw.m1 Tryd.underlying23 rfl Tw.kr) ?_
                             refine vm (i := 2) (v := .int .i64 ((k2 : Nat) : Int)) rfl rfl rfl ?_
                             obtain ⟨y6, g6_, f6_, hy6, hp6, hc6⟩ := RL.at (RL.base HO.out) covC_len (by decide) (hW25.sub (fun _ h => by cases h)) (k := k2) Tw.om
                             refine vp (i := 3) (v := .pointer (some ⟨g6_, f6_ + k2 * 2, none⟩)) rfl rfl rfl (run_idxQ (p := po) (cap := co) (n := os.length) (j := .i64) (k := k2) (sz := 2) rfl Tryd.underlying23 Tw.kr Tw.kr hp6 Tw.kr Tw.om) ?_
                             refine vm (i := 4) (v := .pointer (some ⟨g6_, f6_ + k2 * 2, none⟩)) rfl rfl rfl ?_
                             refine vb (i := 5) (v := .int .i64 y6.bay) rfl rfl rfl (yb_rf (v := .int .i64 y6.bay) rfl Tw.kr (fun W hW => hc6 W (hW.sub (fun _ h => by cases h)) 0 _ rfl) Tryd.underlying3 rfl) ?_
                             refine vm (i := 6) (v := .pointer (some ⟨g3, 0, none⟩)) rfl rfl rfl ?_
                             refine vv (i := 7) (v := .int .i64 y2.bay) rfl rfl rfl (yb_cell (off := 0) rfl Tw.kr Tw.m0 Tryd.underlying3 rfl Tw.kr) ?_
                             refine vp (i := 8) (v := .bool (decide (y6.bay = y2.bay))) rfl rfl rfl (run_bin rfl (vx := (.int .i64 y6.bay)) (vy := (.int .i64 y2.bay)) Tw.kr Tw.kr fun w => bi_eql rfl w) ?_
                             refine vm (i := 9) (v := .bool (decide (y6.bay = y2.bay))) rfl rfl rfl ?_
                             cases hd11 : (decide (y6.bay = y2.bay)) with
                             | false =>
                               have h11 : ¬ (y6.bay = y2.bay) := of_decide_eq_false hd11
                               clear hd11
                               refine vn (i := 10) rfl rfl ?_
                               refine vn (i := 11) rfl rfl ?_
                               refine vn (i := 12) rfl rfl ?_
                               refine vn (i := 13) rfl rfl ?_
                               refine vn (i := 14) rfl rfl ?_
                               refine vn (i := 15) rfl rfl ?_
                               refine vn (i := 16) rfl rfl ?_
                               refine vn (i := 17) rfl rfl ?_
                               refine vn (i := 18) rfl rfl ?_
                               refine vn (i := 19) rfl rfl ?_
                               refine vn (i := 20) rfl rfl ?_
                               refine vn (i := 21) rfl rfl ?_
                               refine vm (i := 22) (v := .bool false) rfl rfl rfl ?_
                               refine wpV_done Tw.kr (fun W27 hW27 => ?_) _
                               change Code.wp ..
                               refine wp_cond_false rfl ?_
                               refine wp_skip ?_
                               change Code.wp ..
                               refine wp_region_L _ hW27 ?_
                               refine lm (v := .int .i64 ((k2 : Nat) : Int)) rfl rfl ?_
                               refine lp (v := .int .i64 (((k2 + 1) : Nat) : Int)) rfl rfl (run_bin rfl (vx := (.int .i64 ((k2 : Nat) : Int))) (vy := (.int .i64 ((1 : Nat) : Int))) Tw.kr Tw.kr fun w => bn_add (z := (k2 + 1)) rfl (wr_i64 Tw.om) w) ?_
                               refine lm (v := .int .i64 (((k2 + 1) : Nat) : Int)) rfl rfl ?_
                               refine wpL_done (fun W28 hW28 => ?_)
                               go_roundw
                               case rel =>
                                 repeat apply Exists.intro
                                 exact ⟨⟨k2 + 1, Tw.om, (ne_s (P := fun z => z.bay = y2.bay ∧ hasN z.rows y5 = true) hM hy6 (fun e => by obtain ⟨g1, g2⟩ := e; simp_all)), rfl, (hW28.sub (fun p hp => by first | exact hp | (simp only [List.mem_cons, List.mem_append, List.nil_append, List.not_mem_nil, or_assoc, or_false, false_or] at hp ⊢ <;> grind)))⟩, rfl⟩
                               case measure => (show i2 - (intOf (.int .i64 (((k2 + 1) : Nat) : Int))).toNat < i2 - (intOf (.int .i64 ((k2 : Nat) : Int))).toNat); simp only [intOf]; omega
                             | true =>
                               have h11 : y6.bay = y2.bay := of_decide_eq_true hd11
                               clear hd11
                               refine vm (i := 10) (v := .pointer (some ⟨g1, 1, none⟩)) rfl rfl rfl ?_
                               refine vv (i := 11) (v := .slice po os.length co) rfl rfl rfl (yb_cell (off := 1) rfl Tw.kr Tw.m1 Tryd.underlying23 rfl Tw.kr) ?_
                               refine vm (i := 12) (v := .int .i64 ((k2 : Nat) : Int)) rfl rfl rfl ?_
                               refine vp (i := 13) (v := .pointer (some ⟨g6_, f6_ + k2 * 2, none⟩)) rfl rfl rfl (run_idxQ (p := po) (cap := co) (n := os.length) (j := .i64) (k := k2) (sz := 2) rfl Tryd.underlying23 Tw.kr Tw.kr hp6 Tw.kr Tw.om) ?_
                               refine vm (i := 14) (v := .pointer (some ⟨g6_, f6_ + k2 * 2 + 1, none⟩)) rfl rfl rfl ?_
                               refine vb (i := 15) (v := .slice y6.rp y6.rows.length y6.rc) rfl rfl rfl (yb_rf (v := .slice y6.rp y6.rows.length y6.rc) rfl Tw.kr (fun W hW => hc6 W (hW.sub (fun _ h => by cases h)) 1 _ rfl) Tryd.underlying63 rfl) ?_
                               refine vm (i := 16) (v := .pointer (some ⟨g3, 1, none⟩)) rfl rfl rfl ?_
                               refine vv (i := 17) (v := .slice y2.rp y2.rows.length y2.rc) rfl rfl rfl (yb_cell (off := 1) rfl Tw.kr Tw.m0 Tryd.underlying63 rfl Tw.kr) ?_
                               refine vm (i := 18) (v := .int .i64 ((j : Nat) : Int)) rfl rfl rfl ?_
                               refine vp (i := 19) (v := .pointer (some ⟨g5_, f5_ + j * 1, none⟩)) rfl rfl rfl (run_idxQ (p := y2.rp) (cap := y2.rc) (n := y2.rows.length) (j := .i64) (k := j) (sz := 1) rfl Tryd.underlying63 Tw.kr Tw.kr hp5 Tw.kr Tw.om) ?_
                               refine vb (i := 20) (v := .int .i64 y5) rfl rfl rfl (yb_rf (v := .int .i64 y5) rfl Tw.kr (fun W hW => hc5 W (hW.sub (fun _ h => by cases h)) 0 _ rfl) Tryd.underlying3 rfl) ?_
                               refine vv (i := 21) (v := .bool (hasN y6.rows y5)) rfl rfl rfl (yb_call (f := 102) (args := #[.slice y6.rp y6.rows.length y6.rc, .int .i64 y5]) Tw.kf fun W hW => inside_any y6.rows y6.rp y6.rc y5 (lr y6 (List.mem_of_getElem? hy6)) W ((RL.base (HR.out y6 (List.mem_of_getElem? hy6))) _ (hW.sub (fun _ h => by cases h)))) ?_
                               refine vm (i := 22) (v := .bool (hasN y6.rows y5)) rfl rfl rfl ?_
                               refine wpV_done Tw.kr (fun W29 hW29 => ?_) _
                               change Code.wp ..
                               cases h12 : (hasN y6.rows y5) with
                               | false =>
                                 refine wp_cond_false rfl ?_
                                 refine wp_skip ?_
                                 change Code.wp ..
                                 refine wp_region_L _ hW29 ?_
                                 refine lm (v := .int .i64 ((k2 : Nat) : Int)) rfl rfl ?_
                                 refine lp (v := .int .i64 (((k2 + 1) : Nat) : Int)) rfl rfl (run_bin rfl (vx := (.int .i64 ((k2 : Nat) : Int))) (vy := (.int .i64 ((1 : Nat) : Int))) Tw.kr Tw.kr fun w => bn_add (z := (k2 + 1)) rfl (wr_i64 Tw.om) w) ?_
                                 refine lm (v := .int .i64 (((k2 + 1) : Nat) : Int)) rfl rfl ?_
                                 refine wpL_done (fun W30 hW30 => ?_)
                                 go_roundw
                                 case rel =>
                                   repeat apply Exists.intro
                                   exact ⟨⟨k2 + 1, Tw.om, (ne_s (P := fun z => z.bay = y2.bay ∧ hasN z.rows y5 = true) hM hy6 (fun e => by obtain ⟨g1, g2⟩ := e; simp_all)), rfl, (hW30.sub (fun p hp => by first | exact hp | (simp only [List.mem_cons, List.mem_append, List.nil_append, List.not_mem_nil, or_assoc, or_false, false_or] at hp ⊢ <;> grind)))⟩, rfl⟩
                                 case measure => (show i2 - (intOf (.int .i64 (((k2 + 1) : Nat) : Int))).toNat < i2 - (intOf (.int .i64 ((k2 : Nat) : Int))).toNat); simp only [intOf]; omega
                               | true =>
                                 refine wp_cond_true rfl ?_
                                 refine wp_seq ?_
                                 refine wp_region_L _ hW29 ?_
                                 refine lm (v := .bool false) rfl rfl ?_
                                 refine wpL_done (fun W31 hW31 => ?_)
                                 change Code.wp ..
                                 refine wp_ret ?_
                                 try simp only [inBlock_ret, then_ret]
                                 refine bodyPost_ret (v := .bool false) ?_ rfl ?_
                                 · kernel_rfl
                                 · exact ⟨(bool_is (ov_dup_at hy6 hy2 h10 h11 h12 (List.mem_of_getElem? hy5)).symm), hW31.1⟩
                       | true =>
                         have h9 : 0 < j := of_decide_eq_true hd9
                         clear hd9
                         refine vm (i := 11) (v := .pointer (some ⟨g3, 1, none⟩)) rfl rfl rfl ?_
                         refine vv (i := 12) (v := .slice y2.rp y2.rows.length y2.rc) rfl rfl rfl (yb_cell (off := 1) rfl Tw.kr Tw.m0 Tryd.underlying63 rfl Tw.kr) ?_
                         refine vm (i := 13) (v := .int .i64 ((j : Nat) : Int)) rfl rfl rfl ?_
                         refine vp (i := 14) (v := .int .i64 (((j - 1) : Nat) : Int)) rfl rfl rfl (run_bin rfl (vx := (.int .i64 ((j : Nat) : Int))) (vy := (.int .i64 ((1 : Nat) : Int))) Tw.kr Tw.kr fun w => bn_sub (z := (j - 1)) rfl Tw.om (wr_i64 Tw.om) w) ?_
                         obtain ⟨y7, g7_, f7_, hy7, hp7, hc7⟩ := RL.at (RL.base (HR.out y2 (List.mem_of_getElem? hy2))) inC_len (by decide) (hW18.sub (fun _ h => by cases h)) (k := (j - 1)) Tw.om
                         have ez7 : y7 = z := by
                           rcases hz with ⟨h8, _⟩ | ⟨_, _, h8⟩
                           · omega
                           · rw [h8] at hy7; exact (Option.some.inj hy7).symm
                         refine vp (i := 15) (v := .pointer (some ⟨g7_, f7_ + (j - 1) * 1, none⟩)) rfl rfl rfl (run_idxQ (p := y2.rp) (cap := y2.rc) (n := y2.rows.length) (j := .i64) (k := (j - 1)) (sz := 1) rfl Tryd.underlying63 Tw.kr Tw.kr hp7 Tw.kr Tw.om) ?_
                         refine vb (i := 16) (v := .int .i64 y7) rfl rfl rfl (yb_rf (v := .int .i64 y7) rfl Tw.kr (fun W hW => hc7 W (hW.sub (fun _ h => by cases h)) 0 _ rfl) Tryd.underlying3 rfl) ?_
                         refine vm (i := 17) (v := .pointer (some ⟨g3, 1, none⟩)) rfl rfl rfl ?_
                         refine vv (i := 18) (v := .slice y2.rp y2.rows.length y2.rc) rfl rfl rfl (yb_cell (off := 1) rfl Tw.kr Tw.m0 Tryd.underlying63 rfl Tw.kr) ?_
                         refine vm (i := 19) (v := .int .i64 ((j : Nat) : Int)) rfl rfl rfl ?_
                         refine vp (i := 20) (v := .pointer (some ⟨g5_, f5_ + j * 1, none⟩)) rfl rfl rfl (run_idxQ (p := y2.rp) (cap := y2.rc) (n := y2.rows.length) (j := .i64) (k := j) (sz := 1) rfl Tryd.underlying63 Tw.kr Tw.kr hp5 Tw.kr Tw.om) ?_
                         refine vb (i := 21) (v := .int .i64 y5) rfl rfl rfl (yb_rf (v := .int .i64 y5) rfl Tw.kr (fun W hW => hc5 W (hW.sub (fun _ h => by cases h)) 0 _ rfl) Tryd.underlying3 rfl) ?_
                         refine vp (i := 22) (v := .bool (!(decide (y7 < y5)))) rfl rfl rfl (run_bin rfl (vx := (.int .i64 y7)) (vy := (.int .i64 y5)) Tw.kr Tw.kr fun w => bi_geq rfl w) ?_
                         refine vm (i := 23) (v := .bool (!(decide (y7 < y5)))) rfl rfl rfl ?_
                         refine vm (i := 24) (v := .bool (!(decide (y7 < y5)))) rfl rfl rfl ?_
                         refine wpV_done Tw.kr (fun W32 hW32 => ?_) _
                         change Code.wp ..
                         cases hd13 : (decide (y7 < y5)) with
                         | false =>
                           have h13 : ¬ (y7 < y5) := of_decide_eq_false hd13
                           clear hd13
                           refine wp_cond_true rfl ?_
                           refine wp_seq ?_
                           refine wp_region_L _ hW32 ?_
                           refine lm (v := .bool false) rfl rfl ?_
                           refine wpL_done (fun W33 hW33 => ?_)
                           change Code.wp ..
                           refine wp_ret ?_
                           try simp only [inBlock_ret, then_ret]
                           refine bodyPost_ret (v := .bool false) ?_ rfl ?_
                           · kernel_rfl
                           · exact ⟨(bool_is (ov_bad (List.mem_of_getElem? hy2) (ov_inc (by have g1 := inR_t h8; rw [hI, inc_step hy5]; by_cases g2 : z < y5 <;> by_cases g3 : y5 ≤ 30 <;> simp [g2, g3] <;> omega))).symm), hW33.1⟩
                         | true =>
                           have h13 : y7 < y5 := of_decide_eq_true hd13
                           clear hd13
                           refine wp_cond_false rfl ?_
                           refine wp_skip ?_
                           change Code.wp ..
                           refine wp_seq ?_
                           refine wp_region_L _ hW32 ?_
                           refine lm (v := .int .i64 0) rfl rfl ?_
                           refine wpL_done (fun W34 hW34 => ?_)
                           change Code.wp ..
                           refine wp_block ?_
                           go_loopw [8] (fun u8 wr => ∃ (k2 : Nat), (k2 ≤ i2) ∧ (∀ q z, q < k2 → os[q]? = some z → ¬ (z.bay = y2.bay ∧ hasN z.rows y5 = true)) ∧ u8 = .int .i64 ((k2 : Nat) : Int) ∧ KS w [(g3, .cells (covC y2).toArray 67 (0, 0)), (g1, .cells (shC (.slice pc cs.length cc) (.slice po os.length co) t).toArray 32 (0, 0))] wr) (fun u8 _ => i2 - (intOf u8).toNat)
                           case atStart => exact ⟨0, (Nat.zero_le _), (fun q z h => by omega), rfl, (hW34.sub (fun p hp => by first | exact hp | (simp only [List.mem_cons, List.mem_append, List.nil_append, List.not_mem_nil, or_assoc, or_false, false_or] at hp ⊢ <;> grind)))⟩
                           case round =>
                             obtain ⟨k2, hk2, hM, rfl, hL35⟩ := hrel
                             refine wp_seq ?_
                             refine wp_seq ?_
                             refine wp_region_L _ hL35 ?_
                             refine lm (v := .int .i64 ((k2 : Nat) : Int)) rfl rfl ?_
                             refine lm (v := .int .i64 ((i2 : Nat) : Int)) rfl rfl ?_
                             refine lp (v := .bool (decide (k2 < i2))) rfl rfl (run_bin rfl (vx := (.int .i64 ((k2 : Nat) : Int))) (vy := (.int .i64 ((i2 : Nat) : Int))) Tw.kr Tw.kr fun w => bn_lss rfl w) ?_
                             refine wpL_done (fun W36 hW36 => ?_)
                             change Code.wp ..
                             cases hd14 : (decide (k2 < i2)) with
                             | false =>
                               have h14 : ¬ (k2 < i2) := of_decide_eq_false hd14
                               clear hd14
                               refine wp_cond_false rfl ?_
                               refine wp_exit ?_
                               change Code.wp ..
                               refine wp_region_L _ hW36 ?_
                               refine lm (v := .int .i64 ((j : Nat) : Int)) rfl rfl ?_
                               refine lp (v := .int .i64 (((j + 1) : Nat) : Int)) rfl rfl (run_bin rfl (vx := (.int .i64 ((j : Nat) : Int))) (vy := (.int .i64 ((1 : Nat) : Int))) Tw.kr Tw.kr fun w => bn_add (z := (j + 1)) rfl (wr_i64 Tw.om) w) ?_
                               refine lm (v := .int .i64 (((j + 1) : Nat) : Int)) rfl rfl ?_
                               refine wpL_done (fun W37 hW37 => ?_)
                               go_roundw
                               case rel =>
                                 repeat apply Exists.intro
                                 exact ⟨⟨j + 1, y5, Tw.om, (by have g1 := inR_t h8; rw [hI, inc_step hy5, decide_eq_true (show z < y5 by omega), decide_eq_true (show y5 ≤ 30 by omega)]; rfl), (.inr ⟨by omega, by have g1 := inR_t h8; omega, by rw [Nat.add_sub_cancel]; exact hy5⟩), (free_s hFR hy5 h14 hM), rfl, (hW37.sub (fun p hp => by first | exact hp | (simp only [List.mem_cons, List.mem_append, List.nil_append, List.not_mem_nil, or_assoc, or_false, false_or] at hp ⊢ <;> grind)))⟩, rfl⟩
                               case measure => (show y2.rows.length - (intOf (.int .i64 (((j + 1) : Nat) : Int))).toNat < y2.rows.length - (intOf (.int .i64 ((j : Nat) : Int))).toNat); simp only [intOf]; omega
                             | true =>
                               have h14 : k2 < i2 := of_decide_eq_true hd14
                               clear hd14
                               refine wp_cond_true rfl ?_
                               refine wp_skip ?_
                               change Code.wp ..
                               refine wp_seq ?_
                               refine wp_block ?_
                               refine wp_seq ?_
                               refine wp_region_V _ Tw.kr hW36 ?_
                               refine vm (i := 0) (v := .pointer (some ⟨g1, 1, none⟩)) rfl rfl rfl ?_
                               refine vv (i := 1) (v := .slice po os.length co) rfl rfl rfl (yb_cell (off := 1) rfl Tw.kr Tw.m1 Tryd.underlying23 rfl Tw.kr) ?_
                               refine vm (i := 2) (v := .int .i64 ((k2 : Nat) : Int)) rfl rfl rfl ?_
                               obtain ⟨y8, g8_, f8_, hy8, hp8, hc8⟩ := RL.at (RL.base HO.out) covC_len (by decide) (hW36.sub (fun _ h => by cases h)) (k := k2) Tw.om
                               refine vp (i := 3) (v := .pointer (some ⟨g8_, f8_ + k2 * 2, none⟩)) rfl rfl rfl (run_idxQ (p := po) (cap := co) (n := os.length) (j := .i64) (k := k2) (sz := 2) rfl Tryd.underlying23 Tw.kr Tw.kr hp8 Tw.kr Tw.om) ?_
                               refine vm (i := 4) (v := .pointer (some ⟨g8_, f8_ + k2 * 2, none⟩)) rfl rfl rfl ?_
                               refine vb (i := 5) (v := .int .i64 y8.bay) rfl rfl rfl (yb_rf (v := .int .i64 y8.bay) rfl Tw.kr (fun W hW => hc8 W (hW.sub (fun _ h => by cases h)) 0 _ rfl) Tryd.underlying3 rfl) ?_
                               refine vm (i := 6) (v := .pointer (some ⟨g3, 0, none⟩)) rfl rfl rfl ?_
                               refine vv (i := 7) (v := .int .i64 y2.bay) rfl rfl rfl (yb_cell (off := 0) rfl Tw.kr Tw.m0 Tryd.underlying3 rfl Tw.kr) ?_
                               refine vp (i := 8) (v := .bool (decide (y8.bay = y2.bay))) rfl rfl rfl (run_bin rfl (vx := (.int .i64 y8.bay)) (vy := (.int .i64 y2.bay)) Tw.kr Tw.kr fun w => bi_eql rfl w) ?_
                               refine vm (i := 9) (v := .bool (decide (y8.bay = y2.bay))) rfl rfl rfl ?_
                               cases hd15 : (decide (y8.bay = y2.bay)) with
                               | false =>
                                 have h15 : ¬ (y8.bay = y2.bay) := of_decide_eq_false hd15
                                 clear hd15
                                 refine vn (i := 10) rfl rfl ?_
                                 refine vn (i := 11) rfl rfl ?_
                                 refine vn (i := 12) rfl rfl ?_
                                 refine vn (i := 13) rfl rfl ?_
                                 refine vn (i := 14) rfl rfl ?_
                                 refine vn (i := 15) rfl rfl ?_
                                 refine vn (i := 16) rfl rfl ?_
                                 refine vn (i := 17) rfl rfl ?_
                                 refine vn (i := 18) rfl rfl ?_
                                 refine vn (i := 19) rfl rfl ?_
                                 refine vn (i := 20) rfl rfl ?_
                                 refine vn (i := 21) rfl rfl ?_
                                 refine vm (i := 22) (v := .bool false) rfl rfl rfl ?_
                                 refine wpV_done Tw.kr (fun W38 hW38 => ?_) _
                                 change Code.wp ..
                                 refine wp_cond_false rfl ?_
                                 refine wp_skip ?_
                                 change Code.wp ..
                                 refine wp_region_L _ hW38 ?_
                                 refine lm (v := .int .i64 ((k2 : Nat) : Int)) rfl rfl ?_
                                 refine lp (v := .int .i64 (((k2 + 1) : Nat) : Int)) rfl rfl (run_bin rfl (vx := (.int .i64 ((k2 : Nat) : Int))) (vy := (.int .i64 ((1 : Nat) : Int))) Tw.kr Tw.kr fun w => bn_add (z := (k2 + 1)) rfl (wr_i64 Tw.om) w) ?_
                                 refine lm (v := .int .i64 (((k2 + 1) : Nat) : Int)) rfl rfl ?_
                                 refine wpL_done (fun W39 hW39 => ?_)
                                 go_roundw
                                 case rel =>
                                   repeat apply Exists.intro
                                   exact ⟨⟨k2 + 1, Tw.om, (ne_s (P := fun z => z.bay = y2.bay ∧ hasN z.rows y5 = true) hM hy8 (fun e => by obtain ⟨g1, g2⟩ := e; simp_all)), rfl, (hW39.sub (fun p hp => by first | exact hp | (simp only [List.mem_cons, List.mem_append, List.nil_append, List.not_mem_nil, or_assoc, or_false, false_or] at hp ⊢ <;> grind)))⟩, rfl⟩
                                 case measure => (show i2 - (intOf (.int .i64 (((k2 + 1) : Nat) : Int))).toNat < i2 - (intOf (.int .i64 ((k2 : Nat) : Int))).toNat); simp only [intOf]; omega
                               | true =>
                                 have h15 : y8.bay = y2.bay := of_decide_eq_true hd15
                                 clear hd15
                                 refine vm (i := 10) (v := .pointer (some ⟨g1, 1, none⟩)) rfl rfl rfl ?_
                                 refine vv (i := 11) (v := .slice po os.length co) rfl rfl rfl (yb_cell (off := 1) rfl Tw.kr Tw.m1 Tryd.underlying23 rfl Tw.kr) ?_
                                 refine vm (i := 12) (v := .int .i64 ((k2 : Nat) : Int)) rfl rfl rfl ?_
                                 refine vp (i := 13) (v := .pointer (some ⟨g8_, f8_ + k2 * 2, none⟩)) rfl rfl rfl (run_idxQ (p := po) (cap := co) (n := os.length) (j := .i64) (k := k2) (sz := 2) rfl Tryd.underlying23 Tw.kr Tw.kr hp8 Tw.kr Tw.om) ?_
                                 refine vm (i := 14) (v := .pointer (some ⟨g8_, f8_ + k2 * 2 + 1, none⟩)) rfl rfl rfl ?_
                                 refine vb (i := 15) (v := .slice y8.rp y8.rows.length y8.rc) rfl rfl rfl (yb_rf (v := .slice y8.rp y8.rows.length y8.rc) rfl Tw.kr (fun W hW => hc8 W (hW.sub (fun _ h => by cases h)) 1 _ rfl) Tryd.underlying63 rfl) ?_
                                 refine vm (i := 16) (v := .pointer (some ⟨g3, 1, none⟩)) rfl rfl rfl ?_
                                 refine vv (i := 17) (v := .slice y2.rp y2.rows.length y2.rc) rfl rfl rfl (yb_cell (off := 1) rfl Tw.kr Tw.m0 Tryd.underlying63 rfl Tw.kr) ?_
                                 refine vm (i := 18) (v := .int .i64 ((j : Nat) : Int)) rfl rfl rfl ?_
                                 refine vp (i := 19) (v := .pointer (some ⟨g5_, f5_ + j * 1, none⟩)) rfl rfl rfl (run_idxQ (p := y2.rp) (cap := y2.rc) (n := y2.rows.length) (j := .i64) (k := j) (sz := 1) rfl Tryd.underlying63 Tw.kr Tw.kr hp5 Tw.kr Tw.om) ?_
                                 refine vb (i := 20) (v := .int .i64 y5) rfl rfl rfl (yb_rf (v := .int .i64 y5) rfl Tw.kr (fun W hW => hc5 W (hW.sub (fun _ h => by cases h)) 0 _ rfl) Tryd.underlying3 rfl) ?_
                                 refine vv (i := 21) (v := .bool (hasN y8.rows y5)) rfl rfl rfl (yb_call (f := 102) (args := #[.slice y8.rp y8.rows.length y8.rc, .int .i64 y5]) Tw.kf fun W hW => inside_any y8.rows y8.rp y8.rc y5 (lr y8 (List.mem_of_getElem? hy8)) W ((RL.base (HR.out y8 (List.mem_of_getElem? hy8))) _ (hW.sub (fun _ h => by cases h)))) ?_
                                 refine vm (i := 22) (v := .bool (hasN y8.rows y5)) rfl rfl rfl ?_
                                 refine wpV_done Tw.kr (fun W40 hW40 => ?_) _
                                 change Code.wp ..
                                 cases h16 : (hasN y8.rows y5) with
                                 | false =>
                                   refine wp_cond_false rfl ?_
                                   refine wp_skip ?_
                                   change Code.wp ..
                                   refine wp_region_L _ hW40 ?_
                                   refine lm (v := .int .i64 ((k2 : Nat) : Int)) rfl rfl ?_
                                   refine lp (v := .int .i64 (((k2 + 1) : Nat) : Int)) rfl rfl (run_bin rfl (vx := (.int .i64 ((k2 : Nat) : Int))) (vy := (.int .i64 ((1 : Nat) : Int))) Tw.kr Tw.kr fun w => bn_add (z := (k2 + 1)) rfl (wr_i64 Tw.om) w) ?_
                                   refine lm (v := .int .i64 (((k2 + 1) : Nat) : Int)) rfl rfl ?_
                                   refine wpL_done (fun W41 hW41 => ?_)
                                   go_roundw
                                   case rel =>
                                     repeat apply Exists.intro
                                     exact ⟨⟨k2 + 1, Tw.om, (ne_s (P := fun z => z.bay = y2.bay ∧ hasN z.rows y5 = true) hM hy8 (fun e => by obtain ⟨g1, g2⟩ := e; simp_all)), rfl, (hW41.sub (fun p hp => by first | exact hp | (simp only [List.mem_cons, List.mem_append, List.nil_append, List.not_mem_nil, or_assoc, or_false, false_or] at hp ⊢ <;> grind)))⟩, rfl⟩
                                   case measure => (show i2 - (intOf (.int .i64 (((k2 + 1) : Nat) : Int))).toNat < i2 - (intOf (.int .i64 ((k2 : Nat) : Int))).toNat); simp only [intOf]; omega
                                 | true =>
                                   refine wp_cond_true rfl ?_
                                   refine wp_seq ?_
                                   refine wp_region_L _ hW40 ?_
                                   refine lm (v := .bool false) rfl rfl ?_
                                   refine wpL_done (fun W42 hW42 => ?_)
                                   change Code.wp ..
                                   refine wp_ret ?_
                                   try simp only [inBlock_ret, then_ret]
                                   refine bodyPost_ret (v := .bool false) ?_ rfl ?_
                                   · kernel_rfl
                                   · exact ⟨(bool_is (ov_dup_at hy8 hy2 h14 h15 h16 (List.mem_of_getElem? hy5)).symm), hW42.1⟩
               | true =>
                 have h6 : y2.rows.length = 0 := of_decide_eq_true hd6
                 clear hd6
                 refine wp_cond_true rfl ?_
                 refine wp_seq ?_
                 refine wp_region_L _ hW15 ?_
                 refine lm (v := .bool false) rfl rfl ?_
                 refine wpL_done (fun W43 hW43 => ?_)
                 change Code.wp ..
                 refine wp_ret ?_
                 try simp only [inBlock_ret, then_ret]
                 refine bodyPost_ret (v := .bool false) ?_ rfl ?_
                 · kernel_rfl
                 · exact ⟨(bool_is (ov_bad (List.mem_of_getElem? hy2) (ov_len h6)).symm), hW43.1⟩
       | true =>
         have h3 : i < cs.length := of_decide_eq_true hd3
         clear hd3
         refine wp_cond_true rfl ?_
         refine wp_skip ?_
         change Code.wp ..
         refine wp_seq ?_
         refine wp_block ?_
         refine wp_seq ?_
         refine wp_seq ?_
         refine wp_region_L _ hW7 ?_
         refine lm (v := .pointer (some ⟨g1, 0, none⟩)) rfl rfl ?_
         refine lv (v := .slice pc cs.length cc) rfl rfl (yb_cell (off := 0) rfl Tw.kr Tw.m0 Tryd.underlying22 rfl Tw.kr) ?_
         refine lm (v := .int .i64 ((i : Nat) : Int)) rfl rfl ?_
         obtain ⟨y9, g9_, f9_, hy9, hp9, hc9⟩ := RL.at (RL.base HC.out) colC_len (by decide) (hW7.sub (fun _ h => by cases h)) (k := i) Tw.om
         refine lp (v := .pointer (some ⟨g9_, f9_ + i * 12, none⟩)) rfl rfl (run_idxQ (p := pc) (cap := cc) (n := cs.length) (j := .i64) (k := i) (sz := 12) rfl Tryd.underlying22 Tw.kr Tw.kr hp9 Tw.kr Tw.om) ?_
         refine lv (v := .agg (colC y9).toArray) rfl rfl (yb_rs (off := f9_ + i * 12) (cs := colC y9) rfl Tw.kr (fun W hW => hc9 W (hW.sub (fun _ h => by cases h))) Tryd.underlying65 rfl Tw.kr) ?_
         refine lv (v := .bool (colX y9)) rfl rfl (yb_call (f := 101) (args := #[.agg (colC y9).toArray]) Tw.kf fun W hW => column_any y9 (lq y9 (List.mem_of_getElem? hy9)) W ((RL.base (HQ.out y9 (List.mem_of_getElem? hy9))) _ (hW.sub (fun _ h => by cases h)))) ?_
         refine lp (v := .bool (!(colX y9))) rfl rfl (run_un rfl Tw.kr fun w => un_not w) ?_
         refine wpL_done (fun W44 hW44 => ?_)
         change Code.wp ..
         cases h17 : (colX y9) with
         | false =>
           refine wp_cond_true rfl ?_
           refine wp_seq ?_
           refine wp_region_L _ hW44 ?_
           refine lm (v := .bool false) rfl rfl ?_
           refine wpL_done (fun W45 hW45 => ?_)
           change Code.wp ..
           refine wp_ret ?_
           try simp only [inBlock_ret, then_ret]
           refine bodyPost_ret (v := .bool false) ?_ rfl ?_
           · kernel_rfl
           · exact ⟨(bool_is (right_c (cols_f (List.mem_of_getElem? hy9) h17)).symm), hW45.1⟩
         | true =>
           refine wp_cond_false rfl ?_
           refine wp_skip ?_
           change Code.wp ..
           refine wp_seq ?_
           refine wp_region_L _ hW44 ?_
           refine lm (v := .int .i64 0) rfl rfl ?_
           refine wpL_done (fun W46 hW46 => ?_)
           change Code.wp ..
           refine wp_block ?_
           go_loopw [4] (fun u4 wr => ∃ (k : Nat), (k ≤ i) ∧ (∀ j z, j < k → cs[j]? = some z → placeX z ≠ placeX y9) ∧ u4 = .int .i64 ((k : Nat) : Int) ∧ KS w [(g1, .cells (shC (.slice pc cs.length cc) (.slice po os.length co) t).toArray 32 (0, 0))] wr) (fun u4 _ => i - (intOf u4).toNat)
           case atStart => exact ⟨0, (Nat.zero_le _), (fun j z h => by omega), rfl, (hW46.sub (fun p hp => by first | exact hp | (simp only [List.mem_cons, List.mem_append, List.nil_append, List.not_mem_nil, or_assoc, or_false, false_or] at hp ⊢ <;> grind)))⟩
           case round =>
             obtain ⟨k, hk, hN, rfl, hL47⟩ := hrel
             refine wp_seq ?_
             refine wp_seq ?_
             refine wp_region_L _ hL47 ?_
             refine lm (v := .int .i64 ((k : Nat) : Int)) rfl rfl ?_
             refine lm (v := .int .i64 ((i : Nat) : Int)) rfl rfl ?_
             refine lp (v := .bool (decide (k < i))) rfl rfl (run_bin rfl (vx := (.int .i64 ((k : Nat) : Int))) (vy := (.int .i64 ((i : Nat) : Int))) Tw.kr Tw.kr fun w => bn_lss rfl w) ?_
             refine wpL_done (fun W48 hW48 => ?_)
             change Code.wp ..
             cases hd18 : (decide (k < i)) with
             | false =>
               have h18 : ¬ (k < i) := of_decide_eq_false hd18
               clear hd18
               refine wp_cond_false rfl ?_
               refine wp_exit ?_
               change Code.wp ..
               refine wp_region_L _ hW48 ?_
               refine lm (v := .int .i64 ((i : Nat) : Int)) rfl rfl ?_
               refine lp (v := .int .i64 (((i + 1) : Nat) : Int)) rfl rfl (run_bin rfl (vx := (.int .i64 ((i : Nat) : Int))) (vy := (.int .i64 ((1 : Nat) : Int))) Tw.kr Tw.kr fun w => bn_add (z := (i + 1)) rfl (wr_i64 Tw.om) w) ?_
               refine lm (v := .int .i64 (((i + 1) : Nat) : Int)) rfl rfl ?_
               refine wpL_done (fun W49 hW49 => ?_)
               go_roundw
               case rel =>
                 repeat apply Exists.intro
                 exact ⟨⟨i + 1, Tw.om, (colsT_s hG hy9 h17 h18 hN), rfl, (hW49.sub (fun p hp => by first | exact hp | (simp only [List.mem_cons, List.mem_append, List.nil_append, List.not_mem_nil, or_assoc, or_false, false_or] at hp ⊢ <;> grind)))⟩, rfl⟩
               case measure => (show cs.length - (intOf (.int .i64 (((i + 1) : Nat) : Int))).toNat < cs.length - (intOf (.int .i64 ((i : Nat) : Int))).toNat); simp only [intOf]; omega
             | true =>
               have h18 : k < i := of_decide_eq_true hd18
               clear hd18
               refine wp_cond_true rfl ?_
               refine wp_skip ?_
               change Code.wp ..
               refine wp_seq ?_
               refine wp_block ?_
               refine wp_seq ?_
               refine wp_region_V _ Tw.kr hW48 ?_
               refine vm (i := 0) (v := .pointer (some ⟨g1, 0, none⟩)) rfl rfl rfl ?_
               refine vv (i := 1) (v := .slice pc cs.length cc) rfl rfl rfl (yb_cell (off := 0) rfl Tw.kr Tw.m0 Tryd.underlying22 rfl Tw.kr) ?_
               refine vm (i := 2) (v := .int .i64 ((k : Nat) : Int)) rfl rfl rfl ?_
               obtain ⟨y10, g10_, f10_, hy10, hp10, hc10⟩ := RL.at (RL.base HC.out) colC_len (by decide) (hW48.sub (fun _ h => by cases h)) (k := k) Tw.om
               refine vp (i := 3) (v := .pointer (some ⟨g10_, f10_ + k * 12, none⟩)) rfl rfl rfl (run_idxQ (p := pc) (cap := cc) (n := cs.length) (j := .i64) (k := k) (sz := 12) rfl Tryd.underlying22 Tw.kr Tw.kr hp10 Tw.kr Tw.om) ?_
               refine vm (i := 4) (v := .pointer (some ⟨g10_, f10_ + k * 12, none⟩)) rfl rfl rfl ?_
               refine vb (i := 5) (v := .int .i64 y10.bay) rfl rfl rfl (yb_rf (v := .int .i64 y10.bay) rfl Tw.kr (fun W hW => hc10 W (hW.sub (fun _ h => by cases h)) 0 _ rfl) Tryd.underlying3 rfl) ?_
               refine vm (i := 6) (v := .pointer (some ⟨g1, 0, none⟩)) rfl rfl rfl ?_
               refine vv (i := 7) (v := .slice pc cs.length cc) rfl rfl rfl (yb_cell (off := 0) rfl Tw.kr Tw.m0 Tryd.underlying22 rfl Tw.kr) ?_
               refine vm (i := 8) (v := .int .i64 ((i : Nat) : Int)) rfl rfl rfl ?_
               refine vp (i := 9) (v := .pointer (some ⟨g9_, f9_ + i * 12, none⟩)) rfl rfl rfl (run_idxQ (p := pc) (cap := cc) (n := cs.length) (j := .i64) (k := i) (sz := 12) rfl Tryd.underlying22 Tw.kr Tw.kr hp9 Tw.kr Tw.om) ?_
               refine vm (i := 10) (v := .pointer (some ⟨g9_, f9_ + i * 12, none⟩)) rfl rfl rfl ?_
               refine vb (i := 11) (v := .int .i64 y9.bay) rfl rfl rfl (yb_rf (v := .int .i64 y9.bay) rfl Tw.kr (fun W hW => hc9 W (hW.sub (fun _ h => by cases h)) 0 _ rfl) Tryd.underlying3 rfl) ?_
               refine vp (i := 12) (v := .bool (decide (y10.bay = y9.bay))) rfl rfl rfl (run_bin rfl (vx := (.int .i64 y10.bay)) (vy := (.int .i64 y9.bay)) Tw.kr Tw.kr fun w => bi_eql rfl w) ?_
               refine vm (i := 13) (v := .bool (decide (y10.bay = y9.bay))) rfl rfl rfl ?_
               cases hd19 : (decide (y10.bay = y9.bay)) with
               | false =>
                 have h19 : ¬ (y10.bay = y9.bay) := of_decide_eq_false hd19
                 clear hd19
                 refine vn (i := 14) rfl rfl ?_
                 refine vn (i := 15) rfl rfl ?_
                 refine vn (i := 16) rfl rfl ?_
                 refine vn (i := 17) rfl rfl ?_
                 refine vn (i := 18) rfl rfl ?_
                 refine vn (i := 19) rfl rfl ?_
                 refine vn (i := 20) rfl rfl ?_
                 refine vn (i := 21) rfl rfl ?_
                 refine vn (i := 22) rfl rfl ?_
                 refine vn (i := 23) rfl rfl ?_
                 refine vn (i := 24) rfl rfl ?_
                 refine vn (i := 25) rfl rfl ?_
                 refine vn (i := 26) rfl rfl ?_
                 refine vm (i := 27) (v := .bool false) rfl rfl rfl ?_
                 refine vm (i := 28) (v := .bool false) rfl rfl rfl ?_
                 refine vn (i := 29) rfl rfl ?_
                 refine vn (i := 30) rfl rfl ?_
                 refine vn (i := 31) rfl rfl ?_
                 refine vn (i := 32) rfl rfl ?_
                 refine vn (i := 33) rfl rfl ?_
                 refine vn (i := 34) rfl rfl ?_
                 refine vn (i := 35) rfl rfl ?_
                 refine vn (i := 36) rfl rfl ?_
                 refine vn (i := 37) rfl rfl ?_
                 refine vn (i := 38) rfl rfl ?_
                 refine vn (i := 39) rfl rfl ?_
                 refine vn (i := 40) rfl rfl ?_
                 refine vn (i := 41) rfl rfl ?_
                 refine vm (i := 42) (v := .bool false) rfl rfl rfl ?_
                 refine wpV_done Tw.kr (fun W50 hW50 => ?_) _
                 change Code.wp ..
                 refine wp_cond_false rfl ?_
                 refine wp_skip ?_
                 change Code.wp ..
                 refine wp_region_L _ hW50 ?_
                 refine lm (v := .int .i64 ((k : Nat) : Int)) rfl rfl ?_
                 refine lp (v := .int .i64 (((k + 1) : Nat) : Int)) rfl rfl (run_bin rfl (vx := (.int .i64 ((k : Nat) : Int))) (vy := (.int .i64 ((1 : Nat) : Int))) Tw.kr Tw.kr fun w => bn_add (z := (k + 1)) rfl (wr_i64 Tw.om) w) ?_
                 refine lm (v := .int .i64 (((k + 1) : Nat) : Int)) rfl rfl ?_
                 refine wpL_done (fun W51 hW51 => ?_)
                 go_roundw
                 case rel =>
                   repeat apply Exists.intro
                   exact ⟨⟨k + 1, Tw.om, (ne_c hN hy10 (fun e => by obtain ⟨g1, g2, g3⟩ := place_inj e; simp_all)), rfl, (hW51.sub (fun p hp => by first | exact hp | (simp only [List.mem_cons, List.mem_append, List.nil_append, List.not_mem_nil, or_assoc, or_false, false_or] at hp ⊢ <;> grind)))⟩, rfl⟩
                 case measure => (show i - (intOf (.int .i64 (((k + 1) : Nat) : Int))).toNat < i - (intOf (.int .i64 ((k : Nat) : Int))).toNat); simp only [intOf]; omega
               | true =>
                 have h19 : y10.bay = y9.bay := of_decide_eq_true hd19
                 clear hd19
                 refine vm (i := 14) (v := .pointer (some ⟨g1, 0, none⟩)) rfl rfl rfl ?_
                 refine vv (i := 15) (v := .slice pc cs.length cc) rfl rfl rfl (yb_cell (off := 0) rfl Tw.kr Tw.m0 Tryd.underlying22 rfl Tw.kr) ?_
                 refine vm (i := 16) (v := .int .i64 ((k : Nat) : Int)) rfl rfl rfl ?_
                 refine vp (i := 17) (v := .pointer (some ⟨g10_, f10_ + k * 12, none⟩)) rfl rfl rfl (run_idxQ (p := pc) (cap := cc) (n := cs.length) (j := .i64) (k := k) (sz := 12) rfl Tryd.underlying22 Tw.kr Tw.kr hp10 Tw.kr Tw.om) ?_
                 refine vm (i := 18) (v := .pointer (some ⟨g10_, f10_ + k * 12 + 1, none⟩)) rfl rfl rfl ?_
                 refine vb (i := 19) (v := .int .i64 y10.row) rfl rfl rfl (yb_rf (v := .int .i64 y10.row) rfl Tw.kr (fun W hW => hc10 W (hW.sub (fun _ h => by cases h)) 1 _ rfl) Tryd.underlying3 rfl) ?_
                 refine vm (i := 20) (v := .pointer (some ⟨g1, 0, none⟩)) rfl rfl rfl ?_
                 refine vv (i := 21) (v := .slice pc cs.length cc) rfl rfl rfl (yb_cell (off := 0) rfl Tw.kr Tw.m0 Tryd.underlying22 rfl Tw.kr) ?_
                 refine vm (i := 22) (v := .int .i64 ((i : Nat) : Int)) rfl rfl rfl ?_
                 refine vp (i := 23) (v := .pointer (some ⟨g9_, f9_ + i * 12, none⟩)) rfl rfl rfl (run_idxQ (p := pc) (cap := cc) (n := cs.length) (j := .i64) (k := i) (sz := 12) rfl Tryd.underlying22 Tw.kr Tw.kr hp9 Tw.kr Tw.om) ?_
                 refine vm (i := 24) (v := .pointer (some ⟨g9_, f9_ + i * 12 + 1, none⟩)) rfl rfl rfl ?_
                 refine vb (i := 25) (v := .int .i64 y9.row) rfl rfl rfl (yb_rf (v := .int .i64 y9.row) rfl Tw.kr (fun W hW => hc9 W (hW.sub (fun _ h => by cases h)) 1 _ rfl) Tryd.underlying3 rfl) ?_
                 refine vp (i := 26) (v := .bool (decide (y10.row = y9.row))) rfl rfl rfl (run_bin rfl (vx := (.int .i64 y10.row)) (vy := (.int .i64 y9.row)) Tw.kr Tw.kr fun w => bi_eql rfl w) ?_
                 refine vm (i := 27) (v := .bool (decide (y10.row = y9.row))) rfl rfl rfl ?_
                 refine vm (i := 28) (v := .bool (decide (y10.row = y9.row))) rfl rfl rfl ?_
                 cases hd20 : (decide (y10.row = y9.row)) with
                 | false =>
                   have h20 : ¬ (y10.row = y9.row) := of_decide_eq_false hd20
                   clear hd20
                   refine vn (i := 29) rfl rfl ?_
                   refine vn (i := 30) rfl rfl ?_
                   refine vn (i := 31) rfl rfl ?_
                   refine vn (i := 32) rfl rfl ?_
                   refine vn (i := 33) rfl rfl ?_
                   refine vn (i := 34) rfl rfl ?_
                   refine vn (i := 35) rfl rfl ?_
                   refine vn (i := 36) rfl rfl ?_
                   refine vn (i := 37) rfl rfl ?_
                   refine vn (i := 38) rfl rfl ?_
                   refine vn (i := 39) rfl rfl ?_
                   refine vn (i := 40) rfl rfl ?_
                   refine vn (i := 41) rfl rfl ?_
                   refine vm (i := 42) (v := .bool false) rfl rfl rfl ?_
                   refine wpV_done Tw.kr (fun W52 hW52 => ?_) _
                   change Code.wp ..
                   refine wp_cond_false rfl ?_
                   refine wp_skip ?_
                   change Code.wp ..
                   refine wp_region_L _ hW52 ?_
                   refine lm (v := .int .i64 ((k : Nat) : Int)) rfl rfl ?_
                   refine lp (v := .int .i64 (((k + 1) : Nat) : Int)) rfl rfl (run_bin rfl (vx := (.int .i64 ((k : Nat) : Int))) (vy := (.int .i64 ((1 : Nat) : Int))) Tw.kr Tw.kr fun w => bn_add (z := (k + 1)) rfl (wr_i64 Tw.om) w) ?_
                   refine lm (v := .int .i64 (((k + 1) : Nat) : Int)) rfl rfl ?_
                   refine wpL_done (fun W53 hW53 => ?_)
                   go_roundw
                   case rel =>
                     repeat apply Exists.intro
                     exact ⟨⟨k + 1, Tw.om, (ne_c hN hy10 (fun e => by obtain ⟨g1, g2, g3⟩ := place_inj e; simp_all)), rfl, (hW53.sub (fun p hp => by first | exact hp | (simp only [List.mem_cons, List.mem_append, List.nil_append, List.not_mem_nil, or_assoc, or_false, false_or] at hp ⊢ <;> grind)))⟩, rfl⟩
                   case measure => (show i - (intOf (.int .i64 (((k + 1) : Nat) : Int))).toNat < i - (intOf (.int .i64 ((k : Nat) : Int))).toNat); simp only [intOf]; omega
                 | true =>
                   have h20 : y10.row = y9.row := of_decide_eq_true hd20
                   clear hd20
                   refine vm (i := 29) (v := .pointer (some ⟨g1, 0, none⟩)) rfl rfl rfl ?_
                   refine vv (i := 30) (v := .slice pc cs.length cc) rfl rfl rfl (yb_cell (off := 0) rfl Tw.kr Tw.m0 Tryd.underlying22 rfl Tw.kr) ?_
                   refine vm (i := 31) (v := .int .i64 ((k : Nat) : Int)) rfl rfl rfl ?_
                   refine vp (i := 32) (v := .pointer (some ⟨g10_, f10_ + k * 12, none⟩)) rfl rfl rfl (run_idxQ (p := pc) (cap := cc) (n := cs.length) (j := .i64) (k := k) (sz := 12) rfl Tryd.underlying22 Tw.kr Tw.kr hp10 Tw.kr Tw.om) ?_
                   refine vm (i := 33) (v := .pointer (some ⟨g10_, f10_ + k * 12 + 2, none⟩)) rfl rfl rfl ?_
                   refine vb (i := 34) (v := .bool y10.deck) rfl rfl rfl (yb_rf (v := .bool y10.deck) rfl Tw.kr (fun W hW => hc10 W (hW.sub (fun _ h => by cases h)) 2 _ rfl) Tryd.underlying4 rfl) ?_
                   refine vm (i := 35) (v := .pointer (some ⟨g1, 0, none⟩)) rfl rfl rfl ?_
                   refine vv (i := 36) (v := .slice pc cs.length cc) rfl rfl rfl (yb_cell (off := 0) rfl Tw.kr Tw.m0 Tryd.underlying22 rfl Tw.kr) ?_
                   refine vm (i := 37) (v := .int .i64 ((i : Nat) : Int)) rfl rfl rfl ?_
                   refine vp (i := 38) (v := .pointer (some ⟨g9_, f9_ + i * 12, none⟩)) rfl rfl rfl (run_idxQ (p := pc) (cap := cc) (n := cs.length) (j := .i64) (k := i) (sz := 12) rfl Tryd.underlying22 Tw.kr Tw.kr hp9 Tw.kr Tw.om) ?_
                   refine vm (i := 39) (v := .pointer (some ⟨g9_, f9_ + i * 12 + 2, none⟩)) rfl rfl rfl ?_
                   refine vb (i := 40) (v := .bool y9.deck) rfl rfl rfl (yb_rf (v := .bool y9.deck) rfl Tw.kr (fun W hW => hc9 W (hW.sub (fun _ h => by cases h)) 2 _ rfl) Tryd.underlying4 rfl) ?_
                   refine vp (i := 41) (v := .bool (y10.deck == y9.deck)) rfl rfl rfl (run_bin rfl (vx := .bool y10.deck) (vy := .bool y9.deck) Tw.kr Tw.kr fun w => bn_bool_eql rfl Tryd.underlying4 w) ?_
                   refine vm (i := 42) (v := .bool (y10.deck == y9.deck)) rfl rfl rfl ?_
                   refine wpV_done Tw.kr (fun W54 hW54 => ?_) _
                   change Code.wp ..
                   cases h21 : (y10.deck == y9.deck) with
                   | false =>
                     refine wp_cond_false rfl ?_
                     refine wp_skip ?_
                     change Code.wp ..
                     refine wp_region_L _ hW54 ?_
                     refine lm (v := .int .i64 ((k : Nat) : Int)) rfl rfl ?_
                     refine lp (v := .int .i64 (((k + 1) : Nat) : Int)) rfl rfl (run_bin rfl (vx := (.int .i64 ((k : Nat) : Int))) (vy := (.int .i64 ((1 : Nat) : Int))) Tw.kr Tw.kr fun w => bn_add (z := (k + 1)) rfl (wr_i64 Tw.om) w) ?_
                     refine lm (v := .int .i64 (((k + 1) : Nat) : Int)) rfl rfl ?_
                     refine wpL_done (fun W55 hW55 => ?_)
                     go_roundw
                     case rel =>
                       repeat apply Exists.intro
                       exact ⟨⟨k + 1, Tw.om, (ne_c hN hy10 (fun e => by obtain ⟨g1, g2, g3⟩ := place_inj e; simp_all)), rfl, (hW55.sub (fun p hp => by first | exact hp | (simp only [List.mem_cons, List.mem_append, List.nil_append, List.not_mem_nil, or_assoc, or_false, false_or] at hp ⊢ <;> grind)))⟩, rfl⟩
                     case measure => (show i - (intOf (.int .i64 (((k + 1) : Nat) : Int))).toNat < i - (intOf (.int .i64 ((k : Nat) : Int))).toNat); simp only [intOf]; omega
                   | true =>
                     refine wp_cond_true rfl ?_
                     refine wp_seq ?_
                     refine wp_region_L _ hW54 ?_
                     refine lm (v := .bool false) rfl rfl ?_
                     refine wpL_done (fun W56 hW56 => ?_)
                     change Code.wp ..
                     refine wp_ret ?_
                     try simp only [inBlock_ret, then_ret]
                     refine bodyPost_ret (v := .bool false) ?_ rfl ?_
                     · kernel_rfl
                     · exact ⟨(bool_is (dup_at hy10 hy9 h18 (place_eq h19 h20 (by simpa using h21))).symm), hW56.1⟩
   | true =>
     have h2 : 40 < os.length := of_decide_eq_true hd2
     clear hd2
     refine wp_cond_true rfl ?_
     refine wp_seq ?_
     refine wp_region_L _ hW4 ?_
     refine lm (v := .bool false) rfl rfl ?_
     refine wpL_done (fun W57 hW57 => ?_)
     change Code.wp ..
     refine wp_ret ?_
     try simp only [inBlock_ret, then_ret]
     refine bodyPost_ret (v := .bool false) ?_ rfl ?_
     · kernel_rfl
     · exact ⟨(bool_is (many_bad h2).symm), hW57.1⟩
end Go.Proofs.YtlinjngifacmoaaDoor
namespace Go.Proofs.YtlinjngifacmoaaDoor
open Go Go.RowKit Tw
set_option maxRecDepth 100000 in
set_option maxHeartbeats 4000000 in
theorem R8Name_any (cs : List Col) (pc : Option Addr) (cc : Nat) (lc : cs.length ≤ 4000000000) (os : List Cov) (po : Option Addr) (co : Nat) (lo : os.length ≤ 4000000000) (t : Tl) (xc xt : Int) (xh : Nat) (w : World) (hc : SLV w pc (cs.flatMap colC)) (ho : SLV w po (os.flatMap covC)) (hr : RwR w os) (lr : ∀ o ∈ os, o.rows.length ≤ 4000000000) (hq : PlR w cs) (lq : ∀ c ∈ cs, c.plugs.length ≤ 4000000000) : Calls Tryd.prog 30 #[.agg (shC (.slice pc cs.length cc) (.slice po os.length co) t).toArray, .agg #[.int .i64 xc, .int .i64 xt, .int .u8 ((xh : Nat) : Int)]] w fun e w' => e = .returned (.tuple #[strV (nameR cs os (⟨xc, xt, xh⟩ : Slt)).1, .int .i64 (((nameR cs os (⟨xc, xt, xh⟩ : Slt)).2 : Nat) : Int)]) ∧ Below w.heap.size w w' := by
 have HC := Lib.hid hc
 clear hc
 have HO := Lib.hid ho
 clear ho
 have HR := Lib.hid hr
 clear hr
 have HQ := Lib.hid hq
 clear hq
 go_enter Tryd.func30, Tryd.ntmps30
 refine wp_seq ?_
 refine wp_region_L [] (KS.start w) ?_
 refine wpL_new (fun g => .pointer (some ⟨g, 0, none⟩)) (obi := .cells (shC (.slice pc cs.length cc) (.slice po os.length co) t).toArray 32 (0, 0)) rfl rfl Tw.kf Tw.pf fun g1 Bg1 Fg1 => ?_
 refine wpL_new (fun g => .pointer (some ⟨g, 0, none⟩)) (obi := .cells #[.int .i64 xc, .int .i64 xt, .int .u8 ((xh : Nat) : Int)] 34 (0, 0)) rfl rfl Tw.kf Tw.pf fun g2 Bg2 Fg2 => ?_
 obtain dj3_0 : g1 ≠ g2 := Tw.dkf Fg2
 refine lm (v := strV []) rfl rfl ?_
 refine lm (v := .int .i64 0) rfl rfl ?_
 refine wpL_done (fun W1 hW1 => ?_)
 change Code.wp ..
 refine wp_seq ?_
 refine wp_seq ?_
 refine wp_region_L _ hW1 ?_
 refine lv (v := .agg (shC (.slice pc cs.length cc) (.slice po os.length co) t).toArray) rfl rfl (yb_load (n := 13) (off := 0) rfl Tw.kr Tw.m1 Tryd.underlying32 rfl Tw.kr (by first | (simp [Value.cells]; done) | exact Nat.le_of_ble_eq_true rfl) Tw.kr) ?_
 refine lv (v := .bool (rightX cs os)) rfl rfl (yb_call (f := 68) (args := #[.agg (shC (.slice pc cs.length cc) (.slice po os.length co) t).toArray]) Tw.kf fun W hW => RRight_any cs pc cc Tw.om os po co Tw.om t W ((RL.base HC.out) _ (hW.sub (fun _ h => by cases h))) ((RL.base HO.out) _ (hW.sub (fun _ h => by cases h))) (HR.out.keep hW.1) lr (HQ.out.keep hW.1) lq) ?_
 refine lp (v := .bool (!(rightX cs os))) rfl rfl (run_un rfl Tw.kr fun w => un_not w) ?_
 refine wpL_done (fun W2 hW2 => ?_)
 change Code.wp ..
 cases h1 : (rightX cs os) with
 | false =>
   refine wp_cond_true rfl ?_
   refine wp_seq ?_
   refine wp_region_L _ hW2 ?_
   refine lm (v := strV []) rfl rfl ?_
   refine lm (v := .int .i64 2) rfl rfl ?_
   refine wpL_done (fun W3 hW3 => ?_)
   change Code.wp ..
   refine wp_ret ?_
   try simp only [inBlock_ret, then_ret]
   refine bodyPost_ret (v := .tuple #[strV [], .int .i64 2]) ?_ rfl ?_
   · kernel_rfl
   · exact ⟨(si_is (by unfold nameR; rw [if_neg (by rw [h1]; decide)])), hW3.1⟩
 | true =>
   refine wp_cond_false rfl ?_
   refine wp_skip ?_
   change Code.wp ..
   refine wp_seq ?_
   refine wp_seq ?_
   refine wp_region_L _ hW2 ?_
   refine lv (v := .agg (shC (.slice pc cs.length cc) (.slice po os.length co) t).toArray) rfl rfl (yb_load (n := 13) (off := 0) rfl Tw.kr Tw.m1 Tryd.underlying32 rfl Tw.kr (by first | (simp [Value.cells]; done) | exact Nat.le_of_ble_eq_true rfl) Tw.kr) ?_
   refine lv (v := .agg #[.int .i64 xc, .int .i64 xt, .int .u8 ((xh : Nat) : Int)]) rfl rfl (yb_load (n := 3) (off := 0) rfl Tw.kr Tw.m0 Tryd.underlying34 rfl Tw.kr (by first | (simp [Value.cells]; done) | exact Nat.le_of_ble_eq_true rfl) Tw.kr) ?_
   refine lv (v := .bool (rightS cs (⟨xc, xt, xh⟩ : Slt) 20)) rfl rfl (yb_call (f := 15) (args := #[.agg (shC (.slice pc cs.length cc) (.slice po os.length co) t).toArray, .agg #[.int .i64 xc, .int .i64 xt, .int .u8 ((xh : Nat) : Int)], .int .i64 20]) Tw.kf fun W hW => R8Right_any cs pc cc Tw.om os po co Tw.om t xc xt xh 20 W ((RL.base HC.out) _ (hW.sub (fun _ h => by cases h))) ((RL.base HO.out) _ (hW.sub (fun _ h => by cases h)))) ?_
   refine lp (v := .bool (!(rightS cs (⟨xc, xt, xh⟩ : Slt) 20))) rfl rfl (run_un rfl Tw.kr fun w => un_not w) ?_
   refine lm (v := .bool (!(rightS cs (⟨xc, xt, xh⟩ : Slt) 20))) rfl rfl ?_
   cases h2 : (rightS cs (⟨xc, xt, xh⟩ : Slt) 20) with
   | false =>
     refine lv (v := .agg (shC (.slice pc cs.length cc) (.slice po os.length co) t).toArray) rfl rfl (yb_load (n := 13) (off := 0) rfl Tw.kr Tw.m1 Tryd.underlying32 rfl Tw.kr (by first | (simp [Value.cells]; done) | exact Nat.le_of_ble_eq_true rfl) Tw.kr) ?_
     refine lv (v := .agg #[.int .i64 xc, .int .i64 xt, .int .u8 ((xh : Nat) : Int)]) rfl rfl (yb_load (n := 3) (off := 0) rfl Tw.kr Tw.m0 Tryd.underlying34 rfl Tw.kr (by first | (simp [Value.cells]; done) | exact Nat.le_of_ble_eq_true rfl) Tw.kr) ?_
     refine lv (v := .bool (rightS cs (⟨xc, xt, xh⟩ : Slt) 40)) rfl rfl (yb_call (f := 15) (args := #[.agg (shC (.slice pc cs.length cc) (.slice po os.length co) t).toArray, .agg #[.int .i64 xc, .int .i64 xt, .int .u8 ((xh : Nat) : Int)], .int .i64 40]) Tw.kf fun W hW => R8Right_any cs pc cc Tw.om os po co Tw.om t xc xt xh 40 W ((RL.base HC.out) _ (hW.sub (fun _ h => by cases h))) ((RL.base HO.out) _ (hW.sub (fun _ h => by cases h)))) ?_
     refine lp (v := .bool (!(rightS cs (⟨xc, xt, xh⟩ : Slt) 40))) rfl rfl (run_un rfl Tw.kr fun w => un_not w) ?_
     refine lm (v := .bool (!(rightS cs (⟨xc, xt, xh⟩ : Slt) 40))) rfl rfl ?_
     refine wpL_done (fun W4 hW4 => ?_)
     change Code.wp ..
     cases h3 : (rightS cs (⟨xc, xt, xh⟩ : Slt) 40) with
     | false =>
       refine wp_cond_true rfl ?_
       refine wp_seq ?_
       refine wp_region_L _ hW4 ?_
       refine lm (v := strV []) rfl rfl ?_
       refine lm (v := .int .i64 6) rfl rfl ?_
       refine wpL_done (fun W5 hW5 => ?_)
       change Code.wp ..
       refine wp_ret ?_
       try simp only [inBlock_ret, then_ret]
       refine bodyPost_ret (v := .tuple #[strV [], .int .i64 6]) ?_ rfl ?_
       · kernel_rfl
       · exact ⟨(si_is (by unfold nameR; rw [if_pos h1, if_neg (by unfold isSlot; rw [h2, h3]; decide)])), hW5.1⟩
     | true =>
       refine wp_cond_false rfl ?_
       refine wp_skip ?_
       change Code.wp ..
       refine wp_seq ?_
       have hiS := (show isSlot cs (⟨xc, xt, xh⟩ : Slt) = true from by unfold isSlot; rw [h2, h3] <;> rfl)
       obtain ⟨m, y, hm, hy, ht0, ht1, hh2⟩ := slot_at hiS
       simp only at hm ht0 ht1 hh2
       subst hm
       obtain ⟨hi1, hi2, hi3⟩ := slot_in h1 hy ht0 ht1
       have hml := (List.getElem?_eq_some_iff.1 hy).1
       obtain ⟨tn, htn⟩ := Int.eq_ofNat_of_zero_le ht0
       subst htn
       obtain ⟨bn, rn, zc, hyz, hzd⟩ := col_nat hi1.1 hi2.1
       subst hyz
       have hbb : bn ≤ 39 := by have h9 := hi1.2; simp only [colN] at h9; omega
       have hrr : rn ≤ 30 := by have h9 := hi2.2; simp only [colN] at h9; omega
       have htt9 : tn ≤ 9 := by omega
       refine wp_region_L _ hW4 ?_
       refine lm (v := .pointer (some ⟨g1, 0, none⟩)) rfl rfl ?_
       refine lv (v := .slice pc cs.length cc) rfl rfl (yb_cell (off := 0) rfl Tw.kr Tw.m1 Tryd.underlying22 rfl Tw.kr) ?_
       refine lm (v := .pointer (some ⟨g2, 0, none⟩)) rfl rfl ?_
       refine lv (v := .int .i64 ((m : Nat) : Int)) rfl rfl (yb_cell (off := 0) rfl Tw.kr Tw.m0 Tryd.underlying3 rfl Tw.kr) ?_
       obtain ⟨y4, g4_, f4_, hy4, hp4, hc4⟩ := RL.at (RL.base HC.out) colC_len (by decide) (hW4.sub (fun _ h => by cases h)) (k := m) Tw.om
       have ey4 : colN bn rn zc = y4 := by rw [hy] at hy4; exact Option.some.inj hy4
       subst ey4
       refine lp (v := .pointer (some ⟨g4_, f4_ + m * 12, none⟩)) rfl rfl (run_idxQ (p := pc) (cap := cc) (n := cs.length) (j := .i64) (k := m) (sz := 12) rfl Tryd.underlying22 Tw.kr Tw.kr hp4 Tw.kr Tw.om) ?_
       refine lv (v := .agg (colC (colN bn rn zc)).toArray) rfl rfl (yb_rs (off := f4_ + m * 12) (cs := colC (colN bn rn zc)) rfl Tw.kr (fun W hW => hc4 W (hW.sub (fun _ h => by cases h))) Tryd.underlying65 rfl Tw.kr) ?_
       refine wpL_new (fun g => .pointer (some ⟨g, 0, none⟩)) (obi := .cells #[.int .i64 0, .int .i64 0, .bool false, .int .i64 0, .int .i64 0, .int .i64 0, .int .i64 0, .int .i64 0, .slice none 0 0, .int .i64 0, .int .i64 0, .int .i64 0] 65 (0, 0)) rfl rfl Tw.kf Tw.pf fun g5 Bg5 Fg5 => ?_
       obtain ⟨dj6_0, dj6_1⟩ : g2 ≠ g5 ∧ g1 ≠ g5 := Tw.dkf Fg5
       refine wpL_s [(g5, .cells (colC (colN bn rn zc)).toArray 65 (0, 0)), (g2, .cells #[.int .i64 ((m : Nat) : Int), .int .i64 ((tn : Nat) : Int), .int .u8 ((xh : Nat) : Int)] 34 (0, 0)), (g1, .cells (shC (.slice pc cs.length cc) (.slice po os.length co) t).toArray 32 (0, 0))] rfl rfl (st_row (off := 0) (v := .agg (colC (colN bn rn zc)).toArray) rfl Tw.kr Tw.kr Tw.m0 Bg5 Tw.kr (by first | (simp [Value.cells]; done) | exact Nat.le_of_ble_eq_true rfl) (fun v hv => colC_one (colN bn rn zc) v hv) Tw.kr (List.forall_mem_cons.2 ⟨.inl rfl, (List.forall_mem_cons.2 ⟨.inr ⟨Tw.m1, Tw.nee⟩, (List.forall_mem_cons.2 ⟨.inr ⟨Tw.m2, Tw.nee⟩, (List.forall_mem_nil _)⟩)⟩)⟩)) ?_
       refine wpL_done (fun W6 hW6 => ?_)
       change Code.wp ..
       refine wp_seq ?_
       refine wp_region_L _ hW6 ?_
       refine lm (v := .pointer (some ⟨g5, 0, none⟩)) rfl rfl ?_
       refine lv (v := .int .i64 ((bn : Nat) : Int)) rfl rfl (yb_cell (off := 0) (v := .int .i64 ((bn : Nat) : Int)) rfl Tw.kr Tw.m0 Tryd.underlying3 rfl Tw.kr) ?_
       refine lp (v := .int .i64 (((4 * bn) : Nat) : Int)) rfl rfl (run_bin rfl (vx := (.int .i64 ((4 : Nat) : Int))) (vy := (.int .i64 ((bn : Nat) : Int))) Tw.kr Tw.kr fun w => bn_mul (z := (4 * bn)) rfl (wr_i64 Tw.om) w) ?_
       refine lp (v := .int .i64 ((((4 * bn) + 2) : Nat) : Int)) rfl rfl (run_bin rfl (vx := (.int .i64 (((4 * bn) : Nat) : Int))) (vy := (.int .i64 ((2 : Nat) : Int))) Tw.kr Tw.kr fun w => bn_add (z := ((4 * bn) + 2)) rfl (wr_i64 Tw.om) w) ?_
       refine lm (v := .int .i64 ((((4 * bn) + 2) : Nat) : Int)) rfl rfl ?_
       refine wpL_done (fun W7 hW7 => ?_)
       change Code.wp ..
       refine wp_joins (fun az wz => ∃ (nv : Nat), (nv = 4 * bn + codeN xh) ∧ (nv ≤ 159) ∧ JoinR (fun zq => List.toArray ((.agg (shC (.slice pc cs.length cc) (.slice po os.length co) t).toArray) :: (.agg #[.int .i64 ((m : Nat) : Int), .int .i64 ((tn : Nat) : Int), .int .u8 ((xh : Nat) : Int)]) :: (.pointer (some ⟨g1, 0, none⟩)) :: (.pointer (some ⟨g2, 0, none⟩)) :: (strV []) :: (.int .i64 0) :: (.pointer (some ⟨g5, 0, none⟩)) :: (.int .i64 ((nv : Nat) : Int)) :: undef :: (.agg (shC (.slice pc cs.length cc) (.slice po os.length co) t).toArray) :: (.bool true) :: (.bool false) :: (.agg (shC (.slice pc cs.length cc) (.slice po os.length co) t).toArray) :: (.agg #[.int .i64 ((m : Nat) : Int), .int .i64 ((tn : Nat) : Int), .int .u8 ((xh : Nat) : Int)]) :: (.bool false) :: (.bool true) :: (.bool true) :: (.agg (shC (.slice pc cs.length cc) (.slice po os.length co) t).toArray) :: (.agg #[.int .i64 ((m : Nat) : Int), .int .i64 ((tn : Nat) : Int), .int .u8 ((xh : Nat) : Int)]) :: (.bool true) :: (.bool false) :: (.bool false) :: (.pointer (some ⟨g1, 0, none⟩)) :: (.slice pc cs.length cc) :: (.pointer (some ⟨g2, 0, none⟩)) :: (.int .i64 ((m : Nat) : Int)) :: (.pointer (some ⟨g4_, f4_ + m * 12, none⟩)) :: (.agg (colC (colN bn rn zc)).toArray) :: (.pointer (some ⟨g5, 0, none⟩)) :: (.int .i64 ((bn : Nat) : Int)) :: (.int .i64 (((4 * bn) : Nat) : Int)) :: (.int .i64 ((((4 * bn) + 2) : Nat) : Int)) :: zq 32 :: zq 33 :: zq 34 :: zq 35 :: zq 36 :: zq 37 :: zq 38 :: zq 39 :: zq 40 :: zq 41 :: zq 42 :: zq 43 :: zq 44 :: zq 45 :: undef :: undef :: undef :: undef :: undef :: undef :: undef :: undef :: undef :: undef :: undef :: undef :: undef :: undef :: undef :: undef :: undef :: undef :: undef :: undef :: undef :: undef :: undef :: undef :: undef :: undef :: undef :: undef :: undef :: undef :: undef :: undef :: undef :: undef :: undef :: undef :: undef :: undef :: undef :: undef :: undef :: undef :: undef :: undef :: undef :: [])) w [(g5, .cells (colC (colN bn rn zc)).toArray 65 (0, 0)), (g2, .cells #[.int .i64 ((m : Nat) : Int), .int .i64 ((tn : Nat) : Int), .int .u8 ((xh : Nat) : Int)] 34 (0, 0)), (g1, .cells (shC (.slice pc cs.length cc) (.slice po os.length co) t).toArray 32 (0, 0))] az wz) 2 ?_ ?_
       · change Code.wp ..
         refine wp_seq ?_
         refine wp_region_L _ hW7 ?_
         refine lm (v := .pointer (some ⟨g2, 2, none⟩)) rfl rfl ?_
         refine lv (v := .int .u8 ((xh : Nat) : Int)) rfl rfl (yb_cell (off := 2) rfl Tw.kr Tw.m1 Tryd.underlying5 rfl Tw.kr) ?_
         refine lp (v := .bool (decide (xh = 1))) rfl rfl (run_bin rfl (vx := (.int .u8 ((xh : Nat) : Int))) (vy := (.int .u8 ((1 : Nat) : Int))) Tw.kr Tw.kr fun w => bn_eql rfl w) ?_
         refine wpL_done (fun W8 hW8 => ?_)
         change Code.wp ..
         cases hd4 : (decide (xh = 1)) with
         | false =>
           have h4 : ¬ (xh = 1) := of_decide_eq_false hd4
           clear hd4
           refine wp_cond_false rfl ?_
           refine wp_skip ?_
           change Code.wp ..
           refine wp_seq ?_
           refine wp_region_L _ hW8 ?_
           refine lm (v := .pointer (some ⟨g2, 2, none⟩)) rfl rfl ?_
           refine lv (v := .int .u8 ((xh : Nat) : Int)) rfl rfl (yb_cell (off := 2) rfl Tw.kr Tw.m1 Tryd.underlying5 rfl Tw.kr) ?_
           refine lp (v := .bool (decide (xh = 2))) rfl rfl (run_bin rfl (vx := (.int .u8 ((xh : Nat) : Int))) (vy := (.int .u8 ((2 : Nat) : Int))) Tw.kr Tw.kr fun w => bn_eql rfl w) ?_
           refine wpL_done (fun W9 hW9 => ?_)
           change Code.wp ..
           cases hd5 : (decide (xh = 2)) with
           | false =>
             have h5 : ¬ (xh = 2) := of_decide_eq_false hd5
             clear hd5
             refine wp_cond_false rfl ?_
             refine wp_skip ?_
             exact ⟨((4 * bn) + 2), (by rw [show xh = 0 from by omega]; rfl), Tw.om, join_mk Tw.kr (hW9.sub (fun p hp => by first | exact hp | (simp only [List.mem_cons, List.mem_append, List.nil_append, List.not_mem_nil, or_assoc, or_false, false_or] at hp ⊢ <;> grind)))⟩
           | true =>
             have h5 : xh = 2 := of_decide_eq_true hd5
             clear hd5
             refine wp_cond_true rfl ?_
             refine wp_region_L _ hW9 ?_
             refine lm (v := .pointer (some ⟨g5, 0, none⟩)) rfl rfl ?_
             refine lv (v := .int .i64 ((bn : Nat) : Int)) rfl rfl (yb_cell (off := 0) (v := .int .i64 ((bn : Nat) : Int)) rfl Tw.kr Tw.m0 Tryd.underlying3 rfl Tw.kr) ?_
             refine lp (v := .int .i64 (((4 * bn) : Nat) : Int)) rfl rfl (run_bin rfl (vx := (.int .i64 ((4 : Nat) : Int))) (vy := (.int .i64 ((bn : Nat) : Int))) Tw.kr Tw.kr fun w => bn_mul (z := (4 * bn)) rfl (wr_i64 Tw.om) w) ?_
             refine lp (v := .int .i64 ((((4 * bn) + 3) : Nat) : Int)) rfl rfl (run_bin rfl (vx := (.int .i64 (((4 * bn) : Nat) : Int))) (vy := (.int .i64 ((3 : Nat) : Int))) Tw.kr Tw.kr fun w => bn_add (z := ((4 * bn) + 3)) rfl (wr_i64 Tw.om) w) ?_
             refine lm (v := .int .i64 ((((4 * bn) + 3) : Nat) : Int)) rfl rfl ?_
             refine wpL_done (fun W10 hW10 => ?_)
             exact ⟨((4 * bn) + 3), (by rw [h5]; rfl), Tw.om, join_mk Tw.kr (hW10.sub (fun p hp => by first | exact hp | (simp only [List.mem_cons, List.mem_append, List.nil_append, List.not_mem_nil, or_assoc, or_false, false_or] at hp ⊢ <;> grind)))⟩
         | true =>
           have h4 : xh = 1 := of_decide_eq_true hd4
           clear hd4
           refine wp_cond_true rfl ?_
           refine wp_region_L _ hW8 ?_
           refine lm (v := .pointer (some ⟨g5, 0, none⟩)) rfl rfl ?_
           refine lv (v := .int .i64 ((bn : Nat) : Int)) rfl rfl (yb_cell (off := 0) (v := .int .i64 ((bn : Nat) : Int)) rfl Tw.kr Tw.m0 Tryd.underlying3 rfl Tw.kr) ?_
           refine lp (v := .int .i64 (((4 * bn) : Nat) : Int)) rfl rfl (run_bin rfl (vx := (.int .i64 ((4 : Nat) : Int))) (vy := (.int .i64 ((bn : Nat) : Int))) Tw.kr Tw.kr fun w => bn_mul (z := (4 * bn)) rfl (wr_i64 Tw.om) w) ?_
           refine lp (v := .int .i64 ((((4 * bn) + 1) : Nat) : Int)) rfl rfl (run_bin rfl (vx := (.int .i64 (((4 * bn) : Nat) : Int))) (vy := (.int .i64 ((1 : Nat) : Int))) Tw.kr Tw.kr fun w => bn_add (z := ((4 * bn) + 1)) rfl (wr_i64 Tw.om) w) ?_
           refine lm (v := .int .i64 ((((4 * bn) + 1) : Nat) : Int)) rfl rfl ?_
           refine wpL_done (fun W11 hW11 => ?_)
           change Code.wp ..
           refine wp_seq ?_
           refine wp_region_L _ hW11 ?_
           refine lm (v := .pointer (some ⟨g2, 2, none⟩)) rfl rfl ?_
           refine lv (v := .int .u8 ((xh : Nat) : Int)) rfl rfl (yb_cell (off := 2) rfl Tw.kr Tw.m1 Tryd.underlying5 rfl Tw.kr) ?_
           refine lp (v := .bool (decide (xh = 2))) rfl rfl (run_bin rfl (vx := (.int .u8 ((xh : Nat) : Int))) (vy := (.int .u8 ((2 : Nat) : Int))) Tw.kr Tw.kr fun w => bn_eql rfl w) ?_
           refine wpL_done (fun W12 hW12 => ?_)
           change Code.wp ..
           cases hd6 : (decide (xh = 2)) with
           | false =>
             have h6 : ¬ (xh = 2) := of_decide_eq_false hd6
             clear hd6
             refine wp_cond_false rfl ?_
             refine wp_skip ?_
             exact ⟨((4 * bn) + 1), (by rw [h4]; rfl), Tw.om, join_mk Tw.kr (hW12.sub (fun p hp => by first | exact hp | (simp only [List.mem_cons, List.mem_append, List.nil_append, List.not_mem_nil, or_assoc, or_false, false_or] at hp ⊢ <;> grind)))⟩
           | true =>
             have h6 : xh = 2 := of_decide_eq_true hd6
             clear hd6
             omega
       · rintro a1 W1j ⟨nv, hnv, hnb, ⟨zx1, rfl⟩, hW1j⟩
         dsimp only [cutT]
         refine wp_seq ?_
         refine wp_region_L _ hW1j ?_
         refine lm (v := .pointer (some ⟨g2, 1, none⟩)) rfl rfl ?_
         refine lv (v := .int .i64 ((tn : Nat) : Int)) rfl rfl (yb_cell (off := 1) rfl Tw.kr Tw.m1 Tryd.underlying3 rfl Tw.kr) ?_
         refine lm (v := .pointer (some ⟨g2, 1, none⟩)) rfl rfl ?_
         refine lv (v := .int .i64 ((tn : Nat) : Int)) rfl rfl (yb_cell (off := 1) rfl Tw.kr Tw.m1 Tryd.underlying3 rfl Tw.kr) ?_
         refine lp (v := .int .i64 (((tn + tn) : Nat) : Int)) rfl rfl (run_bin rfl (vx := (.int .i64 ((tn : Nat) : Int))) (vy := (.int .i64 ((tn : Nat) : Int))) Tw.kr Tw.kr fun w => bn_add (z := (tn + tn)) rfl (wr_i64 Tw.om) w) ?_
         refine lp (v := .int .i64 ((((tn + tn) + 2) : Nat) : Int)) rfl rfl (run_bin rfl (vx := (.int .i64 (((tn + tn) : Nat) : Int))) (vy := (.int .i64 ((2 : Nat) : Int))) Tw.kr Tw.kr fun w => bn_add (z := ((tn + tn) + 2)) rfl (wr_i64 Tw.om) w) ?_
         refine lm (v := .int .i64 ((((tn + tn) + 2) : Nat) : Int)) rfl rfl ?_
         refine wpL_done (fun W13 hW13 => ?_)
         change Code.wp ..
         refine wp_joins (fun az wz => ∃ (tv : Nat), (tv = tierN tn (colN bn rn zc).deck) ∧ (tv ≤ 99) ∧ JoinR (fun zq => List.toArray ((.agg (shC (.slice pc cs.length cc) (.slice po os.length co) t).toArray) :: (.agg #[.int .i64 ((m : Nat) : Int), .int .i64 ((tn : Nat) : Int), .int .u8 ((xh : Nat) : Int)]) :: (.pointer (some ⟨g1, 0, none⟩)) :: (.pointer (some ⟨g2, 0, none⟩)) :: (strV []) :: (.int .i64 0) :: (.pointer (some ⟨g5, 0, none⟩)) :: (.int .i64 ((nv : Nat) : Int)) :: (.int .i64 ((tv : Nat) : Int)) :: (.agg (shC (.slice pc cs.length cc) (.slice po os.length co) t).toArray) :: (.bool true) :: (.bool false) :: (.agg (shC (.slice pc cs.length cc) (.slice po os.length co) t).toArray) :: (.agg #[.int .i64 ((m : Nat) : Int), .int .i64 ((tn : Nat) : Int), .int .u8 ((xh : Nat) : Int)]) :: (.bool false) :: (.bool true) :: (.bool true) :: (.agg (shC (.slice pc cs.length cc) (.slice po os.length co) t).toArray) :: (.agg #[.int .i64 ((m : Nat) : Int), .int .i64 ((tn : Nat) : Int), .int .u8 ((xh : Nat) : Int)]) :: (.bool true) :: (.bool false) :: (.bool false) :: (.pointer (some ⟨g1, 0, none⟩)) :: (.slice pc cs.length cc) :: (.pointer (some ⟨g2, 0, none⟩)) :: (.int .i64 ((m : Nat) : Int)) :: (.pointer (some ⟨g4_, f4_ + m * 12, none⟩)) :: (.agg (colC (colN bn rn zc)).toArray) :: (.pointer (some ⟨g5, 0, none⟩)) :: (.int .i64 ((bn : Nat) : Int)) :: (.int .i64 (((4 * bn) : Nat) : Int)) :: (.int .i64 ((((4 * bn) + 2) : Nat) : Int)) :: (zx1 32) :: (zx1 33) :: (zx1 34) :: (zx1 35) :: (zx1 36) :: (zx1 37) :: (zx1 38) :: (zx1 39) :: (zx1 40) :: (zx1 41) :: (zx1 42) :: (zx1 43) :: (zx1 44) :: (zx1 45) :: (.pointer (some ⟨g2, 1, none⟩)) :: (.int .i64 ((tn : Nat) : Int)) :: (.pointer (some ⟨g2, 1, none⟩)) :: (.int .i64 ((tn : Nat) : Int)) :: (.int .i64 (((tn + tn) : Nat) : Int)) :: (.int .i64 ((((tn + tn) + 2) : Nat) : Int)) :: zq 52 :: zq 53 :: zq 54 :: zq 55 :: zq 56 :: zq 57 :: undef :: undef :: undef :: undef :: undef :: undef :: undef :: undef :: undef :: undef :: undef :: undef :: undef :: undef :: undef :: undef :: undef :: undef :: undef :: undef :: undef :: undef :: undef :: undef :: undef :: undef :: undef :: undef :: undef :: undef :: undef :: undef :: undef :: [])) w [(g5, .cells (colC (colN bn rn zc)).toArray 65 (0, 0)), (g2, .cells #[.int .i64 ((m : Nat) : Int), .int .i64 ((tn : Nat) : Int), .int .u8 ((xh : Nat) : Int)] 34 (0, 0)), (g1, .cells (shC (.slice pc cs.length cc) (.slice po os.length co) t).toArray 32 (0, 0))] az wz) 2 ?_ ?_
         · change Code.wp ..
           refine wp_seq ?_
           refine wp_region_L _ hW13 ?_
           refine lm (v := .pointer (some ⟨g5, 2, none⟩)) rfl rfl ?_
           refine lv (v := .bool ((colN bn rn zc).deck)) rfl rfl (yb_cell (off := 2) rfl Tw.kr Tw.m0 Tryd.underlying4 rfl Tw.kr) ?_
           refine wpL_done (fun W14 hW14 => ?_)
           change Code.wp ..
           cases h7 : ((colN bn rn zc).deck) with
           | false =>
             refine wp_cond_false rfl ?_
             refine wp_skip ?_
             change Code.wp ..
             refine wp_seq ?_
             refine wp_region_L _ hW14 ?_
             refine lm (v := .int .i64 ((((tn + tn) + 2) : Nat) : Int)) rfl rfl ?_
             refine lp (v := .bool (decide (((tn + tn) + 2) = 100))) rfl rfl (run_bin rfl (vx := (.int .i64 ((((tn + tn) + 2) : Nat) : Int))) (vy := (.int .i64 ((100 : Nat) : Int))) Tw.kr Tw.kr fun w => bn_eql rfl w) ?_
             refine wpL_done (fun W15 hW15 => ?_)
             change Code.wp ..
             cases hd8 : (decide (((tn + tn) + 2) = 100)) with
             | false =>
               have h8 : ¬ (((tn + tn) + 2) = 100) := of_decide_eq_false hd8
               clear hd8
               refine wp_cond_false rfl ?_
               refine wp_skip ?_
               exact ⟨((tn + tn) + 2), (by (try rw [h7]); unfold tierN; simp <;> omega), Tw.om, join_mk Tw.kr (hW15.sub (fun p hp => by first | exact hp | (simp only [List.mem_cons, List.mem_append, List.nil_append, List.not_mem_nil, or_assoc, or_false, false_or] at hp ⊢ <;> grind)))⟩
             | true =>
               have h8 : ((tn + tn) + 2) = 100 := of_decide_eq_true hd8
               clear hd8
               omega
           | true =>
             refine wp_cond_true rfl ?_
             refine wp_region_L _ hW14 ?_
             refine lm (v := .int .i64 ((((tn + tn) + 2) : Nat) : Int)) rfl rfl ?_
             refine lp (v := .int .i64 (((((tn + tn) + 2) + 80) : Nat) : Int)) rfl rfl (run_bin rfl (vx := (.int .i64 ((((tn + tn) + 2) : Nat) : Int))) (vy := (.int .i64 ((80 : Nat) : Int))) Tw.kr Tw.kr fun w => bn_add (z := (((tn + tn) + 2) + 80)) rfl (wr_i64 Tw.om) w) ?_
             refine lm (v := .int .i64 (((((tn + tn) + 2) + 80) : Nat) : Int)) rfl rfl ?_
             refine wpL_done (fun W16 hW16 => ?_)
             change Code.wp ..
             refine wp_seq ?_
             refine wp_region_L _ hW16 ?_
             refine lm (v := .int .i64 (((((tn + tn) + 2) + 80) : Nat) : Int)) rfl rfl ?_
             refine lp (v := .bool (decide ((((tn + tn) + 2) + 80) = 100))) rfl rfl (run_bin rfl (vx := (.int .i64 (((((tn + tn) + 2) + 80) : Nat) : Int))) (vy := (.int .i64 ((100 : Nat) : Int))) Tw.kr Tw.kr fun w => bn_eql rfl w) ?_
             refine wpL_done (fun W17 hW17 => ?_)
             change Code.wp ..
             cases hd9 : (decide ((((tn + tn) + 2) + 80) = 100)) with
             | false =>
               have h9 : ¬ ((((tn + tn) + 2) + 80) = 100) := of_decide_eq_false hd9
               clear hd9
               refine wp_cond_false rfl ?_
               refine wp_skip ?_
               exact ⟨(((tn + tn) + 2) + 80), (by (try rw [h7]); unfold tierN; simp <;> omega), Tw.om, join_mk Tw.kr (hW17.sub (fun p hp => by first | exact hp | (simp only [List.mem_cons, List.mem_append, List.nil_append, List.not_mem_nil, or_assoc, or_false, false_or] at hp ⊢ <;> grind)))⟩
             | true =>
               have h9 : (((tn + tn) + 2) + 80) = 100 := of_decide_eq_true hd9
               clear hd9
               refine wp_cond_true rfl ?_
               refine wp_region_L _ hW17 ?_
               refine lm (v := .int .i64 0) rfl rfl ?_
               refine wpL_done (fun W18 hW18 => ?_)
               exact ⟨0, (by (try rw [h7]); unfold tierN; simp <;> omega), Tw.om, join_mk Tw.kr (hW18.sub (fun p hp => by first | exact hp | (simp only [List.mem_cons, List.mem_append, List.nil_append, List.not_mem_nil, or_assoc, or_false, false_or] at hp ⊢ <;> grind)))⟩
         · rintro a2 W2j ⟨tv, htv, htb, ⟨zx2, rfl⟩, hW2j⟩
           dsimp only [cutT]
           refine wp_seq ?_
           refine wp_region_L _ hW2j ?_
           refine lm (v := .int .i64 ((nv : Nat) : Int)) rfl rfl ?_
           refine lp (v := .int .i64 (((nv / 100) : Nat) : Int)) rfl rfl (run_bin rfl (vx := (.int .i64 ((nv : Nat) : Int))) (vy := (.int .i64 ((100 : Nat) : Int))) Tw.kr Tw.kr fun w => bn_quo (z := (nv / 100)) rfl Tw.om (wr_i64 Tw.om) w) ?_
           refine lp (v := .int .i64 (((48 + (nv / 100)) : Nat) : Int)) rfl rfl (run_bin rfl (vx := (.int .i64 ((48 : Nat) : Int))) (vy := (.int .i64 (((nv / 100) : Nat) : Int))) Tw.kr Tw.kr fun w => bn_add (z := (48 + (nv / 100))) rfl (wr_i64 Tw.om) w) ?_
           refine lp (v := .int .u8 (((48 + (nv / 100)) : Nat) : Int)) rfl rfl (run_conv rfl (vx := (.int .i64 (((48 + (nv / 100)) : Nat) : Int))) Tw.kr fun w => cv_int Tryd.underlying3 Tryd.underlying5 (wr_u8 Tw.om) w) ?_
           refine lm (v := .int .i64 ((nv : Nat) : Int)) rfl rfl ?_
           refine lp (v := .int .i64 (((nv / 10) : Nat) : Int)) rfl rfl (run_bin rfl (vx := (.int .i64 ((nv : Nat) : Int))) (vy := (.int .i64 ((10 : Nat) : Int))) Tw.kr Tw.kr fun w => bn_quo (z := (nv / 10)) rfl Tw.om (wr_i64 Tw.om) w) ?_
           refine lp (v := .int .i64 ((((nv / 10) % 10) : Nat) : Int)) rfl rfl (run_bin rfl (vx := (.int .i64 (((nv / 10) : Nat) : Int))) (vy := (.int .i64 ((10 : Nat) : Int))) Tw.kr Tw.kr fun w => bn_rem (z := ((nv / 10) % 10)) rfl Tw.om w) ?_
           refine lp (v := .int .i64 (((48 + ((nv / 10) % 10)) : Nat) : Int)) rfl rfl (run_bin rfl (vx := (.int .i64 ((48 : Nat) : Int))) (vy := (.int .i64 ((((nv / 10) % 10) : Nat) : Int))) Tw.kr Tw.kr fun w => bn_add (z := (48 + ((nv / 10) % 10))) rfl (wr_i64 Tw.om) w) ?_
           refine lp (v := .int .u8 (((48 + ((nv / 10) % 10)) : Nat) : Int)) rfl rfl (run_conv rfl (vx := (.int .i64 (((48 + ((nv / 10) % 10)) : Nat) : Int))) Tw.kr fun w => cv_int Tryd.underlying3 Tryd.underlying5 (wr_u8 Tw.om) w) ?_
           refine lm (v := .int .i64 ((nv : Nat) : Int)) rfl rfl ?_
           refine lp (v := .int .i64 (((nv % 10) : Nat) : Int)) rfl rfl (run_bin rfl (vx := (.int .i64 ((nv : Nat) : Int))) (vy := (.int .i64 ((10 : Nat) : Int))) Tw.kr Tw.kr fun w => bn_rem (z := (nv % 10)) rfl Tw.om w) ?_
           refine lp (v := .int .i64 (((48 + (nv % 10)) : Nat) : Int)) rfl rfl (run_bin rfl (vx := (.int .i64 ((48 : Nat) : Int))) (vy := (.int .i64 (((nv % 10) : Nat) : Int))) Tw.kr Tw.kr fun w => bn_add (z := (48 + (nv % 10))) rfl (wr_i64 Tw.om) w) ?_
           refine lp (v := .int .u8 (((48 + (nv % 10)) : Nat) : Int)) rfl rfl (run_conv rfl (vx := (.int .i64 (((48 + (nv % 10)) : Nat) : Int))) Tw.kr fun w => cv_int Tryd.underlying3 Tryd.underlying5 (wr_u8 Tw.om) w) ?_
           refine lm (v := .pointer (some ⟨g5, 1, none⟩)) rfl rfl ?_
           refine lv (v := .int .i64 ((rn : Nat) : Int)) rfl rfl (yb_cell (off := 1) (v := .int .i64 ((rn : Nat) : Int)) rfl Tw.kr Tw.m0 Tryd.underlying3 rfl Tw.kr) ?_
           refine lp (v := .int .i64 (((rn / 10) : Nat) : Int)) rfl rfl (run_bin rfl (vx := (.int .i64 ((rn : Nat) : Int))) (vy := (.int .i64 ((10 : Nat) : Int))) Tw.kr Tw.kr fun w => bn_quo (z := (rn / 10)) rfl Tw.om (wr_i64 Tw.om) w) ?_
           refine lp (v := .int .i64 (((48 + (rn / 10)) : Nat) : Int)) rfl rfl (run_bin rfl (vx := (.int .i64 ((48 : Nat) : Int))) (vy := (.int .i64 (((rn / 10) : Nat) : Int))) Tw.kr Tw.kr fun w => bn_add (z := (48 + (rn / 10))) rfl (wr_i64 Tw.om) w) ?_
           refine lp (v := .int .u8 (((48 + (rn / 10)) : Nat) : Int)) rfl rfl (run_conv rfl (vx := (.int .i64 (((48 + (rn / 10)) : Nat) : Int))) Tw.kr fun w => cv_int Tryd.underlying3 Tryd.underlying5 (wr_u8 Tw.om) w) ?_
           refine lm (v := .pointer (some ⟨g5, 1, none⟩)) rfl rfl ?_
           refine lv (v := .int .i64 ((rn : Nat) : Int)) rfl rfl (yb_cell (off := 1) (v := .int .i64 ((rn : Nat) : Int)) rfl Tw.kr Tw.m0 Tryd.underlying3 rfl Tw.kr) ?_
           refine lp (v := .int .i64 (((rn % 10) : Nat) : Int)) rfl rfl (run_bin rfl (vx := (.int .i64 ((rn : Nat) : Int))) (vy := (.int .i64 ((10 : Nat) : Int))) Tw.kr Tw.kr fun w => bn_rem (z := (rn % 10)) rfl Tw.om w) ?_
           refine lp (v := .int .i64 (((48 + (rn % 10)) : Nat) : Int)) rfl rfl (run_bin rfl (vx := (.int .i64 ((48 : Nat) : Int))) (vy := (.int .i64 (((rn % 10) : Nat) : Int))) Tw.kr Tw.kr fun w => bn_add (z := (48 + (rn % 10))) rfl (wr_i64 Tw.om) w) ?_
           refine lp (v := .int .u8 (((48 + (rn % 10)) : Nat) : Int)) rfl rfl (run_conv rfl (vx := (.int .i64 (((48 + (rn % 10)) : Nat) : Int))) Tw.kr fun w => cv_int Tryd.underlying3 Tryd.underlying5 (wr_u8 Tw.om) w) ?_
           refine lm (v := .int .i64 ((tv : Nat) : Int)) rfl rfl ?_
           refine lp (v := .int .i64 (((tv / 10) : Nat) : Int)) rfl rfl (run_bin rfl (vx := (.int .i64 ((tv : Nat) : Int))) (vy := (.int .i64 ((10 : Nat) : Int))) Tw.kr Tw.kr fun w => bn_quo (z := (tv / 10)) rfl Tw.om (wr_i64 Tw.om) w) ?_
           refine lp (v := .int .i64 (((48 + (tv / 10)) : Nat) : Int)) rfl rfl (run_bin rfl (vx := (.int .i64 ((48 : Nat) : Int))) (vy := (.int .i64 (((tv / 10) : Nat) : Int))) Tw.kr Tw.kr fun w => bn_add (z := (48 + (tv / 10))) rfl (wr_i64 Tw.om) w) ?_
           refine lp (v := .int .u8 (((48 + (tv / 10)) : Nat) : Int)) rfl rfl (run_conv rfl (vx := (.int .i64 (((48 + (tv / 10)) : Nat) : Int))) Tw.kr fun w => cv_int Tryd.underlying3 Tryd.underlying5 (wr_u8 Tw.om) w) ?_
           refine lm (v := .int .i64 ((tv : Nat) : Int)) rfl rfl ?_
           refine lp (v := .int .i64 (((tv % 10) : Nat) : Int)) rfl rfl (run_bin rfl (vx := (.int .i64 ((tv : Nat) : Int))) (vy := (.int .i64 ((10 : Nat) : Int))) Tw.kr Tw.kr fun w => bn_rem (z := (tv % 10)) rfl Tw.om w) ?_
           refine lp (v := .int .i64 (((48 + (tv % 10)) : Nat) : Int)) rfl rfl (run_bin rfl (vx := (.int .i64 ((48 : Nat) : Int))) (vy := (.int .i64 (((tv % 10) : Nat) : Int))) Tw.kr Tw.kr fun w => bn_add (z := (48 + (tv % 10))) rfl (wr_i64 Tw.om) w) ?_
           refine lp (v := .int .u8 (((48 + (tv % 10)) : Nat) : Int)) rfl rfl (run_conv rfl (vx := (.int .i64 (((48 + (tv % 10)) : Nat) : Int))) Tw.kr fun w => cv_int Tryd.underlying3 Tryd.underlying5 (wr_u8 Tw.om) w) ?_
           refine wpL_new (fun g => .slice (some ⟨g, 0, none⟩) 7 7) (obi := .cells #[.int .u8 (((48 + (nv / 100)) : Nat) : Int), .int .u8 (((48 + ((nv / 10) % 10)) : Nat) : Int), .int .u8 (((48 + (nv % 10)) : Nat) : Int), .int .u8 (((48 + (rn / 10)) : Nat) : Int), .int .u8 (((48 + (rn % 10)) : Nat) : Int), .int .u8 (((48 + (tv / 10)) : Nat) : Int), .int .u8 (((48 + (tv % 10)) : Nat) : Int)] 5 (0, 0)) rfl rfl Tw.kf Tw.pf fun g7 Bg7 Fg7 => ?_
           obtain ⟨dj8_0, dj8_1, dj8_2⟩ : g5 ≠ g7 ∧ g2 ≠ g7 ∧ g1 ≠ g7 := Tw.dkf Fg7
           refine lv (v := strV [UInt8.ofNat (48 + (nv / 100)), UInt8.ofNat (48 + ((nv / 10) % 10)), UInt8.ofNat (48 + (nv % 10)), UInt8.ofNat (48 + (rn / 10)), UInt8.ofNat (48 + (rn % 10)), UInt8.ofNat (48 + (tv / 10)), UInt8.ofNat (48 + (tv % 10))]) rfl rfl (yb_str (n := 7) (cap := 7) (l := [UInt8.ofNat (48 + (nv / 100)), UInt8.ofNat (48 + ((nv / 10) % 10)), UInt8.ofNat (48 + (nv % 10)), UInt8.ofNat (48 + (rn / 10)), UInt8.ofNat (48 + (rn % 10)), UInt8.ofNat (48 + (tv / 10)), UInt8.ofNat (48 + (tv % 10))]) rfl Tryd.underlying78 Tryd.underlying5 Tryd.underlying9 Tw.kr rfl Tw.m0 (by simp [RowB, u8s] <;> omega)) ?_
           refine lm (v := strV [UInt8.ofNat (48 + (nv / 100)), UInt8.ofNat (48 + ((nv / 10) % 10)), UInt8.ofNat (48 + (nv % 10)), UInt8.ofNat (48 + (rn / 10)), UInt8.ofNat (48 + (rn % 10)), UInt8.ofNat (48 + (tv / 10)), UInt8.ofNat (48 + (tv % 10))]) rfl rfl ?_
           refine lm (v := .int .i64 0) rfl rfl ?_
           refine wpL_done (fun W19 hW19 => ?_)
           change Code.wp ..
           refine wp_ret ?_
           try simp only [inBlock_ret, then_ret]
           refine bodyPost_ret (v := .tuple #[strV [UInt8.ofNat (48 + (nv / 100)), UInt8.ofNat (48 + ((nv / 10) % 10)), UInt8.ofNat (48 + (nv % 10)), UInt8.ofNat (48 + (rn / 10)), UInt8.ofNat (48 + (rn % 10)), UInt8.ofNat (48 + (tv / 10)), UInt8.ofNat (48 + (tv % 10))], .int .i64 0]) ?_ rfl ?_
           · kernel_rfl
           · exact ⟨(si_is (by unfold nameR; rw [if_pos h1, if_pos hiS, name_at hy, show (colN bn rn zc).bay.toNat = bn from rfl, show (colN bn rn zc).row.toNat = rn from rfl, Int.toNat_natCast, name_bytes hbb hrr htt9, ← hnv, ← htv])), hW19.1⟩
   | true =>
     refine ln rfl ?_
     refine ln rfl ?_
     refine ln rfl ?_
     refine ln rfl ?_
     refine lm (v := .bool false) rfl rfl ?_
     refine wpL_done (fun W20 hW20 => ?_)
     change Code.wp ..
     refine wp_cond_false rfl ?_
     refine wp_skip ?_
     change Code.wp ..
     refine wp_seq ?_
     have hiS := (show isSlot cs (⟨xc, xt, xh⟩ : Slt) = true from by unfold isSlot; rw [h2] <;> rfl)
     obtain ⟨m, y, hm, hy, ht0, ht1, hh2⟩ := slot_at hiS
     simp only at hm ht0 ht1 hh2
     subst hm
     obtain ⟨hi1, hi2, hi3⟩ := slot_in h1 hy ht0 ht1
     have hml := (List.getElem?_eq_some_iff.1 hy).1
     obtain ⟨tn, htn⟩ := Int.eq_ofNat_of_zero_le ht0
     subst htn
     obtain ⟨bn, rn, zc, hyz, hzd⟩ := col_nat hi1.1 hi2.1
     subst hyz
     have hbb : bn ≤ 39 := by have h9 := hi1.2; simp only [colN] at h9; omega
     have hrr : rn ≤ 30 := by have h9 := hi2.2; simp only [colN] at h9; omega
     have htt9 : tn ≤ 9 := by omega
     refine wp_region_L _ hW20 ?_
     refine lm (v := .pointer (some ⟨g1, 0, none⟩)) rfl rfl ?_
     refine lv (v := .slice pc cs.length cc) rfl rfl (yb_cell (off := 0) rfl Tw.kr Tw.m1 Tryd.underlying22 rfl Tw.kr) ?_
     refine lm (v := .pointer (some ⟨g2, 0, none⟩)) rfl rfl ?_
     refine lv (v := .int .i64 ((m : Nat) : Int)) rfl rfl (yb_cell (off := 0) rfl Tw.kr Tw.m0 Tryd.underlying3 rfl Tw.kr) ?_
     obtain ⟨y9, g9_, f9_, hy9, hp9, hc9⟩ := RL.at (RL.base HC.out) colC_len (by decide) (hW20.sub (fun _ h => by cases h)) (k := m) Tw.om
     have ey9 : colN bn rn zc = y9 := by rw [hy] at hy9; exact Option.some.inj hy9
     subst ey9
     refine lp (v := .pointer (some ⟨g9_, f9_ + m * 12, none⟩)) rfl rfl (run_idxQ (p := pc) (cap := cc) (n := cs.length) (j := .i64) (k := m) (sz := 12) rfl Tryd.underlying22 Tw.kr Tw.kr hp9 Tw.kr Tw.om) ?_
     refine lv (v := .agg (colC (colN bn rn zc)).toArray) rfl rfl (yb_rs (off := f9_ + m * 12) (cs := colC (colN bn rn zc)) rfl Tw.kr (fun W hW => hc9 W (hW.sub (fun _ h => by cases h))) Tryd.underlying65 rfl Tw.kr) ?_
     refine wpL_new (fun g => .pointer (some ⟨g, 0, none⟩)) (obi := .cells #[.int .i64 0, .int .i64 0, .bool false, .int .i64 0, .int .i64 0, .int .i64 0, .int .i64 0, .int .i64 0, .slice none 0 0, .int .i64 0, .int .i64 0, .int .i64 0] 65 (0, 0)) rfl rfl Tw.kf Tw.pf fun g10 Bg10 Fg10 => ?_
     obtain ⟨dj11_0, dj11_1⟩ : g2 ≠ g10 ∧ g1 ≠ g10 := Tw.dkf Fg10
     refine wpL_s [(g10, .cells (colC (colN bn rn zc)).toArray 65 (0, 0)), (g2, .cells #[.int .i64 ((m : Nat) : Int), .int .i64 ((tn : Nat) : Int), .int .u8 ((xh : Nat) : Int)] 34 (0, 0)), (g1, .cells (shC (.slice pc cs.length cc) (.slice po os.length co) t).toArray 32 (0, 0))] rfl rfl (st_row (off := 0) (v := .agg (colC (colN bn rn zc)).toArray) rfl Tw.kr Tw.kr Tw.m0 Bg10 Tw.kr (by first | (simp [Value.cells]; done) | exact Nat.le_of_ble_eq_true rfl) (fun v hv => colC_one (colN bn rn zc) v hv) Tw.kr (List.forall_mem_cons.2 ⟨.inl rfl, (List.forall_mem_cons.2 ⟨.inr ⟨Tw.m1, Tw.nee⟩, (List.forall_mem_cons.2 ⟨.inr ⟨Tw.m2, Tw.nee⟩, (List.forall_mem_nil _)⟩)⟩)⟩)) ?_
     refine wpL_done (fun W21 hW21 => ?_)
     change Code.wp ..
     refine wp_seq ?_
     refine wp_region_L _ hW21 ?_
     refine lm (v := .pointer (some ⟨g10, 0, none⟩)) rfl rfl ?_
     refine lv (v := .int .i64 ((bn : Nat) : Int)) rfl rfl (yb_cell (off := 0) (v := .int .i64 ((bn : Nat) : Int)) rfl Tw.kr Tw.m0 Tryd.underlying3 rfl Tw.kr) ?_
     refine lp (v := .int .i64 (((4 * bn) : Nat) : Int)) rfl rfl (run_bin rfl (vx := (.int .i64 ((4 : Nat) : Int))) (vy := (.int .i64 ((bn : Nat) : Int))) Tw.kr Tw.kr fun w => bn_mul (z := (4 * bn)) rfl (wr_i64 Tw.om) w) ?_
     refine lp (v := .int .i64 ((((4 * bn) + 2) : Nat) : Int)) rfl rfl (run_bin rfl (vx := (.int .i64 (((4 * bn) : Nat) : Int))) (vy := (.int .i64 ((2 : Nat) : Int))) Tw.kr Tw.kr fun w => bn_add (z := ((4 * bn) + 2)) rfl (wr_i64 Tw.om) w) ?_
     refine lm (v := .int .i64 ((((4 * bn) + 2) : Nat) : Int)) rfl rfl ?_
     refine wpL_done (fun W22 hW22 => ?_)
     change Code.wp ..
     refine wp_joins (fun az wz => ∃ (nv : Nat), (nv = 4 * bn + codeN xh) ∧ (nv ≤ 159) ∧ JoinR (fun zq => List.toArray ((.agg (shC (.slice pc cs.length cc) (.slice po os.length co) t).toArray) :: (.agg #[.int .i64 ((m : Nat) : Int), .int .i64 ((tn : Nat) : Int), .int .u8 ((xh : Nat) : Int)]) :: (.pointer (some ⟨g1, 0, none⟩)) :: (.pointer (some ⟨g2, 0, none⟩)) :: (strV []) :: (.int .i64 0) :: (.pointer (some ⟨g10, 0, none⟩)) :: (.int .i64 ((nv : Nat) : Int)) :: undef :: (.agg (shC (.slice pc cs.length cc) (.slice po os.length co) t).toArray) :: (.bool true) :: (.bool false) :: (.agg (shC (.slice pc cs.length cc) (.slice po os.length co) t).toArray) :: (.agg #[.int .i64 ((m : Nat) : Int), .int .i64 ((tn : Nat) : Int), .int .u8 ((xh : Nat) : Int)]) :: (.bool true) :: (.bool false) :: (.bool false) :: (undef) :: (undef) :: (undef) :: (undef) :: (.bool false) :: (.pointer (some ⟨g1, 0, none⟩)) :: (.slice pc cs.length cc) :: (.pointer (some ⟨g2, 0, none⟩)) :: (.int .i64 ((m : Nat) : Int)) :: (.pointer (some ⟨g9_, f9_ + m * 12, none⟩)) :: (.agg (colC (colN bn rn zc)).toArray) :: (.pointer (some ⟨g10, 0, none⟩)) :: (.int .i64 ((bn : Nat) : Int)) :: (.int .i64 (((4 * bn) : Nat) : Int)) :: (.int .i64 ((((4 * bn) + 2) : Nat) : Int)) :: zq 32 :: zq 33 :: zq 34 :: zq 35 :: zq 36 :: zq 37 :: zq 38 :: zq 39 :: zq 40 :: zq 41 :: zq 42 :: zq 43 :: zq 44 :: zq 45 :: undef :: undef :: undef :: undef :: undef :: undef :: undef :: undef :: undef :: undef :: undef :: undef :: undef :: undef :: undef :: undef :: undef :: undef :: undef :: undef :: undef :: undef :: undef :: undef :: undef :: undef :: undef :: undef :: undef :: undef :: undef :: undef :: undef :: undef :: undef :: undef :: undef :: undef :: undef :: undef :: undef :: undef :: undef :: undef :: undef :: [])) w [(g10, .cells (colC (colN bn rn zc)).toArray 65 (0, 0)), (g2, .cells #[.int .i64 ((m : Nat) : Int), .int .i64 ((tn : Nat) : Int), .int .u8 ((xh : Nat) : Int)] 34 (0, 0)), (g1, .cells (shC (.slice pc cs.length cc) (.slice po os.length co) t).toArray 32 (0, 0))] az wz) 2 ?_ ?_
     · change Code.wp ..
       refine wp_seq ?_
       refine wp_region_L _ hW22 ?_
       refine lm (v := .pointer (some ⟨g2, 2, none⟩)) rfl rfl ?_
       refine lv (v := .int .u8 ((xh : Nat) : Int)) rfl rfl (yb_cell (off := 2) rfl Tw.kr Tw.m1 Tryd.underlying5 rfl Tw.kr) ?_
       refine lp (v := .bool (decide (xh = 1))) rfl rfl (run_bin rfl (vx := (.int .u8 ((xh : Nat) : Int))) (vy := (.int .u8 ((1 : Nat) : Int))) Tw.kr Tw.kr fun w => bn_eql rfl w) ?_
       refine wpL_done (fun W23 hW23 => ?_)
       change Code.wp ..
       cases hd10 : (decide (xh = 1)) with
       | false =>
         have h10 : ¬ (xh = 1) := of_decide_eq_false hd10
         clear hd10
         refine wp_cond_false rfl ?_
         refine wp_skip ?_
         change Code.wp ..
         refine wp_seq ?_
         refine wp_region_L _ hW23 ?_
         refine lm (v := .pointer (some ⟨g2, 2, none⟩)) rfl rfl ?_
         refine lv (v := .int .u8 ((xh : Nat) : Int)) rfl rfl (yb_cell (off := 2) rfl Tw.kr Tw.m1 Tryd.underlying5 rfl Tw.kr) ?_
         refine lp (v := .bool (decide (xh = 2))) rfl rfl (run_bin rfl (vx := (.int .u8 ((xh : Nat) : Int))) (vy := (.int .u8 ((2 : Nat) : Int))) Tw.kr Tw.kr fun w => bn_eql rfl w) ?_
         refine wpL_done (fun W24 hW24 => ?_)
         change Code.wp ..
         cases hd11 : (decide (xh = 2)) with
         | false =>
           have h11 : ¬ (xh = 2) := of_decide_eq_false hd11
           clear hd11
           refine wp_cond_false rfl ?_
           refine wp_skip ?_
           exact ⟨((4 * bn) + 2), (by rw [show xh = 0 from by omega]; rfl), Tw.om, join_mk Tw.kr (hW24.sub (fun p hp => by first | exact hp | (simp only [List.mem_cons, List.mem_append, List.nil_append, List.not_mem_nil, or_assoc, or_false, false_or] at hp ⊢ <;> grind)))⟩
         | true =>
           have h11 : xh = 2 := of_decide_eq_true hd11
           clear hd11
           refine wp_cond_true rfl ?_
           refine wp_region_L _ hW24 ?_
           refine lm (v := .pointer (some ⟨g10, 0, none⟩)) rfl rfl ?_
           refine lv (v := .int .i64 ((bn : Nat) : Int)) rfl rfl (yb_cell (off := 0) (v := .int .i64 ((bn : Nat) : Int)) rfl Tw.kr Tw.m0 Tryd.underlying3 rfl Tw.kr) ?_
           refine lp (v := .int .i64 (((4 * bn) : Nat) : Int)) rfl rfl (run_bin rfl (vx := (.int .i64 ((4 : Nat) : Int))) (vy := (.int .i64 ((bn : Nat) : Int))) Tw.kr Tw.kr fun w => bn_mul (z := (4 * bn)) rfl (wr_i64 Tw.om) w) ?_
           refine lp (v := .int .i64 ((((4 * bn) + 3) : Nat) : Int)) rfl rfl (run_bin rfl (vx := (.int .i64 (((4 * bn) : Nat) : Int))) (vy := (.int .i64 ((3 : Nat) : Int))) Tw.kr Tw.kr fun w => bn_add (z := ((4 * bn) + 3)) rfl (wr_i64 Tw.om) w) ?_
           refine lm (v := .int .i64 ((((4 * bn) + 3) : Nat) : Int)) rfl rfl ?_
           refine wpL_done (fun W25 hW25 => ?_)
           exact ⟨((4 * bn) + 3), (by rw [h11]; rfl), Tw.om, join_mk Tw.kr (hW25.sub (fun p hp => by first | exact hp | (simp only [List.mem_cons, List.mem_append, List.nil_append, List.not_mem_nil, or_assoc, or_false, false_or] at hp ⊢ <;> grind)))⟩
       | true =>
         have h10 : xh = 1 := of_decide_eq_true hd10
         clear hd10
         refine wp_cond_true rfl ?_
         refine wp_region_L _ hW23 ?_
         refine lm (v := .pointer (some ⟨g10, 0, none⟩)) rfl rfl ?_
         refine lv (v := .int .i64 ((bn : Nat) : Int)) rfl rfl (yb_cell (off := 0) (v := .int .i64 ((bn : Nat) : Int)) rfl Tw.kr Tw.m0 Tryd.underlying3 rfl Tw.kr) ?_
         refine lp (v := .int .i64 (((4 * bn) : Nat) : Int)) rfl rfl (run_bin rfl (vx := (.int .i64 ((4 : Nat) : Int))) (vy := (.int .i64 ((bn : Nat) : Int))) Tw.kr Tw.kr fun w => bn_mul (z := (4 * bn)) rfl (wr_i64 Tw.om) w) ?_
         refine lp (v := .int .i64 ((((4 * bn) + 1) : Nat) : Int)) rfl rfl (run_bin rfl (vx := (.int .i64 (((4 * bn) : Nat) : Int))) (vy := (.int .i64 ((1 : Nat) : Int))) Tw.kr Tw.kr fun w => bn_add (z := ((4 * bn) + 1)) rfl (wr_i64 Tw.om) w) ?_
         refine lm (v := .int .i64 ((((4 * bn) + 1) : Nat) : Int)) rfl rfl ?_
         refine wpL_done (fun W26 hW26 => ?_)
         change Code.wp ..
         refine wp_seq ?_
         refine wp_region_L _ hW26 ?_
         refine lm (v := .pointer (some ⟨g2, 2, none⟩)) rfl rfl ?_
         refine lv (v := .int .u8 ((xh : Nat) : Int)) rfl rfl (yb_cell (off := 2) rfl Tw.kr Tw.m1 Tryd.underlying5 rfl Tw.kr) ?_
         refine lp (v := .bool (decide (xh = 2))) rfl rfl (run_bin rfl (vx := (.int .u8 ((xh : Nat) : Int))) (vy := (.int .u8 ((2 : Nat) : Int))) Tw.kr Tw.kr fun w => bn_eql rfl w) ?_
         refine wpL_done (fun W27 hW27 => ?_)
         change Code.wp ..
         cases hd12 : (decide (xh = 2)) with
         | false =>
           have h12 : ¬ (xh = 2) := of_decide_eq_false hd12
           clear hd12
           refine wp_cond_false rfl ?_
           refine wp_skip ?_
           exact ⟨((4 * bn) + 1), (by rw [h10]; rfl), Tw.om, join_mk Tw.kr (hW27.sub (fun p hp => by first | exact hp | (simp only [List.mem_cons, List.mem_append, List.nil_append, List.not_mem_nil, or_assoc, or_false, false_or] at hp ⊢ <;> grind)))⟩
         | true =>
           have h12 : xh = 2 := of_decide_eq_true hd12
           clear hd12
           omega
     · rintro a3 W3j ⟨nv, hnv, hnb, ⟨zx3, rfl⟩, hW3j⟩
       dsimp only [cutT]
       refine wp_seq ?_
       refine wp_region_L _ hW3j ?_
       refine lm (v := .pointer (some ⟨g2, 1, none⟩)) rfl rfl ?_
       refine lv (v := .int .i64 ((tn : Nat) : Int)) rfl rfl (yb_cell (off := 1) rfl Tw.kr Tw.m1 Tryd.underlying3 rfl Tw.kr) ?_
       refine lm (v := .pointer (some ⟨g2, 1, none⟩)) rfl rfl ?_
       refine lv (v := .int .i64 ((tn : Nat) : Int)) rfl rfl (yb_cell (off := 1) rfl Tw.kr Tw.m1 Tryd.underlying3 rfl Tw.kr) ?_
       refine lp (v := .int .i64 (((tn + tn) : Nat) : Int)) rfl rfl (run_bin rfl (vx := (.int .i64 ((tn : Nat) : Int))) (vy := (.int .i64 ((tn : Nat) : Int))) Tw.kr Tw.kr fun w => bn_add (z := (tn + tn)) rfl (wr_i64 Tw.om) w) ?_
       refine lp (v := .int .i64 ((((tn + tn) + 2) : Nat) : Int)) rfl rfl (run_bin rfl (vx := (.int .i64 (((tn + tn) : Nat) : Int))) (vy := (.int .i64 ((2 : Nat) : Int))) Tw.kr Tw.kr fun w => bn_add (z := ((tn + tn) + 2)) rfl (wr_i64 Tw.om) w) ?_
       refine lm (v := .int .i64 ((((tn + tn) + 2) : Nat) : Int)) rfl rfl ?_
       refine wpL_done (fun W28 hW28 => ?_)
       change Code.wp ..
       refine wp_joins (fun az wz => ∃ (tv : Nat), (tv = tierN tn (colN bn rn zc).deck) ∧ (tv ≤ 99) ∧ JoinR (fun zq => List.toArray ((.agg (shC (.slice pc cs.length cc) (.slice po os.length co) t).toArray) :: (.agg #[.int .i64 ((m : Nat) : Int), .int .i64 ((tn : Nat) : Int), .int .u8 ((xh : Nat) : Int)]) :: (.pointer (some ⟨g1, 0, none⟩)) :: (.pointer (some ⟨g2, 0, none⟩)) :: (strV []) :: (.int .i64 0) :: (.pointer (some ⟨g10, 0, none⟩)) :: (.int .i64 ((nv : Nat) : Int)) :: (.int .i64 ((tv : Nat) : Int)) :: (.agg (shC (.slice pc cs.length cc) (.slice po os.length co) t).toArray) :: (.bool true) :: (.bool false) :: (.agg (shC (.slice pc cs.length cc) (.slice po os.length co) t).toArray) :: (.agg #[.int .i64 ((m : Nat) : Int), .int .i64 ((tn : Nat) : Int), .int .u8 ((xh : Nat) : Int)]) :: (.bool true) :: (.bool false) :: (.bool false) :: (undef) :: (undef) :: (undef) :: (undef) :: (.bool false) :: (.pointer (some ⟨g1, 0, none⟩)) :: (.slice pc cs.length cc) :: (.pointer (some ⟨g2, 0, none⟩)) :: (.int .i64 ((m : Nat) : Int)) :: (.pointer (some ⟨g9_, f9_ + m * 12, none⟩)) :: (.agg (colC (colN bn rn zc)).toArray) :: (.pointer (some ⟨g10, 0, none⟩)) :: (.int .i64 ((bn : Nat) : Int)) :: (.int .i64 (((4 * bn) : Nat) : Int)) :: (.int .i64 ((((4 * bn) + 2) : Nat) : Int)) :: (zx3 32) :: (zx3 33) :: (zx3 34) :: (zx3 35) :: (zx3 36) :: (zx3 37) :: (zx3 38) :: (zx3 39) :: (zx3 40) :: (zx3 41) :: (zx3 42) :: (zx3 43) :: (zx3 44) :: (zx3 45) :: (.pointer (some ⟨g2, 1, none⟩)) :: (.int .i64 ((tn : Nat) : Int)) :: (.pointer (some ⟨g2, 1, none⟩)) :: (.int .i64 ((tn : Nat) : Int)) :: (.int .i64 (((tn + tn) : Nat) : Int)) :: (.int .i64 ((((tn + tn) + 2) : Nat) : Int)) :: zq 52 :: zq 53 :: zq 54 :: zq 55 :: zq 56 :: zq 57 :: undef :: undef :: undef :: undef :: undef :: undef :: undef :: undef :: undef :: undef :: undef :: undef :: undef :: undef :: undef :: undef :: undef :: undef :: undef :: undef :: undef :: undef :: undef :: undef :: undef :: undef :: undef :: undef :: undef :: undef :: undef :: undef :: undef :: [])) w [(g10, .cells (colC (colN bn rn zc)).toArray 65 (0, 0)), (g2, .cells #[.int .i64 ((m : Nat) : Int), .int .i64 ((tn : Nat) : Int), .int .u8 ((xh : Nat) : Int)] 34 (0, 0)), (g1, .cells (shC (.slice pc cs.length cc) (.slice po os.length co) t).toArray 32 (0, 0))] az wz) 2 ?_ ?_
       · change Code.wp ..
         refine wp_seq ?_
         refine wp_region_L _ hW28 ?_
         refine lm (v := .pointer (some ⟨g10, 2, none⟩)) rfl rfl ?_
         refine lv (v := .bool ((colN bn rn zc).deck)) rfl rfl (yb_cell (off := 2) rfl Tw.kr Tw.m0 Tryd.underlying4 rfl Tw.kr) ?_
         refine wpL_done (fun W29 hW29 => ?_)
         change Code.wp ..
         cases h13 : ((colN bn rn zc).deck) with
         | false =>
           refine wp_cond_false rfl ?_
           refine wp_skip ?_
           change Code.wp ..
           refine wp_seq ?_
           refine wp_region_L _ hW29 ?_
           refine lm (v := .int .i64 ((((tn + tn) + 2) : Nat) : Int)) rfl rfl ?_
           refine lp (v := .bool (decide (((tn + tn) + 2) = 100))) rfl rfl (run_bin rfl (vx := (.int .i64 ((((tn + tn) + 2) : Nat) : Int))) (vy := (.int .i64 ((100 : Nat) : Int))) Tw.kr Tw.kr fun w => bn_eql rfl w) ?_
           refine wpL_done (fun W30 hW30 => ?_)
           change Code.wp ..
           cases hd14 : (decide (((tn + tn) + 2) = 100)) with
           | false =>
             have h14 : ¬ (((tn + tn) + 2) = 100) := of_decide_eq_false hd14
             clear hd14
             refine wp_cond_false rfl ?_
             refine wp_skip ?_
             exact ⟨((tn + tn) + 2), (by (try rw [h13]); unfold tierN; simp <;> omega), Tw.om, join_mk Tw.kr (hW30.sub (fun p hp => by first | exact hp | (simp only [List.mem_cons, List.mem_append, List.nil_append, List.not_mem_nil, or_assoc, or_false, false_or] at hp ⊢ <;> grind)))⟩
           | true =>
             have h14 : ((tn + tn) + 2) = 100 := of_decide_eq_true hd14
             clear hd14
             omega
         | true =>
           refine wp_cond_true rfl ?_
           refine wp_region_L _ hW29 ?_
           refine lm (v := .int .i64 ((((tn + tn) + 2) : Nat) : Int)) rfl rfl ?_
           refine lp (v := .int .i64 (((((tn + tn) + 2) + 80) : Nat) : Int)) rfl rfl (run_bin rfl (vx := (.int .i64 ((((tn + tn) + 2) : Nat) : Int))) (vy := (.int .i64 ((80 : Nat) : Int))) Tw.kr Tw.kr fun w => bn_add (z := (((tn + tn) + 2) + 80)) rfl (wr_i64 Tw.om) w) ?_
           refine lm (v := .int .i64 (((((tn + tn) + 2) + 80) : Nat) : Int)) rfl rfl ?_
           refine wpL_done (fun W31 hW31 => ?_)
           change Code.wp ..
           refine wp_seq ?_
           refine wp_region_L _ hW31 ?_
           refine lm (v := .int .i64 (((((tn + tn) + 2) + 80) : Nat) : Int)) rfl rfl ?_
           refine lp (v := .bool (decide ((((tn + tn) + 2) + 80) = 100))) rfl rfl (run_bin rfl (vx := (.int .i64 (((((tn + tn) + 2) + 80) : Nat) : Int))) (vy := (.int .i64 ((100 : Nat) : Int))) Tw.kr Tw.kr fun w => bn_eql rfl w) ?_
           refine wpL_done (fun W32 hW32 => ?_)
           change Code.wp ..
           cases hd15 : (decide ((((tn + tn) + 2) + 80) = 100)) with
           | false =>
             have h15 : ¬ ((((tn + tn) + 2) + 80) = 100) := of_decide_eq_false hd15
             clear hd15
             refine wp_cond_false rfl ?_
             refine wp_skip ?_
             exact ⟨(((tn + tn) + 2) + 80), (by (try rw [h13]); unfold tierN; simp <;> omega), Tw.om, join_mk Tw.kr (hW32.sub (fun p hp => by first | exact hp | (simp only [List.mem_cons, List.mem_append, List.nil_append, List.not_mem_nil, or_assoc, or_false, false_or] at hp ⊢ <;> grind)))⟩
           | true =>
             have h15 : (((tn + tn) + 2) + 80) = 100 := of_decide_eq_true hd15
             clear hd15
             refine wp_cond_true rfl ?_
             refine wp_region_L _ hW32 ?_
             refine lm (v := .int .i64 0) rfl rfl ?_
             refine wpL_done (fun W33 hW33 => ?_)
             exact ⟨0, (by (try rw [h13]); unfold tierN; simp <;> omega), Tw.om, join_mk Tw.kr (hW33.sub (fun p hp => by first | exact hp | (simp only [List.mem_cons, List.mem_append, List.nil_append, List.not_mem_nil, or_assoc, or_false, false_or] at hp ⊢ <;> grind)))⟩
       · rintro a4 W4j ⟨tv, htv, htb, ⟨zx4, rfl⟩, hW4j⟩
         dsimp only [cutT]
         refine wp_seq ?_
         refine wp_region_L _ hW4j ?_
         refine lm (v := .int .i64 ((nv : Nat) : Int)) rfl rfl ?_
         refine lp (v := .int .i64 (((nv / 100) : Nat) : Int)) rfl rfl (run_bin rfl (vx := (.int .i64 ((nv : Nat) : Int))) (vy := (.int .i64 ((100 : Nat) : Int))) Tw.kr Tw.kr fun w => bn_quo (z := (nv / 100)) rfl Tw.om (wr_i64 Tw.om) w) ?_
         refine lp (v := .int .i64 (((48 + (nv / 100)) : Nat) : Int)) rfl rfl (run_bin rfl (vx := (.int .i64 ((48 : Nat) : Int))) (vy := (.int .i64 (((nv / 100) : Nat) : Int))) Tw.kr Tw.kr fun w => bn_add (z := (48 + (nv / 100))) rfl (wr_i64 Tw.om) w) ?_
         refine lp (v := .int .u8 (((48 + (nv / 100)) : Nat) : Int)) rfl rfl (run_conv rfl (vx := (.int .i64 (((48 + (nv / 100)) : Nat) : Int))) Tw.kr fun w => cv_int Tryd.underlying3 Tryd.underlying5 (wr_u8 Tw.om) w) ?_
         refine lm (v := .int .i64 ((nv : Nat) : Int)) rfl rfl ?_
         refine lp (v := .int .i64 (((nv / 10) : Nat) : Int)) rfl rfl (run_bin rfl (vx := (.int .i64 ((nv : Nat) : Int))) (vy := (.int .i64 ((10 : Nat) : Int))) Tw.kr Tw.kr fun w => bn_quo (z := (nv / 10)) rfl Tw.om (wr_i64 Tw.om) w) ?_
         refine lp (v := .int .i64 ((((nv / 10) % 10) : Nat) : Int)) rfl rfl (run_bin rfl (vx := (.int .i64 (((nv / 10) : Nat) : Int))) (vy := (.int .i64 ((10 : Nat) : Int))) Tw.kr Tw.kr fun w => bn_rem (z := ((nv / 10) % 10)) rfl Tw.om w) ?_
         refine lp (v := .int .i64 (((48 + ((nv / 10) % 10)) : Nat) : Int)) rfl rfl (run_bin rfl (vx := (.int .i64 ((48 : Nat) : Int))) (vy := (.int .i64 ((((nv / 10) % 10) : Nat) : Int))) Tw.kr Tw.kr fun w => bn_add (z := (48 + ((nv / 10) % 10))) rfl (wr_i64 Tw.om) w) ?_
         refine lp (v := .int .u8 (((48 + ((nv / 10) % 10)) : Nat) : Int)) rfl rfl (run_conv rfl (vx := (.int .i64 (((48 + ((nv / 10) % 10)) : Nat) : Int))) Tw.kr fun w => cv_int Tryd.underlying3 Tryd.underlying5 (wr_u8 Tw.om) w) ?_
         refine lm (v := .int .i64 ((nv : Nat) : Int)) rfl rfl ?_
         refine lp (v := .int .i64 (((nv % 10) : Nat) : Int)) rfl rfl (run_bin rfl (vx := (.int .i64 ((nv : Nat) : Int))) (vy := (.int .i64 ((10 : Nat) : Int))) Tw.kr Tw.kr fun w => bn_rem (z := (nv % 10)) rfl Tw.om w) ?_
         refine lp (v := .int .i64 (((48 + (nv % 10)) : Nat) : Int)) rfl rfl (run_bin rfl (vx := (.int .i64 ((48 : Nat) : Int))) (vy := (.int .i64 (((nv % 10) : Nat) : Int))) Tw.kr Tw.kr fun w => bn_add (z := (48 + (nv % 10))) rfl (wr_i64 Tw.om) w) ?_
         refine lp (v := .int .u8 (((48 + (nv % 10)) : Nat) : Int)) rfl rfl (run_conv rfl (vx := (.int .i64 (((48 + (nv % 10)) : Nat) : Int))) Tw.kr fun w => cv_int Tryd.underlying3 Tryd.underlying5 (wr_u8 Tw.om) w) ?_
         refine lm (v := .pointer (some ⟨g10, 1, none⟩)) rfl rfl ?_
         refine lv (v := .int .i64 ((rn : Nat) : Int)) rfl rfl (yb_cell (off := 1) (v := .int .i64 ((rn : Nat) : Int)) rfl Tw.kr Tw.m0 Tryd.underlying3 rfl Tw.kr) ?_
         refine lp (v := .int .i64 (((rn / 10) : Nat) : Int)) rfl rfl (run_bin rfl (vx := (.int .i64 ((rn : Nat) : Int))) (vy := (.int .i64 ((10 : Nat) : Int))) Tw.kr Tw.kr fun w => bn_quo (z := (rn / 10)) rfl Tw.om (wr_i64 Tw.om) w) ?_
         refine lp (v := .int .i64 (((48 + (rn / 10)) : Nat) : Int)) rfl rfl (run_bin rfl (vx := (.int .i64 ((48 : Nat) : Int))) (vy := (.int .i64 (((rn / 10) : Nat) : Int))) Tw.kr Tw.kr fun w => bn_add (z := (48 + (rn / 10))) rfl (wr_i64 Tw.om) w) ?_
         refine lp (v := .int .u8 (((48 + (rn / 10)) : Nat) : Int)) rfl rfl (run_conv rfl (vx := (.int .i64 (((48 + (rn / 10)) : Nat) : Int))) Tw.kr fun w => cv_int Tryd.underlying3 Tryd.underlying5 (wr_u8 Tw.om) w) ?_
         refine lm (v := .pointer (some ⟨g10, 1, none⟩)) rfl rfl ?_
         refine lv (v := .int .i64 ((rn : Nat) : Int)) rfl rfl (yb_cell (off := 1) (v := .int .i64 ((rn : Nat) : Int)) rfl Tw.kr Tw.m0 Tryd.underlying3 rfl Tw.kr) ?_
         refine lp (v := .int .i64 (((rn % 10) : Nat) : Int)) rfl rfl (run_bin rfl (vx := (.int .i64 ((rn : Nat) : Int))) (vy := (.int .i64 ((10 : Nat) : Int))) Tw.kr Tw.kr fun w => bn_rem (z := (rn % 10)) rfl Tw.om w) ?_
         refine lp (v := .int .i64 (((48 + (rn % 10)) : Nat) : Int)) rfl rfl (run_bin rfl (vx := (.int .i64 ((48 : Nat) : Int))) (vy := (.int .i64 (((rn % 10) : Nat) : Int))) Tw.kr Tw.kr fun w => bn_add (z := (48 + (rn % 10))) rfl (wr_i64 Tw.om) w) ?_
         refine lp (v := .int .u8 (((48 + (rn % 10)) : Nat) : Int)) rfl rfl (run_conv rfl (vx := (.int .i64 (((48 + (rn % 10)) : Nat) : Int))) Tw.kr fun w => cv_int Tryd.underlying3 Tryd.underlying5 (wr_u8 Tw.om) w) ?_
         refine lm (v := .int .i64 ((tv : Nat) : Int)) rfl rfl ?_
         refine lp (v := .int .i64 (((tv / 10) : Nat) : Int)) rfl rfl (run_bin rfl (vx := (.int .i64 ((tv : Nat) : Int))) (vy := (.int .i64 ((10 : Nat) : Int))) Tw.kr Tw.kr fun w => bn_quo (z := (tv / 10)) rfl Tw.om (wr_i64 Tw.om) w) ?_
         refine lp (v := .int .i64 (((48 + (tv / 10)) : Nat) : Int)) rfl rfl (run_bin rfl (vx := (.int .i64 ((48 : Nat) : Int))) (vy := (.int .i64 (((tv / 10) : Nat) : Int))) Tw.kr Tw.kr fun w => bn_add (z := (48 + (tv / 10))) rfl (wr_i64 Tw.om) w) ?_
         refine lp (v := .int .u8 (((48 + (tv / 10)) : Nat) : Int)) rfl rfl (run_conv rfl (vx := (.int .i64 (((48 + (tv / 10)) : Nat) : Int))) Tw.kr fun w => cv_int Tryd.underlying3 Tryd.underlying5 (wr_u8 Tw.om) w) ?_
         refine lm (v := .int .i64 ((tv : Nat) : Int)) rfl rfl ?_
         refine lp (v := .int .i64 (((tv % 10) : Nat) : Int)) rfl rfl (run_bin rfl (vx := (.int .i64 ((tv : Nat) : Int))) (vy := (.int .i64 ((10 : Nat) : Int))) Tw.kr Tw.kr fun w => bn_rem (z := (tv % 10)) rfl Tw.om w) ?_
         refine lp (v := .int .i64 (((48 + (tv % 10)) : Nat) : Int)) rfl rfl (run_bin rfl (vx := (.int .i64 ((48 : Nat) : Int))) (vy := (.int .i64 (((tv % 10) : Nat) : Int))) Tw.kr Tw.kr fun w => bn_add (z := (48 + (tv % 10))) rfl (wr_i64 Tw.om) w) ?_
         refine lp (v := .int .u8 (((48 + (tv % 10)) : Nat) : Int)) rfl rfl (run_conv rfl (vx := (.int .i64 (((48 + (tv % 10)) : Nat) : Int))) Tw.kr fun w => cv_int Tryd.underlying3 Tryd.underlying5 (wr_u8 Tw.om) w) ?_
         refine wpL_new (fun g => .slice (some ⟨g, 0, none⟩) 7 7) (obi := .cells #[.int .u8 (((48 + (nv / 100)) : Nat) : Int), .int .u8 (((48 + ((nv / 10) % 10)) : Nat) : Int), .int .u8 (((48 + (nv % 10)) : Nat) : Int), .int .u8 (((48 + (rn / 10)) : Nat) : Int), .int .u8 (((48 + (rn % 10)) : Nat) : Int), .int .u8 (((48 + (tv / 10)) : Nat) : Int), .int .u8 (((48 + (tv % 10)) : Nat) : Int)] 5 (0, 0)) rfl rfl Tw.kf Tw.pf fun g12 Bg12 Fg12 => ?_
         obtain ⟨dj13_0, dj13_1, dj13_2⟩ : g10 ≠ g12 ∧ g2 ≠ g12 ∧ g1 ≠ g12 := Tw.dkf Fg12
         refine lv (v := strV [UInt8.ofNat (48 + (nv / 100)), UInt8.ofNat (48 + ((nv / 10) % 10)), UInt8.ofNat (48 + (nv % 10)), UInt8.ofNat (48 + (rn / 10)), UInt8.ofNat (48 + (rn % 10)), UInt8.ofNat (48 + (tv / 10)), UInt8.ofNat (48 + (tv % 10))]) rfl rfl (yb_str (n := 7) (cap := 7) (l := [UInt8.ofNat (48 + (nv / 100)), UInt8.ofNat (48 + ((nv / 10) % 10)), UInt8.ofNat (48 + (nv % 10)), UInt8.ofNat (48 + (rn / 10)), UInt8.ofNat (48 + (rn % 10)), UInt8.ofNat (48 + (tv / 10)), UInt8.ofNat (48 + (tv % 10))]) rfl Tryd.underlying78 Tryd.underlying5 Tryd.underlying9 Tw.kr rfl Tw.m0 (by simp [RowB, u8s] <;> omega)) ?_
         refine lm (v := strV [UInt8.ofNat (48 + (nv / 100)), UInt8.ofNat (48 + ((nv / 10) % 10)), UInt8.ofNat (48 + (nv % 10)), UInt8.ofNat (48 + (rn / 10)), UInt8.ofNat (48 + (rn % 10)), UInt8.ofNat (48 + (tv / 10)), UInt8.ofNat (48 + (tv % 10))]) rfl rfl ?_
         refine lm (v := .int .i64 0) rfl rfl ?_
         refine wpL_done (fun W34 hW34 => ?_)
         change Code.wp ..
         refine wp_ret ?_
         try simp only [inBlock_ret, then_ret]
         refine bodyPost_ret (v := .tuple #[strV [UInt8.ofNat (48 + (nv / 100)), UInt8.ofNat (48 + ((nv / 10) % 10)), UInt8.ofNat (48 + (nv % 10)), UInt8.ofNat (48 + (rn / 10)), UInt8.ofNat (48 + (rn % 10)), UInt8.ofNat (48 + (tv / 10)), UInt8.ofNat (48 + (tv % 10))], .int .i64 0]) ?_ rfl ?_
         · kernel_rfl
         · exact ⟨(si_is (by unfold nameR; rw [if_pos h1, if_pos hiS, name_at hy, show (colN bn rn zc).bay.toNat = bn from rfl, show (colN bn rn zc).row.toNat = rn from rfl, Int.toNat_natCast, name_bytes hbb hrr htt9, ← hnv, ← htv])), hW34.1⟩
end Go.Proofs.YtlinjngifacmoaaDoor
namespace Go.Proofs.YtlinjngifacmoaaDoor
open Go Go.RowKit Tw
set_option maxRecDepth 100000 in
set_option maxHeartbeats 4000000 in
theorem R8All_any (cs : List Col) (pc : Option Addr) (cc : Nat) (lc : cs.length ≤ 1000) (os : List Cov) (po : Option Addr) (co : Nat) (lo : os.length ≤ 4000000000) (t : Tl) (ht : ∀ c ∈ cs, c.tiers ≤ 1000) (z : Nat) (w : World) (hc : SLV w pc (cs.flatMap colC)) (ho : SLV w po (os.flatMap covC)) : Calls Tryd.prog 18 #[.agg (shC (.slice pc cs.length cc) (.slice po os.length co) t).toArray, .int .i64 ((z : Nat) : Int)] w fun e w' => ∃ v, e = .returned v ∧ OutV w w' 34 3 v (slotsX cs z).length ((slotsX cs z).flatMap sltC) ∧ Below w.heap.size w w' := by
 have HC := Lib.hid hc
 clear hc
 have HO := Lib.hid ho
 clear ho
 go_enter Tryd.func18, Tryd.ntmps18
 refine wp_seq ?_
 refine wp_region_L [] (KS.start w) ?_
 refine wpL_new (fun g => .pointer (some ⟨g, 0, none⟩)) (obi := .cells (shC (.slice pc cs.length cc) (.slice po os.length co) t).toArray 32 (0, 0)) rfl rfl Tw.kf Tw.pf fun g1 Bg1 Fg1 => ?_
 refine lm (v := .slice none 0 0) rfl rfl ?_
 refine wpL_done (fun W1 hW1 => ?_)
 change Code.wp ..
 refine wp_seq ?_
 refine wp_region_L _ hW1 ?_
 refine lm (v := .slice none 0 0) rfl rfl ?_
 refine wpL_done (fun W2 hW2 => ?_)
 change Code.wp ..
 refine wp_seq ?_
 refine wp_seq ?_
 refine wp_region_L _ hW2 ?_
 refine lm (v := .int .i64 0) rfl rfl ?_
 refine wpL_done (fun W3 hW3 => ?_)
 change Code.wp ..
 refine wp_block ?_
 go_loopw [6, 5] (fun u6 u5 wr => ∃ (k : Nat) (va : Value) (Ka : List (Nat × Obj)), (k ≤ cs.length) ∧ ((slotsF z 0 (cs.take k)).length ≤ 3000 * k) ∧ (OwnL w 34 3 va (slotsF z 0 (cs.take k)).length ((slotsF z 0 (cs.take k)).flatMap sltC) Ka) ∧ (Dk g1 Ka) ∧ u6 = .int .i64 ((k : Nat) : Int) ∧ va = u5 ∧ KS w ((g1, .cells (shC (.slice pc cs.length cc) (.slice po os.length co) t).toArray 32 (0, 0)) :: Ka) wr) (fun u6 _ _ => cs.length - (intOf u6).toNat)
 case atStart => exact ⟨0, .slice none 0 0, [], (Nat.zero_le _), (Nat.le_refl _), (OwnL.nil _ _ _), (show Dk g1 [] from Tw.djt), rfl, rfl, (hW3.sub (fun p hp => by first | exact hp | (simp only [List.mem_cons, List.mem_append, List.nil_append, List.not_mem_nil, or_assoc, or_false, false_or] at hp ⊢ <;> grind)))⟩
 case round =>
   obtain ⟨k, va, Ka, hk, hla, hOa, dh2_0, rfl, rfl, hL4⟩ := hrel
   refine wp_seq ?_
   refine wp_seq ?_
   refine wp_region_L _ hL4 ?_
   refine lm (v := .int .i64 ((k : Nat) : Int)) rfl rfl ?_
   refine lm (v := .pointer (some ⟨g1, 0, none⟩)) rfl rfl ?_
   refine lv (v := .slice pc cs.length cc) rfl rfl (yb_cell (off := 0) rfl Tw.kr Tw.m0 Tryd.underlying22 rfl Tw.kr) ?_
   refine lp (v := .int .i64 ((cs.length : Nat) : Int)) rfl rfl (run_lenL (p := pc) (cap := cc) (n := cs.length) rfl Tryd.underlying22 Tw.kr) ?_
   refine lp (v := .bool (decide (k < cs.length))) rfl rfl (run_bin rfl (vx := (.int .i64 ((k : Nat) : Int))) (vy := (.int .i64 ((cs.length : Nat) : Int))) Tw.kr Tw.kr fun w => bn_lss rfl w) ?_
   refine wpL_done (fun W5 hW5 => ?_)
   change Code.wp ..
   cases hd1 : (decide (k < cs.length)) with
   | false =>
     have h1 : ¬ (k < cs.length) := of_decide_eq_false hd1
     clear hd1
     refine wp_cond_false rfl ?_
     refine wp_exit ?_
     change Code.wp ..
     refine wp_seq ?_
     refine wp_region_L _ hW5 ?_
     refine lm (v := va) rfl rfl ?_
     refine lm (v := va) rfl rfl ?_
     refine wpL_done (fun W6 hW6 => ?_)
     change Code.wp ..
     refine wp_ret ?_
     try simp only [inBlock_ret, then_ret]
     refine bodyPost_ret (v := va) ?_ rfl ?_
     · kernel_rfl
     · exact ⟨_, rfl, (by have h9 := hOa; rw [show k = cs.length from by omega, List.take_length] at h9; exact h9.out (fun p hp => by simp only [List.mem_cons, List.mem_append, List.nil_append, List.not_mem_nil, or_assoc, or_false, false_or, hp, true_or, or_true]) hW6), hW6.1⟩
   | true =>
     have h1 : k < cs.length := of_decide_eq_true hd1
     clear hd1
     refine wp_cond_true rfl ?_
     refine wp_skip ?_
     change Code.wp ..
     refine wp_seq ?_
     refine wp_block ?_
     refine wp_seq ?_
     refine wp_region_L _ hW5 ?_
     refine lm (v := .int .i64 0) rfl rfl ?_
     refine wpL_done (fun W7 hW7 => ?_)
     change Code.wp ..
     refine wp_block ?_
     obtain ⟨yc, hyc⟩ : ∃ y, cs[k]? = some y := ⟨_, List.getElem?_eq_getElem Tw.om⟩
     have hyt := ht yc (List.mem_of_getElem? hyc)
     go_loopw [7, 5] (fun u7 u5 wr => ∃ (tt : Nat) (vb : Value) (Kb : List (Nat × Obj)), (tt ≤ 1000) ∧ (((tt : Nat) : Int) ≤ yc.tiers ∨ tt = 0) ∧ (((slotsF z 0 (cs.take k)) ++ upT z k tt).length ≤ 3000 * k + 3 * tt) ∧ (OwnL w 34 3 vb ((slotsF z 0 (cs.take k)) ++ upT z k tt).length (((slotsF z 0 (cs.take k)) ++ upT z k tt).flatMap sltC) Kb) ∧ (Dk g1 Kb) ∧ u7 = .int .i64 ((tt : Nat) : Int) ∧ vb = u5 ∧ KS w ((g1, .cells (shC (.slice pc cs.length cc) (.slice po os.length co) t).toArray 32 (0, 0)) :: Kb) wr) (fun u7 _ _ => 1000 - (intOf u7).toNat)
     case atStart => exact ⟨0, va, Ka, (Nat.zero_le _), (.inr rfl), (by rw [show (slotsF z 0 (cs.take k)) ++ upT z k 0 = (slotsF z 0 (cs.take k)) from List.append_nil _]; omega), (by rw [show (slotsF z 0 (cs.take k)) ++ upT z k 0 = (slotsF z 0 (cs.take k)) from List.append_nil _]; exact hOa), (show Dk g1 Ka from Tw.djt), rfl, rfl, (hW7.sub (fun p hp => by first | exact hp | (simp only [List.mem_cons, List.mem_append, List.nil_append, List.not_mem_nil, or_assoc, or_false, false_or] at hp ⊢ <;> grind)))⟩
     case round =>
       obtain ⟨tt, vb, Kb, htt, hti, hlb, hOb, dh3_0, rfl, rfl, hL8⟩ := hrel
       refine wp_seq ?_
       refine wp_seq ?_
       refine wp_region_L _ hL8 ?_
       refine lm (v := .int .i64 ((tt : Nat) : Int)) rfl rfl ?_
       refine lm (v := .pointer (some ⟨g1, 0, none⟩)) rfl rfl ?_
       refine lv (v := .slice pc cs.length cc) rfl rfl (yb_cell (off := 0) rfl Tw.kr Tw.m0 Tryd.underlying22 rfl Tw.kr) ?_
       refine lm (v := .int .i64 ((k : Nat) : Int)) rfl rfl ?_
       obtain ⟨y4, g4_, f4_, hy4, hp4, hc4⟩ := RL.at (RL.base HC.out) colC_len (by decide) (hL8.sub (fun _ h => by cases h)) (k := k) Tw.om
       have ey4 : yc = y4 := by rw [hyc] at hy4; exact Option.some.inj hy4
       subst ey4
       refine lp (v := .pointer (some ⟨g4_, f4_ + k * 12, none⟩)) rfl rfl (run_idxQ (p := pc) (cap := cc) (n := cs.length) (j := .i64) (k := k) (sz := 12) rfl Tryd.underlying22 Tw.kr Tw.kr hp4 Tw.kr Tw.om) ?_
       refine lm (v := .pointer (some ⟨g4_, f4_ + k * 12 + 3, none⟩)) rfl rfl ?_
       refine lv (v := .int .i64 yc.tiers) rfl rfl (yb_rf (v := .int .i64 yc.tiers) rfl Tw.kr (fun W hW => hc4 W (hW.sub (fun _ h => by cases h)) 3 _ rfl) Tryd.underlying3 rfl) ?_
       refine lp (v := .bool (decide (((tt : Nat) : Int) < yc.tiers))) rfl rfl (run_bin rfl (vx := (.int .i64 ((tt : Nat) : Int))) (vy := (.int .i64 yc.tiers)) Tw.kr Tw.kr fun w => bi_lss rfl w) ?_
       refine wpL_done (fun W9 hW9 => ?_)
       change Code.wp ..
       cases hd2 : (decide (((tt : Nat) : Int) < yc.tiers)) with
       | false =>
         have h2 : ¬ (((tt : Nat) : Int) < yc.tiers) := of_decide_eq_false hd2
         clear hd2
         refine wp_cond_false rfl ?_
         refine wp_exit ?_
         change Code.wp ..
         refine wp_region_L _ hW9 ?_
         refine lm (v := .int .i64 ((k : Nat) : Int)) rfl rfl ?_
         refine lp (v := .int .i64 (((k + 1) : Nat) : Int)) rfl rfl (run_bin rfl (vx := (.int .i64 ((k : Nat) : Int))) (vy := (.int .i64 ((1 : Nat) : Int))) Tw.kr Tw.kr fun w => bn_add (z := (k + 1)) rfl (wr_i64 Tw.om) w) ?_
         refine lm (v := .int .i64 (((k + 1) : Nat) : Int)) rfl rfl ?_
         refine wpL_done (fun W10 hW10 => ?_)
         go_roundw
         case rel =>
           repeat apply Exists.intro
           exact ⟨⟨k + 1, vb, Kb, Tw.om, (by have h9 := hlb; rw [upT_all h2 hti, ← slotsF_take hyc] at h9; omega), (by have h9 := hOb; rw [upT_all h2 hti, ← slotsF_take hyc] at h9; exact h9), (show Dk g1 Kb from Tw.djt), rfl, rfl, (hW10.sub (fun p hp => by first | exact hp | (simp only [List.mem_cons, List.mem_append, List.nil_append, List.not_mem_nil, or_assoc, or_false, false_or] at hp ⊢ <;> grind)))⟩, rfl⟩
         case measure => (show cs.length - (intOf (.int .i64 (((k + 1) : Nat) : Int))).toNat < cs.length - (intOf (.int .i64 ((k : Nat) : Int))).toNat); simp only [intOf]; omega
       | true =>
         have h2 : ((tt : Nat) : Int) < yc.tiers := of_decide_eq_true hd2
         clear hd2
         refine wp_cond_true rfl ?_
         refine wp_skip ?_
         change Code.wp ..
         refine wp_seq ?_
         refine wp_block ?_
         refine wp_seq ?_
         refine wp_region_L _ hW9 ?_
         refine lm (v := .int .u8 0) rfl rfl ?_
         refine wpL_done (fun W11 hW11 => ?_)
         change Code.wp ..
         refine wp_block ?_
         go_loopw [8, 5] (fun u8 u5 wr => ∃ (h : Nat) (vd : Value) (Kd : List (Nat × Obj)), (h ≤ 3) ∧ ((((slotsF z 0 (cs.take k)) ++ upT z k tt) ++ upH z k tt h).length ≤ 3000 * k + 3 * tt + h) ∧ (OwnL w 34 3 vd (((slotsF z 0 (cs.take k)) ++ upT z k tt) ++ upH z k tt h).length ((((slotsF z 0 (cs.take k)) ++ upT z k tt) ++ upH z k tt h).flatMap sltC) Kd) ∧ (Dk g1 Kd) ∧ u8 = .int .u8 ((h : Nat) : Int) ∧ vd = u5 ∧ KS w ((g1, .cells (shC (.slice pc cs.length cc) (.slice po os.length co) t).toArray 32 (0, 0)) :: Kd) wr) (fun u8 _ _ => 3 - (intOf u8).toNat)
         case atStart => exact ⟨0, vb, Kb, (Nat.zero_le _), (by rw [show ((slotsF z 0 (cs.take k)) ++ upT z k tt) ++ upH z k tt 0 = ((slotsF z 0 (cs.take k)) ++ upT z k tt) from List.append_nil _]; omega), (by rw [show ((slotsF z 0 (cs.take k)) ++ upT z k tt) ++ upH z k tt 0 = ((slotsF z 0 (cs.take k)) ++ upT z k tt) from List.append_nil _]; exact hOb), (show Dk g1 Kb from Tw.djt), rfl, rfl, (hW11.sub (fun p hp => by first | exact hp | (simp only [List.mem_cons, List.mem_append, List.nil_append, List.not_mem_nil, or_assoc, or_false, false_or] at hp ⊢ <;> grind)))⟩
         case round =>
           obtain ⟨h, vd, Kd, hh, hld, hOd, dh5_0, rfl, rfl, hL12⟩ := hrel
           refine wp_seq ?_
           refine wp_seq ?_
           refine wp_region_L _ hL12 ?_
           refine lm (v := .int .u8 ((h : Nat) : Int)) rfl rfl ?_
           refine lp (v := .bool (decide (h < 3))) rfl rfl (run_bin rfl (vx := (.int .u8 ((h : Nat) : Int))) (vy := (.int .u8 ((3 : Nat) : Int))) Tw.kr Tw.kr fun w => bn_lss rfl w) ?_
           refine wpL_done (fun W13 hW13 => ?_)
           change Code.wp ..
           cases hd3 : (decide (h < 3)) with
           | false =>
             have h3 : ¬ (h < 3) := of_decide_eq_false hd3
             clear hd3
             refine wp_cond_false rfl ?_
             refine wp_exit ?_
             change Code.wp ..
             refine wp_region_L _ hW13 ?_
             refine lm (v := .int .i64 ((tt : Nat) : Int)) rfl rfl ?_
             refine lp (v := .int .i64 (((tt + 1) : Nat) : Int)) rfl rfl (run_bin rfl (vx := (.int .i64 ((tt : Nat) : Int))) (vy := (.int .i64 ((1 : Nat) : Int))) Tw.kr Tw.kr fun w => bn_add (z := (tt + 1)) rfl (wr_i64 Tw.om) w) ?_
             refine lm (v := .int .i64 (((tt + 1) : Nat) : Int)) rfl rfl ?_
             refine wpL_done (fun W14 hW14 => ?_)
             go_roundw
             case rel =>
               repeat apply Exists.intro
               exact ⟨⟨tt + 1, vd, Kd, Tw.om, (.inl Tw.om), (by have h9 := hld; rw [show h = 3 from by omega, upH_all, List.append_assoc, ← upT_snoc] at h9; omega), (by have h9 := hOd; rw [show h = 3 from by omega, upH_all, List.append_assoc, ← upT_snoc] at h9; exact h9), (show Dk g1 Kd from Tw.djt), rfl, rfl, (hW14.sub (fun p hp => by first | exact hp | (simp only [List.mem_cons, List.mem_append, List.nil_append, List.not_mem_nil, or_assoc, or_false, false_or] at hp ⊢ <;> grind)))⟩, rfl⟩
             case measure => (show 1000 - (intOf (.int .i64 (((tt + 1) : Nat) : Int))).toNat < 1000 - (intOf (.int .i64 ((tt : Nat) : Int))).toNat); simp only [intOf]; omega
           | true =>
             have h3 : h < 3 := of_decide_eq_true hd3
             clear hd3
             refine wp_cond_true rfl ?_
             refine wp_skip ?_
             change Code.wp ..
             refine wp_seq ?_
             refine wp_block ?_
             refine wp_seq ?_
             refine wp_region_L _ hW13 ?_
             refine lm (v := .int .i64 ((k : Nat) : Int)) rfl rfl ?_
             refine lm (v := .int .i64 ((tt : Nat) : Int)) rfl rfl ?_
             refine lm (v := .int .u8 ((h : Nat) : Int)) rfl rfl ?_
             refine lm (v := .agg #[.int .i64 ((k : Nat) : Int), .int .i64 ((tt : Nat) : Int), .int .u8 ((h : Nat) : Int)]) rfl rfl ?_
             refine wpL_new (fun g => .pointer (some ⟨g, 0, none⟩)) (obi := .cells #[.int .i64 0, .int .i64 0, .int .u8 0] 34 (0, 0)) rfl rfl Tw.kf Tw.pf fun g6 Bg6 Fg6 => ?_
             obtain ⟨dj7_0, dj7_1⟩ : g1 ≠ g6 ∧ Dk g6 Kd := Tw.dkf Fg6
             refine wpL_s ((g6, .cells #[.int .i64 ((k : Nat) : Int), .int .i64 ((tt : Nat) : Int), .int .u8 ((h : Nat) : Int)] 34 (0, 0)) :: (g1, .cells (shC (.slice pc cs.length cc) (.slice po os.length co) t).toArray 32 (0, 0)) :: Kd) rfl rfl (st_row (off := 0) (v := .agg #[.int .i64 ((k : Nat) : Int), .int .i64 ((tt : Nat) : Int), .int .u8 ((h : Nat) : Int)]) rfl Tw.kr Tw.kr Tw.m0 Bg6 Tw.kr (by first | (simp [Value.cells]; done) | exact Nat.le_of_ble_eq_true rfl) (by intro v hv; simp [Value.cells] at hv; first | (subst hv; rfl) | (rcases hv with rfl | rfl | rfl <;> rfl)) Tw.kr (List.forall_mem_cons.2 ⟨.inl rfl, (List.forall_mem_cons.2 ⟨.inr ⟨Tw.m1, Tw.nee⟩, (fun p hp => .inr ⟨(.tail _ (.tail _ hp)), ((show Dk g6 Kd from Tw.djt) _ hp)⟩)⟩)⟩)) ?_
             refine wpL_done (fun W15 hW15 => ?_)
             change Code.wp ..
             refine wp_seq ?_
             refine wp_region_L _ hW15 ?_
             refine lv (v := .agg (shC (.slice pc cs.length cc) (.slice po os.length co) t).toArray) rfl rfl (yb_load (n := 13) (off := 0) rfl Tw.kr Tw.m1 Tryd.underlying32 rfl Tw.kr (by first | (simp [Value.cells]; done) | exact Nat.le_of_ble_eq_true rfl) Tw.kr) ?_
             refine lv (v := .agg #[.int .i64 ((k : Nat) : Int), .int .i64 ((tt : Nat) : Int), .int .u8 ((h : Nat) : Int)]) rfl rfl (yb_load (n := 3) (off := 0) rfl Tw.kr Tw.m0 Tryd.underlying34 rfl Tw.kr (by first | (simp [Value.cells]; done) | exact Nat.le_of_ble_eq_true rfl) Tw.kr) ?_
             refine lm (v := .int .i64 ((z : Nat) : Int)) rfl rfl ?_
             refine lv (v := .bool (rightS cs (⟨((k : Nat) : Int), ((tt : Nat) : Int), h⟩ : Slt) z)) rfl rfl (yb_call (f := 15) (args := #[.agg (shC (.slice pc cs.length cc) (.slice po os.length co) t).toArray, .agg #[.int .i64 ((k : Nat) : Int), .int .i64 ((tt : Nat) : Int), .int .u8 ((h : Nat) : Int)], .int .i64 ((z : Nat) : Int)]) Tw.kf fun W hW => R8Right_any cs pc cc Tw.om os po co Tw.om t ((k : Nat) : Int) ((tt : Nat) : Int) h z W ((RL.base HC.out) _ (hW.sub (fun _ h => by cases h))) ((RL.base HO.out) _ (hW.sub (fun _ h => by cases h)))) ?_
             refine wpL_done (fun W16 hW16 => ?_)
             change Code.wp ..
             cases h4 : (rightS cs (⟨((k : Nat) : Int), ((tt : Nat) : Int), h⟩ : Slt) z) with
             | false =>
               refine wp_cond_false rfl ?_
               refine wp_skip ?_
               change Code.wp ..
               refine wp_region_L _ hW16 ?_
               refine lm (v := .int .u8 ((h : Nat) : Int)) rfl rfl ?_
               refine lp (v := .int .u8 (((h + 1) : Nat) : Int)) rfl rfl (run_bin rfl (vx := (.int .u8 ((h : Nat) : Int))) (vy := (.int .u8 ((1 : Nat) : Int))) Tw.kr Tw.kr fun w => bn_add (z := (h + 1)) rfl (wr_u8 Tw.om) w) ?_
               refine lm (v := .int .u8 (((h + 1) : Nat) : Int)) rfl rfl ?_
               refine wpL_done (fun W17 hW17 => ?_)
               go_roundw
               case rel =>
                 repeat apply Exists.intro
                 exact ⟨⟨h + 1, vd, Kd, Tw.om, (by rw [(upH_no (by have h9 := h4; unfold rightS at h9; rw [show exS cs _ _ = true from (ex_at8 hyc Tw.om).trans (decide_eq_true h2), Bool.true_and] at h9; exact h9))]; omega), (by rw [(upH_no (by have h9 := h4; unfold rightS at h9; rw [show exS cs _ _ = true from (ex_at8 hyc Tw.om).trans (decide_eq_true h2), Bool.true_and] at h9; exact h9))]; exact hOd), (show Dk g1 Kd from Tw.djt), rfl, rfl, (hW17.sub (fun p hp => by first | exact hp | (simp only [List.mem_cons, List.mem_append, List.nil_append, List.not_mem_nil, or_assoc, or_false, false_or] at hp ⊢ <;> grind)))⟩, rfl⟩
               case measure => (show 3 - (intOf (.int .u8 (((h + 1) : Nat) : Int))).toNat < 3 - (intOf (.int .u8 ((h : Nat) : Int))).toNat); simp only [intOf]; omega
             | true =>
               refine wp_cond_true rfl ?_
               refine wp_region_L _ hW16 ?_
               refine lm (v := vd) rfl rfl ?_
               refine lv (v := .agg #[.int .i64 ((k : Nat) : Int), .int .i64 ((tt : Nat) : Int), .int .u8 ((h : Nat) : Int)]) rfl rfl (yb_load (n := 3) (off := 0) rfl Tw.kr Tw.m0 Tryd.underlying34 rfl Tw.kr (by first | (simp [Value.cells]; done) | exact Nat.le_of_ble_eq_true rfl) Tw.kr) ?_
               refine wpL_new (fun g => .slice (some ⟨g, 0, none⟩) 1 1) (obi := .cells #[.int .i64 ((k : Nat) : Int), .int .i64 ((tt : Nat) : Int), .int .u8 ((h : Nat) : Int)] 34 (0, 0)) rfl rfl Tw.kf Tw.pf fun g8 Bg8 Fg8 => ?_
               obtain ⟨dj9_0, dj9_1, dj9_2⟩ : g6 ≠ g8 ∧ g1 ≠ g8 ∧ Dk g8 Kd := Tw.dkf Fg8
               refine wpL_g (AppO w 34 3 [(g6, .cells #[.int .i64 ((k : Nat) : Int), .int .i64 ((tt : Nat) : Int), .int .u8 ((h : Nat) : Int)] 34 (0, 0)), (g1, .cells (shC (.slice pc cs.length cc) (.slice po os.length co) t).toArray 32 (0, 0))] (((((slotsF z 0 (cs.take k)) ++ upT z k tt) ++ upH z k tt h).length) + 1) (((((slotsF z 0 (cs.take k)) ++ upT z k tt) ++ upH z k tt h).flatMap sltC) ++ [.int .i64 ((k : Nat) : Int), .int .i64 ((tt : Nat) : Int), .int .u8 ((h : Nat) : Int)])) rfl rfl (app_own el_slt (m := 1) (c := 1) (news := [.int .i64 ((k : Nat) : Int), .int .i64 ((tt : Nat) : Int), .int .u8 ((h : Nat) : Int)]) rfl Tw.kr Tw.kr Tw.m0 hOd Tw.sc (fun p hp => ⟨by simp only [List.mem_cons, List.mem_append, List.nil_append, List.not_mem_nil, or_assoc, or_false, false_or] at hp ⊢ <;> grind, (show Dj [(g6, .cells #[.int .i64 ((k : Nat) : Int), .int .i64 ((tt : Nat) : Int), .int .u8 ((h : Nat) : Int)] 34 (0, 0)), (g1, .cells (shC (.slice pc cs.length cc) (.slice po os.length co) t).toArray 32 (0, 0))] Kd from Tw.djt) p hp⟩) rfl (by simp [strV, Value.oneCell']) Tw.om Tw.om Tw.om) Tw.pf ?_
               rintro v10 K9 ⟨Kl10, O10, N10, rfl⟩
               obtain ⟨dj11_0, dj11_1⟩ : Dk g6 Kl10 ∧ Dk g1 Kl10 := Tw.djf N10
               refine lm (v := v10) rfl rfl ?_
               refine wpL_done (fun W18 hW18 => ?_)
               change Code.wp ..
               refine wp_region_L _ hW18 ?_
               refine lm (v := .int .u8 ((h : Nat) : Int)) rfl rfl ?_
               refine lp (v := .int .u8 (((h + 1) : Nat) : Int)) rfl rfl (run_bin rfl (vx := (.int .u8 ((h : Nat) : Int))) (vy := (.int .u8 ((1 : Nat) : Int))) Tw.kr Tw.kr fun w => bn_add (z := (h + 1)) rfl (wr_u8 Tw.om) w) ?_
               refine lm (v := .int .u8 (((h + 1) : Nat) : Int)) rfl rfl ?_
               refine wpL_done (fun W19 hW19 => ?_)
               go_roundw
               case rel =>
                 repeat apply Exists.intro
                 exact ⟨⟨h + 1, v10, Kl10, Tw.om, (by rw [(upH_yes (Bool.and_eq_true_iff.1 h4).2)]; have h9 := hld; simp only [List.length_append, List.length_singleton] at h9 ⊢; omega), (by rw [(upH_yes (Bool.and_eq_true_iff.1 h4).2), ← List.append_assoc, List.flatMap_append, List.length_append]; exact O10), (show Dk g1 Kl10 from Tw.djt), rfl, rfl, (hW19.sub (fun p hp => by first | exact hp | (simp only [List.mem_cons, List.mem_append, List.nil_append, List.not_mem_nil, or_assoc, or_false, false_or] at hp ⊢ <;> grind)))⟩, rfl⟩
               case measure => (show 3 - (intOf (.int .u8 (((h + 1) : Nat) : Int))).toNat < 3 - (intOf (.int .u8 ((h : Nat) : Int))).toNat); simp only [intOf]; omega
end Go.Proofs.YtlinjngifacmoaaDoor
namespace Go.Proofs.YtlinjngifacmoaaDoor
open Go Go.RowKit Tw
set_option maxRecDepth 100000 in
set_option maxHeartbeats 4000000 in
theorem R8Find_any (cs : List Col) (pc : Option Addr) (cc : Nat) (lc : cs.length ≤ 4000000000) (os : List Cov) (po : Option Addr) (co : Nat) (lo : os.length ≤ 4000000000) (t : Tl) (l : List UInt8) (hl : l.length ≤ 281474976710656) (w : World) (hc : SLV w pc (cs.flatMap colC)) (ho : SLV w po (os.flatMap covC)) (hr : RwR w os) (lr : ∀ o ∈ os, o.rows.length ≤ 4000000000) (hq : PlR w cs) (lq : ∀ c ∈ cs, c.plugs.length ≤ 4000000000) : Calls Tryd.prog 32 #[.agg (shC (.slice pc cs.length cc) (.slice po os.length co) t).toArray, strV l] w fun e w' => e = .returned (.tuple #[.agg (sltC (findR cs os l).1).toArray, .int .i64 (((findR cs os l).2 : Nat) : Int)]) ∧ Below w.heap.size w w' := by
 have HC := Lib.hid hc
 clear hc
 have HO := Lib.hid ho
 clear ho
 have HR := Lib.hid hr
 clear hr
 have HQ := Lib.hid hq
 clear hq
 go_enter Tryd.func32, Tryd.ntmps32
 refine wp_seq ?_
 refine wp_region_L [] (KS.start w) ?_
 refine wpL_new (fun g => .pointer (some ⟨g, 0, none⟩)) (obi := .cells (shC (.slice pc cs.length cc) (.slice po os.length co) t).toArray 32 (0, 0)) rfl rfl Tw.kf Tw.pf fun g1 Bg1 Fg1 => ?_
 refine wpL_new (fun g => .pointer (some ⟨g, 0, none⟩)) (obi := .cells #[.int .i64 0, .int .i64 0, .int .u8 0] 34 (0, 0)) rfl rfl Tw.kf Tw.pf fun g2 Bg2 Fg2 => ?_
 obtain dj3_0 : g1 ≠ g2 := Tw.dkf Fg2
 refine lm (v := .int .i64 0) rfl rfl ?_
 refine wpL_done (fun W1 hW1 => ?_)
 change Code.wp ..
 refine wp_seq ?_
 refine wp_seq ?_
 refine wp_region_L _ hW1 ?_
 refine lv (v := .agg (shC (.slice pc cs.length cc) (.slice po os.length co) t).toArray) rfl rfl (yb_load (n := 13) (off := 0) rfl Tw.kr Tw.m1 Tryd.underlying32 rfl Tw.kr (by first | (simp [Value.cells]; done) | exact Nat.le_of_ble_eq_true rfl) Tw.kr) ?_
 refine lv (v := .bool (rightX cs os)) rfl rfl (yb_call (f := 68) (args := #[.agg (shC (.slice pc cs.length cc) (.slice po os.length co) t).toArray]) Tw.kf fun W hW => RRight_any cs pc cc Tw.om os po co Tw.om t W ((RL.base HC.out) _ (hW.sub (fun _ h => by cases h))) ((RL.base HO.out) _ (hW.sub (fun _ h => by cases h))) (HR.out.keep hW.1) lr (HQ.out.keep hW.1) lq) ?_
 refine lp (v := .bool (!(rightX cs os))) rfl rfl (run_un rfl Tw.kr fun w => un_not w) ?_
 refine wpL_done (fun W2 hW2 => ?_)
 change Code.wp ..
 cases h1 : (rightX cs os) with
 | false =>
   refine wp_cond_true rfl ?_
   refine wp_seq ?_
   refine wp_region_L _ hW2 ?_
   refine lm (v := .agg #[.int .i64 0, .int .i64 0, .int .u8 0]) rfl rfl ?_
   refine wpL_s [(g2, .cells #[.int .i64 0, .int .i64 0, .int .u8 0] 34 (0, 0)), (g1, .cells (shC (.slice pc cs.length cc) (.slice po os.length co) t).toArray 32 (0, 0))] rfl rfl (st_row (off := 0) (v := .agg #[.int .i64 0, .int .i64 0, .int .u8 0]) rfl Tw.kr Tw.kr Tw.m0 Bg2 Tw.kr (by first | (simp [Value.cells]; done) | exact Nat.le_of_ble_eq_true rfl) (by intro v hv; simp [Value.cells] at hv; first | (subst hv; rfl) | (rcases hv with rfl | rfl | rfl <;> rfl)) Tw.kr (List.forall_mem_cons.2 ⟨.inl rfl, (List.forall_mem_cons.2 ⟨.inr ⟨Tw.m1, Tw.nee⟩, (List.forall_mem_nil _)⟩)⟩)) ?_
   refine lm (v := .int .i64 2) rfl rfl ?_
   refine wpL_done (fun W3 hW3 => ?_)
   change Code.wp ..
   refine wp_ret ?_
   try simp only [inBlock_ret, then_ret]
   refine bodyPost_ret (v := .tuple #[.agg #[.int .i64 0, .int .i64 0, .int .u8 0], .int .i64 2]) ?_ rfl ?_
   · exact (res_cell_tmp (p := 4) (q := 5) rfl rfl (hW3.2 _ Tw.m0) Tryd.underlying34 rfl Tw.kr)
   · exact ⟨(xi_is (x := slt0) (by unfold findR; rw [if_neg (by rw [h1]; decide)])), hW3.1⟩
 | true =>
   refine wp_cond_false rfl ?_
   refine wp_skip ?_
   change Code.wp ..
   refine wp_seq ?_
   refine wp_seq ?_
   refine wp_region_L _ hW2 ?_
   refine lm (v := strV l) rfl rfl ?_
   refine lp (v := .int .i64 ((l.length : Nat) : Int)) rfl rfl (run_lenS (l := l) rfl Tryd.underlying9 Tw.kr) ?_
   refine lp (v := .bool (!(decide (l.length = 7)))) rfl rfl (run_bin rfl (vx := (.int .i64 ((l.length : Nat) : Int))) (vy := (.int .i64 ((7 : Nat) : Int))) Tw.kr Tw.kr fun w => bn_neq rfl w) ?_
   refine wpL_done (fun W4 hW4 => ?_)
   change Code.wp ..
   cases hd2 : (decide (l.length = 7)) with
   | false =>
     have h2 : ¬ (l.length = 7) := of_decide_eq_false hd2
     clear hd2
     refine wp_cond_true rfl ?_
     refine wp_seq ?_
     refine wp_region_L _ hW4 ?_
     refine lm (v := .agg #[.int .i64 0, .int .i64 0, .int .u8 0]) rfl rfl ?_
     refine wpL_s [(g2, .cells #[.int .i64 0, .int .i64 0, .int .u8 0] 34 (0, 0)), (g1, .cells (shC (.slice pc cs.length cc) (.slice po os.length co) t).toArray 32 (0, 0))] rfl rfl (st_row (off := 0) (v := .agg #[.int .i64 0, .int .i64 0, .int .u8 0]) rfl Tw.kr Tw.kr Tw.m0 Bg2 Tw.kr (by first | (simp [Value.cells]; done) | exact Nat.le_of_ble_eq_true rfl) (by intro v hv; simp [Value.cells] at hv; first | (subst hv; rfl) | (rcases hv with rfl | rfl | rfl <;> rfl)) Tw.kr (List.forall_mem_cons.2 ⟨.inl rfl, (List.forall_mem_cons.2 ⟨.inr ⟨Tw.m1, Tw.nee⟩, (List.forall_mem_nil _)⟩)⟩)) ?_
     refine lm (v := .int .i64 80) rfl rfl ?_
     refine wpL_done (fun W5 hW5 => ?_)
     change Code.wp ..
     refine wp_ret ?_
     try simp only [inBlock_ret, then_ret]
     refine bodyPost_ret (v := .tuple #[.agg #[.int .i64 0, .int .i64 0, .int .u8 0], .int .i64 80]) ?_ rfl ?_
     · exact (res_cell_tmp (p := 4) (q := 5) rfl rfl (hW5.2 _ Tw.m0) Tryd.underlying34 rfl Tw.kr)
     · exact ⟨(xi_is (x := slt0) (by unfold findR; rw [if_pos h1, if_neg (by unfold placeB; rw [digs_nl h2]; simp)])), hW5.1⟩
   | true =>
     have h2 : l.length = 7 := of_decide_eq_true hd2
     clear hd2
     have hl7 : l.length = 7 := h2
     refine wp_cond_false rfl ?_
     refine wp_skip ?_
     change Code.wp ..
     refine wp_seq ?_
     refine wp_seq ?_
     refine wp_region_L _ hW4 ?_
     refine lm (v := .int .i64 0) rfl rfl ?_
     refine wpL_done (fun W6 hW6 => ?_)
     change Code.wp ..
     refine wp_block ?_
     go_loopw [6] (fun u6 wr => ∃ (i : Nat), (i ≤ 7) ∧ (∀ j, j < i → ∀ b, l[j]? = some b → isDg b = true) ∧ u6 = .int .i64 ((i : Nat) : Int) ∧ KS w [(g2, .cells #[.int .i64 0, .int .i64 0, .int .u8 0] 34 (0, 0)), (g1, .cells (shC (.slice pc cs.length cc) (.slice po os.length co) t).toArray 32 (0, 0))] wr) (fun u6 _ => 7 - (intOf u6).toNat)
     case atStart => exact ⟨0, (Nat.zero_le _), (fun j hj => by omega), rfl, (hW6.sub (fun p hp => by first | exact hp | (simp only [List.mem_cons, List.mem_append, List.nil_append, List.not_mem_nil, or_assoc, or_false, false_or] at hp ⊢ <;> grind)))⟩
     case round =>
       obtain ⟨i, hi, hD, rfl, hL7⟩ := hrel
       refine wp_seq ?_
       refine wp_seq ?_
       refine wp_region_L _ hL7 ?_
       refine lm (v := .int .i64 ((i : Nat) : Int)) rfl rfl ?_
       refine lp (v := .bool (decide (i < 7))) rfl rfl (run_bin rfl (vx := (.int .i64 ((i : Nat) : Int))) (vy := (.int .i64 ((7 : Nat) : Int))) Tw.kr Tw.kr fun w => bn_lss rfl w) ?_
       refine wpL_done (fun W8 hW8 => ?_)
       change Code.wp ..
       cases hd3 : (decide (i < 7)) with
       | false =>
         have h3 : ¬ (i < 7) := of_decide_eq_false hd3
         clear hd3
         refine wp_cond_false rfl ?_
         refine wp_exit ?_
         change Code.wp ..
         refine wp_seq ?_
         obtain ⟨b0_, b1_, b2_, b3_, b4_, b5_, b6_, hls, k0, k1, k2, k3, k4, k5, k6⟩ := digs_split (digs_all hl7 (fun j hj => hD j Tw.om))
         have hpd := place_dig k0 k1 k2 k3 k4 k5 k6 (hls ▸ digs_all hl7 (fun j hj => hD j Tw.om))
         rw [← hls] at hpd
         have hb0_ : l[0]? = some b0_ := by rw [hls]; rfl
         have hb1_ : l[1]? = some b1_ := by rw [hls]; rfl
         have hb2_ : l[2]? = some b2_ := by rw [hls]; rfl
         have hb5_ : l[5]? = some b5_ := by rw [hls]; rfl
         have hb6_ : l[6]? = some b6_ := by rw [hls]; rfl
         refine wp_region_V _ Tw.kr hW8 ?_
         refine vm (i := 0) (v := strV l) rfl rfl rfl ?_
         refine vp (i := 1) (v := .int .u8 ((b0_.toNat : Nat) : Int)) rfl rfl rfl (run_idxS (j := .i64) (l := l) (k := 0) (b := b0_) rfl Tryd.underlying9 Tw.kr Tw.kr hb0_) ?_
         refine vp (i := 2) (v := .int .u8 (((b0_.toNat - 48) : Nat) : Int)) rfl rfl rfl (run_bin rfl (vx := (.int .u8 ((b0_.toNat : Nat) : Int))) (vy := (.int .u8 ((48 : Nat) : Int))) Tw.kr Tw.kr fun w => bn_sub (z := (b0_.toNat - 48)) rfl Tw.om (wr_u8 Tw.om) w) ?_
         refine vp (i := 3) (v := .int .i64 (((b0_.toNat - 48) : Nat) : Int)) rfl rfl rfl (run_conv rfl (vx := (.int .u8 (((b0_.toNat - 48) : Nat) : Int))) Tw.kr fun w => cv_int Tryd.underlying5 Tryd.underlying3 (wr_i64 Tw.om) w) ?_
         refine vp (i := 4) (v := .int .i64 ((((b0_.toNat - 48) * 100) : Nat) : Int)) rfl rfl rfl (run_bin rfl (vx := (.int .i64 (((b0_.toNat - 48) : Nat) : Int))) (vy := (.int .i64 ((100 : Nat) : Int))) Tw.kr Tw.kr fun w => bn_mul (z := ((b0_.toNat - 48) * 100)) rfl (wr_i64 Tw.om) w) ?_
         refine vm (i := 5) (v := strV l) rfl rfl rfl ?_
         refine vp (i := 6) (v := .int .u8 ((b1_.toNat : Nat) : Int)) rfl rfl rfl (run_idxS (j := .i64) (l := l) (k := 1) (b := b1_) rfl Tryd.underlying9 Tw.kr Tw.kr hb1_) ?_
         refine vp (i := 7) (v := .int .u8 (((b1_.toNat - 48) : Nat) : Int)) rfl rfl rfl (run_bin rfl (vx := (.int .u8 ((b1_.toNat : Nat) : Int))) (vy := (.int .u8 ((48 : Nat) : Int))) Tw.kr Tw.kr fun w => bn_sub (z := (b1_.toNat - 48)) rfl Tw.om (wr_u8 Tw.om) w) ?_
         refine vp (i := 8) (v := .int .i64 (((b1_.toNat - 48) : Nat) : Int)) rfl rfl rfl (run_conv rfl (vx := (.int .u8 (((b1_.toNat - 48) : Nat) : Int))) Tw.kr fun w => cv_int Tryd.underlying5 Tryd.underlying3 (wr_i64 Tw.om) w) ?_
         refine vp (i := 9) (v := .int .i64 ((((b1_.toNat - 48) * 10) : Nat) : Int)) rfl rfl rfl (run_bin rfl (vx := (.int .i64 (((b1_.toNat - 48) : Nat) : Int))) (vy := (.int .i64 ((10 : Nat) : Int))) Tw.kr Tw.kr fun w => bn_mul (z := ((b1_.toNat - 48) * 10)) rfl (wr_i64 Tw.om) w) ?_
         refine vp (i := 10) (v := .int .i64 (((((b0_.toNat - 48) * 100) + ((b1_.toNat - 48) * 10)) : Nat) : Int)) rfl rfl rfl (run_bin rfl (vx := (.int .i64 ((((b0_.toNat - 48) * 100) : Nat) : Int))) (vy := (.int .i64 ((((b1_.toNat - 48) * 10) : Nat) : Int))) Tw.kr Tw.kr fun w => bn_add (z := (((b0_.toNat - 48) * 100) + ((b1_.toNat - 48) * 10))) rfl (wr_i64 Tw.om) w) ?_
         refine vm (i := 11) (v := strV l) rfl rfl rfl ?_
         refine vp (i := 12) (v := .int .u8 ((b2_.toNat : Nat) : Int)) rfl rfl rfl (run_idxS (j := .i64) (l := l) (k := 2) (b := b2_) rfl Tryd.underlying9 Tw.kr Tw.kr hb2_) ?_
         refine vp (i := 13) (v := .int .u8 (((b2_.toNat - 48) : Nat) : Int)) rfl rfl rfl (run_bin rfl (vx := (.int .u8 ((b2_.toNat : Nat) : Int))) (vy := (.int .u8 ((48 : Nat) : Int))) Tw.kr Tw.kr fun w => bn_sub (z := (b2_.toNat - 48)) rfl Tw.om (wr_u8 Tw.om) w) ?_
         refine vp (i := 14) (v := .int .i64 (((b2_.toNat - 48) : Nat) : Int)) rfl rfl rfl (run_conv rfl (vx := (.int .u8 (((b2_.toNat - 48) : Nat) : Int))) Tw.kr fun w => cv_int Tryd.underlying5 Tryd.underlying3 (wr_i64 Tw.om) w) ?_
         refine vp (i := 15) (v := .int .i64 ((((((b0_.toNat - 48) * 100) + ((b1_.toNat - 48) * 10)) + (b2_.toNat - 48)) : Nat) : Int)) rfl rfl rfl (run_bin rfl (vx := (.int .i64 (((((b0_.toNat - 48) * 100) + ((b1_.toNat - 48) * 10)) : Nat) : Int))) (vy := (.int .i64 (((b2_.toNat - 48) : Nat) : Int))) Tw.kr Tw.kr fun w => bn_add (z := ((((b0_.toNat - 48) * 100) + ((b1_.toNat - 48) * 10)) + (b2_.toNat - 48))) rfl (wr_i64 Tw.om) w) ?_
         refine vp (i := 16) (v := .int .i64 (((((((b0_.toNat - 48) * 100) + ((b1_.toNat - 48) * 10)) + (b2_.toNat - 48)) % 4) : Nat) : Int)) rfl rfl rfl (run_bin rfl (vx := (.int .i64 ((((((b0_.toNat - 48) * 100) + ((b1_.toNat - 48) * 10)) + (b2_.toNat - 48)) : Nat) : Int))) (vy := (.int .i64 ((4 : Nat) : Int))) Tw.kr Tw.kr fun w => bn_rem (z := (((((b0_.toNat - 48) * 100) + ((b1_.toNat - 48) * 10)) + (b2_.toNat - 48)) % 4)) rfl Tw.om w) ?_
         refine vm (i := 17) (v := .int .i64 (((((((b0_.toNat - 48) * 100) + ((b1_.toNat - 48) * 10)) + (b2_.toNat - 48)) % 4) : Nat) : Int)) rfl rfl rfl ?_
         refine wpV_done Tw.kr (fun W9 hW9 => ?_) _
         change Code.wp ..
         refine wp_seq ?_
         refine wp_region_V _ Tw.kr hW9 ?_
         refine vm (i := 0) (v := strV l) rfl rfl rfl ?_
         refine vp (i := 1) (v := .int .u8 ((b5_.toNat : Nat) : Int)) rfl rfl rfl (run_idxS (j := .i64) (l := l) (k := 5) (b := b5_) rfl Tryd.underlying9 Tw.kr Tw.kr hb5_) ?_
         refine vp (i := 2) (v := .int .u8 (((b5_.toNat - 48) : Nat) : Int)) rfl rfl rfl (run_bin rfl (vx := (.int .u8 ((b5_.toNat : Nat) : Int))) (vy := (.int .u8 ((48 : Nat) : Int))) Tw.kr Tw.kr fun w => bn_sub (z := (b5_.toNat - 48)) rfl Tw.om (wr_u8 Tw.om) w) ?_
         refine vp (i := 3) (v := .int .i64 (((b5_.toNat - 48) : Nat) : Int)) rfl rfl rfl (run_conv rfl (vx := (.int .u8 (((b5_.toNat - 48) : Nat) : Int))) Tw.kr fun w => cv_int Tryd.underlying5 Tryd.underlying3 (wr_i64 Tw.om) w) ?_
         refine vp (i := 4) (v := .int .i64 ((((b5_.toNat - 48) * 10) : Nat) : Int)) rfl rfl rfl (run_bin rfl (vx := (.int .i64 (((b5_.toNat - 48) : Nat) : Int))) (vy := (.int .i64 ((10 : Nat) : Int))) Tw.kr Tw.kr fun w => bn_mul (z := ((b5_.toNat - 48) * 10)) rfl (wr_i64 Tw.om) w) ?_
         refine vm (i := 5) (v := strV l) rfl rfl rfl ?_
         refine vp (i := 6) (v := .int .u8 ((b6_.toNat : Nat) : Int)) rfl rfl rfl (run_idxS (j := .i64) (l := l) (k := 6) (b := b6_) rfl Tryd.underlying9 Tw.kr Tw.kr hb6_) ?_
         refine vp (i := 7) (v := .int .u8 (((b6_.toNat - 48) : Nat) : Int)) rfl rfl rfl (run_bin rfl (vx := (.int .u8 ((b6_.toNat : Nat) : Int))) (vy := (.int .u8 ((48 : Nat) : Int))) Tw.kr Tw.kr fun w => bn_sub (z := (b6_.toNat - 48)) rfl Tw.om (wr_u8 Tw.om) w) ?_
         refine vp (i := 8) (v := .int .i64 (((b6_.toNat - 48) : Nat) : Int)) rfl rfl rfl (run_conv rfl (vx := (.int .u8 (((b6_.toNat - 48) : Nat) : Int))) Tw.kr fun w => cv_int Tryd.underlying5 Tryd.underlying3 (wr_i64 Tw.om) w) ?_
         refine vp (i := 9) (v := .int .i64 (((((b5_.toNat - 48) * 10) + (b6_.toNat - 48)) : Nat) : Int)) rfl rfl rfl (run_bin rfl (vx := (.int .i64 ((((b5_.toNat - 48) * 10) : Nat) : Int))) (vy := (.int .i64 (((b6_.toNat - 48) : Nat) : Int))) Tw.kr Tw.kr fun w => bn_add (z := (((b5_.toNat - 48) * 10) + (b6_.toNat - 48))) rfl (wr_i64 Tw.om) w) ?_
         refine vm (i := 10) (v := .int .i64 (((((b5_.toNat - 48) * 10) + (b6_.toNat - 48)) : Nat) : Int)) rfl rfl rfl ?_
         refine wpV_done Tw.kr (fun W10 hW10 => ?_) _
         change Code.wp ..
         refine wp_joinsQ (fun az wz => (placeB l = true) ∧ JoinR (fun zq => List.toArray ((.agg (shC (.slice pc cs.length cc) (.slice po os.length co) t).toArray) :: (strV l) :: (.pointer (some ⟨g1, 0, none⟩)) :: undef :: (.pointer (some ⟨g2, 0, none⟩)) :: zq 5 :: (.int .i64 ((i : Nat) : Int)) :: (.int .i64 (((((((b0_.toNat - 48) * 100) + ((b1_.toNat - 48) * 10)) + (b2_.toNat - 48)) % 4) : Nat) : Int)) :: (.int .i64 (((((b5_.toNat - 48) * 10) + (b6_.toNat - 48)) : Nat) : Int)) :: undef :: undef :: undef :: undef :: undef :: (.agg (shC (.slice pc cs.length cc) (.slice po os.length co) t).toArray) :: (.bool true) :: (.bool false) :: undef :: (strV l) :: (.int .i64 ((l.length : Nat) : Int)) :: (.bool false) :: undef :: (.int .i64 ((i : Nat) : Int)) :: (.bool false) :: zq 24 :: zq 25 :: zq 26 :: zq 27 :: zq 28 :: zq 29 :: zq 30 :: zq 31 :: zq 32 :: zq 33 :: zq 34 :: zq 35 :: zq 36 :: (strV l) :: (.int .u8 ((b0_.toNat : Nat) : Int)) :: (.int .u8 (((b0_.toNat - 48) : Nat) : Int)) :: (.int .i64 (((b0_.toNat - 48) : Nat) : Int)) :: (.int .i64 ((((b0_.toNat - 48) * 100) : Nat) : Int)) :: (strV l) :: (.int .u8 ((b1_.toNat : Nat) : Int)) :: (.int .u8 (((b1_.toNat - 48) : Nat) : Int)) :: (.int .i64 (((b1_.toNat - 48) : Nat) : Int)) :: (.int .i64 ((((b1_.toNat - 48) * 10) : Nat) : Int)) :: (.int .i64 (((((b0_.toNat - 48) * 100) + ((b1_.toNat - 48) * 10)) : Nat) : Int)) :: (strV l) :: (.int .u8 ((b2_.toNat : Nat) : Int)) :: (.int .u8 (((b2_.toNat - 48) : Nat) : Int)) :: (.int .i64 (((b2_.toNat - 48) : Nat) : Int)) :: (.int .i64 ((((((b0_.toNat - 48) * 100) + ((b1_.toNat - 48) * 10)) + (b2_.toNat - 48)) : Nat) : Int)) :: (.int .i64 (((((((b0_.toNat - 48) * 100) + ((b1_.toNat - 48) * 10)) + (b2_.toNat - 48)) % 4) : Nat) : Int)) :: (strV l) :: (.int .u8 ((b5_.toNat : Nat) : Int)) :: (.int .u8 (((b5_.toNat - 48) : Nat) : Int)) :: (.int .i64 (((b5_.toNat - 48) : Nat) : Int)) :: (.int .i64 ((((b5_.toNat - 48) * 10) : Nat) : Int)) :: (strV l) :: (.int .u8 ((b6_.toNat : Nat) : Int)) :: (.int .u8 (((b6_.toNat - 48) : Nat) : Int)) :: (.int .i64 (((b6_.toNat - 48) : Nat) : Int)) :: (.int .i64 (((((b5_.toNat - 48) * 10) + (b6_.toNat - 48)) : Nat) : Int)) :: zq 64 :: zq 65 :: zq 66 :: zq 67 :: zq 68 :: zq 69 :: zq 70 :: zq 71 :: zq 72 :: zq 73 :: zq 74 :: zq 75 :: zq 76 :: zq 77 :: zq 78 :: zq 79 :: undef :: undef :: undef :: undef :: undef :: undef :: undef :: undef :: undef :: undef :: undef :: undef :: undef :: undef :: undef :: undef :: undef :: undef :: undef :: undef :: undef :: undef :: undef :: undef :: undef :: undef :: undef :: undef :: undef :: undef :: [])) w [(g2, .cells #[.int .i64 0, .int .i64 0, .int .u8 0] 34 (0, 0)), (g1, .cells (shC (.slice pc cs.length cc) (.slice po os.length co) t).toArray 32 (0, 0))] az wz) 1 ?_ ?_
         · change Code.wp ..
           refine wp_seq ?_
           refine wp_region_L _ hW10 ?_
           refine lm (v := .int .i64 (((((((b0_.toNat - 48) * 100) + ((b1_.toNat - 48) * 10)) + (b2_.toNat - 48)) % 4) : Nat) : Int)) rfl rfl ?_
           refine lp (v := .bool (decide ((((((b0_.toNat - 48) * 100) + ((b1_.toNat - 48) * 10)) + (b2_.toNat - 48)) % 4) = 0))) rfl rfl (run_bin rfl (vx := (.int .i64 (((((((b0_.toNat - 48) * 100) + ((b1_.toNat - 48) * 10)) + (b2_.toNat - 48)) % 4) : Nat) : Int))) (vy := (.int .i64 ((0 : Nat) : Int))) Tw.kr Tw.kr fun w => bn_eql rfl w) ?_
           refine lm (v := .bool (decide ((((((b0_.toNat - 48) * 100) + ((b1_.toNat - 48) * 10)) + (b2_.toNat - 48)) % 4) = 0))) rfl rfl ?_
           cases hd4 : (decide ((((((b0_.toNat - 48) * 100) + ((b1_.toNat - 48) * 10)) + (b2_.toNat - 48)) % 4) = 0)) with
           | false =>
             have h4 : ¬ ((((((b0_.toNat - 48) * 100) + ((b1_.toNat - 48) * 10)) + (b2_.toNat - 48)) % 4) = 0) := of_decide_eq_false hd4
             clear hd4
             refine lm (v := .int .i64 (((((b5_.toNat - 48) * 10) + (b6_.toNat - 48)) : Nat) : Int)) rfl rfl ?_
             refine lp (v := .int .i64 ((((((b5_.toNat - 48) * 10) + (b6_.toNat - 48)) % 2) : Nat) : Int)) rfl rfl (run_bin rfl (vx := (.int .i64 (((((b5_.toNat - 48) * 10) + (b6_.toNat - 48)) : Nat) : Int))) (vy := (.int .i64 ((2 : Nat) : Int))) Tw.kr Tw.kr fun w => bn_rem (z := ((((b5_.toNat - 48) * 10) + (b6_.toNat - 48)) % 2)) rfl Tw.om w) ?_
             refine lp (v := .bool (decide (((((b5_.toNat - 48) * 10) + (b6_.toNat - 48)) % 2) = 1))) rfl rfl (run_bin rfl (vx := (.int .i64 ((((((b5_.toNat - 48) * 10) + (b6_.toNat - 48)) % 2) : Nat) : Int))) (vy := (.int .i64 ((1 : Nat) : Int))) Tw.kr Tw.kr fun w => bn_eql rfl w) ?_
             refine lm (v := .bool (decide (((((b5_.toNat - 48) * 10) + (b6_.toNat - 48)) % 2) = 1))) rfl rfl ?_
             refine lm (v := .bool (decide (((((b5_.toNat - 48) * 10) + (b6_.toNat - 48)) % 2) = 1))) rfl rfl ?_
             cases hd5 : (decide (((((b5_.toNat - 48) * 10) + (b6_.toNat - 48)) % 2) = 1)) with
             | false =>
               have h5 : ¬ (((((b5_.toNat - 48) * 10) + (b6_.toNat - 48)) % 2) = 1) := of_decide_eq_false hd5
               clear hd5
               refine lm (v := .int .i64 (((((b5_.toNat - 48) * 10) + (b6_.toNat - 48)) : Nat) : Int)) rfl rfl ?_
               refine lp (v := .bool (decide (20 < (((b5_.toNat - 48) * 10) + (b6_.toNat - 48))))) rfl rfl (run_bin rfl (vx := (.int .i64 (((((b5_.toNat - 48) * 10) + (b6_.toNat - 48)) : Nat) : Int))) (vy := (.int .i64 ((20 : Nat) : Int))) Tw.kr Tw.kr fun w => bn_gtr rfl w) ?_
               refine lm (v := .bool (decide (20 < (((b5_.toNat - 48) * 10) + (b6_.toNat - 48))))) rfl rfl ?_
               cases hd6 : (decide (20 < (((b5_.toNat - 48) * 10) + (b6_.toNat - 48)))) with
               | false =>
                 have h6 : ¬ (20 < (((b5_.toNat - 48) * 10) + (b6_.toNat - 48))) := of_decide_eq_false hd6
                 clear hd6
                 refine ln rfl ?_
                 refine ln rfl ?_
                 refine lm (v := .bool false) rfl rfl ?_
                 refine lm (v := .bool false) rfl rfl ?_
                 refine wpL_done (fun W11 hW11 => ?_)
                 change Code.wp ..
                 refine wp_cond_false rfl ?_
                 refine wp_skip ?_
                 exact ⟨(by rw [hpd]; omega), join_mk Tw.kr (hW11.sub (fun p hp => by first | exact hp | (simp only [List.mem_cons, List.mem_append, List.nil_append, List.not_mem_nil, or_assoc, or_false, false_or] at hp ⊢ <;> grind)))⟩
               | true =>
                 have h6 : 20 < (((b5_.toNat - 48) * 10) + (b6_.toNat - 48)) := of_decide_eq_true hd6
                 clear hd6
                 refine lm (v := .int .i64 (((((b5_.toNat - 48) * 10) + (b6_.toNat - 48)) : Nat) : Int)) rfl rfl ?_
                 refine lp (v := .bool (decide ((((b5_.toNat - 48) * 10) + (b6_.toNat - 48)) < 82))) rfl rfl (run_bin rfl (vx := (.int .i64 (((((b5_.toNat - 48) * 10) + (b6_.toNat - 48)) : Nat) : Int))) (vy := (.int .i64 ((82 : Nat) : Int))) Tw.kr Tw.kr fun w => bn_lss rfl w) ?_
                 refine lm (v := .bool (decide ((((b5_.toNat - 48) * 10) + (b6_.toNat - 48)) < 82))) rfl rfl ?_
                 refine lm (v := .bool (decide ((((b5_.toNat - 48) * 10) + (b6_.toNat - 48)) < 82))) rfl rfl ?_
                 refine wpL_done (fun W12 hW12 => ?_)
                 change Code.wp ..
                 cases hd7 : (decide ((((b5_.toNat - 48) * 10) + (b6_.toNat - 48)) < 82)) with
                 | false =>
                   have h7 : ¬ ((((b5_.toNat - 48) * 10) + (b6_.toNat - 48)) < 82) := of_decide_eq_false hd7
                   clear hd7
                   refine wp_cond_false rfl ?_
                   refine wp_skip ?_
                   exact ⟨(by rw [hpd]; omega), join_mk Tw.kr (hW12.sub (fun p hp => by first | exact hp | (simp only [List.mem_cons, List.mem_append, List.nil_append, List.not_mem_nil, or_assoc, or_false, false_or] at hp ⊢ <;> grind)))⟩
                 | true =>
                   have h7 : (((b5_.toNat - 48) * 10) + (b6_.toNat - 48)) < 82 := of_decide_eq_true hd7
                   clear hd7
                   refine wp_cond_true rfl ?_
                   refine wp_seq ?_
                   refine wp_region_L _ hW12 ?_
                   refine lm (v := .agg #[.int .i64 0, .int .i64 0, .int .u8 0]) rfl rfl ?_
                   refine wpL_s [(g2, .cells #[.int .i64 0, .int .i64 0, .int .u8 0] 34 (0, 0)), (g1, .cells (shC (.slice pc cs.length cc) (.slice po os.length co) t).toArray 32 (0, 0))] rfl rfl (st_row (off := 0) (v := .agg #[.int .i64 0, .int .i64 0, .int .u8 0]) rfl Tw.kr Tw.kr Tw.m0 Bg2 Tw.kr (by first | (simp [Value.cells]; done) | exact Nat.le_of_ble_eq_true rfl) (by intro v hv; simp [Value.cells] at hv; first | (subst hv; rfl) | (rcases hv with rfl | rfl | rfl <;> rfl)) Tw.kr (List.forall_mem_cons.2 ⟨.inl rfl, (List.forall_mem_cons.2 ⟨.inr ⟨Tw.m1, Tw.nee⟩, (List.forall_mem_nil _)⟩)⟩)) ?_
                   refine lm (v := .int .i64 80) rfl rfl ?_
                   refine wpL_done (fun W13 hW13 => ?_)
                   change Code.wp ..
                   refine wp_ret ?_
                   try simp only [inBlock_ret, then_ret]
                   refine bodyPost_ret (v := .tuple #[.agg #[.int .i64 0, .int .i64 0, .int .u8 0], .int .i64 80]) ?_ rfl ?_
                   · exact (res_cell_tmp (p := 4) (q := 5) rfl rfl (hW13.2 _ Tw.m0) Tryd.underlying34 rfl Tw.kr)
                   · exact ⟨(xi_is (x := slt0) (by unfold findR; rw [if_pos h1, if_neg (by rw [hpd]; omega)])), hW13.1⟩
             | true =>
               have h5 : ((((b5_.toNat - 48) * 10) + (b6_.toNat - 48)) % 2) = 1 := of_decide_eq_true hd5
               clear hd5
               refine ln rfl ?_
               refine ln rfl ?_
               refine ln rfl ?_
               refine ln rfl ?_
               refine ln rfl ?_
               refine ln rfl ?_
               refine lm (v := .bool true) rfl rfl ?_
               refine wpL_done (fun W14 hW14 => ?_)
               change Code.wp ..
               refine wp_cond_true rfl ?_
               refine wp_seq ?_
               refine wp_region_L _ hW14 ?_
               refine lm (v := .agg #[.int .i64 0, .int .i64 0, .int .u8 0]) rfl rfl ?_
               refine wpL_s [(g2, .cells #[.int .i64 0, .int .i64 0, .int .u8 0] 34 (0, 0)), (g1, .cells (shC (.slice pc cs.length cc) (.slice po os.length co) t).toArray 32 (0, 0))] rfl rfl (st_row (off := 0) (v := .agg #[.int .i64 0, .int .i64 0, .int .u8 0]) rfl Tw.kr Tw.kr Tw.m0 Bg2 Tw.kr (by first | (simp [Value.cells]; done) | exact Nat.le_of_ble_eq_true rfl) (by intro v hv; simp [Value.cells] at hv; first | (subst hv; rfl) | (rcases hv with rfl | rfl | rfl <;> rfl)) Tw.kr (List.forall_mem_cons.2 ⟨.inl rfl, (List.forall_mem_cons.2 ⟨.inr ⟨Tw.m1, Tw.nee⟩, (List.forall_mem_nil _)⟩)⟩)) ?_
               refine lm (v := .int .i64 80) rfl rfl ?_
               refine wpL_done (fun W15 hW15 => ?_)
               change Code.wp ..
               refine wp_ret ?_
               try simp only [inBlock_ret, then_ret]
               refine bodyPost_ret (v := .tuple #[.agg #[.int .i64 0, .int .i64 0, .int .u8 0], .int .i64 80]) ?_ rfl ?_
               · exact (res_cell_tmp (p := 4) (q := 5) rfl rfl (hW15.2 _ Tw.m0) Tryd.underlying34 rfl Tw.kr)
               · exact ⟨(xi_is (x := slt0) (by unfold findR; rw [if_pos h1, if_neg (by rw [hpd]; omega)])), hW15.1⟩
           | true =>
             have h4 : (((((b0_.toNat - 48) * 100) + ((b1_.toNat - 48) * 10)) + (b2_.toNat - 48)) % 4) = 0 := of_decide_eq_true hd4
             clear hd4
             refine ln rfl ?_
             refine ln rfl ?_
             refine ln rfl ?_
             refine lm (v := .bool true) rfl rfl ?_
             refine lm (v := .bool true) rfl rfl ?_
             refine ln rfl ?_
             refine ln rfl ?_
             refine ln rfl ?_
             refine ln rfl ?_
             refine ln rfl ?_
             refine ln rfl ?_
             refine lm (v := .bool true) rfl rfl ?_
             refine wpL_done (fun W16 hW16 => ?_)
             change Code.wp ..
             refine wp_cond_true rfl ?_
             refine wp_seq ?_
             refine wp_region_L _ hW16 ?_
             refine lm (v := .agg #[.int .i64 0, .int .i64 0, .int .u8 0]) rfl rfl ?_
             refine wpL_s [(g2, .cells #[.int .i64 0, .int .i64 0, .int .u8 0] 34 (0, 0)), (g1, .cells (shC (.slice pc cs.length cc) (.slice po os.length co) t).toArray 32 (0, 0))] rfl rfl (st_row (off := 0) (v := .agg #[.int .i64 0, .int .i64 0, .int .u8 0]) rfl Tw.kr Tw.kr Tw.m0 Bg2 Tw.kr (by first | (simp [Value.cells]; done) | exact Nat.le_of_ble_eq_true rfl) (by intro v hv; simp [Value.cells] at hv; first | (subst hv; rfl) | (rcases hv with rfl | rfl | rfl <;> rfl)) Tw.kr (List.forall_mem_cons.2 ⟨.inl rfl, (List.forall_mem_cons.2 ⟨.inr ⟨Tw.m1, Tw.nee⟩, (List.forall_mem_nil _)⟩)⟩)) ?_
             refine lm (v := .int .i64 80) rfl rfl ?_
             refine wpL_done (fun W17 hW17 => ?_)
             change Code.wp ..
             refine wp_ret ?_
             try simp only [inBlock_ret, then_ret]
             refine bodyPost_ret (v := .tuple #[.agg #[.int .i64 0, .int .i64 0, .int .u8 0], .int .i64 80]) ?_ rfl ?_
             · exact (res_cell_tmp (p := 4) (q := 5) rfl rfl (hW17.2 _ Tw.m0) Tryd.underlying34 rfl Tw.kr)
             · exact ⟨(xi_is (x := slt0) (by unfold findR; rw [if_pos h1, if_neg (by rw [hpd]; omega)])), hW17.1⟩
         · rintro a1 W1j ⟨hpl, ⟨zx1, rfl⟩, hW1j⟩
           dsimp only [cutT]
           refine wp_seq ?_
           refine wp_seq ?_
           refine wp_region_L _ hW1j ?_
           refine lm (v := .int .i64 20) rfl rfl ?_
           refine wpL_done (fun W18 hW18 => ?_)
           change Code.wp ..
           refine wp_block ?_
           refine wp_loop_rounds 3 ?_
           change Code.wp ..
           refine wp_seq ?_
           refine wp_seq ?_
           refine wp_region_L _ hW18 ?_
           refine lm (v := .int .i64 20) rfl rfl ?_
           refine lm (v := .bool true) rfl rfl ?_
           refine wpL_done (fun W19 hW19 => ?_)
           change Code.wp ..
           refine wp_cond_true rfl ?_
           refine wp_skip ?_
           change Code.wp ..
           refine wp_seq ?_
           refine wp_block ?_
           refine wp_seq ?_
           refine wp_region_L _ hW19 ?_
           refine lv (v := .agg (shC (.slice pc cs.length cc) (.slice po os.length co) t).toArray) rfl rfl (yb_load (n := 13) (off := 0) rfl Tw.kr Tw.m1 Tryd.underlying32 rfl Tw.kr (by first | (simp [Value.cells]; done) | exact Nat.le_of_ble_eq_true rfl) Tw.kr) ?_
           refine lm (v := .int .i64 20) rfl rfl ?_
           have hlz20 : (slotsX cs 20).length ≤ 4000 := slots_few8 h1 20
           refine wpL_c (f := 18) (args := #[.agg (shC (.slice pc cs.length cc) (.slice po os.length co) t).toArray, .int .i64 20]) (OutRL sltC w [(g2, .cells #[.int .i64 0, .int .i64 0, .int .u8 0] 34 (0, 0)), (g1, .cells (shC (.slice pc cs.length cc) (.slice po os.length co) t).toArray 32 (0, 0))] (slotsX cs 20)) rfl Tw.kr Tw.kf (fun W hW => calls_r hW (R8All_any cs pc cc (by have := (right_cols h1).2.2; omega) os po co lo t (fun c hc => by have := colx_in ((right_cols h1).1 c hc); omega) 20 W (HC.out.keep hW.1) (HO.out.keep hW.1))) Tw.pf ?_
           rintro _ _ ⟨p4, c4, Kl4, rfl, n4, R4, N4, rfl⟩
           obtain ⟨dj5_0, dj5_1⟩ : Dk g2 Kl4 ∧ Dk g1 Kl4 := Tw.djf N4
           refine lm (v := .slice p4 ((slotsX cs 20).length) c4) rfl rfl ?_
           refine wpL_done (fun W20 hW20 => ?_)
           change Code.wp ..
           refine wp_seq ?_
           refine wp_region_L _ hW20 ?_
           refine lm (v := .int .i64 0) rfl rfl ?_
           refine wpL_done (fun W21 hW21 => ?_)
           change Code.wp ..
           refine wp_block ?_
           go_loopw [11] (fun u11 wr => ∃ (k1 : Nat), (k1 ≤ (slotsX cs 20).length) ∧ (∀ j, j < k1 → ∀ y, (slotsX cs 20)[j]? = some y → ¬ nameX cs y = l) ∧ u11 = .int .i64 ((k1 : Nat) : Int) ∧ KS w ((g2, .cells #[.int .i64 0, .int .i64 0, .int .u8 0] 34 (0, 0)) :: (g1, .cells (shC (.slice pc cs.length cc) (.slice po os.length co) t).toArray 32 (0, 0)) :: Kl4) wr) (fun u11 _ => (slotsX cs 20).length - (intOf u11).toNat)
           case atStart => exact ⟨0, (Nat.zero_le _), (fun j hj => by omega), rfl, (hW21.sub (fun p hp => by first | exact hp | (simp only [List.mem_cons, List.mem_append, List.nil_append, List.not_mem_nil, or_assoc, or_false, false_or] at hp ⊢ <;> grind)))⟩
           case round =>
             obtain ⟨k1, hk1, hN1, rfl, hL22⟩ := hrel
             refine wp_seq ?_
             refine wp_seq ?_
             refine wp_region_L _ hL22 ?_
             refine lm (v := .int .i64 ((k1 : Nat) : Int)) rfl rfl ?_
             refine lm (v := .slice p4 ((slotsX cs 20).length) c4) rfl rfl ?_
             refine lp (v := .int .i64 ((((slotsX cs 20).length) : Nat) : Int)) rfl rfl (run_lenL (p := p4) (cap := c4) (n := (slotsX cs 20).length) rfl Tryd.underlying35 Tw.kr) ?_
             refine lp (v := .bool (decide (k1 < ((slotsX cs 20).length)))) rfl rfl (run_bin rfl (vx := (.int .i64 ((k1 : Nat) : Int))) (vy := (.int .i64 ((((slotsX cs 20).length) : Nat) : Int))) Tw.kr Tw.kr fun w => bn_lss rfl w) ?_
             refine wpL_done (fun W23 hW23 => ?_)
             change Code.wp ..
             cases hd8 : (decide (k1 < ((slotsX cs 20).length))) with
             | false =>
               have h8 : ¬ (k1 < ((slotsX cs 20).length)) := of_decide_eq_false hd8
               clear hd8
               refine wp_cond_false rfl ?_
               refine wp_exit ?_
               change Code.wp ..
               refine wp_region_L _ hW23 ?_
               refine lm (v := .int .i64 20) rfl rfl ?_
               refine lm (v := .int .i64 40) rfl rfl ?_
               refine lm (v := .int .i64 40) rfl rfl ?_
               refine wpL_done (fun W24 hW24 => ?_)
               change Code.wp ..
               refine wp_seq ?_
               refine wp_seq ?_
               refine wp_region_L _ hW24 ?_
               refine lm (v := .int .i64 40) rfl rfl ?_
               refine lm (v := .bool true) rfl rfl ?_
               refine wpL_done (fun W25 hW25 => ?_)
               change Code.wp ..
               refine wp_cond_true rfl ?_
               refine wp_skip ?_
               change Code.wp ..
               refine wp_seq ?_
               refine wp_block ?_
               refine wp_seq ?_
               refine wp_region_L _ hW25 ?_
               refine lv (v := .agg (shC (.slice pc cs.length cc) (.slice po os.length co) t).toArray) rfl rfl (yb_load (n := 13) (off := 0) rfl Tw.kr Tw.m1 Tryd.underlying32 rfl Tw.kr (by first | (simp [Value.cells]; done) | exact Nat.le_of_ble_eq_true rfl) Tw.kr) ?_
               refine lm (v := .int .i64 40) rfl rfl ?_
               have hlz40 : (slotsX cs 40).length ≤ 4000 := slots_few8 h1 40
               refine wpL_c (f := 18) (args := #[.agg (shC (.slice pc cs.length cc) (.slice po os.length co) t).toArray, .int .i64 40]) (OutRL sltC w ((g2, .cells #[.int .i64 0, .int .i64 0, .int .u8 0] 34 (0, 0)) :: (g1, .cells (shC (.slice pc cs.length cc) (.slice po os.length co) t).toArray 32 (0, 0)) :: Kl4) (slotsX cs 40)) rfl Tw.kr Tw.kf (fun W hW => calls_r hW (R8All_any cs pc cc (by have := (right_cols h1).2.2; omega) os po co lo t (fun c hc => by have := colx_in ((right_cols h1).1 c hc); omega) 40 W (HC.out.keep hW.1) (HO.out.keep hW.1))) Tw.pf ?_
               rintro _ _ ⟨p6, c6, Kl6, rfl, n6, R6, N6, rfl⟩
               obtain ⟨dj7_0, dj7_1, dj7_2⟩ : Dk g2 Kl6 ∧ Dk g1 Kl6 ∧ Dj Kl4 Kl6 := Tw.djf N6
               refine wpL_sub (K2 := ((g2, .cells #[.int .i64 0, .int .i64 0, .int .u8 0] 34 (0, 0)) :: (g1, .cells (shC (.slice pc cs.length cc) (.slice po os.length co) t).toArray 32 (0, 0)) :: (Kl4 ++ Kl6))) (fun p hp => by simp only [List.mem_cons, List.mem_append, or_assoc] at hp ⊢; exact hp) ?_
               refine lm (v := .slice p6 ((slotsX cs 40).length) c6) rfl rfl ?_
               refine wpL_done (fun W26 hW26 => ?_)
               change Code.wp ..
               refine wp_seq ?_
               refine wp_region_L _ hW26 ?_
               refine lm (v := .int .i64 0) rfl rfl ?_
               refine wpL_done (fun W27 hW27 => ?_)
               change Code.wp ..
               refine wp_block ?_
               go_loopw [11] (fun u11 wr => ∃ (k2 : Nat), (k2 ≤ (slotsX cs 40).length) ∧ (∀ j, j < k2 → ∀ y, (slotsX cs 40)[j]? = some y → ¬ nameX cs y = l) ∧ u11 = .int .i64 ((k2 : Nat) : Int) ∧ KS w ((g2, .cells #[.int .i64 0, .int .i64 0, .int .u8 0] 34 (0, 0)) :: (g1, .cells (shC (.slice pc cs.length cc) (.slice po os.length co) t).toArray 32 (0, 0)) :: (Kl4 ++ Kl6)) wr) (fun u11 _ => (slotsX cs 40).length - (intOf u11).toNat)
               case atStart => exact ⟨0, (Nat.zero_le _), (fun j hj => by omega), rfl, (hW27.sub (fun p hp => by first | exact hp | (simp only [List.mem_cons, List.mem_append, List.nil_append, List.not_mem_nil, or_assoc, or_false, false_or] at hp ⊢ <;> grind)))⟩
               case round =>
                 obtain ⟨k2, hk2, hN2, rfl, hL28⟩ := hrel
                 refine wp_seq ?_
                 refine wp_seq ?_
                 refine wp_region_L _ hL28 ?_
                 refine lm (v := .int .i64 ((k2 : Nat) : Int)) rfl rfl ?_
                 refine lm (v := .slice p6 ((slotsX cs 40).length) c6) rfl rfl ?_
                 refine lp (v := .int .i64 ((((slotsX cs 40).length) : Nat) : Int)) rfl rfl (run_lenL (p := p6) (cap := c6) (n := (slotsX cs 40).length) rfl Tryd.underlying35 Tw.kr) ?_
                 refine lp (v := .bool (decide (k2 < ((slotsX cs 40).length)))) rfl rfl (run_bin rfl (vx := (.int .i64 ((k2 : Nat) : Int))) (vy := (.int .i64 ((((slotsX cs 40).length) : Nat) : Int))) Tw.kr Tw.kr fun w => bn_lss rfl w) ?_
                 refine wpL_done (fun W29 hW29 => ?_)
                 change Code.wp ..
                 cases hd9 : (decide (k2 < ((slotsX cs 40).length))) with
                 | false =>
                   have h9 : ¬ (k2 < ((slotsX cs 40).length)) := of_decide_eq_false hd9
                   clear hd9
                   refine wp_cond_false rfl ?_
                   refine wp_exit ?_
                   change Code.wp ..
                   refine wp_region_L _ hW29 ?_
                   refine lm (v := .int .i64 40) rfl rfl ?_
                   refine lm (v := .int .i64 60) rfl rfl ?_
                   refine lm (v := .int .i64 60) rfl rfl ?_
                   refine wpL_done (fun W30 hW30 => ?_)
                   change Code.wp ..
                   refine wp_seq ?_
                   refine wp_seq ?_
                   refine wp_region_L _ hW30 ?_
                   refine lm (v := .int .i64 60) rfl rfl ?_
                   refine lm (v := .bool false) rfl rfl ?_
                   refine wpL_done (fun W31 hW31 => ?_)
                   change Code.wp ..
                   refine wp_cond_false rfl ?_
                   refine wp_exit ?_
                   change Code.wp ..
                   refine wp_seq ?_
                   refine wp_region_L _ hW31 ?_
                   refine lm (v := .agg #[.int .i64 0, .int .i64 0, .int .u8 0]) rfl rfl ?_
                   refine wpL_s ((g2, .cells #[.int .i64 0, .int .i64 0, .int .u8 0] 34 (0, 0)) :: (g1, .cells (shC (.slice pc cs.length cc) (.slice po os.length co) t).toArray 32 (0, 0)) :: (Kl4 ++ Kl6)) rfl rfl (st_row (off := 0) (v := .agg #[.int .i64 0, .int .i64 0, .int .u8 0]) rfl Tw.kr Tw.kr Tw.m0 Bg2 Tw.kr (by first | (simp [Value.cells]; done) | exact Nat.le_of_ble_eq_true rfl) (by intro v hv; simp [Value.cells] at hv; first | (subst hv; rfl) | (rcases hv with rfl | rfl | rfl <;> rfl)) Tw.kr (List.forall_mem_cons.2 ⟨.inl rfl, (List.forall_mem_cons.2 ⟨.inr ⟨Tw.m1, Tw.nee⟩, (fun p hp => .inr ⟨(.tail _ (.tail _ hp)), ((show Dk g2 (Kl4 ++ Kl6) from Tw.djt) _ hp)⟩)⟩)⟩)) ?_
                   refine lm (v := .int .i64 6) rfl rfl ?_
                   refine wpL_done (fun W32 hW32 => ?_)
                   change Code.wp ..
                   refine wp_ret ?_
                   try simp only [inBlock_ret, then_ret]
                   refine bodyPost_ret (v := .tuple #[.agg #[.int .i64 0, .int .i64 0, .int .u8 0], .int .i64 6]) ?_ rfl ?_
                   · exact (res_cell_tmp (p := 4) (q := 5) rfl rfl (hW32.2 _ Tw.m0) Tryd.underlying34 rfl Tw.kr)
                   · exact ⟨(xi_is (x := slt0) (slot_lost h1 hpl hN1 h8 hN2 h9).symm), hW32.1⟩
                 | true =>
                   have h9 : k2 < ((slotsX cs 40).length) := of_decide_eq_true hd9
                   clear hd9
                   refine wp_cond_true rfl ?_
                   refine wp_skip ?_
                   change Code.wp ..
                   refine wp_seq ?_
                   refine wp_block ?_
                   refine wp_seq ?_
                   refine wp_region_V _ Tw.kr hW29 ?_
                   refine vv (i := 0) (v := .agg (shC (.slice pc cs.length cc) (.slice po os.length co) t).toArray) rfl rfl rfl (yb_load (n := 13) (off := 0) rfl Tw.kr Tw.m1 Tryd.underlying32 rfl Tw.kr (by first | (simp [Value.cells]; done) | exact Nat.le_of_ble_eq_true rfl) Tw.kr) ?_
                   refine vm (i := 1) (v := .slice p6 ((slotsX cs 40).length) c6) rfl rfl rfl ?_
                   refine vm (i := 2) (v := .int .i64 ((k2 : Nat) : Int)) rfl rfl rfl ?_
                   obtain ⟨y8, g8_, f8_, hy8, hp8, hc8⟩ := RL.at R6 sltC_len (by decide) (hW29.sub (fun p hp => by simp only [List.mem_cons, List.mem_append, List.nil_append, List.not_mem_nil, or_assoc, or_false, false_or, hp, true_or, or_true])) (k := k2) Tw.om
                   refine vp (i := 3) (v := .pointer (some ⟨g8_, f8_ + k2 * 3, none⟩)) rfl rfl rfl (run_idxQ (p := p6) (cap := c6) (n := (slotsX cs 40).length) (j := .i64) (k := k2) (sz := 3) rfl Tryd.underlying35 Tw.kr Tw.kr hp8 Tw.kr Tw.om) ?_
                   refine vv (i := 4) (v := .agg (sltC y8).toArray) rfl rfl rfl (yb_rs (off := f8_ + k2 * 3) (cs := sltC y8) rfl Tw.kr (fun W hW => hc8 W (hW.sub (fun p hp => by simp only [List.mem_cons, List.mem_append, List.nil_append, List.not_mem_nil, or_assoc, or_false, false_or, hp, true_or, or_true]))) Tryd.underlying34 rfl Tw.kr) ?_
                   refine vv (i := 5) (v := .tuple #[strV (nameX cs y8), .int .i64 0]) rfl rfl rfl (yb_call (f := 30) (args := #[.agg (shC (.slice pc cs.length cc) (.slice po os.length co) t).toArray, .agg (sltC y8).toArray]) Tw.kf fun W hW => (by have h9 := R8Name_any cs pc cc Tw.om os po co Tw.om t y8.col y8.tier y8.half W ((RL.base HC.out) _ (hW.sub (fun _ h => by cases h))) ((RL.base HO.out) _ (hW.sub (fun _ h => by cases h))) (HR.out.keep hW.1) lr (HQ.out.keep hW.1) lq; rw [nameR_slot h1 (.inr rfl) hy8] at h9; exact h9)) ?_
                   refine vm (i := 6) (v := .tuple #[strV (nameX cs y8), .int .i64 0]) rfl rfl rfl ?_
                   refine vm (i := 7) (v := strV (nameX cs y8)) rfl rfl rfl ?_
                   refine vm (i := 8) (v := .int .i64 0) rfl rfl rfl ?_
                   refine vm (i := 9) (v := strV (nameX cs y8)) rfl rfl rfl ?_
                   refine vm (i := 10) (v := .int .i64 0) rfl rfl rfl ?_
                   refine wpV_done Tw.kr (fun W33 hW33 => ?_) _
                   change Code.wp ..
                   refine wp_seq ?_
                   refine wp_region_L _ hW33 ?_
                   refine lm (v := strV (nameX cs y8)) rfl rfl ?_
                   refine lm (v := strV l) rfl rfl ?_
                   refine lp (v := .bool (decide ((nameX cs y8) = l))) rfl rfl (run_bin rfl (vx := strV (nameX cs y8)) (vy := strV l) Tw.kr Tw.kr fun w => bs_eql rfl w) ?_
                   refine wpL_done (fun W34 hW34 => ?_)
                   change Code.wp ..
                   cases hd10 : (decide ((nameX cs y8) = l)) with
                   | false =>
                     have h10 : ¬ ((nameX cs y8) = l) := of_decide_eq_false hd10
                     clear hd10
                     refine wp_cond_false rfl ?_
                     refine wp_skip ?_
                     change Code.wp ..
                     refine wp_region_L _ hW34 ?_
                     refine lm (v := .int .i64 ((k2 : Nat) : Int)) rfl rfl ?_
                     refine lp (v := .int .i64 (((k2 + 1) : Nat) : Int)) rfl rfl (run_bin rfl (vx := (.int .i64 ((k2 : Nat) : Int))) (vy := (.int .i64 ((1 : Nat) : Int))) Tw.kr Tw.kr fun w => bn_add (z := (k2 + 1)) rfl (wr_i64 Tw.om) w) ?_
                     refine lm (v := .int .i64 (((k2 + 1) : Nat) : Int)) rfl rfl ?_
                     refine wpL_done (fun W35 hW35 => ?_)
                     go_roundw
                     case rel =>
                       repeat apply Exists.intro
                       exact ⟨⟨k2 + 1, Tw.om, (names_step hN2 hy8 h10), rfl, (hW35.sub (fun p hp => by first | exact hp | (simp only [List.mem_cons, List.mem_append, List.nil_append, List.not_mem_nil, or_assoc, or_false, false_or] at hp ⊢ <;> grind)))⟩, rfl⟩
                     case measure => (show (slotsX cs 40).length - (intOf (.int .i64 (((k2 + 1) : Nat) : Int))).toNat < (slotsX cs 40).length - (intOf (.int .i64 ((k2 : Nat) : Int))).toNat); simp only [intOf]; omega
                   | true =>
                     have h10 : (nameX cs y8) = l := of_decide_eq_true hd10
                     clear hd10
                     refine wp_cond_true rfl ?_
                     refine wp_seq ?_
                     refine wp_region_L _ hW34 ?_
                     refine lm (v := .slice p6 ((slotsX cs 40).length) c6) rfl rfl ?_
                     refine lm (v := .int .i64 ((k2 : Nat) : Int)) rfl rfl ?_
                     refine lp (v := .pointer (some ⟨g8_, f8_ + k2 * 3, none⟩)) rfl rfl (run_idxQ (p := p6) (cap := c6) (n := (slotsX cs 40).length) (j := .i64) (k := k2) (sz := 3) rfl Tryd.underlying35 Tw.kr Tw.kr hp8 Tw.kr Tw.om) ?_
                     refine lv (v := .agg (sltC y8).toArray) rfl rfl (yb_rs (off := f8_ + k2 * 3) (cs := sltC y8) rfl Tw.kr (fun W hW => hc8 W (hW.sub (fun p hp => by simp only [List.mem_cons, List.mem_append, List.nil_append, List.not_mem_nil, or_assoc, or_false, false_or, hp, true_or, or_true]))) Tryd.underlying34 rfl Tw.kr) ?_
                     refine wpL_s ((g2, .cells (sltC y8).toArray 34 (0, 0)) :: (g1, .cells (shC (.slice pc cs.length cc) (.slice po os.length co) t).toArray 32 (0, 0)) :: (Kl4 ++ Kl6)) rfl rfl (st_row (off := 0) (v := .agg (sltC y8).toArray) rfl Tw.kr Tw.kr Tw.m0 Bg2 Tw.kr (by first | (simp [Value.cells]; done) | exact Nat.le_of_ble_eq_true rfl) (fun v hv => sltC_one y8 v hv) Tw.kr (List.forall_mem_cons.2 ⟨.inl rfl, (List.forall_mem_cons.2 ⟨.inr ⟨Tw.m1, Tw.nee⟩, (fun p hp => .inr ⟨(.tail _ (.tail _ hp)), ((show Dk g2 (Kl4 ++ Kl6) from Tw.djt) _ hp)⟩)⟩)⟩)) ?_
                     refine lm (v := .int .i64 0) rfl rfl ?_
                     refine wpL_done (fun W36 hW36 => ?_)
                     change Code.wp ..
                     refine wp_ret ?_
                     try simp only [inBlock_ret, then_ret]
                     refine bodyPost_ret (v := .tuple #[.agg (sltC y8).toArray, .int .i64 0]) ?_ rfl ?_
                     · exact (res_cell_tmp (p := 4) (q := 5) rfl rfl (hW36.2 _ Tw.m0) Tryd.underlying34 rfl Tw.kr)
                     · exact ⟨(xi_is (slot_found h1 (.inr rfl) hy8 h10).symm), hW36.1⟩
             | true =>
               have h8 : k1 < ((slotsX cs 20).length) := of_decide_eq_true hd8
               clear hd8
               refine wp_cond_true rfl ?_
               refine wp_skip ?_
               change Code.wp ..
               refine wp_seq ?_
               refine wp_block ?_
               refine wp_seq ?_
               refine wp_region_V _ Tw.kr hW23 ?_
               refine vv (i := 0) (v := .agg (shC (.slice pc cs.length cc) (.slice po os.length co) t).toArray) rfl rfl rfl (yb_load (n := 13) (off := 0) rfl Tw.kr Tw.m1 Tryd.underlying32 rfl Tw.kr (by first | (simp [Value.cells]; done) | exact Nat.le_of_ble_eq_true rfl) Tw.kr) ?_
               refine vm (i := 1) (v := .slice p4 ((slotsX cs 20).length) c4) rfl rfl rfl ?_
               refine vm (i := 2) (v := .int .i64 ((k1 : Nat) : Int)) rfl rfl rfl ?_
               obtain ⟨y9, g9_, f9_, hy9, hp9, hc9⟩ := RL.at R4 sltC_len (by decide) (hW23.sub (fun p hp => by simp only [List.mem_cons, List.mem_append, List.nil_append, List.not_mem_nil, or_assoc, or_false, false_or, hp, true_or, or_true])) (k := k1) Tw.om
               refine vp (i := 3) (v := .pointer (some ⟨g9_, f9_ + k1 * 3, none⟩)) rfl rfl rfl (run_idxQ (p := p4) (cap := c4) (n := (slotsX cs 20).length) (j := .i64) (k := k1) (sz := 3) rfl Tryd.underlying35 Tw.kr Tw.kr hp9 Tw.kr Tw.om) ?_
               refine vv (i := 4) (v := .agg (sltC y9).toArray) rfl rfl rfl (yb_rs (off := f9_ + k1 * 3) (cs := sltC y9) rfl Tw.kr (fun W hW => hc9 W (hW.sub (fun p hp => by simp only [List.mem_cons, List.mem_append, List.nil_append, List.not_mem_nil, or_assoc, or_false, false_or, hp, true_or, or_true]))) Tryd.underlying34 rfl Tw.kr) ?_
               refine vv (i := 5) (v := .tuple #[strV (nameX cs y9), .int .i64 0]) rfl rfl rfl (yb_call (f := 30) (args := #[.agg (shC (.slice pc cs.length cc) (.slice po os.length co) t).toArray, .agg (sltC y9).toArray]) Tw.kf fun W hW => (by have h9 := R8Name_any cs pc cc Tw.om os po co Tw.om t y9.col y9.tier y9.half W ((RL.base HC.out) _ (hW.sub (fun _ h => by cases h))) ((RL.base HO.out) _ (hW.sub (fun _ h => by cases h))) (HR.out.keep hW.1) lr (HQ.out.keep hW.1) lq; rw [nameR_slot h1 (.inl rfl) hy9] at h9; exact h9)) ?_
               refine vm (i := 6) (v := .tuple #[strV (nameX cs y9), .int .i64 0]) rfl rfl rfl ?_
               refine vm (i := 7) (v := strV (nameX cs y9)) rfl rfl rfl ?_
               refine vm (i := 8) (v := .int .i64 0) rfl rfl rfl ?_
               refine vm (i := 9) (v := strV (nameX cs y9)) rfl rfl rfl ?_
               refine vm (i := 10) (v := .int .i64 0) rfl rfl rfl ?_
               refine wpV_done Tw.kr (fun W37 hW37 => ?_) _
               change Code.wp ..
               refine wp_seq ?_
               refine wp_region_L _ hW37 ?_
               refine lm (v := strV (nameX cs y9)) rfl rfl ?_
               refine lm (v := strV l) rfl rfl ?_
               refine lp (v := .bool (decide ((nameX cs y9) = l))) rfl rfl (run_bin rfl (vx := strV (nameX cs y9)) (vy := strV l) Tw.kr Tw.kr fun w => bs_eql rfl w) ?_
               refine wpL_done (fun W38 hW38 => ?_)
               change Code.wp ..
               cases hd11 : (decide ((nameX cs y9) = l)) with
               | false =>
                 have h11 : ¬ ((nameX cs y9) = l) := of_decide_eq_false hd11
                 clear hd11
                 refine wp_cond_false rfl ?_
                 refine wp_skip ?_
                 change Code.wp ..
                 refine wp_region_L _ hW38 ?_
                 refine lm (v := .int .i64 ((k1 : Nat) : Int)) rfl rfl ?_
                 refine lp (v := .int .i64 (((k1 + 1) : Nat) : Int)) rfl rfl (run_bin rfl (vx := (.int .i64 ((k1 : Nat) : Int))) (vy := (.int .i64 ((1 : Nat) : Int))) Tw.kr Tw.kr fun w => bn_add (z := (k1 + 1)) rfl (wr_i64 Tw.om) w) ?_
                 refine lm (v := .int .i64 (((k1 + 1) : Nat) : Int)) rfl rfl ?_
                 refine wpL_done (fun W39 hW39 => ?_)
                 go_roundw
                 case rel =>
                   repeat apply Exists.intro
                   exact ⟨⟨k1 + 1, Tw.om, (names_step hN1 hy9 h11), rfl, (hW39.sub (fun p hp => by first | exact hp | (simp only [List.mem_cons, List.mem_append, List.nil_append, List.not_mem_nil, or_assoc, or_false, false_or] at hp ⊢ <;> grind)))⟩, rfl⟩
                 case measure => (show (slotsX cs 20).length - (intOf (.int .i64 (((k1 + 1) : Nat) : Int))).toNat < (slotsX cs 20).length - (intOf (.int .i64 ((k1 : Nat) : Int))).toNat); simp only [intOf]; omega
               | true =>
                 have h11 : (nameX cs y9) = l := of_decide_eq_true hd11
                 clear hd11
                 refine wp_cond_true rfl ?_
                 refine wp_seq ?_
                 refine wp_region_L _ hW38 ?_
                 refine lm (v := .slice p4 ((slotsX cs 20).length) c4) rfl rfl ?_
                 refine lm (v := .int .i64 ((k1 : Nat) : Int)) rfl rfl ?_
                 refine lp (v := .pointer (some ⟨g9_, f9_ + k1 * 3, none⟩)) rfl rfl (run_idxQ (p := p4) (cap := c4) (n := (slotsX cs 20).length) (j := .i64) (k := k1) (sz := 3) rfl Tryd.underlying35 Tw.kr Tw.kr hp9 Tw.kr Tw.om) ?_
                 refine lv (v := .agg (sltC y9).toArray) rfl rfl (yb_rs (off := f9_ + k1 * 3) (cs := sltC y9) rfl Tw.kr (fun W hW => hc9 W (hW.sub (fun p hp => by simp only [List.mem_cons, List.mem_append, List.nil_append, List.not_mem_nil, or_assoc, or_false, false_or, hp, true_or, or_true]))) Tryd.underlying34 rfl Tw.kr) ?_
                 refine wpL_s ((g2, .cells (sltC y9).toArray 34 (0, 0)) :: (g1, .cells (shC (.slice pc cs.length cc) (.slice po os.length co) t).toArray 32 (0, 0)) :: Kl4) rfl rfl (st_row (off := 0) (v := .agg (sltC y9).toArray) rfl Tw.kr Tw.kr Tw.m0 Bg2 Tw.kr (by first | (simp [Value.cells]; done) | exact Nat.le_of_ble_eq_true rfl) (fun v hv => sltC_one y9 v hv) Tw.kr (List.forall_mem_cons.2 ⟨.inl rfl, (List.forall_mem_cons.2 ⟨.inr ⟨Tw.m1, Tw.nee⟩, (fun p hp => .inr ⟨(.tail _ (.tail _ hp)), ((show Dk g2 Kl4 from Tw.djt) _ hp)⟩)⟩)⟩)) ?_
                 refine lm (v := .int .i64 0) rfl rfl ?_
                 refine wpL_done (fun W40 hW40 => ?_)
                 change Code.wp ..
                 refine wp_ret ?_
                 try simp only [inBlock_ret, then_ret]
                 refine bodyPost_ret (v := .tuple #[.agg (sltC y9).toArray, .int .i64 0]) ?_ rfl ?_
                 · exact (res_cell_tmp (p := 4) (q := 5) rfl rfl (hW40.2 _ Tw.m0) Tryd.underlying34 rfl Tw.kr)
                 · exact ⟨(xi_is (slot_found h1 (.inl rfl) hy9 h11).symm), hW40.1⟩
       | true =>
         have h3 : i < 7 := of_decide_eq_true hd3
         clear hd3
         refine wp_cond_true rfl ?_
         refine wp_skip ?_
         change Code.wp ..
         refine wp_seq ?_
         refine wp_block ?_
         refine wp_seq ?_
         refine wp_region_L _ hW8 ?_
         refine lm (v := strV l) rfl rfl ?_
         refine lm (v := .int .i64 ((i : Nat) : Int)) rfl rfl ?_
         obtain ⟨b10, hb10⟩ : ∃ b, (l : List UInt8)[i]? = some b := ⟨_, List.getElem?_eq_getElem Tw.om⟩
         have lb10 := b10.toNat_lt
         refine lp (v := .int .u8 ((b10.toNat : Nat) : Int)) rfl rfl (run_idxS (j := .i64) (l := l) (k := i) (b := b10) rfl Tryd.underlying9 Tw.kr Tw.kr hb10) ?_
         refine lp (v := .bool (decide (b10.toNat < 48))) rfl rfl (run_bin rfl (vx := (.int .u8 ((b10.toNat : Nat) : Int))) (vy := (.int .u8 ((48 : Nat) : Int))) Tw.kr Tw.kr fun w => bn_lss rfl w) ?_
         refine lm (v := .bool (decide (b10.toNat < 48))) rfl rfl ?_
         cases hd12 : (decide (b10.toNat < 48)) with
         | false =>
           have h12 : ¬ (b10.toNat < 48) := of_decide_eq_false hd12
           clear hd12
           refine lm (v := strV l) rfl rfl ?_
           refine lm (v := .int .i64 ((i : Nat) : Int)) rfl rfl ?_
           refine lp (v := .int .u8 ((b10.toNat : Nat) : Int)) rfl rfl (run_idxS (j := .i64) (l := l) (k := i) (b := b10) rfl Tryd.underlying9 Tw.kr Tw.kr hb10) ?_
           refine lp (v := .bool (decide (57 < b10.toNat))) rfl rfl (run_bin rfl (vx := (.int .u8 ((b10.toNat : Nat) : Int))) (vy := (.int .u8 ((57 : Nat) : Int))) Tw.kr Tw.kr fun w => bn_gtr rfl w) ?_
           refine lm (v := .bool (decide (57 < b10.toNat))) rfl rfl ?_
           refine wpL_done (fun W41 hW41 => ?_)
           change Code.wp ..
           cases hd13 : (decide (57 < b10.toNat)) with
           | false =>
             have h13 : ¬ (57 < b10.toNat) := of_decide_eq_false hd13
             clear hd13
             refine wp_cond_false rfl ?_
             refine wp_skip ?_
             change Code.wp ..
             refine wp_region_L _ hW41 ?_
             refine lm (v := .int .i64 ((i : Nat) : Int)) rfl rfl ?_
             refine lp (v := .int .i64 (((i + 1) : Nat) : Int)) rfl rfl (run_bin rfl (vx := (.int .i64 ((i : Nat) : Int))) (vy := (.int .i64 ((1 : Nat) : Int))) Tw.kr Tw.kr fun w => bn_add (z := (i + 1)) rfl (wr_i64 Tw.om) w) ?_
             refine lm (v := .int .i64 (((i + 1) : Nat) : Int)) rfl rfl ?_
             refine wpL_done (fun W42 hW42 => ?_)
             go_roundw
             case rel =>
               repeat apply Exists.intro
               exact ⟨⟨i + 1, Tw.om, (dig_step hD hb10 (dg_of h12 h13)), rfl, (hW42.sub (fun p hp => by first | exact hp | (simp only [List.mem_cons, List.mem_append, List.nil_append, List.not_mem_nil, or_assoc, or_false, false_or] at hp ⊢ <;> grind)))⟩, rfl⟩
             case measure => (show 7 - (intOf (.int .i64 (((i + 1) : Nat) : Int))).toNat < 7 - (intOf (.int .i64 ((i : Nat) : Int))).toNat); simp only [intOf]; omega
           | true =>
             have h13 : 57 < b10.toNat := of_decide_eq_true hd13
             clear hd13
             refine wp_cond_true rfl ?_
             refine wp_seq ?_
             refine wp_region_L _ hW41 ?_
             refine lm (v := .agg #[.int .i64 0, .int .i64 0, .int .u8 0]) rfl rfl ?_
             refine wpL_s [(g2, .cells #[.int .i64 0, .int .i64 0, .int .u8 0] 34 (0, 0)), (g1, .cells (shC (.slice pc cs.length cc) (.slice po os.length co) t).toArray 32 (0, 0))] rfl rfl (st_row (off := 0) (v := .agg #[.int .i64 0, .int .i64 0, .int .u8 0]) rfl Tw.kr Tw.kr Tw.m0 Bg2 Tw.kr (by first | (simp [Value.cells]; done) | exact Nat.le_of_ble_eq_true rfl) (by intro v hv; simp [Value.cells] at hv; first | (subst hv; rfl) | (rcases hv with rfl | rfl | rfl <;> rfl)) Tw.kr (List.forall_mem_cons.2 ⟨.inl rfl, (List.forall_mem_cons.2 ⟨.inr ⟨Tw.m1, Tw.nee⟩, (List.forall_mem_nil _)⟩)⟩)) ?_
             refine lm (v := .int .i64 80) rfl rfl ?_
             refine wpL_done (fun W43 hW43 => ?_)
             change Code.wp ..
             refine wp_ret ?_
             try simp only [inBlock_ret, then_ret]
             refine bodyPost_ret (v := .tuple #[.agg #[.int .i64 0, .int .i64 0, .int .u8 0], .int .i64 80]) ?_ rfl ?_
             · exact (res_cell_tmp (p := 4) (q := 5) rfl rfl (hW43.2 _ Tw.m0) Tryd.underlying34 rfl Tw.kr)
             · exact ⟨(xi_is (x := slt0) (by unfold findR; rw [if_pos h1, if_neg (by unfold placeB; rw [digs_no hb10 (dg_hi h13)]; simp)])), hW43.1⟩
         | true =>
           have h12 : b10.toNat < 48 := of_decide_eq_true hd12
           clear hd12
           refine ln rfl ?_
           refine ln rfl ?_
           refine ln rfl ?_
           refine ln rfl ?_
           refine lm (v := .bool true) rfl rfl ?_
           refine wpL_done (fun W44 hW44 => ?_)
           change Code.wp ..
           refine wp_cond_true rfl ?_
           refine wp_seq ?_
           refine wp_region_L _ hW44 ?_
           refine lm (v := .agg #[.int .i64 0, .int .i64 0, .int .u8 0]) rfl rfl ?_
           refine wpL_s [(g2, .cells #[.int .i64 0, .int .i64 0, .int .u8 0] 34 (0, 0)), (g1, .cells (shC (.slice pc cs.length cc) (.slice po os.length co) t).toArray 32 (0, 0))] rfl rfl (st_row (off := 0) (v := .agg #[.int .i64 0, .int .i64 0, .int .u8 0]) rfl Tw.kr Tw.kr Tw.m0 Bg2 Tw.kr (by first | (simp [Value.cells]; done) | exact Nat.le_of_ble_eq_true rfl) (by intro v hv; simp [Value.cells] at hv; first | (subst hv; rfl) | (rcases hv with rfl | rfl | rfl <;> rfl)) Tw.kr (List.forall_mem_cons.2 ⟨.inl rfl, (List.forall_mem_cons.2 ⟨.inr ⟨Tw.m1, Tw.nee⟩, (List.forall_mem_nil _)⟩)⟩)) ?_
           refine lm (v := .int .i64 80) rfl rfl ?_
           refine wpL_done (fun W45 hW45 => ?_)
           change Code.wp ..
           refine wp_ret ?_
           try simp only [inBlock_ret, then_ret]
           refine bodyPost_ret (v := .tuple #[.agg #[.int .i64 0, .int .i64 0, .int .u8 0], .int .i64 80]) ?_ rfl ?_
           · exact (res_cell_tmp (p := 4) (q := 5) rfl rfl (hW45.2 _ Tw.m0) Tryd.underlying34 rfl Tw.kr)
           · exact ⟨(xi_is (x := slt0) (by unfold findR; rw [if_pos h1, if_neg (by unfold placeB; rw [digs_no hb10 (dg_lo h12)]; simp)])), hW45.1⟩
end Go.Proofs.YtlinjngifacmoaaDoor
namespace Go.Proofs.YtlinjngifacmoaaDoor
open Go Go.RowKit Tw
set_option maxRecDepth 100000 in
set_option maxHeartbeats 4000000 in
theorem LentShip_any (s : Sp) (w : World) (hs : SpIn w s) : Calls Tryd.prog 12 #[.agg (spC s).toArray] w fun e w' => ∃ t T, e = .returned (.agg (spC t).toArray) ∧ LentSp s t T ∧ (∀ b ∈ T, w.heap.size ≤ b.1) ∧ KS (w : Base) T w' := by
 go_enter Tryd.func12, Tryd.ntmps12
 refine wp_seq ?_
 refine wp_region_L [] (KS.start w) ?_
 refine wpL_new (fun g => .pointer (some ⟨g, 0, none⟩)) (obi := .cells #[.slice s.pc s.cs.length s.cc, .slice s.po s.os.length s.co, .int .i64 s.li.a, .int .i64 s.li.b, .int .i64 s.li.c, .int .i64 s.li.d, .slice s.pr s.rs.length s.cr, .slice s.pf s.fs.length s.cf, .slice s.pt s.ts.length s.ct, .int .i64 s.lm.a, .int .i64 s.lm.b, .int .i64 s.lm.c, .int .i64 s.lm.d] 32 (0, 0)) rfl rfl Tw.kf Tw.pf fun g1 Bg1 Fg1 => ?_
 refine wpL_new (fun g => .pointer (some ⟨g, 0, none⟩)) (obi := .cells (shC (.slice none 0 0) (.slice none 0 0) tl0).toArray 32 (0, 0)) rfl rfl Tw.kf Tw.pf fun g2 Bg2 Fg2 => ?_
 obtain dj3_0 : g1 ≠ g2 := Tw.dkf Fg2
 refine wpL_done (fun W1 hW1 => ?_)
 change Code.wp ..
 refine wp_seq ?_
 refine wp_region_L _ hW1 ?_
 refine lm (v := .pointer (some ⟨g1, 0, none⟩)) rfl rfl ?_
 refine lv (v := .slice s.pc s.cs.length s.cc) rfl rfl (yb_cell (off := 0) rfl Tw.kr Tw.m1 Tryd.underlying22 rfl Tw.kr) ?_
 refine wpL_c (f := 39) (args := #[.slice s.pc s.cs.length s.cc]) (NewF (FC s.cs) w [(g2, .cells (shC (.slice none 0 0) (.slice none 0 0) tl0).toArray 32 (0, 0)), (g1, .cells #[.slice s.pc s.cs.length s.cc, .slice s.po s.os.length s.co, .int .i64 s.li.a, .int .i64 s.li.b, .int .i64 s.li.c, .int .i64 s.li.d, .slice s.pr s.rs.length s.cr, .slice s.pf s.fs.length s.cf, .slice s.pt s.ts.length s.ct, .int .i64 s.lm.a, .int .i64 s.lm.b, .int .i64 s.lm.c, .int .i64 s.lm.d] 32 (0, 0))]) rfl Tw.kr Tw.kf (fun W hW => calls_new hW ((LentColumns_any s.cs s.pc s.cc hs.nc hs.np W (hs.hc.keep hW.1) (hs.hp.keep hW.1)).mono fun _ _ ⟨X, q, d, T, h1, h2, h3, h4, h5, h6, h7⟩ => ⟨_, T, h1, ⟨X, q, d, rfl, h2, h3, h4, h5⟩, h6, h7⟩)) Tw.pf ?_
 rintro _ _ ⟨T4, ⟨X4, p4, c4, rfl, n4, x4, L4, H4⟩, b4, N4, rfl⟩
 obtain ⟨dj5_0, dj5_1⟩ : Dk g2 T4 ∧ Dk g1 T4 := Tw.djf N4
 refine lm (v := .pointer (some ⟨g1, 0, none⟩)) rfl rfl ?_
 refine wpL_s ((g2, .cells (shC (.slice none 0 0) (.slice none 0 0) tl0).toArray 32 (0, 0)) :: (g1, .cells #[.slice p4 s.cs.length c4, .slice s.po s.os.length s.co, .int .i64 s.li.a, .int .i64 s.li.b, .int .i64 s.li.c, .int .i64 s.li.d, .slice s.pr s.rs.length s.cr, .slice s.pf s.fs.length s.cf, .slice s.pt s.ts.length s.ct, .int .i64 s.lm.a, .int .i64 s.lm.b, .int .i64 s.lm.c, .int .i64 s.lm.d] 32 (0, 0)) :: T4) rfl rfl (st_row (off := 0) (v := .slice p4 s.cs.length c4) rfl Tw.kr Tw.kr Tw.m1 Bg1 Tw.kr (by first | (simp [Value.cells]; done) | exact Nat.le_of_ble_eq_true rfl) (by intro v hv; simp [Value.cells] at hv; first | (subst hv; rfl) | (rcases hv with rfl <;> rfl)) Tw.kr (List.forall_mem_cons.2 ⟨.inr ⟨Tw.m0, Tw.nee⟩, (List.forall_mem_cons.2 ⟨.inl rfl, (fun p hp => .inr ⟨(.tail _ (.tail _ hp)), ((show Dk g1 T4 from Tw.djt) _ hp)⟩)⟩)⟩)) ?_
 refine wpL_done (fun W2 hW2 => ?_)
 change Code.wp ..
 refine wp_seq ?_
 refine wp_region_L _ hW2 ?_
 refine lm (v := .pointer (some ⟨g1, 1, none⟩)) rfl rfl ?_
 refine lv (v := .slice s.po s.os.length s.co) rfl rfl (yb_cell (off := 1) rfl Tw.kr Tw.m1 Tryd.underlying23 rfl Tw.kr) ?_
 refine wpL_c (f := 40) (args := #[.slice s.po s.os.length s.co]) (NewF (FO s.os) w ((g2, .cells (shC (.slice none 0 0) (.slice none 0 0) tl0).toArray 32 (0, 0)) :: (g1, .cells #[.slice p4 s.cs.length c4, .slice s.po s.os.length s.co, .int .i64 s.li.a, .int .i64 s.li.b, .int .i64 s.li.c, .int .i64 s.li.d, .slice s.pr s.rs.length s.cr, .slice s.pf s.fs.length s.cf, .slice s.pt s.ts.length s.ct, .int .i64 s.lm.a, .int .i64 s.lm.b, .int .i64 s.lm.c, .int .i64 s.lm.d] 32 (0, 0)) :: T4)) rfl Tw.kr Tw.kf (fun W hW => calls_new hW ((LentCovers_any s.os s.po s.co hs.no hs.nr W (hs.ho.keep hW.1) (hs.hr.keep hW.1)).mono fun _ _ ⟨X, q, d, T, h1, h2, h3, h4, h5, h6, h7⟩ => ⟨_, T, h1, ⟨X, q, d, rfl, h2, h3, h4, h5⟩, h6, h7⟩)) Tw.pf ?_
 rintro _ _ ⟨T6, ⟨X6, p6, c6, rfl, n6, x6, L6, H6⟩, b6, N6, rfl⟩
 obtain ⟨dj7_0, dj7_1, dj7_2⟩ : Dk g2 T6 ∧ Dk g1 T6 ∧ Dj T4 T6 := Tw.djf N6
 refine wpL_sub (K2 := ((g2, .cells (shC (.slice none 0 0) (.slice none 0 0) tl0).toArray 32 (0, 0)) :: (g1, .cells #[.slice p4 s.cs.length c4, .slice s.po s.os.length s.co, .int .i64 s.li.a, .int .i64 s.li.b, .int .i64 s.li.c, .int .i64 s.li.d, .slice s.pr s.rs.length s.cr, .slice s.pf s.fs.length s.cf, .slice s.pt s.ts.length s.ct, .int .i64 s.lm.a, .int .i64 s.lm.b, .int .i64 s.lm.c, .int .i64 s.lm.d] 32 (0, 0)) :: (T4 ++ T6))) (fun p hp => by simp only [List.mem_cons, List.mem_append, or_assoc] at hp ⊢; exact hp) ?_
 refine lm (v := .pointer (some ⟨g1, 1, none⟩)) rfl rfl ?_
 refine wpL_s ((g2, .cells (shC (.slice none 0 0) (.slice none 0 0) tl0).toArray 32 (0, 0)) :: (g1, .cells #[.slice p4 s.cs.length c4, .slice p6 s.os.length c6, .int .i64 s.li.a, .int .i64 s.li.b, .int .i64 s.li.c, .int .i64 s.li.d, .slice s.pr s.rs.length s.cr, .slice s.pf s.fs.length s.cf, .slice s.pt s.ts.length s.ct, .int .i64 s.lm.a, .int .i64 s.lm.b, .int .i64 s.lm.c, .int .i64 s.lm.d] 32 (0, 0)) :: (T4 ++ T6)) rfl rfl (st_row (off := 1) (v := .slice p6 s.os.length c6) rfl Tw.kr Tw.kr Tw.m1 Bg1 Tw.kr (by first | (simp [Value.cells]; done) | exact Nat.le_of_ble_eq_true rfl) (by intro v hv; simp [Value.cells] at hv; first | (subst hv; rfl) | (rcases hv with rfl <;> rfl)) Tw.kr (List.forall_mem_cons.2 ⟨.inr ⟨Tw.m0, Tw.nee⟩, (List.forall_mem_cons.2 ⟨.inl rfl, (fun p hp => .inr ⟨(.tail _ (.tail _ hp)), ((show Dk g1 (T4 ++ T6) from Tw.djt) _ hp)⟩)⟩)⟩)) ?_
 refine wpL_done (fun W3 hW3 => ?_)
 change Code.wp ..
 refine wp_seq ?_
 refine wp_region_L _ hW3 ?_
 refine lm (v := .pointer (some ⟨g1, 6, none⟩)) rfl rfl ?_
 refine lv (v := .slice s.pr s.rs.length s.cr) rfl rfl (yb_cell (off := 6) rfl Tw.kr Tw.m1 Tryd.underlying26 rfl Tw.kr) ?_
 refine wpL_c (f := 41) (args := #[.slice s.pr s.rs.length s.cr]) (NewF (FN (mkRowL 12) s.rs) w ((g2, .cells (shC (.slice none 0 0) (.slice none 0 0) tl0).toArray 32 (0, 0)) :: (g1, .cells #[.slice p4 s.cs.length c4, .slice p6 s.os.length c6, .int .i64 s.li.a, .int .i64 s.li.b, .int .i64 s.li.c, .int .i64 s.li.d, .slice s.pr s.rs.length s.cr, .slice s.pf s.fs.length s.cf, .slice s.pt s.ts.length s.ct, .int .i64 s.lm.a, .int .i64 s.lm.b, .int .i64 s.lm.c, .int .i64 s.lm.d] 32 (0, 0)) :: (T4 ++ T6))) rfl Tw.kr Tw.kf (fun W hW => calls_new hW (fn_of (LentRows_any s.rs s.pr s.cr hs.nrs W (hs.hrs.keep hW.1)))) Tw.pf ?_
 rintro _ _ ⟨T8, ⟨p8, c8, rfl, n8, H8⟩, b8, N8, rfl⟩
 obtain ⟨dj9_0, dj9_1, dj9_2, dj9_3⟩ : Dk g2 T8 ∧ Dk g1 T8 ∧ Dj T4 T8 ∧ Dj T6 T8 := Tw.djf N8
 refine wpL_sub (K2 := ((g2, .cells (shC (.slice none 0 0) (.slice none 0 0) tl0).toArray 32 (0, 0)) :: (g1, .cells #[.slice p4 s.cs.length c4, .slice p6 s.os.length c6, .int .i64 s.li.a, .int .i64 s.li.b, .int .i64 s.li.c, .int .i64 s.li.d, .slice s.pr s.rs.length s.cr, .slice s.pf s.fs.length s.cf, .slice s.pt s.ts.length s.ct, .int .i64 s.lm.a, .int .i64 s.lm.b, .int .i64 s.lm.c, .int .i64 s.lm.d] 32 (0, 0)) :: (T4 ++ (T6 ++ T8)))) (fun p hp => by simp only [List.mem_cons, List.mem_append, or_assoc] at hp ⊢; exact hp) ?_
 refine lm (v := .pointer (some ⟨g1, 6, none⟩)) rfl rfl ?_
 refine wpL_s ((g2, .cells (shC (.slice none 0 0) (.slice none 0 0) tl0).toArray 32 (0, 0)) :: (g1, .cells #[.slice p4 s.cs.length c4, .slice p6 s.os.length c6, .int .i64 s.li.a, .int .i64 s.li.b, .int .i64 s.li.c, .int .i64 s.li.d, .slice p8 s.rs.length c8, .slice s.pf s.fs.length s.cf, .slice s.pt s.ts.length s.ct, .int .i64 s.lm.a, .int .i64 s.lm.b, .int .i64 s.lm.c, .int .i64 s.lm.d] 32 (0, 0)) :: (T4 ++ (T6 ++ T8))) rfl rfl (st_row (off := 6) (v := .slice p8 s.rs.length c8) rfl Tw.kr Tw.kr Tw.m1 Bg1 Tw.kr (by first | (simp [Value.cells]; done) | exact Nat.le_of_ble_eq_true rfl) (by intro v hv; simp [Value.cells] at hv; first | (subst hv; rfl) | (rcases hv with rfl <;> rfl)) Tw.kr (List.forall_mem_cons.2 ⟨.inr ⟨Tw.m0, Tw.nee⟩, (List.forall_mem_cons.2 ⟨.inl rfl, (fun p hp => .inr ⟨(.tail _ (.tail _ hp)), ((show Dk g1 (T4 ++ (T6 ++ T8)) from Tw.djt) _ hp)⟩)⟩)⟩)) ?_
 refine wpL_done (fun W4 hW4 => ?_)
 change Code.wp ..
 refine wp_seq ?_
 refine wp_region_L _ hW4 ?_
 refine lm (v := .pointer (some ⟨g1, 7, none⟩)) rfl rfl ?_
 refine lv (v := .slice s.pf s.fs.length s.cf) rfl rfl (yb_cell (off := 7) rfl Tw.kr Tw.m1 Tryd.underlying27 rfl Tw.kr) ?_
 refine wpL_c (f := 42) (args := #[.slice s.pf s.fs.length s.cf]) (NewF (FN (mkFraL 12) s.fs) w ((g2, .cells (shC (.slice none 0 0) (.slice none 0 0) tl0).toArray 32 (0, 0)) :: (g1, .cells #[.slice p4 s.cs.length c4, .slice p6 s.os.length c6, .int .i64 s.li.a, .int .i64 s.li.b, .int .i64 s.li.c, .int .i64 s.li.d, .slice p8 s.rs.length c8, .slice s.pf s.fs.length s.cf, .slice s.pt s.ts.length s.ct, .int .i64 s.lm.a, .int .i64 s.lm.b, .int .i64 s.lm.c, .int .i64 s.lm.d] 32 (0, 0)) :: (T4 ++ (T6 ++ T8)))) rfl Tw.kr Tw.kf (fun W hW => calls_new hW (fn_of (LentFrames_any s.fs s.pf s.cf hs.nfs W (hs.hfs.keep hW.1)))) Tw.pf ?_
 rintro _ _ ⟨T10, ⟨p10, c10, rfl, n10, H10⟩, b10, N10, rfl⟩
 obtain ⟨dj11_0, dj11_1, dj11_2, dj11_3, dj11_4⟩ : Dk g2 T10 ∧ Dk g1 T10 ∧ Dj T4 T10 ∧ Dj T6 T10 ∧ Dj T8 T10 := Tw.djf N10
 refine wpL_sub (K2 := ((g2, .cells (shC (.slice none 0 0) (.slice none 0 0) tl0).toArray 32 (0, 0)) :: (g1, .cells #[.slice p4 s.cs.length c4, .slice p6 s.os.length c6, .int .i64 s.li.a, .int .i64 s.li.b, .int .i64 s.li.c, .int .i64 s.li.d, .slice p8 s.rs.length c8, .slice s.pf s.fs.length s.cf, .slice s.pt s.ts.length s.ct, .int .i64 s.lm.a, .int .i64 s.lm.b, .int .i64 s.lm.c, .int .i64 s.lm.d] 32 (0, 0)) :: (T4 ++ (T6 ++ (T8 ++ T10))))) (fun p hp => by simp only [List.mem_cons, List.mem_append, or_assoc] at hp ⊢; exact hp) ?_
 refine lm (v := .pointer (some ⟨g1, 7, none⟩)) rfl rfl ?_
 refine wpL_s ((g2, .cells (shC (.slice none 0 0) (.slice none 0 0) tl0).toArray 32 (0, 0)) :: (g1, .cells #[.slice p4 s.cs.length c4, .slice p6 s.os.length c6, .int .i64 s.li.a, .int .i64 s.li.b, .int .i64 s.li.c, .int .i64 s.li.d, .slice p8 s.rs.length c8, .slice p10 s.fs.length c10, .slice s.pt s.ts.length s.ct, .int .i64 s.lm.a, .int .i64 s.lm.b, .int .i64 s.lm.c, .int .i64 s.lm.d] 32 (0, 0)) :: (T4 ++ (T6 ++ (T8 ++ T10)))) rfl rfl (st_row (off := 7) (v := .slice p10 s.fs.length c10) rfl Tw.kr Tw.kr Tw.m1 Bg1 Tw.kr (by first | (simp [Value.cells]; done) | exact Nat.le_of_ble_eq_true rfl) (by intro v hv; simp [Value.cells] at hv; first | (subst hv; rfl) | (rcases hv with rfl <;> rfl)) Tw.kr (List.forall_mem_cons.2 ⟨.inr ⟨Tw.m0, Tw.nee⟩, (List.forall_mem_cons.2 ⟨.inl rfl, (fun p hp => .inr ⟨(.tail _ (.tail _ hp)), ((show Dk g1 (T4 ++ (T6 ++ (T8 ++ T10))) from Tw.djt) _ hp)⟩)⟩)⟩)) ?_
 refine wpL_done (fun W5 hW5 => ?_)
 change Code.wp ..
 refine wp_seq ?_
 refine wp_region_L _ hW5 ?_
 refine lm (v := .pointer (some ⟨g1, 8, none⟩)) rfl rfl ?_
 refine lv (v := .slice s.pt s.ts.length s.ct) rfl rfl (yb_cell (off := 8) rfl Tw.kr Tw.m1 Tryd.underlying28 rfl Tw.kr) ?_
 refine wpL_c (f := 43) (args := #[.slice s.pt s.ts.length s.ct]) (NewF (FT s.ts) w ((g2, .cells (shC (.slice none 0 0) (.slice none 0 0) tl0).toArray 32 (0, 0)) :: (g1, .cells #[.slice p4 s.cs.length c4, .slice p6 s.os.length c6, .int .i64 s.li.a, .int .i64 s.li.b, .int .i64 s.li.c, .int .i64 s.li.d, .slice p8 s.rs.length c8, .slice p10 s.fs.length c10, .slice s.pt s.ts.length s.ct, .int .i64 s.lm.a, .int .i64 s.lm.b, .int .i64 s.lm.c, .int .i64 s.lm.d] 32 (0, 0)) :: (T4 ++ (T6 ++ (T8 ++ T10))))) rfl Tw.kr Tw.kf (fun W hW => calls_new hW ((LentTanks_any s.ts s.pt s.ct hs.nts hs.nst W (hs.hts.keep hW.1) (hs.hst.keep hW.1)).mono fun _ _ ⟨X, q, d, T, h1, h2, h3, h4, h5, h6, h7⟩ => ⟨_, T, h1, ⟨X, q, d, rfl, h2, h3, h4, h5⟩, h6, h7⟩)) Tw.pf ?_
 rintro _ _ ⟨T12, ⟨X12, p12, c12, rfl, n12, x12, L12, H12⟩, b12, N12, rfl⟩
 obtain ⟨dj13_0, dj13_1, dj13_2, dj13_3, dj13_4, dj13_5⟩ : Dk g2 T12 ∧ Dk g1 T12 ∧ Dj T4 T12 ∧ Dj T6 T12 ∧ Dj T8 T12 ∧ Dj T10 T12 := Tw.djf N12
 refine wpL_sub (K2 := ((g2, .cells (shC (.slice none 0 0) (.slice none 0 0) tl0).toArray 32 (0, 0)) :: (g1, .cells #[.slice p4 s.cs.length c4, .slice p6 s.os.length c6, .int .i64 s.li.a, .int .i64 s.li.b, .int .i64 s.li.c, .int .i64 s.li.d, .slice p8 s.rs.length c8, .slice p10 s.fs.length c10, .slice s.pt s.ts.length s.ct, .int .i64 s.lm.a, .int .i64 s.lm.b, .int .i64 s.lm.c, .int .i64 s.lm.d] 32 (0, 0)) :: (T4 ++ (T6 ++ (T8 ++ (T10 ++ T12)))))) (fun p hp => by simp only [List.mem_cons, List.mem_append, or_assoc] at hp ⊢; exact hp) ?_
 refine lm (v := .pointer (some ⟨g1, 8, none⟩)) rfl rfl ?_
 refine wpL_s ((g2, .cells (shC (.slice none 0 0) (.slice none 0 0) tl0).toArray 32 (0, 0)) :: (g1, .cells #[.slice p4 s.cs.length c4, .slice p6 s.os.length c6, .int .i64 s.li.a, .int .i64 s.li.b, .int .i64 s.li.c, .int .i64 s.li.d, .slice p8 s.rs.length c8, .slice p10 s.fs.length c10, .slice p12 s.ts.length c12, .int .i64 s.lm.a, .int .i64 s.lm.b, .int .i64 s.lm.c, .int .i64 s.lm.d] 32 (0, 0)) :: (T4 ++ (T6 ++ (T8 ++ (T10 ++ T12))))) rfl rfl (st_row (off := 8) (v := .slice p12 s.ts.length c12) rfl Tw.kr Tw.kr Tw.m1 Bg1 Tw.kr (by first | (simp [Value.cells]; done) | exact Nat.le_of_ble_eq_true rfl) (by intro v hv; simp [Value.cells] at hv; first | (subst hv; rfl) | (rcases hv with rfl <;> rfl)) Tw.kr (List.forall_mem_cons.2 ⟨.inr ⟨Tw.m0, Tw.nee⟩, (List.forall_mem_cons.2 ⟨.inl rfl, (fun p hp => .inr ⟨(.tail _ (.tail _ hp)), ((show Dk g1 (T4 ++ (T6 ++ (T8 ++ (T10 ++ T12)))) from Tw.djt) _ hp)⟩)⟩)⟩)) ?_
 refine wpL_done (fun W6 hW6 => ?_)
 change Code.wp ..
 refine wp_seq ?_
 refine wp_region_L _ hW6 ?_
 refine lv (v := .agg #[.slice p4 s.cs.length c4, .slice p6 s.os.length c6, .int .i64 s.li.a, .int .i64 s.li.b, .int .i64 s.li.c, .int .i64 s.li.d, .slice p8 s.rs.length c8, .slice p10 s.fs.length c10, .slice p12 s.ts.length c12, .int .i64 s.lm.a, .int .i64 s.lm.b, .int .i64 s.lm.c, .int .i64 s.lm.d]) rfl rfl (yb_load (n := 13) (off := 0) rfl Tw.kr Tw.m1 Tryd.underlying32 rfl Tw.kr (by first | (simp [Value.cells]; done) | exact Nat.le_of_ble_eq_true rfl) Tw.kr) ?_
 refine wpL_s ((g2, .cells #[.slice p4 s.cs.length c4, .slice p6 s.os.length c6, .int .i64 s.li.a, .int .i64 s.li.b, .int .i64 s.li.c, .int .i64 s.li.d, .slice p8 s.rs.length c8, .slice p10 s.fs.length c10, .slice p12 s.ts.length c12, .int .i64 s.lm.a, .int .i64 s.lm.b, .int .i64 s.lm.c, .int .i64 s.lm.d] 32 (0, 0)) :: (g1, .cells #[.slice p4 s.cs.length c4, .slice p6 s.os.length c6, .int .i64 s.li.a, .int .i64 s.li.b, .int .i64 s.li.c, .int .i64 s.li.d, .slice p8 s.rs.length c8, .slice p10 s.fs.length c10, .slice p12 s.ts.length c12, .int .i64 s.lm.a, .int .i64 s.lm.b, .int .i64 s.lm.c, .int .i64 s.lm.d] 32 (0, 0)) :: (T4 ++ (T6 ++ (T8 ++ (T10 ++ T12))))) rfl rfl (st_row (off := 0) (v := .agg #[.slice p4 s.cs.length c4, .slice p6 s.os.length c6, .int .i64 s.li.a, .int .i64 s.li.b, .int .i64 s.li.c, .int .i64 s.li.d, .slice p8 s.rs.length c8, .slice p10 s.fs.length c10, .slice p12 s.ts.length c12, .int .i64 s.lm.a, .int .i64 s.lm.b, .int .i64 s.lm.c, .int .i64 s.lm.d]) rfl Tw.kr Tw.kr Tw.m0 Bg2 Tw.kr (by first | (simp [Value.cells]; done) | exact Nat.le_of_ble_eq_true rfl) (by intro v hv; simp [Value.cells] at hv; first | (subst hv; rfl) | (rcases hv with rfl | rfl | rfl | rfl | rfl | rfl | rfl | rfl | rfl | rfl | rfl | rfl | rfl <;> rfl)) Tw.kr (List.forall_mem_cons.2 ⟨.inl rfl, (List.forall_mem_cons.2 ⟨.inr ⟨Tw.m1, Tw.nee⟩, (fun p hp => .inr ⟨(.tail _ (.tail _ hp)), ((show Dk g2 (T4 ++ (T6 ++ (T8 ++ (T10 ++ T12)))) from Tw.djt) _ hp)⟩)⟩)⟩)) ?_
 refine wpL_done (fun W7 hW7 => ?_)
 change Code.wp ..
 refine wp_ret ?_
 try simp only [inBlock_ret, then_ret]
 refine bodyPost_ret (v := .agg #[.slice p4 s.cs.length c4, .slice p6 s.os.length c6, .int .i64 s.li.a, .int .i64 s.li.b, .int .i64 s.li.c, .int .i64 s.li.d, .slice p8 s.rs.length c8, .slice p10 s.fs.length c10, .slice p12 s.ts.length c12, .int .i64 s.lm.a, .int .i64 s.lm.b, .int .i64 s.lm.c, .int .i64 s.lm.d]) ?_ rfl ?_
 · exact (res_cell (p := 2) rfl rfl (hW7.2 _ Tw.m0) Tryd.underlying32 rfl Tw.kr)
 · exact ⟨({ s with cs := X4, pc := p4, cc := c4, os := X6, po := p6, co := c6, pr := p8, cr := c8, pf := p10, cf := c10, ts := X12, pt := p12, ct := c12 } : Sp), (T4 ++ (T6 ++ (T8 ++ (T10 ++ T12)))), by simp [spC, spT, shC, x4, x6, x12], ⟨⟨rfl, rfl, rfl, rfl⟩, ⟨x4, L4.mono (fun p hp => by simp only [List.mem_cons, List.mem_append, List.nil_append, List.not_mem_nil, or_assoc, or_false, false_or, hp, true_or, or_true]), H4.mono (fun p hp => by simp only [List.mem_cons, List.mem_append, List.nil_append, List.not_mem_nil, or_assoc, or_false, false_or, hp, true_or, or_true]), n4⟩, ⟨x6, L6.mono (fun p hp => by simp only [List.mem_cons, List.mem_append, List.nil_append, List.not_mem_nil, or_assoc, or_false, false_or, hp, true_or, or_true]), H6.mono (fun p hp => by simp only [List.mem_cons, List.mem_append, List.nil_append, List.not_mem_nil, or_assoc, or_false, false_or, hp, true_or, or_true]), n6⟩, ⟨x12, L12.mono (fun p hp => by simp only [List.mem_cons, List.mem_append, List.nil_append, List.not_mem_nil, or_assoc, or_false, false_or, hp, true_or, or_true]), H12.mono (fun p hp => by simp only [List.mem_cons, List.mem_append, List.nil_append, List.not_mem_nil, or_assoc, or_false, false_or, hp, true_or, or_true]), n12⟩, ⟨H8.mono (fun p hp => by simp only [List.mem_cons, List.mem_append, List.nil_append, List.not_mem_nil, or_assoc, or_false, false_or, hp, true_or, or_true]), n8⟩, ⟨H10.mono (fun p hp => by simp only [List.mem_cons, List.mem_append, List.nil_append, List.not_mem_nil, or_assoc, or_false, false_or, hp, true_or, or_true]), n10⟩⟩, (fun b hb => by simp only [List.mem_append] at hb; rcases hb with h | h | h | h | h; exact b4 b h; exact b6 b h; exact b8 b h; exact b10 b h; exact b12 b h), hW7.sub (fun p hp => by simp only [List.mem_cons, List.mem_append, List.nil_append, List.not_mem_nil, or_assoc, or_false, false_or, hp, true_or, or_true])⟩
end Go.Proofs.YtlinjngifacmoaaDoor
