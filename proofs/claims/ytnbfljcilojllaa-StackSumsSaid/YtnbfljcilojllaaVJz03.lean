import Derived.Test.YtnbfljcilojllaaSS00
import Derived.Test.YtnbfljcilojllaaVJz01
import Derived.Test.YtnbfljcilojllaaVJz02
import Derived.Test.YtnbfljcilojllaaVJz00
/- Part of the proof: LC2, VD, V2. -/
set_option linter.unusedVariables false
set_option linter.unusedSimpArgs false
set_option linter.unusedSectionVars false
namespace Go.Proofs.Ytnbfljcilojllaa
open Go Go.RowKit Tw
set_option maxRecDepth 100000 in
set_option maxHeartbeats 4000000 in
theorem Built_own {W0 : Base} (l : List Pl) (p : Option Addr) (c : Nat) (n : Nat) (hl : l.length ≤ 9223372036854775807) (hcap : l.length ≤ c) (hok : ∀ y ∈ l, plOk y) (hn : n ≤ 4294967295) (hp : RL plC W0 p l []) (w : World) (hw : KS W0 [] w) : Calls Try.prog 34 #[.slice p l.length c, .int .u32 ((n : Nat) : Int)] w fun e w' => ∃ v T, e = .returned v ∧ KS W0 T w' ∧ ShipW W0 (builtC l) (builtO n) v T := by
 obtain ⟨m, hm⟩ : ∃ m : Nat, m = min l.length 12 := ⟨_, rfl⟩
 go_enter Try.func34, Try.ntmps34
 refine wp_seq ?_
 refine wp_region_L (W0 := W0) [] (hw) ?_
 refine wpL_new (fun g => .pointer (some ⟨g, 0, none⟩)) (obi := .cells (shC (.slice none 0 0) (.slice none 0 0) tl0).toArray 32 (0, 0)) rfl rfl Tw.kf Tw.pf fun g1 Bg1 Fg1 => ?_
 refine wpL_done (fun W1 hW1 => ?_)
 change Code.wp ..
 refine wp_seq ?_
 refine wp_region_L (W0 := W0) [(g1, .cells (shC (.slice none 0 0) (.slice none 0 0) tl0).toArray 32 (0, 0))] (hW1) ?_
 refine wpL_new (fun g => .pointer (some ⟨g, 0, none⟩)) (obi := .cells (shC (.slice none 0 0) (.slice none 0 0) tl0).toArray 32 (0, 0)) rfl rfl Tw.kf Tw.pf fun g2 Bg2 Fg2 => ?_
 obtain dj3_0 : g1 ≠ g2 := Tw.dkf Fg2
 refine wpL_done (fun W2 hW2 => ?_)
 change Code.wp ..
 refine wp_seq ?_
 refine wp_seq ?_
 refine wp_region_L (W0 := W0) [(g2, .cells (shC (.slice none 0 0) (.slice none 0 0) tl0).toArray 32 (0, 0)), (g1, .cells (shC (.slice none 0 0) (.slice none 0 0) tl0).toArray 32 (0, 0))] (hW2) ?_
 refine lm (v := .slice p l.length c) rfl rfl ?_
 refine lm (v := .slice p l.length c) rfl rfl ?_
 refine lp (v := .int .i64 ((l.length : Nat) : Int)) rfl rfl (run_lenL (p := p) (cap := c) (n := l.length) rfl Try.underlying49 Tw.kr) ?_
 refine lp (v := .int .i64 ((m : Nat) : Int)) rfl rfl (run_min2 (x := ((l.length : Nat) : Int)) (y := 12) (z := ((m : Nat) : Int)) rfl Tw.kr Tw.kr Tw.om) ?_
 refine lp (v := .slice p m c) rfl rfl (run_slt (kd := .i64) (j := m) (n := l.length) (c := c) (sz := 4) rfl Try.underlying49 Tw.kr Tw.kr Tw.kr Tw.om) ?_
 refine lp (v := .int .i64 ((m : Nat) : Int)) rfl rfl (run_lenL (p := p) (cap := c) (n := m) rfl Try.underlying49 Tw.kr) ?_
 refine lm (v := .int .i64 0) rfl rfl ?_
 refine wpL_done (fun W3 hW3 => ?_)
 change Code.wp ..
 refine wp_block ?_
 go_loopw [18] (fun u18 wr => ∃ (k : Nat) (cs : List Col) (vc : Value) (Kc : List (Nat × Obj)), (k ≤ m) ∧ (cs = bld ((l.take m).take k)) ∧ (cs.length ≤ k) ∧ (OwnL W0 46 12 vc cs.length (cs.flatMap colC) Kc) ∧ (Dk g2 Kc) ∧ (Dk g1 Kc) ∧ u18 = .int .i64 ((k : Nat) : Int) ∧ KS W0 ((g2, .cells (shC (vc) (.slice none 0 0) tl0).toArray 32 (0, 0)) :: (g1, .cells (shC (.slice none 0 0) (.slice none 0 0) tl0).toArray 32 (0, 0)) :: Kc) wr) (fun u18 _ => m - (intOf u18).toNat)
 case atStart => exact ⟨0, [], (.slice none 0 0), [], (Nat.zero_le _), rfl, (Nat.le_refl _), (OwnL.nil _ _ _), (show Dk g2 [] from Tw.djt), (show Dk g1 [] from Tw.djt), rfl, (hW3.sub (fun p hp => by first | exact hp | (simp only [List.mem_cons, List.mem_append, List.nil_append, List.not_mem_nil, or_assoc, or_false, false_or] at hp ⊢ <;> grind)))⟩
 case round =>
   obtain ⟨k, cs, vc, Kc, hk, hcs, hlc, hOc, dh4_0, dh4_1, rfl, hL4⟩ := hrel
   obtain ⟨pc, cc, rfl, hcc, RC⟩ := own_rl hOc
   refine wp_seq ?_
   refine wp_region_L (W0 := W0) ((g2, .cells (shC (.slice pc cs.length cc) (.slice none 0 0) tl0).toArray 32 (0, 0)) :: (g1, .cells (shC (.slice none 0 0) (.slice none 0 0) tl0).toArray 32 (0, 0)) :: Kc) (hL4) ?_
   refine lp (v := .bool (decide (k < m))) rfl rfl (run_bin rfl (vx := (.int .i64 ((k : Nat) : Int))) (vy := (.int .i64 ((m : Nat) : Int))) Tw.kr Tw.kr fun w => bn_lss rfl w) ?_
   refine wpL_done (fun W5 hW5 => ?_)
   change Code.wp ..
   refine wp_seq ?_
   cases hd1 : (decide (k < m)) with
   | false =>
     have h1 : ¬ (k < m) := of_decide_eq_false hd1
     clear hd1
     refine wp_cond_false rfl ?_
     refine wp_exit ?_
     change Code.wp ..
     refine wp_seq ?_
     refine wp_seq ?_
     refine wp_region_L (W0 := W0) ((g2, .cells (shC (.slice pc cs.length cc) (.slice none 0 0) tl0).toArray 32 (0, 0)) :: (g1, .cells (shC (.slice none 0 0) (.slice none 0 0) tl0).toArray 32 (0, 0)) :: Kc) (hW5) ?_
     refine lm (v := .pointer (some ⟨g2, 0, none⟩)) rfl rfl ?_
     refine lv (v := .slice pc cs.length cc) rfl rfl (yb_cell (off := 0) rfl Tw.kr Tw.m0 Try.underlying22 rfl Tw.kr) ?_
     refine lp (v := .int .i64 ((cs.length : Nat) : Int)) rfl rfl (run_lenO (W0 := W0) rfl Try.underlying22 Tw.kr hOc) ?_
     refine lp (v := .bool (decide (cs.length = 0))) rfl rfl (run_bin rfl (vx := (.int .i64 ((cs.length : Nat) : Int))) (vy := (.int .i64 ((0 : Nat) : Int))) Tw.kr Tw.kr fun w => bn_eql rfl w) ?_
     refine wpL_done (fun W6 hW6 => ?_)
     change Code.wp ..
     cases hd2 : (decide (cs.length = 0)) with
     | false =>
       have h2 : ¬ (cs.length = 0) := of_decide_eq_false hd2
       clear hd2
       refine wp_cond_false rfl ?_
       refine wp_skip ?_
       change Code.wp ..
       refine wp_seq ?_
       refine wp_seq ?_
       refine wp_region_L (W0 := W0) ((g2, .cells (shC (.slice pc cs.length cc) (.slice none 0 0) tl0).toArray 32 (0, 0)) :: (g1, .cells (shC (.slice none 0 0) (.slice none 0 0) tl0).toArray 32 (0, 0)) :: Kc) (hW6) ?_
       refine lm (v := .int .i64 0) rfl rfl ?_
       refine wpL_done (fun W7 hW7 => ?_)
       change Code.wp ..
       refine wp_block ?_
       have hB : builtC l = cs := by unfold builtC; rw [← hm, ← show cs = bld (l.take m) from by rw [hcs, List.take_of_length_le (by rw [List.length_take]; omega)]]; exact if_neg h2
       go_loopw [11] (fun u11 wr => ∃ (i : Nat) (os : List Cov) (vo : Value) (Tr Ko : List (Nat × Obj)), (i ≤ 5) ∧ (os.map (fun o => (o.bay, o.rows)) = covTo n i) ∧ (os.length ≤ 2 * i) ∧ (OwnL W0 123 2 vo os.length (os.flatMap covC) Ko) ∧ (RB W0 Tr os) ∧ (Dk g2 Tr) ∧ (Dk g1 Tr) ∧ (Dj Kc Tr) ∧ (Dk g2 Ko) ∧ (Dk g1 Ko) ∧ (Dj Kc Ko) ∧ (Dj Tr Ko) ∧ u11 = .int .i64 ((i : Nat) : Int) ∧ KS W0 ((g2, .cells (shC (.slice pc cs.length cc) (vo) tl0).toArray 32 (0, 0)) :: (g1, .cells (shC (.slice none 0 0) (.slice none 0 0) tl0).toArray 32 (0, 0)) :: (Kc ++ (Tr ++ Ko))) wr) (fun u11 _ => 5 - (intOf u11).toNat)
       case atStart => exact ⟨0, [], (.slice none 0 0), [], [], (Nat.zero_le _), rfl, (Nat.le_refl _), (OwnL.nil _ _ _), RB.nil, (show Dk g2 [] from Tw.djt), (show Dk g1 [] from Tw.djt), (show Dj Kc [] from Tw.djt), (show Dk g2 [] from Tw.djt), (show Dk g1 [] from Tw.djt), (show Dj Kc [] from Tw.djt), (show Dj [] [] from Tw.djt), rfl, (hW7.sub (fun p hp => by first | exact hp | (simp only [List.mem_cons, List.mem_append, List.nil_append, List.not_mem_nil, or_assoc, or_false, false_or] at hp ⊢ <;> grind)))⟩
       case round =>
         obtain ⟨i, os, vo, Tr, Ko, hi, hos, hlo, hOo, hRo, dh5_0, dh5_1, dh5_2, dh5_3, dh5_4, dh5_5, dh5_6, rfl, hL8⟩ := hrel
         obtain ⟨po, co, rfl, hco, RO⟩ := own_rl hOo
         refine wp_seq ?_
         refine wp_seq ?_
         refine wp_region_L (W0 := W0) ((g2, .cells (shC (.slice pc cs.length cc) (.slice po os.length co) tl0).toArray 32 (0, 0)) :: (g1, .cells (shC (.slice none 0 0) (.slice none 0 0) tl0).toArray 32 (0, 0)) :: (Kc ++ (Tr ++ Ko))) (hL8) ?_
         refine lm (v := .int .i64 ((i : Nat) : Int)) rfl rfl ?_
         refine lp (v := .bool (decide (i < 5))) rfl rfl (run_bin rfl (vx := (.int .i64 ((i : Nat) : Int))) (vy := (.int .i64 ((5 : Nat) : Int))) Tw.kr Tw.kr fun w => bn_lss rfl w) ?_
         refine wpL_done (fun W9 hW9 => ?_)
         change Code.wp ..
         cases hd3 : (decide (i < 5)) with
         | false =>
           have h3 : ¬ (i < 5) := of_decide_eq_false hd3
           clear hd3
           refine wp_cond_false rfl ?_
           refine wp_exit ?_
           change Code.wp ..
           refine wp_seq ?_
           refine wp_region_L (W0 := W0) ((g2, .cells (shC (.slice pc cs.length cc) (.slice po os.length co) tl0).toArray 32 (0, 0)) :: (g1, .cells (shC (.slice none 0 0) (.slice none 0 0) tl0).toArray 32 (0, 0)) :: (Kc ++ (Tr ++ Ko))) (hW9) ?_
           refine lv (v := .agg (shC (.slice pc cs.length cc) (.slice po os.length co) tl0).toArray) rfl rfl (yb_load (n := 13) (off := 0) rfl Tw.kr Tw.m0 Try.underlying32 rfl Tw.kr (by first | (simp [Value.cells]; done) | exact Nat.le_of_ble_eq_true rfl) Tw.kr) ?_
           refine wpL_s ((g2, .cells (shC (.slice pc cs.length cc) (.slice po os.length co) tl0).toArray 32 (0, 0)) :: (g1, .cells (shC (.slice pc cs.length cc) (.slice po os.length co) tl0).toArray 32 (0, 0)) :: (Kc ++ (Tr ++ Ko))) rfl rfl (st_row (off := 0) (v := .agg (shC (.slice pc cs.length cc) (.slice po os.length co) tl0).toArray) rfl Tw.kr Tw.kr Tw.m1 Bg1 Tw.kr (by first | (simp [Value.cells]; done) | exact Nat.le_of_ble_eq_true rfl) (fun v hv => shC_one v hv) Tw.kr (List.forall_mem_cons.2 ⟨.inr ⟨Tw.m0, Tw.nee⟩, (List.forall_mem_cons.2 ⟨.inl rfl, (fun p hp => .inr ⟨(.tail _ (.tail _ hp)), ((show Dk g1 (Kc ++ (Tr ++ Ko)) from Tw.djt) _ hp)⟩)⟩)⟩)) ?_
           refine wpL_done (fun W10 hW10 => ?_)
           change Code.wp ..
           refine wp_ret ?_
           try simp only [inBlock_ret, then_ret]
           refine bodyPost_ret (v := .agg (shC (.slice pc cs.length cc) (.slice po os.length co) tl0).toArray) ?_ rfl ?_
           · exact (res_cell (p := 4) rfl rfl (hW10.2 _ Tw.m1) Try.underlying32 rfl Tw.kr)
           · exact ⟨_, Kc ++ (Ko ++ Tr), rfl, (hW10.sub (fun p hp => by simp only [List.mem_cons, List.mem_append] at hp ⊢; grind)), (by rw [hB]; exact ⟨pc, cc, os, po, co, Kc, Ko, Tr, rfl, hOc, hOo, hRo, (show Dj Kc Ko from Tw.djt), (show Dj Kc Tr from Tw.djt), (show Dj Ko Tr from Tw.djt), (by rw [hos, show i = 5 from by omega]; rfl), rfl⟩)⟩
         | true =>
           have h3 : i < 5 := of_decide_eq_true hd3
           clear hd3
           refine wp_cond_true rfl ?_
           refine wp_skip ?_
           change Code.wp ..
           refine wp_seq ?_
           refine wp_block ?_
           refine wp_seq ?_
           refine wp_seq ?_
           refine wp_region_L (W0 := W0) ((g2, .cells (shC (.slice pc cs.length cc) (.slice po os.length co) tl0).toArray 32 (0, 0)) :: (g1, .cells (shC (.slice none 0 0) (.slice none 0 0) tl0).toArray 32 (0, 0)) :: (Kc ++ (Tr ++ Ko))) (hW9) ?_
           refine lm (v := .int .u32 ((n : Nat) : Int)) rfl rfl ?_
           refine lm (v := .int .i64 ((i : Nat) : Int)) rfl rfl ?_
           refine lp (v := .int .i64 (((2 * i) : Nat) : Int)) rfl rfl (run_bin rfl (vx := (.int .i64 ((2 : Nat) : Int))) (vy := (.int .i64 ((i : Nat) : Int))) Tw.kr Tw.kr fun w => bn_mul (z := (2 * i)) rfl (wr_i64 Tw.om) w) ?_
           refine lp (v := .int .u32 (((n / 2 ^ (2 * i)) : Nat) : Int)) rfl rfl (run_bin rfl (vx := (.int .u32 ((n : Nat) : Int))) (vy := (.int .i64 (((2 * i) : Nat) : Int))) Tw.kr Tw.kr fun w => bn_shr (z := (n / 2 ^ (2 * i))) rfl (by first | omega | decide | (simp only [IntKind.bits]; omega)) w) ?_
           refine lp (v := .int .u32 ((((n / 2 ^ (2 * i)) % 2) : Nat) : Int)) rfl rfl (run_bin rfl (vx := (.int .u32 (((n / 2 ^ (2 * i)) : Nat) : Int))) (vy := (.int .u32 ((1 : Nat) : Int))) Tw.kr Tw.kr fun w => bn_and (z := ((n / 2 ^ (2 * i)) % 2)) (Nat.and_one_is_mod _) (by rw [show IntKind.u32.bits = 32 from rfl]; exact Nat.lt_of_le_of_lt (Nat.div_le_self _ _) Tw.om) (by decide) (wr_u32 Tw.om) w) ?_
           refine lp (v := .bool (decide (((n / 2 ^ (2 * i)) % 2) = 1))) rfl rfl (run_bin rfl (vx := (.int .u32 ((((n / 2 ^ (2 * i)) % 2) : Nat) : Int))) (vy := (.int .u32 ((1 : Nat) : Int))) Tw.kr Tw.kr fun w => bn_eql rfl w) ?_
           refine wpL_done (fun W11 hW11 => ?_)
           change Code.wp ..
           cases hd4 : (decide (((n / 2 ^ (2 * i)) % 2) = 1)) with
           | false =>
             have h4 : ¬ (((n / 2 ^ (2 * i)) % 2) = 1) := of_decide_eq_false hd4
             clear hd4
             refine wp_cond_false rfl ?_
             refine wp_skip ?_
             change Code.wp ..
             refine wp_seq ?_
             refine wp_region_L (W0 := W0) ((g2, .cells (shC (.slice pc cs.length cc) (.slice po os.length co) tl0).toArray 32 (0, 0)) :: (g1, .cells (shC (.slice none 0 0) (.slice none 0 0) tl0).toArray 32 (0, 0)) :: (Kc ++ (Tr ++ Ko))) (hW11) ?_
             refine lm (v := .int .u32 ((n : Nat) : Int)) rfl rfl ?_
             refine lm (v := .int .i64 ((i : Nat) : Int)) rfl rfl ?_
             refine lp (v := .int .i64 (((2 * i) : Nat) : Int)) rfl rfl (run_bin rfl (vx := (.int .i64 ((2 : Nat) : Int))) (vy := (.int .i64 ((i : Nat) : Int))) Tw.kr Tw.kr fun w => bn_mul (z := (2 * i)) rfl (wr_i64 Tw.om) w) ?_
             refine lp (v := .int .i64 ((((2 * i) + 1) : Nat) : Int)) rfl rfl (run_bin rfl (vx := (.int .i64 (((2 * i) : Nat) : Int))) (vy := (.int .i64 ((1 : Nat) : Int))) Tw.kr Tw.kr fun w => bn_add (z := ((2 * i) + 1)) rfl (wr_i64 Tw.om) w) ?_
             refine lp (v := .int .u32 (((n / 2 ^ ((2 * i) + 1)) : Nat) : Int)) rfl rfl (run_bin rfl (vx := (.int .u32 ((n : Nat) : Int))) (vy := (.int .i64 ((((2 * i) + 1) : Nat) : Int))) Tw.kr Tw.kr fun w => bn_shr (z := (n / 2 ^ ((2 * i) + 1))) rfl (by first | omega | decide | (simp only [IntKind.bits]; omega)) w) ?_
             refine lp (v := .int .u32 ((((n / 2 ^ ((2 * i) + 1)) % 2) : Nat) : Int)) rfl rfl (run_bin rfl (vx := (.int .u32 (((n / 2 ^ ((2 * i) + 1)) : Nat) : Int))) (vy := (.int .u32 ((1 : Nat) : Int))) Tw.kr Tw.kr fun w => bn_and (z := ((n / 2 ^ ((2 * i) + 1)) % 2)) (Nat.and_one_is_mod _) (by rw [show IntKind.u32.bits = 32 from rfl]; exact Nat.lt_of_le_of_lt (Nat.div_le_self _ _) Tw.om) (by decide) (wr_u32 Tw.om) w) ?_
             refine lp (v := .bool (decide (((n / 2 ^ ((2 * i) + 1)) % 2) = 1))) rfl rfl (run_bin rfl (vx := (.int .u32 ((((n / 2 ^ ((2 * i) + 1)) % 2) : Nat) : Int))) (vy := (.int .u32 ((1 : Nat) : Int))) Tw.kr Tw.kr fun w => bn_eql rfl w) ?_
             refine wpL_done (fun W12 hW12 => ?_)
             change Code.wp ..
             cases hd5 : (decide (((n / 2 ^ ((2 * i) + 1)) % 2) = 1)) with
             | false =>
               have h5 : ¬ (((n / 2 ^ ((2 * i) + 1)) % 2) = 1) := of_decide_eq_false hd5
               clear hd5
               refine wp_cond_false rfl ?_
               refine wp_skip ?_
               change Code.wp ..
               refine wp_region_L (W0 := W0) ((g2, .cells (shC (.slice pc cs.length cc) (.slice po os.length co) tl0).toArray 32 (0, 0)) :: (g1, .cells (shC (.slice none 0 0) (.slice none 0 0) tl0).toArray 32 (0, 0)) :: (Kc ++ (Tr ++ Ko))) (hW12) ?_
               refine lm (v := .int .i64 ((i : Nat) : Int)) rfl rfl ?_
               refine lp (v := .int .i64 (((i + 1) : Nat) : Int)) rfl rfl (run_bin rfl (vx := (.int .i64 ((i : Nat) : Int))) (vy := (.int .i64 ((1 : Nat) : Int))) Tw.kr Tw.kr fun w => bn_add (z := (i + 1)) rfl (wr_i64 Tw.om) w) ?_
               refine lm (v := .int .i64 (((i + 1) : Nat) : Int)) rfl rfl ?_
               refine wpL_done (fun W13 hW13 => ?_)
               go_roundw
               case rel =>
                 repeat apply Exists.intro
                 exact ⟨⟨i + 1, os, (.slice po os.length co), Tr, Ko, Tw.om, (by rw [cov_00 h4 h5, hos]), Tw.om, hOo, hRo, (show Dk g2 Tr from Tw.djt), (show Dk g1 Tr from Tw.djt), (show Dj Kc Tr from Tw.djt), (show Dk g2 Ko from Tw.djt), (show Dk g1 Ko from Tw.djt), (show Dj Kc Ko from Tw.djt), (show Dj Tr Ko from Tw.djt), rfl, (hW13.sub (fun p hp => by first | exact hp | (simp only [List.mem_cons, List.mem_append, List.nil_append, List.not_mem_nil, or_assoc, or_false, false_or] at hp ⊢ <;> grind)))⟩, rfl⟩
               case measure => (show 5 - (intOf (.int .i64 (((i + 1) : Nat) : Int))).toNat < 5 - (intOf (.int .i64 ((i : Nat) : Int))).toNat); simp only [intOf]; omega
             | true =>
               have h5 : ((n / 2 ^ ((2 * i) + 1)) % 2) = 1 := of_decide_eq_true hd5
               clear hd5
               refine wp_cond_true rfl ?_
               refine wp_region_L (W0 := W0) ((g2, .cells (shC (.slice pc cs.length cc) (.slice po os.length co) tl0).toArray 32 (0, 0)) :: (g1, .cells (shC (.slice none 0 0) (.slice none 0 0) tl0).toArray 32 (0, 0)) :: (Kc ++ (Tr ++ Ko))) (hW12) ?_
               refine lm (v := .pointer (some ⟨g2, 1, none⟩)) rfl rfl ?_
               refine lv (v := .slice po os.length co) rfl rfl (yb_cell (off := 1) rfl Tw.kr Tw.m0 Try.underlying23 rfl Tw.kr) ?_
               refine lm (v := .int .i64 ((i : Nat) : Int)) rfl rfl ?_
               refine wpL_new (fun g => .slice (some ⟨g, 0, none⟩) 3 3) (obi := .cells #[.int .i64 2, .int .i64 3, .int .i64 4] 3 (0, 0)) rfl rfl Tw.kf Tw.pf fun g6 Bg6 Fg6 => ?_
               obtain ⟨dj7_0, dj7_1, dj7_2, dj7_3, dj7_4⟩ : g2 ≠ g6 ∧ g1 ≠ g6 ∧ Dk g6 Kc ∧ Dk g6 Tr ∧ Dk g6 Ko := Tw.dkf Fg6
               refine lm (v := .agg #[.int .i64 ((i : Nat) : Int), .slice (some ⟨g6, 0, none⟩) 3 3]) rfl rfl ?_
               refine wpL_new (fun g => .slice (some ⟨g, 0, none⟩) 1 1) (obi := .cells #[.int .i64 ((i : Nat) : Int), .slice (some ⟨g6, 0, none⟩) 3 3] 123 (0, 0)) rfl rfl Tw.kf Tw.pf fun g8 Bg8 Fg8 => ?_
               obtain ⟨dj9_0, dj9_1, dj9_2, dj9_3, dj9_4, dj9_5⟩ : g6 ≠ g8 ∧ g2 ≠ g8 ∧ g1 ≠ g8 ∧ Dk g8 Kc ∧ Dk g8 Tr ∧ Dk g8 Ko := Tw.dkf Fg8
               refine wpL_g (AppO W0 123 2 ((g6, .cells #[.int .i64 2, .int .i64 3, .int .i64 4] 3 (0, 0)) :: (g2, .cells (shC (.slice pc cs.length cc) (.slice po os.length co) tl0).toArray 32 (0, 0)) :: (g1, .cells (shC (.slice none 0 0) (.slice none 0 0) tl0).toArray 32 (0, 0)) :: (Kc ++ Tr)) (os.length + 1) ((os.flatMap covC) ++ [.int .i64 ((i : Nat) : Int), .slice (some ⟨g6, 0, none⟩) 3 3])) rfl rfl (app_own el_cov (m := 1) (c := 1) (news := [.int .i64 ((i : Nat) : Int), .slice (some ⟨g6, 0, none⟩) 3 3]) rfl Tw.kr Tw.kr Tw.m0 hOo Tw.sc (fun p hp => ⟨by simp only [List.mem_cons, List.mem_append, List.nil_append, List.not_mem_nil, or_assoc, or_false, false_or] at hp ⊢ <;> grind, (show Dj ((g6, .cells #[.int .i64 2, .int .i64 3, .int .i64 4] 3 (0, 0)) :: (g2, .cells (shC (.slice pc cs.length cc) (.slice po os.length co) tl0).toArray 32 (0, 0)) :: (g1, .cells (shC (.slice none 0 0) (.slice none 0 0) tl0).toArray 32 (0, 0)) :: (Kc ++ Tr)) Ko from Tw.djt) p hp⟩) rfl (by simp [strV, Value.oneCell']) Tw.om Tw.om Tw.om) Tw.pf ?_
               rintro v10 K9 ⟨Kl10, O10, N10, rfl⟩
               obtain ⟨dj11_0, dj11_1, dj11_2, dj11_3, dj11_4⟩ : Dk g6 Kl10 ∧ Dk g2 Kl10 ∧ Dk g1 Kl10 ∧ Dj Kc Kl10 ∧ Dj Tr Kl10 := Tw.djf N10
               refine lm (v := .pointer (some ⟨g2, 1, none⟩)) rfl rfl ?_
               obtain ⟨p12, c12, rfl⟩ := own_shape O10
               refine wpL_s ((g6, .cells #[.int .i64 2, .int .i64 3, .int .i64 4] 3 (0, 0)) :: (g2, .cells (shC (.slice pc cs.length cc) (.slice p12 (os.length + 1) c12) tl0).toArray 32 (0, 0)) :: (g1, .cells (shC (.slice none 0 0) (.slice none 0 0) tl0).toArray 32 (0, 0)) :: ((Kc ++ Tr) ++ Kl10)) rfl rfl (st_row (off := 1) (v := .slice p12 (os.length + 1) c12) rfl Tw.kr Tw.kr Tw.m1 Bg2 Tw.kr (by first | (simp [Value.cells]; done) | exact Nat.le_of_ble_eq_true rfl) (by intro v hv; simp [Value.cells] at hv; first | (subst hv; rfl) | (rcases hv with rfl <;> rfl)) Tw.kr (List.forall_mem_cons.2 ⟨.inr ⟨Tw.m0, Tw.nee⟩, (List.forall_mem_cons.2 ⟨.inl rfl, (List.forall_mem_cons.2 ⟨.inr ⟨Tw.m2, Tw.nee⟩, (fun p hp => .inr ⟨(.tail _ (.tail _ (.tail _ hp))), ((show Dk g2 ((Kc ++ Tr) ++ Kl10) from Tw.djt) _ hp)⟩)⟩)⟩)⟩)) ?_
               refine wpL_done (fun W14 hW14 => ?_)
               change Code.wp ..
               refine wp_region_L (W0 := W0) ((g6, .cells #[.int .i64 2, .int .i64 3, .int .i64 4] 3 (0, 0)) :: (g2, .cells (shC (.slice pc cs.length cc) (.slice p12 (os.length + 1) c12) tl0).toArray 32 (0, 0)) :: (g1, .cells (shC (.slice none 0 0) (.slice none 0 0) tl0).toArray 32 (0, 0)) :: ((Kc ++ Tr) ++ Kl10)) (hW14) ?_
               refine lm (v := .int .i64 ((i : Nat) : Int)) rfl rfl ?_
               refine lp (v := .int .i64 (((i + 1) : Nat) : Int)) rfl rfl (run_bin rfl (vx := (.int .i64 ((i : Nat) : Int))) (vy := (.int .i64 ((1 : Nat) : Int))) Tw.kr Tw.kr fun w => bn_add (z := (i + 1)) rfl (wr_i64 Tw.om) w) ?_
               refine lm (v := .int .i64 (((i + 1) : Nat) : Int)) rfl rfl ?_
               refine wpL_done (fun W15 hW15 => ?_)
               go_roundw
               case rel =>
                 repeat apply Exists.intro
                 exact ⟨⟨i + 1, (os ++ [(⟨((i : Nat) : Int), [2, 3, 4], some ⟨g6, 0, none⟩, 3⟩ : Cov)]), .slice p12 (os.length + 1) c12, ((g6, .cells #[.int .i64 2, .int .i64 3, .int .i64 4] 3 (0, 0)) :: Tr), Kl10, Tw.om, (by rw [cov_01 h4 h5]; simp only [List.map_append, List.map_cons, List.map_nil, hos, List.append_assoc, List.cons_append, List.nil_append]), (by simp only [List.length_append, List.length_singleton, List.length_cons, List.length_nil]; omega), (own_app O10 (by simp only [List.flatMap_append, List.append_assoc]; rfl) (by simp only [List.length_append]; rfl)), (RB.snoc (o := ⟨((i : Nat) : Int), [2, 3, 4], some ⟨g6, 0, none⟩, 3⟩) hRo rfl (show Dk g6 Tr from Tw.djt) Bg6), (show Dk g2 ((g6, .cells #[.int .i64 2, .int .i64 3, .int .i64 4] 3 (0, 0)) :: Tr) from Tw.djt), (show Dk g1 ((g6, .cells #[.int .i64 2, .int .i64 3, .int .i64 4] 3 (0, 0)) :: Tr) from Tw.djt), (show Dj Kc ((g6, .cells #[.int .i64 2, .int .i64 3, .int .i64 4] 3 (0, 0)) :: Tr) from Tw.djt), (show Dk g2 Kl10 from Tw.djt), (show Dk g1 Kl10 from Tw.djt), (show Dj Kc Kl10 from Tw.djt), (show Dj ((g6, .cells #[.int .i64 2, .int .i64 3, .int .i64 4] 3 (0, 0)) :: Tr) Kl10 from Tw.djt), rfl, (hW15.sub (fun p hp => by first | exact hp | (simp only [List.mem_cons, List.mem_append, List.nil_append, List.not_mem_nil, or_assoc, or_false, false_or] at hp ⊢ <;> grind)))⟩, rfl⟩
               case measure => (show 5 - (intOf (.int .i64 (((i + 1) : Nat) : Int))).toNat < 5 - (intOf (.int .i64 ((i : Nat) : Int))).toNat); simp only [intOf]; omega
           | true =>
             have h4 : ((n / 2 ^ (2 * i)) % 2) = 1 := of_decide_eq_true hd4
             clear hd4
             refine wp_cond_true rfl ?_
             refine wp_region_L (W0 := W0) ((g2, .cells (shC (.slice pc cs.length cc) (.slice po os.length co) tl0).toArray 32 (0, 0)) :: (g1, .cells (shC (.slice none 0 0) (.slice none 0 0) tl0).toArray 32 (0, 0)) :: (Kc ++ (Tr ++ Ko))) (hW11) ?_
             refine lm (v := .pointer (some ⟨g2, 1, none⟩)) rfl rfl ?_
             refine lv (v := .slice po os.length co) rfl rfl (yb_cell (off := 1) rfl Tw.kr Tw.m0 Try.underlying23 rfl Tw.kr) ?_
             refine lm (v := .int .i64 ((i : Nat) : Int)) rfl rfl ?_
             refine wpL_new (fun g => .slice (some ⟨g, 0, none⟩) 2 2) (obi := .cells #[.int .i64 0, .int .i64 1] 3 (0, 0)) rfl rfl Tw.kf Tw.pf fun g13 Bg13 Fg13 => ?_
             obtain ⟨dj14_0, dj14_1, dj14_2, dj14_3, dj14_4⟩ : g2 ≠ g13 ∧ g1 ≠ g13 ∧ Dk g13 Kc ∧ Dk g13 Tr ∧ Dk g13 Ko := Tw.dkf Fg13
             refine lm (v := .agg #[.int .i64 ((i : Nat) : Int), .slice (some ⟨g13, 0, none⟩) 2 2]) rfl rfl ?_
             refine wpL_new (fun g => .slice (some ⟨g, 0, none⟩) 1 1) (obi := .cells #[.int .i64 ((i : Nat) : Int), .slice (some ⟨g13, 0, none⟩) 2 2] 123 (0, 0)) rfl rfl Tw.kf Tw.pf fun g15 Bg15 Fg15 => ?_
             obtain ⟨dj16_0, dj16_1, dj16_2, dj16_3, dj16_4, dj16_5⟩ : g13 ≠ g15 ∧ g2 ≠ g15 ∧ g1 ≠ g15 ∧ Dk g15 Kc ∧ Dk g15 Tr ∧ Dk g15 Ko := Tw.dkf Fg15
             refine wpL_g (AppO W0 123 2 ((g13, .cells #[.int .i64 0, .int .i64 1] 3 (0, 0)) :: (g2, .cells (shC (.slice pc cs.length cc) (.slice po os.length co) tl0).toArray 32 (0, 0)) :: (g1, .cells (shC (.slice none 0 0) (.slice none 0 0) tl0).toArray 32 (0, 0)) :: (Kc ++ Tr)) (os.length + 1) ((os.flatMap covC) ++ [.int .i64 ((i : Nat) : Int), .slice (some ⟨g13, 0, none⟩) 2 2])) rfl rfl (app_own el_cov (m := 1) (c := 1) (news := [.int .i64 ((i : Nat) : Int), .slice (some ⟨g13, 0, none⟩) 2 2]) rfl Tw.kr Tw.kr Tw.m0 hOo Tw.sc (fun p hp => ⟨by simp only [List.mem_cons, List.mem_append, List.nil_append, List.not_mem_nil, or_assoc, or_false, false_or] at hp ⊢ <;> grind, (show Dj ((g13, .cells #[.int .i64 0, .int .i64 1] 3 (0, 0)) :: (g2, .cells (shC (.slice pc cs.length cc) (.slice po os.length co) tl0).toArray 32 (0, 0)) :: (g1, .cells (shC (.slice none 0 0) (.slice none 0 0) tl0).toArray 32 (0, 0)) :: (Kc ++ Tr)) Ko from Tw.djt) p hp⟩) rfl (by simp [strV, Value.oneCell']) Tw.om Tw.om Tw.om) Tw.pf ?_
             rintro v17 K9 ⟨Kl17, O17, N17, rfl⟩
             obtain ⟨dj18_0, dj18_1, dj18_2, dj18_3, dj18_4⟩ : Dk g13 Kl17 ∧ Dk g2 Kl17 ∧ Dk g1 Kl17 ∧ Dj Kc Kl17 ∧ Dj Tr Kl17 := Tw.djf N17
             refine lm (v := .pointer (some ⟨g2, 1, none⟩)) rfl rfl ?_
             obtain ⟨p19, c19, rfl⟩ := own_shape O17
             refine wpL_s ((g13, .cells #[.int .i64 0, .int .i64 1] 3 (0, 0)) :: (g2, .cells (shC (.slice pc cs.length cc) (.slice p19 (os.length + 1) c19) tl0).toArray 32 (0, 0)) :: (g1, .cells (shC (.slice none 0 0) (.slice none 0 0) tl0).toArray 32 (0, 0)) :: ((Kc ++ Tr) ++ Kl17)) rfl rfl (st_row (off := 1) (v := .slice p19 (os.length + 1) c19) rfl Tw.kr Tw.kr Tw.m1 Bg2 Tw.kr (by first | (simp [Value.cells]; done) | exact Nat.le_of_ble_eq_true rfl) (by intro v hv; simp [Value.cells] at hv; first | (subst hv; rfl) | (rcases hv with rfl <;> rfl)) Tw.kr (List.forall_mem_cons.2 ⟨.inr ⟨Tw.m0, Tw.nee⟩, (List.forall_mem_cons.2 ⟨.inl rfl, (List.forall_mem_cons.2 ⟨.inr ⟨Tw.m2, Tw.nee⟩, (fun p hp => .inr ⟨(.tail _ (.tail _ (.tail _ hp))), ((show Dk g2 ((Kc ++ Tr) ++ Kl17) from Tw.djt) _ hp)⟩)⟩)⟩)⟩)) ?_
             refine wpL_done (fun W16 hW16 => ?_)
             change Code.wp ..
             refine wp_seq ?_
             refine wp_region_L (W0 := W0) ((g13, .cells #[.int .i64 0, .int .i64 1] 3 (0, 0)) :: (g2, .cells (shC (.slice pc cs.length cc) (.slice p19 (os.length + 1) c19) tl0).toArray 32 (0, 0)) :: (g1, .cells (shC (.slice none 0 0) (.slice none 0 0) tl0).toArray 32 (0, 0)) :: ((Kc ++ Tr) ++ Kl17)) (hW16) ?_
             refine lm (v := .int .u32 ((n : Nat) : Int)) rfl rfl ?_
             refine lm (v := .int .i64 ((i : Nat) : Int)) rfl rfl ?_
             refine lp (v := .int .i64 (((2 * i) : Nat) : Int)) rfl rfl (run_bin rfl (vx := (.int .i64 ((2 : Nat) : Int))) (vy := (.int .i64 ((i : Nat) : Int))) Tw.kr Tw.kr fun w => bn_mul (z := (2 * i)) rfl (wr_i64 Tw.om) w) ?_
             refine lp (v := .int .i64 ((((2 * i) + 1) : Nat) : Int)) rfl rfl (run_bin rfl (vx := (.int .i64 (((2 * i) : Nat) : Int))) (vy := (.int .i64 ((1 : Nat) : Int))) Tw.kr Tw.kr fun w => bn_add (z := ((2 * i) + 1)) rfl (wr_i64 Tw.om) w) ?_
             refine lp (v := .int .u32 (((n / 2 ^ ((2 * i) + 1)) : Nat) : Int)) rfl rfl (run_bin rfl (vx := (.int .u32 ((n : Nat) : Int))) (vy := (.int .i64 ((((2 * i) + 1) : Nat) : Int))) Tw.kr Tw.kr fun w => bn_shr (z := (n / 2 ^ ((2 * i) + 1))) rfl (by first | omega | decide | (simp only [IntKind.bits]; omega)) w) ?_
             refine lp (v := .int .u32 ((((n / 2 ^ ((2 * i) + 1)) % 2) : Nat) : Int)) rfl rfl (run_bin rfl (vx := (.int .u32 (((n / 2 ^ ((2 * i) + 1)) : Nat) : Int))) (vy := (.int .u32 ((1 : Nat) : Int))) Tw.kr Tw.kr fun w => bn_and (z := ((n / 2 ^ ((2 * i) + 1)) % 2)) (Nat.and_one_is_mod _) (by rw [show IntKind.u32.bits = 32 from rfl]; exact Nat.lt_of_le_of_lt (Nat.div_le_self _ _) Tw.om) (by decide) (wr_u32 Tw.om) w) ?_
             refine lp (v := .bool (decide (((n / 2 ^ ((2 * i) + 1)) % 2) = 1))) rfl rfl (run_bin rfl (vx := (.int .u32 ((((n / 2 ^ ((2 * i) + 1)) % 2) : Nat) : Int))) (vy := (.int .u32 ((1 : Nat) : Int))) Tw.kr Tw.kr fun w => bn_eql rfl w) ?_
             refine wpL_done (fun W17 hW17 => ?_)
             change Code.wp ..
             cases hd6 : (decide (((n / 2 ^ ((2 * i) + 1)) % 2) = 1)) with
             | false =>
               have h6 : ¬ (((n / 2 ^ ((2 * i) + 1)) % 2) = 1) := of_decide_eq_false hd6
               clear hd6
               refine wp_cond_false rfl ?_
               refine wp_skip ?_
               change Code.wp ..
               refine wp_region_L (W0 := W0) ((g13, .cells #[.int .i64 0, .int .i64 1] 3 (0, 0)) :: (g2, .cells (shC (.slice pc cs.length cc) (.slice p19 (os.length + 1) c19) tl0).toArray 32 (0, 0)) :: (g1, .cells (shC (.slice none 0 0) (.slice none 0 0) tl0).toArray 32 (0, 0)) :: ((Kc ++ Tr) ++ Kl17)) (hW17) ?_
               refine lm (v := .int .i64 ((i : Nat) : Int)) rfl rfl ?_
               refine lp (v := .int .i64 (((i + 1) : Nat) : Int)) rfl rfl (run_bin rfl (vx := (.int .i64 ((i : Nat) : Int))) (vy := (.int .i64 ((1 : Nat) : Int))) Tw.kr Tw.kr fun w => bn_add (z := (i + 1)) rfl (wr_i64 Tw.om) w) ?_
               refine lm (v := .int .i64 (((i + 1) : Nat) : Int)) rfl rfl ?_
               refine wpL_done (fun W18 hW18 => ?_)
               go_roundw
               case rel =>
                 repeat apply Exists.intro
                 exact ⟨⟨i + 1, (os ++ [(⟨((i : Nat) : Int), [0, 1], some ⟨g13, 0, none⟩, 2⟩ : Cov)]), .slice p19 (os.length + 1) c19, ((g13, .cells #[.int .i64 0, .int .i64 1] 3 (0, 0)) :: Tr), Kl17, Tw.om, (by rw [cov_10 h4 h6]; simp only [List.map_append, List.map_cons, List.map_nil, hos, List.append_assoc, List.cons_append, List.nil_append]), (by simp only [List.length_append, List.length_singleton, List.length_cons, List.length_nil]; omega), (own_app O17 (by simp only [List.flatMap_append, List.append_assoc]; rfl) (by simp only [List.length_append]; rfl)), (RB.snoc (o := ⟨((i : Nat) : Int), [0, 1], some ⟨g13, 0, none⟩, 2⟩) hRo rfl (show Dk g13 Tr from Tw.djt) Bg13), (show Dk g2 ((g13, .cells #[.int .i64 0, .int .i64 1] 3 (0, 0)) :: Tr) from Tw.djt), (show Dk g1 ((g13, .cells #[.int .i64 0, .int .i64 1] 3 (0, 0)) :: Tr) from Tw.djt), (show Dj Kc ((g13, .cells #[.int .i64 0, .int .i64 1] 3 (0, 0)) :: Tr) from Tw.djt), (show Dk g2 Kl17 from Tw.djt), (show Dk g1 Kl17 from Tw.djt), (show Dj Kc Kl17 from Tw.djt), (show Dj ((g13, .cells #[.int .i64 0, .int .i64 1] 3 (0, 0)) :: Tr) Kl17 from Tw.djt), rfl, (hW18.sub (fun p hp => by first | exact hp | (simp only [List.mem_cons, List.mem_append, List.nil_append, List.not_mem_nil, or_assoc, or_false, false_or] at hp ⊢ <;> grind)))⟩, rfl⟩
               case measure => (show 5 - (intOf (.int .i64 (((i + 1) : Nat) : Int))).toNat < 5 - (intOf (.int .i64 ((i : Nat) : Int))).toNat); simp only [intOf]; omega
             | true =>
               have h6 : ((n / 2 ^ ((2 * i) + 1)) % 2) = 1 := of_decide_eq_true hd6
               clear hd6
               refine wp_cond_true rfl ?_
               refine wp_region_L (W0 := W0) ((g13, .cells #[.int .i64 0, .int .i64 1] 3 (0, 0)) :: (g2, .cells (shC (.slice pc cs.length cc) (.slice p19 (os.length + 1) c19) tl0).toArray 32 (0, 0)) :: (g1, .cells (shC (.slice none 0 0) (.slice none 0 0) tl0).toArray 32 (0, 0)) :: ((Kc ++ Tr) ++ Kl17)) (hW17) ?_
               refine lm (v := .pointer (some ⟨g2, 1, none⟩)) rfl rfl ?_
               refine lv (v := .slice p19 (os.length + 1) c19) rfl rfl (yb_cell (off := 1) rfl Tw.kr Tw.m1 Try.underlying23 rfl Tw.kr) ?_
               refine lm (v := .int .i64 ((i : Nat) : Int)) rfl rfl ?_
               refine wpL_new (fun g => .slice (some ⟨g, 0, none⟩) 3 3) (obi := .cells #[.int .i64 2, .int .i64 3, .int .i64 4] 3 (0, 0)) rfl rfl Tw.kf Tw.pf fun g20 Bg20 Fg20 => ?_
               obtain ⟨dj21_0, dj21_1, dj21_2, dj21_3, dj21_4, dj21_5⟩ : g13 ≠ g20 ∧ g2 ≠ g20 ∧ g1 ≠ g20 ∧ Dk g20 Kc ∧ Dk g20 Tr ∧ Dk g20 Kl17 := Tw.dkf Fg20
               refine lm (v := .agg #[.int .i64 ((i : Nat) : Int), .slice (some ⟨g20, 0, none⟩) 3 3]) rfl rfl ?_
               refine wpL_new (fun g => .slice (some ⟨g, 0, none⟩) 1 1) (obi := .cells #[.int .i64 ((i : Nat) : Int), .slice (some ⟨g20, 0, none⟩) 3 3] 123 (0, 0)) rfl rfl Tw.kf Tw.pf fun g22 Bg22 Fg22 => ?_
               obtain ⟨dj23_0, dj23_1, dj23_2, dj23_3, dj23_4, dj23_5, dj23_6⟩ : g20 ≠ g22 ∧ g13 ≠ g22 ∧ g2 ≠ g22 ∧ g1 ≠ g22 ∧ Dk g22 Kc ∧ Dk g22 Tr ∧ Dk g22 Kl17 := Tw.dkf Fg22
               refine wpL_g (AppO W0 123 2 ((g20, .cells #[.int .i64 2, .int .i64 3, .int .i64 4] 3 (0, 0)) :: (g13, .cells #[.int .i64 0, .int .i64 1] 3 (0, 0)) :: (g2, .cells (shC (.slice pc cs.length cc) (.slice p19 (os.length + 1) c19) tl0).toArray 32 (0, 0)) :: (g1, .cells (shC (.slice none 0 0) (.slice none 0 0) tl0).toArray 32 (0, 0)) :: (Kc ++ Tr)) ((os.length + 1) + 1) (((os.flatMap covC) ++ [.int .i64 ((i : Nat) : Int), .slice (some ⟨g13, 0, none⟩) 2 2]) ++ [.int .i64 ((i : Nat) : Int), .slice (some ⟨g20, 0, none⟩) 3 3])) rfl rfl (app_own el_cov (m := 1) (c := 1) (news := [.int .i64 ((i : Nat) : Int), .slice (some ⟨g20, 0, none⟩) 3 3]) rfl Tw.kr Tw.kr Tw.m0 O17 Tw.sc (fun p hp => ⟨by simp only [List.mem_cons, List.mem_append, List.nil_append, List.not_mem_nil, or_assoc, or_false, false_or] at hp ⊢ <;> grind, (show Dj ((g20, .cells #[.int .i64 2, .int .i64 3, .int .i64 4] 3 (0, 0)) :: (g13, .cells #[.int .i64 0, .int .i64 1] 3 (0, 0)) :: (g2, .cells (shC (.slice pc cs.length cc) (.slice p19 (os.length + 1) c19) tl0).toArray 32 (0, 0)) :: (g1, .cells (shC (.slice none 0 0) (.slice none 0 0) tl0).toArray 32 (0, 0)) :: (Kc ++ Tr)) Kl17 from Tw.djt) p hp⟩) rfl (by simp [strV, Value.oneCell']) Tw.om Tw.om Tw.om) Tw.pf ?_
               rintro v24 K9 ⟨Kl24, O24, N24, rfl⟩
               obtain ⟨dj25_0, dj25_1, dj25_2, dj25_3, dj25_4, dj25_5⟩ : Dk g20 Kl24 ∧ Dk g13 Kl24 ∧ Dk g2 Kl24 ∧ Dk g1 Kl24 ∧ Dj Kc Kl24 ∧ Dj Tr Kl24 := Tw.djf N24
               refine lm (v := .pointer (some ⟨g2, 1, none⟩)) rfl rfl ?_
               obtain ⟨p26, c26, rfl⟩ := own_shape O24
               refine wpL_s ((g20, .cells #[.int .i64 2, .int .i64 3, .int .i64 4] 3 (0, 0)) :: (g13, .cells #[.int .i64 0, .int .i64 1] 3 (0, 0)) :: (g2, .cells (shC (.slice pc cs.length cc) (.slice p26 ((os.length + 1) + 1) c26) tl0).toArray 32 (0, 0)) :: (g1, .cells (shC (.slice none 0 0) (.slice none 0 0) tl0).toArray 32 (0, 0)) :: ((Kc ++ Tr) ++ Kl24)) rfl rfl (st_row (off := 1) (v := .slice p26 ((os.length + 1) + 1) c26) rfl Tw.kr Tw.kr Tw.m2 Bg2 Tw.kr (by first | (simp [Value.cells]; done) | exact Nat.le_of_ble_eq_true rfl) (by intro v hv; simp [Value.cells] at hv; first | (subst hv; rfl) | (rcases hv with rfl <;> rfl)) Tw.kr (List.forall_mem_cons.2 ⟨.inr ⟨Tw.m0, Tw.nee⟩, (List.forall_mem_cons.2 ⟨.inr ⟨Tw.m1, Tw.nee⟩, (List.forall_mem_cons.2 ⟨.inl rfl, (List.forall_mem_cons.2 ⟨.inr ⟨Tw.m3, Tw.nee⟩, (fun p hp => .inr ⟨(.tail _ (.tail _ (.tail _ (.tail _ hp)))), ((show Dk g2 ((Kc ++ Tr) ++ Kl24) from Tw.djt) _ hp)⟩)⟩)⟩)⟩)⟩)) ?_
               refine wpL_done (fun W19 hW19 => ?_)
               change Code.wp ..
               refine wp_region_L (W0 := W0) ((g20, .cells #[.int .i64 2, .int .i64 3, .int .i64 4] 3 (0, 0)) :: (g13, .cells #[.int .i64 0, .int .i64 1] 3 (0, 0)) :: (g2, .cells (shC (.slice pc cs.length cc) (.slice p26 ((os.length + 1) + 1) c26) tl0).toArray 32 (0, 0)) :: (g1, .cells (shC (.slice none 0 0) (.slice none 0 0) tl0).toArray 32 (0, 0)) :: ((Kc ++ Tr) ++ Kl24)) (hW19) ?_
               refine lm (v := .int .i64 ((i : Nat) : Int)) rfl rfl ?_
               refine lp (v := .int .i64 (((i + 1) : Nat) : Int)) rfl rfl (run_bin rfl (vx := (.int .i64 ((i : Nat) : Int))) (vy := (.int .i64 ((1 : Nat) : Int))) Tw.kr Tw.kr fun w => bn_add (z := (i + 1)) rfl (wr_i64 Tw.om) w) ?_
               refine lm (v := .int .i64 (((i + 1) : Nat) : Int)) rfl rfl ?_
               refine wpL_done (fun W20 hW20 => ?_)
               go_roundw
               case rel =>
                 repeat apply Exists.intro
                 exact ⟨⟨i + 1, ((os ++ [(⟨((i : Nat) : Int), [0, 1], some ⟨g13, 0, none⟩, 2⟩ : Cov)]) ++ [(⟨((i : Nat) : Int), [2, 3, 4], some ⟨g20, 0, none⟩, 3⟩ : Cov)]), .slice p26 ((os.length + 1) + 1) c26, ((g20, .cells #[.int .i64 2, .int .i64 3, .int .i64 4] 3 (0, 0)) :: ((g13, .cells #[.int .i64 0, .int .i64 1] 3 (0, 0)) :: Tr)), Kl24, Tw.om, (by rw [cov_11 h4 h6]; simp only [List.map_append, List.map_cons, List.map_nil, hos, List.append_assoc, List.cons_append, List.nil_append]), (by simp only [List.length_append, List.length_singleton, List.length_cons, List.length_nil]; omega), (own_app O24 (by simp only [List.flatMap_append, List.append_assoc]; rfl) (by simp only [List.length_append]; rfl)), (RB.snoc (o := ⟨((i : Nat) : Int), [2, 3, 4], some ⟨g20, 0, none⟩, 3⟩) (RB.snoc (o := ⟨((i : Nat) : Int), [0, 1], some ⟨g13, 0, none⟩, 2⟩) hRo rfl (show Dk g13 Tr from Tw.djt) Bg13) rfl (show Dk g20 ((g13, .cells #[.int .i64 0, .int .i64 1] 3 (0, 0)) :: Tr) from Tw.djt) Bg20), (show Dk g2 ((g20, .cells #[.int .i64 2, .int .i64 3, .int .i64 4] 3 (0, 0)) :: ((g13, .cells #[.int .i64 0, .int .i64 1] 3 (0, 0)) :: Tr)) from Tw.djt), (show Dk g1 ((g20, .cells #[.int .i64 2, .int .i64 3, .int .i64 4] 3 (0, 0)) :: ((g13, .cells #[.int .i64 0, .int .i64 1] 3 (0, 0)) :: Tr)) from Tw.djt), (show Dj Kc ((g20, .cells #[.int .i64 2, .int .i64 3, .int .i64 4] 3 (0, 0)) :: ((g13, .cells #[.int .i64 0, .int .i64 1] 3 (0, 0)) :: Tr)) from Tw.djt), (show Dk g2 Kl24 from Tw.djt), (show Dk g1 Kl24 from Tw.djt), (show Dj Kc Kl24 from Tw.djt), (show Dj ((g20, .cells #[.int .i64 2, .int .i64 3, .int .i64 4] 3 (0, 0)) :: ((g13, .cells #[.int .i64 0, .int .i64 1] 3 (0, 0)) :: Tr)) Kl24 from Tw.djt), rfl, (hW20.sub (fun p hp => by first | exact hp | (simp only [List.mem_cons, List.mem_append, List.nil_append, List.not_mem_nil, or_assoc, or_false, false_or] at hp ⊢ <;> grind)))⟩, rfl⟩
               case measure => (show 5 - (intOf (.int .i64 (((i + 1) : Nat) : Int))).toNat < 5 - (intOf (.int .i64 ((i : Nat) : Int))).toNat); simp only [intOf]; omega
     | true =>
       have h2 : cs.length = 0 := of_decide_eq_true hd2
       clear hd2
       refine wp_cond_true rfl ?_
       refine wp_region_L (W0 := W0) ((g2, .cells (shC (.slice pc cs.length cc) (.slice none 0 0) tl0).toArray 32 (0, 0)) :: (g1, .cells (shC (.slice none 0 0) (.slice none 0 0) tl0).toArray 32 (0, 0)) :: Kc) (hW6) ?_
       refine lm (v := .agg #[.int .i64 0, .int .i64 0, .bool false, .int .i64 3, .int .i64 0, .int .i64 500000000, .int .i64 500000000, .int .i64 0, .slice none 0 0, .int .i64 0, .int .i64 0, .int .i64 2000]) rfl rfl ?_
       refine wpL_new (fun g => .slice (some ⟨g, 0, none⟩) 1 1) (obi := .cells #[.int .i64 0, .int .i64 0, .bool false, .int .i64 3, .int .i64 0, .int .i64 500000000, .int .i64 500000000, .int .i64 0, .slice none 0 0, .int .i64 0, .int .i64 0, .int .i64 2000] 46 (0, 0)) rfl rfl Tw.kf Tw.pf fun g27 Bg27 Fg27 => ?_
       obtain ⟨dj28_0, dj28_1, dj28_2⟩ : g2 ≠ g27 ∧ g1 ≠ g27 ∧ Dk g27 Kc := Tw.dkf Fg27
       refine lm (v := .pointer (some ⟨g2, 0, none⟩)) rfl rfl ?_
       refine wpL_s ((g27, .cells #[.int .i64 0, .int .i64 0, .bool false, .int .i64 3, .int .i64 0, .int .i64 500000000, .int .i64 500000000, .int .i64 0, .slice none 0 0, .int .i64 0, .int .i64 0, .int .i64 2000] 46 (0, 0)) :: (g2, .cells (shC (.slice (some ⟨g27, 0, none⟩) 1 1) (.slice none 0 0) tl0).toArray 32 (0, 0)) :: (g1, .cells (shC (.slice none 0 0) (.slice none 0 0) tl0).toArray 32 (0, 0)) :: Kc) rfl rfl (st_row (off := 0) (v := .slice (some ⟨g27, 0, none⟩) 1 1) rfl Tw.kr Tw.kr Tw.m1 Bg2 Tw.kr (by first | (simp [Value.cells]; done) | exact Nat.le_of_ble_eq_true rfl) (by intro v hv; simp [Value.cells] at hv; first | (subst hv; rfl) | (rcases hv with rfl <;> rfl)) Tw.kr (List.forall_mem_cons.2 ⟨.inr ⟨Tw.m0, Tw.nee⟩, (List.forall_mem_cons.2 ⟨.inl rfl, (List.forall_mem_cons.2 ⟨.inr ⟨Tw.m2, Tw.nee⟩, (fun p hp => .inr ⟨(.tail _ (.tail _ (.tail _ hp))), ((show Dk g2 Kc from Tw.djt) _ hp)⟩)⟩)⟩)⟩)) ?_
       refine wpL_done (fun W21 hW21 => ?_)
       change Code.wp ..
       refine wp_seq ?_
       refine wp_seq ?_
       refine wp_region_L (W0 := W0) ((g27, .cells #[.int .i64 0, .int .i64 0, .bool false, .int .i64 3, .int .i64 0, .int .i64 500000000, .int .i64 500000000, .int .i64 0, .slice none 0 0, .int .i64 0, .int .i64 0, .int .i64 2000] 46 (0, 0)) :: (g2, .cells (shC (.slice (some ⟨g27, 0, none⟩) 1 1) (.slice none 0 0) tl0).toArray 32 (0, 0)) :: (g1, .cells (shC (.slice none 0 0) (.slice none 0 0) tl0).toArray 32 (0, 0)) :: Kc) (hW21) ?_
       refine lm (v := .int .i64 0) rfl rfl ?_
       refine wpL_done (fun W22 hW22 => ?_)
       change Code.wp ..
       refine wp_block ?_
       have hB : builtC l = [col1] := by unfold builtC; rw [← hm, ← show cs = bld (l.take m) from by rw [hcs, List.take_of_length_le (by rw [List.length_take]; omega)]]; exact if_pos h2
       go_loopw [11] (fun u11 wr => ∃ (i : Nat) (os : List Cov) (vo : Value) (Tr Ko : List (Nat × Obj)), (i ≤ 5) ∧ (os.map (fun o => (o.bay, o.rows)) = covTo n i) ∧ (os.length ≤ 2 * i) ∧ (OwnL W0 123 2 vo os.length (os.flatMap covC) Ko) ∧ (RB W0 Tr os) ∧ (Dk g27 Tr) ∧ (Dk g2 Tr) ∧ (Dk g1 Tr) ∧ (Dj Kc Tr) ∧ (Dk g27 Ko) ∧ (Dk g2 Ko) ∧ (Dk g1 Ko) ∧ (Dj Kc Ko) ∧ (Dj Tr Ko) ∧ u11 = .int .i64 ((i : Nat) : Int) ∧ KS W0 ((g27, .cells #[.int .i64 0, .int .i64 0, .bool false, .int .i64 3, .int .i64 0, .int .i64 500000000, .int .i64 500000000, .int .i64 0, .slice none 0 0, .int .i64 0, .int .i64 0, .int .i64 2000] 46 (0, 0)) :: (g2, .cells (shC (.slice (some ⟨g27, 0, none⟩) 1 1) (vo) tl0).toArray 32 (0, 0)) :: (g1, .cells (shC (.slice none 0 0) (.slice none 0 0) tl0).toArray 32 (0, 0)) :: (Kc ++ (Tr ++ Ko))) wr) (fun u11 _ => 5 - (intOf u11).toNat)
       case atStart => exact ⟨0, [], (.slice none 0 0), [], [], (Nat.zero_le _), rfl, (Nat.le_refl _), (OwnL.nil _ _ _), RB.nil, (show Dk g27 [] from Tw.djt), (show Dk g2 [] from Tw.djt), (show Dk g1 [] from Tw.djt), (show Dj Kc [] from Tw.djt), (show Dk g27 [] from Tw.djt), (show Dk g2 [] from Tw.djt), (show Dk g1 [] from Tw.djt), (show Dj Kc [] from Tw.djt), (show Dj [] [] from Tw.djt), rfl, (hW22.sub (fun p hp => by first | exact hp | (simp only [List.mem_cons, List.mem_append, List.nil_append, List.not_mem_nil, or_assoc, or_false, false_or] at hp ⊢ <;> grind)))⟩
       case round =>
         obtain ⟨i, os, vo, Tr, Ko, hi, hos, hlo, hOo, hRo, dh29_0, dh29_1, dh29_2, dh29_3, dh29_4, dh29_5, dh29_6, dh29_7, dh29_8, rfl, hL23⟩ := hrel
         obtain ⟨po, co, rfl, hco, RO⟩ := own_rl hOo
         refine wp_seq ?_
         refine wp_seq ?_
         refine wp_region_L (W0 := W0) ((g27, .cells #[.int .i64 0, .int .i64 0, .bool false, .int .i64 3, .int .i64 0, .int .i64 500000000, .int .i64 500000000, .int .i64 0, .slice none 0 0, .int .i64 0, .int .i64 0, .int .i64 2000] 46 (0, 0)) :: (g2, .cells (shC (.slice (some ⟨g27, 0, none⟩) 1 1) (.slice po os.length co) tl0).toArray 32 (0, 0)) :: (g1, .cells (shC (.slice none 0 0) (.slice none 0 0) tl0).toArray 32 (0, 0)) :: (Kc ++ (Tr ++ Ko))) (hL23) ?_
         refine lm (v := .int .i64 ((i : Nat) : Int)) rfl rfl ?_
         refine lp (v := .bool (decide (i < 5))) rfl rfl (run_bin rfl (vx := (.int .i64 ((i : Nat) : Int))) (vy := (.int .i64 ((5 : Nat) : Int))) Tw.kr Tw.kr fun w => bn_lss rfl w) ?_
         refine wpL_done (fun W24 hW24 => ?_)
         change Code.wp ..
         cases hd7 : (decide (i < 5)) with
         | false =>
           have h7 : ¬ (i < 5) := of_decide_eq_false hd7
           clear hd7
           refine wp_cond_false rfl ?_
           refine wp_exit ?_
           change Code.wp ..
           refine wp_seq ?_
           refine wp_region_L (W0 := W0) ((g27, .cells #[.int .i64 0, .int .i64 0, .bool false, .int .i64 3, .int .i64 0, .int .i64 500000000, .int .i64 500000000, .int .i64 0, .slice none 0 0, .int .i64 0, .int .i64 0, .int .i64 2000] 46 (0, 0)) :: (g2, .cells (shC (.slice (some ⟨g27, 0, none⟩) 1 1) (.slice po os.length co) tl0).toArray 32 (0, 0)) :: (g1, .cells (shC (.slice none 0 0) (.slice none 0 0) tl0).toArray 32 (0, 0)) :: (Kc ++ (Tr ++ Ko))) (hW24) ?_
           refine lv (v := .agg (shC (.slice (some ⟨g27, 0, none⟩) 1 1) (.slice po os.length co) tl0).toArray) rfl rfl (yb_load (n := 13) (off := 0) rfl Tw.kr Tw.m1 Try.underlying32 rfl Tw.kr (by first | (simp [Value.cells]; done) | exact Nat.le_of_ble_eq_true rfl) Tw.kr) ?_
           refine wpL_s ((g27, .cells #[.int .i64 0, .int .i64 0, .bool false, .int .i64 3, .int .i64 0, .int .i64 500000000, .int .i64 500000000, .int .i64 0, .slice none 0 0, .int .i64 0, .int .i64 0, .int .i64 2000] 46 (0, 0)) :: (g2, .cells (shC (.slice (some ⟨g27, 0, none⟩) 1 1) (.slice po os.length co) tl0).toArray 32 (0, 0)) :: (g1, .cells (shC (.slice (some ⟨g27, 0, none⟩) 1 1) (.slice po os.length co) tl0).toArray 32 (0, 0)) :: (Kc ++ (Tr ++ Ko))) rfl rfl (st_row (off := 0) (v := .agg (shC (.slice (some ⟨g27, 0, none⟩) 1 1) (.slice po os.length co) tl0).toArray) rfl Tw.kr Tw.kr Tw.m2 Bg1 Tw.kr (by first | (simp [Value.cells]; done) | exact Nat.le_of_ble_eq_true rfl) (fun v hv => shC_one v hv) Tw.kr (List.forall_mem_cons.2 ⟨.inr ⟨Tw.m0, Tw.nee⟩, (List.forall_mem_cons.2 ⟨.inr ⟨Tw.m1, Tw.nee⟩, (List.forall_mem_cons.2 ⟨.inl rfl, (fun p hp => .inr ⟨(.tail _ (.tail _ (.tail _ hp))), ((show Dk g1 (Kc ++ (Tr ++ Ko)) from Tw.djt) _ hp)⟩)⟩)⟩)⟩)) ?_
           refine wpL_done (fun W25 hW25 => ?_)
           change Code.wp ..
           refine wp_ret ?_
           try simp only [inBlock_ret, then_ret]
           refine bodyPost_ret (v := .agg (shC (.slice (some ⟨g27, 0, none⟩) 1 1) (.slice po os.length co) tl0).toArray) ?_ rfl ?_
           · exact (res_cell (p := 4) rfl rfl (hW25.2 _ Tw.m2) Try.underlying32 rfl Tw.kr)
           · exact ⟨_, [(g27, .cells #[.int .i64 0, .int .i64 0, .bool false, .int .i64 3, .int .i64 0, .int .i64 500000000, .int .i64 500000000, .int .i64 0, .slice none 0 0, .int .i64 0, .int .i64 0, .int .i64 2000] 46 (0, 0))] ++ (Ko ++ Tr), rfl, (hW25.sub (fun p hp => by simp only [List.mem_cons, List.mem_append, List.not_mem_nil, or_false] at hp ⊢; grind)), (by rw [hB]; exact ⟨some ⟨g27, 0, none⟩, 1, os, po, co, [(g27, .cells #[.int .i64 0, .int .i64 0, .bool false, .int .i64 3, .int .i64 0, .int .i64 500000000, .int .i64 500000000, .int .i64 0, .slice none 0 0, .int .i64 0, .int .i64 0, .int .i64 2000] 46 (0, 0))], Ko, Tr, rfl, (.inr ⟨g27, 1, _, rfl, Bg27, ⟨rfl, by unfold maxLen; omega, Nat.le_refl _, rfl, rfl⟩, rfl⟩), hOo, hRo, (show Dj [(g27, .cells #[.int .i64 0, .int .i64 0, .bool false, .int .i64 3, .int .i64 0, .int .i64 500000000, .int .i64 500000000, .int .i64 0, .slice none 0 0, .int .i64 0, .int .i64 0, .int .i64 2000] 46 (0, 0))] Ko from Tw.djt), (show Dj [(g27, .cells #[.int .i64 0, .int .i64 0, .bool false, .int .i64 3, .int .i64 0, .int .i64 500000000, .int .i64 500000000, .int .i64 0, .slice none 0 0, .int .i64 0, .int .i64 0, .int .i64 2000] 46 (0, 0))] Tr from Tw.djt), (show Dj Ko Tr from Tw.djt), (by rw [hos, show i = 5 from by omega]; rfl), rfl⟩)⟩
         | true =>
           have h7 : i < 5 := of_decide_eq_true hd7
           clear hd7
           refine wp_cond_true rfl ?_
           refine wp_skip ?_
           change Code.wp ..
           refine wp_seq ?_
           refine wp_block ?_
           refine wp_seq ?_
           refine wp_seq ?_
           refine wp_region_L (W0 := W0) ((g27, .cells #[.int .i64 0, .int .i64 0, .bool false, .int .i64 3, .int .i64 0, .int .i64 500000000, .int .i64 500000000, .int .i64 0, .slice none 0 0, .int .i64 0, .int .i64 0, .int .i64 2000] 46 (0, 0)) :: (g2, .cells (shC (.slice (some ⟨g27, 0, none⟩) 1 1) (.slice po os.length co) tl0).toArray 32 (0, 0)) :: (g1, .cells (shC (.slice none 0 0) (.slice none 0 0) tl0).toArray 32 (0, 0)) :: (Kc ++ (Tr ++ Ko))) (hW24) ?_
           refine lm (v := .int .u32 ((n : Nat) : Int)) rfl rfl ?_
           refine lm (v := .int .i64 ((i : Nat) : Int)) rfl rfl ?_
           refine lp (v := .int .i64 (((2 * i) : Nat) : Int)) rfl rfl (run_bin rfl (vx := (.int .i64 ((2 : Nat) : Int))) (vy := (.int .i64 ((i : Nat) : Int))) Tw.kr Tw.kr fun w => bn_mul (z := (2 * i)) rfl (wr_i64 Tw.om) w) ?_
           refine lp (v := .int .u32 (((n / 2 ^ (2 * i)) : Nat) : Int)) rfl rfl (run_bin rfl (vx := (.int .u32 ((n : Nat) : Int))) (vy := (.int .i64 (((2 * i) : Nat) : Int))) Tw.kr Tw.kr fun w => bn_shr (z := (n / 2 ^ (2 * i))) rfl (by first | omega | decide | (simp only [IntKind.bits]; omega)) w) ?_
           refine lp (v := .int .u32 ((((n / 2 ^ (2 * i)) % 2) : Nat) : Int)) rfl rfl (run_bin rfl (vx := (.int .u32 (((n / 2 ^ (2 * i)) : Nat) : Int))) (vy := (.int .u32 ((1 : Nat) : Int))) Tw.kr Tw.kr fun w => bn_and (z := ((n / 2 ^ (2 * i)) % 2)) (Nat.and_one_is_mod _) (by rw [show IntKind.u32.bits = 32 from rfl]; exact Nat.lt_of_le_of_lt (Nat.div_le_self _ _) Tw.om) (by decide) (wr_u32 Tw.om) w) ?_
           refine lp (v := .bool (decide (((n / 2 ^ (2 * i)) % 2) = 1))) rfl rfl (run_bin rfl (vx := (.int .u32 ((((n / 2 ^ (2 * i)) % 2) : Nat) : Int))) (vy := (.int .u32 ((1 : Nat) : Int))) Tw.kr Tw.kr fun w => bn_eql rfl w) ?_
           refine wpL_done (fun W26 hW26 => ?_)
           change Code.wp ..
           cases hd8 : (decide (((n / 2 ^ (2 * i)) % 2) = 1)) with
           | false =>
             have h8 : ¬ (((n / 2 ^ (2 * i)) % 2) = 1) := of_decide_eq_false hd8
             clear hd8
             refine wp_cond_false rfl ?_
             refine wp_skip ?_
             change Code.wp ..
             refine wp_seq ?_
             refine wp_region_L (W0 := W0) ((g27, .cells #[.int .i64 0, .int .i64 0, .bool false, .int .i64 3, .int .i64 0, .int .i64 500000000, .int .i64 500000000, .int .i64 0, .slice none 0 0, .int .i64 0, .int .i64 0, .int .i64 2000] 46 (0, 0)) :: (g2, .cells (shC (.slice (some ⟨g27, 0, none⟩) 1 1) (.slice po os.length co) tl0).toArray 32 (0, 0)) :: (g1, .cells (shC (.slice none 0 0) (.slice none 0 0) tl0).toArray 32 (0, 0)) :: (Kc ++ (Tr ++ Ko))) (hW26) ?_
             refine lm (v := .int .u32 ((n : Nat) : Int)) rfl rfl ?_
             refine lm (v := .int .i64 ((i : Nat) : Int)) rfl rfl ?_
             refine lp (v := .int .i64 (((2 * i) : Nat) : Int)) rfl rfl (run_bin rfl (vx := (.int .i64 ((2 : Nat) : Int))) (vy := (.int .i64 ((i : Nat) : Int))) Tw.kr Tw.kr fun w => bn_mul (z := (2 * i)) rfl (wr_i64 Tw.om) w) ?_
             refine lp (v := .int .i64 ((((2 * i) + 1) : Nat) : Int)) rfl rfl (run_bin rfl (vx := (.int .i64 (((2 * i) : Nat) : Int))) (vy := (.int .i64 ((1 : Nat) : Int))) Tw.kr Tw.kr fun w => bn_add (z := ((2 * i) + 1)) rfl (wr_i64 Tw.om) w) ?_
             refine lp (v := .int .u32 (((n / 2 ^ ((2 * i) + 1)) : Nat) : Int)) rfl rfl (run_bin rfl (vx := (.int .u32 ((n : Nat) : Int))) (vy := (.int .i64 ((((2 * i) + 1) : Nat) : Int))) Tw.kr Tw.kr fun w => bn_shr (z := (n / 2 ^ ((2 * i) + 1))) rfl (by first | omega | decide | (simp only [IntKind.bits]; omega)) w) ?_
             refine lp (v := .int .u32 ((((n / 2 ^ ((2 * i) + 1)) % 2) : Nat) : Int)) rfl rfl (run_bin rfl (vx := (.int .u32 (((n / 2 ^ ((2 * i) + 1)) : Nat) : Int))) (vy := (.int .u32 ((1 : Nat) : Int))) Tw.kr Tw.kr fun w => bn_and (z := ((n / 2 ^ ((2 * i) + 1)) % 2)) (Nat.and_one_is_mod _) (by rw [show IntKind.u32.bits = 32 from rfl]; exact Nat.lt_of_le_of_lt (Nat.div_le_self _ _) Tw.om) (by decide) (wr_u32 Tw.om) w) ?_
             refine lp (v := .bool (decide (((n / 2 ^ ((2 * i) + 1)) % 2) = 1))) rfl rfl (run_bin rfl (vx := (.int .u32 ((((n / 2 ^ ((2 * i) + 1)) % 2) : Nat) : Int))) (vy := (.int .u32 ((1 : Nat) : Int))) Tw.kr Tw.kr fun w => bn_eql rfl w) ?_
             refine wpL_done (fun W27 hW27 => ?_)
             change Code.wp ..
             cases hd9 : (decide (((n / 2 ^ ((2 * i) + 1)) % 2) = 1)) with
             | false =>
               have h9 : ¬ (((n / 2 ^ ((2 * i) + 1)) % 2) = 1) := of_decide_eq_false hd9
               clear hd9
               refine wp_cond_false rfl ?_
               refine wp_skip ?_
               change Code.wp ..
               refine wp_region_L (W0 := W0) ((g27, .cells #[.int .i64 0, .int .i64 0, .bool false, .int .i64 3, .int .i64 0, .int .i64 500000000, .int .i64 500000000, .int .i64 0, .slice none 0 0, .int .i64 0, .int .i64 0, .int .i64 2000] 46 (0, 0)) :: (g2, .cells (shC (.slice (some ⟨g27, 0, none⟩) 1 1) (.slice po os.length co) tl0).toArray 32 (0, 0)) :: (g1, .cells (shC (.slice none 0 0) (.slice none 0 0) tl0).toArray 32 (0, 0)) :: (Kc ++ (Tr ++ Ko))) (hW27) ?_
               refine lm (v := .int .i64 ((i : Nat) : Int)) rfl rfl ?_
               refine lp (v := .int .i64 (((i + 1) : Nat) : Int)) rfl rfl (run_bin rfl (vx := (.int .i64 ((i : Nat) : Int))) (vy := (.int .i64 ((1 : Nat) : Int))) Tw.kr Tw.kr fun w => bn_add (z := (i + 1)) rfl (wr_i64 Tw.om) w) ?_
               refine lm (v := .int .i64 (((i + 1) : Nat) : Int)) rfl rfl ?_
               refine wpL_done (fun W28 hW28 => ?_)
               go_roundw
               case rel =>
                 repeat apply Exists.intro
                 exact ⟨⟨i + 1, os, (.slice po os.length co), Tr, Ko, Tw.om, (by rw [cov_00 h8 h9, hos]), Tw.om, hOo, hRo, (show Dk g27 Tr from Tw.djt), (show Dk g2 Tr from Tw.djt), (show Dk g1 Tr from Tw.djt), (show Dj Kc Tr from Tw.djt), (show Dk g27 Ko from Tw.djt), (show Dk g2 Ko from Tw.djt), (show Dk g1 Ko from Tw.djt), (show Dj Kc Ko from Tw.djt), (show Dj Tr Ko from Tw.djt), rfl, (hW28.sub (fun p hp => by first | exact hp | (simp only [List.mem_cons, List.mem_append, List.nil_append, List.not_mem_nil, or_assoc, or_false, false_or] at hp ⊢ <;> grind)))⟩, rfl⟩
               case measure => (show 5 - (intOf (.int .i64 (((i + 1) : Nat) : Int))).toNat < 5 - (intOf (.int .i64 ((i : Nat) : Int))).toNat); simp only [intOf]; omega
             | true =>
               have h9 : ((n / 2 ^ ((2 * i) + 1)) % 2) = 1 := of_decide_eq_true hd9
               clear hd9
               refine wp_cond_true rfl ?_
               refine wp_region_L (W0 := W0) ((g27, .cells #[.int .i64 0, .int .i64 0, .bool false, .int .i64 3, .int .i64 0, .int .i64 500000000, .int .i64 500000000, .int .i64 0, .slice none 0 0, .int .i64 0, .int .i64 0, .int .i64 2000] 46 (0, 0)) :: (g2, .cells (shC (.slice (some ⟨g27, 0, none⟩) 1 1) (.slice po os.length co) tl0).toArray 32 (0, 0)) :: (g1, .cells (shC (.slice none 0 0) (.slice none 0 0) tl0).toArray 32 (0, 0)) :: (Kc ++ (Tr ++ Ko))) (hW27) ?_
               refine lm (v := .pointer (some ⟨g2, 1, none⟩)) rfl rfl ?_
               refine lv (v := .slice po os.length co) rfl rfl (yb_cell (off := 1) rfl Tw.kr Tw.m1 Try.underlying23 rfl Tw.kr) ?_
               refine lm (v := .int .i64 ((i : Nat) : Int)) rfl rfl ?_
               refine wpL_new (fun g => .slice (some ⟨g, 0, none⟩) 3 3) (obi := .cells #[.int .i64 2, .int .i64 3, .int .i64 4] 3 (0, 0)) rfl rfl Tw.kf Tw.pf fun g30 Bg30 Fg30 => ?_
               obtain ⟨dj31_0, dj31_1, dj31_2, dj31_3, dj31_4, dj31_5⟩ : g27 ≠ g30 ∧ g2 ≠ g30 ∧ g1 ≠ g30 ∧ Dk g30 Kc ∧ Dk g30 Tr ∧ Dk g30 Ko := Tw.dkf Fg30
               refine lm (v := .agg #[.int .i64 ((i : Nat) : Int), .slice (some ⟨g30, 0, none⟩) 3 3]) rfl rfl ?_
               refine wpL_new (fun g => .slice (some ⟨g, 0, none⟩) 1 1) (obi := .cells #[.int .i64 ((i : Nat) : Int), .slice (some ⟨g30, 0, none⟩) 3 3] 123 (0, 0)) rfl rfl Tw.kf Tw.pf fun g32 Bg32 Fg32 => ?_
               obtain ⟨dj33_0, dj33_1, dj33_2, dj33_3, dj33_4, dj33_5, dj33_6⟩ : g30 ≠ g32 ∧ g27 ≠ g32 ∧ g2 ≠ g32 ∧ g1 ≠ g32 ∧ Dk g32 Kc ∧ Dk g32 Tr ∧ Dk g32 Ko := Tw.dkf Fg32
               refine wpL_g (AppO W0 123 2 ((g30, .cells #[.int .i64 2, .int .i64 3, .int .i64 4] 3 (0, 0)) :: (g27, .cells #[.int .i64 0, .int .i64 0, .bool false, .int .i64 3, .int .i64 0, .int .i64 500000000, .int .i64 500000000, .int .i64 0, .slice none 0 0, .int .i64 0, .int .i64 0, .int .i64 2000] 46 (0, 0)) :: (g2, .cells (shC (.slice (some ⟨g27, 0, none⟩) 1 1) (.slice po os.length co) tl0).toArray 32 (0, 0)) :: (g1, .cells (shC (.slice none 0 0) (.slice none 0 0) tl0).toArray 32 (0, 0)) :: (Kc ++ Tr)) (os.length + 1) ((os.flatMap covC) ++ [.int .i64 ((i : Nat) : Int), .slice (some ⟨g30, 0, none⟩) 3 3])) rfl rfl (app_own el_cov (m := 1) (c := 1) (news := [.int .i64 ((i : Nat) : Int), .slice (some ⟨g30, 0, none⟩) 3 3]) rfl Tw.kr Tw.kr Tw.m0 hOo Tw.sc (fun p hp => ⟨by simp only [List.mem_cons, List.mem_append, List.nil_append, List.not_mem_nil, or_assoc, or_false, false_or] at hp ⊢ <;> grind, (show Dj ((g30, .cells #[.int .i64 2, .int .i64 3, .int .i64 4] 3 (0, 0)) :: (g27, .cells #[.int .i64 0, .int .i64 0, .bool false, .int .i64 3, .int .i64 0, .int .i64 500000000, .int .i64 500000000, .int .i64 0, .slice none 0 0, .int .i64 0, .int .i64 0, .int .i64 2000] 46 (0, 0)) :: (g2, .cells (shC (.slice (some ⟨g27, 0, none⟩) 1 1) (.slice po os.length co) tl0).toArray 32 (0, 0)) :: (g1, .cells (shC (.slice none 0 0) (.slice none 0 0) tl0).toArray 32 (0, 0)) :: (Kc ++ Tr)) Ko from Tw.djt) p hp⟩) rfl (by simp [strV, Value.oneCell']) Tw.om Tw.om Tw.om) Tw.pf ?_
               rintro v34 K9 ⟨Kl34, O34, N34, rfl⟩
               obtain ⟨dj35_0, dj35_1, dj35_2, dj35_3, dj35_4, dj35_5⟩ : Dk g30 Kl34 ∧ Dk g27 Kl34 ∧ Dk g2 Kl34 ∧ Dk g1 Kl34 ∧ Dj Kc Kl34 ∧ Dj Tr Kl34 := Tw.djf N34
               refine lm (v := .pointer (some ⟨g2, 1, none⟩)) rfl rfl ?_
               obtain ⟨p36, c36, rfl⟩ := own_shape O34
               refine wpL_s ((g30, .cells #[.int .i64 2, .int .i64 3, .int .i64 4] 3 (0, 0)) :: (g27, .cells #[.int .i64 0, .int .i64 0, .bool false, .int .i64 3, .int .i64 0, .int .i64 500000000, .int .i64 500000000, .int .i64 0, .slice none 0 0, .int .i64 0, .int .i64 0, .int .i64 2000] 46 (0, 0)) :: (g2, .cells (shC (.slice (some ⟨g27, 0, none⟩) 1 1) (.slice p36 (os.length + 1) c36) tl0).toArray 32 (0, 0)) :: (g1, .cells (shC (.slice none 0 0) (.slice none 0 0) tl0).toArray 32 (0, 0)) :: ((Kc ++ Tr) ++ Kl34)) rfl rfl (st_row (off := 1) (v := .slice p36 (os.length + 1) c36) rfl Tw.kr Tw.kr Tw.m2 Bg2 Tw.kr (by first | (simp [Value.cells]; done) | exact Nat.le_of_ble_eq_true rfl) (by intro v hv; simp [Value.cells] at hv; first | (subst hv; rfl) | (rcases hv with rfl <;> rfl)) Tw.kr (List.forall_mem_cons.2 ⟨.inr ⟨Tw.m0, Tw.nee⟩, (List.forall_mem_cons.2 ⟨.inr ⟨Tw.m1, Tw.nee⟩, (List.forall_mem_cons.2 ⟨.inl rfl, (List.forall_mem_cons.2 ⟨.inr ⟨Tw.m3, Tw.nee⟩, (fun p hp => .inr ⟨(.tail _ (.tail _ (.tail _ (.tail _ hp)))), ((show Dk g2 ((Kc ++ Tr) ++ Kl34) from Tw.djt) _ hp)⟩)⟩)⟩)⟩)⟩)) ?_
               refine wpL_done (fun W29 hW29 => ?_)
               change Code.wp ..
               refine wp_region_L (W0 := W0) ((g30, .cells #[.int .i64 2, .int .i64 3, .int .i64 4] 3 (0, 0)) :: (g27, .cells #[.int .i64 0, .int .i64 0, .bool false, .int .i64 3, .int .i64 0, .int .i64 500000000, .int .i64 500000000, .int .i64 0, .slice none 0 0, .int .i64 0, .int .i64 0, .int .i64 2000] 46 (0, 0)) :: (g2, .cells (shC (.slice (some ⟨g27, 0, none⟩) 1 1) (.slice p36 (os.length + 1) c36) tl0).toArray 32 (0, 0)) :: (g1, .cells (shC (.slice none 0 0) (.slice none 0 0) tl0).toArray 32 (0, 0)) :: ((Kc ++ Tr) ++ Kl34)) (hW29) ?_
               refine lm (v := .int .i64 ((i : Nat) : Int)) rfl rfl ?_
               refine lp (v := .int .i64 (((i + 1) : Nat) : Int)) rfl rfl (run_bin rfl (vx := (.int .i64 ((i : Nat) : Int))) (vy := (.int .i64 ((1 : Nat) : Int))) Tw.kr Tw.kr fun w => bn_add (z := (i + 1)) rfl (wr_i64 Tw.om) w) ?_
               refine lm (v := .int .i64 (((i + 1) : Nat) : Int)) rfl rfl ?_
               refine wpL_done (fun W30 hW30 => ?_)
               go_roundw
               case rel =>
                 repeat apply Exists.intro
                 exact ⟨⟨i + 1, (os ++ [(⟨((i : Nat) : Int), [2, 3, 4], some ⟨g30, 0, none⟩, 3⟩ : Cov)]), .slice p36 (os.length + 1) c36, ((g30, .cells #[.int .i64 2, .int .i64 3, .int .i64 4] 3 (0, 0)) :: Tr), Kl34, Tw.om, (by rw [cov_01 h8 h9]; simp only [List.map_append, List.map_cons, List.map_nil, hos, List.append_assoc, List.cons_append, List.nil_append]), (by simp only [List.length_append, List.length_singleton, List.length_cons, List.length_nil]; omega), (own_app O34 (by simp only [List.flatMap_append, List.append_assoc]; rfl) (by simp only [List.length_append]; rfl)), (RB.snoc (o := ⟨((i : Nat) : Int), [2, 3, 4], some ⟨g30, 0, none⟩, 3⟩) hRo rfl (show Dk g30 Tr from Tw.djt) Bg30), (show Dk g27 ((g30, .cells #[.int .i64 2, .int .i64 3, .int .i64 4] 3 (0, 0)) :: Tr) from Tw.djt), (show Dk g2 ((g30, .cells #[.int .i64 2, .int .i64 3, .int .i64 4] 3 (0, 0)) :: Tr) from Tw.djt), (show Dk g1 ((g30, .cells #[.int .i64 2, .int .i64 3, .int .i64 4] 3 (0, 0)) :: Tr) from Tw.djt), (show Dj Kc ((g30, .cells #[.int .i64 2, .int .i64 3, .int .i64 4] 3 (0, 0)) :: Tr) from Tw.djt), (show Dk g27 Kl34 from Tw.djt), (show Dk g2 Kl34 from Tw.djt), (show Dk g1 Kl34 from Tw.djt), (show Dj Kc Kl34 from Tw.djt), (show Dj ((g30, .cells #[.int .i64 2, .int .i64 3, .int .i64 4] 3 (0, 0)) :: Tr) Kl34 from Tw.djt), rfl, (hW30.sub (fun p hp => by first | exact hp | (simp only [List.mem_cons, List.mem_append, List.nil_append, List.not_mem_nil, or_assoc, or_false, false_or] at hp ⊢ <;> grind)))⟩, rfl⟩
               case measure => (show 5 - (intOf (.int .i64 (((i + 1) : Nat) : Int))).toNat < 5 - (intOf (.int .i64 ((i : Nat) : Int))).toNat); simp only [intOf]; omega
           | true =>
             have h8 : ((n / 2 ^ (2 * i)) % 2) = 1 := of_decide_eq_true hd8
             clear hd8
             refine wp_cond_true rfl ?_
             refine wp_region_L (W0 := W0) ((g27, .cells #[.int .i64 0, .int .i64 0, .bool false, .int .i64 3, .int .i64 0, .int .i64 500000000, .int .i64 500000000, .int .i64 0, .slice none 0 0, .int .i64 0, .int .i64 0, .int .i64 2000] 46 (0, 0)) :: (g2, .cells (shC (.slice (some ⟨g27, 0, none⟩) 1 1) (.slice po os.length co) tl0).toArray 32 (0, 0)) :: (g1, .cells (shC (.slice none 0 0) (.slice none 0 0) tl0).toArray 32 (0, 0)) :: (Kc ++ (Tr ++ Ko))) (hW26) ?_
             refine lm (v := .pointer (some ⟨g2, 1, none⟩)) rfl rfl ?_
             refine lv (v := .slice po os.length co) rfl rfl (yb_cell (off := 1) rfl Tw.kr Tw.m1 Try.underlying23 rfl Tw.kr) ?_
             refine lm (v := .int .i64 ((i : Nat) : Int)) rfl rfl ?_
             refine wpL_new (fun g => .slice (some ⟨g, 0, none⟩) 2 2) (obi := .cells #[.int .i64 0, .int .i64 1] 3 (0, 0)) rfl rfl Tw.kf Tw.pf fun g37 Bg37 Fg37 => ?_
             obtain ⟨dj38_0, dj38_1, dj38_2, dj38_3, dj38_4, dj38_5⟩ : g27 ≠ g37 ∧ g2 ≠ g37 ∧ g1 ≠ g37 ∧ Dk g37 Kc ∧ Dk g37 Tr ∧ Dk g37 Ko := Tw.dkf Fg37
             refine lm (v := .agg #[.int .i64 ((i : Nat) : Int), .slice (some ⟨g37, 0, none⟩) 2 2]) rfl rfl ?_
             refine wpL_new (fun g => .slice (some ⟨g, 0, none⟩) 1 1) (obi := .cells #[.int .i64 ((i : Nat) : Int), .slice (some ⟨g37, 0, none⟩) 2 2] 123 (0, 0)) rfl rfl Tw.kf Tw.pf fun g39 Bg39 Fg39 => ?_
             obtain ⟨dj40_0, dj40_1, dj40_2, dj40_3, dj40_4, dj40_5, dj40_6⟩ : g37 ≠ g39 ∧ g27 ≠ g39 ∧ g2 ≠ g39 ∧ g1 ≠ g39 ∧ Dk g39 Kc ∧ Dk g39 Tr ∧ Dk g39 Ko := Tw.dkf Fg39
             refine wpL_g (AppO W0 123 2 ((g37, .cells #[.int .i64 0, .int .i64 1] 3 (0, 0)) :: (g27, .cells #[.int .i64 0, .int .i64 0, .bool false, .int .i64 3, .int .i64 0, .int .i64 500000000, .int .i64 500000000, .int .i64 0, .slice none 0 0, .int .i64 0, .int .i64 0, .int .i64 2000] 46 (0, 0)) :: (g2, .cells (shC (.slice (some ⟨g27, 0, none⟩) 1 1) (.slice po os.length co) tl0).toArray 32 (0, 0)) :: (g1, .cells (shC (.slice none 0 0) (.slice none 0 0) tl0).toArray 32 (0, 0)) :: (Kc ++ Tr)) (os.length + 1) ((os.flatMap covC) ++ [.int .i64 ((i : Nat) : Int), .slice (some ⟨g37, 0, none⟩) 2 2])) rfl rfl (app_own el_cov (m := 1) (c := 1) (news := [.int .i64 ((i : Nat) : Int), .slice (some ⟨g37, 0, none⟩) 2 2]) rfl Tw.kr Tw.kr Tw.m0 hOo Tw.sc (fun p hp => ⟨by simp only [List.mem_cons, List.mem_append, List.nil_append, List.not_mem_nil, or_assoc, or_false, false_or] at hp ⊢ <;> grind, (show Dj ((g37, .cells #[.int .i64 0, .int .i64 1] 3 (0, 0)) :: (g27, .cells #[.int .i64 0, .int .i64 0, .bool false, .int .i64 3, .int .i64 0, .int .i64 500000000, .int .i64 500000000, .int .i64 0, .slice none 0 0, .int .i64 0, .int .i64 0, .int .i64 2000] 46 (0, 0)) :: (g2, .cells (shC (.slice (some ⟨g27, 0, none⟩) 1 1) (.slice po os.length co) tl0).toArray 32 (0, 0)) :: (g1, .cells (shC (.slice none 0 0) (.slice none 0 0) tl0).toArray 32 (0, 0)) :: (Kc ++ Tr)) Ko from Tw.djt) p hp⟩) rfl (by simp [strV, Value.oneCell']) Tw.om Tw.om Tw.om) Tw.pf ?_
             rintro v41 K9 ⟨Kl41, O41, N41, rfl⟩
             obtain ⟨dj42_0, dj42_1, dj42_2, dj42_3, dj42_4, dj42_5⟩ : Dk g37 Kl41 ∧ Dk g27 Kl41 ∧ Dk g2 Kl41 ∧ Dk g1 Kl41 ∧ Dj Kc Kl41 ∧ Dj Tr Kl41 := Tw.djf N41
             refine lm (v := .pointer (some ⟨g2, 1, none⟩)) rfl rfl ?_
             obtain ⟨p43, c43, rfl⟩ := own_shape O41
             refine wpL_s ((g37, .cells #[.int .i64 0, .int .i64 1] 3 (0, 0)) :: (g27, .cells #[.int .i64 0, .int .i64 0, .bool false, .int .i64 3, .int .i64 0, .int .i64 500000000, .int .i64 500000000, .int .i64 0, .slice none 0 0, .int .i64 0, .int .i64 0, .int .i64 2000] 46 (0, 0)) :: (g2, .cells (shC (.slice (some ⟨g27, 0, none⟩) 1 1) (.slice p43 (os.length + 1) c43) tl0).toArray 32 (0, 0)) :: (g1, .cells (shC (.slice none 0 0) (.slice none 0 0) tl0).toArray 32 (0, 0)) :: ((Kc ++ Tr) ++ Kl41)) rfl rfl (st_row (off := 1) (v := .slice p43 (os.length + 1) c43) rfl Tw.kr Tw.kr Tw.m2 Bg2 Tw.kr (by first | (simp [Value.cells]; done) | exact Nat.le_of_ble_eq_true rfl) (by intro v hv; simp [Value.cells] at hv; first | (subst hv; rfl) | (rcases hv with rfl <;> rfl)) Tw.kr (List.forall_mem_cons.2 ⟨.inr ⟨Tw.m0, Tw.nee⟩, (List.forall_mem_cons.2 ⟨.inr ⟨Tw.m1, Tw.nee⟩, (List.forall_mem_cons.2 ⟨.inl rfl, (List.forall_mem_cons.2 ⟨.inr ⟨Tw.m3, Tw.nee⟩, (fun p hp => .inr ⟨(.tail _ (.tail _ (.tail _ (.tail _ hp)))), ((show Dk g2 ((Kc ++ Tr) ++ Kl41) from Tw.djt) _ hp)⟩)⟩)⟩)⟩)⟩)) ?_
             refine wpL_done (fun W31 hW31 => ?_)
             change Code.wp ..
             refine wp_seq ?_
             refine wp_region_L (W0 := W0) ((g37, .cells #[.int .i64 0, .int .i64 1] 3 (0, 0)) :: (g27, .cells #[.int .i64 0, .int .i64 0, .bool false, .int .i64 3, .int .i64 0, .int .i64 500000000, .int .i64 500000000, .int .i64 0, .slice none 0 0, .int .i64 0, .int .i64 0, .int .i64 2000] 46 (0, 0)) :: (g2, .cells (shC (.slice (some ⟨g27, 0, none⟩) 1 1) (.slice p43 (os.length + 1) c43) tl0).toArray 32 (0, 0)) :: (g1, .cells (shC (.slice none 0 0) (.slice none 0 0) tl0).toArray 32 (0, 0)) :: ((Kc ++ Tr) ++ Kl41)) (hW31) ?_
             refine lm (v := .int .u32 ((n : Nat) : Int)) rfl rfl ?_
             refine lm (v := .int .i64 ((i : Nat) : Int)) rfl rfl ?_
             refine lp (v := .int .i64 (((2 * i) : Nat) : Int)) rfl rfl (run_bin rfl (vx := (.int .i64 ((2 : Nat) : Int))) (vy := (.int .i64 ((i : Nat) : Int))) Tw.kr Tw.kr fun w => bn_mul (z := (2 * i)) rfl (wr_i64 Tw.om) w) ?_
             refine lp (v := .int .i64 ((((2 * i) + 1) : Nat) : Int)) rfl rfl (run_bin rfl (vx := (.int .i64 (((2 * i) : Nat) : Int))) (vy := (.int .i64 ((1 : Nat) : Int))) Tw.kr Tw.kr fun w => bn_add (z := ((2 * i) + 1)) rfl (wr_i64 Tw.om) w) ?_
             refine lp (v := .int .u32 (((n / 2 ^ ((2 * i) + 1)) : Nat) : Int)) rfl rfl (run_bin rfl (vx := (.int .u32 ((n : Nat) : Int))) (vy := (.int .i64 ((((2 * i) + 1) : Nat) : Int))) Tw.kr Tw.kr fun w => bn_shr (z := (n / 2 ^ ((2 * i) + 1))) rfl (by first | omega | decide | (simp only [IntKind.bits]; omega)) w) ?_
             refine lp (v := .int .u32 ((((n / 2 ^ ((2 * i) + 1)) % 2) : Nat) : Int)) rfl rfl (run_bin rfl (vx := (.int .u32 (((n / 2 ^ ((2 * i) + 1)) : Nat) : Int))) (vy := (.int .u32 ((1 : Nat) : Int))) Tw.kr Tw.kr fun w => bn_and (z := ((n / 2 ^ ((2 * i) + 1)) % 2)) (Nat.and_one_is_mod _) (by rw [show IntKind.u32.bits = 32 from rfl]; exact Nat.lt_of_le_of_lt (Nat.div_le_self _ _) Tw.om) (by decide) (wr_u32 Tw.om) w) ?_
             refine lp (v := .bool (decide (((n / 2 ^ ((2 * i) + 1)) % 2) = 1))) rfl rfl (run_bin rfl (vx := (.int .u32 ((((n / 2 ^ ((2 * i) + 1)) % 2) : Nat) : Int))) (vy := (.int .u32 ((1 : Nat) : Int))) Tw.kr Tw.kr fun w => bn_eql rfl w) ?_
             refine wpL_done (fun W32 hW32 => ?_)
             change Code.wp ..
             cases hd10 : (decide (((n / 2 ^ ((2 * i) + 1)) % 2) = 1)) with
             | false =>
               have h10 : ¬ (((n / 2 ^ ((2 * i) + 1)) % 2) = 1) := of_decide_eq_false hd10
               clear hd10
               refine wp_cond_false rfl ?_
               refine wp_skip ?_
               change Code.wp ..
               refine wp_region_L (W0 := W0) ((g37, .cells #[.int .i64 0, .int .i64 1] 3 (0, 0)) :: (g27, .cells #[.int .i64 0, .int .i64 0, .bool false, .int .i64 3, .int .i64 0, .int .i64 500000000, .int .i64 500000000, .int .i64 0, .slice none 0 0, .int .i64 0, .int .i64 0, .int .i64 2000] 46 (0, 0)) :: (g2, .cells (shC (.slice (some ⟨g27, 0, none⟩) 1 1) (.slice p43 (os.length + 1) c43) tl0).toArray 32 (0, 0)) :: (g1, .cells (shC (.slice none 0 0) (.slice none 0 0) tl0).toArray 32 (0, 0)) :: ((Kc ++ Tr) ++ Kl41)) (hW32) ?_
               refine lm (v := .int .i64 ((i : Nat) : Int)) rfl rfl ?_
               refine lp (v := .int .i64 (((i + 1) : Nat) : Int)) rfl rfl (run_bin rfl (vx := (.int .i64 ((i : Nat) : Int))) (vy := (.int .i64 ((1 : Nat) : Int))) Tw.kr Tw.kr fun w => bn_add (z := (i + 1)) rfl (wr_i64 Tw.om) w) ?_
               refine lm (v := .int .i64 (((i + 1) : Nat) : Int)) rfl rfl ?_
               refine wpL_done (fun W33 hW33 => ?_)
               go_roundw
               case rel =>
                 repeat apply Exists.intro
                 exact ⟨⟨i + 1, (os ++ [(⟨((i : Nat) : Int), [0, 1], some ⟨g37, 0, none⟩, 2⟩ : Cov)]), .slice p43 (os.length + 1) c43, ((g37, .cells #[.int .i64 0, .int .i64 1] 3 (0, 0)) :: Tr), Kl41, Tw.om, (by rw [cov_10 h8 h10]; simp only [List.map_append, List.map_cons, List.map_nil, hos, List.append_assoc, List.cons_append, List.nil_append]), (by simp only [List.length_append, List.length_singleton, List.length_cons, List.length_nil]; omega), (own_app O41 (by simp only [List.flatMap_append, List.append_assoc]; rfl) (by simp only [List.length_append]; rfl)), (RB.snoc (o := ⟨((i : Nat) : Int), [0, 1], some ⟨g37, 0, none⟩, 2⟩) hRo rfl (show Dk g37 Tr from Tw.djt) Bg37), (show Dk g27 ((g37, .cells #[.int .i64 0, .int .i64 1] 3 (0, 0)) :: Tr) from Tw.djt), (show Dk g2 ((g37, .cells #[.int .i64 0, .int .i64 1] 3 (0, 0)) :: Tr) from Tw.djt), (show Dk g1 ((g37, .cells #[.int .i64 0, .int .i64 1] 3 (0, 0)) :: Tr) from Tw.djt), (show Dj Kc ((g37, .cells #[.int .i64 0, .int .i64 1] 3 (0, 0)) :: Tr) from Tw.djt), (show Dk g27 Kl41 from Tw.djt), (show Dk g2 Kl41 from Tw.djt), (show Dk g1 Kl41 from Tw.djt), (show Dj Kc Kl41 from Tw.djt), (show Dj ((g37, .cells #[.int .i64 0, .int .i64 1] 3 (0, 0)) :: Tr) Kl41 from Tw.djt), rfl, (hW33.sub (fun p hp => by first | exact hp | (simp only [List.mem_cons, List.mem_append, List.nil_append, List.not_mem_nil, or_assoc, or_false, false_or] at hp ⊢ <;> grind)))⟩, rfl⟩
               case measure => (show 5 - (intOf (.int .i64 (((i + 1) : Nat) : Int))).toNat < 5 - (intOf (.int .i64 ((i : Nat) : Int))).toNat); simp only [intOf]; omega
             | true =>
               have h10 : ((n / 2 ^ ((2 * i) + 1)) % 2) = 1 := of_decide_eq_true hd10
               clear hd10
               refine wp_cond_true rfl ?_
               refine wp_region_L (W0 := W0) ((g37, .cells #[.int .i64 0, .int .i64 1] 3 (0, 0)) :: (g27, .cells #[.int .i64 0, .int .i64 0, .bool false, .int .i64 3, .int .i64 0, .int .i64 500000000, .int .i64 500000000, .int .i64 0, .slice none 0 0, .int .i64 0, .int .i64 0, .int .i64 2000] 46 (0, 0)) :: (g2, .cells (shC (.slice (some ⟨g27, 0, none⟩) 1 1) (.slice p43 (os.length + 1) c43) tl0).toArray 32 (0, 0)) :: (g1, .cells (shC (.slice none 0 0) (.slice none 0 0) tl0).toArray 32 (0, 0)) :: ((Kc ++ Tr) ++ Kl41)) (hW32) ?_
               refine lm (v := .pointer (some ⟨g2, 1, none⟩)) rfl rfl ?_
               refine lv (v := .slice p43 (os.length + 1) c43) rfl rfl (yb_cell (off := 1) rfl Tw.kr Tw.m2 Try.underlying23 rfl Tw.kr) ?_
               refine lm (v := .int .i64 ((i : Nat) : Int)) rfl rfl ?_
               refine wpL_new (fun g => .slice (some ⟨g, 0, none⟩) 3 3) (obi := .cells #[.int .i64 2, .int .i64 3, .int .i64 4] 3 (0, 0)) rfl rfl Tw.kf Tw.pf fun g44 Bg44 Fg44 => ?_
               obtain ⟨dj45_0, dj45_1, dj45_2, dj45_3, dj45_4, dj45_5, dj45_6⟩ : g37 ≠ g44 ∧ g27 ≠ g44 ∧ g2 ≠ g44 ∧ g1 ≠ g44 ∧ Dk g44 Kc ∧ Dk g44 Tr ∧ Dk g44 Kl41 := Tw.dkf Fg44
               refine lm (v := .agg #[.int .i64 ((i : Nat) : Int), .slice (some ⟨g44, 0, none⟩) 3 3]) rfl rfl ?_
               refine wpL_new (fun g => .slice (some ⟨g, 0, none⟩) 1 1) (obi := .cells #[.int .i64 ((i : Nat) : Int), .slice (some ⟨g44, 0, none⟩) 3 3] 123 (0, 0)) rfl rfl Tw.kf Tw.pf fun g46 Bg46 Fg46 => ?_
               obtain ⟨dj47_0, dj47_1, dj47_2, dj47_3, dj47_4, dj47_5, dj47_6, dj47_7⟩ : g44 ≠ g46 ∧ g37 ≠ g46 ∧ g27 ≠ g46 ∧ g2 ≠ g46 ∧ g1 ≠ g46 ∧ Dk g46 Kc ∧ Dk g46 Tr ∧ Dk g46 Kl41 := Tw.dkf Fg46
               refine wpL_g (AppO W0 123 2 ((g44, .cells #[.int .i64 2, .int .i64 3, .int .i64 4] 3 (0, 0)) :: (g37, .cells #[.int .i64 0, .int .i64 1] 3 (0, 0)) :: (g27, .cells #[.int .i64 0, .int .i64 0, .bool false, .int .i64 3, .int .i64 0, .int .i64 500000000, .int .i64 500000000, .int .i64 0, .slice none 0 0, .int .i64 0, .int .i64 0, .int .i64 2000] 46 (0, 0)) :: (g2, .cells (shC (.slice (some ⟨g27, 0, none⟩) 1 1) (.slice p43 (os.length + 1) c43) tl0).toArray 32 (0, 0)) :: (g1, .cells (shC (.slice none 0 0) (.slice none 0 0) tl0).toArray 32 (0, 0)) :: (Kc ++ Tr)) ((os.length + 1) + 1) (((os.flatMap covC) ++ [.int .i64 ((i : Nat) : Int), .slice (some ⟨g37, 0, none⟩) 2 2]) ++ [.int .i64 ((i : Nat) : Int), .slice (some ⟨g44, 0, none⟩) 3 3])) rfl rfl (app_own el_cov (m := 1) (c := 1) (news := [.int .i64 ((i : Nat) : Int), .slice (some ⟨g44, 0, none⟩) 3 3]) rfl Tw.kr Tw.kr Tw.m0 O41 Tw.sc (fun p hp => ⟨by simp only [List.mem_cons, List.mem_append, List.nil_append, List.not_mem_nil, or_assoc, or_false, false_or] at hp ⊢ <;> grind, (show Dj ((g44, .cells #[.int .i64 2, .int .i64 3, .int .i64 4] 3 (0, 0)) :: (g37, .cells #[.int .i64 0, .int .i64 1] 3 (0, 0)) :: (g27, .cells #[.int .i64 0, .int .i64 0, .bool false, .int .i64 3, .int .i64 0, .int .i64 500000000, .int .i64 500000000, .int .i64 0, .slice none 0 0, .int .i64 0, .int .i64 0, .int .i64 2000] 46 (0, 0)) :: (g2, .cells (shC (.slice (some ⟨g27, 0, none⟩) 1 1) (.slice p43 (os.length + 1) c43) tl0).toArray 32 (0, 0)) :: (g1, .cells (shC (.slice none 0 0) (.slice none 0 0) tl0).toArray 32 (0, 0)) :: (Kc ++ Tr)) Kl41 from Tw.djt) p hp⟩) rfl (by simp [strV, Value.oneCell']) Tw.om Tw.om Tw.om) Tw.pf ?_
               rintro v48 K9 ⟨Kl48, O48, N48, rfl⟩
               obtain ⟨dj49_0, dj49_1, dj49_2, dj49_3, dj49_4, dj49_5, dj49_6⟩ : Dk g44 Kl48 ∧ Dk g37 Kl48 ∧ Dk g27 Kl48 ∧ Dk g2 Kl48 ∧ Dk g1 Kl48 ∧ Dj Kc Kl48 ∧ Dj Tr Kl48 := Tw.djf N48
               refine lm (v := .pointer (some ⟨g2, 1, none⟩)) rfl rfl ?_
               obtain ⟨p50, c50, rfl⟩ := own_shape O48
               refine wpL_s ((g44, .cells #[.int .i64 2, .int .i64 3, .int .i64 4] 3 (0, 0)) :: (g37, .cells #[.int .i64 0, .int .i64 1] 3 (0, 0)) :: (g27, .cells #[.int .i64 0, .int .i64 0, .bool false, .int .i64 3, .int .i64 0, .int .i64 500000000, .int .i64 500000000, .int .i64 0, .slice none 0 0, .int .i64 0, .int .i64 0, .int .i64 2000] 46 (0, 0)) :: (g2, .cells (shC (.slice (some ⟨g27, 0, none⟩) 1 1) (.slice p50 ((os.length + 1) + 1) c50) tl0).toArray 32 (0, 0)) :: (g1, .cells (shC (.slice none 0 0) (.slice none 0 0) tl0).toArray 32 (0, 0)) :: ((Kc ++ Tr) ++ Kl48)) rfl rfl (st_row (off := 1) (v := .slice p50 ((os.length + 1) + 1) c50) rfl Tw.kr Tw.kr Tw.m3 Bg2 Tw.kr (by first | (simp [Value.cells]; done) | exact Nat.le_of_ble_eq_true rfl) (by intro v hv; simp [Value.cells] at hv; first | (subst hv; rfl) | (rcases hv with rfl <;> rfl)) Tw.kr (List.forall_mem_cons.2 ⟨.inr ⟨Tw.m0, Tw.nee⟩, (List.forall_mem_cons.2 ⟨.inr ⟨Tw.m1, Tw.nee⟩, (List.forall_mem_cons.2 ⟨.inr ⟨Tw.m2, Tw.nee⟩, (List.forall_mem_cons.2 ⟨.inl rfl, (List.forall_mem_cons.2 ⟨.inr ⟨Tw.m4, Tw.nee⟩, (fun p hp => .inr ⟨(.tail _ (.tail _ (.tail _ (.tail _ (.tail _ hp))))), ((show Dk g2 ((Kc ++ Tr) ++ Kl48) from Tw.djt) _ hp)⟩)⟩)⟩)⟩)⟩)⟩)) ?_
               refine wpL_done (fun W34 hW34 => ?_)
               change Code.wp ..
               refine wp_region_L (W0 := W0) ((g44, .cells #[.int .i64 2, .int .i64 3, .int .i64 4] 3 (0, 0)) :: (g37, .cells #[.int .i64 0, .int .i64 1] 3 (0, 0)) :: (g27, .cells #[.int .i64 0, .int .i64 0, .bool false, .int .i64 3, .int .i64 0, .int .i64 500000000, .int .i64 500000000, .int .i64 0, .slice none 0 0, .int .i64 0, .int .i64 0, .int .i64 2000] 46 (0, 0)) :: (g2, .cells (shC (.slice (some ⟨g27, 0, none⟩) 1 1) (.slice p50 ((os.length + 1) + 1) c50) tl0).toArray 32 (0, 0)) :: (g1, .cells (shC (.slice none 0 0) (.slice none 0 0) tl0).toArray 32 (0, 0)) :: ((Kc ++ Tr) ++ Kl48)) (hW34) ?_
               refine lm (v := .int .i64 ((i : Nat) : Int)) rfl rfl ?_
               refine lp (v := .int .i64 (((i + 1) : Nat) : Int)) rfl rfl (run_bin rfl (vx := (.int .i64 ((i : Nat) : Int))) (vy := (.int .i64 ((1 : Nat) : Int))) Tw.kr Tw.kr fun w => bn_add (z := (i + 1)) rfl (wr_i64 Tw.om) w) ?_
               refine lm (v := .int .i64 (((i + 1) : Nat) : Int)) rfl rfl ?_
               refine wpL_done (fun W35 hW35 => ?_)
               go_roundw
               case rel =>
                 repeat apply Exists.intro
                 exact ⟨⟨i + 1, ((os ++ [(⟨((i : Nat) : Int), [0, 1], some ⟨g37, 0, none⟩, 2⟩ : Cov)]) ++ [(⟨((i : Nat) : Int), [2, 3, 4], some ⟨g44, 0, none⟩, 3⟩ : Cov)]), .slice p50 ((os.length + 1) + 1) c50, ((g44, .cells #[.int .i64 2, .int .i64 3, .int .i64 4] 3 (0, 0)) :: ((g37, .cells #[.int .i64 0, .int .i64 1] 3 (0, 0)) :: Tr)), Kl48, Tw.om, (by rw [cov_11 h8 h10]; simp only [List.map_append, List.map_cons, List.map_nil, hos, List.append_assoc, List.cons_append, List.nil_append]), (by simp only [List.length_append, List.length_singleton, List.length_cons, List.length_nil]; omega), (own_app O48 (by simp only [List.flatMap_append, List.append_assoc]; rfl) (by simp only [List.length_append]; rfl)), (RB.snoc (o := ⟨((i : Nat) : Int), [2, 3, 4], some ⟨g44, 0, none⟩, 3⟩) (RB.snoc (o := ⟨((i : Nat) : Int), [0, 1], some ⟨g37, 0, none⟩, 2⟩) hRo rfl (show Dk g37 Tr from Tw.djt) Bg37) rfl (show Dk g44 ((g37, .cells #[.int .i64 0, .int .i64 1] 3 (0, 0)) :: Tr) from Tw.djt) Bg44), (show Dk g27 ((g44, .cells #[.int .i64 2, .int .i64 3, .int .i64 4] 3 (0, 0)) :: ((g37, .cells #[.int .i64 0, .int .i64 1] 3 (0, 0)) :: Tr)) from Tw.djt), (show Dk g2 ((g44, .cells #[.int .i64 2, .int .i64 3, .int .i64 4] 3 (0, 0)) :: ((g37, .cells #[.int .i64 0, .int .i64 1] 3 (0, 0)) :: Tr)) from Tw.djt), (show Dk g1 ((g44, .cells #[.int .i64 2, .int .i64 3, .int .i64 4] 3 (0, 0)) :: ((g37, .cells #[.int .i64 0, .int .i64 1] 3 (0, 0)) :: Tr)) from Tw.djt), (show Dj Kc ((g44, .cells #[.int .i64 2, .int .i64 3, .int .i64 4] 3 (0, 0)) :: ((g37, .cells #[.int .i64 0, .int .i64 1] 3 (0, 0)) :: Tr)) from Tw.djt), (show Dk g27 Kl48 from Tw.djt), (show Dk g2 Kl48 from Tw.djt), (show Dk g1 Kl48 from Tw.djt), (show Dj Kc Kl48 from Tw.djt), (show Dj ((g44, .cells #[.int .i64 2, .int .i64 3, .int .i64 4] 3 (0, 0)) :: ((g37, .cells #[.int .i64 0, .int .i64 1] 3 (0, 0)) :: Tr)) Kl48 from Tw.djt), rfl, (hW35.sub (fun p hp => by first | exact hp | (simp only [List.mem_cons, List.mem_append, List.nil_append, List.not_mem_nil, or_assoc, or_false, false_or] at hp ⊢ <;> grind)))⟩, rfl⟩
               case measure => (show 5 - (intOf (.int .i64 (((i + 1) : Nat) : Int))).toNat < 5 - (intOf (.int .i64 ((i : Nat) : Int))).toNat); simp only [intOf]; omega
   | true =>
     have h1 : k < m := of_decide_eq_true hd1
     clear hd1
     refine wp_cond_true rfl ?_
     refine wp_skip ?_
     change Code.wp ..
     refine wp_seq ?_
     refine wp_block ?_
     refine wp_seq ?_
     refine wp_region_L (W0 := W0) ((g2, .cells (shC (.slice pc cs.length cc) (.slice none 0 0) tl0).toArray 32 (0, 0)) :: (g1, .cells (shC (.slice none 0 0) (.slice none 0 0) tl0).toArray 32 (0, 0)) :: Kc) (hW5) ?_
     obtain ⟨y51, g51_, f51_, hy51, hp51, hc51⟩ := RL.at (hp.take plC_len m) plC_len (by decide) (hW5.sub (fun _ h => by cases h)) (k := k) (by first | omega | (rw [List.length_take]; omega))
     have ok51 := hok y51 (List.mem_of_mem_take (List.mem_of_getElem? hy51))
     obtain ⟨ob51, or51, ot51⟩ := ok51
     refine lp (v := .pointer (some ⟨g51_, f51_ + k * 4, none⟩)) rfl rfl (run_idxQ (p := p) (cap := c) (n := m) (j := .i64) (k := k) (sz := 4) rfl Try.underlying49 Tw.kr Tw.kr hp51 Tw.kr (by first | omega | (rw [List.length_take]; omega))) ?_
     refine lv (v := .agg (plC y51).toArray) rfl rfl (yb_rs (off := f51_ + k * 4) (cs := plC y51) rfl Tw.kr (fun W hW => hc51 W (hW.sub (fun _ h => by cases h))) Try.underlying128 rfl Tw.kr) ?_
     refine wpL_new (fun g => .pointer (some ⟨g, 0, none⟩)) (obi := .cells #[.int .u8 0, .int .u8 0, .int .u8 0, .bool false] 128 (0, 0)) rfl rfl Tw.kf Tw.pf fun g52 Bg52 Fg52 => ?_
     obtain ⟨dj53_0, dj53_1, dj53_2⟩ : g2 ≠ g52 ∧ g1 ≠ g52 ∧ Dk g52 Kc := Tw.dkf Fg52
     refine wpL_s ((g52, .cells (plC y51).toArray 128 (0, 0)) :: (g2, .cells (shC (.slice pc cs.length cc) (.slice none 0 0) tl0).toArray 32 (0, 0)) :: (g1, .cells (shC (.slice none 0 0) (.slice none 0 0) tl0).toArray 32 (0, 0)) :: Kc) rfl rfl (st_row (off := 0) (v := .agg (plC y51).toArray) rfl Tw.kr Tw.kr Tw.m0 Bg52 Tw.kr (by first | (simp [Value.cells]; done) | exact Nat.le_of_ble_eq_true rfl) (fun v hv => plC_one y51 v hv) Tw.kr (List.forall_mem_cons.2 ⟨.inl rfl, (List.forall_mem_cons.2 ⟨.inr ⟨Tw.m1, Tw.nee⟩, (List.forall_mem_cons.2 ⟨.inr ⟨Tw.m2, Tw.nee⟩, (fun p hp => .inr ⟨(.tail _ (.tail _ (.tail _ hp))), ((show Dk g52 Kc from Tw.djt) _ hp)⟩)⟩)⟩)⟩)) ?_
     refine wpL_done (fun W36 hW36 => ?_)
     change Code.wp ..
     refine wp_seq ?_
     refine wp_region_L (W0 := W0) ((g52, .cells (plC y51).toArray 128 (0, 0)) :: (g2, .cells (shC (.slice pc cs.length cc) (.slice none 0 0) tl0).toArray 32 (0, 0)) :: (g1, .cells (shC (.slice none 0 0) (.slice none 0 0) tl0).toArray 32 (0, 0)) :: Kc) (hW36) ?_
     refine lm (v := .pointer (some ⟨g52, 0, none⟩)) rfl rfl ?_
     refine lv (v := .int .u8 ((y51.bay : Nat) : Int)) rfl rfl (yb_cell (off := 0) rfl Tw.kr Tw.m0 Try.underlying5 rfl Tw.kr) ?_
     refine lp (v := .int .i64 ((y51.bay : Nat) : Int)) rfl rfl (run_conv rfl (vx := (.int .u8 ((y51.bay : Nat) : Int))) Tw.kr fun w => cv_int Try.underlying5 Try.underlying3 (wr_i64 Tw.om) w) ?_
     refine lp (v := .int .i64 (((y51.bay % 5) : Nat) : Int)) rfl rfl (run_bin rfl (vx := (.int .i64 ((y51.bay : Nat) : Int))) (vy := (.int .i64 ((5 : Nat) : Int))) Tw.kr Tw.kr fun w => bn_rem (z := (y51.bay % 5)) rfl Tw.om w) ?_
     refine lm (v := .pointer (some ⟨g52, 1, none⟩)) rfl rfl ?_
     refine lv (v := .int .u8 ((y51.row : Nat) : Int)) rfl rfl (yb_cell (off := 1) rfl Tw.kr Tw.m0 Try.underlying5 rfl Tw.kr) ?_
     refine lp (v := .int .i64 ((y51.row : Nat) : Int)) rfl rfl (run_conv rfl (vx := (.int .u8 ((y51.row : Nat) : Int))) Tw.kr fun w => cv_int Try.underlying5 Try.underlying3 (wr_i64 Tw.om) w) ?_
     refine lp (v := .int .i64 (((y51.row % 5) : Nat) : Int)) rfl rfl (run_bin rfl (vx := (.int .i64 ((y51.row : Nat) : Int))) (vy := (.int .i64 ((5 : Nat) : Int))) Tw.kr Tw.kr fun w => bn_rem (z := (y51.row % 5)) rfl Tw.om w) ?_
     refine lm (v := .pointer (some ⟨g52, 3, none⟩)) rfl rfl ?_
     refine lv (v := .bool y51.deck) rfl rfl (yb_cell (off := 3) rfl Tw.kr Tw.m0 Try.underlying4 rfl Tw.kr) ?_
     refine lm (v := .pointer (some ⟨g52, 2, none⟩)) rfl rfl ?_
     refine lv (v := .int .u8 ((y51.tiers : Nat) : Int)) rfl rfl (yb_cell (off := 2) rfl Tw.kr Tw.m0 Try.underlying5 rfl Tw.kr) ?_
     refine lp (v := .int .i64 ((y51.tiers : Nat) : Int)) rfl rfl (run_conv rfl (vx := (.int .u8 ((y51.tiers : Nat) : Int))) Tw.kr fun w => cv_int Try.underlying5 Try.underlying3 (wr_i64 Tw.om) w) ?_
     refine lp (v := .int .i64 (((y51.tiers % 4) : Nat) : Int)) rfl rfl (run_bin rfl (vx := (.int .i64 ((y51.tiers : Nat) : Int))) (vy := (.int .i64 ((4 : Nat) : Int))) Tw.kr Tw.kr fun w => bn_rem (z := (y51.tiers % 4)) rfl Tw.om w) ?_
     refine lp (v := .int .i64 (((2 + (y51.tiers % 4)) : Nat) : Int)) rfl rfl (run_bin rfl (vx := (.int .i64 ((2 : Nat) : Int))) (vy := (.int .i64 (((y51.tiers % 4) : Nat) : Int))) Tw.kr Tw.kr fun w => bn_add (z := (2 + (y51.tiers % 4))) rfl (wr_i64 Tw.om) w) ?_
     refine lm (v := .agg #[.int .i64 (((y51.bay % 5) : Nat) : Int), .int .i64 (((y51.row % 5) : Nat) : Int), .bool y51.deck, .int .i64 (((2 + (y51.tiers % 4)) : Nat) : Int), .int .i64 0, .int .i64 500000000, .int .i64 500000000, .int .i64 0, .slice none 0 0, .int .i64 0, .int .i64 0, .int .i64 0]) rfl rfl ?_
     refine wpL_new (fun g => .pointer (some ⟨g, 0, none⟩)) (obi := .cells #[.int .i64 0, .int .i64 0, .bool false, .int .i64 0, .int .i64 0, .int .i64 0, .int .i64 0, .int .i64 0, .slice none 0 0, .int .i64 0, .int .i64 0, .int .i64 0] 46 (0, 0)) rfl rfl Tw.kf Tw.pf fun g54 Bg54 Fg54 => ?_
     obtain ⟨dj55_0, dj55_1, dj55_2, dj55_3⟩ : g52 ≠ g54 ∧ g2 ≠ g54 ∧ g1 ≠ g54 ∧ Dk g54 Kc := Tw.dkf Fg54
     refine wpL_s ((g54, .cells #[.int .i64 (((y51.bay % 5) : Nat) : Int), .int .i64 (((y51.row % 5) : Nat) : Int), .bool y51.deck, .int .i64 (((2 + (y51.tiers % 4)) : Nat) : Int), .int .i64 0, .int .i64 500000000, .int .i64 500000000, .int .i64 0, .slice none 0 0, .int .i64 0, .int .i64 0, .int .i64 0] 46 (0, 0)) :: (g52, .cells (plC y51).toArray 128 (0, 0)) :: (g2, .cells (shC (.slice pc cs.length cc) (.slice none 0 0) tl0).toArray 32 (0, 0)) :: (g1, .cells (shC (.slice none 0 0) (.slice none 0 0) tl0).toArray 32 (0, 0)) :: Kc) rfl rfl (st_row (off := 0) (v := .agg #[.int .i64 (((y51.bay % 5) : Nat) : Int), .int .i64 (((y51.row % 5) : Nat) : Int), .bool y51.deck, .int .i64 (((2 + (y51.tiers % 4)) : Nat) : Int), .int .i64 0, .int .i64 500000000, .int .i64 500000000, .int .i64 0, .slice none 0 0, .int .i64 0, .int .i64 0, .int .i64 0]) rfl Tw.kr Tw.kr Tw.m0 Bg54 Tw.kr (by first | (simp [Value.cells]; done) | exact Nat.le_of_ble_eq_true rfl) (by intro v hv; simp [Value.cells] at hv; first | (subst hv; rfl) | (rcases hv with rfl | rfl | rfl | rfl | rfl | rfl | rfl | rfl | rfl | rfl | rfl | rfl <;> rfl)) Tw.kr (List.forall_mem_cons.2 ⟨.inl rfl, (List.forall_mem_cons.2 ⟨.inr ⟨Tw.m1, Tw.nee⟩, (List.forall_mem_cons.2 ⟨.inr ⟨Tw.m2, Tw.nee⟩, (List.forall_mem_cons.2 ⟨.inr ⟨Tw.m3, Tw.nee⟩, (fun p hp => .inr ⟨(.tail _ (.tail _ (.tail _ (.tail _ hp)))), ((show Dk g54 Kc from Tw.djt) _ hp)⟩)⟩)⟩)⟩)⟩)) ?_
     refine wpL_done (fun W37 hW37 => ?_)
     change Code.wp ..
     refine wp_seq ?_
     refine wp_region_L (W0 := W0) ((g54, .cells #[.int .i64 (((y51.bay % 5) : Nat) : Int), .int .i64 (((y51.row % 5) : Nat) : Int), .bool y51.deck, .int .i64 (((2 + (y51.tiers % 4)) : Nat) : Int), .int .i64 0, .int .i64 500000000, .int .i64 500000000, .int .i64 0, .slice none 0 0, .int .i64 0, .int .i64 0, .int .i64 0] 46 (0, 0)) :: (g52, .cells (plC y51).toArray 128 (0, 0)) :: (g2, .cells (shC (.slice pc cs.length cc) (.slice none 0 0) tl0).toArray 32 (0, 0)) :: (g1, .cells (shC (.slice none 0 0) (.slice none 0 0) tl0).toArray 32 (0, 0)) :: Kc) (hW37) ?_
     refine lm (v := .pointer (some ⟨g54, 0, none⟩)) rfl rfl ?_
     refine lv (v := .int .i64 (((y51.bay % 5) : Nat) : Int)) rfl rfl (yb_cell (off := 0) rfl Tw.kr Tw.m0 Try.underlying3 rfl Tw.kr) ?_
     refine lp (v := .int .i64 (((13000 * (y51.bay % 5)) : Nat) : Int)) rfl rfl (run_bin rfl (vx := (.int .i64 ((13000 : Nat) : Int))) (vy := (.int .i64 (((y51.bay % 5) : Nat) : Int))) Tw.kr Tw.kr fun w => bn_mul (z := (13000 * (y51.bay % 5))) rfl (wr_i64 Tw.om) w) ?_
     refine lp (v := .int .i64 ((((13000 * (y51.bay % 5)) : Nat) : Int) - 26000)) rfl rfl (run_bin rfl (vx := (.int .i64 (((13000 * (y51.bay % 5)) : Nat) : Int))) (vy := (.int .i64 26000)) Tw.kr Tw.kr fun w => bi_sub (z := ((((13000 * (y51.bay % 5)) : Nat) : Int) - 26000)) rfl (wi_i64 Tw.om) w) ?_
     refine lm (v := .pointer (some ⟨g54, 1, none⟩)) rfl rfl ?_
     refine lv (v := .int .i64 (((y51.row % 5) : Nat) : Int)) rfl rfl (yb_cell (off := 1) rfl Tw.kr Tw.m0 Try.underlying3 rfl Tw.kr) ?_
     refine lp (v := .int .i64 (((2500 * (y51.row % 5)) : Nat) : Int)) rfl rfl (run_bin rfl (vx := (.int .i64 ((2500 : Nat) : Int))) (vy := (.int .i64 (((y51.row % 5) : Nat) : Int))) Tw.kr Tw.kr fun w => bn_mul (z := (2500 * (y51.row % 5))) rfl (wr_i64 Tw.om) w) ?_
     refine lp (v := .int .i64 ((((2500 * (y51.row % 5)) : Nat) : Int) - 5000)) rfl rfl (run_bin rfl (vx := (.int .i64 (((2500 * (y51.row % 5)) : Nat) : Int))) (vy := (.int .i64 5000)) Tw.kr Tw.kr fun w => bi_sub (z := ((((2500 * (y51.row % 5)) : Nat) : Int) - 5000)) rfl (wi_i64 Tw.om) w) ?_
     refine lm (v := .pointer (some ⟨g54, 9, none⟩)) rfl rfl ?_
     refine wpL_s ((g54, .cells #[.int .i64 (((y51.bay % 5) : Nat) : Int), .int .i64 (((y51.row % 5) : Nat) : Int), .bool y51.deck, .int .i64 (((2 + (y51.tiers % 4)) : Nat) : Int), .int .i64 0, .int .i64 500000000, .int .i64 500000000, .int .i64 0, .slice none 0 0, .int .i64 ((((13000 * (y51.bay % 5)) : Nat) : Int) - 26000), .int .i64 0, .int .i64 0] 46 (0, 0)) :: (g52, .cells (plC y51).toArray 128 (0, 0)) :: (g2, .cells (shC (.slice pc cs.length cc) (.slice none 0 0) tl0).toArray 32 (0, 0)) :: (g1, .cells (shC (.slice none 0 0) (.slice none 0 0) tl0).toArray 32 (0, 0)) :: Kc) rfl rfl (st_row (off := 9) (v := .int .i64 ((((13000 * (y51.bay % 5)) : Nat) : Int) - 26000)) rfl Tw.kr Tw.kr Tw.m0 Bg54 Tw.kr (by first | (simp [Value.cells]; done) | exact Nat.le_of_ble_eq_true rfl) (by intro v hv; simp [Value.cells] at hv; first | (subst hv; rfl) | (rcases hv with rfl <;> rfl)) Tw.kr (List.forall_mem_cons.2 ⟨.inl rfl, (List.forall_mem_cons.2 ⟨.inr ⟨Tw.m1, Tw.nee⟩, (List.forall_mem_cons.2 ⟨.inr ⟨Tw.m2, Tw.nee⟩, (List.forall_mem_cons.2 ⟨.inr ⟨Tw.m3, Tw.nee⟩, (fun p hp => .inr ⟨(.tail _ (.tail _ (.tail _ (.tail _ hp)))), ((show Dk g54 Kc from Tw.djt) _ hp)⟩)⟩)⟩)⟩)⟩)) ?_
     refine lm (v := .pointer (some ⟨g54, 10, none⟩)) rfl rfl ?_
     refine wpL_s ((g54, .cells #[.int .i64 (((y51.bay % 5) : Nat) : Int), .int .i64 (((y51.row % 5) : Nat) : Int), .bool y51.deck, .int .i64 (((2 + (y51.tiers % 4)) : Nat) : Int), .int .i64 0, .int .i64 500000000, .int .i64 500000000, .int .i64 0, .slice none 0 0, .int .i64 ((((13000 * (y51.bay % 5)) : Nat) : Int) - 26000), .int .i64 ((((2500 * (y51.row % 5)) : Nat) : Int) - 5000), .int .i64 0] 46 (0, 0)) :: (g52, .cells (plC y51).toArray 128 (0, 0)) :: (g2, .cells (shC (.slice pc cs.length cc) (.slice none 0 0) tl0).toArray 32 (0, 0)) :: (g1, .cells (shC (.slice none 0 0) (.slice none 0 0) tl0).toArray 32 (0, 0)) :: Kc) rfl rfl (st_row (off := 10) (v := .int .i64 ((((2500 * (y51.row % 5)) : Nat) : Int) - 5000)) rfl Tw.kr Tw.kr Tw.m0 Bg54 Tw.kr (by first | (simp [Value.cells]; done) | exact Nat.le_of_ble_eq_true rfl) (by intro v hv; simp [Value.cells] at hv; first | (subst hv; rfl) | (rcases hv with rfl <;> rfl)) Tw.kr (List.forall_mem_cons.2 ⟨.inl rfl, (List.forall_mem_cons.2 ⟨.inr ⟨Tw.m1, Tw.nee⟩, (List.forall_mem_cons.2 ⟨.inr ⟨Tw.m2, Tw.nee⟩, (List.forall_mem_cons.2 ⟨.inr ⟨Tw.m3, Tw.nee⟩, (fun p hp => .inr ⟨(.tail _ (.tail _ (.tail _ (.tail _ hp)))), ((show Dk g54 Kc from Tw.djt) _ hp)⟩)⟩)⟩)⟩)⟩)) ?_
     refine lm (v := .pointer (some ⟨g54, 11, none⟩)) rfl rfl ?_
     refine wpL_s ((g54, .cells #[.int .i64 (((y51.bay % 5) : Nat) : Int), .int .i64 (((y51.row % 5) : Nat) : Int), .bool y51.deck, .int .i64 (((2 + (y51.tiers % 4)) : Nat) : Int), .int .i64 0, .int .i64 500000000, .int .i64 500000000, .int .i64 0, .slice none 0 0, .int .i64 ((((13000 * (y51.bay % 5)) : Nat) : Int) - 26000), .int .i64 ((((2500 * (y51.row % 5)) : Nat) : Int) - 5000), .int .i64 2000] 46 (0, 0)) :: (g52, .cells (plC y51).toArray 128 (0, 0)) :: (g2, .cells (shC (.slice pc cs.length cc) (.slice none 0 0) tl0).toArray 32 (0, 0)) :: (g1, .cells (shC (.slice none 0 0) (.slice none 0 0) tl0).toArray 32 (0, 0)) :: Kc) rfl rfl (st_row (off := 11) (v := .int .i64 2000) rfl Tw.kr Tw.kr Tw.m0 Bg54 Tw.kr (by first | (simp [Value.cells]; done) | exact Nat.le_of_ble_eq_true rfl) (by intro v hv; simp [Value.cells] at hv; first | (subst hv; rfl) | (rcases hv with rfl <;> rfl)) Tw.kr (List.forall_mem_cons.2 ⟨.inl rfl, (List.forall_mem_cons.2 ⟨.inr ⟨Tw.m1, Tw.nee⟩, (List.forall_mem_cons.2 ⟨.inr ⟨Tw.m2, Tw.nee⟩, (List.forall_mem_cons.2 ⟨.inr ⟨Tw.m3, Tw.nee⟩, (fun p hp => .inr ⟨(.tail _ (.tail _ (.tail _ (.tail _ hp)))), ((show Dk g54 Kc from Tw.djt) _ hp)⟩)⟩)⟩)⟩)⟩)) ?_
     refine wpL_done (fun W38 hW38 => ?_)
     change Code.wp ..
     refine wp_seq ?_
     refine wp_seq ?_
     refine wp_region_L (W0 := W0) ((g54, .cells #[.int .i64 (((y51.bay % 5) : Nat) : Int), .int .i64 (((y51.row % 5) : Nat) : Int), .bool y51.deck, .int .i64 (((2 + (y51.tiers % 4)) : Nat) : Int), .int .i64 0, .int .i64 500000000, .int .i64 500000000, .int .i64 0, .slice none 0 0, .int .i64 ((((13000 * (y51.bay % 5)) : Nat) : Int) - 26000), .int .i64 ((((2500 * (y51.row % 5)) : Nat) : Int) - 5000), .int .i64 2000] 46 (0, 0)) :: (g52, .cells (plC y51).toArray 128 (0, 0)) :: (g2, .cells (shC (.slice pc cs.length cc) (.slice none 0 0) tl0).toArray 32 (0, 0)) :: (g1, .cells (shC (.slice none 0 0) (.slice none 0 0) tl0).toArray 32 (0, 0)) :: Kc) (hW38) ?_
     refine lm (v := .pointer (some ⟨g54, 2, none⟩)) rfl rfl ?_
     refine lv (v := .bool y51.deck) rfl rfl (yb_cell (off := 2) rfl Tw.kr Tw.m0 Try.underlying4 rfl Tw.kr) ?_
     refine wpL_done (fun W39 hW39 => ?_)
     change Code.wp ..
     cases h11 : y51.deck with
     | false =>
       rw [h11] at hW39
       refine wp_cond_false rfl ?_
       refine wp_skip ?_
       change Code.wp ..
       refine wp_seq ?_
       refine wp_region_L (W0 := W0) ((g54, .cells #[.int .i64 (((y51.bay % 5) : Nat) : Int), .int .i64 (((y51.row % 5) : Nat) : Int), .bool false, .int .i64 (((2 + (y51.tiers % 4)) : Nat) : Int), .int .i64 0, .int .i64 500000000, .int .i64 500000000, .int .i64 0, .slice none 0 0, .int .i64 ((((13000 * (y51.bay % 5)) : Nat) : Int) - 26000), .int .i64 ((((2500 * (y51.row % 5)) : Nat) : Int) - 5000), .int .i64 2000] 46 (0, 0)) :: (g52, .cells (plC y51).toArray 128 (0, 0)) :: (g2, .cells (shC (.slice pc cs.length cc) (.slice none 0 0) tl0).toArray 32 (0, 0)) :: (g1, .cells (shC (.slice none 0 0) (.slice none 0 0) tl0).toArray 32 (0, 0)) :: Kc) (hW39) ?_
       refine lv (v := .agg (shC (.slice pc cs.length cc) (.slice none 0 0) tl0).toArray) rfl rfl (yb_load (n := 13) (off := 0) rfl Tw.kr Tw.m2 Try.underlying32 rfl Tw.kr (by first | (simp [Value.cells]; done) | exact Nat.le_of_ble_eq_true rfl) Tw.kr) ?_
       refine lm (v := .pointer (some ⟨g54, 0, none⟩)) rfl rfl ?_
       refine lv (v := .int .i64 (((y51.bay % 5) : Nat) : Int)) rfl rfl (yb_cell (off := 0) rfl Tw.kr Tw.m0 Try.underlying3 rfl Tw.kr) ?_
       refine lm (v := .pointer (some ⟨g54, 1, none⟩)) rfl rfl ?_
       refine lv (v := .int .i64 (((y51.row % 5) : Nat) : Int)) rfl rfl (yb_cell (off := 1) rfl Tw.kr Tw.m0 Try.underlying3 rfl Tw.kr) ?_
       refine lm (v := .pointer (some ⟨g54, 2, none⟩)) rfl rfl ?_
       refine lv (v := .bool false) rfl rfl (yb_cell (off := 2) rfl Tw.kr Tw.m0 Try.underlying4 rfl Tw.kr) ?_
       refine lv (v := .tuple #[.int .i64 (findN (fst (isAt (((y51.bay % 5) : Nat) : Int) (((y51.row % 5) : Nat) : Int) false) cs)), .bool ((fst (isAt (((y51.bay % 5) : Nat) : Int) (((y51.row % 5) : Nat) : Int) false) cs).isSome)]) rfl rfl (yb_call (f := 56) (args := #[.agg (shC (.slice pc cs.length cc) (.slice none 0 0) tl0).toArray, .int .i64 (((y51.bay % 5) : Nat) : Int), .int .i64 (((y51.row % 5) : Nat) : Int), .bool false]) Tw.kf fun W hW => Find_any cs pc cc Tw.om ([] : List Cov) none 0 (Nat.zero_le _) tl0 (((y51.bay % 5) : Nat) : Int) (((y51.row % 5) : Nat) : Int) false W (RC _ (hW.sub (fun p hp => by simp only [List.mem_cons, List.mem_append, List.nil_append, List.not_mem_nil, or_assoc, or_false, false_or, hp, true_or, or_true]))) ((RL.nil (T := [])) _ (hW.sub (fun _ h => by cases h)))) ?_
       refine lm (v := .tuple #[.int .i64 (findN (fst (isAt (((y51.bay % 5) : Nat) : Int) (((y51.row % 5) : Nat) : Int) false) cs)), .bool ((fst (isAt (((y51.bay % 5) : Nat) : Int) (((y51.row % 5) : Nat) : Int) false) cs).isSome)]) rfl rfl ?_
       refine lm (v := .int .i64 (findN (fst (isAt (((y51.bay % 5) : Nat) : Int) (((y51.row % 5) : Nat) : Int) false) cs))) rfl rfl ?_
       refine lm (v := .bool ((fst (isAt (((y51.bay % 5) : Nat) : Int) (((y51.row % 5) : Nat) : Int) false) cs).isSome)) rfl rfl ?_
       refine lm (v := .int .i64 (findN (fst (isAt (((y51.bay % 5) : Nat) : Int) (((y51.row % 5) : Nat) : Int) false) cs))) rfl rfl ?_
       refine lm (v := .bool ((fst (isAt (((y51.bay % 5) : Nat) : Int) (((y51.row % 5) : Nat) : Int) false) cs).isSome)) rfl rfl ?_
       refine wpL_done (fun W40 hW40 => ?_)
       change Code.wp ..
       refine wp_seq ?_
       refine wp_region_L (W0 := W0) ((g54, .cells #[.int .i64 (((y51.bay % 5) : Nat) : Int), .int .i64 (((y51.row % 5) : Nat) : Int), .bool false, .int .i64 (((2 + (y51.tiers % 4)) : Nat) : Int), .int .i64 0, .int .i64 500000000, .int .i64 500000000, .int .i64 0, .slice none 0 0, .int .i64 ((((13000 * (y51.bay % 5)) : Nat) : Int) - 26000), .int .i64 ((((2500 * (y51.row % 5)) : Nat) : Int) - 5000), .int .i64 2000] 46 (0, 0)) :: (g52, .cells (plC y51).toArray 128 (0, 0)) :: (g2, .cells (shC (.slice pc cs.length cc) (.slice none 0 0) tl0).toArray 32 (0, 0)) :: (g1, .cells (shC (.slice none 0 0) (.slice none 0 0) tl0).toArray 32 (0, 0)) :: Kc) (hW40) ?_
       refine lm (v := .bool ((fst (isAt (((y51.bay % 5) : Nat) : Int) (((y51.row % 5) : Nat) : Int) false) cs).isSome)) rfl rfl ?_
       refine lp (v := .bool (!((fst (isAt (((y51.bay % 5) : Nat) : Int) (((y51.row % 5) : Nat) : Int) false) cs).isSome))) rfl rfl (run_un rfl Tw.kr fun w => un_not w) ?_
       refine wpL_done (fun W41 hW41 => ?_)
       change Code.wp ..
       cases h12 : ((fst (isAt (((y51.bay % 5) : Nat) : Int) (((y51.row % 5) : Nat) : Int) false) cs).isSome) with
       | false =>
         refine wp_cond_true rfl ?_
         refine wp_region_L (W0 := W0) ((g54, .cells #[.int .i64 (((y51.bay % 5) : Nat) : Int), .int .i64 (((y51.row % 5) : Nat) : Int), .bool false, .int .i64 (((2 + (y51.tiers % 4)) : Nat) : Int), .int .i64 0, .int .i64 500000000, .int .i64 500000000, .int .i64 0, .slice none 0 0, .int .i64 ((((13000 * (y51.bay % 5)) : Nat) : Int) - 26000), .int .i64 ((((2500 * (y51.row % 5)) : Nat) : Int) - 5000), .int .i64 2000] 46 (0, 0)) :: (g52, .cells (plC y51).toArray 128 (0, 0)) :: (g2, .cells (shC (.slice pc cs.length cc) (.slice none 0 0) tl0).toArray 32 (0, 0)) :: (g1, .cells (shC (.slice none 0 0) (.slice none 0 0) tl0).toArray 32 (0, 0)) :: Kc) (hW41) ?_
         refine lm (v := .pointer (some ⟨g2, 0, none⟩)) rfl rfl ?_
         refine lv (v := .slice pc cs.length cc) rfl rfl (yb_cell (off := 0) rfl Tw.kr Tw.m2 Try.underlying22 rfl Tw.kr) ?_
         refine lv (v := .agg #[.int .i64 (((y51.bay % 5) : Nat) : Int), .int .i64 (((y51.row % 5) : Nat) : Int), .bool false, .int .i64 (((2 + (y51.tiers % 4)) : Nat) : Int), .int .i64 0, .int .i64 500000000, .int .i64 500000000, .int .i64 0, .slice none 0 0, .int .i64 ((((13000 * (y51.bay % 5)) : Nat) : Int) - 26000), .int .i64 ((((2500 * (y51.row % 5)) : Nat) : Int) - 5000), .int .i64 2000]) rfl rfl (yb_load (n := 12) (off := 0) rfl Tw.kr Tw.m0 Try.underlying46 rfl Tw.kr (by first | (simp [Value.cells]; done) | exact Nat.le_of_ble_eq_true rfl) Tw.kr) ?_
         refine wpL_new (fun g => .slice (some ⟨g, 0, none⟩) 1 1) (obi := .cells #[.int .i64 (((y51.bay % 5) : Nat) : Int), .int .i64 (((y51.row % 5) : Nat) : Int), .bool false, .int .i64 (((2 + (y51.tiers % 4)) : Nat) : Int), .int .i64 0, .int .i64 500000000, .int .i64 500000000, .int .i64 0, .slice none 0 0, .int .i64 ((((13000 * (y51.bay % 5)) : Nat) : Int) - 26000), .int .i64 ((((2500 * (y51.row % 5)) : Nat) : Int) - 5000), .int .i64 2000] 46 (0, 0)) rfl rfl Tw.kf Tw.pf fun g56 Bg56 Fg56 => ?_
         obtain ⟨dj57_0, dj57_1, dj57_2, dj57_3, dj57_4⟩ : g54 ≠ g56 ∧ g52 ≠ g56 ∧ g2 ≠ g56 ∧ g1 ≠ g56 ∧ Dk g56 Kc := Tw.dkf Fg56
         refine wpL_g (AppO W0 46 12 [(g54, .cells #[.int .i64 (((y51.bay % 5) : Nat) : Int), .int .i64 (((y51.row % 5) : Nat) : Int), .bool false, .int .i64 (((2 + (y51.tiers % 4)) : Nat) : Int), .int .i64 0, .int .i64 500000000, .int .i64 500000000, .int .i64 0, .slice none 0 0, .int .i64 ((((13000 * (y51.bay % 5)) : Nat) : Int) - 26000), .int .i64 ((((2500 * (y51.row % 5)) : Nat) : Int) - 5000), .int .i64 2000] 46 (0, 0)), (g52, .cells (plC y51).toArray 128 (0, 0)), (g2, .cells (shC (.slice pc cs.length cc) (.slice none 0 0) tl0).toArray 32 (0, 0)), (g1, .cells (shC (.slice none 0 0) (.slice none 0 0) tl0).toArray 32 (0, 0))] (cs.length + 1) ((cs.flatMap colC) ++ [.int .i64 (((y51.bay % 5) : Nat) : Int), .int .i64 (((y51.row % 5) : Nat) : Int), .bool false, .int .i64 (((2 + (y51.tiers % 4)) : Nat) : Int), .int .i64 0, .int .i64 500000000, .int .i64 500000000, .int .i64 0, .slice none 0 0, .int .i64 ((((13000 * (y51.bay % 5)) : Nat) : Int) - 26000), .int .i64 ((((2500 * (y51.row % 5)) : Nat) : Int) - 5000), .int .i64 2000])) rfl rfl (app_own el_col (m := 1) (c := 1) (news := [.int .i64 (((y51.bay % 5) : Nat) : Int), .int .i64 (((y51.row % 5) : Nat) : Int), .bool false, .int .i64 (((2 + (y51.tiers % 4)) : Nat) : Int), .int .i64 0, .int .i64 500000000, .int .i64 500000000, .int .i64 0, .slice none 0 0, .int .i64 ((((13000 * (y51.bay % 5)) : Nat) : Int) - 26000), .int .i64 ((((2500 * (y51.row % 5)) : Nat) : Int) - 5000), .int .i64 2000]) rfl Tw.kr Tw.kr Tw.m0 hOc Tw.sc (fun p hp => ⟨by simp only [List.mem_cons, List.mem_append, List.nil_append, List.not_mem_nil, or_assoc, or_false, false_or] at hp ⊢ <;> grind, (show Dj [(g54, .cells #[.int .i64 (((y51.bay % 5) : Nat) : Int), .int .i64 (((y51.row % 5) : Nat) : Int), .bool false, .int .i64 (((2 + (y51.tiers % 4)) : Nat) : Int), .int .i64 0, .int .i64 500000000, .int .i64 500000000, .int .i64 0, .slice none 0 0, .int .i64 ((((13000 * (y51.bay % 5)) : Nat) : Int) - 26000), .int .i64 ((((2500 * (y51.row % 5)) : Nat) : Int) - 5000), .int .i64 2000] 46 (0, 0)), (g52, .cells (plC y51).toArray 128 (0, 0)), (g2, .cells (shC (.slice pc cs.length cc) (.slice none 0 0) tl0).toArray 32 (0, 0)), (g1, .cells (shC (.slice none 0 0) (.slice none 0 0) tl0).toArray 32 (0, 0))] Kc from Tw.djt) p hp⟩) rfl (by simp [strV, Value.oneCell']) Tw.om Tw.om Tw.om) Tw.pf ?_
         rintro v58 K9 ⟨Kl58, O58, N58, rfl⟩
         obtain ⟨dj59_0, dj59_1, dj59_2, dj59_3⟩ : Dk g54 Kl58 ∧ Dk g52 Kl58 ∧ Dk g2 Kl58 ∧ Dk g1 Kl58 := Tw.djf N58
         refine lm (v := .pointer (some ⟨g2, 0, none⟩)) rfl rfl ?_
         obtain ⟨p60, c60, rfl⟩ := own_shape O58
         refine wpL_s ((g54, .cells #[.int .i64 (((y51.bay % 5) : Nat) : Int), .int .i64 (((y51.row % 5) : Nat) : Int), .bool false, .int .i64 (((2 + (y51.tiers % 4)) : Nat) : Int), .int .i64 0, .int .i64 500000000, .int .i64 500000000, .int .i64 0, .slice none 0 0, .int .i64 ((((13000 * (y51.bay % 5)) : Nat) : Int) - 26000), .int .i64 ((((2500 * (y51.row % 5)) : Nat) : Int) - 5000), .int .i64 2000] 46 (0, 0)) :: (g52, .cells (plC y51).toArray 128 (0, 0)) :: (g2, .cells (shC (.slice p60 (cs.length + 1) c60) (.slice none 0 0) tl0).toArray 32 (0, 0)) :: (g1, .cells (shC (.slice none 0 0) (.slice none 0 0) tl0).toArray 32 (0, 0)) :: Kl58) rfl rfl (st_row (off := 0) (v := .slice p60 (cs.length + 1) c60) rfl Tw.kr Tw.kr Tw.m2 Bg2 Tw.kr (by first | (simp [Value.cells]; done) | exact Nat.le_of_ble_eq_true rfl) (by intro v hv; simp [Value.cells] at hv; first | (subst hv; rfl) | (rcases hv with rfl <;> rfl)) Tw.kr (List.forall_mem_cons.2 ⟨.inr ⟨Tw.m0, Tw.nee⟩, (List.forall_mem_cons.2 ⟨.inr ⟨Tw.m1, Tw.nee⟩, (List.forall_mem_cons.2 ⟨.inl rfl, (List.forall_mem_cons.2 ⟨.inr ⟨Tw.m3, Tw.nee⟩, (fun p hp => .inr ⟨(.tail _ (.tail _ (.tail _ (.tail _ hp)))), ((show Dk g2 Kl58 from Tw.djt) _ hp)⟩)⟩)⟩)⟩)⟩)) ?_
         refine wpL_done (fun W42 hW42 => ?_)
         change Code.wp ..
         refine wp_region_L (W0 := W0) ((g54, .cells #[.int .i64 (((y51.bay % 5) : Nat) : Int), .int .i64 (((y51.row % 5) : Nat) : Int), .bool false, .int .i64 (((2 + (y51.tiers % 4)) : Nat) : Int), .int .i64 0, .int .i64 500000000, .int .i64 500000000, .int .i64 0, .slice none 0 0, .int .i64 ((((13000 * (y51.bay % 5)) : Nat) : Int) - 26000), .int .i64 ((((2500 * (y51.row % 5)) : Nat) : Int) - 5000), .int .i64 2000] 46 (0, 0)) :: (g52, .cells (plC y51).toArray 128 (0, 0)) :: (g2, .cells (shC (.slice p60 (cs.length + 1) c60) (.slice none 0 0) tl0).toArray 32 (0, 0)) :: (g1, .cells (shC (.slice none 0 0) (.slice none 0 0) tl0).toArray 32 (0, 0)) :: Kl58) (hW42) ?_
         refine lp (v := .int .i64 (((k + 1) : Nat) : Int)) rfl rfl (run_bin rfl (vx := (.int .i64 ((k : Nat) : Int))) (vy := (.int .i64 ((1 : Nat) : Int))) Tw.kr Tw.kr fun w => bn_add (z := (k + 1)) rfl (wr_i64 Tw.om) w) ?_
         refine lm (v := .int .i64 (((k + 1) : Nat) : Int)) rfl rfl ?_
         refine wpL_done (fun W43 hW43 => ?_)
         go_roundw
         case rel =>
           repeat apply Exists.intro
           exact ⟨⟨k + 1, (cs ++ [colD y51 false]), .slice p60 (cs.length + 1) c60, Kl58, Tw.om, (by rw [bld_snoc hy51, ← hcs, add_no h11 h12]), (by rw [List.length_append, List.length_singleton]; omega), (own_app O58 (by rw [List.flatMap_append]; rfl) (by rw [List.length_append]; rfl)), (show Dk g2 Kl58 from Tw.djt), (show Dk g1 Kl58 from Tw.djt), rfl, (hW43.sub (fun p hp => by first | exact hp | (simp only [List.mem_cons, List.mem_append, List.nil_append, List.not_mem_nil, or_assoc, or_false, false_or] at hp ⊢ <;> grind)))⟩, rfl⟩
         case measure => (show m - (intOf (.int .i64 (((k + 1) : Nat) : Int))).toNat < m - (intOf (.int .i64 ((k : Nat) : Int))).toNat); simp only [intOf]; omega
       | true =>
         refine wp_cond_false rfl ?_
         refine wp_skip ?_
         change Code.wp ..
         refine wp_region_L (W0 := W0) ((g54, .cells #[.int .i64 (((y51.bay % 5) : Nat) : Int), .int .i64 (((y51.row % 5) : Nat) : Int), .bool false, .int .i64 (((2 + (y51.tiers % 4)) : Nat) : Int), .int .i64 0, .int .i64 500000000, .int .i64 500000000, .int .i64 0, .slice none 0 0, .int .i64 ((((13000 * (y51.bay % 5)) : Nat) : Int) - 26000), .int .i64 ((((2500 * (y51.row % 5)) : Nat) : Int) - 5000), .int .i64 2000] 46 (0, 0)) :: (g52, .cells (plC y51).toArray 128 (0, 0)) :: (g2, .cells (shC (.slice pc cs.length cc) (.slice none 0 0) tl0).toArray 32 (0, 0)) :: (g1, .cells (shC (.slice none 0 0) (.slice none 0 0) tl0).toArray 32 (0, 0)) :: Kc) (hW41) ?_
         refine lp (v := .int .i64 (((k + 1) : Nat) : Int)) rfl rfl (run_bin rfl (vx := (.int .i64 ((k : Nat) : Int))) (vy := (.int .i64 ((1 : Nat) : Int))) Tw.kr Tw.kr fun w => bn_add (z := (k + 1)) rfl (wr_i64 Tw.om) w) ?_
         refine lm (v := .int .i64 (((k + 1) : Nat) : Int)) rfl rfl ?_
         refine wpL_done (fun W44 hW44 => ?_)
         go_roundw
         case rel =>
           repeat apply Exists.intro
           exact ⟨⟨k + 1, cs, .slice pc cs.length cc, Kc, Tw.om, (by rw [bld_snoc hy51, ← hcs, add_yes h11 h12]), Tw.om, hOc, (show Dk g2 Kc from Tw.djt), (show Dk g1 Kc from Tw.djt), rfl, (hW44.sub (fun p hp => by first | exact hp | (simp only [List.mem_cons, List.mem_append, List.nil_append, List.not_mem_nil, or_assoc, or_false, false_or] at hp ⊢ <;> grind)))⟩, rfl⟩
         case measure => (show m - (intOf (.int .i64 (((k + 1) : Nat) : Int))).toNat < m - (intOf (.int .i64 ((k : Nat) : Int))).toNat); simp only [intOf]; omega
     | true =>
       rw [h11] at hW39
       refine wp_cond_true rfl ?_
       refine wp_region_L (W0 := W0) ((g54, .cells #[.int .i64 (((y51.bay % 5) : Nat) : Int), .int .i64 (((y51.row % 5) : Nat) : Int), .bool true, .int .i64 (((2 + (y51.tiers % 4)) : Nat) : Int), .int .i64 0, .int .i64 500000000, .int .i64 500000000, .int .i64 0, .slice none 0 0, .int .i64 ((((13000 * (y51.bay % 5)) : Nat) : Int) - 26000), .int .i64 ((((2500 * (y51.row % 5)) : Nat) : Int) - 5000), .int .i64 2000] 46 (0, 0)) :: (g52, .cells (plC y51).toArray 128 (0, 0)) :: (g2, .cells (shC (.slice pc cs.length cc) (.slice none 0 0) tl0).toArray 32 (0, 0)) :: (g1, .cells (shC (.slice none 0 0) (.slice none 0 0) tl0).toArray 32 (0, 0)) :: Kc) (hW39) ?_
       refine lm (v := .pointer (some ⟨g54, 11, none⟩)) rfl rfl ?_
       refine wpL_s ((g54, .cells #[.int .i64 (((y51.bay % 5) : Nat) : Int), .int .i64 (((y51.row % 5) : Nat) : Int), .bool true, .int .i64 (((2 + (y51.tiers % 4)) : Nat) : Int), .int .i64 0, .int .i64 500000000, .int .i64 500000000, .int .i64 0, .slice none 0 0, .int .i64 ((((13000 * (y51.bay % 5)) : Nat) : Int) - 26000), .int .i64 ((((2500 * (y51.row % 5)) : Nat) : Int) - 5000), .int .i64 20000] 46 (0, 0)) :: (g52, .cells (plC y51).toArray 128 (0, 0)) :: (g2, .cells (shC (.slice pc cs.length cc) (.slice none 0 0) tl0).toArray 32 (0, 0)) :: (g1, .cells (shC (.slice none 0 0) (.slice none 0 0) tl0).toArray 32 (0, 0)) :: Kc) rfl rfl (st_row (off := 11) (v := .int .i64 20000) rfl Tw.kr Tw.kr Tw.m0 Bg54 Tw.kr (by first | (simp [Value.cells]; done) | exact Nat.le_of_ble_eq_true rfl) (by intro v hv; simp [Value.cells] at hv; first | (subst hv; rfl) | (rcases hv with rfl <;> rfl)) Tw.kr (List.forall_mem_cons.2 ⟨.inl rfl, (List.forall_mem_cons.2 ⟨.inr ⟨Tw.m1, Tw.nee⟩, (List.forall_mem_cons.2 ⟨.inr ⟨Tw.m2, Tw.nee⟩, (List.forall_mem_cons.2 ⟨.inr ⟨Tw.m3, Tw.nee⟩, (fun p hp => .inr ⟨(.tail _ (.tail _ (.tail _ (.tail _ hp)))), ((show Dk g54 Kc from Tw.djt) _ hp)⟩)⟩)⟩)⟩)⟩)) ?_
       refine wpL_done (fun W45 hW45 => ?_)
       change Code.wp ..
       refine wp_seq ?_
       refine wp_region_L (W0 := W0) ((g54, .cells #[.int .i64 (((y51.bay % 5) : Nat) : Int), .int .i64 (((y51.row % 5) : Nat) : Int), .bool true, .int .i64 (((2 + (y51.tiers % 4)) : Nat) : Int), .int .i64 0, .int .i64 500000000, .int .i64 500000000, .int .i64 0, .slice none 0 0, .int .i64 ((((13000 * (y51.bay % 5)) : Nat) : Int) - 26000), .int .i64 ((((2500 * (y51.row % 5)) : Nat) : Int) - 5000), .int .i64 20000] 46 (0, 0)) :: (g52, .cells (plC y51).toArray 128 (0, 0)) :: (g2, .cells (shC (.slice pc cs.length cc) (.slice none 0 0) tl0).toArray 32 (0, 0)) :: (g1, .cells (shC (.slice none 0 0) (.slice none 0 0) tl0).toArray 32 (0, 0)) :: Kc) (hW45) ?_
       refine lv (v := .agg (shC (.slice pc cs.length cc) (.slice none 0 0) tl0).toArray) rfl rfl (yb_load (n := 13) (off := 0) rfl Tw.kr Tw.m2 Try.underlying32 rfl Tw.kr (by first | (simp [Value.cells]; done) | exact Nat.le_of_ble_eq_true rfl) Tw.kr) ?_
       refine lm (v := .pointer (some ⟨g54, 0, none⟩)) rfl rfl ?_
       refine lv (v := .int .i64 (((y51.bay % 5) : Nat) : Int)) rfl rfl (yb_cell (off := 0) rfl Tw.kr Tw.m0 Try.underlying3 rfl Tw.kr) ?_
       refine lm (v := .pointer (some ⟨g54, 1, none⟩)) rfl rfl ?_
       refine lv (v := .int .i64 (((y51.row % 5) : Nat) : Int)) rfl rfl (yb_cell (off := 1) rfl Tw.kr Tw.m0 Try.underlying3 rfl Tw.kr) ?_
       refine lm (v := .pointer (some ⟨g54, 2, none⟩)) rfl rfl ?_
       refine lv (v := .bool true) rfl rfl (yb_cell (off := 2) rfl Tw.kr Tw.m0 Try.underlying4 rfl Tw.kr) ?_
       refine lv (v := .tuple #[.int .i64 (findN (fst (isAt (((y51.bay % 5) : Nat) : Int) (((y51.row % 5) : Nat) : Int) true) cs)), .bool ((fst (isAt (((y51.bay % 5) : Nat) : Int) (((y51.row % 5) : Nat) : Int) true) cs).isSome)]) rfl rfl (yb_call (f := 56) (args := #[.agg (shC (.slice pc cs.length cc) (.slice none 0 0) tl0).toArray, .int .i64 (((y51.bay % 5) : Nat) : Int), .int .i64 (((y51.row % 5) : Nat) : Int), .bool true]) Tw.kf fun W hW => Find_any cs pc cc Tw.om ([] : List Cov) none 0 (Nat.zero_le _) tl0 (((y51.bay % 5) : Nat) : Int) (((y51.row % 5) : Nat) : Int) true W (RC _ (hW.sub (fun p hp => by simp only [List.mem_cons, List.mem_append, List.nil_append, List.not_mem_nil, or_assoc, or_false, false_or, hp, true_or, or_true]))) ((RL.nil (T := [])) _ (hW.sub (fun _ h => by cases h)))) ?_
       refine lm (v := .tuple #[.int .i64 (findN (fst (isAt (((y51.bay % 5) : Nat) : Int) (((y51.row % 5) : Nat) : Int) true) cs)), .bool ((fst (isAt (((y51.bay % 5) : Nat) : Int) (((y51.row % 5) : Nat) : Int) true) cs).isSome)]) rfl rfl ?_
       refine lm (v := .int .i64 (findN (fst (isAt (((y51.bay % 5) : Nat) : Int) (((y51.row % 5) : Nat) : Int) true) cs))) rfl rfl ?_
       refine lm (v := .bool ((fst (isAt (((y51.bay % 5) : Nat) : Int) (((y51.row % 5) : Nat) : Int) true) cs).isSome)) rfl rfl ?_
       refine lm (v := .int .i64 (findN (fst (isAt (((y51.bay % 5) : Nat) : Int) (((y51.row % 5) : Nat) : Int) true) cs))) rfl rfl ?_
       refine lm (v := .bool ((fst (isAt (((y51.bay % 5) : Nat) : Int) (((y51.row % 5) : Nat) : Int) true) cs).isSome)) rfl rfl ?_
       refine wpL_done (fun W46 hW46 => ?_)
       change Code.wp ..
       refine wp_seq ?_
       refine wp_region_L (W0 := W0) ((g54, .cells #[.int .i64 (((y51.bay % 5) : Nat) : Int), .int .i64 (((y51.row % 5) : Nat) : Int), .bool true, .int .i64 (((2 + (y51.tiers % 4)) : Nat) : Int), .int .i64 0, .int .i64 500000000, .int .i64 500000000, .int .i64 0, .slice none 0 0, .int .i64 ((((13000 * (y51.bay % 5)) : Nat) : Int) - 26000), .int .i64 ((((2500 * (y51.row % 5)) : Nat) : Int) - 5000), .int .i64 20000] 46 (0, 0)) :: (g52, .cells (plC y51).toArray 128 (0, 0)) :: (g2, .cells (shC (.slice pc cs.length cc) (.slice none 0 0) tl0).toArray 32 (0, 0)) :: (g1, .cells (shC (.slice none 0 0) (.slice none 0 0) tl0).toArray 32 (0, 0)) :: Kc) (hW46) ?_
       refine lm (v := .bool ((fst (isAt (((y51.bay % 5) : Nat) : Int) (((y51.row % 5) : Nat) : Int) true) cs).isSome)) rfl rfl ?_
       refine lp (v := .bool (!((fst (isAt (((y51.bay % 5) : Nat) : Int) (((y51.row % 5) : Nat) : Int) true) cs).isSome))) rfl rfl (run_un rfl Tw.kr fun w => un_not w) ?_
       refine wpL_done (fun W47 hW47 => ?_)
       change Code.wp ..
       cases h13 : ((fst (isAt (((y51.bay % 5) : Nat) : Int) (((y51.row % 5) : Nat) : Int) true) cs).isSome) with
       | false =>
         refine wp_cond_true rfl ?_
         refine wp_region_L (W0 := W0) ((g54, .cells #[.int .i64 (((y51.bay % 5) : Nat) : Int), .int .i64 (((y51.row % 5) : Nat) : Int), .bool true, .int .i64 (((2 + (y51.tiers % 4)) : Nat) : Int), .int .i64 0, .int .i64 500000000, .int .i64 500000000, .int .i64 0, .slice none 0 0, .int .i64 ((((13000 * (y51.bay % 5)) : Nat) : Int) - 26000), .int .i64 ((((2500 * (y51.row % 5)) : Nat) : Int) - 5000), .int .i64 20000] 46 (0, 0)) :: (g52, .cells (plC y51).toArray 128 (0, 0)) :: (g2, .cells (shC (.slice pc cs.length cc) (.slice none 0 0) tl0).toArray 32 (0, 0)) :: (g1, .cells (shC (.slice none 0 0) (.slice none 0 0) tl0).toArray 32 (0, 0)) :: Kc) (hW47) ?_
         refine lm (v := .pointer (some ⟨g2, 0, none⟩)) rfl rfl ?_
         refine lv (v := .slice pc cs.length cc) rfl rfl (yb_cell (off := 0) rfl Tw.kr Tw.m2 Try.underlying22 rfl Tw.kr) ?_
         refine lv (v := .agg #[.int .i64 (((y51.bay % 5) : Nat) : Int), .int .i64 (((y51.row % 5) : Nat) : Int), .bool true, .int .i64 (((2 + (y51.tiers % 4)) : Nat) : Int), .int .i64 0, .int .i64 500000000, .int .i64 500000000, .int .i64 0, .slice none 0 0, .int .i64 ((((13000 * (y51.bay % 5)) : Nat) : Int) - 26000), .int .i64 ((((2500 * (y51.row % 5)) : Nat) : Int) - 5000), .int .i64 20000]) rfl rfl (yb_load (n := 12) (off := 0) rfl Tw.kr Tw.m0 Try.underlying46 rfl Tw.kr (by first | (simp [Value.cells]; done) | exact Nat.le_of_ble_eq_true rfl) Tw.kr) ?_
         refine wpL_new (fun g => .slice (some ⟨g, 0, none⟩) 1 1) (obi := .cells #[.int .i64 (((y51.bay % 5) : Nat) : Int), .int .i64 (((y51.row % 5) : Nat) : Int), .bool true, .int .i64 (((2 + (y51.tiers % 4)) : Nat) : Int), .int .i64 0, .int .i64 500000000, .int .i64 500000000, .int .i64 0, .slice none 0 0, .int .i64 ((((13000 * (y51.bay % 5)) : Nat) : Int) - 26000), .int .i64 ((((2500 * (y51.row % 5)) : Nat) : Int) - 5000), .int .i64 20000] 46 (0, 0)) rfl rfl Tw.kf Tw.pf fun g61 Bg61 Fg61 => ?_
         obtain ⟨dj62_0, dj62_1, dj62_2, dj62_3, dj62_4⟩ : g54 ≠ g61 ∧ g52 ≠ g61 ∧ g2 ≠ g61 ∧ g1 ≠ g61 ∧ Dk g61 Kc := Tw.dkf Fg61
         refine wpL_g (AppO W0 46 12 [(g54, .cells #[.int .i64 (((y51.bay % 5) : Nat) : Int), .int .i64 (((y51.row % 5) : Nat) : Int), .bool true, .int .i64 (((2 + (y51.tiers % 4)) : Nat) : Int), .int .i64 0, .int .i64 500000000, .int .i64 500000000, .int .i64 0, .slice none 0 0, .int .i64 ((((13000 * (y51.bay % 5)) : Nat) : Int) - 26000), .int .i64 ((((2500 * (y51.row % 5)) : Nat) : Int) - 5000), .int .i64 20000] 46 (0, 0)), (g52, .cells (plC y51).toArray 128 (0, 0)), (g2, .cells (shC (.slice pc cs.length cc) (.slice none 0 0) tl0).toArray 32 (0, 0)), (g1, .cells (shC (.slice none 0 0) (.slice none 0 0) tl0).toArray 32 (0, 0))] (cs.length + 1) ((cs.flatMap colC) ++ [.int .i64 (((y51.bay % 5) : Nat) : Int), .int .i64 (((y51.row % 5) : Nat) : Int), .bool true, .int .i64 (((2 + (y51.tiers % 4)) : Nat) : Int), .int .i64 0, .int .i64 500000000, .int .i64 500000000, .int .i64 0, .slice none 0 0, .int .i64 ((((13000 * (y51.bay % 5)) : Nat) : Int) - 26000), .int .i64 ((((2500 * (y51.row % 5)) : Nat) : Int) - 5000), .int .i64 20000])) rfl rfl (app_own el_col (m := 1) (c := 1) (news := [.int .i64 (((y51.bay % 5) : Nat) : Int), .int .i64 (((y51.row % 5) : Nat) : Int), .bool true, .int .i64 (((2 + (y51.tiers % 4)) : Nat) : Int), .int .i64 0, .int .i64 500000000, .int .i64 500000000, .int .i64 0, .slice none 0 0, .int .i64 ((((13000 * (y51.bay % 5)) : Nat) : Int) - 26000), .int .i64 ((((2500 * (y51.row % 5)) : Nat) : Int) - 5000), .int .i64 20000]) rfl Tw.kr Tw.kr Tw.m0 hOc Tw.sc (fun p hp => ⟨by simp only [List.mem_cons, List.mem_append, List.nil_append, List.not_mem_nil, or_assoc, or_false, false_or] at hp ⊢ <;> grind, (show Dj [(g54, .cells #[.int .i64 (((y51.bay % 5) : Nat) : Int), .int .i64 (((y51.row % 5) : Nat) : Int), .bool true, .int .i64 (((2 + (y51.tiers % 4)) : Nat) : Int), .int .i64 0, .int .i64 500000000, .int .i64 500000000, .int .i64 0, .slice none 0 0, .int .i64 ((((13000 * (y51.bay % 5)) : Nat) : Int) - 26000), .int .i64 ((((2500 * (y51.row % 5)) : Nat) : Int) - 5000), .int .i64 20000] 46 (0, 0)), (g52, .cells (plC y51).toArray 128 (0, 0)), (g2, .cells (shC (.slice pc cs.length cc) (.slice none 0 0) tl0).toArray 32 (0, 0)), (g1, .cells (shC (.slice none 0 0) (.slice none 0 0) tl0).toArray 32 (0, 0))] Kc from Tw.djt) p hp⟩) rfl (by simp [strV, Value.oneCell']) Tw.om Tw.om Tw.om) Tw.pf ?_
         rintro v63 K9 ⟨Kl63, O63, N63, rfl⟩
         obtain ⟨dj64_0, dj64_1, dj64_2, dj64_3⟩ : Dk g54 Kl63 ∧ Dk g52 Kl63 ∧ Dk g2 Kl63 ∧ Dk g1 Kl63 := Tw.djf N63
         refine lm (v := .pointer (some ⟨g2, 0, none⟩)) rfl rfl ?_
         obtain ⟨p65, c65, rfl⟩ := own_shape O63
         refine wpL_s ((g54, .cells #[.int .i64 (((y51.bay % 5) : Nat) : Int), .int .i64 (((y51.row % 5) : Nat) : Int), .bool true, .int .i64 (((2 + (y51.tiers % 4)) : Nat) : Int), .int .i64 0, .int .i64 500000000, .int .i64 500000000, .int .i64 0, .slice none 0 0, .int .i64 ((((13000 * (y51.bay % 5)) : Nat) : Int) - 26000), .int .i64 ((((2500 * (y51.row % 5)) : Nat) : Int) - 5000), .int .i64 20000] 46 (0, 0)) :: (g52, .cells (plC y51).toArray 128 (0, 0)) :: (g2, .cells (shC (.slice p65 (cs.length + 1) c65) (.slice none 0 0) tl0).toArray 32 (0, 0)) :: (g1, .cells (shC (.slice none 0 0) (.slice none 0 0) tl0).toArray 32 (0, 0)) :: Kl63) rfl rfl (st_row (off := 0) (v := .slice p65 (cs.length + 1) c65) rfl Tw.kr Tw.kr Tw.m2 Bg2 Tw.kr (by first | (simp [Value.cells]; done) | exact Nat.le_of_ble_eq_true rfl) (by intro v hv; simp [Value.cells] at hv; first | (subst hv; rfl) | (rcases hv with rfl <;> rfl)) Tw.kr (List.forall_mem_cons.2 ⟨.inr ⟨Tw.m0, Tw.nee⟩, (List.forall_mem_cons.2 ⟨.inr ⟨Tw.m1, Tw.nee⟩, (List.forall_mem_cons.2 ⟨.inl rfl, (List.forall_mem_cons.2 ⟨.inr ⟨Tw.m3, Tw.nee⟩, (fun p hp => .inr ⟨(.tail _ (.tail _ (.tail _ (.tail _ hp)))), ((show Dk g2 Kl63 from Tw.djt) _ hp)⟩)⟩)⟩)⟩)⟩)) ?_
         refine wpL_done (fun W48 hW48 => ?_)
         change Code.wp ..
         refine wp_region_L (W0 := W0) ((g54, .cells #[.int .i64 (((y51.bay % 5) : Nat) : Int), .int .i64 (((y51.row % 5) : Nat) : Int), .bool true, .int .i64 (((2 + (y51.tiers % 4)) : Nat) : Int), .int .i64 0, .int .i64 500000000, .int .i64 500000000, .int .i64 0, .slice none 0 0, .int .i64 ((((13000 * (y51.bay % 5)) : Nat) : Int) - 26000), .int .i64 ((((2500 * (y51.row % 5)) : Nat) : Int) - 5000), .int .i64 20000] 46 (0, 0)) :: (g52, .cells (plC y51).toArray 128 (0, 0)) :: (g2, .cells (shC (.slice p65 (cs.length + 1) c65) (.slice none 0 0) tl0).toArray 32 (0, 0)) :: (g1, .cells (shC (.slice none 0 0) (.slice none 0 0) tl0).toArray 32 (0, 0)) :: Kl63) (hW48) ?_
         refine lp (v := .int .i64 (((k + 1) : Nat) : Int)) rfl rfl (run_bin rfl (vx := (.int .i64 ((k : Nat) : Int))) (vy := (.int .i64 ((1 : Nat) : Int))) Tw.kr Tw.kr fun w => bn_add (z := (k + 1)) rfl (wr_i64 Tw.om) w) ?_
         refine lm (v := .int .i64 (((k + 1) : Nat) : Int)) rfl rfl ?_
         refine wpL_done (fun W49 hW49 => ?_)
         go_roundw
         case rel =>
           repeat apply Exists.intro
           exact ⟨⟨k + 1, (cs ++ [colD y51 true]), .slice p65 (cs.length + 1) c65, Kl63, Tw.om, (by rw [bld_snoc hy51, ← hcs, add_no h11 h13]), (by rw [List.length_append, List.length_singleton]; omega), (own_app O63 (by rw [List.flatMap_append]; rfl) (by rw [List.length_append]; rfl)), (show Dk g2 Kl63 from Tw.djt), (show Dk g1 Kl63 from Tw.djt), rfl, (hW49.sub (fun p hp => by first | exact hp | (simp only [List.mem_cons, List.mem_append, List.nil_append, List.not_mem_nil, or_assoc, or_false, false_or] at hp ⊢ <;> grind)))⟩, rfl⟩
         case measure => (show m - (intOf (.int .i64 (((k + 1) : Nat) : Int))).toNat < m - (intOf (.int .i64 ((k : Nat) : Int))).toNat); simp only [intOf]; omega
       | true =>
         refine wp_cond_false rfl ?_
         refine wp_skip ?_
         change Code.wp ..
         refine wp_region_L (W0 := W0) ((g54, .cells #[.int .i64 (((y51.bay % 5) : Nat) : Int), .int .i64 (((y51.row % 5) : Nat) : Int), .bool true, .int .i64 (((2 + (y51.tiers % 4)) : Nat) : Int), .int .i64 0, .int .i64 500000000, .int .i64 500000000, .int .i64 0, .slice none 0 0, .int .i64 ((((13000 * (y51.bay % 5)) : Nat) : Int) - 26000), .int .i64 ((((2500 * (y51.row % 5)) : Nat) : Int) - 5000), .int .i64 20000] 46 (0, 0)) :: (g52, .cells (plC y51).toArray 128 (0, 0)) :: (g2, .cells (shC (.slice pc cs.length cc) (.slice none 0 0) tl0).toArray 32 (0, 0)) :: (g1, .cells (shC (.slice none 0 0) (.slice none 0 0) tl0).toArray 32 (0, 0)) :: Kc) (hW47) ?_
         refine lp (v := .int .i64 (((k + 1) : Nat) : Int)) rfl rfl (run_bin rfl (vx := (.int .i64 ((k : Nat) : Int))) (vy := (.int .i64 ((1 : Nat) : Int))) Tw.kr Tw.kr fun w => bn_add (z := (k + 1)) rfl (wr_i64 Tw.om) w) ?_
         refine lm (v := .int .i64 (((k + 1) : Nat) : Int)) rfl rfl ?_
         refine wpL_done (fun W50 hW50 => ?_)
         go_roundw
         case rel =>
           repeat apply Exists.intro
           exact ⟨⟨k + 1, cs, .slice pc cs.length cc, Kc, Tw.om, (by rw [bld_snoc hy51, ← hcs, add_yes h11 h13]), Tw.om, hOc, (show Dk g2 Kc from Tw.djt), (show Dk g1 Kc from Tw.djt), rfl, (hW50.sub (fun p hp => by first | exact hp | (simp only [List.mem_cons, List.mem_append, List.nil_append, List.not_mem_nil, or_assoc, or_false, false_or] at hp ⊢ <;> grind)))⟩, rfl⟩
         case measure => (show m - (intOf (.int .i64 (((k + 1) : Nat) : Int))).toNat < m - (intOf (.int .i64 ((k : Nat) : Int))).toNat); simp only [intOf]; omega
end Go.Proofs.Ytnbfljcilojllaa
namespace Go.Proofs.Ytnbfljcilojllaa
open Go Go.RowKit Tw
theorem res_cell_tmp2 {P : Program} {fn : Func} {p q r : Tmp} {ty : TypeId} (h : fn.results = #[.cell p ty, .tmp q, .tmp r]) {tmps : Array Value} {w : World} {g : Nat} {t : TypeId} {cs : Array Value} {d : TypeDesc}
   (hp : tmps.getD p undef = .pointer (some ⟨g, 0, none⟩)) (hg : w.heap[g]? = some (.cells cs t (0, 0)))
   (hu : P.underlying ty = some d) (hd : aggD d = true) (hi : (P.info? ty).map (·.size) = some cs.size) :
   (results fn tmps).run P w = .ok (.tuple #[.agg cs, tmps.getD q undef, tmps.getD r undef]) w := by
 have hp' : tmps[p]?.getD undef = .pointer (some ⟨g, 0, none⟩) := by simpa using hp
 simp [results, h, hp', asAddr, run_loadVar_all w hg hu hd hi]
set_option maxRecDepth 100000 in
set_option maxHeartbeats 40000000 in
theorem Limited_any (l : List Pl) (p : Option Addr) (c : Nat) (n : Nat) (hl : l.length ≤ 9223372036854775807) (hcap : l.length ≤ c) (hok : ∀ y ∈ l, plOk y) (hn : n ≤ 4294967295) (wh wa wt : Nat) (hwh : wh ≤ 255) (hwa : wa ≤ 255) (hwt : wt ≤ 255) (ds : List Dp) (dp : Option Addr) (dc : Nat) (ld : ds.length ≤ 9223372036854775807) (hdc : ds.length ≤ dc) (hd8 : ∀ d ∈ ds, d.col ≤ 255 ∧ d.kil ≤ 255) (w : World) (hp : SLV w p (l.flatMap plC)) (hd : SLV w dp (ds.flatMap dpC)) : Calls Try.prog 13 #[.slice p l.length c, .int .u32 ((n : Nat) : Int), .agg #[.int .u8 ((wh : Nat) : Int), .int .u8 ((wa : Nat) : Int), .int .u8 ((wt : Nat) : Int)], .slice dp ds.length dc] w fun e w' => ∃ v T, e = .returned v ∧ KS (w : Base) T w' ∧ LimT (w : Base) (limC wh wa (builtC l)) (builtO n) ((100 * wt : Nat) : Int) ds v T := by
 have HP := Lib.hid hp
 clear hp
 have HD := Lib.hid hd
 clear hd
 obtain ⟨cs, hcs⟩ : ∃ cs, builtC l = cs := ⟨_, rfl⟩
 have hg : Good cs := hcs ▸ built_good l
 obtain ⟨h0, h12⟩ : 0 < cs.length ∧ cs.length ≤ 12 := hcs ▸ built_len l
 obtain ⟨tn, htn⟩ : ∃ n, 100 * wt = n := ⟨_, rfl⟩
 have htb : tn ≤ 25500 := by omega
 go_enter Try.func13, Try.ntmps13
 refine wp_seq ?_
 refine wp_region_L [] (KS.start w) ?_
 refine wpL_new (fun g => .pointer (some ⟨g, 0, none⟩)) (obi := .cells #[.int .u8 ((wh : Nat) : Int), .int .u8 ((wa : Nat) : Int), .int .u8 ((wt : Nat) : Int)] 52 (0, 0)) rfl rfl Tw.kf Tw.pf fun g1 Bg1 Fg1 => ?_
 refine wpL_new (fun g => .pointer (some ⟨g, 0, none⟩)) (obi := .cells (shC (.slice none 0 0) (.slice none 0 0) tl0).toArray 32 (0, 0)) rfl rfl Tw.kf Tw.pf fun g2 Bg2 Fg2 => ?_
 obtain dj3_0 : g1 ≠ g2 := Tw.dkf Fg2
 refine lm (v := .slice none 0 0) rfl rfl ?_
 refine lm (v := .slice none 0 0) rfl rfl ?_
 refine wpL_done (fun W1 hW1 => ?_)
 change Code.wp ..
 refine wp_seq ?_
 refine wp_region_L _ hW1 ?_
 refine lm (v := .slice p l.length c) rfl rfl ?_
 refine lm (v := .int .u32 ((n : Nat) : Int)) rfl rfl ?_
 refine wpL_c (f := 34) (args := #[.slice p l.length c, .int .u32 ((n : Nat) : Int)]) (ShipV w [(g2, .cells (shC (.slice none 0 0) (.slice none 0 0) tl0).toArray 32 (0, 0)), (g1, .cells #[.int .u8 ((wh : Nat) : Int), .int .u8 ((wa : Nat) : Int), .int .u8 ((wt : Nat) : Int)] 52 (0, 0))] cs (builtO n)) rfl Tw.kr Tw.kf (fun W hW => calls_ship hW (by have h9 := Built_own (W0 := (W : Base)) l p c n hl hcap hok hn (RL.base (HP.out.keep hW.1)) W (KS.start W); rw [hcs] at h9; exact h9)) Tw.pf ?_
 rintro _ _ ⟨pcS, ccS, osS, poS, coS, Kc, Ko, Tr, rfl, hOc, hOo, hRB, dj1, dj2, dj3, hMS, hNe, rfl⟩
 obtain ⟨dj4_0, dj4_1⟩ : Dk g2 Kc ∧ Dk g1 Kc := by simpa only [dj_app_l, dj_app_r, dj_cons_l, dj_cons_r, dj_nil_l, dj_nil_r, dk_app, dk_cons, dk_nil, and_true, true_and, and_assoc] using (show Dj [(g2, .cells (shC (.slice none 0 0) (.slice none 0 0) tl0).toArray 32 (0, 0)), (g1, .cells #[.int .u8 ((wh : Nat) : Int), .int .u8 ((wa : Nat) : Int), .int .u8 ((wt : Nat) : Int)] 52 (0, 0))] Kc from (fun p hp q hq => hNe p hp q (List.mem_append_left _ hq)))
 obtain ⟨dj5_0, dj5_1⟩ : Dk g2 Ko ∧ Dk g1 Ko := by simpa only [dj_app_l, dj_app_r, dj_cons_l, dj_cons_r, dj_nil_l, dj_nil_r, dk_app, dk_cons, dk_nil, and_true, true_and, and_assoc] using (show Dj [(g2, .cells (shC (.slice none 0 0) (.slice none 0 0) tl0).toArray 32 (0, 0)), (g1, .cells #[.int .u8 ((wh : Nat) : Int), .int .u8 ((wa : Nat) : Int), .int .u8 ((wt : Nat) : Int)] 52 (0, 0))] Ko from (fun p hp q hq => hNe p hp q (List.mem_append_right _ (List.mem_append_left _ hq))))
 obtain ⟨dj6_0, dj6_1⟩ : Dk g2 Tr ∧ Dk g1 Tr := by simpa only [dj_app_l, dj_app_r, dj_cons_l, dj_cons_r, dj_nil_l, dj_nil_r, dk_app, dk_cons, dk_nil, and_true, true_and, and_assoc] using (show Dj [(g2, .cells (shC (.slice none 0 0) (.slice none 0 0) tl0).toArray 32 (0, 0)), (g1, .cells #[.int .u8 ((wh : Nat) : Int), .int .u8 ((wa : Nat) : Int), .int .u8 ((wt : Nat) : Int)] 52 (0, 0))] Tr from (fun p hp q hq => hNe p hp q (List.mem_append_right _ (List.mem_append_right _ hq))))
 refine wpL_sub (K2 := ((g2, .cells (shC (.slice none 0 0) (.slice none 0 0) tl0).toArray 32 (0, 0)) :: (g1, .cells #[.int .u8 ((wh : Nat) : Int), .int .u8 ((wa : Nat) : Int), .int .u8 ((wt : Nat) : Int)] 52 (0, 0)) :: (Kc ++ (Ko ++ Tr)))) (fun p hp => by simp only [List.mem_cons, List.mem_append, List.not_mem_nil, or_assoc, or_false, false_or] at hp ⊢; grind) ?_
 have hoS : GoodO (osS.map fun o => (o.bay, o.rows)) := by rw [hMS]; exact builtO_sub n
 have loS : osS.length ≤ 10 := by have h8 := congrArg List.length hMS; rw [List.length_map] at h8; have h9 := builtO_len n; omega
 refine wpL_new (fun g => .pointer (some ⟨g, 0, none⟩)) (obi := .cells (shC (.slice none 0 0) (.slice none 0 0) tl0).toArray 32 (0, 0)) rfl rfl Tw.kf Tw.pf fun g7 Bg7 Fg7 => ?_
 obtain ⟨dj8_0, dj8_1, dj8_2, dj8_3, dj8_4⟩ : g2 ≠ g7 ∧ g1 ≠ g7 ∧ Dk g7 Kc ∧ Dk g7 Ko ∧ Dk g7 Tr := Tw.dkf Fg7
 refine wpL_s ((g7, .cells (shC (.slice pcS cs.length ccS) (.slice poS osS.length coS) tl0).toArray 32 (0, 0)) :: (g2, .cells (shC (.slice none 0 0) (.slice none 0 0) tl0).toArray 32 (0, 0)) :: (g1, .cells #[.int .u8 ((wh : Nat) : Int), .int .u8 ((wa : Nat) : Int), .int .u8 ((wt : Nat) : Int)] 52 (0, 0)) :: (Kc ++ (Ko ++ Tr))) rfl rfl (st_row (off := 0) (v := .agg (shC (.slice pcS cs.length ccS) (.slice poS osS.length coS) tl0).toArray) rfl Tw.kr Tw.kr Tw.m0 Bg7 Tw.kr (by first | (simp [Value.cells]; done) | exact Nat.le_of_ble_eq_true rfl) (fun v hv => shC_one v hv) Tw.kr (List.forall_mem_cons.2 ⟨.inl rfl, (List.forall_mem_cons.2 ⟨.inr ⟨Tw.m1, Tw.nee⟩, (List.forall_mem_cons.2 ⟨.inr ⟨Tw.m2, Tw.nee⟩, (fun p hp => .inr ⟨(.tail _ (.tail _ (.tail _ hp))), ((show Dk g7 (Kc ++ (Ko ++ Tr)) from Tw.djt) _ hp)⟩)⟩)⟩)⟩)) ?_
 refine wpL_done (fun W2 hW2 => ?_)
 change Code.wp ..
 refine wp_seq ?_
 refine wp_seq ?_
 refine wp_region_L _ hW2 ?_
 refine lm (v := .pointer (some ⟨g7, 0, none⟩)) rfl rfl ?_
 refine lv (v := .slice pcS cs.length ccS) rfl rfl (yb_cell (off := 0) rfl Tw.kr Tw.m0 Try.underlying22 rfl Tw.kr) ?_
 refine lp (v := .int .i64 ((cs.length : Nat) : Int)) rfl rfl (run_lenL (p := pcS) (cap := ccS) (n := cs.length) rfl Try.underlying22 Tw.kr) ?_
 refine lm (v := .int .i64 0) rfl rfl ?_
 refine wpL_done (fun W3 hW3 => ?_)
 change Code.wp ..
 refine wp_block ?_
 go_loopw [21] (fun u21 wr => ∃ (k : Nat) (Kx : List (Nat × Obj)), (k ≤ cs.length) ∧ (OwnL w 46 12 (.slice pcS cs.length ccS) cs.length (((cs.take k).map (limK wh wa) ++ cs.drop k).flatMap colC) Kx) ∧ (Dk g7 Kx) ∧ (Dk g2 Kx) ∧ (Dk g1 Kx) ∧ (Dj Ko Kx) ∧ (Dj Tr Kx) ∧ u21 = .int .i64 ((k : Nat) : Int) ∧ KS w ((g7, .cells (shC (.slice pcS cs.length ccS) (.slice poS osS.length coS) tl0).toArray 32 (0, 0)) :: (g2, .cells (shC (.slice none 0 0) (.slice none 0 0) tl0).toArray 32 (0, 0)) :: (g1, .cells #[.int .u8 ((wh : Nat) : Int), .int .u8 ((wa : Nat) : Int), .int .u8 ((wt : Nat) : Int)] 52 (0, 0)) :: (Ko ++ (Tr ++ Kx))) wr) (fun u21 _ => cs.length - (intOf u21).toNat)
 case atStart => exact ⟨0, Kc, (Nat.zero_le _), hOc, (show Dk g7 Kc from Tw.djt), (show Dk g2 Kc from Tw.djt), (show Dk g1 Kc from Tw.djt), (show Dj Ko Kc from Tw.djt), (show Dj Tr Kc from Tw.djt), rfl, (hW3.sub (fun p hp => by first | exact hp | (simp only [List.mem_cons, List.mem_append, List.nil_append, List.not_mem_nil, or_assoc, or_false, false_or] at hp ⊢ <;> grind)))⟩
 case round =>
   obtain ⟨k, Kx, hk, hOx, dh9_0, dh9_1, dh9_2, dh9_3, dh9_4, rfl, hL4⟩ := hrel
   refine wp_seq ?_
   refine wp_region_L _ hL4 ?_
   refine lp (v := .bool (decide (k < cs.length))) rfl rfl (run_bin rfl (vx := (.int .i64 ((k : Nat) : Int))) (vy := (.int .i64 ((cs.length : Nat) : Int))) Tw.kr Tw.kr fun w => bn_lss rfl w) ?_
   refine wpL_done (fun W5 hW5 => ?_)
   change Code.wp ..
   refine wp_seq ?_
   cases hd1 : (decide (k < cs.length)) with
   | false =>
     have h1 : ¬ (k < cs.length) := of_decide_eq_false hd1
     clear hd1
     refine wp_cond_false rfl ?_
     refine wp_exit ?_
     change Code.wp ..
     refine wp_seq ?_
     refine wp_region_L _ hW5 ?_
     refine lm (v := .pointer (some ⟨g1, 2, none⟩)) rfl rfl ?_
     refine lv (v := .int .u8 ((wt : Nat) : Int)) rfl rfl (yb_cell (off := 2) rfl Tw.kr Tw.m2 Try.underlying5 rfl Tw.kr) ?_
     refine lp (v := .int .i64 ((wt : Nat) : Int)) rfl rfl (run_conv rfl (vx := (.int .u8 ((wt : Nat) : Int))) Tw.kr fun w => cv_int Try.underlying5 Try.underlying3 (wr_i64 Tw.om) w) ?_
     refine lp (v := .int .i64 ((tn : Nat) : Int)) rfl rfl (run_bin rfl (vx := (.int .i64 ((100 : Nat) : Int))) (vy := (.int .i64 ((wt : Nat) : Int))) Tw.kr Tw.kr fun w => bn_mul (z := tn) htn (wr_i64 Tw.om) w) ?_
     refine lm (v := .pointer (some ⟨g7, 9, none⟩)) rfl rfl ?_
     refine lm (v := .pointer (some ⟨g7, 9, none⟩)) rfl rfl ?_
     refine wpL_s ((g7, .cells #[.slice pcS cs.length ccS, .slice poS osS.length coS, tl0.a0, tl0.a1, tl0.a2, tl0.a3, tl0.a4, tl0.a5, tl0.a6, .int .i64 ((tn : Nat) : Int), tl0.a8, tl0.a9, tl0.aA] 32 (0, 0)) :: (g2, .cells (shC (.slice none 0 0) (.slice none 0 0) tl0).toArray 32 (0, 0)) :: (g1, .cells #[.int .u8 ((wh : Nat) : Int), .int .u8 ((wa : Nat) : Int), .int .u8 ((wt : Nat) : Int)] 52 (0, 0)) :: (Ko ++ (Tr ++ Kx))) rfl rfl (st_row (off := 9) (v := .int .i64 ((tn : Nat) : Int)) rfl Tw.kr Tw.kr Tw.m0 Bg7 Tw.kr (by first | (simp [Value.cells]; done) | exact Nat.le_of_ble_eq_true rfl) (by intro v hv; simp [Value.cells] at hv; first | (subst hv; rfl) | (rcases hv with rfl <;> rfl)) Tw.kr (List.forall_mem_cons.2 ⟨.inl rfl, (List.forall_mem_cons.2 ⟨.inr ⟨Tw.m1, Tw.nee⟩, (List.forall_mem_cons.2 ⟨.inr ⟨Tw.m2, Tw.nee⟩, (fun p hp => .inr ⟨(.tail _ (.tail _ (.tail _ hp))), ((show Dk g7 (Ko ++ (Tr ++ Kx)) from Tw.djt) _ hp)⟩)⟩)⟩)⟩)) ?_
     refine wpL_done (fun W6 hW6 => ?_)
     change Code.wp ..
     refine wp_seq ?_
     obtain ⟨csL, hcsL⟩ : ∃ x, limC wh wa cs = x := ⟨_, rfl⟩
     have hlL : csL.length = cs.length := by rw [← hcsL]; exact lim_len _ _ _
     have hOL : OwnL w 46 12 (.slice pcS csL.length ccS) csL.length (csL.flatMap colC) Kx := by have h9 := hOx; rw [mix_end (limK wh wa) Tw.om] at h9; rw [hlL, ← hcsL]; exact h9
     obtain ⟨qC, dC, eC, ndC, RC⟩ := own_rl hOL
     obtain ⟨rfl, _, rfl⟩ := Value.slice.inj eC
     obtain ⟨qO, dO, eO, ndO, RO⟩ := own_rl hOo
     obtain ⟨rfl, _, rfl⟩ := Value.slice.inj eO
     have hplL := hcsL ▸ lim_plugs (h := wh) (a := wa) hg
     have htL : ∀ c ∈ csL, c.tiers ≤ 1000 := fun c hc => by have := (lim_tiers (h := wh) (a := wa) hg c (hcsL ▸ hc)).2; omega
     have hlrO := goodO_rows hoS
     have hKT : KS w ((g7, .cells (shC (.slice pcS csL.length ccS) (.slice poS osS.length coS) (tlT tl0 ((tn : Nat) : Int))).toArray 32 (0, 0)) :: (g2, .cells (shC (.slice none 0 0) (.slice none 0 0) tl0).toArray 32 (0, 0)) :: (g1, .cells #[.int .u8 ((wh : Nat) : Int), .int .u8 ((wa : Nat) : Int), .int .u8 ((wt : Nat) : Int)] 52 (0, 0)) :: (Ko ++ (Tr ++ Kx))) W6 := by rw [hlL]; exact hW6
     refine wp_region_L ((g7, .cells (shC (.slice pcS csL.length ccS) (.slice poS osS.length coS) (tlT tl0 ((tn : Nat) : Int))).toArray 32 (0, 0)) :: (g2, .cells (shC (.slice none 0 0) (.slice none 0 0) tl0).toArray 32 (0, 0)) :: (g1, .cells #[.int .u8 ((wh : Nat) : Int), .int .u8 ((wa : Nat) : Int), .int .u8 ((wt : Nat) : Int)] 52 (0, 0)) :: (Ko ++ (Tr ++ Kx))) (hKT) ?_
     refine lv (v := .agg (shC (.slice pcS csL.length ccS) (.slice poS osS.length coS) (tlT tl0 ((tn : Nat) : Int))).toArray) rfl rfl (yb_load (n := 13) (off := 0) rfl Tw.kr Tw.m0 Try.underlying32 rfl Tw.kr (by first | (simp [Value.cells]; done) | exact Nat.le_of_ble_eq_true rfl) Tw.kr) ?_
     refine lm (v := .slice dp ds.length dc) rfl rfl ?_
     refine wpL_c (f := 35) (args := #[.agg (shC (.slice pcS csL.length ccS) (.slice poS osS.length coS) (tlT tl0 ((tn : Nat) : Int))).toArray, .slice dp ds.length dc, .int .i64 9]) (fun v K9 => ∃ v1 v2 Kb Ks, v = .tuple #[v1, v2] ∧ OwnL w 37 9 v1 (loadedX csL osS ds).1.length ((loadedX csL osS ds).1.flatMap boC) Kb ∧ OwnL w 42 4 v2 (loadedX csL osS ds).2.length ((loadedX csL osS ds).2.flatMap sdC) Ks ∧ Dj Kb Ks ∧ (∀ p ∈ (((g7, .cells (shC (.slice pcS csL.length ccS) (.slice poS osS.length coS) (tlT tl0 ((tn : Nat) : Int))).toArray 32 (0, 0)) :: (g2, .cells (shC (.slice none 0 0) (.slice none 0 0) tl0).toArray 32 (0, 0)) :: (g1, .cells #[.int .u8 ((wh : Nat) : Int), .int .u8 ((wa : Nat) : Int), .int .u8 ((wt : Nat) : Int)] 52 (0, 0)) :: (Ko ++ (Tr ++ Kx))) : List (Nat × Obj)), ∀ q ∈ Kb ++ Ks, q.1 ≠ p.1) ∧ K9 = ((g7, .cells (shC (.slice pcS csL.length ccS) (.slice poS osS.length coS) (tlT tl0 ((tn : Nat) : Int))).toArray 32 (0, 0)) :: (g2, .cells (shC (.slice none 0 0) (.slice none 0 0) tl0).toArray 32 (0, 0)) :: (g1, .cells #[.int .u8 ((wh : Nat) : Int), .int .u8 ((wa : Nat) : Int), .int .u8 ((wt : Nat) : Int)] 52 (0, 0)) :: (Ko ++ (Tr ++ Kx))) ++ (Kb ++ Ks)) rfl Tw.kr Tw.kf (fun W hW => calls_own2 hW (Loaded_any csL pcS ccS Tw.om Tw.om htL osS poS coS Tw.om (tlT tl0 ((tn : Nat) : Int)) ds dp dc ld hdc hd8 W (RC _ (hW.sub (fun p hp => by simp only [List.mem_cons, List.mem_append, List.nil_append, List.not_mem_nil, or_assoc, or_false, false_or, hp, true_or, or_true]))) (RO _ (hW.sub (fun p hp => by simp only [List.mem_cons, List.mem_append, List.nil_append, List.not_mem_nil, or_assoc, or_false, false_or, hp, true_or, or_true]))) (hRB.rw W (hW.sub (fun p hp => by simp only [List.mem_cons, List.mem_append, List.nil_append, List.not_mem_nil, or_assoc, or_false, false_or, hp, true_or, or_true]))) hlrO (hplL.1 W) hplL.2 (HD.out.keep hW.1) (tlT_one tl0_one))) Tw.pf ?_
     rintro _ _ ⟨vb, vs, Kb, Ks, rfl, hOb, hOs, djb, hNe2, rfl⟩
     obtain ⟨dj10_0, dj10_1, dj10_2, dj10_3, dj10_4, dj10_5⟩ : Dk g7 Kb ∧ Dk g2 Kb ∧ Dk g1 Kb ∧ Dj Ko Kb ∧ Dj Tr Kb ∧ Dj Kx Kb := by simpa only [dj_app_l, dj_app_r, dj_cons_l, dj_cons_r, dj_nil_l, dj_nil_r, dk_app, dk_cons, dk_nil, and_true, true_and, and_assoc] using (show Dj ((g7, .cells (shC (.slice pcS csL.length ccS) (.slice poS osS.length coS) (tlT tl0 ((tn : Nat) : Int))).toArray 32 (0, 0)) :: (g2, .cells (shC (.slice none 0 0) (.slice none 0 0) tl0).toArray 32 (0, 0)) :: (g1, .cells #[.int .u8 ((wh : Nat) : Int), .int .u8 ((wa : Nat) : Int), .int .u8 ((wt : Nat) : Int)] 52 (0, 0)) :: (Ko ++ (Tr ++ Kx))) Kb from (fun p hp q hq => hNe2 p hp q (List.mem_append_left _ hq)))
     obtain ⟨dj11_0, dj11_1, dj11_2, dj11_3, dj11_4, dj11_5⟩ : Dk g7 Ks ∧ Dk g2 Ks ∧ Dk g1 Ks ∧ Dj Ko Ks ∧ Dj Tr Ks ∧ Dj Kx Ks := by simpa only [dj_app_l, dj_app_r, dj_cons_l, dj_cons_r, dj_nil_l, dj_nil_r, dk_app, dk_cons, dk_nil, and_true, true_and, and_assoc] using (show Dj ((g7, .cells (shC (.slice pcS csL.length ccS) (.slice poS osS.length coS) (tlT tl0 ((tn : Nat) : Int))).toArray 32 (0, 0)) :: (g2, .cells (shC (.slice none 0 0) (.slice none 0 0) tl0).toArray 32 (0, 0)) :: (g1, .cells #[.int .u8 ((wh : Nat) : Int), .int .u8 ((wa : Nat) : Int), .int .u8 ((wt : Nat) : Int)] 52 (0, 0)) :: (Ko ++ (Tr ++ Kx))) Ks from (fun p hp q hq => hNe2 p hp q (List.mem_append_right _ hq)))
     refine wpL_sub (K2 := ((g7, .cells (shC (.slice pcS csL.length ccS) (.slice poS osS.length coS) (tlT tl0 ((tn : Nat) : Int))).toArray 32 (0, 0)) :: (g2, .cells (shC (.slice none 0 0) (.slice none 0 0) tl0).toArray 32 (0, 0)) :: (g1, .cells #[.int .u8 ((wh : Nat) : Int), .int .u8 ((wa : Nat) : Int), .int .u8 ((wt : Nat) : Int)] 52 (0, 0)) :: (Ko ++ (Tr ++ (Kx ++ (Kb ++ Ks)))))) (fun p hp => by simp only [List.mem_cons, List.mem_append, List.not_mem_nil, or_assoc, or_false, false_or] at hp ⊢; grind) ?_
     refine lm (v := .tuple #[vb, vs]) rfl rfl ?_
     refine lm (v := vb) rfl rfl ?_
     refine lm (v := vs) rfl rfl ?_
     refine lm (v := vb) rfl rfl ?_
     refine lm (v := vs) rfl rfl ?_
     refine wpL_done (fun W7 hW7 => ?_)
     change Code.wp ..
     refine wp_seq ?_
     refine wp_region_L _ hW7 ?_
     refine lv (v := .agg (shC (.slice pcS csL.length ccS) (.slice poS osS.length coS) (tlT tl0 ((tn : Nat) : Int))).toArray) rfl rfl (yb_load (n := 13) (off := 0) rfl Tw.kr Tw.m0 Try.underlying32 rfl Tw.kr (by first | (simp [Value.cells]; done) | exact Nat.le_of_ble_eq_true rfl) Tw.kr) ?_
     refine lm (v := vb) rfl rfl ?_
     refine lm (v := vs) rfl rfl ?_
     refine wpL_s ((g7, .cells (shC (.slice pcS csL.length ccS) (.slice poS osS.length coS) (tlT tl0 ((tn : Nat) : Int))).toArray 32 (0, 0)) :: (g2, .cells (shC (.slice pcS csL.length ccS) (.slice poS osS.length coS) (tlT tl0 ((tn : Nat) : Int))).toArray 32 (0, 0)) :: (g1, .cells #[.int .u8 ((wh : Nat) : Int), .int .u8 ((wa : Nat) : Int), .int .u8 ((wt : Nat) : Int)] 52 (0, 0)) :: (Ko ++ (Tr ++ (Kx ++ (Kb ++ Ks))))) rfl rfl (st_row (off := 0) (v := .agg (shC (.slice pcS csL.length ccS) (.slice poS osS.length coS) (tlT tl0 ((tn : Nat) : Int))).toArray) rfl Tw.kr Tw.kr Tw.m1 Bg2 Tw.kr (by first | (simp [Value.cells]; done) | exact Nat.le_of_ble_eq_true rfl) (fun v hv => shT_one v hv) Tw.kr (List.forall_mem_cons.2 ⟨.inr ⟨Tw.m0, Tw.nee⟩, (List.forall_mem_cons.2 ⟨.inl rfl, (List.forall_mem_cons.2 ⟨.inr ⟨Tw.m2, Tw.nee⟩, (fun p hp => .inr ⟨(.tail _ (.tail _ (.tail _ hp))), ((show Dk g2 (Ko ++ (Tr ++ (Kx ++ (Kb ++ Ks)))) from Tw.djt) _ hp)⟩)⟩)⟩)⟩)) ?_
     refine lm (v := vb) rfl rfl ?_
     refine lm (v := vs) rfl rfl ?_
     refine wpL_done (fun W8 hW8 => ?_)
     change Code.wp ..
     refine wp_ret ?_
     try simp only [inBlock_ret, then_ret]
     refine bodyPost_ret (v := .tuple #[.agg (shC (.slice pcS csL.length ccS) (.slice poS osS.length coS) (tlT tl0 ((tn : Nat) : Int))).toArray, vb, vs]) ?_ rfl ?_
     · exact (res_cell_tmp2 (p := 8) (q := 9) (r := 10) rfl rfl (hW8.2 _ Tw.m1) Try.underlying32 rfl Tw.kr)
     · exact ⟨_, Kx ++ (Ko ++ (Tr ++ (Kb ++ Ks))), rfl, hW8.sub (fun p hp => by simp only [List.mem_cons, List.mem_append] at hp ⊢; grind), (by rw [hcs, hcsL, htn]; exact ⟨pcS, ccS, osS, poS, coS, vb, vs, Kx, Ko, Tr, Kb, Ks, rfl, hOL, hOo, hRB, hMS, hOb, hOs, djb, (show Dj Kb Kx from Tw.djt), (show Dj Kb Ko from Tw.djt), (show Dj Kb Tr from Tw.djt), rfl⟩)⟩
   | true =>
     have h1 : k < cs.length := of_decide_eq_true hd1
     clear hd1
     refine wp_cond_true rfl ?_
     refine wp_skip ?_
     change Code.wp ..
     refine wp_seq ?_
     refine wp_block ?_
     refine wp_seq ?_
     refine wp_region_L _ hW5 ?_
     refine lm (v := .int .i64 ((k : Nat) : Int)) rfl rfl ?_
     refine lm (v := .int .i64 ((k : Nat) : Int)) rfl rfl ?_
     refine wpL_done (fun W9 hW9 => ?_)
     change Code.wp ..
     obtain ⟨gC, capC, curC, hvC, hBC, hRC, rfl⟩ := own_blkR hOx Tw.om
     obtain ⟨hpC, _, hcC⟩ := Value.slice.inj hvC
     obtain ⟨yc, hyc⟩ : ∃ y, cs[k]? = some y := ⟨_, List.getElem?_eq_getElem Tw.om⟩
     have hxc := mix_at (limK wh wa) hyc
     have gn12 : gC ≠ g7 := by simpa only [dk_cons, dk_nil, and_true] using (show Dk g7 [(gC, .cells curC 46 (0, 0))] from by assumption)
     have gn13 : gC ≠ g2 := by simpa only [dk_cons, dk_nil, and_true] using (show Dk g2 [(gC, .cells curC 46 (0, 0))] from by assumption)
     have gn14 : gC ≠ g1 := by simpa only [dk_cons, dk_nil, and_true] using (show Dk g1 [(gC, .cells curC 46 (0, 0))] from by assumption)
     have gn15 : Dk gC Ko := by simpa only [dj_cons_l, dj_nil_l, and_true] using (show Dj [(gC, .cells curC 46 (0, 0))] Ko from by first | assumption | exact Dj.symm (by assumption))
     have gn16 : Dk gC Tr := by simpa only [dj_cons_l, dj_nil_l, and_true] using (show Dj [(gC, .cells curC 46 (0, 0))] Tr from by first | assumption | exact Dj.symm (by assumption))
     have hKC := hW9.sub (K' := ((g7, .cells (shC (.slice pcS cs.length ccS) (.slice poS osS.length coS) tl0).toArray 32 (0, 0)) :: (g2, .cells (shC (.slice none 0 0) (.slice none 0 0) tl0).toArray 32 (0, 0)) :: (g1, .cells #[.int .u8 ((wh : Nat) : Int), .int .u8 ((wa : Nat) : Int), .int .u8 ((wt : Nat) : Int)] 52 (0, 0)) :: (gC, .cells curC 46 (0, 0)) :: (Ko ++ Tr))) (fun p hp => by simp only [List.mem_cons, List.mem_append, List.not_mem_nil, or_false] at hp ⊢; grind)
     refine Z.wp_region_V (S := [(g7, .cells (shC (.slice pcS cs.length ccS) (.slice poS osS.length coS) tl0).toArray 32 (0, 0)), (g1, .cells #[.int .u8 ((wh : Nat) : Int), .int .u8 ((wa : Nat) : Int), .int .u8 ((wt : Nat) : Int)] 52 (0, 0))]) (b := true) (W0 := w) ((g7, .cells (shC (.slice pcS cs.length ccS) (.slice poS osS.length coS) tl0).toArray 32 (0, 0)) :: (g2, .cells (shC (.slice none 0 0) (.slice none 0 0) tl0).toArray 32 (0, 0)) :: (g1, .cells #[.int .u8 ((wh : Nat) : Int), .int .u8 ((wa : Nat) : Int), .int .u8 ((wt : Nat) : Int)] 52 (0, 0)) :: (gC, .cells curC 46 (0, 0)) :: (Ko ++ Tr)) Tw.kr (hKC) ?_
     refine Z.vm (i := 0) (v := .pointer (some ⟨g7, 0, none⟩)) rfl rfl rfl ?_
     refine Z.vT (i := 1) (v := .slice pcS cs.length ccS) rfl rfl rfl (yb_cell (off := 0) rfl Tw.kr Tw.m0 Try.underlying22 rfl Tw.kr) (fun p hp => by simp only [List.mem_cons, List.not_mem_nil, or_false] at hp; rcases hp with rfl | rfl <;> simp only [List.mem_cons, List.mem_append, List.nil_append, List.not_mem_nil, or_assoc, or_false, false_or, true_or, or_true]) ?_
     refine Z.vm (i := 2) (v := .int .i64 ((k : Nat) : Int)) rfl rfl rfl ?_
     refine Z.vm (i := 3) (v := .pointer (some ⟨g7, 0, none⟩)) rfl rfl rfl ?_
     refine Z.vT (i := 4) (v := .slice pcS cs.length ccS) rfl rfl rfl (yb_cell (off := 0) rfl Tw.kr Tw.m0 Try.underlying22 rfl Tw.kr) (fun p hp => by simp only [List.mem_cons, List.not_mem_nil, or_false] at hp; rcases hp with rfl | rfl <;> simp only [List.mem_cons, List.mem_append, List.nil_append, List.not_mem_nil, or_assoc, or_false, false_or, true_or, or_true]) ?_
     refine Z.vm (i := 5) (v := .int .i64 ((k : Nat) : Int)) rfl rfl rfl ?_
     refine Z.vm (i := 6) (v := .pointer (some ⟨g1, 0, none⟩)) rfl rfl rfl ?_
     refine Z.vT (i := 7) (v := .int .u8 ((wh : Nat) : Int)) rfl rfl rfl (yb_cell (off := 0) rfl Tw.kr Tw.m1 Try.underlying5 rfl Tw.kr) (fun p hp => by simp only [List.mem_cons, List.not_mem_nil, or_false] at hp; rcases hp with rfl | rfl <;> simp only [List.mem_cons, List.mem_append, List.nil_append, List.not_mem_nil, or_assoc, or_false, false_or, true_or, or_true]) ?_
     refine Z.vp (i := 8) (v := .int .i64 ((wh : Nat) : Int)) rfl rfl rfl (run_conv rfl (vx := (.int .u8 ((wh : Nat) : Int))) Tw.kr fun w => cv_int Try.underlying5 Try.underlying3 (wr_i64 Tw.om) w) ?_
     refine Z.vp (i := 9) (v := .int .i64 (((200 * wh) : Nat) : Int)) rfl rfl rfl (run_bin rfl (vx := (.int .i64 ((200 : Nat) : Int))) (vy := (.int .i64 ((wh : Nat) : Int))) Tw.kr Tw.kr fun w => bn_mul (z := (200 * wh)) rfl (wr_i64 Tw.om) w) ?_
     refine Z.vp (i := 10) (v := .int .i64 (((10000 + (200 * wh)) : Nat) : Int)) rfl rfl rfl (run_bin rfl (vx := (.int .i64 ((10000 : Nat) : Int))) (vy := (.int .i64 (((200 * wh) : Nat) : Int))) Tw.kr Tw.kr fun w => bn_add (z := (10000 + (200 * wh))) rfl (wr_i64 Tw.om) w) ?_
     refine Z.vm (i := 11) (v := .pointer (some ⟨g1, 1, none⟩)) rfl rfl rfl ?_
     refine Z.vT (i := 12) (v := .int .u8 ((wa : Nat) : Int)) rfl rfl rfl (yb_cell (off := 1) rfl Tw.kr Tw.m1 Try.underlying5 rfl Tw.kr) (fun p hp => by simp only [List.mem_cons, List.not_mem_nil, or_false] at hp; rcases hp with rfl | rfl <;> simp only [List.mem_cons, List.mem_append, List.nil_append, List.not_mem_nil, or_assoc, or_false, false_or, true_or, or_true]) ?_
     refine Z.vp (i := 13) (v := .int .i64 ((wa : Nat) : Int)) rfl rfl rfl (run_conv rfl (vx := (.int .u8 ((wa : Nat) : Int))) Tw.kr fun w => cv_int Try.underlying5 Try.underlying3 (wr_i64 Tw.om) w) ?_
     refine Z.vp (i := 14) (v := .int .i64 (((500 * wa) : Nat) : Int)) rfl rfl rfl (run_bin rfl (vx := (.int .i64 ((500 : Nat) : Int))) (vy := (.int .i64 ((wa : Nat) : Int))) Tw.kr Tw.kr fun w => bn_mul (z := (500 * wa)) rfl (wr_i64 Tw.om) w) ?_
     refine Z.vp (i := 15) (v := .int .i64 (((20000 + (500 * wa)) : Nat) : Int)) rfl rfl rfl (run_bin rfl (vx := (.int .i64 ((20000 : Nat) : Int))) (vy := (.int .i64 (((500 * wa) : Nat) : Int))) Tw.kr Tw.kr fun w => bn_add (z := (20000 + (500 * wa))) rfl (wr_i64 Tw.om) w) ?_
     refine Z.vp (i := 16) (v := .pointer (some ⟨gC, 0 + k * 12, none⟩)) rfl rfl rfl (run_idxL (j := .i64) (n := cs.length) (cap := ccS) (b := gC) (off := 0) (k := k) (sz := 12) rfl Try.underlying22 Tw.kr ((show _ = Value.slice pcS cs.length ccS from by kernel_rfl).trans (by rw [hpC])) Tw.kr Tw.om) ?_
     refine Z.vm (i := 17) (v := .pointer (some ⟨gC, 0 + k * 12 + 5, none⟩)) rfl rfl rfl ?_
     have hR17 := rown_set (b' := ({ yc with k20 := (((10000 + (200 * wh)) : Nat) : Int) } : Col)) (j := 5) (u := .int .i64 (((10000 + (200 * wh)) : Nat) : Int)) hRC colC_len hxc (by decide) rfl
     have hx17 : (((cs.take k).map (limK wh wa) ++ cs.drop k).set k ({ yc with k20 := (((10000 + (200 * wh)) : Nat) : Int) } : Col))[k]? = some ({ yc with k20 := (((10000 + (200 * wh)) : Nat) : Int) } : Col) := List.getElem?_set_self (by first | (rw [mix_len]; omega) | (rw [List.length_set, mix_len]; omega))
     refine Z.wpV_s ((g7, .cells (shC (.slice pcS cs.length ccS) (.slice poS osS.length coS) tl0).toArray 32 (0, 0)) :: (g2, .cells (shC (.slice none 0 0) (.slice none 0 0) tl0).toArray 32 (0, 0)) :: (g1, .cells #[.int .u8 ((wh : Nat) : Int), .int .u8 ((wa : Nat) : Int), .int .u8 ((wt : Nat) : Int)] 52 (0, 0)) :: (gC, .cells (curC.setIfInBounds (0 + k * 12 + 5) (.int .i64 (((10000 + (200 * wh)) : Nat) : Int))) 46 (0, 0)) :: (Ko ++ Tr)) (i := 18) rfl Tw.kr rfl rfl rfl (st_at (off := 0 + k * 12 + 5) (v := .int .i64 (((10000 + (200 * wh)) : Nat) : Int)) rfl Tw.kr Tw.kr Tw.m3 hBC Tw.kr rfl rfl (by rw [(hRC).1]; have h9 := (hRC).2.2.1; omega) (.inr rfl) (List.forall_mem_cons.2 ⟨.inr ⟨Tw.m0, Tw.nee⟩, (List.forall_mem_cons.2 ⟨.inr ⟨Tw.m1, Tw.nee⟩, (List.forall_mem_cons.2 ⟨.inr ⟨Tw.m2, Tw.nee⟩, (List.forall_mem_cons.2 ⟨.inl rfl, (fun p hp => .inr ⟨(.tail _ (.tail _ (.tail _ (.tail _ hp)))), ((show Dk gC (Ko ++ Tr) from Tw.djt) _ hp)⟩)⟩)⟩)⟩)⟩)) (fun _ => (fun p hp => by simp only [List.mem_cons, List.not_mem_nil, or_false] at hp; rcases hp with rfl | rfl <;> simp only [List.mem_cons, List.mem_append, List.nil_append, List.not_mem_nil, or_assoc, or_false, false_or, true_or, or_true])) ?_
     refine Z.vp (i := 19) (v := .pointer (some ⟨gC, 0 + k * 12, none⟩)) rfl rfl rfl (run_idxL (j := .i64) (n := cs.length) (cap := ccS) (b := gC) (off := 0) (k := k) (sz := 12) rfl Try.underlying22 Tw.kr ((show _ = Value.slice pcS cs.length ccS from by kernel_rfl).trans (by rw [hpC])) Tw.kr Tw.om) ?_
     refine Z.vm (i := 20) (v := .pointer (some ⟨gC, 0 + k * 12 + 6, none⟩)) rfl rfl rfl ?_
     have hR18 := rown_set (b' := (limK wh wa yc)) (j := 6) (u := .int .i64 (((20000 + (500 * wa)) : Nat) : Int)) hR17 colC_len hx17 (by decide) rfl
     have hx18 : ((((cs.take k).map (limK wh wa) ++ cs.drop k).set k ({ yc with k20 := (((10000 + (200 * wh)) : Nat) : Int) } : Col)).set k (limK wh wa yc))[k]? = some (limK wh wa yc) := List.getElem?_set_self (by first | (rw [mix_len]; omega) | (rw [List.length_set, mix_len]; omega))
     refine Z.wpV_s ((g7, .cells (shC (.slice pcS cs.length ccS) (.slice poS osS.length coS) tl0).toArray 32 (0, 0)) :: (g2, .cells (shC (.slice none 0 0) (.slice none 0 0) tl0).toArray 32 (0, 0)) :: (g1, .cells #[.int .u8 ((wh : Nat) : Int), .int .u8 ((wa : Nat) : Int), .int .u8 ((wt : Nat) : Int)] 52 (0, 0)) :: (gC, .cells ((curC.setIfInBounds (0 + k * 12 + 5) (.int .i64 (((10000 + (200 * wh)) : Nat) : Int))).setIfInBounds (0 + k * 12 + 6) (.int .i64 (((20000 + (500 * wa)) : Nat) : Int))) 46 (0, 0)) :: (Ko ++ Tr)) (i := 21) rfl Tw.kr rfl rfl rfl (st_at (off := 0 + k * 12 + 6) (v := .int .i64 (((20000 + (500 * wa)) : Nat) : Int)) rfl Tw.kr Tw.kr Tw.m3 hBC Tw.kr rfl rfl (by rw [(hR17).1]; have h9 := (hR17).2.2.1; omega) (.inr rfl) (List.forall_mem_cons.2 ⟨.inr ⟨Tw.m0, Tw.nee⟩, (List.forall_mem_cons.2 ⟨.inr ⟨Tw.m1, Tw.nee⟩, (List.forall_mem_cons.2 ⟨.inr ⟨Tw.m2, Tw.nee⟩, (List.forall_mem_cons.2 ⟨.inl rfl, (fun p hp => .inr ⟨(.tail _ (.tail _ (.tail _ (.tail _ hp)))), ((show Dk gC (Ko ++ Tr) from Tw.djt) _ hp)⟩)⟩)⟩)⟩)⟩)) (fun _ => (fun p hp => by simp only [List.mem_cons, List.not_mem_nil, or_false] at hp; rcases hp with rfl | rfl <;> simp only [List.mem_cons, List.mem_append, List.nil_append, List.not_mem_nil, or_assoc, or_false, false_or, true_or, or_true])) ?_
     refine Z.wpV_done Tw.kr (fun W10 hW10 => ?_) _
     change Code.wp ..
     refine wp_region_L _ hW10 ?_
     refine lp (v := .int .i64 (((k + 1) : Nat) : Int)) rfl rfl (run_bin rfl (vx := (.int .i64 ((k : Nat) : Int))) (vy := (.int .i64 ((1 : Nat) : Int))) Tw.kr Tw.kr fun w => bn_add (z := (k + 1)) rfl (wr_i64 Tw.om) w) ?_
     refine lm (v := .int .i64 (((k + 1) : Nat) : Int)) rfl rfl ?_
     refine wpL_done (fun W11 hW11 => ?_)
     go_roundw
     case rel =>
       repeat apply Exists.intro
       exact ⟨⟨k + 1, [(gC, .cells ((curC.setIfInBounds (0 + k * 12 + 5) (.int .i64 (((10000 + (200 * wh)) : Nat) : Int))).setIfInBounds (0 + k * 12 + 6) (.int .i64 (((20000 + (500 * wa)) : Nat) : Int))) 46 (0, 0))], Tw.om, (by have h9 := hR18; rw [List.set_set, mix_set (limK wh wa) hyc] at h9; exact .inr ⟨gC, capC, _, hvC, hBC, h9, rfl⟩), (show Dk g7 [(gC, .cells ((curC.setIfInBounds (0 + k * 12 + 5) (.int .i64 (((10000 + (200 * wh)) : Nat) : Int))).setIfInBounds (0 + k * 12 + 6) (.int .i64 (((20000 + (500 * wa)) : Nat) : Int))) 46 (0, 0))] from Tw.djt), (show Dk g2 [(gC, .cells ((curC.setIfInBounds (0 + k * 12 + 5) (.int .i64 (((10000 + (200 * wh)) : Nat) : Int))).setIfInBounds (0 + k * 12 + 6) (.int .i64 (((20000 + (500 * wa)) : Nat) : Int))) 46 (0, 0))] from Tw.djt), (show Dk g1 [(gC, .cells ((curC.setIfInBounds (0 + k * 12 + 5) (.int .i64 (((10000 + (200 * wh)) : Nat) : Int))).setIfInBounds (0 + k * 12 + 6) (.int .i64 (((20000 + (500 * wa)) : Nat) : Int))) 46 (0, 0))] from Tw.djt), (show Dj Ko [(gC, .cells ((curC.setIfInBounds (0 + k * 12 + 5) (.int .i64 (((10000 + (200 * wh)) : Nat) : Int))).setIfInBounds (0 + k * 12 + 6) (.int .i64 (((20000 + (500 * wa)) : Nat) : Int))) 46 (0, 0))] from Tw.djt), (show Dj Tr [(gC, .cells ((curC.setIfInBounds (0 + k * 12 + 5) (.int .i64 (((10000 + (200 * wh)) : Nat) : Int))).setIfInBounds (0 + k * 12 + 6) (.int .i64 (((20000 + (500 * wa)) : Nat) : Int))) 46 (0, 0))] from Tw.djt), rfl, (hW11.sub (fun p hp => by first | exact hp | (simp only [List.mem_cons, List.mem_append, List.nil_append, List.not_mem_nil, or_assoc, or_false, false_or] at hp ⊢ <;> grind)))⟩, rfl⟩
     case measure => (show cs.length - (intOf (.int .i64 (((k + 1) : Nat) : Int))).toNat < cs.length - (intOf (.int .i64 ((k : Nat) : Int))).toNat); simp only [intOf]; omega
end Go.Proofs.Ytnbfljcilojllaa
namespace Go.Proofs.Ytnbfljcilojllaa
open Go Go.RowKit Tw
theorem el_lo : Elem Try.prog 101 143 5 40 (.agg (loC lo0).toArray) := Elem.mk' Try.underlying101 Tw.kr rfl
set_option maxRecDepth 100000 in
set_option maxHeartbeats 4000000 in
theorem pileOf_any (bs : List Bo) (bp : Option Addr) (bc : Nat) (hl : bs.length ≤ 4000000000) (l : List Sd) (lq : Option Addr) (ld : Nat) (hm : l.length ≤ 4000000000) (co : Int) (w : World) (hp : SLV w bp (bs.flatMap boC)) (hs : SLV w lq (l.flatMap sdC)) : Calls Try.prog 45 #[.slice bp bs.length bc, .slice lq l.length ld, .int .i64 co] w fun e w' => ∃ v, e = .returned v ∧ OutV w w' 143 5 v (pileK bs l co).length ((pileK bs l co).flatMap loC) ∧ Below w.heap.size w w' := by
 have HBs := Lib.hid hp
 clear hp
 have HL := Lib.hid hs
 clear hs
 go_enter Try.func45, Try.ntmps45
 refine wp_seq ?_
 refine wp_region_L [] (KS.start w) ?_
 refine lm (v := .slice none 0 0) rfl rfl ?_
 refine wpL_done (fun W1 hW1 => ?_)
 change Code.wp ..
 refine wp_seq ?_
 refine wp_region_L _ hW1 ?_
 refine lm (v := .slice none 0 0) rfl rfl ?_
 refine wpL_done (fun W2 hW2 => ?_)
 change Code.wp ..
 refine wp_seq ?_
 refine wp_seq ?_
 refine wp_region_L _ hW2 ?_
 refine lm (v := .slice lq l.length ld) rfl rfl ?_
 refine lp (v := .int .i64 ((l.length : Nat) : Int)) rfl rfl (run_lenL (p := lq) (cap := ld) (n := l.length) rfl Try.underlying38 Tw.kr) ?_
 refine lm (v := .int .i64 0) rfl rfl ?_
 refine wpL_done (fun W3 hW3 => ?_)
 change Code.wp ..
 refine wp_block ?_
 have hpk : ∀ k, (pileK bs (l.take k) co).length ≤ k := fun k => Nat.le_trans (pileK_len _ _ _) (by rw [List.length_take]; omega)
 go_loopw [14, 7] (fun u14 u7 wr => ∃ (k : Nat) (vA : Value) (KA : List (Nat × Obj)), (k ≤ l.length) ∧ (OwnL w 143 5 vA (pileK bs (l.take k) co).length ((pileK bs (l.take k) co).flatMap loC) KA) ∧ u14 = .int .i64 ((k : Nat) : Int) ∧ vA = u7 ∧ KS w KA wr) (fun u14 _ _ => l.length - (intOf u14).toNat)
 case atStart => exact ⟨0, (.slice none 0 0), [], (Nat.zero_le _), (OwnL.nil _ _ _), rfl, rfl, (hW3.sub (fun p hp => by first | exact hp | (simp only [List.mem_cons, List.mem_append, List.nil_append, List.not_mem_nil, or_assoc, or_false, false_or] at hp ⊢ <;> grind)))⟩
 case round =>
   obtain ⟨k, vA, KA, hk, hOA, rfl, rfl, hL4⟩ := hrel
   have hpkk := hpk k
   refine wp_seq ?_
   refine wp_region_L _ hL4 ?_
   refine lp (v := .bool (decide (k < l.length))) rfl rfl (run_bin rfl (vx := (.int .i64 ((k : Nat) : Int))) (vy := (.int .i64 ((l.length : Nat) : Int))) Tw.kr Tw.kr fun w => bn_lss rfl w) ?_
   refine wpL_done (fun W5 hW5 => ?_)
   change Code.wp ..
   refine wp_seq ?_
   cases hd1 : (decide (k < l.length)) with
   | false =>
     have h1 : ¬ (k < l.length) := of_decide_eq_false hd1
     clear hd1
     refine wp_cond_false rfl ?_
     refine wp_exit ?_
     change Code.wp ..
     refine wp_seq ?_
     refine wp_region_L _ hW5 ?_
     refine lm (v := vA) rfl rfl ?_
     refine lm (v := vA) rfl rfl ?_
     refine wpL_done (fun W6 hW6 => ?_)
     change Code.wp ..
     refine wp_ret ?_
     try simp only [inBlock_ret, then_ret]
     refine bodyPost_ret (v := vA) ?_ rfl ?_
     · kernel_rfl
     · exact ⟨_, rfl, (by have h9 := hOA; rw [List.take_of_length_le (show l.length ≤ k from by omega)] at h9; exact h9.out (fun p hp => by simp only [List.mem_cons, List.mem_append, List.nil_append, List.not_mem_nil, or_assoc, or_false, false_or, hp, true_or, or_true]) hW6), hW6.1⟩
   | true =>
     have h1 : k < l.length := of_decide_eq_true hd1
     clear hd1
     refine wp_cond_true rfl ?_
     refine wp_skip ?_
     change Code.wp ..
     refine wp_seq ?_
     refine wp_block ?_
     refine wp_seq ?_
     refine wp_region_L _ hW5 ?_
     obtain ⟨y2, g2_, f2_, hy2, hp2, hc2⟩ := RL.at (RL.base HL.out) sdC_len (by decide) (hW5.sub (fun _ h => by cases h)) (k := k) Tw.om
     refine lp (v := .pointer (some ⟨g2_, f2_ + k * 4, none⟩)) rfl rfl (run_idxQ (p := lq) (cap := ld) (n := l.length) (j := .i64) (k := k) (sz := 4) rfl Try.underlying38 Tw.kr Tw.kr hp2 Tw.kr Tw.om) ?_
     refine lv (v := .agg (sdC y2).toArray) rfl rfl (yb_rs (off := f2_ + k * 4) (cs := sdC y2) rfl Tw.kr (fun W hW => hc2 W (hW.sub (fun _ h => by cases h))) Try.underlying42 rfl Tw.kr) ?_
     refine wpL_new (fun g => .pointer (some ⟨g, 0, none⟩)) (obi := .cells #[.int .i64 0, .int .i64 0, .int .i64 0, .int .u8 0] 42 (0, 0)) rfl rfl Tw.kf Tw.pf fun g3 Bg3 Fg3 => ?_
     obtain dj4_0 : Dk g3 KA := Tw.dkf Fg3
     refine wpL_s ((g3, .cells (sdC y2).toArray 42 (0, 0)) :: KA) rfl rfl (st_row (off := 0) (v := .agg (sdC y2).toArray) rfl Tw.kr Tw.kr Tw.m0 Bg3 Tw.kr (by first | (simp [Value.cells]; done) | exact Nat.le_of_ble_eq_true rfl) (fun v hv => sdC_one y2 v hv) Tw.kr (List.forall_mem_cons.2 ⟨.inl rfl, (fun p hp => .inr ⟨(.tail _ hp), ((show Dk g3 KA from Tw.djt) _ hp)⟩)⟩)) ?_
     refine wpL_done (fun W7 hW7 => ?_)
     change Code.wp ..
     refine wp_seq ?_
     refine wp_region_L _ hW7 ?_
     refine lm (v := .pointer (some ⟨g3, 1, none⟩)) rfl rfl ?_
     refine lm (v := .pointer (some ⟨g3, 1, none⟩)) rfl rfl ?_
     refine lv (v := .int .i64 y2.slot.col) rfl rfl (yb_cell (off := 1) rfl Tw.kr Tw.m0 Try.underlying3 rfl Tw.kr) ?_
     refine lm (v := .int .i64 co) rfl rfl ?_
     refine lp (v := .bool (decide (y2.slot.col = co))) rfl rfl (run_bin rfl (vx := (.int .i64 y2.slot.col)) (vy := (.int .i64 co)) Tw.kr Tw.kr fun w => bi_eql rfl w) ?_
     refine wpL_done (fun W8 hW8 => ?_)
     change Code.wp ..
     cases hd2 : (decide (y2.slot.col = co)) with
     | false =>
       have h2 : ¬ (y2.slot.col = co) := of_decide_eq_false hd2
       clear hd2
       refine wp_cond_false rfl ?_
       refine wp_skip ?_
       change Code.wp ..
       refine wp_region_L _ hW8 ?_
       refine lp (v := .int .i64 (((k + 1) : Nat) : Int)) rfl rfl (run_bin rfl (vx := (.int .i64 ((k : Nat) : Int))) (vy := (.int .i64 ((1 : Nat) : Int))) Tw.kr Tw.kr fun w => bn_add (z := (k + 1)) rfl (wr_i64 Tw.om) w) ?_
       refine lm (v := .int .i64 (((k + 1) : Nat) : Int)) rfl rfl ?_
       refine wpL_done (fun W9 hW9 => ?_)
       go_roundw
       case rel =>
         repeat apply Exists.intro
         exact ⟨⟨k + 1, vA, KA, Tw.om, (by rw [pileK_no hy2 h2]; exact hOA), rfl, rfl, (hW9.sub (fun p hp => by first | exact hp | (simp only [List.mem_cons, List.mem_append, List.nil_append, List.not_mem_nil, or_assoc, or_false, false_or] at hp ⊢ <;> grind)))⟩, rfl⟩
       case measure => (show l.length - (intOf (.int .i64 (((k + 1) : Nat) : Int))).toNat < l.length - (intOf (.int .i64 ((k : Nat) : Int))).toNat); simp only [intOf]; omega
     | true =>
       have h2 : y2.slot.col = co := of_decide_eq_true hd2
       clear hd2
       refine wp_cond_true rfl ?_
       refine wp_seq ?_
       refine wp_region_L _ hW8 ?_
       refine lm (v := .slice bp bs.length bc) rfl rfl ?_
       refine lm (v := .pointer (some ⟨g3, 0, none⟩)) rfl rfl ?_
       refine lv (v := .int .i64 y2.box) rfl rfl (yb_cell (off := 0) rfl Tw.kr Tw.m0 Try.underlying3 rfl Tw.kr) ?_
       refine lv (v := .tuple #[.agg (boC (boxOf bs y2.box)).toArray, .bool ((findB bs y2.box).isSome)]) rfl rfl (yb_call (f := 20) (args := #[.slice bp bs.length bc, .int .i64 y2.box]) Tw.kf fun W hW => BFind_any bs bp bc Tw.om y2.box W ((RL.base HBs.out) _ (hW.sub (fun _ h => by cases h)))) ?_
       refine lm (v := .tuple #[.agg (boC (boxOf bs y2.box)).toArray, .bool ((findB bs y2.box).isSome)]) rfl rfl ?_
       refine lm (v := .agg (boC (boxOf bs y2.box)).toArray) rfl rfl ?_
       refine lm (v := .bool ((findB bs y2.box).isSome)) rfl rfl ?_
       refine wpL_new (fun g => .pointer (some ⟨g, 0, none⟩)) (obi := .cells #[.int .i64 0, strV [], .int .u8 0, .bool false, .int .i64 0, .int .i64 0, .int .i64 0, .int .u8 0, .bool false] 37 (0, 0)) rfl rfl Tw.kf Tw.pf fun g5 Bg5 Fg5 => ?_
       obtain ⟨dj6_0, dj6_1⟩ : g3 ≠ g5 ∧ Dk g5 KA := Tw.dkf Fg5
       refine wpL_s ((g5, .cells (boC (boxOf bs y2.box)).toArray 37 (0, 0)) :: (g3, .cells (sdC y2).toArray 42 (0, 0)) :: KA) rfl rfl (st_row (off := 0) (v := .agg (boC (boxOf bs y2.box)).toArray) rfl Tw.kr Tw.kr Tw.m0 Bg5 Tw.kr (by first | (simp [Value.cells]; done) | exact Nat.le_of_ble_eq_true rfl) (fun v hv => boC_one (boxOf bs y2.box) v hv) Tw.kr (List.forall_mem_cons.2 ⟨.inl rfl, (List.forall_mem_cons.2 ⟨.inr ⟨Tw.m1, Tw.nee⟩, (fun p hp => .inr ⟨(.tail _ (.tail _ hp)), ((show Dk g5 KA from Tw.djt) _ hp)⟩)⟩)⟩)) ?_
       refine lm (v := .bool ((findB bs y2.box).isSome)) rfl rfl ?_
       refine wpL_done (fun W10 hW10 => ?_)
       change Code.wp ..
       refine wp_region_L _ hW10 ?_
       refine lm (v := vA) rfl rfl ?_
       refine lv (v := .agg (sdC y2).toArray) rfl rfl (yb_load (n := 4) (off := 0) rfl Tw.kr Tw.m1 Try.underlying42 rfl Tw.kr (by first | (simp [Value.cells]; done) | exact Nat.le_of_ble_eq_true rfl) Tw.kr) ?_
       refine lm (v := .pointer (some ⟨g5, 4, none⟩)) rfl rfl ?_
       refine lv (v := .int .i64 ((boxOf bs y2.box).kilos)) rfl rfl (yb_cell (off := 4) rfl Tw.kr Tw.m0 Try.underlying3 rfl Tw.kr) ?_
       refine lm (v := .agg #[.int .i64 y2.box, .int .i64 y2.slot.col, .int .i64 y2.slot.tier, .int .u8 ((y2.slot.half : Nat) : Int), .int .i64 ((boxOf bs y2.box).kilos)]) rfl rfl ?_
       refine wpL_new (fun g => .slice (some ⟨g, 0, none⟩) 1 1) (obi := .cells #[.int .i64 y2.box, .int .i64 y2.slot.col, .int .i64 y2.slot.tier, .int .u8 ((y2.slot.half : Nat) : Int), .int .i64 ((boxOf bs y2.box).kilos)] 143 (0, 0)) rfl rfl Tw.kf Tw.pf fun g7 Bg7 Fg7 => ?_
       obtain ⟨dj8_0, dj8_1, dj8_2⟩ : g5 ≠ g7 ∧ g3 ≠ g7 ∧ Dk g7 KA := Tw.dkf Fg7
       refine wpL_g (AppO w 143 5 [(g5, .cells (boC (boxOf bs y2.box)).toArray 37 (0, 0)), (g3, .cells (sdC y2).toArray 42 (0, 0))] (((pileK bs (l.take k) co).length) + 1) (((pileK bs (l.take k) co).flatMap loC) ++ [.int .i64 y2.box, .int .i64 y2.slot.col, .int .i64 y2.slot.tier, .int .u8 ((y2.slot.half : Nat) : Int), .int .i64 ((boxOf bs y2.box).kilos)])) rfl rfl (app_own el_lo (m := 1) (c := 1) (news := [.int .i64 y2.box, .int .i64 y2.slot.col, .int .i64 y2.slot.tier, .int .u8 ((y2.slot.half : Nat) : Int), .int .i64 ((boxOf bs y2.box).kilos)]) rfl Tw.kr Tw.kr Tw.m0 hOA Tw.sc (fun p hp => ⟨by simp only [List.mem_cons, List.mem_append, List.nil_append, List.not_mem_nil, or_assoc, or_false, false_or] at hp ⊢ <;> grind, (show Dj [(g5, .cells (boC (boxOf bs y2.box)).toArray 37 (0, 0)), (g3, .cells (sdC y2).toArray 42 (0, 0))] KA from Tw.djt) p hp⟩) rfl (by simp [strV, Value.oneCell']) Tw.om Tw.om Tw.om) Tw.pf ?_
       rintro v9 K9 ⟨Kl9, O9, N9, rfl⟩
       obtain ⟨dj10_0, dj10_1⟩ : Dk g5 Kl9 ∧ Dk g3 Kl9 := Tw.djf N9
       refine lm (v := v9) rfl rfl ?_
       refine wpL_done (fun W11 hW11 => ?_)
       change Code.wp ..
       refine wp_region_L _ hW11 ?_
       refine lp (v := .int .i64 (((k + 1) : Nat) : Int)) rfl rfl (run_bin rfl (vx := (.int .i64 ((k : Nat) : Int))) (vy := (.int .i64 ((1 : Nat) : Int))) Tw.kr Tw.kr fun w => bn_add (z := (k + 1)) rfl (wr_i64 Tw.om) w) ?_
       refine lm (v := .int .i64 (((k + 1) : Nat) : Int)) rfl rfl ?_
       refine wpL_done (fun W12 hW12 => ?_)
       go_roundw
       case rel =>
         repeat apply Exists.intro
         exact ⟨⟨k + 1, v9, Kl9, Tw.om, (by rw [pileK_yes hy2 h2, List.flatMap_append, List.length_append]; exact O9), rfl, rfl, (hW12.sub (fun p hp => by first | exact hp | (simp only [List.mem_cons, List.mem_append, List.nil_append, List.not_mem_nil, or_assoc, or_false, false_or] at hp ⊢ <;> grind)))⟩, rfl⟩
       case measure => (show l.length - (intOf (.int .i64 (((k + 1) : Nat) : Int))).toNat < l.length - (intOf (.int .i64 ((k : Nat) : Int))).toNat); simp only [intOf]; omega
set_option maxRecDepth 100000 in
set_option maxHeartbeats 4000000 in
theorem kilos_any (l : List Lo) (p : Option Addr) (c : Nat) (hl : l.length ≤ 4000000000) (fv : FuncId) (caps : Array Value) (P : Slt → Bool) (A : Slt → Array Value) (hA : ∀ y, A y = #[.agg (sltC y).toArray] ++ caps) (hcf : ∀ args w, (callFunc fv args).run Try.prog w = .ok (.enter fv args) w) (w : World) (hp : SLV w p (l.flatMap loC)) (hf : ∀ W, Below w.heap.size w W → ∀ y ∈ l, Calls Try.prog fv (A y.sd.slot) W fun e w' => e = .returned (.bool (P y.sd.slot)) ∧ Below W.heap.size W w') : Calls Try.prog 64 #[.slice p l.length c, .func (.func fv) #[] caps] w fun e w' => e = .returned (.int .i64 (kilX P l)) ∧ Below w.heap.size w w' := by
 have HP := Lib.hid hp
 clear hp
 go_enter Try.func64, Try.ntmps64
 refine wp_seq ?_
 refine wp_region_L [] (KS.start w) ?_
 refine lm (v := .int .i64 0) rfl rfl ?_
 refine wpL_done (fun W1 hW1 => ?_)
 change Code.wp ..
 refine wp_seq ?_
 refine wp_region_L _ hW1 ?_
 refine lm (v := .int .i64 0) rfl rfl ?_
 refine wpL_done (fun W2 hW2 => ?_)
 change Code.wp ..
 refine wp_seq ?_
 refine wp_seq ?_
 refine wp_region_L _ hW2 ?_
 refine lm (v := .slice p l.length c) rfl rfl ?_
 refine lp (v := .int .i64 ((l.length : Nat) : Int)) rfl rfl (run_lenL (p := p) (cap := c) (n := l.length) rfl Try.underlying101 Tw.kr) ?_
 refine lm (v := .int .i64 0) rfl rfl ?_
 refine wpL_done (fun W3 hW3 => ?_)
 change Code.wp ..
 refine wp_block ?_
 go_loopw [10, 5] (fun u10 u5 wr => ∃ (k : Nat) (sm : Int), (k ≤ l.length) ∧ (sm = kilX P (l.take k)) ∧ u10 = .int .i64 ((k : Nat) : Int) ∧ u5 = .int .i64 sm ∧ KS w [] wr) (fun u10 _ _ => l.length - (intOf u10).toNat)
 case atStart => exact ⟨0, 0, (Nat.zero_le _), rfl, rfl, rfl, (hW3.sub (fun p hp => by first | exact hp | (simp only [List.mem_cons, List.mem_append, List.nil_append, List.not_mem_nil, or_assoc, or_false, false_or] at hp ⊢ <;> grind)))⟩
 case round =>
   obtain ⟨k, sm, hk, hsm, rfl, rfl, hL4⟩ := hrel
   refine wp_seq ?_
   refine wp_region_L _ hL4 ?_
   refine lp (v := .bool (decide (k < l.length))) rfl rfl (run_bin rfl (vx := (.int .i64 ((k : Nat) : Int))) (vy := (.int .i64 ((l.length : Nat) : Int))) Tw.kr Tw.kr fun w => bn_lss rfl w) ?_
   refine wpL_done (fun W5 hW5 => ?_)
   change Code.wp ..
   refine wp_seq ?_
   cases hd1 : (decide (k < l.length)) with
   | false =>
     have h1 : ¬ (k < l.length) := of_decide_eq_false hd1
     clear hd1
     refine wp_cond_false rfl ?_
     refine wp_exit ?_
     change Code.wp ..
     refine wp_seq ?_
     refine wp_region_L _ hW5 ?_
     refine lm (v := .int .i64 sm) rfl rfl ?_
     refine lm (v := .int .i64 sm) rfl rfl ?_
     refine wpL_done (fun W6 hW6 => ?_)
     change Code.wp ..
     refine wp_ret ?_
     try simp only [inBlock_ret, then_ret]
     refine bodyPost_ret (v := .int .i64 sm) ?_ rfl ?_
     · kernel_rfl
     · exact ⟨(int_is (by rw [hsm, List.take_of_length_le Tw.om])), hW6.1⟩
   | true =>
     have h1 : k < l.length := of_decide_eq_true hd1
     clear hd1
     refine wp_cond_true rfl ?_
     refine wp_skip ?_
     change Code.wp ..
     refine wp_seq ?_
     refine wp_block ?_
     refine wp_seq ?_
     refine wp_region_L _ hW5 ?_
     obtain ⟨y1, g1_, f1_, hy1, hp1, hc1⟩ := RL.at (RL.base HP.out) loC_len (by decide) (hW5.sub (fun _ h => by cases h)) (k := k) Tw.om
     refine lp (v := .pointer (some ⟨g1_, f1_ + k * 5, none⟩)) rfl rfl (run_idxQ (p := p) (cap := c) (n := l.length) (j := .i64) (k := k) (sz := 5) rfl Try.underlying101 Tw.kr Tw.kr hp1 Tw.kr Tw.om) ?_
     refine lv (v := .agg (loC y1).toArray) rfl rfl (yb_rs (off := f1_ + k * 5) (cs := loC y1) rfl Tw.kr (fun W hW => hc1 W (hW.sub (fun _ h => by cases h))) Try.underlying143 rfl Tw.kr) ?_
     refine wpL_new (fun g => .pointer (some ⟨g, 0, none⟩)) (obi := .cells #[.int .i64 0, .int .i64 0, .int .i64 0, .int .u8 0, .int .i64 0] 143 (0, 0)) rfl rfl Tw.kf Tw.pf fun g2 Bg2 Fg2 => ?_
     refine wpL_s [(g2, .cells (loC y1).toArray 143 (0, 0))] rfl rfl (st_row (off := 0) (v := .agg (loC y1).toArray) rfl Tw.kr Tw.kr Tw.m0 Bg2 Tw.kr (by first | (simp [Value.cells]; done) | exact Nat.le_of_ble_eq_true rfl) (fun v hv => loC_one y1 v hv) Tw.kr (List.forall_mem_cons.2 ⟨.inl rfl, (List.forall_mem_nil _)⟩)) ?_
     refine wpL_done (fun W7 hW7 => ?_)
     change Code.wp ..
     refine wp_seq ?_
     refine wp_region_L _ hW7 ?_
     refine lm (v := .func (.func fv) #[] caps) rfl rfl ?_
     refine lm (v := .pointer (some ⟨g2, 0, none⟩)) rfl rfl ?_
     refine lm (v := .pointer (some ⟨g2, 1, none⟩)) rfl rfl ?_
     refine lv (v := .agg (sltC y1.sd.slot).toArray) rfl rfl (yb_load (n := 3) (off := 1) rfl Tw.kr Tw.m0 Try.underlying40 rfl Tw.kr (by first | (simp [Value.cells]; done) | exact Nat.le_of_ble_eq_true rfl) Tw.kr) ?_
     refine lv (v := .bool (P y1.sd.slot)) rfl rfl (yb_call (f := fv) (args := A y1.sd.slot) (fun w => (run_callv rfl Tw.kr Tw.kr hcf w).trans (by rw [← hA])) fun W hW => hf W hW.1 y1 (List.mem_of_getElem? hy1)) ?_
     refine wpL_done (fun W8 hW8 => ?_)
     change Code.wp ..
     cases h2 : (P y1.sd.slot) with
     | false =>
       refine wp_cond_false rfl ?_
       refine wp_skip ?_
       change Code.wp ..
       refine wp_region_L _ hW8 ?_
       refine lp (v := .int .i64 (((k + 1) : Nat) : Int)) rfl rfl (run_bin rfl (vx := (.int .i64 ((k : Nat) : Int))) (vy := (.int .i64 ((1 : Nat) : Int))) Tw.kr Tw.kr fun w => bn_add (z := (k + 1)) rfl (wr_i64 Tw.om) w) ?_
       refine lm (v := .int .i64 (((k + 1) : Nat) : Int)) rfl rfl ?_
       refine wpL_done (fun W9 hW9 => ?_)
       go_roundw
       case rel =>
         repeat apply Exists.intro
         exact ⟨⟨k + 1, sm, Tw.om, (by rw [kilX_no hy1 h2]; exact hsm), rfl, rfl, (hW9.sub (fun p hp => by first | exact hp | (simp only [List.mem_cons, List.mem_append, List.nil_append, List.not_mem_nil, or_assoc, or_false, false_or] at hp ⊢ <;> grind)))⟩, rfl⟩
       case measure => (show l.length - (intOf (.int .i64 (((k + 1) : Nat) : Int))).toNat < l.length - (intOf (.int .i64 ((k : Nat) : Int))).toNat); simp only [intOf]; omega
     | true =>
       refine wp_cond_true rfl ?_
       refine wp_region_L _ hW8 ?_
       refine lm (v := .int .i64 sm) rfl rfl ?_
       refine lm (v := .pointer (some ⟨g2, 4, none⟩)) rfl rfl ?_
       refine lv (v := .int .i64 y1.k) rfl rfl (yb_cell (off := 4) rfl Tw.kr Tw.m0 Try.underlying3 rfl Tw.kr) ?_
       refine lp (v := .int .i64 (IntKind.i64.wrap (sm + y1.k))) rfl rfl (run_bin rfl (vx := .int .i64 sm) (vy := .int .i64 y1.k) Tw.kr Tw.kr fun w => bw_add (z := (IntKind.i64.wrap (sm + y1.k))) rfl w) ?_
       refine lm (v := .int .i64 (IntKind.i64.wrap (sm + y1.k))) rfl rfl ?_
       refine wpL_done (fun W10 hW10 => ?_)
       change Code.wp ..
       refine wp_region_L _ hW10 ?_
       refine lp (v := .int .i64 (((k + 1) : Nat) : Int)) rfl rfl (run_bin rfl (vx := (.int .i64 ((k : Nat) : Int))) (vy := (.int .i64 ((1 : Nat) : Int))) Tw.kr Tw.kr fun w => bn_add (z := (k + 1)) rfl (wr_i64 Tw.om) w) ?_
       refine lm (v := .int .i64 (((k + 1) : Nat) : Int)) rfl rfl ?_
       refine wpL_done (fun W11 hW11 => ?_)
       go_roundw
       case rel =>
         repeat apply Exists.intro
         exact ⟨⟨k + 1, (IntKind.i64.wrap (sm + y1.k)), Tw.om, (by rw [kilX_yes hy1 h2, ← hsm]), rfl, rfl, (hW11.sub (fun p hp => by first | exact hp | (simp only [List.mem_cons, List.mem_append, List.nil_append, List.not_mem_nil, or_assoc, or_false, false_or] at hp ⊢ <;> grind)))⟩, rfl⟩
       case measure => (show l.length - (intOf (.int .i64 (((k + 1) : Nat) : Int))).toNat < l.length - (intOf (.int .i64 ((k : Nat) : Int))).toNat); simp only [intOf]; omega
set_option maxRecDepth 100000 in
set_option maxHeartbeats 4000000 in
theorem weigh11_any (x : Slt) (h g1 : Nat) (w : World) (h1 : CapR w g1 [.int .u8 ((h : Nat) : Int)]) : Calls Try.prog 65 #[.agg (sltC x).toArray, .pointer (some ⟨g1, 0, none⟩)] w fun e w' => e = .returned (.bool (halfP h x)) ∧ Below w.heap.size w w' := by
 have H1 := Lib.hid h1
 clear h1
 go_enter Try.func65, Try.ntmps65
 refine wp_seq ?_
 refine wp_region_L [] (KS.start w) ?_
 refine wpL_new (fun g => .pointer (some ⟨g, 0, none⟩)) (obi := .cells (sltC x).toArray 40 (0, 0)) rfl rfl Tw.kf Tw.pf fun g21 Bg21 Fg21 => ?_
 refine lm (v := .bool false) rfl rfl ?_
 refine wpL_done (fun W1 hW1 => ?_)
 change Code.wp ..
 refine wp_seq ?_
 refine wp_region_L _ hW1 ?_
 refine lm (v := .pointer (some ⟨g21, 2, none⟩)) rfl rfl ?_
 refine lv (v := .int .u8 ((x.half : Nat) : Int)) rfl rfl (yb_cell (off := 2) rfl Tw.kr Tw.m0 Try.underlying5 rfl Tw.kr) ?_
 refine lv (v := .int .u8 ((h : Nat) : Int)) rfl rfl (yb_rf (v := .int .u8 ((h : Nat) : Int)) rfl Tw.kr (fun W hW => ((H1.out).keep hW.1).2 0 _ rfl) Try.underlying5 rfl) ?_
 refine lp (v := .bool (decide (x.half = h))) rfl rfl (run_bin rfl (vx := (.int .u8 ((x.half : Nat) : Int))) (vy := (.int .u8 ((h : Nat) : Int))) Tw.kr Tw.kr fun w => bn_eql rfl w) ?_
 refine lm (v := .bool (decide (x.half = h))) rfl rfl ?_
 refine wpL_done (fun W2 hW2 => ?_)
 change Code.wp ..
 refine wp_ret ?_
 try simp only [inBlock_ret, then_ret]
 refine bodyPost_ret (v := .bool (decide (x.half = h))) ?_ rfl ?_
 · kernel_rfl
 · exact ⟨rfl, hW2.1⟩
set_option maxRecDepth 100000 in
set_option maxHeartbeats 4000000 in
theorem weigh2_any (x : Slt) (w : World) : Calls Try.prog 66 #[.agg (sltC x).toArray] w fun e w' => e = .returned (.bool (allP x)) ∧ Below w.heap.size w w' := by
 go_enter Try.func66, Try.ntmps66
 refine wp_seq ?_
 refine wp_region_L [] (KS.start w) ?_
 refine wpL_new (fun g => .pointer (some ⟨g, 0, none⟩)) (obi := .cells (sltC x).toArray 40 (0, 0)) rfl rfl Tw.kf Tw.pf fun g1 Bg1 Fg1 => ?_
 refine lm (v := .bool false) rfl rfl ?_
 refine wpL_done (fun W1 hW1 => ?_)
 change Code.wp ..
 refine wp_seq ?_
 refine wp_region_L _ hW1 ?_
 refine lm (v := .bool true) rfl rfl ?_
 refine wpL_done (fun W2 hW2 => ?_)
 change Code.wp ..
 refine wp_ret ?_
 try simp only [inBlock_ret, then_ret]
 refine bodyPost_ret (v := .bool true) ?_ rfl ?_
 · kernel_rfl
 · exact ⟨rfl, hW2.1⟩
set_option maxRecDepth 100000 in
set_option maxHeartbeats 4000000 in
theorem weigh1_any (l : List Lo) (p : Option Addr) (c : Nat) (hl : l.length ≤ 4000000000) (h g1 : Nat) (w : World) (hp : SLV w p (l.flatMap loC)) (h1 : CapR w g1 [.slice p l.length c]) : Calls Try.prog 63 #[.int .u8 ((h : Nat) : Int), .pointer (some ⟨g1, 0, none⟩)] w fun e w' => e = .returned (.int .i64 (kilX (halfP h) l)) ∧ Below w.heap.size w w' := by
 have HP := Lib.hid hp
 clear hp
 have H1 := Lib.hid h1
 clear h1
 go_enter Try.func63, Try.ntmps63
 refine wp_seq ?_
 refine wp_region_L [] (KS.start w) ?_
 refine wpL_new (fun g => .pointer (some ⟨g, 0, none⟩)) (obi := .cells #[.int .u8 ((h : Nat) : Int)] 5 (0, 0)) rfl rfl Tw.kf Tw.pf fun g21 Bg21 Fg21 => ?_
 refine lm (v := .int .i64 0) rfl rfl ?_
 refine wpL_done (fun W1 hW1 => ?_)
 change Code.wp ..
 refine wp_seq ?_
 refine wp_region_L _ hW1 ?_
 refine lv (v := .slice p l.length c) rfl rfl (yb_rf (v := .slice p l.length c) rfl Tw.kr (fun W hW => ((H1.out).keep hW.1).2 0 _ rfl) Try.underlying101 rfl) ?_
 refine lm (v := .func (.func 65) #[] #[.pointer (some ⟨g21, 0, none⟩)]) rfl rfl ?_
 refine lv (v := .int .i64 (kilX (halfP h) l)) rfl rfl (yb_call (f := 64) (args := #[.slice p l.length c, .func (.func 65) #[] #[.pointer (some ⟨g21, 0, none⟩)]]) Tw.kf fun W hW => kilos_any l p c Tw.om 65 #[.pointer (some ⟨g21, 0, none⟩)] (halfP h) (fun y => #[.agg (sltC y).toArray, .pointer (some ⟨g21, 0, none⟩)]) Tw.kf (fun _ _ => by kernel_rfl) W ((RL.base HP.out) _ (hW.sub (fun _ h => by cases h))) (fun W2 hb y hm => weigh11_any y.sd.slot h g21 W2 ((CapR.of hW Tw.m0).keep hb))) ?_
 refine lm (v := .int .i64 (kilX (halfP h) l)) rfl rfl ?_
 refine wpL_done (fun W2 hW2 => ?_)
 change Code.wp ..
 refine wp_ret ?_
 try simp only [inBlock_ret, then_ret]
 refine bodyPost_ret (v := .int .i64 (kilX (halfP h) l)) ?_ rfl ?_
 · kernel_rfl
 · exact ⟨rfl, hW2.1⟩
set_option maxRecDepth 100000 in
set_option maxHeartbeats 4000000 in
theorem weigh_any (l : List Lo) (p : Option Addr) (c : Nat) (hl : l.length ≤ 4000000000) (w : World) (hp : SLV w p (l.flatMap loC)) : Calls Try.prog 42 #[.slice p l.length c] w fun e w' => e = .returned (.agg #[.int .i64 (kilX (halfP 1) l), .int .i64 (kilX (halfP 2) l), .int .i64 (kilX allP l)]) ∧ Below w.heap.size w w' := by
 have HP := Lib.hid hp
 clear hp
 go_enter Try.func42, Try.ntmps42
 refine wp_seq ?_
 refine wp_region_L [] (KS.start w) ?_
 refine wpL_new (fun g => .pointer (some ⟨g, 0, none⟩)) (obi := .cells #[.slice p l.length c] 101 (0, 0)) rfl rfl Tw.kf Tw.pf fun g1 Bg1 Fg1 => ?_
 refine wpL_new (fun g => .pointer (some ⟨g, 0, none⟩)) (obi := .cells #[.int .i64 0, .int .i64 0, .int .i64 0] 66 (0, 0)) rfl rfl Tw.kf Tw.pf fun g2 Bg2 Fg2 => ?_
 obtain dj3_0 : g1 ≠ g2 := Tw.dkf Fg2
 refine wpL_done (fun W1 hW1 => ?_)
 change Code.wp ..
 refine wp_seq ?_
 refine wp_region_L _ hW1 ?_
 refine lm (v := .func (.func 63) #[] #[.pointer (some ⟨g1, 0, none⟩)]) rfl rfl ?_
 refine lm (v := .func (.func 63) #[] #[.pointer (some ⟨g1, 0, none⟩)]) rfl rfl ?_
 refine wpL_done (fun W2 hW2 => ?_)
 change Code.wp ..
 refine wp_seq ?_
 refine wp_region_V _ Tw.kr hW2 ?_
 refine vm (i := 0) (v := .func (.func 63) #[] #[.pointer (some ⟨g1, 0, none⟩)]) rfl rfl rfl ?_
 refine vv (i := 1) (v := .int .i64 (kilX (halfP 1) l)) rfl rfl rfl (yb_call (f := 63) (args := #[.int .u8 1, .pointer (some ⟨g1, 0, none⟩)]) Tw.kf fun W hW => weigh1_any l p c Tw.om 1 g1 W ((RL.base HP.out) _ (hW.sub (fun _ h => by cases h))) (CapR.of hW Tw.m1)) ?_
 refine vm (i := 2) (v := .func (.func 63) #[] #[.pointer (some ⟨g1, 0, none⟩)]) rfl rfl rfl ?_
 refine vv (i := 3) (v := .int .i64 (kilX (halfP 2) l)) rfl rfl rfl (yb_call (f := 63) (args := #[.int .u8 2, .pointer (some ⟨g1, 0, none⟩)]) Tw.kf fun W hW => weigh1_any l p c Tw.om 2 g1 W ((RL.base HP.out) _ (hW.sub (fun _ h => by cases h))) (CapR.of hW Tw.m1)) ?_
 refine vv (i := 4) (v := .slice p l.length c) rfl rfl rfl (yb_cell (off := 0) rfl Tw.kr Tw.m1 Try.underlying101 rfl Tw.kr) ?_
 refine vv (i := 5) (v := .int .i64 (kilX allP l)) rfl rfl rfl (yb_call (f := 64) (args := #[.slice p l.length c, .func (.func 66) #[] #[]]) Tw.kf fun W hW => kilos_any l p c Tw.om 66 #[] allP (fun y => #[.agg (sltC y).toArray]) Tw.kf (fun _ _ => by kernel_rfl) W ((RL.base HP.out) _ (hW.sub (fun _ h => by cases h))) (fun W2 hb y hm => weigh2_any y.sd.slot W2)) ?_
 refine vm (i := 6) (v := .agg #[.int .i64 (kilX (halfP 1) l), .int .i64 (kilX (halfP 2) l), .int .i64 (kilX allP l)]) rfl rfl rfl ?_
 refine wpV_s [(g2, .cells #[.int .i64 (kilX (halfP 1) l), .int .i64 (kilX (halfP 2) l), .int .i64 (kilX allP l)] 66 (0, 0)), (g1, .cells #[.slice p l.length c] 101 (0, 0))] (i := 7) rfl Tw.kr rfl rfl rfl (st_row (off := 0) (v := .agg #[.int .i64 (kilX (halfP 1) l), .int .i64 (kilX (halfP 2) l), .int .i64 (kilX allP l)]) rfl Tw.kr Tw.kr Tw.m0 Bg2 Tw.kr (by first | (simp [Value.cells]; done) | exact Nat.le_of_ble_eq_true rfl) (by intro v hv; simp [Value.cells] at hv; first | (subst hv; rfl) | (rcases hv with rfl | rfl | rfl <;> rfl)) Tw.kr (List.forall_mem_cons.2 ⟨.inl rfl, (List.forall_mem_cons.2 ⟨.inr ⟨Tw.m1, Tw.nee⟩, (List.forall_mem_nil _)⟩)⟩)) ?_
 refine wpV_done Tw.kr (fun W3 hW3 => ?_) _
 change Code.wp ..
 refine wp_ret ?_
 try simp only [inBlock_ret, then_ret]
 refine bodyPost_ret (v := .agg #[.int .i64 (kilX (halfP 1) l), .int .i64 (kilX (halfP 2) l), .int .i64 (kilX allP l)]) ?_ rfl ?_
 · exact (res_cell (p := 2) rfl rfl (hW3.2 _ Tw.m0) Try.underlying66 rfl Tw.kr)
 · exact ⟨rfl, hW3.1⟩
set_option maxRecDepth 100000 in
set_option maxHeartbeats 4000000 in
theorem below1_any (y x : Slt) (g1 : Nat) (w : World) (h1 : CapR w g1 (sltC x)) : Calls Try.prog 72 #[.agg (sltC y).toArray, .pointer (some ⟨g1, 0, none⟩)] w fun e w' => e = .returned (.bool (belowP x y)) ∧ Below w.heap.size w w' := by
 have H1 := Lib.hid h1
 clear h1
 go_enter Try.func72, Try.ntmps72
 refine wp_seq ?_
 refine wp_region_L [] (KS.start w) ?_
 refine wpL_new (fun g => .pointer (some ⟨g, 0, none⟩)) (obi := .cells (sltC y).toArray 40 (0, 0)) rfl rfl Tw.kf Tw.pf fun g21 Bg21 Fg21 => ?_
 refine lm (v := .bool false) rfl rfl ?_
 refine wpL_done (fun W1 hW1 => ?_)
 change Code.wp ..
 refine wp_seq ?_
 refine wp_region_L _ hW1 ?_
 refine lm (v := .pointer (some ⟨g21, 1, none⟩)) rfl rfl ?_
 refine lv (v := .int .i64 y.tier) rfl rfl (yb_cell (off := 1) rfl Tw.kr Tw.m0 Try.underlying3 rfl Tw.kr) ?_
 refine lm (v := .pointer (some ⟨g1, 1, none⟩)) rfl rfl ?_
 refine lv (v := .int .i64 x.tier) rfl rfl (yb_rf (v := .int .i64 x.tier) rfl Tw.kr (fun W hW => ((H1.out).keep hW.1).2 1 _ rfl) Try.underlying3 rfl) ?_
 refine lp (v := .bool (decide (y.tier < x.tier))) rfl rfl (run_bin rfl (vx := (.int .i64 y.tier)) (vy := (.int .i64 x.tier)) Tw.kr Tw.kr fun w => bi_lss rfl w) ?_
 refine lm (v := .bool (decide (y.tier < x.tier))) rfl rfl ?_
 cases hd1 : (decide (y.tier < x.tier)) with
 | false =>
   have h1 : ¬ (y.tier < x.tier) := of_decide_eq_false hd1
   clear hd1
   refine ln rfl ?_
   refine ln rfl ?_
   refine ln rfl ?_
   refine ln rfl ?_
   refine ln rfl ?_
   refine ln rfl ?_
   refine lm (v := .bool false) rfl rfl ?_
   refine lm (v := .bool false) rfl rfl ?_
   refine wpL_done (fun W2 hW2 => ?_)
   change Code.wp ..
   refine wp_seq ?_
   refine wp_region_L _ hW2 ?_
   refine lm (v := .bool false) rfl rfl ?_
   refine lm (v := .bool false) rfl rfl ?_
   refine ln rfl ?_
   refine ln rfl ?_
   refine ln rfl ?_
   refine ln rfl ?_
   refine ln rfl ?_
   refine ln rfl ?_
   refine ln rfl ?_
   refine ln rfl ?_
   refine ln rfl ?_
   refine ln rfl ?_
   refine ln rfl ?_
   refine ln rfl ?_
   refine ln rfl ?_
   refine ln rfl ?_
   refine ln rfl ?_
   refine lm (v := .bool false) rfl rfl ?_
   refine lm (v := .bool false) rfl rfl ?_
   refine wpL_done (fun W3 hW3 => ?_)
   change Code.wp ..
   refine wp_ret ?_
   try simp only [inBlock_ret, then_ret]
   refine bodyPost_ret (v := .bool false) ?_ rfl ?_
   · kernel_rfl
   · exact ⟨(bool_is (by unfold belowP; simp only [decide_eq_false h1, Bool.and_true, Bool.true_and, Bool.and_false, Bool.false_and, Bool.or_true, Bool.true_or, Bool.or_false, Bool.false_or, Bool.and_self, Bool.or_self, Bool.not_true, Bool.not_false])), hW3.1⟩
 | true =>
   have h1 : y.tier < x.tier := of_decide_eq_true hd1
   clear hd1
   refine lm (v := .pointer (some ⟨g21, 1, none⟩)) rfl rfl ?_
   refine lv (v := .int .i64 y.tier) rfl rfl (yb_cell (off := 1) rfl Tw.kr Tw.m0 Try.underlying3 rfl Tw.kr) ?_
   refine lm (v := .pointer (some ⟨g1, 1, none⟩)) rfl rfl ?_
   refine lv (v := .int .i64 x.tier) rfl rfl (yb_rf (v := .int .i64 x.tier) rfl Tw.kr (fun W hW => ((H1.out).keep hW.1).2 1 _ rfl) Try.underlying3 rfl) ?_
   refine lp (v := .int .i64 (IntKind.i64.wrap (x.tier - 1))) rfl rfl (run_bin rfl (vx := .int .i64 x.tier) (vy := .int .i64 1) Tw.kr Tw.kr fun w => bw_sub (z := (IntKind.i64.wrap (x.tier - 1))) rfl w) ?_
   refine lp (v := .bool (decide (y.tier = (IntKind.i64.wrap (x.tier - 1))))) rfl rfl (run_bin rfl (vx := (.int .i64 y.tier)) (vy := (.int .i64 (IntKind.i64.wrap (x.tier - 1)))) Tw.kr Tw.kr fun w => bi_eql rfl w) ?_
   refine lm (v := .bool (decide (y.tier = (IntKind.i64.wrap (x.tier - 1))))) rfl rfl ?_
   refine lm (v := .bool (decide (y.tier = (IntKind.i64.wrap (x.tier - 1))))) rfl rfl ?_
   refine wpL_done (fun W4 hW4 => ?_)
   change Code.wp ..
   refine wp_seq ?_
   refine wp_region_L _ hW4 ?_
   refine lm (v := .bool (decide (y.tier = (IntKind.i64.wrap (x.tier - 1))))) rfl rfl ?_
   refine lm (v := .bool (decide (y.tier = (IntKind.i64.wrap (x.tier - 1))))) rfl rfl ?_
   cases hd2 : (decide (y.tier = (IntKind.i64.wrap (x.tier - 1)))) with
   | false =>
     have h2 : ¬ (y.tier = (IntKind.i64.wrap (x.tier - 1))) := of_decide_eq_false hd2
     clear hd2
     refine ln rfl ?_
     refine ln rfl ?_
     refine ln rfl ?_
     refine ln rfl ?_
     refine ln rfl ?_
     refine ln rfl ?_
     refine ln rfl ?_
     refine ln rfl ?_
     refine ln rfl ?_
     refine ln rfl ?_
     refine ln rfl ?_
     refine ln rfl ?_
     refine ln rfl ?_
     refine ln rfl ?_
     refine ln rfl ?_
     refine lm (v := .bool false) rfl rfl ?_
     refine lm (v := .bool false) rfl rfl ?_
     refine wpL_done (fun W5 hW5 => ?_)
     change Code.wp ..
     refine wp_ret ?_
     try simp only [inBlock_ret, then_ret]
     refine bodyPost_ret (v := .bool false) ?_ rfl ?_
     · kernel_rfl
     · exact ⟨(bool_is (by unfold belowP; simp only [decide_eq_true h1, decide_eq_false h2, Bool.and_true, Bool.true_and, Bool.and_false, Bool.false_and, Bool.or_true, Bool.true_or, Bool.or_false, Bool.false_or, Bool.and_self, Bool.or_self, Bool.not_true, Bool.not_false])), hW5.1⟩
   | true =>
     have h2 : y.tier = (IntKind.i64.wrap (x.tier - 1)) := of_decide_eq_true hd2
     clear hd2
     refine lm (v := .pointer (some ⟨g21, 2, none⟩)) rfl rfl ?_
     refine lv (v := .int .u8 ((y.half : Nat) : Int)) rfl rfl (yb_cell (off := 2) rfl Tw.kr Tw.m0 Try.underlying5 rfl Tw.kr) ?_
     refine lm (v := .pointer (some ⟨g1, 2, none⟩)) rfl rfl ?_
     refine lv (v := .int .u8 ((x.half : Nat) : Int)) rfl rfl (yb_rf (v := .int .u8 ((x.half : Nat) : Int)) rfl Tw.kr (fun W hW => ((H1.out).keep hW.1).2 2 _ rfl) Try.underlying5 rfl) ?_
     refine lp (v := .bool (decide (y.half = x.half))) rfl rfl (run_bin rfl (vx := (.int .u8 ((y.half : Nat) : Int))) (vy := (.int .u8 ((x.half : Nat) : Int))) Tw.kr Tw.kr fun w => bn_eql rfl w) ?_
     refine lm (v := .bool (decide (y.half = x.half))) rfl rfl ?_
     cases hd3 : (decide (y.half = x.half)) with
     | false =>
       have h3 : ¬ (y.half = x.half) := of_decide_eq_false hd3
       clear hd3
       refine lm (v := .pointer (some ⟨g21, 2, none⟩)) rfl rfl ?_
       refine lv (v := .int .u8 ((y.half : Nat) : Int)) rfl rfl (yb_cell (off := 2) rfl Tw.kr Tw.m0 Try.underlying5 rfl Tw.kr) ?_
       refine lp (v := .bool (decide (y.half = 0))) rfl rfl (run_bin rfl (vx := (.int .u8 ((y.half : Nat) : Int))) (vy := (.int .u8 ((0 : Nat) : Int))) Tw.kr Tw.kr fun w => bn_eql rfl w) ?_
       refine lm (v := .bool (decide (y.half = 0))) rfl rfl ?_
       refine lm (v := .bool (decide (y.half = 0))) rfl rfl ?_
       cases hd4 : (decide (y.half = 0)) with
       | false =>
         have h4 : ¬ (y.half = 0) := of_decide_eq_false hd4
         clear hd4
         refine lm (v := .pointer (some ⟨g1, 2, none⟩)) rfl rfl ?_
         refine lv (v := .int .u8 ((x.half : Nat) : Int)) rfl rfl (yb_rf (v := .int .u8 ((x.half : Nat) : Int)) rfl Tw.kr (fun W hW => ((H1.out).keep hW.1).2 2 _ rfl) Try.underlying5 rfl) ?_
         refine lp (v := .bool (decide (x.half = 0))) rfl rfl (run_bin rfl (vx := (.int .u8 ((x.half : Nat) : Int))) (vy := (.int .u8 ((0 : Nat) : Int))) Tw.kr Tw.kr fun w => bn_eql rfl w) ?_
         refine lm (v := .bool (decide (x.half = 0))) rfl rfl ?_
         refine lm (v := .bool (decide (x.half = 0))) rfl rfl ?_
         refine lm (v := .bool (decide (x.half = 0))) rfl rfl ?_
         refine wpL_done (fun W6 hW6 => ?_)
         change Code.wp ..
         refine wp_ret ?_
         try simp only [inBlock_ret, then_ret]
         refine bodyPost_ret (v := .bool (decide (x.half = 0))) ?_ rfl ?_
         · kernel_rfl
         · exact ⟨(bool_is (by unfold belowP; simp only [decide_eq_true h1, decide_eq_true h2, decide_eq_false h3, decide_eq_false h4, Bool.and_true, Bool.true_and, Bool.and_false, Bool.false_and, Bool.or_true, Bool.true_or, Bool.or_false, Bool.false_or, Bool.and_self, Bool.or_self, Bool.not_true, Bool.not_false])), hW6.1⟩
       | true =>
         have h4 : y.half = 0 := of_decide_eq_true hd4
         clear hd4
         refine ln rfl ?_
         refine ln rfl ?_
         refine ln rfl ?_
         refine lm (v := .bool true) rfl rfl ?_
         refine lm (v := .bool true) rfl rfl ?_
         refine lm (v := .bool true) rfl rfl ?_
         refine wpL_done (fun W7 hW7 => ?_)
         change Code.wp ..
         refine wp_ret ?_
         try simp only [inBlock_ret, then_ret]
         refine bodyPost_ret (v := .bool true) ?_ rfl ?_
         · kernel_rfl
         · exact ⟨(bool_is (by unfold belowP; simp only [decide_eq_true h1, decide_eq_true h2, decide_eq_false h3, decide_eq_true h4, Bool.and_true, Bool.true_and, Bool.and_false, Bool.false_and, Bool.or_true, Bool.true_or, Bool.or_false, Bool.false_or, Bool.and_self, Bool.or_self, Bool.not_true, Bool.not_false])), hW7.1⟩
     | true =>
       have h3 : y.half = x.half := of_decide_eq_true hd3
       clear hd3
       refine ln rfl ?_
       refine ln rfl ?_
       refine ln rfl ?_
       refine lm (v := .bool true) rfl rfl ?_
       refine lm (v := .bool true) rfl rfl ?_
       refine ln rfl ?_
       refine ln rfl ?_
       refine ln rfl ?_
       refine lm (v := .bool true) rfl rfl ?_
       refine lm (v := .bool true) rfl rfl ?_
       refine lm (v := .bool true) rfl rfl ?_
       refine wpL_done (fun W8 hW8 => ?_)
       change Code.wp ..
       refine wp_ret ?_
       try simp only [inBlock_ret, then_ret]
       refine bodyPost_ret (v := .bool true) ?_ rfl ?_
       · kernel_rfl
       · exact ⟨(bool_is (by unfold belowP; simp only [decide_eq_true h1, decide_eq_true h2, decide_eq_true h3, Bool.and_true, Bool.true_and, Bool.and_false, Bool.false_and, Bool.or_true, Bool.true_or, Bool.or_false, Bool.false_or, Bool.and_self, Bool.or_self, Bool.not_true, Bool.not_false])), hW8.1⟩
set_option maxRecDepth 100000 in
set_option maxHeartbeats 4000000 in
theorem below_any (l : List Lo) (p : Option Addr) (c : Nat) (hl : l.length ≤ 4000000000) (x : Slt) (w : World) (hp : SLV w p (l.flatMap loC)) : Calls Try.prog 53 #[.slice p l.length c, .agg (sltC x).toArray] w fun e w' => e = .returned (.int .i64 (kilX (belowP x) l)) ∧ Below w.heap.size w w' := by
 have HP := Lib.hid hp
 clear hp
 go_enter Try.func53, Try.ntmps53
 refine wp_seq ?_
 refine wp_region_L [] (KS.start w) ?_
 refine wpL_new (fun g => .pointer (some ⟨g, 0, none⟩)) (obi := .cells (sltC x).toArray 40 (0, 0)) rfl rfl Tw.kf Tw.pf fun g1 Bg1 Fg1 => ?_
 refine lm (v := .int .i64 0) rfl rfl ?_
 refine wpL_done (fun W1 hW1 => ?_)
 change Code.wp ..
 refine wp_seq ?_
 refine wp_region_L _ hW1 ?_
 refine lm (v := .slice p l.length c) rfl rfl ?_
 refine lm (v := .func (.func 72) #[] #[.pointer (some ⟨g1, 0, none⟩)]) rfl rfl ?_
 refine lv (v := .int .i64 (kilX (belowP x) l)) rfl rfl (yb_call (f := 64) (args := #[.slice p l.length c, .func (.func 72) #[] #[.pointer (some ⟨g1, 0, none⟩)]]) Tw.kf fun W hW => kilos_any l p c Tw.om 72 #[.pointer (some ⟨g1, 0, none⟩)] (belowP x) (fun y => #[.agg (sltC y).toArray, .pointer (some ⟨g1, 0, none⟩)]) Tw.kf (fun _ _ => by kernel_rfl) W ((RL.base HP.out) _ (hW.sub (fun _ h => by cases h))) (fun W2 hb y hm => below1_any y.sd.slot x g1 W2 ((CapR.of hW Tw.m0).keep hb))) ?_
 refine lm (v := .int .i64 (kilX (belowP x) l)) rfl rfl ?_
 refine wpL_done (fun W2 hW2 => ?_)
 change Code.wp ..
 refine wp_ret ?_
 try simp only [inBlock_ret, then_ret]
 refine bodyPost_ret (v := .int .i64 (kilX (belowP x) l)) ?_ rfl ?_
 · kernel_rfl
 · exact ⟨rfl, hW2.1⟩
set_option maxRecDepth 100000 in
set_option maxHeartbeats 4000000 in
theorem Weigh_any (bs : List Bo) (bp : Option Addr) (bc : Nat) (hl : bs.length ≤ 4000000000) (l : List Sd) (lq : Option Addr) (ld : Nat) (hm : l.length ≤ 4000000000) (co : Int) (w : World) (hp : SLV w bp (bs.flatMap boC)) (hs : SLV w lq (l.flatMap sdC)) : Calls Try.prog 19 #[.slice bp bs.length bc, .slice lq l.length ld, .int .i64 co] w fun e w' => e = .returned (.agg #[.int .i64 (foreX bs l co), .int .i64 (aftX bs l co), .int .i64 (allX bs l co)]) ∧ Below w.heap.size w w' := by
 have HBs := Lib.hid hp
 clear hp
 have HL := Lib.hid hs
 clear hs
 go_enter Try.func19, Try.ntmps19
 refine wp_seq ?_
 refine wp_region_L [] (KS.start w) ?_
 refine wpL_new (fun g => .pointer (some ⟨g, 0, none⟩)) (obi := .cells #[.int .i64 0, .int .i64 0, .int .i64 0] 66 (0, 0)) rfl rfl Tw.kf Tw.pf fun g1 Bg1 Fg1 => ?_
 refine wpL_done (fun W1 hW1 => ?_)
 change Code.wp ..
 refine wp_seq ?_
 refine wp_region_L _ hW1 ?_
 refine lm (v := .slice bp bs.length bc) rfl rfl ?_
 refine lm (v := .slice lq l.length ld) rfl rfl ?_
 refine lm (v := .int .i64 co) rfl rfl ?_
 refine wpL_c (f := 45) (args := #[.slice bp bs.length bc, .slice lq l.length ld, .int .i64 co]) (OutRL loC w [(g1, .cells #[.int .i64 0, .int .i64 0, .int .i64 0] 66 (0, 0))] (pileK bs l co)) rfl Tw.kr Tw.kf (fun W hW => calls_r hW (pileOf_any bs bp bc Tw.om l lq ld Tw.om co W ((RL.base HBs.out) _ (hW.sub (fun _ h => by cases h))) ((RL.base HL.out) _ (hW.sub (fun _ h => by cases h))))) Tw.pf ?_
 rintro _ _ ⟨p2, c2, Kl2, rfl, n2, R2, N2, rfl⟩
 obtain dj3_0 : Dk g1 Kl2 := Tw.djf N2
 refine lv (v := .agg #[.int .i64 (kilX (halfP 1) (pileK bs l co)), .int .i64 (kilX (halfP 2) (pileK bs l co)), .int .i64 (kilX allP (pileK bs l co))]) rfl rfl (yb_call (f := 42) (args := #[.slice p2 ((pileK bs l co).length) c2]) Tw.kf fun W hW => weigh_any (pileK bs l co) p2 c2 (Nat.le_trans (pileK_len _ _ _) Tw.om) W (R2 _ (hW.sub (fun p hp => by simp only [List.mem_cons, List.mem_append, List.nil_append, List.not_mem_nil, or_assoc, or_false, false_or, hp, true_or, or_true])))) ?_
 refine wpL_s ((g1, .cells #[.int .i64 (kilX (halfP 1) (pileK bs l co)), .int .i64 (kilX (halfP 2) (pileK bs l co)), .int .i64 (kilX allP (pileK bs l co))] 66 (0, 0)) :: Kl2) rfl rfl (st_row (off := 0) (v := .agg #[.int .i64 (kilX (halfP 1) (pileK bs l co)), .int .i64 (kilX (halfP 2) (pileK bs l co)), .int .i64 (kilX allP (pileK bs l co))]) rfl Tw.kr Tw.kr Tw.m0 Bg1 Tw.kr (by first | (simp [Value.cells]; done) | exact Nat.le_of_ble_eq_true rfl) (by intro v hv; simp [Value.cells] at hv; first | (subst hv; rfl) | (rcases hv with rfl | rfl | rfl <;> rfl)) Tw.kr (List.forall_mem_cons.2 ⟨.inl rfl, (fun p hp => .inr ⟨(.tail _ hp), ((show Dk g1 Kl2 from Tw.djt) _ hp)⟩)⟩)) ?_
 refine wpL_done (fun W2 hW2 => ?_)
 change Code.wp ..
 refine wp_ret ?_
 try simp only [inBlock_ret, then_ret]
 refine bodyPost_ret (v := .agg #[.int .i64 (kilX (halfP 1) (pileK bs l co)), .int .i64 (kilX (halfP 2) (pileK bs l co)), .int .i64 (kilX allP (pileK bs l co))]) ?_ rfl ?_
 · exact (res_cell (p := 6) rfl rfl (hW2.2 _ Tw.m0) Try.underlying66 rfl Tw.kr)
 · exact ⟨rfl, hW2.1⟩
end Go.Proofs.Ytnbfljcilojllaa
