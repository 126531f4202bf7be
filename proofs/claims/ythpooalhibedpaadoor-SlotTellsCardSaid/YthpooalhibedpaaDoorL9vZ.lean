import Derived.Test.YthpooalhibedpaaDoorL9v01
import Derived.Test.YthpooalhibedpaaDoorST02
import Derived.Test.YthpooalhibedpaaDoorST04
import Derived.Test.YthpooalhibedpaaDoorST01
import Derived.Test.YthpooalhibedpaaDoorST00
import Derived.Test.YthpooalhibedpaaDoorL9v00
import Derived.Laws.OwnMore
import Derived.Laws.Small
/- SlotTells: the law holds for every input; no condition but the row's own. -/
set_option linter.unusedVariables false
set_option linter.unusedSimpArgs false
set_option linter.unusedSectionVars false
namespace Go.Proofs.YthpooalhibedpaaDoor
open Go Go.RowKit Tw
set_option maxRecDepth 100000 in
set_option maxHeartbeats 4000000 in
theorem R8All_any (cs : List Col) (pc : Option Addr) (cc : Nat) (lc : cs.length ≤ 1000) (os : List Cov) (po : Option Addr) (co : Nat) (lo : os.length ≤ 4000000000) (t : Tl) (ht : ∀ c ∈ cs, c.tiers ≤ 1000) (z : Nat) (w : World) (hc : SLV w pc (cs.flatMap colC)) (ho : SLV w po (os.flatMap covC)) : Calls Tryd.prog 18 #[.agg (shC (.slice pc cs.length cc) (.slice po os.length co) t).toArray, .int .i64 ((z : Nat) : Int)] w fun e w' => ∃ v, e = .returned v ∧ OutV w w' 34 3 v (slotsX cs z).length ((slotsX cs z).flatMap sltC) ∧ Below w.heap.size w w' := by
 have HC := Lib.hid hc
 clear hc
 have HO := Lib.hid ho
 clear ho
 go_enter Tryd.func18, Tryd.ntmps18
 refine wp_seq ?_
 refine wp_region_L [] (KS.start w) ?_
 refine wpL_new (fun g => .pointer (some ⟨g, 0, none⟩)) (obi := .cells (shC (.slice pc cs.length cc) (.slice po os.length co) t).toArray 32 (0, 0)) rfl rfl Tw.kf Tw.pf fun g1 Bg1 Fg1 => ?_
 refine lm (v := .slice none 0 0) rfl rfl ?_
 refine wpL_done (fun W1 hW1 => ?_)
 change Code.wp ..
 refine wp_seq ?_
 refine wp_region_L _ hW1 ?_
 refine lm (v := .slice none 0 0) rfl rfl ?_
 refine wpL_done (fun W2 hW2 => ?_)
 change Code.wp ..
 refine wp_seq ?_
 refine wp_seq ?_
 refine wp_region_L _ hW2 ?_
 refine lm (v := .int .i64 0) rfl rfl ?_
 refine wpL_done (fun W3 hW3 => ?_)
 change Code.wp ..
 refine wp_block ?_
 go_loopw [6, 5] (fun u6 u5 wr => ∃ (k : Nat) (va : Value) (Ka : List (Nat × Obj)), (k ≤ cs.length) ∧ ((slotsF z 0 (cs.take k)).length ≤ 3000 * k) ∧ (OwnL w 34 3 va (slotsF z 0 (cs.take k)).length ((slotsF z 0 (cs.take k)).flatMap sltC) Ka) ∧ (Dk g1 Ka) ∧ u6 = .int .i64 ((k : Nat) : Int) ∧ va = u5 ∧ KS w ((g1, .cells (shC (.slice pc cs.length cc) (.slice po os.length co) t).toArray 32 (0, 0)) :: Ka) wr) (fun u6 _ _ => cs.length - (intOf u6).toNat)
 case atStart => exact ⟨0, .slice none 0 0, [], (Nat.zero_le _), (Nat.le_refl _), (OwnL.nil _ _ _), (show Dk g1 [] from Tw.djt), rfl, rfl, (hW3.sub (fun p hp => by first | exact hp | (simp only [List.mem_cons, List.mem_append, List.nil_append, List.not_mem_nil, or_assoc, or_false, false_or] at hp ⊢ <;> grind)))⟩
 case round =>
   obtain ⟨k, va, Ka, hk, hla, hOa, dh2_0, rfl, rfl, hL4⟩ := hrel
   refine wp_seq ?_
   refine wp_seq ?_
   refine wp_region_L _ hL4 ?_
   refine lm (v := .int .i64 ((k : Nat) : Int)) rfl rfl ?_
   refine lm (v := .pointer (some ⟨g1, 0, none⟩)) rfl rfl ?_
   refine lv (v := .slice pc cs.length cc) rfl rfl (yb_cell (off := 0) rfl Tw.kr Tw.m0 Tryd.underlying22 rfl Tw.kr) ?_
   refine lp (v := .int .i64 ((cs.length : Nat) : Int)) rfl rfl (run_lenL (p := pc) (cap := cc) (n := cs.length) rfl Tryd.underlying22 Tw.kr) ?_
   refine lp (v := .bool (decide (k < cs.length))) rfl rfl (run_bin rfl (vx := (.int .i64 ((k : Nat) : Int))) (vy := (.int .i64 ((cs.length : Nat) : Int))) Tw.kr Tw.kr fun w => bn_lss rfl w) ?_
   refine wpL_done (fun W5 hW5 => ?_)
   change Code.wp ..
   cases hd1 : (decide (k < cs.length)) with
   | false =>
     have h1 : ¬ (k < cs.length) := of_decide_eq_false hd1
     clear hd1
     refine wp_cond_false rfl ?_
     refine wp_exit ?_
     change Code.wp ..
     refine wp_seq ?_
     refine wp_region_L _ hW5 ?_
     refine lm (v := va) rfl rfl ?_
     refine lm (v := va) rfl rfl ?_
     refine wpL_done (fun W6 hW6 => ?_)
     change Code.wp ..
     refine wp_ret ?_
     try simp only [inBlock_ret, then_ret]
     refine bodyPost_ret (v := va) ?_ rfl ?_
     · kernel_rfl
     · exact ⟨_, rfl, (by have h9 := hOa; rw [show k = cs.length from by omega, List.take_length] at h9; exact h9.out (fun p hp => by simp only [List.mem_cons, List.mem_append, List.nil_append, List.not_mem_nil, or_assoc, or_false, false_or, hp, true_or, or_true]) hW6), hW6.1⟩
   | true =>
     have h1 : k < cs.length := of_decide_eq_true hd1
     clear hd1
     refine wp_cond_true rfl ?_
     refine wp_skip ?_
     change Code.wp ..
     refine wp_seq ?_
     refine wp_block ?_
     refine wp_seq ?_
     refine wp_region_L _ hW5 ?_
     refine lm (v := .int .i64 0) rfl rfl ?_
     refine wpL_done (fun W7 hW7 => ?_)
     change Code.wp ..
     refine wp_block ?_
     obtain ⟨yc, hyc⟩ : ∃ y, cs[k]? = some y := ⟨_, List.getElem?_eq_getElem Tw.om⟩
     have hyt := ht yc (List.mem_of_getElem? hyc)
     go_loopw [7, 5] (fun u7 u5 wr => ∃ (tt : Nat) (vb : Value) (Kb : List (Nat × Obj)), (tt ≤ 1000) ∧ (((tt : Nat) : Int) ≤ yc.tiers ∨ tt = 0) ∧ (((slotsF z 0 (cs.take k)) ++ upT z k tt).length ≤ 3000 * k + 3 * tt) ∧ (OwnL w 34 3 vb ((slotsF z 0 (cs.take k)) ++ upT z k tt).length (((slotsF z 0 (cs.take k)) ++ upT z k tt).flatMap sltC) Kb) ∧ (Dk g1 Kb) ∧ u7 = .int .i64 ((tt : Nat) : Int) ∧ vb = u5 ∧ KS w ((g1, .cells (shC (.slice pc cs.length cc) (.slice po os.length co) t).toArray 32 (0, 0)) :: Kb) wr) (fun u7 _ _ => 1000 - (intOf u7).toNat)
     case atStart => exact ⟨0, va, Ka, (Nat.zero_le _), (.inr rfl), (by rw [show (slotsF z 0 (cs.take k)) ++ upT z k 0 = (slotsF z 0 (cs.take k)) from List.append_nil _]; omega), (by rw [show (slotsF z 0 (cs.take k)) ++ upT z k 0 = (slotsF z 0 (cs.take k)) from List.append_nil _]; exact hOa), (show Dk g1 Ka from Tw.djt), rfl, rfl, (hW7.sub (fun p hp => by first | exact hp | (simp only [List.mem_cons, List.mem_append, List.nil_append, List.not_mem_nil, or_assoc, or_false, false_or] at hp ⊢ <;> grind)))⟩
     case round =>
       obtain ⟨tt, vb, Kb, htt, hti, hlb, hOb, dh3_0, rfl, rfl, hL8⟩ := hrel
       refine wp_seq ?_
       refine wp_seq ?_
       refine wp_region_L _ hL8 ?_
       refine lm (v := .int .i64 ((tt : Nat) : Int)) rfl rfl ?_
       refine lm (v := .pointer (some ⟨g1, 0, none⟩)) rfl rfl ?_
       refine lv (v := .slice pc cs.length cc) rfl rfl (yb_cell (off := 0) rfl Tw.kr Tw.m0 Tryd.underlying22 rfl Tw.kr) ?_
       refine lm (v := .int .i64 ((k : Nat) : Int)) rfl rfl ?_
       obtain ⟨y4, g4_, f4_, hy4, hp4, hc4⟩ := RL.at (RL.base HC.out) colC_len (by decide) (hL8.sub (fun _ h => by cases h)) (k := k) Tw.om
       have ey4 : yc = y4 := by rw [hyc] at hy4; exact Option.some.inj hy4
       subst ey4
       refine lp (v := .pointer (some ⟨g4_, f4_ + k * 12, none⟩)) rfl rfl (run_idxQ (p := pc) (cap := cc) (n := cs.length) (j := .i64) (k := k) (sz := 12) rfl Tryd.underlying22 Tw.kr Tw.kr hp4 Tw.kr Tw.om) ?_
       refine lm (v := .pointer (some ⟨g4_, f4_ + k * 12 + 3, none⟩)) rfl rfl ?_
       refine lv (v := .int .i64 yc.tiers) rfl rfl (yb_rf (v := .int .i64 yc.tiers) rfl Tw.kr (fun W hW => hc4 W (hW.sub (fun _ h => by cases h)) 3 _ rfl) Tryd.underlying3 rfl) ?_
       refine lp (v := .bool (decide (((tt : Nat) : Int) < yc.tiers))) rfl rfl (run_bin rfl (vx := (.int .i64 ((tt : Nat) : Int))) (vy := (.int .i64 yc.tiers)) Tw.kr Tw.kr fun w => bi_lss rfl w) ?_
       refine wpL_done (fun W9 hW9 => ?_)
       change Code.wp ..
       cases hd2 : (decide (((tt : Nat) : Int) < yc.tiers)) with
       | false =>
         have h2 : ¬ (((tt : Nat) : Int) < yc.tiers) := of_decide_eq_false hd2
         clear hd2
         refine wp_cond_false rfl ?_
         refine wp_exit ?_
         change Code.wp ..
         refine wp_region_L _ hW9 ?_
         refine lm (v := .int .i64 ((k : Nat) : Int)) rfl rfl ?_
         refine lp (v := .int .i64 (((k + 1) : Nat) : Int)) rfl rfl (run_bin rfl (vx := (.int .i64 ((k : Nat) : Int))) (vy := (.int .i64 ((1 : Nat) : Int))) Tw.kr Tw.kr fun w => bn_add (z := (k + 1)) rfl (wr_i64 Tw.om) w) ?_
         refine lm (v := .int .i64 (((k + 1) : Nat) : Int)) rfl rfl ?_
         refine wpL_done (fun W10 hW10 => ?_)
         go_roundw
         case rel =>
           repeat apply Exists.intro
           exact ⟨⟨k + 1, vb, Kb, Tw.om, (by have h9 := hlb; rw [upT_all h2 hti, ← slotsF_take hyc] at h9; omega), (by have h9 := hOb; rw [upT_all h2 hti, ← slotsF_take hyc] at h9; exact h9), (show Dk g1 Kb from Tw.djt), rfl, rfl, (hW10.sub (fun p hp => by first | exact hp | (simp only [List.mem_cons, List.mem_append, List.nil_append, List.not_mem_nil, or_assoc, or_false, false_or] at hp ⊢ <;> grind)))⟩, rfl⟩
         case measure => (show cs.length - (intOf (.int .i64 (((k + 1) : Nat) : Int))).toNat < cs.length - (intOf (.int .i64 ((k : Nat) : Int))).toNat); simp only [intOf]; omega
       | true =>
         have h2 : ((tt : Nat) : Int) < yc.tiers := of_decide_eq_true hd2
         clear hd2
         refine wp_cond_true rfl ?_
         refine wp_skip ?_
         change Code.wp ..
         refine wp_seq ?_
         refine wp_block ?_
         refine wp_seq ?_
         refine wp_region_L _ hW9 ?_
         refine lm (v := .int .u8 0) rfl rfl ?_
         refine wpL_done (fun W11 hW11 => ?_)
         change Code.wp ..
         refine wp_block ?_
         go_loopw [8, 5] (fun u8 u5 wr => ∃ (h : Nat) (vd : Value) (Kd : List (Nat × Obj)), (h ≤ 3) ∧ ((((slotsF z 0 (cs.take k)) ++ upT z k tt) ++ upH z k tt h).length ≤ 3000 * k + 3 * tt + h) ∧ (OwnL w 34 3 vd (((slotsF z 0 (cs.take k)) ++ upT z k tt) ++ upH z k tt h).length ((((slotsF z 0 (cs.take k)) ++ upT z k tt) ++ upH z k tt h).flatMap sltC) Kd) ∧ (Dk g1 Kd) ∧ u8 = .int .u8 ((h : Nat) : Int) ∧ vd = u5 ∧ KS w ((g1, .cells (shC (.slice pc cs.length cc) (.slice po os.length co) t).toArray 32 (0, 0)) :: Kd) wr) (fun u8 _ _ => 3 - (intOf u8).toNat)
         case atStart => exact ⟨0, vb, Kb, (Nat.zero_le _), (by rw [show ((slotsF z 0 (cs.take k)) ++ upT z k tt) ++ upH z k tt 0 = ((slotsF z 0 (cs.take k)) ++ upT z k tt) from List.append_nil _]; omega), (by rw [show ((slotsF z 0 (cs.take k)) ++ upT z k tt) ++ upH z k tt 0 = ((slotsF z 0 (cs.take k)) ++ upT z k tt) from List.append_nil _]; exact hOb), (show Dk g1 Kb from Tw.djt), rfl, rfl, (hW11.sub (fun p hp => by first | exact hp | (simp only [List.mem_cons, List.mem_append, List.nil_append, List.not_mem_nil, or_assoc, or_false, false_or] at hp ⊢ <;> grind)))⟩
         case round =>
           obtain ⟨h, vd, Kd, hh, hld, hOd, dh5_0, rfl, rfl, hL12⟩ := hrel
           refine wp_seq ?_
           refine wp_seq ?_
           refine wp_region_L _ hL12 ?_
           refine lm (v := .int .u8 ((h : Nat) : Int)) rfl rfl ?_
           refine lp (v := .bool (decide (h < 3))) rfl rfl (run_bin rfl (vx := (.int .u8 ((h : Nat) : Int))) (vy := (.int .u8 ((3 : Nat) : Int))) Tw.kr Tw.kr fun w => bn_lss rfl w) ?_
           refine wpL_done (fun W13 hW13 => ?_)
           change Code.wp ..
           cases hd3 : (decide (h < 3)) with
           | false =>
             have h3 : ¬ (h < 3) := of_decide_eq_false hd3
             clear hd3
             refine wp_cond_false rfl ?_
             refine wp_exit ?_
             change Code.wp ..
             refine wp_region_L _ hW13 ?_
             refine lm (v := .int .i64 ((tt : Nat) : Int)) rfl rfl ?_
             refine lp (v := .int .i64 (((tt + 1) : Nat) : Int)) rfl rfl (run_bin rfl (vx := (.int .i64 ((tt : Nat) : Int))) (vy := (.int .i64 ((1 : Nat) : Int))) Tw.kr Tw.kr fun w => bn_add (z := (tt + 1)) rfl (wr_i64 Tw.om) w) ?_
             refine lm (v := .int .i64 (((tt + 1) : Nat) : Int)) rfl rfl ?_
             refine wpL_done (fun W14 hW14 => ?_)
             go_roundw
             case rel =>
               repeat apply Exists.intro
               exact ⟨⟨tt + 1, vd, Kd, Tw.om, (.inl Tw.om), (by have h9 := hld; rw [show h = 3 from by omega, upH_all, List.append_assoc, ← upT_snoc] at h9; omega), (by have h9 := hOd; rw [show h = 3 from by omega, upH_all, List.append_assoc, ← upT_snoc] at h9; exact h9), (show Dk g1 Kd from Tw.djt), rfl, rfl, (hW14.sub (fun p hp => by first | exact hp | (simp only [List.mem_cons, List.mem_append, List.nil_append, List.not_mem_nil, or_assoc, or_false, false_or] at hp ⊢ <;> grind)))⟩, rfl⟩
             case measure => (show 1000 - (intOf (.int .i64 (((tt + 1) : Nat) : Int))).toNat < 1000 - (intOf (.int .i64 ((tt : Nat) : Int))).toNat); simp only [intOf]; omega
           | true =>
             have h3 : h < 3 := of_decide_eq_true hd3
             clear hd3
             refine wp_cond_true rfl ?_
             refine wp_skip ?_
             change Code.wp ..
             refine wp_seq ?_
             refine wp_block ?_
             refine wp_seq ?_
             refine wp_region_L _ hW13 ?_
             refine lm (v := .int .i64 ((k : Nat) : Int)) rfl rfl ?_
             refine lm (v := .int .i64 ((tt : Nat) : Int)) rfl rfl ?_
             refine lm (v := .int .u8 ((h : Nat) : Int)) rfl rfl ?_
             refine lm (v := .agg #[.int .i64 ((k : Nat) : Int), .int .i64 ((tt : Nat) : Int), .int .u8 ((h : Nat) : Int)]) rfl rfl ?_
             refine wpL_new (fun g => .pointer (some ⟨g, 0, none⟩)) (obi := .cells #[.int .i64 0, .int .i64 0, .int .u8 0] 34 (0, 0)) rfl rfl Tw.kf Tw.pf fun g6 Bg6 Fg6 => ?_
             obtain ⟨dj7_0, dj7_1⟩ : g1 ≠ g6 ∧ Dk g6 Kd := Tw.dkf Fg6
             refine wpL_s ((g6, .cells #[.int .i64 ((k : Nat) : Int), .int .i64 ((tt : Nat) : Int), .int .u8 ((h : Nat) : Int)] 34 (0, 0)) :: (g1, .cells (shC (.slice pc cs.length cc) (.slice po os.length co) t).toArray 32 (0, 0)) :: Kd) rfl rfl (st_row (off := 0) (v := .agg #[.int .i64 ((k : Nat) : Int), .int .i64 ((tt : Nat) : Int), .int .u8 ((h : Nat) : Int)]) rfl Tw.kr Tw.kr Tw.m0 Bg6 Tw.kr (by first | (simp [Value.cells]; done) | exact Nat.le_of_ble_eq_true rfl) (by intro v hv; simp [Value.cells] at hv; first | (subst hv; rfl) | (rcases hv with rfl | rfl | rfl <;> rfl)) Tw.kr (List.forall_mem_cons.2 ⟨.inl rfl, (List.forall_mem_cons.2 ⟨.inr ⟨Tw.m1, Tw.nee⟩, (fun p hp => .inr ⟨(.tail _ (.tail _ hp)), ((show Dk g6 Kd from Tw.djt) _ hp)⟩)⟩)⟩)) ?_
             refine wpL_done (fun W15 hW15 => ?_)
             change Code.wp ..
             refine wp_seq ?_
             refine wp_region_L _ hW15 ?_
             refine lv (v := .agg (shC (.slice pc cs.length cc) (.slice po os.length co) t).toArray) rfl rfl (yb_load (n := 13) (off := 0) rfl Tw.kr Tw.m1 Tryd.underlying32 rfl Tw.kr (by first | (simp [Value.cells]; done) | exact Nat.le_of_ble_eq_true rfl) Tw.kr) ?_
             refine lv (v := .agg #[.int .i64 ((k : Nat) : Int), .int .i64 ((tt : Nat) : Int), .int .u8 ((h : Nat) : Int)]) rfl rfl (yb_load (n := 3) (off := 0) rfl Tw.kr Tw.m0 Tryd.underlying34 rfl Tw.kr (by first | (simp [Value.cells]; done) | exact Nat.le_of_ble_eq_true rfl) Tw.kr) ?_
             refine lm (v := .int .i64 ((z : Nat) : Int)) rfl rfl ?_
             refine lv (v := .bool (rightS cs (⟨((k : Nat) : Int), ((tt : Nat) : Int), h⟩ : Slt) z)) rfl rfl (yb_call (f := 15) (args := #[.agg (shC (.slice pc cs.length cc) (.slice po os.length co) t).toArray, .agg #[.int .i64 ((k : Nat) : Int), .int .i64 ((tt : Nat) : Int), .int .u8 ((h : Nat) : Int)], .int .i64 ((z : Nat) : Int)]) Tw.kf fun W hW => R8Right_any cs pc cc Tw.om os po co Tw.om t ((k : Nat) : Int) ((tt : Nat) : Int) h z W ((RL.base HC.out) _ (hW.sub (fun _ h => by cases h))) ((RL.base HO.out) _ (hW.sub (fun _ h => by cases h)))) ?_
             refine wpL_done (fun W16 hW16 => ?_)
             change Code.wp ..
             cases h4 : (rightS cs (⟨((k : Nat) : Int), ((tt : Nat) : Int), h⟩ : Slt) z) with
             | false =>
               refine wp_cond_false rfl ?_
               refine wp_skip ?_
               change Code.wp ..
               refine wp_region_L _ hW16 ?_
               refine lm (v := .int .u8 ((h : Nat) : Int)) rfl rfl ?_
               refine lp (v := .int .u8 (((h + 1) : Nat) : Int)) rfl rfl (run_bin rfl (vx := (.int .u8 ((h : Nat) : Int))) (vy := (.int .u8 ((1 : Nat) : Int))) Tw.kr Tw.kr fun w => bn_add (z := (h + 1)) rfl (wr_u8 Tw.om) w) ?_
               refine lm (v := .int .u8 (((h + 1) : Nat) : Int)) rfl rfl ?_
               refine wpL_done (fun W17 hW17 => ?_)
               go_roundw
               case rel =>
                 repeat apply Exists.intro
                 exact ⟨⟨h + 1, vd, Kd, Tw.om, (by rw [(upH_no (by have h9 := h4; unfold rightS at h9; rw [show exS cs _ _ = true from (ex_at8 hyc Tw.om).trans (decide_eq_true h2), Bool.true_and] at h9; exact h9))]; omega), (by rw [(upH_no (by have h9 := h4; unfold rightS at h9; rw [show exS cs _ _ = true from (ex_at8 hyc Tw.om).trans (decide_eq_true h2), Bool.true_and] at h9; exact h9))]; exact hOd), (show Dk g1 Kd from Tw.djt), rfl, rfl, (hW17.sub (fun p hp => by first | exact hp | (simp only [List.mem_cons, List.mem_append, List.nil_append, List.not_mem_nil, or_assoc, or_false, false_or] at hp ⊢ <;> grind)))⟩, rfl⟩
               case measure => (show 3 - (intOf (.int .u8 (((h + 1) : Nat) : Int))).toNat < 3 - (intOf (.int .u8 ((h : Nat) : Int))).toNat); simp only [intOf]; omega
             | true =>
               refine wp_cond_true rfl ?_
               refine wp_region_L _ hW16 ?_
               refine lm (v := vd) rfl rfl ?_
               refine lv (v := .agg #[.int .i64 ((k : Nat) : Int), .int .i64 ((tt : Nat) : Int), .int .u8 ((h : Nat) : Int)]) rfl rfl (yb_load (n := 3) (off := 0) rfl Tw.kr Tw.m0 Tryd.underlying34 rfl Tw.kr (by first | (simp [Value.cells]; done) | exact Nat.le_of_ble_eq_true rfl) Tw.kr) ?_
               refine wpL_new (fun g => .slice (some ⟨g, 0, none⟩) 1 1) (obi := .cells #[.int .i64 ((k : Nat) : Int), .int .i64 ((tt : Nat) : Int), .int .u8 ((h : Nat) : Int)] 34 (0, 0)) rfl rfl Tw.kf Tw.pf fun g8 Bg8 Fg8 => ?_
               obtain ⟨dj9_0, dj9_1, dj9_2⟩ : g6 ≠ g8 ∧ g1 ≠ g8 ∧ Dk g8 Kd := Tw.dkf Fg8
               refine wpL_g (AppO w 34 3 [(g6, .cells #[.int .i64 ((k : Nat) : Int), .int .i64 ((tt : Nat) : Int), .int .u8 ((h : Nat) : Int)] 34 (0, 0)), (g1, .cells (shC (.slice pc cs.length cc) (.slice po os.length co) t).toArray 32 (0, 0))] (((((slotsF z 0 (cs.take k)) ++ upT z k tt) ++ upH z k tt h).length) + 1) (((((slotsF z 0 (cs.take k)) ++ upT z k tt) ++ upH z k tt h).flatMap sltC) ++ [.int .i64 ((k : Nat) : Int), .int .i64 ((tt : Nat) : Int), .int .u8 ((h : Nat) : Int)])) rfl rfl (app_own el_slt (m := 1) (c := 1) (news := [.int .i64 ((k : Nat) : Int), .int .i64 ((tt : Nat) : Int), .int .u8 ((h : Nat) : Int)]) rfl Tw.kr Tw.kr Tw.m0 hOd Tw.sc (fun p hp => ⟨by simp only [List.mem_cons, List.mem_append, List.nil_append, List.not_mem_nil, or_assoc, or_false, false_or] at hp ⊢ <;> grind, (show Dj [(g6, .cells #[.int .i64 ((k : Nat) : Int), .int .i64 ((tt : Nat) : Int), .int .u8 ((h : Nat) : Int)] 34 (0, 0)), (g1, .cells (shC (.slice pc cs.length cc) (.slice po os.length co) t).toArray 32 (0, 0))] Kd from Tw.djt) p hp⟩) rfl (by simp [strV, Value.oneCell']) Tw.om Tw.om Tw.om) Tw.pf ?_
               rintro v10 K9 ⟨Kl10, O10, N10, rfl⟩
               obtain ⟨dj11_0, dj11_1⟩ : Dk g6 Kl10 ∧ Dk g1 Kl10 := Tw.djf N10
               refine lm (v := v10) rfl rfl ?_
               refine wpL_done (fun W18 hW18 => ?_)
               change Code.wp ..
               refine wp_region_L _ hW18 ?_
               refine lm (v := .int .u8 ((h : Nat) : Int)) rfl rfl ?_
               refine lp (v := .int .u8 (((h + 1) : Nat) : Int)) rfl rfl (run_bin rfl (vx := (.int .u8 ((h : Nat) : Int))) (vy := (.int .u8 ((1 : Nat) : Int))) Tw.kr Tw.kr fun w => bn_add (z := (h + 1)) rfl (wr_u8 Tw.om) w) ?_
               refine lm (v := .int .u8 (((h + 1) : Nat) : Int)) rfl rfl ?_
               refine wpL_done (fun W19 hW19 => ?_)
               go_roundw
               case rel =>
                 repeat apply Exists.intro
                 exact ⟨⟨h + 1, v10, Kl10, Tw.om, (by rw [(upH_yes (Bool.and_eq_true_iff.1 h4).2)]; have h9 := hld; simp only [List.length_append, List.length_singleton] at h9 ⊢; omega), (by rw [(upH_yes (Bool.and_eq_true_iff.1 h4).2), ← List.append_assoc, List.flatMap_append, List.length_append]; exact O10), (show Dk g1 Kl10 from Tw.djt), rfl, rfl, (hW19.sub (fun p hp => by first | exact hp | (simp only [List.mem_cons, List.mem_append, List.nil_append, List.not_mem_nil, or_assoc, or_false, false_or] at hp ⊢ <;> grind)))⟩, rfl⟩
               case measure => (show 3 - (intOf (.int .u8 (((h + 1) : Nat) : Int))).toNat < 3 - (intOf (.int .u8 ((h : Nat) : Int))).toNat); simp only [intOf]; omega
end Go.Proofs.YthpooalhibedpaaDoor
namespace Go.Proofs.YthpooalhibedpaaDoor
open Go Go.RowKit Tw
set_option maxRecDepth 100000 in
set_option maxHeartbeats 4000000 in
theorem LentShip_any (s : Sp) (w : World) (hs : SpIn w s) : Calls Tryd.prog 12 #[.agg (spC s).toArray] w fun e w' => ∃ t T, e = .returned (.agg (spC t).toArray) ∧ LentSp s t T ∧ (∀ b ∈ T, w.heap.size ≤ b.1) ∧ KS (w : Base) T w' := by
 go_enter Tryd.func12, Tryd.ntmps12
 refine wp_seq ?_
 refine wp_region_L [] (KS.start w) ?_
 refine wpL_new (fun g => .pointer (some ⟨g, 0, none⟩)) (obi := .cells #[.slice s.pc s.cs.length s.cc, .slice s.po s.os.length s.co, .int .i64 s.li.a, .int .i64 s.li.b, .int .i64 s.li.c, .int .i64 s.li.d, .slice s.pr s.rs.length s.cr, .slice s.pf s.fs.length s.cf, .slice s.pt s.ts.length s.ct, .int .i64 s.lm.a, .int .i64 s.lm.b, .int .i64 s.lm.c, .int .i64 s.lm.d] 32 (0, 0)) rfl rfl Tw.kf Tw.pf fun g1 Bg1 Fg1 => ?_
 refine wpL_new (fun g => .pointer (some ⟨g, 0, none⟩)) (obi := .cells (shC (.slice none 0 0) (.slice none 0 0) tl0).toArray 32 (0, 0)) rfl rfl Tw.kf Tw.pf fun g2 Bg2 Fg2 => ?_
 obtain dj3_0 : g1 ≠ g2 := Tw.dkf Fg2
 refine wpL_done (fun W1 hW1 => ?_)
 change Code.wp ..
 refine wp_seq ?_
 refine wp_region_L _ hW1 ?_
 refine lm (v := .pointer (some ⟨g1, 0, none⟩)) rfl rfl ?_
 refine lv (v := .slice s.pc s.cs.length s.cc) rfl rfl (yb_cell (off := 0) rfl Tw.kr Tw.m1 Tryd.underlying22 rfl Tw.kr) ?_
 refine wpL_c (f := 39) (args := #[.slice s.pc s.cs.length s.cc]) (NewF (FC s.cs) w [(g2, .cells (shC (.slice none 0 0) (.slice none 0 0) tl0).toArray 32 (0, 0)), (g1, .cells #[.slice s.pc s.cs.length s.cc, .slice s.po s.os.length s.co, .int .i64 s.li.a, .int .i64 s.li.b, .int .i64 s.li.c, .int .i64 s.li.d, .slice s.pr s.rs.length s.cr, .slice s.pf s.fs.length s.cf, .slice s.pt s.ts.length s.ct, .int .i64 s.lm.a, .int .i64 s.lm.b, .int .i64 s.lm.c, .int .i64 s.lm.d] 32 (0, 0))]) rfl Tw.kr Tw.kf (fun W hW => calls_new hW ((LentColumns_any s.cs s.pc s.cc hs.nc hs.np W (hs.hc.keep hW.1) (hs.hp.keep hW.1)).mono fun _ _ ⟨X, q, d, T, h1, h2, h3, h4, h5, h6, h7⟩ => ⟨_, T, h1, ⟨X, q, d, rfl, h2, h3, h4, h5⟩, h6, h7⟩)) Tw.pf ?_
 rintro _ _ ⟨T4, ⟨X4, p4, c4, rfl, n4, x4, L4, H4⟩, b4, N4, rfl⟩
 obtain ⟨dj5_0, dj5_1⟩ : Dk g2 T4 ∧ Dk g1 T4 := Tw.djf N4
 refine lm (v := .pointer (some ⟨g1, 0, none⟩)) rfl rfl ?_
 refine wpL_s ((g2, .cells (shC (.slice none 0 0) (.slice none 0 0) tl0).toArray 32 (0, 0)) :: (g1, .cells #[.slice p4 s.cs.length c4, .slice s.po s.os.length s.co, .int .i64 s.li.a, .int .i64 s.li.b, .int .i64 s.li.c, .int .i64 s.li.d, .slice s.pr s.rs.length s.cr, .slice s.pf s.fs.length s.cf, .slice s.pt s.ts.length s.ct, .int .i64 s.lm.a, .int .i64 s.lm.b, .int .i64 s.lm.c, .int .i64 s.lm.d] 32 (0, 0)) :: T4) rfl rfl (st_row (off := 0) (v := .slice p4 s.cs.length c4) rfl Tw.kr Tw.kr Tw.m1 Bg1 Tw.kr (by first | (simp [Value.cells]; done) | exact Nat.le_of_ble_eq_true rfl) (by intro v hv; simp [Value.cells] at hv; first | (subst hv; rfl) | (rcases hv with rfl <;> rfl)) Tw.kr (List.forall_mem_cons.2 ⟨.inr ⟨Tw.m0, Tw.nee⟩, (List.forall_mem_cons.2 ⟨.inl rfl, (fun p hp => .inr ⟨(.tail _ (.tail _ hp)), ((show Dk g1 T4 from Tw.djt) _ hp)⟩)⟩)⟩)) ?_
 refine wpL_done (fun W2 hW2 => ?_)
 change Code.wp ..
 refine wp_seq ?_
 refine wp_region_L _ hW2 ?_
 refine lm (v := .pointer (some ⟨g1, 1, none⟩)) rfl rfl ?_
 refine lv (v := .slice s.po s.os.length s.co) rfl rfl (yb_cell (off := 1) rfl Tw.kr Tw.m1 Tryd.underlying23 rfl Tw.kr) ?_
 refine wpL_c (f := 40) (args := #[.slice s.po s.os.length s.co]) (NewF (FO s.os) w ((g2, .cells (shC (.slice none 0 0) (.slice none 0 0) tl0).toArray 32 (0, 0)) :: (g1, .cells #[.slice p4 s.cs.length c4, .slice s.po s.os.length s.co, .int .i64 s.li.a, .int .i64 s.li.b, .int .i64 s.li.c, .int .i64 s.li.d, .slice s.pr s.rs.length s.cr, .slice s.pf s.fs.length s.cf, .slice s.pt s.ts.length s.ct, .int .i64 s.lm.a, .int .i64 s.lm.b, .int .i64 s.lm.c, .int .i64 s.lm.d] 32 (0, 0)) :: T4)) rfl Tw.kr Tw.kf (fun W hW => calls_new hW ((LentCovers_any s.os s.po s.co hs.no hs.nr W (hs.ho.keep hW.1) (hs.hr.keep hW.1)).mono fun _ _ ⟨X, q, d, T, h1, h2, h3, h4, h5, h6, h7⟩ => ⟨_, T, h1, ⟨X, q, d, rfl, h2, h3, h4, h5⟩, h6, h7⟩)) Tw.pf ?_
 rintro _ _ ⟨T6, ⟨X6, p6, c6, rfl, n6, x6, L6, H6⟩, b6, N6, rfl⟩
 obtain ⟨dj7_0, dj7_1, dj7_2⟩ : Dk g2 T6 ∧ Dk g1 T6 ∧ Dj T4 T6 := Tw.djf N6
 refine wpL_sub (K2 := ((g2, .cells (shC (.slice none 0 0) (.slice none 0 0) tl0).toArray 32 (0, 0)) :: (g1, .cells #[.slice p4 s.cs.length c4, .slice s.po s.os.length s.co, .int .i64 s.li.a, .int .i64 s.li.b, .int .i64 s.li.c, .int .i64 s.li.d, .slice s.pr s.rs.length s.cr, .slice s.pf s.fs.length s.cf, .slice s.pt s.ts.length s.ct, .int .i64 s.lm.a, .int .i64 s.lm.b, .int .i64 s.lm.c, .int .i64 s.lm.d] 32 (0, 0)) :: (T4 ++ T6))) (fun p hp => by simp only [List.mem_cons, List.mem_append, or_assoc] at hp ⊢; exact hp) ?_
 refine lm (v := .pointer (some ⟨g1, 1, none⟩)) rfl rfl ?_
 refine wpL_s ((g2, .cells (shC (.slice none 0 0) (.slice none 0 0) tl0).toArray 32 (0, 0)) :: (g1, .cells #[.slice p4 s.cs.length c4, .slice p6 s.os.length c6, .int .i64 s.li.a, .int .i64 s.li.b, .int .i64 s.li.c, .int .i64 s.li.d, .slice s.pr s.rs.length s.cr, .slice s.pf s.fs.length s.cf, .slice s.pt s.ts.length s.ct, .int .i64 s.lm.a, .int .i64 s.lm.b, .int .i64 s.lm.c, .int .i64 s.lm.d] 32 (0, 0)) :: (T4 ++ T6)) rfl rfl (st_row (off := 1) (v := .slice p6 s.os.length c6) rfl Tw.kr Tw.kr Tw.m1 Bg1 Tw.kr (by first | (simp [Value.cells]; done) | exact Nat.le_of_ble_eq_true rfl) (by intro v hv; simp [Value.cells] at hv; first | (subst hv; rfl) | (rcases hv with rfl <;> rfl)) Tw.kr (List.forall_mem_cons.2 ⟨.inr ⟨Tw.m0, Tw.nee⟩, (List.forall_mem_cons.2 ⟨.inl rfl, (fun p hp => .inr ⟨(.tail _ (.tail _ hp)), ((show Dk g1 (T4 ++ T6) from Tw.djt) _ hp)⟩)⟩)⟩)) ?_
 refine wpL_done (fun W3 hW3 => ?_)
 change Code.wp ..
 refine wp_seq ?_
 refine wp_region_L _ hW3 ?_
 refine lm (v := .pointer (some ⟨g1, 6, none⟩)) rfl rfl ?_
 refine lv (v := .slice s.pr s.rs.length s.cr) rfl rfl (yb_cell (off := 6) rfl Tw.kr Tw.m1 Tryd.underlying26 rfl Tw.kr) ?_
 refine wpL_c (f := 41) (args := #[.slice s.pr s.rs.length s.cr]) (NewF (FN (mkRowL 12) s.rs) w ((g2, .cells (shC (.slice none 0 0) (.slice none 0 0) tl0).toArray 32 (0, 0)) :: (g1, .cells #[.slice p4 s.cs.length c4, .slice p6 s.os.length c6, .int .i64 s.li.a, .int .i64 s.li.b, .int .i64 s.li.c, .int .i64 s.li.d, .slice s.pr s.rs.length s.cr, .slice s.pf s.fs.length s.cf, .slice s.pt s.ts.length s.ct, .int .i64 s.lm.a, .int .i64 s.lm.b, .int .i64 s.lm.c, .int .i64 s.lm.d] 32 (0, 0)) :: (T4 ++ T6))) rfl Tw.kr Tw.kf (fun W hW => calls_new hW (fn_of (LentRows_any s.rs s.pr s.cr hs.nrs W (hs.hrs.keep hW.1)))) Tw.pf ?_
 rintro _ _ ⟨T8, ⟨p8, c8, rfl, n8, H8⟩, b8, N8, rfl⟩
 obtain ⟨dj9_0, dj9_1, dj9_2, dj9_3⟩ : Dk g2 T8 ∧ Dk g1 T8 ∧ Dj T4 T8 ∧ Dj T6 T8 := Tw.djf N8
 refine wpL_sub (K2 := ((g2, .cells (shC (.slice none 0 0) (.slice none 0 0) tl0).toArray 32 (0, 0)) :: (g1, .cells #[.slice p4 s.cs.length c4, .slice p6 s.os.length c6, .int .i64 s.li.a, .int .i64 s.li.b, .int .i64 s.li.c, .int .i64 s.li.d, .slice s.pr s.rs.length s.cr, .slice s.pf s.fs.length s.cf, .slice s.pt s.ts.length s.ct, .int .i64 s.lm.a, .int .i64 s.lm.b, .int .i64 s.lm.c, .int .i64 s.lm.d] 32 (0, 0)) :: (T4 ++ (T6 ++ T8)))) (fun p hp => by simp only [List.mem_cons, List.mem_append, or_assoc] at hp ⊢; exact hp) ?_
 refine lm (v := .pointer (some ⟨g1, 6, none⟩)) rfl rfl ?_
 refine wpL_s ((g2, .cells (shC (.slice none 0 0) (.slice none 0 0) tl0).toArray 32 (0, 0)) :: (g1, .cells #[.slice p4 s.cs.length c4, .slice p6 s.os.length c6, .int .i64 s.li.a, .int .i64 s.li.b, .int .i64 s.li.c, .int .i64 s.li.d, .slice p8 s.rs.length c8, .slice s.pf s.fs.length s.cf, .slice s.pt s.ts.length s.ct, .int .i64 s.lm.a, .int .i64 s.lm.b, .int .i64 s.lm.c, .int .i64 s.lm.d] 32 (0, 0)) :: (T4 ++ (T6 ++ T8))) rfl rfl (st_row (off := 6) (v := .slice p8 s.rs.length c8) rfl Tw.kr Tw.kr Tw.m1 Bg1 Tw.kr (by first | (simp [Value.cells]; done) | exact Nat.le_of_ble_eq_true rfl) (by intro v hv; simp [Value.cells] at hv; first | (subst hv; rfl) | (rcases hv with rfl <;> rfl)) Tw.kr (List.forall_mem_cons.2 ⟨.inr ⟨Tw.m0, Tw.nee⟩, (List.forall_mem_cons.2 ⟨.inl rfl, (fun p hp => .inr ⟨(.tail _ (.tail _ hp)), ((show Dk g1 (T4 ++ (T6 ++ T8)) from Tw.djt) _ hp)⟩)⟩)⟩)) ?_
 refine wpL_done (fun W4 hW4 => ?_)
 change Code.wp ..
 refine wp_seq ?_
 refine wp_region_L _ hW4 ?_
 refine lm (v := .pointer (some ⟨g1, 7, none⟩)) rfl rfl ?_
 refine lv (v := .slice s.pf s.fs.length s.cf) rfl rfl (yb_cell (off := 7) rfl Tw.kr Tw.m1 Tryd.underlying27 rfl Tw.kr) ?_
 refine wpL_c (f := 42) (args := #[.slice s.pf s.fs.length s.cf]) (NewF (FN (mkFraL 12) s.fs) w ((g2, .cells (shC (.slice none 0 0) (.slice none 0 0) tl0).toArray 32 (0, 0)) :: (g1, .cells #[.slice p4 s.cs.length c4, .slice p6 s.os.length c6, .int .i64 s.li.a, .int .i64 s.li.b, .int .i64 s.li.c, .int .i64 s.li.d, .slice p8 s.rs.length c8, .slice s.pf s.fs.length s.cf, .slice s.pt s.ts.length s.ct, .int .i64 s.lm.a, .int .i64 s.lm.b, .int .i64 s.lm.c, .int .i64 s.lm.d] 32 (0, 0)) :: (T4 ++ (T6 ++ T8)))) rfl Tw.kr Tw.kf (fun W hW => calls_new hW (fn_of (LentFrames_any s.fs s.pf s.cf hs.nfs W (hs.hfs.keep hW.1)))) Tw.pf ?_
 rintro _ _ ⟨T10, ⟨p10, c10, rfl, n10, H10⟩, b10, N10, rfl⟩
 obtain ⟨dj11_0, dj11_1, dj11_2, dj11_3, dj11_4⟩ : Dk g2 T10 ∧ Dk g1 T10 ∧ Dj T4 T10 ∧ Dj T6 T10 ∧ Dj T8 T10 := Tw.djf N10
 refine wpL_sub (K2 := ((g2, .cells (shC (.slice none 0 0) (.slice none 0 0) tl0).toArray 32 (0, 0)) :: (g1, .cells #[.slice p4 s.cs.length c4, .slice p6 s.os.length c6, .int .i64 s.li.a, .int .i64 s.li.b, .int .i64 s.li.c, .int .i64 s.li.d, .slice p8 s.rs.length c8, .slice s.pf s.fs.length s.cf, .slice s.pt s.ts.length s.ct, .int .i64 s.lm.a, .int .i64 s.lm.b, .int .i64 s.lm.c, .int .i64 s.lm.d] 32 (0, 0)) :: (T4 ++ (T6 ++ (T8 ++ T10))))) (fun p hp => by simp only [List.mem_cons, List.mem_append, or_assoc] at hp ⊢; exact hp) ?_
 refine lm (v := .pointer (some ⟨g1, 7, none⟩)) rfl rfl ?_
 refine wpL_s ((g2, .cells (shC (.slice none 0 0) (.slice none 0 0) tl0).toArray 32 (0, 0)) :: (g1, .cells #[.slice p4 s.cs.length c4, .slice p6 s.os.length c6, .int .i64 s.li.a, .int .i64 s.li.b, .int .i64 s.li.c, .int .i64 s.li.d, .slice p8 s.rs.length c8, .slice p10 s.fs.length c10, .slice s.pt s.ts.length s.ct, .int .i64 s.lm.a, .int .i64 s.lm.b, .int .i64 s.lm.c, .int .i64 s.lm.d] 32 (0, 0)) :: (T4 ++ (T6 ++ (T8 ++ T10)))) rfl rfl (st_row (off := 7) (v := .slice p10 s.fs.length c10) rfl Tw.kr Tw.kr Tw.m1 Bg1 Tw.kr (by first | (simp [Value.cells]; done) | exact Nat.le_of_ble_eq_true rfl) (by intro v hv; simp [Value.cells] at hv; first | (subst hv; rfl) | (rcases hv with rfl <;> rfl)) Tw.kr (List.forall_mem_cons.2 ⟨.inr ⟨Tw.m0, Tw.nee⟩, (List.forall_mem_cons.2 ⟨.inl rfl, (fun p hp => .inr ⟨(.tail _ (.tail _ hp)), ((show Dk g1 (T4 ++ (T6 ++ (T8 ++ T10))) from Tw.djt) _ hp)⟩)⟩)⟩)) ?_
 refine wpL_done (fun W5 hW5 => ?_)
 change Code.wp ..
 refine wp_seq ?_
 refine wp_region_L _ hW5 ?_
 refine lm (v := .pointer (some ⟨g1, 8, none⟩)) rfl rfl ?_
 refine lv (v := .slice s.pt s.ts.length s.ct) rfl rfl (yb_cell (off := 8) rfl Tw.kr Tw.m1 Tryd.underlying28 rfl Tw.kr) ?_
 refine wpL_c (f := 43) (args := #[.slice s.pt s.ts.length s.ct]) (NewF (FT s.ts) w ((g2, .cells (shC (.slice none 0 0) (.slice none 0 0) tl0).toArray 32 (0, 0)) :: (g1, .cells #[.slice p4 s.cs.length c4, .slice p6 s.os.length c6, .int .i64 s.li.a, .int .i64 s.li.b, .int .i64 s.li.c, .int .i64 s.li.d, .slice p8 s.rs.length c8, .slice p10 s.fs.length c10, .slice s.pt s.ts.length s.ct, .int .i64 s.lm.a, .int .i64 s.lm.b, .int .i64 s.lm.c, .int .i64 s.lm.d] 32 (0, 0)) :: (T4 ++ (T6 ++ (T8 ++ T10))))) rfl Tw.kr Tw.kf (fun W hW => calls_new hW ((LentTanks_any s.ts s.pt s.ct hs.nts hs.nst W (hs.hts.keep hW.1) (hs.hst.keep hW.1)).mono fun _ _ ⟨X, q, d, T, h1, h2, h3, h4, h5, h6, h7⟩ => ⟨_, T, h1, ⟨X, q, d, rfl, h2, h3, h4, h5⟩, h6, h7⟩)) Tw.pf ?_
 rintro _ _ ⟨T12, ⟨X12, p12, c12, rfl, n12, x12, L12, H12⟩, b12, N12, rfl⟩
 obtain ⟨dj13_0, dj13_1, dj13_2, dj13_3, dj13_4, dj13_5⟩ : Dk g2 T12 ∧ Dk g1 T12 ∧ Dj T4 T12 ∧ Dj T6 T12 ∧ Dj T8 T12 ∧ Dj T10 T12 := Tw.djf N12
 refine wpL_sub (K2 := ((g2, .cells (shC (.slice none 0 0) (.slice none 0 0) tl0).toArray 32 (0, 0)) :: (g1, .cells #[.slice p4 s.cs.length c4, .slice p6 s.os.length c6, .int .i64 s.li.a, .int .i64 s.li.b, .int .i64 s.li.c, .int .i64 s.li.d, .slice p8 s.rs.length c8, .slice p10 s.fs.length c10, .slice s.pt s.ts.length s.ct, .int .i64 s.lm.a, .int .i64 s.lm.b, .int .i64 s.lm.c, .int .i64 s.lm.d] 32 (0, 0)) :: (T4 ++ (T6 ++ (T8 ++ (T10 ++ T12)))))) (fun p hp => by simp only [List.mem_cons, List.mem_append, or_assoc] at hp ⊢; exact hp) ?_
 refine lm (v := .pointer (some ⟨g1, 8, none⟩)) rfl rfl ?_
 refine wpL_s ((g2, .cells (shC (.slice none 0 0) (.slice none 0 0) tl0).toArray 32 (0, 0)) :: (g1, .cells #[.slice p4 s.cs.length c4, .slice p6 s.os.length c6, .int .i64 s.li.a, .int .i64 s.li.b, .int .i64 s.li.c, .int .i64 s.li.d, .slice p8 s.rs.length c8, .slice p10 s.fs.length c10, .slice p12 s.ts.length c12, .int .i64 s.lm.a, .int .i64 s.lm.b, .int .i64 s.lm.c, .int .i64 s.lm.d] 32 (0, 0)) :: (T4 ++ (T6 ++ (T8 ++ (T10 ++ T12))))) rfl rfl (st_row (off := 8) (v := .slice p12 s.ts.length c12) rfl Tw.kr Tw.kr Tw.m1 Bg1 Tw.kr (by first | (simp [Value.cells]; done) | exact Nat.le_of_ble_eq_true rfl) (by intro v hv; simp [Value.cells] at hv; first | (subst hv; rfl) | (rcases hv with rfl <;> rfl)) Tw.kr (List.forall_mem_cons.2 ⟨.inr ⟨Tw.m0, Tw.nee⟩, (List.forall_mem_cons.2 ⟨.inl rfl, (fun p hp => .inr ⟨(.tail _ (.tail _ hp)), ((show Dk g1 (T4 ++ (T6 ++ (T8 ++ (T10 ++ T12)))) from Tw.djt) _ hp)⟩)⟩)⟩)) ?_
 refine wpL_done (fun W6 hW6 => ?_)
 change Code.wp ..
 refine wp_seq ?_
 refine wp_region_L _ hW6 ?_
 refine lv (v := .agg #[.slice p4 s.cs.length c4, .slice p6 s.os.length c6, .int .i64 s.li.a, .int .i64 s.li.b, .int .i64 s.li.c, .int .i64 s.li.d, .slice p8 s.rs.length c8, .slice p10 s.fs.length c10, .slice p12 s.ts.length c12, .int .i64 s.lm.a, .int .i64 s.lm.b, .int .i64 s.lm.c, .int .i64 s.lm.d]) rfl rfl (yb_load (n := 13) (off := 0) rfl Tw.kr Tw.m1 Tryd.underlying32 rfl Tw.kr (by first | (simp [Value.cells]; done) | exact Nat.le_of_ble_eq_true rfl) Tw.kr) ?_
 refine wpL_s ((g2, .cells #[.slice p4 s.cs.length c4, .slice p6 s.os.length c6, .int .i64 s.li.a, .int .i64 s.li.b, .int .i64 s.li.c, .int .i64 s.li.d, .slice p8 s.rs.length c8, .slice p10 s.fs.length c10, .slice p12 s.ts.length c12, .int .i64 s.lm.a, .int .i64 s.lm.b, .int .i64 s.lm.c, .int .i64 s.lm.d] 32 (0, 0)) :: (g1, .cells #[.slice p4 s.cs.length c4, .slice p6 s.os.length c6, .int .i64 s.li.a, .int .i64 s.li.b, .int .i64 s.li.c, .int .i64 s.li.d, .slice p8 s.rs.length c8, .slice p10 s.fs.length c10, .slice p12 s.ts.length c12, .int .i64 s.lm.a, .int .i64 s.lm.b, .int .i64 s.lm.c, .int .i64 s.lm.d] 32 (0, 0)) :: (T4 ++ (T6 ++ (T8 ++ (T10 ++ T12))))) rfl rfl (st_row (off := 0) (v := .agg #[.slice p4 s.cs.length c4, .slice p6 s.os.length c6, .int .i64 s.li.a, .int .i64 s.li.b, .int .i64 s.li.c, .int .i64 s.li.d, .slice p8 s.rs.length c8, .slice p10 s.fs.length c10, .slice p12 s.ts.length c12, .int .i64 s.lm.a, .int .i64 s.lm.b, .int .i64 s.lm.c, .int .i64 s.lm.d]) rfl Tw.kr Tw.kr Tw.m0 Bg2 Tw.kr (by first | (simp [Value.cells]; done) | exact Nat.le_of_ble_eq_true rfl) (by intro v hv; simp [Value.cells] at hv; first | (subst hv; rfl) | (rcases hv with rfl | rfl | rfl | rfl | rfl | rfl | rfl | rfl | rfl | rfl | rfl | rfl | rfl <;> rfl)) Tw.kr (List.forall_mem_cons.2 ⟨.inl rfl, (List.forall_mem_cons.2 ⟨.inr ⟨Tw.m1, Tw.nee⟩, (fun p hp => .inr ⟨(.tail _ (.tail _ hp)), ((show Dk g2 (T4 ++ (T6 ++ (T8 ++ (T10 ++ T12)))) from Tw.djt) _ hp)⟩)⟩)⟩)) ?_
 refine wpL_done (fun W7 hW7 => ?_)
 change Code.wp ..
 refine wp_ret ?_
 try simp only [inBlock_ret, then_ret]
 refine bodyPost_ret (v := .agg #[.slice p4 s.cs.length c4, .slice p6 s.os.length c6, .int .i64 s.li.a, .int .i64 s.li.b, .int .i64 s.li.c, .int .i64 s.li.d, .slice p8 s.rs.length c8, .slice p10 s.fs.length c10, .slice p12 s.ts.length c12, .int .i64 s.lm.a, .int .i64 s.lm.b, .int .i64 s.lm.c, .int .i64 s.lm.d]) ?_ rfl ?_
 · exact (res_cell (p := 2) rfl rfl (hW7.2 _ Tw.m0) Tryd.underlying32 rfl Tw.kr)
 · exact ⟨({ s with cs := X4, pc := p4, cc := c4, os := X6, po := p6, co := c6, pr := p8, cr := c8, pf := p10, cf := c10, ts := X12, pt := p12, ct := c12 } : Sp), (T4 ++ (T6 ++ (T8 ++ (T10 ++ T12)))), by simp [spC, spT, shC, x4, x6, x12], ⟨⟨rfl, rfl, rfl, rfl⟩, ⟨x4, L4.mono (fun p hp => by simp only [List.mem_cons, List.mem_append, List.nil_append, List.not_mem_nil, or_assoc, or_false, false_or, hp, true_or, or_true]), H4.mono (fun p hp => by simp only [List.mem_cons, List.mem_append, List.nil_append, List.not_mem_nil, or_assoc, or_false, false_or, hp, true_or, or_true]), n4⟩, ⟨x6, L6.mono (fun p hp => by simp only [List.mem_cons, List.mem_append, List.nil_append, List.not_mem_nil, or_assoc, or_false, false_or, hp, true_or, or_true]), H6.mono (fun p hp => by simp only [List.mem_cons, List.mem_append, List.nil_append, List.not_mem_nil, or_assoc, or_false, false_or, hp, true_or, or_true]), n6⟩, ⟨x12, L12.mono (fun p hp => by simp only [List.mem_cons, List.mem_append, List.nil_append, List.not_mem_nil, or_assoc, or_false, false_or, hp, true_or, or_true]), H12.mono (fun p hp => by simp only [List.mem_cons, List.mem_append, List.nil_append, List.not_mem_nil, or_assoc, or_false, false_or, hp, true_or, or_true]), n12⟩, ⟨H8.mono (fun p hp => by simp only [List.mem_cons, List.mem_append, List.nil_append, List.not_mem_nil, or_assoc, or_false, false_or, hp, true_or, or_true]), n8⟩, ⟨H10.mono (fun p hp => by simp only [List.mem_cons, List.mem_append, List.nil_append, List.not_mem_nil, or_assoc, or_false, false_or, hp, true_or, or_true]), n10⟩⟩, (fun b hb => by simp only [List.mem_append] at hb; rcases hb with h | h | h | h | h; exact b4 b h; exact b6 b h; exact b8 b h; exact b10 b h; exact b12 b h), hW7.sub (fun p hp => by simp only [List.mem_cons, List.mem_append, List.nil_append, List.not_mem_nil, or_assoc, or_false, false_or, hp, true_or, or_true])⟩
end Go.Proofs.YthpooalhibedpaaDoor
namespace Go.Proofs.YthpooalhibedpaaDoor
open Go Go.RowKit Tw
theorem eq_light (r : N4) {px py : Operand} (w : World) : (do eqGuard .eql 25 px py (.agg (n4C r).toArray) (.agg (n4C r).toArray); binOp .eql 25 (.agg (n4C r).toArray) (.agg (n4C r).toArray) : Sem Value).run Tryd.prog w = .ok (.bool true) w := by
 unfold n4C
 go_simp
theorem eq_limits (r : N4) {px py : Operand} (w : World) : (do eqGuard .eql 30 px py (.agg (n4C r).toArray) (.agg (n4C r).toArray); binOp .eql 30 (.agg (n4C r).toArray) (.agg (n4C r).toArray) : Sem Value).run Tryd.prog w = .ok (.bool true) w := by
 unfold n4C
 go_simp
theorem slv_preg {α : Type} {cells : α → List Value} {W : World} {p : Option Addr} {l m : List α} (h : SLV W p ((l ++ m).flatMap cells)) : SLV W p (l.flatMap cells) := by
 rw [List.flatMap_append] at h
 refine h.elim (fun e => .inl (List.append_eq_nil_iff.1 e).1) fun ⟨b, off, hp, hlt, hc⟩ => .inr ⟨b, off, hp, hlt, fun i u hu => hc i u ?_⟩
 rw [List.getElem?_append_left (List.getElem?_eq_some_iff.1 hu).1]
 exact hu
theorem LentOA.keep {W W' : World} {l X : List Cov} (h : LentOA W l X) (hb : Below W.heap.size W W') : LentOA W' l X := fun j x hx => by
 obtain ⟨y, q, d, h1, h2, h3, h4⟩ := h j x hx
 exact ⟨y, q, d, h1, h2, h3, h4.keep hb⟩
theorem LentCA.keep {W W' : World} {l X : List Col} (h : LentCA W l X) (hb : Below W.heap.size W W') : LentCA W' l X := fun j x hx => by
 obtain ⟨y, q, d, h1, h2, h3, h4⟩ := h j x hx
 exact ⟨y, q, d, h1, h2, h3, h4.keep hb⟩
theorem LentTA.keep {W W' : World} {l X : List Tk} (h : LentTA W l X) (hb : Below W.heap.size W W') : LentTA W' l X := fun j x hx => by
 obtain ⟨y, q, d, h1, h2, h3, h4⟩ := h j x hx
 exact ⟨y, q, d, h1, h2, h3, h4.keep hb⟩
theorem held {W W' : World} {b : Nat × Obj} (hb : Below W.heap.size W W') (h : W.heap[b.1]? = some b.2) : W'.heap[b.1]? = some b.2 :=
 (KS.below (W0 := (W : Base)) (K := [b]) ⟨Below.refl _ _, fun p hp => by cases List.mem_singleton.1 hp; exact h⟩ hb).2 _ Tw.m0
theorem SpIn.keep {W W' : World} {s : Sp} (h : SpIn W s) (hb : Below W.heap.size W W') : SpIn W' s := ⟨h.nc, h.no, h.np, h.nr, h.nrs, h.nfs, h.nts, h.nst, h.hc.keep hb, h.ho.keep hb, h.hp.keep hb, h.hr.keep hb, h.hrs.keep hb, h.hfs.keep hb, h.hts.keep hb, h.hst.keep hb⟩
set_option maxRecDepth 100000 in
set_option maxHeartbeats 4000000 in
theorem SameShip_any (s t : Sp) (T : List (Nat × Obj)) (w : World) (hs : SpIn w s) (h : LentSp s t T) (hT : ∀ b ∈ T, w.heap[b.1]? = some b.2) : Calls Tryd.prog 60 #[.agg (spC t).toArray, .agg (spC s).toArray] w fun e w' => e = .returned (.bool true) ∧ Below w.heap.size w w' := by
 go_enter Tryd.func60, Tryd.ntmps60
 refine wp_seq ?_
 refine wp_region_L [] (KS.start w) ?_
 refine wpL_new (fun g => .pointer (some ⟨g, 0, none⟩)) (obi := .cells #[.slice t.pc t.cs.length t.cc, .slice t.po t.os.length t.co, .int .i64 t.li.a, .int .i64 t.li.b, .int .i64 t.li.c, .int .i64 t.li.d, .slice t.pr t.rs.length t.cr, .slice t.pf t.fs.length t.cf, .slice t.pt t.ts.length t.ct, .int .i64 t.lm.a, .int .i64 t.lm.b, .int .i64 t.lm.c, .int .i64 t.lm.d] 32 (0, 0)) rfl rfl Tw.kf Tw.pf fun g1 Bg1 Fg1 => ?_
 refine wpL_new (fun g => .pointer (some ⟨g, 0, none⟩)) (obi := .cells #[.slice s.pc s.cs.length s.cc, .slice s.po s.os.length s.co, .int .i64 s.li.a, .int .i64 s.li.b, .int .i64 s.li.c, .int .i64 s.li.d, .slice s.pr s.rs.length s.cr, .slice s.pf s.fs.length s.cf, .slice s.pt s.ts.length s.ct, .int .i64 s.lm.a, .int .i64 s.lm.b, .int .i64 s.lm.c, .int .i64 s.lm.d] 32 (0, 0)) rfl rfl Tw.kf Tw.pf fun g2 Bg2 Fg2 => ?_
 obtain dj3_0 : g1 ≠ g2 := Tw.dkf Fg2
 refine lm (v := .bool false) rfl rfl ?_
 refine wpL_done (fun W1 hW1 => ?_)
 change Code.wp ..
 refine wp_seq ?_
 refine wp_region_L _ hW1 ?_
 refine lm (v := .pointer (some ⟨g1, 0, none⟩)) rfl rfl ?_
 refine lv (v := .slice t.pc t.cs.length t.cc) rfl rfl (yb_cell (off := 0) rfl Tw.kr Tw.m1 Tryd.underlying22 rfl Tw.kr) ?_
 refine lm (v := .pointer (some ⟨g2, 0, none⟩)) rfl rfl ?_
 refine lv (v := .slice s.pc s.cs.length s.cc) rfl rfl (yb_cell (off := 0) rfl Tw.kr Tw.m0 Tryd.underlying22 rfl Tw.kr) ?_
 refine lv (v := .bool true) rfl rfl (yb_call (f := 85) (args := #[.slice t.pc t.cs.length t.cc, .slice s.pc s.cs.length s.cc]) Tw.kf fun W hW => SameColumns_any s.cs t.cs t.pc s.pc t.cc s.cc hs.nc hs.np h.cs.1 W ((slv_preg (h.cs.2.2.1 w hT)).keep hW.1) ((h.cs.2.1.at hT).keep hW.1) ((hs.hc).keep hW.1) ((hs.hp).keep hW.1)) ?_
 refine lm (v := .bool true) rfl rfl ?_
 refine lm (v := .pointer (some ⟨g1, 1, none⟩)) rfl rfl ?_
 refine lv (v := .slice t.po t.os.length t.co) rfl rfl (yb_cell (off := 1) rfl Tw.kr Tw.m1 Tryd.underlying23 rfl Tw.kr) ?_
 refine lm (v := .pointer (some ⟨g2, 1, none⟩)) rfl rfl ?_
 refine lv (v := .slice s.po s.os.length s.co) rfl rfl (yb_cell (off := 1) rfl Tw.kr Tw.m0 Tryd.underlying23 rfl Tw.kr) ?_
 refine lv (v := .bool true) rfl rfl (yb_call (f := 86) (args := #[.slice t.po t.os.length t.co, .slice s.po s.os.length s.co]) Tw.kf fun W hW => SameCovers_any s.os t.os t.po s.po t.co s.co hs.no hs.nr h.os.1 W ((slv_preg (h.os.2.2.1 w hT)).keep hW.1) ((h.os.2.1.at hT).keep hW.1) ((hs.ho).keep hW.1) ((hs.hr).keep hW.1)) ?_
 refine lm (v := .bool true) rfl rfl ?_
 refine lm (v := .bool true) rfl rfl ?_
 refine lm (v := .pointer (some ⟨g1, 2, none⟩)) rfl rfl ?_
 refine lv (v := .agg #[.int .i64 t.li.a, .int .i64 t.li.b, .int .i64 t.li.c, .int .i64 t.li.d]) rfl rfl (yb_load (n := 4) (off := 2) rfl Tw.kr Tw.m1 Tryd.underlying25 rfl Tw.kr (by first | (simp [Value.cells]; done) | exact Nat.le_of_ble_eq_true rfl) Tw.kr) ?_
 refine lm (v := .pointer (some ⟨g2, 2, none⟩)) rfl rfl ?_
 refine lv (v := .agg #[.int .i64 s.li.a, .int .i64 s.li.b, .int .i64 s.li.c, .int .i64 s.li.d]) rfl rfl (yb_load (n := 4) (off := 2) rfl Tw.kr Tw.m0 Tryd.underlying25 rfl Tw.kr (by first | (simp [Value.cells]; done) | exact Nat.le_of_ble_eq_true rfl) Tw.kr) ?_
 refine lp (v := .bool true) rfl rfl (run_bin rfl (vx := .agg #[.int .i64 t.li.a, .int .i64 t.li.b, .int .i64 t.li.c, .int .i64 t.li.d]) (vy := .agg #[.int .i64 s.li.a, .int .i64 s.li.b, .int .i64 s.li.c, .int .i64 s.li.d]) Tw.kr Tw.kr fun w => (by rw [h.rest.1]; exact eq_light s.li w)) ?_
 refine lm (v := .bool true) rfl rfl ?_
 refine lm (v := .bool true) rfl rfl ?_
 refine lm (v := .pointer (some ⟨g1, 6, none⟩)) rfl rfl ?_
 refine lv (v := .slice t.pr t.rs.length t.cr) rfl rfl (yb_cell (off := 6) rfl Tw.kr Tw.m1 Tryd.underlying26 rfl Tw.kr) ?_
 refine lm (v := .pointer (some ⟨g2, 6, none⟩)) rfl rfl ?_
 refine lv (v := .slice s.pr s.rs.length s.cr) rfl rfl (yb_cell (off := 6) rfl Tw.kr Tw.m0 Tryd.underlying26 rfl Tw.kr) ?_
 refine lv (v := .bool true) rfl rfl (yb_call (f := 87) (args := #[.slice t.pr t.rs.length t.cr, .slice s.pr s.rs.length s.cr]) Tw.kf fun W hW => (by rw [h.rest.2.2.1]; exact SameRows_any s.rs t.pr s.pr t.cr s.cr hs.nrs W ((slv_preg (h.rs.1 w hT)).keep hW.1) ((hs.hrs).keep hW.1))) ?_
 refine lm (v := .bool true) rfl rfl ?_
 refine lm (v := .bool true) rfl rfl ?_
 refine lm (v := .pointer (some ⟨g1, 7, none⟩)) rfl rfl ?_
 refine lv (v := .slice t.pf t.fs.length t.cf) rfl rfl (yb_cell (off := 7) rfl Tw.kr Tw.m1 Tryd.underlying27 rfl Tw.kr) ?_
 refine lm (v := .pointer (some ⟨g2, 7, none⟩)) rfl rfl ?_
 refine lv (v := .slice s.pf s.fs.length s.cf) rfl rfl (yb_cell (off := 7) rfl Tw.kr Tw.m0 Tryd.underlying27 rfl Tw.kr) ?_
 refine lv (v := .bool true) rfl rfl (yb_call (f := 88) (args := #[.slice t.pf t.fs.length t.cf, .slice s.pf s.fs.length s.cf]) Tw.kf fun W hW => (by rw [h.rest.2.2.2]; exact SameFrames_any s.fs t.pf s.pf t.cf s.cf hs.nfs W ((slv_preg (h.fs.1 w hT)).keep hW.1) ((hs.hfs).keep hW.1))) ?_
 refine lm (v := .bool true) rfl rfl ?_
 refine lm (v := .bool true) rfl rfl ?_
 refine lm (v := .pointer (some ⟨g1, 8, none⟩)) rfl rfl ?_
 refine lv (v := .slice t.pt t.ts.length t.ct) rfl rfl (yb_cell (off := 8) rfl Tw.kr Tw.m1 Tryd.underlying28 rfl Tw.kr) ?_
 refine lm (v := .pointer (some ⟨g2, 8, none⟩)) rfl rfl ?_
 refine lv (v := .slice s.pt s.ts.length s.ct) rfl rfl (yb_cell (off := 8) rfl Tw.kr Tw.m0 Tryd.underlying28 rfl Tw.kr) ?_
 refine lv (v := .bool true) rfl rfl (yb_call (f := 89) (args := #[.slice t.pt t.ts.length t.ct, .slice s.pt s.ts.length s.ct]) Tw.kf fun W hW => SameTanks_any s.ts t.ts t.pt s.pt t.ct s.ct hs.nts hs.nst h.ts.1 W ((slv_preg (h.ts.2.2.1 w hT)).keep hW.1) ((h.ts.2.1.at hT).keep hW.1) ((hs.hts).keep hW.1) ((hs.hst).keep hW.1)) ?_
 refine lm (v := .bool true) rfl rfl ?_
 refine lm (v := .bool true) rfl rfl ?_
 refine lm (v := .pointer (some ⟨g1, 9, none⟩)) rfl rfl ?_
 refine lv (v := .agg #[.int .i64 t.lm.a, .int .i64 t.lm.b, .int .i64 t.lm.c, .int .i64 t.lm.d]) rfl rfl (yb_load (n := 4) (off := 9) rfl Tw.kr Tw.m1 Tryd.underlying30 rfl Tw.kr (by first | (simp [Value.cells]; done) | exact Nat.le_of_ble_eq_true rfl) Tw.kr) ?_
 refine lm (v := .pointer (some ⟨g2, 9, none⟩)) rfl rfl ?_
 refine lv (v := .agg #[.int .i64 s.lm.a, .int .i64 s.lm.b, .int .i64 s.lm.c, .int .i64 s.lm.d]) rfl rfl (yb_load (n := 4) (off := 9) rfl Tw.kr Tw.m0 Tryd.underlying30 rfl Tw.kr (by first | (simp [Value.cells]; done) | exact Nat.le_of_ble_eq_true rfl) Tw.kr) ?_
 refine lp (v := .bool true) rfl rfl (run_bin rfl (vx := .agg #[.int .i64 t.lm.a, .int .i64 t.lm.b, .int .i64 t.lm.c, .int .i64 t.lm.d]) (vy := .agg #[.int .i64 s.lm.a, .int .i64 s.lm.b, .int .i64 s.lm.c, .int .i64 s.lm.d]) Tw.kr Tw.kr fun w => (by rw [h.rest.2.1]; exact eq_limits s.lm w)) ?_
 refine lm (v := .bool true) rfl rfl ?_
 refine lm (v := .bool true) rfl rfl ?_
 refine wpL_done (fun W2 hW2 => ?_)
 change Code.wp ..
 refine wp_ret ?_
 try simp only [inBlock_ret, then_ret]
 refine bodyPost_ret (v := .bool true) ?_ rfl ?_
 · kernel_rfl
 · exact ⟨rfl, hW2.1⟩
set_option maxRecDepth 100000 in
set_option maxHeartbeats 4000000 in
theorem KeptShip_any (s t : Sp) (T : List (Nat × Obj)) (w : World) (hs : SpIn w s) (h : LentSp s t T) (hT : ∀ b ∈ T, w.heap[b.1]? = some b.2) : Calls Tryd.prog 27 #[.agg (spC t).toArray, .agg (spC s).toArray] w fun e w' => e = .returned (.bool true) ∧ Below w.heap.size w w' := by
 go_enter Tryd.func27, Tryd.ntmps27
 refine wp_seq ?_
 refine wp_region_L [] (KS.start w) ?_
 refine wpL_new (fun g => .pointer (some ⟨g, 0, none⟩)) (obi := .cells #[.slice t.pc t.cs.length t.cc, .slice t.po t.os.length t.co, .int .i64 t.li.a, .int .i64 t.li.b, .int .i64 t.li.c, .int .i64 t.li.d, .slice t.pr t.rs.length t.cr, .slice t.pf t.fs.length t.cf, .slice t.pt t.ts.length t.ct, .int .i64 t.lm.a, .int .i64 t.lm.b, .int .i64 t.lm.c, .int .i64 t.lm.d] 32 (0, 0)) rfl rfl Tw.kf Tw.pf fun g1 Bg1 Fg1 => ?_
 refine wpL_new (fun g => .pointer (some ⟨g, 0, none⟩)) (obi := .cells #[.slice s.pc s.cs.length s.cc, .slice s.po s.os.length s.co, .int .i64 s.li.a, .int .i64 s.li.b, .int .i64 s.li.c, .int .i64 s.li.d, .slice s.pr s.rs.length s.cr, .slice s.pf s.fs.length s.cf, .slice s.pt s.ts.length s.ct, .int .i64 s.lm.a, .int .i64 s.lm.b, .int .i64 s.lm.c, .int .i64 s.lm.d] 32 (0, 0)) rfl rfl Tw.kf Tw.pf fun g2 Bg2 Fg2 => ?_
 obtain dj3_0 : g1 ≠ g2 := Tw.dkf Fg2
 refine lm (v := .bool false) rfl rfl ?_
 refine wpL_done (fun W1 hW1 => ?_)
 change Code.wp ..
 refine wp_seq ?_
 refine wp_region_L _ hW1 ?_
 refine lv (v := .agg #[.slice t.pc t.cs.length t.cc, .slice t.po t.os.length t.co, .int .i64 t.li.a, .int .i64 t.li.b, .int .i64 t.li.c, .int .i64 t.li.d, .slice t.pr t.rs.length t.cr, .slice t.pf t.fs.length t.cf, .slice t.pt t.ts.length t.ct, .int .i64 t.lm.a, .int .i64 t.lm.b, .int .i64 t.lm.c, .int .i64 t.lm.d]) rfl rfl (yb_load (n := 13) (off := 0) rfl Tw.kr Tw.m1 Tryd.underlying32 rfl Tw.kr (by first | (simp [Value.cells]; done) | exact Nat.le_of_ble_eq_true rfl) Tw.kr) ?_
 refine lv (v := .agg #[.slice s.pc s.cs.length s.cc, .slice s.po s.os.length s.co, .int .i64 s.li.a, .int .i64 s.li.b, .int .i64 s.li.c, .int .i64 s.li.d, .slice s.pr s.rs.length s.cr, .slice s.pf s.fs.length s.cf, .slice s.pt s.ts.length s.ct, .int .i64 s.lm.a, .int .i64 s.lm.b, .int .i64 s.lm.c, .int .i64 s.lm.d]) rfl rfl (yb_load (n := 13) (off := 0) rfl Tw.kr Tw.m0 Tryd.underlying32 rfl Tw.kr (by first | (simp [Value.cells]; done) | exact Nat.le_of_ble_eq_true rfl) Tw.kr) ?_
 refine lv (v := .bool true) rfl rfl (yb_call (f := 60) (args := #[.agg #[.slice t.pc t.cs.length t.cc, .slice t.po t.os.length t.co, .int .i64 t.li.a, .int .i64 t.li.b, .int .i64 t.li.c, .int .i64 t.li.d, .slice t.pr t.rs.length t.cr, .slice t.pf t.fs.length t.cf, .slice t.pt t.ts.length t.ct, .int .i64 t.lm.a, .int .i64 t.lm.b, .int .i64 t.lm.c, .int .i64 t.lm.d], .agg #[.slice s.pc s.cs.length s.cc, .slice s.po s.os.length s.co, .int .i64 s.li.a, .int .i64 s.li.b, .int .i64 s.li.c, .int .i64 s.li.d, .slice s.pr s.rs.length s.cr, .slice s.pf s.fs.length s.cf, .slice s.pt s.ts.length s.ct, .int .i64 s.lm.a, .int .i64 s.lm.b, .int .i64 s.lm.c, .int .i64 s.lm.d]]) Tw.kf fun W hW => SameShip_any s t T W (hs.keep hW.1) h (fun b hb => held hW.1 (hT b hb))) ?_
 refine lm (v := .bool true) rfl rfl ?_
 refine lm (v := .pointer (some ⟨g1, 0, none⟩)) rfl rfl ?_
 refine lv (v := .slice t.pc t.cs.length t.cc) rfl rfl (yb_cell (off := 0) rfl Tw.kr Tw.m1 Tryd.underlying22 rfl Tw.kr) ?_
 refine lm (v := .pointer (some ⟨g2, 0, none⟩)) rfl rfl ?_
 refine lv (v := .slice s.pc s.cs.length s.cc) rfl rfl (yb_cell (off := 0) rfl Tw.kr Tw.m0 Tryd.underlying22 rfl Tw.kr) ?_
 refine lv (v := .bool true) rfl rfl (yb_call (f := 61) (args := #[.slice t.pc t.cs.length t.cc, .slice s.pc s.cs.length s.cc]) Tw.kf fun W hW => (by rw [h.cs.1]; exact KeptColumns_any s.cs t.cs t.pc s.pc t.cc s.cc hs.nc hs.np h.cs.1 h.cs.2.2.2 W ((h.cs.2.2.1 w hT).keep hW.1) ((h.cs.2.1.at hT).keep hW.1) ((hs.hc).keep hW.1) ((hs.hp).keep hW.1))) ?_
 refine lm (v := .bool true) rfl rfl ?_
 refine lm (v := .bool true) rfl rfl ?_
 refine lm (v := .pointer (some ⟨g1, 1, none⟩)) rfl rfl ?_
 refine lv (v := .slice t.po t.os.length t.co) rfl rfl (yb_cell (off := 1) rfl Tw.kr Tw.m1 Tryd.underlying23 rfl Tw.kr) ?_
 refine lm (v := .pointer (some ⟨g2, 1, none⟩)) rfl rfl ?_
 refine lv (v := .slice s.po s.os.length s.co) rfl rfl (yb_cell (off := 1) rfl Tw.kr Tw.m0 Tryd.underlying23 rfl Tw.kr) ?_
 refine lv (v := .bool true) rfl rfl (yb_call (f := 62) (args := #[.slice t.po t.os.length t.co, .slice s.po s.os.length s.co]) Tw.kf fun W hW => (by rw [h.os.1]; exact KeptCovers_any s.os t.os t.po s.po t.co s.co hs.no hs.nr h.os.1 h.os.2.2.2 W ((h.os.2.2.1 w hT).keep hW.1) ((h.os.2.1.at hT).keep hW.1) ((hs.ho).keep hW.1) ((hs.hr).keep hW.1))) ?_
 refine lm (v := .bool true) rfl rfl ?_
 refine lm (v := .bool true) rfl rfl ?_
 refine lm (v := .pointer (some ⟨g1, 6, none⟩)) rfl rfl ?_
 refine lv (v := .slice t.pr t.rs.length t.cr) rfl rfl (yb_cell (off := 6) rfl Tw.kr Tw.m1 Tryd.underlying26 rfl Tw.kr) ?_
 refine lm (v := .pointer (some ⟨g2, 6, none⟩)) rfl rfl ?_
 refine lv (v := .slice s.pr s.rs.length s.cr) rfl rfl (yb_cell (off := 6) rfl Tw.kr Tw.m0 Tryd.underlying26 rfl Tw.kr) ?_
 refine lv (v := .bool true) rfl rfl (yb_call (f := 63) (args := #[.slice t.pr t.rs.length t.cr, .slice s.pr s.rs.length s.cr]) Tw.kf fun W hW => (by rw [h.rest.2.2.1]; exact KeptRows_any s.rs t.pr s.pr t.cr s.cr hs.nrs h.rs.2 W ((h.rs.1 w hT).keep hW.1) ((hs.hrs).keep hW.1))) ?_
 refine lm (v := .bool true) rfl rfl ?_
 refine lm (v := .bool true) rfl rfl ?_
 refine lm (v := .pointer (some ⟨g1, 7, none⟩)) rfl rfl ?_
 refine lv (v := .slice t.pf t.fs.length t.cf) rfl rfl (yb_cell (off := 7) rfl Tw.kr Tw.m1 Tryd.underlying27 rfl Tw.kr) ?_
 refine lm (v := .pointer (some ⟨g2, 7, none⟩)) rfl rfl ?_
 refine lv (v := .slice s.pf s.fs.length s.cf) rfl rfl (yb_cell (off := 7) rfl Tw.kr Tw.m0 Tryd.underlying27 rfl Tw.kr) ?_
 refine lv (v := .bool true) rfl rfl (yb_call (f := 64) (args := #[.slice t.pf t.fs.length t.cf, .slice s.pf s.fs.length s.cf]) Tw.kf fun W hW => (by rw [h.rest.2.2.2]; exact KeptFrames_any s.fs t.pf s.pf t.cf s.cf hs.nfs h.fs.2 W ((h.fs.1 w hT).keep hW.1) ((hs.hfs).keep hW.1))) ?_
 refine lm (v := .bool true) rfl rfl ?_
 refine lm (v := .bool true) rfl rfl ?_
 refine lm (v := .pointer (some ⟨g1, 8, none⟩)) rfl rfl ?_
 refine lv (v := .slice t.pt t.ts.length t.ct) rfl rfl (yb_cell (off := 8) rfl Tw.kr Tw.m1 Tryd.underlying28 rfl Tw.kr) ?_
 refine lm (v := .pointer (some ⟨g2, 8, none⟩)) rfl rfl ?_
 refine lv (v := .slice s.pt s.ts.length s.ct) rfl rfl (yb_cell (off := 8) rfl Tw.kr Tw.m0 Tryd.underlying28 rfl Tw.kr) ?_
 refine lv (v := .bool true) rfl rfl (yb_call (f := 65) (args := #[.slice t.pt t.ts.length t.ct, .slice s.pt s.ts.length s.ct]) Tw.kf fun W hW => (by rw [h.ts.1]; exact KeptTanks_any s.ts t.ts t.pt s.pt t.ct s.ct hs.nts hs.nst h.ts.1 h.ts.2.2.2 W ((h.ts.2.2.1 w hT).keep hW.1) ((h.ts.2.1.at hT).keep hW.1) ((hs.hts).keep hW.1) ((hs.hst).keep hW.1))) ?_
 refine lm (v := .bool true) rfl rfl ?_
 refine lm (v := .bool true) rfl rfl ?_
 refine wpL_done (fun W2 hW2 => ?_)
 change Code.wp ..
 refine wp_ret ?_
 try simp only [inBlock_ret, then_ret]
 refine bodyPost_ret (v := .bool true) ?_ rfl ?_
 · kernel_rfl
 · exact ⟨rfl, hW2.1⟩
end Go.Proofs.YthpooalhibedpaaDoor
namespace Go.Proofs.YthpooalhibedpaaDoor
open Go Go.RowKit Tw
set_option maxRecDepth 100000 in
set_option maxHeartbeats 4000000 in
theorem SlotTells_any (s : Sp) (n1 : s.cs.length ≤ 17592186044403) (n2 : s.os.length ≤ 17592186044403) (lr : ∀ o ∈ s.os, o.rows.length ≤ 17592186044403) (lq : ∀ c ∈ s.cs, c.plugs.length ≤ 17592186044403) (a b : Slt) (hta1 : -9223372036854775808 ≤ a.tier ∧ a.tier ≤ 9223372036854775807) (z : Nat) (hz : z ≤ 255) (l : List Slt) (p : Option Addr) (c : Nat) (hl : l.length ≤ 140737488355328) (w : World) (hc : SLV w s.pc (s.cs.flatMap colC)) (ho : SLV w s.po (s.os.flatMap covC)) (hin : fewX s.cs s.os = true → SpIn w s) (hp : SLV w p (l.flatMap sltC)) (hE : Env w) : Calls Tryd.prog 3 #[.agg (spC s).toArray, .agg (sltC a).toArray, .agg (sltC b).toArray, .int .u8 ((z : Nat) : Int), .slice p l.length c] w fun e w' => e = .returned (.bool true) ∧ Below w.heap.size w w' := by
 have HP := Lib.hid hp
 clear hp
 have HE := Lib.hid hE
 clear hE
 go_enter Tryd.func3, Tryd.ntmps3
 refine wp_seq ?_
 refine wp_region_L [] (KS.start w) ?_
 refine wpL_new (fun g => .pointer (some ⟨g, 0, none⟩)) (obi := .cells #[.slice s.pc s.cs.length s.cc, .slice s.po s.os.length s.co, .int .i64 s.li.a, .int .i64 s.li.b, .int .i64 s.li.c, .int .i64 s.li.d, .slice s.pr s.rs.length s.cr, .slice s.pf s.fs.length s.cf, .slice s.pt s.ts.length s.ct, .int .i64 s.lm.a, .int .i64 s.lm.b, .int .i64 s.lm.c, .int .i64 s.lm.d] 32 (0, 0)) rfl rfl Tw.kf Tw.pf fun g1 Bg1 Fg1 => ?_
 refine wpL_new (fun g => .pointer (some ⟨g, 0, none⟩)) (obi := .cells (sltC a).toArray 34 (0, 0)) rfl rfl Tw.kf Tw.pf fun g2 Bg2 Fg2 => ?_
 obtain dj3_0 : g1 ≠ g2 := Tw.dkf Fg2
 refine wpL_new (fun g => .pointer (some ⟨g, 0, none⟩)) (obi := .cells (sltC b).toArray 34 (0, 0)) rfl rfl Tw.kf Tw.pf fun g4 Bg4 Fg4 => ?_
 obtain ⟨dj5_0, dj5_1⟩ : g2 ≠ g4 ∧ g1 ≠ g4 := Tw.dkf Fg4
 refine lm (v := .bool false) rfl rfl ?_
 refine wpL_done (fun W1 hW1 => ?_)
 change Code.wp ..
 refine wp_seq ?_
 refine wp_seq ?_
 refine wp_region_L _ hW1 ?_
 refine lv (v := .agg #[.slice s.pc s.cs.length s.cc, .slice s.po s.os.length s.co, .int .i64 s.li.a, .int .i64 s.li.b, .int .i64 s.li.c, .int .i64 s.li.d, .slice s.pr s.rs.length s.cr, .slice s.pf s.fs.length s.cf, .slice s.pt s.ts.length s.ct, .int .i64 s.lm.a, .int .i64 s.lm.b, .int .i64 s.lm.c, .int .i64 s.lm.d]) rfl rfl (yb_load (n := 13) (off := 0) rfl Tw.kr Tw.m2 Tryd.underlying32 rfl Tw.kr (by first | (simp [Value.cells]; done) | exact Nat.le_of_ble_eq_true rfl) Tw.kr) ?_
 refine lv (v := .bool (few8X s.cs s.os)) rfl rfl (yb_call (f := 10) (args := #[.agg #[.slice s.pc s.cs.length s.cc, .slice s.po s.os.length s.co, .int .i64 s.li.a, .int .i64 s.li.b, .int .i64 s.li.c, .int .i64 s.li.d, .slice s.pr s.rs.length s.cr, .slice s.pf s.fs.length s.cf, .slice s.pt s.ts.length s.ct, .int .i64 s.lm.a, .int .i64 s.lm.b, .int .i64 s.lm.c, .int .i64 s.lm.d]]) Tw.kf fun W hW => few8_any s.cs s.pc s.cc n1 s.os s.po s.co n2 (spT s) W ((hc).keep hW.1) ((ho).keep hW.1) lr lq) ?_
 refine lp (v := .bool (!(few8X s.cs s.os))) rfl rfl (run_un rfl Tw.kr fun w => un_not w) ?_
 refine lm (v := .bool (!(few8X s.cs s.os))) rfl rfl ?_
 cases h1 : (few8X s.cs s.os) with
 | false =>
   refine ln rfl ?_
   refine ln rfl ?_
   refine ln rfl ?_
   refine lm (v := .bool true) rfl rfl ?_
   refine wpL_done (fun W2 hW2 => ?_)
   change Code.wp ..
   refine wp_cond_true rfl ?_
   refine wp_seq ?_
   refine wp_region_L _ hW2 ?_
   refine lv (v := .bool true) rfl rfl (yb_call (f := 11) (args := #[]) Tw.kf fun W hW => awake8_any W (HE.out.keep hW.1)) ?_
   refine lm (v := .bool true) rfl rfl ?_
   refine wpL_done (fun W3 hW3 => ?_)
   change Code.wp ..
   refine wp_ret ?_
   try simp only [inBlock_ret, then_ret]
   refine bodyPost_ret (v := .bool true) ?_ rfl ?_
   · kernel_rfl
   · exact ⟨rfl, hW3.1⟩
 | true =>
   refine lm (v := .slice p l.length c) rfl rfl ?_
   refine lp (v := .int .i64 ((l.length : Nat) : Int)) rfl rfl (run_lenL (p := p) (cap := c) (n := l.length) rfl Tryd.underlying35 Tw.kr) ?_
   refine lp (v := .bool (decide (60 < l.length))) rfl rfl (run_bin rfl (vx := (.int .i64 ((l.length : Nat) : Int))) (vy := (.int .i64 ((60 : Nat) : Int))) Tw.kr Tw.kr fun w => bn_gtr rfl w) ?_
   refine lm (v := .bool (decide (60 < l.length))) rfl rfl ?_
   refine wpL_done (fun W4 hW4 => ?_)
   change Code.wp ..
   cases hd2 : (decide (60 < l.length)) with
   | false =>
     have h2 : ¬ (60 < l.length) := of_decide_eq_false hd2
     clear hd2
     refine wp_cond_false rfl ?_
     refine wp_skip ?_
     change Code.wp ..
     refine wp_seq ?_
     refine wp_region_L _ hW4 ?_
     refine lv (v := .agg #[.slice s.pc s.cs.length s.cc, .slice s.po s.os.length s.co, .int .i64 s.li.a, .int .i64 s.li.b, .int .i64 s.li.c, .int .i64 s.li.d, .slice s.pr s.rs.length s.cr, .slice s.pf s.fs.length s.cf, .slice s.pt s.ts.length s.ct, .int .i64 s.lm.a, .int .i64 s.lm.b, .int .i64 s.lm.c, .int .i64 s.lm.d]) rfl rfl (yb_load (n := 13) (off := 0) rfl Tw.kr Tw.m2 Tryd.underlying32 rfl Tw.kr (by first | (simp [Value.cells]; done) | exact Nat.le_of_ble_eq_true rfl) Tw.kr) ?_
     obtain ⟨k1, k2, k3, k4⟩ := few8_is h1
     have hI := hin (few8_few h1)
     have hs1 : s.cs.length ≤ 4000000000 := by omega
     have hs2 : s.os.length ≤ 4000000000 := by omega
     have hsa : s.cs.length ≤ 1000 := by omega
     refine wpL_c (f := 12) (args := #[.agg #[.slice s.pc s.cs.length s.cc, .slice s.po s.os.length s.co, .int .i64 s.li.a, .int .i64 s.li.b, .int .i64 s.li.c, .int .i64 s.li.d, .slice s.pr s.rs.length s.cr, .slice s.pf s.fs.length s.cf, .slice s.pt s.ts.length s.ct, .int .i64 s.lm.a, .int .i64 s.lm.b, .int .i64 s.lm.c, .int .i64 s.lm.d]]) (NewF (fun T v => ∃ t : Sp, v = .agg #[.slice t.pc t.cs.length t.cc, .slice t.po t.os.length t.co, .int .i64 t.li.a, .int .i64 t.li.b, .int .i64 t.li.c, .int .i64 t.li.d, .slice t.pr t.rs.length t.cr, .slice t.pf t.fs.length t.cf, .slice t.pt t.ts.length t.ct, .int .i64 t.lm.a, .int .i64 t.lm.b, .int .i64 t.lm.c, .int .i64 t.lm.d] ∧ LentSp s t T) w [(g4, .cells (sltC b).toArray 34 (0, 0)), (g2, .cells (sltC a).toArray 34 (0, 0)), (g1, .cells #[.slice s.pc s.cs.length s.cc, .slice s.po s.os.length s.co, .int .i64 s.li.a, .int .i64 s.li.b, .int .i64 s.li.c, .int .i64 s.li.d, .slice s.pr s.rs.length s.cr, .slice s.pf s.fs.length s.cf, .slice s.pt s.ts.length s.ct, .int .i64 s.lm.a, .int .i64 s.lm.b, .int .i64 s.lm.c, .int .i64 s.lm.d] 32 (0, 0))]) rfl Tw.kr Tw.kf (fun W hW => calls_new hW ((LentShip_any s W (hI.keep hW.1)).mono fun _ _ ⟨t, T, h1, h2, h3, h4⟩ => ⟨_, T, h1, ⟨t, rfl, h2⟩, h3, h4⟩)) Tw.pf ?_
     rintro _ _ ⟨TS, ⟨t, rfl, hL⟩, hTn, hTd, rfl⟩
     obtain ⟨dj6_0, dj6_1, dj6_2⟩ : Dk g4 TS ∧ Dk g2 TS ∧ Dk g1 TS := Tw.djf hTd
     have ht1 : t.cs.length ≤ 4000000000 := by have := hL.cs.1; omega
     have ht2 : t.os.length ≤ 4000000000 := by have := hL.os.1; omega
     have hta : t.cs.length ≤ 1000 := by have := hL.cs.1; omega
     have hHC : ∀ W : World, (∀ b ∈ TS, W.heap[b.1]? = some b.2) → SLV W t.pc (t.cs.flatMap colC) := fun W hh => slv_preg (hL.cs.2.2.1 W hh)
     have hHO : ∀ W : World, (∀ b ∈ TS, W.heap[b.1]? = some b.2) → SLV W t.po (t.os.flatMap covC) := fun W hh => slv_preg (hL.os.2.2.1 W hh)
     obtain ⟨eR, eS, eT⟩ := lent_slots hL
     have e1 := (lent_says hL).1
     refine lm (v := .slice p l.length c) rfl rfl ?_
     have hl6 : l.length ≤ 1000000 := by omega
     have hl4 : l.length ≤ 4000000000 := by omega
     have hlen : (l ++ mkSL 12).length = l.length + 12 := by rw [List.length_append, mkSL_len]
     refine wpL_c (f := 13) (args := #[.slice p l.length c]) (LentRL w 34 3 l.length ((l ++ mkSL 12)).length (((l ++ mkSL 12)).flatMap sltC) ((g4, .cells (sltC b).toArray 34 (0, 0)) :: (g2, .cells (sltC a).toArray 34 (0, 0)) :: (g1, .cells #[.slice s.pc s.cs.length s.cc, .slice s.po s.os.length s.co, .int .i64 s.li.a, .int .i64 s.li.b, .int .i64 s.li.c, .int .i64 s.li.d, .slice s.pr s.rs.length s.cr, .slice s.pf s.fs.length s.cf, .slice s.pt s.ts.length s.ct, .int .i64 s.lm.a, .int .i64 s.lm.b, .int .i64 s.lm.c, .int .i64 s.lm.d] 32 (0, 0)) :: TS)) rfl Tw.kr Tw.kf (fun W hW => calls_lent hW (((LentSlots_any l p c hl6 W (HP.out.keep hW.1)).mono fun _ _ ⟨q, d, h1, h2, h3⟩ => ⟨q, d, h1, by rw [hlen]; exact h2, h3⟩))) Tw.pf ?_
     rintro _ _ ⟨p7, c7, Kl7, rfl, n7, O7, N7, rfl⟩
     obtain ⟨dj8_0, dj8_1, dj8_2, dj8_3⟩ : Dk g4 Kl7 ∧ Dk g2 Kl7 ∧ Dk g1 Kl7 ∧ Dj TS Kl7 := Tw.djf N7
     obtain ⟨pz, cz, ez, hz, Rz⟩ := own_rl O7
     cases ez
     refine wpL_new (fun g => .pointer (some ⟨g, 0, none⟩)) (obi := .cells (shC (.slice none 0 0) (.slice none 0 0) tl0).toArray 32 (0, 0)) rfl rfl Tw.kf Tw.pf fun g9 Bg9 Fg9 => ?_
     obtain ⟨dj10_0, dj10_1, dj10_2, dj10_3, dj10_4⟩ : g4 ≠ g9 ∧ g2 ≠ g9 ∧ g1 ≠ g9 ∧ Dk g9 TS ∧ Dk g9 Kl7 := Tw.dkf Fg9
     refine wpL_s ((g9, .cells #[.slice t.pc t.cs.length t.cc, .slice t.po t.os.length t.co, .int .i64 t.li.a, .int .i64 t.li.b, .int .i64 t.li.c, .int .i64 t.li.d, .slice t.pr t.rs.length t.cr, .slice t.pf t.fs.length t.cf, .slice t.pt t.ts.length t.ct, .int .i64 t.lm.a, .int .i64 t.lm.b, .int .i64 t.lm.c, .int .i64 t.lm.d] 32 (0, 0)) :: (g4, .cells (sltC b).toArray 34 (0, 0)) :: (g2, .cells (sltC a).toArray 34 (0, 0)) :: (g1, .cells #[.slice s.pc s.cs.length s.cc, .slice s.po s.os.length s.co, .int .i64 s.li.a, .int .i64 s.li.b, .int .i64 s.li.c, .int .i64 s.li.d, .slice s.pr s.rs.length s.cr, .slice s.pf s.fs.length s.cf, .slice s.pt s.ts.length s.ct, .int .i64 s.lm.a, .int .i64 s.lm.b, .int .i64 s.lm.c, .int .i64 s.lm.d] 32 (0, 0)) :: (TS ++ Kl7)) rfl rfl (st_row (off := 0) (v := .agg #[.slice t.pc t.cs.length t.cc, .slice t.po t.os.length t.co, .int .i64 t.li.a, .int .i64 t.li.b, .int .i64 t.li.c, .int .i64 t.li.d, .slice t.pr t.rs.length t.cr, .slice t.pf t.fs.length t.cf, .slice t.pt t.ts.length t.ct, .int .i64 t.lm.a, .int .i64 t.lm.b, .int .i64 t.lm.c, .int .i64 t.lm.d]) rfl Tw.kr Tw.kr Tw.m0 Bg9 Tw.kr (by first | (simp [Value.cells]; done) | exact Nat.le_of_ble_eq_true rfl) (by intro v hv; simp [Value.cells] at hv; first | (subst hv; rfl) | (rcases hv with rfl | rfl | rfl | rfl | rfl | rfl | rfl | rfl | rfl | rfl | rfl | rfl | rfl <;> rfl)) Tw.kr (List.forall_mem_cons.2 ⟨.inl rfl, (List.forall_mem_cons.2 ⟨.inr ⟨Tw.m1, Tw.nee⟩, (List.forall_mem_cons.2 ⟨.inr ⟨Tw.m2, Tw.nee⟩, (List.forall_mem_cons.2 ⟨.inr ⟨Tw.m3, Tw.nee⟩, (fun p hp => .inr ⟨(.tail _ (.tail _ (.tail _ (.tail _ hp)))), ((show Dk g9 (TS ++ Kl7) from Tw.djt) _ hp)⟩)⟩)⟩)⟩)⟩)) ?_
     refine lm (v := .slice p7 l.length c7) rfl rfl ?_
     refine wpL_done (fun W5 hW5 => ?_)
     change Code.wp ..
     refine wp_seq ?_
     refine wp_seq ?_
     refine wp_region_V _ Tw.kr hW5 ?_
     refine vv (i := 0) (v := .agg #[.slice t.pc t.cs.length t.cc, .slice t.po t.os.length t.co, .int .i64 t.li.a, .int .i64 t.li.b, .int .i64 t.li.c, .int .i64 t.li.d, .slice t.pr t.rs.length t.cr, .slice t.pf t.fs.length t.cf, .slice t.pt t.ts.length t.ct, .int .i64 t.lm.a, .int .i64 t.lm.b, .int .i64 t.lm.c, .int .i64 t.lm.d]) rfl rfl rfl (yb_load (n := 13) (off := 0) rfl Tw.kr Tw.m0 Tryd.underlying32 rfl Tw.kr (by first | (simp [Value.cells]; done) | exact Nat.le_of_ble_eq_true rfl) Tw.kr) ?_
     refine vv (i := 1) (v := .agg (sltC a).toArray) rfl rfl rfl (yb_load (n := 3) (off := 0) rfl Tw.kr Tw.m2 Tryd.underlying34 rfl Tw.kr (by first | (simp [Value.cells]; done) | exact Nat.le_of_ble_eq_true rfl) Tw.kr) ?_
     refine vm (i := 2) (v := .int .u8 ((z : Nat) : Int)) rfl rfl rfl ?_
     refine vv (i := 3) (v := .bool (rightS s.cs a z)) rfl rfl rfl (yb_call (f := 14) (args := #[.agg #[.slice t.pc t.cs.length t.cc, .slice t.po t.os.length t.co, .int .i64 t.li.a, .int .i64 t.li.b, .int .i64 t.li.c, .int .i64 t.li.d, .slice t.pr t.rs.length t.cr, .slice t.pf t.fs.length t.cf, .slice t.pt t.ts.length t.ct, .int .i64 t.lm.a, .int .i64 t.lm.b, .int .i64 t.lm.c, .int .i64 t.lm.d], .agg (sltC a).toArray, .int .u8 ((z : Nat) : Int)]) Tw.kf fun W hW => (by have h9 := SRight_any t.cs t.pc t.cc ht1 t.os t.po t.co ht2 (spT t) a z W (hHC _ (fun b hb => hW.2 b (by simp only [List.mem_cons, List.mem_append, List.nil_append, List.not_mem_nil, or_assoc, or_false, false_or, hb, true_or, or_true]))) (hHO _ (fun b hb => hW.2 b (by simp only [List.mem_cons, List.mem_append, List.nil_append, List.not_mem_nil, or_assoc, or_false, false_or, hb, true_or, or_true]))); rw [eR] at h9; exact h9)) ?_
     refine vv (i := 4) (v := .agg #[.slice s.pc s.cs.length s.cc, .slice s.po s.os.length s.co, .int .i64 s.li.a, .int .i64 s.li.b, .int .i64 s.li.c, .int .i64 s.li.d, .slice s.pr s.rs.length s.cr, .slice s.pf s.fs.length s.cf, .slice s.pt s.ts.length s.ct, .int .i64 s.lm.a, .int .i64 s.lm.b, .int .i64 s.lm.c, .int .i64 s.lm.d]) rfl rfl rfl (yb_load (n := 13) (off := 0) rfl Tw.kr Tw.m3 Tryd.underlying32 rfl Tw.kr (by first | (simp [Value.cells]; done) | exact Nat.le_of_ble_eq_true rfl) Tw.kr) ?_
     refine vv (i := 5) (v := .agg (sltC a).toArray) rfl rfl rfl (yb_load (n := 3) (off := 0) rfl Tw.kr Tw.m2 Tryd.underlying34 rfl Tw.kr (by first | (simp [Value.cells]; done) | exact Nat.le_of_ble_eq_true rfl) Tw.kr) ?_
     refine vm (i := 6) (v := .int .u8 ((z : Nat) : Int)) rfl rfl rfl ?_
     refine vp (i := 7) (v := .int .i64 ((z : Nat) : Int)) rfl rfl rfl (run_conv rfl (vx := (.int .u8 ((z : Nat) : Int))) Tw.kr fun w => cv_int Tryd.underlying5 Tryd.underlying3 (wr_i64 Tw.om) w) ?_
     refine vv (i := 8) (v := .bool (rightS s.cs a z)) rfl rfl rfl (yb_call (f := 15) (args := #[.agg #[.slice s.pc s.cs.length s.cc, .slice s.po s.os.length s.co, .int .i64 s.li.a, .int .i64 s.li.b, .int .i64 s.li.c, .int .i64 s.li.d, .slice s.pr s.rs.length s.cr, .slice s.pf s.fs.length s.cf, .slice s.pt s.ts.length s.ct, .int .i64 s.lm.a, .int .i64 s.lm.b, .int .i64 s.lm.c, .int .i64 s.lm.d], .agg (sltC a).toArray, .int .i64 ((z : Nat) : Int)]) Tw.kf fun W hW => R8Right_any s.cs s.pc s.cc hs1 s.os s.po s.co hs2 (spT s) a.col a.tier a.half z W ((hc).keep hW.1) ((ho).keep hW.1)) ?_
     refine vp (i := 9) (v := .bool false) rfl rfl rfl (run_bin rfl (vx := .bool (rightS s.cs a z)) (vy := .bool (rightS s.cs a z)) Tw.kr Tw.kr fun w => bn_bool_neq (b := true) (beq_self_eq_true _) Tryd.underlying4 w) ?_
     refine vm (i := 10) (v := .bool false) rfl rfl rfl ?_
     refine vv (i := 11) (v := .agg #[.slice t.pc t.cs.length t.cc, .slice t.po t.os.length t.co, .int .i64 t.li.a, .int .i64 t.li.b, .int .i64 t.li.c, .int .i64 t.li.d, .slice t.pr t.rs.length t.cr, .slice t.pf t.fs.length t.cf, .slice t.pt t.ts.length t.ct, .int .i64 t.lm.a, .int .i64 t.lm.b, .int .i64 t.lm.c, .int .i64 t.lm.d]) rfl rfl rfl (yb_load (n := 13) (off := 0) rfl Tw.kr Tw.m0 Tryd.underlying32 rfl Tw.kr (by first | (simp [Value.cells]; done) | exact Nat.le_of_ble_eq_true rfl) Tw.kr) ?_
     refine vm (i := 12) (v := .int .u8 ((z : Nat) : Int)) rfl rfl rfl ?_
     refine vv (i := 14) (v := .agg #[.slice s.pc s.cs.length s.cc, .slice s.po s.os.length s.co, .int .i64 s.li.a, .int .i64 s.li.b, .int .i64 s.li.c, .int .i64 s.li.d, .slice s.pr s.rs.length s.cr, .slice s.pf s.fs.length s.cf, .slice s.pt s.ts.length s.ct, .int .i64 s.lm.a, .int .i64 s.lm.b, .int .i64 s.lm.c, .int .i64 s.lm.d]) rfl rfl rfl (yb_load (n := 13) (off := 0) rfl Tw.kr Tw.m3 Tryd.underlying32 rfl Tw.kr (by first | (simp [Value.cells]; done) | exact Nat.le_of_ble_eq_true rfl) Tw.kr) ?_
     refine vm (i := 15) (v := .int .u8 ((z : Nat) : Int)) rfl rfl rfl ?_
     refine vp (i := 16) (v := .int .i64 ((z : Nat) : Int)) rfl rfl rfl (run_conv rfl (vx := (.int .u8 ((z : Nat) : Int))) Tw.kr fun w => cv_int Tryd.underlying5 Tryd.underlying3 (wr_i64 Tw.om) w) ?_
     refine wpV_c (i := 13) (OutRL sltC w ((g9, .cells #[.slice t.pc t.cs.length t.cc, .slice t.po t.os.length t.co, .int .i64 t.li.a, .int .i64 t.li.b, .int .i64 t.li.c, .int .i64 t.li.d, .slice t.pr t.rs.length t.cr, .slice t.pf t.fs.length t.cf, .slice t.pt t.ts.length t.ct, .int .i64 t.lm.a, .int .i64 t.lm.b, .int .i64 t.lm.c, .int .i64 t.lm.d] 32 (0, 0)) :: (g4, .cells (sltC b).toArray 34 (0, 0)) :: (g2, .cells (sltC a).toArray 34 (0, 0)) :: (g1, .cells #[.slice s.pc s.cs.length s.cc, .slice s.po s.os.length s.co, .int .i64 s.li.a, .int .i64 s.li.b, .int .i64 s.li.c, .int .i64 s.li.d, .slice s.pr s.rs.length s.cr, .slice s.pf s.fs.length s.cf, .slice s.pt s.ts.length s.ct, .int .i64 s.lm.a, .int .i64 s.lm.b, .int .i64 s.lm.c, .int .i64 s.lm.d] 32 (0, 0)) :: (TS ++ Kl7)) (slotsX s.cs z)) rfl rfl Tw.kr Tw.kr Tw.kf (fun W hW => calls_r hW ((by have h9 := All_any t.cs t.pc t.cc hta t.os t.po t.co ht2 (spT t) (eT 1000 (fun c hc => by have := (k3 c hc).2; omega)) z W (hHC _ (fun b hb => hW.2 b (by simp only [List.mem_cons, List.mem_append, List.nil_append, List.not_mem_nil, or_assoc, or_false, false_or, hb, true_or, or_true]))) (hHO _ (fun b hb => hW.2 b (by simp only [List.mem_cons, List.mem_append, List.nil_append, List.not_mem_nil, or_assoc, or_false, false_or, hb, true_or, or_true]))); rw [eS] at h9; exact h9))) (fun v K9 hG => hG.sub) Tw.pf ?_
     rintro _ _ ⟨p11, c11, Kl11, rfl, n11, R11, N11, rfl⟩
     obtain ⟨dj12_0, dj12_1, dj12_2, dj12_3, dj12_4, dj12_5⟩ : Dk g9 Kl11 ∧ Dk g4 Kl11 ∧ Dk g2 Kl11 ∧ Dk g1 Kl11 ∧ Dj TS Kl11 ∧ Dj Kl7 Kl11 := Tw.djf N11
     refine wpV_mem _ _ _ ((g9, .cells #[.slice t.pc t.cs.length t.cc, .slice t.po t.os.length t.co, .int .i64 t.li.a, .int .i64 t.li.b, .int .i64 t.li.c, .int .i64 t.li.d, .slice t.pr t.rs.length t.cr, .slice t.pf t.fs.length t.cf, .slice t.pt t.ts.length t.ct, .int .i64 t.lm.a, .int .i64 t.lm.b, .int .i64 t.lm.c, .int .i64 t.lm.d] 32 (0, 0)) :: (g4, .cells (sltC b).toArray 34 (0, 0)) :: (g2, .cells (sltC a).toArray 34 (0, 0)) :: (g1, .cells #[.slice s.pc s.cs.length s.cc, .slice s.po s.os.length s.co, .int .i64 s.li.a, .int .i64 s.li.b, .int .i64 s.li.c, .int .i64 s.li.d, .slice s.pr s.rs.length s.cr, .slice s.pf s.fs.length s.cf, .slice s.pt s.ts.length s.ct, .int .i64 s.lm.a, .int .i64 s.lm.b, .int .i64 s.lm.c, .int .i64 s.lm.d] 32 (0, 0)) :: (TS ++ (Kl7 ++ Kl11))) _ (fun p => by simp only [List.mem_cons, List.mem_append, or_assoc]) ?_
     refine wpV_c (i := 17) (OutRL sltC w ((g9, .cells #[.slice t.pc t.cs.length t.cc, .slice t.po t.os.length t.co, .int .i64 t.li.a, .int .i64 t.li.b, .int .i64 t.li.c, .int .i64 t.li.d, .slice t.pr t.rs.length t.cr, .slice t.pf t.fs.length t.cf, .slice t.pt t.ts.length t.ct, .int .i64 t.lm.a, .int .i64 t.lm.b, .int .i64 t.lm.c, .int .i64 t.lm.d] 32 (0, 0)) :: (g4, .cells (sltC b).toArray 34 (0, 0)) :: (g2, .cells (sltC a).toArray 34 (0, 0)) :: (g1, .cells #[.slice s.pc s.cs.length s.cc, .slice s.po s.os.length s.co, .int .i64 s.li.a, .int .i64 s.li.b, .int .i64 s.li.c, .int .i64 s.li.d, .slice s.pr s.rs.length s.cr, .slice s.pf s.fs.length s.cf, .slice s.pt s.ts.length s.ct, .int .i64 s.lm.a, .int .i64 s.lm.b, .int .i64 s.lm.c, .int .i64 s.lm.d] 32 (0, 0)) :: (TS ++ (Kl7 ++ Kl11))) (slotsX s.cs z)) rfl rfl Tw.kr Tw.kr Tw.kf (fun W hW => calls_r hW (R8All_any s.cs s.pc s.cc hsa s.os s.po s.co hs2 (spT s) (fun c hc => by have := (k3 c hc).2; omega) z W ((hc).keep hW.1) ((ho).keep hW.1))) (fun v K9 hG => hG.sub) Tw.pf ?_
     rintro _ _ ⟨p13, c13, Kl13, rfl, n13, R13, N13, rfl⟩
     obtain ⟨dj14_0, dj14_1, dj14_2, dj14_3, dj14_4, dj14_5, dj14_6⟩ : Dk g9 Kl13 ∧ Dk g4 Kl13 ∧ Dk g2 Kl13 ∧ Dk g1 Kl13 ∧ Dj TS Kl13 ∧ Dj Kl7 Kl13 ∧ Dj Kl11 Kl13 := Tw.djf N13
     refine wpV_mem _ _ _ ((g9, .cells #[.slice t.pc t.cs.length t.cc, .slice t.po t.os.length t.co, .int .i64 t.li.a, .int .i64 t.li.b, .int .i64 t.li.c, .int .i64 t.li.d, .slice t.pr t.rs.length t.cr, .slice t.pf t.fs.length t.cf, .slice t.pt t.ts.length t.ct, .int .i64 t.lm.a, .int .i64 t.lm.b, .int .i64 t.lm.c, .int .i64 t.lm.d] 32 (0, 0)) :: (g4, .cells (sltC b).toArray 34 (0, 0)) :: (g2, .cells (sltC a).toArray 34 (0, 0)) :: (g1, .cells #[.slice s.pc s.cs.length s.cc, .slice s.po s.os.length s.co, .int .i64 s.li.a, .int .i64 s.li.b, .int .i64 s.li.c, .int .i64 s.li.d, .slice s.pr s.rs.length s.cr, .slice s.pf s.fs.length s.cf, .slice s.pt s.ts.length s.ct, .int .i64 s.lm.a, .int .i64 s.lm.b, .int .i64 s.lm.c, .int .i64 s.lm.d] 32 (0, 0)) :: (TS ++ (Kl7 ++ (Kl11 ++ Kl13)))) _ (fun p => by simp only [List.mem_cons, List.mem_append, or_assoc]) ?_
     refine vv (i := 18) (v := .bool true) rfl rfl rfl (yb_call (f := 16) (args := #[.slice p11 ((slotsX s.cs z).length) c11, .slice p13 ((slotsX s.cs z).length) c13]) Tw.kf fun W hW => SameSlots_any (slotsX s.cs z) (slotsX s.cs z) p11 p13 c11 c13 (Nat.le_trans (slots_few k1 (fun c hc => (k3 c hc).2) _) Tw.om) W (R11 _ (hW.sub (fun p hp => by simp only [List.mem_cons, List.mem_append, List.nil_append, List.not_mem_nil, or_assoc, or_false, false_or, hp, true_or, or_true]))) (R13 _ (hW.sub (fun p hp => by simp only [List.mem_cons, List.mem_append, List.nil_append, List.not_mem_nil, or_assoc, or_false, false_or, hp, true_or, or_true]))) rfl) ?_
     refine vm (i := 19) (v := .bool false) rfl rfl rfl ?_
     refine vm (i := 20) (v := .bool false) rfl rfl rfl ?_
     refine vm (i := 21) (v := .bool false) rfl rfl rfl ?_
     refine vv (i := 22) (v := .agg (sltC a).toArray) rfl rfl rfl (yb_load (n := 3) (off := 0) rfl Tw.kr Tw.m2 Tryd.underlying34 rfl Tw.kr (by first | (simp [Value.cells]; done) | exact Nat.le_of_ble_eq_true rfl) Tw.kr) ?_
     refine vv (i := 23) (v := .agg (sltC b).toArray) rfl rfl rfl (yb_load (n := 3) (off := 0) rfl Tw.kr Tw.m1 Tryd.underlying34 rfl Tw.kr (by first | (simp [Value.cells]; done) | exact Nat.le_of_ble_eq_true rfl) Tw.kr) ?_
     refine vv (i := 24) (v := .int .i64 (cmpS a b)) rfl rfl rfl (yb_call (f := 19) (args := #[.agg (sltC a).toArray, .agg (sltC b).toArray]) Tw.kf fun W hW => Compare_any a b W) ?_
     refine vv (i := 25) (v := .agg (sltC a).toArray) rfl rfl rfl (yb_load (n := 3) (off := 0) rfl Tw.kr Tw.m2 Tryd.underlying34 rfl Tw.kr (by first | (simp [Value.cells]; done) | exact Nat.le_of_ble_eq_true rfl) Tw.kr) ?_
     refine vv (i := 26) (v := .agg (sltC b).toArray) rfl rfl rfl (yb_load (n := 3) (off := 0) rfl Tw.kr Tw.m1 Tryd.underlying34 rfl Tw.kr (by first | (simp [Value.cells]; done) | exact Nat.le_of_ble_eq_true rfl) Tw.kr) ?_
     refine vv (i := 27) (v := .int .i64 (cmpS a b)) rfl rfl rfl (yb_call (f := 20) (args := #[.agg (sltC a).toArray, .agg (sltC b).toArray]) Tw.kf fun W hW => R8Compare_any a b W) ?_
     refine vp (i := 28) (v := .bool false) rfl rfl rfl (run_bin rfl (vx := (.int .i64 (cmpS a b))) (vy := (.int .i64 (cmpS a b))) Tw.kr Tw.kr fun w => bi_neq (decide_eq_true rfl) w) ?_
     refine vm (i := 29) (v := .bool false) rfl rfl rfl ?_
     refine wpV_done Tw.kr (fun W6 hW6 => ?_) _
     change Code.wp ..
     refine wp_cond_false rfl ?_
     refine wp_skip ?_
     change Code.wp ..
     refine wp_seq ?_
     refine wp_seq ?_
     refine wp_region_V _ Tw.kr hW6 ?_
     refine vv (i := 0) (v := .agg (sltC a).toArray) rfl rfl rfl (yb_load (n := 3) (off := 0) rfl Tw.kr Tw.m2 Tryd.underlying34 rfl Tw.kr (by first | (simp [Value.cells]; done) | exact Nat.le_of_ble_eq_true rfl) Tw.kr) ?_
     refine vv (i := 1) (v := .agg (sltC b).toArray) rfl rfl rfl (yb_load (n := 3) (off := 0) rfl Tw.kr Tw.m1 Tryd.underlying34 rfl Tw.kr (by first | (simp [Value.cells]; done) | exact Nat.le_of_ble_eq_true rfl) Tw.kr) ?_
     refine vv (i := 2) (v := .bool (meetS a b)) rfl rfl rfl (yb_call (f := 21) (args := #[.agg (sltC a).toArray, .agg (sltC b).toArray]) Tw.kf fun W hW => Meet_any a b W) ?_
     refine vv (i := 3) (v := .agg (sltC a).toArray) rfl rfl rfl (yb_load (n := 3) (off := 0) rfl Tw.kr Tw.m2 Tryd.underlying34 rfl Tw.kr (by first | (simp [Value.cells]; done) | exact Nat.le_of_ble_eq_true rfl) Tw.kr) ?_
     refine vv (i := 4) (v := .agg (sltC b).toArray) rfl rfl rfl (yb_load (n := 3) (off := 0) rfl Tw.kr Tw.m1 Tryd.underlying34 rfl Tw.kr (by first | (simp [Value.cells]; done) | exact Nat.le_of_ble_eq_true rfl) Tw.kr) ?_
     refine vv (i := 5) (v := .bool (meetS a b)) rfl rfl rfl (yb_call (f := 22) (args := #[.agg (sltC a).toArray, .agg (sltC b).toArray]) Tw.kf fun W hW => R8Meet_any a b W) ?_
     refine vp (i := 6) (v := .bool false) rfl rfl rfl (run_bin rfl (vx := .bool (meetS a b)) (vy := .bool (meetS a b)) Tw.kr Tw.kr fun w => bn_bool_neq (b := true) (beq_self_eq_true _) Tryd.underlying4 w) ?_
     refine vm (i := 7) (v := .bool false) rfl rfl rfl ?_
     refine vv (i := 8) (v := .agg (sltC a).toArray) rfl rfl rfl (yb_load (n := 3) (off := 0) rfl Tw.kr Tw.m2 Tryd.underlying34 rfl Tw.kr (by first | (simp [Value.cells]; done) | exact Nat.le_of_ble_eq_true rfl) Tw.kr) ?_
     refine vv (i := 9) (v := .agg (sltC b).toArray) rfl rfl rfl (yb_load (n := 3) (off := 0) rfl Tw.kr Tw.m1 Tryd.underlying34 rfl Tw.kr (by first | (simp [Value.cells]; done) | exact Nat.le_of_ble_eq_true rfl) Tw.kr) ?_
     refine vv (i := 10) (v := .bool (overS a b)) rfl rfl rfl (yb_call (f := 23) (args := #[.agg (sltC a).toArray, .agg (sltC b).toArray]) Tw.kf fun W hW => Over_any a b W) ?_
     refine vv (i := 11) (v := .agg (sltC a).toArray) rfl rfl rfl (yb_load (n := 3) (off := 0) rfl Tw.kr Tw.m2 Tryd.underlying34 rfl Tw.kr (by first | (simp [Value.cells]; done) | exact Nat.le_of_ble_eq_true rfl) Tw.kr) ?_
     refine vv (i := 12) (v := .agg (sltC b).toArray) rfl rfl rfl (yb_load (n := 3) (off := 0) rfl Tw.kr Tw.m1 Tryd.underlying34 rfl Tw.kr (by first | (simp [Value.cells]; done) | exact Nat.le_of_ble_eq_true rfl) Tw.kr) ?_
     refine vv (i := 13) (v := .bool (overS a b)) rfl rfl rfl (yb_call (f := 24) (args := #[.agg (sltC a).toArray, .agg (sltC b).toArray]) Tw.kf fun W hW => R8Over_any a b W) ?_
     refine vp (i := 14) (v := .bool false) rfl rfl rfl (run_bin rfl (vx := .bool (overS a b)) (vy := .bool (overS a b)) Tw.kr Tw.kr fun w => bn_bool_neq (b := true) (beq_self_eq_true _) Tryd.underlying4 w) ?_
     refine vm (i := 15) (v := .bool false) rfl rfl rfl ?_
     refine vm (i := 16) (v := .bool false) rfl rfl rfl ?_
     refine vv (i := 17) (v := .agg (sltC a).toArray) rfl rfl rfl (yb_load (n := 3) (off := 0) rfl Tw.kr Tw.m2 Tryd.underlying34 rfl Tw.kr (by first | (simp [Value.cells]; done) | exact Nat.le_of_ble_eq_true rfl) Tw.kr) ?_
     refine vm (i := 18) (v := .slice p7 l.length c7) rfl rfl rfl ?_
     refine vv (i := 19) (v := .bool (heldS a l)) rfl rfl rfl (yb_call (f := 25) (args := #[.agg (sltC a).toArray, .slice p7 l.length c7]) Tw.kf fun W hW => Held_any a l p7 c7 hl4 hta1 W (slv_preg (Rz _ (hW.sub (fun p hp => by simp only [List.mem_cons, List.mem_append, List.nil_append, List.not_mem_nil, or_assoc, or_false, false_or, hp, true_or, or_true]))))) ?_
     refine vv (i := 20) (v := .agg (sltC a).toArray) rfl rfl rfl (yb_load (n := 3) (off := 0) rfl Tw.kr Tw.m2 Tryd.underlying34 rfl Tw.kr (by first | (simp [Value.cells]; done) | exact Nat.le_of_ble_eq_true rfl) Tw.kr) ?_
     refine vm (i := 21) (v := .slice p l.length c) rfl rfl rfl ?_
     refine vv (i := 22) (v := .bool (heldS a l)) rfl rfl rfl (yb_call (f := 26) (args := #[.agg (sltC a).toArray, .slice p l.length c]) Tw.kf fun W hW => R8Held_any a l p c hl4 hta1 W (HP.out.keep hW.1)) ?_
     refine vp (i := 23) (v := .bool false) rfl rfl rfl (run_bin rfl (vx := .bool (heldS a l)) (vy := .bool (heldS a l)) Tw.kr Tw.kr fun w => bn_bool_neq (b := true) (beq_self_eq_true _) Tryd.underlying4 w) ?_
     refine vm (i := 24) (v := .bool false) rfl rfl rfl ?_
     refine wpV_done Tw.kr (fun W7 hW7 => ?_) _
     change Code.wp ..
     refine wp_cond_false rfl ?_
     refine wp_skip ?_
     change Code.wp ..
     refine wp_seq ?_
     refine wp_region_L _ hW7 ?_
     refine lv (v := .agg #[.slice t.pc t.cs.length t.cc, .slice t.po t.os.length t.co, .int .i64 t.li.a, .int .i64 t.li.b, .int .i64 t.li.c, .int .i64 t.li.d, .slice t.pr t.rs.length t.cr, .slice t.pf t.fs.length t.cf, .slice t.pt t.ts.length t.ct, .int .i64 t.lm.a, .int .i64 t.lm.b, .int .i64 t.lm.c, .int .i64 t.lm.d]) rfl rfl (yb_load (n := 13) (off := 0) rfl Tw.kr Tw.m0 Tryd.underlying32 rfl Tw.kr (by first | (simp [Value.cells]; done) | exact Nat.le_of_ble_eq_true rfl) Tw.kr) ?_
     refine lv (v := .agg #[.slice s.pc s.cs.length s.cc, .slice s.po s.os.length s.co, .int .i64 s.li.a, .int .i64 s.li.b, .int .i64 s.li.c, .int .i64 s.li.d, .slice s.pr s.rs.length s.cr, .slice s.pf s.fs.length s.cf, .slice s.pt s.ts.length s.ct, .int .i64 s.lm.a, .int .i64 s.lm.b, .int .i64 s.lm.c, .int .i64 s.lm.d]) rfl rfl (yb_load (n := 13) (off := 0) rfl Tw.kr Tw.m3 Tryd.underlying32 rfl Tw.kr (by first | (simp [Value.cells]; done) | exact Nat.le_of_ble_eq_true rfl) Tw.kr) ?_
     refine lv (v := .bool true) rfl rfl (yb_call (f := 27) (args := #[.agg #[.slice t.pc t.cs.length t.cc, .slice t.po t.os.length t.co, .int .i64 t.li.a, .int .i64 t.li.b, .int .i64 t.li.c, .int .i64 t.li.d, .slice t.pr t.rs.length t.cr, .slice t.pf t.fs.length t.cf, .slice t.pt t.ts.length t.ct, .int .i64 t.lm.a, .int .i64 t.lm.b, .int .i64 t.lm.c, .int .i64 t.lm.d], .agg #[.slice s.pc s.cs.length s.cc, .slice s.po s.os.length s.co, .int .i64 s.li.a, .int .i64 s.li.b, .int .i64 s.li.c, .int .i64 s.li.d, .slice s.pr s.rs.length s.cr, .slice s.pf s.fs.length s.cf, .slice s.pt s.ts.length s.ct, .int .i64 s.lm.a, .int .i64 s.lm.b, .int .i64 s.lm.c, .int .i64 s.lm.d]]) Tw.kf fun W hW => KeptShip_any s t TS W (hI.keep hW.1) hL (fun b hb => hW.2 b (by simp only [List.mem_cons, List.mem_append, List.nil_append, List.not_mem_nil, or_assoc, or_false, false_or, hb, true_or, or_true]))) ?_
     refine lm (v := .bool true) rfl rfl ?_
     refine lm (v := .slice p7 l.length c7) rfl rfl ?_
     refine lm (v := .slice p l.length c) rfl rfl ?_
     refine lv (v := .bool true) rfl rfl (yb_call (f := 28) (args := #[.slice p7 l.length c7, .slice p l.length c]) Tw.kf fun W hW => KeptSlots_any l p7 p c7 c hl6 Tw.om W (Rz _ (hW.sub (fun p hp => by simp only [List.mem_cons, List.mem_append, List.nil_append, List.not_mem_nil, or_assoc, or_false, false_or, hp, true_or, or_true]))) (HP.out.keep hW.1)) ?_
     refine lm (v := .bool true) rfl rfl ?_
     refine lm (v := .bool true) rfl rfl ?_
     refine lv (v := .bool true) rfl rfl (yb_call (f := 11) (args := #[]) Tw.kf fun W hW => awake8_any W (HE.out.keep hW.1)) ?_
     refine lm (v := .bool true) rfl rfl ?_
     refine lm (v := .bool true) rfl rfl ?_
     refine wpL_done (fun W8 hW8 => ?_)
     change Code.wp ..
     refine wp_ret ?_
     try simp only [inBlock_ret, then_ret]
     refine bodyPost_ret (v := .bool true) ?_ rfl ?_
     · kernel_rfl
     · exact ⟨rfl, hW8.1⟩
   | true =>
     have h2 : 60 < l.length := of_decide_eq_true hd2
     clear hd2
     refine wp_cond_true rfl ?_
     refine wp_seq ?_
     refine wp_region_L _ hW4 ?_
     refine lv (v := .bool true) rfl rfl (yb_call (f := 11) (args := #[]) Tw.kf fun W hW => awake8_any W (HE.out.keep hW.1)) ?_
     refine lm (v := .bool true) rfl rfl ?_
     refine wpL_done (fun W9 hW9 => ?_)
     change Code.wp ..
     refine wp_ret ?_
     try simp only [inBlock_ret, then_ret]
     refine bodyPost_ret (v := .bool true) ?_ rfl ?_
     · kernel_rfl
     · exact ⟨rfl, hW9.1⟩
end Go.Proofs.YthpooalhibedpaaDoor
/- The reference of ship: plain facts. -/
namespace Go.Proofs.YthpooalhibedpaaDoor
open Go Go.RowKit Tw
section
variable {cs : List Col} {os : List Cov} {n : Int}
end
section
variable {cs : List Col} {a b : Int}
end
def rowOk (c : Col) : Prop := -9223372036854775808 ≤ c.row ∧ c.row ≤ 9223372036854775807
end Go.Proofs.YthpooalhibedpaaDoor
namespace Go.Proofs.YthpooalhibedpaaDoor
open Go Go.RowKit Tw
end Go.Proofs.YthpooalhibedpaaDoor
namespace Go.Proofs.YthpooalhibedpaaDoor
open Go Go.RowKit Tw
end Go.Proofs.YthpooalhibedpaaDoor
/- Records in a block that are written; ships that are not right: plain facts. -/
namespace Go.Proofs.YthpooalhibedpaaDoor
open Go Go.RowKit Tw
def RowR {α : Type} (cells : α → List Value) (cur : Array Value) (l : List α) : Prop := ∃ rest, cur.toList = l.flatMap cells ++ rest
section
variable {α : Type} {cells : α → List Value} {sz : Nat} {cur : Array Value} {l : List α} {k j : Nat} {c c' : α} {v : Value}
theorem RowR.get (h : RowR cells cur l) (hc : ∀ y, (cells y).length = sz) (hk : l[k]? = some c) : ∀ (j : Nat) (v : Value), (cells c)[j]? = some v → cur[0 + k * sz + j]? = some v := fun j v hv => by
 obtain ⟨rest, h⟩ := h
 have h1 := flat_get hc hk hv
 rw [← Array.getElem?_toList, h, Nat.zero_add, List.getElem?_append_left (List.getElem?_eq_some_iff.1 h1).1, h1]
theorem flat_set (hc : ∀ y, (cells y).length = sz) (hk : l[k]? = some c) (hj : j < sz) (he : cells c' = (cells c).set j v) : (l.flatMap cells).set (k * sz + j) v = (l.set k c').flatMap cells := by
 obtain ⟨hkl, hkc⟩ := List.getElem?_eq_some_iff.1 hk
 have e1 := er_split hk
 have hl : ((l.take k).flatMap cells).length = k * sz := by rw [flat_len hc, List.length_take, Nat.min_eq_left Tw.om]
 rw [show l.set k c' = l.take k ++ c' :: l.drop (k + 1) from by rw [List.set_eq_take_append_cons_drop, if_pos hkl], List.flatMap_append, List.flatMap_cons, he]
 conv => lhs; rw [e1, List.flatMap_append, List.flatMap_cons]
 rw [List.set_append_right _ _ (by rw [hl]; omega), hl, Nat.add_sub_cancel_left, List.set_append_left _ _ (by rw [hc]; exact hj)]
theorem RowR.set (h : RowR cells cur l) (hc : ∀ y, (cells y).length = sz) (hk : l[k]? = some c) (hj : j < sz) (he : cells c' = (cells c).set j v) : RowR cells (cur.setIfInBounds (0 + k * sz + j) v) (l.set k c') := by
 obtain ⟨rest, h⟩ := h
 refine ⟨rest, ?_⟩
 have hkl := (List.getElem?_eq_some_iff.1 hk).1
 have hlt : k * sz + j < (l.flatMap cells).length := by
   rw [flat_len hc]
   have : (k + 1) * sz ≤ l.length * sz := Nat.mul_le_mul_right _ hkl
   rw [Nat.succ_mul] at this; omega
 rw [Array.toList_setIfInBounds, h, Nat.zero_add, List.set_append_left _ _ hlt, flat_set hc hk hj he]
end
-- what is wrong
section
variable {cs : List Col} {os : List Cov}
end
end Go.Proofs.YthpooalhibedpaaDoor
/- Lists of numbers that are read, cut and handed on: over any program. -/
namespace Tw
open Go Go.RowKit Go.Proofs.YthpooalhibedpaaDoor
def nums (l : List Nat) : List Value := l.map fun n => .int .i64 ((n : Nat) : Int)
theorem nums_len (l : List Nat) : (nums l).length = l.length := by simp [nums]
theorem nums_app (l m : List Nat) : nums (l ++ m) = nums l ++ nums m := by simp [nums]
theorem nums_get {l : List Nat} {k x : Nat} (h : l[k]? = some x) : (nums l)[k]? = some (.int .i64 ((x : Nat) : Int)) := by simp [nums, h]
theorem nums_take (l : List Nat) (k : Nat) : nums (l.take k) = (nums l).take k := by simp [nums, List.map_take]
theorem nums_drop (l : List Nat) (k : Nat) : nums (l.drop k) = (nums l).drop k := by simp [nums, List.map_drop]
theorem slv_take {W : World} {p : Option Addr} {xs : List Value} (h : SLV W p xs) (k : Nat) : SLV W p (xs.take k) := by
 rcases h with rfl | ⟨b, off, rfl, hlt, hc⟩
 · exact .inl (by simp)
 · refine .inr ⟨b, off, rfl, hlt, fun i u hu => hc i u ?_⟩
   rw [List.getElem?_take] at hu
   split at hu
   · exact hu
   · cases hu
def NS (W0 : Base) (p : Option Addr) (l : List Nat) (T : List (Nat × Obj)) : Prop := ∀ W, KS W0 T W → SLV W p (nums l)
section
variable {W0 : Base} {p : Option Addr} {l : List Nat} {K T : List (Nat × Obj)}
theorem NS.mono (h : NS W0 p l T) (hs : ∀ q ∈ T, q ∈ K) : NS W0 p l K := fun W hW => h W (hW.sub hs)
theorem NS.take (h : NS W0 p l T) (k : Nat) : NS W0 p (l.take k) T := fun W hW => by rw [nums_take]; exact slv_take (h W hW) k
theorem NS.nil : NS W0 p [] T := fun _ _ => .inl rfl
theorem NS.base {W : World} (h : SLV W p (nums l)) : NS (W : Base) p l [] := fun _ hW => h.keep hW.1
theorem NS.at {W : World} {k : Nat} (h : NS W0 p l T) (hW : KS W0 T W) (hk : k < l.length) : ∃ b off, p = some ⟨b, off, none⟩ ∧ ∀ W, KS W0 T W → ∀ (i x : Nat), l[i]? = some x → W.cell? ⟨b, off + i * 1, none⟩ = some (.int .i64 ((x : Nat) : Int)) := by
 have hne : nums l ≠ [] := fun e => by have := nums_len l; rw [e] at this; simp at this; omega
 rcases h W hW with h0 | ⟨b, off, rfl, _, _⟩
 · exact absurd h0 hne
 · refine ⟨b, off, rfl, fun W2 hW2 i x hx => ?_⟩
   rcases h W2 hW2 with h0 | ⟨b', off', he, _, hc⟩
   · exact absurd h0 hne
   · cases he
     rw [Nat.mul_one]
     exact hc i _ (nums_get hx)
theorem NS.drop {W : World} {c k : Nat} (h : NS W0 p l T) (hW : KS W0 T W) (hc : l.length ≤ c) : NS W0 (if c = k then p else p.map (·.add (k * 1))) (l.drop k) T := by
 rcases Nat.lt_or_ge k l.length with h1 | h1
 · obtain ⟨b, off, rfl, h2⟩ := h.at hW h1
   rw [if_neg Tw.om]
   intro W2 hW2
   rcases h W2 hW2 with h0 | ⟨b', off', he, hlt, hc⟩
   · have := nums_len l; rw [h0] at this; simp at this; omega
   · cases he
     refine .inr ⟨b, off + k * 1, by simp [addr_add], hlt, fun i u hu => ?_⟩
     rw [nums_drop, List.getElem?_drop] at hu
     rw [Nat.mul_one, Nat.add_assoc]
     exact hc _ u hu
 · rw [List.drop_of_length_le h1]; exact NS.nil
theorem cell_same {w w2 : World} {b off : Nat} (h : w.heap[b]? = w2.heap[b]?) : w.cell? ⟨b, off, none⟩ = w2.cell? ⟨b, off, none⟩ := by
 unfold World.cell?; simp only [h]
def SLF (W w2 : World) (p : Option Addr) (xs : List Value) : Prop := xs = [] ∨ ∃ b off, p = some ⟨b, off, none⟩ ∧ W.heap.size ≤ b ∧ b < w2.heap.size ∧ Cel w2 b off xs
theorem SLF.slv {W w2 : World} {xs : List Value} (h : SLF W w2 p xs) : SLV w2 p xs := h.imp id fun ⟨b, off, h1, _, h2, h3⟩ => ⟨b, off, h1, h2, h3⟩
theorem SLF.take {W w2 : World} {xs : List Value} (h : SLF W w2 p xs) (k : Nat) : SLF W w2 p (xs.take k) := by
 rcases h with rfl | ⟨b, off, rfl, h1, h2, hc⟩
 · exact .inl (by simp)
 · refine .inr ⟨b, off, rfl, h1, h2, fun i u hu => hc i u ?_⟩
   rw [List.getElem?_take] at hu
   split at hu
   · exact hu
   · cases hu
theorem ns_new {W w2 : World} (hW : KS W0 K W) (hB : Below W.heap.size W w2) (hs : SLF W w2 p (nums l)) : ∃ T, KS W0 (K ++ T) w2 ∧ Dj K T ∧ NS W0 p l T ∧ ∀ W3, KS W0 T W3 → W0.B = W0.w.heap.size → SLF W0.w W3 p (nums l) := by
 have hK := hW.below hB
 rcases hs with h0 | ⟨b, off, rfl, hge, hlt, hc⟩
 · exact ⟨[], by rw [List.append_nil]; exact hK, fun _ _ _ h => (by cases h), fun _ _ => .inl h0, fun _ _ _ => .inl h0⟩
 · have hb : w2.heap[b]? = some (w2.heap[b]) := Array.getElem?_eq_getElem hlt
   refine ⟨[(b, w2.heap[b])], ⟨hK.1, fun q hq => ?_⟩, fun q hq r hr e => ?_, fun W3 hW3 => .inr ⟨b, off, rfl, ?_, fun i u hu => ?_⟩, fun W3 hW3 e => .inr ⟨b, off, rfl, ?_, ?_, fun i u hu => ?_⟩⟩
   · rcases List.mem_append.1 hq with h | h
     · exact hK.2 q h
     · cases List.mem_singleton.1 h; exact hb
   · cases List.mem_singleton.1 hr
     have := lt_of_block (hW.2 q hq)
     have e' : b = q.1 := e
     omega
   · have := hW3.2 _ Tw.m0; exact lt_of_block this
   · rw [cell_same (w2 := w2) (by rw [hW3.2 _ Tw.m0]; exact hb.symm)]; exact hc i u hu
   · have := hW.size; omega
   · have := hW3.2 _ Tw.m0; exact lt_of_block this
   · rw [cell_same (w2 := w2) (by rw [hW3.2 _ Tw.m0]; exact hb.symm)]; exact hc i u hu
end
section
variable {P : Program} {T E : TypeId} {W0 : Base}
end
def Ans (w : World) (l : List Nat) (e : Ending) (w' : World) : Prop := ∃ q d, e = .returned (.slice q l.length d) ∧ l.length ≤ d ∧ SLF w w' q (nums l) ∧ Below w.heap.size w w'
def AnsV (w : World) (l : List Nat) (e : Ending) (w' : World) : Prop := ∃ q d, e = .returned (.slice q l.length d) ∧ l.length ≤ d ∧ SLV w' q (nums l) ∧ Below w.heap.size w w'
def AnsG (W0 : Base) (K : List (Nat × Obj)) (l : List Nat) (v : Value) (K2 : List (Nat × Obj)) : Prop := ∃ q d T, v = .slice q l.length d ∧ l.length ≤ d ∧ NS W0 q l T ∧ (∀ W3, KS W0 T W3 → W0.B = W0.w.heap.size → SLF W0.w W3 q (nums l)) ∧ Dj K T ∧ K2 = K ++ T
def AnsW (W0 : Base) (K : List (Nat × Obj)) (l : List Nat) (v : Value) (K2 : List (Nat × Obj)) : Prop := ∃ q d T, v = .slice q l.length d ∧ l.length ≤ d ∧ NS W0 q l T ∧ K2 = K ++ T
def Ans2 (w : World) (l m : List Nat) (e : Ending) (w' : World) : Prop := ∃ q d q2 d2, e = .returned (.tuple #[.slice q l.length d, .slice q2 m.length d2]) ∧ l.length ≤ d ∧ m.length ≤ d2 ∧ SLV w' q (nums l) ∧ SLV w' q2 (nums m) ∧ Below w.heap.size w w'
def AnsW2 (W0 : Base) (K : List (Nat × Obj)) (l m : List Nat) (v : Value) (K2 : List (Nat × Obj)) : Prop := ∃ q d q2 d2 T, v = .tuple #[.slice q l.length d, .slice q2 m.length d2] ∧ l.length ≤ d ∧ m.length ≤ d2 ∧ NS W0 q l T ∧ NS W0 q2 m T ∧ K2 = K ++ T
section
variable {W0 : Base} {K : List (Nat × Obj)} {W w2 : World} {l m : List Nat} {e : Ending}
theorem Ans.v (h : Ans W l e w2) : AnsV W l e w2 := by
 obtain ⟨q, d, h1, h2, h3, h4⟩ := h
 exact ⟨q, d, h1, h2, h3.slv, h4⟩
theorem Ans.g (h : Ans W l e w2) (hW : KS W0 K W) : ∃ v K2, e = .returned v ∧ KS W0 K2 w2 ∧ AnsG W0 K l v K2 := by
 obtain ⟨q, d, h1, h2, h3, h4⟩ := h
 obtain ⟨T, a1, a2, a3, a4⟩ := ns_new hW h4 h3
 exact ⟨_, _, h1, a1, q, d, T, rfl, h2, a3, a4, a2, rfl⟩
theorem ns_of' {p : Option Addr} (hW : KS W0 K W) (hB : Below W.heap.size W w2) (hs : SLV w2 p (nums l)) : ∃ T, KS W0 (K ++ T) w2 ∧ NS W0 p l T := by
 have hK := hW.below hB
 rcases hs with h0 | ⟨b, off, rfl, hlt, hc⟩
 · exact ⟨[], by rw [List.append_nil]; exact hK, fun _ _ => .inl h0⟩
 · have hb : w2.heap[b]? = some (w2.heap[b]) := Array.getElem?_eq_getElem hlt
   refine ⟨[(b, w2.heap[b])], ⟨hK.1, fun q hq => ?_⟩, fun W3 hW3 => .inr ⟨b, off, rfl, ?_, fun i u hu => ?_⟩⟩
   · rcases List.mem_append.1 hq with h | h
     · exact hK.2 q h
     · cases List.mem_singleton.1 h; exact hb
   · have := hW3.2 _ Tw.m0; exact lt_of_block this
   · rw [cell_same (w2 := w2) (by rw [hW3.2 _ Tw.m0]; exact hb.symm)]; exact hc i u hu
theorem AnsV.g (h : AnsV W l e w2) (hW : KS W0 K W) : ∃ v K2, e = .returned v ∧ KS W0 K2 w2 ∧ AnsW W0 K l v K2 := by
 obtain ⟨q, d, h1, h2, h3, h4⟩ := h
 obtain ⟨T, a1, a3⟩ := ns_of' hW h4 h3
 exact ⟨_, _, h1, a1, q, d, T, rfl, h2, a3, rfl⟩
theorem Ans2.g (h : Ans2 W l m e w2) (hW : KS W0 K W) : ∃ v K2, e = .returned v ∧ KS W0 K2 w2 ∧ AnsW2 W0 K l m v K2 := by
 obtain ⟨q, d, q2, d2, h1, h2, h3, h4, h5, h6⟩ := h
 obtain ⟨T, a1, a3⟩ := ns_of' hW h6 h4
 obtain ⟨U, b1, b3⟩ := ns_of' a1 (Below.refl _ _) h5
 refine ⟨_, _, h1, b1, q, d, q2, d2, T ++ U, rfl, h2, h3, a3.mono (fun q hq => List.mem_append_left _ hq), b3.mono (fun q hq => List.mem_append_right _ hq), by rw [List.append_assoc]⟩
theorem own_snoc {E : TypeId} {v : Value} {n d : Nat} (h : OwnL W0 E 1 v n (nums l ++ [.int .i64 ((d : Nat) : Int)]) K) : OwnL W0 E 1 v n (nums (l ++ [d])) K := by
 rw [nums_app]; exact h
end
section
variable {P : Program} {W0 : Base}
end
end Tw
/- Which columns have which cover; how often a column is met: plain facts. -/
namespace Go.Proofs.YthpooalhibedpaaDoor
open Go Go.RowKit Tw
section
variable {cs : List Col} {os : List Cov}
section
variable {n m k j x : Nat} {f : Nat → Nat} {sl : List Nat} {L : List Int}
end
end
end Go.Proofs.YthpooalhibedpaaDoor
/- Right ships, found pair by pair: plain facts. -/
namespace Go.Proofs.YthpooalhibedpaaDoor
open Go Go.RowKit Tw
section
variable {cs : List Col} {os : List Cov}
end
end Go.Proofs.YthpooalhibedpaaDoor
namespace Go.Proofs.YthpooalhibedpaaDoor
open Go Go.RowKit Tw
end Go.Proofs.YthpooalhibedpaaDoor
namespace Go.Proofs.YthpooalhibedpaaDoor
open Go Go.RowKit Tw
end Go.Proofs.YthpooalhibedpaaDoor
namespace Go.Proofs.YthpooalhibedpaaDoor
open Go Go.RowKit Tw
end Go.Proofs.YthpooalhibedpaaDoor
namespace Go.Proofs.YthpooalhibedpaaDoor
open Go Go.RowKit Tw
end Go.Proofs.YthpooalhibedpaaDoor
/- What came in: a ship, with its sizes. -/
namespace Go.Proofs.YthpooalhibedpaaDoor
open Go Go.RowKit Tw Go.ChangeShapes Go.WideShapes
def colS (w : World) (c : Col) : Prop := intOk w c.bay ∧ intOk w c.row ∧ intOk w c.tiers ∧ intOk w c.height ∧ intOk w c.k20 ∧ intOk w c.k40 ∧ intOk w c.lash ∧ ListS inC intOk 8 w c.pp c.pc c.plugs ∧ intOk w c.x ∧ intOk w c.y ∧ intOk w c.z
def covS (w : World) (o : Cov) : Prop := intOk w o.bay ∧ ListS inC intOk 8 w o.rp o.rc o.rows
def tkS (w : World) (t : Tk) : Prop := intOk w t.kilos ∧ intOk w t.x ∧ intOk w t.y ∧ intOk w t.z ∧ intOk w t.surface ∧ ListS inC intOk 8 w t.sp t.sc t.steps
set_option maxHeartbeats 1000000 in
theorem opensS_col : OpensS Tryd.prog 65 colC colS := by
 intro H enc w base sp held fuel cs x h hwt
 obtain ⟨hl, hf⟩ := trod_fldS Tryd.underlying65 h hwt
 have ci : Tryd.prog.cellsOf 3 = 1 := by kernel_rfl
 have cn : Tryd.prog.cellsOf 65 = 12 := by kernel_rfl
 rw [cn] at hl
 obtain ⟨v0, v1, v2, v3, v4, v5, v6, v7, v8, v9, v10, v11, rfl⟩ : ∃ v0 v1 v2 v3 v4 v5 v6 v7 v8 v9 v10 v11, cs = [v0, v1, v2, v3, v4, v5, v6, v7, v8, v9, v10, v11] := by
   rcases cs with _ | ⟨v0, _ | ⟨v1, _ | ⟨v2, _ | ⟨v3, _ | ⟨v4, _ | ⟨v5, _ | ⟨v6, _ | ⟨v7, _ | ⟨v8, _ | ⟨v9, _ | ⟨v10, _ | ⟨v11, _ | ⟨vx, cs⟩⟩⟩⟩⟩⟩⟩⟩⟩⟩⟩⟩⟩ <;> simp at hl
   exact ⟨v0, v1, v2, v3, v4, v5, v6, v7, v8, v9, v10, v11, rfl⟩
 have key : ∀ (i : Nat) (f : Field) (v : Value), (#[v0, v1, v2, v3, v4, v5, v6, v7, v8, v9, v10, v11] : Array Value)[i]? = some v → f.type = 3 → f.offset = i → (∃ n y, DataW.trod enc Tryd.prog w base sp held n f.type ((([v0, v1, v2, v3, v4, v5, v6, v7, v8, v9, v10, v11] : List Value).drop f.offset).take (Tryd.prog.cellsOf f.type)) = some y) → ∃ n : Int, v = .int .i64 n ∧ -9223372036854775808 ≤ n ∧ n ≤ 9223372036854775807 := by
   intro i f v hv ht ho ⟨n, y, hy⟩
   rw [ht, ci, ho] at hy
   obtain ⟨z, hz, hz1, hz2⟩ := fld_int (P := Tryd.prog) Tryd.underlying3 hy
   have hv2 : ([v0, v1, v2, v3, v4, v5, v6, v7, v8, v9, v10, v11] : List Value)[i]? = some v := by simpa using hv
   obtain ⟨hi, hvi⟩ := List.getElem?_eq_some_iff.1 hv2
   rw [List.drop_eq_getElem_cons hi, hvi] at hz
   have hz0 : v = .int .i64 z := by simpa using hz
   have m1 : IntKind.i64.min = -9223372036854775808 := by decide
   have m2 : IntKind.i64.max = 9223372036854775807 := by decide
   rw [m1] at hz1; rw [m2] at hz2
   exact ⟨z, hz0, hz1, hz2⟩
 obtain ⟨n0, e0, a0, b0⟩ := key 0 _ v0 rfl rfl rfl (by obtain ⟨n9, y9, h9, _⟩ := hf 0 _ rfl; exact ⟨n9, y9, h9⟩)
 subst e0
 obtain ⟨n1, e1, a1, b1⟩ := key 1 _ v1 rfl rfl rfl (by obtain ⟨n9, y9, h9, _⟩ := hf 1 _ rfl; exact ⟨n9, y9, h9⟩)
 subst e1
 obtain ⟨m2, y2, h2, w2⟩ := hf 2 _ rfl
 obtain ⟨n2, hd2⟩ := fld_bool (P := Tryd.prog) Tryd.underlying4 h2
 have c2 : Tryd.prog.cellsOf 4 = 1 := by kernel_rfl
 have e2 : v2 = .bool n2 := by
   have hd : (([.int .i64 n0, .int .i64 n1, v2, v3, v4, v5, v6, v7, v8, v9, v10, v11] : List Value).drop 2).take (Tryd.prog.cellsOf 4) = [.bool n2] := hd2
   rw [c2] at hd
   simpa using hd
 subst e2
 obtain ⟨n3, e3, a3, b3⟩ := key 3 _ v3 rfl rfl rfl (by obtain ⟨n9, y9, h9, _⟩ := hf 3 _ rfl; exact ⟨n9, y9, h9⟩)
 subst e3
 obtain ⟨n4, e4, a4, b4⟩ := key 4 _ v4 rfl rfl rfl (by obtain ⟨n9, y9, h9, _⟩ := hf 4 _ rfl; exact ⟨n9, y9, h9⟩)
 subst e4
 obtain ⟨n5, e5, a5, b5⟩ := key 5 _ v5 rfl rfl rfl (by obtain ⟨n9, y9, h9, _⟩ := hf 5 _ rfl; exact ⟨n9, y9, h9⟩)
 subst e5
 obtain ⟨n6, e6, a6, b6⟩ := key 6 _ v6 rfl rfl rfl (by obtain ⟨n9, y9, h9, _⟩ := hf 6 _ rfl; exact ⟨n9, y9, h9⟩)
 subst e6
 obtain ⟨n7, e7, a7, b7⟩ := key 7 _ v7 rfl rfl rfl (by obtain ⟨n9, y9, h9, _⟩ := hf 7 _ rfl; exact ⟨n9, y9, h9⟩)
 subst e7
 obtain ⟨m8, y8, h8, w8⟩ := hf 8 _ rfl
 obtain ⟨p8, q8, n8, hd8, ok8⟩ := trod_recsS (sz := 1) (by_ := 8) Tryd.underlying63 (OpensS.of opens_in) Tw.kr Tw.om (fun _ => rfl) Tw.kr h8 w8
 have c8 : Tryd.prog.cellsOf 63 = 1 := by kernel_rfl
 have e8 : v8 = .slice p8 n8.length q8 := by
   have hd : (([.int .i64 n0, .int .i64 n1, .bool n2, .int .i64 n3, .int .i64 n4, .int .i64 n5, .int .i64 n6, .int .i64 n7, v8, v9, v10, v11] : List Value).drop 8).take (Tryd.prog.cellsOf 63) = [.slice p8 n8.length q8] := hd8
   rw [c8] at hd
   simpa using hd
 subst e8
 obtain ⟨n9, e9, a9, b9⟩ := key 9 _ v9 rfl rfl rfl (by obtain ⟨n9, y9, h9, _⟩ := hf 9 _ rfl; exact ⟨n9, y9, h9⟩)
 subst e9
 obtain ⟨n10, e10, a10, b10⟩ := key 10 _ v10 rfl rfl rfl (by obtain ⟨n9, y9, h9, _⟩ := hf 10 _ rfl; exact ⟨n9, y9, h9⟩)
 subst e10
 obtain ⟨n11, e11, a11, b11⟩ := key 11 _ v11 rfl rfl rfl (by obtain ⟨n9, y9, h9, _⟩ := hf 11 _ rfl; exact ⟨n9, y9, h9⟩)
 subst e11
 exact ⟨⟨n0, n1, n2, n3, n4, n5, n6, n7, n8, p8, q8, n9, n10, n11⟩, rfl, ⟨a0, b0⟩, ⟨a1, b1⟩, ⟨a3, b3⟩, ⟨a4, b4⟩, ⟨a5, b5⟩, ⟨a6, b6⟩, ⟨a7, b7⟩, ok8, ⟨a9, b9⟩, ⟨a10, b10⟩, ⟨a11, b11⟩⟩
set_option maxHeartbeats 1000000 in
theorem opensS_cov : OpensS Tryd.prog 67 covC covS := by
 intro H enc w base sp held fuel cs x h hwt
 obtain ⟨hl, hf⟩ := trod_fldS Tryd.underlying67 h hwt
 have ci : Tryd.prog.cellsOf 3 = 1 := by kernel_rfl
 have cn : Tryd.prog.cellsOf 67 = 2 := by kernel_rfl
 rw [cn] at hl
 obtain ⟨v0, v1, rfl⟩ : ∃ v0 v1, cs = [v0, v1] := by
   rcases cs with _ | ⟨v0, _ | ⟨v1, _ | ⟨vx, cs⟩⟩⟩ <;> simp at hl
   exact ⟨v0, v1, rfl⟩
 have key : ∀ (i : Nat) (f : Field) (v : Value), (#[v0, v1] : Array Value)[i]? = some v → f.type = 3 → f.offset = i → (∃ n y, DataW.trod enc Tryd.prog w base sp held n f.type ((([v0, v1] : List Value).drop f.offset).take (Tryd.prog.cellsOf f.type)) = some y) → ∃ n : Int, v = .int .i64 n ∧ -9223372036854775808 ≤ n ∧ n ≤ 9223372036854775807 := by
   intro i f v hv ht ho ⟨n, y, hy⟩
   rw [ht, ci, ho] at hy
   obtain ⟨z, hz, hz1, hz2⟩ := fld_int (P := Tryd.prog) Tryd.underlying3 hy
   have hv2 : ([v0, v1] : List Value)[i]? = some v := by simpa using hv
   obtain ⟨hi, hvi⟩ := List.getElem?_eq_some_iff.1 hv2
   rw [List.drop_eq_getElem_cons hi, hvi] at hz
   have hz0 : v = .int .i64 z := by simpa using hz
   have m1 : IntKind.i64.min = -9223372036854775808 := by decide
   have m2 : IntKind.i64.max = 9223372036854775807 := by decide
   rw [m1] at hz1; rw [m2] at hz2
   exact ⟨z, hz0, hz1, hz2⟩
 obtain ⟨n0, e0, a0, b0⟩ := key 0 _ v0 rfl rfl rfl (by obtain ⟨n9, y9, h9, _⟩ := hf 0 _ rfl; exact ⟨n9, y9, h9⟩)
 subst e0
 obtain ⟨m1, y1, h1, w1⟩ := hf 1 _ rfl
 obtain ⟨p1, q1, n1, hd1, ok1⟩ := trod_recsS (sz := 1) (by_ := 8) Tryd.underlying63 (OpensS.of opens_in) Tw.kr Tw.om (fun _ => rfl) Tw.kr h1 w1
 have c1 : Tryd.prog.cellsOf 63 = 1 := by kernel_rfl
 have e1 : v1 = .slice p1 n1.length q1 := by
   have hd : (([.int .i64 n0, v1] : List Value).drop 1).take (Tryd.prog.cellsOf 63) = [.slice p1 n1.length q1] := hd1
   rw [c1] at hd
   simpa using hd
 subst e1
 exact ⟨⟨n0, n1, p1, q1⟩, rfl, ⟨a0, b0⟩, ok1⟩
set_option maxHeartbeats 1000000 in
theorem opensS_tk : OpensS Tryd.prog 129 tkC tkS := by
 intro H enc w base sp held fuel cs x h hwt
 obtain ⟨hl, hf⟩ := trod_fldS Tryd.underlying129 h hwt
 have ci : Tryd.prog.cellsOf 3 = 1 := by kernel_rfl
 have cn : Tryd.prog.cellsOf 129 = 6 := by kernel_rfl
 rw [cn] at hl
 obtain ⟨v0, v1, v2, v3, v4, v5, rfl⟩ : ∃ v0 v1 v2 v3 v4 v5, cs = [v0, v1, v2, v3, v4, v5] := by
   rcases cs with _ | ⟨v0, _ | ⟨v1, _ | ⟨v2, _ | ⟨v3, _ | ⟨v4, _ | ⟨v5, _ | ⟨vx, cs⟩⟩⟩⟩⟩⟩⟩ <;> simp at hl
   exact ⟨v0, v1, v2, v3, v4, v5, rfl⟩
 have key : ∀ (i : Nat) (f : Field) (v : Value), (#[v0, v1, v2, v3, v4, v5] : Array Value)[i]? = some v → f.type = 3 → f.offset = i → (∃ n y, DataW.trod enc Tryd.prog w base sp held n f.type ((([v0, v1, v2, v3, v4, v5] : List Value).drop f.offset).take (Tryd.prog.cellsOf f.type)) = some y) → ∃ n : Int, v = .int .i64 n ∧ -9223372036854775808 ≤ n ∧ n ≤ 9223372036854775807 := by
   intro i f v hv ht ho ⟨n, y, hy⟩
   rw [ht, ci, ho] at hy
   obtain ⟨z, hz, hz1, hz2⟩ := fld_int (P := Tryd.prog) Tryd.underlying3 hy
   have hv2 : ([v0, v1, v2, v3, v4, v5] : List Value)[i]? = some v := by simpa using hv
   obtain ⟨hi, hvi⟩ := List.getElem?_eq_some_iff.1 hv2
   rw [List.drop_eq_getElem_cons hi, hvi] at hz
   have hz0 : v = .int .i64 z := by simpa using hz
   have m1 : IntKind.i64.min = -9223372036854775808 := by decide
   have m2 : IntKind.i64.max = 9223372036854775807 := by decide
   rw [m1] at hz1; rw [m2] at hz2
   exact ⟨z, hz0, hz1, hz2⟩
 obtain ⟨n0, e0, a0, b0⟩ := key 0 _ v0 rfl rfl rfl (by obtain ⟨n9, y9, h9, _⟩ := hf 0 _ rfl; exact ⟨n9, y9, h9⟩)
 subst e0
 obtain ⟨n1, e1, a1, b1⟩ := key 1 _ v1 rfl rfl rfl (by obtain ⟨n9, y9, h9, _⟩ := hf 1 _ rfl; exact ⟨n9, y9, h9⟩)
 subst e1
 obtain ⟨n2, e2, a2, b2⟩ := key 2 _ v2 rfl rfl rfl (by obtain ⟨n9, y9, h9, _⟩ := hf 2 _ rfl; exact ⟨n9, y9, h9⟩)
 subst e2
 obtain ⟨n3, e3, a3, b3⟩ := key 3 _ v3 rfl rfl rfl (by obtain ⟨n9, y9, h9, _⟩ := hf 3 _ rfl; exact ⟨n9, y9, h9⟩)
 subst e3
 obtain ⟨n4, e4, a4, b4⟩ := key 4 _ v4 rfl rfl rfl (by obtain ⟨n9, y9, h9, _⟩ := hf 4 _ rfl; exact ⟨n9, y9, h9⟩)
 subst e4
 obtain ⟨m5, y5, h5, w5⟩ := hf 5 _ rfl
 obtain ⟨p5, q5, n5, hd5, ok5⟩ := trod_recsS (sz := 1) (by_ := 8) Tryd.underlying63 (OpensS.of opens_in) Tw.kr Tw.om (fun _ => rfl) Tw.kr h5 w5
 have c5 : Tryd.prog.cellsOf 63 = 1 := by kernel_rfl
 have e5 : v5 = .slice p5 n5.length q5 := by
   have hd : (([.int .i64 n0, .int .i64 n1, .int .i64 n2, .int .i64 n3, .int .i64 n4, v5] : List Value).drop 5).take (Tryd.prog.cellsOf 63) = [.slice p5 n5.length q5] := hd5
   rw [c5] at hd
   simpa using hd
 subst e5
 exact ⟨⟨n0, n1, n2, n3, n4, n5, p5, q5⟩, rfl, ⟨a0, b0⟩, ⟨a1, b1⟩, ⟨a2, b2⟩, ⟨a3, b3⟩, ⟨a4, b4⟩, ok5⟩
def spS (w : World) (s : Sp) : Prop := ListS colC colS 112 w s.pc s.cc s.cs ∧ ListS covC covS 32 w s.po s.co s.os ∧ n4Ok w s.li ∧ ListS n5C n5Ok 40 w s.pr s.cr s.rs ∧ ListS n5C n5Ok 40 w s.pf s.cf s.fs ∧ ListS tkC tkS 64 w s.pt s.ct s.ts ∧ n4Ok w s.lm
set_option maxHeartbeats 2000000 in
theorem opensS_ship : OpensS Tryd.prog 32 spC spS := by
 intro H enc w base sp held fuel cs x h hwt
 obtain ⟨hl, hf⟩ := trod_fldS Tryd.underlying32 h hwt
 have cn : Tryd.prog.cellsOf 32 = 13 := by kernel_rfl
 rw [cn] at hl
 obtain ⟨v0, v1, v2, v3, v4, v5, v6, v7, v8, v9, v10, v11, v12, rfl⟩ : ∃ v0 v1 v2 v3 v4 v5 v6 v7 v8 v9 v10 v11 v12, cs = [v0, v1, v2, v3, v4, v5, v6, v7, v8, v9, v10, v11, v12] := by
   rcases cs with _ | ⟨v0, _ | ⟨v1, _ | ⟨v2, _ | ⟨v3, _ | ⟨v4, _ | ⟨v5, _ | ⟨v6, _ | ⟨v7, _ | ⟨v8, _ | ⟨v9, _ | ⟨v10, _ | ⟨v11, _ | ⟨v12, _ | ⟨vx, cs⟩⟩⟩⟩⟩⟩⟩⟩⟩⟩⟩⟩⟩⟩ <;> simp at hl
   exact ⟨v0, v1, v2, v3, v4, v5, v6, v7, v8, v9, v10, v11, v12, rfl⟩
 obtain ⟨m0, y0, h0, w0⟩ := hf 0 _ rfl
 obtain ⟨p0, q0, n0, hd0, ok0⟩ := trod_recsS (sz := 12) (by_ := 112) Tryd.underlying22 opensS_col Tw.kr Tw.om (fun _ => rfl) Tw.kr h0 w0
 have e0 : v0 = .slice p0 n0.length q0 := by
   have c : Tryd.prog.cellsOf 22 = 1 := by kernel_rfl
   have hd : (([v0, v1, v2, v3, v4, v5, v6, v7, v8, v9, v10, v11, v12] : List Value).drop 0).take (Tryd.prog.cellsOf 22) = [.slice p0 n0.length q0] := hd0
   rw [c] at hd
   simpa using hd
 obtain ⟨m1, y1, h1, w1⟩ := hf 1 _ rfl
 obtain ⟨p1, q1, n1, hd1, ok1⟩ := trod_recsS (sz := 2) (by_ := 32) Tryd.underlying23 opensS_cov Tw.kr Tw.om (fun _ => rfl) Tw.kr h1 w1
 have e1 : v1 = .slice p1 n1.length q1 := by
   have c : Tryd.prog.cellsOf 23 = 1 := by kernel_rfl
   have hd : (([v0, v1, v2, v3, v4, v5, v6, v7, v8, v9, v10, v11, v12] : List Value).drop 1).take (Tryd.prog.cellsOf 23) = [.slice p1 n1.length q1] := hd1
   rw [c] at hd
   simpa using hd
 obtain ⟨m6, y6, h6, w6⟩ := hf 3 _ rfl
 obtain ⟨p6, q6, n6, hd6, ok6⟩ := trod_recsS (sz := 5) (by_ := 40) Tryd.underlying26 (OpensS.of opens_row) Tw.kr Tw.om (fun _ => rfl) Tw.kr h6 w6
 have e6 : v6 = .slice p6 n6.length q6 := by
   have c : Tryd.prog.cellsOf 26 = 1 := by kernel_rfl
   have hd : (([v0, v1, v2, v3, v4, v5, v6, v7, v8, v9, v10, v11, v12] : List Value).drop 6).take (Tryd.prog.cellsOf 26) = [.slice p6 n6.length q6] := hd6
   rw [c] at hd
   simpa using hd
 obtain ⟨m7, y7, h7, w7⟩ := hf 4 _ rfl
 obtain ⟨p7, q7, n7, hd7, ok7⟩ := trod_recsS (sz := 5) (by_ := 40) Tryd.underlying27 (OpensS.of opens_frame) Tw.kr Tw.om (fun _ => rfl) Tw.kr h7 w7
 have e7 : v7 = .slice p7 n7.length q7 := by
   have c : Tryd.prog.cellsOf 27 = 1 := by kernel_rfl
   have hd : (([v0, v1, v2, v3, v4, v5, v6, v7, v8, v9, v10, v11, v12] : List Value).drop 7).take (Tryd.prog.cellsOf 27) = [.slice p7 n7.length q7] := hd7
   rw [c] at hd
   simpa using hd
 obtain ⟨m8, y8, h8, w8⟩ := hf 5 _ rfl
 obtain ⟨p8, q8, n8, hd8, ok8⟩ := trod_recsS (sz := 6) (by_ := 64) Tryd.underlying28 opensS_tk Tw.kr Tw.om (fun _ => rfl) Tw.kr h8 w8
 have e8 : v8 = .slice p8 n8.length q8 := by
   have c : Tryd.prog.cellsOf 28 = 1 := by kernel_rfl
   have hd : (([v0, v1, v2, v3, v4, v5, v6, v7, v8, v9, v10, v11, v12] : List Value).drop 8).take (Tryd.prog.cellsOf 28) = [.slice p8 n8.length q8] := hd8
   rw [c] at hd
   simpa using hd
 obtain ⟨m2, y2, h2, w2⟩ := hf 2 _ rfl
 obtain ⟨r2, hd2, ok2⟩ := opens_light _ _ _ _ _ _ _ _ _ h2
 have e2 : v2 = .int .i64 r2.a ∧ v3 = .int .i64 r2.b ∧ v4 = .int .i64 r2.c ∧ v5 = .int .i64 r2.d := by
   have c : Tryd.prog.cellsOf 25 = 4 := by kernel_rfl
   have hd : (([v0, v1, v2, v3, v4, v5, v6, v7, v8, v9, v10, v11, v12] : List Value).drop 2).take (Tryd.prog.cellsOf 25) = n4C r2 := hd2
   rw [c] at hd
   unfold n4C at hd
   simpa using hd
 obtain ⟨m9, y9, h9, w9⟩ := hf 6 _ rfl
 obtain ⟨r9, hd9, ok9⟩ := opens_limits _ _ _ _ _ _ _ _ _ h9
 have e9 : v9 = .int .i64 r9.a ∧ v10 = .int .i64 r9.b ∧ v11 = .int .i64 r9.c ∧ v12 = .int .i64 r9.d := by
   have c : Tryd.prog.cellsOf 30 = 4 := by kernel_rfl
   have hd : (([v0, v1, v2, v3, v4, v5, v6, v7, v8, v9, v10, v11, v12] : List Value).drop 9).take (Tryd.prog.cellsOf 30) = n4C r9 := hd9
   rw [c] at hd
   unfold n4C at hd
   simpa using hd
 obtain ⟨f2, f3, f4, f5⟩ := e2
 obtain ⟨f9, f10, f11, f12⟩ := e9
 refine ⟨⟨n0, p0, q0, n1, p1, q1, r2, n6, p6, q6, n7, p7, q7, n8, p8, q8, r9⟩, ?_, ok0, ok1, ok2, ok6, ok7, ok8, ok9⟩
 rw [e0, e1, f2, f3, f4, f5, e6, e7, e8, f9, f10, f11, f12]
 rfl
theorem spS_in {w : World} {s : Sp} (h : spS w s) (hf : fewX s.cs s.os = true) : SpIn w s := by
 obtain ⟨f1, f2, f3, f4⟩ := few_is hf
 obtain ⟨⟨⟨c1, c2, _, _⟩, _⟩, ⟨⟨o1, o2, _, _⟩, _⟩, _, ⟨⟨r1, _, _, _⟩, r5⟩, ⟨⟨g1, _, _, _⟩, g5⟩, ⟨⟨t1, t2, _, _⟩, t5⟩, _⟩ := h
 unfold reachBytes at r5 g5 t5
 exact ⟨by omega, by omega, fun o ho => by have := f3 o ho; omega, fun o ho => by have := f4 o ho; omega, by omega, by omega, by omega,
   fun o ho => by have h8 := (t2 o ho).2.2.2.2.2.2; unfold reachBytes at h8; omega,
   c1, o1, fun o ho => (c2 o ho).2.2.2.2.2.2.2.1.1.1, fun o ho => (o2 o ho).2.1.1, r1, g1, t1, fun o ho => (t2 o ho).2.2.2.2.2.1.1⟩
theorem spS_law {w : World} {s : Sp} (h : spS w s) : s.cs.length ≤ 17592186044403 ∧ s.os.length ≤ 17592186044403 ∧ (∀ o ∈ s.os, o.rows.length ≤ 17592186044403) ∧ (∀ c ∈ s.cs, c.plugs.length ≤ 17592186044403) ∧ (∀ c ∈ s.cs, rowOk c) ∧ SLV w s.pc (s.cs.flatMap colC) ∧ SLV w s.po (s.os.flatMap covC) := by
 obtain ⟨⟨⟨c1, c2, _, _⟩, c5⟩, ⟨⟨o1, o2, _, _⟩, o5⟩, _⟩ := h
 unfold reachBytes at c5 o5
 exact ⟨by omega, by omega, fun o ho => by have h8 := (o2 o ho).2.2; unfold reachBytes at h8; omega, fun o ho => by have h8 := (c2 o ho).2.2.2.2.2.2.2.1.2; unfold reachBytes at h8; omega,
   fun c hc => (c2 c hc).2.1, c1, o1⟩
end Go.Proofs.YthpooalhibedpaaDoor
/- SlotTells holds for every input: the program's own answer is true, wherever the listed variables are as the program's text lays them; each argument reads afterwards as it read before. -/
namespace Go.Proofs.YthpooalhibedpaaDoor
open Go.ChangeShapes Go.WideShapes Go.ChangeAt Go.RowKit Tw
set_option maxRecDepth 100000 in
theorem slotTells_lifted (os : Os) (started : os.Started) (H : Type) (enc : TypeId × Value → H) :
   ReturnsInHanded {} Tryd.checked os 3 .any (fun w args => (Rows.slotTellsSpec.pre enc Tryd.prog Tryd.f3 Rows.slotTellsRow.domain false w args ∧ laidMetH Tryd.prog laidN w) ∧ sizedMet enc Tryd.prog Tryd.f3 (OpenSpec.ofChange Rows.slotTellsSpec) false w args) (Rows.slotTellsSpec.post enc Tryd.prog Tryd.f3 false true false false) := by
 refine handed_and_sized (C := Tryd.checked) (X := fun w => laidMetH Tryd.prog laidN w) (fun _ _ hh h => h.of_heap hh) own started Tw.kr Tryd.func3
   (ChangeSpec.witness_shaped (enc := enc) (C := Tryd.checked) (os := os) (X := fun w _ => laidMetH Tryd.prog laidN w) false (World.doorLaid Tryd.prog 1000 os) #[.agg #[.slice none 0 0, .slice none 0 0, .int .i64 0, .int .i64 0, .int .i64 0, .int .i64 0, .slice none 0 0, .slice none 0 0, .slice none 0 0, .int .i64 0, .int .i64 0, .int .i64 0, .int .i64 0], .agg #[.int .i64 0, .int .i64 0, .int .u8 0], .agg #[.int .i64 0, .int .i64 0, .int .u8 0], .int .u8 0, .slice none 0 0] 8 rfl (World.shaped_of_RefB Tw.kr Tw.kr) Tw.kr Tw.kr Tw.kr (door_met os _)) ?_
 intro W base args ds gs before hval0 hW hL hsh hsz
 have hval : ∀ (j : Nat) t v, Tryd.f3.params[j]? = some t → args[j]? = some v → Value.okWide Tryd.prog W .any base t v := hval0
 have hW2 := hW
 obtain ⟨p, q, hA0, hV, rfl, hfz, hnd⟩ := hW2
 have hA : DataW.TrodAll enc Tryd.prog W 0 (fun _ => true) true Tryd.f3.params.toList args.toList ds p := hA0
 rw [Tryd.params3] at hA hval
 obtain ⟨v0, vs0, d0, ds0, p0, q0, hargs, rfl, rfl, h0, r0⟩ := trodAll_cons hA
 obtain ⟨v1, vs1, d1, ds1, p1, q1, rfl, rfl, rfl, h1, r1⟩ := trodAll_cons r0
 obtain ⟨v2, vs2, d2, ds2, p2, q2, rfl, rfl, rfl, h2, r2⟩ := trodAll_cons r1
 obtain ⟨v3, vs3, d3, ds3, p3, q3, rfl, rfl, rfl, h3, r3⟩ := trodAll_cons r2
 obtain ⟨v4, vs4, d4, ds4, p4, q4, rfl, rfl, rfl, h4, r4⟩ := trodAll_cons r3
 obtain ⟨rfl, rfl, rfl⟩ := trodAll_nil r4
 obtain rfl : args = #[v0, v1, v2, v3, v4] := by cases args; simp_all
 obtain ⟨rfl, rfl⟩ := trodVars_none hV
 have k0 := h0
 have lt0 : ∀ x ∈ p0, x.block < W.heap.size := by obtain ⟨m, hm⟩ := k0; exact DataW.trod_lt m _ _ _ hm
 obtain ⟨y0, rfl, ok0⟩ := open_recS Tryd.underlying32 opensS_ship (hval 0 32 v0 rfl rfl) h0 (sized_par (j := 0) (t := 32) hsz rfl rfl)
 have k1 := h1
 have lt1 : ∀ x ∈ p1, x.block < W.heap.size := by obtain ⟨m, hm⟩ := k1; exact DataW.trod_lt m _ _ _ hm
 obtain ⟨y1, rfl, ok1⟩ := open_recS Tryd.underlying34 (OpensS.of opens_slt) (hval 1 34 v1 rfl rfl) h1 (sized_par (j := 1) (t := 34) hsz rfl rfl)
 have k2 := h2
 have lt2 : ∀ x ∈ p2, x.block < W.heap.size := by obtain ⟨m, hm⟩ := k2; exact DataW.trod_lt m _ _ _ hm
 obtain ⟨y2, rfl, ok2⟩ := open_recS Tryd.underlying34 (OpensS.of opens_slt) (hval 2 34 v2 rfl rfl) h2 (sized_par (j := 2) (t := 34) hsz rfl rfl)
 obtain ⟨a3, rfl, rfl, rfl, w3⟩ := open_int Tryd.underlying5 (hval 3 5 v3 rfl rfl) h3
 have rr3 : 0 ≤ a3 ∧ a3 ≤ 255 := of_wf w3
 obtain ⟨n3, rfl⟩ : ∃ n : Nat, a3 = (n : Int) := ⟨a3.toNat, by omega⟩
 have k4 := h4
 have lt4 : ∀ x ∈ p4, x.block < W.heap.size := by obtain ⟨m, hm⟩ := k4; exact DataW.trod_lt m _ _ _ hm
 obtain ⟨p4_, c4, l4, rfl, ok4⟩ := open_recsS (sz := 3) (by_ := 24) Tryd.underlying35 (OpensS.of opens_slt) Tw.kr Tw.om (fun _ => rfl) Tw.kr (hval 4 35 v4 rfl rfl) h4 (sized_par (j := 4) (t := 35) hsz rfl rfl)
 clear hA0 hval0
 refine (SlotTells_any y0 (spS_law ok0).1 (spS_law ok0).2.1 (spS_law ok0).2.2.1 (spS_law ok0).2.2.2.1 y1 y2 ok1.2.1 n3 Tw.om l4 p4_ c4 (by have h9 := ok4.2; unfold reachBytes at h9; omega) W (spS_law ok0).2.2.2.2.2.1 (spS_law ok0).2.2.2.2.2.2 (spS_in ok0) ok4.1.1 (env_of hL)).mono fun e W' ⟨he, bel⟩ => ?_
 subst he
 exact ⟨_, rfl, _, _, _, [], _, [], hW, (trodAll_cons_mk (shut_bool Tryd.underlying4 _) trodAll_mk0), (trodAll_cons_mk (Below.trod laidOut Tw.kr (of_decide_eq_true Tw.kr) k0 bel lt0) (trodAll_cons_mk (Below.trod laidOut Tw.kr (of_decide_eq_true Tw.kr) k1 bel lt1) (trodAll_cons_mk (Below.trod laidOut Tw.kr (of_decide_eq_true Tw.kr) k2 bel lt2) (trodAll_cons_mk (shut_int Tryd.underlying5 w3) (trodAll_cons_mk (Below.trod laidOut Tw.kr (of_decide_eq_true Tw.kr) k4 bel lt4) trodAll_mk0))))), rfl, bel.frame _, fun h => by cases h⟩
theorem slotTells_said : Rows.SlotTellsSaid :=
 OpenClaim.holds_of_wide 3 Tryd.f3 rfl rfl rfl rfl rfl rfl rfl ⟨rfl, rfl, rfl, rfl, rfl⟩ rfl rfl rfl rfl rfl Tw.kr Tryd.func3 Tw.kr
   (of_decide_eq_true Tw.kr) (by unfold Func.isWrapper; first | (rw [if_pos (by decide +kernel)]; kernel_rfl) | (rw [if_neg (by decide +kernel)]; exact ⟨rfl, rfl⟩))
   (fun os started H enc _ => slotTells_lifted os started H enc)
theorem slotTells_proved : Rows.SlotTellsCardSaid :=
 Claim7.holds_tied_plain_at .later [] [.data] true Rows.slotTellsCard.stood.harness Rows.slotTellsCard.stood.looks
   slotTells_said (fun _ h => by cases h) Tw.kr (fun _ h => by cases h) slotTells_row_tie rfl ⟨rfl, rfl⟩ Tw.kr rfl
   (fun f fn hf hfn => by
     obtain rfl : f = 3 := Option.some.inj ((show Tryd.prog.funcNamed "twistlock/twistlocklaw08.SlotTells" = some 3 by kernel_rfl).symm.trans hf) |>.symm
     obtain rfl : fn = Tryd.f3 := (Option.some.inj (Tryd.func3.symm.trans hfn)).symm
     exact ⟨by kernel_rfl, fun j t ht => by
       rw [Tryd.params3] at ht
       have hm : t ∈ [32, 34, 34, 5, 35] := by simpa using Array.mem_of_getElem? ht
       have hall : ([32, 34, 34, 5, 35].all fun u => !Tryd.prog.wantsStandIn u) = true := by kernel_rfl
       exact (show Tryd.prog.wantsStandIn t = false by simpa using List.all_eq_true.1 hall t hm)⟩)
   Tw.kr
#print axioms slotTells_proved
end Go.Proofs.YthpooalhibedpaaDoor
