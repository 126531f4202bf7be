import Derived.Test.YtnbfljcilojllaaSS00
import Derived.Test.YtnbfljcilojllaaVJz04
import Derived.Test.YtnbfljcilojllaaVJz01
import Derived.Test.YtnbfljcilojllaaSS01
/- StackSums: the law holds for every input; no condition but the row's own. -/
set_option linter.unusedVariables false
set_option linter.unusedSimpArgs false
set_option linter.unusedSectionVars false
namespace Go.Proofs.Ytnbfljcilojllaa
open Go Go.RowKit Tw
theorem calls_ex {P : Program} {W0 : Base} {W : World} {K : List (Nat × Obj)} {f : FuncId} {args : Array Value} (hW : KS W0 K W) (h : Calls P f args W fun e w' => ∃ v K', e = .returned v ∧ KS (W : Base) K' w' ∧ ExT (W : Base) [] v K') :
   Calls P f args W fun e w' => ∃ v K', e = .returned v ∧ KS W0 K' w' ∧ ExT W0 K v K' :=
 h.mono fun e w' ⟨v, K', he, hk, pc, cc, po, co, rp, rc, gb, cb, Kc, Ko, Tr, hv, h1, h2, h3, hB, d1, d2, d3, _, hK⟩ => by
   have hn := hW.size
   have hs : ∀ q ∈ Tr.filter (fun q => decide (W.heap.size ≤ q.1)), q ∈ Tr := fun q hq => (List.mem_filter.1 hq).1
   rw [List.nil_append] at hK
   refine ⟨v, _, he, ⟨(hW.below hk.1).1, fun p hp => ?_⟩, pc, cc, po, co, rp, rc, gb, cb, Kc, Ko, Tr.filter (fun q => decide (W.heap.size ≤ q.1)), hv, own_up hn h1, own_up hn h2, rb_up hn h3, Nat.le_trans hn hB, d1, d2, fun p hp => d3 p (hs p hp), fun p hp q hq => ?_, rfl⟩
   · rcases List.mem_append.1 hp with hp | hp
     · exact (hW.below hk.1).2 p hp
     · refine hk.2 p ?_
       rw [hK]
       simp only [List.mem_append] at hp ⊢
       rcases hp with hp | hp | hp | hp
       · exact .inl hp
       · exact .inr (.inl hp)
       · exact .inr (.inr (.inl (hs p hp)))
       · exact .inr (.inr (.inr hp))
   · simp only [List.mem_append] at hq
     rcases hq with hq | hq | hq | hq
     · exact own_ne hW h1 p hp q hq
     · exact own_ne hW h2 p hp q hq
     · intro e
       have h5 := of_decide_eq_true (List.mem_filter.1 hq).2
       have h6 := lt_of_block (hW.2 p hp)
       omega
     · intro e
       cases List.mem_singleton.1 hq
       have h6 := lt_of_block (hW.2 p hp)
       have hB : W.heap.size ≤ gb := hB
       have e : gb = p.1 := e
       omega
set_option maxRecDepth 100000 in
set_option maxHeartbeats 4000000 in
theorem awake10_any  (w : World) : Calls Try.prog 12 #[] w fun e w' => e = .returned (.bool true) ∧ Below w.heap.size w w' := by
 go_enter Try.func12, Try.ntmps12
 refine wp_seq ?_
 refine wp_region_L [] (KS.start w) ?_
 refine lm (v := .bool false) rfl rfl ?_
 refine wpL_done (fun W1 hW1 => ?_)
 change Code.wp ..
 refine wp_seq ?_
 refine wp_region_L _ hW1 ?_
 refine wpL_c (f := 9) (args := #[]) (ExT w []) rfl Tw.kr Tw.kf (fun W hW => calls_ex hW (example_any W)) Tw.pf ?_
 rintro _ _ ⟨pcS, ccS, poS, coS, rp, rc, gb, cb, Kc, Ko, Tr, rfl, hOc, hOo, hRB, hgB, hd1, hd2, hd3, hNe, rfl⟩
 obtain ⟨qC, dC, eC, ndC, RC⟩ := own_rl hOc
 obtain ⟨rfl, _, rfl⟩ := Value.slice.inj eC
 obtain ⟨qO, dO, eO, ndO, RO⟩ := own_rl hOo
 obtain ⟨rfl, _, rfl⟩ := Value.slice.inj eO
 refine wpL_sub (K2 := ((gb, .cells #[.int .i64 1, strV [], .int .u8 20, .bool false, .int .i64 15000, .int .i64 0, .int .i64 0, .int .u8 0, .bool false, .int .i64 2, strV [], .int .u8 20, .bool false, .int .i64 9000, .int .i64 0, .int .i64 0, .int .u8 0, .bool false, .int .i64 3, strV [], .int .u8 40, .bool false, .int .i64 26000, .int .i64 0, .int .i64 0, .int .u8 0, .bool false, .int .i64 4, strV [], .int .u8 20, .bool false, .int .i64 12000, .int .i64 0, .int .i64 0, .int .u8 0, .bool false] 37 (0, 0)) :: (Kc ++ (Ko ++ Tr)))) (fun p hp => by rw [show (gb, Obj.cells ((exB 26000).flatMap boC).toArray 37 (0, 0)) = ((gb, .cells #[.int .i64 1, strV [], .int .u8 20, .bool false, .int .i64 15000, .int .i64 0, .int .i64 0, .int .u8 0, .bool false, .int .i64 2, strV [], .int .u8 20, .bool false, .int .i64 9000, .int .i64 0, .int .i64 0, .int .u8 0, .bool false, .int .i64 3, strV [], .int .u8 40, .bool false, .int .i64 26000, .int .i64 0, .int .i64 0, .int .u8 0, .bool false, .int .i64 4, strV [], .int .u8 20, .bool false, .int .i64 12000, .int .i64 0, .int .i64 0, .int .u8 0, .bool false] 37 (0, 0)) : Nat × Obj) from rfl]; simp only [List.mem_cons, List.mem_append, List.not_mem_nil, or_assoc, or_false, false_or] at hp ⊢; grind) ?_
 refine lm (v := .tuple #[.agg (shC (.slice pcS exL.length ccS) (.slice poS ((exO rp rc).length) coS) (tlT tl0 2000)).toArray, .slice (some ⟨gb, 0, none⟩) 4 cb]) rfl rfl ?_
 refine lm (v := .agg (shC (.slice pcS exL.length ccS) (.slice poS ((exO rp rc).length) coS) (tlT tl0 2000)).toArray) rfl rfl ?_
 refine lm (v := .slice (some ⟨gb, 0, none⟩) 4 cb) rfl rfl ?_
 refine wpL_new (fun g => .pointer (some ⟨g, 0, none⟩)) (obi := .cells (shC (.slice none 0 0) (.slice none 0 0) tl0).toArray 32 (0, 0)) rfl rfl Tw.kf Tw.pf fun g1 Bg1 Fg1 => ?_
 obtain ⟨dj2_0, dj2_1, dj2_2, dj2_3⟩ : gb ≠ g1 ∧ Dk g1 Kc ∧ Dk g1 Ko ∧ Dk g1 Tr := Tw.dkf Fg1
 refine wpL_s ((g1, .cells (shC (.slice pcS exL.length ccS) (.slice poS ((exO rp rc).length) coS) (tlT tl0 2000)).toArray 32 (0, 0)) :: (gb, .cells #[.int .i64 1, strV [], .int .u8 20, .bool false, .int .i64 15000, .int .i64 0, .int .i64 0, .int .u8 0, .bool false, .int .i64 2, strV [], .int .u8 20, .bool false, .int .i64 9000, .int .i64 0, .int .i64 0, .int .u8 0, .bool false, .int .i64 3, strV [], .int .u8 40, .bool false, .int .i64 26000, .int .i64 0, .int .i64 0, .int .u8 0, .bool false, .int .i64 4, strV [], .int .u8 20, .bool false, .int .i64 12000, .int .i64 0, .int .i64 0, .int .u8 0, .bool false] 37 (0, 0)) :: (Kc ++ (Ko ++ Tr))) rfl rfl (st_row (off := 0) (v := .agg (shC (.slice pcS exL.length ccS) (.slice poS ((exO rp rc).length) coS) (tlT tl0 2000)).toArray) rfl Tw.kr Tw.kr Tw.m0 Bg1 Tw.kr (by first | (simp [Value.cells]; done) | exact Nat.le_of_ble_eq_true rfl) (fun v hv => shT_one v hv) Tw.kr (List.forall_mem_cons.2 ⟨.inl rfl, (List.forall_mem_cons.2 ⟨.inr ⟨Tw.m1, Tw.nee⟩, (fun p hp => .inr ⟨(.tail _ (.tail _ hp)), ((show Dk g1 (Kc ++ (Ko ++ Tr)) from Tw.djt) _ hp)⟩)⟩)⟩)) ?_
 refine lm (v := .slice (some ⟨gb, 0, none⟩) 4 cb) rfl rfl ?_
 refine wpL_done (fun W2 hW2 => ?_)
 change Code.wp ..
 refine wp_seq ?_
 refine wp_region_L _ hW2 ?_
 refine lv (v := .agg (sdC (⟨1, ⟨2, 0, 1⟩⟩ : Sd)).toArray) rfl rfl (yb_call (f := 10) (args := #[.int .i64 1, .int .i64 2, .int .i64 0, .int .u8 1]) Tw.kf fun W hW => at_any 1 2 0 1 W) ?_
 refine lv (v := .agg (sdC (⟨2, ⟨2, 0, 2⟩⟩ : Sd)).toArray) rfl rfl (yb_call (f := 10) (args := #[.int .i64 2, .int .i64 2, .int .i64 0, .int .u8 2]) Tw.kf fun W hW => at_any 2 2 0 2 W) ?_
 refine lv (v := .agg (sdC (⟨3, ⟨2, 1, 0⟩⟩ : Sd)).toArray) rfl rfl (yb_call (f := 10) (args := #[.int .i64 3, .int .i64 2, .int .i64 1, .int .u8 0]) Tw.kf fun W hW => at_any 3 2 1 0 W) ?_
 refine wpL_new (fun g => .slice (some ⟨g, 0, none⟩) 3 3) (obi := .cells #[.int .i64 1, .int .i64 2, .int .i64 0, .int .u8 1, .int .i64 2, .int .i64 2, .int .i64 0, .int .u8 2, .int .i64 3, .int .i64 2, .int .i64 1, .int .u8 0] 42 (0, 0)) rfl rfl Tw.kf Tw.pf fun g3 Bg3 Fg3 => ?_
 obtain ⟨dj4_0, dj4_1, dj4_2, dj4_3, dj4_4⟩ : g1 ≠ g3 ∧ gb ≠ g3 ∧ Dk g3 Kc ∧ Dk g3 Ko ∧ Dk g3 Tr := Tw.dkf Fg3
 refine lm (v := .slice (some ⟨g3, 0, none⟩) 3 3) rfl rfl ?_
 refine wpL_done (fun W3 hW3 => ?_)
 change Code.wp ..
 refine wp_seq ?_
 refine wp_region_L _ hW3 ?_
 refine lv (v := .agg (shC (.slice pcS exL.length ccS) (.slice poS ((exO rp rc).length) coS) (tlT tl0 2000)).toArray) rfl rfl (yb_load (n := 13) (off := 0) rfl Tw.kr Tw.m1 Try.underlying32 rfl Tw.kr (by first | (simp [Value.cells]; done) | exact Nat.le_of_ble_eq_true rfl) Tw.kr) ?_
 refine lm (v := .slice (some ⟨gb, 0, none⟩) 4 cb) rfl rfl ?_
 refine lm (v := .slice (some ⟨g3, 0, none⟩) 3 3) rfl rfl ?_
 refine wpL_c (f := 21) (args := #[.agg (shC (.slice pcS exL.length ccS) (.slice poS ((exO rp rc).length) coS) (tlT tl0 2000)).toArray, .slice (some ⟨gb, 0, none⟩) 4 cb, .slice (some ⟨g3, 0, none⟩) 3 3]) (fun v K9 => ∃ v1, v = .tuple #[v1, .int .i64 0] ∧ OutRL ftC w ((g3, .cells #[.int .i64 1, .int .i64 2, .int .i64 0, .int .u8 1, .int .i64 2, .int .i64 2, .int .i64 0, .int .u8 2, .int .i64 3, .int .i64 2, .int .i64 1, .int .u8 0] 42 (0, 0)) :: (g1, .cells (shC (.slice pcS exL.length ccS) (.slice poS ((exO rp rc).length) coS) (tlT tl0 2000)).toArray 32 (0, 0)) :: (gb, .cells #[.int .i64 1, strV [], .int .u8 20, .bool false, .int .i64 15000, .int .i64 0, .int .i64 0, .int .u8 0, .bool false, .int .i64 2, strV [], .int .u8 20, .bool false, .int .i64 9000, .int .i64 0, .int .i64 0, .int .u8 0, .bool false, .int .i64 3, strV [], .int .u8 40, .bool false, .int .i64 26000, .int .i64 0, .int .i64 0, .int .u8 0, .bool false, .int .i64 4, strV [], .int .u8 20, .bool false, .int .i64 12000, .int .i64 0, .int .i64 0, .int .u8 0, .bool false] 37 (0, 0)) :: (Kc ++ (Ko ++ Tr))) ([] : List Ft) v1 K9) rfl Tw.kr Tw.kf (fun W hW => calls_tur hW ((by have h9 := Check_any exL pcS ccS (Nat.le_of_ble_eq_true rfl) (exO rp rc) poS coS (Nat.le_of_ble_eq_true rfl) tl0 2000 (exB 26000) (some ⟨gb, 0, none⟩) cb (Nat.le_of_ble_eq_true rfl) exS1 (some ⟨g3, 0, none⟩) 3 (Nat.le_of_ble_eq_true rfl) W (RC _ (hW.sub (fun p hp => by simp only [List.mem_cons, List.mem_append, List.nil_append, List.not_mem_nil, or_assoc, or_false, false_or, hp, true_or, or_true]))) (RO _ (hW.sub (fun p hp => by simp only [List.mem_cons, List.mem_append, List.nil_append, List.not_mem_nil, or_assoc, or_false, false_or, hp, true_or, or_true]))) (hRB.rw W (hW.sub (fun p hp => by simp only [List.mem_cons, List.mem_append, List.nil_append, List.not_mem_nil, or_assoc, or_false, false_or, hp, true_or, or_true]))) (fun o ho => by cases List.mem_singleton.1 ho; exact (Nat.le_of_ble_eq_true rfl)) (plr_nil exL_plugs) (fun c hc => by rw [exL_plugs c hc]; exact Nat.zero_le _) ((show RL boC w (some ⟨gb, 0, none⟩) (exB 26000) [(gb, .cells #[.int .i64 1, strV [], .int .u8 20, .bool false, .int .i64 15000, .int .i64 0, .int .i64 0, .int .u8 0, .bool false, .int .i64 2, strV [], .int .u8 20, .bool false, .int .i64 9000, .int .i64 0, .int .i64 0, .int .u8 0, .bool false, .int .i64 3, strV [], .int .u8 40, .bool false, .int .i64 26000, .int .i64 0, .int .i64 0, .int .u8 0, .bool false, .int .i64 4, strV [], .int .u8 20, .bool false, .int .i64 12000, .int .i64 0, .int .i64 0, .int .u8 0, .bool false] 37 (0, 0))] from fun W hW => blk_slv (cs := (exB 26000).flatMap boC) hW Tw.m0) _ (hW.sub (fun p hp => by cases List.mem_singleton.1 hp; exact Tw.m2))) ((show RL sdC w (some ⟨g3, 0, none⟩) exS1 [(g3, .cells #[.int .i64 1, .int .i64 2, .int .i64 0, .int .u8 1, .int .i64 2, .int .i64 2, .int .i64 0, .int .u8 2, .int .i64 3, .int .i64 2, .int .i64 1, .int .u8 0] 42 (0, 0))] from fun W hW => blk_slv (cs := exS1.flatMap sdC) hW Tw.m0) _ (hW.sub (fun p hp => by cases List.mem_singleton.1 hp; exact Tw.m0))) tl0_one; rw [(ev_c1 rp rc).1, (ev_c1 rp rc).2] at h9; exact h9))) Tw.pf ?_
 rintro _ _ ⟨_, rfl, p5, c5, Kl5, rfl, n5, R5, N5, rfl⟩
 obtain ⟨dj6_0, dj6_1, dj6_2, dj6_3, dj6_4, dj6_5⟩ : Dk g3 Kl5 ∧ Dk g1 Kl5 ∧ Dk gb Kl5 ∧ Dj Kc Kl5 ∧ Dj Ko Kl5 ∧ Dj Tr Kl5 := Tw.djf N5
 refine wpL_sub (K2 := ((g3, .cells #[.int .i64 1, .int .i64 2, .int .i64 0, .int .u8 1, .int .i64 2, .int .i64 2, .int .i64 0, .int .u8 2, .int .i64 3, .int .i64 2, .int .i64 1, .int .u8 0] 42 (0, 0)) :: (g1, .cells (shC (.slice pcS exL.length ccS) (.slice poS ((exO rp rc).length) coS) (tlT tl0 2000)).toArray 32 (0, 0)) :: (gb, .cells #[.int .i64 1, strV [], .int .u8 20, .bool false, .int .i64 15000, .int .i64 0, .int .i64 0, .int .u8 0, .bool false, .int .i64 2, strV [], .int .u8 20, .bool false, .int .i64 9000, .int .i64 0, .int .i64 0, .int .u8 0, .bool false, .int .i64 3, strV [], .int .u8 40, .bool false, .int .i64 26000, .int .i64 0, .int .i64 0, .int .u8 0, .bool false, .int .i64 4, strV [], .int .u8 20, .bool false, .int .i64 12000, .int .i64 0, .int .i64 0, .int .u8 0, .bool false] 37 (0, 0)) :: (Kc ++ (Ko ++ (Tr ++ Kl5))))) (fun p hp => by simp only [List.mem_cons, List.mem_append, or_assoc] at hp ⊢; exact hp) ?_
 refine lm (v := .tuple #[.slice p5 (([] : List Ft).length) c5, .int .i64 0]) rfl rfl ?_
 refine lm (v := .slice p5 (([] : List Ft).length) c5) rfl rfl ?_
 refine lm (v := .int .i64 0) rfl rfl ?_
 refine lm (v := .slice p5 (([] : List Ft).length) c5) rfl rfl ?_
 refine lm (v := .int .i64 0) rfl rfl ?_
 refine wpL_done (fun W4 hW4 => ?_)
 change Code.wp ..
 refine wp_seq ?_
 refine wp_seq ?_
 refine wp_region_L _ hW4 ?_
 refine lm (v := .int .i64 0) rfl rfl ?_
 refine lm (v := .bool false) rfl rfl ?_
 refine lm (v := .bool false) rfl rfl ?_
 refine lm (v := .slice p5 (([] : List Ft).length) c5) rfl rfl ?_
 refine lp (v := .int .i64 (((([] : List Ft).length) : Nat) : Int)) rfl rfl (run_lenL (p := p5) (cap := c5) (n := ([] : List Ft).length) rfl Try.underlying58 Tw.kr) ?_
 refine lp (v := .bool (!(decide ((([] : List Ft).length) = 0)))) rfl rfl (run_bin rfl (vx := (.int .i64 (((([] : List Ft).length) : Nat) : Int))) (vy := (.int .i64 ((0 : Nat) : Int))) Tw.kr Tw.kr fun w => bn_neq rfl w) ?_
 refine lm (v := .bool (!(decide ((([] : List Ft).length) = 0)))) rfl rfl ?_
 refine lm (v := .bool (!(decide ((([] : List Ft).length) = 0)))) rfl rfl ?_
 cases hd1 : (decide ((([] : List Ft).length) = 0)) with
 | false =>
   have h1 : ¬ ((([] : List Ft).length) = 0) := of_decide_eq_false hd1
   clear hd1
   exact absurd (show (([] : List Ft).length) = 0 from rfl) h1
 | true =>
   have h1 : (([] : List Ft).length) = 0 := of_decide_eq_true hd1
   clear hd1
   refine lm (v := .slice (some ⟨gb, 0, none⟩) 4 cb) rfl rfl ?_
   refine lm (v := .slice (some ⟨g3, 0, none⟩) 3 3) rfl rfl ?_
   refine lv (v := .agg #[.int .i64 15000, .int .i64 9000, .int .i64 50000]) rfl rfl (yb_call (f := 19) (args := #[.slice (some ⟨gb, 0, none⟩) 4 cb, .slice (some ⟨g3, 0, none⟩) 3 3, .int .i64 2]) Tw.kf fun W hW => (by have h9 := Weigh_any (exB 26000) (some ⟨gb, 0, none⟩) cb (Nat.le_of_ble_eq_true rfl) exS1 (some ⟨g3, 0, none⟩) 3 (Nat.le_of_ble_eq_true rfl) 2 W ((show RL boC w (some ⟨gb, 0, none⟩) (exB 26000) [(gb, .cells #[.int .i64 1, strV [], .int .u8 20, .bool false, .int .i64 15000, .int .i64 0, .int .i64 0, .int .u8 0, .bool false, .int .i64 2, strV [], .int .u8 20, .bool false, .int .i64 9000, .int .i64 0, .int .i64 0, .int .u8 0, .bool false, .int .i64 3, strV [], .int .u8 40, .bool false, .int .i64 26000, .int .i64 0, .int .i64 0, .int .u8 0, .bool false, .int .i64 4, strV [], .int .u8 20, .bool false, .int .i64 12000, .int .i64 0, .int .i64 0, .int .u8 0, .bool false] 37 (0, 0))] from fun W hW => blk_slv (cs := (exB 26000).flatMap boC) hW Tw.m0) _ (hW.sub (fun p hp => by cases List.mem_singleton.1 hp; exact Tw.m2))) ((show RL sdC w (some ⟨g3, 0, none⟩) exS1 [(g3, .cells #[.int .i64 1, .int .i64 2, .int .i64 0, .int .u8 1, .int .i64 2, .int .i64 2, .int .i64 0, .int .u8 2, .int .i64 3, .int .i64 2, .int .i64 1, .int .u8 0] 42 (0, 0))] from fun W hW => blk_slv (cs := exS1.flatMap sdC) hW Tw.m0) _ (hW.sub (fun p hp => by cases List.mem_singleton.1 hp; exact Tw.m0))); rw [ev_w.1, ev_w.2.1, ev_w.2.2] at h9; exact h9)) ?_
   refine lm (v := .agg #[.int .i64 15000, .int .i64 9000, .int .i64 50000]) rfl rfl ?_
   refine lp (v := .bool (!(decide (15000 = 15000 ∧ 9000 = 9000 ∧ 50000 = 50000)))) rfl rfl (run_bin rfl (vx := .agg #[.int .i64 15000, .int .i64 9000, .int .i64 50000]) (vy := .agg #[.int .i64 15000, .int .i64 9000, .int .i64 50000]) Tw.kr Tw.kr fun w => ne_kil w) ?_
   refine lm (v := .bool (!(decide (15000 = 15000 ∧ 9000 = 9000 ∧ 50000 = 50000)))) rfl rfl ?_
   refine wpL_done (fun W5 hW5 => ?_)
   change Code.wp ..
   cases hd2 : (decide (15000 = 15000 ∧ 9000 = 9000 ∧ 50000 = 50000)) with
   | false =>
     have h2 : ¬ (15000 = 15000 ∧ 9000 = 9000 ∧ 50000 = 50000) := of_decide_eq_false hd2
     clear hd2
     exact absurd ⟨rfl, rfl, rfl⟩ h2
   | true =>
     have h2 : 15000 = 15000 ∧ 9000 = 9000 ∧ 50000 = 50000 := of_decide_eq_true hd2
     clear hd2
     refine wp_cond_false rfl ?_
     refine wp_skip ?_
     change Code.wp ..
     refine wp_seq ?_
     refine wp_region_L _ hW5 ?_
     refine lm (v := .slice (some ⟨gb, 0, none⟩) 4 cb) rfl rfl ?_
     refine lm (v := .pointer (some ⟨gb, 18, none⟩)) rfl rfl ?_
     refine lm (v := .pointer (some ⟨gb, 22, none⟩)) rfl rfl ?_
     refine lv (v := .int .i64 26000) rfl rfl (yb_cell (off := 22) rfl Tw.kr Tw.m2 Try.underlying3 rfl Tw.kr) ?_
     refine lm (v := .int .i64 26001) rfl rfl ?_
     refine lm (v := .pointer (some ⟨gb, 18, none⟩)) rfl rfl ?_
     refine lm (v := .pointer (some ⟨gb, 22, none⟩)) rfl rfl ?_
     refine wpL_s ((g3, .cells #[.int .i64 1, .int .i64 2, .int .i64 0, .int .u8 1, .int .i64 2, .int .i64 2, .int .i64 0, .int .u8 2, .int .i64 3, .int .i64 2, .int .i64 1, .int .u8 0] 42 (0, 0)) :: (g1, .cells (shC (.slice pcS exL.length ccS) (.slice poS ((exO rp rc).length) coS) (tlT tl0 2000)).toArray 32 (0, 0)) :: (gb, .cells #[.int .i64 1, strV [], .int .u8 20, .bool false, .int .i64 15000, .int .i64 0, .int .i64 0, .int .u8 0, .bool false, .int .i64 2, strV [], .int .u8 20, .bool false, .int .i64 9000, .int .i64 0, .int .i64 0, .int .u8 0, .bool false, .int .i64 3, strV [], .int .u8 40, .bool false, .int .i64 26001, .int .i64 0, .int .i64 0, .int .u8 0, .bool false, .int .i64 4, strV [], .int .u8 20, .bool false, .int .i64 12000, .int .i64 0, .int .i64 0, .int .u8 0, .bool false] 37 (0, 0)) :: (Kc ++ (Ko ++ (Tr ++ Kl5)))) rfl rfl (st_row (off := 22) (v := .int .i64 26001) rfl Tw.kr Tw.kr Tw.m2 hgB Tw.kr (by first | (simp [Value.cells]; done) | exact Nat.le_of_ble_eq_true rfl) (by intro v hv; simp [Value.cells] at hv; first | (subst hv; rfl) | (rcases hv with rfl <;> rfl)) Tw.kr (List.forall_mem_cons.2 ⟨.inr ⟨Tw.m0, Tw.nee⟩, (List.forall_mem_cons.2 ⟨.inr ⟨Tw.m1, Tw.nee⟩, (List.forall_mem_cons.2 ⟨.inl rfl, (fun p hp => .inr ⟨(.tail _ (.tail _ (.tail _ hp))), ((show Dk gb (Kc ++ (Ko ++ (Tr ++ Kl5))) from Tw.djt) _ hp)⟩)⟩)⟩)⟩)) ?_
     refine wpL_done (fun W6 hW6 => ?_)
     change Code.wp ..
     refine wp_seq ?_
     refine wp_region_L _ hW6 ?_
     refine lv (v := .agg (shC (.slice pcS exL.length ccS) (.slice poS ((exO rp rc).length) coS) (tlT tl0 2000)).toArray) rfl rfl (yb_load (n := 13) (off := 0) rfl Tw.kr Tw.m1 Try.underlying32 rfl Tw.kr (by first | (simp [Value.cells]; done) | exact Nat.le_of_ble_eq_true rfl) Tw.kr) ?_
     refine lm (v := .slice (some ⟨gb, 0, none⟩) 4 cb) rfl rfl ?_
     refine lm (v := .slice (some ⟨g3, 0, none⟩) 3 3) rfl rfl ?_
     refine wpL_c (f := 21) (args := #[.agg (shC (.slice pcS exL.length ccS) (.slice poS ((exO rp rc).length) coS) (tlT tl0 2000)).toArray, .slice (some ⟨gb, 0, none⟩) 4 cb, .slice (some ⟨g3, 0, none⟩) 3 3]) (fun v K9 => ∃ v1, v = .tuple #[v1, .int .i64 0] ∧ OutRL ftC w ((g3, .cells #[.int .i64 1, .int .i64 2, .int .i64 0, .int .u8 1, .int .i64 2, .int .i64 2, .int .i64 0, .int .u8 2, .int .i64 3, .int .i64 2, .int .i64 1, .int .u8 0] 42 (0, 0)) :: (g1, .cells (shC (.slice pcS exL.length ccS) (.slice poS ((exO rp rc).length) coS) (tlT tl0 2000)).toArray 32 (0, 0)) :: (gb, .cells #[.int .i64 1, strV [], .int .u8 20, .bool false, .int .i64 15000, .int .i64 0, .int .i64 0, .int .u8 0, .bool false, .int .i64 2, strV [], .int .u8 20, .bool false, .int .i64 9000, .int .i64 0, .int .i64 0, .int .u8 0, .bool false, .int .i64 3, strV [], .int .u8 40, .bool false, .int .i64 26001, .int .i64 0, .int .i64 0, .int .u8 0, .bool false, .int .i64 4, strV [], .int .u8 20, .bool false, .int .i64 12000, .int .i64 0, .int .i64 0, .int .u8 0, .bool false] 37 (0, 0)) :: (Kc ++ (Ko ++ (Tr ++ Kl5)))) ([⟨2, 3, 0⟩, ⟨2, 4, 3⟩] : List Ft) v1 K9) rfl Tw.kr Tw.kf (fun W hW => calls_tur hW ((by have h9 := Check_any exL pcS ccS (Nat.le_of_ble_eq_true rfl) (exO rp rc) poS coS (Nat.le_of_ble_eq_true rfl) tl0 2000 (exB 26001) (some ⟨gb, 0, none⟩) cb (Nat.le_of_ble_eq_true rfl) exS1 (some ⟨g3, 0, none⟩) 3 (Nat.le_of_ble_eq_true rfl) W (RC _ (hW.sub (fun p hp => by simp only [List.mem_cons, List.mem_append, List.nil_append, List.not_mem_nil, or_assoc, or_false, false_or, hp, true_or, or_true]))) (RO _ (hW.sub (fun p hp => by simp only [List.mem_cons, List.mem_append, List.nil_append, List.not_mem_nil, or_assoc, or_false, false_or, hp, true_or, or_true]))) (hRB.rw W (hW.sub (fun p hp => by simp only [List.mem_cons, List.mem_append, List.nil_append, List.not_mem_nil, or_assoc, or_false, false_or, hp, true_or, or_true]))) (fun o ho => by cases List.mem_singleton.1 ho; exact (Nat.le_of_ble_eq_true rfl)) (plr_nil exL_plugs) (fun c hc => by rw [exL_plugs c hc]; exact Nat.zero_le _) ((show RL boC w (some ⟨gb, 0, none⟩) (exB 26001) [(gb, .cells #[.int .i64 1, strV [], .int .u8 20, .bool false, .int .i64 15000, .int .i64 0, .int .i64 0, .int .u8 0, .bool false, .int .i64 2, strV [], .int .u8 20, .bool false, .int .i64 9000, .int .i64 0, .int .i64 0, .int .u8 0, .bool false, .int .i64 3, strV [], .int .u8 40, .bool false, .int .i64 26001, .int .i64 0, .int .i64 0, .int .u8 0, .bool false, .int .i64 4, strV [], .int .u8 20, .bool false, .int .i64 12000, .int .i64 0, .int .i64 0, .int .u8 0, .bool false] 37 (0, 0))] from fun W hW => blk_slv (cs := (exB 26001).flatMap boC) hW Tw.m0) _ (hW.sub (fun p hp => by cases List.mem_singleton.1 hp; exact Tw.m2))) ((show RL sdC w (some ⟨g3, 0, none⟩) exS1 [(g3, .cells #[.int .i64 1, .int .i64 2, .int .i64 0, .int .u8 1, .int .i64 2, .int .i64 2, .int .i64 0, .int .u8 2, .int .i64 3, .int .i64 2, .int .i64 1, .int .u8 0] 42 (0, 0))] from fun W hW => blk_slv (cs := exS1.flatMap sdC) hW Tw.m0) _ (hW.sub (fun p hp => by cases List.mem_singleton.1 hp; exact Tw.m0))) tl0_one; rw [(ev_c2 rp rc).1, (ev_c2 rp rc).2] at h9; exact h9))) Tw.pf ?_
     rintro _ _ ⟨_, rfl, p7, c7, Kl7, rfl, n7, R7, N7, rfl⟩
     obtain ⟨dj8_0, dj8_1, dj8_2, dj8_3, dj8_4, dj8_5, dj8_6⟩ : Dk g3 Kl7 ∧ Dk g1 Kl7 ∧ Dk gb Kl7 ∧ Dj Kc Kl7 ∧ Dj Ko Kl7 ∧ Dj Tr Kl7 ∧ Dj Kl5 Kl7 := Tw.djf N7
     refine wpL_sub (K2 := ((g3, .cells #[.int .i64 1, .int .i64 2, .int .i64 0, .int .u8 1, .int .i64 2, .int .i64 2, .int .i64 0, .int .u8 2, .int .i64 3, .int .i64 2, .int .i64 1, .int .u8 0] 42 (0, 0)) :: (g1, .cells (shC (.slice pcS exL.length ccS) (.slice poS ((exO rp rc).length) coS) (tlT tl0 2000)).toArray 32 (0, 0)) :: (gb, .cells #[.int .i64 1, strV [], .int .u8 20, .bool false, .int .i64 15000, .int .i64 0, .int .i64 0, .int .u8 0, .bool false, .int .i64 2, strV [], .int .u8 20, .bool false, .int .i64 9000, .int .i64 0, .int .i64 0, .int .u8 0, .bool false, .int .i64 3, strV [], .int .u8 40, .bool false, .int .i64 26001, .int .i64 0, .int .i64 0, .int .u8 0, .bool false, .int .i64 4, strV [], .int .u8 20, .bool false, .int .i64 12000, .int .i64 0, .int .i64 0, .int .u8 0, .bool false] 37 (0, 0)) :: (Kc ++ (Ko ++ (Tr ++ (Kl5 ++ Kl7)))))) (fun p hp => by simp only [List.mem_cons, List.mem_append, or_assoc] at hp ⊢; exact hp) ?_
     refine lm (v := .tuple #[.slice p7 (([⟨2, 3, 0⟩, ⟨2, 4, 3⟩] : List Ft).length) c7, .int .i64 0]) rfl rfl ?_
     refine lm (v := .slice p7 (([⟨2, 3, 0⟩, ⟨2, 4, 3⟩] : List Ft).length) c7) rfl rfl ?_
     refine lm (v := .int .i64 0) rfl rfl ?_
     refine lm (v := .slice p7 (([⟨2, 3, 0⟩, ⟨2, 4, 3⟩] : List Ft).length) c7) rfl rfl ?_
     refine lm (v := .int .i64 0) rfl rfl ?_
     refine wpL_done (fun W7 hW7 => ?_)
     change Code.wp ..
     refine wp_seq ?_
     refine wp_seq ?_
     refine wp_region_L _ hW7 ?_
     refine lm (v := .int .i64 0) rfl rfl ?_
     refine lm (v := .bool false) rfl rfl ?_
     refine lm (v := .bool false) rfl rfl ?_
     refine lm (v := .slice p7 (([⟨2, 3, 0⟩, ⟨2, 4, 3⟩] : List Ft).length) c7) rfl rfl ?_
     refine lm (v := .agg #[.int .i64 2, .int .u8 3, .int .i64 0]) rfl rfl ?_
     refine lm (v := .agg #[.int .i64 2, .int .u8 4, .int .i64 3]) rfl rfl ?_
     refine wpL_newg (fun g => .slice (some ⟨g, 0, none⟩) 2 2) (obi := .cells #[.int .i64 2, .int .u8 3, .int .i64 0, .int .i64 2, .int .u8 4, .int .i64 3] 71 (0, 0)) rfl Tw.kr Tw.kf Tw.pf fun g9 Bg9 Fg9 => ?_
     obtain ⟨dj10_0, dj10_1, dj10_2, dj10_3, dj10_4, dj10_5, dj10_6, dj10_7⟩ : g3 ≠ g9 ∧ g1 ≠ g9 ∧ gb ≠ g9 ∧ Dk g9 Kc ∧ Dk g9 Ko ∧ Dk g9 Tr ∧ Dk g9 Kl5 ∧ Dk g9 Kl7 := Tw.dkf Fg9
     refine lv (v := .bool true) rfl rfl (yb_call (f := 33) (args := #[.slice p7 (([⟨2, 3, 0⟩, ⟨2, 4, 3⟩] : List Ft).length) c7, .slice (some ⟨g9, 0, none⟩) 2 2]) Tw.kf fun W hW => (by have h9 := only_any ([⟨2, 3, 0⟩, ⟨2, 4, 3⟩] : List Ft) ([⟨2, 3, 0⟩, ⟨2, 4, 3⟩] : List Ft) p7 (some ⟨g9, 0, none⟩) c7 2 (Nat.le_of_ble_eq_true rfl) W (R7 _ (hW.sub (fun p hp => by simp only [List.mem_cons, List.mem_append, List.nil_append, List.not_mem_nil, or_assoc, or_false, false_or, hp, true_or, or_true]))) ((show RL ftC w (some ⟨g9, 0, none⟩) ([⟨2, 3, 0⟩, ⟨2, 4, 3⟩] : List Ft) [(g9, .cells #[.int .i64 2, .int .u8 3, .int .i64 0, .int .i64 2, .int .u8 4, .int .i64 3] 71 (0, 0))] from fun W hW => blk_slv (cs := ([⟨2, 3, 0⟩, ⟨2, 4, 3⟩] : List Ft).flatMap ftC) hW Tw.m0) _ (hW.sub (fun p hp => by cases List.mem_singleton.1 hp; exact Tw.m0))); exact h9)) ?_
     refine lm (v := .bool false) rfl rfl ?_
     refine lm (v := .bool false) rfl rfl ?_
     refine wpL_done (fun W8 hW8 => ?_)
     change Code.wp ..
     refine wp_cond_false rfl ?_
     refine wp_skip ?_
     change Code.wp ..
     refine wp_seq ?_
     refine wp_region_L _ hW8 ?_
     refine lv (v := .agg (sdC (⟨1, ⟨2, 0, 1⟩⟩ : Sd)).toArray) rfl rfl (yb_call (f := 10) (args := #[.int .i64 1, .int .i64 2, .int .i64 0, .int .u8 1]) Tw.kf fun W hW => at_any 1 2 0 1 W) ?_
     refine lv (v := .agg (sdC (⟨2, ⟨2, 0, 2⟩⟩ : Sd)).toArray) rfl rfl (yb_call (f := 10) (args := #[.int .i64 2, .int .i64 2, .int .i64 0, .int .u8 2]) Tw.kf fun W hW => at_any 2 2 0 2 W) ?_
     refine lv (v := .agg (sdC (⟨4, ⟨2, 1, 2⟩⟩ : Sd)).toArray) rfl rfl (yb_call (f := 10) (args := #[.int .i64 4, .int .i64 2, .int .i64 1, .int .u8 2]) Tw.kf fun W hW => at_any 4 2 1 2 W) ?_
     refine wpL_new (fun g => .slice (some ⟨g, 0, none⟩) 3 3) (obi := .cells #[.int .i64 1, .int .i64 2, .int .i64 0, .int .u8 1, .int .i64 2, .int .i64 2, .int .i64 0, .int .u8 2, .int .i64 4, .int .i64 2, .int .i64 1, .int .u8 2] 42 (0, 0)) rfl rfl Tw.kf Tw.pf fun g11 Bg11 Fg11 => ?_
     obtain ⟨dj12_0, dj12_1, dj12_2, dj12_3, dj12_4, dj12_5, dj12_6, dj12_7, dj12_8⟩ : g9 ≠ g11 ∧ g3 ≠ g11 ∧ g1 ≠ g11 ∧ gb ≠ g11 ∧ Dk g11 Kc ∧ Dk g11 Ko ∧ Dk g11 Tr ∧ Dk g11 Kl5 ∧ Dk g11 Kl7 := Tw.dkf Fg11
     refine lm (v := .slice (some ⟨g11, 0, none⟩) 3 3) rfl rfl ?_
     refine wpL_done (fun W9 hW9 => ?_)
     change Code.wp ..
     refine wp_seq ?_
     refine wp_region_L _ hW9 ?_
     refine lv (v := .agg (shC (.slice pcS exL.length ccS) (.slice poS ((exO rp rc).length) coS) (tlT tl0 2000)).toArray) rfl rfl (yb_load (n := 13) (off := 0) rfl Tw.kr Tw.m3 Try.underlying32 rfl Tw.kr (by first | (simp [Value.cells]; done) | exact Nat.le_of_ble_eq_true rfl) Tw.kr) ?_
     refine lm (v := .slice (some ⟨gb, 0, none⟩) 4 cb) rfl rfl ?_
     refine lm (v := .slice (some ⟨g11, 0, none⟩) 3 3) rfl rfl ?_
     refine wpL_c (f := 21) (args := #[.agg (shC (.slice pcS exL.length ccS) (.slice poS ((exO rp rc).length) coS) (tlT tl0 2000)).toArray, .slice (some ⟨gb, 0, none⟩) 4 cb, .slice (some ⟨g11, 0, none⟩) 3 3]) (fun v K9 => ∃ v1, v = .tuple #[v1, .int .i64 0] ∧ OutRL ftC w ((g11, .cells #[.int .i64 1, .int .i64 2, .int .i64 0, .int .u8 1, .int .i64 2, .int .i64 2, .int .i64 0, .int .u8 2, .int .i64 4, .int .i64 2, .int .i64 1, .int .u8 2] 42 (0, 0)) :: (g9, .cells #[.int .i64 2, .int .u8 3, .int .i64 0, .int .i64 2, .int .u8 4, .int .i64 3] 71 (0, 0)) :: (g3, .cells #[.int .i64 1, .int .i64 2, .int .i64 0, .int .u8 1, .int .i64 2, .int .i64 2, .int .i64 0, .int .u8 2, .int .i64 3, .int .i64 2, .int .i64 1, .int .u8 0] 42 (0, 0)) :: (g1, .cells (shC (.slice pcS exL.length ccS) (.slice poS ((exO rp rc).length) coS) (tlT tl0 2000)).toArray 32 (0, 0)) :: (gb, .cells #[.int .i64 1, strV [], .int .u8 20, .bool false, .int .i64 15000, .int .i64 0, .int .i64 0, .int .u8 0, .bool false, .int .i64 2, strV [], .int .u8 20, .bool false, .int .i64 9000, .int .i64 0, .int .i64 0, .int .u8 0, .bool false, .int .i64 3, strV [], .int .u8 40, .bool false, .int .i64 26001, .int .i64 0, .int .i64 0, .int .u8 0, .bool false, .int .i64 4, strV [], .int .u8 20, .bool false, .int .i64 12000, .int .i64 0, .int .i64 0, .int .u8 0, .bool false] 37 (0, 0)) :: (Kc ++ (Ko ++ (Tr ++ (Kl5 ++ Kl7))))) ([⟨2, 4, 4⟩] : List Ft) v1 K9) rfl Tw.kr Tw.kf (fun W hW => calls_tur hW ((by have h9 := Check_any exL pcS ccS (Nat.le_of_ble_eq_true rfl) (exO rp rc) poS coS (Nat.le_of_ble_eq_true rfl) tl0 2000 (exB 26001) (some ⟨gb, 0, none⟩) cb (Nat.le_of_ble_eq_true rfl) exS2 (some ⟨g11, 0, none⟩) 3 (Nat.le_of_ble_eq_true rfl) W (RC _ (hW.sub (fun p hp => by simp only [List.mem_cons, List.mem_append, List.nil_append, List.not_mem_nil, or_assoc, or_false, false_or, hp, true_or, or_true]))) (RO _ (hW.sub (fun p hp => by simp only [List.mem_cons, List.mem_append, List.nil_append, List.not_mem_nil, or_assoc, or_false, false_or, hp, true_or, or_true]))) (hRB.rw W (hW.sub (fun p hp => by simp only [List.mem_cons, List.mem_append, List.nil_append, List.not_mem_nil, or_assoc, or_false, false_or, hp, true_or, or_true]))) (fun o ho => by cases List.mem_singleton.1 ho; exact (Nat.le_of_ble_eq_true rfl)) (plr_nil exL_plugs) (fun c hc => by rw [exL_plugs c hc]; exact Nat.zero_le _) ((show RL boC w (some ⟨gb, 0, none⟩) (exB 26001) [(gb, .cells #[.int .i64 1, strV [], .int .u8 20, .bool false, .int .i64 15000, .int .i64 0, .int .i64 0, .int .u8 0, .bool false, .int .i64 2, strV [], .int .u8 20, .bool false, .int .i64 9000, .int .i64 0, .int .i64 0, .int .u8 0, .bool false, .int .i64 3, strV [], .int .u8 40, .bool false, .int .i64 26001, .int .i64 0, .int .i64 0, .int .u8 0, .bool false, .int .i64 4, strV [], .int .u8 20, .bool false, .int .i64 12000, .int .i64 0, .int .i64 0, .int .u8 0, .bool false] 37 (0, 0))] from fun W hW => blk_slv (cs := (exB 26001).flatMap boC) hW Tw.m0) _ (hW.sub (fun p hp => by cases List.mem_singleton.1 hp; exact Tw.m4))) ((show RL sdC w (some ⟨g11, 0, none⟩) exS2 [(g11, .cells #[.int .i64 1, .int .i64 2, .int .i64 0, .int .u8 1, .int .i64 2, .int .i64 2, .int .i64 0, .int .u8 2, .int .i64 4, .int .i64 2, .int .i64 1, .int .u8 2] 42 (0, 0))] from fun W hW => blk_slv (cs := exS2.flatMap sdC) hW Tw.m0) _ (hW.sub (fun p hp => by cases List.mem_singleton.1 hp; exact Tw.m0))) tl0_one; rw [(ev_c3 rp rc).1, (ev_c3 rp rc).2] at h9; exact h9))) Tw.pf ?_
     rintro _ _ ⟨_, rfl, p13, c13, Kl13, rfl, n13, R13, N13, rfl⟩
     obtain ⟨dj14_0, dj14_1, dj14_2, dj14_3, dj14_4, dj14_5, dj14_6, dj14_7, dj14_8, dj14_9⟩ : Dk g11 Kl13 ∧ Dk g9 Kl13 ∧ Dk g3 Kl13 ∧ Dk g1 Kl13 ∧ Dk gb Kl13 ∧ Dj Kc Kl13 ∧ Dj Ko Kl13 ∧ Dj Tr Kl13 ∧ Dj Kl5 Kl13 ∧ Dj Kl7 Kl13 := Tw.djf N13
     refine wpL_sub (K2 := ((g11, .cells #[.int .i64 1, .int .i64 2, .int .i64 0, .int .u8 1, .int .i64 2, .int .i64 2, .int .i64 0, .int .u8 2, .int .i64 4, .int .i64 2, .int .i64 1, .int .u8 2] 42 (0, 0)) :: (g9, .cells #[.int .i64 2, .int .u8 3, .int .i64 0, .int .i64 2, .int .u8 4, .int .i64 3] 71 (0, 0)) :: (g3, .cells #[.int .i64 1, .int .i64 2, .int .i64 0, .int .u8 1, .int .i64 2, .int .i64 2, .int .i64 0, .int .u8 2, .int .i64 3, .int .i64 2, .int .i64 1, .int .u8 0] 42 (0, 0)) :: (g1, .cells (shC (.slice pcS exL.length ccS) (.slice poS ((exO rp rc).length) coS) (tlT tl0 2000)).toArray 32 (0, 0)) :: (gb, .cells #[.int .i64 1, strV [], .int .u8 20, .bool false, .int .i64 15000, .int .i64 0, .int .i64 0, .int .u8 0, .bool false, .int .i64 2, strV [], .int .u8 20, .bool false, .int .i64 9000, .int .i64 0, .int .i64 0, .int .u8 0, .bool false, .int .i64 3, strV [], .int .u8 40, .bool false, .int .i64 26001, .int .i64 0, .int .i64 0, .int .u8 0, .bool false, .int .i64 4, strV [], .int .u8 20, .bool false, .int .i64 12000, .int .i64 0, .int .i64 0, .int .u8 0, .bool false] 37 (0, 0)) :: (Kc ++ (Ko ++ (Tr ++ (Kl5 ++ (Kl7 ++ Kl13))))))) (fun p hp => by simp only [List.mem_cons, List.mem_append, or_assoc] at hp ⊢; exact hp) ?_
     refine lm (v := .tuple #[.slice p13 (([⟨2, 4, 4⟩] : List Ft).length) c13, .int .i64 0]) rfl rfl ?_
     refine lm (v := .slice p13 (([⟨2, 4, 4⟩] : List Ft).length) c13) rfl rfl ?_
     refine lm (v := .int .i64 0) rfl rfl ?_
     refine lm (v := .slice p13 (([⟨2, 4, 4⟩] : List Ft).length) c13) rfl rfl ?_
     refine lm (v := .int .i64 0) rfl rfl ?_
     refine wpL_done (fun W10 hW10 => ?_)
     change Code.wp ..
     refine wp_seq ?_
     refine wp_region_V _ Tw.kr hW10 ?_
     refine vm (i := 0) (v := .int .i64 0) rfl rfl rfl ?_
     refine vm (i := 1) (v := .bool true) rfl rfl rfl ?_
     refine vm (i := 2) (v := .bool true) rfl rfl rfl ?_
     refine vm (i := 3) (v := .slice p13 (([⟨2, 4, 4⟩] : List Ft).length) c13) rfl rfl rfl ?_
     refine vm (i := 4) (v := .agg #[.int .i64 2, .int .u8 4, .int .i64 4]) rfl rfl rfl ?_
     refine wpV_nsg (fun g => .slice (some ⟨g, 0, none⟩) 1 1) (i := 5) (obi := .cells #[.int .i64 2, .int .u8 4, .int .i64 4] 71 (0, 0)) rfl rfl rfl Tw.kr Tw.kf Tw.pf fun g15 Bg15 Fg15 => ?_
     obtain ⟨dj16_0, dj16_1, dj16_2, dj16_3, dj16_4, dj16_5, dj16_6, dj16_7, dj16_8, dj16_9, dj16_10⟩ : g11 ≠ g15 ∧ g9 ≠ g15 ∧ g3 ≠ g15 ∧ g1 ≠ g15 ∧ gb ≠ g15 ∧ Dk g15 Kc ∧ Dk g15 Ko ∧ Dk g15 Tr ∧ Dk g15 Kl5 ∧ Dk g15 Kl7 ∧ Dk g15 Kl13 := Tw.dkf Fg15
     refine vv (i := 6) (v := .bool true) rfl rfl rfl (yb_call (f := 33) (args := #[.slice p13 (([⟨2, 4, 4⟩] : List Ft).length) c13, .slice (some ⟨g15, 0, none⟩) 1 1]) Tw.kf fun W hW => (by have h9 := only_any ([⟨2, 4, 4⟩] : List Ft) ([⟨2, 4, 4⟩] : List Ft) p13 (some ⟨g15, 0, none⟩) c13 1 (Nat.le_of_ble_eq_true rfl) W (R13 _ (hW.sub (fun p hp => by simp only [List.mem_cons, List.mem_append, List.nil_append, List.not_mem_nil, or_assoc, or_false, false_or, hp, true_or, or_true]))) ((show RL ftC w (some ⟨g15, 0, none⟩) ([⟨2, 4, 4⟩] : List Ft) [(g15, .cells #[.int .i64 2, .int .u8 4, .int .i64 4] 71 (0, 0))] from fun W hW => blk_slv (cs := ([⟨2, 4, 4⟩] : List Ft).flatMap ftC) hW Tw.m0) _ (hW.sub (fun p hp => by cases List.mem_singleton.1 hp; exact Tw.m0))); exact h9)) ?_
     refine vm (i := 7) (v := .bool true) rfl rfl rfl ?_
     refine vm (i := 8) (v := .bool true) rfl rfl rfl ?_
     refine vv (i := 9) (v := .agg (shC (.slice pcS exL.length ccS) (.slice poS ((exO rp rc).length) coS) (tlT tl0 2000)).toArray) rfl rfl rfl (yb_load (n := 13) (off := 0) rfl Tw.kr Tw.m4 Try.underlying32 rfl Tw.kr (by first | (simp [Value.cells]; done) | exact Nat.le_of_ble_eq_true rfl) Tw.kr) ?_
     refine vm (i := 10) (v := .slice (some ⟨gb, 0, none⟩) 4 cb) rfl rfl rfl ?_
     refine vm (i := 11) (v := .slice (some ⟨g11, 0, none⟩) 3 3) rfl rfl rfl ?_
     refine vp (i := 12) (v := .slice (some ⟨g11, 0, none⟩) 2 3) rfl rfl rfl (run_slt (kd := .i64) (j := 2) (n := 3) (c := 3) (sz := 4) rfl Try.underlying38 Tw.kr Tw.kr Tw.kr (by decide)) ?_
     refine vm (i := 13) (v := .agg #[.int .i64 2, .int .i64 1, .int .u8 2]) rfl rfl rfl ?_
     refine vv (i := 14) (v := .int .i64 11000) rfl rfl rfl (yb_call (f := 16) (args := #[.agg (shC (.slice pcS exL.length ccS) (.slice poS ((exO rp rc).length) coS) (tlT tl0 2000)).toArray, .slice (some ⟨gb, 0, none⟩) 4 cb, .slice (some ⟨g11, 0, none⟩) 2 3, .agg #[.int .i64 2, .int .i64 1, .int .u8 2]]) Tw.kf fun W hW => (by have h9 := Room_any exL pcS ccS (Nat.le_of_ble_eq_true rfl) poS (exO rp rc).length coS tl0 2000 (exB 26001) (some ⟨gb, 0, none⟩) cb (Nat.le_of_ble_eq_true rfl) (exS2.take 2) (some ⟨g11, 0, none⟩) 3 (Nat.le_of_ble_eq_true rfl) ⟨2, 1, 2⟩ W (RC _ (hW.sub (fun p hp => by simp only [List.mem_cons, List.mem_append, List.nil_append, List.not_mem_nil, or_assoc, or_false, false_or, hp, true_or, or_true]))) ((show RL boC w (some ⟨gb, 0, none⟩) (exB 26001) [(gb, .cells #[.int .i64 1, strV [], .int .u8 20, .bool false, .int .i64 15000, .int .i64 0, .int .i64 0, .int .u8 0, .bool false, .int .i64 2, strV [], .int .u8 20, .bool false, .int .i64 9000, .int .i64 0, .int .i64 0, .int .u8 0, .bool false, .int .i64 3, strV [], .int .u8 40, .bool false, .int .i64 26001, .int .i64 0, .int .i64 0, .int .u8 0, .bool false, .int .i64 4, strV [], .int .u8 20, .bool false, .int .i64 12000, .int .i64 0, .int .i64 0, .int .u8 0, .bool false] 37 (0, 0))] from fun W hW => blk_slv (cs := (exB 26001).flatMap boC) hW Tw.m0) _ (hW.sub (fun p hp => by cases List.mem_singleton.1 hp; exact Tw.m5))) (((show RL sdC w (some ⟨g11, 0, none⟩) exS2 [(g11, .cells #[.int .i64 1, .int .i64 2, .int .i64 0, .int .u8 1, .int .i64 2, .int .i64 2, .int .i64 0, .int .u8 2, .int .i64 4, .int .i64 2, .int .i64 1, .int .u8 2] 42 (0, 0))] from fun W hW => blk_slv (cs := exS2.flatMap sdC) hW Tw.m0).take sdC_len 2) _ (hW.sub (fun p hp => by cases List.mem_singleton.1 hp; exact Tw.m1))); rw [ev_r1] at h9; exact h9)) ?_
     refine vm (i := 15) (v := .bool true) rfl rfl rfl ?_
     refine vm (i := 16) (v := .bool true) rfl rfl rfl ?_
     refine vm (i := 17) (v := .bool true) rfl rfl rfl ?_
     refine vv (i := 18) (v := .agg (shC (.slice pcS exL.length ccS) (.slice poS ((exO rp rc).length) coS) (tlT tl0 2000)).toArray) rfl rfl rfl (yb_load (n := 13) (off := 0) rfl Tw.kr Tw.m4 Try.underlying32 rfl Tw.kr (by first | (simp [Value.cells]; done) | exact Nat.le_of_ble_eq_true rfl) Tw.kr) ?_
     refine vm (i := 19) (v := .slice (some ⟨gb, 0, none⟩) 4 cb) rfl rfl rfl ?_
     refine vm (i := 20) (v := .slice (some ⟨g11, 0, none⟩) 3 3) rfl rfl rfl ?_
     refine vp (i := 21) (v := .slice (some ⟨g11, 0, none⟩) 2 3) rfl rfl rfl (run_slt (kd := .i64) (j := 2) (n := 3) (c := 3) (sz := 4) rfl Try.underlying38 Tw.kr Tw.kr Tw.kr (by decide)) ?_
     refine vm (i := 22) (v := .agg #[.int .i64 2, .int .i64 1, .int .u8 1]) rfl rfl rfl ?_
     refine vv (i := 23) (v := .int .i64 15000) rfl rfl rfl (yb_call (f := 16) (args := #[.agg (shC (.slice pcS exL.length ccS) (.slice poS ((exO rp rc).length) coS) (tlT tl0 2000)).toArray, .slice (some ⟨gb, 0, none⟩) 4 cb, .slice (some ⟨g11, 0, none⟩) 2 3, .agg #[.int .i64 2, .int .i64 1, .int .u8 1]]) Tw.kf fun W hW => (by have h9 := Room_any exL pcS ccS (Nat.le_of_ble_eq_true rfl) poS (exO rp rc).length coS tl0 2000 (exB 26001) (some ⟨gb, 0, none⟩) cb (Nat.le_of_ble_eq_true rfl) (exS2.take 2) (some ⟨g11, 0, none⟩) 3 (Nat.le_of_ble_eq_true rfl) ⟨2, 1, 1⟩ W (RC _ (hW.sub (fun p hp => by simp only [List.mem_cons, List.mem_append, List.nil_append, List.not_mem_nil, or_assoc, or_false, false_or, hp, true_or, or_true]))) ((show RL boC w (some ⟨gb, 0, none⟩) (exB 26001) [(gb, .cells #[.int .i64 1, strV [], .int .u8 20, .bool false, .int .i64 15000, .int .i64 0, .int .i64 0, .int .u8 0, .bool false, .int .i64 2, strV [], .int .u8 20, .bool false, .int .i64 9000, .int .i64 0, .int .i64 0, .int .u8 0, .bool false, .int .i64 3, strV [], .int .u8 40, .bool false, .int .i64 26001, .int .i64 0, .int .i64 0, .int .u8 0, .bool false, .int .i64 4, strV [], .int .u8 20, .bool false, .int .i64 12000, .int .i64 0, .int .i64 0, .int .u8 0, .bool false] 37 (0, 0))] from fun W hW => blk_slv (cs := (exB 26001).flatMap boC) hW Tw.m0) _ (hW.sub (fun p hp => by cases List.mem_singleton.1 hp; exact Tw.m5))) (((show RL sdC w (some ⟨g11, 0, none⟩) exS2 [(g11, .cells #[.int .i64 1, .int .i64 2, .int .i64 0, .int .u8 1, .int .i64 2, .int .i64 2, .int .i64 0, .int .u8 2, .int .i64 4, .int .i64 2, .int .i64 1, .int .u8 2] 42 (0, 0))] from fun W hW => blk_slv (cs := exS2.flatMap sdC) hW Tw.m0).take sdC_len 2) _ (hW.sub (fun p hp => by cases List.mem_singleton.1 hp; exact Tw.m1))); rw [ev_r2] at h9; exact h9)) ?_
     refine vm (i := 24) (v := .bool true) rfl rfl rfl ?_
     refine vm (i := 25) (v := .bool true) rfl rfl rfl ?_
     refine vm (i := 26) (v := .bool true) rfl rfl rfl ?_
     refine wpV_done Tw.kr (fun W11 hW11 => ?_) _
     change Code.wp ..
     refine wp_ret ?_
     try simp only [inBlock_ret, then_ret]
     refine bodyPost_ret (v := .bool true) ?_ rfl ?_
     · kernel_rfl
     · exact ⟨rfl, hW11.1⟩
end Go.Proofs.Ytnbfljcilojllaa
namespace Go.Proofs.Ytnbfljcilojllaa
open Go Go.RowKit Tw
end Go.Proofs.Ytnbfljcilojllaa
namespace Go.Proofs.Ytnbfljcilojllaa
open Go Go.RowKit Tw
set_option maxRecDepth 100000 in
set_option maxHeartbeats 4000000 in
theorem StackSums_law (l : List Pl) (p : Option Addr) (c : Nat) (n : Nat) (hl : l.length ≤ 9223372036854775807) (hcap : l.length ≤ c) (hok : ∀ y ∈ l, plOk y) (hn : n ≤ 4294967295) (wh wa wt : Nat) (hwh : wh ≤ 255) (hwa : wa ≤ 255) (hwt : wt ≤ 255) (ds : List Dp) (dp : Option Addr) (dc : Nat) (ld : ds.length ≤ 9223372036854775807) (hdc : ds.length ≤ dc) (hd8 : ∀ d ∈ ds, d.col ≤ 255 ∧ d.kil ≤ 255) (w : World) (hp : SLV w p (l.flatMap plC)) (hd : SLV w dp (ds.flatMap dpC)) : Calls Try.prog 5 #[.slice p l.length c, .int .u32 ((n : Nat) : Int), .agg #[.int .u8 ((wh : Nat) : Int), .int .u8 ((wa : Nat) : Int), .int .u8 ((wt : Nat) : Int)], .slice dp ds.length dc] w fun e w' => e = .returned (.bool true) ∧ Below w.heap.size w w' := by
 have HP := Lib.hid hp
 clear hp
 have HD := Lib.hid hd
 clear hd
 obtain ⟨cs, hcs⟩ : ∃ cs, builtC l = cs := ⟨_, rfl⟩
 have hg : Good cs := hcs ▸ built_good l
 obtain ⟨h0, h12⟩ : 0 < cs.length ∧ cs.length ≤ 12 := hcs ▸ built_len l
 obtain ⟨csL, hcsL⟩ : ∃ x, limC wh wa cs = x := ⟨_, rfl⟩
 have hlL : csL.length = cs.length := by rw [← hcsL]; exact lim_len _ _ _
 have hplL := hcsL ▸ lim_plugs (h := wh) (a := wa) hg
 have htL : ∀ c ∈ csL, c.tiers ≤ 10 := fun c hc => (lim_tiers (h := wh) (a := wa) hg c (hcsL ▸ hc)).2
 obtain ⟨tn, htn⟩ : ∃ n, 100 * wt = n := ⟨_, rfl⟩
 have htb : tn ≤ 25500 := by omega
 go_enter Try.func5, Try.ntmps5
 refine wp_seq ?_
 refine wp_region_L [] (KS.start w) ?_
 refine wpL_new (fun g => .pointer (some ⟨g, 0, none⟩)) (obi := .cells #[.int .u8 ((wh : Nat) : Int), .int .u8 ((wa : Nat) : Int), .int .u8 ((wt : Nat) : Int)] 52 (0, 0)) rfl rfl Tw.kf Tw.pf fun g1 Bg1 Fg1 => ?_
 refine lm (v := .bool false) rfl rfl ?_
 refine wpL_done (fun W1 hW1 => ?_)
 change Code.wp ..
 refine wp_seq ?_
 refine wp_region_L _ hW1 ?_
 refine lm (v := .slice p l.length c) rfl rfl ?_
 refine lm (v := .int .u32 ((n : Nat) : Int)) rfl rfl ?_
 refine lv (v := .agg #[.int .u8 ((wh : Nat) : Int), .int .u8 ((wa : Nat) : Int), .int .u8 ((wt : Nat) : Int)]) rfl rfl (yb_load (n := 3) (off := 0) rfl Tw.kr Tw.m0 Try.underlying52 rfl Tw.kr (by first | (simp [Value.cells]; done) | exact Nat.le_of_ble_eq_true rfl) Tw.kr) ?_
 refine lm (v := .slice dp ds.length dc) rfl rfl ?_
 refine wpL_c (f := 13) (args := #[.slice p l.length c, .int .u32 ((n : Nat) : Int), .agg #[.int .u8 ((wh : Nat) : Int), .int .u8 ((wa : Nat) : Int), .int .u8 ((wt : Nat) : Int)], .slice dp ds.length dc]) (LimF w [(g1, .cells #[.int .u8 ((wh : Nat) : Int), .int .u8 ((wa : Nat) : Int), .int .u8 ((wt : Nat) : Int)] 52 (0, 0))] csL (builtO n) ((tn : Nat) : Int) ds) rfl Tw.kr Tw.kf (fun W hW => calls_lim hW (by have h9 := Limited_any l p c n hl hcap hok hn wh wa wt hwh hwa hwt ds dp dc ld hdc hd8 W (HP.out.keep hW.1) (HD.out.keep hW.1); rw [hcs, hcsL, htn] at h9; exact h9)) Tw.pf ?_
 rintro _ _ ⟨pcS, ccS, osS, poS, coS, pB, cB, pS, cS, rfl, hMS, _, hLF⟩
 refine wpL_rebase fun WB hWB => ?_
 obtain ⟨hC1, hO1, hR1, hB1, hS1⟩ := hLF WB hWB
 obtain ⟨kk, hkk, hLD⟩ := loaded_ok csL osS ds
 obtain ⟨bs, hbs⟩ : ∃ x, (loadedX csL osS ds).1 = x := ⟨_, rfl⟩
 obtain ⟨st, hst⟩ : ∃ x, (loadedX csL osS ds).2 = x := ⟨_, rfl⟩
 rw [hbs, hst]
 rw [hbs] at hB1
 rw [hst] at hS1
 rw [hbs, hst] at hLD
 have hbl : bs.length ≤ 9 := by have := hLD.len; omega
 have hsl : st.length ≤ 9 := by have := hLD.st; omega
 have hoS : GoodO (osS.map fun o => (o.bay, o.rows)) := by rw [hMS]; exact builtO_sub n
 have loS : osS.length ≤ 10 := by have h8 := congrArg List.length hMS; rw [List.length_map] at h8; have h9 := builtO_len n; omega
 have lrS := goodO_rows hoS
 have HCS := Lib.hid hC1
 clear hC1
 have HOS := Lib.hid hO1
 clear hO1
 have HRS := Lib.hid hR1
 clear hR1
 have HBS := Lib.hid hB1
 clear hB1
 have HSS := Lib.hid hS1
 clear hS1
 have HPS := Lib.hid (hplL.1 WB)
 have lpS := hplL.2
 have hcl := ld_cols hLD
 have hhv := ld_halves hLD
 have hsm : SmallK (st.map (loOf bs)) := by have h9 := loaded_small (cs := csL) (os := osS) hd8 hkk (by rw [hbs, hst]; exact hLD); rw [hbs, hst] at h9; exact h9
 have hsp : ∀ c : Int, SmallK (pileK bs st c) := fun c => small_sub hsm (inCol c)
 have htot : totX bs st csL.length = everK bs st := tot_all hsm fun x hx => by obtain ⟨j, y, h1, h2, _⟩ := hcl x hx; have h3 := (List.getElem?_eq_some_iff.1 h1).1; omega
 refine lm (v := .tuple #[.agg (shC (.slice pcS csL.length ccS) (.slice poS osS.length coS) (tlT tl0 ((tn : Nat) : Int))).toArray, .slice pB bs.length cB, .slice pS st.length cS]) rfl rfl ?_
 refine lm (v := .agg (shC (.slice pcS csL.length ccS) (.slice poS osS.length coS) (tlT tl0 ((tn : Nat) : Int))).toArray) rfl rfl ?_
 refine lm (v := .slice pB bs.length cB) rfl rfl ?_
 refine lm (v := .slice pS st.length cS) rfl rfl ?_
 refine wpL_new (fun g => .pointer (some ⟨g, 0, none⟩)) (obi := .cells (shC (.slice none 0 0) (.slice none 0 0) tl0).toArray 32 (0, 0)) rfl rfl Tw.kf Tw.pf fun g2 Bg2 Fg2 => ?_
 refine wpL_s [(g2, .cells (shC (.slice pcS csL.length ccS) (.slice poS osS.length coS) (tlT tl0 ((tn : Nat) : Int))).toArray 32 (0, 0))] rfl rfl (st_row (off := 0) (v := .agg (shC (.slice pcS csL.length ccS) (.slice poS osS.length coS) (tlT tl0 ((tn : Nat) : Int))).toArray) rfl Tw.kr Tw.kr Tw.m0 Bg2 Tw.kr (by first | (simp [Value.cells]; done) | exact Nat.le_of_ble_eq_true rfl) (fun v hv => shT_one v hv) Tw.kr (List.forall_mem_cons.2 ⟨.inl rfl, (List.forall_mem_nil _)⟩)) ?_
 refine lm (v := .slice pB bs.length cB) rfl rfl ?_
 refine lm (v := .slice pS st.length cS) rfl rfl ?_
 refine wpL_done (fun W2 hW2 => ?_)
 change Code.wp ..
 refine wp_seq ?_
 refine wp_region_L (W0 := WB) [(g2, .cells (shC (.slice pcS csL.length ccS) (.slice poS osS.length coS) (tlT tl0 ((tn : Nat) : Int))).toArray 32 (0, 0))] (hW2) ?_
 refine lm (v := .int .i64 0) rfl rfl ?_
 refine lm (v := .int .i64 0) rfl rfl ?_
 refine wpL_done (fun W3 hW3 => ?_)
 change Code.wp ..
 refine wp_seq ?_
 refine wp_seq ?_
 refine wp_region_L (W0 := WB) [(g2, .cells (shC (.slice pcS csL.length ccS) (.slice poS osS.length coS) (tlT tl0 ((tn : Nat) : Int))).toArray 32 (0, 0))] (hW3) ?_
 refine lm (v := .pointer (some ⟨g2, 0, none⟩)) rfl rfl ?_
 refine lv (v := .slice pcS csL.length ccS) rfl rfl (yb_cell (off := 0) rfl Tw.kr Tw.m0 Try.underlying22 rfl Tw.kr) ?_
 refine lp (v := .int .i64 ((csL.length : Nat) : Int)) rfl rfl (run_lenL (p := pcS) (cap := ccS) (n := csL.length) rfl Try.underlying22 Tw.kr) ?_
 refine lm (v := .int .i64 0) rfl rfl ?_
 refine wpL_done (fun W4 hW4 => ?_)
 change Code.wp ..
 refine wp_block ?_
 go_loopw [39, 12, 13] (fun u39 u12 u13 wr => ∃ (c : Nat) (tt w0 : Int), (c ≤ csL.length) ∧ (tt = totX bs st c) ∧ (w0 = (wantF bs st c 0)) ∧ u39 = .int .i64 ((c : Nat) : Int) ∧ u12 = .int .i64 tt ∧ u13 = .int .i64 w0 ∧ KS WB [(g2, .cells (shC (.slice pcS csL.length ccS) (.slice poS osS.length coS) (tlT tl0 ((tn : Nat) : Int))).toArray 32 (0, 0))] wr) (fun u39 _ _ _ => csL.length - (intOf u39).toNat)
 case atStart => exact ⟨0, 0, 0, (Nat.zero_le _), rfl, rfl, rfl, rfl, rfl, (hW4.sub (fun p hp => by first | exact hp | (simp only [List.mem_cons, List.mem_append, List.nil_append, List.not_mem_nil, or_assoc, or_false, false_or] at hp ⊢ <;> grind)))⟩
 case round =>
   obtain ⟨c, tt, w0, hc, htt, hw0, rfl, rfl, rfl, hL5⟩ := hrel
   refine wp_seq ?_
   refine wp_region_L (W0 := WB) [(g2, .cells (shC (.slice pcS csL.length ccS) (.slice poS osS.length coS) (tlT tl0 ((tn : Nat) : Int))).toArray 32 (0, 0))] (hL5) ?_
   refine lp (v := .bool (decide (c < csL.length))) rfl rfl (run_bin rfl (vx := (.int .i64 ((c : Nat) : Int))) (vy := (.int .i64 ((csL.length : Nat) : Int))) Tw.kr Tw.kr fun w => bn_lss rfl w) ?_
   refine wpL_done (fun W6 hW6 => ?_)
   change Code.wp ..
   refine wp_seq ?_
   cases hd1 : (decide (c < csL.length)) with
   | false =>
     have h1 : ¬ (c < csL.length) := of_decide_eq_false hd1
     clear hd1
     refine wp_cond_false rfl ?_
     refine wp_exit ?_
     change Code.wp ..
     refine wp_seq ?_
     refine wp_region_L (W0 := WB) [(g2, .cells (shC (.slice pcS csL.length ccS) (.slice poS osS.length coS) (tlT tl0 ((tn : Nat) : Int))).toArray 32 (0, 0))] (hW6) ?_
     refine lm (v := .int .i64 tt) rfl rfl ?_
     refine lm (v := .int .i64 w0) rfl rfl ?_
     refine lp (v := .bool (decide (tt = w0))) rfl rfl (run_bin rfl (vx := (.int .i64 tt)) (vy := (.int .i64 w0)) Tw.kr Tw.kr fun w => bi_eql rfl w) ?_
     refine lm (v := .bool (decide (tt = w0))) rfl rfl ?_
     cases hd2 : (decide (tt = w0)) with
     | false =>
       have h2 : ¬ (tt = w0) := of_decide_eq_false hd2
       clear hd2
       exact absurd (by rw [htt, hw0, show c = csL.length from by omega, htot]; unfold wantF; rw [if_neg Tw.om]) h2
     | true =>
       have h2 : tt = w0 := of_decide_eq_true hd2
       clear hd2
       refine lv (v := .bool true) rfl rfl (yb_call (f := 12) (args := #[]) Tw.kf fun W hW => awake10_any W) ?_
       refine lm (v := .bool true) rfl rfl ?_
       refine lm (v := .bool true) rfl rfl ?_
       refine wpL_done (fun W7 hW7 => ?_)
       change Code.wp ..
       refine wp_ret ?_
       try simp only [inBlock_ret, then_ret]
       refine bodyPost_ret (v := .bool true) ?_ rfl ?_
       · kernel_rfl
       · exact ⟨rfl, (hWB.1.trans (hW7.1.mono hWB.1.size))⟩
   | true =>
     have h1 : c < csL.length := of_decide_eq_true hd1
     clear hd1
     refine wp_cond_true rfl ?_
     refine wp_skip ?_
     change Code.wp ..
     refine wp_seq ?_
     refine wp_block ?_
     refine wp_seq ?_
     refine wp_region_L (W0 := WB) [(g2, .cells (shC (.slice pcS csL.length ccS) (.slice poS osS.length coS) (tlT tl0 ((tn : Nat) : Int))).toArray 32 (0, 0))] (hW6) ?_
     refine lm (v := .int .i64 ((c : Nat) : Int)) rfl rfl ?_
     refine lm (v := .int .i64 ((c : Nat) : Int)) rfl rfl ?_
     refine wpL_done (fun W8 hW8 => ?_)
     change Code.wp ..
     refine wp_seq ?_
     refine wp_region_L (W0 := WB) [(g2, .cells (shC (.slice pcS csL.length ccS) (.slice poS osS.length coS) (tlT tl0 ((tn : Nat) : Int))).toArray 32 (0, 0))] (hW8) ?_
     refine lm (v := .slice pB bs.length cB) rfl rfl ?_
     refine lm (v := .slice pS st.length cS) rfl rfl ?_
     refine lm (v := .int .i64 ((c : Nat) : Int)) rfl rfl ?_
     refine lv (v := .agg #[.int .i64 (foreX bs st ((c : Nat) : Int)), .int .i64 (aftX bs st ((c : Nat) : Int)), .int .i64 (allX bs st ((c : Nat) : Int))]) rfl rfl (yb_call (f := 19) (args := #[.slice pB bs.length cB, .slice pS st.length cS, .int .i64 ((c : Nat) : Int)]) Tw.kf fun W hW => Weigh_any bs pB cB Tw.om st pS cS Tw.om ((c : Nat) : Int) W ((RL.base HBS.out) _ (hW.sub (fun _ h => by cases h))) ((RL.base HSS.out) _ (hW.sub (fun _ h => by cases h)))) ?_
     refine wpL_new (fun g => .pointer (some ⟨g, 0, none⟩)) (obi := .cells #[.int .i64 0, .int .i64 0, .int .i64 0] 66 (0, 0)) rfl rfl Tw.kf Tw.pf fun g4 Bg4 Fg4 => ?_
     obtain dj5_0 : g2 ≠ g4 := Tw.dkf Fg4
     refine wpL_s [(g4, .cells #[.int .i64 (foreX bs st ((c : Nat) : Int)), .int .i64 (aftX bs st ((c : Nat) : Int)), .int .i64 (allX bs st ((c : Nat) : Int))] 66 (0, 0)), (g2, .cells (shC (.slice pcS csL.length ccS) (.slice poS osS.length coS) (tlT tl0 ((tn : Nat) : Int))).toArray 32 (0, 0))] rfl rfl (st_row (off := 0) (v := .agg #[.int .i64 (foreX bs st ((c : Nat) : Int)), .int .i64 (aftX bs st ((c : Nat) : Int)), .int .i64 (allX bs st ((c : Nat) : Int))]) rfl Tw.kr Tw.kr Tw.m0 Bg4 Tw.kr (by first | (simp [Value.cells]; done) | exact Nat.le_of_ble_eq_true rfl) (by intro v hv; simp [Value.cells] at hv; first | (subst hv; rfl) | (rcases hv with rfl | rfl | rfl <;> rfl)) Tw.kr (List.forall_mem_cons.2 ⟨.inl rfl, (List.forall_mem_cons.2 ⟨.inr ⟨Tw.m1, Tw.nee⟩, (List.forall_mem_nil _)⟩)⟩)) ?_
     refine lm (v := .int .i64 0) rfl rfl ?_
     refine wpL_done (fun W9 hW9 => ?_)
     change Code.wp ..
     refine wp_seq ?_
     refine wp_seq ?_
     refine wp_region_L (W0 := WB) [(g4, .cells #[.int .i64 (foreX bs st ((c : Nat) : Int)), .int .i64 (aftX bs st ((c : Nat) : Int)), .int .i64 (allX bs st ((c : Nat) : Int))] 66 (0, 0)), (g2, .cells (shC (.slice pcS csL.length ccS) (.slice poS osS.length coS) (tlT tl0 ((tn : Nat) : Int))).toArray 32 (0, 0))] (hW9) ?_
     refine lm (v := .slice pS st.length cS) rfl rfl ?_
     refine lp (v := .int .i64 ((st.length : Nat) : Int)) rfl rfl (run_lenL (p := pS) (cap := cS) (n := st.length) rfl Try.underlying38 Tw.kr) ?_
     refine lm (v := .int .i64 0) rfl rfl ?_
     refine wpL_done (fun W10 hW10 => ?_)
     change Code.wp ..
     refine wp_block ?_
     go_loopw [48, 16, 13] (fun u48 u16 u13 wr => ∃ (i : Nat) (wh_ wn : Int), (i ≤ st.length) ∧ (wh_ = wholX bs (st.take i) ((c : Nat) : Int)) ∧ (wn = wantF bs st c i) ∧ u48 = .int .i64 ((i : Nat) : Int) ∧ u16 = .int .i64 wh_ ∧ u13 = .int .i64 wn ∧ KS WB [(g4, .cells #[.int .i64 (foreX bs st ((c : Nat) : Int)), .int .i64 (aftX bs st ((c : Nat) : Int)), .int .i64 (allX bs st ((c : Nat) : Int))] 66 (0, 0)), (g2, .cells (shC (.slice pcS csL.length ccS) (.slice poS osS.length coS) (tlT tl0 ((tn : Nat) : Int))).toArray 32 (0, 0))] wr) (fun u48 _ _ _ => st.length - (intOf u48).toNat)
     case atStart => exact ⟨0, 0, w0, (Nat.zero_le _), rfl, hw0, rfl, rfl, rfl, (hW10.sub (fun p hp => by first | exact hp | (simp only [List.mem_cons, List.mem_append, List.nil_append, List.not_mem_nil, or_assoc, or_false, false_or] at hp ⊢ <;> grind)))⟩
     case round =>
       obtain ⟨i, wh_, wn, hi, hwh, hwn, rfl, rfl, rfl, hL11⟩ := hrel
       refine wp_seq ?_
       refine wp_region_L (W0 := WB) [(g4, .cells #[.int .i64 (foreX bs st ((c : Nat) : Int)), .int .i64 (aftX bs st ((c : Nat) : Int)), .int .i64 (allX bs st ((c : Nat) : Int))] 66 (0, 0)), (g2, .cells (shC (.slice pcS csL.length ccS) (.slice poS osS.length coS) (tlT tl0 ((tn : Nat) : Int))).toArray 32 (0, 0))] (hL11) ?_
       refine lp (v := .bool (decide (i < st.length))) rfl rfl (run_bin rfl (vx := (.int .i64 ((i : Nat) : Int))) (vy := (.int .i64 ((st.length : Nat) : Int))) Tw.kr Tw.kr fun w => bn_lss rfl w) ?_
       refine wpL_done (fun W12 hW12 => ?_)
       change Code.wp ..
       refine wp_seq ?_
       cases hd3 : (decide (i < st.length)) with
       | false =>
         have h3 : ¬ (i < st.length) := of_decide_eq_false hd3
         clear hd3
         refine wp_cond_false rfl ?_
         refine wp_exit ?_
         change Code.wp ..
         refine wp_seq ?_
         refine wp_seq ?_
         refine wp_region_L (W0 := WB) [(g4, .cells #[.int .i64 (foreX bs st ((c : Nat) : Int)), .int .i64 (aftX bs st ((c : Nat) : Int)), .int .i64 (allX bs st ((c : Nat) : Int))] 66 (0, 0)), (g2, .cells (shC (.slice pcS csL.length ccS) (.slice poS osS.length coS) (tlT tl0 ((tn : Nat) : Int))).toArray 32 (0, 0))] (hW12) ?_
         refine lm (v := .pointer (some ⟨g4, 2, none⟩)) rfl rfl ?_
         refine lv (v := .int .i64 (allX bs st ((c : Nat) : Int))) rfl rfl (yb_cell (off := 2) rfl Tw.kr Tw.m0 Try.underlying3 rfl Tw.kr) ?_
         refine lm (v := .pointer (some ⟨g4, 0, none⟩)) rfl rfl ?_
         refine lv (v := .int .i64 (foreX bs st ((c : Nat) : Int))) rfl rfl (yb_cell (off := 0) rfl Tw.kr Tw.m0 Try.underlying3 rfl Tw.kr) ?_
         refine lm (v := .pointer (some ⟨g4, 1, none⟩)) rfl rfl ?_
         refine lv (v := .int .i64 (aftX bs st ((c : Nat) : Int))) rfl rfl (yb_cell (off := 1) rfl Tw.kr Tw.m0 Try.underlying3 rfl Tw.kr) ?_
         refine lp (v := .int .i64 (IntKind.i64.wrap ((foreX bs st ((c : Nat) : Int)) + (aftX bs st ((c : Nat) : Int))))) rfl rfl (run_bin rfl (vx := .int .i64 (foreX bs st ((c : Nat) : Int))) (vy := .int .i64 (aftX bs st ((c : Nat) : Int))) Tw.kr Tw.kr fun w => bw_add (z := (IntKind.i64.wrap ((foreX bs st ((c : Nat) : Int)) + (aftX bs st ((c : Nat) : Int))))) rfl w) ?_
         refine lm (v := .int .i64 wh_) rfl rfl ?_
         refine lp (v := .int .i64 (IntKind.i64.wrap ((IntKind.i64.wrap ((foreX bs st ((c : Nat) : Int)) + (aftX bs st ((c : Nat) : Int)))) + wh_))) rfl rfl (run_bin rfl (vx := .int .i64 (IntKind.i64.wrap ((foreX bs st ((c : Nat) : Int)) + (aftX bs st ((c : Nat) : Int))))) (vy := .int .i64 wh_) Tw.kr Tw.kr fun w => bw_add (z := (IntKind.i64.wrap ((IntKind.i64.wrap ((foreX bs st ((c : Nat) : Int)) + (aftX bs st ((c : Nat) : Int)))) + wh_))) rfl w) ?_
         refine lp (v := .bool (!(decide ((allX bs st ((c : Nat) : Int)) = (IntKind.i64.wrap ((IntKind.i64.wrap ((foreX bs st ((c : Nat) : Int)) + (aftX bs st ((c : Nat) : Int)))) + wh_)))))) rfl rfl (run_bin rfl (vx := (.int .i64 (allX bs st ((c : Nat) : Int)))) (vy := (.int .i64 (IntKind.i64.wrap ((IntKind.i64.wrap ((foreX bs st ((c : Nat) : Int)) + (aftX bs st ((c : Nat) : Int)))) + wh_)))) Tw.kr Tw.kr fun w => bi_neq rfl w) ?_
         refine wpL_done (fun W13 hW13 => ?_)
         change Code.wp ..
         cases hd4 : (decide ((allX bs st ((c : Nat) : Int)) = (IntKind.i64.wrap ((IntKind.i64.wrap ((foreX bs st ((c : Nat) : Int)) + (aftX bs st ((c : Nat) : Int)))) + wh_)))) with
         | false =>
           have h4 : ¬ ((allX bs st ((c : Nat) : Int)) = (IntKind.i64.wrap ((IntKind.i64.wrap ((foreX bs st ((c : Nat) : Int)) + (aftX bs st ((c : Nat) : Int)))) + wh_))) := of_decide_eq_false hd4
           clear hd4
           exact absurd (by have h9 := sum_parts (hsp ((c : Nat) : Int)) (fun x hx => (hhv x hx).1); rw [hwh, List.take_of_length_le Tw.om]; exact h9) h4
         | true =>
           have h4 : (allX bs st ((c : Nat) : Int)) = (IntKind.i64.wrap ((IntKind.i64.wrap ((foreX bs st ((c : Nat) : Int)) + (aftX bs st ((c : Nat) : Int)))) + wh_)) := of_decide_eq_true hd4
           clear hd4
           refine wp_cond_false rfl ?_
           refine wp_skip ?_
           change Code.wp ..
           refine wp_seq ?_
           refine wp_region_L (W0 := WB) [(g4, .cells #[.int .i64 (foreX bs st ((c : Nat) : Int)), .int .i64 (aftX bs st ((c : Nat) : Int)), .int .i64 (allX bs st ((c : Nat) : Int))] 66 (0, 0)), (g2, .cells (shC (.slice pcS csL.length ccS) (.slice poS osS.length coS) (tlT tl0 ((tn : Nat) : Int))).toArray 32 (0, 0))] (hW13) ?_
           refine lm (v := .int .i64 tt) rfl rfl ?_
           refine lm (v := .pointer (some ⟨g4, 2, none⟩)) rfl rfl ?_
           refine lv (v := .int .i64 (allX bs st ((c : Nat) : Int))) rfl rfl (yb_cell (off := 2) rfl Tw.kr Tw.m0 Try.underlying3 rfl Tw.kr) ?_
           refine lp (v := .int .i64 (IntKind.i64.wrap (tt + (allX bs st ((c : Nat) : Int))))) rfl rfl (run_bin rfl (vx := .int .i64 tt) (vy := .int .i64 (allX bs st ((c : Nat) : Int))) Tw.kr Tw.kr fun w => bw_add (z := (IntKind.i64.wrap (tt + (allX bs st ((c : Nat) : Int))))) rfl w) ?_
           refine lm (v := .int .i64 (IntKind.i64.wrap (tt + (allX bs st ((c : Nat) : Int))))) rfl rfl ?_
           refine wpL_done (fun W14 hW14 => ?_)
           change Code.wp ..
           refine wp_seq ?_
           refine wp_region_L (W0 := WB) [(g4, .cells #[.int .i64 (foreX bs st ((c : Nat) : Int)), .int .i64 (aftX bs st ((c : Nat) : Int)), .int .i64 (allX bs st ((c : Nat) : Int))] 66 (0, 0)), (g2, .cells (shC (.slice pcS csL.length ccS) (.slice poS osS.length coS) (tlT tl0 ((tn : Nat) : Int))).toArray 32 (0, 0))] (hW14) ?_
           refine lm (v := .int .i64 0) rfl rfl ?_
           refine wpL_done (fun W15 hW15 => ?_)
           change Code.wp ..
           refine wp_seq ?_
           refine wp_seq ?_
           refine wp_region_L (W0 := WB) [(g4, .cells #[.int .i64 (foreX bs st ((c : Nat) : Int)), .int .i64 (aftX bs st ((c : Nat) : Int)), .int .i64 (allX bs st ((c : Nat) : Int))] 66 (0, 0)), (g2, .cells (shC (.slice pcS csL.length ccS) (.slice poS osS.length coS) (tlT tl0 ((tn : Nat) : Int))).toArray 32 (0, 0))] (hW15) ?_
           refine lv (v := .agg (shC (.slice pcS csL.length ccS) (.slice poS osS.length coS) (tlT tl0 ((tn : Nat) : Int))).toArray) rfl rfl (yb_load (n := 13) (off := 0) rfl Tw.kr Tw.m1 Try.underlying32 rfl Tw.kr (by first | (simp [Value.cells]; done) | exact Nat.le_of_ble_eq_true rfl) Tw.kr) ?_
           refine lm (v := .slice pB bs.length cB) rfl rfl ?_
           refine lm (v := .slice pS st.length cS) rfl rfl ?_
           refine lm (v := .int .i64 ((c : Nat) : Int)) rfl rfl ?_
           refine wpL_c (f := 15) (args := #[.agg (shC (.slice pcS csL.length ccS) (.slice poS osS.length coS) (tlT tl0 ((tn : Nat) : Int))).toArray, .slice pB bs.length cB, .slice pS st.length cS, .int .i64 ((c : Nat) : Int)]) (OutRL ftC WB [(g4, .cells #[.int .i64 (foreX bs st ((c : Nat) : Int)), .int .i64 (aftX bs st ((c : Nat) : Int)), .int .i64 (allX bs st ((c : Nat) : Int))] 66 (0, 0)), (g2, .cells (shC (.slice pcS csL.length ccS) (.slice poS osS.length coS) (tlT tl0 ((tn : Nat) : Int))).toArray 32 (0, 0))] (faultsX csL bs st ((tn : Nat) : Int) ((c : Nat) : Int))) rfl Tw.kr Tw.kf (fun W hW => calls_r hW (Faults_any csL pcS ccS Tw.om poS osS.length coS tl0 ((tn : Nat) : Int) bs pB cB Tw.om st pS cS Tw.om ((c : Nat) : Int) W ((RL.base HCS.out) _ (hW.sub (fun _ h => by cases h))) ((RL.base HBS.out) _ (hW.sub (fun _ h => by cases h))) ((RL.base HSS.out) _ (hW.sub (fun _ h => by cases h))) tl0_one)) Tw.pf ?_
           rintro _ _ ⟨p7, c7, Kl7, rfl, n7, R7, N7, rfl⟩
           obtain ⟨dj8_0, dj8_1⟩ : Dk g4 Kl7 ∧ Dk g2 Kl7 := Tw.djf N7
           refine lp (v := .int .i64 ((((faultsX csL bs st ((tn : Nat) : Int) ((c : Nat) : Int)).length) : Nat) : Int)) rfl rfl (run_lenL (p := p7) (cap := c7) (n := (faultsX csL bs st ((tn : Nat) : Int) ((c : Nat) : Int)).length) rfl Try.underlying58 Tw.kr) ?_
           refine lm (v := .int .i64 0) rfl rfl ?_
           refine wpL_done (fun W16 hW16 => ?_)
           change Code.wp ..
           refine wp_block ?_
           obtain ⟨fx, hfx⟩ : ∃ x, (faultsX csL bs st ((tn : Nat) : Int) ((c : Nat) : Int)) = x := ⟨_, rfl⟩
           have hfl : fx.length ≤ 12 := by rw [← hfx]; exact Nat.le_trans (faults_len _ _ _ _ _) Tw.om
           have hfe : (faultsX csL bs st ((tn : Nat) : Int) ((c : Nat) : Int)).length = fx.length := by rw [hfx]
           have hRF : RL ftC WB p7 fx Kl7 := by rw [← hfx]; exact R7
           go_loopw [103, 21] (fun u103 u21 wr => ∃ (j nn : Nat), (j ≤ fx.length) ∧ (nn = nkX (fx.take j)) ∧ (nn ≤ 8 * j) ∧ u103 = .int .i64 ((j : Nat) : Int) ∧ u21 = .int .i64 ((nn : Nat) : Int) ∧ KS WB ((g4, .cells #[.int .i64 (foreX bs st ((c : Nat) : Int)), .int .i64 (aftX bs st ((c : Nat) : Int)), .int .i64 (allX bs st ((c : Nat) : Int))] 66 (0, 0)) :: (g2, .cells (shC (.slice pcS csL.length ccS) (.slice poS osS.length coS) (tlT tl0 ((tn : Nat) : Int))).toArray 32 (0, 0)) :: Kl7) wr) (fun u103 _ _ => fx.length - (intOf u103).toNat)
           case atStart => exact ⟨0, 0, (Nat.zero_le _), rfl, Tw.om, rfl, rfl, (hW16.sub (fun p hp => by first | exact hp | (simp only [List.mem_cons, List.mem_append, List.nil_append, List.not_mem_nil, or_assoc, or_false, false_or] at hp ⊢ <;> grind)))⟩
           case round =>
             obtain ⟨j, nn, hj, hnn, hnb, rfl, rfl, hL17⟩ := hrel
             refine wp_seq ?_
             refine wp_region_L (W0 := WB) ((g4, .cells #[.int .i64 (foreX bs st ((c : Nat) : Int)), .int .i64 (aftX bs st ((c : Nat) : Int)), .int .i64 (allX bs st ((c : Nat) : Int))] 66 (0, 0)) :: (g2, .cells (shC (.slice pcS csL.length ccS) (.slice poS osS.length coS) (tlT tl0 ((tn : Nat) : Int))).toArray 32 (0, 0)) :: Kl7) (hL17) ?_
             refine lp (v := .bool (decide (j < ((faultsX csL bs st ((tn : Nat) : Int) ((c : Nat) : Int)).length)))) rfl rfl (run_bin rfl (vx := (.int .i64 ((j : Nat) : Int))) (vy := (.int .i64 ((((faultsX csL bs st ((tn : Nat) : Int) ((c : Nat) : Int)).length) : Nat) : Int))) Tw.kr Tw.kr fun w => bn_lss rfl w) ?_
             refine wpL_done (fun W18 hW18 => ?_)
             change Code.wp ..
             refine wp_seq ?_
             cases hd5 : (decide (j < ((faultsX csL bs st ((tn : Nat) : Int) ((c : Nat) : Int)).length))) with
             | false =>
               have h5 : ¬ (j < ((faultsX csL bs st ((tn : Nat) : Int) ((c : Nat) : Int)).length)) := of_decide_eq_false hd5
               clear hd5
               refine wp_cond_false rfl ?_
               refine wp_exit ?_
               change Code.wp ..
               refine wp_seq ?_
               refine wp_region_L (W0 := WB) ((g4, .cells #[.int .i64 (foreX bs st ((c : Nat) : Int)), .int .i64 (aftX bs st ((c : Nat) : Int)), .int .i64 (allX bs st ((c : Nat) : Int))] 66 (0, 0)) :: (g2, .cells (shC (.slice pcS csL.length ccS) (.slice poS osS.length coS) (tlT tl0 ((tn : Nat) : Int))).toArray 32 (0, 0)) :: Kl7) (hW18) ?_
               refine lm (v := .int .i64 0) rfl rfl ?_
               refine wpL_done (fun W19 hW19 => ?_)
               change Code.wp ..
               refine wp_seq ?_
               refine wp_seq ?_
               refine wp_region_V (W0 := WB) ((g4, .cells #[.int .i64 (foreX bs st ((c : Nat) : Int)), .int .i64 (aftX bs st ((c : Nat) : Int)), .int .i64 (allX bs st ((c : Nat) : Int))] 66 (0, 0)) :: (g2, .cells (shC (.slice pcS csL.length ccS) (.slice poS osS.length coS) (tlT tl0 ((tn : Nat) : Int))).toArray 32 (0, 0)) :: Kl7) Tw.kr (hW19) ?_
               refine vm (i := 0) (v := .pointer (some ⟨g4, 0, none⟩)) rfl rfl rfl ?_
               refine vv (i := 1) (v := .int .i64 (foreX bs st ((c : Nat) : Int))) rfl rfl rfl (yb_cell (off := 0) rfl Tw.kr Tw.m0 Try.underlying3 rfl Tw.kr) ?_
               refine vm (i := 2) (v := .pointer (some ⟨g2, 0, none⟩)) rfl rfl rfl ?_
               refine vv (i := 3) (v := .slice pcS csL.length ccS) rfl rfl rfl (yb_cell (off := 0) rfl Tw.kr Tw.m1 Try.underlying22 rfl Tw.kr) ?_
               refine vm (i := 4) (v := .int .i64 ((c : Nat) : Int)) rfl rfl rfl ?_
               obtain ⟨y10, g10_, f10_, hy10, hp10, hc10⟩ := RL.at (RL.base HCS.out) colC_len (by decide) (hW19.sub (fun _ h => by cases h)) (k := c) Tw.om
               refine vp (i := 5) (v := .pointer (some ⟨g10_, f10_ + c * 12, none⟩)) rfl rfl rfl (run_idxQ (p := pcS) (cap := ccS) (n := csL.length) (j := .i64) (k := c) (sz := 12) rfl Try.underlying22 Tw.kr Tw.kr hp10 Tw.kr Tw.om) ?_
               refine vm (i := 6) (v := .pointer (some ⟨g10_, f10_ + c * 12 + 5, none⟩)) rfl rfl rfl ?_
               refine vb (i := 7) (v := .int .i64 y10.k20) rfl rfl rfl (yb_rf (v := .int .i64 y10.k20) rfl Tw.kr (fun W hW => hc10 W (hW.sub (fun _ h => by cases h)) 5 _ rfl) Try.underlying3 rfl) ?_
               refine vp (i := 8) (v := .bool (decide (y10.k20 < (foreX bs st ((c : Nat) : Int))))) rfl rfl rfl (run_bin rfl (vx := (.int .i64 (foreX bs st ((c : Nat) : Int)))) (vy := (.int .i64 y10.k20)) Tw.kr Tw.kr fun w => bi_gtr rfl w) ?_
               refine vm (i := 9) (v := .pointer (some ⟨g4, 1, none⟩)) rfl rfl rfl ?_
               refine vv (i := 10) (v := .int .i64 (aftX bs st ((c : Nat) : Int))) rfl rfl rfl (yb_cell (off := 1) rfl Tw.kr Tw.m0 Try.underlying3 rfl Tw.kr) ?_
               refine vm (i := 11) (v := .pointer (some ⟨g2, 0, none⟩)) rfl rfl rfl ?_
               refine vv (i := 12) (v := .slice pcS csL.length ccS) rfl rfl rfl (yb_cell (off := 0) rfl Tw.kr Tw.m1 Try.underlying22 rfl Tw.kr) ?_
               refine vm (i := 13) (v := .int .i64 ((c : Nat) : Int)) rfl rfl rfl ?_
               refine vp (i := 14) (v := .pointer (some ⟨g10_, f10_ + c * 12, none⟩)) rfl rfl rfl (run_idxQ (p := pcS) (cap := ccS) (n := csL.length) (j := .i64) (k := c) (sz := 12) rfl Try.underlying22 Tw.kr Tw.kr hp10 Tw.kr Tw.om) ?_
               refine vm (i := 15) (v := .pointer (some ⟨g10_, f10_ + c * 12 + 5, none⟩)) rfl rfl rfl ?_
               refine vb (i := 16) (v := .int .i64 y10.k20) rfl rfl rfl (yb_rf (v := .int .i64 y10.k20) rfl Tw.kr (fun W hW => hc10 W (hW.sub (fun _ h => by cases h)) 5 _ rfl) Try.underlying3 rfl) ?_
               refine vp (i := 17) (v := .bool (decide (y10.k20 < (aftX bs st ((c : Nat) : Int))))) rfl rfl rfl (run_bin rfl (vx := (.int .i64 (aftX bs st ((c : Nat) : Int)))) (vy := (.int .i64 y10.k20)) Tw.kr Tw.kr fun w => bi_gtr rfl w) ?_
               refine vm (i := 18) (v := .pointer (some ⟨g4, 2, none⟩)) rfl rfl rfl ?_
               refine vv (i := 19) (v := .int .i64 (allX bs st ((c : Nat) : Int))) rfl rfl rfl (yb_cell (off := 2) rfl Tw.kr Tw.m0 Try.underlying3 rfl Tw.kr) ?_
               refine vm (i := 20) (v := .pointer (some ⟨g2, 0, none⟩)) rfl rfl rfl ?_
               refine vv (i := 21) (v := .slice pcS csL.length ccS) rfl rfl rfl (yb_cell (off := 0) rfl Tw.kr Tw.m1 Try.underlying22 rfl Tw.kr) ?_
               refine vm (i := 22) (v := .int .i64 ((c : Nat) : Int)) rfl rfl rfl ?_
               refine vp (i := 23) (v := .pointer (some ⟨g10_, f10_ + c * 12, none⟩)) rfl rfl rfl (run_idxQ (p := pcS) (cap := ccS) (n := csL.length) (j := .i64) (k := c) (sz := 12) rfl Try.underlying22 Tw.kr Tw.kr hp10 Tw.kr Tw.om) ?_
               refine vm (i := 24) (v := .pointer (some ⟨g10_, f10_ + c * 12 + 6, none⟩)) rfl rfl rfl ?_
               refine vb (i := 25) (v := .int .i64 y10.k40) rfl rfl rfl (yb_rf (v := .int .i64 y10.k40) rfl Tw.kr (fun W hW => hc10 W (hW.sub (fun _ h => by cases h)) 6 _ rfl) Try.underlying3 rfl) ?_
               refine vp (i := 26) (v := .bool (decide (y10.k40 < (allX bs st ((c : Nat) : Int))))) rfl rfl rfl (run_bin rfl (vx := (.int .i64 (allX bs st ((c : Nat) : Int)))) (vy := (.int .i64 y10.k40)) Tw.kr Tw.kr fun w => bi_gtr rfl w) ?_
               refine vm (i := 29) (v := .int .i64 0) rfl rfl rfl ?_
               refine wpV_ns (fun g => .slice (some ⟨g, 0, none⟩) 4 4) (i := 27) (obi := .cells #[.bool false, .bool (decide (y10.k20 < (foreX bs st ((c : Nat) : Int)))), .bool (decide (y10.k20 < (aftX bs st ((c : Nat) : Int)))), .bool (decide (y10.k40 < (allX bs st ((c : Nat) : Int))))] 4 (0, 0)) rfl rfl rfl Tw.kr Tw.kf Tw.pf fun g11 Bg11 Fg11 => ?_
               obtain ⟨dj12_0, dj12_1, dj12_2⟩ : g4 ≠ g11 ∧ g2 ≠ g11 ∧ Dk g11 Kl7 := Tw.dkf Fg11
               refine vm (i := 28) (v := .int .i64 4) rfl rfl rfl ?_
               refine wpV_done Tw.kr (fun W20 hW20 => ?_) _
               obtain ⟨b1, hb1⟩ : ∃ b, (decide (y10.k20 < (foreX bs st ((c : Nat) : Int)))) = b := ⟨_, rfl⟩
               obtain ⟨b2, hb2⟩ : ∃ b, (decide (y10.k20 < (aftX bs st ((c : Nat) : Int)))) = b := ⟨_, rfl⟩
               obtain ⟨b3, hb3⟩ : ∃ b, (decide (y10.k40 < (allX bs st ((c : Nat) : Int)))) = b := ⟨_, rfl⟩
               rw [hb1, hb2, hb3]
               rw [hb1, hb2, hb3] at hW20
               change Code.wp ..
               refine wp_block ?_
               have h4 : ([false, b1, b2, b3] : List Bool).length = 4 := rfl
               go_loopw [159, 24] (fun u159 u24 wr => ∃ (q4 wv : Nat), (q4 ≤ 4) ∧ (wv = wantB [false, b1, b2, b3] q4) ∧ (wv ≤ 8 * q4) ∧ u159 = .int .i64 ((q4 : Nat) : Int) ∧ u24 = .int .i64 ((wv : Nat) : Int) ∧ KS WB ((g11, .cells #[.bool false, .bool b1, .bool b2, .bool b3] 4 (0, 0)) :: (g4, .cells #[.int .i64 (foreX bs st ((c : Nat) : Int)), .int .i64 (aftX bs st ((c : Nat) : Int)), .int .i64 (allX bs st ((c : Nat) : Int))] 66 (0, 0)) :: (g2, .cells (shC (.slice pcS csL.length ccS) (.slice poS osS.length coS) (tlT tl0 ((tn : Nat) : Int))).toArray 32 (0, 0)) :: Kl7) wr) (fun u159 _ _ => 4 - (intOf u159).toNat)
               case atStart => exact ⟨0, 0, (Nat.zero_le _), rfl, Tw.om, rfl, rfl, (hW20.sub (fun p hp => by first | exact hp | (simp only [List.mem_cons, List.mem_append, List.nil_append, List.not_mem_nil, or_assoc, or_false, false_or] at hp ⊢ <;> grind)))⟩
               case round =>
                 obtain ⟨q4, wv, hq4, hwv, hwb, rfl, rfl, hL21⟩ := hrel
                 refine wp_seq ?_
                 refine wp_region_L (W0 := WB) ((g11, .cells #[.bool false, .bool b1, .bool b2, .bool b3] 4 (0, 0)) :: (g4, .cells #[.int .i64 (foreX bs st ((c : Nat) : Int)), .int .i64 (aftX bs st ((c : Nat) : Int)), .int .i64 (allX bs st ((c : Nat) : Int))] 66 (0, 0)) :: (g2, .cells (shC (.slice pcS csL.length ccS) (.slice poS osS.length coS) (tlT tl0 ((tn : Nat) : Int))).toArray 32 (0, 0)) :: Kl7) (hL21) ?_
                 refine lp (v := .bool (decide (q4 < 4))) rfl rfl (run_bin rfl (vx := (.int .i64 ((q4 : Nat) : Int))) (vy := (.int .i64 ((4 : Nat) : Int))) Tw.kr Tw.kr fun w => bn_lss rfl w) ?_
                 refine wpL_done (fun W22 hW22 => ?_)
                 change Code.wp ..
                 refine wp_seq ?_
                 cases hd6 : (decide (q4 < 4)) with
                 | false =>
                   have h6 : ¬ (q4 < 4) := of_decide_eq_false hd6
                   clear hd6
                   refine wp_cond_false rfl ?_
                   refine wp_exit ?_
                   change Code.wp ..
                   refine wp_seq ?_
                   refine wp_region_L (W0 := WB) ((g11, .cells #[.bool false, .bool b1, .bool b2, .bool b3] 4 (0, 0)) :: (g4, .cells #[.int .i64 (foreX bs st ((c : Nat) : Int)), .int .i64 (aftX bs st ((c : Nat) : Int)), .int .i64 (allX bs st ((c : Nat) : Int))] 66 (0, 0)) :: (g2, .cells (shC (.slice pcS csL.length ccS) (.slice poS osS.length coS) (tlT tl0 ((tn : Nat) : Int))).toArray 32 (0, 0)) :: Kl7) (hW22) ?_
                   refine lm (v := .int .i64 ((nn : Nat) : Int)) rfl rfl ?_
                   refine lm (v := .int .i64 ((wv : Nat) : Int)) rfl rfl ?_
                   refine lp (v := .bool (!(decide (nn = wv)))) rfl rfl (run_bin rfl (vx := (.int .i64 ((nn : Nat) : Int))) (vy := (.int .i64 ((wv : Nat) : Int))) Tw.kr Tw.kr fun w => bn_neq rfl w) ?_
                   refine wpL_done (fun W23 hW23 => ?_)
                   change Code.wp ..
                   cases hd7 : (decide (nn = wv)) with
                   | false =>
                     have h7 : ¬ (nn = wv) := of_decide_eq_false hd7
                     clear hd7
                     exact absurd (by rw [hnn, List.take_of_length_le Tw.om, ← hfx, nk_fx hy10, hwv, show q4 = 4 from by omega, ← hb1, ← hb2, ← hb3]; exact nk_want _ _ _) h7
                   | true =>
                     have h7 : nn = wv := of_decide_eq_true hd7
                     clear hd7
                     refine wp_cond_false rfl ?_
                     refine wp_skip ?_
                     change Code.wp ..
                     refine wp_region_L (W0 := WB) ((g11, .cells #[.bool false, .bool b1, .bool b2, .bool b3] 4 (0, 0)) :: (g4, .cells #[.int .i64 (foreX bs st ((c : Nat) : Int)), .int .i64 (aftX bs st ((c : Nat) : Int)), .int .i64 (allX bs st ((c : Nat) : Int))] 66 (0, 0)) :: (g2, .cells (shC (.slice pcS csL.length ccS) (.slice poS osS.length coS) (tlT tl0 ((tn : Nat) : Int))).toArray 32 (0, 0)) :: Kl7) (hW23) ?_
                     refine lp (v := .int .i64 (((c + 1) : Nat) : Int)) rfl rfl (run_bin rfl (vx := (.int .i64 ((c : Nat) : Int))) (vy := (.int .i64 ((1 : Nat) : Int))) Tw.kr Tw.kr fun w => bn_add (z := (c + 1)) rfl (wr_i64 Tw.om) w) ?_
                     refine lm (v := .int .i64 (((c + 1) : Nat) : Int)) rfl rfl ?_
                     refine wpL_done (fun W24 hW24 => ?_)
                     go_roundw
                     case rel =>
                       repeat apply Exists.intro
                       exact ⟨⟨c + 1, (IntKind.i64.wrap (tt + (allX bs st ((c : Nat) : Int)))), wn, Tw.om, (show _ = totX bs st (c + 1) by rw [show totX bs st (c + 1) = IntKind.i64.wrap (totX bs st c + allX bs st ((c : Nat) : Int)) from rfl, ← htt]), (by rw [hwn, want_end Tw.om]), rfl, rfl, rfl, (hW24.sub (fun p hp => by first | exact hp | (simp only [List.mem_cons, List.mem_append, List.nil_append, List.not_mem_nil, or_assoc, or_false, false_or] at hp ⊢ <;> grind)))⟩, rfl⟩
                     case measure => (show csL.length - (intOf (.int .i64 (((c + 1) : Nat) : Int))).toNat < csL.length - (intOf (.int .i64 ((c : Nat) : Int))).toNat); simp only [intOf]; omega
                 | true =>
                   have h6 : q4 < 4 := of_decide_eq_true hd6
                   clear hd6
                   refine wp_cond_true rfl ?_
                   refine wp_skip ?_
                   change Code.wp ..
                   refine wp_seq ?_
                   refine wp_block ?_
                   refine wp_seq ?_
                   refine wp_region_L (W0 := WB) ((g11, .cells #[.bool false, .bool b1, .bool b2, .bool b3] 4 (0, 0)) :: (g4, .cells #[.int .i64 (foreX bs st ((c : Nat) : Int)), .int .i64 (aftX bs st ((c : Nat) : Int)), .int .i64 (allX bs st ((c : Nat) : Int))] 66 (0, 0)) :: (g2, .cells (shC (.slice pcS csL.length ccS) (.slice poS osS.length coS) (tlT tl0 ((tn : Nat) : Int))).toArray 32 (0, 0)) :: Kl7) (hW22) ?_
                   refine lm (v := .int .i64 ((q4 : Nat) : Int)) rfl rfl ?_
                   obtain ⟨y14, g14_, f14_, hy14, hp14, hc14⟩ := RL.at (show RL blC WB (some ⟨g11, 0, none⟩) ([false, b1, b2, b3] : List Bool) [(g11, .cells #[.bool false, .bool b1, .bool b2, .bool b3] 4 (0, 0))] from fun W hW => blk_slv (cs := ([false, b1, b2, b3] : List Bool).flatMap blC) hW Tw.m0) blC_len (by decide) (hW22.sub (fun p hp => by cases List.mem_singleton.1 hp; exact Tw.m0)) (k := q4) Tw.om
                   have hp4 := pow_few (show q4 < 4 by omega)
                   refine lp (v := .pointer (some ⟨g14_, f14_ + q4 * 1, none⟩)) rfl rfl (run_idxQ (p := (some ⟨g11, 0, none⟩)) (cap := 4) (n := 4) (j := .i64) (k := q4) (sz := 1) rfl Try.underlying72 Tw.kr Tw.kr hp14 Tw.kr Tw.om) ?_
                   refine lv (v := .bool y14) rfl rfl (yb_rf (v := .bool y14) rfl Tw.kr (fun W hW => hc14 W (hW.sub (fun p hp => by cases List.mem_singleton.1 hp; exact Tw.m0)) 0 _ rfl) Try.underlying4 rfl) ?_
                   refine lm (v := .int .i64 ((q4 : Nat) : Int)) rfl rfl ?_
                   refine lm (v := .bool y14) rfl rfl ?_
                   refine wpL_done (fun W25 hW25 => ?_)
                   change Code.wp ..
                   refine wp_seq ?_
                   refine wp_region_L (W0 := WB) ((g11, .cells #[.bool false, .bool b1, .bool b2, .bool b3] 4 (0, 0)) :: (g4, .cells #[.int .i64 (foreX bs st ((c : Nat) : Int)), .int .i64 (aftX bs st ((c : Nat) : Int)), .int .i64 (allX bs st ((c : Nat) : Int))] 66 (0, 0)) :: (g2, .cells (shC (.slice pcS csL.length ccS) (.slice poS osS.length coS) (tlT tl0 ((tn : Nat) : Int))).toArray 32 (0, 0)) :: Kl7) (hW25) ?_
                   refine lm (v := .bool y14) rfl rfl ?_
                   refine wpL_done (fun W26 hW26 => ?_)
                   change Code.wp ..
                   cases h8 : y14 with
                   | false =>
                     refine wp_cond_false rfl ?_
                     refine wp_skip ?_
                     change Code.wp ..
                     refine wp_region_L (W0 := WB) ((g11, .cells #[.bool false, .bool b1, .bool b2, .bool b3] 4 (0, 0)) :: (g4, .cells #[.int .i64 (foreX bs st ((c : Nat) : Int)), .int .i64 (aftX bs st ((c : Nat) : Int)), .int .i64 (allX bs st ((c : Nat) : Int))] 66 (0, 0)) :: (g2, .cells (shC (.slice pcS csL.length ccS) (.slice poS osS.length coS) (tlT tl0 ((tn : Nat) : Int))).toArray 32 (0, 0)) :: Kl7) (hW26) ?_
                     refine lp (v := .int .i64 (((q4 + 1) : Nat) : Int)) rfl rfl (run_bin rfl (vx := (.int .i64 ((q4 : Nat) : Int))) (vy := (.int .i64 ((1 : Nat) : Int))) Tw.kr Tw.kr fun w => bn_add (z := (q4 + 1)) rfl (wr_i64 Tw.om) w) ?_
                     refine lm (v := .int .i64 (((q4 + 1) : Nat) : Int)) rfl rfl ?_
                     refine wpL_done (fun W27 hW27 => ?_)
                     go_roundw
                     case rel =>
                       repeat apply Exists.intro
                       exact ⟨⟨q4 + 1, wv, Tw.om, (by rw [wantB_no hy14 h8, ← hwv]), Tw.om, rfl, rfl, (hW27.sub (fun p hp => by first | exact hp | (simp only [List.mem_cons, List.mem_append, List.nil_append, List.not_mem_nil, or_assoc, or_false, false_or] at hp ⊢ <;> grind)))⟩, rfl⟩
                     case measure => (show 4 - (intOf (.int .i64 (((q4 + 1) : Nat) : Int))).toNat < 4 - (intOf (.int .i64 ((q4 : Nat) : Int))).toNat); simp only [intOf]; omega
                   | true =>
                     refine wp_cond_true rfl ?_
                     refine wp_region_L (W0 := WB) ((g11, .cells #[.bool false, .bool b1, .bool b2, .bool b3] 4 (0, 0)) :: (g4, .cells #[.int .i64 (foreX bs st ((c : Nat) : Int)), .int .i64 (aftX bs st ((c : Nat) : Int)), .int .i64 (allX bs st ((c : Nat) : Int))] 66 (0, 0)) :: (g2, .cells (shC (.slice pcS csL.length ccS) (.slice poS osS.length coS) (tlT tl0 ((tn : Nat) : Int))).toArray 32 (0, 0)) :: Kl7) (hW26) ?_
                     refine lm (v := .int .i64 ((wv : Nat) : Int)) rfl rfl ?_
                     refine lm (v := .int .i64 ((q4 : Nat) : Int)) rfl rfl ?_
                     refine lp (v := .int .i64 (((1 * 2 ^ q4) : Nat) : Int)) rfl rfl (run_bin rfl (vx := (.int .i64 ((1 : Nat) : Int))) (vy := (.int .i64 ((q4 : Nat) : Int))) Tw.kr Tw.kr fun w => bn_shl (z := (1 * 2 ^ q4)) rfl (by first | omega | decide | (simp only [IntKind.bits]; omega)) (wr_i64 Tw.om) w) ?_
                     refine lp (v := .int .i64 (((wv + (1 * 2 ^ q4)) : Nat) : Int)) rfl rfl (run_bin rfl (vx := (.int .i64 ((wv : Nat) : Int))) (vy := (.int .i64 (((1 * 2 ^ q4) : Nat) : Int))) Tw.kr Tw.kr fun w => bn_add (z := (wv + (1 * 2 ^ q4))) rfl (wr_i64 Tw.om) w) ?_
                     refine lm (v := .int .i64 (((wv + (1 * 2 ^ q4)) : Nat) : Int)) rfl rfl ?_
                     refine wpL_done (fun W28 hW28 => ?_)
                     change Code.wp ..
                     refine wp_region_L (W0 := WB) ((g11, .cells #[.bool false, .bool b1, .bool b2, .bool b3] 4 (0, 0)) :: (g4, .cells #[.int .i64 (foreX bs st ((c : Nat) : Int)), .int .i64 (aftX bs st ((c : Nat) : Int)), .int .i64 (allX bs st ((c : Nat) : Int))] 66 (0, 0)) :: (g2, .cells (shC (.slice pcS csL.length ccS) (.slice poS osS.length coS) (tlT tl0 ((tn : Nat) : Int))).toArray 32 (0, 0)) :: Kl7) (hW28) ?_
                     refine lp (v := .int .i64 (((q4 + 1) : Nat) : Int)) rfl rfl (run_bin rfl (vx := (.int .i64 ((q4 : Nat) : Int))) (vy := (.int .i64 ((1 : Nat) : Int))) Tw.kr Tw.kr fun w => bn_add (z := (q4 + 1)) rfl (wr_i64 Tw.om) w) ?_
                     refine lm (v := .int .i64 (((q4 + 1) : Nat) : Int)) rfl rfl ?_
                     refine wpL_done (fun W29 hW29 => ?_)
                     go_roundw
                     case rel =>
                       repeat apply Exists.intro
                       exact ⟨⟨q4 + 1, (wv + (1 * 2 ^ q4)), Tw.om, (by rw [wantB_yes hy14 h8, ← hwv]), Tw.om, rfl, rfl, (hW29.sub (fun p hp => by first | exact hp | (simp only [List.mem_cons, List.mem_append, List.nil_append, List.not_mem_nil, or_assoc, or_false, false_or] at hp ⊢ <;> grind)))⟩, rfl⟩
                     case measure => (show 4 - (intOf (.int .i64 (((q4 + 1) : Nat) : Int))).toNat < 4 - (intOf (.int .i64 ((q4 : Nat) : Int))).toNat); simp only [intOf]; omega
             | true =>
               have h5 : j < ((faultsX csL bs st ((tn : Nat) : Int) ((c : Nat) : Int)).length) := of_decide_eq_true hd5
               clear hd5
               refine wp_cond_true rfl ?_
               refine wp_skip ?_
               change Code.wp ..
               refine wp_seq ?_
               refine wp_block ?_
               refine wp_seq ?_
               refine wp_region_L (W0 := WB) ((g4, .cells #[.int .i64 (foreX bs st ((c : Nat) : Int)), .int .i64 (aftX bs st ((c : Nat) : Int)), .int .i64 (allX bs st ((c : Nat) : Int))] 66 (0, 0)) :: (g2, .cells (shC (.slice pcS csL.length ccS) (.slice poS osS.length coS) (tlT tl0 ((tn : Nat) : Int))).toArray 32 (0, 0)) :: Kl7) (hW18) ?_
               obtain ⟨y15, g15_, f15_, hy15, hp15, hc15⟩ := RL.at hRF ftC_len (by decide) (hW18.sub (fun p hp => by simp only [List.mem_cons, List.mem_append, List.nil_append, List.not_mem_nil, or_assoc, or_false, false_or, hp, true_or, or_true])) (k := j) Tw.om
               obtain ⟨hfc15, hfk15⟩ := fx_mem (hfx ▸ List.mem_of_getElem? hy15)
               have hpw15 : 1 * 2 ^ y15.kind ≤ 8 ∨ y15.kind = 4 := by rcases hfk15 with h9 | ⟨_, h9, h8⟩; exact .inr h9; exact .inl (by rcases (show y15.kind = 1 ∨ y15.kind = 2 ∨ y15.kind = 3 by omega) with h7 | h7 | h7 <;> rw [h7] <;> decide)
               refine lp (v := .pointer (some ⟨g15_, f15_ + j * 3, none⟩)) rfl rfl (run_idxQ (p := p7) (cap := c7) (n := (faultsX csL bs st ((tn : Nat) : Int) ((c : Nat) : Int)).length) (j := .i64) (k := j) (sz := 3) rfl Try.underlying58 Tw.kr Tw.kr hp15 Tw.kr Tw.om) ?_
               refine lv (v := .agg (ftC y15).toArray) rfl rfl (yb_rs (off := f15_ + j * 3) (cs := ftC y15) rfl Tw.kr (fun W hW => hc15 W (hW.sub (fun p hp => by simp only [List.mem_cons, List.mem_append, List.nil_append, List.not_mem_nil, or_assoc, or_false, false_or, hp, true_or, or_true]))) Try.underlying71 rfl Tw.kr) ?_
               refine wpL_new (fun g => .pointer (some ⟨g, 0, none⟩)) (obi := .cells #[.int .i64 0, .int .u8 0, .int .i64 0] 71 (0, 0)) rfl rfl Tw.kf Tw.pf fun g16 Bg16 Fg16 => ?_
               obtain ⟨dj17_0, dj17_1, dj17_2⟩ : g4 ≠ g16 ∧ g2 ≠ g16 ∧ Dk g16 Kl7 := Tw.dkf Fg16
               refine wpL_s ((g16, .cells (ftC y15).toArray 71 (0, 0)) :: (g4, .cells #[.int .i64 (foreX bs st ((c : Nat) : Int)), .int .i64 (aftX bs st ((c : Nat) : Int)), .int .i64 (allX bs st ((c : Nat) : Int))] 66 (0, 0)) :: (g2, .cells (shC (.slice pcS csL.length ccS) (.slice poS osS.length coS) (tlT tl0 ((tn : Nat) : Int))).toArray 32 (0, 0)) :: Kl7) rfl rfl (st_row (off := 0) (v := .agg (ftC y15).toArray) rfl Tw.kr Tw.kr Tw.m0 Bg16 Tw.kr (by first | (simp [Value.cells]; done) | exact Nat.le_of_ble_eq_true rfl) (fun v hv => ftC_one y15 v hv) Tw.kr (List.forall_mem_cons.2 ⟨.inl rfl, (List.forall_mem_cons.2 ⟨.inr ⟨Tw.m1, Tw.nee⟩, (List.forall_mem_cons.2 ⟨.inr ⟨Tw.m2, Tw.nee⟩, (fun p hp => .inr ⟨(.tail _ (.tail _ (.tail _ hp))), ((show Dk g16 Kl7 from Tw.djt) _ hp)⟩)⟩)⟩)⟩)) ?_
               refine wpL_done (fun W30 hW30 => ?_)
               change Code.wp ..
               refine wp_seq ?_
               refine wp_seq ?_
               refine wp_region_L (W0 := WB) ((g16, .cells (ftC y15).toArray 71 (0, 0)) :: (g4, .cells #[.int .i64 (foreX bs st ((c : Nat) : Int)), .int .i64 (aftX bs st ((c : Nat) : Int)), .int .i64 (allX bs st ((c : Nat) : Int))] 66 (0, 0)) :: (g2, .cells (shC (.slice pcS csL.length ccS) (.slice poS osS.length coS) (tlT tl0 ((tn : Nat) : Int))).toArray 32 (0, 0)) :: Kl7) (hW30) ?_
               refine lm (v := .pointer (some ⟨g16, 0, none⟩)) rfl rfl ?_
               refine lv (v := .int .i64 y15.col) rfl rfl (yb_cell (off := 0) rfl Tw.kr Tw.m0 Try.underlying3 rfl Tw.kr) ?_
               refine lm (v := .int .i64 ((c : Nat) : Int)) rfl rfl ?_
               refine lp (v := .bool (!(decide (y15.col = ((c : Nat) : Int))))) rfl rfl (run_bin rfl (vx := (.int .i64 y15.col)) (vy := (.int .i64 ((c : Nat) : Int))) Tw.kr Tw.kr fun w => bi_neq rfl w) ?_
               refine lm (v := .bool (!(decide (y15.col = ((c : Nat) : Int))))) rfl rfl ?_
               cases hd9 : (decide (y15.col = ((c : Nat) : Int))) with
               | false =>
                 have h9 : ¬ (y15.col = ((c : Nat) : Int)) := of_decide_eq_false hd9
                 clear hd9
                 exact absurd hfc15 h9
               | true =>
                 have h9 : y15.col = ((c : Nat) : Int) := of_decide_eq_true hd9
                 clear hd9
                 refine lm (v := .pointer (some ⟨g16, 1, none⟩)) rfl rfl ?_
                 refine lv (v := .int .u8 ((y15.kind : Nat) : Int)) rfl rfl (yb_cell (off := 1) rfl Tw.kr Tw.m0 Try.underlying5 rfl Tw.kr) ?_
                 refine lp (v := .bool (!(decide (y15.kind = 4)))) rfl rfl (run_bin rfl (vx := (.int .u8 ((y15.kind : Nat) : Int))) (vy := (.int .u8 ((4 : Nat) : Int))) Tw.kr Tw.kr fun w => bn_neq rfl w) ?_
                 refine lm (v := .bool (!(decide (y15.kind = 4)))) rfl rfl ?_
                 cases hd10 : (decide (y15.kind = 4)) with
                 | false =>
                   have h10 : ¬ (y15.kind = 4) := of_decide_eq_false hd10
                   clear hd10
                   have hpk15 : 1 * 2 ^ y15.kind ≤ 8 := by omega
                   refine lm (v := .pointer (some ⟨g16, 2, none⟩)) rfl rfl ?_
                   refine lv (v := .int .i64 y15.box) rfl rfl (yb_cell (off := 2) rfl Tw.kr Tw.m0 Try.underlying3 rfl Tw.kr) ?_
                   refine lp (v := .bool (!(decide (y15.box = 0)))) rfl rfl (run_bin rfl (vx := (.int .i64 y15.box)) (vy := (.int .i64 0)) Tw.kr Tw.kr fun w => bi_neq rfl w) ?_
                   refine lm (v := .bool (!(decide (y15.box = 0)))) rfl rfl ?_
                   refine lm (v := .bool (!(decide (y15.box = 0)))) rfl rfl ?_
                   refine wpL_done (fun W31 hW31 => ?_)
                   change Code.wp ..
                   cases hd11 : (decide (y15.box = 0)) with
                   | false =>
                     have h11 : ¬ (y15.box = 0) := of_decide_eq_false hd11
                     clear hd11
                     exact absurd (show y15.box = 0 by omega) h11
                   | true =>
                     have h11 : y15.box = 0 := of_decide_eq_true hd11
                     clear hd11
                     refine wp_cond_false rfl ?_
                     refine wp_skip ?_
                     change Code.wp ..
                     refine wp_seq ?_
                     refine wp_region_L (W0 := WB) ((g16, .cells (ftC y15).toArray 71 (0, 0)) :: (g4, .cells #[.int .i64 (foreX bs st ((c : Nat) : Int)), .int .i64 (aftX bs st ((c : Nat) : Int)), .int .i64 (allX bs st ((c : Nat) : Int))] 66 (0, 0)) :: (g2, .cells (shC (.slice pcS csL.length ccS) (.slice poS osS.length coS) (tlT tl0 ((tn : Nat) : Int))).toArray 32 (0, 0)) :: Kl7) (hW31) ?_
                     refine lm (v := .pointer (some ⟨g16, 1, none⟩)) rfl rfl ?_
                     refine lv (v := .int .u8 ((y15.kind : Nat) : Int)) rfl rfl (yb_cell (off := 1) rfl Tw.kr Tw.m0 Try.underlying5 rfl Tw.kr) ?_
                     refine lp (v := .bool true) rfl rfl (run_bin rfl (vx := (.int .u8 ((y15.kind : Nat) : Int))) (vy := (.int .u8 ((4 : Nat) : Int))) Tw.kr Tw.kr fun w => bn_neq (decide_eq_false (by assumption)) w) ?_
                     refine wpL_done (fun W32 hW32 => ?_)
                     change Code.wp ..
                     refine wp_cond_true rfl ?_
                     refine wp_region_L (W0 := WB) ((g16, .cells (ftC y15).toArray 71 (0, 0)) :: (g4, .cells #[.int .i64 (foreX bs st ((c : Nat) : Int)), .int .i64 (aftX bs st ((c : Nat) : Int)), .int .i64 (allX bs st ((c : Nat) : Int))] 66 (0, 0)) :: (g2, .cells (shC (.slice pcS csL.length ccS) (.slice poS osS.length coS) (tlT tl0 ((tn : Nat) : Int))).toArray 32 (0, 0)) :: Kl7) (hW32) ?_
                     refine lm (v := .int .i64 ((nn : Nat) : Int)) rfl rfl ?_
                     refine lm (v := .pointer (some ⟨g16, 1, none⟩)) rfl rfl ?_
                     refine lv (v := .int .u8 ((y15.kind : Nat) : Int)) rfl rfl (yb_cell (off := 1) rfl Tw.kr Tw.m0 Try.underlying5 rfl Tw.kr) ?_
                     refine lp (v := .int .i64 (((1 * 2 ^ y15.kind) : Nat) : Int)) rfl rfl (run_bin rfl (vx := (.int .i64 ((1 : Nat) : Int))) (vy := (.int .u8 ((y15.kind : Nat) : Int))) Tw.kr Tw.kr fun w => bn_shl (z := (1 * 2 ^ y15.kind)) rfl (by first | omega | decide | (simp only [IntKind.bits]; omega)) (wr_i64 Tw.om) w) ?_
                     refine lp (v := .int .i64 (((nn + (1 * 2 ^ y15.kind)) : Nat) : Int)) rfl rfl (run_bin rfl (vx := (.int .i64 ((nn : Nat) : Int))) (vy := (.int .i64 (((1 * 2 ^ y15.kind) : Nat) : Int))) Tw.kr Tw.kr fun w => bn_add (z := (nn + (1 * 2 ^ y15.kind))) rfl (wr_i64 Tw.om) w) ?_
                     refine lm (v := .int .i64 (((nn + (1 * 2 ^ y15.kind)) : Nat) : Int)) rfl rfl ?_
                     refine wpL_done (fun W33 hW33 => ?_)
                     change Code.wp ..
                     refine wp_region_L (W0 := WB) ((g16, .cells (ftC y15).toArray 71 (0, 0)) :: (g4, .cells #[.int .i64 (foreX bs st ((c : Nat) : Int)), .int .i64 (aftX bs st ((c : Nat) : Int)), .int .i64 (allX bs st ((c : Nat) : Int))] 66 (0, 0)) :: (g2, .cells (shC (.slice pcS csL.length ccS) (.slice poS osS.length coS) (tlT tl0 ((tn : Nat) : Int))).toArray 32 (0, 0)) :: Kl7) (hW33) ?_
                     refine lp (v := .int .i64 (((j + 1) : Nat) : Int)) rfl rfl (run_bin rfl (vx := (.int .i64 ((j : Nat) : Int))) (vy := (.int .i64 ((1 : Nat) : Int))) Tw.kr Tw.kr fun w => bn_add (z := (j + 1)) rfl (wr_i64 Tw.om) w) ?_
                     refine lm (v := .int .i64 (((j + 1) : Nat) : Int)) rfl rfl ?_
                     refine wpL_done (fun W34 hW34 => ?_)
                     go_roundw
                     case rel =>
                       repeat apply Exists.intro
                       exact ⟨⟨j + 1, (nn + (1 * 2 ^ y15.kind)), Tw.om, (by rw [nk_take hy15, ← hnn]; unfold nk1; rw [if_neg h10] <;> rfl), Tw.om, rfl, rfl, (hW34.sub (fun p hp => by first | exact hp | (simp only [List.mem_cons, List.mem_append, List.nil_append, List.not_mem_nil, or_assoc, or_false, false_or] at hp ⊢ <;> grind)))⟩, rfl⟩
                     case measure => (show fx.length - (intOf (.int .i64 (((j + 1) : Nat) : Int))).toNat < fx.length - (intOf (.int .i64 ((j : Nat) : Int))).toNat); simp only [intOf]; omega
                 | true =>
                   have h10 : y15.kind = 4 := of_decide_eq_true hd10
                   clear hd10
                   refine ln rfl ?_
                   refine ln rfl ?_
                   refine ln rfl ?_
                   refine lm (v := .bool false) rfl rfl ?_
                   refine lm (v := .bool false) rfl rfl ?_
                   refine wpL_done (fun W35 hW35 => ?_)
                   change Code.wp ..
                   refine wp_cond_false rfl ?_
                   refine wp_skip ?_
                   change Code.wp ..
                   refine wp_seq ?_
                   refine wp_region_L (W0 := WB) ((g16, .cells (ftC y15).toArray 71 (0, 0)) :: (g4, .cells #[.int .i64 (foreX bs st ((c : Nat) : Int)), .int .i64 (aftX bs st ((c : Nat) : Int)), .int .i64 (allX bs st ((c : Nat) : Int))] 66 (0, 0)) :: (g2, .cells (shC (.slice pcS csL.length ccS) (.slice poS osS.length coS) (tlT tl0 ((tn : Nat) : Int))).toArray 32 (0, 0)) :: Kl7) (hW35) ?_
                   refine lm (v := .pointer (some ⟨g16, 1, none⟩)) rfl rfl ?_
                   refine lv (v := .int .u8 ((y15.kind : Nat) : Int)) rfl rfl (yb_cell (off := 1) rfl Tw.kr Tw.m0 Try.underlying5 rfl Tw.kr) ?_
                   refine lp (v := .bool false) rfl rfl (run_bin rfl (vx := (.int .u8 ((y15.kind : Nat) : Int))) (vy := (.int .u8 ((4 : Nat) : Int))) Tw.kr Tw.kr fun w => bn_neq (decide_eq_true (by assumption)) w) ?_
                   refine wpL_done (fun W36 hW36 => ?_)
                   change Code.wp ..
                   refine wp_cond_false rfl ?_
                   refine wp_skip ?_
                   change Code.wp ..
                   refine wp_region_L (W0 := WB) ((g16, .cells (ftC y15).toArray 71 (0, 0)) :: (g4, .cells #[.int .i64 (foreX bs st ((c : Nat) : Int)), .int .i64 (aftX bs st ((c : Nat) : Int)), .int .i64 (allX bs st ((c : Nat) : Int))] 66 (0, 0)) :: (g2, .cells (shC (.slice pcS csL.length ccS) (.slice poS osS.length coS) (tlT tl0 ((tn : Nat) : Int))).toArray 32 (0, 0)) :: Kl7) (hW36) ?_
                   refine lp (v := .int .i64 (((j + 1) : Nat) : Int)) rfl rfl (run_bin rfl (vx := (.int .i64 ((j : Nat) : Int))) (vy := (.int .i64 ((1 : Nat) : Int))) Tw.kr Tw.kr fun w => bn_add (z := (j + 1)) rfl (wr_i64 Tw.om) w) ?_
                   refine lm (v := .int .i64 (((j + 1) : Nat) : Int)) rfl rfl ?_
                   refine wpL_done (fun W37 hW37 => ?_)
                   go_roundw
                   case rel =>
                     repeat apply Exists.intro
                     exact ⟨⟨j + 1, nn, Tw.om, (by rw [nk_take hy15, ← hnn]; unfold nk1; rw [if_pos h10] <;> rfl), Tw.om, rfl, rfl, (hW37.sub (fun p hp => by first | exact hp | (simp only [List.mem_cons, List.mem_append, List.nil_append, List.not_mem_nil, or_assoc, or_false, false_or] at hp ⊢ <;> grind)))⟩, rfl⟩
                   case measure => (show fx.length - (intOf (.int .i64 (((j + 1) : Nat) : Int))).toNat < fx.length - (intOf (.int .i64 ((j : Nat) : Int))).toNat); simp only [intOf]; omega
       | true =>
         have h3 : i < st.length := of_decide_eq_true hd3
         clear hd3
         refine wp_cond_true rfl ?_
         refine wp_skip ?_
         change Code.wp ..
         refine wp_seq ?_
         refine wp_block ?_
         refine wp_seq ?_
         refine wp_region_L (W0 := WB) [(g4, .cells #[.int .i64 (foreX bs st ((c : Nat) : Int)), .int .i64 (aftX bs st ((c : Nat) : Int)), .int .i64 (allX bs st ((c : Nat) : Int))] 66 (0, 0)), (g2, .cells (shC (.slice pcS csL.length ccS) (.slice poS osS.length coS) (tlT tl0 ((tn : Nat) : Int))).toArray 32 (0, 0))] (hW12) ?_
         obtain ⟨y18, g18_, f18_, hy18, hp18, hc18⟩ := RL.at (RL.base HSS.out) sdC_len (by decide) (hW12.sub (fun _ h => by cases h)) (k := i) Tw.om
         refine lp (v := .pointer (some ⟨g18_, f18_ + i * 4, none⟩)) rfl rfl (run_idxQ (p := pS) (cap := cS) (n := st.length) (j := .i64) (k := i) (sz := 4) rfl Try.underlying38 Tw.kr Tw.kr hp18 Tw.kr Tw.om) ?_
         refine lv (v := .agg (sdC y18).toArray) rfl rfl (yb_rs (off := f18_ + i * 4) (cs := sdC y18) rfl Tw.kr (fun W hW => hc18 W (hW.sub (fun _ h => by cases h))) Try.underlying42 rfl Tw.kr) ?_
         refine wpL_new (fun g => .pointer (some ⟨g, 0, none⟩)) (obi := .cells #[.int .i64 0, .int .i64 0, .int .i64 0, .int .u8 0] 42 (0, 0)) rfl rfl Tw.kf Tw.pf fun g19 Bg19 Fg19 => ?_
         obtain ⟨dj20_0, dj20_1⟩ : g4 ≠ g19 ∧ g2 ≠ g19 := Tw.dkf Fg19
         refine wpL_s [(g19, .cells (sdC y18).toArray 42 (0, 0)), (g4, .cells #[.int .i64 (foreX bs st ((c : Nat) : Int)), .int .i64 (aftX bs st ((c : Nat) : Int)), .int .i64 (allX bs st ((c : Nat) : Int))] 66 (0, 0)), (g2, .cells (shC (.slice pcS csL.length ccS) (.slice poS osS.length coS) (tlT tl0 ((tn : Nat) : Int))).toArray 32 (0, 0))] rfl rfl (st_row (off := 0) (v := .agg (sdC y18).toArray) rfl Tw.kr Tw.kr Tw.m0 Bg19 Tw.kr (by first | (simp [Value.cells]; done) | exact Nat.le_of_ble_eq_true rfl) (fun v hv => sdC_one y18 v hv) Tw.kr (List.forall_mem_cons.2 ⟨.inl rfl, (List.forall_mem_cons.2 ⟨.inr ⟨Tw.m1, Tw.nee⟩, (List.forall_mem_cons.2 ⟨.inr ⟨Tw.m2, Tw.nee⟩, (List.forall_mem_nil _)⟩)⟩)⟩)) ?_
         refine wpL_done (fun W38 hW38 => ?_)
         change Code.wp ..
         refine wp_seq ?_
         refine wp_region_L (W0 := WB) [(g19, .cells (sdC y18).toArray 42 (0, 0)), (g4, .cells #[.int .i64 (foreX bs st ((c : Nat) : Int)), .int .i64 (aftX bs st ((c : Nat) : Int)), .int .i64 (allX bs st ((c : Nat) : Int))] 66 (0, 0)), (g2, .cells (shC (.slice pcS csL.length ccS) (.slice poS osS.length coS) (tlT tl0 ((tn : Nat) : Int))).toArray 32 (0, 0))] (hW38) ?_
         refine lm (v := .slice pB bs.length cB) rfl rfl ?_
         refine lm (v := .pointer (some ⟨g19, 0, none⟩)) rfl rfl ?_
         refine lv (v := .int .i64 y18.box) rfl rfl (yb_cell (off := 0) rfl Tw.kr Tw.m0 Try.underlying3 rfl Tw.kr) ?_
         refine lv (v := .tuple #[.agg (boC (boxOf bs y18.box)).toArray, .bool ((findB bs y18.box).isSome)]) rfl rfl (yb_call (f := 20) (args := #[.slice pB bs.length cB, .int .i64 y18.box]) Tw.kf fun W hW => BFind_any bs pB cB Tw.om y18.box W ((RL.base HBS.out) _ (hW.sub (fun _ h => by cases h)))) ?_
         refine lm (v := .tuple #[.agg (boC (boxOf bs y18.box)).toArray, .bool ((findB bs y18.box).isSome)]) rfl rfl ?_
         refine lm (v := .agg (boC (boxOf bs y18.box)).toArray) rfl rfl ?_
         refine lm (v := .bool ((findB bs y18.box).isSome)) rfl rfl ?_
         refine wpL_new (fun g => .pointer (some ⟨g, 0, none⟩)) (obi := .cells #[.int .i64 0, strV [], .int .u8 0, .bool false, .int .i64 0, .int .i64 0, .int .i64 0, .int .u8 0, .bool false] 37 (0, 0)) rfl rfl Tw.kf Tw.pf fun g21 Bg21 Fg21 => ?_
         obtain ⟨dj22_0, dj22_1, dj22_2⟩ : g19 ≠ g21 ∧ g4 ≠ g21 ∧ g2 ≠ g21 := Tw.dkf Fg21
         refine wpL_s [(g21, .cells (boC (boxOf bs y18.box)).toArray 37 (0, 0)), (g19, .cells (sdC y18).toArray 42 (0, 0)), (g4, .cells #[.int .i64 (foreX bs st ((c : Nat) : Int)), .int .i64 (aftX bs st ((c : Nat) : Int)), .int .i64 (allX bs st ((c : Nat) : Int))] 66 (0, 0)), (g2, .cells (shC (.slice pcS csL.length ccS) (.slice poS osS.length coS) (tlT tl0 ((tn : Nat) : Int))).toArray 32 (0, 0))] rfl rfl (st_row (off := 0) (v := .agg (boC (boxOf bs y18.box)).toArray) rfl Tw.kr Tw.kr Tw.m0 Bg21 Tw.kr (by first | (simp [Value.cells]; done) | exact Nat.le_of_ble_eq_true rfl) (fun v hv => boC_one (boxOf bs y18.box) v hv) Tw.kr (List.forall_mem_cons.2 ⟨.inl rfl, (List.forall_mem_cons.2 ⟨.inr ⟨Tw.m1, Tw.nee⟩, (List.forall_mem_cons.2 ⟨.inr ⟨Tw.m2, Tw.nee⟩, (List.forall_mem_cons.2 ⟨.inr ⟨Tw.m3, Tw.nee⟩, (List.forall_mem_nil _)⟩)⟩)⟩)⟩)) ?_
         refine lm (v := .bool ((findB bs y18.box).isSome)) rfl rfl ?_
         refine wpL_done (fun W39 hW39 => ?_)
         change Code.wp ..
         refine wp_seq ?_
         refine wp_seq ?_
         refine wp_region_L (W0 := WB) [(g21, .cells (boC (boxOf bs y18.box)).toArray 37 (0, 0)), (g19, .cells (sdC y18).toArray 42 (0, 0)), (g4, .cells #[.int .i64 (foreX bs st ((c : Nat) : Int)), .int .i64 (aftX bs st ((c : Nat) : Int)), .int .i64 (allX bs st ((c : Nat) : Int))] 66 (0, 0)), (g2, .cells (shC (.slice pcS csL.length ccS) (.slice poS osS.length coS) (tlT tl0 ((tn : Nat) : Int))).toArray 32 (0, 0))] (hW39) ?_
         refine lm (v := .bool ((findB bs y18.box).isSome)) rfl rfl ?_
         refine lp (v := .bool (!((findB bs y18.box).isSome))) rfl rfl (run_un rfl Tw.kr fun w => un_not w) ?_
         refine wpL_done (fun W40 hW40 => ?_)
         change Code.wp ..
         cases h12 : ((findB bs y18.box).isSome) with
         | false =>
           exact absurd ((hhv y18 (List.mem_of_getElem? hy18)).2) (by rw [h12]; decide)
         | true =>
           refine wp_cond_false rfl ?_
           refine wp_skip ?_
           change Code.wp ..
           refine wp_seq ?_
           refine wp_seq ?_
           refine wp_region_L (W0 := WB) [(g21, .cells (boC (boxOf bs y18.box)).toArray 37 (0, 0)), (g19, .cells (sdC y18).toArray 42 (0, 0)), (g4, .cells #[.int .i64 (foreX bs st ((c : Nat) : Int)), .int .i64 (aftX bs st ((c : Nat) : Int)), .int .i64 (allX bs st ((c : Nat) : Int))] 66 (0, 0)), (g2, .cells (shC (.slice pcS csL.length ccS) (.slice poS osS.length coS) (tlT tl0 ((tn : Nat) : Int))).toArray 32 (0, 0))] (hW40) ?_
           refine lm (v := .pointer (some ⟨g19, 1, none⟩)) rfl rfl ?_
           refine lm (v := .pointer (some ⟨g19, 1, none⟩)) rfl rfl ?_
           refine lv (v := .int .i64 y18.slot.col) rfl rfl (yb_cell (off := 1) rfl Tw.kr Tw.m1 Try.underlying3 rfl Tw.kr) ?_
           refine lm (v := .int .i64 ((c : Nat) : Int)) rfl rfl ?_
           refine lp (v := .bool (decide (y18.slot.col = ((c : Nat) : Int)))) rfl rfl (run_bin rfl (vx := (.int .i64 y18.slot.col)) (vy := (.int .i64 ((c : Nat) : Int))) Tw.kr Tw.kr fun w => bi_eql rfl w) ?_
           refine lm (v := .bool (decide (y18.slot.col = ((c : Nat) : Int)))) rfl rfl ?_
           cases hd13 : (decide (y18.slot.col = ((c : Nat) : Int))) with
           | false =>
             have h13 : ¬ (y18.slot.col = ((c : Nat) : Int)) := of_decide_eq_false hd13
             clear hd13
             refine ln rfl ?_
             refine ln rfl ?_
             refine ln rfl ?_
             refine ln rfl ?_
             refine lm (v := .bool false) rfl rfl ?_
             refine wpL_done (fun W41 hW41 => ?_)
             change Code.wp ..
             refine wp_cond_false rfl ?_
             refine wp_skip ?_
             change Code.wp ..
             refine wp_seq ?_
             refine wp_region_L (W0 := WB) [(g21, .cells (boC (boxOf bs y18.box)).toArray 37 (0, 0)), (g19, .cells (sdC y18).toArray 42 (0, 0)), (g4, .cells #[.int .i64 (foreX bs st ((c : Nat) : Int)), .int .i64 (aftX bs st ((c : Nat) : Int)), .int .i64 (allX bs st ((c : Nat) : Int))] 66 (0, 0)), (g2, .cells (shC (.slice pcS csL.length ccS) (.slice poS osS.length coS) (tlT tl0 ((tn : Nat) : Int))).toArray 32 (0, 0))] (hW41) ?_
             refine lm (v := .int .i64 ((c : Nat) : Int)) rfl rfl ?_
             refine lp (v := .bool (decide (c = 0))) rfl rfl (run_bin rfl (vx := (.int .i64 ((c : Nat) : Int))) (vy := (.int .i64 ((0 : Nat) : Int))) Tw.kr Tw.kr fun w => bn_eql rfl w) ?_
             refine wpL_done (fun W42 hW42 => ?_)
             change Code.wp ..
             cases hd14 : (decide (c = 0)) with
             | false =>
               have h14 : ¬ (c = 0) := of_decide_eq_false hd14
               clear hd14
               refine wp_cond_false rfl ?_
               refine wp_skip ?_
               change Code.wp ..
               refine wp_region_L (W0 := WB) [(g21, .cells (boC (boxOf bs y18.box)).toArray 37 (0, 0)), (g19, .cells (sdC y18).toArray 42 (0, 0)), (g4, .cells #[.int .i64 (foreX bs st ((c : Nat) : Int)), .int .i64 (aftX bs st ((c : Nat) : Int)), .int .i64 (allX bs st ((c : Nat) : Int))] 66 (0, 0)), (g2, .cells (shC (.slice pcS csL.length ccS) (.slice poS osS.length coS) (tlT tl0 ((tn : Nat) : Int))).toArray 32 (0, 0))] (hW42) ?_
               refine lp (v := .int .i64 (((i + 1) : Nat) : Int)) rfl rfl (run_bin rfl (vx := (.int .i64 ((i : Nat) : Int))) (vy := (.int .i64 ((1 : Nat) : Int))) Tw.kr Tw.kr fun w => bn_add (z := (i + 1)) rfl (wr_i64 Tw.om) w) ?_
               refine lm (v := .int .i64 (((i + 1) : Nat) : Int)) rfl rfl ?_
               refine wpL_done (fun W43 hW43 => ?_)
               go_roundw
               case rel =>
                 repeat apply Exists.intro
                 exact ⟨⟨i + 1, wh_, wn, Tw.om, (by rw [whol_no1 hy18 h13, ← hwh]), (by rw [want_no h14, ← hwn]), rfl, rfl, rfl, (hW43.sub (fun p hp => by first | exact hp | (simp only [List.mem_cons, List.mem_append, List.nil_append, List.not_mem_nil, or_assoc, or_false, false_or] at hp ⊢ <;> grind)))⟩, rfl⟩
               case measure => (show st.length - (intOf (.int .i64 (((i + 1) : Nat) : Int))).toNat < st.length - (intOf (.int .i64 ((i : Nat) : Int))).toNat); simp only [intOf]; omega
             | true =>
               have h14 : c = 0 := of_decide_eq_true hd14
               clear hd14
               refine wp_cond_true rfl ?_
               refine wp_region_L (W0 := WB) [(g21, .cells (boC (boxOf bs y18.box)).toArray 37 (0, 0)), (g19, .cells (sdC y18).toArray 42 (0, 0)), (g4, .cells #[.int .i64 (foreX bs st ((c : Nat) : Int)), .int .i64 (aftX bs st ((c : Nat) : Int)), .int .i64 (allX bs st ((c : Nat) : Int))] 66 (0, 0)), (g2, .cells (shC (.slice pcS csL.length ccS) (.slice poS osS.length coS) (tlT tl0 ((tn : Nat) : Int))).toArray 32 (0, 0))] (hW42) ?_
               refine lm (v := .int .i64 wn) rfl rfl ?_
               refine lm (v := .pointer (some ⟨g21, 4, none⟩)) rfl rfl ?_
               refine lv (v := .int .i64 ((boxOf bs y18.box).kilos)) rfl rfl (yb_cell (off := 4) rfl Tw.kr Tw.m0 Try.underlying3 rfl Tw.kr) ?_
               refine lp (v := .int .i64 (IntKind.i64.wrap (wn + ((boxOf bs y18.box).kilos)))) rfl rfl (run_bin rfl (vx := .int .i64 wn) (vy := .int .i64 ((boxOf bs y18.box).kilos)) Tw.kr Tw.kr fun w => bw_add (z := (IntKind.i64.wrap (wn + ((boxOf bs y18.box).kilos)))) rfl w) ?_
               refine lm (v := .int .i64 (IntKind.i64.wrap (wn + ((boxOf bs y18.box).kilos)))) rfl rfl ?_
               refine wpL_done (fun W44 hW44 => ?_)
               change Code.wp ..
               refine wp_region_L (W0 := WB) [(g21, .cells (boC (boxOf bs y18.box)).toArray 37 (0, 0)), (g19, .cells (sdC y18).toArray 42 (0, 0)), (g4, .cells #[.int .i64 (foreX bs st ((c : Nat) : Int)), .int .i64 (aftX bs st ((c : Nat) : Int)), .int .i64 (allX bs st ((c : Nat) : Int))] 66 (0, 0)), (g2, .cells (shC (.slice pcS csL.length ccS) (.slice poS osS.length coS) (tlT tl0 ((tn : Nat) : Int))).toArray 32 (0, 0))] (hW44) ?_
               refine lp (v := .int .i64 (((i + 1) : Nat) : Int)) rfl rfl (run_bin rfl (vx := (.int .i64 ((i : Nat) : Int))) (vy := (.int .i64 ((1 : Nat) : Int))) Tw.kr Tw.kr fun w => bn_add (z := (i + 1)) rfl (wr_i64 Tw.om) w) ?_
               refine lm (v := .int .i64 (((i + 1) : Nat) : Int)) rfl rfl ?_
               refine wpL_done (fun W45 hW45 => ?_)
               go_roundw
               case rel =>
                 repeat apply Exists.intro
                 exact ⟨⟨i + 1, wh_, (IntKind.i64.wrap (wn + ((boxOf bs y18.box).kilos))), Tw.om, (by rw [whol_no1 hy18 h13, ← hwh]), (by rw [want_yes hy18 h14, ← hwn]), rfl, rfl, rfl, (hW45.sub (fun p hp => by first | exact hp | (simp only [List.mem_cons, List.mem_append, List.nil_append, List.not_mem_nil, or_assoc, or_false, false_or] at hp ⊢ <;> grind)))⟩, rfl⟩
               case measure => (show st.length - (intOf (.int .i64 (((i + 1) : Nat) : Int))).toNat < st.length - (intOf (.int .i64 ((i : Nat) : Int))).toNat); simp only [intOf]; omega
           | true =>
             have h13 : y18.slot.col = ((c : Nat) : Int) := of_decide_eq_true hd13
             clear hd13
             refine lm (v := .pointer (some ⟨g19, 1, none⟩)) rfl rfl ?_
             refine lm (v := .pointer (some ⟨g19, 3, none⟩)) rfl rfl ?_
             refine lv (v := .int .u8 ((y18.slot.half : Nat) : Int)) rfl rfl (yb_cell (off := 3) rfl Tw.kr Tw.m1 Try.underlying5 rfl Tw.kr) ?_
             refine lp (v := .bool (decide (y18.slot.half = 0))) rfl rfl (run_bin rfl (vx := (.int .u8 ((y18.slot.half : Nat) : Int))) (vy := (.int .u8 ((0 : Nat) : Int))) Tw.kr Tw.kr fun w => bn_eql rfl w) ?_
             refine lm (v := .bool (decide (y18.slot.half = 0))) rfl rfl ?_
             refine wpL_done (fun W46 hW46 => ?_)
             change Code.wp ..
             cases hd15 : (decide (y18.slot.half = 0)) with
             | false =>
               have h15 : ¬ (y18.slot.half = 0) := of_decide_eq_false hd15
               clear hd15
               refine wp_cond_false rfl ?_
               refine wp_skip ?_
               change Code.wp ..
               refine wp_seq ?_
               refine wp_region_L (W0 := WB) [(g21, .cells (boC (boxOf bs y18.box)).toArray 37 (0, 0)), (g19, .cells (sdC y18).toArray 42 (0, 0)), (g4, .cells #[.int .i64 (foreX bs st ((c : Nat) : Int)), .int .i64 (aftX bs st ((c : Nat) : Int)), .int .i64 (allX bs st ((c : Nat) : Int))] 66 (0, 0)), (g2, .cells (shC (.slice pcS csL.length ccS) (.slice poS osS.length coS) (tlT tl0 ((tn : Nat) : Int))).toArray 32 (0, 0))] (hW46) ?_
               refine lm (v := .int .i64 ((c : Nat) : Int)) rfl rfl ?_
               refine lp (v := .bool (decide (c = 0))) rfl rfl (run_bin rfl (vx := (.int .i64 ((c : Nat) : Int))) (vy := (.int .i64 ((0 : Nat) : Int))) Tw.kr Tw.kr fun w => bn_eql rfl w) ?_
               refine wpL_done (fun W47 hW47 => ?_)
               change Code.wp ..
               cases hd16 : (decide (c = 0)) with
               | false =>
                 have h16 : ¬ (c = 0) := of_decide_eq_false hd16
                 clear hd16
                 refine wp_cond_false rfl ?_
                 refine wp_skip ?_
                 change Code.wp ..
                 refine wp_region_L (W0 := WB) [(g21, .cells (boC (boxOf bs y18.box)).toArray 37 (0, 0)), (g19, .cells (sdC y18).toArray 42 (0, 0)), (g4, .cells #[.int .i64 (foreX bs st ((c : Nat) : Int)), .int .i64 (aftX bs st ((c : Nat) : Int)), .int .i64 (allX bs st ((c : Nat) : Int))] 66 (0, 0)), (g2, .cells (shC (.slice pcS csL.length ccS) (.slice poS osS.length coS) (tlT tl0 ((tn : Nat) : Int))).toArray 32 (0, 0))] (hW47) ?_
                 refine lp (v := .int .i64 (((i + 1) : Nat) : Int)) rfl rfl (run_bin rfl (vx := (.int .i64 ((i : Nat) : Int))) (vy := (.int .i64 ((1 : Nat) : Int))) Tw.kr Tw.kr fun w => bn_add (z := (i + 1)) rfl (wr_i64 Tw.om) w) ?_
                 refine lm (v := .int .i64 (((i + 1) : Nat) : Int)) rfl rfl ?_
                 refine wpL_done (fun W48 hW48 => ?_)
                 go_roundw
                 case rel =>
                   repeat apply Exists.intro
                   exact ⟨⟨i + 1, wh_, wn, Tw.om, (by rw [whol_no2 hy18 h13 h15, ← hwh]), (by rw [want_no h16, ← hwn]), rfl, rfl, rfl, (hW48.sub (fun p hp => by first | exact hp | (simp only [List.mem_cons, List.mem_append, List.nil_append, List.not_mem_nil, or_assoc, or_false, false_or] at hp ⊢ <;> grind)))⟩, rfl⟩
                 case measure => (show st.length - (intOf (.int .i64 (((i + 1) : Nat) : Int))).toNat < st.length - (intOf (.int .i64 ((i : Nat) : Int))).toNat); simp only [intOf]; omega
               | true =>
                 have h16 : c = 0 := of_decide_eq_true hd16
                 clear hd16
                 refine wp_cond_true rfl ?_
                 refine wp_region_L (W0 := WB) [(g21, .cells (boC (boxOf bs y18.box)).toArray 37 (0, 0)), (g19, .cells (sdC y18).toArray 42 (0, 0)), (g4, .cells #[.int .i64 (foreX bs st ((c : Nat) : Int)), .int .i64 (aftX bs st ((c : Nat) : Int)), .int .i64 (allX bs st ((c : Nat) : Int))] 66 (0, 0)), (g2, .cells (shC (.slice pcS csL.length ccS) (.slice poS osS.length coS) (tlT tl0 ((tn : Nat) : Int))).toArray 32 (0, 0))] (hW47) ?_
                 refine lm (v := .int .i64 wn) rfl rfl ?_
                 refine lm (v := .pointer (some ⟨g21, 4, none⟩)) rfl rfl ?_
                 refine lv (v := .int .i64 ((boxOf bs y18.box).kilos)) rfl rfl (yb_cell (off := 4) rfl Tw.kr Tw.m0 Try.underlying3 rfl Tw.kr) ?_
                 refine lp (v := .int .i64 (IntKind.i64.wrap (wn + ((boxOf bs y18.box).kilos)))) rfl rfl (run_bin rfl (vx := .int .i64 wn) (vy := .int .i64 ((boxOf bs y18.box).kilos)) Tw.kr Tw.kr fun w => bw_add (z := (IntKind.i64.wrap (wn + ((boxOf bs y18.box).kilos)))) rfl w) ?_
                 refine lm (v := .int .i64 (IntKind.i64.wrap (wn + ((boxOf bs y18.box).kilos)))) rfl rfl ?_
                 refine wpL_done (fun W49 hW49 => ?_)
                 change Code.wp ..
                 refine wp_region_L (W0 := WB) [(g21, .cells (boC (boxOf bs y18.box)).toArray 37 (0, 0)), (g19, .cells (sdC y18).toArray 42 (0, 0)), (g4, .cells #[.int .i64 (foreX bs st ((c : Nat) : Int)), .int .i64 (aftX bs st ((c : Nat) : Int)), .int .i64 (allX bs st ((c : Nat) : Int))] 66 (0, 0)), (g2, .cells (shC (.slice pcS csL.length ccS) (.slice poS osS.length coS) (tlT tl0 ((tn : Nat) : Int))).toArray 32 (0, 0))] (hW49) ?_
                 refine lp (v := .int .i64 (((i + 1) : Nat) : Int)) rfl rfl (run_bin rfl (vx := (.int .i64 ((i : Nat) : Int))) (vy := (.int .i64 ((1 : Nat) : Int))) Tw.kr Tw.kr fun w => bn_add (z := (i + 1)) rfl (wr_i64 Tw.om) w) ?_
                 refine lm (v := .int .i64 (((i + 1) : Nat) : Int)) rfl rfl ?_
                 refine wpL_done (fun W50 hW50 => ?_)
                 go_roundw
                 case rel =>
                   repeat apply Exists.intro
                   exact ⟨⟨i + 1, wh_, (IntKind.i64.wrap (wn + ((boxOf bs y18.box).kilos))), Tw.om, (by rw [whol_no2 hy18 h13 h15, ← hwh]), (by rw [want_yes hy18 h16, ← hwn]), rfl, rfl, rfl, (hW50.sub (fun p hp => by first | exact hp | (simp only [List.mem_cons, List.mem_append, List.nil_append, List.not_mem_nil, or_assoc, or_false, false_or] at hp ⊢ <;> grind)))⟩, rfl⟩
                 case measure => (show st.length - (intOf (.int .i64 (((i + 1) : Nat) : Int))).toNat < st.length - (intOf (.int .i64 ((i : Nat) : Int))).toNat); simp only [intOf]; omega
             | true =>
               have h15 : y18.slot.half = 0 := of_decide_eq_true hd15
               clear hd15
               refine wp_cond_true rfl ?_
               refine wp_region_L (W0 := WB) [(g21, .cells (boC (boxOf bs y18.box)).toArray 37 (0, 0)), (g19, .cells (sdC y18).toArray 42 (0, 0)), (g4, .cells #[.int .i64 (foreX bs st ((c : Nat) : Int)), .int .i64 (aftX bs st ((c : Nat) : Int)), .int .i64 (allX bs st ((c : Nat) : Int))] 66 (0, 0)), (g2, .cells (shC (.slice pcS csL.length ccS) (.slice poS osS.length coS) (tlT tl0 ((tn : Nat) : Int))).toArray 32 (0, 0))] (hW46) ?_
               refine lm (v := .int .i64 wh_) rfl rfl ?_
               refine lm (v := .pointer (some ⟨g21, 4, none⟩)) rfl rfl ?_
               refine lv (v := .int .i64 ((boxOf bs y18.box).kilos)) rfl rfl (yb_cell (off := 4) rfl Tw.kr Tw.m0 Try.underlying3 rfl Tw.kr) ?_
               refine lp (v := .int .i64 (IntKind.i64.wrap (wh_ + ((boxOf bs y18.box).kilos)))) rfl rfl (run_bin rfl (vx := .int .i64 wh_) (vy := .int .i64 ((boxOf bs y18.box).kilos)) Tw.kr Tw.kr fun w => bw_add (z := (IntKind.i64.wrap (wh_ + ((boxOf bs y18.box).kilos)))) rfl w) ?_
               refine lm (v := .int .i64 (IntKind.i64.wrap (wh_ + ((boxOf bs y18.box).kilos)))) rfl rfl ?_
               refine wpL_done (fun W51 hW51 => ?_)
               change Code.wp ..
               refine wp_seq ?_
               refine wp_region_L (W0 := WB) [(g21, .cells (boC (boxOf bs y18.box)).toArray 37 (0, 0)), (g19, .cells (sdC y18).toArray 42 (0, 0)), (g4, .cells #[.int .i64 (foreX bs st ((c : Nat) : Int)), .int .i64 (aftX bs st ((c : Nat) : Int)), .int .i64 (allX bs st ((c : Nat) : Int))] 66 (0, 0)), (g2, .cells (shC (.slice pcS csL.length ccS) (.slice poS osS.length coS) (tlT tl0 ((tn : Nat) : Int))).toArray 32 (0, 0))] (hW51) ?_
               refine lm (v := .int .i64 ((c : Nat) : Int)) rfl rfl ?_
               refine lp (v := .bool (decide (c = 0))) rfl rfl (run_bin rfl (vx := (.int .i64 ((c : Nat) : Int))) (vy := (.int .i64 ((0 : Nat) : Int))) Tw.kr Tw.kr fun w => bn_eql rfl w) ?_
               refine wpL_done (fun W52 hW52 => ?_)
               change Code.wp ..
               cases hd17 : (decide (c = 0)) with
               | false =>
                 have h17 : ¬ (c = 0) := of_decide_eq_false hd17
                 clear hd17
                 refine wp_cond_false rfl ?_
                 refine wp_skip ?_
                 change Code.wp ..
                 refine wp_region_L (W0 := WB) [(g21, .cells (boC (boxOf bs y18.box)).toArray 37 (0, 0)), (g19, .cells (sdC y18).toArray 42 (0, 0)), (g4, .cells #[.int .i64 (foreX bs st ((c : Nat) : Int)), .int .i64 (aftX bs st ((c : Nat) : Int)), .int .i64 (allX bs st ((c : Nat) : Int))] 66 (0, 0)), (g2, .cells (shC (.slice pcS csL.length ccS) (.slice poS osS.length coS) (tlT tl0 ((tn : Nat) : Int))).toArray 32 (0, 0))] (hW52) ?_
                 refine lp (v := .int .i64 (((i + 1) : Nat) : Int)) rfl rfl (run_bin rfl (vx := (.int .i64 ((i : Nat) : Int))) (vy := (.int .i64 ((1 : Nat) : Int))) Tw.kr Tw.kr fun w => bn_add (z := (i + 1)) rfl (wr_i64 Tw.om) w) ?_
                 refine lm (v := .int .i64 (((i + 1) : Nat) : Int)) rfl rfl ?_
                 refine wpL_done (fun W53 hW53 => ?_)
                 go_roundw
                 case rel =>
                   repeat apply Exists.intro
                   exact ⟨⟨i + 1, (IntKind.i64.wrap (wh_ + ((boxOf bs y18.box).kilos))), wn, Tw.om, (by rw [whol_yes hy18 h13 h15, ← hwh]), (by rw [want_no h17, ← hwn]), rfl, rfl, rfl, (hW53.sub (fun p hp => by first | exact hp | (simp only [List.mem_cons, List.mem_append, List.nil_append, List.not_mem_nil, or_assoc, or_false, false_or] at hp ⊢ <;> grind)))⟩, rfl⟩
                 case measure => (show st.length - (intOf (.int .i64 (((i + 1) : Nat) : Int))).toNat < st.length - (intOf (.int .i64 ((i : Nat) : Int))).toNat); simp only [intOf]; omega
               | true =>
                 have h17 : c = 0 := of_decide_eq_true hd17
                 clear hd17
                 refine wp_cond_true rfl ?_
                 refine wp_region_L (W0 := WB) [(g21, .cells (boC (boxOf bs y18.box)).toArray 37 (0, 0)), (g19, .cells (sdC y18).toArray 42 (0, 0)), (g4, .cells #[.int .i64 (foreX bs st ((c : Nat) : Int)), .int .i64 (aftX bs st ((c : Nat) : Int)), .int .i64 (allX bs st ((c : Nat) : Int))] 66 (0, 0)), (g2, .cells (shC (.slice pcS csL.length ccS) (.slice poS osS.length coS) (tlT tl0 ((tn : Nat) : Int))).toArray 32 (0, 0))] (hW52) ?_
                 refine lm (v := .int .i64 wn) rfl rfl ?_
                 refine lm (v := .pointer (some ⟨g21, 4, none⟩)) rfl rfl ?_
                 refine lv (v := .int .i64 ((boxOf bs y18.box).kilos)) rfl rfl (yb_cell (off := 4) rfl Tw.kr Tw.m0 Try.underlying3 rfl Tw.kr) ?_
                 refine lp (v := .int .i64 (IntKind.i64.wrap (wn + ((boxOf bs y18.box).kilos)))) rfl rfl (run_bin rfl (vx := .int .i64 wn) (vy := .int .i64 ((boxOf bs y18.box).kilos)) Tw.kr Tw.kr fun w => bw_add (z := (IntKind.i64.wrap (wn + ((boxOf bs y18.box).kilos)))) rfl w) ?_
                 refine lm (v := .int .i64 (IntKind.i64.wrap (wn + ((boxOf bs y18.box).kilos)))) rfl rfl ?_
                 refine wpL_done (fun W54 hW54 => ?_)
                 change Code.wp ..
                 refine wp_region_L (W0 := WB) [(g21, .cells (boC (boxOf bs y18.box)).toArray 37 (0, 0)), (g19, .cells (sdC y18).toArray 42 (0, 0)), (g4, .cells #[.int .i64 (foreX bs st ((c : Nat) : Int)), .int .i64 (aftX bs st ((c : Nat) : Int)), .int .i64 (allX bs st ((c : Nat) : Int))] 66 (0, 0)), (g2, .cells (shC (.slice pcS csL.length ccS) (.slice poS osS.length coS) (tlT tl0 ((tn : Nat) : Int))).toArray 32 (0, 0))] (hW54) ?_
                 refine lp (v := .int .i64 (((i + 1) : Nat) : Int)) rfl rfl (run_bin rfl (vx := (.int .i64 ((i : Nat) : Int))) (vy := (.int .i64 ((1 : Nat) : Int))) Tw.kr Tw.kr fun w => bn_add (z := (i + 1)) rfl (wr_i64 Tw.om) w) ?_
                 refine lm (v := .int .i64 (((i + 1) : Nat) : Int)) rfl rfl ?_
                 refine wpL_done (fun W55 hW55 => ?_)
                 go_roundw
                 case rel =>
                   repeat apply Exists.intro
                   exact ⟨⟨i + 1, (IntKind.i64.wrap (wh_ + ((boxOf bs y18.box).kilos))), (IntKind.i64.wrap (wn + ((boxOf bs y18.box).kilos))), Tw.om, (by rw [whol_yes hy18 h13 h15, ← hwh]), (by rw [want_yes hy18 h17, ← hwn]), rfl, rfl, rfl, (hW55.sub (fun p hp => by first | exact hp | (simp only [List.mem_cons, List.mem_append, List.nil_append, List.not_mem_nil, or_assoc, or_false, false_or] at hp ⊢ <;> grind)))⟩, rfl⟩
                 case measure => (show st.length - (intOf (.int .i64 (((i + 1) : Nat) : Int))).toNat < st.length - (intOf (.int .i64 ((i : Nat) : Int))).toNat); simp only [intOf]; omega
end Go.Proofs.Ytnbfljcilojllaa
/- What came in: limits and drops. -/
namespace Go.Proofs.Ytnbfljcilojllaa
open Go.ChangeShapes Go.WideShapes Go.ChangeAt Go.RowKit Tw
open Go
structure Wt where
 h : Nat
 a : Nat
 t : Nat
def wtC (y : Wt) : List Value := [.int .u8 ((y.h : Nat) : Int), .int .u8 ((y.a : Nat) : Int), .int .u8 ((y.t : Nat) : Int)]
def wtOk (y : Wt) : Prop := y.h ≤ 255 ∧ y.a ≤ 255 ∧ y.t ≤ 255
def dpOk (d : Dp) : Prop := d.col ≤ 255 ∧ d.kil ≤ 255
theorem opens_wt : OpensC Try.prog 52 wtC wtOk := by
 intro H enc w base sp held fuel cs x h
 obtain ⟨hl, hf⟩ := trod_fld Try.underlying52 h
 have c1 : Try.prog.cellsOf 5 = 1 := by kernel_rfl
 have c2 : Try.prog.cellsOf 4 = 1 := by kernel_rfl
 have c6 : Try.prog.cellsOf 52 = 3 := by kernel_rfl
 rw [c6] at hl
 obtain ⟨v0, v1, v2, rfl⟩ : ∃ v0 v1 v2, cs = [v0, v1, v2] := by
   rcases cs with _ | ⟨v0, _ | ⟨v1, _ | ⟨v2, _ | ⟨vz, cs⟩⟩⟩⟩ <;> simp at hl
   exact ⟨v0, v1, v2, rfl⟩
 have key : ∀ (i : Nat) (f : Field) (v : Value), (#[v0, v1, v2] : Array Value)[i]? = some v → f.type = 5 → f.offset = i → (∃ n y, DataW.trod enc Try.prog w base sp held n f.type ((([v0, v1, v2] : List Value).drop f.offset).take (Try.prog.cellsOf f.type)) = some y) → ∃ n : Nat, v = .int .u8 ((n : Nat) : Int) ∧ n ≤ 255 := by
   intro i f v hv ht ho ⟨n, y, hy⟩
   rw [ht, c1, ho] at hy
   obtain ⟨z, hz, hz1, hz2⟩ := fld_int (P := Try.prog) Try.underlying5 hy
   have hv2 : ([v0, v1, v2] : List Value)[i]? = some v := by simpa using hv
   obtain ⟨hi, hvi⟩ := List.getElem?_eq_some_iff.1 hv2
   rw [List.drop_eq_getElem_cons hi, hvi] at hz
   have hz0 : v = .int .u8 z := by simpa using hz
   have m1 : IntKind.u8.min = 0 := by decide
   have m2 : IntKind.u8.max = 255 := by decide
   rw [m1] at hz1; rw [m2] at hz2
   exact ⟨z.toNat, by rw [hz0, Int.toNat_of_nonneg hz1], by omega⟩
 obtain ⟨n0, rfl, b0⟩ := key 0 _ v0 rfl rfl rfl (hf 0 _ rfl)
 obtain ⟨n1, rfl, b1⟩ := key 1 _ v1 rfl rfl rfl (hf 1 _ rfl)
 obtain ⟨n2, rfl, b2⟩ := key 2 _ v2 rfl rfl rfl (hf 2 _ rfl)
 exact ⟨⟨n0, n1, n2⟩, rfl, b0, b1, b2⟩
theorem opens_dp : OpensC Try.prog 131 dpC dpOk := by
 intro H enc w base sp held fuel cs x h
 obtain ⟨hl, hf⟩ := trod_fld Try.underlying131 h
 have c1 : Try.prog.cellsOf 5 = 1 := by kernel_rfl
 have c2 : Try.prog.cellsOf 4 = 1 := by kernel_rfl
 have c6 : Try.prog.cellsOf 131 = 4 := by kernel_rfl
 rw [c6] at hl
 obtain ⟨v0, v1, v2, v3, rfl⟩ : ∃ v0 v1 v2 v3, cs = [v0, v1, v2, v3] := by
   rcases cs with _ | ⟨v0, _ | ⟨v1, _ | ⟨v2, _ | ⟨v3, _ | ⟨vz, cs⟩⟩⟩⟩⟩ <;> simp at hl
   exact ⟨v0, v1, v2, v3, rfl⟩
 have key : ∀ (i : Nat) (f : Field) (v : Value), (#[v0, v1, v2, v3] : Array Value)[i]? = some v → f.type = 5 → f.offset = i → (∃ n y, DataW.trod enc Try.prog w base sp held n f.type ((([v0, v1, v2, v3] : List Value).drop f.offset).take (Try.prog.cellsOf f.type)) = some y) → ∃ n : Nat, v = .int .u8 ((n : Nat) : Int) ∧ n ≤ 255 := by
   intro i f v hv ht ho ⟨n, y, hy⟩
   rw [ht, c1, ho] at hy
   obtain ⟨z, hz, hz1, hz2⟩ := fld_int (P := Try.prog) Try.underlying5 hy
   have hv2 : ([v0, v1, v2, v3] : List Value)[i]? = some v := by simpa using hv
   obtain ⟨hi, hvi⟩ := List.getElem?_eq_some_iff.1 hv2
   rw [List.drop_eq_getElem_cons hi, hvi] at hz
   have hz0 : v = .int .u8 z := by simpa using hz
   have m1 : IntKind.u8.min = 0 := by decide
   have m2 : IntKind.u8.max = 255 := by decide
   rw [m1] at hz1; rw [m2] at hz2
   exact ⟨z.toNat, by rw [hz0, Int.toNat_of_nonneg hz1], by omega⟩
 have keb : ∀ (i : Nat) (f : Field) (v : Value), (#[v0, v1, v2, v3] : Array Value)[i]? = some v → f.type = 4 → f.offset = i → (∃ n y, DataW.trod enc Try.prog w base sp held n f.type ((([v0, v1, v2, v3] : List Value).drop f.offset).take (Try.prog.cellsOf f.type)) = some y) → ∃ b : Bool, v = .bool b := by
   intro i f v hv ht ho ⟨n, y, hy⟩
   rw [ht, c2, ho] at hy
   obtain ⟨d, hd⟩ := fld_bool (P := Try.prog) Try.underlying4 hy
   have hv2 : ([v0, v1, v2, v3] : List Value)[i]? = some v := by simpa using hv
   obtain ⟨hi, hvi⟩ := List.getElem?_eq_some_iff.1 hv2
   rw [List.drop_eq_getElem_cons hi, hvi] at hd
   exact ⟨d, by simpa using hd⟩
 obtain ⟨n0, rfl, b0⟩ := key 0 _ v0 rfl rfl rfl (hf 0 _ rfl)
 obtain ⟨n1, rfl, b1⟩ := key 1 _ v1 rfl rfl rfl (hf 1 _ rfl)
 obtain ⟨d2, rfl⟩ := keb 2 _ v2 rfl rfl rfl (hf 2 _ rfl)
 obtain ⟨d3, rfl⟩ := keb 3 _ v3 rfl rfl rfl (hf 3 _ rfl)
 exact ⟨⟨n0, n1, d2, d3⟩, rfl, b0, b1⟩
end Go.Proofs.Ytnbfljcilojllaa
/- StackSums holds for every input: the program's own answer is true; each argument reads afterwards as it read before. -/
namespace Go.Proofs.Ytnbfljcilojllaa
open Go.ChangeShapes Go.WideShapes Go.ChangeAt Go.RowKit Tw
set_option maxRecDepth 100000 in
theorem stackSums_lifted (os : Os) (started : os.Started) (H : Type) (enc : TypeId × Value → H) :
   ReturnsInHanded {} Try.checked os 5 .any (Rows.stackSumsSpec.pre6 enc Try.prog Try.f5 Rows.stackSumsRow.domain false) (Rows.stackSumsSpec.post enc Try.prog Try.f5 false true false false) := by
 refine returnsInHanded_of_change (C := Try.checked) own started Tw.kr Try.func5
   (ChangeSpec.witness6 (enc := enc) (C := Try.checked) false ⟨#[], #[.slice none 0 0, .int .u32 0, .agg #[.int .u8 0, .int .u8 0, .int .u8 0], .slice none 0 0], []⟩ 8 Tw.kr Tw.kr Tw.kr Tw.kr) ?_
 intro W base args ds gs before hval0 hW _ _
 have hval : ∀ (j : Nat) t v, Try.f5.params[j]? = some t → args[j]? = some v → Value.okWide Try.prog W .any base t v := hval0
 have hW2 := hW
 obtain ⟨p, q, hA0, hV, rfl, hfz, hnd⟩ := hW2
 have hA : DataW.TrodAll enc Try.prog W 0 (fun _ => true) true Try.f5.params.toList args.toList ds p := hA0
 rw [Try.params5] at hA hval
 obtain ⟨v0, vs0, d0, ds0, p0, q0, hargs, rfl, rfl, h0, r0⟩ := trodAll_cons hA
 obtain ⟨v1, vs1, d1, ds1, p1, q1, rfl, rfl, rfl, h1, r1⟩ := trodAll_cons r0
 obtain ⟨v2, vs2, d2, ds2, p2, q2, rfl, rfl, rfl, h2, r2⟩ := trodAll_cons r1
 obtain ⟨v3, vs3, d3, ds3, p3, q3, rfl, rfl, rfl, h3, r3⟩ := trodAll_cons r2
 obtain ⟨rfl, rfl, rfl⟩ := trodAll_nil r3
 obtain rfl : args = #[v0, v1, v2, v3] := by cases args; simp_all
 obtain ⟨rfl, rfl⟩ := trodVars_none hV
 have k0 := h0
 have lt0 : ∀ x ∈ p0, x.block < W.heap.size := by obtain ⟨m, hm⟩ := k0; exact DataW.trod_lt m _ _ _ hm
 obtain ⟨p0_, c0, l0, rfl, hb0, hok0, hl0, hc0⟩ := open_recs (sz := 4) Try.underlying49 opens_pl Tw.kr Tw.om (fun _ => rfl) (hval 0 49 v0 rfl rfl) h0
 obtain ⟨a1, rfl, rfl, rfl, w1⟩ := open_int Try.underlying50 (hval 1 50 v1 rfl rfl) h1
 have rr1 : 0 ≤ a1 ∧ a1 ≤ 4294967295 := of_wf w1
 obtain ⟨n1, rfl⟩ : ∃ n : Nat, a1 = (n : Int) := ⟨a1.toNat, by omega⟩
 have k2 := h2
 have lt2 : ∀ x ∈ p2, x.block < W.heap.size := by obtain ⟨m, hm⟩ := k2; exact DataW.trod_lt m _ _ _ hm
 obtain ⟨y2, rfl, ok2⟩ := open_rec Try.underlying52 opens_wt (hval 2 52 v2 rfl rfl) h2
 have k3 := h3
 have lt3 : ∀ x ∈ p3, x.block < W.heap.size := by obtain ⟨m, hm⟩ := k3; exact DataW.trod_lt m _ _ _ hm
 obtain ⟨p3_, c3, l3, rfl, hb3, hok3, hl3, hc3⟩ := open_recs (sz := 4) Try.underlying53 opens_dp Tw.kr Tw.om (fun _ => rfl) (hval 3 53 v3 rfl rfl) h3
 clear hA0 hval0
 refine (StackSums_law l0 p0_ c0 n1 (Nat.le_trans hl0 (by unfold maxLen; omega)) hc0 hok0 Tw.om y2.h y2.a y2.t ok2.1 ok2.2.1 ok2.2.2 l3 p3_ c3 (Nat.le_trans hl3 (by unfold maxLen; omega)) hc3 hok3  W hb0 hb3).mono fun e W' ⟨he, bel⟩ => ?_
 subst he
 exact ⟨_, rfl, _, _, _, [], _, [], hW, (trodAll_cons_mk (shut_bool Try.underlying4 _) trodAll_mk0), (trodAll_cons_mk (Below.trod laidOut Tw.kr (of_decide_eq_true Tw.kr) k0 bel lt0) (trodAll_cons_mk (shut_int Try.underlying50 w1) (trodAll_cons_mk (Below.trod laidOut Tw.kr (of_decide_eq_true Tw.kr) k2 bel lt2) (trodAll_cons_mk (Below.trod laidOut Tw.kr (of_decide_eq_true Tw.kr) k3 bel lt3) trodAll_mk0)))), rfl, bel.frame _, fun h => by cases h⟩
theorem stackSums_proved : Rows.StackSumsSaid :=
 OpenClaim.holds_of_wide 5 Try.f5 rfl rfl rfl rfl rfl rfl rfl ⟨rfl, rfl, rfl, rfl, rfl⟩ rfl rfl rfl rfl rfl Tw.kr Try.func5 Tw.kr
   (of_decide_eq_true Tw.kr) (by unfold Func.isWrapper; first | (rw [if_pos (by decide +kernel)]; kernel_rfl) | (rw [if_neg (by decide +kernel)]; exact ⟨rfl, rfl⟩))
   (fun os started H enc _ => stackSums_lifted os started H enc)
#print axioms stackSums_proved
end Go.Proofs.Ytnbfljcilojllaa
