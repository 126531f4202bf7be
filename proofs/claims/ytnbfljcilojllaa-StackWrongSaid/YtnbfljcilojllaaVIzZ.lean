import Derived.Test.YtnbfljcilojllaaSW00
import Derived.Test.YtnbfljcilojllaaVIz04
import Derived.Test.YtnbfljcilojllaaVIz01
import Derived.Test.YtnbfljcilojllaaSW01
/- StackWrong: the law holds for every input; no condition but the row's own. -/
set_option linter.unusedVariables false
set_option linter.unusedSimpArgs false
set_option linter.unusedSectionVars false
namespace Go.Proofs.Ytnbfljcilojllaa
open Go Go.RowKit Tw
theorem calls_ex {P : Program} {W0 : Base} {W : World} {K : List (Nat × Obj)} {f : FuncId} {args : Array Value} (hW : KS W0 K W) (h : Calls P f args W fun e w' => ∃ v K', e = .returned v ∧ KS (W : Base) K' w' ∧ ExT (W : Base) [] v K') :
   Calls P f args W fun e w' => ∃ v K', e = .returned v ∧ KS W0 K' w' ∧ ExT W0 K v K' :=
 h.mono fun e w' ⟨v, K', he, hk, pc, cc, po, co, rp, rc, gb, cb, Kc, Ko, Tr, hv, h1, h2, h3, hB, d1, d2, d3, _, hK⟩ => by
   have hn := hW.size
   have hs : ∀ q ∈ Tr.filter (fun q => decide (W.heap.size ≤ q.1)), q ∈ Tr := fun q hq => (List.mem_filter.1 hq).1
   rw [List.nil_append] at hK
   refine ⟨v, _, he, ⟨(hW.below hk.1).1, fun p hp => ?_⟩, pc, cc, po, co, rp, rc, gb, cb, Kc, Ko, Tr.filter (fun q => decide (W.heap.size ≤ q.1)), hv, own_up hn h1, own_up hn h2, rb_up hn h3, Nat.le_trans hn hB, d1, d2, fun p hp => d3 p (hs p hp), fun p hp q hq => ?_, rfl⟩
   · rcases List.mem_append.1 hp with hp | hp
     · exact (hW.below hk.1).2 p hp
     · refine hk.2 p ?_
       rw [hK]
       simp only [List.mem_append] at hp ⊢
       rcases hp with hp | hp | hp | hp
       · exact .inl hp
       · exact .inr (.inl hp)
       · exact .inr (.inr (.inl (hs p hp)))
       · exact .inr (.inr (.inr hp))
   · simp only [List.mem_append] at hq
     rcases hq with hq | hq | hq | hq
     · exact own_ne hW h1 p hp q hq
     · exact own_ne hW h2 p hp q hq
     · intro e
       have h5 := of_decide_eq_true (List.mem_filter.1 hq).2
       have h6 := lt_of_block (hW.2 p hp)
       omega
     · intro e
       cases List.mem_singleton.1 hq
       have h6 := lt_of_block (hW.2 p hp)
       have hB : W.heap.size ≤ gb := hB
       have e : gb = p.1 := e
       omega
set_option maxRecDepth 100000 in
set_option maxHeartbeats 4000000 in
theorem awake10_any  (w : World) : Calls Try.prog 12 #[] w fun e w' => e = .returned (.bool true) ∧ Below w.heap.size w w' := by
 go_enter Try.func12, Try.ntmps12
 refine wp_seq ?_
 refine wp_region_L [] (KS.start w) ?_
 refine lm (v := .bool false) rfl rfl ?_
 refine wpL_done (fun W1 hW1 => ?_)
 change Code.wp ..
 refine wp_seq ?_
 refine wp_region_L _ hW1 ?_
 refine wpL_c (f := 9) (args := #[]) (ExT w []) rfl Tw.kr Tw.kf (fun W hW => calls_ex hW (example_any W)) Tw.pf ?_
 rintro _ _ ⟨pcS, ccS, poS, coS, rp, rc, gb, cb, Kc, Ko, Tr, rfl, hOc, hOo, hRB, hgB, hd1, hd2, hd3, hNe, rfl⟩
 obtain ⟨qC, dC, eC, ndC, RC⟩ := own_rl hOc
 obtain ⟨rfl, _, rfl⟩ := Value.slice.inj eC
 obtain ⟨qO, dO, eO, ndO, RO⟩ := own_rl hOo
 obtain ⟨rfl, _, rfl⟩ := Value.slice.inj eO
 refine wpL_sub (K2 := ((gb, .cells #[.int .i64 1, strV [], .int .u8 20, .bool false, .int .i64 15000, .int .i64 0, .int .i64 0, .int .u8 0, .bool false, .int .i64 2, strV [], .int .u8 20, .bool false, .int .i64 9000, .int .i64 0, .int .i64 0, .int .u8 0, .bool false, .int .i64 3, strV [], .int .u8 40, .bool false, .int .i64 26000, .int .i64 0, .int .i64 0, .int .u8 0, .bool false, .int .i64 4, strV [], .int .u8 20, .bool false, .int .i64 12000, .int .i64 0, .int .i64 0, .int .u8 0, .bool false] 37 (0, 0)) :: (Kc ++ (Ko ++ Tr)))) (fun p hp => by rw [show (gb, Obj.cells ((exB 26000).flatMap boC).toArray 37 (0, 0)) = ((gb, .cells #[.int .i64 1, strV [], .int .u8 20, .bool false, .int .i64 15000, .int .i64 0, .int .i64 0, .int .u8 0, .bool false, .int .i64 2, strV [], .int .u8 20, .bool false, .int .i64 9000, .int .i64 0, .int .i64 0, .int .u8 0, .bool false, .int .i64 3, strV [], .int .u8 40, .bool false, .int .i64 26000, .int .i64 0, .int .i64 0, .int .u8 0, .bool false, .int .i64 4, strV [], .int .u8 20, .bool false, .int .i64 12000, .int .i64 0, .int .i64 0, .int .u8 0, .bool false] 37 (0, 0)) : Nat × Obj) from rfl]; simp only [List.mem_cons, List.mem_append, List.not_mem_nil, or_assoc, or_false, false_or] at hp ⊢; grind) ?_
 refine lm (v := .tuple #[.agg (shC (.slice pcS exL.length ccS) (.slice poS ((exO rp rc).length) coS) (tlT tl0 2000)).toArray, .slice (some ⟨gb, 0, none⟩) 4 cb]) rfl rfl ?_
 refine lm (v := .agg (shC (.slice pcS exL.length ccS) (.slice poS ((exO rp rc).length) coS) (tlT tl0 2000)).toArray) rfl rfl ?_
 refine lm (v := .slice (some ⟨gb, 0, none⟩) 4 cb) rfl rfl ?_
 refine wpL_new (fun g => .pointer (some ⟨g, 0, none⟩)) (obi := .cells (shC (.slice none 0 0) (.slice none 0 0) tl0).toArray 32 (0, 0)) rfl rfl Tw.kf Tw.pf fun g1 Bg1 Fg1 => ?_
 obtain ⟨dj2_0, dj2_1, dj2_2, dj2_3⟩ : gb ≠ g1 ∧ Dk g1 Kc ∧ Dk g1 Ko ∧ Dk g1 Tr := Tw.dkf Fg1
 refine wpL_s ((g1, .cells (shC (.slice pcS exL.length ccS) (.slice poS ((exO rp rc).length) coS) (tlT tl0 2000)).toArray 32 (0, 0)) :: (gb, .cells #[.int .i64 1, strV [], .int .u8 20, .bool false, .int .i64 15000, .int .i64 0, .int .i64 0, .int .u8 0, .bool false, .int .i64 2, strV [], .int .u8 20, .bool false, .int .i64 9000, .int .i64 0, .int .i64 0, .int .u8 0, .bool false, .int .i64 3, strV [], .int .u8 40, .bool false, .int .i64 26000, .int .i64 0, .int .i64 0, .int .u8 0, .bool false, .int .i64 4, strV [], .int .u8 20, .bool false, .int .i64 12000, .int .i64 0, .int .i64 0, .int .u8 0, .bool false] 37 (0, 0)) :: (Kc ++ (Ko ++ Tr))) rfl rfl (st_row (off := 0) (v := .agg (shC (.slice pcS exL.length ccS) (.slice poS ((exO rp rc).length) coS) (tlT tl0 2000)).toArray) rfl Tw.kr Tw.kr Tw.m0 Bg1 Tw.kr (by first | (simp [Value.cells]; done) | exact Nat.le_of_ble_eq_true rfl) (fun v hv => shT_one v hv) Tw.kr (List.forall_mem_cons.2 ⟨.inl rfl, (List.forall_mem_cons.2 ⟨.inr ⟨Tw.m1, Tw.nee⟩, (fun p hp => .inr ⟨(.tail _ (.tail _ hp)), ((show Dk g1 (Kc ++ (Ko ++ Tr)) from Tw.djt) _ hp)⟩)⟩)⟩)) ?_
 refine lm (v := .slice (some ⟨gb, 0, none⟩) 4 cb) rfl rfl ?_
 refine wpL_done (fun W2 hW2 => ?_)
 change Code.wp ..
 refine wp_seq ?_
 refine wp_region_L _ hW2 ?_
 refine lv (v := .agg (sdC (⟨1, ⟨2, 0, 1⟩⟩ : Sd)).toArray) rfl rfl (yb_call (f := 10) (args := #[.int .i64 1, .int .i64 2, .int .i64 0, .int .u8 1]) Tw.kf fun W hW => at_any 1 2 0 1 W) ?_
 refine lv (v := .agg (sdC (⟨2, ⟨2, 0, 2⟩⟩ : Sd)).toArray) rfl rfl (yb_call (f := 10) (args := #[.int .i64 2, .int .i64 2, .int .i64 0, .int .u8 2]) Tw.kf fun W hW => at_any 2 2 0 2 W) ?_
 refine lv (v := .agg (sdC (⟨3, ⟨2, 1, 0⟩⟩ : Sd)).toArray) rfl rfl (yb_call (f := 10) (args := #[.int .i64 3, .int .i64 2, .int .i64 1, .int .u8 0]) Tw.kf fun W hW => at_any 3 2 1 0 W) ?_
 refine wpL_new (fun g => .slice (some ⟨g, 0, none⟩) 3 3) (obi := .cells #[.int .i64 1, .int .i64 2, .int .i64 0, .int .u8 1, .int .i64 2, .int .i64 2, .int .i64 0, .int .u8 2, .int .i64 3, .int .i64 2, .int .i64 1, .int .u8 0] 42 (0, 0)) rfl rfl Tw.kf Tw.pf fun g3 Bg3 Fg3 => ?_
 obtain ⟨dj4_0, dj4_1, dj4_2, dj4_3, dj4_4⟩ : g1 ≠ g3 ∧ gb ≠ g3 ∧ Dk g3 Kc ∧ Dk g3 Ko ∧ Dk g3 Tr := Tw.dkf Fg3
 refine lm (v := .slice (some ⟨g3, 0, none⟩) 3 3) rfl rfl ?_
 refine wpL_done (fun W3 hW3 => ?_)
 change Code.wp ..
 refine wp_seq ?_
 refine wp_region_L _ hW3 ?_
 refine lv (v := .agg (shC (.slice pcS exL.length ccS) (.slice poS ((exO rp rc).length) coS) (tlT tl0 2000)).toArray) rfl rfl (yb_load (n := 13) (off := 0) rfl Tw.kr Tw.m1 Try.underlying32 rfl Tw.kr (by first | (simp [Value.cells]; done) | exact Nat.le_of_ble_eq_true rfl) Tw.kr) ?_
 refine lm (v := .slice (some ⟨gb, 0, none⟩) 4 cb) rfl rfl ?_
 refine lm (v := .slice (some ⟨g3, 0, none⟩) 3 3) rfl rfl ?_
 refine wpL_c (f := 21) (args := #[.agg (shC (.slice pcS exL.length ccS) (.slice poS ((exO rp rc).length) coS) (tlT tl0 2000)).toArray, .slice (some ⟨gb, 0, none⟩) 4 cb, .slice (some ⟨g3, 0, none⟩) 3 3]) (fun v K9 => ∃ v1, v = .tuple #[v1, .int .i64 0] ∧ OutRL ftC w ((g3, .cells #[.int .i64 1, .int .i64 2, .int .i64 0, .int .u8 1, .int .i64 2, .int .i64 2, .int .i64 0, .int .u8 2, .int .i64 3, .int .i64 2, .int .i64 1, .int .u8 0] 42 (0, 0)) :: (g1, .cells (shC (.slice pcS exL.length ccS) (.slice poS ((exO rp rc).length) coS) (tlT tl0 2000)).toArray 32 (0, 0)) :: (gb, .cells #[.int .i64 1, strV [], .int .u8 20, .bool false, .int .i64 15000, .int .i64 0, .int .i64 0, .int .u8 0, .bool false, .int .i64 2, strV [], .int .u8 20, .bool false, .int .i64 9000, .int .i64 0, .int .i64 0, .int .u8 0, .bool false, .int .i64 3, strV [], .int .u8 40, .bool false, .int .i64 26000, .int .i64 0, .int .i64 0, .int .u8 0, .bool false, .int .i64 4, strV [], .int .u8 20, .bool false, .int .i64 12000, .int .i64 0, .int .i64 0, .int .u8 0, .bool false] 37 (0, 0)) :: (Kc ++ (Ko ++ Tr))) ([] : List Ft) v1 K9) rfl Tw.kr Tw.kf (fun W hW => calls_tur hW ((by have h9 := Check_any exL pcS ccS (Nat.le_of_ble_eq_true rfl) (exO rp rc) poS coS (Nat.le_of_ble_eq_true rfl) tl0 2000 (exB 26000) (some ⟨gb, 0, none⟩) cb (Nat.le_of_ble_eq_true rfl) exS1 (some ⟨g3, 0, none⟩) 3 (Nat.le_of_ble_eq_true rfl) W (RC _ (hW.sub (fun p hp => by simp only [List.mem_cons, List.mem_append, List.nil_append, List.not_mem_nil, or_assoc, or_false, false_or, hp, true_or, or_true]))) (RO _ (hW.sub (fun p hp => by simp only [List.mem_cons, List.mem_append, List.nil_append, List.not_mem_nil, or_assoc, or_false, false_or, hp, true_or, or_true]))) (hRB.rw W (hW.sub (fun p hp => by simp only [List.mem_cons, List.mem_append, List.nil_append, List.not_mem_nil, or_assoc, or_false, false_or, hp, true_or, or_true]))) (fun o ho => by cases List.mem_singleton.1 ho; exact (Nat.le_of_ble_eq_true rfl)) (plr_nil exL_plugs) (fun c hc => by rw [exL_plugs c hc]; exact Nat.zero_le _) ((show RL boC w (some ⟨gb, 0, none⟩) (exB 26000) [(gb, .cells #[.int .i64 1, strV [], .int .u8 20, .bool false, .int .i64 15000, .int .i64 0, .int .i64 0, .int .u8 0, .bool false, .int .i64 2, strV [], .int .u8 20, .bool false, .int .i64 9000, .int .i64 0, .int .i64 0, .int .u8 0, .bool false, .int .i64 3, strV [], .int .u8 40, .bool false, .int .i64 26000, .int .i64 0, .int .i64 0, .int .u8 0, .bool false, .int .i64 4, strV [], .int .u8 20, .bool false, .int .i64 12000, .int .i64 0, .int .i64 0, .int .u8 0, .bool false] 37 (0, 0))] from fun W hW => blk_slv (cs := (exB 26000).flatMap boC) hW Tw.m0) _ (hW.sub (fun p hp => by cases List.mem_singleton.1 hp; exact Tw.m2))) ((show RL sdC w (some ⟨g3, 0, none⟩) exS1 [(g3, .cells #[.int .i64 1, .int .i64 2, .int .i64 0, .int .u8 1, .int .i64 2, .int .i64 2, .int .i64 0, .int .u8 2, .int .i64 3, .int .i64 2, .int .i64 1, .int .u8 0] 42 (0, 0))] from fun W hW => blk_slv (cs := exS1.flatMap sdC) hW Tw.m0) _ (hW.sub (fun p hp => by cases List.mem_singleton.1 hp; exact Tw.m0))) tl0_one; rw [(ev_c1 rp rc).1, (ev_c1 rp rc).2] at h9; exact h9))) Tw.pf ?_
 rintro _ _ ⟨_, rfl, p5, c5, Kl5, rfl, n5, R5, N5, rfl⟩
 obtain ⟨dj6_0, dj6_1, dj6_2, dj6_3, dj6_4, dj6_5⟩ : Dk g3 Kl5 ∧ Dk g1 Kl5 ∧ Dk gb Kl5 ∧ Dj Kc Kl5 ∧ Dj Ko Kl5 ∧ Dj Tr Kl5 := Tw.djf N5
 refine wpL_sub (K2 := ((g3, .cells #[.int .i64 1, .int .i64 2, .int .i64 0, .int .u8 1, .int .i64 2, .int .i64 2, .int .i64 0, .int .u8 2, .int .i64 3, .int .i64 2, .int .i64 1, .int .u8 0] 42 (0, 0)) :: (g1, .cells (shC (.slice pcS exL.length ccS) (.slice poS ((exO rp rc).length) coS) (tlT tl0 2000)).toArray 32 (0, 0)) :: (gb, .cells #[.int .i64 1, strV [], .int .u8 20, .bool false, .int .i64 15000, .int .i64 0, .int .i64 0, .int .u8 0, .bool false, .int .i64 2, strV [], .int .u8 20, .bool false, .int .i64 9000, .int .i64 0, .int .i64 0, .int .u8 0, .bool false, .int .i64 3, strV [], .int .u8 40, .bool false, .int .i64 26000, .int .i64 0, .int .i64 0, .int .u8 0, .bool false, .int .i64 4, strV [], .int .u8 20, .bool false, .int .i64 12000, .int .i64 0, .int .i64 0, .int .u8 0, .bool false] 37 (0, 0)) :: (Kc ++ (Ko ++ (Tr ++ Kl5))))) (fun p hp => by simp only [List.mem_cons, List.mem_append, or_assoc] at hp ⊢; exact hp) ?_
 refine lm (v := .tuple #[.slice p5 (([] : List Ft).length) c5, .int .i64 0]) rfl rfl ?_
 refine lm (v := .slice p5 (([] : List Ft).length) c5) rfl rfl ?_
 refine lm (v := .int .i64 0) rfl rfl ?_
 refine lm (v := .slice p5 (([] : List Ft).length) c5) rfl rfl ?_
 refine lm (v := .int .i64 0) rfl rfl ?_
 refine wpL_done (fun W4 hW4 => ?_)
 change Code.wp ..
 refine wp_seq ?_
 refine wp_seq ?_
 refine wp_region_L _ hW4 ?_
 refine lm (v := .int .i64 0) rfl rfl ?_
 refine lm (v := .bool false) rfl rfl ?_
 refine lm (v := .bool false) rfl rfl ?_
 refine lm (v := .slice p5 (([] : List Ft).length) c5) rfl rfl ?_
 refine lp (v := .int .i64 (((([] : List Ft).length) : Nat) : Int)) rfl rfl (run_lenL (p := p5) (cap := c5) (n := ([] : List Ft).length) rfl Try.underlying58 Tw.kr) ?_
 refine lp (v := .bool (!(decide ((([] : List Ft).length) = 0)))) rfl rfl (run_bin rfl (vx := (.int .i64 (((([] : List Ft).length) : Nat) : Int))) (vy := (.int .i64 ((0 : Nat) : Int))) Tw.kr Tw.kr fun w => bn_neq rfl w) ?_
 refine lm (v := .bool (!(decide ((([] : List Ft).length) = 0)))) rfl rfl ?_
 refine lm (v := .bool (!(decide ((([] : List Ft).length) = 0)))) rfl rfl ?_
 cases hd1 : (decide ((([] : List Ft).length) = 0)) with
 | false =>
   have h1 : ¬ ((([] : List Ft).length) = 0) := of_decide_eq_false hd1
   clear hd1
   exact absurd (show (([] : List Ft).length) = 0 from rfl) h1
 | true =>
   have h1 : (([] : List Ft).length) = 0 := of_decide_eq_true hd1
   clear hd1
   refine lm (v := .slice (some ⟨gb, 0, none⟩) 4 cb) rfl rfl ?_
   refine lm (v := .slice (some ⟨g3, 0, none⟩) 3 3) rfl rfl ?_
   refine lv (v := .agg #[.int .i64 15000, .int .i64 9000, .int .i64 50000]) rfl rfl (yb_call (f := 19) (args := #[.slice (some ⟨gb, 0, none⟩) 4 cb, .slice (some ⟨g3, 0, none⟩) 3 3, .int .i64 2]) Tw.kf fun W hW => (by have h9 := Weigh_any (exB 26000) (some ⟨gb, 0, none⟩) cb (Nat.le_of_ble_eq_true rfl) exS1 (some ⟨g3, 0, none⟩) 3 (Nat.le_of_ble_eq_true rfl) 2 W ((show RL boC w (some ⟨gb, 0, none⟩) (exB 26000) [(gb, .cells #[.int .i64 1, strV [], .int .u8 20, .bool false, .int .i64 15000, .int .i64 0, .int .i64 0, .int .u8 0, .bool false, .int .i64 2, strV [], .int .u8 20, .bool false, .int .i64 9000, .int .i64 0, .int .i64 0, .int .u8 0, .bool false, .int .i64 3, strV [], .int .u8 40, .bool false, .int .i64 26000, .int .i64 0, .int .i64 0, .int .u8 0, .bool false, .int .i64 4, strV [], .int .u8 20, .bool false, .int .i64 12000, .int .i64 0, .int .i64 0, .int .u8 0, .bool false] 37 (0, 0))] from fun W hW => blk_slv (cs := (exB 26000).flatMap boC) hW Tw.m0) _ (hW.sub (fun p hp => by cases List.mem_singleton.1 hp; exact Tw.m2))) ((show RL sdC w (some ⟨g3, 0, none⟩) exS1 [(g3, .cells #[.int .i64 1, .int .i64 2, .int .i64 0, .int .u8 1, .int .i64 2, .int .i64 2, .int .i64 0, .int .u8 2, .int .i64 3, .int .i64 2, .int .i64 1, .int .u8 0] 42 (0, 0))] from fun W hW => blk_slv (cs := exS1.flatMap sdC) hW Tw.m0) _ (hW.sub (fun p hp => by cases List.mem_singleton.1 hp; exact Tw.m0))); rw [ev_w.1, ev_w.2.1, ev_w.2.2] at h9; exact h9)) ?_
   refine lm (v := .agg #[.int .i64 15000, .int .i64 9000, .int .i64 50000]) rfl rfl ?_
   refine lp (v := .bool (!(decide (15000 = 15000 ∧ 9000 = 9000 ∧ 50000 = 50000)))) rfl rfl (run_bin rfl (vx := .agg #[.int .i64 15000, .int .i64 9000, .int .i64 50000]) (vy := .agg #[.int .i64 15000, .int .i64 9000, .int .i64 50000]) Tw.kr Tw.kr fun w => ne_kil w) ?_
   refine lm (v := .bool (!(decide (15000 = 15000 ∧ 9000 = 9000 ∧ 50000 = 50000)))) rfl rfl ?_
   refine wpL_done (fun W5 hW5 => ?_)
   change Code.wp ..
   cases hd2 : (decide (15000 = 15000 ∧ 9000 = 9000 ∧ 50000 = 50000)) with
   | false =>
     have h2 : ¬ (15000 = 15000 ∧ 9000 = 9000 ∧ 50000 = 50000) := of_decide_eq_false hd2
     clear hd2
     exact absurd ⟨rfl, rfl, rfl⟩ h2
   | true =>
     have h2 : 15000 = 15000 ∧ 9000 = 9000 ∧ 50000 = 50000 := of_decide_eq_true hd2
     clear hd2
     refine wp_cond_false rfl ?_
     refine wp_skip ?_
     change Code.wp ..
     refine wp_seq ?_
     refine wp_region_L _ hW5 ?_
     refine lm (v := .slice (some ⟨gb, 0, none⟩) 4 cb) rfl rfl ?_
     refine lm (v := .pointer (some ⟨gb, 18, none⟩)) rfl rfl ?_
     refine lm (v := .pointer (some ⟨gb, 22, none⟩)) rfl rfl ?_
     refine lv (v := .int .i64 26000) rfl rfl (yb_cell (off := 22) rfl Tw.kr Tw.m2 Try.underlying3 rfl Tw.kr) ?_
     refine lm (v := .int .i64 26001) rfl rfl ?_
     refine lm (v := .pointer (some ⟨gb, 18, none⟩)) rfl rfl ?_
     refine lm (v := .pointer (some ⟨gb, 22, none⟩)) rfl rfl ?_
     refine wpL_s ((g3, .cells #[.int .i64 1, .int .i64 2, .int .i64 0, .int .u8 1, .int .i64 2, .int .i64 2, .int .i64 0, .int .u8 2, .int .i64 3, .int .i64 2, .int .i64 1, .int .u8 0] 42 (0, 0)) :: (g1, .cells (shC (.slice pcS exL.length ccS) (.slice poS ((exO rp rc).length) coS) (tlT tl0 2000)).toArray 32 (0, 0)) :: (gb, .cells #[.int .i64 1, strV [], .int .u8 20, .bool false, .int .i64 15000, .int .i64 0, .int .i64 0, .int .u8 0, .bool false, .int .i64 2, strV [], .int .u8 20, .bool false, .int .i64 9000, .int .i64 0, .int .i64 0, .int .u8 0, .bool false, .int .i64 3, strV [], .int .u8 40, .bool false, .int .i64 26001, .int .i64 0, .int .i64 0, .int .u8 0, .bool false, .int .i64 4, strV [], .int .u8 20, .bool false, .int .i64 12000, .int .i64 0, .int .i64 0, .int .u8 0, .bool false] 37 (0, 0)) :: (Kc ++ (Ko ++ (Tr ++ Kl5)))) rfl rfl (st_row (off := 22) (v := .int .i64 26001) rfl Tw.kr Tw.kr Tw.m2 hgB Tw.kr (by first | (simp [Value.cells]; done) | exact Nat.le_of_ble_eq_true rfl) (by intro v hv; simp [Value.cells] at hv; first | (subst hv; rfl) | (rcases hv with rfl <;> rfl)) Tw.kr (List.forall_mem_cons.2 ⟨.inr ⟨Tw.m0, Tw.nee⟩, (List.forall_mem_cons.2 ⟨.inr ⟨Tw.m1, Tw.nee⟩, (List.forall_mem_cons.2 ⟨.inl rfl, (fun p hp => .inr ⟨(.tail _ (.tail _ (.tail _ hp))), ((show Dk gb (Kc ++ (Ko ++ (Tr ++ Kl5))) from Tw.djt) _ hp)⟩)⟩)⟩)⟩)) ?_
     refine wpL_done (fun W6 hW6 => ?_)
     change Code.wp ..
     refine wp_seq ?_
     refine wp_region_L _ hW6 ?_
     refine lv (v := .agg (shC (.slice pcS exL.length ccS) (.slice poS ((exO rp rc).length) coS) (tlT tl0 2000)).toArray) rfl rfl (yb_load (n := 13) (off := 0) rfl Tw.kr Tw.m1 Try.underlying32 rfl Tw.kr (by first | (simp [Value.cells]; done) | exact Nat.le_of_ble_eq_true rfl) Tw.kr) ?_
     refine lm (v := .slice (some ⟨gb, 0, none⟩) 4 cb) rfl rfl ?_
     refine lm (v := .slice (some ⟨g3, 0, none⟩) 3 3) rfl rfl ?_
     refine wpL_c (f := 21) (args := #[.agg (shC (.slice pcS exL.length ccS) (.slice poS ((exO rp rc).length) coS) (tlT tl0 2000)).toArray, .slice (some ⟨gb, 0, none⟩) 4 cb, .slice (some ⟨g3, 0, none⟩) 3 3]) (fun v K9 => ∃ v1, v = .tuple #[v1, .int .i64 0] ∧ OutRL ftC w ((g3, .cells #[.int .i64 1, .int .i64 2, .int .i64 0, .int .u8 1, .int .i64 2, .int .i64 2, .int .i64 0, .int .u8 2, .int .i64 3, .int .i64 2, .int .i64 1, .int .u8 0] 42 (0, 0)) :: (g1, .cells (shC (.slice pcS exL.length ccS) (.slice poS ((exO rp rc).length) coS) (tlT tl0 2000)).toArray 32 (0, 0)) :: (gb, .cells #[.int .i64 1, strV [], .int .u8 20, .bool false, .int .i64 15000, .int .i64 0, .int .i64 0, .int .u8 0, .bool false, .int .i64 2, strV [], .int .u8 20, .bool false, .int .i64 9000, .int .i64 0, .int .i64 0, .int .u8 0, .bool false, .int .i64 3, strV [], .int .u8 40, .bool false, .int .i64 26001, .int .i64 0, .int .i64 0, .int .u8 0, .bool false, .int .i64 4, strV [], .int .u8 20, .bool false, .int .i64 12000, .int .i64 0, .int .i64 0, .int .u8 0, .bool false] 37 (0, 0)) :: (Kc ++ (Ko ++ (Tr ++ Kl5)))) ([⟨2, 3, 0⟩, ⟨2, 4, 3⟩] : List Ft) v1 K9) rfl Tw.kr Tw.kf (fun W hW => calls_tur hW ((by have h9 := Check_any exL pcS ccS (Nat.le_of_ble_eq_true rfl) (exO rp rc) poS coS (Nat.le_of_ble_eq_true rfl) tl0 2000 (exB 26001) (some ⟨gb, 0, none⟩) cb (Nat.le_of_ble_eq_true rfl) exS1 (some ⟨g3, 0, none⟩) 3 (Nat.le_of_ble_eq_true rfl) W (RC _ (hW.sub (fun p hp => by simp only [List.mem_cons, List.mem_append, List.nil_append, List.not_mem_nil, or_assoc, or_false, false_or, hp, true_or, or_true]))) (RO _ (hW.sub (fun p hp => by simp only [List.mem_cons, List.mem_append, List.nil_append, List.not_mem_nil, or_assoc, or_false, false_or, hp, true_or, or_true]))) (hRB.rw W (hW.sub (fun p hp => by simp only [List.mem_cons, List.mem_append, List.nil_append, List.not_mem_nil, or_assoc, or_false, false_or, hp, true_or, or_true]))) (fun o ho => by cases List.mem_singleton.1 ho; exact (Nat.le_of_ble_eq_true rfl)) (plr_nil exL_plugs) (fun c hc => by rw [exL_plugs c hc]; exact Nat.zero_le _) ((show RL boC w (some ⟨gb, 0, none⟩) (exB 26001) [(gb, .cells #[.int .i64 1, strV [], .int .u8 20, .bool false, .int .i64 15000, .int .i64 0, .int .i64 0, .int .u8 0, .bool false, .int .i64 2, strV [], .int .u8 20, .bool false, .int .i64 9000, .int .i64 0, .int .i64 0, .int .u8 0, .bool false, .int .i64 3, strV [], .int .u8 40, .bool false, .int .i64 26001, .int .i64 0, .int .i64 0, .int .u8 0, .bool false, .int .i64 4, strV [], .int .u8 20, .bool false, .int .i64 12000, .int .i64 0, .int .i64 0, .int .u8 0, .bool false] 37 (0, 0))] from fun W hW => blk_slv (cs := (exB 26001).flatMap boC) hW Tw.m0) _ (hW.sub (fun p hp => by cases List.mem_singleton.1 hp; exact Tw.m2))) ((show RL sdC w (some ⟨g3, 0, none⟩) exS1 [(g3, .cells #[.int .i64 1, .int .i64 2, .int .i64 0, .int .u8 1, .int .i64 2, .int .i64 2, .int .i64 0, .int .u8 2, .int .i64 3, .int .i64 2, .int .i64 1, .int .u8 0] 42 (0, 0))] from fun W hW => blk_slv (cs := exS1.flatMap sdC) hW Tw.m0) _ (hW.sub (fun p hp => by cases List.mem_singleton.1 hp; exact Tw.m0))) tl0_one; rw [(ev_c2 rp rc).1, (ev_c2 rp rc).2] at h9; exact h9))) Tw.pf ?_
     rintro _ _ ⟨_, rfl, p7, c7, Kl7, rfl, n7, R7, N7, rfl⟩
     obtain ⟨dj8_0, dj8_1, dj8_2, dj8_3, dj8_4, dj8_5, dj8_6⟩ : Dk g3 Kl7 ∧ Dk g1 Kl7 ∧ Dk gb Kl7 ∧ Dj Kc Kl7 ∧ Dj Ko Kl7 ∧ Dj Tr Kl7 ∧ Dj Kl5 Kl7 := Tw.djf N7
     refine wpL_sub (K2 := ((g3, .cells #[.int .i64 1, .int .i64 2, .int .i64 0, .int .u8 1, .int .i64 2, .int .i64 2, .int .i64 0, .int .u8 2, .int .i64 3, .int .i64 2, .int .i64 1, .int .u8 0] 42 (0, 0)) :: (g1, .cells (shC (.slice pcS exL.length ccS) (.slice poS ((exO rp rc).length) coS) (tlT tl0 2000)).toArray 32 (0, 0)) :: (gb, .cells #[.int .i64 1, strV [], .int .u8 20, .bool false, .int .i64 15000, .int .i64 0, .int .i64 0, .int .u8 0, .bool false, .int .i64 2, strV [], .int .u8 20, .bool false, .int .i64 9000, .int .i64 0, .int .i64 0, .int .u8 0, .bool false, .int .i64 3, strV [], .int .u8 40, .bool false, .int .i64 26001, .int .i64 0, .int .i64 0, .int .u8 0, .bool false, .int .i64 4, strV [], .int .u8 20, .bool false, .int .i64 12000, .int .i64 0, .int .i64 0, .int .u8 0, .bool false] 37 (0, 0)) :: (Kc ++ (Ko ++ (Tr ++ (Kl5 ++ Kl7)))))) (fun p hp => by simp only [List.mem_cons, List.mem_append, or_assoc] at hp ⊢; exact hp) ?_
     refine lm (v := .tuple #[.slice p7 (([⟨2, 3, 0⟩, ⟨2, 4, 3⟩] : List Ft).length) c7, .int .i64 0]) rfl rfl ?_
     refine lm (v := .slice p7 (([⟨2, 3, 0⟩, ⟨2, 4, 3⟩] : List Ft).length) c7) rfl rfl ?_
     refine lm (v := .int .i64 0) rfl rfl ?_
     refine lm (v := .slice p7 (([⟨2, 3, 0⟩, ⟨2, 4, 3⟩] : List Ft).length) c7) rfl rfl ?_
     refine lm (v := .int .i64 0) rfl rfl ?_
     refine wpL_done (fun W7 hW7 => ?_)
     change Code.wp ..
     refine wp_seq ?_
     refine wp_seq ?_
     refine wp_region_L _ hW7 ?_
     refine lm (v := .int .i64 0) rfl rfl ?_
     refine lm (v := .bool false) rfl rfl ?_
     refine lm (v := .bool false) rfl rfl ?_
     refine lm (v := .slice p7 (([⟨2, 3, 0⟩, ⟨2, 4, 3⟩] : List Ft).length) c7) rfl rfl ?_
     refine lm (v := .agg #[.int .i64 2, .int .u8 3, .int .i64 0]) rfl rfl ?_
     refine lm (v := .agg #[.int .i64 2, .int .u8 4, .int .i64 3]) rfl rfl ?_
     refine wpL_newg (fun g => .slice (some ⟨g, 0, none⟩) 2 2) (obi := .cells #[.int .i64 2, .int .u8 3, .int .i64 0, .int .i64 2, .int .u8 4, .int .i64 3] 71 (0, 0)) rfl Tw.kr Tw.kf Tw.pf fun g9 Bg9 Fg9 => ?_
     obtain ⟨dj10_0, dj10_1, dj10_2, dj10_3, dj10_4, dj10_5, dj10_6, dj10_7⟩ : g3 ≠ g9 ∧ g1 ≠ g9 ∧ gb ≠ g9 ∧ Dk g9 Kc ∧ Dk g9 Ko ∧ Dk g9 Tr ∧ Dk g9 Kl5 ∧ Dk g9 Kl7 := Tw.dkf Fg9
     refine lv (v := .bool true) rfl rfl (yb_call (f := 33) (args := #[.slice p7 (([⟨2, 3, 0⟩, ⟨2, 4, 3⟩] : List Ft).length) c7, .slice (some ⟨g9, 0, none⟩) 2 2]) Tw.kf fun W hW => (by have h9 := only_any ([⟨2, 3, 0⟩, ⟨2, 4, 3⟩] : List Ft) ([⟨2, 3, 0⟩, ⟨2, 4, 3⟩] : List Ft) p7 (some ⟨g9, 0, none⟩) c7 2 (Nat.le_of_ble_eq_true rfl) W (R7 _ (hW.sub (fun p hp => by simp only [List.mem_cons, List.mem_append, List.nil_append, List.not_mem_nil, or_assoc, or_false, false_or, hp, true_or, or_true]))) ((show RL ftC w (some ⟨g9, 0, none⟩) ([⟨2, 3, 0⟩, ⟨2, 4, 3⟩] : List Ft) [(g9, .cells #[.int .i64 2, .int .u8 3, .int .i64 0, .int .i64 2, .int .u8 4, .int .i64 3] 71 (0, 0))] from fun W hW => blk_slv (cs := ([⟨2, 3, 0⟩, ⟨2, 4, 3⟩] : List Ft).flatMap ftC) hW Tw.m0) _ (hW.sub (fun p hp => by cases List.mem_singleton.1 hp; exact Tw.m0))); exact h9)) ?_
     refine lm (v := .bool false) rfl rfl ?_
     refine lm (v := .bool false) rfl rfl ?_
     refine wpL_done (fun W8 hW8 => ?_)
     change Code.wp ..
     refine wp_cond_false rfl ?_
     refine wp_skip ?_
     change Code.wp ..
     refine wp_seq ?_
     refine wp_region_L _ hW8 ?_
     refine lv (v := .agg (sdC (⟨1, ⟨2, 0, 1⟩⟩ : Sd)).toArray) rfl rfl (yb_call (f := 10) (args := #[.int .i64 1, .int .i64 2, .int .i64 0, .int .u8 1]) Tw.kf fun W hW => at_any 1 2 0 1 W) ?_
     refine lv (v := .agg (sdC (⟨2, ⟨2, 0, 2⟩⟩ : Sd)).toArray) rfl rfl (yb_call (f := 10) (args := #[.int .i64 2, .int .i64 2, .int .i64 0, .int .u8 2]) Tw.kf fun W hW => at_any 2 2 0 2 W) ?_
     refine lv (v := .agg (sdC (⟨4, ⟨2, 1, 2⟩⟩ : Sd)).toArray) rfl rfl (yb_call (f := 10) (args := #[.int .i64 4, .int .i64 2, .int .i64 1, .int .u8 2]) Tw.kf fun W hW => at_any 4 2 1 2 W) ?_
     refine wpL_new (fun g => .slice (some ⟨g, 0, none⟩) 3 3) (obi := .cells #[.int .i64 1, .int .i64 2, .int .i64 0, .int .u8 1, .int .i64 2, .int .i64 2, .int .i64 0, .int .u8 2, .int .i64 4, .int .i64 2, .int .i64 1, .int .u8 2] 42 (0, 0)) rfl rfl Tw.kf Tw.pf fun g11 Bg11 Fg11 => ?_
     obtain ⟨dj12_0, dj12_1, dj12_2, dj12_3, dj12_4, dj12_5, dj12_6, dj12_7, dj12_8⟩ : g9 ≠ g11 ∧ g3 ≠ g11 ∧ g1 ≠ g11 ∧ gb ≠ g11 ∧ Dk g11 Kc ∧ Dk g11 Ko ∧ Dk g11 Tr ∧ Dk g11 Kl5 ∧ Dk g11 Kl7 := Tw.dkf Fg11
     refine lm (v := .slice (some ⟨g11, 0, none⟩) 3 3) rfl rfl ?_
     refine wpL_done (fun W9 hW9 => ?_)
     change Code.wp ..
     refine wp_seq ?_
     refine wp_region_L _ hW9 ?_
     refine lv (v := .agg (shC (.slice pcS exL.length ccS) (.slice poS ((exO rp rc).length) coS) (tlT tl0 2000)).toArray) rfl rfl (yb_load (n := 13) (off := 0) rfl Tw.kr Tw.m3 Try.underlying32 rfl Tw.kr (by first | (simp [Value.cells]; done) | exact Nat.le_of_ble_eq_true rfl) Tw.kr) ?_
     refine lm (v := .slice (some ⟨gb, 0, none⟩) 4 cb) rfl rfl ?_
     refine lm (v := .slice (some ⟨g11, 0, none⟩) 3 3) rfl rfl ?_
     refine wpL_c (f := 21) (args := #[.agg (shC (.slice pcS exL.length ccS) (.slice poS ((exO rp rc).length) coS) (tlT tl0 2000)).toArray, .slice (some ⟨gb, 0, none⟩) 4 cb, .slice (some ⟨g11, 0, none⟩) 3 3]) (fun v K9 => ∃ v1, v = .tuple #[v1, .int .i64 0] ∧ OutRL ftC w ((g11, .cells #[.int .i64 1, .int .i64 2, .int .i64 0, .int .u8 1, .int .i64 2, .int .i64 2, .int .i64 0, .int .u8 2, .int .i64 4, .int .i64 2, .int .i64 1, .int .u8 2] 42 (0, 0)) :: (g9, .cells #[.int .i64 2, .int .u8 3, .int .i64 0, .int .i64 2, .int .u8 4, .int .i64 3] 71 (0, 0)) :: (g3, .cells #[.int .i64 1, .int .i64 2, .int .i64 0, .int .u8 1, .int .i64 2, .int .i64 2, .int .i64 0, .int .u8 2, .int .i64 3, .int .i64 2, .int .i64 1, .int .u8 0] 42 (0, 0)) :: (g1, .cells (shC (.slice pcS exL.length ccS) (.slice poS ((exO rp rc).length) coS) (tlT tl0 2000)).toArray 32 (0, 0)) :: (gb, .cells #[.int .i64 1, strV [], .int .u8 20, .bool false, .int .i64 15000, .int .i64 0, .int .i64 0, .int .u8 0, .bool false, .int .i64 2, strV [], .int .u8 20, .bool false, .int .i64 9000, .int .i64 0, .int .i64 0, .int .u8 0, .bool false, .int .i64 3, strV [], .int .u8 40, .bool false, .int .i64 26001, .int .i64 0, .int .i64 0, .int .u8 0, .bool false, .int .i64 4, strV [], .int .u8 20, .bool false, .int .i64 12000, .int .i64 0, .int .i64 0, .int .u8 0, .bool false] 37 (0, 0)) :: (Kc ++ (Ko ++ (Tr ++ (Kl5 ++ Kl7))))) ([⟨2, 4, 4⟩] : List Ft) v1 K9) rfl Tw.kr Tw.kf (fun W hW => calls_tur hW ((by have h9 := Check_any exL pcS ccS (Nat.le_of_ble_eq_true rfl) (exO rp rc) poS coS (Nat.le_of_ble_eq_true rfl) tl0 2000 (exB 26001) (some ⟨gb, 0, none⟩) cb (Nat.le_of_ble_eq_true rfl) exS2 (some ⟨g11, 0, none⟩) 3 (Nat.le_of_ble_eq_true rfl) W (RC _ (hW.sub (fun p hp => by simp only [List.mem_cons, List.mem_append, List.nil_append, List.not_mem_nil, or_assoc, or_false, false_or, hp, true_or, or_true]))) (RO _ (hW.sub (fun p hp => by simp only [List.mem_cons, List.mem_append, List.nil_append, List.not_mem_nil, or_assoc, or_false, false_or, hp, true_or, or_true]))) (hRB.rw W (hW.sub (fun p hp => by simp only [List.mem_cons, List.mem_append, List.nil_append, List.not_mem_nil, or_assoc, or_false, false_or, hp, true_or, or_true]))) (fun o ho => by cases List.mem_singleton.1 ho; exact (Nat.le_of_ble_eq_true rfl)) (plr_nil exL_plugs) (fun c hc => by rw [exL_plugs c hc]; exact Nat.zero_le _) ((show RL boC w (some ⟨gb, 0, none⟩) (exB 26001) [(gb, .cells #[.int .i64 1, strV [], .int .u8 20, .bool false, .int .i64 15000, .int .i64 0, .int .i64 0, .int .u8 0, .bool false, .int .i64 2, strV [], .int .u8 20, .bool false, .int .i64 9000, .int .i64 0, .int .i64 0, .int .u8 0, .bool false, .int .i64 3, strV [], .int .u8 40, .bool false, .int .i64 26001, .int .i64 0, .int .i64 0, .int .u8 0, .bool false, .int .i64 4, strV [], .int .u8 20, .bool false, .int .i64 12000, .int .i64 0, .int .i64 0, .int .u8 0, .bool false] 37 (0, 0))] from fun W hW => blk_slv (cs := (exB 26001).flatMap boC) hW Tw.m0) _ (hW.sub (fun p hp => by cases List.mem_singleton.1 hp; exact Tw.m4))) ((show RL sdC w (some ⟨g11, 0, none⟩) exS2 [(g11, .cells #[.int .i64 1, .int .i64 2, .int .i64 0, .int .u8 1, .int .i64 2, .int .i64 2, .int .i64 0, .int .u8 2, .int .i64 4, .int .i64 2, .int .i64 1, .int .u8 2] 42 (0, 0))] from fun W hW => blk_slv (cs := exS2.flatMap sdC) hW Tw.m0) _ (hW.sub (fun p hp => by cases List.mem_singleton.1 hp; exact Tw.m0))) tl0_one; rw [(ev_c3 rp rc).1, (ev_c3 rp rc).2] at h9; exact h9))) Tw.pf ?_
     rintro _ _ ⟨_, rfl, p13, c13, Kl13, rfl, n13, R13, N13, rfl⟩
     obtain ⟨dj14_0, dj14_1, dj14_2, dj14_3, dj14_4, dj14_5, dj14_6, dj14_7, dj14_8, dj14_9⟩ : Dk g11 Kl13 ∧ Dk g9 Kl13 ∧ Dk g3 Kl13 ∧ Dk g1 Kl13 ∧ Dk gb Kl13 ∧ Dj Kc Kl13 ∧ Dj Ko Kl13 ∧ Dj Tr Kl13 ∧ Dj Kl5 Kl13 ∧ Dj Kl7 Kl13 := Tw.djf N13
     refine wpL_sub (K2 := ((g11, .cells #[.int .i64 1, .int .i64 2, .int .i64 0, .int .u8 1, .int .i64 2, .int .i64 2, .int .i64 0, .int .u8 2, .int .i64 4, .int .i64 2, .int .i64 1, .int .u8 2] 42 (0, 0)) :: (g9, .cells #[.int .i64 2, .int .u8 3, .int .i64 0, .int .i64 2, .int .u8 4, .int .i64 3] 71 (0, 0)) :: (g3, .cells #[.int .i64 1, .int .i64 2, .int .i64 0, .int .u8 1, .int .i64 2, .int .i64 2, .int .i64 0, .int .u8 2, .int .i64 3, .int .i64 2, .int .i64 1, .int .u8 0] 42 (0, 0)) :: (g1, .cells (shC (.slice pcS exL.length ccS) (.slice poS ((exO rp rc).length) coS) (tlT tl0 2000)).toArray 32 (0, 0)) :: (gb, .cells #[.int .i64 1, strV [], .int .u8 20, .bool false, .int .i64 15000, .int .i64 0, .int .i64 0, .int .u8 0, .bool false, .int .i64 2, strV [], .int .u8 20, .bool false, .int .i64 9000, .int .i64 0, .int .i64 0, .int .u8 0, .bool false, .int .i64 3, strV [], .int .u8 40, .bool false, .int .i64 26001, .int .i64 0, .int .i64 0, .int .u8 0, .bool false, .int .i64 4, strV [], .int .u8 20, .bool false, .int .i64 12000, .int .i64 0, .int .i64 0, .int .u8 0, .bool false] 37 (0, 0)) :: (Kc ++ (Ko ++ (Tr ++ (Kl5 ++ (Kl7 ++ Kl13))))))) (fun p hp => by simp only [List.mem_cons, List.mem_append, or_assoc] at hp ⊢; exact hp) ?_
     refine lm (v := .tuple #[.slice p13 (([⟨2, 4, 4⟩] : List Ft).length) c13, .int .i64 0]) rfl rfl ?_
     refine lm (v := .slice p13 (([⟨2, 4, 4⟩] : List Ft).length) c13) rfl rfl ?_
     refine lm (v := .int .i64 0) rfl rfl ?_
     refine lm (v := .slice p13 (([⟨2, 4, 4⟩] : List Ft).length) c13) rfl rfl ?_
     refine lm (v := .int .i64 0) rfl rfl ?_
     refine wpL_done (fun W10 hW10 => ?_)
     change Code.wp ..
     refine wp_seq ?_
     refine wp_region_V _ Tw.kr hW10 ?_
     refine vm (i := 0) (v := .int .i64 0) rfl rfl rfl ?_
     refine vm (i := 1) (v := .bool true) rfl rfl rfl ?_
     refine vm (i := 2) (v := .bool true) rfl rfl rfl ?_
     refine vm (i := 3) (v := .slice p13 (([⟨2, 4, 4⟩] : List Ft).length) c13) rfl rfl rfl ?_
     refine vm (i := 4) (v := .agg #[.int .i64 2, .int .u8 4, .int .i64 4]) rfl rfl rfl ?_
     refine wpV_nsg (fun g => .slice (some ⟨g, 0, none⟩) 1 1) (i := 5) (obi := .cells #[.int .i64 2, .int .u8 4, .int .i64 4] 71 (0, 0)) rfl rfl rfl Tw.kr Tw.kf Tw.pf fun g15 Bg15 Fg15 => ?_
     obtain ⟨dj16_0, dj16_1, dj16_2, dj16_3, dj16_4, dj16_5, dj16_6, dj16_7, dj16_8, dj16_9, dj16_10⟩ : g11 ≠ g15 ∧ g9 ≠ g15 ∧ g3 ≠ g15 ∧ g1 ≠ g15 ∧ gb ≠ g15 ∧ Dk g15 Kc ∧ Dk g15 Ko ∧ Dk g15 Tr ∧ Dk g15 Kl5 ∧ Dk g15 Kl7 ∧ Dk g15 Kl13 := Tw.dkf Fg15
     refine vv (i := 6) (v := .bool true) rfl rfl rfl (yb_call (f := 33) (args := #[.slice p13 (([⟨2, 4, 4⟩] : List Ft).length) c13, .slice (some ⟨g15, 0, none⟩) 1 1]) Tw.kf fun W hW => (by have h9 := only_any ([⟨2, 4, 4⟩] : List Ft) ([⟨2, 4, 4⟩] : List Ft) p13 (some ⟨g15, 0, none⟩) c13 1 (Nat.le_of_ble_eq_true rfl) W (R13 _ (hW.sub (fun p hp => by simp only [List.mem_cons, List.mem_append, List.nil_append, List.not_mem_nil, or_assoc, or_false, false_or, hp, true_or, or_true]))) ((show RL ftC w (some ⟨g15, 0, none⟩) ([⟨2, 4, 4⟩] : List Ft) [(g15, .cells #[.int .i64 2, .int .u8 4, .int .i64 4] 71 (0, 0))] from fun W hW => blk_slv (cs := ([⟨2, 4, 4⟩] : List Ft).flatMap ftC) hW Tw.m0) _ (hW.sub (fun p hp => by cases List.mem_singleton.1 hp; exact Tw.m0))); exact h9)) ?_
     refine vm (i := 7) (v := .bool true) rfl rfl rfl ?_
     refine vm (i := 8) (v := .bool true) rfl rfl rfl ?_
     refine vv (i := 9) (v := .agg (shC (.slice pcS exL.length ccS) (.slice poS ((exO rp rc).length) coS) (tlT tl0 2000)).toArray) rfl rfl rfl (yb_load (n := 13) (off := 0) rfl Tw.kr Tw.m4 Try.underlying32 rfl Tw.kr (by first | (simp [Value.cells]; done) | exact Nat.le_of_ble_eq_true rfl) Tw.kr) ?_
     refine vm (i := 10) (v := .slice (some ⟨gb, 0, none⟩) 4 cb) rfl rfl rfl ?_
     refine vm (i := 11) (v := .slice (some ⟨g11, 0, none⟩) 3 3) rfl rfl rfl ?_
     refine vp (i := 12) (v := .slice (some ⟨g11, 0, none⟩) 2 3) rfl rfl rfl (run_slt (kd := .i64) (j := 2) (n := 3) (c := 3) (sz := 4) rfl Try.underlying38 Tw.kr Tw.kr Tw.kr (by decide)) ?_
     refine vm (i := 13) (v := .agg #[.int .i64 2, .int .i64 1, .int .u8 2]) rfl rfl rfl ?_
     refine vv (i := 14) (v := .int .i64 11000) rfl rfl rfl (yb_call (f := 16) (args := #[.agg (shC (.slice pcS exL.length ccS) (.slice poS ((exO rp rc).length) coS) (tlT tl0 2000)).toArray, .slice (some ⟨gb, 0, none⟩) 4 cb, .slice (some ⟨g11, 0, none⟩) 2 3, .agg #[.int .i64 2, .int .i64 1, .int .u8 2]]) Tw.kf fun W hW => (by have h9 := Room_any exL pcS ccS (Nat.le_of_ble_eq_true rfl) poS (exO rp rc).length coS tl0 2000 (exB 26001) (some ⟨gb, 0, none⟩) cb (Nat.le_of_ble_eq_true rfl) (exS2.take 2) (some ⟨g11, 0, none⟩) 3 (Nat.le_of_ble_eq_true rfl) ⟨2, 1, 2⟩ W (RC _ (hW.sub (fun p hp => by simp only [List.mem_cons, List.mem_append, List.nil_append, List.not_mem_nil, or_assoc, or_false, false_or, hp, true_or, or_true]))) ((show RL boC w (some ⟨gb, 0, none⟩) (exB 26001) [(gb, .cells #[.int .i64 1, strV [], .int .u8 20, .bool false, .int .i64 15000, .int .i64 0, .int .i64 0, .int .u8 0, .bool false, .int .i64 2, strV [], .int .u8 20, .bool false, .int .i64 9000, .int .i64 0, .int .i64 0, .int .u8 0, .bool false, .int .i64 3, strV [], .int .u8 40, .bool false, .int .i64 26001, .int .i64 0, .int .i64 0, .int .u8 0, .bool false, .int .i64 4, strV [], .int .u8 20, .bool false, .int .i64 12000, .int .i64 0, .int .i64 0, .int .u8 0, .bool false] 37 (0, 0))] from fun W hW => blk_slv (cs := (exB 26001).flatMap boC) hW Tw.m0) _ (hW.sub (fun p hp => by cases List.mem_singleton.1 hp; exact Tw.m5))) (((show RL sdC w (some ⟨g11, 0, none⟩) exS2 [(g11, .cells #[.int .i64 1, .int .i64 2, .int .i64 0, .int .u8 1, .int .i64 2, .int .i64 2, .int .i64 0, .int .u8 2, .int .i64 4, .int .i64 2, .int .i64 1, .int .u8 2] 42 (0, 0))] from fun W hW => blk_slv (cs := exS2.flatMap sdC) hW Tw.m0).take sdC_len 2) _ (hW.sub (fun p hp => by cases List.mem_singleton.1 hp; exact Tw.m1))); rw [ev_r1] at h9; exact h9)) ?_
     refine vm (i := 15) (v := .bool true) rfl rfl rfl ?_
     refine vm (i := 16) (v := .bool true) rfl rfl rfl ?_
     refine vm (i := 17) (v := .bool true) rfl rfl rfl ?_
     refine vv (i := 18) (v := .agg (shC (.slice pcS exL.length ccS) (.slice poS ((exO rp rc).length) coS) (tlT tl0 2000)).toArray) rfl rfl rfl (yb_load (n := 13) (off := 0) rfl Tw.kr Tw.m4 Try.underlying32 rfl Tw.kr (by first | (simp [Value.cells]; done) | exact Nat.le_of_ble_eq_true rfl) Tw.kr) ?_
     refine vm (i := 19) (v := .slice (some ⟨gb, 0, none⟩) 4 cb) rfl rfl rfl ?_
     refine vm (i := 20) (v := .slice (some ⟨g11, 0, none⟩) 3 3) rfl rfl rfl ?_
     refine vp (i := 21) (v := .slice (some ⟨g11, 0, none⟩) 2 3) rfl rfl rfl (run_slt (kd := .i64) (j := 2) (n := 3) (c := 3) (sz := 4) rfl Try.underlying38 Tw.kr Tw.kr Tw.kr (by decide)) ?_
     refine vm (i := 22) (v := .agg #[.int .i64 2, .int .i64 1, .int .u8 1]) rfl rfl rfl ?_
     refine vv (i := 23) (v := .int .i64 15000) rfl rfl rfl (yb_call (f := 16) (args := #[.agg (shC (.slice pcS exL.length ccS) (.slice poS ((exO rp rc).length) coS) (tlT tl0 2000)).toArray, .slice (some ⟨gb, 0, none⟩) 4 cb, .slice (some ⟨g11, 0, none⟩) 2 3, .agg #[.int .i64 2, .int .i64 1, .int .u8 1]]) Tw.kf fun W hW => (by have h9 := Room_any exL pcS ccS (Nat.le_of_ble_eq_true rfl) poS (exO rp rc).length coS tl0 2000 (exB 26001) (some ⟨gb, 0, none⟩) cb (Nat.le_of_ble_eq_true rfl) (exS2.take 2) (some ⟨g11, 0, none⟩) 3 (Nat.le_of_ble_eq_true rfl) ⟨2, 1, 1⟩ W (RC _ (hW.sub (fun p hp => by simp only [List.mem_cons, List.mem_append, List.nil_append, List.not_mem_nil, or_assoc, or_false, false_or, hp, true_or, or_true]))) ((show RL boC w (some ⟨gb, 0, none⟩) (exB 26001) [(gb, .cells #[.int .i64 1, strV [], .int .u8 20, .bool false, .int .i64 15000, .int .i64 0, .int .i64 0, .int .u8 0, .bool false, .int .i64 2, strV [], .int .u8 20, .bool false, .int .i64 9000, .int .i64 0, .int .i64 0, .int .u8 0, .bool false, .int .i64 3, strV [], .int .u8 40, .bool false, .int .i64 26001, .int .i64 0, .int .i64 0, .int .u8 0, .bool false, .int .i64 4, strV [], .int .u8 20, .bool false, .int .i64 12000, .int .i64 0, .int .i64 0, .int .u8 0, .bool false] 37 (0, 0))] from fun W hW => blk_slv (cs := (exB 26001).flatMap boC) hW Tw.m0) _ (hW.sub (fun p hp => by cases List.mem_singleton.1 hp; exact Tw.m5))) (((show RL sdC w (some ⟨g11, 0, none⟩) exS2 [(g11, .cells #[.int .i64 1, .int .i64 2, .int .i64 0, .int .u8 1, .int .i64 2, .int .i64 2, .int .i64 0, .int .u8 2, .int .i64 4, .int .i64 2, .int .i64 1, .int .u8 2] 42 (0, 0))] from fun W hW => blk_slv (cs := exS2.flatMap sdC) hW Tw.m0).take sdC_len 2) _ (hW.sub (fun p hp => by cases List.mem_singleton.1 hp; exact Tw.m1))); rw [ev_r2] at h9; exact h9)) ?_
     refine vm (i := 24) (v := .bool true) rfl rfl rfl ?_
     refine vm (i := 25) (v := .bool true) rfl rfl rfl ?_
     refine vm (i := 26) (v := .bool true) rfl rfl rfl ?_
     refine wpV_done Tw.kr (fun W11 hW11 => ?_) _
     change Code.wp ..
     refine wp_ret ?_
     try simp only [inBlock_ret, then_ret]
     refine bodyPost_ret (v := .bool true) ?_ rfl ?_
     · kernel_rfl
     · exact ⟨rfl, hW11.1⟩
end Go.Proofs.Ytnbfljcilojllaa
namespace Go.Proofs.Ytnbfljcilojllaa
open Go Go.RowKit Tw
set_option maxRecDepth 100000 in
set_option maxHeartbeats 40000000 in
theorem StackWrong_law (l : List Pl) (p : Option Addr) (c : Nat) (n : Nat) (hl : l.length ≤ 9223372036854775807) (hcap : l.length ≤ c) (hok : ∀ y ∈ l, plOk y) (hn : n ≤ 4294967295) (wh wa wt : Nat) (hwh : wh ≤ 255) (hwa : wa ≤ 255) (hwt : wt ≤ 255) (ds : List Dp) (dp : Option Addr) (dc : Nat) (ld : ds.length ≤ 9223372036854775807) (hdc : ds.length ≤ dc) (hd8 : ∀ d ∈ ds, d.col ≤ 255 ∧ d.kil ≤ 255) (zn : Int) (w : World) (hp : SLV w p (l.flatMap plC)) (hd : SLV w dp (ds.flatMap dpC)) : Calls Try.prog 8 #[.slice p l.length c, .int .u32 ((n : Nat) : Int), .agg #[.int .u8 ((wh : Nat) : Int), .int .u8 ((wa : Nat) : Int), .int .u8 ((wt : Nat) : Int)], .slice dp ds.length dc, .int .i64 zn] w fun e w' => e = .returned (.bool true) ∧ Below w.heap.size w w' := by
 have HP := Lib.hid hp
 clear hp
 have HD := Lib.hid hd
 clear hd
 obtain ⟨cs, hcs⟩ : ∃ cs, builtC l = cs := ⟨_, rfl⟩
 have hg : Good cs := hcs ▸ built_good l
 obtain ⟨h0, h12⟩ : 0 < cs.length ∧ cs.length ≤ 12 := hcs ▸ built_len l
 obtain ⟨csL, hcsL⟩ : ∃ x, limC wh wa cs = x := ⟨_, rfl⟩
 have hlL : csL.length = cs.length := by rw [← hcsL]; exact lim_len _ _ _
 have hplL := hcsL ▸ lim_plugs (h := wh) (a := wa) hg
 have htL : ∀ c ∈ csL, c.tiers ≤ 10 := fun c hc => (lim_tiers (h := wh) (a := wa) hg c (hcsL ▸ hc)).2
 obtain ⟨tn, htn⟩ : ∃ n, 100 * wt = n := ⟨_, rfl⟩
 have htb : tn ≤ 25500 := by omega
 go_enter Try.func8, Try.ntmps8
 refine wp_seq ?_
 refine wp_region_L [] (KS.start w) ?_
 refine wpL_new (fun g => .pointer (some ⟨g, 0, none⟩)) (obi := .cells #[.int .u8 ((wh : Nat) : Int), .int .u8 ((wa : Nat) : Int), .int .u8 ((wt : Nat) : Int)] 52 (0, 0)) rfl rfl Tw.kf Tw.pf fun g1 Bg1 Fg1 => ?_
 refine lm (v := .bool false) rfl rfl ?_
 refine wpL_done (fun W1 hW1 => ?_)
 change Code.wp ..
 refine wp_seq ?_
 refine wp_region_L _ hW1 ?_
 refine lm (v := .slice p l.length c) rfl rfl ?_
 refine lm (v := .int .u32 ((n : Nat) : Int)) rfl rfl ?_
 refine lv (v := .agg #[.int .u8 ((wh : Nat) : Int), .int .u8 ((wa : Nat) : Int), .int .u8 ((wt : Nat) : Int)]) rfl rfl (yb_load (n := 3) (off := 0) rfl Tw.kr Tw.m0 Try.underlying52 rfl Tw.kr (by first | (simp [Value.cells]; done) | exact Nat.le_of_ble_eq_true rfl) Tw.kr) ?_
 refine lm (v := .slice dp ds.length dc) rfl rfl ?_
 refine wpL_c (f := 13) (args := #[.slice p l.length c, .int .u32 ((n : Nat) : Int), .agg #[.int .u8 ((wh : Nat) : Int), .int .u8 ((wa : Nat) : Int), .int .u8 ((wt : Nat) : Int)], .slice dp ds.length dc]) (LimF w [(g1, .cells #[.int .u8 ((wh : Nat) : Int), .int .u8 ((wa : Nat) : Int), .int .u8 ((wt : Nat) : Int)] 52 (0, 0))] csL (builtO n) ((tn : Nat) : Int) ds) rfl Tw.kr Tw.kf (fun W hW => calls_lim hW (by have h9 := Limited_any l p c n hl hcap hok hn wh wa wt hwh hwa hwt ds dp dc ld hdc hd8 W (HP.out.keep hW.1) (HD.out.keep hW.1); rw [hcs, hcsL, htn] at h9; exact h9)) Tw.pf ?_
 rintro _ _ ⟨pcS, ccS, osS, poS, coS, pB, cB, pS, cS, rfl, hMS, _, hLF⟩
 refine wpL_rebase fun WB hWB => ?_
 obtain ⟨hC1, hO1, hR1, hB1, hS1⟩ := hLF WB hWB
 obtain ⟨kk, hkk, hLD⟩ := loaded_ok csL osS ds
 obtain ⟨bs, hbs⟩ : ∃ x, (loadedX csL osS ds).1 = x := ⟨_, rfl⟩
 obtain ⟨st, hst⟩ : ∃ x, (loadedX csL osS ds).2 = x := ⟨_, rfl⟩
 rw [hbs, hst]
 rw [hbs] at hB1
 rw [hst] at hS1
 rw [hbs, hst] at hLD
 have hbl : bs.length ≤ 9 := by have := hLD.len; omega
 have hsl : st.length ≤ 9 := by have := hLD.st; omega
 have hoS : GoodO (osS.map fun o => (o.bay, o.rows)) := by rw [hMS]; exact builtO_sub n
 have loS : osS.length ≤ 10 := by have h8 := congrArg List.length hMS; rw [List.length_map] at h8; have h9 := builtO_len n; omega
 have lrS := goodO_rows hoS
 have HCS := Lib.hid hC1
 clear hC1
 have HOS := Lib.hid hO1
 clear hO1
 have HRS := Lib.hid hR1
 clear hR1
 have HBS := Lib.hid hB1
 clear hB1
 have HSS := Lib.hid hS1
 clear hS1
 have HPS := Lib.hid (hplL.1 WB)
 have lpS := hplL.2
 obtain ⟨far, hfar⟩ : ∃ x, max zn ((csL.length : Nat) : Int) = x := ⟨_, rfl⟩
 have hfl : ((csL.length : Nat) : Int) ≤ far := by omega
 obtain ⟨nn, hnn⟩ : ∃ x, min zn (-1) = x := ⟨_, rfl⟩
 have hnl : nn < 0 := by omega
 refine lm (v := .tuple #[.agg (shC (.slice pcS csL.length ccS) (.slice poS osS.length coS) (tlT tl0 ((tn : Nat) : Int))).toArray, .slice pB bs.length cB, .slice pS st.length cS]) rfl rfl ?_
 refine lm (v := .agg (shC (.slice pcS csL.length ccS) (.slice poS osS.length coS) (tlT tl0 ((tn : Nat) : Int))).toArray) rfl rfl ?_
 refine lm (v := .slice pB bs.length cB) rfl rfl ?_
 refine lm (v := .slice pS st.length cS) rfl rfl ?_
 refine wpL_new (fun g => .pointer (some ⟨g, 0, none⟩)) (obi := .cells (shC (.slice none 0 0) (.slice none 0 0) tl0).toArray 32 (0, 0)) rfl rfl Tw.kf Tw.pf fun g2 Bg2 Fg2 => ?_
 refine wpL_s [(g2, .cells (shC (.slice pcS csL.length ccS) (.slice poS osS.length coS) (tlT tl0 ((tn : Nat) : Int))).toArray 32 (0, 0))] rfl rfl (st_row (off := 0) (v := .agg (shC (.slice pcS csL.length ccS) (.slice poS osS.length coS) (tlT tl0 ((tn : Nat) : Int))).toArray) rfl Tw.kr Tw.kr Tw.m0 Bg2 Tw.kr (by first | (simp [Value.cells]; done) | exact Nat.le_of_ble_eq_true rfl) (fun v hv => shT_one v hv) Tw.kr (List.forall_mem_cons.2 ⟨.inl rfl, (List.forall_mem_nil _)⟩)) ?_
 refine lm (v := .slice pB bs.length cB) rfl rfl ?_
 refine lm (v := .slice pS st.length cS) rfl rfl ?_
 refine wpL_done (fun W2 hW2 => ?_)
 change Code.wp ..
 refine wp_seq ?_
 refine wp_region_L (W0 := WB) [(g2, .cells (shC (.slice pcS csL.length ccS) (.slice poS osS.length coS) (tlT tl0 ((tn : Nat) : Int))).toArray 32 (0, 0))] (hW2) ?_
 refine wpL_new (fun g => .slice (some ⟨g, 0, none⟩) 0 0) (obi := .cells #[] 37 (0, 0)) rfl rfl Tw.kf Tw.pf fun g3 Bg3 Fg3 => ?_
 obtain dj4_0 : g2 ≠ g3 := Tw.dkf Fg3
 refine lm (v := .slice pB bs.length cB) rfl rfl ?_
 refine wpL_g (AppO WB 37 9 [(g2, .cells (shC (.slice pcS csL.length ccS) (.slice poS osS.length coS) (tlT tl0 ((tn : Nat) : Int))).toArray 32 (0, 0))] (0 + bs.length) ((([] : List Bo).flatMap boC) ++ (bs.flatMap boC))) rfl rfl (app_any el_bo (m := bs.length) (news := (bs.flatMap boC)) (y := .slice pB bs.length cB) rfl Tw.kr Tw.kr (src_rl (c := cB) Try.underlying33 boC_len boC_one (by decide) ((RL.base HBS.out).mono (fun _ h => by cases h)) rfl) (own_rnone (cells := boC) Bg3) (fun p hp => by cases List.mem_singleton.1 hp; exact Tw.m0) (fun p hp => ⟨by simp only [List.mem_cons, List.mem_append, List.nil_append, List.not_mem_nil, or_assoc, or_false, false_or] at hp ⊢ <;> grind, (show Dj [(g2, .cells (shC (.slice pcS csL.length ccS) (.slice poS osS.length coS) (tlT tl0 ((tn : Nat) : Int))).toArray 32 (0, 0))] [(g3, .cells #[] 37 (0, 0))] from Tw.djt) p hp⟩) Tw.om Tw.om) Tw.pf ?_
 rintro v5 K9 ⟨Kl5, O5, N5, rfl⟩
 obtain dj6_0 : Dk g2 Kl5 := Tw.djf N5
 refine lm (v := v5) rfl rfl ?_
 refine wpL_done (fun W3 hW3 => ?_)
 change Code.wp ..
 refine wp_seq ?_
 refine wp_region_L (W0 := WB) ((g2, .cells (shC (.slice pcS csL.length ccS) (.slice poS osS.length coS) (tlT tl0 ((tn : Nat) : Int))).toArray 32 (0, 0)) :: Kl5) (hW3) ?_
 refine lm (v := v5) rfl rfl ?_
 refine lm (v := .agg #[.int .i64 900, strV [], .int .u8 40, .bool false, .int .i64 1, .int .i64 0, .int .i64 1, .int .u8 0, .bool false]) rfl rfl ?_
 refine wpL_new (fun g => .slice (some ⟨g, 0, none⟩) 1 1) (obi := .cells #[.int .i64 900, strV [], .int .u8 40, .bool false, .int .i64 1, .int .i64 0, .int .i64 1, .int .u8 0, .bool false] 37 (0, 0)) rfl rfl Tw.kf Tw.pf fun g7 Bg7 Fg7 => ?_
 obtain ⟨dj8_0, dj8_1⟩ : g2 ≠ g7 ∧ Dk g7 Kl5 := Tw.dkf Fg7
 refine wpL_g (AppO WB 37 9 [(g2, .cells (shC (.slice pcS csL.length ccS) (.slice poS osS.length coS) (tlT tl0 ((tn : Nat) : Int))).toArray 32 (0, 0))] ((0 + bs.length) + 1) (((([] : List Bo).flatMap boC) ++ (bs.flatMap boC)) ++ [.int .i64 900, strV [], .int .u8 40, .bool false, .int .i64 1, .int .i64 0, .int .i64 1, .int .u8 0, .bool false])) rfl rfl (app_own el_bo (m := 1) (c := 1) (news := [.int .i64 900, strV [], .int .u8 40, .bool false, .int .i64 1, .int .i64 0, .int .i64 1, .int .u8 0, .bool false]) rfl Tw.kr Tw.kr Tw.m0 O5 Tw.sc (fun p hp => ⟨by simp only [List.mem_cons, List.mem_append, List.nil_append, List.not_mem_nil, or_assoc, or_false, false_or] at hp ⊢ <;> grind, (show Dj [(g2, .cells (shC (.slice pcS csL.length ccS) (.slice poS osS.length coS) (tlT tl0 ((tn : Nat) : Int))).toArray 32 (0, 0))] Kl5 from Tw.djt) p hp⟩) rfl (by simp [strV, Value.oneCell']) Tw.om Tw.om Tw.om) Tw.pf ?_
 rintro v9 K9 ⟨Kl9, O9, N9, rfl⟩
 obtain dj10_0 : Dk g2 Kl9 := Tw.djf N9
 refine lm (v := v9) rfl rfl ?_
 refine wpL_done (fun W4 hW4 => ?_)
 change Code.wp ..
 refine wp_seq ?_
 have hq11 := own_app (cells := boC) (l' := (bs ++ [newB])) O9 (by simp only [List.flatMap_append, List.flatMap_nil, List.nil_append]; rfl) (by simp only [List.length_append, List.length_nil, List.length_cons] <;> omega)
 obtain ⟨mrN, hmrN⟩ : ∃ x, (bs ++ [newB]) = x := ⟨_, rfl⟩
 rw [hmrN] at hq11
 have lmrN : mrN.length = bs.length + 1 := by rw [← hmrN]; simp only [List.length_append, List.length_nil, List.length_cons] <;> omega
 obtain ⟨p11, c11, rfl, n11, R11⟩ := own_rl hq11
 refine wp_region_L (W0 := WB) ((g2, .cells (shC (.slice pcS csL.length ccS) (.slice poS osS.length coS) (tlT tl0 ((tn : Nat) : Int))).toArray 32 (0, 0)) :: Kl9) (hW4) ?_
 refine lm (v := .int .i64 zn) rfl rfl ?_
 refine lm (v := .pointer (some ⟨g2, 0, none⟩)) rfl rfl ?_
 refine lv (v := .slice pcS csL.length ccS) rfl rfl (yb_cell (off := 0) rfl Tw.kr Tw.m0 Try.underlying22 rfl Tw.kr) ?_
 refine lp (v := .int .i64 ((csL.length : Nat) : Int)) rfl rfl (run_lenL (p := pcS) (cap := ccS) (n := csL.length) rfl Try.underlying22 Tw.kr) ?_
 refine lp (v := .int .i64 far) rfl rfl (run_max2 (x := zn) (y := ((csL.length : Nat) : Int)) (z := far) rfl Tw.kr Tw.kr hfar) ?_
 refine lm (v := .int .i64 far) rfl rfl ?_
 refine wpL_done (fun W5 hW5 => ?_)
 change Code.wp ..
 refine wp_seq ?_
 refine wp_seq ?_
 refine wp_region_L (W0 := WB) ((g2, .cells (shC (.slice pcS csL.length ccS) (.slice poS osS.length coS) (tlT tl0 ((tn : Nat) : Int))).toArray 32 (0, 0)) :: Kl9) (hW5) ?_
 refine lm (v := .int .i64 far) rfl rfl ?_
 refine lv (v := .agg (sdC (⟨900, ⟨far, 0, 0⟩⟩ : Sd)).toArray) rfl rfl (yb_call (f := 10) (args := #[.int .i64 900, .int .i64 far, .int .i64 0, .int .u8 0]) Tw.kf fun W hW => at_any 900 far 0 0 W) ?_
 refine lv (v := .agg (sdC (⟨900, ⟨0, 10, 0⟩⟩ : Sd)).toArray) rfl rfl (yb_call (f := 10) (args := #[.int .i64 900, .int .i64 0, .int .i64 10, .int .u8 0]) Tw.kf fun W hW => at_any 900 0 10 0 W) ?_
 refine lv (v := .agg (sdC (⟨900, ⟨0, 0, 1⟩⟩ : Sd)).toArray) rfl rfl (yb_call (f := 10) (args := #[.int .i64 900, .int .i64 0, .int .i64 0, .int .u8 1]) Tw.kf fun W hW => at_any 900 0 0 1 W) ?_
 refine lv (v := .agg (sdC (⟨901, ⟨0, 0, 0⟩⟩ : Sd)).toArray) rfl rfl (yb_call (f := 10) (args := #[.int .i64 901, .int .i64 0, .int .i64 0, .int .u8 0]) Tw.kf fun W hW => at_any 901 0 0 0 W) ?_
 refine lv (v := .agg (sdC (⟨900, ⟨(-1), 0, 0⟩⟩ : Sd)).toArray) rfl rfl (yb_call (f := 10) (args := #[.int .i64 900, .int .i64 (-1), .int .i64 0, .int .u8 0]) Tw.kf fun W hW => at_any 900 (-1) 0 0 W) ?_
 refine wpL_new (fun g => .slice (some ⟨g, 0, none⟩) 5 5) (obi := .cells #[.int .i64 900, .int .i64 far, .int .i64 0, .int .u8 0, .int .i64 900, .int .i64 0, .int .i64 10, .int .u8 0, .int .i64 900, .int .i64 0, .int .i64 0, .int .u8 1, .int .i64 901, .int .i64 0, .int .i64 0, .int .u8 0, .int .i64 900, .int .i64 (-1), .int .i64 0, .int .u8 0] 42 (0, 0)) rfl rfl Tw.kf Tw.pf fun g12 Bg12 Fg12 => ?_
 obtain ⟨dj13_0, dj13_1⟩ : g2 ≠ g12 ∧ Dk g12 Kl9 := Tw.dkf Fg12
 refine lm (v := .int .i64 5) rfl rfl ?_
 refine lm (v := .int .i64 0) rfl rfl ?_
 refine wpL_done (fun W6 hW6 => ?_)
 change Code.wp ..
 refine wp_block ?_
 have h5 : (badL far).length = 5 := rfl
 go_loopw [51] (fun u51 wr => ∃ (k : Nat), (k ≤ 5) ∧ u51 = .int .i64 ((k : Nat) : Int) ∧ KS WB ((g12, .cells #[.int .i64 900, .int .i64 far, .int .i64 0, .int .u8 0, .int .i64 900, .int .i64 0, .int .i64 10, .int .u8 0, .int .i64 900, .int .i64 0, .int .i64 0, .int .u8 1, .int .i64 901, .int .i64 0, .int .i64 0, .int .u8 0, .int .i64 900, .int .i64 (-1), .int .i64 0, .int .u8 0] 42 (0, 0)) :: (g2, .cells (shC (.slice pcS csL.length ccS) (.slice poS osS.length coS) (tlT tl0 ((tn : Nat) : Int))).toArray 32 (0, 0)) :: Kl9) wr) (fun u51 _ => 5 - (intOf u51).toNat)
 case atStart => exact ⟨0, (Nat.zero_le _), rfl, (hW6.sub (fun p hp => by first | exact hp | (simp only [List.mem_cons, List.mem_append, List.nil_append, List.not_mem_nil, or_assoc, or_false, false_or] at hp ⊢ <;> grind)))⟩
 case round =>
   obtain ⟨k, hk, rfl, hL7⟩ := hrel
   refine wp_seq ?_
   refine wp_region_L (W0 := WB) ((g12, .cells #[.int .i64 900, .int .i64 far, .int .i64 0, .int .u8 0, .int .i64 900, .int .i64 0, .int .i64 10, .int .u8 0, .int .i64 900, .int .i64 0, .int .i64 0, .int .u8 1, .int .i64 901, .int .i64 0, .int .i64 0, .int .u8 0, .int .i64 900, .int .i64 (-1), .int .i64 0, .int .u8 0] 42 (0, 0)) :: (g2, .cells (shC (.slice pcS csL.length ccS) (.slice poS osS.length coS) (tlT tl0 ((tn : Nat) : Int))).toArray 32 (0, 0)) :: Kl9) (hL7) ?_
   refine lp (v := .bool (decide (k < 5))) rfl rfl (run_bin rfl (vx := (.int .i64 ((k : Nat) : Int))) (vy := (.int .i64 ((5 : Nat) : Int))) Tw.kr Tw.kr fun w => bn_lss rfl w) ?_
   refine wpL_done (fun W8 hW8 => ?_)
   change Code.wp ..
   refine wp_seq ?_
   cases hd1 : (decide (k < 5)) with
   | false =>
     have h1 : ¬ (k < 5) := of_decide_eq_false hd1
     clear hd1
     refine wp_cond_false rfl ?_
     refine wp_exit ?_
     change Code.wp ..
     refine wp_seq ?_
     refine wp_region_L (W0 := WB) ((g12, .cells #[.int .i64 900, .int .i64 far, .int .i64 0, .int .u8 0, .int .i64 900, .int .i64 0, .int .i64 10, .int .u8 0, .int .i64 900, .int .i64 0, .int .i64 0, .int .u8 1, .int .i64 901, .int .i64 0, .int .i64 0, .int .u8 0, .int .i64 900, .int .i64 (-1), .int .i64 0, .int .u8 0] 42 (0, 0)) :: (g2, .cells (shC (.slice pcS csL.length ccS) (.slice poS osS.length coS) (tlT tl0 ((tn : Nat) : Int))).toArray 32 (0, 0)) :: Kl9) (hW8) ?_
     refine lm (v := .int .i64 zn) rfl rfl ?_
     refine lp (v := .int .i64 nn) rfl rfl (run_min2 (x := zn) (y := (-1)) (z := nn) rfl Tw.kr Tw.kr hnn) ?_
     refine lm (v := .int .i64 nn) rfl rfl ?_
     refine wpL_done (fun W9 hW9 => ?_)
     change Code.wp ..
     refine wp_seq ?_
     refine wp_region_V (W0 := WB) ((g12, .cells #[.int .i64 900, .int .i64 far, .int .i64 0, .int .u8 0, .int .i64 900, .int .i64 0, .int .i64 10, .int .u8 0, .int .i64 900, .int .i64 0, .int .i64 0, .int .u8 1, .int .i64 901, .int .i64 0, .int .i64 0, .int .u8 0, .int .i64 900, .int .i64 (-1), .int .i64 0, .int .u8 0] 42 (0, 0)) :: (g2, .cells (shC (.slice pcS csL.length ccS) (.slice poS osS.length coS) (tlT tl0 ((tn : Nat) : Int))).toArray 32 (0, 0)) :: Kl9) Tw.kr (hW9) ?_
     refine vm (i := 0) (v := .slice pB bs.length cB) rfl rfl rfl ?_
     refine vm (i := 1) (v := .slice pS st.length cS) rfl rfl rfl ?_
     refine vm (i := 2) (v := .int .i64 far) rfl rfl rfl ?_
     refine vv (i := 3) (v := .agg #[.int .i64 0, .int .i64 0, .int .i64 0]) rfl rfl rfl (yb_call (f := 19) (args := #[.slice pB bs.length cB, .slice pS st.length cS, .int .i64 far]) Tw.kf fun W hW => (by have h9 := Weigh_any bs pB cB Tw.om st pS cS Tw.om far W ((RL.base HBS.out) _ (hW.sub (fun _ h => by cases h))) ((RL.base HSS.out) _ (hW.sub (fun _ h => by cases h))); rw [(kil_far hLD (c := far) (.inr hfl)).1, (kil_far hLD (c := far) (.inr hfl)).2.1, (kil_far hLD (c := far) (.inr hfl)).2.2] at h9; exact h9)) ?_
     refine vm (i := 4) (v := .agg #[.int .i64 0, .int .i64 0, .int .i64 0]) rfl rfl rfl ?_
     refine vp (i := 5) (v := .bool (decide (0 = 0 ∧ 0 = 0 ∧ 0 = 0))) rfl rfl rfl (run_bin rfl (vx := .agg #[.int .i64 0, .int .i64 0, .int .i64 0]) (vy := .agg #[.int .i64 0, .int .i64 0, .int .i64 0]) Tw.kr Tw.kr fun w => eq_kil w) ?_
     refine vm (i := 6) (v := .bool (decide (0 = 0 ∧ 0 = 0 ∧ 0 = 0))) rfl rfl rfl ?_
     cases hd2 : (decide (0 = 0 ∧ 0 = 0 ∧ 0 = 0)) with
     | false =>
       have h2 : ¬ (0 = 0 ∧ 0 = 0 ∧ 0 = 0) := of_decide_eq_false hd2
       clear hd2
       exact absurd ⟨rfl, rfl, rfl⟩ h2
     | true =>
       have h2 : 0 = 0 ∧ 0 = 0 ∧ 0 = 0 := of_decide_eq_true hd2
       clear hd2
       refine vm (i := 7) (v := .slice pB bs.length cB) rfl rfl rfl ?_
       refine vm (i := 8) (v := .slice pS st.length cS) rfl rfl rfl ?_
       refine vm (i := 9) (v := .int .i64 nn) rfl rfl rfl ?_
       refine vv (i := 10) (v := .agg #[.int .i64 0, .int .i64 0, .int .i64 0]) rfl rfl rfl (yb_call (f := 19) (args := #[.slice pB bs.length cB, .slice pS st.length cS, .int .i64 nn]) Tw.kf fun W hW => (by have h9 := Weigh_any bs pB cB Tw.om st pS cS Tw.om nn W ((RL.base HBS.out) _ (hW.sub (fun _ h => by cases h))) ((RL.base HSS.out) _ (hW.sub (fun _ h => by cases h))); rw [(kil_far hLD (c := nn) (.inl hnl)).1, (kil_far hLD (c := nn) (.inl hnl)).2.1, (kil_far hLD (c := nn) (.inl hnl)).2.2] at h9; exact h9)) ?_
       refine vm (i := 11) (v := .agg #[.int .i64 0, .int .i64 0, .int .i64 0]) rfl rfl rfl ?_
       refine vp (i := 12) (v := .bool (decide (0 = 0 ∧ 0 = 0 ∧ 0 = 0))) rfl rfl rfl (run_bin rfl (vx := .agg #[.int .i64 0, .int .i64 0, .int .i64 0]) (vy := .agg #[.int .i64 0, .int .i64 0, .int .i64 0]) Tw.kr Tw.kr fun w => eq_kil w) ?_
       refine vm (i := 13) (v := .bool true) rfl rfl rfl ?_
       refine vm (i := 14) (v := .bool true) rfl rfl rfl ?_
       refine vv (i := 15) (v := .agg (shC (.slice pcS csL.length ccS) (.slice poS osS.length coS) (tlT tl0 ((tn : Nat) : Int))).toArray) rfl rfl rfl (yb_load (n := 13) (off := 0) rfl Tw.kr Tw.m1 Try.underlying32 rfl Tw.kr (by first | (simp [Value.cells]; done) | exact Nat.le_of_ble_eq_true rfl) Tw.kr) ?_
       refine vm (i := 16) (v := .slice pB bs.length cB) rfl rfl rfl ?_
       refine vm (i := 17) (v := .slice pS st.length cS) rfl rfl rfl ?_
       refine vm (i := 18) (v := .int .i64 far) rfl rfl rfl ?_
       refine vv (i := 21) (v := .agg (shC (.slice pcS csL.length ccS) (.slice poS osS.length coS) (tlT tl0 ((tn : Nat) : Int))).toArray) rfl rfl rfl (yb_load (n := 13) (off := 0) rfl Tw.kr Tw.m1 Try.underlying32 rfl Tw.kr (by first | (simp [Value.cells]; done) | exact Nat.le_of_ble_eq_true rfl) Tw.kr) ?_
       refine vm (i := 22) (v := .slice pB bs.length cB) rfl rfl rfl ?_
       refine vm (i := 23) (v := .slice pS st.length cS) rfl rfl rfl ?_
       refine vm (i := 24) (v := .int .i64 nn) rfl rfl rfl ?_
       refine wpV_c (i := 19) (OutRL ftC WB ((g12, .cells #[.int .i64 900, .int .i64 far, .int .i64 0, .int .u8 0, .int .i64 900, .int .i64 0, .int .i64 10, .int .u8 0, .int .i64 900, .int .i64 0, .int .i64 0, .int .u8 1, .int .i64 901, .int .i64 0, .int .i64 0, .int .u8 0, .int .i64 900, .int .i64 (-1), .int .i64 0, .int .u8 0] 42 (0, 0)) :: (g2, .cells (shC (.slice pcS csL.length ccS) (.slice poS osS.length coS) (tlT tl0 ((tn : Nat) : Int))).toArray 32 (0, 0)) :: Kl9) ([] : List Ft)) rfl rfl Tw.kr Tw.kr Tw.kf (fun W hW => calls_r hW ((by have h9 := Faults_any csL pcS ccS Tw.om poS osS.length coS tl0 ((tn : Nat) : Int) bs pB cB Tw.om st pS cS Tw.om far W ((RL.base HCS.out) _ (hW.sub (fun _ h => by cases h))) ((RL.base HBS.out) _ (hW.sub (fun _ h => by cases h))) ((RL.base HSS.out) _ (hW.sub (fun _ h => by cases h))) tl0_one; rw [faults_far (.inr hfl)] at h9; exact h9))) (fun v K9 hG => hG.sub) Tw.pf ?_
       rintro _ _ ⟨p15, c15, Kl15, rfl, n15, R15, N15, rfl⟩
       obtain ⟨dj16_0, dj16_1, dj16_2⟩ : Dk g12 Kl15 ∧ Dk g2 Kl15 ∧ Dj Kl9 Kl15 := Tw.djf N15
       refine vp (i := 20) (v := .int .i64 0) rfl rfl rfl (run_lenL (p := p15) (cap := c15) (n := ([] : List Ft).length) rfl Try.underlying58 Tw.kr) ?_
       refine wpV_c (i := 25) (OutRL ftC WB ((g12, .cells #[.int .i64 900, .int .i64 far, .int .i64 0, .int .u8 0, .int .i64 900, .int .i64 0, .int .i64 10, .int .u8 0, .int .i64 900, .int .i64 0, .int .i64 0, .int .u8 1, .int .i64 901, .int .i64 0, .int .i64 0, .int .u8 0, .int .i64 900, .int .i64 (-1), .int .i64 0, .int .u8 0] 42 (0, 0)) :: (g2, .cells (shC (.slice pcS csL.length ccS) (.slice poS osS.length coS) (tlT tl0 ((tn : Nat) : Int))).toArray 32 (0, 0)) :: (Kl9 ++ Kl15)) ([] : List Ft)) rfl rfl Tw.kr Tw.kr Tw.kf (fun W hW => calls_r hW ((by have h9 := Faults_any csL pcS ccS Tw.om poS osS.length coS tl0 ((tn : Nat) : Int) bs pB cB Tw.om st pS cS Tw.om nn W ((RL.base HCS.out) _ (hW.sub (fun _ h => by cases h))) ((RL.base HBS.out) _ (hW.sub (fun _ h => by cases h))) ((RL.base HSS.out) _ (hW.sub (fun _ h => by cases h))) tl0_one; rw [faults_far (.inl hnl)] at h9; exact h9))) (fun v K9 hG => hG.sub) Tw.pf ?_
       rintro _ _ ⟨p17, c17, Kl17, rfl, n17, R17, N17, rfl⟩
       obtain ⟨dj18_0, dj18_1, dj18_2, dj18_3⟩ : Dk g12 Kl17 ∧ Dk g2 Kl17 ∧ Dj Kl9 Kl17 ∧ Dj Kl15 Kl17 := Tw.djf N17
       refine vp (i := 26) (v := .int .i64 0) rfl rfl rfl (run_lenL (p := p17) (cap := c17) (n := ([] : List Ft).length) rfl Try.underlying58 Tw.kr) ?_
       refine vm (i := 27) (v := .int .i64 0) rfl rfl rfl ?_
       refine vm (i := 28) (v := .bool true) rfl rfl rfl ?_
       refine vm (i := 29) (v := .bool true) rfl rfl rfl ?_
       refine vm (i := 30) (v := .bool true) rfl rfl rfl ?_
       refine vv (i := 31) (v := .agg (shC (.slice pcS csL.length ccS) (.slice poS osS.length coS) (tlT tl0 ((tn : Nat) : Int))).toArray) rfl rfl rfl (yb_load (n := 13) (off := 0) rfl Tw.kr Tw.m1 Try.underlying32 rfl Tw.kr (by first | (simp [Value.cells]; done) | exact Nat.le_of_ble_eq_true rfl) Tw.kr) ?_
       refine vm (i := 32) (v := .slice pB bs.length cB) rfl rfl rfl ?_
       refine vm (i := 33) (v := .slice pS st.length cS) rfl rfl rfl ?_
       refine vm (i := 34) (v := .int .i64 far) rfl rfl rfl ?_
       refine vm (i := 35) (v := .agg #[.int .i64 far, .int .i64 0, .int .u8 0]) rfl rfl rfl ?_
       refine vv (i := 36) (v := .int .i64 0) rfl rfl rfl (yb_call (f := 16) (args := #[.agg (shC (.slice pcS csL.length ccS) (.slice poS osS.length coS) (tlT tl0 ((tn : Nat) : Int))).toArray, .slice pB bs.length cB, .slice pS st.length cS, .agg #[.int .i64 far, .int .i64 0, .int .u8 0]]) Tw.kf fun W hW => (by have h9 := Room_any csL pcS ccS Tw.om poS osS.length coS tl0 ((tn : Nat) : Int) bs pB cB Tw.om st pS cS Tw.om ⟨far, 0, 0⟩ W ((RL.base HCS.out) _ (hW.sub (fun _ h => by cases h))) ((RL.base HBS.out) _ (hW.sub (fun _ h => by cases h))) ((RL.base HSS.out) _ (hW.sub (fun _ h => by cases h))); rw [room_far (.inr hfl)] at h9; exact h9)) ?_
       refine vv (i := 37) (v := .agg (shC (.slice pcS csL.length ccS) (.slice poS osS.length coS) (tlT tl0 ((tn : Nat) : Int))).toArray) rfl rfl rfl (yb_load (n := 13) (off := 0) rfl Tw.kr Tw.m1 Try.underlying32 rfl Tw.kr (by first | (simp [Value.cells]; done) | exact Nat.le_of_ble_eq_true rfl) Tw.kr) ?_
       refine vm (i := 38) (v := .slice pB bs.length cB) rfl rfl rfl ?_
       refine vm (i := 39) (v := .slice pS st.length cS) rfl rfl rfl ?_
       refine vm (i := 40) (v := .int .i64 nn) rfl rfl rfl ?_
       refine vm (i := 41) (v := .agg #[.int .i64 nn, .int .i64 0, .int .u8 0]) rfl rfl rfl ?_
       refine vv (i := 42) (v := .int .i64 0) rfl rfl rfl (yb_call (f := 16) (args := #[.agg (shC (.slice pcS csL.length ccS) (.slice poS osS.length coS) (tlT tl0 ((tn : Nat) : Int))).toArray, .slice pB bs.length cB, .slice pS st.length cS, .agg #[.int .i64 nn, .int .i64 0, .int .u8 0]]) Tw.kf fun W hW => (by have h9 := Room_any csL pcS ccS Tw.om poS osS.length coS tl0 ((tn : Nat) : Int) bs pB cB Tw.om st pS cS Tw.om ⟨nn, 0, 0⟩ W ((RL.base HCS.out) _ (hW.sub (fun _ h => by cases h))) ((RL.base HBS.out) _ (hW.sub (fun _ h => by cases h))) ((RL.base HSS.out) _ (hW.sub (fun _ h => by cases h))); rw [room_far (.inl hnl)] at h9; exact h9)) ?_
       refine vm (i := 43) (v := .int .i64 0) rfl rfl rfl ?_
       refine vm (i := 44) (v := .bool true) rfl rfl rfl ?_
       refine vm (i := 45) (v := .bool true) rfl rfl rfl ?_
       refine vm (i := 46) (v := .bool true) rfl rfl rfl ?_
       refine vv (i := 47) (v := .bool true) rfl rfl rfl (yb_call (f := 12) (args := #[]) Tw.kf fun W hW => awake10_any W) ?_
       refine vm (i := 48) (v := .bool true) rfl rfl rfl ?_
       refine vm (i := 49) (v := .bool true) rfl rfl rfl ?_
       refine wpV_done Tw.kr (fun W10 hW10 => ?_) _
       change Code.wp ..
       refine wp_ret ?_
       try simp only [inBlock_ret, then_ret]
       refine bodyPost_ret (v := .bool true) ?_ rfl ?_
       · kernel_rfl
       · exact ⟨rfl, (hWB.1.trans (hW10.1.mono hWB.1.size))⟩
   | true =>
     have h1 : k < 5 := of_decide_eq_true hd1
     clear hd1
     refine wp_cond_true rfl ?_
     refine wp_skip ?_
     change Code.wp ..
     refine wp_seq ?_
     refine wp_block ?_
     refine wp_seq ?_
     refine wp_region_L (W0 := WB) ((g12, .cells #[.int .i64 900, .int .i64 far, .int .i64 0, .int .u8 0, .int .i64 900, .int .i64 0, .int .i64 10, .int .u8 0, .int .i64 900, .int .i64 0, .int .i64 0, .int .u8 1, .int .i64 901, .int .i64 0, .int .i64 0, .int .u8 0, .int .i64 900, .int .i64 (-1), .int .i64 0, .int .u8 0] 42 (0, 0)) :: (g2, .cells (shC (.slice pcS csL.length ccS) (.slice poS osS.length coS) (tlT tl0 ((tn : Nat) : Int))).toArray 32 (0, 0)) :: Kl9) (hW8) ?_
     obtain ⟨y19, g19_, f19_, hy19, hp19, hc19⟩ := RL.at (show RL sdC WB (some ⟨g12, 0, none⟩) (badL far) [(g12, .cells #[.int .i64 900, .int .i64 far, .int .i64 0, .int .u8 0, .int .i64 900, .int .i64 0, .int .i64 10, .int .u8 0, .int .i64 900, .int .i64 0, .int .i64 0, .int .u8 1, .int .i64 901, .int .i64 0, .int .i64 0, .int .u8 0, .int .i64 900, .int .i64 (-1), .int .i64 0, .int .u8 0] 42 (0, 0))] from fun W hW => blk_slv (cs := (badL far).flatMap sdC) hW Tw.m0) sdC_len (by decide) (hW8.sub (fun p hp => by cases List.mem_singleton.1 hp; exact Tw.m0)) (k := k) Tw.om
     refine lp (v := .pointer (some ⟨g19_, f19_ + k * 4, none⟩)) rfl rfl (run_idxQ (p := (some ⟨g12, 0, none⟩)) (cap := 5) (n := 5) (j := .i64) (k := k) (sz := 4) rfl Try.underlying38 Tw.kr Tw.kr hp19 Tw.kr Tw.om) ?_
     refine lv (v := .agg (sdC y19).toArray) rfl rfl (yb_rs (off := f19_ + k * 4) (cs := sdC y19) rfl Tw.kr (fun W hW => hc19 W (hW.sub (fun p hp => by cases List.mem_singleton.1 hp; exact Tw.m0))) Try.underlying42 rfl Tw.kr) ?_
     refine wpL_new (fun g => .pointer (some ⟨g, 0, none⟩)) (obi := .cells #[.int .i64 0, .int .i64 0, .int .i64 0, .int .u8 0] 42 (0, 0)) rfl rfl Tw.kf Tw.pf fun g20 Bg20 Fg20 => ?_
     obtain ⟨dj21_0, dj21_1, dj21_2⟩ : g12 ≠ g20 ∧ g2 ≠ g20 ∧ Dk g20 Kl9 := Tw.dkf Fg20
     refine wpL_s ((g20, .cells (sdC y19).toArray 42 (0, 0)) :: (g12, .cells #[.int .i64 900, .int .i64 far, .int .i64 0, .int .u8 0, .int .i64 900, .int .i64 0, .int .i64 10, .int .u8 0, .int .i64 900, .int .i64 0, .int .i64 0, .int .u8 1, .int .i64 901, .int .i64 0, .int .i64 0, .int .u8 0, .int .i64 900, .int .i64 (-1), .int .i64 0, .int .u8 0] 42 (0, 0)) :: (g2, .cells (shC (.slice pcS csL.length ccS) (.slice poS osS.length coS) (tlT tl0 ((tn : Nat) : Int))).toArray 32 (0, 0)) :: Kl9) rfl rfl (st_row (off := 0) (v := .agg (sdC y19).toArray) rfl Tw.kr Tw.kr Tw.m0 Bg20 Tw.kr (by first | (simp [Value.cells]; done) | exact Nat.le_of_ble_eq_true rfl) (fun v hv => sdC_one y19 v hv) Tw.kr (List.forall_mem_cons.2 ⟨.inl rfl, (List.forall_mem_cons.2 ⟨.inr ⟨Tw.m1, Tw.nee⟩, (List.forall_mem_cons.2 ⟨.inr ⟨Tw.m2, Tw.nee⟩, (fun p hp => .inr ⟨(.tail _ (.tail _ (.tail _ hp))), ((show Dk g20 Kl9 from Tw.djt) _ hp)⟩)⟩)⟩)⟩)) ?_
     refine wpL_done (fun W11 hW11 => ?_)
     change Code.wp ..
     refine wp_seq ?_
     refine Z.wp_region_V (S := [(g20, .cells (sdC y19).toArray 42 (0, 0))]) (b := false) (W0 := WB) ((g20, .cells (sdC y19).toArray 42 (0, 0)) :: (g12, .cells #[.int .i64 900, .int .i64 far, .int .i64 0, .int .u8 0, .int .i64 900, .int .i64 0, .int .i64 10, .int .u8 0, .int .i64 900, .int .i64 0, .int .i64 0, .int .u8 1, .int .i64 901, .int .i64 0, .int .i64 0, .int .u8 0, .int .i64 900, .int .i64 (-1), .int .i64 0, .int .u8 0] 42 (0, 0)) :: (g2, .cells (shC (.slice pcS csL.length ccS) (.slice poS osS.length coS) (tlT tl0 ((tn : Nat) : Int))).toArray 32 (0, 0)) :: Kl9) Tw.kr (hW11) ?_
     refine Z.vm (i := 1) (v := .slice pS st.length cS) rfl rfl rfl ?_
     refine Z.vS (i := 3) (v := .agg (sdC y19).toArray) rfl rfl rfl (yb_load (n := 4) (off := 0) rfl Tw.kr Tw.m0 Try.underlying42 rfl Tw.kr (by first | (simp [Value.cells]; done) | exact Nat.le_of_ble_eq_true rfl) Tw.kr) (fun p hp => by rw [List.mem_singleton.1 hp]; simp only [List.mem_cons, List.mem_append, List.nil_append, List.not_mem_nil, or_assoc, or_false, false_or, true_or, or_true]) ?_
     refine Z.wpV_2 (i := 0) (j := 4) Tw.kr ?_ ?_
     · refine Z.stepV_nsx (fun g => .slice (some ⟨g, 0, none⟩) 0 0) (i := 0) (obi := .cells #[] 42 (0, 0)) rfl rfl rfl Tw.kf Tw.pf fun g22 Bg22 Fg22 => ?_
       obtain ⟨dj23_0, dj23_1, dj23_2, dj23_3⟩ : g20 ≠ g22 ∧ g12 ≠ g22 ∧ g2 ≠ g22 ∧ Dk g22 Kl9 := Tw.dkf Fg22
       refine Z.wpV_2 (i := 2) (j := 4) Tw.kr ?_ ?_
       · refine Z.stepV_gk (AppO WB 42 4 ((g20, .cells (sdC y19).toArray 42 (0, 0)) :: (g12, .cells #[.int .i64 900, .int .i64 far, .int .i64 0, .int .u8 0, .int .i64 900, .int .i64 0, .int .i64 10, .int .u8 0, .int .i64 900, .int .i64 0, .int .i64 0, .int .u8 1, .int .i64 901, .int .i64 0, .int .i64 0, .int .u8 0, .int .i64 900, .int .i64 (-1), .int .i64 0, .int .u8 0] 42 (0, 0)) :: (g2, .cells (shC (.slice pcS csL.length ccS) (.slice poS osS.length coS) (tlT tl0 ((tn : Nat) : Int))).toArray 32 (0, 0)) :: Kl9) (0 + st.length) ((([] : List Sd).flatMap sdC) ++ (st.flatMap sdC))) (i := 2) rfl rfl rfl rfl (app_any el_sd (m := st.length) (news := (st.flatMap sdC)) (y := .slice pS st.length cS) rfl Tw.kr Tw.kr (src_rl (c := cS) Try.underlying38 sdC_len sdC_one (by decide) ((RL.base HSS.out).mono (fun _ h => by cases h)) rfl) (own_rnone (cells := sdC) Bg22) (fun p hp => by cases List.mem_singleton.1 hp; exact Tw.m0) (fun p hp => ⟨by simp only [List.mem_cons, List.mem_append, List.nil_append, List.not_mem_nil, or_assoc, or_false, false_or] at hp ⊢ <;> grind, (show Dj ((g20, .cells (sdC y19).toArray 42 (0, 0)) :: (g12, .cells #[.int .i64 900, .int .i64 far, .int .i64 0, .int .u8 0, .int .i64 900, .int .i64 0, .int .i64 10, .int .u8 0, .int .i64 900, .int .i64 0, .int .i64 0, .int .u8 1, .int .i64 901, .int .i64 0, .int .i64 0, .int .u8 0, .int .i64 900, .int .i64 (-1), .int .i64 0, .int .u8 0] 42 (0, 0)) :: (g2, .cells (shC (.slice pcS csL.length ccS) (.slice poS osS.length coS) (tlT tl0 ((tn : Nat) : Int))).toArray 32 (0, 0)) :: Kl9) [(g22, .cells #[] 42 (0, 0))] from Tw.djt) p hp⟩) Tw.om Tw.om) (Z.appO_keep (fun p hp => by rw [List.mem_singleton.1 hp]; simp only [List.mem_cons, List.mem_append, List.nil_append, List.not_mem_nil, or_assoc, or_false, false_or, true_or, or_true])) Tw.pf ?_
         rintro v24 K9 ⟨Kl24, O24, N24, rfl⟩
         obtain ⟨dj25_0, dj25_1, dj25_2, dj25_3⟩ : Dk g20 Kl24 ∧ Dk g12 Kl24 ∧ Dk g2 Kl24 ∧ Dj Kl9 Kl24 := Tw.djf N24
         refine Z.wpV_ns (fun g => .slice (some ⟨g, 0, none⟩) 1 1) (i := 4) (obi := .cells (sdC y19).toArray 42 (0, 0)) rfl rfl rfl Tw.kr Tw.kf Tw.pf fun g26 Bg26 Fg26 => ?_
         obtain ⟨dj27_0, dj27_1, dj27_2, dj27_3, dj27_4⟩ : g20 ≠ g26 ∧ g12 ≠ g26 ∧ g2 ≠ g26 ∧ Dk g26 Kl9 ∧ Dk g26 Kl24 := Tw.dkf Fg26
         refine Z.wpV_gk (AppO WB 42 4 ((g20, .cells (sdC y19).toArray 42 (0, 0)) :: (g12, .cells #[.int .i64 900, .int .i64 far, .int .i64 0, .int .u8 0, .int .i64 900, .int .i64 0, .int .i64 10, .int .u8 0, .int .i64 900, .int .i64 0, .int .i64 0, .int .u8 1, .int .i64 901, .int .i64 0, .int .i64 0, .int .u8 0, .int .i64 900, .int .i64 (-1), .int .i64 0, .int .u8 0] 42 (0, 0)) :: (g2, .cells (shC (.slice pcS csL.length ccS) (.slice poS osS.length coS) (tlT tl0 ((tn : Nat) : Int))).toArray 32 (0, 0)) :: Kl9) ((0 + st.length) + 1) (((([] : List Sd).flatMap sdC) ++ (st.flatMap sdC)) ++ [.int .i64 y19.box, .int .i64 y19.slot.col, .int .i64 y19.slot.tier, .int .u8 ((y19.slot.half : Nat) : Int)])) (i := 5) rfl rfl rfl Tw.kr rfl (app_own el_sd (m := 1) (c := 1) (news := [.int .i64 y19.box, .int .i64 y19.slot.col, .int .i64 y19.slot.tier, .int .u8 ((y19.slot.half : Nat) : Int)]) rfl Tw.kr Tw.kr Tw.m0 O24 Tw.sc (fun p hp => ⟨by simp only [List.mem_cons, List.mem_append, List.nil_append, List.not_mem_nil, or_assoc, or_false, false_or] at hp ⊢ <;> grind, (show Dj ((g20, .cells (sdC y19).toArray 42 (0, 0)) :: (g12, .cells #[.int .i64 900, .int .i64 far, .int .i64 0, .int .u8 0, .int .i64 900, .int .i64 0, .int .i64 10, .int .u8 0, .int .i64 900, .int .i64 0, .int .i64 0, .int .u8 1, .int .i64 901, .int .i64 0, .int .i64 0, .int .u8 0, .int .i64 900, .int .i64 (-1), .int .i64 0, .int .u8 0] 42 (0, 0)) :: (g2, .cells (shC (.slice pcS csL.length ccS) (.slice poS osS.length coS) (tlT tl0 ((tn : Nat) : Int))).toArray 32 (0, 0)) :: Kl9) Kl24 from Tw.djt) p hp⟩) rfl (by simp [strV, Value.oneCell']) Tw.om Tw.om Tw.om) (Z.appO_keep (fun p hp => by rw [List.mem_singleton.1 hp]; simp only [List.mem_cons, List.mem_append, List.nil_append, List.not_mem_nil, or_assoc, or_false, false_or, true_or, or_true])) Tw.pf ?_
         rintro v28 K9 ⟨Kl28, O28, N28, rfl⟩
         obtain ⟨dj29_0, dj29_1, dj29_2, dj29_3⟩ : Dk g20 Kl28 ∧ Dk g12 Kl28 ∧ Dk g2 Kl28 ∧ Dj Kl9 Kl28 := Tw.djf N28
         refine Z.vm (i := 6) (v := v28) rfl rfl rfl ?_
         refine Z.wpV_done Tw.kr (fun W12 hW12 => ?_) _
         change Code.wp ..
         refine wp_seq ?_
         have hq30 := own_app (cells := sdC) (l' := (st ++ [y19])) O28 (by simp only [List.flatMap_append, List.flatMap_nil, List.nil_append]; rfl) (by simp only [List.length_append, List.length_nil, List.length_cons] <;> omega)
         obtain ⟨stN, hstN⟩ : ∃ x, (st ++ [y19]) = x := ⟨_, rfl⟩
         rw [hstN] at hq30
         have lstN : stN.length = st.length + 1 := by rw [← hstN]; simp only [List.length_append, List.length_nil, List.length_cons] <;> omega
         obtain ⟨p30, c30, rfl, n30, R30⟩ := own_rl hq30
         have hbad : loadX csL osS mrN stN = false := by rw [← hmrN, ← hstN]; exact bad_no hLD hkk htL hfl y19 (List.mem_of_getElem? hy19)
         refine wp_region_L (W0 := WB) ((g20, .cells (sdC y19).toArray 42 (0, 0)) :: (g12, .cells #[.int .i64 900, .int .i64 far, .int .i64 0, .int .u8 0, .int .i64 900, .int .i64 0, .int .i64 10, .int .u8 0, .int .i64 900, .int .i64 0, .int .i64 0, .int .u8 1, .int .i64 901, .int .i64 0, .int .i64 0, .int .u8 0, .int .i64 900, .int .i64 (-1), .int .i64 0, .int .u8 0] 42 (0, 0)) :: (g2, .cells (shC (.slice pcS csL.length ccS) (.slice poS osS.length coS) (tlT tl0 ((tn : Nat) : Int))).toArray 32 (0, 0)) :: (Kl9 ++ Kl28)) (hW12) ?_
         refine lv (v := .agg (shC (.slice pcS csL.length ccS) (.slice poS osS.length coS) (tlT tl0 ((tn : Nat) : Int))).toArray) rfl rfl (yb_load (n := 13) (off := 0) rfl Tw.kr Tw.m2 Try.underlying32 rfl Tw.kr (by first | (simp [Value.cells]; done) | exact Nat.le_of_ble_eq_true rfl) Tw.kr) ?_
         refine lm (v := .slice p11 mrN.length c11) rfl rfl ?_
         refine lm (v := .slice p30 stN.length c30) rfl rfl ?_
         refine wpL_c (f := 21) (args := #[.agg (shC (.slice pcS csL.length ccS) (.slice poS osS.length coS) (tlT tl0 ((tn : Nat) : Int))).toArray, .slice p11 mrN.length c11, .slice p30 stN.length c30]) (fun v K9 => ∃ v1, v = .tuple #[v1, .int .i64 2] ∧ OutRL ftC WB ((g20, .cells (sdC y19).toArray 42 (0, 0)) :: (g12, .cells #[.int .i64 900, .int .i64 far, .int .i64 0, .int .u8 0, .int .i64 900, .int .i64 0, .int .i64 10, .int .u8 0, .int .i64 900, .int .i64 0, .int .i64 0, .int .u8 1, .int .i64 901, .int .i64 0, .int .i64 0, .int .u8 0, .int .i64 900, .int .i64 (-1), .int .i64 0, .int .u8 0] 42 (0, 0)) :: (g2, .cells (shC (.slice pcS csL.length ccS) (.slice poS osS.length coS) (tlT tl0 ((tn : Nat) : Int))).toArray 32 (0, 0)) :: (Kl9 ++ Kl28)) ([] : List Ft) v1 K9) rfl Tw.kr Tw.kf (fun W hW => calls_tur hW ((by have h9 := Check_any csL pcS ccS Tw.om osS poS coS Tw.om tl0 ((tn : Nat) : Int) mrN p11 c11 Tw.om stN p30 c30 Tw.om W ((RL.base HCS.out) _ (hW.sub (fun _ h => by cases h))) ((RL.base HOS.out) _ (hW.sub (fun _ h => by cases h))) (HRS.out.keep hW.1) lrS (HPS.out.keep hW.1) lpS (R11 _ (hW.sub (fun p hp => by simp only [List.mem_cons, List.mem_append, List.nil_append, List.not_mem_nil, or_assoc, or_false, false_or, hp, true_or, or_true]))) (R30 _ (hW.sub (fun p hp => by simp only [List.mem_cons, List.mem_append, List.nil_append, List.not_mem_nil, or_assoc, or_false, false_or, hp, true_or, or_true]))) tl0_one; rw [(check_no ((tn : Nat) : Int) hbad).1, (check_no ((tn : Nat) : Int) hbad).2] at h9; exact h9))) Tw.pf ?_
         rintro _ _ ⟨_, rfl, p31, c31, Kl31, rfl, n31, R31, N31, rfl⟩
         obtain ⟨dj32_0, dj32_1, dj32_2, dj32_3, dj32_4⟩ : Dk g20 Kl31 ∧ Dk g12 Kl31 ∧ Dk g2 Kl31 ∧ Dj Kl9 Kl31 ∧ Dj Kl28 Kl31 := Tw.djf N31
         refine wpL_sub (K2 := ((g20, .cells (sdC y19).toArray 42 (0, 0)) :: (g12, .cells #[.int .i64 900, .int .i64 far, .int .i64 0, .int .u8 0, .int .i64 900, .int .i64 0, .int .i64 10, .int .u8 0, .int .i64 900, .int .i64 0, .int .i64 0, .int .u8 1, .int .i64 901, .int .i64 0, .int .i64 0, .int .u8 0, .int .i64 900, .int .i64 (-1), .int .i64 0, .int .u8 0] 42 (0, 0)) :: (g2, .cells (shC (.slice pcS csL.length ccS) (.slice poS osS.length coS) (tlT tl0 ((tn : Nat) : Int))).toArray 32 (0, 0)) :: (Kl9 ++ (Kl28 ++ Kl31)))) (fun p hp => by simp only [List.mem_cons, List.mem_append, or_assoc] at hp ⊢; exact hp) ?_
         refine lm (v := .tuple #[.slice p31 (([] : List Ft).length) c31, .int .i64 2]) rfl rfl ?_
         refine lm (v := .slice p31 (([] : List Ft).length) c31) rfl rfl ?_
         refine lm (v := .int .i64 2) rfl rfl ?_
         refine lm (v := .slice p31 (([] : List Ft).length) c31) rfl rfl ?_
         refine lm (v := .int .i64 2) rfl rfl ?_
         refine wpL_done (fun W13 hW13 => ?_)
         change Code.wp ..
         refine wp_seq ?_
         refine wp_region_L (W0 := WB) ((g20, .cells (sdC y19).toArray 42 (0, 0)) :: (g12, .cells #[.int .i64 900, .int .i64 far, .int .i64 0, .int .u8 0, .int .i64 900, .int .i64 0, .int .i64 10, .int .u8 0, .int .i64 900, .int .i64 0, .int .i64 0, .int .u8 1, .int .i64 901, .int .i64 0, .int .i64 0, .int .u8 0, .int .i64 900, .int .i64 (-1), .int .i64 0, .int .u8 0] 42 (0, 0)) :: (g2, .cells (shC (.slice pcS csL.length ccS) (.slice poS osS.length coS) (tlT tl0 ((tn : Nat) : Int))).toArray 32 (0, 0)) :: (Kl9 ++ (Kl28 ++ Kl31))) (hW13) ?_
         refine lm (v := .int .i64 2) rfl rfl ?_
         refine lm (v := .bool false) rfl rfl ?_
         refine lm (v := .bool false) rfl rfl ?_
         refine lm (v := .slice p31 (([] : List Ft).length) c31) rfl rfl ?_
         refine lp (v := .int .i64 0) rfl rfl (run_lenL (p := p31) (cap := c31) (n := ([] : List Ft).length) rfl Try.underlying58 Tw.kr) ?_
         refine lm (v := .bool false) rfl rfl ?_
         refine lm (v := .bool false) rfl rfl ?_
         refine wpL_done (fun W14 hW14 => ?_)
         change Code.wp ..
         refine wp_cond_false rfl ?_
         refine wp_skip ?_
         change Code.wp ..
         refine wp_region_L (W0 := WB) ((g20, .cells (sdC y19).toArray 42 (0, 0)) :: (g12, .cells #[.int .i64 900, .int .i64 far, .int .i64 0, .int .u8 0, .int .i64 900, .int .i64 0, .int .i64 10, .int .u8 0, .int .i64 900, .int .i64 0, .int .i64 0, .int .u8 1, .int .i64 901, .int .i64 0, .int .i64 0, .int .u8 0, .int .i64 900, .int .i64 (-1), .int .i64 0, .int .u8 0] 42 (0, 0)) :: (g2, .cells (shC (.slice pcS csL.length ccS) (.slice poS osS.length coS) (tlT tl0 ((tn : Nat) : Int))).toArray 32 (0, 0)) :: (Kl9 ++ (Kl28 ++ Kl31))) (hW14) ?_
         refine lp (v := .int .i64 (((k + 1) : Nat) : Int)) rfl rfl (run_bin rfl (vx := (.int .i64 ((k : Nat) : Int))) (vy := (.int .i64 ((1 : Nat) : Int))) Tw.kr Tw.kr fun w => bn_add (z := (k + 1)) rfl (wr_i64 Tw.om) w) ?_
         refine lm (v := .int .i64 (((k + 1) : Nat) : Int)) rfl rfl ?_
         refine wpL_done (fun W15 hW15 => ?_)
         go_roundw
         case rel =>
           repeat apply Exists.intro
           exact ⟨⟨k + 1, Tw.om, rfl, (hW15.sub (fun p hp => by first | exact hp | (simp only [List.mem_cons, List.mem_append, List.nil_append, List.not_mem_nil, or_assoc, or_false, false_or] at hp ⊢ <;> grind)))⟩, rfl⟩
         case measure => (show 5 - (intOf (.int .i64 (((k + 1) : Nat) : Int))).toNat < 5 - (intOf (.int .i64 ((k : Nat) : Int))).toNat); simp only [intOf]; omega
       · refine Z.stepV_nsx (fun g => .slice (some ⟨g, 0, none⟩) 1 1) (i := 4) (obi := .cells (sdC y19).toArray 42 (0, 0)) rfl rfl rfl Tw.kf Tw.pf fun g33 Bg33 Fg33 => ?_
         obtain ⟨dj34_0, dj34_1, dj34_2, dj34_3, dj34_4⟩ : g22 ≠ g33 ∧ g20 ≠ g33 ∧ g12 ≠ g33 ∧ g2 ≠ g33 ∧ Dk g33 Kl9 := Tw.dkf Fg33
         refine Z.wpV_gk (AppO WB 42 4 ((g33, .cells (sdC y19).toArray 42 (0, 0)) :: (g20, .cells (sdC y19).toArray 42 (0, 0)) :: (g12, .cells #[.int .i64 900, .int .i64 far, .int .i64 0, .int .u8 0, .int .i64 900, .int .i64 0, .int .i64 10, .int .u8 0, .int .i64 900, .int .i64 0, .int .i64 0, .int .u8 1, .int .i64 901, .int .i64 0, .int .i64 0, .int .u8 0, .int .i64 900, .int .i64 (-1), .int .i64 0, .int .u8 0] 42 (0, 0)) :: (g2, .cells (shC (.slice pcS csL.length ccS) (.slice poS osS.length coS) (tlT tl0 ((tn : Nat) : Int))).toArray 32 (0, 0)) :: Kl9) (0 + st.length) ((([] : List Sd).flatMap sdC) ++ (st.flatMap sdC))) (i := 2) rfl rfl rfl Tw.kr rfl (app_any el_sd (m := st.length) (news := (st.flatMap sdC)) (y := .slice pS st.length cS) rfl Tw.kr Tw.kr (src_rl (c := cS) Try.underlying38 sdC_len sdC_one (by decide) ((RL.base HSS.out).mono (fun _ h => by cases h)) rfl) (own_rnone (cells := sdC) Bg22) (fun p hp => by cases List.mem_singleton.1 hp; exact Tw.m1) (fun p hp => ⟨by simp only [List.mem_cons, List.mem_append, List.nil_append, List.not_mem_nil, or_assoc, or_false, false_or] at hp ⊢ <;> grind, (show Dj ((g33, .cells (sdC y19).toArray 42 (0, 0)) :: (g20, .cells (sdC y19).toArray 42 (0, 0)) :: (g12, .cells #[.int .i64 900, .int .i64 far, .int .i64 0, .int .u8 0, .int .i64 900, .int .i64 0, .int .i64 10, .int .u8 0, .int .i64 900, .int .i64 0, .int .i64 0, .int .u8 1, .int .i64 901, .int .i64 0, .int .i64 0, .int .u8 0, .int .i64 900, .int .i64 (-1), .int .i64 0, .int .u8 0] 42 (0, 0)) :: (g2, .cells (shC (.slice pcS csL.length ccS) (.slice poS osS.length coS) (tlT tl0 ((tn : Nat) : Int))).toArray 32 (0, 0)) :: Kl9) [(g22, .cells #[] 42 (0, 0))] from Tw.djt) p hp⟩) Tw.om Tw.om) (Z.appO_keep (fun p hp => by rw [List.mem_singleton.1 hp]; simp only [List.mem_cons, List.mem_append, List.nil_append, List.not_mem_nil, or_assoc, or_false, false_or, true_or, or_true])) Tw.pf ?_
         rintro v35 K9 ⟨Kl35, O35, N35, rfl⟩
         obtain ⟨dj36_0, dj36_1, dj36_2, dj36_3, dj36_4⟩ : Dk g33 Kl35 ∧ Dk g20 Kl35 ∧ Dk g12 Kl35 ∧ Dk g2 Kl35 ∧ Dj Kl9 Kl35 := Tw.djf N35
         refine (show Z.wpV _ _ _ _ _ _ _ _ _ _ ((g33, .cells (sdC y19).toArray 42 (0, 0)) :: (g20, .cells (sdC y19).toArray 42 (0, 0)) :: (g12, .cells #[.int .i64 900, .int .i64 far, .int .i64 0, .int .u8 0, .int .i64 900, .int .i64 0, .int .i64 10, .int .u8 0, .int .i64 900, .int .i64 0, .int .i64 0, .int .u8 1, .int .i64 901, .int .i64 0, .int .i64 0, .int .u8 0, .int .i64 900, .int .i64 (-1), .int .i64 0, .int .u8 0] 42 (0, 0)) :: (g2, .cells (shC (.slice pcS csL.length ccS) (.slice poS osS.length coS) (tlT tl0 ((tn : Nat) : Int))).toArray 32 (0, 0)) :: (Kl9 ++ Kl35)) from ?_)
         refine Z.wpV_gk (AppO WB 42 4 ((g20, .cells (sdC y19).toArray 42 (0, 0)) :: (g12, .cells #[.int .i64 900, .int .i64 far, .int .i64 0, .int .u8 0, .int .i64 900, .int .i64 0, .int .i64 10, .int .u8 0, .int .i64 900, .int .i64 0, .int .i64 0, .int .u8 1, .int .i64 901, .int .i64 0, .int .i64 0, .int .u8 0, .int .i64 900, .int .i64 (-1), .int .i64 0, .int .u8 0] 42 (0, 0)) :: (g2, .cells (shC (.slice pcS csL.length ccS) (.slice poS osS.length coS) (tlT tl0 ((tn : Nat) : Int))).toArray 32 (0, 0)) :: Kl9) ((0 + st.length) + 1) (((([] : List Sd).flatMap sdC) ++ (st.flatMap sdC)) ++ [.int .i64 y19.box, .int .i64 y19.slot.col, .int .i64 y19.slot.tier, .int .u8 ((y19.slot.half : Nat) : Int)])) (i := 5) rfl rfl rfl Tw.kr rfl (app_own el_sd (m := 1) (c := 1) (news := [.int .i64 y19.box, .int .i64 y19.slot.col, .int .i64 y19.slot.tier, .int .u8 ((y19.slot.half : Nat) : Int)]) rfl Tw.kr Tw.kr Tw.m0 O35 Tw.sc (fun p hp => ⟨by simp only [List.mem_cons, List.mem_append, List.nil_append, List.not_mem_nil, or_assoc, or_false, false_or] at hp ⊢ <;> grind, (show Dj ((g20, .cells (sdC y19).toArray 42 (0, 0)) :: (g12, .cells #[.int .i64 900, .int .i64 far, .int .i64 0, .int .u8 0, .int .i64 900, .int .i64 0, .int .i64 10, .int .u8 0, .int .i64 900, .int .i64 0, .int .i64 0, .int .u8 1, .int .i64 901, .int .i64 0, .int .i64 0, .int .u8 0, .int .i64 900, .int .i64 (-1), .int .i64 0, .int .u8 0] 42 (0, 0)) :: (g2, .cells (shC (.slice pcS csL.length ccS) (.slice poS osS.length coS) (tlT tl0 ((tn : Nat) : Int))).toArray 32 (0, 0)) :: Kl9) Kl35 from Tw.djt) p hp⟩) rfl (by simp [strV, Value.oneCell']) Tw.om Tw.om Tw.om) (Z.appO_keep (fun p hp => by rw [List.mem_singleton.1 hp]; simp only [List.mem_cons, List.mem_append, List.nil_append, List.not_mem_nil, or_assoc, or_false, false_or, true_or, or_true])) Tw.pf ?_
         rintro v37 K9 ⟨Kl37, O37, N37, rfl⟩
         obtain ⟨dj38_0, dj38_1, dj38_2, dj38_3⟩ : Dk g20 Kl37 ∧ Dk g12 Kl37 ∧ Dk g2 Kl37 ∧ Dj Kl9 Kl37 := Tw.djf N37
         refine Z.vm (i := 6) (v := v37) rfl rfl rfl ?_
         refine Z.wpV_done Tw.kr (fun W16 hW16 => ?_) _
         change Code.wp ..
         refine wp_seq ?_
         have hq39 := own_app (cells := sdC) (l' := (st ++ [y19])) O37 (by simp only [List.flatMap_append, List.flatMap_nil, List.nil_append]; rfl) (by simp only [List.length_append, List.length_nil, List.length_cons] <;> omega)
         obtain ⟨stN, hstN⟩ : ∃ x, (st ++ [y19]) = x := ⟨_, rfl⟩
         rw [hstN] at hq39
         have lstN : stN.length = st.length + 1 := by rw [← hstN]; simp only [List.length_append, List.length_nil, List.length_cons] <;> omega
         obtain ⟨p39, c39, rfl, n39, R39⟩ := own_rl hq39
         have hbad : loadX csL osS mrN stN = false := by rw [← hmrN, ← hstN]; exact bad_no hLD hkk htL hfl y19 (List.mem_of_getElem? hy19)
         refine wp_region_L (W0 := WB) ((g20, .cells (sdC y19).toArray 42 (0, 0)) :: (g12, .cells #[.int .i64 900, .int .i64 far, .int .i64 0, .int .u8 0, .int .i64 900, .int .i64 0, .int .i64 10, .int .u8 0, .int .i64 900, .int .i64 0, .int .i64 0, .int .u8 1, .int .i64 901, .int .i64 0, .int .i64 0, .int .u8 0, .int .i64 900, .int .i64 (-1), .int .i64 0, .int .u8 0] 42 (0, 0)) :: (g2, .cells (shC (.slice pcS csL.length ccS) (.slice poS osS.length coS) (tlT tl0 ((tn : Nat) : Int))).toArray 32 (0, 0)) :: (Kl9 ++ Kl37)) (hW16) ?_
         refine lv (v := .agg (shC (.slice pcS csL.length ccS) (.slice poS osS.length coS) (tlT tl0 ((tn : Nat) : Int))).toArray) rfl rfl (yb_load (n := 13) (off := 0) rfl Tw.kr Tw.m2 Try.underlying32 rfl Tw.kr (by first | (simp [Value.cells]; done) | exact Nat.le_of_ble_eq_true rfl) Tw.kr) ?_
         refine lm (v := .slice p11 mrN.length c11) rfl rfl ?_
         refine lm (v := .slice p39 stN.length c39) rfl rfl ?_
         refine wpL_c (f := 21) (args := #[.agg (shC (.slice pcS csL.length ccS) (.slice poS osS.length coS) (tlT tl0 ((tn : Nat) : Int))).toArray, .slice p11 mrN.length c11, .slice p39 stN.length c39]) (fun v K9 => ∃ v1, v = .tuple #[v1, .int .i64 2] ∧ OutRL ftC WB ((g20, .cells (sdC y19).toArray 42 (0, 0)) :: (g12, .cells #[.int .i64 900, .int .i64 far, .int .i64 0, .int .u8 0, .int .i64 900, .int .i64 0, .int .i64 10, .int .u8 0, .int .i64 900, .int .i64 0, .int .i64 0, .int .u8 1, .int .i64 901, .int .i64 0, .int .i64 0, .int .u8 0, .int .i64 900, .int .i64 (-1), .int .i64 0, .int .u8 0] 42 (0, 0)) :: (g2, .cells (shC (.slice pcS csL.length ccS) (.slice poS osS.length coS) (tlT tl0 ((tn : Nat) : Int))).toArray 32 (0, 0)) :: (Kl9 ++ Kl37)) ([] : List Ft) v1 K9) rfl Tw.kr Tw.kf (fun W hW => calls_tur hW ((by have h9 := Check_any csL pcS ccS Tw.om osS poS coS Tw.om tl0 ((tn : Nat) : Int) mrN p11 c11 Tw.om stN p39 c39 Tw.om W ((RL.base HCS.out) _ (hW.sub (fun _ h => by cases h))) ((RL.base HOS.out) _ (hW.sub (fun _ h => by cases h))) (HRS.out.keep hW.1) lrS (HPS.out.keep hW.1) lpS (R11 _ (hW.sub (fun p hp => by simp only [List.mem_cons, List.mem_append, List.nil_append, List.not_mem_nil, or_assoc, or_false, false_or, hp, true_or, or_true]))) (R39 _ (hW.sub (fun p hp => by simp only [List.mem_cons, List.mem_append, List.nil_append, List.not_mem_nil, or_assoc, or_false, false_or, hp, true_or, or_true]))) tl0_one; rw [(check_no ((tn : Nat) : Int) hbad).1, (check_no ((tn : Nat) : Int) hbad).2] at h9; exact h9))) Tw.pf ?_
         rintro _ _ ⟨_, rfl, p40, c40, Kl40, rfl, n40, R40, N40, rfl⟩
         obtain ⟨dj41_0, dj41_1, dj41_2, dj41_3, dj41_4⟩ : Dk g20 Kl40 ∧ Dk g12 Kl40 ∧ Dk g2 Kl40 ∧ Dj Kl9 Kl40 ∧ Dj Kl37 Kl40 := Tw.djf N40
         refine wpL_sub (K2 := ((g20, .cells (sdC y19).toArray 42 (0, 0)) :: (g12, .cells #[.int .i64 900, .int .i64 far, .int .i64 0, .int .u8 0, .int .i64 900, .int .i64 0, .int .i64 10, .int .u8 0, .int .i64 900, .int .i64 0, .int .i64 0, .int .u8 1, .int .i64 901, .int .i64 0, .int .i64 0, .int .u8 0, .int .i64 900, .int .i64 (-1), .int .i64 0, .int .u8 0] 42 (0, 0)) :: (g2, .cells (shC (.slice pcS csL.length ccS) (.slice poS osS.length coS) (tlT tl0 ((tn : Nat) : Int))).toArray 32 (0, 0)) :: (Kl9 ++ (Kl37 ++ Kl40)))) (fun p hp => by simp only [List.mem_cons, List.mem_append, or_assoc] at hp ⊢; exact hp) ?_
         refine lm (v := .tuple #[.slice p40 (([] : List Ft).length) c40, .int .i64 2]) rfl rfl ?_
         refine lm (v := .slice p40 (([] : List Ft).length) c40) rfl rfl ?_
         refine lm (v := .int .i64 2) rfl rfl ?_
         refine lm (v := .slice p40 (([] : List Ft).length) c40) rfl rfl ?_
         refine lm (v := .int .i64 2) rfl rfl ?_
         refine wpL_done (fun W17 hW17 => ?_)
         change Code.wp ..
         refine wp_seq ?_
         refine wp_region_L (W0 := WB) ((g20, .cells (sdC y19).toArray 42 (0, 0)) :: (g12, .cells #[.int .i64 900, .int .i64 far, .int .i64 0, .int .u8 0, .int .i64 900, .int .i64 0, .int .i64 10, .int .u8 0, .int .i64 900, .int .i64 0, .int .i64 0, .int .u8 1, .int .i64 901, .int .i64 0, .int .i64 0, .int .u8 0, .int .i64 900, .int .i64 (-1), .int .i64 0, .int .u8 0] 42 (0, 0)) :: (g2, .cells (shC (.slice pcS csL.length ccS) (.slice poS osS.length coS) (tlT tl0 ((tn : Nat) : Int))).toArray 32 (0, 0)) :: (Kl9 ++ (Kl37 ++ Kl40))) (hW17) ?_
         refine lm (v := .int .i64 2) rfl rfl ?_
         refine lm (v := .bool false) rfl rfl ?_
         refine lm (v := .bool false) rfl rfl ?_
         refine lm (v := .slice p40 (([] : List Ft).length) c40) rfl rfl ?_
         refine lp (v := .int .i64 0) rfl rfl (run_lenL (p := p40) (cap := c40) (n := ([] : List Ft).length) rfl Try.underlying58 Tw.kr) ?_
         refine lm (v := .bool false) rfl rfl ?_
         refine lm (v := .bool false) rfl rfl ?_
         refine wpL_done (fun W18 hW18 => ?_)
         change Code.wp ..
         refine wp_cond_false rfl ?_
         refine wp_skip ?_
         change Code.wp ..
         refine wp_region_L (W0 := WB) ((g20, .cells (sdC y19).toArray 42 (0, 0)) :: (g12, .cells #[.int .i64 900, .int .i64 far, .int .i64 0, .int .u8 0, .int .i64 900, .int .i64 0, .int .i64 10, .int .u8 0, .int .i64 900, .int .i64 0, .int .i64 0, .int .u8 1, .int .i64 901, .int .i64 0, .int .i64 0, .int .u8 0, .int .i64 900, .int .i64 (-1), .int .i64 0, .int .u8 0] 42 (0, 0)) :: (g2, .cells (shC (.slice pcS csL.length ccS) (.slice poS osS.length coS) (tlT tl0 ((tn : Nat) : Int))).toArray 32 (0, 0)) :: (Kl9 ++ (Kl37 ++ Kl40))) (hW18) ?_
         refine lp (v := .int .i64 (((k + 1) : Nat) : Int)) rfl rfl (run_bin rfl (vx := (.int .i64 ((k : Nat) : Int))) (vy := (.int .i64 ((1 : Nat) : Int))) Tw.kr Tw.kr fun w => bn_add (z := (k + 1)) rfl (wr_i64 Tw.om) w) ?_
         refine lm (v := .int .i64 (((k + 1) : Nat) : Int)) rfl rfl ?_
         refine wpL_done (fun W19 hW19 => ?_)
         go_roundw
         case rel =>
           repeat apply Exists.intro
           exact ⟨⟨k + 1, Tw.om, rfl, (hW19.sub (fun p hp => by first | exact hp | (simp only [List.mem_cons, List.mem_append, List.nil_append, List.not_mem_nil, or_assoc, or_false, false_or] at hp ⊢ <;> grind)))⟩, rfl⟩
         case measure => (show 5 - (intOf (.int .i64 (((k + 1) : Nat) : Int))).toNat < 5 - (intOf (.int .i64 ((k : Nat) : Int))).toNat); simp only [intOf]; omega
     · refine Z.stepV_nsx (fun g => .slice (some ⟨g, 0, none⟩) 1 1) (i := 4) (obi := .cells (sdC y19).toArray 42 (0, 0)) rfl rfl rfl Tw.kf Tw.pf fun g42 Bg42 Fg42 => ?_
       obtain ⟨dj43_0, dj43_1, dj43_2, dj43_3⟩ : g20 ≠ g42 ∧ g12 ≠ g42 ∧ g2 ≠ g42 ∧ Dk g42 Kl9 := Tw.dkf Fg42
       refine Z.wpV_ns (fun g => .slice (some ⟨g, 0, none⟩) 0 0) (i := 0) (obi := .cells #[] 42 (0, 0)) rfl rfl rfl Tw.kr Tw.kf Tw.pf fun g44 Bg44 Fg44 => ?_
       obtain ⟨dj45_0, dj45_1, dj45_2, dj45_3, dj45_4⟩ : g42 ≠ g44 ∧ g20 ≠ g44 ∧ g12 ≠ g44 ∧ g2 ≠ g44 ∧ Dk g44 Kl9 := Tw.dkf Fg44
       refine Z.wpV_gk (AppO WB 42 4 ((g42, .cells (sdC y19).toArray 42 (0, 0)) :: (g20, .cells (sdC y19).toArray 42 (0, 0)) :: (g12, .cells #[.int .i64 900, .int .i64 far, .int .i64 0, .int .u8 0, .int .i64 900, .int .i64 0, .int .i64 10, .int .u8 0, .int .i64 900, .int .i64 0, .int .i64 0, .int .u8 1, .int .i64 901, .int .i64 0, .int .i64 0, .int .u8 0, .int .i64 900, .int .i64 (-1), .int .i64 0, .int .u8 0] 42 (0, 0)) :: (g2, .cells (shC (.slice pcS csL.length ccS) (.slice poS osS.length coS) (tlT tl0 ((tn : Nat) : Int))).toArray 32 (0, 0)) :: Kl9) (0 + st.length) ((([] : List Sd).flatMap sdC) ++ (st.flatMap sdC))) (i := 2) rfl rfl rfl Tw.kr rfl (app_any el_sd (m := st.length) (news := (st.flatMap sdC)) (y := .slice pS st.length cS) rfl Tw.kr Tw.kr (src_rl (c := cS) Try.underlying38 sdC_len sdC_one (by decide) ((RL.base HSS.out).mono (fun _ h => by cases h)) rfl) (own_rnone (cells := sdC) Bg44) (fun p hp => by cases List.mem_singleton.1 hp; exact Tw.m0) (fun p hp => ⟨by simp only [List.mem_cons, List.mem_append, List.nil_append, List.not_mem_nil, or_assoc, or_false, false_or] at hp ⊢ <;> grind, (show Dj ((g42, .cells (sdC y19).toArray 42 (0, 0)) :: (g20, .cells (sdC y19).toArray 42 (0, 0)) :: (g12, .cells #[.int .i64 900, .int .i64 far, .int .i64 0, .int .u8 0, .int .i64 900, .int .i64 0, .int .i64 10, .int .u8 0, .int .i64 900, .int .i64 0, .int .i64 0, .int .u8 1, .int .i64 901, .int .i64 0, .int .i64 0, .int .u8 0, .int .i64 900, .int .i64 (-1), .int .i64 0, .int .u8 0] 42 (0, 0)) :: (g2, .cells (shC (.slice pcS csL.length ccS) (.slice poS osS.length coS) (tlT tl0 ((tn : Nat) : Int))).toArray 32 (0, 0)) :: Kl9) [(g44, .cells #[] 42 (0, 0))] from Tw.djt) p hp⟩) Tw.om Tw.om) (Z.appO_keep (fun p hp => by rw [List.mem_singleton.1 hp]; simp only [List.mem_cons, List.mem_append, List.nil_append, List.not_mem_nil, or_assoc, or_false, false_or, true_or, or_true])) Tw.pf ?_
       rintro v46 K9 ⟨Kl46, O46, N46, rfl⟩
       obtain ⟨dj47_0, dj47_1, dj47_2, dj47_3, dj47_4⟩ : Dk g42 Kl46 ∧ Dk g20 Kl46 ∧ Dk g12 Kl46 ∧ Dk g2 Kl46 ∧ Dj Kl9 Kl46 := Tw.djf N46
       refine (show Z.wpV _ _ _ _ _ _ _ _ _ _ ((g42, .cells (sdC y19).toArray 42 (0, 0)) :: (g20, .cells (sdC y19).toArray 42 (0, 0)) :: (g12, .cells #[.int .i64 900, .int .i64 far, .int .i64 0, .int .u8 0, .int .i64 900, .int .i64 0, .int .i64 10, .int .u8 0, .int .i64 900, .int .i64 0, .int .i64 0, .int .u8 1, .int .i64 901, .int .i64 0, .int .i64 0, .int .u8 0, .int .i64 900, .int .i64 (-1), .int .i64 0, .int .u8 0] 42 (0, 0)) :: (g2, .cells (shC (.slice pcS csL.length ccS) (.slice poS osS.length coS) (tlT tl0 ((tn : Nat) : Int))).toArray 32 (0, 0)) :: (Kl9 ++ Kl46)) from ?_)
       refine Z.wpV_gk (AppO WB 42 4 ((g20, .cells (sdC y19).toArray 42 (0, 0)) :: (g12, .cells #[.int .i64 900, .int .i64 far, .int .i64 0, .int .u8 0, .int .i64 900, .int .i64 0, .int .i64 10, .int .u8 0, .int .i64 900, .int .i64 0, .int .i64 0, .int .u8 1, .int .i64 901, .int .i64 0, .int .i64 0, .int .u8 0, .int .i64 900, .int .i64 (-1), .int .i64 0, .int .u8 0] 42 (0, 0)) :: (g2, .cells (shC (.slice pcS csL.length ccS) (.slice poS osS.length coS) (tlT tl0 ((tn : Nat) : Int))).toArray 32 (0, 0)) :: Kl9) ((0 + st.length) + 1) (((([] : List Sd).flatMap sdC) ++ (st.flatMap sdC)) ++ [.int .i64 y19.box, .int .i64 y19.slot.col, .int .i64 y19.slot.tier, .int .u8 ((y19.slot.half : Nat) : Int)])) (i := 5) rfl rfl rfl Tw.kr rfl (app_own el_sd (m := 1) (c := 1) (news := [.int .i64 y19.box, .int .i64 y19.slot.col, .int .i64 y19.slot.tier, .int .u8 ((y19.slot.half : Nat) : Int)]) rfl Tw.kr Tw.kr Tw.m0 O46 Tw.sc (fun p hp => ⟨by simp only [List.mem_cons, List.mem_append, List.nil_append, List.not_mem_nil, or_assoc, or_false, false_or] at hp ⊢ <;> grind, (show Dj ((g20, .cells (sdC y19).toArray 42 (0, 0)) :: (g12, .cells #[.int .i64 900, .int .i64 far, .int .i64 0, .int .u8 0, .int .i64 900, .int .i64 0, .int .i64 10, .int .u8 0, .int .i64 900, .int .i64 0, .int .i64 0, .int .u8 1, .int .i64 901, .int .i64 0, .int .i64 0, .int .u8 0, .int .i64 900, .int .i64 (-1), .int .i64 0, .int .u8 0] 42 (0, 0)) :: (g2, .cells (shC (.slice pcS csL.length ccS) (.slice poS osS.length coS) (tlT tl0 ((tn : Nat) : Int))).toArray 32 (0, 0)) :: Kl9) Kl46 from Tw.djt) p hp⟩) rfl (by simp [strV, Value.oneCell']) Tw.om Tw.om Tw.om) (Z.appO_keep (fun p hp => by rw [List.mem_singleton.1 hp]; simp only [List.mem_cons, List.mem_append, List.nil_append, List.not_mem_nil, or_assoc, or_false, false_or, true_or, or_true])) Tw.pf ?_
       rintro v48 K9 ⟨Kl48, O48, N48, rfl⟩
       obtain ⟨dj49_0, dj49_1, dj49_2, dj49_3⟩ : Dk g20 Kl48 ∧ Dk g12 Kl48 ∧ Dk g2 Kl48 ∧ Dj Kl9 Kl48 := Tw.djf N48
       refine Z.vm (i := 6) (v := v48) rfl rfl rfl ?_
       refine Z.wpV_done Tw.kr (fun W20 hW20 => ?_) _
       change Code.wp ..
       refine wp_seq ?_
       have hq50 := own_app (cells := sdC) (l' := (st ++ [y19])) O48 (by simp only [List.flatMap_append, List.flatMap_nil, List.nil_append]; rfl) (by simp only [List.length_append, List.length_nil, List.length_cons] <;> omega)
       obtain ⟨stN, hstN⟩ : ∃ x, (st ++ [y19]) = x := ⟨_, rfl⟩
       rw [hstN] at hq50
       have lstN : stN.length = st.length + 1 := by rw [← hstN]; simp only [List.length_append, List.length_nil, List.length_cons] <;> omega
       obtain ⟨p50, c50, rfl, n50, R50⟩ := own_rl hq50
       have hbad : loadX csL osS mrN stN = false := by rw [← hmrN, ← hstN]; exact bad_no hLD hkk htL hfl y19 (List.mem_of_getElem? hy19)
       refine wp_region_L (W0 := WB) ((g20, .cells (sdC y19).toArray 42 (0, 0)) :: (g12, .cells #[.int .i64 900, .int .i64 far, .int .i64 0, .int .u8 0, .int .i64 900, .int .i64 0, .int .i64 10, .int .u8 0, .int .i64 900, .int .i64 0, .int .i64 0, .int .u8 1, .int .i64 901, .int .i64 0, .int .i64 0, .int .u8 0, .int .i64 900, .int .i64 (-1), .int .i64 0, .int .u8 0] 42 (0, 0)) :: (g2, .cells (shC (.slice pcS csL.length ccS) (.slice poS osS.length coS) (tlT tl0 ((tn : Nat) : Int))).toArray 32 (0, 0)) :: (Kl9 ++ Kl48)) (hW20) ?_
       refine lv (v := .agg (shC (.slice pcS csL.length ccS) (.slice poS osS.length coS) (tlT tl0 ((tn : Nat) : Int))).toArray) rfl rfl (yb_load (n := 13) (off := 0) rfl Tw.kr Tw.m2 Try.underlying32 rfl Tw.kr (by first | (simp [Value.cells]; done) | exact Nat.le_of_ble_eq_true rfl) Tw.kr) ?_
       refine lm (v := .slice p11 mrN.length c11) rfl rfl ?_
       refine lm (v := .slice p50 stN.length c50) rfl rfl ?_
       refine wpL_c (f := 21) (args := #[.agg (shC (.slice pcS csL.length ccS) (.slice poS osS.length coS) (tlT tl0 ((tn : Nat) : Int))).toArray, .slice p11 mrN.length c11, .slice p50 stN.length c50]) (fun v K9 => ∃ v1, v = .tuple #[v1, .int .i64 2] ∧ OutRL ftC WB ((g20, .cells (sdC y19).toArray 42 (0, 0)) :: (g12, .cells #[.int .i64 900, .int .i64 far, .int .i64 0, .int .u8 0, .int .i64 900, .int .i64 0, .int .i64 10, .int .u8 0, .int .i64 900, .int .i64 0, .int .i64 0, .int .u8 1, .int .i64 901, .int .i64 0, .int .i64 0, .int .u8 0, .int .i64 900, .int .i64 (-1), .int .i64 0, .int .u8 0] 42 (0, 0)) :: (g2, .cells (shC (.slice pcS csL.length ccS) (.slice poS osS.length coS) (tlT tl0 ((tn : Nat) : Int))).toArray 32 (0, 0)) :: (Kl9 ++ Kl48)) ([] : List Ft) v1 K9) rfl Tw.kr Tw.kf (fun W hW => calls_tur hW ((by have h9 := Check_any csL pcS ccS Tw.om osS poS coS Tw.om tl0 ((tn : Nat) : Int) mrN p11 c11 Tw.om stN p50 c50 Tw.om W ((RL.base HCS.out) _ (hW.sub (fun _ h => by cases h))) ((RL.base HOS.out) _ (hW.sub (fun _ h => by cases h))) (HRS.out.keep hW.1) lrS (HPS.out.keep hW.1) lpS (R11 _ (hW.sub (fun p hp => by simp only [List.mem_cons, List.mem_append, List.nil_append, List.not_mem_nil, or_assoc, or_false, false_or, hp, true_or, or_true]))) (R50 _ (hW.sub (fun p hp => by simp only [List.mem_cons, List.mem_append, List.nil_append, List.not_mem_nil, or_assoc, or_false, false_or, hp, true_or, or_true]))) tl0_one; rw [(check_no ((tn : Nat) : Int) hbad).1, (check_no ((tn : Nat) : Int) hbad).2] at h9; exact h9))) Tw.pf ?_
       rintro _ _ ⟨_, rfl, p51, c51, Kl51, rfl, n51, R51, N51, rfl⟩
       obtain ⟨dj52_0, dj52_1, dj52_2, dj52_3, dj52_4⟩ : Dk g20 Kl51 ∧ Dk g12 Kl51 ∧ Dk g2 Kl51 ∧ Dj Kl9 Kl51 ∧ Dj Kl48 Kl51 := Tw.djf N51
       refine wpL_sub (K2 := ((g20, .cells (sdC y19).toArray 42 (0, 0)) :: (g12, .cells #[.int .i64 900, .int .i64 far, .int .i64 0, .int .u8 0, .int .i64 900, .int .i64 0, .int .i64 10, .int .u8 0, .int .i64 900, .int .i64 0, .int .i64 0, .int .u8 1, .int .i64 901, .int .i64 0, .int .i64 0, .int .u8 0, .int .i64 900, .int .i64 (-1), .int .i64 0, .int .u8 0] 42 (0, 0)) :: (g2, .cells (shC (.slice pcS csL.length ccS) (.slice poS osS.length coS) (tlT tl0 ((tn : Nat) : Int))).toArray 32 (0, 0)) :: (Kl9 ++ (Kl48 ++ Kl51)))) (fun p hp => by simp only [List.mem_cons, List.mem_append, or_assoc] at hp ⊢; exact hp) ?_
       refine lm (v := .tuple #[.slice p51 (([] : List Ft).length) c51, .int .i64 2]) rfl rfl ?_
       refine lm (v := .slice p51 (([] : List Ft).length) c51) rfl rfl ?_
       refine lm (v := .int .i64 2) rfl rfl ?_
       refine lm (v := .slice p51 (([] : List Ft).length) c51) rfl rfl ?_
       refine lm (v := .int .i64 2) rfl rfl ?_
       refine wpL_done (fun W21 hW21 => ?_)
       change Code.wp ..
       refine wp_seq ?_
       refine wp_region_L (W0 := WB) ((g20, .cells (sdC y19).toArray 42 (0, 0)) :: (g12, .cells #[.int .i64 900, .int .i64 far, .int .i64 0, .int .u8 0, .int .i64 900, .int .i64 0, .int .i64 10, .int .u8 0, .int .i64 900, .int .i64 0, .int .i64 0, .int .u8 1, .int .i64 901, .int .i64 0, .int .i64 0, .int .u8 0, .int .i64 900, .int .i64 (-1), .int .i64 0, .int .u8 0] 42 (0, 0)) :: (g2, .cells (shC (.slice pcS csL.length ccS) (.slice poS osS.length coS) (tlT tl0 ((tn : Nat) : Int))).toArray 32 (0, 0)) :: (Kl9 ++ (Kl48 ++ Kl51))) (hW21) ?_
       refine lm (v := .int .i64 2) rfl rfl ?_
       refine lm (v := .bool false) rfl rfl ?_
       refine lm (v := .bool false) rfl rfl ?_
       refine lm (v := .slice p51 (([] : List Ft).length) c51) rfl rfl ?_
       refine lp (v := .int .i64 0) rfl rfl (run_lenL (p := p51) (cap := c51) (n := ([] : List Ft).length) rfl Try.underlying58 Tw.kr) ?_
       refine lm (v := .bool false) rfl rfl ?_
       refine lm (v := .bool false) rfl rfl ?_
       refine wpL_done (fun W22 hW22 => ?_)
       change Code.wp ..
       refine wp_cond_false rfl ?_
       refine wp_skip ?_
       change Code.wp ..
       refine wp_region_L (W0 := WB) ((g20, .cells (sdC y19).toArray 42 (0, 0)) :: (g12, .cells #[.int .i64 900, .int .i64 far, .int .i64 0, .int .u8 0, .int .i64 900, .int .i64 0, .int .i64 10, .int .u8 0, .int .i64 900, .int .i64 0, .int .i64 0, .int .u8 1, .int .i64 901, .int .i64 0, .int .i64 0, .int .u8 0, .int .i64 900, .int .i64 (-1), .int .i64 0, .int .u8 0] 42 (0, 0)) :: (g2, .cells (shC (.slice pcS csL.length ccS) (.slice poS osS.length coS) (tlT tl0 ((tn : Nat) : Int))).toArray 32 (0, 0)) :: (Kl9 ++ (Kl48 ++ Kl51))) (hW22) ?_
       refine lp (v := .int .i64 (((k + 1) : Nat) : Int)) rfl rfl (run_bin rfl (vx := (.int .i64 ((k : Nat) : Int))) (vy := (.int .i64 ((1 : Nat) : Int))) Tw.kr Tw.kr fun w => bn_add (z := (k + 1)) rfl (wr_i64 Tw.om) w) ?_
       refine lm (v := .int .i64 (((k + 1) : Nat) : Int)) rfl rfl ?_
       refine wpL_done (fun W23 hW23 => ?_)
       go_roundw
       case rel =>
         repeat apply Exists.intro
         exact ⟨⟨k + 1, Tw.om, rfl, (hW23.sub (fun p hp => by first | exact hp | (simp only [List.mem_cons, List.mem_append, List.nil_append, List.not_mem_nil, or_assoc, or_false, false_or] at hp ⊢ <;> grind)))⟩, rfl⟩
       case measure => (show 5 - (intOf (.int .i64 (((k + 1) : Nat) : Int))).toNat < 5 - (intOf (.int .i64 ((k : Nat) : Int))).toNat); simp only [intOf]; omega
end Go.Proofs.Ytnbfljcilojllaa
/- What came in: limits and drops. -/
namespace Go.Proofs.Ytnbfljcilojllaa
open Go.ChangeShapes Go.WideShapes Go.ChangeAt Go.RowKit Tw
open Go
structure Wt where
 h : Nat
 a : Nat
 t : Nat
def wtC (y : Wt) : List Value := [.int .u8 ((y.h : Nat) : Int), .int .u8 ((y.a : Nat) : Int), .int .u8 ((y.t : Nat) : Int)]
def wtOk (y : Wt) : Prop := y.h ≤ 255 ∧ y.a ≤ 255 ∧ y.t ≤ 255
def dpOk (d : Dp) : Prop := d.col ≤ 255 ∧ d.kil ≤ 255
theorem opens_wt : OpensC Try.prog 52 wtC wtOk := by
 intro H enc w base sp held fuel cs x h
 obtain ⟨hl, hf⟩ := trod_fld Try.underlying52 h
 have c1 : Try.prog.cellsOf 5 = 1 := by kernel_rfl
 have c2 : Try.prog.cellsOf 4 = 1 := by kernel_rfl
 have c6 : Try.prog.cellsOf 52 = 3 := by kernel_rfl
 rw [c6] at hl
 obtain ⟨v0, v1, v2, rfl⟩ : ∃ v0 v1 v2, cs = [v0, v1, v2] := by
   rcases cs with _ | ⟨v0, _ | ⟨v1, _ | ⟨v2, _ | ⟨vz, cs⟩⟩⟩⟩ <;> simp at hl
   exact ⟨v0, v1, v2, rfl⟩
 have key : ∀ (i : Nat) (f : Field) (v : Value), (#[v0, v1, v2] : Array Value)[i]? = some v → f.type = 5 → f.offset = i → (∃ n y, DataW.trod enc Try.prog w base sp held n f.type ((([v0, v1, v2] : List Value).drop f.offset).take (Try.prog.cellsOf f.type)) = some y) → ∃ n : Nat, v = .int .u8 ((n : Nat) : Int) ∧ n ≤ 255 := by
   intro i f v hv ht ho ⟨n, y, hy⟩
   rw [ht, c1, ho] at hy
   obtain ⟨z, hz, hz1, hz2⟩ := fld_int (P := Try.prog) Try.underlying5 hy
   have hv2 : ([v0, v1, v2] : List Value)[i]? = some v := by simpa using hv
   obtain ⟨hi, hvi⟩ := List.getElem?_eq_some_iff.1 hv2
   rw [List.drop_eq_getElem_cons hi, hvi] at hz
   have hz0 : v = .int .u8 z := by simpa using hz
   have m1 : IntKind.u8.min = 0 := by decide
   have m2 : IntKind.u8.max = 255 := by decide
   rw [m1] at hz1; rw [m2] at hz2
   exact ⟨z.toNat, by rw [hz0, Int.toNat_of_nonneg hz1], by omega⟩
 obtain ⟨n0, rfl, b0⟩ := key 0 _ v0 rfl rfl rfl (hf 0 _ rfl)
 obtain ⟨n1, rfl, b1⟩ := key 1 _ v1 rfl rfl rfl (hf 1 _ rfl)
 obtain ⟨n2, rfl, b2⟩ := key 2 _ v2 rfl rfl rfl (hf 2 _ rfl)
 exact ⟨⟨n0, n1, n2⟩, rfl, b0, b1, b2⟩
theorem opens_dp : OpensC Try.prog 131 dpC dpOk := by
 intro H enc w base sp held fuel cs x h
 obtain ⟨hl, hf⟩ := trod_fld Try.underlying131 h
 have c1 : Try.prog.cellsOf 5 = 1 := by kernel_rfl
 have c2 : Try.prog.cellsOf 4 = 1 := by kernel_rfl
 have c6 : Try.prog.cellsOf 131 = 4 := by kernel_rfl
 rw [c6] at hl
 obtain ⟨v0, v1, v2, v3, rfl⟩ : ∃ v0 v1 v2 v3, cs = [v0, v1, v2, v3] := by
   rcases cs with _ | ⟨v0, _ | ⟨v1, _ | ⟨v2, _ | ⟨v3, _ | ⟨vz, cs⟩⟩⟩⟩⟩ <;> simp at hl
   exact ⟨v0, v1, v2, v3, rfl⟩
 have key : ∀ (i : Nat) (f : Field) (v : Value), (#[v0, v1, v2, v3] : Array Value)[i]? = some v → f.type = 5 → f.offset = i → (∃ n y, DataW.trod enc Try.prog w base sp held n f.type ((([v0, v1, v2, v3] : List Value).drop f.offset).take (Try.prog.cellsOf f.type)) = some y) → ∃ n : Nat, v = .int .u8 ((n : Nat) : Int) ∧ n ≤ 255 := by
   intro i f v hv ht ho ⟨n, y, hy⟩
   rw [ht, c1, ho] at hy
   obtain ⟨z, hz, hz1, hz2⟩ := fld_int (P := Try.prog) Try.underlying5 hy
   have hv2 : ([v0, v1, v2, v3] : List Value)[i]? = some v := by simpa using hv
   obtain ⟨hi, hvi⟩ := List.getElem?_eq_some_iff.1 hv2
   rw [List.drop_eq_getElem_cons hi, hvi] at hz
   have hz0 : v = .int .u8 z := by simpa using hz
   have m1 : IntKind.u8.min = 0 := by decide
   have m2 : IntKind.u8.max = 255 := by decide
   rw [m1] at hz1; rw [m2] at hz2
   exact ⟨z.toNat, by rw [hz0, Int.toNat_of_nonneg hz1], by omega⟩
 have keb : ∀ (i : Nat) (f : Field) (v : Value), (#[v0, v1, v2, v3] : Array Value)[i]? = some v → f.type = 4 → f.offset = i → (∃ n y, DataW.trod enc Try.prog w base sp held n f.type ((([v0, v1, v2, v3] : List Value).drop f.offset).take (Try.prog.cellsOf f.type)) = some y) → ∃ b : Bool, v = .bool b := by
   intro i f v hv ht ho ⟨n, y, hy⟩
   rw [ht, c2, ho] at hy
   obtain ⟨d, hd⟩ := fld_bool (P := Try.prog) Try.underlying4 hy
   have hv2 : ([v0, v1, v2, v3] : List Value)[i]? = some v := by simpa using hv
   obtain ⟨hi, hvi⟩ := List.getElem?_eq_some_iff.1 hv2
   rw [List.drop_eq_getElem_cons hi, hvi] at hd
   exact ⟨d, by simpa using hd⟩
 obtain ⟨n0, rfl, b0⟩ := key 0 _ v0 rfl rfl rfl (hf 0 _ rfl)
 obtain ⟨n1, rfl, b1⟩ := key 1 _ v1 rfl rfl rfl (hf 1 _ rfl)
 obtain ⟨d2, rfl⟩ := keb 2 _ v2 rfl rfl rfl (hf 2 _ rfl)
 obtain ⟨d3, rfl⟩ := keb 3 _ v3 rfl rfl rfl (hf 3 _ rfl)
 exact ⟨⟨n0, n1, d2, d3⟩, rfl, b0, b1⟩
end Go.Proofs.Ytnbfljcilojllaa
/- StackWrong holds for every input: the program's own answer is true; each argument reads afterwards as it read before. -/
namespace Go.Proofs.Ytnbfljcilojllaa
open Go.ChangeShapes Go.WideShapes Go.ChangeAt Go.RowKit Tw
set_option maxRecDepth 100000 in
theorem stackWrong_lifted (os : Os) (started : os.Started) (H : Type) (enc : TypeId × Value → H) :
   ReturnsInHanded {} Try.checked os 8 .any (Rows.stackWrongSpec.pre6 enc Try.prog Try.f8 Rows.stackWrongRow.domain false) (Rows.stackWrongSpec.post enc Try.prog Try.f8 false true false false) := by
 refine returnsInHanded_of_change (C := Try.checked) own started Tw.kr Try.func8
   (ChangeSpec.witness6 (enc := enc) (C := Try.checked) false ⟨#[], #[.slice none 0 0, .int .u32 0, .agg #[.int .u8 0, .int .u8 0, .int .u8 0], .slice none 0 0, .int .i64 0], []⟩ 8 Tw.kr Tw.kr Tw.kr Tw.kr) ?_
 intro W base args ds gs before hval0 hW _ _
 have hval : ∀ (j : Nat) t v, Try.f8.params[j]? = some t → args[j]? = some v → Value.okWide Try.prog W .any base t v := hval0
 have hW2 := hW
 obtain ⟨p, q, hA0, hV, rfl, hfz, hnd⟩ := hW2
 have hA : DataW.TrodAll enc Try.prog W 0 (fun _ => true) true Try.f8.params.toList args.toList ds p := hA0
 rw [Try.params8] at hA hval
 obtain ⟨v0, vs0, d0, ds0, p0, q0, hargs, rfl, rfl, h0, r0⟩ := trodAll_cons hA
 obtain ⟨v1, vs1, d1, ds1, p1, q1, rfl, rfl, rfl, h1, r1⟩ := trodAll_cons r0
 obtain ⟨v2, vs2, d2, ds2, p2, q2, rfl, rfl, rfl, h2, r2⟩ := trodAll_cons r1
 obtain ⟨v3, vs3, d3, ds3, p3, q3, rfl, rfl, rfl, h3, r3⟩ := trodAll_cons r2
 obtain ⟨v4, vs4, d4, ds4, p4, q4, rfl, rfl, rfl, h4, r4⟩ := trodAll_cons r3
 obtain ⟨rfl, rfl, rfl⟩ := trodAll_nil r4
 obtain rfl : args = #[v0, v1, v2, v3, v4] := by cases args; simp_all
 obtain ⟨rfl, rfl⟩ := trodVars_none hV
 have k0 := h0
 have lt0 : ∀ x ∈ p0, x.block < W.heap.size := by obtain ⟨m, hm⟩ := k0; exact DataW.trod_lt m _ _ _ hm
 obtain ⟨p0_, c0, l0, rfl, hb0, hok0, hl0, hc0⟩ := open_recs (sz := 4) Try.underlying49 opens_pl Tw.kr Tw.om (fun _ => rfl) (hval 0 49 v0 rfl rfl) h0
 obtain ⟨a1, rfl, rfl, rfl, w1⟩ := open_int Try.underlying50 (hval 1 50 v1 rfl rfl) h1
 have rr1 : 0 ≤ a1 ∧ a1 ≤ 4294967295 := of_wf w1
 obtain ⟨n1, rfl⟩ : ∃ n : Nat, a1 = (n : Int) := ⟨a1.toNat, by omega⟩
 have k2 := h2
 have lt2 : ∀ x ∈ p2, x.block < W.heap.size := by obtain ⟨m, hm⟩ := k2; exact DataW.trod_lt m _ _ _ hm
 obtain ⟨y2, rfl, ok2⟩ := open_rec Try.underlying52 opens_wt (hval 2 52 v2 rfl rfl) h2
 have k3 := h3
 have lt3 : ∀ x ∈ p3, x.block < W.heap.size := by obtain ⟨m, hm⟩ := k3; exact DataW.trod_lt m _ _ _ hm
 obtain ⟨p3_, c3, l3, rfl, hb3, hok3, hl3, hc3⟩ := open_recs (sz := 4) Try.underlying53 opens_dp Tw.kr Tw.om (fun _ => rfl) (hval 3 53 v3 rfl rfl) h3
 obtain ⟨a4, rfl, rfl, rfl, w4⟩ := open_int Try.underlying3 (hval 4 3 v4 rfl rfl) h4
 have rr4 : -9223372036854775808 ≤ a4 ∧ a4 ≤ 9223372036854775807 := of_wf w4
 clear hA0 hval0
 refine (StackWrong_law l0 p0_ c0 n1 (Nat.le_trans hl0 (by unfold maxLen; omega)) hc0 hok0 Tw.om y2.h y2.a y2.t ok2.1 ok2.2.1 ok2.2.2 l3 p3_ c3 (Nat.le_trans hl3 (by unfold maxLen; omega)) hc3 hok3 a4 W hb0 hb3).mono fun e W' ⟨he, bel⟩ => ?_
 subst he
 exact ⟨_, rfl, _, _, _, [], _, [], hW, (trodAll_cons_mk (shut_bool Try.underlying4 _) trodAll_mk0), (trodAll_cons_mk (Below.trod laidOut Tw.kr (of_decide_eq_true Tw.kr) k0 bel lt0) (trodAll_cons_mk (shut_int Try.underlying50 w1) (trodAll_cons_mk (Below.trod laidOut Tw.kr (of_decide_eq_true Tw.kr) k2 bel lt2) (trodAll_cons_mk (Below.trod laidOut Tw.kr (of_decide_eq_true Tw.kr) k3 bel lt3) (trodAll_cons_mk (shut_int Try.underlying3 w4) trodAll_mk0))))), rfl, bel.frame _, fun h => by cases h⟩
theorem stackWrong_proved : Rows.StackWrongSaid :=
 OpenClaim.holds_of_wide 8 Try.f8 rfl rfl rfl rfl rfl rfl rfl ⟨rfl, rfl, rfl, rfl, rfl⟩ rfl rfl rfl rfl rfl Tw.kr Try.func8 Tw.kr
   (of_decide_eq_true Tw.kr) (by unfold Func.isWrapper; first | (rw [if_pos (by decide +kernel)]; kernel_rfl) | (rw [if_neg (by decide +kernel)]; exact ⟨rfl, rfl⟩))
   (fun os started H enc _ => stackWrong_lifted os started H enc)
#print axioms stackWrong_proved
end Go.Proofs.Ytnbfljcilojllaa
