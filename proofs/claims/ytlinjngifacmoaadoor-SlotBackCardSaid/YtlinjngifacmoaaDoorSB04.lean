import Derived.Test.YtlinjngifacmoaaDoorSB03
import Derived.Test.YtlinjngifacmoaaDoorSB00
import Derived.Test.YtlinjngifacmoaaDoorSB02
import Derived.Handed
import Derived.ChangeArms
import Derived.SizedLaws
import Derived.Test.YtlinjngifacmoaaDoorCards
import Derived.Test.YtlinjngifacmoaaDoorTie
import Derived.WalkKit
import Derived.ProofKit
import Derived.OpenShut
import Derived.LaidMore
import Derived.ChangeOld
import Derived.ChangeMaps5
import Derived.Shelf.Vars
import Derived.Stop.Joined
import Derived.Stop.LaidErr
import Derived.SevenTiedAt
/- Part of the proof: L8o, TM0, U8, L9r. -/
set_option linter.unusedVariables false
set_option linter.unusedSimpArgs false
set_option linter.unusedSectionVars false
namespace Go.Proofs.YtlinjngifacmoaaDoor
open Go Go.RowKit Tw
theorem slv_pre8 {W : World} {p : Option Addr} {xs ys : List Value} (h : SLV W p (xs ++ ys)) : SLV W p xs := by
 rcases h with h | ⟨g, off, hp, hlt, hc⟩
 · left
   first | exact (List.append_eq_nil_iff.1 h).1 | exact h
 · exact .inr ⟨g, off, hp, hlt, fun j v hv => hc j v (by rw [List.getElem?_append_left (List.getElem?_eq_some_iff.1 hv).1]; exact hv)⟩
set_option maxRecDepth 100000 in
set_option maxHeartbeats 4000000 in
theorem at_any (c t : Int) (h : Nat) (w : World) : Calls Tryd.prog 38 #[.int .i64 c, .int .i64 t, .int .u8 ((h : Nat) : Int)] w fun e w' => e = .returned (.agg (sltC ⟨c, t, h⟩).toArray) ∧ Below w.heap.size w w' := by
 go_enter Tryd.func38, Tryd.ntmps38
 refine wp_seq ?_
 refine wp_region_L [] (KS.start w) ?_
 refine wpL_new (fun g => .pointer (some ⟨g, 0, none⟩)) (obi := .cells #[.int .i64 0, .int .i64 0, .int .u8 0] 34 (0, 0)) rfl rfl Tw.kf Tw.pf fun g1 Bg1 Fg1 => ?_
 refine wpL_done (fun W1 hW1 => ?_)
 change Code.wp ..
 refine wp_seq ?_
 refine wp_region_L _ hW1 ?_
 refine lm (v := .int .i64 c) rfl rfl ?_
 refine lm (v := .int .i64 t) rfl rfl ?_
 refine lm (v := .int .u8 ((h : Nat) : Int)) rfl rfl ?_
 refine lm (v := .agg #[.int .i64 c, .int .i64 t, .int .u8 ((h : Nat) : Int)]) rfl rfl ?_
 refine wpL_s [(g1, .cells #[.int .i64 c, .int .i64 t, .int .u8 ((h : Nat) : Int)] 34 (0, 0))] rfl rfl (st_row (off := 0) (v := .agg #[.int .i64 c, .int .i64 t, .int .u8 ((h : Nat) : Int)]) rfl Tw.kr Tw.kr Tw.m0 Bg1 Tw.kr (by first | (simp [Value.cells]; done) | exact Nat.le_of_ble_eq_true rfl) (by intro v hv; simp [Value.cells] at hv; first | (subst hv; rfl) | (rcases hv with rfl | rfl | rfl <;> rfl)) Tw.kr (List.forall_mem_cons.2 ⟨.inl rfl, (List.forall_mem_nil _)⟩)) ?_
 refine wpL_done (fun W2 hW2 => ?_)
 change Code.wp ..
 refine wp_ret ?_
 try simp only [inBlock_ret, then_ret]
 refine bodyPost_ret (v := .agg #[.int .i64 c, .int .i64 t, .int .u8 ((h : Nat) : Int)]) ?_ rfl ?_
 · exact (res_cell (p := 6) rfl rfl (hW2.2 _ Tw.m0) Tryd.underlying34 rfl Tw.kr)
 · exact ⟨rfl, hW2.1⟩
set_option maxRecDepth 100000 in
set_option maxHeartbeats 4000000 in
theorem awake8_any (w : World) (hE : Env w) : Calls Tryd.prog 11 #[] w fun e w' => e = .returned (.bool true) ∧ Below w.heap.size w w' := by
 have HE := Lib.hid hE
 clear hE
 go_enter Tryd.func11, Tryd.ntmps11
 refine wp_seq ?_
 refine wp_region_L [] (KS.start w) ?_
 refine lm (v := .bool false) rfl rfl ?_
 refine wpL_done (fun W1 hW1 => ?_)
 change Code.wp ..
 refine wp_seq ?_
 refine wp_region_L _ hW1 ?_
 refine wpL_c (f := 37) (args := #[]) (ShipT w exCs [(0, [0, 1])]) rfl Tw.kr Tw.kf (fun W hW => (Example_any W hW).mono fun _ _ ⟨v, T, he, hk, hs⟩ => ⟨v, T, he, hk, hs⟩) Tw.pf ?_
 rintro _ TS ⟨pcS, ccS, osS, poS, coS, rfl, hccS, hcoS, hCS, hOS, hRS, hMS⟩
 refine wpL_rebase fun WB hWB => ?_
 have HCS := Lib.hid (hCS WB hWB)
 have HOS := Lib.hid (hOS WB hWB)
 have HRS := Lib.hid (hRS WB hWB)
 clear hCS hOS hRS
 obtain ⟨rp, rc, rfl⟩ := one_cov hMS
 have lrS : ∀ o ∈ [(⟨0, [0, 1], rp, rc⟩ : Cov)], o.rows.length ≤ 4000000000 := fun o ho => by cases List.mem_singleton.1 ho; exact Nat.le_of_ble_eq_true rfl
 have HPS := Lib.hid (show PlR WB exCs from plr_nil (by decide))
 have lpS : ∀ c ∈ exCs, c.plugs.length ≤ 4000000000 := by decide
 refine wpL_new (fun g => .pointer (some ⟨g, 0, none⟩)) (obi := .cells (shC (.slice none 0 0) (.slice none 0 0) tl0).toArray 32 (0, 0)) rfl rfl Tw.kf Tw.pf fun g1 Bg1 Fg1 => ?_
 refine wpL_s [(g1, .cells (shC (.slice pcS exCs.length ccS) (.slice poS ([(⟨0, [0, 1], rp, rc⟩ : Cov)].length) coS) tl0).toArray 32 (0, 0))] rfl rfl (st_row (off := 0) (v := .agg (shC (.slice pcS exCs.length ccS) (.slice poS ([(⟨0, [0, 1], rp, rc⟩ : Cov)].length) coS) tl0).toArray) rfl Tw.kr Tw.kr Tw.m0 Bg1 Tw.kr (by first | (simp [Value.cells]; done) | exact Nat.le_of_ble_eq_true rfl) (fun v hv => shC_one v hv) Tw.kr (List.forall_mem_cons.2 ⟨.inl rfl, (List.forall_mem_nil _)⟩)) ?_
 refine wpL_done (fun W2 hW2 => ?_)
 change Code.wp ..
 refine wp_seq ?_
 refine wp_region_V (W0 := WB) [(g1, .cells (shC (.slice pcS exCs.length ccS) (.slice poS ([(⟨0, [0, 1], rp, rc⟩ : Cov)].length) coS) tl0).toArray 32 (0, 0))] Tw.kr (hW2) ?_
 refine vv (i := 0) (v := .agg (shC (.slice pcS exCs.length ccS) (.slice poS ([(⟨0, [0, 1], rp, rc⟩ : Cov)].length) coS) tl0).toArray) rfl rfl rfl (yb_load (n := 13) (off := 0) rfl Tw.kr Tw.m0 Tryd.underlying32 rfl Tw.kr (by first | (simp [Value.cells]; done) | exact Nat.le_of_ble_eq_true rfl) Tw.kr) ?_
 refine vv (i := 1) (v := .agg #[.int .i64 1, .int .i64 0, .int .u8 2]) rfl rfl rfl (yb_call (f := 38) (args := #[.int .i64 1, .int .i64 0, .int .u8 2]) Tw.kf fun W hW => at_any 1 0 2 W) ?_
 refine vv (i := 2) (v := .tuple #[strV [48, 48, 51, 48, 49, 48, 50], .int .i64 0]) rfl rfl rfl (yb_call (f := 29) (args := #[.agg (shC (.slice pcS exCs.length ccS) (.slice poS ([(⟨0, [0, 1], rp, rc⟩ : Cov)].length) coS) tl0).toArray, .agg #[.int .i64 1, .int .i64 0, .int .u8 2]]) Tw.kf fun W hW => (by have h9 := SName_any exCs pcS ccS (by decide) [(⟨0, [0, 1], rp, rc⟩ : Cov)] poS coS (Nat.le_of_ble_eq_true rfl) tl0 1 0 2 W ((RL.base HCS.out) _ (hW.sub (fun _ h => by cases h))) ((RL.base HOS.out) _ (hW.sub (fun _ h => by cases h))) (HRS.out.keep hW.1) lrS (HPS.out.keep hW.1) lpS (HE.out.keep (hWB.1.trans (hW.1.mono hWB.1.size))); rw [show nameR exCs [(⟨0, [0, 1], rp, rc⟩ : Cov)] (⟨1, 0, 2⟩ : Slt) = ([48, 48, 51, 48, 49, 48, 50], 0) from by kernel_rfl] at h9; exact h9)) ?_
 refine vm (i := 3) (v := .tuple #[strV [48, 48, 51, 48, 49, 48, 50], .int .i64 0]) rfl rfl rfl ?_
 refine vm (i := 4) (v := strV [48, 48, 51, 48, 49, 48, 50]) rfl rfl rfl ?_
 refine vm (i := 5) (v := .int .i64 0) rfl rfl rfl ?_
 refine vm (i := 6) (v := strV [48, 48, 51, 48, 49, 48, 50]) rfl rfl rfl ?_
 refine vm (i := 7) (v := .int .i64 0) rfl rfl rfl ?_
 refine wpV_done Tw.kr (fun W3 hW3 => ?_) _
 change Code.wp ..
 refine wp_seq ?_
 refine wp_region_V (W0 := WB) [(g1, .cells (shC (.slice pcS exCs.length ccS) (.slice poS ([(⟨0, [0, 1], rp, rc⟩ : Cov)].length) coS) tl0).toArray 32 (0, 0))] Tw.kr (hW3) ?_
 refine vv (i := 0) (v := .agg (shC (.slice pcS exCs.length ccS) (.slice poS ([(⟨0, [0, 1], rp, rc⟩ : Cov)].length) coS) tl0).toArray) rfl rfl rfl (yb_load (n := 13) (off := 0) rfl Tw.kr Tw.m0 Tryd.underlying32 rfl Tw.kr (by first | (simp [Value.cells]; done) | exact Nat.le_of_ble_eq_true rfl) Tw.kr) ?_
 refine vv (i := 1) (v := .agg #[.int .i64 4, .int .i64 3, .int .u8 0]) rfl rfl rfl (yb_call (f := 38) (args := #[.int .i64 4, .int .i64 3, .int .u8 0]) Tw.kf fun W hW => at_any 4 3 0 W) ?_
 refine vv (i := 2) (v := .tuple #[strV [48, 48, 54, 48, 49, 56, 56], .int .i64 0]) rfl rfl rfl (yb_call (f := 29) (args := #[.agg (shC (.slice pcS exCs.length ccS) (.slice poS ([(⟨0, [0, 1], rp, rc⟩ : Cov)].length) coS) tl0).toArray, .agg #[.int .i64 4, .int .i64 3, .int .u8 0]]) Tw.kf fun W hW => (by have h9 := SName_any exCs pcS ccS (by decide) [(⟨0, [0, 1], rp, rc⟩ : Cov)] poS coS (Nat.le_of_ble_eq_true rfl) tl0 4 3 0 W ((RL.base HCS.out) _ (hW.sub (fun _ h => by cases h))) ((RL.base HOS.out) _ (hW.sub (fun _ h => by cases h))) (HRS.out.keep hW.1) lrS (HPS.out.keep hW.1) lpS (HE.out.keep (hWB.1.trans (hW.1.mono hWB.1.size))); rw [show nameR exCs [(⟨0, [0, 1], rp, rc⟩ : Cov)] (⟨4, 3, 0⟩ : Slt) = ([48, 48, 54, 48, 49, 56, 56], 0) from by kernel_rfl] at h9; exact h9)) ?_
 refine vm (i := 3) (v := .tuple #[strV [48, 48, 54, 48, 49, 56, 56], .int .i64 0]) rfl rfl rfl ?_
 refine vm (i := 4) (v := strV [48, 48, 54, 48, 49, 56, 56]) rfl rfl rfl ?_
 refine vm (i := 5) (v := .int .i64 0) rfl rfl rfl ?_
 refine vm (i := 6) (v := strV [48, 48, 54, 48, 49, 56, 56]) rfl rfl rfl ?_
 refine vm (i := 7) (v := .int .i64 0) rfl rfl rfl ?_
 refine wpV_done Tw.kr (fun W4 hW4 => ?_) _
 change Code.wp ..
 refine wp_seq ?_
 refine wp_region_L (W0 := WB) [(g1, .cells (shC (.slice pcS exCs.length ccS) (.slice poS ([(⟨0, [0, 1], rp, rc⟩ : Cov)].length) coS) tl0).toArray 32 (0, 0))] (hW4) ?_
 refine lv (v := .agg (shC (.slice pcS exCs.length ccS) (.slice poS ([(⟨0, [0, 1], rp, rc⟩ : Cov)].length) coS) tl0).toArray) rfl rfl (yb_load (n := 13) (off := 0) rfl Tw.kr Tw.m0 Tryd.underlying32 rfl Tw.kr (by first | (simp [Value.cells]; done) | exact Nat.le_of_ble_eq_true rfl) Tw.kr) ?_
 refine lv (v := .tuple #[.agg #[.int .i64 4, .int .i64 3, .int .u8 0], .int .i64 0]) rfl rfl (yb_call (f := 31) (args := #[.agg (shC (.slice pcS exCs.length ccS) (.slice poS ([(⟨0, [0, 1], rp, rc⟩ : Cov)].length) coS) tl0).toArray, strV [48, 48, 54, 48, 49, 56, 56]]) Tw.kf fun W hW => (by have h9 := SFind_any exCs pcS ccS (by decide) [(⟨0, [0, 1], rp, rc⟩ : Cov)] poS coS (Nat.le_of_ble_eq_true rfl) tl0 [48, 48, 54, 48, 49, 56, 56] (Nat.le_of_ble_eq_true rfl) W ((RL.base HCS.out) _ (hW.sub (fun _ h => by cases h))) ((RL.base HOS.out) _ (hW.sub (fun _ h => by cases h))) (HRS.out.keep hW.1) lrS (HPS.out.keep hW.1) lpS (HE.out.keep (hWB.1.trans (hW.1.mono hWB.1.size))); rw [show findR exCs [(⟨0, [0, 1], rp, rc⟩ : Cov)] [48, 48, 54, 48, 49, 56, 56] = (⟨4, 3, 0⟩, 0) from by kernel_rfl] at h9; exact h9)) ?_
 refine lm (v := .tuple #[.agg #[.int .i64 4, .int .i64 3, .int .u8 0], .int .i64 0]) rfl rfl ?_
 refine lm (v := .agg #[.int .i64 4, .int .i64 3, .int .u8 0]) rfl rfl ?_
 refine lm (v := .int .i64 0) rfl rfl ?_
 refine wpL_new (fun g => .pointer (some ⟨g, 0, none⟩)) (obi := .cells #[.int .i64 0, .int .i64 0, .int .u8 0] 34 (0, 0)) rfl rfl Tw.kf Tw.pf fun g2 Bg2 Fg2 => ?_
 obtain dj3_0 : g1 ≠ g2 := Tw.dkf Fg2
 refine wpL_s [(g2, .cells #[.int .i64 4, .int .i64 3, .int .u8 0] 34 (0, 0)), (g1, .cells (shC (.slice pcS exCs.length ccS) (.slice poS ([(⟨0, [0, 1], rp, rc⟩ : Cov)].length) coS) tl0).toArray 32 (0, 0))] rfl rfl (st_row (off := 0) (v := .agg #[.int .i64 4, .int .i64 3, .int .u8 0]) rfl Tw.kr Tw.kr Tw.m0 Bg2 Tw.kr (by first | (simp [Value.cells]; done) | exact Nat.le_of_ble_eq_true rfl) (by intro v hv; simp [Value.cells] at hv; first | (subst hv; rfl) | (rcases hv with rfl | rfl | rfl <;> rfl)) Tw.kr (List.forall_mem_cons.2 ⟨.inl rfl, (List.forall_mem_cons.2 ⟨.inr ⟨Tw.m1, Tw.nee⟩, (List.forall_mem_nil _)⟩)⟩)) ?_
 refine lm (v := .int .i64 0) rfl rfl ?_
 refine wpL_done (fun W5 hW5 => ?_)
 change Code.wp ..
 refine wp_seq ?_
 refine wp_region_L (W0 := WB) [(g2, .cells #[.int .i64 4, .int .i64 3, .int .u8 0] 34 (0, 0)), (g1, .cells (shC (.slice pcS exCs.length ccS) (.slice poS ([(⟨0, [0, 1], rp, rc⟩ : Cov)].length) coS) tl0).toArray 32 (0, 0))] (hW5) ?_
 refine lv (v := .agg (shC (.slice pcS exCs.length ccS) (.slice poS ([(⟨0, [0, 1], rp, rc⟩ : Cov)].length) coS) tl0).toArray) rfl rfl (yb_load (n := 13) (off := 0) rfl Tw.kr Tw.m1 Tryd.underlying32 rfl Tw.kr (by first | (simp [Value.cells]; done) | exact Nat.le_of_ble_eq_true rfl) Tw.kr) ?_
 refine lv (v := .tuple #[.agg #[.int .i64 0, .int .i64 0, .int .u8 0], .int .i64 6]) rfl rfl (yb_call (f := 31) (args := #[.agg (shC (.slice pcS exCs.length ccS) (.slice poS ([(⟨0, [0, 1], rp, rc⟩ : Cov)].length) coS) tl0).toArray, strV [48, 48, 54, 48, 49, 57, 48]]) Tw.kf fun W hW => (by have h9 := SFind_any exCs pcS ccS (by decide) [(⟨0, [0, 1], rp, rc⟩ : Cov)] poS coS (Nat.le_of_ble_eq_true rfl) tl0 [48, 48, 54, 48, 49, 57, 48] (Nat.le_of_ble_eq_true rfl) W ((RL.base HCS.out) _ (hW.sub (fun _ h => by cases h))) ((RL.base HOS.out) _ (hW.sub (fun _ h => by cases h))) (HRS.out.keep hW.1) lrS (HPS.out.keep hW.1) lpS (HE.out.keep (hWB.1.trans (hW.1.mono hWB.1.size))); rw [show findR exCs [(⟨0, [0, 1], rp, rc⟩ : Cov)] [48, 48, 54, 48, 49, 57, 48] = (⟨0, 0, 0⟩, 6) from by kernel_rfl] at h9; exact h9)) ?_
 refine lm (v := .tuple #[.agg #[.int .i64 0, .int .i64 0, .int .u8 0], .int .i64 6]) rfl rfl ?_
 refine lm (v := .agg #[.int .i64 0, .int .i64 0, .int .u8 0]) rfl rfl ?_
 refine lm (v := .int .i64 6) rfl rfl ?_
 refine wpL_new (fun g => .pointer (some ⟨g, 0, none⟩)) (obi := .cells #[.int .i64 0, .int .i64 0, .int .u8 0] 34 (0, 0)) rfl rfl Tw.kf Tw.pf fun g4 Bg4 Fg4 => ?_
 obtain ⟨dj5_0, dj5_1⟩ : g2 ≠ g4 ∧ g1 ≠ g4 := Tw.dkf Fg4
 refine wpL_s [(g4, .cells #[.int .i64 0, .int .i64 0, .int .u8 0] 34 (0, 0)), (g2, .cells #[.int .i64 4, .int .i64 3, .int .u8 0] 34 (0, 0)), (g1, .cells (shC (.slice pcS exCs.length ccS) (.slice poS ([(⟨0, [0, 1], rp, rc⟩ : Cov)].length) coS) tl0).toArray 32 (0, 0))] rfl rfl (st_row (off := 0) (v := .agg #[.int .i64 0, .int .i64 0, .int .u8 0]) rfl Tw.kr Tw.kr Tw.m0 Bg4 Tw.kr (by first | (simp [Value.cells]; done) | exact Nat.le_of_ble_eq_true rfl) (by intro v hv; simp [Value.cells] at hv; first | (subst hv; rfl) | (rcases hv with rfl | rfl | rfl <;> rfl)) Tw.kr (List.forall_mem_cons.2 ⟨.inl rfl, (List.forall_mem_cons.2 ⟨.inr ⟨Tw.m1, Tw.nee⟩, (List.forall_mem_cons.2 ⟨.inr ⟨Tw.m2, Tw.nee⟩, (List.forall_mem_nil _)⟩)⟩)⟩)) ?_
 refine lm (v := .int .i64 6) rfl rfl ?_
 refine wpL_done (fun W6 hW6 => ?_)
 change Code.wp ..
 refine wp_seq ?_
 refine wp_region_L (W0 := WB) [(g4, .cells #[.int .i64 0, .int .i64 0, .int .u8 0] 34 (0, 0)), (g2, .cells #[.int .i64 4, .int .i64 3, .int .u8 0] 34 (0, 0)), (g1, .cells (shC (.slice pcS exCs.length ccS) (.slice poS ([(⟨0, [0, 1], rp, rc⟩ : Cov)].length) coS) tl0).toArray 32 (0, 0))] (hW6) ?_
 refine lv (v := .agg (shC (.slice pcS exCs.length ccS) (.slice poS ([(⟨0, [0, 1], rp, rc⟩ : Cov)].length) coS) tl0).toArray) rfl rfl (yb_load (n := 13) (off := 0) rfl Tw.kr Tw.m2 Tryd.underlying32 rfl Tw.kr (by first | (simp [Value.cells]; done) | exact Nat.le_of_ble_eq_true rfl) Tw.kr) ?_
 refine lv (v := .tuple #[.agg #[.int .i64 0, .int .i64 0, .int .u8 0], .int .i64 80]) rfl rfl (yb_call (f := 31) (args := #[.agg (shC (.slice pcS exCs.length ccS) (.slice poS ([(⟨0, [0, 1], rp, rc⟩ : Cov)].length) coS) tl0).toArray, strV [48, 48, 54, 48, 49, 56, 55]]) Tw.kf fun W hW => (by have h9 := SFind_any exCs pcS ccS (by decide) [(⟨0, [0, 1], rp, rc⟩ : Cov)] poS coS (Nat.le_of_ble_eq_true rfl) tl0 [48, 48, 54, 48, 49, 56, 55] (Nat.le_of_ble_eq_true rfl) W ((RL.base HCS.out) _ (hW.sub (fun _ h => by cases h))) ((RL.base HOS.out) _ (hW.sub (fun _ h => by cases h))) (HRS.out.keep hW.1) lrS (HPS.out.keep hW.1) lpS (HE.out.keep (hWB.1.trans (hW.1.mono hWB.1.size))); rw [show findR exCs [(⟨0, [0, 1], rp, rc⟩ : Cov)] [48, 48, 54, 48, 49, 56, 55] = (⟨0, 0, 0⟩, 80) from by kernel_rfl] at h9; exact h9)) ?_
 refine lm (v := .tuple #[.agg #[.int .i64 0, .int .i64 0, .int .u8 0], .int .i64 80]) rfl rfl ?_
 refine lm (v := .agg #[.int .i64 0, .int .i64 0, .int .u8 0]) rfl rfl ?_
 refine lm (v := .int .i64 80) rfl rfl ?_
 refine wpL_new (fun g => .pointer (some ⟨g, 0, none⟩)) (obi := .cells #[.int .i64 0, .int .i64 0, .int .u8 0] 34 (0, 0)) rfl rfl Tw.kf Tw.pf fun g6 Bg6 Fg6 => ?_
 obtain ⟨dj7_0, dj7_1, dj7_2⟩ : g4 ≠ g6 ∧ g2 ≠ g6 ∧ g1 ≠ g6 := Tw.dkf Fg6
 refine wpL_s [(g6, .cells #[.int .i64 0, .int .i64 0, .int .u8 0] 34 (0, 0)), (g4, .cells #[.int .i64 0, .int .i64 0, .int .u8 0] 34 (0, 0)), (g2, .cells #[.int .i64 4, .int .i64 3, .int .u8 0] 34 (0, 0)), (g1, .cells (shC (.slice pcS exCs.length ccS) (.slice poS ([(⟨0, [0, 1], rp, rc⟩ : Cov)].length) coS) tl0).toArray 32 (0, 0))] rfl rfl (st_row (off := 0) (v := .agg #[.int .i64 0, .int .i64 0, .int .u8 0]) rfl Tw.kr Tw.kr Tw.m0 Bg6 Tw.kr (by first | (simp [Value.cells]; done) | exact Nat.le_of_ble_eq_true rfl) (by intro v hv; simp [Value.cells] at hv; first | (subst hv; rfl) | (rcases hv with rfl | rfl | rfl <;> rfl)) Tw.kr (List.forall_mem_cons.2 ⟨.inl rfl, (List.forall_mem_cons.2 ⟨.inr ⟨Tw.m1, Tw.nee⟩, (List.forall_mem_cons.2 ⟨.inr ⟨Tw.m2, Tw.nee⟩, (List.forall_mem_cons.2 ⟨.inr ⟨Tw.m3, Tw.nee⟩, (List.forall_mem_nil _)⟩)⟩)⟩)⟩)) ?_
 refine lm (v := .int .i64 80) rfl rfl ?_
 refine wpL_done (fun W7 hW7 => ?_)
 change Code.wp ..
 refine wp_seq ?_
 refine wp_region_L (W0 := WB) [(g6, .cells #[.int .i64 0, .int .i64 0, .int .u8 0] 34 (0, 0)), (g4, .cells #[.int .i64 0, .int .i64 0, .int .u8 0] 34 (0, 0)), (g2, .cells #[.int .i64 4, .int .i64 3, .int .u8 0] 34 (0, 0)), (g1, .cells (shC (.slice pcS exCs.length ccS) (.slice poS ([(⟨0, [0, 1], rp, rc⟩ : Cov)].length) coS) tl0).toArray 32 (0, 0))] (hW7) ?_
 refine lv (v := .agg #[.int .i64 0, .int .i64 0, .int .u8 1]) rfl rfl (yb_call (f := 38) (args := #[.int .i64 0, .int .i64 0, .int .u8 1]) Tw.kf fun W hW => at_any 0 0 1 W) ?_
 refine lv (v := .agg #[.int .i64 0, .int .i64 0, .int .u8 2]) rfl rfl (yb_call (f := 38) (args := #[.int .i64 0, .int .i64 0, .int .u8 2]) Tw.kf fun W hW => at_any 0 0 2 W) ?_
 refine wpL_new (fun g => .slice (some ⟨g, 0, none⟩) 2 2) (obi := .cells #[.int .i64 0, .int .i64 0, .int .u8 1, .int .i64 0, .int .i64 0, .int .u8 2] 34 (0, 0)) rfl rfl Tw.kf Tw.pf fun g8 Bg8 Fg8 => ?_
 obtain ⟨dj9_0, dj9_1, dj9_2, dj9_3⟩ : g6 ≠ g8 ∧ g4 ≠ g8 ∧ g2 ≠ g8 ∧ g1 ≠ g8 := Tw.dkf Fg8
 refine lm (v := .slice (some ⟨g8, 0, none⟩) 2 2) rfl rfl ?_
 refine wpL_done (fun W8 hW8 => ?_)
 change Code.wp ..
 refine wp_seq ?_
 refine wp_region_V (W0 := WB) [(g8, .cells #[.int .i64 0, .int .i64 0, .int .u8 1, .int .i64 0, .int .i64 0, .int .u8 2] 34 (0, 0)), (g6, .cells #[.int .i64 0, .int .i64 0, .int .u8 0] 34 (0, 0)), (g4, .cells #[.int .i64 0, .int .i64 0, .int .u8 0] 34 (0, 0)), (g2, .cells #[.int .i64 4, .int .i64 3, .int .u8 0] 34 (0, 0)), (g1, .cells (shC (.slice pcS exCs.length ccS) (.slice poS ([(⟨0, [0, 1], rp, rc⟩ : Cov)].length) coS) tl0).toArray 32 (0, 0))] Tw.kr (hW8) ?_
 refine vm (i := 0) (v := strV [48, 48, 51, 48, 49, 48, 50]) rfl rfl rfl ?_
 refine vp (i := 1) (v := .bool true) rfl rfl rfl (run_bin rfl (vx := strV [48, 48, 51, 48, 49, 48, 50]) (vy := strV [48, 48, 51, 48, 49, 48, 50]) Tw.kr Tw.kr fun w => bs_eql (decide_eq_true rfl) w) ?_
 refine vm (i := 2) (v := .bool true) rfl rfl rfl ?_
 refine vm (i := 3) (v := strV [48, 48, 54, 48, 49, 56, 56]) rfl rfl rfl ?_
 refine vp (i := 4) (v := .bool true) rfl rfl rfl (run_bin rfl (vx := strV [48, 48, 54, 48, 49, 56, 56]) (vy := strV [48, 48, 54, 48, 49, 56, 56]) Tw.kr Tw.kr fun w => bs_eql (decide_eq_true rfl) w) ?_
 refine vm (i := 5) (v := .bool true) rfl rfl rfl ?_
 refine vm (i := 6) (v := .bool true) rfl rfl rfl ?_
 refine vv (i := 7) (v := .agg #[.int .i64 4, .int .i64 3, .int .u8 0]) rfl rfl rfl (yb_load (n := 3) (off := 0) rfl Tw.kr Tw.m3 Tryd.underlying34 rfl Tw.kr (by first | (simp [Value.cells]; done) | exact Nat.le_of_ble_eq_true rfl) Tw.kr) ?_
 refine vv (i := 8) (v := .agg #[.int .i64 4, .int .i64 3, .int .u8 0]) rfl rfl rfl (yb_call (f := 38) (args := #[.int .i64 4, .int .i64 3, .int .u8 0]) Tw.kf fun W hW => at_any 4 3 0 W) ?_
 refine vp (i := 9) (v := .bool (eqS (⟨4, 3, 0⟩ : Slt) (⟨4, 3, 0⟩ : Slt))) rfl rfl rfl (run_bin rfl (vx := .agg (sltC (⟨4, 3, 0⟩ : Slt)).toArray) (vy := .agg (sltC (⟨4, 3, 0⟩ : Slt)).toArray) Tw.kr Tw.kr fun w => eq_slt w) ?_
 refine vm (i := 10) (v := .bool (eqS (⟨4, 3, 0⟩ : Slt) (⟨4, 3, 0⟩ : Slt))) rfl rfl rfl ?_
 refine vm (i := 11) (v := .bool (eqS (⟨4, 3, 0⟩ : Slt) (⟨4, 3, 0⟩ : Slt))) rfl rfl rfl ?_
 cases h1 : (eqS (⟨4, 3, 0⟩ : Slt) (⟨4, 3, 0⟩ : Slt)) with
 | false =>
   exact absurd (show (eqS (⟨4, 3, 0⟩ : Slt) (⟨4, 3, 0⟩ : Slt)) = true from by kernel_rfl) (by rw [h1]; decide)
 | true =>
   refine vm (i := 12) (v := .int .i64 0) rfl rfl rfl ?_
   refine vm (i := 13) (v := .int .i64 0) rfl rfl rfl ?_
   refine vm (i := 14) (v := .int .i64 0) rfl rfl rfl ?_
   refine vm (i := 15) (v := .int .i64 0) rfl rfl rfl ?_
   refine vm (i := 16) (v := .int .i64 0) rfl rfl rfl ?_
   refine vm (i := 17) (v := .bool true) rfl rfl rfl ?_
   refine vm (i := 18) (v := .bool true) rfl rfl rfl ?_
   refine vm (i := 19) (v := .bool true) rfl rfl rfl ?_
   refine vm (i := 20) (v := .int .i64 6) rfl rfl rfl ?_
   refine vm (i := 21) (v := .bool true) rfl rfl rfl ?_
   refine vm (i := 22) (v := .bool true) rfl rfl rfl ?_
   refine vm (i := 23) (v := .bool true) rfl rfl rfl ?_
   refine vm (i := 24) (v := .int .i64 80) rfl rfl rfl ?_
   refine vm (i := 25) (v := .bool true) rfl rfl rfl ?_
   refine vm (i := 26) (v := .bool true) rfl rfl rfl ?_
   refine vm (i := 27) (v := .bool true) rfl rfl rfl ?_
   refine vv (i := 28) (v := .agg #[.int .i64 0, .int .i64 1, .int .u8 0]) rfl rfl rfl (yb_call (f := 38) (args := #[.int .i64 0, .int .i64 1, .int .u8 0]) Tw.kf fun W hW => at_any 0 1 0 W) ?_
   refine vm (i := 29) (v := .slice (some ⟨g8, 0, none⟩) 2 2) rfl rfl rfl ?_
   refine vv (i := 30) (v := .bool (heldS (⟨0, 1, 0⟩ : Slt) ([(⟨0, 0, 1⟩ : Slt), (⟨0, 0, 2⟩ : Slt)] : List Slt))) rfl rfl rfl (yb_call (f := 25) (args := #[.agg #[.int .i64 0, .int .i64 1, .int .u8 0], .slice (some ⟨g8, 0, none⟩) 2 2]) Tw.kf fun W hW => Held_any (⟨0, 1, 0⟩ : Slt) ([(⟨0, 0, 1⟩ : Slt), (⟨0, 0, 2⟩ : Slt)] : List Slt) (some ⟨g8, 0, none⟩) 2 (Nat.le_of_ble_eq_true rfl) (by decide) W (blk_slv (cs := ([(⟨0, 0, 1⟩ : Slt), (⟨0, 0, 2⟩ : Slt)] : List Slt).flatMap sltC) hW Tw.m0)) ?_
   refine vm (i := 31) (v := .bool (heldS (⟨0, 1, 0⟩ : Slt) ([(⟨0, 0, 1⟩ : Slt), (⟨0, 0, 2⟩ : Slt)] : List Slt))) rfl rfl rfl ?_
   refine vm (i := 32) (v := .bool (heldS (⟨0, 1, 0⟩ : Slt) ([(⟨0, 0, 1⟩ : Slt), (⟨0, 0, 2⟩ : Slt)] : List Slt))) rfl rfl rfl ?_
   cases h2 : (heldS (⟨0, 1, 0⟩ : Slt) ([(⟨0, 0, 1⟩ : Slt), (⟨0, 0, 2⟩ : Slt)] : List Slt)) with
   | false =>
     exact absurd (show (heldS (⟨0, 1, 0⟩ : Slt) ([(⟨0, 0, 1⟩ : Slt), (⟨0, 0, 2⟩ : Slt)] : List Slt)) = true from by kernel_rfl) (by rw [h2]; decide)
   | true =>
     refine vv (i := 33) (v := .agg #[.int .i64 0, .int .i64 1, .int .u8 0]) rfl rfl rfl (yb_call (f := 38) (args := #[.int .i64 0, .int .i64 1, .int .u8 0]) Tw.kf fun W hW => at_any 0 1 0 W) ?_
     refine vm (i := 34) (v := .slice (some ⟨g8, 0, none⟩) 2 2) rfl rfl rfl ?_
     refine vp (i := 35) (v := .slice (some ⟨g8, 0, none⟩) 1 2) rfl rfl rfl (run_slt (kd := .i64) (j := 1) (n := 2) (c := 2) (sz := 3) rfl Tryd.underlying35 Tw.kr Tw.kr Tw.kr (by decide)) ?_
     refine vv (i := 36) (v := .bool (heldS (⟨0, 1, 0⟩ : Slt) ([(⟨0, 0, 1⟩ : Slt)] : List Slt))) rfl rfl rfl (yb_call (f := 25) (args := #[.agg #[.int .i64 0, .int .i64 1, .int .u8 0], .slice (some ⟨g8, 0, none⟩) 1 2]) Tw.kf fun W hW => Held_any (⟨0, 1, 0⟩ : Slt) ([(⟨0, 0, 1⟩ : Slt)] : List Slt) (some ⟨g8, 0, none⟩) 2 (Nat.le_of_ble_eq_true rfl) (by decide) W (slv_pre8 (show SLV W _ (([(⟨0, 0, 1⟩ : Slt)] : List Slt).flatMap sltC ++ ([(⟨0, 0, 2⟩ : Slt)] : List Slt).flatMap sltC) from (blk_slv (cs := ([(⟨0, 0, 1⟩ : Slt), (⟨0, 0, 2⟩ : Slt)] : List Slt).flatMap sltC) hW Tw.m0)))) ?_
     refine vp (i := 37) (v := .bool (!(heldS (⟨0, 1, 0⟩ : Slt) ([(⟨0, 0, 1⟩ : Slt)] : List Slt)))) rfl rfl rfl (run_un rfl Tw.kr fun w => un_not w) ?_
     refine vm (i := 38) (v := .bool (!(heldS (⟨0, 1, 0⟩ : Slt) ([(⟨0, 0, 1⟩ : Slt)] : List Slt)))) rfl rfl rfl ?_
     refine vm (i := 39) (v := .bool (!(heldS (⟨0, 1, 0⟩ : Slt) ([(⟨0, 0, 1⟩ : Slt)] : List Slt)))) rfl rfl rfl ?_
     cases h3 : (heldS (⟨0, 1, 0⟩ : Slt) ([(⟨0, 0, 1⟩ : Slt)] : List Slt)) with
     | false =>
       refine vv (i := 40) (v := .agg #[.int .i64 0, .int .i64 1, .int .u8 2]) rfl rfl rfl (yb_call (f := 38) (args := #[.int .i64 0, .int .i64 1, .int .u8 2]) Tw.kf fun W hW => at_any 0 1 2 W) ?_
       refine vv (i := 41) (v := .agg #[.int .i64 0, .int .i64 0, .int .u8 0]) rfl rfl rfl (yb_call (f := 38) (args := #[.int .i64 0, .int .i64 0, .int .u8 0]) Tw.kf fun W hW => at_any 0 0 0 W) ?_
       refine wpV_nsg (fun g => .slice (some ⟨g, 0, none⟩) 1 1) (i := 42) (obi := .cells #[.int .i64 0, .int .i64 0, .int .u8 0] 34 (0, 0)) rfl rfl rfl Tw.kr Tw.kf Tw.pf fun g10 Bg10 Fg10 => ?_
       obtain ⟨dj11_0, dj11_1, dj11_2, dj11_3, dj11_4⟩ : g8 ≠ g10 ∧ g6 ≠ g10 ∧ g4 ≠ g10 ∧ g2 ≠ g10 ∧ g1 ≠ g10 := Tw.dkf Fg10
       refine vv (i := 43) (v := .bool (heldS (⟨0, 1, 2⟩ : Slt) ([(⟨0, 0, 0⟩ : Slt)] : List Slt))) rfl rfl rfl (yb_call (f := 25) (args := #[.agg #[.int .i64 0, .int .i64 1, .int .u8 2], .slice (some ⟨g10, 0, none⟩) 1 1]) Tw.kf fun W hW => Held_any (⟨0, 1, 2⟩ : Slt) ([(⟨0, 0, 0⟩ : Slt)] : List Slt) (some ⟨g10, 0, none⟩) 1 (Nat.le_of_ble_eq_true rfl) (by decide) W (blk_slv (cs := ([(⟨0, 0, 0⟩ : Slt)] : List Slt).flatMap sltC) hW Tw.m0)) ?_
       refine vp (i := 44) (v := .bool (!(heldS (⟨0, 1, 2⟩ : Slt) ([(⟨0, 0, 0⟩ : Slt)] : List Slt)))) rfl rfl rfl (run_un rfl Tw.kr fun w => un_not w) ?_
       refine vm (i := 45) (v := .bool (!(heldS (⟨0, 1, 2⟩ : Slt) ([(⟨0, 0, 0⟩ : Slt)] : List Slt)))) rfl rfl rfl ?_
       refine vm (i := 46) (v := .bool (!(heldS (⟨0, 1, 2⟩ : Slt) ([(⟨0, 0, 0⟩ : Slt)] : List Slt)))) rfl rfl rfl ?_
       cases h4 : (heldS (⟨0, 1, 2⟩ : Slt) ([(⟨0, 0, 0⟩ : Slt)] : List Slt)) with
       | false =>
         refine vv (i := 47) (v := .agg (shC (.slice pcS exCs.length ccS) (.slice poS ([(⟨0, [0, 1], rp, rc⟩ : Cov)].length) coS) tl0).toArray) rfl rfl rfl (yb_load (n := 13) (off := 0) rfl Tw.kr Tw.m5 Tryd.underlying32 rfl Tw.kr (by first | (simp [Value.cells]; done) | exact Nat.le_of_ble_eq_true rfl) Tw.kr) ?_
         refine vv (i := 48) (v := .agg #[.int .i64 1, .int .i64 1, .int .u8 2]) rfl rfl rfl (yb_call (f := 38) (args := #[.int .i64 1, .int .i64 1, .int .u8 2]) Tw.kf fun W hW => at_any 1 1 2 W) ?_
         refine vv (i := 49) (v := .bool (rightS exCs (⟨1, 1, 2⟩ : Slt) 20)) rfl rfl rfl (yb_call (f := 14) (args := #[.agg (shC (.slice pcS exCs.length ccS) (.slice poS ([(⟨0, [0, 1], rp, rc⟩ : Cov)].length) coS) tl0).toArray, .agg #[.int .i64 1, .int .i64 1, .int .u8 2], .int .u8 20]) Tw.kf fun W hW => SRight_any exCs pcS ccS (by decide) [(⟨0, [0, 1], rp, rc⟩ : Cov)] poS coS (Nat.le_of_ble_eq_true rfl) tl0 (⟨1, 1, 2⟩ : Slt) 20 W ((RL.base HCS.out) _ (hW.sub (fun _ h => by cases h))) ((RL.base HOS.out) _ (hW.sub (fun _ h => by cases h)))) ?_
         refine vm (i := 50) (v := .bool (rightS exCs (⟨1, 1, 2⟩ : Slt) 20)) rfl rfl rfl ?_
         refine vm (i := 51) (v := .bool (rightS exCs (⟨1, 1, 2⟩ : Slt) 20)) rfl rfl rfl ?_
         cases h5 : (rightS exCs (⟨1, 1, 2⟩ : Slt) 20) with
         | false =>
           exact absurd (show (rightS exCs (⟨1, 1, 2⟩ : Slt) 20) = true from by kernel_rfl) (by rw [h5]; decide)
         | true =>
           refine vv (i := 52) (v := .agg (shC (.slice pcS exCs.length ccS) (.slice poS ([(⟨0, [0, 1], rp, rc⟩ : Cov)].length) coS) tl0).toArray) rfl rfl rfl (yb_load (n := 13) (off := 0) rfl Tw.kr Tw.m5 Tryd.underlying32 rfl Tw.kr (by first | (simp [Value.cells]; done) | exact Nat.le_of_ble_eq_true rfl) Tw.kr) ?_
           refine vv (i := 53) (v := .agg #[.int .i64 1, .int .i64 1, .int .u8 2]) rfl rfl rfl (yb_call (f := 38) (args := #[.int .i64 1, .int .i64 1, .int .u8 2]) Tw.kf fun W hW => at_any 1 1 2 W) ?_
           refine vv (i := 54) (v := .bool (rightS exCs (⟨1, 1, 2⟩ : Slt) 40)) rfl rfl rfl (yb_call (f := 14) (args := #[.agg (shC (.slice pcS exCs.length ccS) (.slice poS ([(⟨0, [0, 1], rp, rc⟩ : Cov)].length) coS) tl0).toArray, .agg #[.int .i64 1, .int .i64 1, .int .u8 2], .int .u8 40]) Tw.kf fun W hW => SRight_any exCs pcS ccS (by decide) [(⟨0, [0, 1], rp, rc⟩ : Cov)] poS coS (Nat.le_of_ble_eq_true rfl) tl0 (⟨1, 1, 2⟩ : Slt) 40 W ((RL.base HCS.out) _ (hW.sub (fun _ h => by cases h))) ((RL.base HOS.out) _ (hW.sub (fun _ h => by cases h)))) ?_
           refine vp (i := 55) (v := .bool (!(rightS exCs (⟨1, 1, 2⟩ : Slt) 40))) rfl rfl rfl (run_un rfl Tw.kr fun w => un_not w) ?_
           refine vm (i := 56) (v := .bool (!(rightS exCs (⟨1, 1, 2⟩ : Slt) 40))) rfl rfl rfl ?_
           refine vm (i := 57) (v := .bool (!(rightS exCs (⟨1, 1, 2⟩ : Slt) 40))) rfl rfl rfl ?_
           cases h6 : (rightS exCs (⟨1, 1, 2⟩ : Slt) 40) with
           | false =>
             refine vv (i := 58) (v := .agg #[.int .i64 0, .int .i64 2, .int .u8 1]) rfl rfl rfl (yb_call (f := 38) (args := #[.int .i64 0, .int .i64 2, .int .u8 1]) Tw.kf fun W hW => at_any 0 2 1 W) ?_
             refine vv (i := 59) (v := .agg #[.int .i64 0, .int .i64 0, .int .u8 0]) rfl rfl rfl (yb_call (f := 38) (args := #[.int .i64 0, .int .i64 0, .int .u8 0]) Tw.kf fun W hW => at_any 0 0 0 W) ?_
             refine vv (i := 60) (v := .bool (overS (⟨0, 2, 1⟩ : Slt) (⟨0, 0, 0⟩ : Slt))) rfl rfl rfl (yb_call (f := 23) (args := #[.agg #[.int .i64 0, .int .i64 2, .int .u8 1], .agg #[.int .i64 0, .int .i64 0, .int .u8 0]]) Tw.kf fun W hW => Over_any (⟨0, 2, 1⟩ : Slt) (⟨0, 0, 0⟩ : Slt) W) ?_
             refine vm (i := 61) (v := .bool (overS (⟨0, 2, 1⟩ : Slt) (⟨0, 0, 0⟩ : Slt))) rfl rfl rfl ?_
             refine vm (i := 62) (v := .bool (overS (⟨0, 2, 1⟩ : Slt) (⟨0, 0, 0⟩ : Slt))) rfl rfl rfl ?_
             cases h7 : (overS (⟨0, 2, 1⟩ : Slt) (⟨0, 0, 0⟩ : Slt)) with
             | false =>
               exact absurd (show (overS (⟨0, 2, 1⟩ : Slt) (⟨0, 0, 0⟩ : Slt)) = true from by kernel_rfl) (by rw [h7]; decide)
             | true =>
               refine vv (i := 63) (v := .agg #[.int .i64 0, .int .i64 2, .int .u8 1]) rfl rfl rfl (yb_call (f := 38) (args := #[.int .i64 0, .int .i64 2, .int .u8 1]) Tw.kf fun W hW => at_any 0 2 1 W) ?_
               refine vv (i := 64) (v := .agg #[.int .i64 1, .int .i64 0, .int .u8 0]) rfl rfl rfl (yb_call (f := 38) (args := #[.int .i64 1, .int .i64 0, .int .u8 0]) Tw.kf fun W hW => at_any 1 0 0 W) ?_
               refine vv (i := 65) (v := .int .i64 (cmpS (⟨0, 2, 1⟩ : Slt) (⟨1, 0, 0⟩ : Slt))) rfl rfl rfl (yb_call (f := 19) (args := #[.agg #[.int .i64 0, .int .i64 2, .int .u8 1], .agg #[.int .i64 1, .int .i64 0, .int .u8 0]]) Tw.kf fun W hW => Compare_any (⟨0, 2, 1⟩ : Slt) (⟨1, 0, 0⟩ : Slt) W) ?_
               refine vp (i := 66) (v := .bool (decide ((cmpS (⟨0, 2, 1⟩ : Slt) (⟨1, 0, 0⟩ : Slt)) = (-1)))) rfl rfl rfl (run_bin rfl (vx := (.int .i64 (cmpS (⟨0, 2, 1⟩ : Slt) (⟨1, 0, 0⟩ : Slt)))) (vy := (.int .i64 (-1))) Tw.kr Tw.kr fun w => bi_eql rfl w) ?_
               refine vm (i := 67) (v := .bool (decide ((cmpS (⟨0, 2, 1⟩ : Slt) (⟨1, 0, 0⟩ : Slt)) = (-1)))) rfl rfl rfl ?_
               refine vm (i := 68) (v := .bool (decide ((cmpS (⟨0, 2, 1⟩ : Slt) (⟨1, 0, 0⟩ : Slt)) = (-1)))) rfl rfl rfl ?_
               cases hd8 : (decide ((cmpS (⟨0, 2, 1⟩ : Slt) (⟨1, 0, 0⟩ : Slt)) = (-1))) with
               | false =>
                 have h8 : ¬ ((cmpS (⟨0, 2, 1⟩ : Slt) (⟨1, 0, 0⟩ : Slt)) = (-1)) := of_decide_eq_false hd8
                 clear hd8
                 exact absurd (show (cmpS (⟨0, 2, 1⟩ : Slt) (⟨1, 0, 0⟩ : Slt)) = (-1) from by kernel_rfl) h8
               | true =>
                 have h8 : (cmpS (⟨0, 2, 1⟩ : Slt) (⟨1, 0, 0⟩ : Slt)) = (-1) := of_decide_eq_true hd8
                 clear hd8
                 refine vv (i := 69) (v := .agg (shC (.slice pcS exCs.length ccS) (.slice poS ([(⟨0, [0, 1], rp, rc⟩ : Cov)].length) coS) tl0).toArray) rfl rfl rfl (yb_load (n := 13) (off := 0) rfl Tw.kr Tw.m5 Tryd.underlying32 rfl Tw.kr (by first | (simp [Value.cells]; done) | exact Nat.le_of_ble_eq_true rfl) Tw.kr) ?_
                 refine wpV_c (i := 70) (OutRL sltC WB [(g10, .cells #[.int .i64 0, .int .i64 0, .int .u8 0] 34 (0, 0)), (g8, .cells #[.int .i64 0, .int .i64 0, .int .u8 1, .int .i64 0, .int .i64 0, .int .u8 2] 34 (0, 0)), (g6, .cells #[.int .i64 0, .int .i64 0, .int .u8 0] 34 (0, 0)), (g4, .cells #[.int .i64 0, .int .i64 0, .int .u8 0] 34 (0, 0)), (g2, .cells #[.int .i64 4, .int .i64 3, .int .u8 0] 34 (0, 0)), (g1, .cells (shC (.slice pcS exCs.length ccS) (.slice poS ([(⟨0, [0, 1], rp, rc⟩ : Cov)].length) coS) tl0).toArray 32 (0, 0))] (slotsX exCs 20)) rfl rfl Tw.kr Tw.kr Tw.kf (fun W hW => calls_r hW (All_any exCs pcS ccS (by decide) [(⟨0, [0, 1], rp, rc⟩ : Cov)] poS coS (Nat.le_of_ble_eq_true rfl) tl0 (by decide) 20 W ((RL.base HCS.out) _ (hW.sub (fun _ h => by cases h))) ((RL.base HOS.out) _ (hW.sub (fun _ h => by cases h))))) (fun v K9 hG => hG.sub) Tw.pf ?_
                 rintro _ _ ⟨p12, c12, Kl12, rfl, n12, R12, N12, rfl⟩
                 obtain ⟨dj13_0, dj13_1, dj13_2, dj13_3, dj13_4, dj13_5⟩ : Dk g10 Kl12 ∧ Dk g8 Kl12 ∧ Dk g6 Kl12 ∧ Dk g4 Kl12 ∧ Dk g2 Kl12 ∧ Dk g1 Kl12 := Tw.djf N12
                 refine vp (i := 71) (v := .int .i64 ((((slotsX exCs 20).length) : Nat) : Int)) rfl rfl rfl (run_lenL (p := p12) (cap := c12) (n := (slotsX exCs 20).length) rfl Tryd.underlying35 Tw.kr) ?_
                 refine vp (i := 72) (v := .bool (decide (((slotsX exCs 20).length) = 28))) rfl rfl rfl (run_bin rfl (vx := (.int .i64 ((((slotsX exCs 20).length) : Nat) : Int))) (vy := (.int .i64 ((28 : Nat) : Int))) Tw.kr Tw.kr fun w => bn_eql rfl w) ?_
                 refine vm (i := 73) (v := .bool (decide (((slotsX exCs 20).length) = 28))) rfl rfl rfl ?_
                 refine vm (i := 74) (v := .bool (decide (((slotsX exCs 20).length) = 28))) rfl rfl rfl ?_
                 refine wpV_done Tw.kr (fun W9 hW9 => ?_) _
                 change Code.wp ..
                 refine wp_ret ?_
                 try simp only [inBlock_ret, then_ret]
                 refine bodyPost_ret (v := .bool (decide (((slotsX exCs 20).length) = 28))) ?_ rfl ?_
                 · kernel_rfl
                 · exact ⟨rfl, (hWB.1.trans (hW9.1.mono hWB.1.size))⟩
           | true =>
             exact absurd (show (rightS exCs (⟨1, 1, 2⟩ : Slt) 40) = false from by kernel_rfl) (by rw [h6]; decide)
       | true =>
         exact absurd (show (heldS (⟨0, 1, 2⟩ : Slt) ([(⟨0, 0, 0⟩ : Slt)] : List Slt)) = false from by kernel_rfl) (by rw [h4]; decide)
     | true =>
       exact absurd (show (heldS (⟨0, 1, 0⟩ : Slt) ([(⟨0, 0, 1⟩ : Slt)] : List Slt)) = false from by kernel_rfl) (by rw [h3]; decide)
end Go.Proofs.YtlinjngifacmoaaDoor
/- What came in: records that hold lists of records. Over any program. -/
namespace Tw
open Go Go.RowKit Go.Proofs.YtlinjngifacmoaaDoor Go.ChangeShapes Go.WideShapes
section
variable {P : Program} {α : Type}
def OpensW (P : Program) (t : TypeId) (cells : α → List Value) (ok : World → α → Prop) : Prop := ∀ (H : Type) (enc : TypeId × Value → H) (w : World) (base : Nat) (sp : Nat → Bool) (held : Bool) (fuel : Nat) (cs : List Value) (x : DataW H × List MemPlace),
 DataW.trod enc P w base sp held fuel t cs = some x → ∃ y : α, cs = cells y ∧ ok w y
def ListOk (cells : α → List Value) (ok : World → α → Prop) (w : World) (p : Option Addr) (c : Nat) (l : List α) : Prop := SLV w p (l.flatMap cells) ∧ (∀ y ∈ l, ok w y) ∧ l.length ≤ maxLen ∧ l.length ≤ c
end
end Tw
/- What came in, of what has its size. Over any program. -/
namespace Tw
open Go Go.RowKit Go.Proofs.YtlinjngifacmoaaDoor Go.ChangeShapes Go.WideShapes
section
variable {P : Program} {α : Type}
def OpensS (P : Program) (t : TypeId) (cells : α → List Value) (ok : World → α → Prop) : Prop := ∀ (H : Type) (enc : TypeId × Value → H) (w : World) (base : Nat) (sp : Nat → Bool) (held : Bool) (fuel : Nat) (cs : List Value) (x : DataW H × List MemPlace),
 DataW.trod enc P w base sp held fuel t cs = some x → (∀ n ∈ x.1.weights P t, n ≤ reachBytes) → ∃ y : α, cs = cells y ∧ ok w y
def ListS (cells : α → List Value) (ok : World → α → Prop) (b : Nat) (w : World) (p : Option Addr) (c : Nat) (l : List α) : Prop := ListOk cells ok w p c l ∧ l.length * b ≤ reachBytes
theorem OpensS.of {t : TypeId} {cells : α → List Value} {ok : World → α → Prop} (h : OpensW P t cells ok) : OpensS P t cells ok := fun H enc w base sp held fuel cs x ht _ => h H enc w base sp held fuel cs x ht
theorem weights_all {H : Type} {e : TypeId} : ∀ {l : List (DataW H)} {d : DataW H}, d ∈ l → ∀ n ∈ d.weights P e, n ∈ DataW.weightsAll P e l
 | d0 :: l, d, hd, n, hn => by
   unfold DataW.weightsAll
   rcases List.mem_cons.1 hd with rfl | hd
   · exact List.mem_append_left _ hn
   · exact List.mem_append_right _ (weights_all hd n hn)
theorem opens_listS {H : Type} {enc : TypeId × Value → H} {w : World} {base : Nat} {a : Addr} {e : TypeId} {sz n : Nat} {cells : α → List Value} {ok : World → α → Prop} {sp : Nat → Bool} {held : Bool} {elems : List (DataW H × List MemPlace)} (hE : OpensS P e cells ok) (hsz : P.cellsOf e = sz) (hw : ∀ d ∈ elems, ∀ m ∈ d.1.weights P e, m ≤ reachBytes) :
   ∀ m, m ≤ elems.length → (∀ i, i < m → (w.cells? base (a.add (i * P.cellsOf e)) (P.cellsOf e)).bind (DataW.trod enc P w base sp held n e) = elems[i]?) → ∃ l : List α, l.length = m ∧ (∀ y ∈ l, ok w y) ∧ ∀ i y, l[i]? = some y → w.cells? base (a.add (i * sz)) sz = some (cells y)
 | 0, _, _ => ⟨[], rfl, (fun _ h => by cases h), fun i y h => by simp at h⟩
 | m + 1, hm, hel => by
   obtain ⟨l, h1, h2, h3⟩ := opens_listS hE hsz hw m Tw.om (fun i hi => hel i Tw.om)
   have h0 := hel m Tw.om
   rw [List.getElem?_eq_getElem Tw.om] at h0
   obtain ⟨cs, hcs, ht⟩ := Option.bind_eq_some_iff.1 h0
   obtain ⟨y, rfl, hy⟩ := hE _ _ _ _ _ _ _ _ _ ht (hw _ (List.getElem_mem _))
   rw [hsz] at hcs
   refine ⟨l ++ [y], by simp [h1], fun z hz => ?_, fun i z hz => ?_⟩
   · rcases List.mem_append.1 hz with hz | hz
     · exact h2 z hz
     · cases List.mem_singleton.1 hz; exact hy
   · rcases Nat.lt_or_ge i m with hi | hi
     · rw [List.getElem?_append_left Tw.om] at hz
       exact h3 i z hz
     · obtain ⟨hlt, _⟩ := List.getElem?_eq_some_iff.1 hz
       have hi2 : i = m := by rw [List.length_append, h1, List.length_singleton] at hlt; omega
       subst hi2
       rw [List.getElem?_append_right Tw.om, h1, Nat.sub_self] at hz
       cases hz
       exact hcs
theorem trod_recsS {H : Type} {enc : TypeId × Value → H} {w : World} {base : Nat} {sp : Nat → Bool} {held : Bool} {fuel : Nat} {cs : List Value} {x : DataW H × List MemPlace} {t e : TypeId} {sz by_ : Nat} {cells : α → List Value} {ok : World → α → Prop} (ht : P.underlying t = some (.slice e)) (hE : OpensS P e cells ok) (hsz : P.cellsOf e = sz) (hz : 0 < sz) (hc : ∀ y, (cells y).length = sz) (hb_ : P.bytesOf e = by_)
   (h : DataW.trod enc P w base sp held fuel t cs = some x) (hwt : ∀ n ∈ x.1.weights P t, n ≤ reachBytes) : ∃ (p : Option Addr) (cap : Nat) (l : List α), cs = [.slice p l.length cap] ∧ ListS cells ok by_ w p cap l := by
 rcases DataW.trod_slice ht h with ⟨rfl, _⟩ | ⟨a, len, cap, elems, rest, n, _, rfl, hx, hb, hl, hm, hlen, hel, _, _⟩
 · exact ⟨none, 0, [], rfl, ⟨.inl rfl, (fun _ h => by cases h), by simp, by simp⟩, by simp⟩
 · subst hx
   simp only [DataW.weights, ht, List.length_map, List.mem_cons, List.mem_append] at hwt
   have hw1 : ∀ d ∈ elems, ∀ m ∈ d.1.weights P e, m ≤ reachBytes := fun d hd m hm => hwt m (.inr (.inl (weights_all (List.mem_map_of_mem hd) m hm)))
   have hw2 := hwt _ (.inl rfl)
   obtain ⟨l, h1, h2, h3⟩ := opens_listS hE hsz hw1 len Tw.om hel
   refine ⟨some a, cap, l, by rw [h1], ⟨?_, h2, by omega, by omega⟩, ?_⟩
   · rcases Nat.eq_zero_or_pos len with h0 | h0
     · left; rw [List.length_eq_zero_iff.1 (h1.trans h0)]; rfl
     · obtain ⟨b, off, spot⟩ := a
       have hcell : ∀ i y, l[i]? = some y → ∀ j u, (cells y)[j]? = some u → w.cell? ((⟨b, off, spot⟩ : Addr).add (i * sz) |>.add j) = some u := by
         intro i y hy j u hu
         obtain ⟨_, h4, h5⟩ := World.cells?_some (h3 i y hy)
         obtain ⟨hj, _⟩ := List.getElem?_eq_some_iff.1 hu
         rw [hc] at hj
         rw [h5 j hj]; exact hu
       have h00 : l[0]? = some (l[0]'Tw.om) := List.getElem?_eq_getElem _
       have hspot : spot = none := by
         have hu : (cells (l[0]'Tw.om))[0]? = some ((cells (l[0]'Tw.om))[0]'(by rw [hc]; exact hz)) := List.getElem?_eq_getElem _
         have := World.cell?_spot (hcell 0 _ h00 0 _ hu)
         unfold Addr.add at this
         simp only at this
         split at this <;> simp_all
       subst hspot
       have hadd : ∀ (m j : Nat), ((⟨b, off, none⟩ : Addr).add m).add j = ⟨b, off + (m + j), none⟩ := fun m j => by rw [addr_add, addr_add, Nat.add_assoc]
       refine .inr ⟨b, off, rfl, ?_, fun i u hu => ?_⟩
       · have hu : (cells (l[0]'Tw.om))[0]? = some ((cells (l[0]'Tw.om))[0]'(by rw [hc]; exact hz)) := List.getElem?_eq_getElem _
         have := World.block_lt_of_cell? _ _ (hcell 0 _ h00 0 _ hu)
         rw [hadd] at this
         exact this
       · obtain ⟨y, hy1, hy2⟩ := flat_at hc hu
         have := hcell _ y hy1 _ u hy2
         rw [hadd, Nat.mul_comm, Nat.div_add_mod] at this
         exact this
   · rw [hb_, hlen] at hw2
     rw [h1]
     exact Nat.le_trans (Nat.mul_le_mul_right _ (Nat.le_add_right _ _)) hw2
theorem open_recsS {H : Type} {enc : TypeId × Value → H} {W : World} {t e : TypeId} {sz by_ : Nat} {v : Value} {d : DataW H} {ps : List MemPlace} {base : Nat} {cells : α → List Value} {ok : World → α → Prop} (ht : P.underlying t = some (.slice e)) (hE : OpensS P e cells ok) (hsz : P.cellsOf e = sz) (hz : 0 < sz) (hc : ∀ y, (cells y).length = sz) (hb_ : P.bytesOf e = by_)
   (hv : Value.okWide P W .any base t v) (h0 : DataW.Trod enc P W 0 (fun _ => true) true t v d ps) (hw : ∀ n ∈ d.weights P t, n ≤ reachBytes) : ∃ (p : Option Addr) (cap : Nat) (l : List α), v = .slice p l.length cap ∧ ListS cells ok by_ W p cap l := by
 obtain ⟨a0, len0, cap0, rfl⟩ := okWide_slice ht hv
 obtain ⟨fuel, hf⟩ := h0
 have hcs : (Value.slice a0 len0 cap0).cells.toList = [.slice a0 len0 cap0] := by simp [Value.cells]
 rw [hcs] at hf
 obtain ⟨p, cap, l, h1, h2⟩ := trod_recsS ht hE hsz hz hc hb_ hf hw
 exact ⟨p, cap, l, by simpa using h1, h2⟩
theorem sized_par {H : Type} {ts : List TypeId} {ds : List (DataW H)} (h : (DataW.weightsEach P ts ds).all (· ≤ reachBytes) = true) {j : Nat} {t : TypeId} {d : DataW H} (ht : ts[j]? = some t) (hd : ds[j]? = some d) : ∀ n ∈ d.weights P t, n ≤ reachBytes := fun n hn => by
 simpa using List.all_eq_true.1 h _ (DataW.weights_mem_each ht hd n hn)
end
end Tw
/- From the row's condition to what the proofs ask of the package's table; what came in. -/
namespace Go.Proofs.YtlinjngifacmoaaDoor
open Go.ChangeShapes Go.WideShapes Go.ChangeAt Go.RowKit Tw
open Go
theorem of_wf {k : IntKind} {n : Int} (h : (Lit.int k n).wf = true) : k.min ≤ n ∧ n ≤ k.max := by simpa [Lit.wf] using h
theorem own : ownKnob Tryd.prog.godebug = none := by kernel_rfl
theorem laidOut : laidOutB Tryd.prog = true := by kernel_rfl
def laidN : List (String × DataW Unit) := [("twistlock/slot.codes", Rows.laid_twistlock_slot_codes)]
set_option maxRecDepth 100000 in
theorem door_met (os : Os) (args : Array Value) : laidMetH Tryd.prog laidN ((World.doorLaid Tryd.prog 1000 os).forCall (fun _ _ => 0) ⟨#[], args, []⟩).memory :=
 laidMetH_of_parts3 (fuel := 8) (laidMet_of_run' 8 Tw.kr Tw.kr) Tw.kr Tw.kr
theorem env_of {W : World} (h0 : laidMetH Tryd.prog laidN W) : Env W := by
 have h : laidMet Tryd.prog laidN W := by rw [MakeChecks.laidMetH_plain _ _ _ Tw.kr] at h0; exact h0
 exact ⟨laid_plain 8 h gCodes (t := 141) Tw.kr Tw.kr⟩
theorem handed_and_sized {H : Type} {enc : TypeId × Value → H} {a : Assume} {C : Checked} {os : Os} {f : FuncId} {fn : Func} {s : ChangeSpec} {conds : List PathCond} {apart fresh handsOn again : Bool} {X : World → Prop}
   (hX : ∀ (w w' : World), w.heap = w'.heap → X w → X w')
   (own : ownKnob C.prog.godebug = none) (started : os.Started) (noInit : C.prog.inits.idxOf? f = none) (hfn : C.prog.funcs[f]? = some fn)
   (witness : ∃ (w : World) (tape : Tape) (i : Input), w.os = os ∧ (w.forCall tape i).Shaped C.prog ∧ i.vars = [] ∧ Input.okWide C.prog (w.forCall tape i) .any w.heap.size f i ∧
     ((s.pre enc C.prog fn conds apart (w.forCall tape i).memory i.args ∧ X (w.forCall tape i).memory) ∧ sizedMet enc C.prog fn (OpenSpec.ofChange s) apart (w.forCall tape i).memory i.args) ∧ a.holds C.prog (lone (Frame.enter C.prog f i.args .normal) [] (w.forCall tape i)))
   (contract : ∀ (W : World) (base : Nat) (args : Array Value) (ds gs : List (DataW H)) (before : List MemPlace),
     (∀ (j : Nat) t v, fn.params[j]? = some t → args[j]? = some v → Value.okWide C.prog W .any base t v) →
     DataW.Whole enc C.prog fn.params.toList s.vars apart W args.toList ds gs before → X W → W.ShapedOpen C.prog →
     (DataW.weightsEach C.prog (fn.params.toList ++ s.plain.varTypes C.prog) (ds ++ gs)).all (· ≤ reachBytes) = true →
     Calls C.prog f args W fun e W' => ∃ v, e = .returned v ∧ s.post enc C.prog fn apart fresh handsOn again W args v W') :
   ReturnsInHanded a C os f .any (fun w args => (s.pre enc C.prog fn conds apart w args ∧ X w) ∧ sizedMet enc C.prog fn (OpenSpec.ofChange s) apart w args) (s.post enc C.prog fn apart fresh handsOn again) := by
 refine returnsInHanded_of_calls own started noInit witness fun w tape i _ hsh _ hok hpre _ => ?_
 obtain ⟨_, _, _, fn', hfn', _, _, _, _, hval⟩ := hok
 obtain rfl : fn' = fn := Option.some.inj (hfn'.symm.trans hfn)
 obtain ⟨⟨_, hx⟩, _, ds, gs, before, hw, hz⟩ := hpre
 refine (contract (w.forCall tape i) w.heap.size i.args ds gs before hval (DataW.Whole.of_heap (w' := w.forCall tape i) (by rfl) hw) (hX _ _ (by rfl) hx) hsh hz).mono fun e W' ⟨v, he, hp⟩ => ?_
 subst he
 exact ChangeSpec.post_blind hp
end Go.Proofs.YtlinjngifacmoaaDoor
