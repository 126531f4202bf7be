import Derived.Test.YthpooalhibedpaaDoorG04
import Derived.Test.YthpooalhibedpaaDoorG00
import Derived.Test.YthpooalhibedpaaDoorG01
import Derived.Test.YthpooalhibedpaaDoorG03
import Derived.Handed
import Derived.ChangeArms
import Derived.SizedLaws
import Derived.Test.YthpooalhibedpaaDoorCards
import Derived.Test.YthpooalhibedpaaDoorTie
import Derived.WalkKit
import Derived.ProofKit
import Derived.OpenShut
import Derived.LaidMore
import Derived.ChangeOld
import Derived.ChangeMaps5
import Derived.Shelf.Vars
import Derived.Stop.Joined
import Derived.Stop.LaidErr
import Derived.SevenTiedAt
/- Part of the proof: L8n, L8o, TM0, U8, L9r. -/
set_option linter.unusedVariables false
set_option linter.unusedSimpArgs false
set_option linter.unusedSectionVars false
namespace Go.Proofs.YthpooalhibedpaaDoor
open Go Go.RowKit Tw
theorem text_any (b r t : Int) (h : Nat) (d : Bool) (hb : 0 ≤ b ∧ b ≤ 39) (hr : 0 ≤ r ∧ r ≤ 30) (ht : 0 ≤ t ∧ t ≤ 9) (hh : h ≤ 2) (w : World) (hE : Env w) : Calls Tryd.prog 67 #[.agg #[.int .i64 b, .int .i64 r, .int .i64 t, .bool d, .int .u8 ((h : Nat) : Int)]] w fun e w' => e = .returned (strV (txtN (numN b.toNat r.toNat t.toNat d h))) ∧ Below w.heap.size w w' := by
  obtain ⟨b, rfl⟩ := Int.eq_ofNat_of_zero_le hb.1
  obtain ⟨r, rfl⟩ := Int.eq_ofNat_of_zero_le hr.1
  obtain ⟨t, rfl⟩ := Int.eq_ofNat_of_zero_le ht.1
  exact text_nat b r t h d (by omega) (by omega) (by omega) hh w hE
set_option maxRecDepth 100000 in
set_option maxHeartbeats 4000000 in
theorem SName_any (cs : List Col) (pc : Option Addr) (cc : Nat) (lc : cs.length ≤ 4000000000) (os : List Cov) (po : Option Addr) (co : Nat) (lo : os.length ≤ 4000000000) (t : Tl) (xc xt : Int) (xh : Nat) (w : World) (hc : SLV w pc (cs.flatMap colC)) (ho : SLV w po (os.flatMap covC)) (hr : RwR w os) (lr : ∀ o ∈ os, o.rows.length ≤ 4000000000) (hq : PlR w cs) (lq : ∀ c ∈ cs, c.plugs.length ≤ 4000000000) (hE : Env w) : Calls Tryd.prog 29 #[.agg (shC (.slice pc cs.length cc) (.slice po os.length co) t).toArray, .agg #[.int .i64 xc, .int .i64 xt, .int .u8 ((xh : Nat) : Int)]] w fun e w' => e = .returned (.tuple #[strV (nameR cs os (⟨xc, xt, xh⟩ : Slt)).1, .int .i64 (((nameR cs os (⟨xc, xt, xh⟩ : Slt)).2 : Nat) : Int)]) ∧ Below w.heap.size w w' := by
  have HC := Lib.hid hc
  clear hc
  have HO := Lib.hid ho
  clear ho
  have HR := Lib.hid hr
  clear hr
  have HQ := Lib.hid hq
  clear hq
  have HE := Lib.hid hE
  clear hE
  go_enter Tryd.func29, Tryd.ntmps29
  refine wp_seq ?_
  refine wp_region_L (W0 := w) [] (KS.start w) ?_
  refine wpL_new (fun g => .pointer (some ⟨g, 0, none⟩)) (obi := .cells (shC (.slice pc cs.length cc) (.slice po os.length co) t).toArray 32 (0, 0)) rfl rfl (fun _ => by kernel_rfl) (fun _ => by simp only [List.setIfInBounds_toArray, List.set_cons_succ, List.set_cons_zero] <;> rfl) fun g1 Bg1 Fg1 => ?_
  refine wpL_new (fun g => .pointer (some ⟨g, 0, none⟩)) (obi := .cells #[.int .i64 xc, .int .i64 xt, .int .u8 ((xh : Nat) : Int)] 34 (0, 0)) rfl rfl (fun _ => by kernel_rfl) (fun _ => by simp only [List.setIfInBounds_toArray, List.set_cons_succ, List.set_cons_zero] <;> rfl) fun g2 Bg2 Fg2 => ?_
  obtain dj3_0 : g1 ≠ g2 := by simpa only [dj_app_l, dj_app_r, dj_cons_l, dj_cons_r, dj_nil_l, dj_nil_r, dk_app, dk_cons, dk_nil, and_true, true_and, and_assoc] using (show Dk g2 [(g1, .cells (shC (.slice pc cs.length cc) (.slice po os.length co) t).toArray 32 (0, 0))] from Fg2)
  refine lm (v := strV []) rfl rfl ?_
  refine lm (v := .int .i64 0) rfl rfl ?_
  refine wpL_done (fun W1 hW1 => ?_)
  refine (show Code.wp _ _ _ _ _ from ?_)
  refine wp_seq ?_
  refine wp_seq ?_
  refine wp_region_L (W0 := w) [(g2, .cells #[.int .i64 xc, .int .i64 xt, .int .u8 ((xh : Nat) : Int)] 34 (0, 0)), (g1, .cells (shC (.slice pc cs.length cc) (.slice po os.length co) t).toArray 32 (0, 0))] (hW1) ?_
  refine lv (v := .agg (shC (.slice pc cs.length cc) (.slice po os.length co) t).toArray) rfl rfl (yb_load (n := 13) (off := 0) rfl (by kernel_rfl) (.tail _ (.head _)) Tryd.underlying32 rfl (by kernel_rfl) (by first | (simp [Value.cells]; done) | exact Nat.le_of_ble_eq_true rfl) (by kernel_rfl)) ?_
  refine lv (v := .bool (rightX cs os)) rfl rfl (yb_call (f := 66) (args := #[.agg (shC (.slice pc cs.length cc) (.slice po os.length co) t).toArray]) (fun _ => by kernel_rfl) fun W hW => Right_any cs pc cc (by omega) os po co (by omega) t W ((RL.base HC.out) _ (hW.sub (fun _ h => by cases h))) ((RL.base HO.out) _ (hW.sub (fun _ h => by cases h))) (HR.out.keep hW.1) lr (HQ.out.keep hW.1) lq) ?_
  refine lp (v := .bool (!(rightX cs os))) rfl rfl (run_un rfl (by kernel_rfl) fun w => un_not w) ?_
  refine wpL_done (fun W2 hW2 => ?_)
  refine (show Code.wp _ _ _ _ _ from ?_)
  cases h1 : (rightX cs os) with
  | false =>
    refine wp_cond_true rfl ?_
    refine wp_seq ?_
    refine wp_region_L (W0 := w) [(g2, .cells #[.int .i64 xc, .int .i64 xt, .int .u8 ((xh : Nat) : Int)] 34 (0, 0)), (g1, .cells (shC (.slice pc cs.length cc) (.slice po os.length co) t).toArray 32 (0, 0))] (hW2) ?_
    refine lm (v := strV []) rfl rfl ?_
    refine lm (v := .int .i64 2) rfl rfl ?_
    refine wpL_done (fun W3 hW3 => ?_)
    refine (show Code.wp _ _ _ _ _ from ?_)
    refine wp_ret ?_
    try simp only [inBlock_ret, then_ret]
    refine bodyPost_ret (v := .tuple #[strV [], .int .i64 2]) ?_ rfl ?_
    · kernel_rfl
    · exact ⟨(si_is (by unfold nameR; rw [if_neg (by rw [h1]; decide)])), hW3.1⟩
  | true =>
    refine wp_cond_false rfl ?_
    refine wp_skip ?_
    refine (show Code.wp _ _ _ _ _ from ?_)
    refine wp_seq ?_
    refine wp_seq ?_
    refine wp_region_L (W0 := w) [(g2, .cells #[.int .i64 xc, .int .i64 xt, .int .u8 ((xh : Nat) : Int)] 34 (0, 0)), (g1, .cells (shC (.slice pc cs.length cc) (.slice po os.length co) t).toArray 32 (0, 0))] (hW2) ?_
    refine lv (v := .agg (shC (.slice pc cs.length cc) (.slice po os.length co) t).toArray) rfl rfl (yb_load (n := 13) (off := 0) rfl (by kernel_rfl) (.tail _ (.head _)) Tryd.underlying32 rfl (by kernel_rfl) (by first | (simp [Value.cells]; done) | exact Nat.le_of_ble_eq_true rfl) (by kernel_rfl)) ?_
    refine lv (v := .agg #[.int .i64 xc, .int .i64 xt, .int .u8 ((xh : Nat) : Int)]) rfl rfl (yb_load (n := 3) (off := 0) rfl (by kernel_rfl) (.head _) Tryd.underlying34 rfl (by kernel_rfl) (by first | (simp [Value.cells]; done) | exact Nat.le_of_ble_eq_true rfl) (by kernel_rfl)) ?_
    refine lv (v := .bool (rightS cs (⟨xc, xt, xh⟩ : Slt) 20)) rfl rfl (yb_call (f := 14) (args := #[.agg (shC (.slice pc cs.length cc) (.slice po os.length co) t).toArray, .agg #[.int .i64 xc, .int .i64 xt, .int .u8 ((xh : Nat) : Int)], .int .u8 20]) (fun _ => by kernel_rfl) fun W hW => SRight_any cs pc cc (by omega) os po co (by omega) t (⟨xc, xt, xh⟩ : Slt) 20 W ((RL.base HC.out) _ (hW.sub (fun _ h => by cases h))) ((RL.base HO.out) _ (hW.sub (fun _ h => by cases h)))) ?_
    refine lp (v := .bool (!(rightS cs (⟨xc, xt, xh⟩ : Slt) 20))) rfl rfl (run_un rfl (by kernel_rfl) fun w => un_not w) ?_
    refine lm (v := .bool (!(rightS cs (⟨xc, xt, xh⟩ : Slt) 20))) rfl rfl ?_
    cases h2 : (rightS cs (⟨xc, xt, xh⟩ : Slt) 20) with
    | false =>
      refine lv (v := .agg (shC (.slice pc cs.length cc) (.slice po os.length co) t).toArray) rfl rfl (yb_load (n := 13) (off := 0) rfl (by kernel_rfl) (.tail _ (.head _)) Tryd.underlying32 rfl (by kernel_rfl) (by first | (simp [Value.cells]; done) | exact Nat.le_of_ble_eq_true rfl) (by kernel_rfl)) ?_
      refine lv (v := .agg #[.int .i64 xc, .int .i64 xt, .int .u8 ((xh : Nat) : Int)]) rfl rfl (yb_load (n := 3) (off := 0) rfl (by kernel_rfl) (.head _) Tryd.underlying34 rfl (by kernel_rfl) (by first | (simp [Value.cells]; done) | exact Nat.le_of_ble_eq_true rfl) (by kernel_rfl)) ?_
      refine lv (v := .bool (rightS cs (⟨xc, xt, xh⟩ : Slt) 40)) rfl rfl (yb_call (f := 14) (args := #[.agg (shC (.slice pc cs.length cc) (.slice po os.length co) t).toArray, .agg #[.int .i64 xc, .int .i64 xt, .int .u8 ((xh : Nat) : Int)], .int .u8 40]) (fun _ => by kernel_rfl) fun W hW => SRight_any cs pc cc (by omega) os po co (by omega) t (⟨xc, xt, xh⟩ : Slt) 40 W ((RL.base HC.out) _ (hW.sub (fun _ h => by cases h))) ((RL.base HO.out) _ (hW.sub (fun _ h => by cases h)))) ?_
      refine lp (v := .bool (!(rightS cs (⟨xc, xt, xh⟩ : Slt) 40))) rfl rfl (run_un rfl (by kernel_rfl) fun w => un_not w) ?_
      refine lm (v := .bool (!(rightS cs (⟨xc, xt, xh⟩ : Slt) 40))) rfl rfl ?_
      refine wpL_done (fun W4 hW4 => ?_)
      refine (show Code.wp _ _ _ _ _ from ?_)
      cases h3 : (rightS cs (⟨xc, xt, xh⟩ : Slt) 40) with
      | false =>
        refine wp_cond_true rfl ?_
        refine wp_seq ?_
        refine wp_region_L (W0 := w) [(g2, .cells #[.int .i64 xc, .int .i64 xt, .int .u8 ((xh : Nat) : Int)] 34 (0, 0)), (g1, .cells (shC (.slice pc cs.length cc) (.slice po os.length co) t).toArray 32 (0, 0))] (hW4) ?_
        refine lm (v := strV []) rfl rfl ?_
        refine lm (v := .int .i64 6) rfl rfl ?_
        refine wpL_done (fun W5 hW5 => ?_)
        refine (show Code.wp _ _ _ _ _ from ?_)
        refine wp_ret ?_
        try simp only [inBlock_ret, then_ret]
        refine bodyPost_ret (v := .tuple #[strV [], .int .i64 6]) ?_ rfl ?_
        · kernel_rfl
        · exact ⟨(si_is (by unfold nameR; rw [if_pos h1, if_neg (by unfold isSlot; rw [h2, h3]; decide)])), hW5.1⟩
      | true =>
        refine wp_cond_false rfl ?_
        refine wp_skip ?_
        refine (show Code.wp _ _ _ _ _ from ?_)
        refine wp_seq ?_
        have hiS := (show isSlot cs (⟨xc, xt, xh⟩ : Slt) = true from by unfold isSlot; rw [h2, h3] <;> rfl)
        obtain ⟨m, y, hm, hy, ht0, ht1, hh2⟩ := slot_at hiS
        simp only at hm ht0 ht1 hh2
        subst hm
        obtain ⟨hi1, hi2, hi3⟩ := slot_in h1 hy ht0 ht1
        have hml := (List.getElem?_eq_some_iff.1 hy).1
        refine wp_region_L (W0 := w) [(g2, .cells #[.int .i64 ((m : Nat) : Int), .int .i64 xt, .int .u8 ((xh : Nat) : Int)] 34 (0, 0)), (g1, .cells (shC (.slice pc cs.length cc) (.slice po os.length co) t).toArray 32 (0, 0))] (hW4) ?_
        refine lm (v := .pointer (some ⟨g1, 0, none⟩)) rfl rfl ?_
        refine lv (v := .slice pc cs.length cc) rfl rfl (yb_cell (off := 0) rfl (by kernel_rfl) (.tail _ (.head _)) Tryd.underlying22 rfl (by kernel_rfl)) ?_
        refine lm (v := .pointer (some ⟨g2, 0, none⟩)) rfl rfl ?_
        refine lv (v := .int .i64 ((m : Nat) : Int)) rfl rfl (yb_cell (off := 0) rfl (by kernel_rfl) (.head _) Tryd.underlying3 rfl (by kernel_rfl)) ?_
        obtain ⟨y4, g4_, f4_, hy4, hp4, hc4⟩ := RL.at (RL.base HC.out) colC_len (by decide) (hW4.sub (fun _ h => by cases h)) (k := m) (by omega)
        obtain rfl : y4 = y := by rw [hy4] at hy; cases hy; rfl
        refine lp (v := .pointer (some ⟨g4_, f4_ + m * 12, none⟩)) rfl rfl (run_idxQ (p := pc) (cap := cc) (n := cs.length) (j := .i64) (k := m) (sz := 12) rfl Tryd.underlying22 (by kernel_rfl) (by kernel_rfl) hp4 (by kernel_rfl) (by omega)) ?_
        refine lv (v := .agg (colC y4).toArray) rfl rfl (yb_rs (off := f4_ + m * 12) (cs := colC y4) rfl (by kernel_rfl) (fun W hW => hc4 W (hW.sub (fun _ h => by cases h))) Tryd.underlying65 rfl (by kernel_rfl)) ?_
        refine wpL_new (fun g => .pointer (some ⟨g, 0, none⟩)) (obi := .cells #[.int .i64 0, .int .i64 0, .bool false, .int .i64 0, .int .i64 0, .int .i64 0, .int .i64 0, .int .i64 0, .slice none 0 0, .int .i64 0, .int .i64 0, .int .i64 0] 65 (0, 0)) rfl rfl (fun _ => by kernel_rfl) (fun _ => by simp only [List.setIfInBounds_toArray, List.set_cons_succ, List.set_cons_zero] <;> rfl) fun g5 Bg5 Fg5 => ?_
        obtain ⟨dj6_0, dj6_1⟩ : g2 ≠ g5 ∧ g1 ≠ g5 := by simpa only [dj_app_l, dj_app_r, dj_cons_l, dj_cons_r, dj_nil_l, dj_nil_r, dk_app, dk_cons, dk_nil, and_true, true_and, and_assoc] using (show Dk g5 [(g2, .cells #[.int .i64 ((m : Nat) : Int), .int .i64 xt, .int .u8 ((xh : Nat) : Int)] 34 (0, 0)), (g1, .cells (shC (.slice pc cs.length cc) (.slice po os.length co) t).toArray 32 (0, 0))] from Fg5)
        refine wpL_s [(g5, .cells (colC y4).toArray 65 (0, 0)), (g2, .cells #[.int .i64 ((m : Nat) : Int), .int .i64 xt, .int .u8 ((xh : Nat) : Int)] 34 (0, 0)), (g1, .cells (shC (.slice pc cs.length cc) (.slice po os.length co) t).toArray 32 (0, 0))] rfl rfl (st_row (off := 0) (v := .agg (colC y4).toArray) rfl (by kernel_rfl) (by kernel_rfl) (.head _) Bg5 (by kernel_rfl) (by first | (simp [Value.cells]; done) | exact Nat.le_of_ble_eq_true rfl) (fun v hv => colC_one y4 v hv) (by kernel_rfl) (List.forall_mem_cons.2 ⟨.inl rfl, (List.forall_mem_cons.2 ⟨.inr ⟨(.tail _ (.head _)), (by first | assumption | exact Ne.symm (by assumption))⟩, (List.forall_mem_cons.2 ⟨.inr ⟨(.tail _ (.tail _ (.head _))), (by first | assumption | exact Ne.symm (by assumption))⟩, (List.forall_mem_nil _)⟩)⟩)⟩)) ?_
        refine wpL_done (fun W6 hW6 => ?_)
        refine (show Code.wp _ _ _ _ _ from ?_)
        refine wp_seq ?_
        refine wp_region_L (W0 := w) [(g5, .cells (colC y4).toArray 65 (0, 0)), (g2, .cells #[.int .i64 ((m : Nat) : Int), .int .i64 xt, .int .u8 ((xh : Nat) : Int)] 34 (0, 0)), (g1, .cells (shC (.slice pc cs.length cc) (.slice po os.length co) t).toArray 32 (0, 0))] (hW6) ?_
        refine lm (v := .pointer (some ⟨g5, 0, none⟩)) rfl rfl ?_
        refine lv (v := .int .i64 y4.bay) rfl rfl (yb_cell (off := 0) rfl (by kernel_rfl) (.head _) Tryd.underlying3 rfl (by kernel_rfl)) ?_
        refine lm (v := .pointer (some ⟨g5, 1, none⟩)) rfl rfl ?_
        refine lv (v := .int .i64 y4.row) rfl rfl (yb_cell (off := 1) rfl (by kernel_rfl) (.head _) Tryd.underlying3 rfl (by kernel_rfl)) ?_
        refine lm (v := .pointer (some ⟨g2, 1, none⟩)) rfl rfl ?_
        refine lv (v := .int .i64 xt) rfl rfl (yb_cell (off := 1) rfl (by kernel_rfl) (.tail _ (.head _)) Tryd.underlying3 rfl (by kernel_rfl)) ?_
        refine lm (v := .pointer (some ⟨g5, 2, none⟩)) rfl rfl ?_
        refine lv (v := .bool y4.deck) rfl rfl (yb_cell (off := 2) rfl (by kernel_rfl) (.head _) Tryd.underlying4 rfl (by kernel_rfl)) ?_
        refine lm (v := .pointer (some ⟨g2, 2, none⟩)) rfl rfl ?_
        refine lv (v := .int .u8 ((xh : Nat) : Int)) rfl rfl (yb_cell (off := 2) rfl (by kernel_rfl) (.tail _ (.head _)) Tryd.underlying5 rfl (by kernel_rfl)) ?_
        refine lm (v := .agg #[.int .i64 y4.bay, .int .i64 y4.row, .int .i64 xt, .bool y4.deck, .int .u8 ((xh : Nat) : Int)]) rfl rfl ?_
        refine lv (v := strV (txtN (numN (y4.bay).toNat (y4.row).toNat (xt).toNat y4.deck xh))) rfl rfl (yb_call (f := 67) (args := #[.agg #[.int .i64 y4.bay, .int .i64 y4.row, .int .i64 xt, .bool y4.deck, .int .u8 ((xh : Nat) : Int)]]) (fun _ => by kernel_rfl) fun W hW => text_any y4.bay y4.row xt xh y4.deck hi1 hi2 hi3 hh2 W (HE.out.keep hW.1)) ?_
        refine lm (v := strV (txtN (numN (y4.bay).toNat (y4.row).toNat (xt).toNat y4.deck xh))) rfl rfl ?_
        refine lm (v := .int .i64 0) rfl rfl ?_
        refine wpL_done (fun W7 hW7 => ?_)
        refine (show Code.wp _ _ _ _ _ from ?_)
        refine wp_ret ?_
        try simp only [inBlock_ret, then_ret]
        refine bodyPost_ret (v := .tuple #[strV (txtN (numN (y4.bay).toNat (y4.row).toNat (xt).toNat y4.deck xh)), .int .i64 0]) ?_ rfl ?_
        · kernel_rfl
        · exact ⟨(si_is (by unfold nameR; rw [if_pos h1, if_pos hiS, name_at hy])), hW7.1⟩
    | true =>
      refine ln rfl ?_
      refine ln rfl ?_
      refine ln rfl ?_
      refine ln rfl ?_
      refine lm (v := .bool false) rfl rfl ?_
      refine wpL_done (fun W8 hW8 => ?_)
      refine (show Code.wp _ _ _ _ _ from ?_)
      refine wp_cond_false rfl ?_
      refine wp_skip ?_
      refine (show Code.wp _ _ _ _ _ from ?_)
      refine wp_seq ?_
      have hiS := (show isSlot cs (⟨xc, xt, xh⟩ : Slt) = true from by unfold isSlot; rw [h2] <;> rfl)
      obtain ⟨m, y, hm, hy, ht0, ht1, hh2⟩ := slot_at hiS
      simp only at hm ht0 ht1 hh2
      subst hm
      obtain ⟨hi1, hi2, hi3⟩ := slot_in h1 hy ht0 ht1
      have hml := (List.getElem?_eq_some_iff.1 hy).1
      refine wp_region_L (W0 := w) [(g2, .cells #[.int .i64 ((m : Nat) : Int), .int .i64 xt, .int .u8 ((xh : Nat) : Int)] 34 (0, 0)), (g1, .cells (shC (.slice pc cs.length cc) (.slice po os.length co) t).toArray 32 (0, 0))] (hW8) ?_
      refine lm (v := .pointer (some ⟨g1, 0, none⟩)) rfl rfl ?_
      refine lv (v := .slice pc cs.length cc) rfl rfl (yb_cell (off := 0) rfl (by kernel_rfl) (.tail _ (.head _)) Tryd.underlying22 rfl (by kernel_rfl)) ?_
      refine lm (v := .pointer (some ⟨g2, 0, none⟩)) rfl rfl ?_
      refine lv (v := .int .i64 ((m : Nat) : Int)) rfl rfl (yb_cell (off := 0) rfl (by kernel_rfl) (.head _) Tryd.underlying3 rfl (by kernel_rfl)) ?_
      obtain ⟨y7, g7_, f7_, hy7, hp7, hc7⟩ := RL.at (RL.base HC.out) colC_len (by decide) (hW8.sub (fun _ h => by cases h)) (k := m) (by omega)
      obtain rfl : y7 = y := by rw [hy7] at hy; cases hy; rfl
      refine lp (v := .pointer (some ⟨g7_, f7_ + m * 12, none⟩)) rfl rfl (run_idxQ (p := pc) (cap := cc) (n := cs.length) (j := .i64) (k := m) (sz := 12) rfl Tryd.underlying22 (by kernel_rfl) (by kernel_rfl) hp7 (by kernel_rfl) (by omega)) ?_
      refine lv (v := .agg (colC y7).toArray) rfl rfl (yb_rs (off := f7_ + m * 12) (cs := colC y7) rfl (by kernel_rfl) (fun W hW => hc7 W (hW.sub (fun _ h => by cases h))) Tryd.underlying65 rfl (by kernel_rfl)) ?_
      refine wpL_new (fun g => .pointer (some ⟨g, 0, none⟩)) (obi := .cells #[.int .i64 0, .int .i64 0, .bool false, .int .i64 0, .int .i64 0, .int .i64 0, .int .i64 0, .int .i64 0, .slice none 0 0, .int .i64 0, .int .i64 0, .int .i64 0] 65 (0, 0)) rfl rfl (fun _ => by kernel_rfl) (fun _ => by simp only [List.setIfInBounds_toArray, List.set_cons_succ, List.set_cons_zero] <;> rfl) fun g8 Bg8 Fg8 => ?_
      obtain ⟨dj9_0, dj9_1⟩ : g2 ≠ g8 ∧ g1 ≠ g8 := by simpa only [dj_app_l, dj_app_r, dj_cons_l, dj_cons_r, dj_nil_l, dj_nil_r, dk_app, dk_cons, dk_nil, and_true, true_and, and_assoc] using (show Dk g8 [(g2, .cells #[.int .i64 ((m : Nat) : Int), .int .i64 xt, .int .u8 ((xh : Nat) : Int)] 34 (0, 0)), (g1, .cells (shC (.slice pc cs.length cc) (.slice po os.length co) t).toArray 32 (0, 0))] from Fg8)
      refine wpL_s [(g8, .cells (colC y7).toArray 65 (0, 0)), (g2, .cells #[.int .i64 ((m : Nat) : Int), .int .i64 xt, .int .u8 ((xh : Nat) : Int)] 34 (0, 0)), (g1, .cells (shC (.slice pc cs.length cc) (.slice po os.length co) t).toArray 32 (0, 0))] rfl rfl (st_row (off := 0) (v := .agg (colC y7).toArray) rfl (by kernel_rfl) (by kernel_rfl) (.head _) Bg8 (by kernel_rfl) (by first | (simp [Value.cells]; done) | exact Nat.le_of_ble_eq_true rfl) (fun v hv => colC_one y7 v hv) (by kernel_rfl) (List.forall_mem_cons.2 ⟨.inl rfl, (List.forall_mem_cons.2 ⟨.inr ⟨(.tail _ (.head _)), (by first | assumption | exact Ne.symm (by assumption))⟩, (List.forall_mem_cons.2 ⟨.inr ⟨(.tail _ (.tail _ (.head _))), (by first | assumption | exact Ne.symm (by assumption))⟩, (List.forall_mem_nil _)⟩)⟩)⟩)) ?_
      refine wpL_done (fun W9 hW9 => ?_)
      refine (show Code.wp _ _ _ _ _ from ?_)
      refine wp_seq ?_
      refine wp_region_L (W0 := w) [(g8, .cells (colC y7).toArray 65 (0, 0)), (g2, .cells #[.int .i64 ((m : Nat) : Int), .int .i64 xt, .int .u8 ((xh : Nat) : Int)] 34 (0, 0)), (g1, .cells (shC (.slice pc cs.length cc) (.slice po os.length co) t).toArray 32 (0, 0))] (hW9) ?_
      refine lm (v := .pointer (some ⟨g8, 0, none⟩)) rfl rfl ?_
      refine lv (v := .int .i64 y7.bay) rfl rfl (yb_cell (off := 0) rfl (by kernel_rfl) (.head _) Tryd.underlying3 rfl (by kernel_rfl)) ?_
      refine lm (v := .pointer (some ⟨g8, 1, none⟩)) rfl rfl ?_
      refine lv (v := .int .i64 y7.row) rfl rfl (yb_cell (off := 1) rfl (by kernel_rfl) (.head _) Tryd.underlying3 rfl (by kernel_rfl)) ?_
      refine lm (v := .pointer (some ⟨g2, 1, none⟩)) rfl rfl ?_
      refine lv (v := .int .i64 xt) rfl rfl (yb_cell (off := 1) rfl (by kernel_rfl) (.tail _ (.head _)) Tryd.underlying3 rfl (by kernel_rfl)) ?_
      refine lm (v := .pointer (some ⟨g8, 2, none⟩)) rfl rfl ?_
      refine lv (v := .bool y7.deck) rfl rfl (yb_cell (off := 2) rfl (by kernel_rfl) (.head _) Tryd.underlying4 rfl (by kernel_rfl)) ?_
      refine lm (v := .pointer (some ⟨g2, 2, none⟩)) rfl rfl ?_
      refine lv (v := .int .u8 ((xh : Nat) : Int)) rfl rfl (yb_cell (off := 2) rfl (by kernel_rfl) (.tail _ (.head _)) Tryd.underlying5 rfl (by kernel_rfl)) ?_
      refine lm (v := .agg #[.int .i64 y7.bay, .int .i64 y7.row, .int .i64 xt, .bool y7.deck, .int .u8 ((xh : Nat) : Int)]) rfl rfl ?_
      refine lv (v := strV (txtN (numN (y7.bay).toNat (y7.row).toNat (xt).toNat y7.deck xh))) rfl rfl (yb_call (f := 67) (args := #[.agg #[.int .i64 y7.bay, .int .i64 y7.row, .int .i64 xt, .bool y7.deck, .int .u8 ((xh : Nat) : Int)]]) (fun _ => by kernel_rfl) fun W hW => text_any y7.bay y7.row xt xh y7.deck hi1 hi2 hi3 hh2 W (HE.out.keep hW.1)) ?_
      refine lm (v := strV (txtN (numN (y7.bay).toNat (y7.row).toNat (xt).toNat y7.deck xh))) rfl rfl ?_
      refine lm (v := .int .i64 0) rfl rfl ?_
      refine wpL_done (fun W10 hW10 => ?_)
      refine (show Code.wp _ _ _ _ _ from ?_)
      refine wp_ret ?_
      try simp only [inBlock_ret, then_ret]
      refine bodyPost_ret (v := .tuple #[strV (txtN (numN (y7.bay).toNat (y7.row).toNat (xt).toNat y7.deck xh)), .int .i64 0]) ?_ rfl ?_
      · kernel_rfl
      · exact ⟨(si_is (by unfold nameR; rw [if_pos h1, if_pos hiS, name_at hy])), hW10.1⟩
set_option maxRecDepth 100000 in
set_option maxHeartbeats 4000000 in
theorem SFind_any (cs : List Col) (pc : Option Addr) (cc : Nat) (lc : cs.length ≤ 4000000000) (os : List Cov) (po : Option Addr) (co : Nat) (lo : os.length ≤ 4000000000) (t : Tl) (l : List UInt8) (hl : l.length ≤ 281474976710656) (w : World) (hc : SLV w pc (cs.flatMap colC)) (ho : SLV w po (os.flatMap covC)) (hr : RwR w os) (lr : ∀ o ∈ os, o.rows.length ≤ 4000000000) (hq : PlR w cs) (lq : ∀ c ∈ cs, c.plugs.length ≤ 4000000000) (hE : Env w) : Calls Tryd.prog 31 #[.agg (shC (.slice pc cs.length cc) (.slice po os.length co) t).toArray, strV l] w fun e w' => e = .returned (.tuple #[.agg (sltC (findR cs os l).1).toArray, .int .i64 (((findR cs os l).2 : Nat) : Int)]) ∧ Below w.heap.size w w' := by
  have HC := Lib.hid hc
  clear hc
  have HO := Lib.hid ho
  clear ho
  have HR := Lib.hid hr
  clear hr
  have HQ := Lib.hid hq
  clear hq
  have HE := Lib.hid hE
  clear hE
  go_enter Tryd.func31, Tryd.ntmps31
  refine wp_seq ?_
  refine wp_region_L (W0 := w) [] (KS.start w) ?_
  refine wpL_new (fun g => .pointer (some ⟨g, 0, none⟩)) (obi := .cells (shC (.slice pc cs.length cc) (.slice po os.length co) t).toArray 32 (0, 0)) rfl rfl (fun _ => by kernel_rfl) (fun _ => by simp only [List.setIfInBounds_toArray, List.set_cons_succ, List.set_cons_zero] <;> rfl) fun g1 Bg1 Fg1 => ?_
  refine wpL_new (fun g => .pointer (some ⟨g, 0, none⟩)) (obi := .cells #[.int .i64 0, .int .i64 0, .int .u8 0] 34 (0, 0)) rfl rfl (fun _ => by kernel_rfl) (fun _ => by simp only [List.setIfInBounds_toArray, List.set_cons_succ, List.set_cons_zero] <;> rfl) fun g2 Bg2 Fg2 => ?_
  obtain dj3_0 : g1 ≠ g2 := by simpa only [dj_app_l, dj_app_r, dj_cons_l, dj_cons_r, dj_nil_l, dj_nil_r, dk_app, dk_cons, dk_nil, and_true, true_and, and_assoc] using (show Dk g2 [(g1, .cells (shC (.slice pc cs.length cc) (.slice po os.length co) t).toArray 32 (0, 0))] from Fg2)
  refine lm (v := .int .i64 0) rfl rfl ?_
  refine wpL_done (fun W1 hW1 => ?_)
  refine (show Code.wp _ _ _ _ _ from ?_)
  refine wp_seq ?_
  refine wp_seq ?_
  refine wp_region_L (W0 := w) [(g2, .cells #[.int .i64 0, .int .i64 0, .int .u8 0] 34 (0, 0)), (g1, .cells (shC (.slice pc cs.length cc) (.slice po os.length co) t).toArray 32 (0, 0))] (hW1) ?_
  refine lv (v := .agg (shC (.slice pc cs.length cc) (.slice po os.length co) t).toArray) rfl rfl (yb_load (n := 13) (off := 0) rfl (by kernel_rfl) (.tail _ (.head _)) Tryd.underlying32 rfl (by kernel_rfl) (by first | (simp [Value.cells]; done) | exact Nat.le_of_ble_eq_true rfl) (by kernel_rfl)) ?_
  refine lv (v := .bool (rightX cs os)) rfl rfl (yb_call (f := 66) (args := #[.agg (shC (.slice pc cs.length cc) (.slice po os.length co) t).toArray]) (fun _ => by kernel_rfl) fun W hW => Right_any cs pc cc (by omega) os po co (by omega) t W ((RL.base HC.out) _ (hW.sub (fun _ h => by cases h))) ((RL.base HO.out) _ (hW.sub (fun _ h => by cases h))) (HR.out.keep hW.1) lr (HQ.out.keep hW.1) lq) ?_
  refine lp (v := .bool (!(rightX cs os))) rfl rfl (run_un rfl (by kernel_rfl) fun w => un_not w) ?_
  refine wpL_done (fun W2 hW2 => ?_)
  refine (show Code.wp _ _ _ _ _ from ?_)
  cases h1 : (rightX cs os) with
  | false =>
    refine wp_cond_true rfl ?_
    refine wp_seq ?_
    refine wp_region_L (W0 := w) [(g2, .cells #[.int .i64 0, .int .i64 0, .int .u8 0] 34 (0, 0)), (g1, .cells (shC (.slice pc cs.length cc) (.slice po os.length co) t).toArray 32 (0, 0))] (hW2) ?_
    refine lm (v := .agg #[.int .i64 0, .int .i64 0, .int .u8 0]) rfl rfl ?_
    refine wpL_s [(g2, .cells #[.int .i64 0, .int .i64 0, .int .u8 0] 34 (0, 0)), (g1, .cells (shC (.slice pc cs.length cc) (.slice po os.length co) t).toArray 32 (0, 0))] rfl rfl (st_row (off := 0) (v := .agg #[.int .i64 0, .int .i64 0, .int .u8 0]) rfl (by kernel_rfl) (by kernel_rfl) (.head _) Bg2 (by kernel_rfl) (by first | (simp [Value.cells]; done) | exact Nat.le_of_ble_eq_true rfl) (by intro v hv; simp [Value.cells] at hv; first | (subst hv; rfl) | (rcases hv with rfl | rfl | rfl <;> rfl)) (by kernel_rfl) (List.forall_mem_cons.2 ⟨.inl rfl, (List.forall_mem_cons.2 ⟨.inr ⟨(.tail _ (.head _)), (by first | assumption | exact Ne.symm (by assumption))⟩, (List.forall_mem_nil _)⟩)⟩)) ?_
    refine lm (v := .int .i64 2) rfl rfl ?_
    refine wpL_done (fun W3 hW3 => ?_)
    refine (show Code.wp _ _ _ _ _ from ?_)
    refine wp_ret ?_
    try simp only [inBlock_ret, then_ret]
    refine bodyPost_ret (v := .tuple #[.agg #[.int .i64 0, .int .i64 0, .int .u8 0], .int .i64 2]) ?_ rfl ?_
    · exact (res_cell_tmp (p := 4) (q := 5) rfl rfl (hW3.2 _ (.head _)) Tryd.underlying34 rfl (by kernel_rfl))
    · exact ⟨(xi_is (x := slt0) (by unfold findR; rw [if_neg (by rw [h1]; decide)])), hW3.1⟩
  | true =>
    refine wp_cond_false rfl ?_
    refine wp_skip ?_
    refine (show Code.wp _ _ _ _ _ from ?_)
    refine wp_seq ?_
    refine wp_region_L (W0 := w) [(g2, .cells #[.int .i64 0, .int .i64 0, .int .u8 0] 34 (0, 0)), (g1, .cells (shC (.slice pc cs.length cc) (.slice po os.length co) t).toArray 32 (0, 0))] (hW2) ?_
    refine lm (v := strV l) rfl rfl ?_
    cases h2 : (digsOk l) with
    | false =>
      refine lv (v := .tuple #[.agg #[.int .i64 0, .int .i64 0, .int .i64 0, .bool false, .int .u8 0], .bool false]) rfl rfl (yb_call (f := 69) (args := #[strV l]) (fun _ => by kernel_rfl) fun W hW => placeOf_no l (by omega) h2 W) ?_
      refine lm (v := .tuple #[.agg #[.int .i64 0, .int .i64 0, .int .i64 0, .bool false, .int .u8 0], .bool false]) rfl rfl ?_
      refine lm (v := .agg #[.int .i64 0, .int .i64 0, .int .i64 0, .bool false, .int .u8 0]) rfl rfl ?_
      refine lm (v := .bool false) rfl rfl ?_
      refine wpL_new (fun g => .pointer (some ⟨g, 0, none⟩)) (obi := .cells #[.int .i64 0, .int .i64 0, .int .i64 0, .bool false, .int .u8 0] 111 (0, 0)) rfl rfl (fun _ => by kernel_rfl) (fun _ => by simp only [List.setIfInBounds_toArray, List.set_cons_succ, List.set_cons_zero] <;> rfl) fun g4 Bg4 Fg4 => ?_
      obtain ⟨dj5_0, dj5_1⟩ : g2 ≠ g4 ∧ g1 ≠ g4 := by simpa only [dj_app_l, dj_app_r, dj_cons_l, dj_cons_r, dj_nil_l, dj_nil_r, dk_app, dk_cons, dk_nil, and_true, true_and, and_assoc] using (show Dk g4 [(g2, .cells #[.int .i64 0, .int .i64 0, .int .u8 0] 34 (0, 0)), (g1, .cells (shC (.slice pc cs.length cc) (.slice po os.length co) t).toArray 32 (0, 0))] from Fg4)
      refine wpL_s [(g4, .cells #[.int .i64 0, .int .i64 0, .int .i64 0, .bool false, .int .u8 0] 111 (0, 0)), (g2, .cells #[.int .i64 0, .int .i64 0, .int .u8 0] 34 (0, 0)), (g1, .cells (shC (.slice pc cs.length cc) (.slice po os.length co) t).toArray 32 (0, 0))] rfl rfl (st_row (off := 0) (v := .agg #[.int .i64 0, .int .i64 0, .int .i64 0, .bool false, .int .u8 0]) rfl (by kernel_rfl) (by kernel_rfl) (.head _) Bg4 (by kernel_rfl) (by first | (simp [Value.cells]; done) | exact Nat.le_of_ble_eq_true rfl) (by intro v hv; simp [Value.cells] at hv; first | (subst hv; rfl) | (rcases hv with rfl | rfl | rfl | rfl | rfl <;> rfl)) (by kernel_rfl) (List.forall_mem_cons.2 ⟨.inl rfl, (List.forall_mem_cons.2 ⟨.inr ⟨(.tail _ (.head _)), (by first | assumption | exact Ne.symm (by assumption))⟩, (List.forall_mem_cons.2 ⟨.inr ⟨(.tail _ (.tail _ (.head _))), (by first | assumption | exact Ne.symm (by assumption))⟩, (List.forall_mem_nil _)⟩)⟩)⟩)) ?_
      refine lm (v := .bool false) rfl rfl ?_
      refine wpL_done (fun W4 hW4 => ?_)
      refine (show Code.wp _ _ _ _ _ from ?_)
      refine wp_seq ?_
      refine wp_seq ?_
      refine wp_region_L (W0 := w) [(g4, .cells #[.int .i64 0, .int .i64 0, .int .i64 0, .bool false, .int .u8 0] 111 (0, 0)), (g2, .cells #[.int .i64 0, .int .i64 0, .int .u8 0] 34 (0, 0)), (g1, .cells (shC (.slice pc cs.length cc) (.slice po os.length co) t).toArray 32 (0, 0))] (hW4) ?_
      refine lm (v := .bool false) rfl rfl ?_
      refine lm (v := .bool true) rfl rfl ?_
      refine wpL_done (fun W5 hW5 => ?_)
      refine (show Code.wp _ _ _ _ _ from ?_)
      refine wp_cond_true rfl ?_
      refine wp_seq ?_
      refine wp_region_L (W0 := w) [(g4, .cells #[.int .i64 0, .int .i64 0, .int .i64 0, .bool false, .int .u8 0] 111 (0, 0)), (g2, .cells #[.int .i64 0, .int .i64 0, .int .u8 0] 34 (0, 0)), (g1, .cells (shC (.slice pc cs.length cc) (.slice po os.length co) t).toArray 32 (0, 0))] (hW5) ?_
      refine lm (v := .agg #[.int .i64 0, .int .i64 0, .int .u8 0]) rfl rfl ?_
      refine wpL_s [(g4, .cells #[.int .i64 0, .int .i64 0, .int .i64 0, .bool false, .int .u8 0] 111 (0, 0)), (g2, .cells #[.int .i64 0, .int .i64 0, .int .u8 0] 34 (0, 0)), (g1, .cells (shC (.slice pc cs.length cc) (.slice po os.length co) t).toArray 32 (0, 0))] rfl rfl (st_row (off := 0) (v := .agg #[.int .i64 0, .int .i64 0, .int .u8 0]) rfl (by kernel_rfl) (by kernel_rfl) (.tail _ (.head _)) Bg2 (by kernel_rfl) (by first | (simp [Value.cells]; done) | exact Nat.le_of_ble_eq_true rfl) (by intro v hv; simp [Value.cells] at hv; first | (subst hv; rfl) | (rcases hv with rfl | rfl | rfl <;> rfl)) (by kernel_rfl) (List.forall_mem_cons.2 ⟨.inr ⟨(.head _), (by first | assumption | exact Ne.symm (by assumption))⟩, (List.forall_mem_cons.2 ⟨.inl rfl, (List.forall_mem_cons.2 ⟨.inr ⟨(.tail _ (.tail _ (.head _))), (by first | assumption | exact Ne.symm (by assumption))⟩, (List.forall_mem_nil _)⟩)⟩)⟩)) ?_
      refine lm (v := .int .i64 80) rfl rfl ?_
      refine wpL_done (fun W6 hW6 => ?_)
      refine (show Code.wp _ _ _ _ _ from ?_)
      refine wp_ret ?_
      try simp only [inBlock_ret, then_ret]
      refine bodyPost_ret (v := .tuple #[.agg #[.int .i64 0, .int .i64 0, .int .u8 0], .int .i64 80]) ?_ rfl ?_
      · exact (res_cell_tmp (p := 4) (q := 5) rfl rfl (hW6.2 _ (.tail _ (.head _))) Tryd.underlying34 rfl (by kernel_rfl))
      · exact ⟨(xi_is (x := slt0) (by unfold findR; rw [if_pos h1, if_neg (by unfold placeB; rw [h2]; simp)])), hW6.1⟩
    | true =>
      refine lv (v := .tuple #[.agg #[.int .i64 ((((decN l) / 10000 / 4) : Nat) : Int), .int .i64 ((((decN l) / 100 % 100) : Nat) : Int), .int .i64 (((tierR ((decN l) % 100) / 2 : Nat) : Int) - 1), .bool (tierD ((decN l) % 100)), .int .u8 (((halfN ((decN l) / 10000 % 4)) : Nat) : Int)], .bool (halfB ((decN l) / 10000 % 4) && tierB ((decN l) % 100))]) rfl rfl (yb_call (f := 69) (args := #[strV l]) (fun _ => by kernel_rfl) fun W hW => placeOf_yes h2 W (HE.out.keep hW.1)) ?_
      refine lm (v := .tuple #[.agg #[.int .i64 ((((decN l) / 10000 / 4) : Nat) : Int), .int .i64 ((((decN l) / 100 % 100) : Nat) : Int), .int .i64 (((tierR ((decN l) % 100) / 2 : Nat) : Int) - 1), .bool (tierD ((decN l) % 100)), .int .u8 (((halfN ((decN l) / 10000 % 4)) : Nat) : Int)], .bool (halfB ((decN l) / 10000 % 4) && tierB ((decN l) % 100))]) rfl rfl ?_
      refine lm (v := .agg #[.int .i64 ((((decN l) / 10000 / 4) : Nat) : Int), .int .i64 ((((decN l) / 100 % 100) : Nat) : Int), .int .i64 (((tierR ((decN l) % 100) / 2 : Nat) : Int) - 1), .bool (tierD ((decN l) % 100)), .int .u8 (((halfN ((decN l) / 10000 % 4)) : Nat) : Int)]) rfl rfl ?_
      refine lm (v := .bool (halfB ((decN l) / 10000 % 4) && tierB ((decN l) % 100))) rfl rfl ?_
      refine wpL_new (fun g => .pointer (some ⟨g, 0, none⟩)) (obi := .cells #[.int .i64 0, .int .i64 0, .int .i64 0, .bool false, .int .u8 0] 111 (0, 0)) rfl rfl (fun _ => by kernel_rfl) (fun _ => by simp only [List.setIfInBounds_toArray, List.set_cons_succ, List.set_cons_zero] <;> rfl) fun g6 Bg6 Fg6 => ?_
      obtain ⟨dj7_0, dj7_1⟩ : g2 ≠ g6 ∧ g1 ≠ g6 := by simpa only [dj_app_l, dj_app_r, dj_cons_l, dj_cons_r, dj_nil_l, dj_nil_r, dk_app, dk_cons, dk_nil, and_true, true_and, and_assoc] using (show Dk g6 [(g2, .cells #[.int .i64 0, .int .i64 0, .int .u8 0] 34 (0, 0)), (g1, .cells (shC (.slice pc cs.length cc) (.slice po os.length co) t).toArray 32 (0, 0))] from Fg6)
      refine wpL_s [(g6, .cells #[.int .i64 ((((decN l) / 10000 / 4) : Nat) : Int), .int .i64 ((((decN l) / 100 % 100) : Nat) : Int), .int .i64 (((tierR ((decN l) % 100) / 2 : Nat) : Int) - 1), .bool (tierD ((decN l) % 100)), .int .u8 (((halfN ((decN l) / 10000 % 4)) : Nat) : Int)] 111 (0, 0)), (g2, .cells #[.int .i64 0, .int .i64 0, .int .u8 0] 34 (0, 0)), (g1, .cells (shC (.slice pc cs.length cc) (.slice po os.length co) t).toArray 32 (0, 0))] rfl rfl (st_row (off := 0) (v := .agg #[.int .i64 ((((decN l) / 10000 / 4) : Nat) : Int), .int .i64 ((((decN l) / 100 % 100) : Nat) : Int), .int .i64 (((tierR ((decN l) % 100) / 2 : Nat) : Int) - 1), .bool (tierD ((decN l) % 100)), .int .u8 (((halfN ((decN l) / 10000 % 4)) : Nat) : Int)]) rfl (by kernel_rfl) (by kernel_rfl) (.head _) Bg6 (by kernel_rfl) (by first | (simp [Value.cells]; done) | exact Nat.le_of_ble_eq_true rfl) (by intro v hv; simp [Value.cells] at hv; first | (subst hv; rfl) | (rcases hv with rfl | rfl | rfl | rfl | rfl <;> rfl)) (by kernel_rfl) (List.forall_mem_cons.2 ⟨.inl rfl, (List.forall_mem_cons.2 ⟨.inr ⟨(.tail _ (.head _)), (by first | assumption | exact Ne.symm (by assumption))⟩, (List.forall_mem_cons.2 ⟨.inr ⟨(.tail _ (.tail _ (.head _))), (by first | assumption | exact Ne.symm (by assumption))⟩, (List.forall_mem_nil _)⟩)⟩)⟩)) ?_
      refine lm (v := .bool (halfB ((decN l) / 10000 % 4) && tierB ((decN l) % 100))) rfl rfl ?_
      refine wpL_done (fun W7 hW7 => ?_)
      refine (show Code.wp _ _ _ _ _ from ?_)
      refine wp_seq ?_
      refine wp_seq ?_
      refine wp_region_L (W0 := w) [(g6, .cells #[.int .i64 ((((decN l) / 10000 / 4) : Nat) : Int), .int .i64 ((((decN l) / 100 % 100) : Nat) : Int), .int .i64 (((tierR ((decN l) % 100) / 2 : Nat) : Int) - 1), .bool (tierD ((decN l) % 100)), .int .u8 (((halfN ((decN l) / 10000 % 4)) : Nat) : Int)] 111 (0, 0)), (g2, .cells #[.int .i64 0, .int .i64 0, .int .u8 0] 34 (0, 0)), (g1, .cells (shC (.slice pc cs.length cc) (.slice po os.length co) t).toArray 32 (0, 0))] (hW7) ?_
      refine lm (v := .bool (halfB ((decN l) / 10000 % 4) && tierB ((decN l) % 100))) rfl rfl ?_
      refine lp (v := .bool (!(halfB ((decN l) / 10000 % 4) && tierB ((decN l) % 100)))) rfl rfl (run_un rfl (by kernel_rfl) fun w => un_not w) ?_
      refine wpL_done (fun W8 hW8 => ?_)
      refine (show Code.wp _ _ _ _ _ from ?_)
      cases h3 : (halfB ((decN l) / 10000 % 4) && tierB ((decN l) % 100)) with
      | false =>
        refine wp_cond_true rfl ?_
        refine wp_seq ?_
        refine wp_region_L (W0 := w) [(g6, .cells #[.int .i64 ((((decN l) / 10000 / 4) : Nat) : Int), .int .i64 ((((decN l) / 100 % 100) : Nat) : Int), .int .i64 (((tierR ((decN l) % 100) / 2 : Nat) : Int) - 1), .bool (tierD ((decN l) % 100)), .int .u8 (((halfN ((decN l) / 10000 % 4)) : Nat) : Int)] 111 (0, 0)), (g2, .cells #[.int .i64 0, .int .i64 0, .int .u8 0] 34 (0, 0)), (g1, .cells (shC (.slice pc cs.length cc) (.slice po os.length co) t).toArray 32 (0, 0))] (hW8) ?_
        refine lm (v := .agg #[.int .i64 0, .int .i64 0, .int .u8 0]) rfl rfl ?_
        refine wpL_s [(g6, .cells #[.int .i64 ((((decN l) / 10000 / 4) : Nat) : Int), .int .i64 ((((decN l) / 100 % 100) : Nat) : Int), .int .i64 (((tierR ((decN l) % 100) / 2 : Nat) : Int) - 1), .bool (tierD ((decN l) % 100)), .int .u8 (((halfN ((decN l) / 10000 % 4)) : Nat) : Int)] 111 (0, 0)), (g2, .cells #[.int .i64 0, .int .i64 0, .int .u8 0] 34 (0, 0)), (g1, .cells (shC (.slice pc cs.length cc) (.slice po os.length co) t).toArray 32 (0, 0))] rfl rfl (st_row (off := 0) (v := .agg #[.int .i64 0, .int .i64 0, .int .u8 0]) rfl (by kernel_rfl) (by kernel_rfl) (.tail _ (.head _)) Bg2 (by kernel_rfl) (by first | (simp [Value.cells]; done) | exact Nat.le_of_ble_eq_true rfl) (by intro v hv; simp [Value.cells] at hv; first | (subst hv; rfl) | (rcases hv with rfl | rfl | rfl <;> rfl)) (by kernel_rfl) (List.forall_mem_cons.2 ⟨.inr ⟨(.head _), (by first | assumption | exact Ne.symm (by assumption))⟩, (List.forall_mem_cons.2 ⟨.inl rfl, (List.forall_mem_cons.2 ⟨.inr ⟨(.tail _ (.tail _ (.head _))), (by first | assumption | exact Ne.symm (by assumption))⟩, (List.forall_mem_nil _)⟩)⟩)⟩)) ?_
        refine lm (v := .int .i64 80) rfl rfl ?_
        refine wpL_done (fun W9 hW9 => ?_)
        refine (show Code.wp _ _ _ _ _ from ?_)
        refine wp_ret ?_
        try simp only [inBlock_ret, then_ret]
        refine bodyPost_ret (v := .tuple #[.agg #[.int .i64 0, .int .i64 0, .int .u8 0], .int .i64 80]) ?_ rfl ?_
        · exact (res_cell_tmp (p := 4) (q := 5) rfl rfl (hW9.2 _ (.tail _ (.head _))) Tryd.underlying34 rfl (by kernel_rfl))
        · exact ⟨(xi_is (x := slt0) (by unfold findR; rw [if_pos h1, if_neg (by unfold placeB; rw [h2, h3]; decide)])), hW9.1⟩
      | true =>
        have hpl : placeB l = true := by unfold placeB; rw [h2, h3]; rfl
        have het : (((tierR ((decN l) % 100) / 2 : Nat) : Int) - 1) = (((tierR ((decN l) % 100) / 2 - 1) : Nat) : Int) := by have h9 := h3; rw [Bool.and_eq_true] at h9; have h8 := h9.2; unfold tierB at h8; simp only [Bool.and_eq_true, decide_eq_true_eq] at h8; omega
        rw [het]
        try rw [het] at hW8
        refine wp_cond_false rfl ?_
        refine wp_skip ?_
        refine (show Code.wp _ _ _ _ _ from ?_)
        refine wp_seq ?_
        refine wp_region_L (W0 := w) [(g6, .cells #[.int .i64 ((((decN l) / 10000 / 4) : Nat) : Int), .int .i64 ((((decN l) / 100 % 100) : Nat) : Int), .int .i64 (((tierR ((decN l) % 100) / 2 - 1) : Nat) : Int), .bool (tierD ((decN l) % 100)), .int .u8 (((halfN ((decN l) / 10000 % 4)) : Nat) : Int)] 111 (0, 0)), (g2, .cells #[.int .i64 0, .int .i64 0, .int .u8 0] 34 (0, 0)), (g1, .cells (shC (.slice pc cs.length cc) (.slice po os.length co) t).toArray 32 (0, 0))] (hW8) ?_
        refine lv (v := .agg (shC (.slice pc cs.length cc) (.slice po os.length co) t).toArray) rfl rfl (yb_load (n := 13) (off := 0) rfl (by kernel_rfl) (.tail _ (.tail _ (.head _))) Tryd.underlying32 rfl (by kernel_rfl) (by first | (simp [Value.cells]; done) | exact Nat.le_of_ble_eq_true rfl) (by kernel_rfl)) ?_
        refine lm (v := .pointer (some ⟨g6, 0, none⟩)) rfl rfl ?_
        refine lv (v := .int .i64 ((((decN l) / 10000 / 4) : Nat) : Int)) rfl rfl (yb_cell (off := 0) rfl (by kernel_rfl) (.head _) Tryd.underlying3 rfl (by kernel_rfl)) ?_
        refine lm (v := .pointer (some ⟨g6, 1, none⟩)) rfl rfl ?_
        refine lv (v := .int .i64 ((((decN l) / 100 % 100) : Nat) : Int)) rfl rfl (yb_cell (off := 1) rfl (by kernel_rfl) (.head _) Tryd.underlying3 rfl (by kernel_rfl)) ?_
        refine lm (v := .pointer (some ⟨g6, 3, none⟩)) rfl rfl ?_
        refine lv (v := .bool (tierD ((decN l) % 100))) rfl rfl (yb_cell (off := 3) rfl (by kernel_rfl) (.head _) Tryd.underlying4 rfl (by kernel_rfl)) ?_
        refine lv (v := .tuple #[.int .i64 (findN (findC cs l)), .bool ((findC cs l).isSome)]) rfl rfl (yb_call (f := 70) (args := #[.agg (shC (.slice pc cs.length cc) (.slice po os.length co) t).toArray, .int .i64 ((((decN l) / 10000 / 4) : Nat) : Int), .int .i64 ((((decN l) / 100 % 100) : Nat) : Int), .bool (tierD ((decN l) % 100))]) (fun _ => by kernel_rfl) fun W hW => Find_any cs pc cc (by omega) os po co (by omega) t ((((decN l) / 10000 / 4) : Nat) : Int) ((((decN l) / 100 % 100) : Nat) : Int) (tierD ((decN l) % 100)) W ((RL.base HC.out) _ (hW.sub (fun _ h => by cases h))) ((RL.base HO.out) _ (hW.sub (fun _ h => by cases h)))) ?_
        refine lm (v := .tuple #[.int .i64 (findN (findC cs l)), .bool ((findC cs l).isSome)]) rfl rfl ?_
        refine lm (v := .int .i64 (findN (findC cs l))) rfl rfl ?_
        refine lm (v := .bool ((findC cs l).isSome)) rfl rfl ?_
        refine lm (v := .int .i64 (findN (findC cs l))) rfl rfl ?_
        refine lm (v := .bool ((findC cs l).isSome)) rfl rfl ?_
        refine wpL_done (fun W10 hW10 => ?_)
        refine (show Code.wp _ _ _ _ _ from ?_)
        refine wp_seq ?_
        refine wp_seq ?_
        refine wp_region_L (W0 := w) [(g6, .cells #[.int .i64 ((((decN l) / 10000 / 4) : Nat) : Int), .int .i64 ((((decN l) / 100 % 100) : Nat) : Int), .int .i64 (((tierR ((decN l) % 100) / 2 - 1) : Nat) : Int), .bool (tierD ((decN l) % 100)), .int .u8 (((halfN ((decN l) / 10000 % 4)) : Nat) : Int)] 111 (0, 0)), (g2, .cells #[.int .i64 0, .int .i64 0, .int .u8 0] 34 (0, 0)), (g1, .cells (shC (.slice pc cs.length cc) (.slice po os.length co) t).toArray 32 (0, 0))] (hW10) ?_
        refine lm (v := .bool ((findC cs l).isSome)) rfl rfl ?_
        refine lp (v := .bool (!((findC cs l).isSome))) rfl rfl (run_un rfl (by kernel_rfl) fun w => un_not w) ?_
        refine lm (v := .bool (!((findC cs l).isSome))) rfl rfl ?_
        cases h4 : ((findC cs l).isSome) with
        | false =>
          refine ln rfl ?_
          refine ln rfl ?_
          refine ln rfl ?_
          refine ln rfl ?_
          refine ln rfl ?_
          refine ln rfl ?_
          refine lm (v := .bool true) rfl rfl ?_
          refine wpL_done (fun W11 hW11 => ?_)
          refine (show Code.wp _ _ _ _ _ from ?_)
          refine wp_cond_true rfl ?_
          refine wp_seq ?_
          refine wp_region_L (W0 := w) [(g6, .cells #[.int .i64 ((((decN l) / 10000 / 4) : Nat) : Int), .int .i64 ((((decN l) / 100 % 100) : Nat) : Int), .int .i64 (((tierR ((decN l) % 100) / 2 - 1) : Nat) : Int), .bool (tierD ((decN l) % 100)), .int .u8 (((halfN ((decN l) / 10000 % 4)) : Nat) : Int)] 111 (0, 0)), (g2, .cells #[.int .i64 0, .int .i64 0, .int .u8 0] 34 (0, 0)), (g1, .cells (shC (.slice pc cs.length cc) (.slice po os.length co) t).toArray 32 (0, 0))] (hW11) ?_
          refine lm (v := .agg #[.int .i64 0, .int .i64 0, .int .u8 0]) rfl rfl ?_
          refine wpL_s [(g6, .cells #[.int .i64 ((((decN l) / 10000 / 4) : Nat) : Int), .int .i64 ((((decN l) / 100 % 100) : Nat) : Int), .int .i64 (((tierR ((decN l) % 100) / 2 - 1) : Nat) : Int), .bool (tierD ((decN l) % 100)), .int .u8 (((halfN ((decN l) / 10000 % 4)) : Nat) : Int)] 111 (0, 0)), (g2, .cells #[.int .i64 0, .int .i64 0, .int .u8 0] 34 (0, 0)), (g1, .cells (shC (.slice pc cs.length cc) (.slice po os.length co) t).toArray 32 (0, 0))] rfl rfl (st_row (off := 0) (v := .agg #[.int .i64 0, .int .i64 0, .int .u8 0]) rfl (by kernel_rfl) (by kernel_rfl) (.tail _ (.head _)) Bg2 (by kernel_rfl) (by first | (simp [Value.cells]; done) | exact Nat.le_of_ble_eq_true rfl) (by intro v hv; simp [Value.cells] at hv; first | (subst hv; rfl) | (rcases hv with rfl | rfl | rfl <;> rfl)) (by kernel_rfl) (List.forall_mem_cons.2 ⟨.inr ⟨(.head _), (by first | assumption | exact Ne.symm (by assumption))⟩, (List.forall_mem_cons.2 ⟨.inl rfl, (List.forall_mem_cons.2 ⟨.inr ⟨(.tail _ (.tail _ (.head _))), (by first | assumption | exact Ne.symm (by assumption))⟩, (List.forall_mem_nil _)⟩)⟩)⟩)) ?_
          refine lm (v := .int .i64 6) rfl rfl ?_
          refine wpL_done (fun W12 hW12 => ?_)
          refine (show Code.wp _ _ _ _ _ from ?_)
          refine wp_ret ?_
          try simp only [inBlock_ret, then_ret]
          refine bodyPost_ret (v := .tuple #[.agg #[.int .i64 0, .int .i64 0, .int .u8 0], .int .i64 6]) ?_ rfl ?_
          · exact (res_cell_tmp (p := 4) (q := 5) rfl rfl (hW12.2 _ (.tail _ (.head _))) Tryd.underlying34 rfl (by kernel_rfl))
          · exact ⟨(xi_is (x := slt0) (by unfold findR; rw [if_pos h1, if_pos hpl, if_neg (by unfold foundB; rw [h4]; simp)])), hW12.1⟩
        | true =>
          refine lv (v := .agg (shC (.slice pc cs.length cc) (.slice po os.length co) t).toArray) rfl rfl (yb_load (n := 13) (off := 0) rfl (by kernel_rfl) (.tail _ (.tail _ (.head _))) Tryd.underlying32 rfl (by kernel_rfl) (by first | (simp [Value.cells]; done) | exact Nat.le_of_ble_eq_true rfl) (by kernel_rfl)) ?_
          refine lm (v := .int .i64 (findN (findC cs l))) rfl rfl ?_
          refine lm (v := .pointer (some ⟨g6, 2, none⟩)) rfl rfl ?_
          refine lv (v := .int .i64 (((tierR ((decN l) % 100) / 2 - 1) : Nat) : Int)) rfl rfl (yb_cell (off := 2) rfl (by kernel_rfl) (.head _) Tryd.underlying3 rfl (by kernel_rfl)) ?_
          refine lv (v := .bool (exS cs (findN (findC cs l)) (((tierR ((decN l) % 100) / 2 - 1) : Nat) : Int))) rfl rfl (yb_call (f := 45) (args := #[.agg (shC (.slice pc cs.length cc) (.slice po os.length co) t).toArray, .int .i64 (findN (findC cs l)), .int .i64 (((tierR ((decN l) % 100) / 2 - 1) : Nat) : Int)]) (fun _ => by kernel_rfl) fun W hW => exists_any cs pc cc (by omega) os po co (by omega) t (findN (findC cs l)) (((tierR ((decN l) % 100) / 2 - 1) : Nat) : Int) W ((RL.base HC.out) _ (hW.sub (fun _ h => by cases h))) ((RL.base HO.out) _ (hW.sub (fun _ h => by cases h)))) ?_
          refine lp (v := .bool (!(exS cs (findN (findC cs l)) (((tierR ((decN l) % 100) / 2 - 1) : Nat) : Int)))) rfl rfl (run_un rfl (by kernel_rfl) fun w => un_not w) ?_
          refine lm (v := .bool (!(exS cs (findN (findC cs l)) (((tierR ((decN l) % 100) / 2 - 1) : Nat) : Int)))) rfl rfl ?_
          refine wpL_done (fun W13 hW13 => ?_)
          refine (show Code.wp _ _ _ _ _ from ?_)
          cases h5 : (exS cs (findN (findC cs l)) (((tierR ((decN l) % 100) / 2 - 1) : Nat) : Int)) with
          | false =>
            refine wp_cond_true rfl ?_
            refine wp_seq ?_
            refine wp_region_L (W0 := w) [(g6, .cells #[.int .i64 ((((decN l) / 10000 / 4) : Nat) : Int), .int .i64 ((((decN l) / 100 % 100) : Nat) : Int), .int .i64 (((tierR ((decN l) % 100) / 2 - 1) : Nat) : Int), .bool (tierD ((decN l) % 100)), .int .u8 (((halfN ((decN l) / 10000 % 4)) : Nat) : Int)] 111 (0, 0)), (g2, .cells #[.int .i64 0, .int .i64 0, .int .u8 0] 34 (0, 0)), (g1, .cells (shC (.slice pc cs.length cc) (.slice po os.length co) t).toArray 32 (0, 0))] (hW13) ?_
            refine lm (v := .agg #[.int .i64 0, .int .i64 0, .int .u8 0]) rfl rfl ?_
            refine wpL_s [(g6, .cells #[.int .i64 ((((decN l) / 10000 / 4) : Nat) : Int), .int .i64 ((((decN l) / 100 % 100) : Nat) : Int), .int .i64 (((tierR ((decN l) % 100) / 2 - 1) : Nat) : Int), .bool (tierD ((decN l) % 100)), .int .u8 (((halfN ((decN l) / 10000 % 4)) : Nat) : Int)] 111 (0, 0)), (g2, .cells #[.int .i64 0, .int .i64 0, .int .u8 0] 34 (0, 0)), (g1, .cells (shC (.slice pc cs.length cc) (.slice po os.length co) t).toArray 32 (0, 0))] rfl rfl (st_row (off := 0) (v := .agg #[.int .i64 0, .int .i64 0, .int .u8 0]) rfl (by kernel_rfl) (by kernel_rfl) (.tail _ (.head _)) Bg2 (by kernel_rfl) (by first | (simp [Value.cells]; done) | exact Nat.le_of_ble_eq_true rfl) (by intro v hv; simp [Value.cells] at hv; first | (subst hv; rfl) | (rcases hv with rfl | rfl | rfl <;> rfl)) (by kernel_rfl) (List.forall_mem_cons.2 ⟨.inr ⟨(.head _), (by first | assumption | exact Ne.symm (by assumption))⟩, (List.forall_mem_cons.2 ⟨.inl rfl, (List.forall_mem_cons.2 ⟨.inr ⟨(.tail _ (.tail _ (.head _))), (by first | assumption | exact Ne.symm (by assumption))⟩, (List.forall_mem_nil _)⟩)⟩)⟩)) ?_
            refine lm (v := .int .i64 6) rfl rfl ?_
            refine wpL_done (fun W14 hW14 => ?_)
            refine (show Code.wp _ _ _ _ _ from ?_)
            refine wp_ret ?_
            try simp only [inBlock_ret, then_ret]
            refine bodyPost_ret (v := .tuple #[.agg #[.int .i64 0, .int .i64 0, .int .u8 0], .int .i64 6]) ?_ rfl ?_
            · exact (res_cell_tmp (p := 4) (q := 5) rfl rfl (hW14.2 _ (.tail _ (.head _))) Tryd.underlying34 rfl (by kernel_rfl))
            · exact ⟨(xi_is (x := slt0) (by unfold findR; rw [if_pos h1, if_pos hpl, if_neg (by unfold foundB; rw [h4, h5]; simp)])), hW14.1⟩
          | true =>
            refine wp_cond_false rfl ?_
            refine wp_skip ?_
            refine (show Code.wp _ _ _ _ _ from ?_)
            refine wp_seq ?_
            refine wp_region_L (W0 := w) [(g6, .cells #[.int .i64 ((((decN l) / 10000 / 4) : Nat) : Int), .int .i64 ((((decN l) / 100 % 100) : Nat) : Int), .int .i64 (((tierR ((decN l) % 100) / 2 - 1) : Nat) : Int), .bool (tierD ((decN l) % 100)), .int .u8 (((halfN ((decN l) / 10000 % 4)) : Nat) : Int)] 111 (0, 0)), (g2, .cells #[.int .i64 0, .int .i64 0, .int .u8 0] 34 (0, 0)), (g1, .cells (shC (.slice pc cs.length cc) (.slice po os.length co) t).toArray 32 (0, 0))] (hW13) ?_
            refine lm (v := .int .i64 (findN (findC cs l))) rfl rfl ?_
            refine lm (v := .pointer (some ⟨g6, 2, none⟩)) rfl rfl ?_
            refine lv (v := .int .i64 (((tierR ((decN l) % 100) / 2 - 1) : Nat) : Int)) rfl rfl (yb_cell (off := 2) rfl (by kernel_rfl) (.head _) Tryd.underlying3 rfl (by kernel_rfl)) ?_
            refine lm (v := .pointer (some ⟨g6, 4, none⟩)) rfl rfl ?_
            refine lv (v := .int .u8 (((halfN ((decN l) / 10000 % 4)) : Nat) : Int)) rfl rfl (yb_cell (off := 4) rfl (by kernel_rfl) (.head _) Tryd.underlying5 rfl (by kernel_rfl)) ?_
            refine lm (v := .agg #[.int .i64 (findN (findC cs l)), .int .i64 (((tierR ((decN l) % 100) / 2 - 1) : Nat) : Int), .int .u8 (((halfN ((decN l) / 10000 % 4)) : Nat) : Int)]) rfl rfl ?_
            refine wpL_s [(g6, .cells #[.int .i64 ((((decN l) / 10000 / 4) : Nat) : Int), .int .i64 ((((decN l) / 100 % 100) : Nat) : Int), .int .i64 (((tierR ((decN l) % 100) / 2 - 1) : Nat) : Int), .bool (tierD ((decN l) % 100)), .int .u8 (((halfN ((decN l) / 10000 % 4)) : Nat) : Int)] 111 (0, 0)), (g2, .cells #[.int .i64 (findN (findC cs l)), .int .i64 (((tierR ((decN l) % 100) / 2 - 1) : Nat) : Int), .int .u8 (((halfN ((decN l) / 10000 % 4)) : Nat) : Int)] 34 (0, 0)), (g1, .cells (shC (.slice pc cs.length cc) (.slice po os.length co) t).toArray 32 (0, 0))] rfl rfl (st_row (off := 0) (v := .agg #[.int .i64 (findN (findC cs l)), .int .i64 (((tierR ((decN l) % 100) / 2 - 1) : Nat) : Int), .int .u8 (((halfN ((decN l) / 10000 % 4)) : Nat) : Int)]) rfl (by kernel_rfl) (by kernel_rfl) (.tail _ (.head _)) Bg2 (by kernel_rfl) (by first | (simp [Value.cells]; done) | exact Nat.le_of_ble_eq_true rfl) (by intro v hv; simp [Value.cells] at hv; first | (subst hv; rfl) | (rcases hv with rfl | rfl | rfl <;> rfl)) (by kernel_rfl) (List.forall_mem_cons.2 ⟨.inr ⟨(.head _), (by first | assumption | exact Ne.symm (by assumption))⟩, (List.forall_mem_cons.2 ⟨.inl rfl, (List.forall_mem_cons.2 ⟨.inr ⟨(.tail _ (.tail _ (.head _))), (by first | assumption | exact Ne.symm (by assumption))⟩, (List.forall_mem_nil _)⟩)⟩)⟩)) ?_
            refine lm (v := .int .i64 0) rfl rfl ?_
            refine wpL_done (fun W15 hW15 => ?_)
            refine (show Code.wp _ _ _ _ _ from ?_)
            refine wp_ret ?_
            try simp only [inBlock_ret, then_ret]
            refine bodyPost_ret (v := .tuple #[.agg #[.int .i64 (findN (findC cs l)), .int .i64 (((tierR ((decN l) % 100) / 2 - 1) : Nat) : Int), .int .u8 (((halfN ((decN l) / 10000 % 4)) : Nat) : Int)], .int .i64 0]) ?_ rfl ?_
            · exact (res_cell_tmp (p := 4) (q := 5) rfl rfl (hW15.2 _ (.tail _ (.head _))) Tryd.underlying34 rfl (by kernel_rfl))
            · exact ⟨(xi_is (x := slotOf cs l) (by unfold findR; rw [if_pos h1, if_pos hpl, if_pos (by unfold foundB; rw [h4, h5]; rfl)])), hW15.1⟩
end Go.Proofs.YthpooalhibedpaaDoor
namespace Go.Proofs.YthpooalhibedpaaDoor
open Go Go.RowKit Tw
theorem slv_pre8 {W : World} {p : Option Addr} {xs ys : List Value} (h : SLV W p (xs ++ ys)) : SLV W p xs := by
  rcases h with h | ⟨g, off, hp, hlt, hc⟩
  · left
    first | exact (List.append_eq_nil_iff.1 h).1 | exact h
  · exact .inr ⟨g, off, hp, hlt, fun j v hv => hc j v (by rw [List.getElem?_append_left (List.getElem?_eq_some_iff.1 hv).1]; exact hv)⟩
set_option maxRecDepth 100000 in
set_option maxHeartbeats 4000000 in
theorem at_any (c t : Int) (h : Nat) (w : World) : Calls Tryd.prog 38 #[.int .i64 c, .int .i64 t, .int .u8 ((h : Nat) : Int)] w fun e w' => e = .returned (.agg (sltC ⟨c, t, h⟩).toArray) ∧ Below w.heap.size w w' := by
  go_enter Tryd.func38, Tryd.ntmps38
  refine wp_seq ?_
  refine wp_region_L (W0 := w) [] (KS.start w) ?_
  refine wpL_new (fun g => .pointer (some ⟨g, 0, none⟩)) (obi := .cells #[.int .i64 0, .int .i64 0, .int .u8 0] 34 (0, 0)) rfl rfl (fun _ => by kernel_rfl) (fun _ => by simp only [List.setIfInBounds_toArray, List.set_cons_succ, List.set_cons_zero] <;> rfl) fun g1 Bg1 Fg1 => ?_
  refine wpL_done (fun W1 hW1 => ?_)
  refine (show Code.wp _ _ _ _ _ from ?_)
  refine wp_seq ?_
  refine wp_region_L (W0 := w) [(g1, .cells #[.int .i64 0, .int .i64 0, .int .u8 0] 34 (0, 0))] (hW1) ?_
  refine lm (v := .int .i64 c) rfl rfl ?_
  refine lm (v := .int .i64 t) rfl rfl ?_
  refine lm (v := .int .u8 ((h : Nat) : Int)) rfl rfl ?_
  refine lm (v := .agg #[.int .i64 c, .int .i64 t, .int .u8 ((h : Nat) : Int)]) rfl rfl ?_
  refine wpL_s [(g1, .cells #[.int .i64 c, .int .i64 t, .int .u8 ((h : Nat) : Int)] 34 (0, 0))] rfl rfl (st_row (off := 0) (v := .agg #[.int .i64 c, .int .i64 t, .int .u8 ((h : Nat) : Int)]) rfl (by kernel_rfl) (by kernel_rfl) (.head _) Bg1 (by kernel_rfl) (by first | (simp [Value.cells]; done) | exact Nat.le_of_ble_eq_true rfl) (by intro v hv; simp [Value.cells] at hv; first | (subst hv; rfl) | (rcases hv with rfl | rfl | rfl <;> rfl)) (by kernel_rfl) (List.forall_mem_cons.2 ⟨.inl rfl, (List.forall_mem_nil _)⟩)) ?_
  refine wpL_done (fun W2 hW2 => ?_)
  refine (show Code.wp _ _ _ _ _ from ?_)
  refine wp_ret ?_
  try simp only [inBlock_ret, then_ret]
  refine bodyPost_ret (v := .agg #[.int .i64 c, .int .i64 t, .int .u8 ((h : Nat) : Int)]) ?_ rfl ?_
  · exact (res_cell (p := 6) rfl rfl (hW2.2 _ (.head _)) Tryd.underlying34 rfl (by kernel_rfl))
  · exact ⟨rfl, hW2.1⟩
set_option maxRecDepth 100000 in
set_option maxHeartbeats 4000000 in
theorem awake8_any (w : World) (hE : Env w) : Calls Tryd.prog 11 #[] w fun e w' => e = .returned (.bool true) ∧ Below w.heap.size w w' := by
  have HE := Lib.hid hE
  clear hE
  go_enter Tryd.func11, Tryd.ntmps11
  refine wp_seq ?_
  refine wp_region_L (W0 := w) [] (KS.start w) ?_
  refine lm (v := .bool false) rfl rfl ?_
  refine wpL_done (fun W1 hW1 => ?_)
  refine (show Code.wp _ _ _ _ _ from ?_)
  refine wp_seq ?_
  refine wp_region_L (W0 := w) [] (hW1) ?_
  refine wpL_c (f := 37) (args := #[]) (ShipT w exCs [(0, [0, 1])]) rfl (by kernel_rfl) (fun _ => (by kernel_rfl)) (fun W hW => (Example_any W hW).mono fun _ _ ⟨v, T, he, hk, hs⟩ => ⟨v, T, he, hk, hs⟩) (fun _ => by simp only [List.setIfInBounds_toArray, List.set_cons_succ, List.set_cons_zero] <;> rfl) ?_
  rintro _ TS ⟨pcS, ccS, osS, poS, coS, rfl, hccS, hcoS, hCS, hOS, hRS, hMS⟩
  refine wpL_rebase fun WB hWB => ?_
  have HCS := Lib.hid (hCS WB hWB)
  have HOS := Lib.hid (hOS WB hWB)
  have HRS := Lib.hid (hRS WB hWB)
  clear hCS hOS hRS
  obtain ⟨rp, rc, rfl⟩ := one_cov hMS
  have lrS : ∀ o ∈ [(⟨0, [0, 1], rp, rc⟩ : Cov)], o.rows.length ≤ 4000000000 := fun o ho => by cases List.mem_singleton.1 ho; exact Nat.le_of_ble_eq_true rfl
  have HPS := Lib.hid (show PlR WB exCs from plr_nil (by decide))
  have lpS : ∀ c ∈ exCs, c.plugs.length ≤ 4000000000 := by decide
  refine wpL_new (fun g => .pointer (some ⟨g, 0, none⟩)) (obi := .cells (shC (.slice none 0 0) (.slice none 0 0) tl0).toArray 32 (0, 0)) rfl rfl (fun _ => by kernel_rfl) (fun _ => by simp only [List.setIfInBounds_toArray, List.set_cons_succ, List.set_cons_zero] <;> rfl) fun g1 Bg1 Fg1 => ?_
  refine wpL_s [(g1, .cells (shC (.slice pcS exCs.length ccS) (.slice poS ([(⟨0, [0, 1], rp, rc⟩ : Cov)].length) coS) tl0).toArray 32 (0, 0))] rfl rfl (st_row (off := 0) (v := .agg (shC (.slice pcS exCs.length ccS) (.slice poS ([(⟨0, [0, 1], rp, rc⟩ : Cov)].length) coS) tl0).toArray) rfl (by kernel_rfl) (by kernel_rfl) (.head _) Bg1 (by kernel_rfl) (by first | (simp [Value.cells]; done) | exact Nat.le_of_ble_eq_true rfl) (fun v hv => shC_one v hv) (by kernel_rfl) (List.forall_mem_cons.2 ⟨.inl rfl, (List.forall_mem_nil _)⟩)) ?_
  refine wpL_done (fun W2 hW2 => ?_)
  refine (show Code.wp _ _ _ _ _ from ?_)
  refine wp_seq ?_
  refine wp_region_V (W0 := WB) [(g1, .cells (shC (.slice pcS exCs.length ccS) (.slice poS ([(⟨0, [0, 1], rp, rc⟩ : Cov)].length) coS) tl0).toArray 32 (0, 0))] (by kernel_rfl) (hW2) ?_
  refine vv (i := 0) (v := .agg (shC (.slice pcS exCs.length ccS) (.slice poS ([(⟨0, [0, 1], rp, rc⟩ : Cov)].length) coS) tl0).toArray) rfl rfl rfl (yb_load (n := 13) (off := 0) rfl (by kernel_rfl) (.head _) Tryd.underlying32 rfl (by kernel_rfl) (by first | (simp [Value.cells]; done) | exact Nat.le_of_ble_eq_true rfl) (by kernel_rfl)) ?_
  refine vv (i := 1) (v := .agg #[.int .i64 1, .int .i64 0, .int .u8 2]) rfl rfl rfl (yb_call (f := 38) (args := #[.int .i64 1, .int .i64 0, .int .u8 2]) (fun _ => by kernel_rfl) fun W hW => at_any 1 0 2 W) ?_
  refine vv (i := 2) (v := .tuple #[strV [48, 48, 51, 48, 49, 48, 50], .int .i64 0]) rfl rfl rfl (yb_call (f := 29) (args := #[.agg (shC (.slice pcS exCs.length ccS) (.slice poS ([(⟨0, [0, 1], rp, rc⟩ : Cov)].length) coS) tl0).toArray, .agg #[.int .i64 1, .int .i64 0, .int .u8 2]]) (fun _ => by kernel_rfl) fun W hW => (by have h9 := SName_any exCs pcS ccS (by decide) [(⟨0, [0, 1], rp, rc⟩ : Cov)] poS coS (Nat.le_of_ble_eq_true rfl) tl0 1 0 2 W ((RL.base HCS.out) _ (hW.sub (fun _ h => by cases h))) ((RL.base HOS.out) _ (hW.sub (fun _ h => by cases h))) (HRS.out.keep hW.1) lrS (HPS.out.keep hW.1) lpS (HE.out.keep (hWB.1.trans (hW.1.mono hWB.1.size))); rw [show nameR exCs [(⟨0, [0, 1], rp, rc⟩ : Cov)] (⟨1, 0, 2⟩ : Slt) = ([48, 48, 51, 48, 49, 48, 50], 0) from by kernel_rfl] at h9; exact h9)) ?_
  refine vm (i := 3) (v := .tuple #[strV [48, 48, 51, 48, 49, 48, 50], .int .i64 0]) rfl rfl rfl ?_
  refine vm (i := 4) (v := strV [48, 48, 51, 48, 49, 48, 50]) rfl rfl rfl ?_
  refine vm (i := 5) (v := .int .i64 0) rfl rfl rfl ?_
  refine vm (i := 6) (v := strV [48, 48, 51, 48, 49, 48, 50]) rfl rfl rfl ?_
  refine vm (i := 7) (v := .int .i64 0) rfl rfl rfl ?_
  refine wpV_done (by kernel_rfl) (fun W3 hW3 => ?_) _
  refine (show Code.wp _ _ _ _ _ from ?_)
  refine wp_seq ?_
  refine wp_region_V (W0 := WB) [(g1, .cells (shC (.slice pcS exCs.length ccS) (.slice poS ([(⟨0, [0, 1], rp, rc⟩ : Cov)].length) coS) tl0).toArray 32 (0, 0))] (by kernel_rfl) (hW3) ?_
  refine vv (i := 0) (v := .agg (shC (.slice pcS exCs.length ccS) (.slice poS ([(⟨0, [0, 1], rp, rc⟩ : Cov)].length) coS) tl0).toArray) rfl rfl rfl (yb_load (n := 13) (off := 0) rfl (by kernel_rfl) (.head _) Tryd.underlying32 rfl (by kernel_rfl) (by first | (simp [Value.cells]; done) | exact Nat.le_of_ble_eq_true rfl) (by kernel_rfl)) ?_
  refine vv (i := 1) (v := .agg #[.int .i64 4, .int .i64 3, .int .u8 0]) rfl rfl rfl (yb_call (f := 38) (args := #[.int .i64 4, .int .i64 3, .int .u8 0]) (fun _ => by kernel_rfl) fun W hW => at_any 4 3 0 W) ?_
  refine vv (i := 2) (v := .tuple #[strV [48, 48, 54, 48, 49, 56, 56], .int .i64 0]) rfl rfl rfl (yb_call (f := 29) (args := #[.agg (shC (.slice pcS exCs.length ccS) (.slice poS ([(⟨0, [0, 1], rp, rc⟩ : Cov)].length) coS) tl0).toArray, .agg #[.int .i64 4, .int .i64 3, .int .u8 0]]) (fun _ => by kernel_rfl) fun W hW => (by have h9 := SName_any exCs pcS ccS (by decide) [(⟨0, [0, 1], rp, rc⟩ : Cov)] poS coS (Nat.le_of_ble_eq_true rfl) tl0 4 3 0 W ((RL.base HCS.out) _ (hW.sub (fun _ h => by cases h))) ((RL.base HOS.out) _ (hW.sub (fun _ h => by cases h))) (HRS.out.keep hW.1) lrS (HPS.out.keep hW.1) lpS (HE.out.keep (hWB.1.trans (hW.1.mono hWB.1.size))); rw [show nameR exCs [(⟨0, [0, 1], rp, rc⟩ : Cov)] (⟨4, 3, 0⟩ : Slt) = ([48, 48, 54, 48, 49, 56, 56], 0) from by kernel_rfl] at h9; exact h9)) ?_
  refine vm (i := 3) (v := .tuple #[strV [48, 48, 54, 48, 49, 56, 56], .int .i64 0]) rfl rfl rfl ?_
  refine vm (i := 4) (v := strV [48, 48, 54, 48, 49, 56, 56]) rfl rfl rfl ?_
  refine vm (i := 5) (v := .int .i64 0) rfl rfl rfl ?_
  refine vm (i := 6) (v := strV [48, 48, 54, 48, 49, 56, 56]) rfl rfl rfl ?_
  refine vm (i := 7) (v := .int .i64 0) rfl rfl rfl ?_
  refine wpV_done (by kernel_rfl) (fun W4 hW4 => ?_) _
  refine (show Code.wp _ _ _ _ _ from ?_)
  refine wp_seq ?_
  refine wp_region_L (W0 := WB) [(g1, .cells (shC (.slice pcS exCs.length ccS) (.slice poS ([(⟨0, [0, 1], rp, rc⟩ : Cov)].length) coS) tl0).toArray 32 (0, 0))] (hW4) ?_
  refine lv (v := .agg (shC (.slice pcS exCs.length ccS) (.slice poS ([(⟨0, [0, 1], rp, rc⟩ : Cov)].length) coS) tl0).toArray) rfl rfl (yb_load (n := 13) (off := 0) rfl (by kernel_rfl) (.head _) Tryd.underlying32 rfl (by kernel_rfl) (by first | (simp [Value.cells]; done) | exact Nat.le_of_ble_eq_true rfl) (by kernel_rfl)) ?_
  refine lv (v := .tuple #[.agg #[.int .i64 4, .int .i64 3, .int .u8 0], .int .i64 0]) rfl rfl (yb_call (f := 31) (args := #[.agg (shC (.slice pcS exCs.length ccS) (.slice poS ([(⟨0, [0, 1], rp, rc⟩ : Cov)].length) coS) tl0).toArray, strV [48, 48, 54, 48, 49, 56, 56]]) (fun _ => by kernel_rfl) fun W hW => (by have h9 := SFind_any exCs pcS ccS (by decide) [(⟨0, [0, 1], rp, rc⟩ : Cov)] poS coS (Nat.le_of_ble_eq_true rfl) tl0 [48, 48, 54, 48, 49, 56, 56] (Nat.le_of_ble_eq_true rfl) W ((RL.base HCS.out) _ (hW.sub (fun _ h => by cases h))) ((RL.base HOS.out) _ (hW.sub (fun _ h => by cases h))) (HRS.out.keep hW.1) lrS (HPS.out.keep hW.1) lpS (HE.out.keep (hWB.1.trans (hW.1.mono hWB.1.size))); rw [show findR exCs [(⟨0, [0, 1], rp, rc⟩ : Cov)] [48, 48, 54, 48, 49, 56, 56] = (⟨4, 3, 0⟩, 0) from by kernel_rfl] at h9; exact h9)) ?_
  refine lm (v := .tuple #[.agg #[.int .i64 4, .int .i64 3, .int .u8 0], .int .i64 0]) rfl rfl ?_
  refine lm (v := .agg #[.int .i64 4, .int .i64 3, .int .u8 0]) rfl rfl ?_
  refine lm (v := .int .i64 0) rfl rfl ?_
  refine wpL_new (fun g => .pointer (some ⟨g, 0, none⟩)) (obi := .cells #[.int .i64 0, .int .i64 0, .int .u8 0] 34 (0, 0)) rfl rfl (fun _ => by kernel_rfl) (fun _ => by simp only [List.setIfInBounds_toArray, List.set_cons_succ, List.set_cons_zero] <;> rfl) fun g2 Bg2 Fg2 => ?_
  obtain dj3_0 : g1 ≠ g2 := by simpa only [dj_app_l, dj_app_r, dj_cons_l, dj_cons_r, dj_nil_l, dj_nil_r, dk_app, dk_cons, dk_nil, and_true, true_and, and_assoc] using (show Dk g2 [(g1, .cells (shC (.slice pcS exCs.length ccS) (.slice poS ([(⟨0, [0, 1], rp, rc⟩ : Cov)].length) coS) tl0).toArray 32 (0, 0))] from Fg2)
  refine wpL_s [(g2, .cells #[.int .i64 4, .int .i64 3, .int .u8 0] 34 (0, 0)), (g1, .cells (shC (.slice pcS exCs.length ccS) (.slice poS ([(⟨0, [0, 1], rp, rc⟩ : Cov)].length) coS) tl0).toArray 32 (0, 0))] rfl rfl (st_row (off := 0) (v := .agg #[.int .i64 4, .int .i64 3, .int .u8 0]) rfl (by kernel_rfl) (by kernel_rfl) (.head _) Bg2 (by kernel_rfl) (by first | (simp [Value.cells]; done) | exact Nat.le_of_ble_eq_true rfl) (by intro v hv; simp [Value.cells] at hv; first | (subst hv; rfl) | (rcases hv with rfl | rfl | rfl <;> rfl)) (by kernel_rfl) (List.forall_mem_cons.2 ⟨.inl rfl, (List.forall_mem_cons.2 ⟨.inr ⟨(.tail _ (.head _)), (by first | assumption | exact Ne.symm (by assumption))⟩, (List.forall_mem_nil _)⟩)⟩)) ?_
  refine lm (v := .int .i64 0) rfl rfl ?_
  refine wpL_done (fun W5 hW5 => ?_)
  refine (show Code.wp _ _ _ _ _ from ?_)
  refine wp_seq ?_
  refine wp_region_L (W0 := WB) [(g2, .cells #[.int .i64 4, .int .i64 3, .int .u8 0] 34 (0, 0)), (g1, .cells (shC (.slice pcS exCs.length ccS) (.slice poS ([(⟨0, [0, 1], rp, rc⟩ : Cov)].length) coS) tl0).toArray 32 (0, 0))] (hW5) ?_
  refine lv (v := .agg (shC (.slice pcS exCs.length ccS) (.slice poS ([(⟨0, [0, 1], rp, rc⟩ : Cov)].length) coS) tl0).toArray) rfl rfl (yb_load (n := 13) (off := 0) rfl (by kernel_rfl) (.tail _ (.head _)) Tryd.underlying32 rfl (by kernel_rfl) (by first | (simp [Value.cells]; done) | exact Nat.le_of_ble_eq_true rfl) (by kernel_rfl)) ?_
  refine lv (v := .tuple #[.agg #[.int .i64 0, .int .i64 0, .int .u8 0], .int .i64 6]) rfl rfl (yb_call (f := 31) (args := #[.agg (shC (.slice pcS exCs.length ccS) (.slice poS ([(⟨0, [0, 1], rp, rc⟩ : Cov)].length) coS) tl0).toArray, strV [48, 48, 54, 48, 49, 57, 48]]) (fun _ => by kernel_rfl) fun W hW => (by have h9 := SFind_any exCs pcS ccS (by decide) [(⟨0, [0, 1], rp, rc⟩ : Cov)] poS coS (Nat.le_of_ble_eq_true rfl) tl0 [48, 48, 54, 48, 49, 57, 48] (Nat.le_of_ble_eq_true rfl) W ((RL.base HCS.out) _ (hW.sub (fun _ h => by cases h))) ((RL.base HOS.out) _ (hW.sub (fun _ h => by cases h))) (HRS.out.keep hW.1) lrS (HPS.out.keep hW.1) lpS (HE.out.keep (hWB.1.trans (hW.1.mono hWB.1.size))); rw [show findR exCs [(⟨0, [0, 1], rp, rc⟩ : Cov)] [48, 48, 54, 48, 49, 57, 48] = (⟨0, 0, 0⟩, 6) from by kernel_rfl] at h9; exact h9)) ?_
  refine lm (v := .tuple #[.agg #[.int .i64 0, .int .i64 0, .int .u8 0], .int .i64 6]) rfl rfl ?_
  refine lm (v := .agg #[.int .i64 0, .int .i64 0, .int .u8 0]) rfl rfl ?_
  refine lm (v := .int .i64 6) rfl rfl ?_
  refine wpL_new (fun g => .pointer (some ⟨g, 0, none⟩)) (obi := .cells #[.int .i64 0, .int .i64 0, .int .u8 0] 34 (0, 0)) rfl rfl (fun _ => by kernel_rfl) (fun _ => by simp only [List.setIfInBounds_toArray, List.set_cons_succ, List.set_cons_zero] <;> rfl) fun g4 Bg4 Fg4 => ?_
  obtain ⟨dj5_0, dj5_1⟩ : g2 ≠ g4 ∧ g1 ≠ g4 := by simpa only [dj_app_l, dj_app_r, dj_cons_l, dj_cons_r, dj_nil_l, dj_nil_r, dk_app, dk_cons, dk_nil, and_true, true_and, and_assoc] using (show Dk g4 [(g2, .cells #[.int .i64 4, .int .i64 3, .int .u8 0] 34 (0, 0)), (g1, .cells (shC (.slice pcS exCs.length ccS) (.slice poS ([(⟨0, [0, 1], rp, rc⟩ : Cov)].length) coS) tl0).toArray 32 (0, 0))] from Fg4)
  refine wpL_s [(g4, .cells #[.int .i64 0, .int .i64 0, .int .u8 0] 34 (0, 0)), (g2, .cells #[.int .i64 4, .int .i64 3, .int .u8 0] 34 (0, 0)), (g1, .cells (shC (.slice pcS exCs.length ccS) (.slice poS ([(⟨0, [0, 1], rp, rc⟩ : Cov)].length) coS) tl0).toArray 32 (0, 0))] rfl rfl (st_row (off := 0) (v := .agg #[.int .i64 0, .int .i64 0, .int .u8 0]) rfl (by kernel_rfl) (by kernel_rfl) (.head _) Bg4 (by kernel_rfl) (by first | (simp [Value.cells]; done) | exact Nat.le_of_ble_eq_true rfl) (by intro v hv; simp [Value.cells] at hv; first | (subst hv; rfl) | (rcases hv with rfl | rfl | rfl <;> rfl)) (by kernel_rfl) (List.forall_mem_cons.2 ⟨.inl rfl, (List.forall_mem_cons.2 ⟨.inr ⟨(.tail _ (.head _)), (by first | assumption | exact Ne.symm (by assumption))⟩, (List.forall_mem_cons.2 ⟨.inr ⟨(.tail _ (.tail _ (.head _))), (by first | assumption | exact Ne.symm (by assumption))⟩, (List.forall_mem_nil _)⟩)⟩)⟩)) ?_
  refine lm (v := .int .i64 6) rfl rfl ?_
  refine wpL_done (fun W6 hW6 => ?_)
  refine (show Code.wp _ _ _ _ _ from ?_)
  refine wp_seq ?_
  refine wp_region_L (W0 := WB) [(g4, .cells #[.int .i64 0, .int .i64 0, .int .u8 0] 34 (0, 0)), (g2, .cells #[.int .i64 4, .int .i64 3, .int .u8 0] 34 (0, 0)), (g1, .cells (shC (.slice pcS exCs.length ccS) (.slice poS ([(⟨0, [0, 1], rp, rc⟩ : Cov)].length) coS) tl0).toArray 32 (0, 0))] (hW6) ?_
  refine lv (v := .agg (shC (.slice pcS exCs.length ccS) (.slice poS ([(⟨0, [0, 1], rp, rc⟩ : Cov)].length) coS) tl0).toArray) rfl rfl (yb_load (n := 13) (off := 0) rfl (by kernel_rfl) (.tail _ (.tail _ (.head _))) Tryd.underlying32 rfl (by kernel_rfl) (by first | (simp [Value.cells]; done) | exact Nat.le_of_ble_eq_true rfl) (by kernel_rfl)) ?_
  refine lv (v := .tuple #[.agg #[.int .i64 0, .int .i64 0, .int .u8 0], .int .i64 80]) rfl rfl (yb_call (f := 31) (args := #[.agg (shC (.slice pcS exCs.length ccS) (.slice poS ([(⟨0, [0, 1], rp, rc⟩ : Cov)].length) coS) tl0).toArray, strV [48, 48, 54, 48, 49, 56, 55]]) (fun _ => by kernel_rfl) fun W hW => (by have h9 := SFind_any exCs pcS ccS (by decide) [(⟨0, [0, 1], rp, rc⟩ : Cov)] poS coS (Nat.le_of_ble_eq_true rfl) tl0 [48, 48, 54, 48, 49, 56, 55] (Nat.le_of_ble_eq_true rfl) W ((RL.base HCS.out) _ (hW.sub (fun _ h => by cases h))) ((RL.base HOS.out) _ (hW.sub (fun _ h => by cases h))) (HRS.out.keep hW.1) lrS (HPS.out.keep hW.1) lpS (HE.out.keep (hWB.1.trans (hW.1.mono hWB.1.size))); rw [show findR exCs [(⟨0, [0, 1], rp, rc⟩ : Cov)] [48, 48, 54, 48, 49, 56, 55] = (⟨0, 0, 0⟩, 80) from by kernel_rfl] at h9; exact h9)) ?_
  refine lm (v := .tuple #[.agg #[.int .i64 0, .int .i64 0, .int .u8 0], .int .i64 80]) rfl rfl ?_
  refine lm (v := .agg #[.int .i64 0, .int .i64 0, .int .u8 0]) rfl rfl ?_
  refine lm (v := .int .i64 80) rfl rfl ?_
  refine wpL_new (fun g => .pointer (some ⟨g, 0, none⟩)) (obi := .cells #[.int .i64 0, .int .i64 0, .int .u8 0] 34 (0, 0)) rfl rfl (fun _ => by kernel_rfl) (fun _ => by simp only [List.setIfInBounds_toArray, List.set_cons_succ, List.set_cons_zero] <;> rfl) fun g6 Bg6 Fg6 => ?_
  obtain ⟨dj7_0, dj7_1, dj7_2⟩ : g4 ≠ g6 ∧ g2 ≠ g6 ∧ g1 ≠ g6 := by simpa only [dj_app_l, dj_app_r, dj_cons_l, dj_cons_r, dj_nil_l, dj_nil_r, dk_app, dk_cons, dk_nil, and_true, true_and, and_assoc] using (show Dk g6 [(g4, .cells #[.int .i64 0, .int .i64 0, .int .u8 0] 34 (0, 0)), (g2, .cells #[.int .i64 4, .int .i64 3, .int .u8 0] 34 (0, 0)), (g1, .cells (shC (.slice pcS exCs.length ccS) (.slice poS ([(⟨0, [0, 1], rp, rc⟩ : Cov)].length) coS) tl0).toArray 32 (0, 0))] from Fg6)
  refine wpL_s [(g6, .cells #[.int .i64 0, .int .i64 0, .int .u8 0] 34 (0, 0)), (g4, .cells #[.int .i64 0, .int .i64 0, .int .u8 0] 34 (0, 0)), (g2, .cells #[.int .i64 4, .int .i64 3, .int .u8 0] 34 (0, 0)), (g1, .cells (shC (.slice pcS exCs.length ccS) (.slice poS ([(⟨0, [0, 1], rp, rc⟩ : Cov)].length) coS) tl0).toArray 32 (0, 0))] rfl rfl (st_row (off := 0) (v := .agg #[.int .i64 0, .int .i64 0, .int .u8 0]) rfl (by kernel_rfl) (by kernel_rfl) (.head _) Bg6 (by kernel_rfl) (by first | (simp [Value.cells]; done) | exact Nat.le_of_ble_eq_true rfl) (by intro v hv; simp [Value.cells] at hv; first | (subst hv; rfl) | (rcases hv with rfl | rfl | rfl <;> rfl)) (by kernel_rfl) (List.forall_mem_cons.2 ⟨.inl rfl, (List.forall_mem_cons.2 ⟨.inr ⟨(.tail _ (.head _)), (by first | assumption | exact Ne.symm (by assumption))⟩, (List.forall_mem_cons.2 ⟨.inr ⟨(.tail _ (.tail _ (.head _))), (by first | assumption | exact Ne.symm (by assumption))⟩, (List.forall_mem_cons.2 ⟨.inr ⟨(.tail _ (.tail _ (.tail _ (.head _)))), (by first | assumption | exact Ne.symm (by assumption))⟩, (List.forall_mem_nil _)⟩)⟩)⟩)⟩)) ?_
  refine lm (v := .int .i64 80) rfl rfl ?_
  refine wpL_done (fun W7 hW7 => ?_)
  refine (show Code.wp _ _ _ _ _ from ?_)
  refine wp_seq ?_
  refine wp_region_L (W0 := WB) [(g6, .cells #[.int .i64 0, .int .i64 0, .int .u8 0] 34 (0, 0)), (g4, .cells #[.int .i64 0, .int .i64 0, .int .u8 0] 34 (0, 0)), (g2, .cells #[.int .i64 4, .int .i64 3, .int .u8 0] 34 (0, 0)), (g1, .cells (shC (.slice pcS exCs.length ccS) (.slice poS ([(⟨0, [0, 1], rp, rc⟩ : Cov)].length) coS) tl0).toArray 32 (0, 0))] (hW7) ?_
  refine lv (v := .agg #[.int .i64 0, .int .i64 0, .int .u8 1]) rfl rfl (yb_call (f := 38) (args := #[.int .i64 0, .int .i64 0, .int .u8 1]) (fun _ => by kernel_rfl) fun W hW => at_any 0 0 1 W) ?_
  refine lv (v := .agg #[.int .i64 0, .int .i64 0, .int .u8 2]) rfl rfl (yb_call (f := 38) (args := #[.int .i64 0, .int .i64 0, .int .u8 2]) (fun _ => by kernel_rfl) fun W hW => at_any 0 0 2 W) ?_
  refine wpL_new (fun g => .slice (some ⟨g, 0, none⟩) 2 2) (obi := .cells #[.int .i64 0, .int .i64 0, .int .u8 1, .int .i64 0, .int .i64 0, .int .u8 2] 34 (0, 0)) rfl rfl (fun _ => by kernel_rfl) (fun _ => by simp only [List.setIfInBounds_toArray, List.set_cons_succ, List.set_cons_zero] <;> rfl) fun g8 Bg8 Fg8 => ?_
  obtain ⟨dj9_0, dj9_1, dj9_2, dj9_3⟩ : g6 ≠ g8 ∧ g4 ≠ g8 ∧ g2 ≠ g8 ∧ g1 ≠ g8 := by simpa only [dj_app_l, dj_app_r, dj_cons_l, dj_cons_r, dj_nil_l, dj_nil_r, dk_app, dk_cons, dk_nil, and_true, true_and, and_assoc] using (show Dk g8 [(g6, .cells #[.int .i64 0, .int .i64 0, .int .u8 0] 34 (0, 0)), (g4, .cells #[.int .i64 0, .int .i64 0, .int .u8 0] 34 (0, 0)), (g2, .cells #[.int .i64 4, .int .i64 3, .int .u8 0] 34 (0, 0)), (g1, .cells (shC (.slice pcS exCs.length ccS) (.slice poS ([(⟨0, [0, 1], rp, rc⟩ : Cov)].length) coS) tl0).toArray 32 (0, 0))] from Fg8)
  refine lm (v := .slice (some ⟨g8, 0, none⟩) 2 2) rfl rfl ?_
  refine wpL_done (fun W8 hW8 => ?_)
  refine (show Code.wp _ _ _ _ _ from ?_)
  refine wp_seq ?_
  refine wp_region_V (W0 := WB) [(g8, .cells #[.int .i64 0, .int .i64 0, .int .u8 1, .int .i64 0, .int .i64 0, .int .u8 2] 34 (0, 0)), (g6, .cells #[.int .i64 0, .int .i64 0, .int .u8 0] 34 (0, 0)), (g4, .cells #[.int .i64 0, .int .i64 0, .int .u8 0] 34 (0, 0)), (g2, .cells #[.int .i64 4, .int .i64 3, .int .u8 0] 34 (0, 0)), (g1, .cells (shC (.slice pcS exCs.length ccS) (.slice poS ([(⟨0, [0, 1], rp, rc⟩ : Cov)].length) coS) tl0).toArray 32 (0, 0))] (by kernel_rfl) (hW8) ?_
  refine vm (i := 0) (v := strV [48, 48, 51, 48, 49, 48, 50]) rfl rfl rfl ?_
  refine vp (i := 1) (v := .bool true) rfl rfl rfl (run_bin rfl (vx := strV [48, 48, 51, 48, 49, 48, 50]) (vy := strV [48, 48, 51, 48, 49, 48, 50]) (by kernel_rfl) (by kernel_rfl) fun w => bs_eql (decide_eq_true rfl) w) ?_
  refine vm (i := 2) (v := .bool true) rfl rfl rfl ?_
  refine vm (i := 3) (v := strV [48, 48, 54, 48, 49, 56, 56]) rfl rfl rfl ?_
  refine vp (i := 4) (v := .bool true) rfl rfl rfl (run_bin rfl (vx := strV [48, 48, 54, 48, 49, 56, 56]) (vy := strV [48, 48, 54, 48, 49, 56, 56]) (by kernel_rfl) (by kernel_rfl) fun w => bs_eql (decide_eq_true rfl) w) ?_
  refine vm (i := 5) (v := .bool true) rfl rfl rfl ?_
  refine vm (i := 6) (v := .bool true) rfl rfl rfl ?_
  refine vv (i := 7) (v := .agg #[.int .i64 4, .int .i64 3, .int .u8 0]) rfl rfl rfl (yb_load (n := 3) (off := 0) rfl (by kernel_rfl) (.tail _ (.tail _ (.tail _ (.head _)))) Tryd.underlying34 rfl (by kernel_rfl) (by first | (simp [Value.cells]; done) | exact Nat.le_of_ble_eq_true rfl) (by kernel_rfl)) ?_
  refine vv (i := 8) (v := .agg #[.int .i64 4, .int .i64 3, .int .u8 0]) rfl rfl rfl (yb_call (f := 38) (args := #[.int .i64 4, .int .i64 3, .int .u8 0]) (fun _ => by kernel_rfl) fun W hW => at_any 4 3 0 W) ?_
  refine vp (i := 9) (v := .bool (eqS (⟨4, 3, 0⟩ : Slt) (⟨4, 3, 0⟩ : Slt))) rfl rfl rfl (run_bin rfl (vx := .agg (sltC (⟨4, 3, 0⟩ : Slt)).toArray) (vy := .agg (sltC (⟨4, 3, 0⟩ : Slt)).toArray) (by kernel_rfl) (by kernel_rfl) fun w => eq_slt w) ?_
  refine vm (i := 10) (v := .bool (eqS (⟨4, 3, 0⟩ : Slt) (⟨4, 3, 0⟩ : Slt))) rfl rfl rfl ?_
  refine vm (i := 11) (v := .bool (eqS (⟨4, 3, 0⟩ : Slt) (⟨4, 3, 0⟩ : Slt))) rfl rfl rfl ?_
  cases h1 : (eqS (⟨4, 3, 0⟩ : Slt) (⟨4, 3, 0⟩ : Slt)) with
  | false =>
    exact absurd (show (eqS (⟨4, 3, 0⟩ : Slt) (⟨4, 3, 0⟩ : Slt)) = true from by kernel_rfl) (by rw [h1]; decide)
  | true =>
    refine vm (i := 12) (v := .int .i64 0) rfl rfl rfl ?_
    refine vm (i := 13) (v := .int .i64 0) rfl rfl rfl ?_
    refine vm (i := 14) (v := .int .i64 0) rfl rfl rfl ?_
    refine vm (i := 15) (v := .int .i64 0) rfl rfl rfl ?_
    refine vm (i := 16) (v := .int .i64 0) rfl rfl rfl ?_
    refine vm (i := 17) (v := .bool true) rfl rfl rfl ?_
    refine vm (i := 18) (v := .bool true) rfl rfl rfl ?_
    refine vm (i := 19) (v := .bool true) rfl rfl rfl ?_
    refine vm (i := 20) (v := .int .i64 6) rfl rfl rfl ?_
    refine vm (i := 21) (v := .bool true) rfl rfl rfl ?_
    refine vm (i := 22) (v := .bool true) rfl rfl rfl ?_
    refine vm (i := 23) (v := .bool true) rfl rfl rfl ?_
    refine vm (i := 24) (v := .int .i64 80) rfl rfl rfl ?_
    refine vm (i := 25) (v := .bool true) rfl rfl rfl ?_
    refine vm (i := 26) (v := .bool true) rfl rfl rfl ?_
    refine vm (i := 27) (v := .bool true) rfl rfl rfl ?_
    refine vv (i := 28) (v := .agg #[.int .i64 0, .int .i64 1, .int .u8 0]) rfl rfl rfl (yb_call (f := 38) (args := #[.int .i64 0, .int .i64 1, .int .u8 0]) (fun _ => by kernel_rfl) fun W hW => at_any 0 1 0 W) ?_
    refine vm (i := 29) (v := .slice (some ⟨g8, 0, none⟩) 2 2) rfl rfl rfl ?_
    refine vv (i := 30) (v := .bool (heldS (⟨0, 1, 0⟩ : Slt) ([(⟨0, 0, 1⟩ : Slt), (⟨0, 0, 2⟩ : Slt)] : List Slt))) rfl rfl rfl (yb_call (f := 25) (args := #[.agg #[.int .i64 0, .int .i64 1, .int .u8 0], .slice (some ⟨g8, 0, none⟩) 2 2]) (fun _ => by kernel_rfl) fun W hW => Held_any (⟨0, 1, 0⟩ : Slt) ([(⟨0, 0, 1⟩ : Slt), (⟨0, 0, 2⟩ : Slt)] : List Slt) (some ⟨g8, 0, none⟩) 2 (Nat.le_of_ble_eq_true rfl) (by decide) W (blk_slv (cs := ([(⟨0, 0, 1⟩ : Slt), (⟨0, 0, 2⟩ : Slt)] : List Slt).flatMap sltC) hW (.head _))) ?_
    refine vm (i := 31) (v := .bool (heldS (⟨0, 1, 0⟩ : Slt) ([(⟨0, 0, 1⟩ : Slt), (⟨0, 0, 2⟩ : Slt)] : List Slt))) rfl rfl rfl ?_
    refine vm (i := 32) (v := .bool (heldS (⟨0, 1, 0⟩ : Slt) ([(⟨0, 0, 1⟩ : Slt), (⟨0, 0, 2⟩ : Slt)] : List Slt))) rfl rfl rfl ?_
    cases h2 : (heldS (⟨0, 1, 0⟩ : Slt) ([(⟨0, 0, 1⟩ : Slt), (⟨0, 0, 2⟩ : Slt)] : List Slt)) with
    | false =>
      exact absurd (show (heldS (⟨0, 1, 0⟩ : Slt) ([(⟨0, 0, 1⟩ : Slt), (⟨0, 0, 2⟩ : Slt)] : List Slt)) = true from by kernel_rfl) (by rw [h2]; decide)
    | true =>
      refine vv (i := 33) (v := .agg #[.int .i64 0, .int .i64 1, .int .u8 0]) rfl rfl rfl (yb_call (f := 38) (args := #[.int .i64 0, .int .i64 1, .int .u8 0]) (fun _ => by kernel_rfl) fun W hW => at_any 0 1 0 W) ?_
      refine vm (i := 34) (v := .slice (some ⟨g8, 0, none⟩) 2 2) rfl rfl rfl ?_
      refine vp (i := 35) (v := .slice (some ⟨g8, 0, none⟩) 1 2) rfl rfl rfl (run_slt (kd := .i64) (j := 1) (n := 2) (c := 2) (sz := 3) rfl Tryd.underlying35 (by kernel_rfl) (by kernel_rfl) (by kernel_rfl) (by decide)) ?_
      refine vv (i := 36) (v := .bool (heldS (⟨0, 1, 0⟩ : Slt) ([(⟨0, 0, 1⟩ : Slt)] : List Slt))) rfl rfl rfl (yb_call (f := 25) (args := #[.agg #[.int .i64 0, .int .i64 1, .int .u8 0], .slice (some ⟨g8, 0, none⟩) 1 2]) (fun _ => by kernel_rfl) fun W hW => Held_any (⟨0, 1, 0⟩ : Slt) ([(⟨0, 0, 1⟩ : Slt)] : List Slt) (some ⟨g8, 0, none⟩) 2 (Nat.le_of_ble_eq_true rfl) (by decide) W (slv_pre8 (show SLV W _ (([(⟨0, 0, 1⟩ : Slt)] : List Slt).flatMap sltC ++ ([(⟨0, 0, 2⟩ : Slt)] : List Slt).flatMap sltC) from (blk_slv (cs := ([(⟨0, 0, 1⟩ : Slt), (⟨0, 0, 2⟩ : Slt)] : List Slt).flatMap sltC) hW (.head _))))) ?_
      refine vp (i := 37) (v := .bool (!(heldS (⟨0, 1, 0⟩ : Slt) ([(⟨0, 0, 1⟩ : Slt)] : List Slt)))) rfl rfl rfl (run_un rfl (by kernel_rfl) fun w => un_not w) ?_
      refine vm (i := 38) (v := .bool (!(heldS (⟨0, 1, 0⟩ : Slt) ([(⟨0, 0, 1⟩ : Slt)] : List Slt)))) rfl rfl rfl ?_
      refine vm (i := 39) (v := .bool (!(heldS (⟨0, 1, 0⟩ : Slt) ([(⟨0, 0, 1⟩ : Slt)] : List Slt)))) rfl rfl rfl ?_
      cases h3 : (heldS (⟨0, 1, 0⟩ : Slt) ([(⟨0, 0, 1⟩ : Slt)] : List Slt)) with
      | false =>
        refine vv (i := 40) (v := .agg #[.int .i64 0, .int .i64 1, .int .u8 2]) rfl rfl rfl (yb_call (f := 38) (args := #[.int .i64 0, .int .i64 1, .int .u8 2]) (fun _ => by kernel_rfl) fun W hW => at_any 0 1 2 W) ?_
        refine vv (i := 41) (v := .agg #[.int .i64 0, .int .i64 0, .int .u8 0]) rfl rfl rfl (yb_call (f := 38) (args := #[.int .i64 0, .int .i64 0, .int .u8 0]) (fun _ => by kernel_rfl) fun W hW => at_any 0 0 0 W) ?_
        refine wpV_nsg (fun g => .slice (some ⟨g, 0, none⟩) 1 1) (i := 42) (obi := .cells #[.int .i64 0, .int .i64 0, .int .u8 0] 34 (0, 0)) rfl rfl rfl (by kernel_rfl) (fun _ => by kernel_rfl) (fun _ => by simp only [List.setIfInBounds_toArray, List.set_cons_succ, List.set_cons_zero] <;> rfl) fun g10 Bg10 Fg10 => ?_
        obtain ⟨dj11_0, dj11_1, dj11_2, dj11_3, dj11_4⟩ : g8 ≠ g10 ∧ g6 ≠ g10 ∧ g4 ≠ g10 ∧ g2 ≠ g10 ∧ g1 ≠ g10 := by simpa only [dj_app_l, dj_app_r, dj_cons_l, dj_cons_r, dj_nil_l, dj_nil_r, dk_app, dk_cons, dk_nil, and_true, true_and, and_assoc] using (show Dk g10 [(g8, .cells #[.int .i64 0, .int .i64 0, .int .u8 1, .int .i64 0, .int .i64 0, .int .u8 2] 34 (0, 0)), (g6, .cells #[.int .i64 0, .int .i64 0, .int .u8 0] 34 (0, 0)), (g4, .cells #[.int .i64 0, .int .i64 0, .int .u8 0] 34 (0, 0)), (g2, .cells #[.int .i64 4, .int .i64 3, .int .u8 0] 34 (0, 0)), (g1, .cells (shC (.slice pcS exCs.length ccS) (.slice poS ([(⟨0, [0, 1], rp, rc⟩ : Cov)].length) coS) tl0).toArray 32 (0, 0))] from Fg10)
        refine vv (i := 43) (v := .bool (heldS (⟨0, 1, 2⟩ : Slt) ([(⟨0, 0, 0⟩ : Slt)] : List Slt))) rfl rfl rfl (yb_call (f := 25) (args := #[.agg #[.int .i64 0, .int .i64 1, .int .u8 2], .slice (some ⟨g10, 0, none⟩) 1 1]) (fun _ => by kernel_rfl) fun W hW => Held_any (⟨0, 1, 2⟩ : Slt) ([(⟨0, 0, 0⟩ : Slt)] : List Slt) (some ⟨g10, 0, none⟩) 1 (Nat.le_of_ble_eq_true rfl) (by decide) W (blk_slv (cs := ([(⟨0, 0, 0⟩ : Slt)] : List Slt).flatMap sltC) hW (.head _))) ?_
        refine vp (i := 44) (v := .bool (!(heldS (⟨0, 1, 2⟩ : Slt) ([(⟨0, 0, 0⟩ : Slt)] : List Slt)))) rfl rfl rfl (run_un rfl (by kernel_rfl) fun w => un_not w) ?_
        refine vm (i := 45) (v := .bool (!(heldS (⟨0, 1, 2⟩ : Slt) ([(⟨0, 0, 0⟩ : Slt)] : List Slt)))) rfl rfl rfl ?_
        refine vm (i := 46) (v := .bool (!(heldS (⟨0, 1, 2⟩ : Slt) ([(⟨0, 0, 0⟩ : Slt)] : List Slt)))) rfl rfl rfl ?_
        cases h4 : (heldS (⟨0, 1, 2⟩ : Slt) ([(⟨0, 0, 0⟩ : Slt)] : List Slt)) with
        | false =>
          refine vv (i := 47) (v := .agg (shC (.slice pcS exCs.length ccS) (.slice poS ([(⟨0, [0, 1], rp, rc⟩ : Cov)].length) coS) tl0).toArray) rfl rfl rfl (yb_load (n := 13) (off := 0) rfl (by kernel_rfl) (.tail _ (.tail _ (.tail _ (.tail _ (.tail _ (.head _)))))) Tryd.underlying32 rfl (by kernel_rfl) (by first | (simp [Value.cells]; done) | exact Nat.le_of_ble_eq_true rfl) (by kernel_rfl)) ?_
          refine vv (i := 48) (v := .agg #[.int .i64 1, .int .i64 1, .int .u8 2]) rfl rfl rfl (yb_call (f := 38) (args := #[.int .i64 1, .int .i64 1, .int .u8 2]) (fun _ => by kernel_rfl) fun W hW => at_any 1 1 2 W) ?_
          refine vv (i := 49) (v := .bool (rightS exCs (⟨1, 1, 2⟩ : Slt) 20)) rfl rfl rfl (yb_call (f := 14) (args := #[.agg (shC (.slice pcS exCs.length ccS) (.slice poS ([(⟨0, [0, 1], rp, rc⟩ : Cov)].length) coS) tl0).toArray, .agg #[.int .i64 1, .int .i64 1, .int .u8 2], .int .u8 20]) (fun _ => by kernel_rfl) fun W hW => SRight_any exCs pcS ccS (by decide) [(⟨0, [0, 1], rp, rc⟩ : Cov)] poS coS (Nat.le_of_ble_eq_true rfl) tl0 (⟨1, 1, 2⟩ : Slt) 20 W ((RL.base HCS.out) _ (hW.sub (fun _ h => by cases h))) ((RL.base HOS.out) _ (hW.sub (fun _ h => by cases h)))) ?_
          refine vm (i := 50) (v := .bool (rightS exCs (⟨1, 1, 2⟩ : Slt) 20)) rfl rfl rfl ?_
          refine vm (i := 51) (v := .bool (rightS exCs (⟨1, 1, 2⟩ : Slt) 20)) rfl rfl rfl ?_
          cases h5 : (rightS exCs (⟨1, 1, 2⟩ : Slt) 20) with
          | false =>
            exact absurd (show (rightS exCs (⟨1, 1, 2⟩ : Slt) 20) = true from by kernel_rfl) (by rw [h5]; decide)
          | true =>
            refine vv (i := 52) (v := .agg (shC (.slice pcS exCs.length ccS) (.slice poS ([(⟨0, [0, 1], rp, rc⟩ : Cov)].length) coS) tl0).toArray) rfl rfl rfl (yb_load (n := 13) (off := 0) rfl (by kernel_rfl) (.tail _ (.tail _ (.tail _ (.tail _ (.tail _ (.head _)))))) Tryd.underlying32 rfl (by kernel_rfl) (by first | (simp [Value.cells]; done) | exact Nat.le_of_ble_eq_true rfl) (by kernel_rfl)) ?_
            refine vv (i := 53) (v := .agg #[.int .i64 1, .int .i64 1, .int .u8 2]) rfl rfl rfl (yb_call (f := 38) (args := #[.int .i64 1, .int .i64 1, .int .u8 2]) (fun _ => by kernel_rfl) fun W hW => at_any 1 1 2 W) ?_
            refine vv (i := 54) (v := .bool (rightS exCs (⟨1, 1, 2⟩ : Slt) 40)) rfl rfl rfl (yb_call (f := 14) (args := #[.agg (shC (.slice pcS exCs.length ccS) (.slice poS ([(⟨0, [0, 1], rp, rc⟩ : Cov)].length) coS) tl0).toArray, .agg #[.int .i64 1, .int .i64 1, .int .u8 2], .int .u8 40]) (fun _ => by kernel_rfl) fun W hW => SRight_any exCs pcS ccS (by decide) [(⟨0, [0, 1], rp, rc⟩ : Cov)] poS coS (Nat.le_of_ble_eq_true rfl) tl0 (⟨1, 1, 2⟩ : Slt) 40 W ((RL.base HCS.out) _ (hW.sub (fun _ h => by cases h))) ((RL.base HOS.out) _ (hW.sub (fun _ h => by cases h)))) ?_
            refine vp (i := 55) (v := .bool (!(rightS exCs (⟨1, 1, 2⟩ : Slt) 40))) rfl rfl rfl (run_un rfl (by kernel_rfl) fun w => un_not w) ?_
            refine vm (i := 56) (v := .bool (!(rightS exCs (⟨1, 1, 2⟩ : Slt) 40))) rfl rfl rfl ?_
            refine vm (i := 57) (v := .bool (!(rightS exCs (⟨1, 1, 2⟩ : Slt) 40))) rfl rfl rfl ?_
            cases h6 : (rightS exCs (⟨1, 1, 2⟩ : Slt) 40) with
            | false =>
              refine vv (i := 58) (v := .agg #[.int .i64 0, .int .i64 2, .int .u8 1]) rfl rfl rfl (yb_call (f := 38) (args := #[.int .i64 0, .int .i64 2, .int .u8 1]) (fun _ => by kernel_rfl) fun W hW => at_any 0 2 1 W) ?_
              refine vv (i := 59) (v := .agg #[.int .i64 0, .int .i64 0, .int .u8 0]) rfl rfl rfl (yb_call (f := 38) (args := #[.int .i64 0, .int .i64 0, .int .u8 0]) (fun _ => by kernel_rfl) fun W hW => at_any 0 0 0 W) ?_
              refine vv (i := 60) (v := .bool (overS (⟨0, 2, 1⟩ : Slt) (⟨0, 0, 0⟩ : Slt))) rfl rfl rfl (yb_call (f := 23) (args := #[.agg #[.int .i64 0, .int .i64 2, .int .u8 1], .agg #[.int .i64 0, .int .i64 0, .int .u8 0]]) (fun _ => by kernel_rfl) fun W hW => Over_any (⟨0, 2, 1⟩ : Slt) (⟨0, 0, 0⟩ : Slt) W) ?_
              refine vm (i := 61) (v := .bool (overS (⟨0, 2, 1⟩ : Slt) (⟨0, 0, 0⟩ : Slt))) rfl rfl rfl ?_
              refine vm (i := 62) (v := .bool (overS (⟨0, 2, 1⟩ : Slt) (⟨0, 0, 0⟩ : Slt))) rfl rfl rfl ?_
              cases h7 : (overS (⟨0, 2, 1⟩ : Slt) (⟨0, 0, 0⟩ : Slt)) with
              | false =>
                exact absurd (show (overS (⟨0, 2, 1⟩ : Slt) (⟨0, 0, 0⟩ : Slt)) = true from by kernel_rfl) (by rw [h7]; decide)
              | true =>
                refine vv (i := 63) (v := .agg #[.int .i64 0, .int .i64 2, .int .u8 1]) rfl rfl rfl (yb_call (f := 38) (args := #[.int .i64 0, .int .i64 2, .int .u8 1]) (fun _ => by kernel_rfl) fun W hW => at_any 0 2 1 W) ?_
                refine vv (i := 64) (v := .agg #[.int .i64 1, .int .i64 0, .int .u8 0]) rfl rfl rfl (yb_call (f := 38) (args := #[.int .i64 1, .int .i64 0, .int .u8 0]) (fun _ => by kernel_rfl) fun W hW => at_any 1 0 0 W) ?_
                refine vv (i := 65) (v := .int .i64 (cmpS (⟨0, 2, 1⟩ : Slt) (⟨1, 0, 0⟩ : Slt))) rfl rfl rfl (yb_call (f := 19) (args := #[.agg #[.int .i64 0, .int .i64 2, .int .u8 1], .agg #[.int .i64 1, .int .i64 0, .int .u8 0]]) (fun _ => by kernel_rfl) fun W hW => Compare_any (⟨0, 2, 1⟩ : Slt) (⟨1, 0, 0⟩ : Slt) W) ?_
                refine vp (i := 66) (v := .bool (decide ((cmpS (⟨0, 2, 1⟩ : Slt) (⟨1, 0, 0⟩ : Slt)) = (-1)))) rfl rfl rfl (run_bin rfl (vx := (.int .i64 (cmpS (⟨0, 2, 1⟩ : Slt) (⟨1, 0, 0⟩ : Slt)))) (vy := (.int .i64 (-1))) (by kernel_rfl) (by kernel_rfl) fun w => bi_eql rfl w) ?_
                refine vm (i := 67) (v := .bool (decide ((cmpS (⟨0, 2, 1⟩ : Slt) (⟨1, 0, 0⟩ : Slt)) = (-1)))) rfl rfl rfl ?_
                refine vm (i := 68) (v := .bool (decide ((cmpS (⟨0, 2, 1⟩ : Slt) (⟨1, 0, 0⟩ : Slt)) = (-1)))) rfl rfl rfl ?_
                cases hd8 : (decide ((cmpS (⟨0, 2, 1⟩ : Slt) (⟨1, 0, 0⟩ : Slt)) = (-1))) with
                | false =>
                  have h8 : ¬ ((cmpS (⟨0, 2, 1⟩ : Slt) (⟨1, 0, 0⟩ : Slt)) = (-1)) := of_decide_eq_false hd8
                  clear hd8
                  exact absurd (show (cmpS (⟨0, 2, 1⟩ : Slt) (⟨1, 0, 0⟩ : Slt)) = (-1) from by kernel_rfl) h8
                | true =>
                  have h8 : (cmpS (⟨0, 2, 1⟩ : Slt) (⟨1, 0, 0⟩ : Slt)) = (-1) := of_decide_eq_true hd8
                  clear hd8
                  refine vv (i := 69) (v := .agg (shC (.slice pcS exCs.length ccS) (.slice poS ([(⟨0, [0, 1], rp, rc⟩ : Cov)].length) coS) tl0).toArray) rfl rfl rfl (yb_load (n := 13) (off := 0) rfl (by kernel_rfl) (.tail _ (.tail _ (.tail _ (.tail _ (.tail _ (.head _)))))) Tryd.underlying32 rfl (by kernel_rfl) (by first | (simp [Value.cells]; done) | exact Nat.le_of_ble_eq_true rfl) (by kernel_rfl)) ?_
                  refine wpV_c (i := 70) (OutRL sltC WB [(g10, .cells #[.int .i64 0, .int .i64 0, .int .u8 0] 34 (0, 0)), (g8, .cells #[.int .i64 0, .int .i64 0, .int .u8 1, .int .i64 0, .int .i64 0, .int .u8 2] 34 (0, 0)), (g6, .cells #[.int .i64 0, .int .i64 0, .int .u8 0] 34 (0, 0)), (g4, .cells #[.int .i64 0, .int .i64 0, .int .u8 0] 34 (0, 0)), (g2, .cells #[.int .i64 4, .int .i64 3, .int .u8 0] 34 (0, 0)), (g1, .cells (shC (.slice pcS exCs.length ccS) (.slice poS ([(⟨0, [0, 1], rp, rc⟩ : Cov)].length) coS) tl0).toArray 32 (0, 0))] (slotsX exCs 20)) rfl rfl (by kernel_rfl) (by kernel_rfl) (fun _ => (by kernel_rfl)) (fun W hW => calls_r hW (All_any exCs pcS ccS (by decide) [(⟨0, [0, 1], rp, rc⟩ : Cov)] poS coS (Nat.le_of_ble_eq_true rfl) tl0 (by decide) 20 W ((RL.base HCS.out) _ (hW.sub (fun _ h => by cases h))) ((RL.base HOS.out) _ (hW.sub (fun _ h => by cases h))))) (fun v K9 hG => hG.sub) (fun _ => by simp only [List.setIfInBounds_toArray, List.set_cons_succ, List.set_cons_zero] <;> rfl) ?_
                  rintro _ _ ⟨p12, c12, Kl12, rfl, n12, R12, N12, rfl⟩
                  obtain ⟨dj13_0, dj13_1, dj13_2, dj13_3, dj13_4, dj13_5⟩ : Dk g10 Kl12 ∧ Dk g8 Kl12 ∧ Dk g6 Kl12 ∧ Dk g4 Kl12 ∧ Dk g2 Kl12 ∧ Dk g1 Kl12 := by simpa only [dj_app_l, dj_app_r, dj_cons_l, dj_cons_r, dj_nil_l, dj_nil_r, dk_app, dk_cons, dk_nil, and_true, true_and, and_assoc] using (show Dj [(g10, .cells #[.int .i64 0, .int .i64 0, .int .u8 0] 34 (0, 0)), (g8, .cells #[.int .i64 0, .int .i64 0, .int .u8 1, .int .i64 0, .int .i64 0, .int .u8 2] 34 (0, 0)), (g6, .cells #[.int .i64 0, .int .i64 0, .int .u8 0] 34 (0, 0)), (g4, .cells #[.int .i64 0, .int .i64 0, .int .u8 0] 34 (0, 0)), (g2, .cells #[.int .i64 4, .int .i64 3, .int .u8 0] 34 (0, 0)), (g1, .cells (shC (.slice pcS exCs.length ccS) (.slice poS ([(⟨0, [0, 1], rp, rc⟩ : Cov)].length) coS) tl0).toArray 32 (0, 0))] Kl12 from N12)
                  refine vp (i := 71) (v := .int .i64 ((((slotsX exCs 20).length) : Nat) : Int)) rfl rfl rfl (run_lenL (p := p12) (cap := c12) (n := (slotsX exCs 20).length) rfl Tryd.underlying35 (by kernel_rfl)) ?_
                  refine vp (i := 72) (v := .bool (decide (((slotsX exCs 20).length) = 28))) rfl rfl rfl (run_bin rfl (vx := (.int .i64 ((((slotsX exCs 20).length) : Nat) : Int))) (vy := (.int .i64 ((28 : Nat) : Int))) (by kernel_rfl) (by kernel_rfl) fun w => bn_eql rfl w) ?_
                  refine vm (i := 73) (v := .bool (decide (((slotsX exCs 20).length) = 28))) rfl rfl rfl ?_
                  refine vm (i := 74) (v := .bool (decide (((slotsX exCs 20).length) = 28))) rfl rfl rfl ?_
                  refine wpV_done (by kernel_rfl) (fun W9 hW9 => ?_) _
                  refine (show Code.wp _ _ _ _ _ from ?_)
                  refine wp_ret ?_
                  try simp only [inBlock_ret, then_ret]
                  refine bodyPost_ret (v := .bool (decide (((slotsX exCs 20).length) = 28))) ?_ rfl ?_
                  · kernel_rfl
                  · exact ⟨rfl, (hWB.1.trans (hW9.1.mono hWB.1.size))⟩
            | true =>
              exact absurd (show (rightS exCs (⟨1, 1, 2⟩ : Slt) 40) = false from by kernel_rfl) (by rw [h6]; decide)
        | true =>
          exact absurd (show (heldS (⟨0, 1, 2⟩ : Slt) ([(⟨0, 0, 0⟩ : Slt)] : List Slt)) = false from by kernel_rfl) (by rw [h4]; decide)
      | true =>
        exact absurd (show (heldS (⟨0, 1, 0⟩ : Slt) ([(⟨0, 0, 1⟩ : Slt)] : List Slt)) = false from by kernel_rfl) (by rw [h3]; decide)
end Go.Proofs.YthpooalhibedpaaDoor
/- What came in: records that hold lists of records. Over any program. -/
namespace Tw
open Go Go.RowKit Go.Proofs.YthpooalhibedpaaDoor Go.ChangeShapes Go.WideShapes
section
variable {P : Program} {α : Type}
def OpensW (P : Program) (t : TypeId) (cells : α → List Value) (ok : World → α → Prop) : Prop := ∀ (H : Type) (enc : TypeId × Value → H) (w : World) (base : Nat) (sp : Nat → Bool) (held : Bool) (fuel : Nat) (cs : List Value) (x : DataW H × List MemPlace),
  DataW.trod enc P w base sp held fuel t cs = some x → ∃ y : α, cs = cells y ∧ ok w y
def ListOk (cells : α → List Value) (ok : World → α → Prop) (w : World) (p : Option Addr) (c : Nat) (l : List α) : Prop := SLV w p (l.flatMap cells) ∧ (∀ y ∈ l, ok w y) ∧ l.length ≤ maxLen ∧ l.length ≤ c
theorem opens_listW {H : Type} {enc : TypeId × Value → H} {w : World} {base : Nat} {a : Addr} {e : TypeId} {sz n : Nat} {cells : α → List Value} {ok : World → α → Prop} {sp : Nat → Bool} {held : Bool} {elems : List (DataW H × List MemPlace)} (hE : OpensW P e cells ok) (hsz : P.cellsOf e = sz) :
    ∀ m, m ≤ elems.length → (∀ i, i < m → (w.cells? base (a.add (i * P.cellsOf e)) (P.cellsOf e)).bind (DataW.trod enc P w base sp held n e) = elems[i]?) → ∃ l : List α, l.length = m ∧ (∀ y ∈ l, ok w y) ∧ ∀ i y, l[i]? = some y → w.cells? base (a.add (i * sz)) sz = some (cells y)
  | 0, _, _ => ⟨[], rfl, (fun _ h => by cases h), fun i y h => by simp at h⟩
  | m + 1, hm, hel => by
    obtain ⟨l, h1, h2, h3⟩ := opens_listW hE hsz m (by omega) (fun i hi => hel i (by omega))
    have h0 := hel m (by omega)
    rw [List.getElem?_eq_getElem (by omega)] at h0
    obtain ⟨cs, hcs, ht⟩ := Option.bind_eq_some_iff.1 h0
    obtain ⟨y, rfl, hy⟩ := hE _ _ _ _ _ _ _ _ _ ht
    rw [hsz] at hcs
    refine ⟨l ++ [y], by simp [h1], fun z hz => ?_, fun i z hz => ?_⟩
    · rcases List.mem_append.1 hz with hz | hz
      · exact h2 z hz
      · cases List.mem_singleton.1 hz; exact hy
    · rcases Nat.lt_or_ge i m with hi | hi
      · rw [List.getElem?_append_left (by omega)] at hz
        exact h3 i z hz
      · obtain ⟨hlt, _⟩ := List.getElem?_eq_some_iff.1 hz
        have hi2 : i = m := by rw [List.length_append, h1, List.length_singleton] at hlt; omega
        subst hi2
        rw [List.getElem?_append_right (by omega), h1, Nat.sub_self] at hz
        cases hz
        exact hcs
theorem trod_recs {H : Type} {enc : TypeId × Value → H} {w : World} {base : Nat} {sp : Nat → Bool} {held : Bool} {fuel : Nat} {cs : List Value} {x : DataW H × List MemPlace} {t e : TypeId} {sz : Nat} {cells : α → List Value} {ok : World → α → Prop} (ht : P.underlying t = some (.slice e)) (hE : OpensW P e cells ok) (hsz : P.cellsOf e = sz) (hz : 0 < sz) (hc : ∀ y, (cells y).length = sz)
    (h : DataW.trod enc P w base sp held fuel t cs = some x) : ∃ (p : Option Addr) (cap : Nat) (l : List α), cs = [.slice p l.length cap] ∧ ListOk cells ok w p cap l := by
  rcases DataW.trod_slice ht h with ⟨rfl, _⟩ | ⟨a, len, cap, elems, rest, n, _, rfl, _, hb, hl, hm, hlen, hel, _, _⟩
  · exact ⟨none, 0, [], rfl, .inl rfl, (fun _ h => by cases h), by simp, by simp⟩
  · obtain ⟨l, h1, h2, h3⟩ := opens_listW hE hsz len (by omega) hel
    refine ⟨some a, cap, l, by rw [h1], ?_, h2, by omega, by omega⟩
    rcases Nat.eq_zero_or_pos len with h0 | h0
    · left; rw [List.length_eq_zero_iff.1 (h1.trans h0)]; rfl
    · obtain ⟨b, off, spot⟩ := a
      have hcell : ∀ i y, l[i]? = some y → ∀ j u, (cells y)[j]? = some u → w.cell? ((⟨b, off, spot⟩ : Addr).add (i * sz) |>.add j) = some u := by
        intro i y hy j u hu
        obtain ⟨_, h4, h5⟩ := World.cells?_some (h3 i y hy)
        obtain ⟨hj, _⟩ := List.getElem?_eq_some_iff.1 hu
        rw [hc] at hj
        rw [h5 j hj]; exact hu
      have h00 : l[0]? = some (l[0]'(by omega)) := List.getElem?_eq_getElem _
      have hspot : spot = none := by
        have hu : (cells (l[0]'(by omega)))[0]? = some ((cells (l[0]'(by omega)))[0]'(by rw [hc]; exact hz)) := List.getElem?_eq_getElem _
        have := World.cell?_spot (hcell 0 _ h00 0 _ hu)
        unfold Addr.add at this
        simp only at this
        split at this <;> simp_all
      subst hspot
      have hadd : ∀ (m j : Nat), ((⟨b, off, none⟩ : Addr).add m).add j = ⟨b, off + (m + j), none⟩ := fun m j => by rw [addr_add, addr_add, Nat.add_assoc]
      refine .inr ⟨b, off, rfl, ?_, fun i u hu => ?_⟩
      · have hu : (cells (l[0]'(by omega)))[0]? = some ((cells (l[0]'(by omega)))[0]'(by rw [hc]; exact hz)) := List.getElem?_eq_getElem _
        have := World.block_lt_of_cell? _ _ (hcell 0 _ h00 0 _ hu)
        rw [hadd] at this
        exact this
      · obtain ⟨y, hy1, hy2⟩ := flat_at hc hu
        have := hcell _ y hy1 _ u hy2
        rw [hadd, Nat.mul_comm, Nat.div_add_mod] at this
        exact this
theorem open_recW {H : Type} {enc : TypeId × Value → H} {W : World} {t : TypeId} {fs : Array Field} {v : Value} {d : DataW H} {ps : List MemPlace} {base : Nat} {cells : α → List Value} {ok : World → α → Prop} (ht : P.underlying t = some (.struct fs)) (hE : OpensW P t cells ok)
    (hv : Value.okWide P W .any base t v) (h0 : DataW.Trod enc P W 0 (fun _ => true) true t v d ps) : ∃ y : α, v = .agg (cells y).toArray ∧ ok W y := by
  obtain ⟨cs, rfl, _⟩ := okWide_struct ht hv
  obtain ⟨fuel, hf⟩ := h0
  obtain ⟨y, hy, hok⟩ := hE _ _ _ _ _ _ _ _ _ hf
  refine ⟨y, ?_, hok⟩
  rw [← hy]
  rfl
end
end Tw
/- What came in, of what has its size. Over any program. -/
namespace Tw
open Go Go.RowKit Go.Proofs.YthpooalhibedpaaDoor Go.ChangeShapes Go.WideShapes
section
variable {P : Program} {α : Type}
def OpensS (P : Program) (t : TypeId) (cells : α → List Value) (ok : World → α → Prop) : Prop := ∀ (H : Type) (enc : TypeId × Value → H) (w : World) (base : Nat) (sp : Nat → Bool) (held : Bool) (fuel : Nat) (cs : List Value) (x : DataW H × List MemPlace),
  DataW.trod enc P w base sp held fuel t cs = some x → (∀ n ∈ x.1.weights P t, n ≤ reachBytes) → ∃ y : α, cs = cells y ∧ ok w y
def ListS (cells : α → List Value) (ok : World → α → Prop) (b : Nat) (w : World) (p : Option Addr) (c : Nat) (l : List α) : Prop := ListOk cells ok w p c l ∧ l.length * b ≤ reachBytes
theorem OpensS.of {t : TypeId} {cells : α → List Value} {ok : World → α → Prop} (h : OpensW P t cells ok) : OpensS P t cells ok := fun H enc w base sp held fuel cs x ht _ => h H enc w base sp held fuel cs x ht
theorem weights_all {H : Type} {e : TypeId} : ∀ {l : List (DataW H)} {d : DataW H}, d ∈ l → ∀ n ∈ d.weights P e, n ∈ DataW.weightsAll P e l
  | d0 :: l, d, hd, n, hn => by
    unfold DataW.weightsAll
    rcases List.mem_cons.1 hd with rfl | hd
    · exact List.mem_append_left _ hn
    · exact List.mem_append_right _ (weights_all hd n hn)
theorem opens_listS {H : Type} {enc : TypeId × Value → H} {w : World} {base : Nat} {a : Addr} {e : TypeId} {sz n : Nat} {cells : α → List Value} {ok : World → α → Prop} {sp : Nat → Bool} {held : Bool} {elems : List (DataW H × List MemPlace)} (hE : OpensS P e cells ok) (hsz : P.cellsOf e = sz) (hw : ∀ d ∈ elems, ∀ m ∈ d.1.weights P e, m ≤ reachBytes) :
    ∀ m, m ≤ elems.length → (∀ i, i < m → (w.cells? base (a.add (i * P.cellsOf e)) (P.cellsOf e)).bind (DataW.trod enc P w base sp held n e) = elems[i]?) → ∃ l : List α, l.length = m ∧ (∀ y ∈ l, ok w y) ∧ ∀ i y, l[i]? = some y → w.cells? base (a.add (i * sz)) sz = some (cells y)
  | 0, _, _ => ⟨[], rfl, (fun _ h => by cases h), fun i y h => by simp at h⟩
  | m + 1, hm, hel => by
    obtain ⟨l, h1, h2, h3⟩ := opens_listS hE hsz hw m (by omega) (fun i hi => hel i (by omega))
    have h0 := hel m (by omega)
    rw [List.getElem?_eq_getElem (by omega)] at h0
    obtain ⟨cs, hcs, ht⟩ := Option.bind_eq_some_iff.1 h0
    obtain ⟨y, rfl, hy⟩ := hE _ _ _ _ _ _ _ _ _ ht (hw _ (List.getElem_mem _))
    rw [hsz] at hcs
    refine ⟨l ++ [y], by simp [h1], fun z hz => ?_, fun i z hz => ?_⟩
    · rcases List.mem_append.1 hz with hz | hz
      · exact h2 z hz
      · cases List.mem_singleton.1 hz; exact hy
    · rcases Nat.lt_or_ge i m with hi | hi
      · rw [List.getElem?_append_left (by omega)] at hz
        exact h3 i z hz
      · obtain ⟨hlt, _⟩ := List.getElem?_eq_some_iff.1 hz
        have hi2 : i = m := by rw [List.length_append, h1, List.length_singleton] at hlt; omega
        subst hi2
        rw [List.getElem?_append_right (by omega), h1, Nat.sub_self] at hz
        cases hz
        exact hcs
theorem trod_recsS {H : Type} {enc : TypeId × Value → H} {w : World} {base : Nat} {sp : Nat → Bool} {held : Bool} {fuel : Nat} {cs : List Value} {x : DataW H × List MemPlace} {t e : TypeId} {sz by_ : Nat} {cells : α → List Value} {ok : World → α → Prop} (ht : P.underlying t = some (.slice e)) (hE : OpensS P e cells ok) (hsz : P.cellsOf e = sz) (hz : 0 < sz) (hc : ∀ y, (cells y).length = sz) (hb_ : P.bytesOf e = by_)
    (h : DataW.trod enc P w base sp held fuel t cs = some x) (hwt : ∀ n ∈ x.1.weights P t, n ≤ reachBytes) : ∃ (p : Option Addr) (cap : Nat) (l : List α), cs = [.slice p l.length cap] ∧ ListS cells ok by_ w p cap l := by
  rcases DataW.trod_slice ht h with ⟨rfl, _⟩ | ⟨a, len, cap, elems, rest, n, _, rfl, hx, hb, hl, hm, hlen, hel, _, _⟩
  · exact ⟨none, 0, [], rfl, ⟨.inl rfl, (fun _ h => by cases h), by simp, by simp⟩, by simp⟩
  · subst hx
    simp only [DataW.weights, ht, List.length_map, List.mem_cons, List.mem_append] at hwt
    have hw1 : ∀ d ∈ elems, ∀ m ∈ d.1.weights P e, m ≤ reachBytes := fun d hd m hm => hwt m (.inr (.inl (weights_all (List.mem_map_of_mem hd) m hm)))
    have hw2 := hwt _ (.inl rfl)
    obtain ⟨l, h1, h2, h3⟩ := opens_listS hE hsz hw1 len (by omega) hel
    refine ⟨some a, cap, l, by rw [h1], ⟨?_, h2, by omega, by omega⟩, ?_⟩
    · rcases Nat.eq_zero_or_pos len with h0 | h0
      · left; rw [List.length_eq_zero_iff.1 (h1.trans h0)]; rfl
      · obtain ⟨b, off, spot⟩ := a
        have hcell : ∀ i y, l[i]? = some y → ∀ j u, (cells y)[j]? = some u → w.cell? ((⟨b, off, spot⟩ : Addr).add (i * sz) |>.add j) = some u := by
          intro i y hy j u hu
          obtain ⟨_, h4, h5⟩ := World.cells?_some (h3 i y hy)
          obtain ⟨hj, _⟩ := List.getElem?_eq_some_iff.1 hu
          rw [hc] at hj
          rw [h5 j hj]; exact hu
        have h00 : l[0]? = some (l[0]'(by omega)) := List.getElem?_eq_getElem _
        have hspot : spot = none := by
          have hu : (cells (l[0]'(by omega)))[0]? = some ((cells (l[0]'(by omega)))[0]'(by rw [hc]; exact hz)) := List.getElem?_eq_getElem _
          have := World.cell?_spot (hcell 0 _ h00 0 _ hu)
          unfold Addr.add at this
          simp only at this
          split at this <;> simp_all
        subst hspot
        have hadd : ∀ (m j : Nat), ((⟨b, off, none⟩ : Addr).add m).add j = ⟨b, off + (m + j), none⟩ := fun m j => by rw [addr_add, addr_add, Nat.add_assoc]
        refine .inr ⟨b, off, rfl, ?_, fun i u hu => ?_⟩
        · have hu : (cells (l[0]'(by omega)))[0]? = some ((cells (l[0]'(by omega)))[0]'(by rw [hc]; exact hz)) := List.getElem?_eq_getElem _
          have := World.block_lt_of_cell? _ _ (hcell 0 _ h00 0 _ hu)
          rw [hadd] at this
          exact this
        · obtain ⟨y, hy1, hy2⟩ := flat_at hc hu
          have := hcell _ y hy1 _ u hy2
          rw [hadd, Nat.mul_comm, Nat.div_add_mod] at this
          exact this
    · rw [hb_, hlen] at hw2
      rw [h1]
      exact Nat.le_trans (Nat.mul_le_mul_right _ (Nat.le_add_right _ _)) hw2
theorem trod_fldS {H : Type} {enc : TypeId × Value → H} {w : World} {base : Nat} {sp : Nat → Bool} {held : Bool} {fuel : Nat} {t : TypeId} {cs : List Value} {x : DataW H × List MemPlace} {fs : Array Field} (ht : P.underlying t = some (.struct fs)) (h : DataW.trod enc P w base sp held fuel t cs = some x) (hwt : ∀ n ∈ x.1.weights P t, n ≤ reachBytes) :
    cs.length = P.cellsOf t ∧ ∀ (i : Nat) (f : Field), fs[i]? = some f → ∃ n y, DataW.trod enc P w base sp held n f.type ((cs.drop f.offset).take (P.cellsOf f.type)) = some y ∧ ∀ m ∈ y.1.weights P f.type, m ≤ reachBytes := by
  obtain ⟨xs, n, _, hxx, hl, hx, hg⟩ := DataW.trod_struct ht h
  subst hxx
  simp only [DataW.weights, ht] at hwt
  refine ⟨hl, fun i f hf => ?_⟩
  have h1 := hg i f hf
  have hi : i < xs.length := by rw [hx]; exact (Array.getElem?_eq_some_iff.1 hf).1
  rw [List.getElem?_eq_getElem hi] at h1
  refine ⟨n, _, h1, fun m hm => hwt m (DataW.weights_mem_each (j := i) (t := f.type) (d := (xs[i]).1) ?_ ?_ m hm)⟩
  · rw [List.getElem?_map, Array.getElem?_toList, hf]; rfl
  · rw [List.getElem?_map, List.getElem?_eq_getElem hi]; rfl
theorem open_recS {H : Type} {enc : TypeId × Value → H} {W : World} {t : TypeId} {fs : Array Field} {v : Value} {d : DataW H} {ps : List MemPlace} {base : Nat} {cells : α → List Value} {ok : World → α → Prop} (ht : P.underlying t = some (.struct fs)) (hE : OpensS P t cells ok)
    (hv : Value.okWide P W .any base t v) (h0 : DataW.Trod enc P W 0 (fun _ => true) true t v d ps) (hw : ∀ n ∈ d.weights P t, n ≤ reachBytes) : ∃ y : α, v = .agg (cells y).toArray ∧ ok W y := by
  obtain ⟨cs, rfl, _⟩ := okWide_struct ht hv
  obtain ⟨fuel, hf⟩ := h0
  obtain ⟨y, hy, hok⟩ := hE _ _ _ _ _ _ _ _ _ hf hw
  refine ⟨y, ?_, hok⟩
  rw [← hy]
  rfl
theorem open_recsS {H : Type} {enc : TypeId × Value → H} {W : World} {t e : TypeId} {sz by_ : Nat} {v : Value} {d : DataW H} {ps : List MemPlace} {base : Nat} {cells : α → List Value} {ok : World → α → Prop} (ht : P.underlying t = some (.slice e)) (hE : OpensS P e cells ok) (hsz : P.cellsOf e = sz) (hz : 0 < sz) (hc : ∀ y, (cells y).length = sz) (hb_ : P.bytesOf e = by_)
    (hv : Value.okWide P W .any base t v) (h0 : DataW.Trod enc P W 0 (fun _ => true) true t v d ps) (hw : ∀ n ∈ d.weights P t, n ≤ reachBytes) : ∃ (p : Option Addr) (cap : Nat) (l : List α), v = .slice p l.length cap ∧ ListS cells ok by_ W p cap l := by
  obtain ⟨a0, len0, cap0, rfl⟩ := okWide_slice ht hv
  obtain ⟨fuel, hf⟩ := h0
  have hcs : (Value.slice a0 len0 cap0).cells.toList = [.slice a0 len0 cap0] := by simp [Value.cells]
  rw [hcs] at hf
  obtain ⟨p, cap, l, h1, h2⟩ := trod_recsS ht hE hsz hz hc hb_ hf hw
  exact ⟨p, cap, l, by simpa using h1, h2⟩
theorem sized_par {H : Type} {ts : List TypeId} {ds : List (DataW H)} (h : (DataW.weightsEach P ts ds).all (· ≤ reachBytes) = true) {j : Nat} {t : TypeId} {d : DataW H} (ht : ts[j]? = some t) (hd : ds[j]? = some d) : ∀ n ∈ d.weights P t, n ≤ reachBytes := fun n hn => by
  simpa using List.all_eq_true.1 h _ (DataW.weights_mem_each ht hd n hn)
end
end Tw
/- From the row's condition to what the proofs ask of the package's table; what came in. -/
namespace Go.Proofs.YthpooalhibedpaaDoor
open Go.ChangeShapes Go.WideShapes Go.ChangeAt Go.RowKit Tw
open Go
theorem of_wf {k : IntKind} {n : Int} (h : (Lit.int k n).wf = true) : k.min ≤ n ∧ n ≤ k.max := by simpa [Lit.wf] using h
theorem own : ownKnob Tryd.prog.godebug = none := by kernel_rfl
theorem laidOut : laidOutB Tryd.prog = true := by kernel_rfl
def laidN : List (String × DataW Unit) := [("twistlock/slot.codes", Rows.laid_twistlock_slot_codes)]
set_option maxRecDepth 100000 in
theorem door_met (os : Os) (args : Array Value) : laidMetH Tryd.prog laidN ((World.doorLaid Tryd.prog 1000 os).forCall (fun _ _ => 0) ⟨#[], args, []⟩).memory :=
  laidMetH_of_parts3 (fuel := 8) (laidMet_of_run' 8 (by kernel_rfl) (by kernel_rfl)) (by kernel_rfl) (by kernel_rfl)
theorem env_of {W : World} (h0 : laidMetH Tryd.prog laidN W) : Env W := by
  have h : laidMet Tryd.prog laidN W := by rw [MakeChecks.laidMetH_plain _ _ _ (by kernel_rfl)] at h0; exact h0
  exact ⟨laid_plain 8 h gCodes (t := 141) (by kernel_rfl) (by kernel_rfl)⟩
theorem handed_and_sized {H : Type} {enc : TypeId × Value → H} {a : Assume} {C : Checked} {os : Os} {f : FuncId} {fn : Func} {s : ChangeSpec} {conds : List PathCond} {apart fresh handsOn again : Bool} {X : World → Prop}
    (hX : ∀ (w w' : World), w.heap = w'.heap → X w → X w')
    (own : ownKnob C.prog.godebug = none) (started : os.Started) (noInit : C.prog.inits.idxOf? f = none) (hfn : C.prog.funcs[f]? = some fn)
    (witness : ∃ (w : World) (tape : Tape) (i : Input), w.os = os ∧ (w.forCall tape i).Shaped C.prog ∧ i.vars = [] ∧ Input.okWide C.prog (w.forCall tape i) .any w.heap.size f i ∧
      ((s.pre enc C.prog fn conds apart (w.forCall tape i).memory i.args ∧ X (w.forCall tape i).memory) ∧ sizedMet enc C.prog fn (OpenSpec.ofChange s) apart (w.forCall tape i).memory i.args) ∧ a.holds C.prog (lone (Frame.enter C.prog f i.args .normal) [] (w.forCall tape i)))
    (contract : ∀ (W : World) (base : Nat) (args : Array Value) (ds gs : List (DataW H)) (before : List MemPlace),
      (∀ (j : Nat) t v, fn.params[j]? = some t → args[j]? = some v → Value.okWide C.prog W .any base t v) →
      DataW.Whole enc C.prog fn.params.toList s.vars apart W args.toList ds gs before → X W → W.ShapedOpen C.prog →
      (DataW.weightsEach C.prog (fn.params.toList ++ s.plain.varTypes C.prog) (ds ++ gs)).all (· ≤ reachBytes) = true →
      Calls C.prog f args W fun e W' => ∃ v, e = .returned v ∧ s.post enc C.prog fn apart fresh handsOn again W args v W') :
    ReturnsInHanded a C os f .any (fun w args => (s.pre enc C.prog fn conds apart w args ∧ X w) ∧ sizedMet enc C.prog fn (OpenSpec.ofChange s) apart w args) (s.post enc C.prog fn apart fresh handsOn again) := by
  refine returnsInHanded_of_calls own started noInit witness fun w tape i _ hsh _ hok hpre _ => ?_
  obtain ⟨_, _, _, fn', hfn', _, _, _, _, hval⟩ := hok
  obtain rfl : fn' = fn := Option.some.inj (hfn'.symm.trans hfn)
  obtain ⟨⟨_, hx⟩, _, ds, gs, before, hw, hz⟩ := hpre
  refine (contract (w.forCall tape i) w.heap.size i.args ds gs before hval (DataW.Whole.of_heap (w' := w.forCall tape i) (by rfl) hw) (hX _ _ (by rfl) hx) hsh hz).mono fun e W' ⟨v, he, hp⟩ => ?_
  subst he
  exact ChangeSpec.post_blind hp
theorem opens_slt : OpensC Tryd.prog 34 sltC sltOk := by
  intro H enc w base sp held fuel cs x h
  obtain ⟨hl, hf⟩ := trod_fld Tryd.underlying34 h
  have c1 : Tryd.prog.cellsOf 5 = 1 := by kernel_rfl
  have ci : Tryd.prog.cellsOf 3 = 1 := by kernel_rfl
  have c6 : Tryd.prog.cellsOf 34 = 3 := by kernel_rfl
  rw [c6] at hl
  obtain ⟨v0, v1, v2, rfl⟩ : ∃ v0 v1 v2, cs = [v0, v1, v2] := by
    rcases cs with _ | ⟨v0, _ | ⟨v1, _ | ⟨v2, _ | ⟨v4, cs⟩⟩⟩⟩ <;> simp at hl
    exact ⟨v0, v1, v2, rfl⟩
  have key : ∀ (i : Nat) (f : Field) (v : Value), (#[v0, v1, v2] : Array Value)[i]? = some v → f.type = 3 → f.offset = i → (∃ n y, DataW.trod enc Tryd.prog w base sp held n f.type ((([v0, v1, v2] : List Value).drop f.offset).take (Tryd.prog.cellsOf f.type)) = some y) → ∃ n : Int, v = .int .i64 n ∧ -9223372036854775808 ≤ n ∧ n ≤ 9223372036854775807 := by
    intro i f v hv ht ho ⟨n, y, hy⟩
    rw [ht, ci, ho] at hy
    obtain ⟨z, hz, hz1, hz2⟩ := fld_int (P := Tryd.prog) Tryd.underlying3 hy
    have hv2 : ([v0, v1, v2] : List Value)[i]? = some v := by simpa using hv
    obtain ⟨hi, hvi⟩ := List.getElem?_eq_some_iff.1 hv2
    rw [List.drop_eq_getElem_cons hi, hvi] at hz
    have hz0 : v = .int .i64 z := by simpa using hz
    have m1 : IntKind.i64.min = -9223372036854775808 := by decide
    have m2 : IntKind.i64.max = 9223372036854775807 := by decide
    rw [m1] at hz1; rw [m2] at hz2
    exact ⟨z, hz0, hz1, hz2⟩
  obtain ⟨n0, rfl, b0⟩ := key 0 _ v0 rfl rfl rfl (hf 0 _ rfl)
  obtain ⟨n1, rfl, b1⟩ := key 1 _ v1 rfl rfl rfl (hf 1 _ rfl)
  obtain ⟨n, y, hy⟩ := hf 2 _ rfl
  have hy : DataW.trod enc Tryd.prog w base sp held n 5 (([.int .i64 n0, .int .i64 n1, v2].drop 2).take (Tryd.prog.cellsOf 5)) = some y := hy
  rw [c1] at hy
  obtain ⟨z, hz, hz1, hz2⟩ := fld_int (P := Tryd.prog) Tryd.underlying5 hy
  have hz0 : v2 = .int .u8 z := by simpa using hz
  have m1 : IntKind.u8.min = 0 := by decide
  have m2 : IntKind.u8.max = 255 := by decide
  rw [m1] at hz1; rw [m2] at hz2
  subst hz0
  exact ⟨⟨n0, n1, z.toNat⟩, by simp [sltC, Int.toNat_of_nonneg hz1], b0, b1, by show z.toNat ≤ 255; omega⟩
end Go.Proofs.YthpooalhibedpaaDoor
