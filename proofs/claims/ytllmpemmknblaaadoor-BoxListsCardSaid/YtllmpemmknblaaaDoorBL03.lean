import Derived.Test.YtllmpemmknblaaaDoorBL02
import Derived.Test.YtllmpemmknblaaaDoorBL00
import Derived.Test.YtllmpemmknblaaaDoorBL01
import Derived.Laws.Rows
import Derived.Lib.LaidTab
import Derived.LaidByText
import Derived.Handed
import Derived.ChangeArms
import Derived.ChangeShapes
import Derived.WideShapes
import Derived.DataReads
import Derived.ChangeOld
import Derived.SizedLaws
import Derived.Test.YtllmpemmknblaaaDoorCards
import Derived.Test.YtllmpemmknblaaaDoorTie
import Derived.WalkKit
import Derived.ProofKit
import Derived.OpenShut
import Derived.LaidMore
import Derived.ChangeMaps5
import Derived.Shelf.Vars
import Derived.Stop.Joined
import Derived.Stop.LaidErr
import Derived.SevenTiedAt
/- Part of the proof: HN, Sq, HO, Hp, HP, HR. -/
set_option linter.unusedVariables false
set_option linter.unusedSimpArgs false
set_option linter.unusedSectionVars false
namespace Go.Proofs.YtllmpemmknblaaaDoor
open Go Go.RowKit Tw
theorem right_is {b : Bx} {v : Bool} (h : rightX b = v) (W : World) : Calls Tryd.prog 20 #[bxV b] W fun e w' => e = .returned (.bool v) ∧ Below W.heap.size W w' := h ▸ BRight_any b W
theorem height_is {b : Bx} {v : Nat} (h : heightX b = v) (W : World) : Calls Tryd.prog 21 #[bxV b] W fun e w' => e = .returned (.int .i64 ((v : Nat) : Int)) ∧ Below W.heap.size W w' := h ▸ Height_any b W
theorem halves_is {b : Bx} {v : Nat} (h : halvesX b = v) (W : World) : Calls Tryd.prog 22 #[bxV b] W fun e w' => e = .returned (.int .i64 ((v : Nat) : Int)) ∧ Below W.heap.size W w' := h ▸ Halves_any b W
theorem aboard_is {b : Bx} {c : Int} {v : Bool} (h : aboardX b c = v) (W : World) : Calls Tryd.prog 23 #[bxV b, .int .i64 c] W fun e w' => e = .returned (.bool v) ∧ Below W.heap.size W w' := h ▸ Aboard_any b c W
theorem valid_is {l : List Bx} {p : Option Addr} {c : Nat} {v : Value} (h : validV l = v) (hl : l.length ≤ 4000000000) (W : World) (hp : SLV W p (bcs l)) : Calls Tryd.prog 29 #[.slice p l.length c] W fun e w' => e = .returned v ∧ Below W.heap.size W w' := h ▸ Valid_any l p c hl W hp
def exR : Bx := ⟨7, [67, 83, 81, 85, 51, 48, 53, 52, 51, 56, 51], 40, true, 30000, 1, 3, 0, true⟩
def exS : Bx := ⟨7, [67, 83, 81, 85, 51, 48, 53, 52, 51, 56, 51], 20, true, 30000, 1, 3, 0, false⟩
def exH : Bx := ⟨7, [67, 83, 81, 85, 51, 48, 53, 52, 51, 56, 51], 40, true, 40001, 1, 3, 0, false⟩
def exD : Bx := ⟨7, [67, 83, 81, 85, 51, 48, 53, 52, 51, 56, 51], 40, true, 30000, 1, 1, 0, false⟩
def exL : Bx := ⟨7, [67, 83, 81, 85, 51, 48, 53, 52, 51, 56, 51], 40, true, 30000, 1, 20, 0, false⟩
def exC : Bx := ⟨7, [67, 83, 81, 85, 51, 48, 53, 52, 51, 56, 51], 40, true, 30000, 1, 3, 10, false⟩
def exN : Bx := ⟨7, [67, 83, 81, 85, 51, 48, 53, 52, 51, 56, 52], 40, true, 30000, 1, 3, 0, false⟩
def ob1 : Bx := ⟨1, [], 20, false, 9, 0, 2, 0, false⟩
def ob2 : Bx := ⟨2, [], 20, false, 5, 0, 3, 0, false⟩
def ob3 : Bx := ⟨3, [], 20, false, 8, 0, 3, 0, false⟩
def ob4 : Bx := ⟨4, [], 20, false, 8, 0, 3, 0, false⟩
set_option maxRecDepth 100000 in
set_option maxHeartbeats 4000000 in
theorem awake_any  (w : World) (hE : Env w) : Calls Tryd.prog 12 #[] w fun e w' => e = .returned (.bool true) ∧ Below w.heap.size w w' := by
  have HE := Lib.hid hE
  clear hE
  go_enter Tryd.func12, Tryd.ntmps12
  refine wp_seq ?_
  refine wp_region_L (W0 := w) [] (KS.start w) ?_
  refine lm (v := .bool false) rfl rfl ?_
  refine wpL_done (fun W1 hW1 => ?_)
  refine (show Code.wp _ _ _ _ _ from ?_)
  refine wp_seq ?_
  refine wp_region_L (W0 := w) [] (hW1) ?_
  refine lv (v := bxV exB) rfl rfl (yb_call (f := 13) (args := #[]) (fun _ => by kernel_rfl) fun W hW => example_any W) ?_
  refine wpL_new (fun g => .pointer (some ⟨g, 0, none⟩)) (obi := .cells (bxC bx0) 26 (0, 0)) rfl rfl (fun _ => by kernel_rfl) (fun _ => by simp only [List.setIfInBounds_toArray, List.set_cons_succ, List.set_cons_zero] <;> rfl) fun g1 Bg1 Fg1 => ?_
  refine wpL_s [(g1, .cells (bxC exB) 26 (0, 0))] rfl rfl (st_bx (b := exB) rfl (by kernel_rfl) (by kernel_rfl) (.head _) rfl Bg1 (by kernel_rfl) (List.forall_mem_cons.2 ⟨.inl rfl, (List.forall_mem_nil _)⟩)) ?_
  refine wpL_done (fun W2 hW2 => ?_)
  refine (show Code.wp _ _ _ _ _ from ?_)
  refine wp_seq ?_
  refine wp_region_L (W0 := w) [(g1, .cells (bxC exB) 26 (0, 0))] (hW2) ?_
  refine lv (v := bxV exB) rfl rfl (yb_load (n := 9) (off := 0) rfl (by kernel_rfl) (.head _) Tryd.underlying26 rfl (by kernel_rfl) (Nat.le_refl 9) (by kernel_rfl)) ?_
  refine lv (v := .tuple #[strV [52, 53, 71, 49], .int .i64 0]) rfl rfl (yb_call (f := 18) (args := #[bxV exB]) (fun _ => by kernel_rfl) fun W hW => bcode_is (b := exB) (by kernel_rfl) W (HE.out.keep hW.1)) ?_
  refine lm (v := .tuple #[strV [52, 53, 71, 49], .int .i64 0]) rfl rfl ?_
  refine lm (v := strV [52, 53, 71, 49]) rfl rfl ?_
  refine lm (v := .int .i64 0) rfl rfl ?_
  refine lm (v := strV [52, 53, 71, 49]) rfl rfl ?_
  refine lm (v := .int .i64 0) rfl rfl ?_
  refine wpL_done (fun W3 hW3 => ?_)
  refine (show Code.wp _ _ _ _ _ from ?_)
  refine wp_seq ?_
  refine wp_seq ?_
  refine wp_region_L (W0 := w) [(g1, .cells (bxC exB) 26 (0, 0))] (hW3) ?_
  refine lv (v := bxV exB) rfl rfl (yb_load (n := 9) (off := 0) rfl (by kernel_rfl) (.head _) Tryd.underlying26 rfl (by kernel_rfl) (Nat.le_refl 9) (by kernel_rfl)) ?_
  refine lv (v := .bool true) rfl rfl (yb_call (f := 20) (args := #[bxV exB]) (fun _ => by kernel_rfl) fun W hW => right_is (b := exB) (by decide +kernel) W) ?_
  refine lm (v := .bool false) rfl rfl ?_
  refine lm (v := .bool false) rfl rfl ?_
  refine lv (v := bxV exB) rfl rfl (yb_load (n := 9) (off := 0) rfl (by kernel_rfl) (.head _) Tryd.underlying26 rfl (by kernel_rfl) (Nat.le_refl 9) (by kernel_rfl)) ?_
  refine lv (v := .int .i64 2896) rfl rfl (yb_call (f := 21) (args := #[bxV exB]) (fun _ => by kernel_rfl) fun W hW => height_is (b := exB) (by rfl) W) ?_
  refine lm (v := .bool false) rfl rfl ?_
  refine lm (v := .bool false) rfl rfl ?_
  refine lm (v := .bool false) rfl rfl ?_
  refine lv (v := bxV exB) rfl rfl (yb_load (n := 9) (off := 0) rfl (by kernel_rfl) (.head _) Tryd.underlying26 rfl (by kernel_rfl) (Nat.le_refl 9) (by kernel_rfl)) ?_
  refine lv (v := .int .i64 2) rfl rfl (yb_call (f := 22) (args := #[bxV exB]) (fun _ => by kernel_rfl) fun W hW => halves_is (b := exB) (by rfl) W) ?_
  refine lm (v := .bool false) rfl rfl ?_
  refine lm (v := .bool false) rfl rfl ?_
  refine lm (v := .bool false) rfl rfl ?_
  refine lm (v := strV [52, 53, 71, 49]) rfl rfl ?_
  refine lp (v := .bool false) rfl rfl (run_bin rfl (vx := strV [52, 53, 71, 49]) (vy := strV [52, 53, 71, 49]) (by kernel_rfl) (by kernel_rfl) fun w => bs_neq (decide_eq_true rfl) w) ?_
  refine lm (v := .bool false) rfl rfl ?_
  refine lm (v := .bool false) rfl rfl ?_
  refine lm (v := .int .i64 0) rfl rfl ?_
  refine lm (v := .bool false) rfl rfl ?_
  refine lm (v := .bool false) rfl rfl ?_
  refine lm (v := .bool false) rfl rfl ?_
  refine lv (v := bxV exB) rfl rfl (yb_load (n := 9) (off := 0) rfl (by kernel_rfl) (.head _) Tryd.underlying26 rfl (by kernel_rfl) (Nat.le_refl 9) (by kernel_rfl)) ?_
  refine lv (v := .bool false) rfl rfl (yb_call (f := 23) (args := #[bxV exB, .int .i64 0]) (fun _ => by kernel_rfl) fun W hW => aboard_is (b := exB) (c := 0) (by decide +kernel) W) ?_
  refine lm (v := .bool false) rfl rfl ?_
  refine lm (v := .bool false) rfl rfl ?_
  refine lv (v := bxV exB) rfl rfl (yb_load (n := 9) (off := 0) rfl (by kernel_rfl) (.head _) Tryd.underlying26 rfl (by kernel_rfl) (Nat.le_refl 9) (by kernel_rfl)) ?_
  refine lv (v := .bool true) rfl rfl (yb_call (f := 23) (args := #[bxV exB, .int .i64 1]) (fun _ => by kernel_rfl) fun W hW => aboard_is (b := exB) (c := 1) (by decide +kernel) W) ?_
  refine lm (v := .bool false) rfl rfl ?_
  refine lm (v := .bool false) rfl rfl ?_
  refine lm (v := .bool false) rfl rfl ?_
  refine lv (v := bxV exB) rfl rfl (yb_load (n := 9) (off := 0) rfl (by kernel_rfl) (.head _) Tryd.underlying26 rfl (by kernel_rfl) (Nat.le_refl 9) (by kernel_rfl)) ?_
  refine lv (v := .bool true) rfl rfl (yb_call (f := 23) (args := #[bxV exB, .int .i64 2]) (fun _ => by kernel_rfl) fun W hW => aboard_is (b := exB) (c := 2) (by decide +kernel) W) ?_
  refine lm (v := .bool false) rfl rfl ?_
  refine lm (v := .bool false) rfl rfl ?_
  refine lm (v := .bool false) rfl rfl ?_
  refine lv (v := bxV exB) rfl rfl (yb_load (n := 9) (off := 0) rfl (by kernel_rfl) (.head _) Tryd.underlying26 rfl (by kernel_rfl) (Nat.le_refl 9) (by kernel_rfl)) ?_
  refine lv (v := .bool false) rfl rfl (yb_call (f := 23) (args := #[bxV exB, .int .i64 3]) (fun _ => by kernel_rfl) fun W hW => aboard_is (b := exB) (c := 3) (by decide +kernel) W) ?_
  refine lm (v := .bool false) rfl rfl ?_
  refine wpL_done (fun W4 hW4 => ?_)
  refine (show Code.wp _ _ _ _ _ from ?_)
  refine wp_cond_false rfl ?_
  refine wp_skip ?_
  refine (show Code.wp _ _ _ _ _ from ?_)
  refine wp_seq ?_
  refine wp_region_L (W0 := w) [(g1, .cells (bxC exB) 26 (0, 0))] (hW4) ?_
  refine lm (v := .pointer (some ⟨g1, 8, none⟩)) rfl rfl ?_
  refine wpL_s [(g1, .cells (bxC exR) 26 (0, 0))] rfl rfl (st_row (off := 8) (v := .bool true) rfl (by kernel_rfl) (by kernel_rfl) (.head _) Bg1 (by kernel_rfl) (by first | (simp [Value.cells]; done) | exact Nat.le_of_ble_eq_true rfl) (by intro v hv; simp [Value.cells, strV] at hv; first | (subst hv; rfl) | (rcases hv with rfl <;> rfl)) (by kernel_rfl) (List.forall_mem_cons.2 ⟨.inl rfl, (List.forall_mem_nil _)⟩)) ?_
  refine wpL_done (fun W5 hW5 => ?_)
  refine (show Code.wp _ _ _ _ _ from ?_)
  refine wp_seq ?_
  refine wp_seq ?_
  refine wp_region_L (W0 := w) [(g1, .cells (bxC exR) 26 (0, 0))] (hW5) ?_
  refine lv (v := bxV exR) rfl rfl (yb_load (n := 9) (off := 0) rfl (by kernel_rfl) (.head _) Tryd.underlying26 rfl (by kernel_rfl) (Nat.le_refl 9) (by kernel_rfl)) ?_
  refine lv (v := .tuple #[strV [52, 53, 82, 49], .int .i64 0]) rfl rfl (yb_call (f := 18) (args := #[bxV exR]) (fun _ => by kernel_rfl) fun W hW => bcode_is (b := exR) (by kernel_rfl) W (HE.out.keep hW.1)) ?_
  refine lm (v := .tuple #[strV [52, 53, 82, 49], .int .i64 0]) rfl rfl ?_
  refine lm (v := strV [52, 53, 82, 49]) rfl rfl ?_
  refine lm (v := .int .i64 0) rfl rfl ?_
  refine lm (v := strV [52, 53, 82, 49]) rfl rfl ?_
  refine lm (v := .int .i64 0) rfl rfl ?_
  refine wpL_done (fun W6 hW6 => ?_)
  refine (show Code.wp _ _ _ _ _ from ?_)
  refine wp_seq ?_
  refine wp_region_L (W0 := w) [(g1, .cells (bxC exR) 26 (0, 0))] (hW6) ?_
  refine lm (v := strV [52, 53, 82, 49]) rfl rfl ?_
  refine lp (v := .bool false) rfl rfl (run_bin rfl (vx := strV [52, 53, 82, 49]) (vy := strV [52, 53, 82, 49]) (by kernel_rfl) (by kernel_rfl) fun w => bs_neq (decide_eq_true rfl) w) ?_
  refine lm (v := .bool false) rfl rfl ?_
  refine lm (v := .int .i64 0) rfl rfl ?_
  refine lm (v := .bool false) rfl rfl ?_
  refine lm (v := .bool false) rfl rfl ?_
  refine wpL_done (fun W7 hW7 => ?_)
  refine (show Code.wp _ _ _ _ _ from ?_)
  refine wp_cond_false rfl ?_
  refine wp_skip ?_
  refine (show Code.wp _ _ _ _ _ from ?_)
  refine wp_seq ?_
  refine wp_region_L (W0 := w) [(g1, .cells (bxC exR) 26 (0, 0))] (hW7) ?_
  refine lv (v := bxV exB) rfl rfl (yb_call (f := 13) (args := #[]) (fun _ => by kernel_rfl) fun W hW => example_any W) ?_
  refine lv (v := bxV exB) rfl rfl (yb_call (f := 13) (args := #[]) (fun _ => by kernel_rfl) fun W hW => example_any W) ?_
  refine lv (v := bxV exB) rfl rfl (yb_call (f := 13) (args := #[]) (fun _ => by kernel_rfl) fun W hW => example_any W) ?_
  refine lv (v := bxV exB) rfl rfl (yb_call (f := 13) (args := #[]) (fun _ => by kernel_rfl) fun W hW => example_any W) ?_
  refine lv (v := bxV exB) rfl rfl (yb_call (f := 13) (args := #[]) (fun _ => by kernel_rfl) fun W hW => example_any W) ?_
  refine lv (v := bxV exB) rfl rfl (yb_call (f := 13) (args := #[]) (fun _ => by kernel_rfl) fun W hW => example_any W) ?_
  refine wpL_new (fun g => .pointer (some ⟨g, 0, none⟩)) (obi := .cells (bxC bx0) 26 (0, 0)) rfl rfl (fun _ => by kernel_rfl) (fun _ => by simp only [List.setIfInBounds_toArray, List.set_cons_succ, List.set_cons_zero] <;> rfl) fun g2 Bg2 Fg2 => ?_
  obtain dj3_0 : g1 ≠ g2 := by simpa only [dj_app_l, dj_app_r, dj_cons_l, dj_cons_r, dj_nil_l, dj_nil_r, dk_app, dk_cons, dk_nil, and_true, true_and, and_assoc] using (show Dk g2 [(g1, .cells (bxC exR) 26 (0, 0))] from Fg2)
  refine wpL_new (fun g => .pointer (some ⟨g, 0, none⟩)) (obi := .cells (bxC bx0) 26 (0, 0)) rfl rfl (fun _ => by kernel_rfl) (fun _ => by simp only [List.setIfInBounds_toArray, List.set_cons_succ, List.set_cons_zero] <;> rfl) fun g4 Bg4 Fg4 => ?_
  obtain ⟨dj5_0, dj5_1⟩ : g2 ≠ g4 ∧ g1 ≠ g4 := by simpa only [dj_app_l, dj_app_r, dj_cons_l, dj_cons_r, dj_nil_l, dj_nil_r, dk_app, dk_cons, dk_nil, and_true, true_and, and_assoc] using (show Dk g4 [(g2, .cells (bxC bx0) 26 (0, 0)), (g1, .cells (bxC exR) 26 (0, 0))] from Fg4)
  refine wpL_new (fun g => .pointer (some ⟨g, 0, none⟩)) (obi := .cells (bxC bx0) 26 (0, 0)) rfl rfl (fun _ => by kernel_rfl) (fun _ => by simp only [List.setIfInBounds_toArray, List.set_cons_succ, List.set_cons_zero] <;> rfl) fun g6 Bg6 Fg6 => ?_
  obtain ⟨dj7_0, dj7_1, dj7_2⟩ : g4 ≠ g6 ∧ g2 ≠ g6 ∧ g1 ≠ g6 := by simpa only [dj_app_l, dj_app_r, dj_cons_l, dj_cons_r, dj_nil_l, dj_nil_r, dk_app, dk_cons, dk_nil, and_true, true_and, and_assoc] using (show Dk g6 [(g4, .cells (bxC bx0) 26 (0, 0)), (g2, .cells (bxC bx0) 26 (0, 0)), (g1, .cells (bxC exR) 26 (0, 0))] from Fg6)
  refine wpL_new (fun g => .pointer (some ⟨g, 0, none⟩)) (obi := .cells (bxC bx0) 26 (0, 0)) rfl rfl (fun _ => by kernel_rfl) (fun _ => by simp only [List.setIfInBounds_toArray, List.set_cons_succ, List.set_cons_zero] <;> rfl) fun g8 Bg8 Fg8 => ?_
  obtain ⟨dj9_0, dj9_1, dj9_2, dj9_3⟩ : g6 ≠ g8 ∧ g4 ≠ g8 ∧ g2 ≠ g8 ∧ g1 ≠ g8 := by simpa only [dj_app_l, dj_app_r, dj_cons_l, dj_cons_r, dj_nil_l, dj_nil_r, dk_app, dk_cons, dk_nil, and_true, true_and, and_assoc] using (show Dk g8 [(g6, .cells (bxC bx0) 26 (0, 0)), (g4, .cells (bxC bx0) 26 (0, 0)), (g2, .cells (bxC bx0) 26 (0, 0)), (g1, .cells (bxC exR) 26 (0, 0))] from Fg8)
  refine wpL_new (fun g => .pointer (some ⟨g, 0, none⟩)) (obi := .cells (bxC bx0) 26 (0, 0)) rfl rfl (fun _ => by kernel_rfl) (fun _ => by simp only [List.setIfInBounds_toArray, List.set_cons_succ, List.set_cons_zero] <;> rfl) fun g10 Bg10 Fg10 => ?_
  obtain ⟨dj11_0, dj11_1, dj11_2, dj11_3, dj11_4⟩ : g8 ≠ g10 ∧ g6 ≠ g10 ∧ g4 ≠ g10 ∧ g2 ≠ g10 ∧ g1 ≠ g10 := by simpa only [dj_app_l, dj_app_r, dj_cons_l, dj_cons_r, dj_nil_l, dj_nil_r, dk_app, dk_cons, dk_nil, and_true, true_and, and_assoc] using (show Dk g10 [(g8, .cells (bxC bx0) 26 (0, 0)), (g6, .cells (bxC bx0) 26 (0, 0)), (g4, .cells (bxC bx0) 26 (0, 0)), (g2, .cells (bxC bx0) 26 (0, 0)), (g1, .cells (bxC exR) 26 (0, 0))] from Fg10)
  refine wpL_new (fun g => .pointer (some ⟨g, 0, none⟩)) (obi := .cells (bxC bx0) 26 (0, 0)) rfl rfl (fun _ => by kernel_rfl) (fun _ => by simp only [List.setIfInBounds_toArray, List.set_cons_succ, List.set_cons_zero] <;> rfl) fun g12 Bg12 Fg12 => ?_
  obtain ⟨dj13_0, dj13_1, dj13_2, dj13_3, dj13_4, dj13_5⟩ : g10 ≠ g12 ∧ g8 ≠ g12 ∧ g6 ≠ g12 ∧ g4 ≠ g12 ∧ g2 ≠ g12 ∧ g1 ≠ g12 := by simpa only [dj_app_l, dj_app_r, dj_cons_l, dj_cons_r, dj_nil_l, dj_nil_r, dk_app, dk_cons, dk_nil, and_true, true_and, and_assoc] using (show Dk g12 [(g10, .cells (bxC bx0) 26 (0, 0)), (g8, .cells (bxC bx0) 26 (0, 0)), (g6, .cells (bxC bx0) 26 (0, 0)), (g4, .cells (bxC bx0) 26 (0, 0)), (g2, .cells (bxC bx0) 26 (0, 0)), (g1, .cells (bxC exR) 26 (0, 0))] from Fg12)
  refine wpL_s [(g12, .cells (bxC bx0) 26 (0, 0)), (g10, .cells (bxC bx0) 26 (0, 0)), (g8, .cells (bxC bx0) 26 (0, 0)), (g6, .cells (bxC bx0) 26 (0, 0)), (g4, .cells (bxC bx0) 26 (0, 0)), (g2, .cells (bxC exB) 26 (0, 0)), (g1, .cells (bxC exR) 26 (0, 0))] rfl rfl (st_bx (b := exB) rfl (by kernel_rfl) (by kernel_rfl) (.tail _ (.tail _ (.tail _ (.tail _ (.tail _ (.head _)))))) rfl Bg2 (by kernel_rfl) (List.forall_mem_cons.2 ⟨.inr ⟨(.head _), (by first | assumption | exact Ne.symm (by assumption))⟩, (List.forall_mem_cons.2 ⟨.inr ⟨(.tail _ (.head _)), (by first | assumption | exact Ne.symm (by assumption))⟩, (List.forall_mem_cons.2 ⟨.inr ⟨(.tail _ (.tail _ (.head _))), (by first | assumption | exact Ne.symm (by assumption))⟩, (List.forall_mem_cons.2 ⟨.inr ⟨(.tail _ (.tail _ (.tail _ (.head _)))), (by first | assumption | exact Ne.symm (by assumption))⟩, (List.forall_mem_cons.2 ⟨.inr ⟨(.tail _ (.tail _ (.tail _ (.tail _ (.head _))))), (by first | assumption | exact Ne.symm (by assumption))⟩, (List.forall_mem_cons.2 ⟨.inl rfl, (List.forall_mem_cons.2 ⟨.inr ⟨(.tail _ (.tail _ (.tail _ (.tail _ (.tail _ (.tail _ (.head _))))))), (by first | assumption | exact Ne.symm (by assumption))⟩, (List.forall_mem_nil _)⟩)⟩)⟩)⟩)⟩)⟩)⟩)) ?_
  refine wpL_s [(g12, .cells (bxC bx0) 26 (0, 0)), (g10, .cells (bxC bx0) 26 (0, 0)), (g8, .cells (bxC bx0) 26 (0, 0)), (g6, .cells (bxC bx0) 26 (0, 0)), (g4, .cells (bxC exB) 26 (0, 0)), (g2, .cells (bxC exB) 26 (0, 0)), (g1, .cells (bxC exR) 26 (0, 0))] rfl rfl (st_bx (b := exB) rfl (by kernel_rfl) (by kernel_rfl) (.tail _ (.tail _ (.tail _ (.tail _ (.head _))))) rfl Bg4 (by kernel_rfl) (List.forall_mem_cons.2 ⟨.inr ⟨(.head _), (by first | assumption | exact Ne.symm (by assumption))⟩, (List.forall_mem_cons.2 ⟨.inr ⟨(.tail _ (.head _)), (by first | assumption | exact Ne.symm (by assumption))⟩, (List.forall_mem_cons.2 ⟨.inr ⟨(.tail _ (.tail _ (.head _))), (by first | assumption | exact Ne.symm (by assumption))⟩, (List.forall_mem_cons.2 ⟨.inr ⟨(.tail _ (.tail _ (.tail _ (.head _)))), (by first | assumption | exact Ne.symm (by assumption))⟩, (List.forall_mem_cons.2 ⟨.inl rfl, (List.forall_mem_cons.2 ⟨.inr ⟨(.tail _ (.tail _ (.tail _ (.tail _ (.tail _ (.head _)))))), (by first | assumption | exact Ne.symm (by assumption))⟩, (List.forall_mem_cons.2 ⟨.inr ⟨(.tail _ (.tail _ (.tail _ (.tail _ (.tail _ (.tail _ (.head _))))))), (by first | assumption | exact Ne.symm (by assumption))⟩, (List.forall_mem_nil _)⟩)⟩)⟩)⟩)⟩)⟩)⟩)) ?_
  refine wpL_s [(g12, .cells (bxC bx0) 26 (0, 0)), (g10, .cells (bxC bx0) 26 (0, 0)), (g8, .cells (bxC bx0) 26 (0, 0)), (g6, .cells (bxC exB) 26 (0, 0)), (g4, .cells (bxC exB) 26 (0, 0)), (g2, .cells (bxC exB) 26 (0, 0)), (g1, .cells (bxC exR) 26 (0, 0))] rfl rfl (st_bx (b := exB) rfl (by kernel_rfl) (by kernel_rfl) (.tail _ (.tail _ (.tail _ (.head _)))) rfl Bg6 (by kernel_rfl) (List.forall_mem_cons.2 ⟨.inr ⟨(.head _), (by first | assumption | exact Ne.symm (by assumption))⟩, (List.forall_mem_cons.2 ⟨.inr ⟨(.tail _ (.head _)), (by first | assumption | exact Ne.symm (by assumption))⟩, (List.forall_mem_cons.2 ⟨.inr ⟨(.tail _ (.tail _ (.head _))), (by first | assumption | exact Ne.symm (by assumption))⟩, (List.forall_mem_cons.2 ⟨.inl rfl, (List.forall_mem_cons.2 ⟨.inr ⟨(.tail _ (.tail _ (.tail _ (.tail _ (.head _))))), (by first | assumption | exact Ne.symm (by assumption))⟩, (List.forall_mem_cons.2 ⟨.inr ⟨(.tail _ (.tail _ (.tail _ (.tail _ (.tail _ (.head _)))))), (by first | assumption | exact Ne.symm (by assumption))⟩, (List.forall_mem_cons.2 ⟨.inr ⟨(.tail _ (.tail _ (.tail _ (.tail _ (.tail _ (.tail _ (.head _))))))), (by first | assumption | exact Ne.symm (by assumption))⟩, (List.forall_mem_nil _)⟩)⟩)⟩)⟩)⟩)⟩)⟩)) ?_
  refine wpL_s [(g12, .cells (bxC bx0) 26 (0, 0)), (g10, .cells (bxC bx0) 26 (0, 0)), (g8, .cells (bxC exB) 26 (0, 0)), (g6, .cells (bxC exB) 26 (0, 0)), (g4, .cells (bxC exB) 26 (0, 0)), (g2, .cells (bxC exB) 26 (0, 0)), (g1, .cells (bxC exR) 26 (0, 0))] rfl rfl (st_bx (b := exB) rfl (by kernel_rfl) (by kernel_rfl) (.tail _ (.tail _ (.head _))) rfl Bg8 (by kernel_rfl) (List.forall_mem_cons.2 ⟨.inr ⟨(.head _), (by first | assumption | exact Ne.symm (by assumption))⟩, (List.forall_mem_cons.2 ⟨.inr ⟨(.tail _ (.head _)), (by first | assumption | exact Ne.symm (by assumption))⟩, (List.forall_mem_cons.2 ⟨.inl rfl, (List.forall_mem_cons.2 ⟨.inr ⟨(.tail _ (.tail _ (.tail _ (.head _)))), (by first | assumption | exact Ne.symm (by assumption))⟩, (List.forall_mem_cons.2 ⟨.inr ⟨(.tail _ (.tail _ (.tail _ (.tail _ (.head _))))), (by first | assumption | exact Ne.symm (by assumption))⟩, (List.forall_mem_cons.2 ⟨.inr ⟨(.tail _ (.tail _ (.tail _ (.tail _ (.tail _ (.head _)))))), (by first | assumption | exact Ne.symm (by assumption))⟩, (List.forall_mem_cons.2 ⟨.inr ⟨(.tail _ (.tail _ (.tail _ (.tail _ (.tail _ (.tail _ (.head _))))))), (by first | assumption | exact Ne.symm (by assumption))⟩, (List.forall_mem_nil _)⟩)⟩)⟩)⟩)⟩)⟩)⟩)) ?_
  refine wpL_s [(g12, .cells (bxC bx0) 26 (0, 0)), (g10, .cells (bxC exB) 26 (0, 0)), (g8, .cells (bxC exB) 26 (0, 0)), (g6, .cells (bxC exB) 26 (0, 0)), (g4, .cells (bxC exB) 26 (0, 0)), (g2, .cells (bxC exB) 26 (0, 0)), (g1, .cells (bxC exR) 26 (0, 0))] rfl rfl (st_bx (b := exB) rfl (by kernel_rfl) (by kernel_rfl) (.tail _ (.head _)) rfl Bg10 (by kernel_rfl) (List.forall_mem_cons.2 ⟨.inr ⟨(.head _), (by first | assumption | exact Ne.symm (by assumption))⟩, (List.forall_mem_cons.2 ⟨.inl rfl, (List.forall_mem_cons.2 ⟨.inr ⟨(.tail _ (.tail _ (.head _))), (by first | assumption | exact Ne.symm (by assumption))⟩, (List.forall_mem_cons.2 ⟨.inr ⟨(.tail _ (.tail _ (.tail _ (.head _)))), (by first | assumption | exact Ne.symm (by assumption))⟩, (List.forall_mem_cons.2 ⟨.inr ⟨(.tail _ (.tail _ (.tail _ (.tail _ (.head _))))), (by first | assumption | exact Ne.symm (by assumption))⟩, (List.forall_mem_cons.2 ⟨.inr ⟨(.tail _ (.tail _ (.tail _ (.tail _ (.tail _ (.head _)))))), (by first | assumption | exact Ne.symm (by assumption))⟩, (List.forall_mem_cons.2 ⟨.inr ⟨(.tail _ (.tail _ (.tail _ (.tail _ (.tail _ (.tail _ (.head _))))))), (by first | assumption | exact Ne.symm (by assumption))⟩, (List.forall_mem_nil _)⟩)⟩)⟩)⟩)⟩)⟩)⟩)) ?_
  refine wpL_s [(g12, .cells (bxC exB) 26 (0, 0)), (g10, .cells (bxC exB) 26 (0, 0)), (g8, .cells (bxC exB) 26 (0, 0)), (g6, .cells (bxC exB) 26 (0, 0)), (g4, .cells (bxC exB) 26 (0, 0)), (g2, .cells (bxC exB) 26 (0, 0)), (g1, .cells (bxC exR) 26 (0, 0))] rfl rfl (st_bx (b := exB) rfl (by kernel_rfl) (by kernel_rfl) (.head _) rfl Bg12 (by kernel_rfl) (List.forall_mem_cons.2 ⟨.inl rfl, (List.forall_mem_cons.2 ⟨.inr ⟨(.tail _ (.head _)), (by first | assumption | exact Ne.symm (by assumption))⟩, (List.forall_mem_cons.2 ⟨.inr ⟨(.tail _ (.tail _ (.head _))), (by first | assumption | exact Ne.symm (by assumption))⟩, (List.forall_mem_cons.2 ⟨.inr ⟨(.tail _ (.tail _ (.tail _ (.head _)))), (by first | assumption | exact Ne.symm (by assumption))⟩, (List.forall_mem_cons.2 ⟨.inr ⟨(.tail _ (.tail _ (.tail _ (.tail _ (.head _))))), (by first | assumption | exact Ne.symm (by assumption))⟩, (List.forall_mem_cons.2 ⟨.inr ⟨(.tail _ (.tail _ (.tail _ (.tail _ (.tail _ (.head _)))))), (by first | assumption | exact Ne.symm (by assumption))⟩, (List.forall_mem_cons.2 ⟨.inr ⟨(.tail _ (.tail _ (.tail _ (.tail _ (.tail _ (.tail _ (.head _))))))), (by first | assumption | exact Ne.symm (by assumption))⟩, (List.forall_mem_nil _)⟩)⟩)⟩)⟩)⟩)⟩)⟩)) ?_
  refine wpL_done (fun W8 hW8 => ?_)
  refine (show Code.wp _ _ _ _ _ from ?_)
  refine wp_seq ?_
  refine wp_region_L (W0 := w) [(g12, .cells (bxC exB) 26 (0, 0)), (g10, .cells (bxC exB) 26 (0, 0)), (g8, .cells (bxC exB) 26 (0, 0)), (g6, .cells (bxC exB) 26 (0, 0)), (g4, .cells (bxC exB) 26 (0, 0)), (g2, .cells (bxC exB) 26 (0, 0)), (g1, .cells (bxC exR) 26 (0, 0))] (hW8) ?_
  refine lm (v := .pointer (some ⟨g2, 2, none⟩)) rfl rfl ?_
  refine wpL_s [(g12, .cells (bxC exB) 26 (0, 0)), (g10, .cells (bxC exB) 26 (0, 0)), (g8, .cells (bxC exB) 26 (0, 0)), (g6, .cells (bxC exB) 26 (0, 0)), (g4, .cells (bxC exB) 26 (0, 0)), (g2, .cells (bxC exS) 26 (0, 0)), (g1, .cells (bxC exR) 26 (0, 0))] rfl rfl (st_row (off := 2) (v := .int .u8 20) rfl (by kernel_rfl) (by kernel_rfl) (.tail _ (.tail _ (.tail _ (.tail _ (.tail _ (.head _)))))) Bg2 (by kernel_rfl) (by first | (simp [Value.cells]; done) | exact Nat.le_of_ble_eq_true rfl) (by intro v hv; simp [Value.cells, strV] at hv; first | (subst hv; rfl) | (rcases hv with rfl <;> rfl)) (by kernel_rfl) (List.forall_mem_cons.2 ⟨.inr ⟨(.head _), (by first | assumption | exact Ne.symm (by assumption))⟩, (List.forall_mem_cons.2 ⟨.inr ⟨(.tail _ (.head _)), (by first | assumption | exact Ne.symm (by assumption))⟩, (List.forall_mem_cons.2 ⟨.inr ⟨(.tail _ (.tail _ (.head _))), (by first | assumption | exact Ne.symm (by assumption))⟩, (List.forall_mem_cons.2 ⟨.inr ⟨(.tail _ (.tail _ (.tail _ (.head _)))), (by first | assumption | exact Ne.symm (by assumption))⟩, (List.forall_mem_cons.2 ⟨.inr ⟨(.tail _ (.tail _ (.tail _ (.tail _ (.head _))))), (by first | assumption | exact Ne.symm (by assumption))⟩, (List.forall_mem_cons.2 ⟨.inl rfl, (List.forall_mem_cons.2 ⟨.inr ⟨(.tail _ (.tail _ (.tail _ (.tail _ (.tail _ (.tail _ (.head _))))))), (by first | assumption | exact Ne.symm (by assumption))⟩, (List.forall_mem_nil _)⟩)⟩)⟩)⟩)⟩)⟩)⟩)) ?_
  refine lm (v := .pointer (some ⟨g4, 4, none⟩)) rfl rfl ?_
  refine wpL_s [(g12, .cells (bxC exB) 26 (0, 0)), (g10, .cells (bxC exB) 26 (0, 0)), (g8, .cells (bxC exB) 26 (0, 0)), (g6, .cells (bxC exB) 26 (0, 0)), (g4, .cells (bxC exH) 26 (0, 0)), (g2, .cells (bxC exS) 26 (0, 0)), (g1, .cells (bxC exR) 26 (0, 0))] rfl rfl (st_row (off := 4) (v := .int .i64 40001) rfl (by kernel_rfl) (by kernel_rfl) (.tail _ (.tail _ (.tail _ (.tail _ (.head _))))) Bg4 (by kernel_rfl) (by first | (simp [Value.cells]; done) | exact Nat.le_of_ble_eq_true rfl) (by intro v hv; simp [Value.cells, strV] at hv; first | (subst hv; rfl) | (rcases hv with rfl <;> rfl)) (by kernel_rfl) (List.forall_mem_cons.2 ⟨.inr ⟨(.head _), (by first | assumption | exact Ne.symm (by assumption))⟩, (List.forall_mem_cons.2 ⟨.inr ⟨(.tail _ (.head _)), (by first | assumption | exact Ne.symm (by assumption))⟩, (List.forall_mem_cons.2 ⟨.inr ⟨(.tail _ (.tail _ (.head _))), (by first | assumption | exact Ne.symm (by assumption))⟩, (List.forall_mem_cons.2 ⟨.inr ⟨(.tail _ (.tail _ (.tail _ (.head _)))), (by first | assumption | exact Ne.symm (by assumption))⟩, (List.forall_mem_cons.2 ⟨.inl rfl, (List.forall_mem_cons.2 ⟨.inr ⟨(.tail _ (.tail _ (.tail _ (.tail _ (.tail _ (.head _)))))), (by first | assumption | exact Ne.symm (by assumption))⟩, (List.forall_mem_cons.2 ⟨.inr ⟨(.tail _ (.tail _ (.tail _ (.tail _ (.tail _ (.tail _ (.head _))))))), (by first | assumption | exact Ne.symm (by assumption))⟩, (List.forall_mem_nil _)⟩)⟩)⟩)⟩)⟩)⟩)⟩)) ?_
  refine lm (v := .pointer (some ⟨g6, 6, none⟩)) rfl rfl ?_
  refine wpL_s [(g12, .cells (bxC exB) 26 (0, 0)), (g10, .cells (bxC exB) 26 (0, 0)), (g8, .cells (bxC exB) 26 (0, 0)), (g6, .cells (bxC exD) 26 (0, 0)), (g4, .cells (bxC exH) 26 (0, 0)), (g2, .cells (bxC exS) 26 (0, 0)), (g1, .cells (bxC exR) 26 (0, 0))] rfl rfl (st_row (off := 6) (v := .int .i64 1) rfl (by kernel_rfl) (by kernel_rfl) (.tail _ (.tail _ (.tail _ (.head _)))) Bg6 (by kernel_rfl) (by first | (simp [Value.cells]; done) | exact Nat.le_of_ble_eq_true rfl) (by intro v hv; simp [Value.cells, strV] at hv; first | (subst hv; rfl) | (rcases hv with rfl <;> rfl)) (by kernel_rfl) (List.forall_mem_cons.2 ⟨.inr ⟨(.head _), (by first | assumption | exact Ne.symm (by assumption))⟩, (List.forall_mem_cons.2 ⟨.inr ⟨(.tail _ (.head _)), (by first | assumption | exact Ne.symm (by assumption))⟩, (List.forall_mem_cons.2 ⟨.inr ⟨(.tail _ (.tail _ (.head _))), (by first | assumption | exact Ne.symm (by assumption))⟩, (List.forall_mem_cons.2 ⟨.inl rfl, (List.forall_mem_cons.2 ⟨.inr ⟨(.tail _ (.tail _ (.tail _ (.tail _ (.head _))))), (by first | assumption | exact Ne.symm (by assumption))⟩, (List.forall_mem_cons.2 ⟨.inr ⟨(.tail _ (.tail _ (.tail _ (.tail _ (.tail _ (.head _)))))), (by first | assumption | exact Ne.symm (by assumption))⟩, (List.forall_mem_cons.2 ⟨.inr ⟨(.tail _ (.tail _ (.tail _ (.tail _ (.tail _ (.tail _ (.head _))))))), (by first | assumption | exact Ne.symm (by assumption))⟩, (List.forall_mem_nil _)⟩)⟩)⟩)⟩)⟩)⟩)⟩)) ?_
  refine lm (v := .pointer (some ⟨g8, 6, none⟩)) rfl rfl ?_
  refine wpL_s [(g12, .cells (bxC exB) 26 (0, 0)), (g10, .cells (bxC exB) 26 (0, 0)), (g8, .cells (bxC exL) 26 (0, 0)), (g6, .cells (bxC exD) 26 (0, 0)), (g4, .cells (bxC exH) 26 (0, 0)), (g2, .cells (bxC exS) 26 (0, 0)), (g1, .cells (bxC exR) 26 (0, 0))] rfl rfl (st_row (off := 6) (v := .int .i64 20) rfl (by kernel_rfl) (by kernel_rfl) (.tail _ (.tail _ (.head _))) Bg8 (by kernel_rfl) (by first | (simp [Value.cells]; done) | exact Nat.le_of_ble_eq_true rfl) (by intro v hv; simp [Value.cells, strV] at hv; first | (subst hv; rfl) | (rcases hv with rfl <;> rfl)) (by kernel_rfl) (List.forall_mem_cons.2 ⟨.inr ⟨(.head _), (by first | assumption | exact Ne.symm (by assumption))⟩, (List.forall_mem_cons.2 ⟨.inr ⟨(.tail _ (.head _)), (by first | assumption | exact Ne.symm (by assumption))⟩, (List.forall_mem_cons.2 ⟨.inl rfl, (List.forall_mem_cons.2 ⟨.inr ⟨(.tail _ (.tail _ (.tail _ (.head _)))), (by first | assumption | exact Ne.symm (by assumption))⟩, (List.forall_mem_cons.2 ⟨.inr ⟨(.tail _ (.tail _ (.tail _ (.tail _ (.head _))))), (by first | assumption | exact Ne.symm (by assumption))⟩, (List.forall_mem_cons.2 ⟨.inr ⟨(.tail _ (.tail _ (.tail _ (.tail _ (.tail _ (.head _)))))), (by first | assumption | exact Ne.symm (by assumption))⟩, (List.forall_mem_cons.2 ⟨.inr ⟨(.tail _ (.tail _ (.tail _ (.tail _ (.tail _ (.tail _ (.head _))))))), (by first | assumption | exact Ne.symm (by assumption))⟩, (List.forall_mem_nil _)⟩)⟩)⟩)⟩)⟩)⟩)⟩)) ?_
  refine lm (v := .pointer (some ⟨g10, 7, none⟩)) rfl rfl ?_
  refine wpL_s [(g12, .cells (bxC exB) 26 (0, 0)), (g10, .cells (bxC exC) 26 (0, 0)), (g8, .cells (bxC exL) 26 (0, 0)), (g6, .cells (bxC exD) 26 (0, 0)), (g4, .cells (bxC exH) 26 (0, 0)), (g2, .cells (bxC exS) 26 (0, 0)), (g1, .cells (bxC exR) 26 (0, 0))] rfl rfl (st_row (off := 7) (v := .int .u8 10) rfl (by kernel_rfl) (by kernel_rfl) (.tail _ (.head _)) Bg10 (by kernel_rfl) (by first | (simp [Value.cells]; done) | exact Nat.le_of_ble_eq_true rfl) (by intro v hv; simp [Value.cells, strV] at hv; first | (subst hv; rfl) | (rcases hv with rfl <;> rfl)) (by kernel_rfl) (List.forall_mem_cons.2 ⟨.inr ⟨(.head _), (by first | assumption | exact Ne.symm (by assumption))⟩, (List.forall_mem_cons.2 ⟨.inl rfl, (List.forall_mem_cons.2 ⟨.inr ⟨(.tail _ (.tail _ (.head _))), (by first | assumption | exact Ne.symm (by assumption))⟩, (List.forall_mem_cons.2 ⟨.inr ⟨(.tail _ (.tail _ (.tail _ (.head _)))), (by first | assumption | exact Ne.symm (by assumption))⟩, (List.forall_mem_cons.2 ⟨.inr ⟨(.tail _ (.tail _ (.tail _ (.tail _ (.head _))))), (by first | assumption | exact Ne.symm (by assumption))⟩, (List.forall_mem_cons.2 ⟨.inr ⟨(.tail _ (.tail _ (.tail _ (.tail _ (.tail _ (.head _)))))), (by first | assumption | exact Ne.symm (by assumption))⟩, (List.forall_mem_cons.2 ⟨.inr ⟨(.tail _ (.tail _ (.tail _ (.tail _ (.tail _ (.tail _ (.head _))))))), (by first | assumption | exact Ne.symm (by assumption))⟩, (List.forall_mem_nil _)⟩)⟩)⟩)⟩)⟩)⟩)⟩)) ?_
  refine lm (v := .pointer (some ⟨g12, 1, none⟩)) rfl rfl ?_
  refine wpL_s [(g12, .cells (bxC exN) 26 (0, 0)), (g10, .cells (bxC exC) 26 (0, 0)), (g8, .cells (bxC exL) 26 (0, 0)), (g6, .cells (bxC exD) 26 (0, 0)), (g4, .cells (bxC exH) 26 (0, 0)), (g2, .cells (bxC exS) 26 (0, 0)), (g1, .cells (bxC exR) 26 (0, 0))] rfl rfl (st_row (off := 1) (v := strV [67, 83, 81, 85, 51, 48, 53, 52, 51, 56, 52]) rfl (by kernel_rfl) (by kernel_rfl) (.head _) Bg12 (by kernel_rfl) (by first | (simp [Value.cells]; done) | exact Nat.le_of_ble_eq_true rfl) (by intro v hv; simp [Value.cells, strV] at hv; first | (subst hv; rfl) | (rcases hv with rfl <;> rfl)) (by kernel_rfl) (List.forall_mem_cons.2 ⟨.inl rfl, (List.forall_mem_cons.2 ⟨.inr ⟨(.tail _ (.head _)), (by first | assumption | exact Ne.symm (by assumption))⟩, (List.forall_mem_cons.2 ⟨.inr ⟨(.tail _ (.tail _ (.head _))), (by first | assumption | exact Ne.symm (by assumption))⟩, (List.forall_mem_cons.2 ⟨.inr ⟨(.tail _ (.tail _ (.tail _ (.head _)))), (by first | assumption | exact Ne.symm (by assumption))⟩, (List.forall_mem_cons.2 ⟨.inr ⟨(.tail _ (.tail _ (.tail _ (.tail _ (.head _))))), (by first | assumption | exact Ne.symm (by assumption))⟩, (List.forall_mem_cons.2 ⟨.inr ⟨(.tail _ (.tail _ (.tail _ (.tail _ (.tail _ (.head _)))))), (by first | assumption | exact Ne.symm (by assumption))⟩, (List.forall_mem_cons.2 ⟨.inr ⟨(.tail _ (.tail _ (.tail _ (.tail _ (.tail _ (.tail _ (.head _))))))), (by first | assumption | exact Ne.symm (by assumption))⟩, (List.forall_mem_nil _)⟩)⟩)⟩)⟩)⟩)⟩)⟩)) ?_
  refine wpL_done (fun W9 hW9 => ?_)
  refine (show Code.wp _ _ _ _ _ from ?_)
  refine wp_seq ?_
  refine wp_seq ?_
  refine wp_region_L (W0 := w) [(g12, .cells (bxC exN) 26 (0, 0)), (g10, .cells (bxC exC) 26 (0, 0)), (g8, .cells (bxC exL) 26 (0, 0)), (g6, .cells (bxC exD) 26 (0, 0)), (g4, .cells (bxC exH) 26 (0, 0)), (g2, .cells (bxC exS) 26 (0, 0)), (g1, .cells (bxC exR) 26 (0, 0))] (hW9) ?_
  refine lv (v := bxV exS) rfl rfl (yb_load (n := 9) (off := 0) rfl (by kernel_rfl) (.tail _ (.tail _ (.tail _ (.tail _ (.tail _ (.head _)))))) Tryd.underlying26 rfl (by kernel_rfl) (Nat.le_refl 9) (by kernel_rfl)) ?_
  refine lv (v := bxV exH) rfl rfl (yb_load (n := 9) (off := 0) rfl (by kernel_rfl) (.tail _ (.tail _ (.tail _ (.tail _ (.head _))))) Tryd.underlying26 rfl (by kernel_rfl) (Nat.le_refl 9) (by kernel_rfl)) ?_
  refine lv (v := bxV exD) rfl rfl (yb_load (n := 9) (off := 0) rfl (by kernel_rfl) (.tail _ (.tail _ (.tail _ (.head _)))) Tryd.underlying26 rfl (by kernel_rfl) (Nat.le_refl 9) (by kernel_rfl)) ?_
  refine lv (v := bxV exL) rfl rfl (yb_load (n := 9) (off := 0) rfl (by kernel_rfl) (.tail _ (.tail _ (.head _))) Tryd.underlying26 rfl (by kernel_rfl) (Nat.le_refl 9) (by kernel_rfl)) ?_
  refine lv (v := bxV exC) rfl rfl (yb_load (n := 9) (off := 0) rfl (by kernel_rfl) (.tail _ (.head _)) Tryd.underlying26 rfl (by kernel_rfl) (Nat.le_refl 9) (by kernel_rfl)) ?_
  refine lv (v := bxV exN) rfl rfl (yb_load (n := 9) (off := 0) rfl (by kernel_rfl) (.head _) Tryd.underlying26 rfl (by kernel_rfl) (Nat.le_refl 9) (by kernel_rfl)) ?_
  refine wpL_new (fun g => .slice (some ⟨g, 0, none⟩) 6 6) (obi := .cells ((bcs [exS, exH, exD, exL, exC, exN]).toArray) 26 (0, 0)) rfl rfl (fun _ => by kernel_rfl) (fun _ => by simp only [List.setIfInBounds_toArray, List.set_cons_succ, List.set_cons_zero] <;> rfl) fun g14 Bg14 Fg14 => ?_
  obtain ⟨dj15_0, dj15_1, dj15_2, dj15_3, dj15_4, dj15_5, dj15_6⟩ : g12 ≠ g14 ∧ g10 ≠ g14 ∧ g8 ≠ g14 ∧ g6 ≠ g14 ∧ g4 ≠ g14 ∧ g2 ≠ g14 ∧ g1 ≠ g14 := by simpa only [dj_app_l, dj_app_r, dj_cons_l, dj_cons_r, dj_nil_l, dj_nil_r, dk_app, dk_cons, dk_nil, and_true, true_and, and_assoc] using (show Dk g14 [(g12, .cells (bxC exN) 26 (0, 0)), (g10, .cells (bxC exC) 26 (0, 0)), (g8, .cells (bxC exL) 26 (0, 0)), (g6, .cells (bxC exD) 26 (0, 0)), (g4, .cells (bxC exH) 26 (0, 0)), (g2, .cells (bxC exS) 26 (0, 0)), (g1, .cells (bxC exR) 26 (0, 0))] from Fg14)
  refine lm (v := .int .i64 6) rfl rfl ?_
  refine lm (v := .int .i64 0) rfl rfl ?_
  refine wpL_done (fun W10 hW10 => ?_)
  refine (show Code.wp _ _ _ _ _ from ?_)
  refine wp_block ?_
  refine wp_loop_rounds 7 ?_
  refine (show Code.wp _ _ _ _ _ from ?_)
  refine wp_seq ?_
  refine wp_region_L (W0 := w) [(g14, .cells ((bcs [exS, exH, exD, exL, exC, exN]).toArray) 26 (0, 0)), (g12, .cells (bxC exN) 26 (0, 0)), (g10, .cells (bxC exC) 26 (0, 0)), (g8, .cells (bxC exL) 26 (0, 0)), (g6, .cells (bxC exD) 26 (0, 0)), (g4, .cells (bxC exH) 26 (0, 0)), (g2, .cells (bxC exS) 26 (0, 0)), (g1, .cells (bxC exR) 26 (0, 0))] (hW10) ?_
  refine lm (v := .bool true) rfl rfl ?_
  refine wpL_done (fun W11 hW11 => ?_)
  refine (show Code.wp _ _ _ _ _ from ?_)
  refine wp_seq ?_
  refine wp_cond_true rfl ?_
  refine wp_skip ?_
  refine (show Code.wp _ _ _ _ _ from ?_)
  refine wp_seq ?_
  refine wp_block ?_
  refine wp_seq ?_
  refine wp_region_L (W0 := w) [(g14, .cells ((bcs [exS, exH, exD, exL, exC, exN]).toArray) 26 (0, 0)), (g12, .cells (bxC exN) 26 (0, 0)), (g10, .cells (bxC exC) 26 (0, 0)), (g8, .cells (bxC exL) 26 (0, 0)), (g6, .cells (bxC exD) 26 (0, 0)), (g4, .cells (bxC exH) 26 (0, 0)), (g2, .cells (bxC exS) 26 (0, 0)), (g1, .cells (bxC exR) 26 (0, 0))] (hW11) ?_
  refine lp (v := .pointer (some ⟨g14, 0 + 0 * 9, none⟩)) rfl rfl (run_idxL (j := .i64) (n := 6) (cap := 6) (b := g14) (off := 0) (k := 0) (sz := 9) rfl Tryd.underlying22 (by kernel_rfl) (by kernel_rfl) (by kernel_rfl) (by omega)) ?_
  refine lv (v := bxV exS) rfl rfl (yb_cells (off := 0 + 0 * 9) (cur := (bcs [exS, exH, exD, exL, exC, exN]).toArray) (cs := (bxC exS).toList) rfl (by kernel_rfl) (.head _) (RowX.get (row_lit [exS, exH, exD, exL, exC, exN]) (show ([exS, exH, exD, exL, exC, exN] : List Bx)[0]? = some exS from rfl)) Tryd.underlying26 rfl (by kernel_rfl)) ?_
  refine wpL_new (fun g => .pointer (some ⟨g, 0, none⟩)) (obi := .cells (bxC bx0) 26 (0, 0)) rfl rfl (fun _ => by kernel_rfl) (fun _ => by simp only [List.setIfInBounds_toArray, List.set_cons_succ, List.set_cons_zero] <;> rfl) fun g16 Bg16 Fg16 => ?_
  obtain ⟨dj17_0, dj17_1, dj17_2, dj17_3, dj17_4, dj17_5, dj17_6, dj17_7⟩ : g14 ≠ g16 ∧ g12 ≠ g16 ∧ g10 ≠ g16 ∧ g8 ≠ g16 ∧ g6 ≠ g16 ∧ g4 ≠ g16 ∧ g2 ≠ g16 ∧ g1 ≠ g16 := by simpa only [dj_app_l, dj_app_r, dj_cons_l, dj_cons_r, dj_nil_l, dj_nil_r, dk_app, dk_cons, dk_nil, and_true, true_and, and_assoc] using (show Dk g16 [(g14, .cells ((bcs [exS, exH, exD, exL, exC, exN]).toArray) 26 (0, 0)), (g12, .cells (bxC exN) 26 (0, 0)), (g10, .cells (bxC exC) 26 (0, 0)), (g8, .cells (bxC exL) 26 (0, 0)), (g6, .cells (bxC exD) 26 (0, 0)), (g4, .cells (bxC exH) 26 (0, 0)), (g2, .cells (bxC exS) 26 (0, 0)), (g1, .cells (bxC exR) 26 (0, 0))] from Fg16)
  refine wpL_s [(g16, .cells (bxC exS) 26 (0, 0)), (g14, .cells ((bcs [exS, exH, exD, exL, exC, exN]).toArray) 26 (0, 0)), (g12, .cells (bxC exN) 26 (0, 0)), (g10, .cells (bxC exC) 26 (0, 0)), (g8, .cells (bxC exL) 26 (0, 0)), (g6, .cells (bxC exD) 26 (0, 0)), (g4, .cells (bxC exH) 26 (0, 0)), (g2, .cells (bxC exS) 26 (0, 0)), (g1, .cells (bxC exR) 26 (0, 0))] rfl rfl (st_bx (b := exS) rfl (by kernel_rfl) (by kernel_rfl) (.head _) rfl Bg16 (by kernel_rfl) (List.forall_mem_cons.2 ⟨.inl rfl, (List.forall_mem_cons.2 ⟨.inr ⟨(.tail _ (.head _)), (by first | assumption | exact Ne.symm (by assumption))⟩, (List.forall_mem_cons.2 ⟨.inr ⟨(.tail _ (.tail _ (.head _))), (by first | assumption | exact Ne.symm (by assumption))⟩, (List.forall_mem_cons.2 ⟨.inr ⟨(.tail _ (.tail _ (.tail _ (.head _)))), (by first | assumption | exact Ne.symm (by assumption))⟩, (List.forall_mem_cons.2 ⟨.inr ⟨(.tail _ (.tail _ (.tail _ (.tail _ (.head _))))), (by first | assumption | exact Ne.symm (by assumption))⟩, (List.forall_mem_cons.2 ⟨.inr ⟨(.tail _ (.tail _ (.tail _ (.tail _ (.tail _ (.head _)))))), (by first | assumption | exact Ne.symm (by assumption))⟩, (List.forall_mem_cons.2 ⟨.inr ⟨(.tail _ (.tail _ (.tail _ (.tail _ (.tail _ (.tail _ (.head _))))))), (by first | assumption | exact Ne.symm (by assumption))⟩, (List.forall_mem_cons.2 ⟨.inr ⟨(.tail _ (.tail _ (.tail _ (.tail _ (.tail _ (.tail _ (.tail _ (.head _)))))))), (by first | assumption | exact Ne.symm (by assumption))⟩, (List.forall_mem_cons.2 ⟨.inr ⟨(.tail _ (.tail _ (.tail _ (.tail _ (.tail _ (.tail _ (.tail _ (.tail _ (.head _))))))))), (by first | assumption | exact Ne.symm (by assumption))⟩, (List.forall_mem_nil _)⟩)⟩)⟩)⟩)⟩)⟩)⟩)⟩)⟩)) ?_
  refine wpL_done (fun W12 hW12 => ?_)
  refine (show Code.wp _ _ _ _ _ from ?_)
  refine wp_seq ?_
  refine wp_region_L (W0 := w) [(g16, .cells (bxC exS) 26 (0, 0)), (g14, .cells ((bcs [exS, exH, exD, exL, exC, exN]).toArray) 26 (0, 0)), (g12, .cells (bxC exN) 26 (0, 0)), (g10, .cells (bxC exC) 26 (0, 0)), (g8, .cells (bxC exL) 26 (0, 0)), (g6, .cells (bxC exD) 26 (0, 0)), (g4, .cells (bxC exH) 26 (0, 0)), (g2, .cells (bxC exS) 26 (0, 0)), (g1, .cells (bxC exR) 26 (0, 0))] (hW12) ?_
  refine lv (v := bxV exS) rfl rfl (yb_load (n := 9) (off := 0) rfl (by kernel_rfl) (.head _) Tryd.underlying26 rfl (by kernel_rfl) (Nat.le_refl 9) (by kernel_rfl)) ?_
  refine lv (v := .bool false) rfl rfl (yb_call (f := 20) (args := #[bxV exS]) (fun _ => by kernel_rfl) fun W hW => right_is (b := exS) (by decide +kernel) W) ?_
  refine wpL_done (fun W13 hW13 => ?_)
  refine (show Code.wp _ _ _ _ _ from ?_)
  refine wp_cond_false rfl ?_
  refine wp_skip ?_
  refine (show Code.wp _ _ _ _ _ from ?_)
  refine wp_region_L (W0 := w) [(g16, .cells (bxC exS) 26 (0, 0)), (g14, .cells ((bcs [exS, exH, exD, exL, exC, exN]).toArray) 26 (0, 0)), (g12, .cells (bxC exN) 26 (0, 0)), (g10, .cells (bxC exC) 26 (0, 0)), (g8, .cells (bxC exL) 26 (0, 0)), (g6, .cells (bxC exD) 26 (0, 0)), (g4, .cells (bxC exH) 26 (0, 0)), (g2, .cells (bxC exS) 26 (0, 0)), (g1, .cells (bxC exR) 26 (0, 0))] (hW13) ?_
  refine lm (v := .int .i64 1) rfl rfl ?_
  refine lm (v := .int .i64 1) rfl rfl ?_
  refine wpL_done (fun W14 hW14 => ?_)
  refine (show Code.wp _ _ _ _ _ from ?_)
  refine wp_seq ?_
  refine wp_region_L (W0 := w) [(g16, .cells (bxC exS) 26 (0, 0)), (g14, .cells ((bcs [exS, exH, exD, exL, exC, exN]).toArray) 26 (0, 0)), (g12, .cells (bxC exN) 26 (0, 0)), (g10, .cells (bxC exC) 26 (0, 0)), (g8, .cells (bxC exL) 26 (0, 0)), (g6, .cells (bxC exD) 26 (0, 0)), (g4, .cells (bxC exH) 26 (0, 0)), (g2, .cells (bxC exS) 26 (0, 0)), (g1, .cells (bxC exR) 26 (0, 0))] (hW14) ?_
  refine lm (v := .bool true) rfl rfl ?_
  refine wpL_done (fun W15 hW15 => ?_)
  refine (show Code.wp _ _ _ _ _ from ?_)
  refine wp_seq ?_
  refine wp_cond_true rfl ?_
  refine wp_skip ?_
  refine (show Code.wp _ _ _ _ _ from ?_)
  refine wp_seq ?_
  refine wp_block ?_
  refine wp_seq ?_
  refine wp_region_L (W0 := w) [(g16, .cells (bxC exS) 26 (0, 0)), (g14, .cells ((bcs [exS, exH, exD, exL, exC, exN]).toArray) 26 (0, 0)), (g12, .cells (bxC exN) 26 (0, 0)), (g10, .cells (bxC exC) 26 (0, 0)), (g8, .cells (bxC exL) 26 (0, 0)), (g6, .cells (bxC exD) 26 (0, 0)), (g4, .cells (bxC exH) 26 (0, 0)), (g2, .cells (bxC exS) 26 (0, 0)), (g1, .cells (bxC exR) 26 (0, 0))] (hW15) ?_
  refine lp (v := .pointer (some ⟨g14, 0 + 1 * 9, none⟩)) rfl rfl (run_idxL (j := .i64) (n := 6) (cap := 6) (b := g14) (off := 0) (k := 1) (sz := 9) rfl Tryd.underlying22 (by kernel_rfl) (by kernel_rfl) (by kernel_rfl) (by omega)) ?_
  refine lv (v := bxV exH) rfl rfl (yb_cells (off := 0 + 1 * 9) (cur := (bcs [exS, exH, exD, exL, exC, exN]).toArray) (cs := (bxC exH).toList) rfl (by kernel_rfl) (.tail _ (.head _)) (RowX.get (row_lit [exS, exH, exD, exL, exC, exN]) (show ([exS, exH, exD, exL, exC, exN] : List Bx)[1]? = some exH from rfl)) Tryd.underlying26 rfl (by kernel_rfl)) ?_
  refine wpL_new (fun g => .pointer (some ⟨g, 0, none⟩)) (obi := .cells (bxC bx0) 26 (0, 0)) rfl rfl (fun _ => by kernel_rfl) (fun _ => by simp only [List.setIfInBounds_toArray, List.set_cons_succ, List.set_cons_zero] <;> rfl) fun g18 Bg18 Fg18 => ?_
  obtain ⟨dj19_0, dj19_1, dj19_2, dj19_3, dj19_4, dj19_5, dj19_6, dj19_7, dj19_8⟩ : g16 ≠ g18 ∧ g14 ≠ g18 ∧ g12 ≠ g18 ∧ g10 ≠ g18 ∧ g8 ≠ g18 ∧ g6 ≠ g18 ∧ g4 ≠ g18 ∧ g2 ≠ g18 ∧ g1 ≠ g18 := by simpa only [dj_app_l, dj_app_r, dj_cons_l, dj_cons_r, dj_nil_l, dj_nil_r, dk_app, dk_cons, dk_nil, and_true, true_and, and_assoc] using (show Dk g18 [(g16, .cells (bxC exS) 26 (0, 0)), (g14, .cells ((bcs [exS, exH, exD, exL, exC, exN]).toArray) 26 (0, 0)), (g12, .cells (bxC exN) 26 (0, 0)), (g10, .cells (bxC exC) 26 (0, 0)), (g8, .cells (bxC exL) 26 (0, 0)), (g6, .cells (bxC exD) 26 (0, 0)), (g4, .cells (bxC exH) 26 (0, 0)), (g2, .cells (bxC exS) 26 (0, 0)), (g1, .cells (bxC exR) 26 (0, 0))] from Fg18)
  refine wpL_s [(g18, .cells (bxC exH) 26 (0, 0)), (g16, .cells (bxC exS) 26 (0, 0)), (g14, .cells ((bcs [exS, exH, exD, exL, exC, exN]).toArray) 26 (0, 0)), (g12, .cells (bxC exN) 26 (0, 0)), (g10, .cells (bxC exC) 26 (0, 0)), (g8, .cells (bxC exL) 26 (0, 0)), (g6, .cells (bxC exD) 26 (0, 0)), (g4, .cells (bxC exH) 26 (0, 0)), (g2, .cells (bxC exS) 26 (0, 0)), (g1, .cells (bxC exR) 26 (0, 0))] rfl rfl (st_bx (b := exH) rfl (by kernel_rfl) (by kernel_rfl) (.head _) rfl Bg18 (by kernel_rfl) (List.forall_mem_cons.2 ⟨.inl rfl, (List.forall_mem_cons.2 ⟨.inr ⟨(.tail _ (.head _)), (by first | assumption | exact Ne.symm (by assumption))⟩, (List.forall_mem_cons.2 ⟨.inr ⟨(.tail _ (.tail _ (.head _))), (by first | assumption | exact Ne.symm (by assumption))⟩, (List.forall_mem_cons.2 ⟨.inr ⟨(.tail _ (.tail _ (.tail _ (.head _)))), (by first | assumption | exact Ne.symm (by assumption))⟩, (List.forall_mem_cons.2 ⟨.inr ⟨(.tail _ (.tail _ (.tail _ (.tail _ (.head _))))), (by first | assumption | exact Ne.symm (by assumption))⟩, (List.forall_mem_cons.2 ⟨.inr ⟨(.tail _ (.tail _ (.tail _ (.tail _ (.tail _ (.head _)))))), (by first | assumption | exact Ne.symm (by assumption))⟩, (List.forall_mem_cons.2 ⟨.inr ⟨(.tail _ (.tail _ (.tail _ (.tail _ (.tail _ (.tail _ (.head _))))))), (by first | assumption | exact Ne.symm (by assumption))⟩, (List.forall_mem_cons.2 ⟨.inr ⟨(.tail _ (.tail _ (.tail _ (.tail _ (.tail _ (.tail _ (.tail _ (.head _)))))))), (by first | assumption | exact Ne.symm (by assumption))⟩, (List.forall_mem_cons.2 ⟨.inr ⟨(.tail _ (.tail _ (.tail _ (.tail _ (.tail _ (.tail _ (.tail _ (.tail _ (.head _))))))))), (by first | assumption | exact Ne.symm (by assumption))⟩, (List.forall_mem_cons.2 ⟨.inr ⟨(.tail _ (.tail _ (.tail _ (.tail _ (.tail _ (.tail _ (.tail _ (.tail _ (.tail _ (.head _)))))))))), (by first | assumption | exact Ne.symm (by assumption))⟩, (List.forall_mem_nil _)⟩)⟩)⟩)⟩)⟩)⟩)⟩)⟩)⟩)⟩)) ?_
  refine wpL_done (fun W16 hW16 => ?_)
  refine (show Code.wp _ _ _ _ _ from ?_)
  refine wp_seq ?_
  refine wp_region_L (W0 := w) [(g18, .cells (bxC exH) 26 (0, 0)), (g16, .cells (bxC exS) 26 (0, 0)), (g14, .cells ((bcs [exS, exH, exD, exL, exC, exN]).toArray) 26 (0, 0)), (g12, .cells (bxC exN) 26 (0, 0)), (g10, .cells (bxC exC) 26 (0, 0)), (g8, .cells (bxC exL) 26 (0, 0)), (g6, .cells (bxC exD) 26 (0, 0)), (g4, .cells (bxC exH) 26 (0, 0)), (g2, .cells (bxC exS) 26 (0, 0)), (g1, .cells (bxC exR) 26 (0, 0))] (hW16) ?_
  refine lv (v := bxV exH) rfl rfl (yb_load (n := 9) (off := 0) rfl (by kernel_rfl) (.head _) Tryd.underlying26 rfl (by kernel_rfl) (Nat.le_refl 9) (by kernel_rfl)) ?_
  refine lv (v := .bool false) rfl rfl (yb_call (f := 20) (args := #[bxV exH]) (fun _ => by kernel_rfl) fun W hW => right_is (b := exH) (by decide +kernel) W) ?_
  refine wpL_done (fun W17 hW17 => ?_)
  refine (show Code.wp _ _ _ _ _ from ?_)
  refine wp_cond_false rfl ?_
  refine wp_skip ?_
  refine (show Code.wp _ _ _ _ _ from ?_)
  refine wp_region_L (W0 := w) [(g18, .cells (bxC exH) 26 (0, 0)), (g16, .cells (bxC exS) 26 (0, 0)), (g14, .cells ((bcs [exS, exH, exD, exL, exC, exN]).toArray) 26 (0, 0)), (g12, .cells (bxC exN) 26 (0, 0)), (g10, .cells (bxC exC) 26 (0, 0)), (g8, .cells (bxC exL) 26 (0, 0)), (g6, .cells (bxC exD) 26 (0, 0)), (g4, .cells (bxC exH) 26 (0, 0)), (g2, .cells (bxC exS) 26 (0, 0)), (g1, .cells (bxC exR) 26 (0, 0))] (hW17) ?_
  refine lm (v := .int .i64 2) rfl rfl ?_
  refine lm (v := .int .i64 2) rfl rfl ?_
  refine wpL_done (fun W18 hW18 => ?_)
  refine (show Code.wp _ _ _ _ _ from ?_)
  refine wp_seq ?_
  refine wp_region_L (W0 := w) [(g18, .cells (bxC exH) 26 (0, 0)), (g16, .cells (bxC exS) 26 (0, 0)), (g14, .cells ((bcs [exS, exH, exD, exL, exC, exN]).toArray) 26 (0, 0)), (g12, .cells (bxC exN) 26 (0, 0)), (g10, .cells (bxC exC) 26 (0, 0)), (g8, .cells (bxC exL) 26 (0, 0)), (g6, .cells (bxC exD) 26 (0, 0)), (g4, .cells (bxC exH) 26 (0, 0)), (g2, .cells (bxC exS) 26 (0, 0)), (g1, .cells (bxC exR) 26 (0, 0))] (hW18) ?_
  refine lm (v := .bool true) rfl rfl ?_
  refine wpL_done (fun W19 hW19 => ?_)
  refine (show Code.wp _ _ _ _ _ from ?_)
  refine wp_seq ?_
  refine wp_cond_true rfl ?_
  refine wp_skip ?_
  refine (show Code.wp _ _ _ _ _ from ?_)
  refine wp_seq ?_
  refine wp_block ?_
  refine wp_seq ?_
  refine wp_region_L (W0 := w) [(g18, .cells (bxC exH) 26 (0, 0)), (g16, .cells (bxC exS) 26 (0, 0)), (g14, .cells ((bcs [exS, exH, exD, exL, exC, exN]).toArray) 26 (0, 0)), (g12, .cells (bxC exN) 26 (0, 0)), (g10, .cells (bxC exC) 26 (0, 0)), (g8, .cells (bxC exL) 26 (0, 0)), (g6, .cells (bxC exD) 26 (0, 0)), (g4, .cells (bxC exH) 26 (0, 0)), (g2, .cells (bxC exS) 26 (0, 0)), (g1, .cells (bxC exR) 26 (0, 0))] (hW19) ?_
  refine lp (v := .pointer (some ⟨g14, 0 + 2 * 9, none⟩)) rfl rfl (run_idxL (j := .i64) (n := 6) (cap := 6) (b := g14) (off := 0) (k := 2) (sz := 9) rfl Tryd.underlying22 (by kernel_rfl) (by kernel_rfl) (by kernel_rfl) (by omega)) ?_
  refine lv (v := bxV exD) rfl rfl (yb_cells (off := 0 + 2 * 9) (cur := (bcs [exS, exH, exD, exL, exC, exN]).toArray) (cs := (bxC exD).toList) rfl (by kernel_rfl) (.tail _ (.tail _ (.head _))) (RowX.get (row_lit [exS, exH, exD, exL, exC, exN]) (show ([exS, exH, exD, exL, exC, exN] : List Bx)[2]? = some exD from rfl)) Tryd.underlying26 rfl (by kernel_rfl)) ?_
  refine wpL_new (fun g => .pointer (some ⟨g, 0, none⟩)) (obi := .cells (bxC bx0) 26 (0, 0)) rfl rfl (fun _ => by kernel_rfl) (fun _ => by simp only [List.setIfInBounds_toArray, List.set_cons_succ, List.set_cons_zero] <;> rfl) fun g20 Bg20 Fg20 => ?_
  obtain ⟨dj21_0, dj21_1, dj21_2, dj21_3, dj21_4, dj21_5, dj21_6, dj21_7, dj21_8, dj21_9⟩ : g18 ≠ g20 ∧ g16 ≠ g20 ∧ g14 ≠ g20 ∧ g12 ≠ g20 ∧ g10 ≠ g20 ∧ g8 ≠ g20 ∧ g6 ≠ g20 ∧ g4 ≠ g20 ∧ g2 ≠ g20 ∧ g1 ≠ g20 := by simpa only [dj_app_l, dj_app_r, dj_cons_l, dj_cons_r, dj_nil_l, dj_nil_r, dk_app, dk_cons, dk_nil, and_true, true_and, and_assoc] using (show Dk g20 [(g18, .cells (bxC exH) 26 (0, 0)), (g16, .cells (bxC exS) 26 (0, 0)), (g14, .cells ((bcs [exS, exH, exD, exL, exC, exN]).toArray) 26 (0, 0)), (g12, .cells (bxC exN) 26 (0, 0)), (g10, .cells (bxC exC) 26 (0, 0)), (g8, .cells (bxC exL) 26 (0, 0)), (g6, .cells (bxC exD) 26 (0, 0)), (g4, .cells (bxC exH) 26 (0, 0)), (g2, .cells (bxC exS) 26 (0, 0)), (g1, .cells (bxC exR) 26 (0, 0))] from Fg20)
  refine wpL_s [(g20, .cells (bxC exD) 26 (0, 0)), (g18, .cells (bxC exH) 26 (0, 0)), (g16, .cells (bxC exS) 26 (0, 0)), (g14, .cells ((bcs [exS, exH, exD, exL, exC, exN]).toArray) 26 (0, 0)), (g12, .cells (bxC exN) 26 (0, 0)), (g10, .cells (bxC exC) 26 (0, 0)), (g8, .cells (bxC exL) 26 (0, 0)), (g6, .cells (bxC exD) 26 (0, 0)), (g4, .cells (bxC exH) 26 (0, 0)), (g2, .cells (bxC exS) 26 (0, 0)), (g1, .cells (bxC exR) 26 (0, 0))] rfl rfl (st_bx (b := exD) rfl (by kernel_rfl) (by kernel_rfl) (.head _) rfl Bg20 (by kernel_rfl) (List.forall_mem_cons.2 ⟨.inl rfl, (List.forall_mem_cons.2 ⟨.inr ⟨(.tail _ (.head _)), (by first | assumption | exact Ne.symm (by assumption))⟩, (List.forall_mem_cons.2 ⟨.inr ⟨(.tail _ (.tail _ (.head _))), (by first | assumption | exact Ne.symm (by assumption))⟩, (List.forall_mem_cons.2 ⟨.inr ⟨(.tail _ (.tail _ (.tail _ (.head _)))), (by first | assumption | exact Ne.symm (by assumption))⟩, (List.forall_mem_cons.2 ⟨.inr ⟨(.tail _ (.tail _ (.tail _ (.tail _ (.head _))))), (by first | assumption | exact Ne.symm (by assumption))⟩, (List.forall_mem_cons.2 ⟨.inr ⟨(.tail _ (.tail _ (.tail _ (.tail _ (.tail _ (.head _)))))), (by first | assumption | exact Ne.symm (by assumption))⟩, (List.forall_mem_cons.2 ⟨.inr ⟨(.tail _ (.tail _ (.tail _ (.tail _ (.tail _ (.tail _ (.head _))))))), (by first | assumption | exact Ne.symm (by assumption))⟩, (List.forall_mem_cons.2 ⟨.inr ⟨(.tail _ (.tail _ (.tail _ (.tail _ (.tail _ (.tail _ (.tail _ (.head _)))))))), (by first | assumption | exact Ne.symm (by assumption))⟩, (List.forall_mem_cons.2 ⟨.inr ⟨(.tail _ (.tail _ (.tail _ (.tail _ (.tail _ (.tail _ (.tail _ (.tail _ (.head _))))))))), (by first | assumption | exact Ne.symm (by assumption))⟩, (List.forall_mem_cons.2 ⟨.inr ⟨(.tail _ (.tail _ (.tail _ (.tail _ (.tail _ (.tail _ (.tail _ (.tail _ (.tail _ (.head _)))))))))), (by first | assumption | exact Ne.symm (by assumption))⟩, (List.forall_mem_cons.2 ⟨.inr ⟨(.tail _ (.tail _ (.tail _ (.tail _ (.tail _ (.tail _ (.tail _ (.tail _ (.tail _ (.tail _ (.head _))))))))))), (by first | assumption | exact Ne.symm (by assumption))⟩, (List.forall_mem_nil _)⟩)⟩)⟩)⟩)⟩)⟩)⟩)⟩)⟩)⟩)⟩)) ?_
  refine wpL_done (fun W20 hW20 => ?_)
  refine (show Code.wp _ _ _ _ _ from ?_)
  refine wp_seq ?_
  refine wp_region_L (W0 := w) [(g20, .cells (bxC exD) 26 (0, 0)), (g18, .cells (bxC exH) 26 (0, 0)), (g16, .cells (bxC exS) 26 (0, 0)), (g14, .cells ((bcs [exS, exH, exD, exL, exC, exN]).toArray) 26 (0, 0)), (g12, .cells (bxC exN) 26 (0, 0)), (g10, .cells (bxC exC) 26 (0, 0)), (g8, .cells (bxC exL) 26 (0, 0)), (g6, .cells (bxC exD) 26 (0, 0)), (g4, .cells (bxC exH) 26 (0, 0)), (g2, .cells (bxC exS) 26 (0, 0)), (g1, .cells (bxC exR) 26 (0, 0))] (hW20) ?_
  refine lv (v := bxV exD) rfl rfl (yb_load (n := 9) (off := 0) rfl (by kernel_rfl) (.head _) Tryd.underlying26 rfl (by kernel_rfl) (Nat.le_refl 9) (by kernel_rfl)) ?_
  refine lv (v := .bool false) rfl rfl (yb_call (f := 20) (args := #[bxV exD]) (fun _ => by kernel_rfl) fun W hW => right_is (b := exD) (by decide +kernel) W) ?_
  refine wpL_done (fun W21 hW21 => ?_)
  refine (show Code.wp _ _ _ _ _ from ?_)
  refine wp_cond_false rfl ?_
  refine wp_skip ?_
  refine (show Code.wp _ _ _ _ _ from ?_)
  refine wp_region_L (W0 := w) [(g20, .cells (bxC exD) 26 (0, 0)), (g18, .cells (bxC exH) 26 (0, 0)), (g16, .cells (bxC exS) 26 (0, 0)), (g14, .cells ((bcs [exS, exH, exD, exL, exC, exN]).toArray) 26 (0, 0)), (g12, .cells (bxC exN) 26 (0, 0)), (g10, .cells (bxC exC) 26 (0, 0)), (g8, .cells (bxC exL) 26 (0, 0)), (g6, .cells (bxC exD) 26 (0, 0)), (g4, .cells (bxC exH) 26 (0, 0)), (g2, .cells (bxC exS) 26 (0, 0)), (g1, .cells (bxC exR) 26 (0, 0))] (hW21) ?_
  refine lm (v := .int .i64 3) rfl rfl ?_
  refine lm (v := .int .i64 3) rfl rfl ?_
  refine wpL_done (fun W22 hW22 => ?_)
  refine (show Code.wp _ _ _ _ _ from ?_)
  refine wp_seq ?_
  refine wp_region_L (W0 := w) [(g20, .cells (bxC exD) 26 (0, 0)), (g18, .cells (bxC exH) 26 (0, 0)), (g16, .cells (bxC exS) 26 (0, 0)), (g14, .cells ((bcs [exS, exH, exD, exL, exC, exN]).toArray) 26 (0, 0)), (g12, .cells (bxC exN) 26 (0, 0)), (g10, .cells (bxC exC) 26 (0, 0)), (g8, .cells (bxC exL) 26 (0, 0)), (g6, .cells (bxC exD) 26 (0, 0)), (g4, .cells (bxC exH) 26 (0, 0)), (g2, .cells (bxC exS) 26 (0, 0)), (g1, .cells (bxC exR) 26 (0, 0))] (hW22) ?_
  refine lm (v := .bool true) rfl rfl ?_
  refine wpL_done (fun W23 hW23 => ?_)
  refine (show Code.wp _ _ _ _ _ from ?_)
  refine wp_seq ?_
  refine wp_cond_true rfl ?_
  refine wp_skip ?_
  refine (show Code.wp _ _ _ _ _ from ?_)
  refine wp_seq ?_
  refine wp_block ?_
  refine wp_seq ?_
  refine wp_region_L (W0 := w) [(g20, .cells (bxC exD) 26 (0, 0)), (g18, .cells (bxC exH) 26 (0, 0)), (g16, .cells (bxC exS) 26 (0, 0)), (g14, .cells ((bcs [exS, exH, exD, exL, exC, exN]).toArray) 26 (0, 0)), (g12, .cells (bxC exN) 26 (0, 0)), (g10, .cells (bxC exC) 26 (0, 0)), (g8, .cells (bxC exL) 26 (0, 0)), (g6, .cells (bxC exD) 26 (0, 0)), (g4, .cells (bxC exH) 26 (0, 0)), (g2, .cells (bxC exS) 26 (0, 0)), (g1, .cells (bxC exR) 26 (0, 0))] (hW23) ?_
  refine lp (v := .pointer (some ⟨g14, 0 + 3 * 9, none⟩)) rfl rfl (run_idxL (j := .i64) (n := 6) (cap := 6) (b := g14) (off := 0) (k := 3) (sz := 9) rfl Tryd.underlying22 (by kernel_rfl) (by kernel_rfl) (by kernel_rfl) (by omega)) ?_
  refine lv (v := bxV exL) rfl rfl (yb_cells (off := 0 + 3 * 9) (cur := (bcs [exS, exH, exD, exL, exC, exN]).toArray) (cs := (bxC exL).toList) rfl (by kernel_rfl) (.tail _ (.tail _ (.tail _ (.head _)))) (RowX.get (row_lit [exS, exH, exD, exL, exC, exN]) (show ([exS, exH, exD, exL, exC, exN] : List Bx)[3]? = some exL from rfl)) Tryd.underlying26 rfl (by kernel_rfl)) ?_
  refine wpL_new (fun g => .pointer (some ⟨g, 0, none⟩)) (obi := .cells (bxC bx0) 26 (0, 0)) rfl rfl (fun _ => by kernel_rfl) (fun _ => by simp only [List.setIfInBounds_toArray, List.set_cons_succ, List.set_cons_zero] <;> rfl) fun g22 Bg22 Fg22 => ?_
  obtain ⟨dj23_0, dj23_1, dj23_2, dj23_3, dj23_4, dj23_5, dj23_6, dj23_7, dj23_8, dj23_9, dj23_10⟩ : g20 ≠ g22 ∧ g18 ≠ g22 ∧ g16 ≠ g22 ∧ g14 ≠ g22 ∧ g12 ≠ g22 ∧ g10 ≠ g22 ∧ g8 ≠ g22 ∧ g6 ≠ g22 ∧ g4 ≠ g22 ∧ g2 ≠ g22 ∧ g1 ≠ g22 := by simpa only [dj_app_l, dj_app_r, dj_cons_l, dj_cons_r, dj_nil_l, dj_nil_r, dk_app, dk_cons, dk_nil, and_true, true_and, and_assoc] using (show Dk g22 [(g20, .cells (bxC exD) 26 (0, 0)), (g18, .cells (bxC exH) 26 (0, 0)), (g16, .cells (bxC exS) 26 (0, 0)), (g14, .cells ((bcs [exS, exH, exD, exL, exC, exN]).toArray) 26 (0, 0)), (g12, .cells (bxC exN) 26 (0, 0)), (g10, .cells (bxC exC) 26 (0, 0)), (g8, .cells (bxC exL) 26 (0, 0)), (g6, .cells (bxC exD) 26 (0, 0)), (g4, .cells (bxC exH) 26 (0, 0)), (g2, .cells (bxC exS) 26 (0, 0)), (g1, .cells (bxC exR) 26 (0, 0))] from Fg22)
  refine wpL_s [(g22, .cells (bxC exL) 26 (0, 0)), (g20, .cells (bxC exD) 26 (0, 0)), (g18, .cells (bxC exH) 26 (0, 0)), (g16, .cells (bxC exS) 26 (0, 0)), (g14, .cells ((bcs [exS, exH, exD, exL, exC, exN]).toArray) 26 (0, 0)), (g12, .cells (bxC exN) 26 (0, 0)), (g10, .cells (bxC exC) 26 (0, 0)), (g8, .cells (bxC exL) 26 (0, 0)), (g6, .cells (bxC exD) 26 (0, 0)), (g4, .cells (bxC exH) 26 (0, 0)), (g2, .cells (bxC exS) 26 (0, 0)), (g1, .cells (bxC exR) 26 (0, 0))] rfl rfl (st_bx (b := exL) rfl (by kernel_rfl) (by kernel_rfl) (.head _) rfl Bg22 (by kernel_rfl) (List.forall_mem_cons.2 ⟨.inl rfl, (List.forall_mem_cons.2 ⟨.inr ⟨(.tail _ (.head _)), (by first | assumption | exact Ne.symm (by assumption))⟩, (List.forall_mem_cons.2 ⟨.inr ⟨(.tail _ (.tail _ (.head _))), (by first | assumption | exact Ne.symm (by assumption))⟩, (List.forall_mem_cons.2 ⟨.inr ⟨(.tail _ (.tail _ (.tail _ (.head _)))), (by first | assumption | exact Ne.symm (by assumption))⟩, (List.forall_mem_cons.2 ⟨.inr ⟨(.tail _ (.tail _ (.tail _ (.tail _ (.head _))))), (by first | assumption | exact Ne.symm (by assumption))⟩, (List.forall_mem_cons.2 ⟨.inr ⟨(.tail _ (.tail _ (.tail _ (.tail _ (.tail _ (.head _)))))), (by first | assumption | exact Ne.symm (by assumption))⟩, (List.forall_mem_cons.2 ⟨.inr ⟨(.tail _ (.tail _ (.tail _ (.tail _ (.tail _ (.tail _ (.head _))))))), (by first | assumption | exact Ne.symm (by assumption))⟩, (List.forall_mem_cons.2 ⟨.inr ⟨(.tail _ (.tail _ (.tail _ (.tail _ (.tail _ (.tail _ (.tail _ (.head _)))))))), (by first | assumption | exact Ne.symm (by assumption))⟩, (List.forall_mem_cons.2 ⟨.inr ⟨(.tail _ (.tail _ (.tail _ (.tail _ (.tail _ (.tail _ (.tail _ (.tail _ (.head _))))))))), (by first | assumption | exact Ne.symm (by assumption))⟩, (List.forall_mem_cons.2 ⟨.inr ⟨(.tail _ (.tail _ (.tail _ (.tail _ (.tail _ (.tail _ (.tail _ (.tail _ (.tail _ (.head _)))))))))), (by first | assumption | exact Ne.symm (by assumption))⟩, (List.forall_mem_cons.2 ⟨.inr ⟨(.tail _ (.tail _ (.tail _ (.tail _ (.tail _ (.tail _ (.tail _ (.tail _ (.tail _ (.tail _ (.head _))))))))))), (by first | assumption | exact Ne.symm (by assumption))⟩, (List.forall_mem_cons.2 ⟨.inr ⟨(.tail _ (.tail _ (.tail _ (.tail _ (.tail _ (.tail _ (.tail _ (.tail _ (.tail _ (.tail _ (.tail _ (.head _)))))))))))), (by first | assumption | exact Ne.symm (by assumption))⟩, (List.forall_mem_nil _)⟩)⟩)⟩)⟩)⟩)⟩)⟩)⟩)⟩)⟩)⟩)⟩)) ?_
  refine wpL_done (fun W24 hW24 => ?_)
  refine (show Code.wp _ _ _ _ _ from ?_)
  refine wp_seq ?_
  refine wp_region_L (W0 := w) [(g22, .cells (bxC exL) 26 (0, 0)), (g20, .cells (bxC exD) 26 (0, 0)), (g18, .cells (bxC exH) 26 (0, 0)), (g16, .cells (bxC exS) 26 (0, 0)), (g14, .cells ((bcs [exS, exH, exD, exL, exC, exN]).toArray) 26 (0, 0)), (g12, .cells (bxC exN) 26 (0, 0)), (g10, .cells (bxC exC) 26 (0, 0)), (g8, .cells (bxC exL) 26 (0, 0)), (g6, .cells (bxC exD) 26 (0, 0)), (g4, .cells (bxC exH) 26 (0, 0)), (g2, .cells (bxC exS) 26 (0, 0)), (g1, .cells (bxC exR) 26 (0, 0))] (hW24) ?_
  refine lv (v := bxV exL) rfl rfl (yb_load (n := 9) (off := 0) rfl (by kernel_rfl) (.head _) Tryd.underlying26 rfl (by kernel_rfl) (Nat.le_refl 9) (by kernel_rfl)) ?_
  refine lv (v := .bool false) rfl rfl (yb_call (f := 20) (args := #[bxV exL]) (fun _ => by kernel_rfl) fun W hW => right_is (b := exL) (by decide +kernel) W) ?_
  refine wpL_done (fun W25 hW25 => ?_)
  refine (show Code.wp _ _ _ _ _ from ?_)
  refine wp_cond_false rfl ?_
  refine wp_skip ?_
  refine (show Code.wp _ _ _ _ _ from ?_)
  refine wp_region_L (W0 := w) [(g22, .cells (bxC exL) 26 (0, 0)), (g20, .cells (bxC exD) 26 (0, 0)), (g18, .cells (bxC exH) 26 (0, 0)), (g16, .cells (bxC exS) 26 (0, 0)), (g14, .cells ((bcs [exS, exH, exD, exL, exC, exN]).toArray) 26 (0, 0)), (g12, .cells (bxC exN) 26 (0, 0)), (g10, .cells (bxC exC) 26 (0, 0)), (g8, .cells (bxC exL) 26 (0, 0)), (g6, .cells (bxC exD) 26 (0, 0)), (g4, .cells (bxC exH) 26 (0, 0)), (g2, .cells (bxC exS) 26 (0, 0)), (g1, .cells (bxC exR) 26 (0, 0))] (hW25) ?_
  refine lm (v := .int .i64 4) rfl rfl ?_
  refine lm (v := .int .i64 4) rfl rfl ?_
  refine wpL_done (fun W26 hW26 => ?_)
  refine (show Code.wp _ _ _ _ _ from ?_)
  refine wp_seq ?_
  refine wp_region_L (W0 := w) [(g22, .cells (bxC exL) 26 (0, 0)), (g20, .cells (bxC exD) 26 (0, 0)), (g18, .cells (bxC exH) 26 (0, 0)), (g16, .cells (bxC exS) 26 (0, 0)), (g14, .cells ((bcs [exS, exH, exD, exL, exC, exN]).toArray) 26 (0, 0)), (g12, .cells (bxC exN) 26 (0, 0)), (g10, .cells (bxC exC) 26 (0, 0)), (g8, .cells (bxC exL) 26 (0, 0)), (g6, .cells (bxC exD) 26 (0, 0)), (g4, .cells (bxC exH) 26 (0, 0)), (g2, .cells (bxC exS) 26 (0, 0)), (g1, .cells (bxC exR) 26 (0, 0))] (hW26) ?_
  refine lm (v := .bool true) rfl rfl ?_
  refine wpL_done (fun W27 hW27 => ?_)
  refine (show Code.wp _ _ _ _ _ from ?_)
  refine wp_seq ?_
  refine wp_cond_true rfl ?_
  refine wp_skip ?_
  refine (show Code.wp _ _ _ _ _ from ?_)
  refine wp_seq ?_
  refine wp_block ?_
  refine wp_seq ?_
  refine wp_region_L (W0 := w) [(g22, .cells (bxC exL) 26 (0, 0)), (g20, .cells (bxC exD) 26 (0, 0)), (g18, .cells (bxC exH) 26 (0, 0)), (g16, .cells (bxC exS) 26 (0, 0)), (g14, .cells ((bcs [exS, exH, exD, exL, exC, exN]).toArray) 26 (0, 0)), (g12, .cells (bxC exN) 26 (0, 0)), (g10, .cells (bxC exC) 26 (0, 0)), (g8, .cells (bxC exL) 26 (0, 0)), (g6, .cells (bxC exD) 26 (0, 0)), (g4, .cells (bxC exH) 26 (0, 0)), (g2, .cells (bxC exS) 26 (0, 0)), (g1, .cells (bxC exR) 26 (0, 0))] (hW27) ?_
  refine lp (v := .pointer (some ⟨g14, 0 + 4 * 9, none⟩)) rfl rfl (run_idxL (j := .i64) (n := 6) (cap := 6) (b := g14) (off := 0) (k := 4) (sz := 9) rfl Tryd.underlying22 (by kernel_rfl) (by kernel_rfl) (by kernel_rfl) (by omega)) ?_
  refine lv (v := bxV exC) rfl rfl (yb_cells (off := 0 + 4 * 9) (cur := (bcs [exS, exH, exD, exL, exC, exN]).toArray) (cs := (bxC exC).toList) rfl (by kernel_rfl) (.tail _ (.tail _ (.tail _ (.tail _ (.head _))))) (RowX.get (row_lit [exS, exH, exD, exL, exC, exN]) (show ([exS, exH, exD, exL, exC, exN] : List Bx)[4]? = some exC from rfl)) Tryd.underlying26 rfl (by kernel_rfl)) ?_
  refine wpL_new (fun g => .pointer (some ⟨g, 0, none⟩)) (obi := .cells (bxC bx0) 26 (0, 0)) rfl rfl (fun _ => by kernel_rfl) (fun _ => by simp only [List.setIfInBounds_toArray, List.set_cons_succ, List.set_cons_zero] <;> rfl) fun g24 Bg24 Fg24 => ?_
  obtain ⟨dj25_0, dj25_1, dj25_2, dj25_3, dj25_4, dj25_5, dj25_6, dj25_7, dj25_8, dj25_9, dj25_10, dj25_11⟩ : g22 ≠ g24 ∧ g20 ≠ g24 ∧ g18 ≠ g24 ∧ g16 ≠ g24 ∧ g14 ≠ g24 ∧ g12 ≠ g24 ∧ g10 ≠ g24 ∧ g8 ≠ g24 ∧ g6 ≠ g24 ∧ g4 ≠ g24 ∧ g2 ≠ g24 ∧ g1 ≠ g24 := by simpa only [dj_app_l, dj_app_r, dj_cons_l, dj_cons_r, dj_nil_l, dj_nil_r, dk_app, dk_cons, dk_nil, and_true, true_and, and_assoc] using (show Dk g24 [(g22, .cells (bxC exL) 26 (0, 0)), (g20, .cells (bxC exD) 26 (0, 0)), (g18, .cells (bxC exH) 26 (0, 0)), (g16, .cells (bxC exS) 26 (0, 0)), (g14, .cells ((bcs [exS, exH, exD, exL, exC, exN]).toArray) 26 (0, 0)), (g12, .cells (bxC exN) 26 (0, 0)), (g10, .cells (bxC exC) 26 (0, 0)), (g8, .cells (bxC exL) 26 (0, 0)), (g6, .cells (bxC exD) 26 (0, 0)), (g4, .cells (bxC exH) 26 (0, 0)), (g2, .cells (bxC exS) 26 (0, 0)), (g1, .cells (bxC exR) 26 (0, 0))] from Fg24)
  refine wpL_s [(g24, .cells (bxC exC) 26 (0, 0)), (g22, .cells (bxC exL) 26 (0, 0)), (g20, .cells (bxC exD) 26 (0, 0)), (g18, .cells (bxC exH) 26 (0, 0)), (g16, .cells (bxC exS) 26 (0, 0)), (g14, .cells ((bcs [exS, exH, exD, exL, exC, exN]).toArray) 26 (0, 0)), (g12, .cells (bxC exN) 26 (0, 0)), (g10, .cells (bxC exC) 26 (0, 0)), (g8, .cells (bxC exL) 26 (0, 0)), (g6, .cells (bxC exD) 26 (0, 0)), (g4, .cells (bxC exH) 26 (0, 0)), (g2, .cells (bxC exS) 26 (0, 0)), (g1, .cells (bxC exR) 26 (0, 0))] rfl rfl (st_bx (b := exC) rfl (by kernel_rfl) (by kernel_rfl) (.head _) rfl Bg24 (by kernel_rfl) (List.forall_mem_cons.2 ⟨.inl rfl, (List.forall_mem_cons.2 ⟨.inr ⟨(.tail _ (.head _)), (by first | assumption | exact Ne.symm (by assumption))⟩, (List.forall_mem_cons.2 ⟨.inr ⟨(.tail _ (.tail _ (.head _))), (by first | assumption | exact Ne.symm (by assumption))⟩, (List.forall_mem_cons.2 ⟨.inr ⟨(.tail _ (.tail _ (.tail _ (.head _)))), (by first | assumption | exact Ne.symm (by assumption))⟩, (List.forall_mem_cons.2 ⟨.inr ⟨(.tail _ (.tail _ (.tail _ (.tail _ (.head _))))), (by first | assumption | exact Ne.symm (by assumption))⟩, (List.forall_mem_cons.2 ⟨.inr ⟨(.tail _ (.tail _ (.tail _ (.tail _ (.tail _ (.head _)))))), (by first | assumption | exact Ne.symm (by assumption))⟩, (List.forall_mem_cons.2 ⟨.inr ⟨(.tail _ (.tail _ (.tail _ (.tail _ (.tail _ (.tail _ (.head _))))))), (by first | assumption | exact Ne.symm (by assumption))⟩, (List.forall_mem_cons.2 ⟨.inr ⟨(.tail _ (.tail _ (.tail _ (.tail _ (.tail _ (.tail _ (.tail _ (.head _)))))))), (by first | assumption | exact Ne.symm (by assumption))⟩, (List.forall_mem_cons.2 ⟨.inr ⟨(.tail _ (.tail _ (.tail _ (.tail _ (.tail _ (.tail _ (.tail _ (.tail _ (.head _))))))))), (by first | assumption | exact Ne.symm (by assumption))⟩, (List.forall_mem_cons.2 ⟨.inr ⟨(.tail _ (.tail _ (.tail _ (.tail _ (.tail _ (.tail _ (.tail _ (.tail _ (.tail _ (.head _)))))))))), (by first | assumption | exact Ne.symm (by assumption))⟩, (List.forall_mem_cons.2 ⟨.inr ⟨(.tail _ (.tail _ (.tail _ (.tail _ (.tail _ (.tail _ (.tail _ (.tail _ (.tail _ (.tail _ (.head _))))))))))), (by first | assumption | exact Ne.symm (by assumption))⟩, (List.forall_mem_cons.2 ⟨.inr ⟨(.tail _ (.tail _ (.tail _ (.tail _ (.tail _ (.tail _ (.tail _ (.tail _ (.tail _ (.tail _ (.tail _ (.head _)))))))))))), (by first | assumption | exact Ne.symm (by assumption))⟩, (List.forall_mem_cons.2 ⟨.inr ⟨(.tail _ (.tail _ (.tail _ (.tail _ (.tail _ (.tail _ (.tail _ (.tail _ (.tail _ (.tail _ (.tail _ (.tail _ (.head _))))))))))))), (by first | assumption | exact Ne.symm (by assumption))⟩, (List.forall_mem_nil _)⟩)⟩)⟩)⟩)⟩)⟩)⟩)⟩)⟩)⟩)⟩)⟩)⟩)) ?_
  refine wpL_done (fun W28 hW28 => ?_)
  refine (show Code.wp _ _ _ _ _ from ?_)
  refine wp_seq ?_
  refine wp_region_L (W0 := w) [(g24, .cells (bxC exC) 26 (0, 0)), (g22, .cells (bxC exL) 26 (0, 0)), (g20, .cells (bxC exD) 26 (0, 0)), (g18, .cells (bxC exH) 26 (0, 0)), (g16, .cells (bxC exS) 26 (0, 0)), (g14, .cells ((bcs [exS, exH, exD, exL, exC, exN]).toArray) 26 (0, 0)), (g12, .cells (bxC exN) 26 (0, 0)), (g10, .cells (bxC exC) 26 (0, 0)), (g8, .cells (bxC exL) 26 (0, 0)), (g6, .cells (bxC exD) 26 (0, 0)), (g4, .cells (bxC exH) 26 (0, 0)), (g2, .cells (bxC exS) 26 (0, 0)), (g1, .cells (bxC exR) 26 (0, 0))] (hW28) ?_
  refine lv (v := bxV exC) rfl rfl (yb_load (n := 9) (off := 0) rfl (by kernel_rfl) (.head _) Tryd.underlying26 rfl (by kernel_rfl) (Nat.le_refl 9) (by kernel_rfl)) ?_
  refine lv (v := .bool false) rfl rfl (yb_call (f := 20) (args := #[bxV exC]) (fun _ => by kernel_rfl) fun W hW => right_is (b := exC) (by decide +kernel) W) ?_
  refine wpL_done (fun W29 hW29 => ?_)
  refine (show Code.wp _ _ _ _ _ from ?_)
  refine wp_cond_false rfl ?_
  refine wp_skip ?_
  refine (show Code.wp _ _ _ _ _ from ?_)
  refine wp_region_L (W0 := w) [(g24, .cells (bxC exC) 26 (0, 0)), (g22, .cells (bxC exL) 26 (0, 0)), (g20, .cells (bxC exD) 26 (0, 0)), (g18, .cells (bxC exH) 26 (0, 0)), (g16, .cells (bxC exS) 26 (0, 0)), (g14, .cells ((bcs [exS, exH, exD, exL, exC, exN]).toArray) 26 (0, 0)), (g12, .cells (bxC exN) 26 (0, 0)), (g10, .cells (bxC exC) 26 (0, 0)), (g8, .cells (bxC exL) 26 (0, 0)), (g6, .cells (bxC exD) 26 (0, 0)), (g4, .cells (bxC exH) 26 (0, 0)), (g2, .cells (bxC exS) 26 (0, 0)), (g1, .cells (bxC exR) 26 (0, 0))] (hW29) ?_
  refine lm (v := .int .i64 5) rfl rfl ?_
  refine lm (v := .int .i64 5) rfl rfl ?_
  refine wpL_done (fun W30 hW30 => ?_)
  refine (show Code.wp _ _ _ _ _ from ?_)
  refine wp_seq ?_
  refine wp_region_L (W0 := w) [(g24, .cells (bxC exC) 26 (0, 0)), (g22, .cells (bxC exL) 26 (0, 0)), (g20, .cells (bxC exD) 26 (0, 0)), (g18, .cells (bxC exH) 26 (0, 0)), (g16, .cells (bxC exS) 26 (0, 0)), (g14, .cells ((bcs [exS, exH, exD, exL, exC, exN]).toArray) 26 (0, 0)), (g12, .cells (bxC exN) 26 (0, 0)), (g10, .cells (bxC exC) 26 (0, 0)), (g8, .cells (bxC exL) 26 (0, 0)), (g6, .cells (bxC exD) 26 (0, 0)), (g4, .cells (bxC exH) 26 (0, 0)), (g2, .cells (bxC exS) 26 (0, 0)), (g1, .cells (bxC exR) 26 (0, 0))] (hW30) ?_
  refine lm (v := .bool true) rfl rfl ?_
  refine wpL_done (fun W31 hW31 => ?_)
  refine (show Code.wp _ _ _ _ _ from ?_)
  refine wp_seq ?_
  refine wp_cond_true rfl ?_
  refine wp_skip ?_
  refine (show Code.wp _ _ _ _ _ from ?_)
  refine wp_seq ?_
  refine wp_block ?_
  refine wp_seq ?_
  refine wp_region_L (W0 := w) [(g24, .cells (bxC exC) 26 (0, 0)), (g22, .cells (bxC exL) 26 (0, 0)), (g20, .cells (bxC exD) 26 (0, 0)), (g18, .cells (bxC exH) 26 (0, 0)), (g16, .cells (bxC exS) 26 (0, 0)), (g14, .cells ((bcs [exS, exH, exD, exL, exC, exN]).toArray) 26 (0, 0)), (g12, .cells (bxC exN) 26 (0, 0)), (g10, .cells (bxC exC) 26 (0, 0)), (g8, .cells (bxC exL) 26 (0, 0)), (g6, .cells (bxC exD) 26 (0, 0)), (g4, .cells (bxC exH) 26 (0, 0)), (g2, .cells (bxC exS) 26 (0, 0)), (g1, .cells (bxC exR) 26 (0, 0))] (hW31) ?_
  refine lp (v := .pointer (some ⟨g14, 0 + 5 * 9, none⟩)) rfl rfl (run_idxL (j := .i64) (n := 6) (cap := 6) (b := g14) (off := 0) (k := 5) (sz := 9) rfl Tryd.underlying22 (by kernel_rfl) (by kernel_rfl) (by kernel_rfl) (by omega)) ?_
  refine lv (v := bxV exN) rfl rfl (yb_cells (off := 0 + 5 * 9) (cur := (bcs [exS, exH, exD, exL, exC, exN]).toArray) (cs := (bxC exN).toList) rfl (by kernel_rfl) (.tail _ (.tail _ (.tail _ (.tail _ (.tail _ (.head _)))))) (RowX.get (row_lit [exS, exH, exD, exL, exC, exN]) (show ([exS, exH, exD, exL, exC, exN] : List Bx)[5]? = some exN from rfl)) Tryd.underlying26 rfl (by kernel_rfl)) ?_
  refine wpL_new (fun g => .pointer (some ⟨g, 0, none⟩)) (obi := .cells (bxC bx0) 26 (0, 0)) rfl rfl (fun _ => by kernel_rfl) (fun _ => by simp only [List.setIfInBounds_toArray, List.set_cons_succ, List.set_cons_zero] <;> rfl) fun g26 Bg26 Fg26 => ?_
  obtain ⟨dj27_0, dj27_1, dj27_2, dj27_3, dj27_4, dj27_5, dj27_6, dj27_7, dj27_8, dj27_9, dj27_10, dj27_11, dj27_12⟩ : g24 ≠ g26 ∧ g22 ≠ g26 ∧ g20 ≠ g26 ∧ g18 ≠ g26 ∧ g16 ≠ g26 ∧ g14 ≠ g26 ∧ g12 ≠ g26 ∧ g10 ≠ g26 ∧ g8 ≠ g26 ∧ g6 ≠ g26 ∧ g4 ≠ g26 ∧ g2 ≠ g26 ∧ g1 ≠ g26 := by simpa only [dj_app_l, dj_app_r, dj_cons_l, dj_cons_r, dj_nil_l, dj_nil_r, dk_app, dk_cons, dk_nil, and_true, true_and, and_assoc] using (show Dk g26 [(g24, .cells (bxC exC) 26 (0, 0)), (g22, .cells (bxC exL) 26 (0, 0)), (g20, .cells (bxC exD) 26 (0, 0)), (g18, .cells (bxC exH) 26 (0, 0)), (g16, .cells (bxC exS) 26 (0, 0)), (g14, .cells ((bcs [exS, exH, exD, exL, exC, exN]).toArray) 26 (0, 0)), (g12, .cells (bxC exN) 26 (0, 0)), (g10, .cells (bxC exC) 26 (0, 0)), (g8, .cells (bxC exL) 26 (0, 0)), (g6, .cells (bxC exD) 26 (0, 0)), (g4, .cells (bxC exH) 26 (0, 0)), (g2, .cells (bxC exS) 26 (0, 0)), (g1, .cells (bxC exR) 26 (0, 0))] from Fg26)
  refine wpL_s [(g26, .cells (bxC exN) 26 (0, 0)), (g24, .cells (bxC exC) 26 (0, 0)), (g22, .cells (bxC exL) 26 (0, 0)), (g20, .cells (bxC exD) 26 (0, 0)), (g18, .cells (bxC exH) 26 (0, 0)), (g16, .cells (bxC exS) 26 (0, 0)), (g14, .cells ((bcs [exS, exH, exD, exL, exC, exN]).toArray) 26 (0, 0)), (g12, .cells (bxC exN) 26 (0, 0)), (g10, .cells (bxC exC) 26 (0, 0)), (g8, .cells (bxC exL) 26 (0, 0)), (g6, .cells (bxC exD) 26 (0, 0)), (g4, .cells (bxC exH) 26 (0, 0)), (g2, .cells (bxC exS) 26 (0, 0)), (g1, .cells (bxC exR) 26 (0, 0))] rfl rfl (st_bx (b := exN) rfl (by kernel_rfl) (by kernel_rfl) (.head _) rfl Bg26 (by kernel_rfl) (List.forall_mem_cons.2 ⟨.inl rfl, (List.forall_mem_cons.2 ⟨.inr ⟨(.tail _ (.head _)), (by first | assumption | exact Ne.symm (by assumption))⟩, (List.forall_mem_cons.2 ⟨.inr ⟨(.tail _ (.tail _ (.head _))), (by first | assumption | exact Ne.symm (by assumption))⟩, (List.forall_mem_cons.2 ⟨.inr ⟨(.tail _ (.tail _ (.tail _ (.head _)))), (by first | assumption | exact Ne.symm (by assumption))⟩, (List.forall_mem_cons.2 ⟨.inr ⟨(.tail _ (.tail _ (.tail _ (.tail _ (.head _))))), (by first | assumption | exact Ne.symm (by assumption))⟩, (List.forall_mem_cons.2 ⟨.inr ⟨(.tail _ (.tail _ (.tail _ (.tail _ (.tail _ (.head _)))))), (by first | assumption | exact Ne.symm (by assumption))⟩, (List.forall_mem_cons.2 ⟨.inr ⟨(.tail _ (.tail _ (.tail _ (.tail _ (.tail _ (.tail _ (.head _))))))), (by first | assumption | exact Ne.symm (by assumption))⟩, (List.forall_mem_cons.2 ⟨.inr ⟨(.tail _ (.tail _ (.tail _ (.tail _ (.tail _ (.tail _ (.tail _ (.head _)))))))), (by first | assumption | exact Ne.symm (by assumption))⟩, (List.forall_mem_cons.2 ⟨.inr ⟨(.tail _ (.tail _ (.tail _ (.tail _ (.tail _ (.tail _ (.tail _ (.tail _ (.head _))))))))), (by first | assumption | exact Ne.symm (by assumption))⟩, (List.forall_mem_cons.2 ⟨.inr ⟨(.tail _ (.tail _ (.tail _ (.tail _ (.tail _ (.tail _ (.tail _ (.tail _ (.tail _ (.head _)))))))))), (by first | assumption | exact Ne.symm (by assumption))⟩, (List.forall_mem_cons.2 ⟨.inr ⟨(.tail _ (.tail _ (.tail _ (.tail _ (.tail _ (.tail _ (.tail _ (.tail _ (.tail _ (.tail _ (.head _))))))))))), (by first | assumption | exact Ne.symm (by assumption))⟩, (List.forall_mem_cons.2 ⟨.inr ⟨(.tail _ (.tail _ (.tail _ (.tail _ (.tail _ (.tail _ (.tail _ (.tail _ (.tail _ (.tail _ (.tail _ (.head _)))))))))))), (by first | assumption | exact Ne.symm (by assumption))⟩, (List.forall_mem_cons.2 ⟨.inr ⟨(.tail _ (.tail _ (.tail _ (.tail _ (.tail _ (.tail _ (.tail _ (.tail _ (.tail _ (.tail _ (.tail _ (.tail _ (.head _))))))))))))), (by first | assumption | exact Ne.symm (by assumption))⟩, (List.forall_mem_cons.2 ⟨.inr ⟨(.tail _ (.tail _ (.tail _ (.tail _ (.tail _ (.tail _ (.tail _ (.tail _ (.tail _ (.tail _ (.tail _ (.tail _ (.tail _ (.head _)))))))))))))), (by first | assumption | exact Ne.symm (by assumption))⟩, (List.forall_mem_nil _)⟩)⟩)⟩)⟩)⟩)⟩)⟩)⟩)⟩)⟩)⟩)⟩)⟩)⟩)) ?_
  refine wpL_done (fun W32 hW32 => ?_)
  refine (show Code.wp _ _ _ _ _ from ?_)
  refine wp_seq ?_
  refine wp_region_L (W0 := w) [(g26, .cells (bxC exN) 26 (0, 0)), (g24, .cells (bxC exC) 26 (0, 0)), (g22, .cells (bxC exL) 26 (0, 0)), (g20, .cells (bxC exD) 26 (0, 0)), (g18, .cells (bxC exH) 26 (0, 0)), (g16, .cells (bxC exS) 26 (0, 0)), (g14, .cells ((bcs [exS, exH, exD, exL, exC, exN]).toArray) 26 (0, 0)), (g12, .cells (bxC exN) 26 (0, 0)), (g10, .cells (bxC exC) 26 (0, 0)), (g8, .cells (bxC exL) 26 (0, 0)), (g6, .cells (bxC exD) 26 (0, 0)), (g4, .cells (bxC exH) 26 (0, 0)), (g2, .cells (bxC exS) 26 (0, 0)), (g1, .cells (bxC exR) 26 (0, 0))] (hW32) ?_
  refine lv (v := bxV exN) rfl rfl (yb_load (n := 9) (off := 0) rfl (by kernel_rfl) (.head _) Tryd.underlying26 rfl (by kernel_rfl) (Nat.le_refl 9) (by kernel_rfl)) ?_
  refine lv (v := .bool false) rfl rfl (yb_call (f := 20) (args := #[bxV exN]) (fun _ => by kernel_rfl) fun W hW => right_is (b := exN) (by decide +kernel) W) ?_
  refine wpL_done (fun W33 hW33 => ?_)
  refine (show Code.wp _ _ _ _ _ from ?_)
  refine wp_cond_false rfl ?_
  refine wp_skip ?_
  refine (show Code.wp _ _ _ _ _ from ?_)
  refine wp_region_L (W0 := w) [(g26, .cells (bxC exN) 26 (0, 0)), (g24, .cells (bxC exC) 26 (0, 0)), (g22, .cells (bxC exL) 26 (0, 0)), (g20, .cells (bxC exD) 26 (0, 0)), (g18, .cells (bxC exH) 26 (0, 0)), (g16, .cells (bxC exS) 26 (0, 0)), (g14, .cells ((bcs [exS, exH, exD, exL, exC, exN]).toArray) 26 (0, 0)), (g12, .cells (bxC exN) 26 (0, 0)), (g10, .cells (bxC exC) 26 (0, 0)), (g8, .cells (bxC exL) 26 (0, 0)), (g6, .cells (bxC exD) 26 (0, 0)), (g4, .cells (bxC exH) 26 (0, 0)), (g2, .cells (bxC exS) 26 (0, 0)), (g1, .cells (bxC exR) 26 (0, 0))] (hW33) ?_
  refine lm (v := .int .i64 6) rfl rfl ?_
  refine lm (v := .int .i64 6) rfl rfl ?_
  refine wpL_done (fun W34 hW34 => ?_)
  refine (show Code.wp _ _ _ _ _ from ?_)
  refine wp_seq ?_
  refine wp_region_L (W0 := w) [(g26, .cells (bxC exN) 26 (0, 0)), (g24, .cells (bxC exC) 26 (0, 0)), (g22, .cells (bxC exL) 26 (0, 0)), (g20, .cells (bxC exD) 26 (0, 0)), (g18, .cells (bxC exH) 26 (0, 0)), (g16, .cells (bxC exS) 26 (0, 0)), (g14, .cells ((bcs [exS, exH, exD, exL, exC, exN]).toArray) 26 (0, 0)), (g12, .cells (bxC exN) 26 (0, 0)), (g10, .cells (bxC exC) 26 (0, 0)), (g8, .cells (bxC exL) 26 (0, 0)), (g6, .cells (bxC exD) 26 (0, 0)), (g4, .cells (bxC exH) 26 (0, 0)), (g2, .cells (bxC exS) 26 (0, 0)), (g1, .cells (bxC exR) 26 (0, 0))] (hW34) ?_
  refine lm (v := .bool false) rfl rfl ?_
  refine wpL_done (fun W35 hW35 => ?_)
  refine (show Code.wp _ _ _ _ _ from ?_)
  refine wp_seq ?_
  refine wp_cond_false rfl ?_
  refine wp_exit ?_
  refine (show Code.wp _ _ _ _ _ from ?_)
  refine wp_seq ?_
  refine wp_seq ?_
  refine wp_region_L (W0 := w) [(g26, .cells (bxC exN) 26 (0, 0)), (g24, .cells (bxC exC) 26 (0, 0)), (g22, .cells (bxC exL) 26 (0, 0)), (g20, .cells (bxC exD) 26 (0, 0)), (g18, .cells (bxC exH) 26 (0, 0)), (g16, .cells (bxC exS) 26 (0, 0)), (g14, .cells ((bcs [exS, exH, exD, exL, exC, exN]).toArray) 26 (0, 0)), (g12, .cells (bxC exN) 26 (0, 0)), (g10, .cells (bxC exC) 26 (0, 0)), (g8, .cells (bxC exL) 26 (0, 0)), (g6, .cells (bxC exD) 26 (0, 0)), (g4, .cells (bxC exH) 26 (0, 0)), (g2, .cells (bxC exS) 26 (0, 0)), (g1, .cells (bxC exR) 26 (0, 0))] (hW35) ?_
  refine lv (v := bxV exS) rfl rfl (yb_load (n := 9) (off := 0) rfl (by kernel_rfl) (.tail _ (.tail _ (.tail _ (.tail _ (.tail _ (.tail _ (.tail _ (.tail _ (.tail _ (.tail _ (.tail _ (.tail _ (.head _))))))))))))) Tryd.underlying26 rfl (by kernel_rfl) (Nat.le_refl 9) (by kernel_rfl)) ?_
  refine lv (v := .tuple #[strV [], .int .i64 60]) rfl rfl (yb_call (f := 18) (args := #[bxV exS]) (fun _ => by kernel_rfl) fun W hW => bcode_is (b := exS) (by kernel_rfl) W (HE.out.keep hW.1)) ?_
  refine lm (v := .tuple #[strV [], .int .i64 60]) rfl rfl ?_
  refine lm (v := strV []) rfl rfl ?_
  refine lm (v := .int .i64 60) rfl rfl ?_
  refine lm (v := strV []) rfl rfl ?_
  refine lm (v := .int .i64 60) rfl rfl ?_
  refine wpL_done (fun W36 hW36 => ?_)
  refine (show Code.wp _ _ _ _ _ from ?_)
  refine wp_seq ?_
  refine wp_region_L (W0 := w) [(g26, .cells (bxC exN) 26 (0, 0)), (g24, .cells (bxC exC) 26 (0, 0)), (g22, .cells (bxC exL) 26 (0, 0)), (g20, .cells (bxC exD) 26 (0, 0)), (g18, .cells (bxC exH) 26 (0, 0)), (g16, .cells (bxC exS) 26 (0, 0)), (g14, .cells ((bcs [exS, exH, exD, exL, exC, exN]).toArray) 26 (0, 0)), (g12, .cells (bxC exN) 26 (0, 0)), (g10, .cells (bxC exC) 26 (0, 0)), (g8, .cells (bxC exL) 26 (0, 0)), (g6, .cells (bxC exD) 26 (0, 0)), (g4, .cells (bxC exH) 26 (0, 0)), (g2, .cells (bxC exS) 26 (0, 0)), (g1, .cells (bxC exR) 26 (0, 0))] (hW36) ?_
  refine lm (v := .int .i64 60) rfl rfl ?_
  refine lm (v := .bool false) rfl rfl ?_
  refine wpL_done (fun W37 hW37 => ?_)
  refine (show Code.wp _ _ _ _ _ from ?_)
  refine wp_cond_false rfl ?_
  refine wp_skip ?_
  refine (show Code.wp _ _ _ _ _ from ?_)
  refine wp_seq ?_
  refine wp_region_L (W0 := w) [(g26, .cells (bxC exN) 26 (0, 0)), (g24, .cells (bxC exC) 26 (0, 0)), (g22, .cells (bxC exL) 26 (0, 0)), (g20, .cells (bxC exD) 26 (0, 0)), (g18, .cells (bxC exH) 26 (0, 0)), (g16, .cells (bxC exS) 26 (0, 0)), (g14, .cells ((bcs [exS, exH, exD, exL, exC, exN]).toArray) 26 (0, 0)), (g12, .cells (bxC exN) 26 (0, 0)), (g10, .cells (bxC exC) 26 (0, 0)), (g8, .cells (bxC exL) 26 (0, 0)), (g6, .cells (bxC exD) 26 (0, 0)), (g4, .cells (bxC exH) 26 (0, 0)), (g2, .cells (bxC exS) 26 (0, 0)), (g1, .cells (bxC exR) 26 (0, 0))] (hW37) ?_
  refine lm (v := .agg #[.int .i64 1, strV [], .int .u8 20, .bool false, .int .i64 9, .int .i64 0, .int .i64 2, .int .u8 0, .bool false]) rfl rfl ?_
  refine lm (v := .agg #[.int .i64 2, strV [], .int .u8 20, .bool false, .int .i64 5, .int .i64 0, .int .i64 3, .int .u8 0, .bool false]) rfl rfl ?_
  refine lm (v := .agg #[.int .i64 3, strV [], .int .u8 20, .bool false, .int .i64 8, .int .i64 0, .int .i64 3, .int .u8 0, .bool false]) rfl rfl ?_
  refine lm (v := .agg #[.int .i64 4, strV [], .int .u8 20, .bool false, .int .i64 8, .int .i64 0, .int .i64 3, .int .u8 0, .bool false]) rfl rfl ?_
  refine wpL_new (fun g => .pointer (some ⟨g, 0, none⟩)) (obi := .cells (bxC bx0) 26 (0, 0)) rfl rfl (fun _ => by kernel_rfl) (fun _ => by simp only [List.setIfInBounds_toArray, List.set_cons_succ, List.set_cons_zero] <;> rfl) fun g28 Bg28 Fg28 => ?_
  obtain ⟨dj29_0, dj29_1, dj29_2, dj29_3, dj29_4, dj29_5, dj29_6, dj29_7, dj29_8, dj29_9, dj29_10, dj29_11, dj29_12, dj29_13⟩ : g26 ≠ g28 ∧ g24 ≠ g28 ∧ g22 ≠ g28 ∧ g20 ≠ g28 ∧ g18 ≠ g28 ∧ g16 ≠ g28 ∧ g14 ≠ g28 ∧ g12 ≠ g28 ∧ g10 ≠ g28 ∧ g8 ≠ g28 ∧ g6 ≠ g28 ∧ g4 ≠ g28 ∧ g2 ≠ g28 ∧ g1 ≠ g28 := by simpa only [dj_app_l, dj_app_r, dj_cons_l, dj_cons_r, dj_nil_l, dj_nil_r, dk_app, dk_cons, dk_nil, and_true, true_and, and_assoc] using (show Dk g28 [(g26, .cells (bxC exN) 26 (0, 0)), (g24, .cells (bxC exC) 26 (0, 0)), (g22, .cells (bxC exL) 26 (0, 0)), (g20, .cells (bxC exD) 26 (0, 0)), (g18, .cells (bxC exH) 26 (0, 0)), (g16, .cells (bxC exS) 26 (0, 0)), (g14, .cells ((bcs [exS, exH, exD, exL, exC, exN]).toArray) 26 (0, 0)), (g12, .cells (bxC exN) 26 (0, 0)), (g10, .cells (bxC exC) 26 (0, 0)), (g8, .cells (bxC exL) 26 (0, 0)), (g6, .cells (bxC exD) 26 (0, 0)), (g4, .cells (bxC exH) 26 (0, 0)), (g2, .cells (bxC exS) 26 (0, 0)), (g1, .cells (bxC exR) 26 (0, 0))] from Fg28)
  refine wpL_new (fun g => .pointer (some ⟨g, 0, none⟩)) (obi := .cells (bxC bx0) 26 (0, 0)) rfl rfl (fun _ => by kernel_rfl) (fun _ => by simp only [List.setIfInBounds_toArray, List.set_cons_succ, List.set_cons_zero] <;> rfl) fun g30 Bg30 Fg30 => ?_
  obtain ⟨dj31_0, dj31_1, dj31_2, dj31_3, dj31_4, dj31_5, dj31_6, dj31_7, dj31_8, dj31_9, dj31_10, dj31_11, dj31_12, dj31_13, dj31_14⟩ : g28 ≠ g30 ∧ g26 ≠ g30 ∧ g24 ≠ g30 ∧ g22 ≠ g30 ∧ g20 ≠ g30 ∧ g18 ≠ g30 ∧ g16 ≠ g30 ∧ g14 ≠ g30 ∧ g12 ≠ g30 ∧ g10 ≠ g30 ∧ g8 ≠ g30 ∧ g6 ≠ g30 ∧ g4 ≠ g30 ∧ g2 ≠ g30 ∧ g1 ≠ g30 := by simpa only [dj_app_l, dj_app_r, dj_cons_l, dj_cons_r, dj_nil_l, dj_nil_r, dk_app, dk_cons, dk_nil, and_true, true_and, and_assoc] using (show Dk g30 [(g28, .cells (bxC bx0) 26 (0, 0)), (g26, .cells (bxC exN) 26 (0, 0)), (g24, .cells (bxC exC) 26 (0, 0)), (g22, .cells (bxC exL) 26 (0, 0)), (g20, .cells (bxC exD) 26 (0, 0)), (g18, .cells (bxC exH) 26 (0, 0)), (g16, .cells (bxC exS) 26 (0, 0)), (g14, .cells ((bcs [exS, exH, exD, exL, exC, exN]).toArray) 26 (0, 0)), (g12, .cells (bxC exN) 26 (0, 0)), (g10, .cells (bxC exC) 26 (0, 0)), (g8, .cells (bxC exL) 26 (0, 0)), (g6, .cells (bxC exD) 26 (0, 0)), (g4, .cells (bxC exH) 26 (0, 0)), (g2, .cells (bxC exS) 26 (0, 0)), (g1, .cells (bxC exR) 26 (0, 0))] from Fg30)
  refine wpL_new (fun g => .pointer (some ⟨g, 0, none⟩)) (obi := .cells (bxC bx0) 26 (0, 0)) rfl rfl (fun _ => by kernel_rfl) (fun _ => by simp only [List.setIfInBounds_toArray, List.set_cons_succ, List.set_cons_zero] <;> rfl) fun g32 Bg32 Fg32 => ?_
  obtain ⟨dj33_0, dj33_1, dj33_2, dj33_3, dj33_4, dj33_5, dj33_6, dj33_7, dj33_8, dj33_9, dj33_10, dj33_11, dj33_12, dj33_13, dj33_14, dj33_15⟩ : g30 ≠ g32 ∧ g28 ≠ g32 ∧ g26 ≠ g32 ∧ g24 ≠ g32 ∧ g22 ≠ g32 ∧ g20 ≠ g32 ∧ g18 ≠ g32 ∧ g16 ≠ g32 ∧ g14 ≠ g32 ∧ g12 ≠ g32 ∧ g10 ≠ g32 ∧ g8 ≠ g32 ∧ g6 ≠ g32 ∧ g4 ≠ g32 ∧ g2 ≠ g32 ∧ g1 ≠ g32 := by simpa only [dj_app_l, dj_app_r, dj_cons_l, dj_cons_r, dj_nil_l, dj_nil_r, dk_app, dk_cons, dk_nil, and_true, true_and, and_assoc] using (show Dk g32 [(g30, .cells (bxC bx0) 26 (0, 0)), (g28, .cells (bxC bx0) 26 (0, 0)), (g26, .cells (bxC exN) 26 (0, 0)), (g24, .cells (bxC exC) 26 (0, 0)), (g22, .cells (bxC exL) 26 (0, 0)), (g20, .cells (bxC exD) 26 (0, 0)), (g18, .cells (bxC exH) 26 (0, 0)), (g16, .cells (bxC exS) 26 (0, 0)), (g14, .cells ((bcs [exS, exH, exD, exL, exC, exN]).toArray) 26 (0, 0)), (g12, .cells (bxC exN) 26 (0, 0)), (g10, .cells (bxC exC) 26 (0, 0)), (g8, .cells (bxC exL) 26 (0, 0)), (g6, .cells (bxC exD) 26 (0, 0)), (g4, .cells (bxC exH) 26 (0, 0)), (g2, .cells (bxC exS) 26 (0, 0)), (g1, .cells (bxC exR) 26 (0, 0))] from Fg32)
  refine wpL_new (fun g => .pointer (some ⟨g, 0, none⟩)) (obi := .cells (bxC bx0) 26 (0, 0)) rfl rfl (fun _ => by kernel_rfl) (fun _ => by simp only [List.setIfInBounds_toArray, List.set_cons_succ, List.set_cons_zero] <;> rfl) fun g34 Bg34 Fg34 => ?_
  obtain ⟨dj35_0, dj35_1, dj35_2, dj35_3, dj35_4, dj35_5, dj35_6, dj35_7, dj35_8, dj35_9, dj35_10, dj35_11, dj35_12, dj35_13, dj35_14, dj35_15, dj35_16⟩ : g32 ≠ g34 ∧ g30 ≠ g34 ∧ g28 ≠ g34 ∧ g26 ≠ g34 ∧ g24 ≠ g34 ∧ g22 ≠ g34 ∧ g20 ≠ g34 ∧ g18 ≠ g34 ∧ g16 ≠ g34 ∧ g14 ≠ g34 ∧ g12 ≠ g34 ∧ g10 ≠ g34 ∧ g8 ≠ g34 ∧ g6 ≠ g34 ∧ g4 ≠ g34 ∧ g2 ≠ g34 ∧ g1 ≠ g34 := by simpa only [dj_app_l, dj_app_r, dj_cons_l, dj_cons_r, dj_nil_l, dj_nil_r, dk_app, dk_cons, dk_nil, and_true, true_and, and_assoc] using (show Dk g34 [(g32, .cells (bxC bx0) 26 (0, 0)), (g30, .cells (bxC bx0) 26 (0, 0)), (g28, .cells (bxC bx0) 26 (0, 0)), (g26, .cells (bxC exN) 26 (0, 0)), (g24, .cells (bxC exC) 26 (0, 0)), (g22, .cells (bxC exL) 26 (0, 0)), (g20, .cells (bxC exD) 26 (0, 0)), (g18, .cells (bxC exH) 26 (0, 0)), (g16, .cells (bxC exS) 26 (0, 0)), (g14, .cells ((bcs [exS, exH, exD, exL, exC, exN]).toArray) 26 (0, 0)), (g12, .cells (bxC exN) 26 (0, 0)), (g10, .cells (bxC exC) 26 (0, 0)), (g8, .cells (bxC exL) 26 (0, 0)), (g6, .cells (bxC exD) 26 (0, 0)), (g4, .cells (bxC exH) 26 (0, 0)), (g2, .cells (bxC exS) 26 (0, 0)), (g1, .cells (bxC exR) 26 (0, 0))] from Fg34)
  refine wpL_s [(g34, .cells (bxC bx0) 26 (0, 0)), (g32, .cells (bxC bx0) 26 (0, 0)), (g30, .cells (bxC bx0) 26 (0, 0)), (g28, .cells (bxC ob1) 26 (0, 0)), (g26, .cells (bxC exN) 26 (0, 0)), (g24, .cells (bxC exC) 26 (0, 0)), (g22, .cells (bxC exL) 26 (0, 0)), (g20, .cells (bxC exD) 26 (0, 0)), (g18, .cells (bxC exH) 26 (0, 0)), (g16, .cells (bxC exS) 26 (0, 0)), (g14, .cells ((bcs [exS, exH, exD, exL, exC, exN]).toArray) 26 (0, 0)), (g12, .cells (bxC exN) 26 (0, 0)), (g10, .cells (bxC exC) 26 (0, 0)), (g8, .cells (bxC exL) 26 (0, 0)), (g6, .cells (bxC exD) 26 (0, 0)), (g4, .cells (bxC exH) 26 (0, 0)), (g2, .cells (bxC exS) 26 (0, 0)), (g1, .cells (bxC exR) 26 (0, 0))] rfl rfl (st_row (off := 0) (v := .agg #[.int .i64 1, strV [], .int .u8 20, .bool false, .int .i64 9, .int .i64 0, .int .i64 2, .int .u8 0, .bool false]) rfl (by kernel_rfl) (by kernel_rfl) (.tail _ (.tail _ (.tail _ (.head _)))) Bg28 (by kernel_rfl) (by first | (simp [Value.cells]; done) | exact Nat.le_of_ble_eq_true rfl) (by intro v hv; simp [Value.cells, strV] at hv; first | (subst hv; rfl) | (rcases hv with rfl | rfl | rfl | rfl | rfl | rfl | rfl | rfl | rfl <;> rfl)) (by kernel_rfl) (List.forall_mem_cons.2 ⟨.inr ⟨(.head _), (by first | assumption | exact Ne.symm (by assumption))⟩, (List.forall_mem_cons.2 ⟨.inr ⟨(.tail _ (.head _)), (by first | assumption | exact Ne.symm (by assumption))⟩, (List.forall_mem_cons.2 ⟨.inr ⟨(.tail _ (.tail _ (.head _))), (by first | assumption | exact Ne.symm (by assumption))⟩, (List.forall_mem_cons.2 ⟨.inl rfl, (List.forall_mem_cons.2 ⟨.inr ⟨(.tail _ (.tail _ (.tail _ (.tail _ (.head _))))), (by first | assumption | exact Ne.symm (by assumption))⟩, (List.forall_mem_cons.2 ⟨.inr ⟨(.tail _ (.tail _ (.tail _ (.tail _ (.tail _ (.head _)))))), (by first | assumption | exact Ne.symm (by assumption))⟩, (List.forall_mem_cons.2 ⟨.inr ⟨(.tail _ (.tail _ (.tail _ (.tail _ (.tail _ (.tail _ (.head _))))))), (by first | assumption | exact Ne.symm (by assumption))⟩, (List.forall_mem_cons.2 ⟨.inr ⟨(.tail _ (.tail _ (.tail _ (.tail _ (.tail _ (.tail _ (.tail _ (.head _)))))))), (by first | assumption | exact Ne.symm (by assumption))⟩, (List.forall_mem_cons.2 ⟨.inr ⟨(.tail _ (.tail _ (.tail _ (.tail _ (.tail _ (.tail _ (.tail _ (.tail _ (.head _))))))))), (by first | assumption | exact Ne.symm (by assumption))⟩, (List.forall_mem_cons.2 ⟨.inr ⟨(.tail _ (.tail _ (.tail _ (.tail _ (.tail _ (.tail _ (.tail _ (.tail _ (.tail _ (.head _)))))))))), (by first | assumption | exact Ne.symm (by assumption))⟩, (List.forall_mem_cons.2 ⟨.inr ⟨(.tail _ (.tail _ (.tail _ (.tail _ (.tail _ (.tail _ (.tail _ (.tail _ (.tail _ (.tail _ (.head _))))))))))), (by first | assumption | exact Ne.symm (by assumption))⟩, (List.forall_mem_cons.2 ⟨.inr ⟨(.tail _ (.tail _ (.tail _ (.tail _ (.tail _ (.tail _ (.tail _ (.tail _ (.tail _ (.tail _ (.tail _ (.head _)))))))))))), (by first | assumption | exact Ne.symm (by assumption))⟩, (List.forall_mem_cons.2 ⟨.inr ⟨(.tail _ (.tail _ (.tail _ (.tail _ (.tail _ (.tail _ (.tail _ (.tail _ (.tail _ (.tail _ (.tail _ (.tail _ (.head _))))))))))))), (by first | assumption | exact Ne.symm (by assumption))⟩, (List.forall_mem_cons.2 ⟨.inr ⟨(.tail _ (.tail _ (.tail _ (.tail _ (.tail _ (.tail _ (.tail _ (.tail _ (.tail _ (.tail _ (.tail _ (.tail _ (.tail _ (.head _)))))))))))))), (by first | assumption | exact Ne.symm (by assumption))⟩, (List.forall_mem_cons.2 ⟨.inr ⟨(.tail _ (.tail _ (.tail _ (.tail _ (.tail _ (.tail _ (.tail _ (.tail _ (.tail _ (.tail _ (.tail _ (.tail _ (.tail _ (.tail _ (.head _))))))))))))))), (by first | assumption | exact Ne.symm (by assumption))⟩, (List.forall_mem_cons.2 ⟨.inr ⟨(.tail _ (.tail _ (.tail _ (.tail _ (.tail _ (.tail _ (.tail _ (.tail _ (.tail _ (.tail _ (.tail _ (.tail _ (.tail _ (.tail _ (.tail _ (.head _)))))))))))))))), (by first | assumption | exact Ne.symm (by assumption))⟩, (List.forall_mem_cons.2 ⟨.inr ⟨(.tail _ (.tail _ (.tail _ (.tail _ (.tail _ (.tail _ (.tail _ (.tail _ (.tail _ (.tail _ (.tail _ (.tail _ (.tail _ (.tail _ (.tail _ (.tail _ (.head _))))))))))))))))), (by first | assumption | exact Ne.symm (by assumption))⟩, (List.forall_mem_cons.2 ⟨.inr ⟨(.tail _ (.tail _ (.tail _ (.tail _ (.tail _ (.tail _ (.tail _ (.tail _ (.tail _ (.tail _ (.tail _ (.tail _ (.tail _ (.tail _ (.tail _ (.tail _ (.tail _ (.head _)))))))))))))))))), (by first | assumption | exact Ne.symm (by assumption))⟩, (List.forall_mem_nil _)⟩)⟩)⟩)⟩)⟩)⟩)⟩)⟩)⟩)⟩)⟩)⟩)⟩)⟩)⟩)⟩)⟩)⟩)) ?_
  refine wpL_s [(g34, .cells (bxC bx0) 26 (0, 0)), (g32, .cells (bxC bx0) 26 (0, 0)), (g30, .cells (bxC ob2) 26 (0, 0)), (g28, .cells (bxC ob1) 26 (0, 0)), (g26, .cells (bxC exN) 26 (0, 0)), (g24, .cells (bxC exC) 26 (0, 0)), (g22, .cells (bxC exL) 26 (0, 0)), (g20, .cells (bxC exD) 26 (0, 0)), (g18, .cells (bxC exH) 26 (0, 0)), (g16, .cells (bxC exS) 26 (0, 0)), (g14, .cells ((bcs [exS, exH, exD, exL, exC, exN]).toArray) 26 (0, 0)), (g12, .cells (bxC exN) 26 (0, 0)), (g10, .cells (bxC exC) 26 (0, 0)), (g8, .cells (bxC exL) 26 (0, 0)), (g6, .cells (bxC exD) 26 (0, 0)), (g4, .cells (bxC exH) 26 (0, 0)), (g2, .cells (bxC exS) 26 (0, 0)), (g1, .cells (bxC exR) 26 (0, 0))] rfl rfl (st_row (off := 0) (v := .agg #[.int .i64 2, strV [], .int .u8 20, .bool false, .int .i64 5, .int .i64 0, .int .i64 3, .int .u8 0, .bool false]) rfl (by kernel_rfl) (by kernel_rfl) (.tail _ (.tail _ (.head _))) Bg30 (by kernel_rfl) (by first | (simp [Value.cells]; done) | exact Nat.le_of_ble_eq_true rfl) (by intro v hv; simp [Value.cells, strV] at hv; first | (subst hv; rfl) | (rcases hv with rfl | rfl | rfl | rfl | rfl | rfl | rfl | rfl | rfl <;> rfl)) (by kernel_rfl) (List.forall_mem_cons.2 ⟨.inr ⟨(.head _), (by first | assumption | exact Ne.symm (by assumption))⟩, (List.forall_mem_cons.2 ⟨.inr ⟨(.tail _ (.head _)), (by first | assumption | exact Ne.symm (by assumption))⟩, (List.forall_mem_cons.2 ⟨.inl rfl, (List.forall_mem_cons.2 ⟨.inr ⟨(.tail _ (.tail _ (.tail _ (.head _)))), (by first | assumption | exact Ne.symm (by assumption))⟩, (List.forall_mem_cons.2 ⟨.inr ⟨(.tail _ (.tail _ (.tail _ (.tail _ (.head _))))), (by first | assumption | exact Ne.symm (by assumption))⟩, (List.forall_mem_cons.2 ⟨.inr ⟨(.tail _ (.tail _ (.tail _ (.tail _ (.tail _ (.head _)))))), (by first | assumption | exact Ne.symm (by assumption))⟩, (List.forall_mem_cons.2 ⟨.inr ⟨(.tail _ (.tail _ (.tail _ (.tail _ (.tail _ (.tail _ (.head _))))))), (by first | assumption | exact Ne.symm (by assumption))⟩, (List.forall_mem_cons.2 ⟨.inr ⟨(.tail _ (.tail _ (.tail _ (.tail _ (.tail _ (.tail _ (.tail _ (.head _)))))))), (by first | assumption | exact Ne.symm (by assumption))⟩, (List.forall_mem_cons.2 ⟨.inr ⟨(.tail _ (.tail _ (.tail _ (.tail _ (.tail _ (.tail _ (.tail _ (.tail _ (.head _))))))))), (by first | assumption | exact Ne.symm (by assumption))⟩, (List.forall_mem_cons.2 ⟨.inr ⟨(.tail _ (.tail _ (.tail _ (.tail _ (.tail _ (.tail _ (.tail _ (.tail _ (.tail _ (.head _)))))))))), (by first | assumption | exact Ne.symm (by assumption))⟩, (List.forall_mem_cons.2 ⟨.inr ⟨(.tail _ (.tail _ (.tail _ (.tail _ (.tail _ (.tail _ (.tail _ (.tail _ (.tail _ (.tail _ (.head _))))))))))), (by first | assumption | exact Ne.symm (by assumption))⟩, (List.forall_mem_cons.2 ⟨.inr ⟨(.tail _ (.tail _ (.tail _ (.tail _ (.tail _ (.tail _ (.tail _ (.tail _ (.tail _ (.tail _ (.tail _ (.head _)))))))))))), (by first | assumption | exact Ne.symm (by assumption))⟩, (List.forall_mem_cons.2 ⟨.inr ⟨(.tail _ (.tail _ (.tail _ (.tail _ (.tail _ (.tail _ (.tail _ (.tail _ (.tail _ (.tail _ (.tail _ (.tail _ (.head _))))))))))))), (by first | assumption | exact Ne.symm (by assumption))⟩, (List.forall_mem_cons.2 ⟨.inr ⟨(.tail _ (.tail _ (.tail _ (.tail _ (.tail _ (.tail _ (.tail _ (.tail _ (.tail _ (.tail _ (.tail _ (.tail _ (.tail _ (.head _)))))))))))))), (by first | assumption | exact Ne.symm (by assumption))⟩, (List.forall_mem_cons.2 ⟨.inr ⟨(.tail _ (.tail _ (.tail _ (.tail _ (.tail _ (.tail _ (.tail _ (.tail _ (.tail _ (.tail _ (.tail _ (.tail _ (.tail _ (.tail _ (.head _))))))))))))))), (by first | assumption | exact Ne.symm (by assumption))⟩, (List.forall_mem_cons.2 ⟨.inr ⟨(.tail _ (.tail _ (.tail _ (.tail _ (.tail _ (.tail _ (.tail _ (.tail _ (.tail _ (.tail _ (.tail _ (.tail _ (.tail _ (.tail _ (.tail _ (.head _)))))))))))))))), (by first | assumption | exact Ne.symm (by assumption))⟩, (List.forall_mem_cons.2 ⟨.inr ⟨(.tail _ (.tail _ (.tail _ (.tail _ (.tail _ (.tail _ (.tail _ (.tail _ (.tail _ (.tail _ (.tail _ (.tail _ (.tail _ (.tail _ (.tail _ (.tail _ (.head _))))))))))))))))), (by first | assumption | exact Ne.symm (by assumption))⟩, (List.forall_mem_cons.2 ⟨.inr ⟨(.tail _ (.tail _ (.tail _ (.tail _ (.tail _ (.tail _ (.tail _ (.tail _ (.tail _ (.tail _ (.tail _ (.tail _ (.tail _ (.tail _ (.tail _ (.tail _ (.tail _ (.head _)))))))))))))))))), (by first | assumption | exact Ne.symm (by assumption))⟩, (List.forall_mem_nil _)⟩)⟩)⟩)⟩)⟩)⟩)⟩)⟩)⟩)⟩)⟩)⟩)⟩)⟩)⟩)⟩)⟩)⟩)) ?_
  refine wpL_s [(g34, .cells (bxC bx0) 26 (0, 0)), (g32, .cells (bxC ob3) 26 (0, 0)), (g30, .cells (bxC ob2) 26 (0, 0)), (g28, .cells (bxC ob1) 26 (0, 0)), (g26, .cells (bxC exN) 26 (0, 0)), (g24, .cells (bxC exC) 26 (0, 0)), (g22, .cells (bxC exL) 26 (0, 0)), (g20, .cells (bxC exD) 26 (0, 0)), (g18, .cells (bxC exH) 26 (0, 0)), (g16, .cells (bxC exS) 26 (0, 0)), (g14, .cells ((bcs [exS, exH, exD, exL, exC, exN]).toArray) 26 (0, 0)), (g12, .cells (bxC exN) 26 (0, 0)), (g10, .cells (bxC exC) 26 (0, 0)), (g8, .cells (bxC exL) 26 (0, 0)), (g6, .cells (bxC exD) 26 (0, 0)), (g4, .cells (bxC exH) 26 (0, 0)), (g2, .cells (bxC exS) 26 (0, 0)), (g1, .cells (bxC exR) 26 (0, 0))] rfl rfl (st_row (off := 0) (v := .agg #[.int .i64 3, strV [], .int .u8 20, .bool false, .int .i64 8, .int .i64 0, .int .i64 3, .int .u8 0, .bool false]) rfl (by kernel_rfl) (by kernel_rfl) (.tail _ (.head _)) Bg32 (by kernel_rfl) (by first | (simp [Value.cells]; done) | exact Nat.le_of_ble_eq_true rfl) (by intro v hv; simp [Value.cells, strV] at hv; first | (subst hv; rfl) | (rcases hv with rfl | rfl | rfl | rfl | rfl | rfl | rfl | rfl | rfl <;> rfl)) (by kernel_rfl) (List.forall_mem_cons.2 ⟨.inr ⟨(.head _), (by first | assumption | exact Ne.symm (by assumption))⟩, (List.forall_mem_cons.2 ⟨.inl rfl, (List.forall_mem_cons.2 ⟨.inr ⟨(.tail _ (.tail _ (.head _))), (by first | assumption | exact Ne.symm (by assumption))⟩, (List.forall_mem_cons.2 ⟨.inr ⟨(.tail _ (.tail _ (.tail _ (.head _)))), (by first | assumption | exact Ne.symm (by assumption))⟩, (List.forall_mem_cons.2 ⟨.inr ⟨(.tail _ (.tail _ (.tail _ (.tail _ (.head _))))), (by first | assumption | exact Ne.symm (by assumption))⟩, (List.forall_mem_cons.2 ⟨.inr ⟨(.tail _ (.tail _ (.tail _ (.tail _ (.tail _ (.head _)))))), (by first | assumption | exact Ne.symm (by assumption))⟩, (List.forall_mem_cons.2 ⟨.inr ⟨(.tail _ (.tail _ (.tail _ (.tail _ (.tail _ (.tail _ (.head _))))))), (by first | assumption | exact Ne.symm (by assumption))⟩, (List.forall_mem_cons.2 ⟨.inr ⟨(.tail _ (.tail _ (.tail _ (.tail _ (.tail _ (.tail _ (.tail _ (.head _)))))))), (by first | assumption | exact Ne.symm (by assumption))⟩, (List.forall_mem_cons.2 ⟨.inr ⟨(.tail _ (.tail _ (.tail _ (.tail _ (.tail _ (.tail _ (.tail _ (.tail _ (.head _))))))))), (by first | assumption | exact Ne.symm (by assumption))⟩, (List.forall_mem_cons.2 ⟨.inr ⟨(.tail _ (.tail _ (.tail _ (.tail _ (.tail _ (.tail _ (.tail _ (.tail _ (.tail _ (.head _)))))))))), (by first | assumption | exact Ne.symm (by assumption))⟩, (List.forall_mem_cons.2 ⟨.inr ⟨(.tail _ (.tail _ (.tail _ (.tail _ (.tail _ (.tail _ (.tail _ (.tail _ (.tail _ (.tail _ (.head _))))))))))), (by first | assumption | exact Ne.symm (by assumption))⟩, (List.forall_mem_cons.2 ⟨.inr ⟨(.tail _ (.tail _ (.tail _ (.tail _ (.tail _ (.tail _ (.tail _ (.tail _ (.tail _ (.tail _ (.tail _ (.head _)))))))))))), (by first | assumption | exact Ne.symm (by assumption))⟩, (List.forall_mem_cons.2 ⟨.inr ⟨(.tail _ (.tail _ (.tail _ (.tail _ (.tail _ (.tail _ (.tail _ (.tail _ (.tail _ (.tail _ (.tail _ (.tail _ (.head _))))))))))))), (by first | assumption | exact Ne.symm (by assumption))⟩, (List.forall_mem_cons.2 ⟨.inr ⟨(.tail _ (.tail _ (.tail _ (.tail _ (.tail _ (.tail _ (.tail _ (.tail _ (.tail _ (.tail _ (.tail _ (.tail _ (.tail _ (.head _)))))))))))))), (by first | assumption | exact Ne.symm (by assumption))⟩, (List.forall_mem_cons.2 ⟨.inr ⟨(.tail _ (.tail _ (.tail _ (.tail _ (.tail _ (.tail _ (.tail _ (.tail _ (.tail _ (.tail _ (.tail _ (.tail _ (.tail _ (.tail _ (.head _))))))))))))))), (by first | assumption | exact Ne.symm (by assumption))⟩, (List.forall_mem_cons.2 ⟨.inr ⟨(.tail _ (.tail _ (.tail _ (.tail _ (.tail _ (.tail _ (.tail _ (.tail _ (.tail _ (.tail _ (.tail _ (.tail _ (.tail _ (.tail _ (.tail _ (.head _)))))))))))))))), (by first | assumption | exact Ne.symm (by assumption))⟩, (List.forall_mem_cons.2 ⟨.inr ⟨(.tail _ (.tail _ (.tail _ (.tail _ (.tail _ (.tail _ (.tail _ (.tail _ (.tail _ (.tail _ (.tail _ (.tail _ (.tail _ (.tail _ (.tail _ (.tail _ (.head _))))))))))))))))), (by first | assumption | exact Ne.symm (by assumption))⟩, (List.forall_mem_cons.2 ⟨.inr ⟨(.tail _ (.tail _ (.tail _ (.tail _ (.tail _ (.tail _ (.tail _ (.tail _ (.tail _ (.tail _ (.tail _ (.tail _ (.tail _ (.tail _ (.tail _ (.tail _ (.tail _ (.head _)))))))))))))))))), (by first | assumption | exact Ne.symm (by assumption))⟩, (List.forall_mem_nil _)⟩)⟩)⟩)⟩)⟩)⟩)⟩)⟩)⟩)⟩)⟩)⟩)⟩)⟩)⟩)⟩)⟩)⟩)) ?_
  refine wpL_s [(g34, .cells (bxC ob4) 26 (0, 0)), (g32, .cells (bxC ob3) 26 (0, 0)), (g30, .cells (bxC ob2) 26 (0, 0)), (g28, .cells (bxC ob1) 26 (0, 0)), (g26, .cells (bxC exN) 26 (0, 0)), (g24, .cells (bxC exC) 26 (0, 0)), (g22, .cells (bxC exL) 26 (0, 0)), (g20, .cells (bxC exD) 26 (0, 0)), (g18, .cells (bxC exH) 26 (0, 0)), (g16, .cells (bxC exS) 26 (0, 0)), (g14, .cells ((bcs [exS, exH, exD, exL, exC, exN]).toArray) 26 (0, 0)), (g12, .cells (bxC exN) 26 (0, 0)), (g10, .cells (bxC exC) 26 (0, 0)), (g8, .cells (bxC exL) 26 (0, 0)), (g6, .cells (bxC exD) 26 (0, 0)), (g4, .cells (bxC exH) 26 (0, 0)), (g2, .cells (bxC exS) 26 (0, 0)), (g1, .cells (bxC exR) 26 (0, 0))] rfl rfl (st_row (off := 0) (v := .agg #[.int .i64 4, strV [], .int .u8 20, .bool false, .int .i64 8, .int .i64 0, .int .i64 3, .int .u8 0, .bool false]) rfl (by kernel_rfl) (by kernel_rfl) (.head _) Bg34 (by kernel_rfl) (by first | (simp [Value.cells]; done) | exact Nat.le_of_ble_eq_true rfl) (by intro v hv; simp [Value.cells, strV] at hv; first | (subst hv; rfl) | (rcases hv with rfl | rfl | rfl | rfl | rfl | rfl | rfl | rfl | rfl <;> rfl)) (by kernel_rfl) (List.forall_mem_cons.2 ⟨.inl rfl, (List.forall_mem_cons.2 ⟨.inr ⟨(.tail _ (.head _)), (by first | assumption | exact Ne.symm (by assumption))⟩, (List.forall_mem_cons.2 ⟨.inr ⟨(.tail _ (.tail _ (.head _))), (by first | assumption | exact Ne.symm (by assumption))⟩, (List.forall_mem_cons.2 ⟨.inr ⟨(.tail _ (.tail _ (.tail _ (.head _)))), (by first | assumption | exact Ne.symm (by assumption))⟩, (List.forall_mem_cons.2 ⟨.inr ⟨(.tail _ (.tail _ (.tail _ (.tail _ (.head _))))), (by first | assumption | exact Ne.symm (by assumption))⟩, (List.forall_mem_cons.2 ⟨.inr ⟨(.tail _ (.tail _ (.tail _ (.tail _ (.tail _ (.head _)))))), (by first | assumption | exact Ne.symm (by assumption))⟩, (List.forall_mem_cons.2 ⟨.inr ⟨(.tail _ (.tail _ (.tail _ (.tail _ (.tail _ (.tail _ (.head _))))))), (by first | assumption | exact Ne.symm (by assumption))⟩, (List.forall_mem_cons.2 ⟨.inr ⟨(.tail _ (.tail _ (.tail _ (.tail _ (.tail _ (.tail _ (.tail _ (.head _)))))))), (by first | assumption | exact Ne.symm (by assumption))⟩, (List.forall_mem_cons.2 ⟨.inr ⟨(.tail _ (.tail _ (.tail _ (.tail _ (.tail _ (.tail _ (.tail _ (.tail _ (.head _))))))))), (by first | assumption | exact Ne.symm (by assumption))⟩, (List.forall_mem_cons.2 ⟨.inr ⟨(.tail _ (.tail _ (.tail _ (.tail _ (.tail _ (.tail _ (.tail _ (.tail _ (.tail _ (.head _)))))))))), (by first | assumption | exact Ne.symm (by assumption))⟩, (List.forall_mem_cons.2 ⟨.inr ⟨(.tail _ (.tail _ (.tail _ (.tail _ (.tail _ (.tail _ (.tail _ (.tail _ (.tail _ (.tail _ (.head _))))))))))), (by first | assumption | exact Ne.symm (by assumption))⟩, (List.forall_mem_cons.2 ⟨.inr ⟨(.tail _ (.tail _ (.tail _ (.tail _ (.tail _ (.tail _ (.tail _ (.tail _ (.tail _ (.tail _ (.tail _ (.head _)))))))))))), (by first | assumption | exact Ne.symm (by assumption))⟩, (List.forall_mem_cons.2 ⟨.inr ⟨(.tail _ (.tail _ (.tail _ (.tail _ (.tail _ (.tail _ (.tail _ (.tail _ (.tail _ (.tail _ (.tail _ (.tail _ (.head _))))))))))))), (by first | assumption | exact Ne.symm (by assumption))⟩, (List.forall_mem_cons.2 ⟨.inr ⟨(.tail _ (.tail _ (.tail _ (.tail _ (.tail _ (.tail _ (.tail _ (.tail _ (.tail _ (.tail _ (.tail _ (.tail _ (.tail _ (.head _)))))))))))))), (by first | assumption | exact Ne.symm (by assumption))⟩, (List.forall_mem_cons.2 ⟨.inr ⟨(.tail _ (.tail _ (.tail _ (.tail _ (.tail _ (.tail _ (.tail _ (.tail _ (.tail _ (.tail _ (.tail _ (.tail _ (.tail _ (.tail _ (.head _))))))))))))))), (by first | assumption | exact Ne.symm (by assumption))⟩, (List.forall_mem_cons.2 ⟨.inr ⟨(.tail _ (.tail _ (.tail _ (.tail _ (.tail _ (.tail _ (.tail _ (.tail _ (.tail _ (.tail _ (.tail _ (.tail _ (.tail _ (.tail _ (.tail _ (.head _)))))))))))))))), (by first | assumption | exact Ne.symm (by assumption))⟩, (List.forall_mem_cons.2 ⟨.inr ⟨(.tail _ (.tail _ (.tail _ (.tail _ (.tail _ (.tail _ (.tail _ (.tail _ (.tail _ (.tail _ (.tail _ (.tail _ (.tail _ (.tail _ (.tail _ (.tail _ (.head _))))))))))))))))), (by first | assumption | exact Ne.symm (by assumption))⟩, (List.forall_mem_cons.2 ⟨.inr ⟨(.tail _ (.tail _ (.tail _ (.tail _ (.tail _ (.tail _ (.tail _ (.tail _ (.tail _ (.tail _ (.tail _ (.tail _ (.tail _ (.tail _ (.tail _ (.tail _ (.tail _ (.head _)))))))))))))))))), (by first | assumption | exact Ne.symm (by assumption))⟩, (List.forall_mem_nil _)⟩)⟩)⟩)⟩)⟩)⟩)⟩)⟩)⟩)⟩)⟩)⟩)⟩)⟩)⟩)⟩)⟩)⟩)) ?_
  refine wpL_done (fun W38 hW38 => ?_)
  refine (show Code.wp _ _ _ _ _ from ?_)
  refine wp_seq ?_
  refine wp_region_L (W0 := w) [(g34, .cells (bxC ob4) 26 (0, 0)), (g32, .cells (bxC ob3) 26 (0, 0)), (g30, .cells (bxC ob2) 26 (0, 0)), (g28, .cells (bxC ob1) 26 (0, 0)), (g26, .cells (bxC exN) 26 (0, 0)), (g24, .cells (bxC exC) 26 (0, 0)), (g22, .cells (bxC exL) 26 (0, 0)), (g20, .cells (bxC exD) 26 (0, 0)), (g18, .cells (bxC exH) 26 (0, 0)), (g16, .cells (bxC exS) 26 (0, 0)), (g14, .cells ((bcs [exS, exH, exD, exL, exC, exN]).toArray) 26 (0, 0)), (g12, .cells (bxC exN) 26 (0, 0)), (g10, .cells (bxC exC) 26 (0, 0)), (g8, .cells (bxC exL) 26 (0, 0)), (g6, .cells (bxC exD) 26 (0, 0)), (g4, .cells (bxC exH) 26 (0, 0)), (g2, .cells (bxC exS) 26 (0, 0)), (g1, .cells (bxC exR) 26 (0, 0))] (hW38) ?_
  refine lv (v := bxV exB) rfl rfl (yb_call (f := 13) (args := #[]) (fun _ => by kernel_rfl) fun W hW => example_any W) ?_
  refine lv (v := bxV exB) rfl rfl (yb_call (f := 13) (args := #[]) (fun _ => by kernel_rfl) fun W hW => example_any W) ?_
  refine wpL_new (fun g => .slice (some ⟨g, 0, none⟩) 2 2) (obi := .cells ((bcs [exB, exB]).toArray) 26 (0, 0)) rfl rfl (fun _ => by kernel_rfl) (fun _ => by simp only [List.setIfInBounds_toArray, List.set_cons_succ, List.set_cons_zero] <;> rfl) fun g36 Bg36 Fg36 => ?_
  obtain ⟨dj37_0, dj37_1, dj37_2, dj37_3, dj37_4, dj37_5, dj37_6, dj37_7, dj37_8, dj37_9, dj37_10, dj37_11, dj37_12, dj37_13, dj37_14, dj37_15, dj37_16, dj37_17⟩ : g34 ≠ g36 ∧ g32 ≠ g36 ∧ g30 ≠ g36 ∧ g28 ≠ g36 ∧ g26 ≠ g36 ∧ g24 ≠ g36 ∧ g22 ≠ g36 ∧ g20 ≠ g36 ∧ g18 ≠ g36 ∧ g16 ≠ g36 ∧ g14 ≠ g36 ∧ g12 ≠ g36 ∧ g10 ≠ g36 ∧ g8 ≠ g36 ∧ g6 ≠ g36 ∧ g4 ≠ g36 ∧ g2 ≠ g36 ∧ g1 ≠ g36 := by simpa only [dj_app_l, dj_app_r, dj_cons_l, dj_cons_r, dj_nil_l, dj_nil_r, dk_app, dk_cons, dk_nil, and_true, true_and, and_assoc] using (show Dk g36 [(g34, .cells (bxC ob4) 26 (0, 0)), (g32, .cells (bxC ob3) 26 (0, 0)), (g30, .cells (bxC ob2) 26 (0, 0)), (g28, .cells (bxC ob1) 26 (0, 0)), (g26, .cells (bxC exN) 26 (0, 0)), (g24, .cells (bxC exC) 26 (0, 0)), (g22, .cells (bxC exL) 26 (0, 0)), (g20, .cells (bxC exD) 26 (0, 0)), (g18, .cells (bxC exH) 26 (0, 0)), (g16, .cells (bxC exS) 26 (0, 0)), (g14, .cells ((bcs [exS, exH, exD, exL, exC, exN]).toArray) 26 (0, 0)), (g12, .cells (bxC exN) 26 (0, 0)), (g10, .cells (bxC exC) 26 (0, 0)), (g8, .cells (bxC exL) 26 (0, 0)), (g6, .cells (bxC exD) 26 (0, 0)), (g4, .cells (bxC exH) 26 (0, 0)), (g2, .cells (bxC exS) 26 (0, 0)), (g1, .cells (bxC exR) 26 (0, 0))] from Fg36)
  refine lv (v := .tuple #[.int .i64 1, .int .i64 60]) rfl rfl (yb_call (f := 29) (args := #[.slice (some ⟨g36, 0, none⟩) 2 2]) (fun _ => by kernel_rfl) fun W hW => valid_is (l := [exB, exB]) (p := (some ⟨g36, 0, none⟩)) (c := 2) (by kernel_rfl) (by first | omega | (simp; done) | (simp; omega) | decide) W (rowx_slv (hW.2 _ (.head _)) (row_lit [exB, exB]))) ?_
  refine lm (v := .tuple #[.int .i64 1, .int .i64 60]) rfl rfl ?_
  refine lm (v := .int .i64 1) rfl rfl ?_
  refine lm (v := .int .i64 60) rfl rfl ?_
  refine lm (v := .int .i64 1) rfl rfl ?_
  refine lm (v := .int .i64 60) rfl rfl ?_
  refine wpL_done (fun W39 hW39 => ?_)
  refine (show Code.wp _ _ _ _ _ from ?_)
  refine wp_seq ?_
  refine wp_region_V (W0 := w) [(g36, .cells ((bcs [exB, exB]).toArray) 26 (0, 0)), (g34, .cells (bxC ob4) 26 (0, 0)), (g32, .cells (bxC ob3) 26 (0, 0)), (g30, .cells (bxC ob2) 26 (0, 0)), (g28, .cells (bxC ob1) 26 (0, 0)), (g26, .cells (bxC exN) 26 (0, 0)), (g24, .cells (bxC exC) 26 (0, 0)), (g22, .cells (bxC exL) 26 (0, 0)), (g20, .cells (bxC exD) 26 (0, 0)), (g18, .cells (bxC exH) 26 (0, 0)), (g16, .cells (bxC exS) 26 (0, 0)), (g14, .cells ((bcs [exS, exH, exD, exL, exC, exN]).toArray) 26 (0, 0)), (g12, .cells (bxC exN) 26 (0, 0)), (g10, .cells (bxC exC) 26 (0, 0)), (g8, .cells (bxC exL) 26 (0, 0)), (g6, .cells (bxC exD) 26 (0, 0)), (g4, .cells (bxC exH) 26 (0, 0)), (g2, .cells (bxC exS) 26 (0, 0)), (g1, .cells (bxC exR) 26 (0, 0))] (by kernel_rfl) (hW39) ?_
  refine vm (i := 0) (v := .int .i64 1) rfl rfl rfl ?_
  refine vm (i := 1) (v := .bool true) rfl rfl rfl ?_
  refine vm (i := 2) (v := .bool true) rfl rfl rfl ?_
  refine vm (i := 3) (v := .int .i64 60) rfl rfl rfl ?_
  refine vm (i := 4) (v := .bool true) rfl rfl rfl ?_
  refine vm (i := 5) (v := .bool true) rfl rfl rfl ?_
  refine vm (i := 6) (v := .bool true) rfl rfl rfl ?_
  refine vv (i := 7) (v := bxV ob1) rfl rfl rfl (yb_load (n := 9) (off := 0) rfl (by kernel_rfl) (.tail _ (.tail _ (.tail _ (.tail _ (.head _))))) Tryd.underlying26 rfl (by kernel_rfl) (Nat.le_refl 9) (by kernel_rfl)) ?_
  refine vv (i := 8) (v := bxV ob2) rfl rfl rfl (yb_load (n := 9) (off := 0) rfl (by kernel_rfl) (.tail _ (.tail _ (.tail _ (.head _)))) Tryd.underlying26 rfl (by kernel_rfl) (Nat.le_refl 9) (by kernel_rfl)) ?_
  refine vv (i := 9) (v := bxV ob3) rfl rfl rfl (yb_load (n := 9) (off := 0) rfl (by kernel_rfl) (.tail _ (.tail _ (.head _))) Tryd.underlying26 rfl (by kernel_rfl) (Nat.le_refl 9) (by kernel_rfl)) ?_
  refine vv (i := 10) (v := bxV ob4) rfl rfl rfl (yb_load (n := 9) (off := 0) rfl (by kernel_rfl) (.tail _ (.head _)) Tryd.underlying26 rfl (by kernel_rfl) (Nat.le_refl 9) (by kernel_rfl)) ?_
  refine vv (i := 13) (v := bxV ob3) rfl rfl rfl (yb_load (n := 9) (off := 0) rfl (by kernel_rfl) (.tail _ (.tail _ (.head _))) Tryd.underlying26 rfl (by kernel_rfl) (Nat.le_refl 9) (by kernel_rfl)) ?_
  refine vv (i := 14) (v := bxV ob4) rfl rfl rfl (yb_load (n := 9) (off := 0) rfl (by kernel_rfl) (.tail _ (.head _)) Tryd.underlying26 rfl (by kernel_rfl) (Nat.le_refl 9) (by kernel_rfl)) ?_
  refine vv (i := 15) (v := bxV ob2) rfl rfl rfl (yb_load (n := 9) (off := 0) rfl (by kernel_rfl) (.tail _ (.tail _ (.tail _ (.head _)))) Tryd.underlying26 rfl (by kernel_rfl) (Nat.le_refl 9) (by kernel_rfl)) ?_
  refine vv (i := 16) (v := bxV ob1) rfl rfl rfl (yb_load (n := 9) (off := 0) rfl (by kernel_rfl) (.tail _ (.tail _ (.tail _ (.tail _ (.head _))))) Tryd.underlying26 rfl (by kernel_rfl) (Nat.le_refl 9) (by kernel_rfl)) ?_
  refine wpV_2 (i := 11) (j := 17) (by kernel_rfl) ?_ ?_
  · refine stepV_nsg (fun g => .slice (some ⟨g, 0, none⟩) 4 4) (i := 11) (obi := .cells ((bcs [ob1, ob2, ob3, ob4]).toArray) 26 (0, 0)) rfl rfl rfl (fun _ => by kernel_rfl) (fun _ => by simp only [List.setIfInBounds_toArray, List.set_cons_succ, List.set_cons_zero] <;> rfl) fun g38 Bg38 Fg38 => ?_
    obtain ⟨dj39_0, dj39_1, dj39_2, dj39_3, dj39_4, dj39_5, dj39_6, dj39_7, dj39_8, dj39_9, dj39_10, dj39_11, dj39_12, dj39_13, dj39_14, dj39_15, dj39_16, dj39_17, dj39_18⟩ : g36 ≠ g38 ∧ g34 ≠ g38 ∧ g32 ≠ g38 ∧ g30 ≠ g38 ∧ g28 ≠ g38 ∧ g26 ≠ g38 ∧ g24 ≠ g38 ∧ g22 ≠ g38 ∧ g20 ≠ g38 ∧ g18 ≠ g38 ∧ g16 ≠ g38 ∧ g14 ≠ g38 ∧ g12 ≠ g38 ∧ g10 ≠ g38 ∧ g8 ≠ g38 ∧ g6 ≠ g38 ∧ g4 ≠ g38 ∧ g2 ≠ g38 ∧ g1 ≠ g38 := by simpa only [dj_app_l, dj_app_r, dj_cons_l, dj_cons_r, dj_nil_l, dj_nil_r, dk_app, dk_cons, dk_nil, and_true, true_and, and_assoc] using (show Dk g38 [(g36, .cells ((bcs [exB, exB]).toArray) 26 (0, 0)), (g34, .cells (bxC ob4) 26 (0, 0)), (g32, .cells (bxC ob3) 26 (0, 0)), (g30, .cells (bxC ob2) 26 (0, 0)), (g28, .cells (bxC ob1) 26 (0, 0)), (g26, .cells (bxC exN) 26 (0, 0)), (g24, .cells (bxC exC) 26 (0, 0)), (g22, .cells (bxC exL) 26 (0, 0)), (g20, .cells (bxC exD) 26 (0, 0)), (g18, .cells (bxC exH) 26 (0, 0)), (g16, .cells (bxC exS) 26 (0, 0)), (g14, .cells ((bcs [exS, exH, exD, exL, exC, exN]).toArray) 26 (0, 0)), (g12, .cells (bxC exN) 26 (0, 0)), (g10, .cells (bxC exC) 26 (0, 0)), (g8, .cells (bxC exL) 26 (0, 0)), (g6, .cells (bxC exD) 26 (0, 0)), (g4, .cells (bxC exH) 26 (0, 0)), (g2, .cells (bxC exS) 26 (0, 0)), (g1, .cells (bxC exR) 26 (0, 0))] from Fg38)
    refine wpV_2 (i := 12) (j := 17) (by kernel_rfl) ?_ ?_
    · refine stepV_c (i := 12) (fun v K9 => ∃ Kl, OwnL w 26 9 v [ob1, ob2, ob3, ob4].length (bcs (orderX [ob1, ob2, ob3, ob4])) Kl ∧ (∀ p ∈ ([(g38, .cells ((bcs [ob1, ob2, ob3, ob4]).toArray) 26 (0, 0)), (g36, .cells ((bcs [exB, exB]).toArray) 26 (0, 0)), (g34, .cells (bxC ob4) 26 (0, 0)), (g32, .cells (bxC ob3) 26 (0, 0)), (g30, .cells (bxC ob2) 26 (0, 0)), (g28, .cells (bxC ob1) 26 (0, 0)), (g26, .cells (bxC exN) 26 (0, 0)), (g24, .cells (bxC exC) 26 (0, 0)), (g22, .cells (bxC exL) 26 (0, 0)), (g20, .cells (bxC exD) 26 (0, 0)), (g18, .cells (bxC exH) 26 (0, 0)), (g16, .cells (bxC exS) 26 (0, 0)), (g14, .cells ((bcs [exS, exH, exD, exL, exC, exN]).toArray) 26 (0, 0)), (g12, .cells (bxC exN) 26 (0, 0)), (g10, .cells (bxC exC) 26 (0, 0)), (g8, .cells (bxC exL) 26 (0, 0)), (g6, .cells (bxC exD) 26 (0, 0)), (g4, .cells (bxC exH) 26 (0, 0)), (g2, .cells (bxC exS) 26 (0, 0)), (g1, .cells (bxC exR) 26 (0, 0))] : List (Nat × Obj)), ∀ q ∈ Kl, q.1 ≠ p.1) ∧ K9 = [(g38, .cells ((bcs [ob1, ob2, ob3, ob4]).toArray) 26 (0, 0)), (g36, .cells ((bcs [exB, exB]).toArray) 26 (0, 0)), (g34, .cells (bxC ob4) 26 (0, 0)), (g32, .cells (bxC ob3) 26 (0, 0)), (g30, .cells (bxC ob2) 26 (0, 0)), (g28, .cells (bxC ob1) 26 (0, 0)), (g26, .cells (bxC exN) 26 (0, 0)), (g24, .cells (bxC exC) 26 (0, 0)), (g22, .cells (bxC exL) 26 (0, 0)), (g20, .cells (bxC exD) 26 (0, 0)), (g18, .cells (bxC exH) 26 (0, 0)), (g16, .cells (bxC exS) 26 (0, 0)), (g14, .cells ((bcs [exS, exH, exD, exL, exC, exN]).toArray) 26 (0, 0)), (g12, .cells (bxC exN) 26 (0, 0)), (g10, .cells (bxC exC) 26 (0, 0)), (g8, .cells (bxC exL) 26 (0, 0)), (g6, .cells (bxC exD) 26 (0, 0)), (g4, .cells (bxC exH) 26 (0, 0)), (g2, .cells (bxC exS) 26 (0, 0)), (g1, .cells (bxC exR) 26 (0, 0))] ++ Kl) rfl rfl (by kernel_rfl) (fun _ => (by kernel_rfl)) (fun W hW => calls_out hW (Order_few [ob1, ob2, ob3, ob4] (some ⟨g38, 0, none⟩) 4 (by decide) W (rowx_slv (hW.2 _ (.head _)) (row_lit [ob1, ob2, ob3, ob4])))) (fun _ _ h => by obtain ⟨_, _, _, rfl⟩ := h; exact fun p hp => List.mem_append_left _ hp) (fun _ => by simp only [List.setIfInBounds_toArray, List.set_cons_succ, List.set_cons_zero] <;> rfl) ?_
      rintro v40 K9 ⟨Kl40, O40, N40, rfl⟩
      obtain ⟨dj41_0, dj41_1, dj41_2, dj41_3, dj41_4, dj41_5, dj41_6, dj41_7, dj41_8, dj41_9, dj41_10, dj41_11, dj41_12, dj41_13, dj41_14, dj41_15, dj41_16, dj41_17, dj41_18, dj41_19⟩ : Dk g38 Kl40 ∧ Dk g36 Kl40 ∧ Dk g34 Kl40 ∧ Dk g32 Kl40 ∧ Dk g30 Kl40 ∧ Dk g28 Kl40 ∧ Dk g26 Kl40 ∧ Dk g24 Kl40 ∧ Dk g22 Kl40 ∧ Dk g20 Kl40 ∧ Dk g18 Kl40 ∧ Dk g16 Kl40 ∧ Dk g14 Kl40 ∧ Dk g12 Kl40 ∧ Dk g10 Kl40 ∧ Dk g8 Kl40 ∧ Dk g6 Kl40 ∧ Dk g4 Kl40 ∧ Dk g2 Kl40 ∧ Dk g1 Kl40 := by simpa only [dj_app_l, dj_app_r, dj_cons_l, dj_cons_r, dj_nil_l, dj_nil_r, dk_app, dk_cons, dk_nil, and_true, true_and, and_assoc] using (show Dj [(g38, .cells ((bcs [ob1, ob2, ob3, ob4]).toArray) 26 (0, 0)), (g36, .cells ((bcs [exB, exB]).toArray) 26 (0, 0)), (g34, .cells (bxC ob4) 26 (0, 0)), (g32, .cells (bxC ob3) 26 (0, 0)), (g30, .cells (bxC ob2) 26 (0, 0)), (g28, .cells (bxC ob1) 26 (0, 0)), (g26, .cells (bxC exN) 26 (0, 0)), (g24, .cells (bxC exC) 26 (0, 0)), (g22, .cells (bxC exL) 26 (0, 0)), (g20, .cells (bxC exD) 26 (0, 0)), (g18, .cells (bxC exH) 26 (0, 0)), (g16, .cells (bxC exS) 26 (0, 0)), (g14, .cells ((bcs [exS, exH, exD, exL, exC, exN]).toArray) 26 (0, 0)), (g12, .cells (bxC exN) 26 (0, 0)), (g10, .cells (bxC exC) 26 (0, 0)), (g8, .cells (bxC exL) 26 (0, 0)), (g6, .cells (bxC exD) 26 (0, 0)), (g4, .cells (bxC exH) 26 (0, 0)), (g2, .cells (bxC exS) 26 (0, 0)), (g1, .cells (bxC exR) 26 (0, 0))] Kl40 from N40)
      refine wpV_nsg (fun g => .slice (some ⟨g, 0, none⟩) 4 4) (i := 17) (obi := .cells ((bcs [ob3, ob4, ob2, ob1]).toArray) 26 (0, 0)) rfl rfl rfl (by kernel_rfl) (fun _ => by kernel_rfl) (fun _ => by simp only [List.setIfInBounds_toArray, List.set_cons_succ, List.set_cons_zero] <;> rfl) fun g42 Bg42 Fg42 => ?_
      obtain ⟨dj43_0, dj43_1, dj43_2, dj43_3, dj43_4, dj43_5, dj43_6, dj43_7, dj43_8, dj43_9, dj43_10, dj43_11, dj43_12, dj43_13, dj43_14, dj43_15, dj43_16, dj43_17, dj43_18, dj43_19, dj43_20⟩ : g38 ≠ g42 ∧ g36 ≠ g42 ∧ g34 ≠ g42 ∧ g32 ≠ g42 ∧ g30 ≠ g42 ∧ g28 ≠ g42 ∧ g26 ≠ g42 ∧ g24 ≠ g42 ∧ g22 ≠ g42 ∧ g20 ≠ g42 ∧ g18 ≠ g42 ∧ g16 ≠ g42 ∧ g14 ≠ g42 ∧ g12 ≠ g42 ∧ g10 ≠ g42 ∧ g8 ≠ g42 ∧ g6 ≠ g42 ∧ g4 ≠ g42 ∧ g2 ≠ g42 ∧ g1 ≠ g42 ∧ Dk g42 Kl40 := by simpa only [dj_app_l, dj_app_r, dj_cons_l, dj_cons_r, dj_nil_l, dj_nil_r, dk_app, dk_cons, dk_nil, and_true, true_and, and_assoc] using (show Dk g42 ((g38, .cells ((bcs [ob1, ob2, ob3, ob4]).toArray) 26 (0, 0)) :: (g36, .cells ((bcs [exB, exB]).toArray) 26 (0, 0)) :: (g34, .cells (bxC ob4) 26 (0, 0)) :: (g32, .cells (bxC ob3) 26 (0, 0)) :: (g30, .cells (bxC ob2) 26 (0, 0)) :: (g28, .cells (bxC ob1) 26 (0, 0)) :: (g26, .cells (bxC exN) 26 (0, 0)) :: (g24, .cells (bxC exC) 26 (0, 0)) :: (g22, .cells (bxC exL) 26 (0, 0)) :: (g20, .cells (bxC exD) 26 (0, 0)) :: (g18, .cells (bxC exH) 26 (0, 0)) :: (g16, .cells (bxC exS) 26 (0, 0)) :: (g14, .cells ((bcs [exS, exH, exD, exL, exC, exN]).toArray) 26 (0, 0)) :: (g12, .cells (bxC exN) 26 (0, 0)) :: (g10, .cells (bxC exC) 26 (0, 0)) :: (g8, .cells (bxC exL) 26 (0, 0)) :: (g6, .cells (bxC exD) 26 (0, 0)) :: (g4, .cells (bxC exH) 26 (0, 0)) :: (g2, .cells (bxC exS) 26 (0, 0)) :: (g1, .cells (bxC exR) 26 (0, 0)) :: Kl40) from Fg42)
      obtain ⟨p44, c44, rfl, hc44, HB44⟩ := own_bs O40
      refine vv (i := 18) (v := .bool true) rfl rfl rfl (yb_call (f := 28) (args := #[.slice p44 ([ob1, ob2, ob3, ob4].length) c44, .slice (some ⟨g42, 0, none⟩) 4 4]) (fun _ => by kernel_rfl) fun W hW => same_true (orderX [ob1, ob2, ob3, ob4]) [ob3, ob4, ob2, ob1] p44 (some ⟨g42, 0, none⟩) c44 4 (by first | omega | (simp; done) | (simp; omega) | decide) W (HB44 W (hW.sub (fun p hp => by simp only [List.mem_cons, List.mem_append, List.nil_append, List.not_mem_nil, or_assoc, or_false, false_or, hp, true_or, or_true]))) (rowx_slv (hW.2 _ (.head _)) (row_lit [ob3, ob4, ob2, ob1])) (by decide +kernel)) ?_
      refine vm (i := 19) (v := .bool true) rfl rfl rfl ?_
      refine vm (i := 20) (v := .bool true) rfl rfl rfl ?_
      refine wpV_done (by kernel_rfl) (fun W40 hW40 => ?_) _
      refine (show Code.wp _ _ _ _ _ from ?_)
      refine wp_ret ?_
      try simp only [inBlock_ret, then_ret]
      refine bodyPost_ret (v := .bool true) ?_ rfl ?_
      · kernel_rfl
      · exact ⟨rfl, hW40.1⟩
    · refine stepV_nsg (fun g => .slice (some ⟨g, 0, none⟩) 4 4) (i := 17) (obi := .cells ((bcs [ob3, ob4, ob2, ob1]).toArray) 26 (0, 0)) rfl rfl rfl (fun _ => by kernel_rfl) (fun _ => by simp only [List.setIfInBounds_toArray, List.set_cons_succ, List.set_cons_zero] <;> rfl) fun g45 Bg45 Fg45 => ?_
      obtain ⟨dj46_0, dj46_1, dj46_2, dj46_3, dj46_4, dj46_5, dj46_6, dj46_7, dj46_8, dj46_9, dj46_10, dj46_11, dj46_12, dj46_13, dj46_14, dj46_15, dj46_16, dj46_17, dj46_18, dj46_19⟩ : g38 ≠ g45 ∧ g36 ≠ g45 ∧ g34 ≠ g45 ∧ g32 ≠ g45 ∧ g30 ≠ g45 ∧ g28 ≠ g45 ∧ g26 ≠ g45 ∧ g24 ≠ g45 ∧ g22 ≠ g45 ∧ g20 ≠ g45 ∧ g18 ≠ g45 ∧ g16 ≠ g45 ∧ g14 ≠ g45 ∧ g12 ≠ g45 ∧ g10 ≠ g45 ∧ g8 ≠ g45 ∧ g6 ≠ g45 ∧ g4 ≠ g45 ∧ g2 ≠ g45 ∧ g1 ≠ g45 := by simpa only [dj_app_l, dj_app_r, dj_cons_l, dj_cons_r, dj_nil_l, dj_nil_r, dk_app, dk_cons, dk_nil, and_true, true_and, and_assoc] using (show Dk g45 [(g38, .cells ((bcs [ob1, ob2, ob3, ob4]).toArray) 26 (0, 0)), (g36, .cells ((bcs [exB, exB]).toArray) 26 (0, 0)), (g34, .cells (bxC ob4) 26 (0, 0)), (g32, .cells (bxC ob3) 26 (0, 0)), (g30, .cells (bxC ob2) 26 (0, 0)), (g28, .cells (bxC ob1) 26 (0, 0)), (g26, .cells (bxC exN) 26 (0, 0)), (g24, .cells (bxC exC) 26 (0, 0)), (g22, .cells (bxC exL) 26 (0, 0)), (g20, .cells (bxC exD) 26 (0, 0)), (g18, .cells (bxC exH) 26 (0, 0)), (g16, .cells (bxC exS) 26 (0, 0)), (g14, .cells ((bcs [exS, exH, exD, exL, exC, exN]).toArray) 26 (0, 0)), (g12, .cells (bxC exN) 26 (0, 0)), (g10, .cells (bxC exC) 26 (0, 0)), (g8, .cells (bxC exL) 26 (0, 0)), (g6, .cells (bxC exD) 26 (0, 0)), (g4, .cells (bxC exH) 26 (0, 0)), (g2, .cells (bxC exS) 26 (0, 0)), (g1, .cells (bxC exR) 26 (0, 0))] from Fg45)
      refine wpV_c (i := 12) (fun v K9 => ∃ Kl, OwnL w 26 9 v [ob1, ob2, ob3, ob4].length (bcs (orderX [ob1, ob2, ob3, ob4])) Kl ∧ (∀ p ∈ ([(g45, .cells ((bcs [ob3, ob4, ob2, ob1]).toArray) 26 (0, 0)), (g38, .cells ((bcs [ob1, ob2, ob3, ob4]).toArray) 26 (0, 0)), (g36, .cells ((bcs [exB, exB]).toArray) 26 (0, 0)), (g34, .cells (bxC ob4) 26 (0, 0)), (g32, .cells (bxC ob3) 26 (0, 0)), (g30, .cells (bxC ob2) 26 (0, 0)), (g28, .cells (bxC ob1) 26 (0, 0)), (g26, .cells (bxC exN) 26 (0, 0)), (g24, .cells (bxC exC) 26 (0, 0)), (g22, .cells (bxC exL) 26 (0, 0)), (g20, .cells (bxC exD) 26 (0, 0)), (g18, .cells (bxC exH) 26 (0, 0)), (g16, .cells (bxC exS) 26 (0, 0)), (g14, .cells ((bcs [exS, exH, exD, exL, exC, exN]).toArray) 26 (0, 0)), (g12, .cells (bxC exN) 26 (0, 0)), (g10, .cells (bxC exC) 26 (0, 0)), (g8, .cells (bxC exL) 26 (0, 0)), (g6, .cells (bxC exD) 26 (0, 0)), (g4, .cells (bxC exH) 26 (0, 0)), (g2, .cells (bxC exS) 26 (0, 0)), (g1, .cells (bxC exR) 26 (0, 0))] : List (Nat × Obj)), ∀ q ∈ Kl, q.1 ≠ p.1) ∧ K9 = [(g45, .cells ((bcs [ob3, ob4, ob2, ob1]).toArray) 26 (0, 0)), (g38, .cells ((bcs [ob1, ob2, ob3, ob4]).toArray) 26 (0, 0)), (g36, .cells ((bcs [exB, exB]).toArray) 26 (0, 0)), (g34, .cells (bxC ob4) 26 (0, 0)), (g32, .cells (bxC ob3) 26 (0, 0)), (g30, .cells (bxC ob2) 26 (0, 0)), (g28, .cells (bxC ob1) 26 (0, 0)), (g26, .cells (bxC exN) 26 (0, 0)), (g24, .cells (bxC exC) 26 (0, 0)), (g22, .cells (bxC exL) 26 (0, 0)), (g20, .cells (bxC exD) 26 (0, 0)), (g18, .cells (bxC exH) 26 (0, 0)), (g16, .cells (bxC exS) 26 (0, 0)), (g14, .cells ((bcs [exS, exH, exD, exL, exC, exN]).toArray) 26 (0, 0)), (g12, .cells (bxC exN) 26 (0, 0)), (g10, .cells (bxC exC) 26 (0, 0)), (g8, .cells (bxC exL) 26 (0, 0)), (g6, .cells (bxC exD) 26 (0, 0)), (g4, .cells (bxC exH) 26 (0, 0)), (g2, .cells (bxC exS) 26 (0, 0)), (g1, .cells (bxC exR) 26 (0, 0))] ++ Kl) rfl rfl (by kernel_rfl) (by kernel_rfl) (fun _ => (by kernel_rfl)) (fun W hW => calls_out hW (Order_few [ob1, ob2, ob3, ob4] (some ⟨g38, 0, none⟩) 4 (by decide) W (rowx_slv (hW.2 _ (.tail _ (.head _))) (row_lit [ob1, ob2, ob3, ob4])))) (fun _ _ h => by obtain ⟨_, _, _, rfl⟩ := h; exact fun p hp => List.mem_append_left _ hp) (fun _ => by simp only [List.setIfInBounds_toArray, List.set_cons_succ, List.set_cons_zero] <;> rfl) ?_
      rintro v47 K9 ⟨Kl47, O47, N47, rfl⟩
      obtain ⟨dj48_0, dj48_1, dj48_2, dj48_3, dj48_4, dj48_5, dj48_6, dj48_7, dj48_8, dj48_9, dj48_10, dj48_11, dj48_12, dj48_13, dj48_14, dj48_15, dj48_16, dj48_17, dj48_18, dj48_19, dj48_20⟩ : Dk g45 Kl47 ∧ Dk g38 Kl47 ∧ Dk g36 Kl47 ∧ Dk g34 Kl47 ∧ Dk g32 Kl47 ∧ Dk g30 Kl47 ∧ Dk g28 Kl47 ∧ Dk g26 Kl47 ∧ Dk g24 Kl47 ∧ Dk g22 Kl47 ∧ Dk g20 Kl47 ∧ Dk g18 Kl47 ∧ Dk g16 Kl47 ∧ Dk g14 Kl47 ∧ Dk g12 Kl47 ∧ Dk g10 Kl47 ∧ Dk g8 Kl47 ∧ Dk g6 Kl47 ∧ Dk g4 Kl47 ∧ Dk g2 Kl47 ∧ Dk g1 Kl47 := by simpa only [dj_app_l, dj_app_r, dj_cons_l, dj_cons_r, dj_nil_l, dj_nil_r, dk_app, dk_cons, dk_nil, and_true, true_and, and_assoc] using (show Dj [(g45, .cells ((bcs [ob3, ob4, ob2, ob1]).toArray) 26 (0, 0)), (g38, .cells ((bcs [ob1, ob2, ob3, ob4]).toArray) 26 (0, 0)), (g36, .cells ((bcs [exB, exB]).toArray) 26 (0, 0)), (g34, .cells (bxC ob4) 26 (0, 0)), (g32, .cells (bxC ob3) 26 (0, 0)), (g30, .cells (bxC ob2) 26 (0, 0)), (g28, .cells (bxC ob1) 26 (0, 0)), (g26, .cells (bxC exN) 26 (0, 0)), (g24, .cells (bxC exC) 26 (0, 0)), (g22, .cells (bxC exL) 26 (0, 0)), (g20, .cells (bxC exD) 26 (0, 0)), (g18, .cells (bxC exH) 26 (0, 0)), (g16, .cells (bxC exS) 26 (0, 0)), (g14, .cells ((bcs [exS, exH, exD, exL, exC, exN]).toArray) 26 (0, 0)), (g12, .cells (bxC exN) 26 (0, 0)), (g10, .cells (bxC exC) 26 (0, 0)), (g8, .cells (bxC exL) 26 (0, 0)), (g6, .cells (bxC exD) 26 (0, 0)), (g4, .cells (bxC exH) 26 (0, 0)), (g2, .cells (bxC exS) 26 (0, 0)), (g1, .cells (bxC exR) 26 (0, 0))] Kl47 from N47)
      obtain ⟨p49, c49, rfl, hc49, HB49⟩ := own_bs O47
      refine vv (i := 18) (v := .bool true) rfl rfl rfl (yb_call (f := 28) (args := #[.slice p49 ([ob1, ob2, ob3, ob4].length) c49, .slice (some ⟨g45, 0, none⟩) 4 4]) (fun _ => by kernel_rfl) fun W hW => same_true (orderX [ob1, ob2, ob3, ob4]) [ob3, ob4, ob2, ob1] p49 (some ⟨g45, 0, none⟩) c49 4 (by first | omega | (simp; done) | (simp; omega) | decide) W (HB49 W (hW.sub (fun p hp => by simp only [List.mem_cons, List.mem_append, List.nil_append, List.not_mem_nil, or_assoc, or_false, false_or, hp, true_or, or_true]))) (rowx_slv (hW.2 _ (.head _)) (row_lit [ob3, ob4, ob2, ob1])) (by decide +kernel)) ?_
      refine vm (i := 19) (v := .bool true) rfl rfl rfl ?_
      refine vm (i := 20) (v := .bool true) rfl rfl rfl ?_
      refine wpV_done (by kernel_rfl) (fun W41 hW41 => ?_) _
      refine (show Code.wp _ _ _ _ _ from ?_)
      refine wp_ret ?_
      try simp only [inBlock_ret, then_ret]
      refine bodyPost_ret (v := .bool true) ?_ rfl ?_
      · kernel_rfl
      · exact ⟨rfl, hW41.1⟩
  · refine stepV_nsg (fun g => .slice (some ⟨g, 0, none⟩) 4 4) (i := 17) (obi := .cells ((bcs [ob3, ob4, ob2, ob1]).toArray) 26 (0, 0)) rfl rfl rfl (fun _ => by kernel_rfl) (fun _ => by simp only [List.setIfInBounds_toArray, List.set_cons_succ, List.set_cons_zero] <;> rfl) fun g50 Bg50 Fg50 => ?_
    obtain ⟨dj51_0, dj51_1, dj51_2, dj51_3, dj51_4, dj51_5, dj51_6, dj51_7, dj51_8, dj51_9, dj51_10, dj51_11, dj51_12, dj51_13, dj51_14, dj51_15, dj51_16, dj51_17, dj51_18⟩ : g36 ≠ g50 ∧ g34 ≠ g50 ∧ g32 ≠ g50 ∧ g30 ≠ g50 ∧ g28 ≠ g50 ∧ g26 ≠ g50 ∧ g24 ≠ g50 ∧ g22 ≠ g50 ∧ g20 ≠ g50 ∧ g18 ≠ g50 ∧ g16 ≠ g50 ∧ g14 ≠ g50 ∧ g12 ≠ g50 ∧ g10 ≠ g50 ∧ g8 ≠ g50 ∧ g6 ≠ g50 ∧ g4 ≠ g50 ∧ g2 ≠ g50 ∧ g1 ≠ g50 := by simpa only [dj_app_l, dj_app_r, dj_cons_l, dj_cons_r, dj_nil_l, dj_nil_r, dk_app, dk_cons, dk_nil, and_true, true_and, and_assoc] using (show Dk g50 [(g36, .cells ((bcs [exB, exB]).toArray) 26 (0, 0)), (g34, .cells (bxC ob4) 26 (0, 0)), (g32, .cells (bxC ob3) 26 (0, 0)), (g30, .cells (bxC ob2) 26 (0, 0)), (g28, .cells (bxC ob1) 26 (0, 0)), (g26, .cells (bxC exN) 26 (0, 0)), (g24, .cells (bxC exC) 26 (0, 0)), (g22, .cells (bxC exL) 26 (0, 0)), (g20, .cells (bxC exD) 26 (0, 0)), (g18, .cells (bxC exH) 26 (0, 0)), (g16, .cells (bxC exS) 26 (0, 0)), (g14, .cells ((bcs [exS, exH, exD, exL, exC, exN]).toArray) 26 (0, 0)), (g12, .cells (bxC exN) 26 (0, 0)), (g10, .cells (bxC exC) 26 (0, 0)), (g8, .cells (bxC exL) 26 (0, 0)), (g6, .cells (bxC exD) 26 (0, 0)), (g4, .cells (bxC exH) 26 (0, 0)), (g2, .cells (bxC exS) 26 (0, 0)), (g1, .cells (bxC exR) 26 (0, 0))] from Fg50)
    refine wpV_nsg (fun g => .slice (some ⟨g, 0, none⟩) 4 4) (i := 11) (obi := .cells ((bcs [ob1, ob2, ob3, ob4]).toArray) 26 (0, 0)) rfl rfl rfl (by kernel_rfl) (fun _ => by kernel_rfl) (fun _ => by simp only [List.setIfInBounds_toArray, List.set_cons_succ, List.set_cons_zero] <;> rfl) fun g52 Bg52 Fg52 => ?_
    obtain ⟨dj53_0, dj53_1, dj53_2, dj53_3, dj53_4, dj53_5, dj53_6, dj53_7, dj53_8, dj53_9, dj53_10, dj53_11, dj53_12, dj53_13, dj53_14, dj53_15, dj53_16, dj53_17, dj53_18, dj53_19⟩ : g50 ≠ g52 ∧ g36 ≠ g52 ∧ g34 ≠ g52 ∧ g32 ≠ g52 ∧ g30 ≠ g52 ∧ g28 ≠ g52 ∧ g26 ≠ g52 ∧ g24 ≠ g52 ∧ g22 ≠ g52 ∧ g20 ≠ g52 ∧ g18 ≠ g52 ∧ g16 ≠ g52 ∧ g14 ≠ g52 ∧ g12 ≠ g52 ∧ g10 ≠ g52 ∧ g8 ≠ g52 ∧ g6 ≠ g52 ∧ g4 ≠ g52 ∧ g2 ≠ g52 ∧ g1 ≠ g52 := by simpa only [dj_app_l, dj_app_r, dj_cons_l, dj_cons_r, dj_nil_l, dj_nil_r, dk_app, dk_cons, dk_nil, and_true, true_and, and_assoc] using (show Dk g52 [(g50, .cells ((bcs [ob3, ob4, ob2, ob1]).toArray) 26 (0, 0)), (g36, .cells ((bcs [exB, exB]).toArray) 26 (0, 0)), (g34, .cells (bxC ob4) 26 (0, 0)), (g32, .cells (bxC ob3) 26 (0, 0)), (g30, .cells (bxC ob2) 26 (0, 0)), (g28, .cells (bxC ob1) 26 (0, 0)), (g26, .cells (bxC exN) 26 (0, 0)), (g24, .cells (bxC exC) 26 (0, 0)), (g22, .cells (bxC exL) 26 (0, 0)), (g20, .cells (bxC exD) 26 (0, 0)), (g18, .cells (bxC exH) 26 (0, 0)), (g16, .cells (bxC exS) 26 (0, 0)), (g14, .cells ((bcs [exS, exH, exD, exL, exC, exN]).toArray) 26 (0, 0)), (g12, .cells (bxC exN) 26 (0, 0)), (g10, .cells (bxC exC) 26 (0, 0)), (g8, .cells (bxC exL) 26 (0, 0)), (g6, .cells (bxC exD) 26 (0, 0)), (g4, .cells (bxC exH) 26 (0, 0)), (g2, .cells (bxC exS) 26 (0, 0)), (g1, .cells (bxC exR) 26 (0, 0))] from Fg52)
    refine wpV_c (i := 12) (fun v K9 => ∃ Kl, OwnL w 26 9 v [ob1, ob2, ob3, ob4].length (bcs (orderX [ob1, ob2, ob3, ob4])) Kl ∧ (∀ p ∈ ([(g52, .cells ((bcs [ob1, ob2, ob3, ob4]).toArray) 26 (0, 0)), (g50, .cells ((bcs [ob3, ob4, ob2, ob1]).toArray) 26 (0, 0)), (g36, .cells ((bcs [exB, exB]).toArray) 26 (0, 0)), (g34, .cells (bxC ob4) 26 (0, 0)), (g32, .cells (bxC ob3) 26 (0, 0)), (g30, .cells (bxC ob2) 26 (0, 0)), (g28, .cells (bxC ob1) 26 (0, 0)), (g26, .cells (bxC exN) 26 (0, 0)), (g24, .cells (bxC exC) 26 (0, 0)), (g22, .cells (bxC exL) 26 (0, 0)), (g20, .cells (bxC exD) 26 (0, 0)), (g18, .cells (bxC exH) 26 (0, 0)), (g16, .cells (bxC exS) 26 (0, 0)), (g14, .cells ((bcs [exS, exH, exD, exL, exC, exN]).toArray) 26 (0, 0)), (g12, .cells (bxC exN) 26 (0, 0)), (g10, .cells (bxC exC) 26 (0, 0)), (g8, .cells (bxC exL) 26 (0, 0)), (g6, .cells (bxC exD) 26 (0, 0)), (g4, .cells (bxC exH) 26 (0, 0)), (g2, .cells (bxC exS) 26 (0, 0)), (g1, .cells (bxC exR) 26 (0, 0))] : List (Nat × Obj)), ∀ q ∈ Kl, q.1 ≠ p.1) ∧ K9 = [(g52, .cells ((bcs [ob1, ob2, ob3, ob4]).toArray) 26 (0, 0)), (g50, .cells ((bcs [ob3, ob4, ob2, ob1]).toArray) 26 (0, 0)), (g36, .cells ((bcs [exB, exB]).toArray) 26 (0, 0)), (g34, .cells (bxC ob4) 26 (0, 0)), (g32, .cells (bxC ob3) 26 (0, 0)), (g30, .cells (bxC ob2) 26 (0, 0)), (g28, .cells (bxC ob1) 26 (0, 0)), (g26, .cells (bxC exN) 26 (0, 0)), (g24, .cells (bxC exC) 26 (0, 0)), (g22, .cells (bxC exL) 26 (0, 0)), (g20, .cells (bxC exD) 26 (0, 0)), (g18, .cells (bxC exH) 26 (0, 0)), (g16, .cells (bxC exS) 26 (0, 0)), (g14, .cells ((bcs [exS, exH, exD, exL, exC, exN]).toArray) 26 (0, 0)), (g12, .cells (bxC exN) 26 (0, 0)), (g10, .cells (bxC exC) 26 (0, 0)), (g8, .cells (bxC exL) 26 (0, 0)), (g6, .cells (bxC exD) 26 (0, 0)), (g4, .cells (bxC exH) 26 (0, 0)), (g2, .cells (bxC exS) 26 (0, 0)), (g1, .cells (bxC exR) 26 (0, 0))] ++ Kl) rfl rfl (by kernel_rfl) (by kernel_rfl) (fun _ => (by kernel_rfl)) (fun W hW => calls_out hW (Order_few [ob1, ob2, ob3, ob4] (some ⟨g52, 0, none⟩) 4 (by decide) W (rowx_slv (hW.2 _ (.head _)) (row_lit [ob1, ob2, ob3, ob4])))) (fun _ _ h => by obtain ⟨_, _, _, rfl⟩ := h; exact fun p hp => List.mem_append_left _ hp) (fun _ => by simp only [List.setIfInBounds_toArray, List.set_cons_succ, List.set_cons_zero] <;> rfl) ?_
    rintro v54 K9 ⟨Kl54, O54, N54, rfl⟩
    obtain ⟨dj55_0, dj55_1, dj55_2, dj55_3, dj55_4, dj55_5, dj55_6, dj55_7, dj55_8, dj55_9, dj55_10, dj55_11, dj55_12, dj55_13, dj55_14, dj55_15, dj55_16, dj55_17, dj55_18, dj55_19, dj55_20⟩ : Dk g52 Kl54 ∧ Dk g50 Kl54 ∧ Dk g36 Kl54 ∧ Dk g34 Kl54 ∧ Dk g32 Kl54 ∧ Dk g30 Kl54 ∧ Dk g28 Kl54 ∧ Dk g26 Kl54 ∧ Dk g24 Kl54 ∧ Dk g22 Kl54 ∧ Dk g20 Kl54 ∧ Dk g18 Kl54 ∧ Dk g16 Kl54 ∧ Dk g14 Kl54 ∧ Dk g12 Kl54 ∧ Dk g10 Kl54 ∧ Dk g8 Kl54 ∧ Dk g6 Kl54 ∧ Dk g4 Kl54 ∧ Dk g2 Kl54 ∧ Dk g1 Kl54 := by simpa only [dj_app_l, dj_app_r, dj_cons_l, dj_cons_r, dj_nil_l, dj_nil_r, dk_app, dk_cons, dk_nil, and_true, true_and, and_assoc] using (show Dj [(g52, .cells ((bcs [ob1, ob2, ob3, ob4]).toArray) 26 (0, 0)), (g50, .cells ((bcs [ob3, ob4, ob2, ob1]).toArray) 26 (0, 0)), (g36, .cells ((bcs [exB, exB]).toArray) 26 (0, 0)), (g34, .cells (bxC ob4) 26 (0, 0)), (g32, .cells (bxC ob3) 26 (0, 0)), (g30, .cells (bxC ob2) 26 (0, 0)), (g28, .cells (bxC ob1) 26 (0, 0)), (g26, .cells (bxC exN) 26 (0, 0)), (g24, .cells (bxC exC) 26 (0, 0)), (g22, .cells (bxC exL) 26 (0, 0)), (g20, .cells (bxC exD) 26 (0, 0)), (g18, .cells (bxC exH) 26 (0, 0)), (g16, .cells (bxC exS) 26 (0, 0)), (g14, .cells ((bcs [exS, exH, exD, exL, exC, exN]).toArray) 26 (0, 0)), (g12, .cells (bxC exN) 26 (0, 0)), (g10, .cells (bxC exC) 26 (0, 0)), (g8, .cells (bxC exL) 26 (0, 0)), (g6, .cells (bxC exD) 26 (0, 0)), (g4, .cells (bxC exH) 26 (0, 0)), (g2, .cells (bxC exS) 26 (0, 0)), (g1, .cells (bxC exR) 26 (0, 0))] Kl54 from N54)
    obtain ⟨p56, c56, rfl, hc56, HB56⟩ := own_bs O54
    refine vv (i := 18) (v := .bool true) rfl rfl rfl (yb_call (f := 28) (args := #[.slice p56 ([ob1, ob2, ob3, ob4].length) c56, .slice (some ⟨g50, 0, none⟩) 4 4]) (fun _ => by kernel_rfl) fun W hW => same_true (orderX [ob1, ob2, ob3, ob4]) [ob3, ob4, ob2, ob1] p56 (some ⟨g50, 0, none⟩) c56 4 (by first | omega | (simp; done) | (simp; omega) | decide) W (HB56 W (hW.sub (fun p hp => by simp only [List.mem_cons, List.mem_append, List.nil_append, List.not_mem_nil, or_assoc, or_false, false_or, hp, true_or, or_true]))) (rowx_slv (hW.2 _ (.tail _ (.head _))) (row_lit [ob3, ob4, ob2, ob1])) (by decide +kernel)) ?_
    refine vm (i := 19) (v := .bool true) rfl rfl rfl ?_
    refine vm (i := 20) (v := .bool true) rfl rfl rfl ?_
    refine wpV_done (by kernel_rfl) (fun W42 hW42 => ?_) _
    refine (show Code.wp _ _ _ _ _ from ?_)
    refine wp_ret ?_
    try simp only [inBlock_ret, then_ret]
    refine bodyPost_ret (v := .bool true) ?_ rfl ?_
    · kernel_rfl
    · exact ⟨rfl, hW42.1⟩
end Go.Proofs.YtllmpemmknblaaaDoor
/- A package-level variable of plain data reads as its cells: structs, arrays, numbers, bools, strings. Over any program. -/
namespace Tw
open Go Go.RowKit Go.Proofs.YtllmpemmknblaaaDoor
section
variable {H : Type} {P : Program}
def contig : Nat → List (Nat × Nat) → Option Nat
  | off, [] => some off
  | off, (o, n) :: r => if o = off then contig (off + n) r else none
theorem chunks {cs : List Value} : ∀ (l : List (Nat × Nat)) (ch : List (List Value)) (off tot : Nat), contig off l = some tot → cs.length = tot → l.length = ch.length →
    (∀ (i : Nat) (x : Nat × Nat) (c : List Value), l[i]? = some x → ch[i]? = some c → (cs.drop x.1).take x.2 = c) → cs.drop off = ch.flatten
  | [], [], off, tot, h, hl, _, _ => by
    simp only [contig, Option.some.injEq] at h
    rw [List.drop_eq_nil_of_le (by omega)]
    rfl
  | [], _ :: _, _, _, _, _, hn, _ => by simp at hn
  | _ :: _, [], _, _, _, _, hn, _ => by simp at hn
  | (o, n) :: l, c :: ch, off, tot, h, hl, hn, hc => by
    simp only [contig] at h
    split at h
    · rename_i ho
      subst ho
      have h0 := hc 0 (o, n) c rfl rfl
      have ih := chunks l ch (o + n) tot h hl (by simpa using hn) (fun i x d hx hd => hc (i + 1) x d (by simpa using hx) (by simpa using hd))
      rw [List.flatten_cons, ← ih, ← h0, ← List.drop_drop]
      exact (List.take_append_drop n (cs.drop o)).symm
    · cases h
def plainOf (P : Program) : Nat → TypeId → DataW H → Option (List Value)
  | 0, _, _ => none
  | f + 1, t, d => match P.underlying t, d with
    | some .bool, .lit (.bool b) => some [.bool b]
    | some (.int _), .lit (.int k n) => some [.int k n]
    | some .string, .lit (.string s) => some [.string ⟨s.toArray⟩]
    | some (.struct fs), .agg ds =>
      if fs.size = ds.length ∧ contig 0 (fs.toList.map fun f => (f.offset, P.cellsOf f.type)) = some (P.cellsOf t) then ((fs.toList.zip ds).mapM fun x => plainOf P f x.1.type x.2).map List.flatten else none
    | some (.array n e), .agg ds =>
      if n = ds.length ∧ contig 0 ((List.range n).map fun i => (i * P.cellsOf e, P.cellsOf e)) = some (P.cellsOf t) then (ds.mapM fun x => plainOf P f e x).map List.flatten else none
    | _, _ => none
theorem mapM_get {α β : Type} {f : α → Option β} : ∀ {l : List α} {r : List β}, l.mapM f = some r → r.length = l.length ∧ ∀ (i : Nat) (a : α), l[i]? = some a → ∃ b, r[i]? = some b ∧ f a = some b := fun h => ⟨Lib.mapM_length h, Lib.mapM_at h⟩
theorem plain_inv {enc : TypeId × Value → H} {w : World} {base : Nat} {sp : Nat → Bool} {held : Bool} : ∀ (f fuel : Nat) (t : TypeId) (d : DataW H) (cs cs0 : List Value) (p : List MemPlace),
    plainOf P f t d = some cs0 → DataW.trod enc P w base sp held fuel t cs = some (d, p) → cs = cs0
  | 0, _, _, _, _, _, _, h, _ => by cases h
  | _ + 1, 0, _, _, _, _, _, _, h => by simp [DataW.trod] at h
  | f + 1, fuel + 1, t, d, cs, cs0, p, hp, ht => by
    unfold plainOf at hp
    unfold DataW.trod at ht
    split at hp
    · rename_i hu
      rw [hu] at ht
      simp only at ht
      split at ht <;> simp_all
    · rename_i hu
      rw [hu] at ht
      simp only at ht
      split at ht <;> simp_all
    · rename_i hu
      rw [hu] at ht
      simp only at ht
      split at ht <;> simp_all
      obtain ⟨_, h2, _⟩ := ht
      rw [← hp, ← h2]
    · rename_i fs ds hu
      rw [hu] at ht
      simp only at ht
      split at hp
      · rename_i hg
        obtain ⟨h1, h2⟩ := hg
        split at ht
        · rename_i hl
          obtain ⟨xs, hm, hx⟩ := Option.map_eq_some_iff.1 ht
          obtain ⟨ys, hn, hy⟩ := Option.map_eq_some_iff.1 hp
          simp only [Prod.mk.injEq, DataW.agg.injEq] at hx
          obtain ⟨hx, _⟩ := hx
          obtain ⟨m1, m2⟩ := mapM_get hm
          obtain ⟨n1, n2⟩ := mapM_get hn
          have hzl : (fs.toList.zip ds).length = fs.size := by simp [List.length_zip]; omega
          subst hy
          have := chunks (cs := cs) _ ys 0 _ h2 hl (by simp only [List.length_map, Array.length_toList]; omega) (fun i x c hx1 hc => by
            rw [List.getElem?_map] at hx1
            obtain ⟨fd, hfd, rfl⟩ := Option.map_eq_some_iff.1 hx1
            obtain ⟨b, hb, hfb⟩ := m2 i fd hfd
            have hdi : ds[i]? = some b.1 := by rw [← hx, List.getElem?_map, hb]; rfl
            have hz : (fs.toList.zip ds)[i]? = some (fd, b.1) := by rw [List.getElem?_zip_eq_some]; exact ⟨hfd, hdi⟩
            obtain ⟨c', hc', hpl⟩ := n2 i _ hz
            rw [hc] at hc'
            cases hc'
            exact plain_inv f fuel _ _ _ _ b.2 hpl hfb)
          simpa using this
        · cases ht
      · cases hp
    · rename_i n e ds hu
      rw [hu] at ht
      simp only at ht
      split at hp
      · rename_i hg
        obtain ⟨h1, h2⟩ := hg
        split at ht
        · rename_i hl
          obtain ⟨xs, hm, hx⟩ := Option.map_eq_some_iff.1 ht
          obtain ⟨ys, hn, hy⟩ := Option.map_eq_some_iff.1 hp
          simp only [Prod.mk.injEq, DataW.agg.injEq] at hx
          obtain ⟨hx, _⟩ := hx
          obtain ⟨m1, m2⟩ := mapM_get hm
          obtain ⟨n1, n2⟩ := mapM_get hn
          subst hy
          have := chunks (cs := cs) _ ys 0 _ h2 hl (by simp only [List.length_map, List.length_range]; omega) (fun i x c hx1 hc => by
            rw [List.getElem?_map] at hx1
            obtain ⟨j, hj, rfl⟩ := Option.map_eq_some_iff.1 hx1
            obtain ⟨b, hb, hfb⟩ := m2 i j hj
            have hij : j = i := by
              obtain ⟨hi, hi2⟩ := List.getElem?_eq_some_iff.1 hj
              rw [List.getElem_range] at hi2
              exact hi2.symm
            subst hij
            have hdi : ds[j]? = some b.1 := by rw [← hx, List.getElem?_map, hb]; rfl
            obtain ⟨c', hc', hpl⟩ := n2 j _ hdi
            rw [hc] at hc'
            cases hc'
            exact plain_inv f fuel _ _ _ _ b.2 hpl hfb)
          simpa using this
        · cases ht
      · cases hp
    · cases hp
theorem laid_plain {w : World} {name : String} {d : DataW Unit} {rest : List (String × DataW Unit)} {g : Nat} {t : TypeId} {cs0 : List Value} (f : Nat) (h : laidMet P ((name, d) :: rest) w)
    (hg : P.globalNamed name = some g) (ht : (P.globals[g]?).map (·.type) = some t) (hp : plainOf P f t d = some cs0) : w.var? P name = some cs0.toArray := by
  obtain ⟨ps, ⟨g', t', cs, fuel, p, q, hg', ht', hv, hd, _, _⟩, _⟩ := h
  obtain rfl := Option.some.inj (hg.symm.trans hg')
  obtain rfl := Option.some.inj (ht.symm.trans ht')
  have := plain_inv f fuel _ _ _ _ _ hp hd
  rw [hv]
  congr 1
  obtain ⟨l⟩ := cs
  exact congrArg Array.mk this
end
end Tw
namespace Go.Proofs.YtllmpemmknblaaaDoor
open Go Go.RowKit Tw
structure Sk where
  kind : Nat
  kilos : Nat
  load : Nat
  stay : Nat
  cls : Nat
  num : Nat
end Go.Proofs.YtllmpemmknblaaaDoor
/- What came in: records of plain cells, and lists of them. Over any program. -/
namespace Tw
open Go Go.RowKit Go.Proofs.YtllmpemmknblaaaDoor Go.ChangeShapes Go.WideShapes
section
variable {H : Type} {enc : TypeId × Value → H} {P : Program} {α : Type}
def OpensC (P : Program) (t : TypeId) (cells : α → List Value) (ok : α → Prop) : Prop := ∀ (H : Type) (enc : TypeId × Value → H) (w : World) (base : Nat) (sp : Nat → Bool) (held : Bool) (fuel : Nat) (cs : List Value) (x : DataW H × List MemPlace),
  DataW.trod enc P w base sp held fuel t cs = some x → ∃ y : α, cs = cells y ∧ ok y
theorem opens_list {w : World} {base : Nat} {a : Addr} {e : TypeId} {sz n : Nat} {cells : α → List Value} {ok : α → Prop} {sp : Nat → Bool} {held : Bool} {elems : List (DataW H × List MemPlace)} (hE : OpensC P e cells ok) (hsz : P.cellsOf e = sz) :
    ∀ m, m ≤ elems.length → (∀ i, i < m → (w.cells? base (a.add (i * P.cellsOf e)) (P.cellsOf e)).bind (DataW.trod enc P w base sp held n e) = elems[i]?) → ∃ l : List α, l.length = m ∧ (∀ y ∈ l, ok y) ∧ ∀ i y, l[i]? = some y → w.cells? base (a.add (i * sz)) sz = some (cells y)
  | 0, _, _ => ⟨[], rfl, (fun _ h => by cases h), fun i y h => by simp at h⟩
  | m + 1, hm, hel => by
    obtain ⟨l, h1, h2, h3⟩ := opens_list hE hsz m (by omega) (fun i hi => hel i (by omega))
    have h0 := hel m (by omega)
    rw [List.getElem?_eq_getElem (by omega)] at h0
    obtain ⟨cs, hcs, ht⟩ := Option.bind_eq_some_iff.1 h0
    obtain ⟨y, rfl, hy⟩ := hE _ _ _ _ _ _ _ _ _ ht
    rw [hsz] at hcs
    refine ⟨l ++ [y], by simp [h1], fun z hz => ?_, fun i z hz => ?_⟩
    · rcases List.mem_append.1 hz with hz | hz
      · exact h2 z hz
      · cases List.mem_singleton.1 hz; exact hy
    · rcases Nat.lt_or_ge i m with hi | hi
      · rw [List.getElem?_append_left (by omega)] at hz
        exact h3 i z hz
      · obtain ⟨hlt, _⟩ := List.getElem?_eq_some_iff.1 hz
        have hi2 : i = m := by rw [List.length_append, h1, List.length_singleton] at hlt; omega
        subst hi2
        rw [List.getElem?_append_right (by omega), h1, Nat.sub_self] at hz
        cases hz
        exact hcs
theorem flat_at {cells : α → List Value} {sz : Nat} (hc : ∀ y, (cells y).length = sz) : ∀ {l : List α} {i : Nat} {u : Value}, (l.flatMap cells)[i]? = some u → ∃ y, l[i / sz]? = some y ∧ (cells y)[i % sz]? = some u
  | [], _, _, h => by simp at h
  | y :: l, i, u, h => by
    rw [List.flatMap_cons] at h
    rcases Nat.lt_or_ge i sz with hi | hi
    · rw [List.getElem?_append_left (by rw [hc]; exact hi)] at h
      exact ⟨y, by rw [Nat.div_eq_of_lt hi]; rfl, by rw [Nat.mod_eq_of_lt hi]; exact h⟩
    · rw [List.getElem?_append_right (by rw [hc]; exact hi), hc] at h
      obtain ⟨z, h1, h2⟩ := flat_at hc h
      have h0 : 0 < sz := by
        rcases Nat.eq_zero_or_pos sz with h0 | h0
        · subst h0; rw [Nat.mod_zero] at h2; have := hc z; rw [List.length_eq_zero_iff.1 this] at h2; simp at h2
        · exact h0
      refine ⟨z, ?_, ?_⟩
      · rw [show i / sz = (i - sz) / sz + 1 from by rw [Nat.div_eq_sub_div h0 hi], List.getElem?_cons_succ]; exact h1
      · rw [Nat.mod_eq_sub_mod hi]; exact h2
theorem open_recs {W : World} {t e : TypeId} {v : Value} {d : DataW H} {ps : List MemPlace} {base sz : Nat} {cells : α → List Value} {ok : α → Prop} (ht : P.underlying t = some (.slice e)) (hE : OpensC P e cells ok) (hsz : P.cellsOf e = sz) (hz : 0 < sz) (hc : ∀ y, (cells y).length = sz)
    (hv : Value.okWide P W .any base t v) (h0 : DataW.Trod enc P W 0 (fun _ => true) true t v d ps) : ∃ (p : Option Addr) (cap : Nat) (l : List α), v = .slice p l.length cap ∧ SLV W p (l.flatMap cells) ∧ (∀ y ∈ l, ok y) ∧ l.length ≤ maxLen ∧ l.length ≤ cap := by
  obtain ⟨a0, len0, cap0, rfl⟩ := okWide_slice ht hv
  obtain ⟨fuel, hf⟩ := h0
  rcases DataW.trod_slice ht hf with ⟨hcs, _⟩ | ⟨a, len, cap, elems, rest, n, _, hcs, _, hb, hl, hm, hlen, hel, _, _⟩
  · simp [Value.cells] at hcs
    obtain ⟨rfl, rfl, rfl⟩ := hcs
    exact ⟨none, 0, [], rfl, .inl rfl, (fun _ h => by cases h), by simp, by simp⟩
  · simp [Value.cells] at hcs
    obtain ⟨rfl, rfl, rfl⟩ := hcs
    obtain ⟨l, h1, h2, h3⟩ := opens_list hE hsz len0 (by omega) hel
    refine ⟨some a, cap0, l, by rw [h1], ?_, h2, by omega, by omega⟩
    rcases Nat.eq_zero_or_pos len0 with h0 | h0
    · left; rw [List.length_eq_zero_iff.1 (h1.trans h0)]; rfl
    · obtain ⟨b, off, spot⟩ := a
      have hcell : ∀ i y, l[i]? = some y → ∀ j u, (cells y)[j]? = some u → W.cell? ((⟨b, off, spot⟩ : Addr).add (i * sz) |>.add j) = some u := by
        intro i y hy j u hu
        obtain ⟨_, h4, h5⟩ := World.cells?_some (h3 i y hy)
        obtain ⟨hj, _⟩ := List.getElem?_eq_some_iff.1 hu
        rw [hc] at hj
        rw [h5 j hj]; exact hu
      have h00 : l[0]? = some (l[0]'(by omega)) := List.getElem?_eq_getElem _
      have hspot : spot = none := by
        have hu : (cells (l[0]'(by omega)))[0]? = some ((cells (l[0]'(by omega)))[0]'(by rw [hc]; exact hz)) := List.getElem?_eq_getElem _
        have := World.cell?_spot (hcell 0 _ h00 0 _ hu)
        unfold Addr.add at this
        simp only at this
        split at this <;> simp_all
      subst hspot
      have hadd : ∀ (m j : Nat), ((⟨b, off, none⟩ : Addr).add m).add j = ⟨b, off + (m + j), none⟩ := fun m j => by rw [addr_add, addr_add, Nat.add_assoc]
      refine .inr ⟨b, off, rfl, ?_, fun i u hu => ?_⟩
      · have hu : (cells (l[0]'(by omega)))[0]? = some ((cells (l[0]'(by omega)))[0]'(by rw [hc]; exact hz)) := List.getElem?_eq_getElem _
        have := World.block_lt_of_cell? _ _ (hcell 0 _ h00 0 _ hu)
        rw [hadd] at this
        exact this
      · obtain ⟨y, hy1, hy2⟩ := flat_at hc hu
        have := hcell _ y hy1 _ u hy2
        rw [hadd, Nat.mul_comm, Nat.div_add_mod] at this
        exact this
theorem trod_fld {w : World} {base : Nat} {sp : Nat → Bool} {held : Bool} {fuel : Nat} {t : TypeId} {cs : List Value} {x : DataW H × List MemPlace} {fs : Array Field} (ht : P.underlying t = some (.struct fs)) (h : DataW.trod enc P w base sp held fuel t cs = some x) :
    cs.length = P.cellsOf t ∧ ∀ (i : Nat) (f : Field), fs[i]? = some f → ∃ n y, DataW.trod enc P w base sp held n f.type ((cs.drop f.offset).take (P.cellsOf f.type)) = some y := by
  obtain ⟨xs, n, _, _, hl, hx, hg⟩ := DataW.trod_struct ht h
  refine ⟨hl, fun i f hf => ?_⟩
  have h1 := hg i f hf
  have hi : i < xs.length := by rw [hx]; exact (Array.getElem?_eq_some_iff.1 hf).1
  rw [List.getElem?_eq_getElem hi] at h1
  exact ⟨n, _, h1⟩
theorem fld_int {w : World} {base : Nat} {sp : Nat → Bool} {held : Bool} {fuel : Nat} {t : TypeId} {cs : List Value} {x : DataW H × List MemPlace} {k : IntKind} (ht : P.underlying t = some (.int k)) (h : DataW.trod enc P w base sp held fuel t cs = some x) : ∃ n, cs = [.int k n] ∧ k.min ≤ n ∧ n ≤ k.max := by
  obtain ⟨n, h1, _, h2⟩ := DataW.trod_int ht h
  exact ⟨n, h1, by simpa [Lit.wf] using h2⟩
theorem fld_bool {w : World} {base : Nat} {sp : Nat → Bool} {held : Bool} {fuel : Nat} {t : TypeId} {cs : List Value} {x : DataW H × List MemPlace} (ht : P.underlying t = some .bool) (h : DataW.trod enc P w base sp held fuel t cs = some x) : ∃ b, cs = [.bool b] := by
  obtain ⟨n, h1, _⟩ := DataW.trod_bool ht h
  exact ⟨n, h1⟩
theorem fld_str {w : World} {base : Nat} {sp : Nat → Bool} {held : Bool} {fuel : Nat} {t : TypeId} {cs : List Value} {x : DataW H × List MemPlace} (ht : P.underlying t = some .string) (h : DataW.trod enc P w base sp held fuel t cs = some x) : ∃ l : List UInt8, cs = [strV l] ∧ l.length ≤ maxLen := by
  obtain ⟨s, h1, _, h2⟩ := DataW.trod_string ht h
  refine ⟨s.data.toList, ?_, ?_⟩
  · rw [h1]; unfold strV; simp
  · have : s.data.toList.length = s.size := by simp
    omega
end
end Tw
namespace Go.Proofs.YtllmpemmknblaaaDoor
open Go Go.RowKit Tw
end Go.Proofs.YtllmpemmknblaaaDoor
/- From the row's condition to what the proofs ask; what came in. -/
namespace Go.Proofs.YtllmpemmknblaaaDoor
open Go.ChangeShapes Go.WideShapes Go.ChangeAt Go.RowKit Tw
open Go
theorem own : ownKnob Tryd.prog.godebug = none := by kernel_rfl
theorem laidOut : laidOutB Tryd.prog = true := by kernel_rfl
def laidN : List (String × DataW Unit) := [("twistlock/iso.kinds", Rows.laid_twistlock_iso_kinds)]
set_option maxRecDepth 100000 in
theorem door_met (os : Os) (args : Array Value) : laidMetH Tryd.prog laidN ((World.doorLaid Tryd.prog 1000 os).forCall (fun _ _ => 0) ⟨#[], args, []⟩).memory :=
  laidMetH_of_parts3 (fuel := 8) (laidMet_of_run' 8 (by kernel_rfl) (by kernel_rfl)) (by kernel_rfl) (by kernel_rfl)
theorem env_of {W : World} (h0 : laidMetH Tryd.prog laidN W) : Env W := by
  have h : laidMet Tryd.prog laidN W := by rw [MakeChecks.laidMetH_plain _ _ _ (by kernel_rfl)] at h0; exact h0
  exact ⟨laid_plain 8 h gKinds (t := 78) (by kernel_rfl) (by kernel_rfl)⟩
theorem handed_and_sized {H : Type} {enc : TypeId × Value → H} {a : Assume} {C : Checked} {os : Os} {f : FuncId} {fn : Func} {s : ChangeSpec} {conds : List PathCond} {apart fresh handsOn again : Bool} {X : World → Prop}
    (hX : ∀ (w w' : World), w.heap = w'.heap → X w → X w')
    (own : ownKnob C.prog.godebug = none) (started : os.Started) (noInit : C.prog.inits.idxOf? f = none) (hfn : C.prog.funcs[f]? = some fn)
    (witness : ∃ (w : World) (tape : Tape) (i : Input), w.os = os ∧ (w.forCall tape i).Shaped C.prog ∧ i.vars = [] ∧ Input.okWide C.prog (w.forCall tape i) .any w.heap.size f i ∧
      ((s.pre enc C.prog fn conds apart (w.forCall tape i).memory i.args ∧ X (w.forCall tape i).memory) ∧ sizedMet enc C.prog fn (OpenSpec.ofChange s) apart (w.forCall tape i).memory i.args) ∧ a.holds C.prog (lone (Frame.enter C.prog f i.args .normal) [] (w.forCall tape i)))
    (contract : ∀ (W : World) (base : Nat) (args : Array Value) (ds gs : List (DataW H)) (before : List MemPlace),
      (∀ (j : Nat) t v, fn.params[j]? = some t → args[j]? = some v → Value.okWide C.prog W .any base t v) →
      DataW.Whole enc C.prog fn.params.toList s.vars apart W args.toList ds gs before → X W → W.ShapedOpen C.prog →
      (DataW.weightsEach C.prog (fn.params.toList ++ s.plain.varTypes C.prog) (ds ++ gs)).all (· ≤ reachBytes) = true →
      Calls C.prog f args W fun e W' => ∃ v, e = .returned v ∧ s.post enc C.prog fn apart fresh handsOn again W args v W') :
    ReturnsInHanded a C os f .any (fun w args => (s.pre enc C.prog fn conds apart w args ∧ X w) ∧ sizedMet enc C.prog fn (OpenSpec.ofChange s) apart w args) (s.post enc C.prog fn apart fresh handsOn again) := by
  refine returnsInHanded_of_calls own started noInit witness fun w tape i _ hsh _ hok hpre _ => ?_
  obtain ⟨_, _, _, fn', hfn', _, _, _, _, hval⟩ := hok
  obtain rfl : fn' = fn := Option.some.inj (hfn'.symm.trans hfn)
  obtain ⟨⟨_, hx⟩, _, ds, gs, before, hw, hz⟩ := hpre
  refine (contract (w.forCall tape i) w.heap.size i.args ds gs before hval (DataW.Whole.of_heap (w' := w.forCall tape i) (by rfl) hw) (hX _ _ (by rfl) hx) hsh hz).mono fun e W' ⟨v, he, hp⟩ => ?_
  subst he
  exact ChangeSpec.post_blind hp
end Go.Proofs.YtllmpemmknblaaaDoor
