import Derived.Test.YtkfcikijmkgahaaDoorG21
import Derived.Test.YtkfcikijmkgahaaDoorG05
/- Part of the proof: Xw. -/
set_option linter.unusedVariables false
set_option linter.unusedSimpArgs false
set_option linter.unusedSectionVars false
namespace Go.Proofs.YtkfcikijmkgahaaDoor
open Go.RowKit Tw
theorem run_catS {a b c : List UInt8} (hc : a ++ b = c) (h : a.length + b.length ≤ 9223372036854775807) {x y : Operand} (w : World) : (do eqGuard .add 9 x y (.string ⟨a.toArray⟩) (.string ⟨b.toArray⟩); binOp .add 9 (.string ⟨a.toArray⟩) (.string ⟨b.toArray⟩) : Sem Value).run Tryd.prog w = .ok (.string ⟨c.toArray⟩) w := by
  subst hc
  have h2 : ¬ 9223372036854775807 < a.length + b.length := by omega
  rw [← ba_app]
  generalize hA : (⟨a.toArray⟩ : ByteArray) = A
  generalize hB : (⟨b.toArray⟩ : ByteArray) = B
  have h3 : ¬ 9223372036854775807 < A.size + B.size := by
    rw [← hA, ← hB, ba_size, ba_size]; exact h2
  clear h h2 hA hB
  go_simp
variable [ShLZ]
variable [ShSt]
set_option maxRecDepth 100000 in
set_option maxHeartbeats 4000000 in
theorem FracTexts_w11 (w : World) (a b d e : Int) (sx : Bool) (nx dx : Nat) (Hnx : nx < R 8) (Hdx : dx < R 8) (lx : List UInt8) (hlx : lx.length ≤ 158) (l1 l2 l3 : List UInt8) (E1 : [48] ++ lx = l1) (E2 : lx ++ [32] = l2) (E3 : lx ++ [47, 49] = l3) 
    (HAw : Hid (∀ W, Below w.heap.size w W → Calls Tryd.prog 10 #[] W fun e w' => e = .returned (.bool true) ∧ Below W.heap.size W w'))
    (HM1 : Hid (∀ W, Calls Tryd.prog 11 #[.int .i64 a, .int .u32 d] W fun e w' => e = .returned (.agg (frcC sx nx dx)) ∧ Below W.heap.size W w'))
    (HM2 : Hid (∀ W, Calls Tryd.prog 11 #[.int .i64 b, .int .u32 e] W fun e w' => e = .returned (.agg (frcC sx nx dx)) ∧ Below W.heap.size W w'))
    (HT1 : Hid (∀ W, Below w.heap.size w W → Calls Tryd.prog 20 #[.agg (frcC sx nx dx)] W fun e w' => e = .returned (.tuple #[.string ⟨(lx).toArray⟩, .int .i64 0]) ∧ Below W.heap.size W w'))
    (HR1 : Hid (∀ W, Below w.heap.size w W → Calls Tryd.prog 21 #[.string ⟨(lx).toArray⟩] W fun e w' => e = .returned (.tuple #[.agg (frcC sx nx dx), .int .i64 0]) ∧ Below W.heap.size W w'))
    (HR2 : Hid (∀ W, Below w.heap.size w W → Calls Tryd.prog 21 #[.string ⟨(l1).toArray⟩] W fun e w' => e = .returned (.tuple #[.agg (frcC false 0 0), .int .i64 10]) ∧ Below W.heap.size W w'))
    (HR3 : Hid (∀ W, Below w.heap.size w W → Calls Tryd.prog 21 #[.string ⟨(l2).toArray⟩] W fun e w' => e = .returned (.tuple #[.agg (frcC false 0 0), .int .i64 10]) ∧ Below W.heap.size W w'))
    (HR4 : Hid (∀ W, Below w.heap.size w W → Calls Tryd.prog 21 #[.string ⟨(l3).toArray⟩] W fun e w' => e = .returned (.tuple #[.agg (frcC false 0 0), .int .i64 10]) ∧ Below W.heap.size W w'))
    (HC : Hid (∀ W, Calls Tryd.prog 22 #[.string ⟨(lx).toArray⟩, .string ⟨#[47]⟩] W fun e w' => e = .returned (.bool true) ∧ Below W.heap.size W w')) :
    Calls Tryd.prog 6 #[.int .i64 a, .int .i64 b, .int .u32 d, .int .u32 e] w fun e w' => e = .returned (.bool true) ∧ Below w.heap.size w w' := by
  go_enter Tryd.func6, Tryd.ntmps6
  refine wp_seq ?_
  refine wp_region_L (W0 := w) [] (KS.start w) ?_
  refine wpL_p (v := .bool false) rfl (by kernel_rfl) rfl (fun _ => by kernel_rfl) (by simp only [List.setIfInBounds_toArray, List.set_cons_succ, List.set_cons_zero] <;> rfl) ?_
  refine wpL_done (fun W1 hW1 => ?_)
  refine (show Code.wp _ _ _ _ _ from ?_)
  refine wp_seq ?_
  refine wp_seq ?_
  refine wp_region_L (W0 := w) [] (hW1) ?_
  refine wpL_v (v := .bool true) rfl (by kernel_rfl) rfl (yb_call (f := 10) (args := #[]) (fun _ => by kernel_rfl) fun W hW => HAw.out W hW.1) (by simp only [List.setIfInBounds_toArray, List.set_cons_succ, List.set_cons_zero] <;> rfl) ?_
  refine wpL_p (v := .bool false) rfl (by kernel_rfl) rfl (fun _ => by kernel_rfl) (by simp only [List.setIfInBounds_toArray, List.set_cons_succ, List.set_cons_zero] <;> rfl) ?_
  refine wpL_done (fun W2 hW2 => ?_)
  clear hW1
  refine (show Code.wp _ _ _ _ _ from ?_)
  refine wp_cond_false rfl ?_
  refine wp_skip ?_
  refine (show Code.wp _ _ _ _ _ from ?_)
  refine wp_seq ?_
  refine wp_region_L (W0 := w) [] (hW2) ?_
  refine wpL_p (v := .int .i64 a) rfl (by kernel_rfl) rfl (fun _ => by kernel_rfl) (by simp only [List.setIfInBounds_toArray, List.set_cons_succ, List.set_cons_zero] <;> rfl) ?_
  refine wpL_p (v := .int .u32 d) rfl (by kernel_rfl) rfl (fun _ => by kernel_rfl) (by simp only [List.setIfInBounds_toArray, List.set_cons_succ, List.set_cons_zero] <;> rfl) ?_
  refine wpL_v (v := .agg (frcC sx nx dx)) rfl (by kernel_rfl) rfl (yb_call (f := 11) (args := #[.int .i64 a, .int .u32 d]) (fun _ => by kernel_rfl) fun W hW => HM1.out W) (by simp only [List.setIfInBounds_toArray, List.set_cons_succ, List.set_cons_zero] <;> rfl) ?_
  refine wpL_p (v := .int .i64 b) rfl (by kernel_rfl) rfl (fun _ => by kernel_rfl) (by simp only [List.setIfInBounds_toArray, List.set_cons_succ, List.set_cons_zero] <;> rfl) ?_
  refine wpL_p (v := .int .u32 e) rfl (by kernel_rfl) rfl (fun _ => by kernel_rfl) (by simp only [List.setIfInBounds_toArray, List.set_cons_succ, List.set_cons_zero] <;> rfl) ?_
  refine wpL_v (v := .agg (frcC sx nx dx)) rfl (by kernel_rfl) rfl (yb_call (f := 11) (args := #[.int .i64 b, .int .u32 e]) (fun _ => by kernel_rfl) fun W hW => HM2.out W) (by simp only [List.setIfInBounds_toArray, List.set_cons_succ, List.set_cons_zero] <;> rfl) ?_
  refine wpL_new (fun g => .pointer (some ⟨g, 0, none⟩)) (obi := .cells (frcC false 0 0) 26 (0, 0)) rfl rfl (fun _ => by rw [frc_zero]; rfl) (fun _ => by simp only [List.setIfInBounds_toArray, List.set_cons_succ, List.set_cons_zero] <;> rfl) fun g1 Bg1 Fg1 => ?_
  try simp only [List.forall_mem_cons] at Fg1
  refine wpL_new (fun g => .pointer (some ⟨g, 0, none⟩)) (obi := .cells (frcC false 0 0) 26 (0, 0)) rfl rfl (fun _ => by rw [frc_zero]; rfl) (fun _ => by simp only [List.setIfInBounds_toArray, List.set_cons_succ, List.set_cons_zero] <;> rfl) fun g2 Bg2 Fg2 => ?_
  try simp only [List.forall_mem_cons] at Fg2
  refine wpL_s [(g2, .cells (frcC false 0 0) 26 (0, 0)), (g1, .cells (frcC sx nx dx) 26 (0, 0))] rfl rfl (st_f (neg := sx) (n := nx) (d := dx) rfl (by kernel_rfl) (by kernel_rfl) (.tail _ (.head _)) (by omega) size27 (List.forall_mem_cons.2 ⟨.inr ⟨(.head _), (Ne.symm Fg2.1)⟩, (List.forall_mem_cons.2 ⟨.inl rfl, (List.forall_mem_nil _)⟩)⟩)) ?_
  refine wpL_s [(g2, .cells (frcC sx nx dx) 26 (0, 0)), (g1, .cells (frcC sx nx dx) 26 (0, 0))] rfl rfl (st_f (neg := sx) (n := nx) (d := dx) rfl (by kernel_rfl) (by kernel_rfl) (.head _) (by omega) size27 (List.forall_mem_cons.2 ⟨.inl rfl, (List.forall_mem_cons.2 ⟨.inr ⟨(.tail _ (.head _)), Fg2.1⟩, (List.forall_mem_nil _)⟩)⟩)) ?_
  refine wpL_done (fun W3 hW3 => ?_)
  clear hW2
  refine (show Code.wp _ _ _ _ _ from ?_)
  refine wp_seq ?_
  refine wp_region_L (W0 := w) [(g2, .cells (frcC sx nx dx) 26 (0, 0)), (g1, .cells (frcC sx nx dx) 26 (0, 0))] (hW3) ?_
  refine wpL_v (v := .agg (frcC sx nx dx)) rfl (by kernel_rfl) rfl (yb_load rfl (by kernel_rfl) (.tail _ (.head _)) Tryd.underlying26 rfl size27 (by simp) (frc_whole sx nx dx)) (by simp only [List.setIfInBounds_toArray, List.set_cons_succ, List.set_cons_zero] <;> rfl) ?_
  refine wpL_v (v := .tuple #[.string ⟨(lx).toArray⟩, .int .i64 0]) rfl (by kernel_rfl) rfl (yb_call (f := 20) (args := #[.agg (frcC sx nx dx)]) (fun _ => by kernel_rfl) fun W hW => HT1.out W hW.1) (by simp only [List.setIfInBounds_toArray, List.set_cons_succ, List.set_cons_zero] <;> rfl) ?_
  refine wpL_p (v := .tuple #[.string ⟨(lx).toArray⟩, .int .i64 0]) rfl (by kernel_rfl) rfl (fun _ => by kernel_rfl) (by simp only [List.setIfInBounds_toArray, List.set_cons_succ, List.set_cons_zero] <;> rfl) ?_
  refine wpL_p (v := .string ⟨(lx).toArray⟩) rfl (by kernel_rfl) rfl (fun _ => by kernel_rfl) (by simp only [List.setIfInBounds_toArray, List.set_cons_succ, List.set_cons_zero] <;> rfl) ?_
  refine wpL_p (v := .int .i64 0) rfl (by kernel_rfl) rfl (fun _ => by kernel_rfl) (by simp only [List.setIfInBounds_toArray, List.set_cons_succ, List.set_cons_zero] <;> rfl) ?_
  refine wpL_p (v := .string ⟨(lx).toArray⟩) rfl (by kernel_rfl) rfl (fun _ => by kernel_rfl) (by simp only [List.setIfInBounds_toArray, List.set_cons_succ, List.set_cons_zero] <;> rfl) ?_
  refine wpL_p (v := .int .i64 0) rfl (by kernel_rfl) rfl (fun _ => by kernel_rfl) (by simp only [List.setIfInBounds_toArray, List.set_cons_succ, List.set_cons_zero] <;> rfl) ?_
  refine wpL_done (fun W4 hW4 => ?_)
  clear hW3
  refine (show Code.wp _ _ _ _ _ from ?_)
  refine wp_seq ?_
  refine wp_region_L (W0 := w) [(g2, .cells (frcC sx nx dx) 26 (0, 0)), (g1, .cells (frcC sx nx dx) 26 (0, 0))] (hW4) ?_
  refine wpL_v (v := .agg (frcC sx nx dx)) rfl (by kernel_rfl) rfl (yb_load rfl (by kernel_rfl) (.head _) Tryd.underlying26 rfl size27 (by simp) (frc_whole sx nx dx)) (by simp only [List.setIfInBounds_toArray, List.set_cons_succ, List.set_cons_zero] <;> rfl) ?_
  refine wpL_v (v := .tuple #[.string ⟨(lx).toArray⟩, .int .i64 0]) rfl (by kernel_rfl) rfl (yb_call (f := 20) (args := #[.agg (frcC sx nx dx)]) (fun _ => by kernel_rfl) fun W hW => HT1.out W hW.1) (by simp only [List.setIfInBounds_toArray, List.set_cons_succ, List.set_cons_zero] <;> rfl) ?_
  refine wpL_p (v := .tuple #[.string ⟨(lx).toArray⟩, .int .i64 0]) rfl (by kernel_rfl) rfl (fun _ => by kernel_rfl) (by simp only [List.setIfInBounds_toArray, List.set_cons_succ, List.set_cons_zero] <;> rfl) ?_
  refine wpL_p (v := .string ⟨(lx).toArray⟩) rfl (by kernel_rfl) rfl (fun _ => by kernel_rfl) (by simp only [List.setIfInBounds_toArray, List.set_cons_succ, List.set_cons_zero] <;> rfl) ?_
  refine wpL_p (v := .int .i64 0) rfl (by kernel_rfl) rfl (fun _ => by kernel_rfl) (by simp only [List.setIfInBounds_toArray, List.set_cons_succ, List.set_cons_zero] <;> rfl) ?_
  refine wpL_p (v := .string ⟨(lx).toArray⟩) rfl (by kernel_rfl) rfl (fun _ => by kernel_rfl) (by simp only [List.setIfInBounds_toArray, List.set_cons_succ, List.set_cons_zero] <;> rfl) ?_
  refine wpL_p (v := .int .i64 0) rfl (by kernel_rfl) rfl (fun _ => by kernel_rfl) (by simp only [List.setIfInBounds_toArray, List.set_cons_succ, List.set_cons_zero] <;> rfl) ?_
  refine wpL_done (fun W5 hW5 => ?_)
  clear hW4
  refine (show Code.wp _ _ _ _ _ from ?_)
  refine wp_seq ?_
  refine wp_region_L (W0 := w) [(g2, .cells (frcC sx nx dx) 26 (0, 0)), (g1, .cells (frcC sx nx dx) 26 (0, 0))] (hW5) ?_
  refine wpL_p (v := .string ⟨(lx).toArray⟩) rfl (by kernel_rfl) rfl (fun _ => by kernel_rfl) (by simp only [List.setIfInBounds_toArray, List.set_cons_succ, List.set_cons_zero] <;> rfl) ?_
  refine wpL_v (v := .tuple #[.agg (frcC sx nx dx), .int .i64 0]) rfl (by kernel_rfl) rfl (yb_call (f := 21) (args := #[.string ⟨(lx).toArray⟩]) (fun _ => by kernel_rfl) fun W hW => HR1.out W hW.1) (by simp only [List.setIfInBounds_toArray, List.set_cons_succ, List.set_cons_zero] <;> rfl) ?_
  refine wpL_p (v := .tuple #[.agg (frcC sx nx dx), .int .i64 0]) rfl (by kernel_rfl) rfl (fun _ => by kernel_rfl) (by simp only [List.setIfInBounds_toArray, List.set_cons_succ, List.set_cons_zero] <;> rfl) ?_
  refine wpL_p (v := .agg (frcC sx nx dx)) rfl (by kernel_rfl) rfl (fun _ => by kernel_rfl) (by simp only [List.setIfInBounds_toArray, List.set_cons_succ, List.set_cons_zero] <;> rfl) ?_
  refine wpL_p (v := .int .i64 0) rfl (by kernel_rfl) rfl (fun _ => by kernel_rfl) (by simp only [List.setIfInBounds_toArray, List.set_cons_succ, List.set_cons_zero] <;> rfl) ?_
  refine wpL_new (fun g => .pointer (some ⟨g, 0, none⟩)) (obi := .cells (frcC false 0 0) 26 (0, 0)) rfl rfl (fun _ => by rw [frc_zero]; rfl) (fun _ => by simp only [List.setIfInBounds_toArray, List.set_cons_succ, List.set_cons_zero] <;> rfl) fun g3 Bg3 Fg3 => ?_
  try simp only [List.forall_mem_cons] at Fg3
  refine wpL_s [(g3, .cells (frcC sx nx dx) 26 (0, 0)), (g2, .cells (frcC sx nx dx) 26 (0, 0)), (g1, .cells (frcC sx nx dx) 26 (0, 0))] rfl rfl (st_f (neg := sx) (n := nx) (d := dx) rfl (by kernel_rfl) (by kernel_rfl) (.head _) (by omega) size27 (List.forall_mem_cons.2 ⟨.inl rfl, (List.forall_mem_cons.2 ⟨.inr ⟨(.tail _ (.head _)), Fg3.1⟩, (List.forall_mem_cons.2 ⟨.inr ⟨(.tail _ (.tail _ (.head _))), Fg3.2.1⟩, (List.forall_mem_nil _)⟩)⟩)⟩)) ?_
  refine wpL_p (v := .int .i64 0) rfl (by kernel_rfl) rfl (fun _ => by kernel_rfl) (by simp only [List.setIfInBounds_toArray, List.set_cons_succ, List.set_cons_zero] <;> rfl) ?_
  refine wpL_done (fun W6 hW6 => ?_)
  clear hW5
  refine (show Code.wp _ _ _ _ _ from ?_)
  refine wp_seq ?_
  refine wp_region_L (W0 := w) [(g3, .cells (frcC sx nx dx) 26 (0, 0)), (g2, .cells (frcC sx nx dx) 26 (0, 0)), (g1, .cells (frcC sx nx dx) 26 (0, 0))] (hW6) ?_
  refine wpL_p (v := .string ⟨(lx).toArray⟩) rfl (by kernel_rfl) rfl (fun _ => by kernel_rfl) (by simp only [List.setIfInBounds_toArray, List.set_cons_succ, List.set_cons_zero] <;> rfl) ?_
  refine wpL_p (v := .string ⟨(l1).toArray⟩) rfl (by kernel_rfl) rfl (run_bin rfl (vx := .string ⟨([48]).toArray⟩) (vy := .string ⟨(lx).toArray⟩) (by kernel_rfl) (by kernel_rfl) fun w => run_catS E1 (by simp; omega) w) (by simp only [List.setIfInBounds_toArray, List.set_cons_succ, List.set_cons_zero] <;> rfl) ?_
  refine wpL_v (v := .tuple #[.agg (frcC false 0 0), .int .i64 10]) rfl (by kernel_rfl) rfl (yb_call (f := 21) (args := #[.string ⟨(l1).toArray⟩]) (fun _ => by kernel_rfl) fun W hW => HR2.out W hW.1) (by simp only [List.setIfInBounds_toArray, List.set_cons_succ, List.set_cons_zero] <;> rfl) ?_
  refine wpL_p (v := .tuple #[.agg (frcC false 0 0), .int .i64 10]) rfl (by kernel_rfl) rfl (fun _ => by kernel_rfl) (by simp only [List.setIfInBounds_toArray, List.set_cons_succ, List.set_cons_zero] <;> rfl) ?_
  refine wpL_p (v := .agg (frcC false 0 0)) rfl (by kernel_rfl) rfl (fun _ => by kernel_rfl) (by simp only [List.setIfInBounds_toArray, List.set_cons_succ, List.set_cons_zero] <;> rfl) ?_
  refine wpL_p (v := .int .i64 10) rfl (by kernel_rfl) rfl (fun _ => by kernel_rfl) (by simp only [List.setIfInBounds_toArray, List.set_cons_succ, List.set_cons_zero] <;> rfl) ?_
  refine wpL_new (fun g => .pointer (some ⟨g, 0, none⟩)) (obi := .cells (frcC false 0 0) 26 (0, 0)) rfl rfl (fun _ => by rw [frc_zero]; rfl) (fun _ => by simp only [List.setIfInBounds_toArray, List.set_cons_succ, List.set_cons_zero] <;> rfl) fun g4 Bg4 Fg4 => ?_
  try simp only [List.forall_mem_cons] at Fg4
  refine wpL_s [(g4, .cells (frcC false 0 0) 26 (0, 0)), (g3, .cells (frcC sx nx dx) 26 (0, 0)), (g2, .cells (frcC sx nx dx) 26 (0, 0)), (g1, .cells (frcC sx nx dx) 26 (0, 0))] rfl rfl (st_f (neg := false) (n := 0) (d := 0) rfl (by kernel_rfl) (by kernel_rfl) (.head _) (by omega) size27 (List.forall_mem_cons.2 ⟨.inl rfl, (List.forall_mem_cons.2 ⟨.inr ⟨(.tail _ (.head _)), Fg4.1⟩, (List.forall_mem_cons.2 ⟨.inr ⟨(.tail _ (.tail _ (.head _))), Fg4.2.1⟩, (List.forall_mem_cons.2 ⟨.inr ⟨(.tail _ (.tail _ (.tail _ (.head _)))), Fg4.2.2.1⟩, (List.forall_mem_nil _)⟩)⟩)⟩)⟩)) ?_
  refine wpL_p (v := .int .i64 10) rfl (by kernel_rfl) rfl (fun _ => by kernel_rfl) (by simp only [List.setIfInBounds_toArray, List.set_cons_succ, List.set_cons_zero] <;> rfl) ?_
  refine wpL_done (fun W7 hW7 => ?_)
  clear hW6
  refine (show Code.wp _ _ _ _ _ from ?_)
  refine wp_seq ?_
  refine wp_region_L (W0 := w) [(g4, .cells (frcC false 0 0) 26 (0, 0)), (g3, .cells (frcC sx nx dx) 26 (0, 0)), (g2, .cells (frcC sx nx dx) 26 (0, 0)), (g1, .cells (frcC sx nx dx) 26 (0, 0))] (hW7) ?_
  refine wpL_p (v := .string ⟨(lx).toArray⟩) rfl (by kernel_rfl) rfl (fun _ => by kernel_rfl) (by simp only [List.setIfInBounds_toArray, List.set_cons_succ, List.set_cons_zero] <;> rfl) ?_
  refine wpL_p (v := .string ⟨(l2).toArray⟩) rfl (by kernel_rfl) rfl (run_bin rfl (vx := .string ⟨(lx).toArray⟩) (vy := .string ⟨([32]).toArray⟩) (by kernel_rfl) (by kernel_rfl) fun w => run_catS E2 (by simp; omega) w) (by simp only [List.setIfInBounds_toArray, List.set_cons_succ, List.set_cons_zero] <;> rfl) ?_
  refine wpL_v (v := .tuple #[.agg (frcC false 0 0), .int .i64 10]) rfl (by kernel_rfl) rfl (yb_call (f := 21) (args := #[.string ⟨(l2).toArray⟩]) (fun _ => by kernel_rfl) fun W hW => HR3.out W hW.1) (by simp only [List.setIfInBounds_toArray, List.set_cons_succ, List.set_cons_zero] <;> rfl) ?_
  refine wpL_p (v := .tuple #[.agg (frcC false 0 0), .int .i64 10]) rfl (by kernel_rfl) rfl (fun _ => by kernel_rfl) (by simp only [List.setIfInBounds_toArray, List.set_cons_succ, List.set_cons_zero] <;> rfl) ?_
  refine wpL_p (v := .agg (frcC false 0 0)) rfl (by kernel_rfl) rfl (fun _ => by kernel_rfl) (by simp only [List.setIfInBounds_toArray, List.set_cons_succ, List.set_cons_zero] <;> rfl) ?_
  refine wpL_p (v := .int .i64 10) rfl (by kernel_rfl) rfl (fun _ => by kernel_rfl) (by simp only [List.setIfInBounds_toArray, List.set_cons_succ, List.set_cons_zero] <;> rfl) ?_
  refine wpL_new (fun g => .pointer (some ⟨g, 0, none⟩)) (obi := .cells (frcC false 0 0) 26 (0, 0)) rfl rfl (fun _ => by rw [frc_zero]; rfl) (fun _ => by simp only [List.setIfInBounds_toArray, List.set_cons_succ, List.set_cons_zero] <;> rfl) fun g5 Bg5 Fg5 => ?_
  try simp only [List.forall_mem_cons] at Fg5
  refine wpL_s [(g5, .cells (frcC false 0 0) 26 (0, 0)), (g4, .cells (frcC false 0 0) 26 (0, 0)), (g3, .cells (frcC sx nx dx) 26 (0, 0)), (g2, .cells (frcC sx nx dx) 26 (0, 0)), (g1, .cells (frcC sx nx dx) 26 (0, 0))] rfl rfl (st_f (neg := false) (n := 0) (d := 0) rfl (by kernel_rfl) (by kernel_rfl) (.head _) (by omega) size27 (List.forall_mem_cons.2 ⟨.inl rfl, (List.forall_mem_cons.2 ⟨.inr ⟨(.tail _ (.head _)), Fg5.1⟩, (List.forall_mem_cons.2 ⟨.inr ⟨(.tail _ (.tail _ (.head _))), Fg5.2.1⟩, (List.forall_mem_cons.2 ⟨.inr ⟨(.tail _ (.tail _ (.tail _ (.head _)))), Fg5.2.2.1⟩, (List.forall_mem_cons.2 ⟨.inr ⟨(.tail _ (.tail _ (.tail _ (.tail _ (.head _))))), Fg5.2.2.2.1⟩, (List.forall_mem_nil _)⟩)⟩)⟩)⟩)⟩)) ?_
  refine wpL_p (v := .int .i64 10) rfl (by kernel_rfl) rfl (fun _ => by kernel_rfl) (by simp only [List.setIfInBounds_toArray, List.set_cons_succ, List.set_cons_zero] <;> rfl) ?_
  refine wpL_done (fun W8 hW8 => ?_)
  clear hW7
  refine (show Code.wp _ _ _ _ _ from ?_)
  refine wp_seq ?_
  refine wp_region_L (W0 := w) [(g5, .cells (frcC false 0 0) 26 (0, 0)), (g4, .cells (frcC false 0 0) 26 (0, 0)), (g3, .cells (frcC sx nx dx) 26 (0, 0)), (g2, .cells (frcC sx nx dx) 26 (0, 0)), (g1, .cells (frcC sx nx dx) 26 (0, 0))] (hW8) ?_
  refine wpL_p (v := .string ⟨(lx).toArray⟩) rfl (by kernel_rfl) rfl (fun _ => by kernel_rfl) (by simp only [List.setIfInBounds_toArray, List.set_cons_succ, List.set_cons_zero] <;> rfl) ?_
  refine wpL_p (v := .string ⟨(l3).toArray⟩) rfl (by kernel_rfl) rfl (run_bin rfl (vx := .string ⟨(lx).toArray⟩) (vy := .string ⟨([47, 49]).toArray⟩) (by kernel_rfl) (by kernel_rfl) fun w => run_catS E3 (by simp; omega) w) (by simp only [List.setIfInBounds_toArray, List.set_cons_succ, List.set_cons_zero] <;> rfl) ?_
  refine wpL_v (v := .tuple #[.agg (frcC false 0 0), .int .i64 10]) rfl (by kernel_rfl) rfl (yb_call (f := 21) (args := #[.string ⟨(l3).toArray⟩]) (fun _ => by kernel_rfl) fun W hW => HR4.out W hW.1) (by simp only [List.setIfInBounds_toArray, List.set_cons_succ, List.set_cons_zero] <;> rfl) ?_
  refine wpL_p (v := .tuple #[.agg (frcC false 0 0), .int .i64 10]) rfl (by kernel_rfl) rfl (fun _ => by kernel_rfl) (by simp only [List.setIfInBounds_toArray, List.set_cons_succ, List.set_cons_zero] <;> rfl) ?_
  refine wpL_p (v := .agg (frcC false 0 0)) rfl (by kernel_rfl) rfl (fun _ => by kernel_rfl) (by simp only [List.setIfInBounds_toArray, List.set_cons_succ, List.set_cons_zero] <;> rfl) ?_
  refine wpL_p (v := .int .i64 10) rfl (by kernel_rfl) rfl (fun _ => by kernel_rfl) (by simp only [List.setIfInBounds_toArray, List.set_cons_succ, List.set_cons_zero] <;> rfl) ?_
  refine wpL_new (fun g => .pointer (some ⟨g, 0, none⟩)) (obi := .cells (frcC false 0 0) 26 (0, 0)) rfl rfl (fun _ => by rw [frc_zero]; rfl) (fun _ => by simp only [List.setIfInBounds_toArray, List.set_cons_succ, List.set_cons_zero] <;> rfl) fun g6 Bg6 Fg6 => ?_
  try simp only [List.forall_mem_cons] at Fg6
  refine wpL_s [(g6, .cells (frcC false 0 0) 26 (0, 0)), (g5, .cells (frcC false 0 0) 26 (0, 0)), (g4, .cells (frcC false 0 0) 26 (0, 0)), (g3, .cells (frcC sx nx dx) 26 (0, 0)), (g2, .cells (frcC sx nx dx) 26 (0, 0)), (g1, .cells (frcC sx nx dx) 26 (0, 0))] rfl rfl (st_f (neg := false) (n := 0) (d := 0) rfl (by kernel_rfl) (by kernel_rfl) (.head _) (by omega) size27 (List.forall_mem_cons.2 ⟨.inl rfl, (List.forall_mem_cons.2 ⟨.inr ⟨(.tail _ (.head _)), Fg6.1⟩, (List.forall_mem_cons.2 ⟨.inr ⟨(.tail _ (.tail _ (.head _))), Fg6.2.1⟩, (List.forall_mem_cons.2 ⟨.inr ⟨(.tail _ (.tail _ (.tail _ (.head _)))), Fg6.2.2.1⟩, (List.forall_mem_cons.2 ⟨.inr ⟨(.tail _ (.tail _ (.tail _ (.tail _ (.head _))))), Fg6.2.2.2.1⟩, (List.forall_mem_cons.2 ⟨.inr ⟨(.tail _ (.tail _ (.tail _ (.tail _ (.tail _ (.head _)))))), Fg6.2.2.2.2.1⟩, (List.forall_mem_nil _)⟩)⟩)⟩)⟩)⟩)⟩)) ?_
  refine wpL_p (v := .int .i64 10) rfl (by kernel_rfl) rfl (fun _ => by kernel_rfl) (by simp only [List.setIfInBounds_toArray, List.set_cons_succ, List.set_cons_zero] <;> rfl) ?_
  refine wpL_done (fun W9 hW9 => ?_)
  clear hW8
  refine (show Code.wp _ _ _ _ _ from ?_)
  refine wp_seq ?_
  refine wp_region_L (W0 := w) [(g6, .cells (frcC false 0 0) 26 (0, 0)), (g5, .cells (frcC false 0 0) 26 (0, 0)), (g4, .cells (frcC false 0 0) 26 (0, 0)), (g3, .cells (frcC sx nx dx) 26 (0, 0)), (g2, .cells (frcC sx nx dx) 26 (0, 0)), (g1, .cells (frcC sx nx dx) 26 (0, 0))] (hW9) ?_
  refine wpL_p (v := .int .i64 11) rfl (by kernel_rfl) rfl (fun _ => by kernel_rfl) (by simp only [List.setIfInBounds_toArray, List.set_cons_succ, List.set_cons_zero] <;> rfl) ?_
  refine wpL_done (fun W10 hW10 => ?_)
  clear hW9
  refine (show Code.wp _ _ _ _ _ from ?_)
  refine wp_seq ?_
  refine wp_seq ?_
  refine wp_region_L (W0 := w) [(g6, .cells (frcC false 0 0) 26 (0, 0)), (g5, .cells (frcC false 0 0) 26 (0, 0)), (g4, .cells (frcC false 0 0) 26 (0, 0)), (g3, .cells (frcC sx nx dx) 26 (0, 0)), (g2, .cells (frcC sx nx dx) 26 (0, 0)), (g1, .cells (frcC sx nx dx) 26 (0, 0))] (hW10) ?_
  refine wpL_p (v := .string ⟨(lx).toArray⟩) rfl (by kernel_rfl) rfl (fun _ => by kernel_rfl) (by simp only [List.setIfInBounds_toArray, List.set_cons_succ, List.set_cons_zero] <;> rfl) ?_
  refine wpL_v (v := .bool true) rfl (by kernel_rfl) rfl (yb_call (f := 22) (args := #[.string ⟨(lx).toArray⟩, .string ⟨#[47]⟩]) (fun _ => by kernel_rfl) fun W hW => HC.out W) (by simp only [List.setIfInBounds_toArray, List.set_cons_succ, List.set_cons_zero] <;> rfl) ?_
  refine wpL_done (fun W11 hW11 => ?_)
  clear hW10
  refine (show Code.wp _ _ _ _ _ from ?_)
  refine wp_cond_true rfl ?_
  refine wp_region_L (W0 := w) [(g6, .cells (frcC false 0 0) 26 (0, 0)), (g5, .cells (frcC false 0 0) 26 (0, 0)), (g4, .cells (frcC false 0 0) 26 (0, 0)), (g3, .cells (frcC sx nx dx) 26 (0, 0)), (g2, .cells (frcC sx nx dx) 26 (0, 0)), (g1, .cells (frcC sx nx dx) 26 (0, 0))] (hW11) ?_
  refine wpL_p (v := .int .i64 10) rfl (by kernel_rfl) rfl (fun _ => by kernel_rfl) (by simp only [List.setIfInBounds_toArray, List.set_cons_succ, List.set_cons_zero] <;> rfl) ?_
  refine wpL_done (fun W12 hW12 => ?_)
  clear hW11
  refine (show Code.wp _ _ _ _ _ from ?_)
  refine wp_seq ?_
  refine wp_region_L (W0 := w) [(g6, .cells (frcC false 0 0) 26 (0, 0)), (g5, .cells (frcC false 0 0) 26 (0, 0)), (g4, .cells (frcC false 0 0) 26 (0, 0)), (g3, .cells (frcC sx nx dx) 26 (0, 0)), (g2, .cells (frcC sx nx dx) 26 (0, 0)), (g1, .cells (frcC sx nx dx) 26 (0, 0))] (hW12) ?_
  refine wpL_p (v := .int .i64 0) rfl (by kernel_rfl) rfl (fun _ => by kernel_rfl) (by simp only [List.setIfInBounds_toArray, List.set_cons_succ, List.set_cons_zero] <;> rfl) ?_
  refine wpL_p (v := .int .i64 0) rfl (by kernel_rfl) rfl (fun _ => by kernel_rfl) (by simp only [List.setIfInBounds_toArray, List.set_cons_succ, List.set_cons_zero] <;> rfl) ?_
  refine wpL_p (v := .int .i64 0) rfl (by kernel_rfl) rfl (fun _ => by kernel_rfl) (by simp only [List.setIfInBounds_toArray, List.set_cons_succ, List.set_cons_zero] <;> rfl) ?_
  refine wpL_new (fun g => .slice (some ⟨g, 0, none⟩) 3 3) (obi := .cells #[.int .i64 0, .int .i64 0, .int .i64 0] 29 (0, 0)) rfl rfl (fun _ => by kernel_rfl) (fun _ => by simp only [List.setIfInBounds_toArray, List.set_cons_succ, List.set_cons_zero] <;> rfl) fun g7 Bg7 Fg7 => ?_
  try simp only [List.forall_mem_cons] at Fg7
  refine wpL_v (v := .bool true) rfl (by kernel_rfl) rfl (yb_call (f := 14) (args := #[.slice (some ⟨g7, 0, none⟩) 3 3]) (fun _ => by kernel_rfl) fun W hW => all_W 3 (by omega) rfl (hW.2 _ (.head _))) (by simp only [List.setIfInBounds_toArray, List.set_cons_succ, List.set_cons_zero] <;> rfl) ?_
  refine wpL_p (v := .bool true) rfl (by kernel_rfl) rfl (fun _ => by kernel_rfl) (by simp only [List.setIfInBounds_toArray, List.set_cons_succ, List.set_cons_zero] <;> rfl) ?_
  refine wpL_v (v := .agg (frcC sx nx dx)) rfl (by kernel_rfl) rfl (yb_load rfl (by kernel_rfl) (.tail _ (.tail _ (.tail _ (.tail _ (.head _))))) Tryd.underlying26 rfl size27 (by simp) (frc_whole sx nx dx)) (by simp only [List.setIfInBounds_toArray, List.set_cons_succ, List.set_cons_zero] <;> rfl) ?_
  refine wpL_v (v := .agg (frcC sx nx dx)) rfl (by kernel_rfl) rfl (yb_load rfl (by kernel_rfl) (.tail _ (.tail _ (.tail _ (.tail _ (.tail _ (.tail _ (.head _))))))) Tryd.underlying26 rfl size27 (by simp) (frc_whole sx nx dx)) (by simp only [List.setIfInBounds_toArray, List.set_cons_succ, List.set_cons_zero] <;> rfl) ?_
  refine wpL_p (v := .bool true) rfl (by kernel_rfl) rfl (run_bin rfl (vx := .agg (frcC sx nx dx)) (vy := .agg (frcC sx nx dx)) (by kernel_rfl) (by kernel_rfl) fun w => run_eql27s Hnx Hdx w) (by simp only [List.setIfInBounds_toArray, List.set_cons_succ, List.set_cons_zero] <;> rfl) ?_
  refine wpL_p (v := .bool true) rfl (by kernel_rfl) rfl (fun _ => by kernel_rfl) (by simp only [List.setIfInBounds_toArray, List.set_cons_succ, List.set_cons_zero] <;> rfl) ?_
  refine wpL_p (v := .bool true) rfl (by kernel_rfl) rfl (fun _ => by kernel_rfl) (by simp only [List.setIfInBounds_toArray, List.set_cons_succ, List.set_cons_zero] <;> rfl) ?_
  refine wpL_p (v := .string ⟨(lx).toArray⟩) rfl (by kernel_rfl) rfl (fun _ => by kernel_rfl) (by simp only [List.setIfInBounds_toArray, List.set_cons_succ, List.set_cons_zero] <;> rfl) ?_
  refine wpL_p (v := .string ⟨(lx).toArray⟩) rfl (by kernel_rfl) rfl (fun _ => by kernel_rfl) (by simp only [List.setIfInBounds_toArray, List.set_cons_succ, List.set_cons_zero] <;> rfl) ?_
  refine wpL_p (v := .bool true) rfl (by kernel_rfl) rfl (run_bin rfl (vx := .string ⟨(lx).toArray⟩) (vy := .string ⟨(lx).toArray⟩) (by kernel_rfl) (by kernel_rfl) fun w => run_eqs (beq_self_eq_true _) w) (by simp only [List.setIfInBounds_toArray, List.set_cons_succ, List.set_cons_zero] <;> rfl) ?_
  refine wpL_v (v := .agg (frcC sx nx dx)) rfl (by kernel_rfl) rfl (yb_load rfl (by kernel_rfl) (.tail _ (.tail _ (.tail _ (.tail _ (.tail _ (.tail _ (.head _))))))) Tryd.underlying26 rfl size27 (by simp) (frc_whole sx nx dx)) (by simp only [List.setIfInBounds_toArray, List.set_cons_succ, List.set_cons_zero] <;> rfl) ?_
  refine wpL_v (v := .agg (frcC sx nx dx)) rfl (by kernel_rfl) rfl (yb_load rfl (by kernel_rfl) (.tail _ (.tail _ (.tail _ (.tail _ (.tail _ (.head _)))))) Tryd.underlying26 rfl size27 (by simp) (frc_whole sx nx dx)) (by simp only [List.setIfInBounds_toArray, List.set_cons_succ, List.set_cons_zero] <;> rfl) ?_
  refine wpL_p (v := .bool true) rfl (by kernel_rfl) rfl (run_bin rfl (vx := .agg (frcC sx nx dx)) (vy := .agg (frcC sx nx dx)) (by kernel_rfl) (by kernel_rfl) fun w => run_eql27s Hnx Hdx w) (by simp only [List.setIfInBounds_toArray, List.set_cons_succ, List.set_cons_zero] <;> rfl) ?_
  refine wpL_p (v := .bool true) rfl (by kernel_rfl) rfl (fun _ => by kernel_rfl) (by simp only [List.setIfInBounds_toArray, List.set_cons_succ, List.set_cons_zero] <;> rfl) ?_
  refine wpL_p (v := .bool true) rfl (by kernel_rfl) rfl (fun _ => by kernel_rfl) (by simp only [List.setIfInBounds_toArray, List.set_cons_succ, List.set_cons_zero] <;> rfl) ?_
  refine wpL_p (v := .bool true) rfl (by kernel_rfl) rfl (fun _ => by kernel_rfl) (by simp only [List.setIfInBounds_toArray, List.set_cons_succ, List.set_cons_zero] <;> rfl) ?_
  refine wpL_p (v := .int .i64 10) rfl (by kernel_rfl) rfl (fun _ => by kernel_rfl) (by simp only [List.setIfInBounds_toArray, List.set_cons_succ, List.set_cons_zero] <;> rfl) ?_
  refine wpL_p (v := .bool true) rfl (by kernel_rfl) rfl (fun _ => by kernel_rfl) (by simp only [List.setIfInBounds_toArray, List.set_cons_succ, List.set_cons_zero] <;> rfl) ?_
  refine wpL_p (v := .bool true) rfl (by kernel_rfl) rfl (fun _ => by kernel_rfl) (by simp only [List.setIfInBounds_toArray, List.set_cons_succ, List.set_cons_zero] <;> rfl) ?_
  refine wpL_p (v := .bool true) rfl (by kernel_rfl) rfl (fun _ => by kernel_rfl) (by simp only [List.setIfInBounds_toArray, List.set_cons_succ, List.set_cons_zero] <;> rfl) ?_
  refine wpL_p (v := .int .i64 10) rfl (by kernel_rfl) rfl (fun _ => by kernel_rfl) (by simp only [List.setIfInBounds_toArray, List.set_cons_succ, List.set_cons_zero] <;> rfl) ?_
  refine wpL_p (v := .bool true) rfl (by kernel_rfl) rfl (fun _ => by kernel_rfl) (by simp only [List.setIfInBounds_toArray, List.set_cons_succ, List.set_cons_zero] <;> rfl) ?_
  refine wpL_p (v := .bool true) rfl (by kernel_rfl) rfl (fun _ => by kernel_rfl) (by simp only [List.setIfInBounds_toArray, List.set_cons_succ, List.set_cons_zero] <;> rfl) ?_
  refine wpL_p (v := .bool true) rfl (by kernel_rfl) rfl (fun _ => by kernel_rfl) (by simp only [List.setIfInBounds_toArray, List.set_cons_succ, List.set_cons_zero] <;> rfl) ?_
  refine wpL_p (v := .int .i64 10) rfl (by kernel_rfl) rfl (fun _ => by kernel_rfl) (by simp only [List.setIfInBounds_toArray, List.set_cons_succ, List.set_cons_zero] <;> rfl) ?_
  refine wpL_p (v := .int .i64 10) rfl (by kernel_rfl) rfl (fun _ => by kernel_rfl) (by simp only [List.setIfInBounds_toArray, List.set_cons_succ, List.set_cons_zero] <;> rfl) ?_
  refine wpL_p (v := .bool true) rfl (by kernel_rfl) rfl (fun _ => by kernel_rfl) (by simp only [List.setIfInBounds_toArray, List.set_cons_succ, List.set_cons_zero] <;> rfl) ?_
  refine wpL_p (v := .bool true) rfl (by kernel_rfl) rfl (fun _ => by kernel_rfl) (by simp only [List.setIfInBounds_toArray, List.set_cons_succ, List.set_cons_zero] <;> rfl) ?_
  refine wpL_p (v := .bool true) rfl (by kernel_rfl) rfl (fun _ => by kernel_rfl) (by simp only [List.setIfInBounds_toArray, List.set_cons_succ, List.set_cons_zero] <;> rfl) ?_
  refine wpL_done (fun W13 hW13 => ?_)
  clear hW12
  refine (show Code.wp _ _ _ _ _ from ?_)
  refine wp_ret ?_
  go_ret
  exact ⟨rfl, hW13.1⟩
set_option maxRecDepth 100000 in
set_option maxHeartbeats 4000000 in
theorem FracTexts_w10 (w : World) (a b d e : Int) (sx : Bool) (nx dx : Nat) (Hnx : nx < R 8) (Hdx : dx < R 8) (lx : List UInt8) (hlx : lx.length ≤ 158) (l1 l2 l3 : List UInt8) (E1 : [48] ++ lx = l1) (E2 : lx ++ [32] = l2) (E3 : lx ++ [47, 49] = l3) 
    (HAw : Hid (∀ W, Below w.heap.size w W → Calls Tryd.prog 10 #[] W fun e w' => e = .returned (.bool true) ∧ Below W.heap.size W w'))
    (HM1 : Hid (∀ W, Calls Tryd.prog 11 #[.int .i64 a, .int .u32 d] W fun e w' => e = .returned (.agg (frcC sx nx dx)) ∧ Below W.heap.size W w'))
    (HM2 : Hid (∀ W, Calls Tryd.prog 11 #[.int .i64 b, .int .u32 e] W fun e w' => e = .returned (.agg (frcC sx nx dx)) ∧ Below W.heap.size W w'))
    (HT1 : Hid (∀ W, Below w.heap.size w W → Calls Tryd.prog 20 #[.agg (frcC sx nx dx)] W fun e w' => e = .returned (.tuple #[.string ⟨(lx).toArray⟩, .int .i64 0]) ∧ Below W.heap.size W w'))
    (HR1 : Hid (∀ W, Below w.heap.size w W → Calls Tryd.prog 21 #[.string ⟨(lx).toArray⟩] W fun e w' => e = .returned (.tuple #[.agg (frcC sx nx dx), .int .i64 0]) ∧ Below W.heap.size W w'))
    (HR2 : Hid (∀ W, Below w.heap.size w W → Calls Tryd.prog 21 #[.string ⟨(l1).toArray⟩] W fun e w' => e = .returned (.tuple #[.agg (frcC false 0 0), .int .i64 10]) ∧ Below W.heap.size W w'))
    (HR3 : Hid (∀ W, Below w.heap.size w W → Calls Tryd.prog 21 #[.string ⟨(l2).toArray⟩] W fun e w' => e = .returned (.tuple #[.agg (frcC false 0 0), .int .i64 10]) ∧ Below W.heap.size W w'))
    (HR4 : Hid (∀ W, Below w.heap.size w W → Calls Tryd.prog 21 #[.string ⟨(l3).toArray⟩] W fun e w' => e = .returned (.tuple #[.agg (frcC false 0 0), .int .i64 11]) ∧ Below W.heap.size W w'))
    (HC : Hid (∀ W, Calls Tryd.prog 22 #[.string ⟨(lx).toArray⟩, .string ⟨#[47]⟩] W fun e w' => e = .returned (.bool false) ∧ Below W.heap.size W w')) :
    Calls Tryd.prog 6 #[.int .i64 a, .int .i64 b, .int .u32 d, .int .u32 e] w fun e w' => e = .returned (.bool true) ∧ Below w.heap.size w w' := by
  go_enter Tryd.func6, Tryd.ntmps6
  refine wp_seq ?_
  refine wp_region_L (W0 := w) [] (KS.start w) ?_
  refine wpL_p (v := .bool false) rfl (by kernel_rfl) rfl (fun _ => by kernel_rfl) (by simp only [List.setIfInBounds_toArray, List.set_cons_succ, List.set_cons_zero] <;> rfl) ?_
  refine wpL_done (fun W1 hW1 => ?_)
  refine (show Code.wp _ _ _ _ _ from ?_)
  refine wp_seq ?_
  refine wp_seq ?_
  refine wp_region_L (W0 := w) [] (hW1) ?_
  refine wpL_v (v := .bool true) rfl (by kernel_rfl) rfl (yb_call (f := 10) (args := #[]) (fun _ => by kernel_rfl) fun W hW => HAw.out W hW.1) (by simp only [List.setIfInBounds_toArray, List.set_cons_succ, List.set_cons_zero] <;> rfl) ?_
  refine wpL_p (v := .bool false) rfl (by kernel_rfl) rfl (fun _ => by kernel_rfl) (by simp only [List.setIfInBounds_toArray, List.set_cons_succ, List.set_cons_zero] <;> rfl) ?_
  refine wpL_done (fun W2 hW2 => ?_)
  clear hW1
  refine (show Code.wp _ _ _ _ _ from ?_)
  refine wp_cond_false rfl ?_
  refine wp_skip ?_
  refine (show Code.wp _ _ _ _ _ from ?_)
  refine wp_seq ?_
  refine wp_region_L (W0 := w) [] (hW2) ?_
  refine wpL_p (v := .int .i64 a) rfl (by kernel_rfl) rfl (fun _ => by kernel_rfl) (by simp only [List.setIfInBounds_toArray, List.set_cons_succ, List.set_cons_zero] <;> rfl) ?_
  refine wpL_p (v := .int .u32 d) rfl (by kernel_rfl) rfl (fun _ => by kernel_rfl) (by simp only [List.setIfInBounds_toArray, List.set_cons_succ, List.set_cons_zero] <;> rfl) ?_
  refine wpL_v (v := .agg (frcC sx nx dx)) rfl (by kernel_rfl) rfl (yb_call (f := 11) (args := #[.int .i64 a, .int .u32 d]) (fun _ => by kernel_rfl) fun W hW => HM1.out W) (by simp only [List.setIfInBounds_toArray, List.set_cons_succ, List.set_cons_zero] <;> rfl) ?_
  refine wpL_p (v := .int .i64 b) rfl (by kernel_rfl) rfl (fun _ => by kernel_rfl) (by simp only [List.setIfInBounds_toArray, List.set_cons_succ, List.set_cons_zero] <;> rfl) ?_
  refine wpL_p (v := .int .u32 e) rfl (by kernel_rfl) rfl (fun _ => by kernel_rfl) (by simp only [List.setIfInBounds_toArray, List.set_cons_succ, List.set_cons_zero] <;> rfl) ?_
  refine wpL_v (v := .agg (frcC sx nx dx)) rfl (by kernel_rfl) rfl (yb_call (f := 11) (args := #[.int .i64 b, .int .u32 e]) (fun _ => by kernel_rfl) fun W hW => HM2.out W) (by simp only [List.setIfInBounds_toArray, List.set_cons_succ, List.set_cons_zero] <;> rfl) ?_
  refine wpL_new (fun g => .pointer (some ⟨g, 0, none⟩)) (obi := .cells (frcC false 0 0) 26 (0, 0)) rfl rfl (fun _ => by rw [frc_zero]; rfl) (fun _ => by simp only [List.setIfInBounds_toArray, List.set_cons_succ, List.set_cons_zero] <;> rfl) fun g1 Bg1 Fg1 => ?_
  try simp only [List.forall_mem_cons] at Fg1
  refine wpL_new (fun g => .pointer (some ⟨g, 0, none⟩)) (obi := .cells (frcC false 0 0) 26 (0, 0)) rfl rfl (fun _ => by rw [frc_zero]; rfl) (fun _ => by simp only [List.setIfInBounds_toArray, List.set_cons_succ, List.set_cons_zero] <;> rfl) fun g2 Bg2 Fg2 => ?_
  try simp only [List.forall_mem_cons] at Fg2
  refine wpL_s [(g2, .cells (frcC false 0 0) 26 (0, 0)), (g1, .cells (frcC sx nx dx) 26 (0, 0))] rfl rfl (st_f (neg := sx) (n := nx) (d := dx) rfl (by kernel_rfl) (by kernel_rfl) (.tail _ (.head _)) (by omega) size27 (List.forall_mem_cons.2 ⟨.inr ⟨(.head _), (Ne.symm Fg2.1)⟩, (List.forall_mem_cons.2 ⟨.inl rfl, (List.forall_mem_nil _)⟩)⟩)) ?_
  refine wpL_s [(g2, .cells (frcC sx nx dx) 26 (0, 0)), (g1, .cells (frcC sx nx dx) 26 (0, 0))] rfl rfl (st_f (neg := sx) (n := nx) (d := dx) rfl (by kernel_rfl) (by kernel_rfl) (.head _) (by omega) size27 (List.forall_mem_cons.2 ⟨.inl rfl, (List.forall_mem_cons.2 ⟨.inr ⟨(.tail _ (.head _)), Fg2.1⟩, (List.forall_mem_nil _)⟩)⟩)) ?_
  refine wpL_done (fun W3 hW3 => ?_)
  clear hW2
  refine (show Code.wp _ _ _ _ _ from ?_)
  refine wp_seq ?_
  refine wp_region_L (W0 := w) [(g2, .cells (frcC sx nx dx) 26 (0, 0)), (g1, .cells (frcC sx nx dx) 26 (0, 0))] (hW3) ?_
  refine wpL_v (v := .agg (frcC sx nx dx)) rfl (by kernel_rfl) rfl (yb_load rfl (by kernel_rfl) (.tail _ (.head _)) Tryd.underlying26 rfl size27 (by simp) (frc_whole sx nx dx)) (by simp only [List.setIfInBounds_toArray, List.set_cons_succ, List.set_cons_zero] <;> rfl) ?_
  refine wpL_v (v := .tuple #[.string ⟨(lx).toArray⟩, .int .i64 0]) rfl (by kernel_rfl) rfl (yb_call (f := 20) (args := #[.agg (frcC sx nx dx)]) (fun _ => by kernel_rfl) fun W hW => HT1.out W hW.1) (by simp only [List.setIfInBounds_toArray, List.set_cons_succ, List.set_cons_zero] <;> rfl) ?_
  refine wpL_p (v := .tuple #[.string ⟨(lx).toArray⟩, .int .i64 0]) rfl (by kernel_rfl) rfl (fun _ => by kernel_rfl) (by simp only [List.setIfInBounds_toArray, List.set_cons_succ, List.set_cons_zero] <;> rfl) ?_
  refine wpL_p (v := .string ⟨(lx).toArray⟩) rfl (by kernel_rfl) rfl (fun _ => by kernel_rfl) (by simp only [List.setIfInBounds_toArray, List.set_cons_succ, List.set_cons_zero] <;> rfl) ?_
  refine wpL_p (v := .int .i64 0) rfl (by kernel_rfl) rfl (fun _ => by kernel_rfl) (by simp only [List.setIfInBounds_toArray, List.set_cons_succ, List.set_cons_zero] <;> rfl) ?_
  refine wpL_p (v := .string ⟨(lx).toArray⟩) rfl (by kernel_rfl) rfl (fun _ => by kernel_rfl) (by simp only [List.setIfInBounds_toArray, List.set_cons_succ, List.set_cons_zero] <;> rfl) ?_
  refine wpL_p (v := .int .i64 0) rfl (by kernel_rfl) rfl (fun _ => by kernel_rfl) (by simp only [List.setIfInBounds_toArray, List.set_cons_succ, List.set_cons_zero] <;> rfl) ?_
  refine wpL_done (fun W4 hW4 => ?_)
  clear hW3
  refine (show Code.wp _ _ _ _ _ from ?_)
  refine wp_seq ?_
  refine wp_region_L (W0 := w) [(g2, .cells (frcC sx nx dx) 26 (0, 0)), (g1, .cells (frcC sx nx dx) 26 (0, 0))] (hW4) ?_
  refine wpL_v (v := .agg (frcC sx nx dx)) rfl (by kernel_rfl) rfl (yb_load rfl (by kernel_rfl) (.head _) Tryd.underlying26 rfl size27 (by simp) (frc_whole sx nx dx)) (by simp only [List.setIfInBounds_toArray, List.set_cons_succ, List.set_cons_zero] <;> rfl) ?_
  refine wpL_v (v := .tuple #[.string ⟨(lx).toArray⟩, .int .i64 0]) rfl (by kernel_rfl) rfl (yb_call (f := 20) (args := #[.agg (frcC sx nx dx)]) (fun _ => by kernel_rfl) fun W hW => HT1.out W hW.1) (by simp only [List.setIfInBounds_toArray, List.set_cons_succ, List.set_cons_zero] <;> rfl) ?_
  refine wpL_p (v := .tuple #[.string ⟨(lx).toArray⟩, .int .i64 0]) rfl (by kernel_rfl) rfl (fun _ => by kernel_rfl) (by simp only [List.setIfInBounds_toArray, List.set_cons_succ, List.set_cons_zero] <;> rfl) ?_
  refine wpL_p (v := .string ⟨(lx).toArray⟩) rfl (by kernel_rfl) rfl (fun _ => by kernel_rfl) (by simp only [List.setIfInBounds_toArray, List.set_cons_succ, List.set_cons_zero] <;> rfl) ?_
  refine wpL_p (v := .int .i64 0) rfl (by kernel_rfl) rfl (fun _ => by kernel_rfl) (by simp only [List.setIfInBounds_toArray, List.set_cons_succ, List.set_cons_zero] <;> rfl) ?_
  refine wpL_p (v := .string ⟨(lx).toArray⟩) rfl (by kernel_rfl) rfl (fun _ => by kernel_rfl) (by simp only [List.setIfInBounds_toArray, List.set_cons_succ, List.set_cons_zero] <;> rfl) ?_
  refine wpL_p (v := .int .i64 0) rfl (by kernel_rfl) rfl (fun _ => by kernel_rfl) (by simp only [List.setIfInBounds_toArray, List.set_cons_succ, List.set_cons_zero] <;> rfl) ?_
  refine wpL_done (fun W5 hW5 => ?_)
  clear hW4
  refine (show Code.wp _ _ _ _ _ from ?_)
  refine wp_seq ?_
  refine wp_region_L (W0 := w) [(g2, .cells (frcC sx nx dx) 26 (0, 0)), (g1, .cells (frcC sx nx dx) 26 (0, 0))] (hW5) ?_
  refine wpL_p (v := .string ⟨(lx).toArray⟩) rfl (by kernel_rfl) rfl (fun _ => by kernel_rfl) (by simp only [List.setIfInBounds_toArray, List.set_cons_succ, List.set_cons_zero] <;> rfl) ?_
  refine wpL_v (v := .tuple #[.agg (frcC sx nx dx), .int .i64 0]) rfl (by kernel_rfl) rfl (yb_call (f := 21) (args := #[.string ⟨(lx).toArray⟩]) (fun _ => by kernel_rfl) fun W hW => HR1.out W hW.1) (by simp only [List.setIfInBounds_toArray, List.set_cons_succ, List.set_cons_zero] <;> rfl) ?_
  refine wpL_p (v := .tuple #[.agg (frcC sx nx dx), .int .i64 0]) rfl (by kernel_rfl) rfl (fun _ => by kernel_rfl) (by simp only [List.setIfInBounds_toArray, List.set_cons_succ, List.set_cons_zero] <;> rfl) ?_
  refine wpL_p (v := .agg (frcC sx nx dx)) rfl (by kernel_rfl) rfl (fun _ => by kernel_rfl) (by simp only [List.setIfInBounds_toArray, List.set_cons_succ, List.set_cons_zero] <;> rfl) ?_
  refine wpL_p (v := .int .i64 0) rfl (by kernel_rfl) rfl (fun _ => by kernel_rfl) (by simp only [List.setIfInBounds_toArray, List.set_cons_succ, List.set_cons_zero] <;> rfl) ?_
  refine wpL_new (fun g => .pointer (some ⟨g, 0, none⟩)) (obi := .cells (frcC false 0 0) 26 (0, 0)) rfl rfl (fun _ => by rw [frc_zero]; rfl) (fun _ => by simp only [List.setIfInBounds_toArray, List.set_cons_succ, List.set_cons_zero] <;> rfl) fun g3 Bg3 Fg3 => ?_
  try simp only [List.forall_mem_cons] at Fg3
  refine wpL_s [(g3, .cells (frcC sx nx dx) 26 (0, 0)), (g2, .cells (frcC sx nx dx) 26 (0, 0)), (g1, .cells (frcC sx nx dx) 26 (0, 0))] rfl rfl (st_f (neg := sx) (n := nx) (d := dx) rfl (by kernel_rfl) (by kernel_rfl) (.head _) (by omega) size27 (List.forall_mem_cons.2 ⟨.inl rfl, (List.forall_mem_cons.2 ⟨.inr ⟨(.tail _ (.head _)), Fg3.1⟩, (List.forall_mem_cons.2 ⟨.inr ⟨(.tail _ (.tail _ (.head _))), Fg3.2.1⟩, (List.forall_mem_nil _)⟩)⟩)⟩)) ?_
  refine wpL_p (v := .int .i64 0) rfl (by kernel_rfl) rfl (fun _ => by kernel_rfl) (by simp only [List.setIfInBounds_toArray, List.set_cons_succ, List.set_cons_zero] <;> rfl) ?_
  refine wpL_done (fun W6 hW6 => ?_)
  clear hW5
  refine (show Code.wp _ _ _ _ _ from ?_)
  refine wp_seq ?_
  refine wp_region_L (W0 := w) [(g3, .cells (frcC sx nx dx) 26 (0, 0)), (g2, .cells (frcC sx nx dx) 26 (0, 0)), (g1, .cells (frcC sx nx dx) 26 (0, 0))] (hW6) ?_
  refine wpL_p (v := .string ⟨(lx).toArray⟩) rfl (by kernel_rfl) rfl (fun _ => by kernel_rfl) (by simp only [List.setIfInBounds_toArray, List.set_cons_succ, List.set_cons_zero] <;> rfl) ?_
  refine wpL_p (v := .string ⟨(l1).toArray⟩) rfl (by kernel_rfl) rfl (run_bin rfl (vx := .string ⟨([48]).toArray⟩) (vy := .string ⟨(lx).toArray⟩) (by kernel_rfl) (by kernel_rfl) fun w => run_catS E1 (by simp; omega) w) (by simp only [List.setIfInBounds_toArray, List.set_cons_succ, List.set_cons_zero] <;> rfl) ?_
  refine wpL_v (v := .tuple #[.agg (frcC false 0 0), .int .i64 10]) rfl (by kernel_rfl) rfl (yb_call (f := 21) (args := #[.string ⟨(l1).toArray⟩]) (fun _ => by kernel_rfl) fun W hW => HR2.out W hW.1) (by simp only [List.setIfInBounds_toArray, List.set_cons_succ, List.set_cons_zero] <;> rfl) ?_
  refine wpL_p (v := .tuple #[.agg (frcC false 0 0), .int .i64 10]) rfl (by kernel_rfl) rfl (fun _ => by kernel_rfl) (by simp only [List.setIfInBounds_toArray, List.set_cons_succ, List.set_cons_zero] <;> rfl) ?_
  refine wpL_p (v := .agg (frcC false 0 0)) rfl (by kernel_rfl) rfl (fun _ => by kernel_rfl) (by simp only [List.setIfInBounds_toArray, List.set_cons_succ, List.set_cons_zero] <;> rfl) ?_
  refine wpL_p (v := .int .i64 10) rfl (by kernel_rfl) rfl (fun _ => by kernel_rfl) (by simp only [List.setIfInBounds_toArray, List.set_cons_succ, List.set_cons_zero] <;> rfl) ?_
  refine wpL_new (fun g => .pointer (some ⟨g, 0, none⟩)) (obi := .cells (frcC false 0 0) 26 (0, 0)) rfl rfl (fun _ => by rw [frc_zero]; rfl) (fun _ => by simp only [List.setIfInBounds_toArray, List.set_cons_succ, List.set_cons_zero] <;> rfl) fun g4 Bg4 Fg4 => ?_
  try simp only [List.forall_mem_cons] at Fg4
  refine wpL_s [(g4, .cells (frcC false 0 0) 26 (0, 0)), (g3, .cells (frcC sx nx dx) 26 (0, 0)), (g2, .cells (frcC sx nx dx) 26 (0, 0)), (g1, .cells (frcC sx nx dx) 26 (0, 0))] rfl rfl (st_f (neg := false) (n := 0) (d := 0) rfl (by kernel_rfl) (by kernel_rfl) (.head _) (by omega) size27 (List.forall_mem_cons.2 ⟨.inl rfl, (List.forall_mem_cons.2 ⟨.inr ⟨(.tail _ (.head _)), Fg4.1⟩, (List.forall_mem_cons.2 ⟨.inr ⟨(.tail _ (.tail _ (.head _))), Fg4.2.1⟩, (List.forall_mem_cons.2 ⟨.inr ⟨(.tail _ (.tail _ (.tail _ (.head _)))), Fg4.2.2.1⟩, (List.forall_mem_nil _)⟩)⟩)⟩)⟩)) ?_
  refine wpL_p (v := .int .i64 10) rfl (by kernel_rfl) rfl (fun _ => by kernel_rfl) (by simp only [List.setIfInBounds_toArray, List.set_cons_succ, List.set_cons_zero] <;> rfl) ?_
  refine wpL_done (fun W7 hW7 => ?_)
  clear hW6
  refine (show Code.wp _ _ _ _ _ from ?_)
  refine wp_seq ?_
  refine wp_region_L (W0 := w) [(g4, .cells (frcC false 0 0) 26 (0, 0)), (g3, .cells (frcC sx nx dx) 26 (0, 0)), (g2, .cells (frcC sx nx dx) 26 (0, 0)), (g1, .cells (frcC sx nx dx) 26 (0, 0))] (hW7) ?_
  refine wpL_p (v := .string ⟨(lx).toArray⟩) rfl (by kernel_rfl) rfl (fun _ => by kernel_rfl) (by simp only [List.setIfInBounds_toArray, List.set_cons_succ, List.set_cons_zero] <;> rfl) ?_
  refine wpL_p (v := .string ⟨(l2).toArray⟩) rfl (by kernel_rfl) rfl (run_bin rfl (vx := .string ⟨(lx).toArray⟩) (vy := .string ⟨([32]).toArray⟩) (by kernel_rfl) (by kernel_rfl) fun w => run_catS E2 (by simp; omega) w) (by simp only [List.setIfInBounds_toArray, List.set_cons_succ, List.set_cons_zero] <;> rfl) ?_
  refine wpL_v (v := .tuple #[.agg (frcC false 0 0), .int .i64 10]) rfl (by kernel_rfl) rfl (yb_call (f := 21) (args := #[.string ⟨(l2).toArray⟩]) (fun _ => by kernel_rfl) fun W hW => HR3.out W hW.1) (by simp only [List.setIfInBounds_toArray, List.set_cons_succ, List.set_cons_zero] <;> rfl) ?_
  refine wpL_p (v := .tuple #[.agg (frcC false 0 0), .int .i64 10]) rfl (by kernel_rfl) rfl (fun _ => by kernel_rfl) (by simp only [List.setIfInBounds_toArray, List.set_cons_succ, List.set_cons_zero] <;> rfl) ?_
  refine wpL_p (v := .agg (frcC false 0 0)) rfl (by kernel_rfl) rfl (fun _ => by kernel_rfl) (by simp only [List.setIfInBounds_toArray, List.set_cons_succ, List.set_cons_zero] <;> rfl) ?_
  refine wpL_p (v := .int .i64 10) rfl (by kernel_rfl) rfl (fun _ => by kernel_rfl) (by simp only [List.setIfInBounds_toArray, List.set_cons_succ, List.set_cons_zero] <;> rfl) ?_
  refine wpL_new (fun g => .pointer (some ⟨g, 0, none⟩)) (obi := .cells (frcC false 0 0) 26 (0, 0)) rfl rfl (fun _ => by rw [frc_zero]; rfl) (fun _ => by simp only [List.setIfInBounds_toArray, List.set_cons_succ, List.set_cons_zero] <;> rfl) fun g5 Bg5 Fg5 => ?_
  try simp only [List.forall_mem_cons] at Fg5
  refine wpL_s [(g5, .cells (frcC false 0 0) 26 (0, 0)), (g4, .cells (frcC false 0 0) 26 (0, 0)), (g3, .cells (frcC sx nx dx) 26 (0, 0)), (g2, .cells (frcC sx nx dx) 26 (0, 0)), (g1, .cells (frcC sx nx dx) 26 (0, 0))] rfl rfl (st_f (neg := false) (n := 0) (d := 0) rfl (by kernel_rfl) (by kernel_rfl) (.head _) (by omega) size27 (List.forall_mem_cons.2 ⟨.inl rfl, (List.forall_mem_cons.2 ⟨.inr ⟨(.tail _ (.head _)), Fg5.1⟩, (List.forall_mem_cons.2 ⟨.inr ⟨(.tail _ (.tail _ (.head _))), Fg5.2.1⟩, (List.forall_mem_cons.2 ⟨.inr ⟨(.tail _ (.tail _ (.tail _ (.head _)))), Fg5.2.2.1⟩, (List.forall_mem_cons.2 ⟨.inr ⟨(.tail _ (.tail _ (.tail _ (.tail _ (.head _))))), Fg5.2.2.2.1⟩, (List.forall_mem_nil _)⟩)⟩)⟩)⟩)⟩)) ?_
  refine wpL_p (v := .int .i64 10) rfl (by kernel_rfl) rfl (fun _ => by kernel_rfl) (by simp only [List.setIfInBounds_toArray, List.set_cons_succ, List.set_cons_zero] <;> rfl) ?_
  refine wpL_done (fun W8 hW8 => ?_)
  clear hW7
  refine (show Code.wp _ _ _ _ _ from ?_)
  refine wp_seq ?_
  refine wp_region_L (W0 := w) [(g5, .cells (frcC false 0 0) 26 (0, 0)), (g4, .cells (frcC false 0 0) 26 (0, 0)), (g3, .cells (frcC sx nx dx) 26 (0, 0)), (g2, .cells (frcC sx nx dx) 26 (0, 0)), (g1, .cells (frcC sx nx dx) 26 (0, 0))] (hW8) ?_
  refine wpL_p (v := .string ⟨(lx).toArray⟩) rfl (by kernel_rfl) rfl (fun _ => by kernel_rfl) (by simp only [List.setIfInBounds_toArray, List.set_cons_succ, List.set_cons_zero] <;> rfl) ?_
  refine wpL_p (v := .string ⟨(l3).toArray⟩) rfl (by kernel_rfl) rfl (run_bin rfl (vx := .string ⟨(lx).toArray⟩) (vy := .string ⟨([47, 49]).toArray⟩) (by kernel_rfl) (by kernel_rfl) fun w => run_catS E3 (by simp; omega) w) (by simp only [List.setIfInBounds_toArray, List.set_cons_succ, List.set_cons_zero] <;> rfl) ?_
  refine wpL_v (v := .tuple #[.agg (frcC false 0 0), .int .i64 11]) rfl (by kernel_rfl) rfl (yb_call (f := 21) (args := #[.string ⟨(l3).toArray⟩]) (fun _ => by kernel_rfl) fun W hW => HR4.out W hW.1) (by simp only [List.setIfInBounds_toArray, List.set_cons_succ, List.set_cons_zero] <;> rfl) ?_
  refine wpL_p (v := .tuple #[.agg (frcC false 0 0), .int .i64 11]) rfl (by kernel_rfl) rfl (fun _ => by kernel_rfl) (by simp only [List.setIfInBounds_toArray, List.set_cons_succ, List.set_cons_zero] <;> rfl) ?_
  refine wpL_p (v := .agg (frcC false 0 0)) rfl (by kernel_rfl) rfl (fun _ => by kernel_rfl) (by simp only [List.setIfInBounds_toArray, List.set_cons_succ, List.set_cons_zero] <;> rfl) ?_
  refine wpL_p (v := .int .i64 11) rfl (by kernel_rfl) rfl (fun _ => by kernel_rfl) (by simp only [List.setIfInBounds_toArray, List.set_cons_succ, List.set_cons_zero] <;> rfl) ?_
  refine wpL_new (fun g => .pointer (some ⟨g, 0, none⟩)) (obi := .cells (frcC false 0 0) 26 (0, 0)) rfl rfl (fun _ => by rw [frc_zero]; rfl) (fun _ => by simp only [List.setIfInBounds_toArray, List.set_cons_succ, List.set_cons_zero] <;> rfl) fun g6 Bg6 Fg6 => ?_
  try simp only [List.forall_mem_cons] at Fg6
  refine wpL_s [(g6, .cells (frcC false 0 0) 26 (0, 0)), (g5, .cells (frcC false 0 0) 26 (0, 0)), (g4, .cells (frcC false 0 0) 26 (0, 0)), (g3, .cells (frcC sx nx dx) 26 (0, 0)), (g2, .cells (frcC sx nx dx) 26 (0, 0)), (g1, .cells (frcC sx nx dx) 26 (0, 0))] rfl rfl (st_f (neg := false) (n := 0) (d := 0) rfl (by kernel_rfl) (by kernel_rfl) (.head _) (by omega) size27 (List.forall_mem_cons.2 ⟨.inl rfl, (List.forall_mem_cons.2 ⟨.inr ⟨(.tail _ (.head _)), Fg6.1⟩, (List.forall_mem_cons.2 ⟨.inr ⟨(.tail _ (.tail _ (.head _))), Fg6.2.1⟩, (List.forall_mem_cons.2 ⟨.inr ⟨(.tail _ (.tail _ (.tail _ (.head _)))), Fg6.2.2.1⟩, (List.forall_mem_cons.2 ⟨.inr ⟨(.tail _ (.tail _ (.tail _ (.tail _ (.head _))))), Fg6.2.2.2.1⟩, (List.forall_mem_cons.2 ⟨.inr ⟨(.tail _ (.tail _ (.tail _ (.tail _ (.tail _ (.head _)))))), Fg6.2.2.2.2.1⟩, (List.forall_mem_nil _)⟩)⟩)⟩)⟩)⟩)⟩)) ?_
  refine wpL_p (v := .int .i64 11) rfl (by kernel_rfl) rfl (fun _ => by kernel_rfl) (by simp only [List.setIfInBounds_toArray, List.set_cons_succ, List.set_cons_zero] <;> rfl) ?_
  refine wpL_done (fun W9 hW9 => ?_)
  clear hW8
  refine (show Code.wp _ _ _ _ _ from ?_)
  refine wp_seq ?_
  refine wp_region_L (W0 := w) [(g6, .cells (frcC false 0 0) 26 (0, 0)), (g5, .cells (frcC false 0 0) 26 (0, 0)), (g4, .cells (frcC false 0 0) 26 (0, 0)), (g3, .cells (frcC sx nx dx) 26 (0, 0)), (g2, .cells (frcC sx nx dx) 26 (0, 0)), (g1, .cells (frcC sx nx dx) 26 (0, 0))] (hW9) ?_
  refine wpL_p (v := .int .i64 11) rfl (by kernel_rfl) rfl (fun _ => by kernel_rfl) (by simp only [List.setIfInBounds_toArray, List.set_cons_succ, List.set_cons_zero] <;> rfl) ?_
  refine wpL_done (fun W10 hW10 => ?_)
  clear hW9
  refine (show Code.wp _ _ _ _ _ from ?_)
  refine wp_seq ?_
  refine wp_seq ?_
  refine wp_region_L (W0 := w) [(g6, .cells (frcC false 0 0) 26 (0, 0)), (g5, .cells (frcC false 0 0) 26 (0, 0)), (g4, .cells (frcC false 0 0) 26 (0, 0)), (g3, .cells (frcC sx nx dx) 26 (0, 0)), (g2, .cells (frcC sx nx dx) 26 (0, 0)), (g1, .cells (frcC sx nx dx) 26 (0, 0))] (hW10) ?_
  refine wpL_p (v := .string ⟨(lx).toArray⟩) rfl (by kernel_rfl) rfl (fun _ => by kernel_rfl) (by simp only [List.setIfInBounds_toArray, List.set_cons_succ, List.set_cons_zero] <;> rfl) ?_
  refine wpL_v (v := .bool false) rfl (by kernel_rfl) rfl (yb_call (f := 22) (args := #[.string ⟨(lx).toArray⟩, .string ⟨#[47]⟩]) (fun _ => by kernel_rfl) fun W hW => HC.out W) (by simp only [List.setIfInBounds_toArray, List.set_cons_succ, List.set_cons_zero] <;> rfl) ?_
  refine wpL_done (fun W11 hW11 => ?_)
  clear hW10
  refine (show Code.wp _ _ _ _ _ from ?_)
  refine wp_cond_false rfl ?_
  refine wp_skip ?_
  refine (show Code.wp _ _ _ _ _ from ?_)
  refine wp_seq ?_
  refine wp_region_L (W0 := w) [(g6, .cells (frcC false 0 0) 26 (0, 0)), (g5, .cells (frcC false 0 0) 26 (0, 0)), (g4, .cells (frcC false 0 0) 26 (0, 0)), (g3, .cells (frcC sx nx dx) 26 (0, 0)), (g2, .cells (frcC sx nx dx) 26 (0, 0)), (g1, .cells (frcC sx nx dx) 26 (0, 0))] (hW11) ?_
  refine wpL_p (v := .int .i64 0) rfl (by kernel_rfl) rfl (fun _ => by kernel_rfl) (by simp only [List.setIfInBounds_toArray, List.set_cons_succ, List.set_cons_zero] <;> rfl) ?_
  refine wpL_p (v := .int .i64 0) rfl (by kernel_rfl) rfl (fun _ => by kernel_rfl) (by simp only [List.setIfInBounds_toArray, List.set_cons_succ, List.set_cons_zero] <;> rfl) ?_
  refine wpL_p (v := .int .i64 0) rfl (by kernel_rfl) rfl (fun _ => by kernel_rfl) (by simp only [List.setIfInBounds_toArray, List.set_cons_succ, List.set_cons_zero] <;> rfl) ?_
  refine wpL_new (fun g => .slice (some ⟨g, 0, none⟩) 3 3) (obi := .cells #[.int .i64 0, .int .i64 0, .int .i64 0] 29 (0, 0)) rfl rfl (fun _ => by kernel_rfl) (fun _ => by simp only [List.setIfInBounds_toArray, List.set_cons_succ, List.set_cons_zero] <;> rfl) fun g7 Bg7 Fg7 => ?_
  try simp only [List.forall_mem_cons] at Fg7
  refine wpL_v (v := .bool true) rfl (by kernel_rfl) rfl (yb_call (f := 14) (args := #[.slice (some ⟨g7, 0, none⟩) 3 3]) (fun _ => by kernel_rfl) fun W hW => all_W 3 (by omega) rfl (hW.2 _ (.head _))) (by simp only [List.setIfInBounds_toArray, List.set_cons_succ, List.set_cons_zero] <;> rfl) ?_
  refine wpL_p (v := .bool true) rfl (by kernel_rfl) rfl (fun _ => by kernel_rfl) (by simp only [List.setIfInBounds_toArray, List.set_cons_succ, List.set_cons_zero] <;> rfl) ?_
  refine wpL_v (v := .agg (frcC sx nx dx)) rfl (by kernel_rfl) rfl (yb_load rfl (by kernel_rfl) (.tail _ (.tail _ (.tail _ (.tail _ (.head _))))) Tryd.underlying26 rfl size27 (by simp) (frc_whole sx nx dx)) (by simp only [List.setIfInBounds_toArray, List.set_cons_succ, List.set_cons_zero] <;> rfl) ?_
  refine wpL_v (v := .agg (frcC sx nx dx)) rfl (by kernel_rfl) rfl (yb_load rfl (by kernel_rfl) (.tail _ (.tail _ (.tail _ (.tail _ (.tail _ (.tail _ (.head _))))))) Tryd.underlying26 rfl size27 (by simp) (frc_whole sx nx dx)) (by simp only [List.setIfInBounds_toArray, List.set_cons_succ, List.set_cons_zero] <;> rfl) ?_
  refine wpL_p (v := .bool true) rfl (by kernel_rfl) rfl (run_bin rfl (vx := .agg (frcC sx nx dx)) (vy := .agg (frcC sx nx dx)) (by kernel_rfl) (by kernel_rfl) fun w => run_eql27s Hnx Hdx w) (by simp only [List.setIfInBounds_toArray, List.set_cons_succ, List.set_cons_zero] <;> rfl) ?_
  refine wpL_p (v := .bool true) rfl (by kernel_rfl) rfl (fun _ => by kernel_rfl) (by simp only [List.setIfInBounds_toArray, List.set_cons_succ, List.set_cons_zero] <;> rfl) ?_
  refine wpL_p (v := .bool true) rfl (by kernel_rfl) rfl (fun _ => by kernel_rfl) (by simp only [List.setIfInBounds_toArray, List.set_cons_succ, List.set_cons_zero] <;> rfl) ?_
  refine wpL_p (v := .string ⟨(lx).toArray⟩) rfl (by kernel_rfl) rfl (fun _ => by kernel_rfl) (by simp only [List.setIfInBounds_toArray, List.set_cons_succ, List.set_cons_zero] <;> rfl) ?_
  refine wpL_p (v := .string ⟨(lx).toArray⟩) rfl (by kernel_rfl) rfl (fun _ => by kernel_rfl) (by simp only [List.setIfInBounds_toArray, List.set_cons_succ, List.set_cons_zero] <;> rfl) ?_
  refine wpL_p (v := .bool true) rfl (by kernel_rfl) rfl (run_bin rfl (vx := .string ⟨(lx).toArray⟩) (vy := .string ⟨(lx).toArray⟩) (by kernel_rfl) (by kernel_rfl) fun w => run_eqs (beq_self_eq_true _) w) (by simp only [List.setIfInBounds_toArray, List.set_cons_succ, List.set_cons_zero] <;> rfl) ?_
  refine wpL_v (v := .agg (frcC sx nx dx)) rfl (by kernel_rfl) rfl (yb_load rfl (by kernel_rfl) (.tail _ (.tail _ (.tail _ (.tail _ (.tail _ (.tail _ (.head _))))))) Tryd.underlying26 rfl size27 (by simp) (frc_whole sx nx dx)) (by simp only [List.setIfInBounds_toArray, List.set_cons_succ, List.set_cons_zero] <;> rfl) ?_
  refine wpL_v (v := .agg (frcC sx nx dx)) rfl (by kernel_rfl) rfl (yb_load rfl (by kernel_rfl) (.tail _ (.tail _ (.tail _ (.tail _ (.tail _ (.head _)))))) Tryd.underlying26 rfl size27 (by simp) (frc_whole sx nx dx)) (by simp only [List.setIfInBounds_toArray, List.set_cons_succ, List.set_cons_zero] <;> rfl) ?_
  refine wpL_p (v := .bool true) rfl (by kernel_rfl) rfl (run_bin rfl (vx := .agg (frcC sx nx dx)) (vy := .agg (frcC sx nx dx)) (by kernel_rfl) (by kernel_rfl) fun w => run_eql27s Hnx Hdx w) (by simp only [List.setIfInBounds_toArray, List.set_cons_succ, List.set_cons_zero] <;> rfl) ?_
  refine wpL_p (v := .bool true) rfl (by kernel_rfl) rfl (fun _ => by kernel_rfl) (by simp only [List.setIfInBounds_toArray, List.set_cons_succ, List.set_cons_zero] <;> rfl) ?_
  refine wpL_p (v := .bool true) rfl (by kernel_rfl) rfl (fun _ => by kernel_rfl) (by simp only [List.setIfInBounds_toArray, List.set_cons_succ, List.set_cons_zero] <;> rfl) ?_
  refine wpL_p (v := .bool true) rfl (by kernel_rfl) rfl (fun _ => by kernel_rfl) (by simp only [List.setIfInBounds_toArray, List.set_cons_succ, List.set_cons_zero] <;> rfl) ?_
  refine wpL_p (v := .int .i64 10) rfl (by kernel_rfl) rfl (fun _ => by kernel_rfl) (by simp only [List.setIfInBounds_toArray, List.set_cons_succ, List.set_cons_zero] <;> rfl) ?_
  refine wpL_p (v := .bool true) rfl (by kernel_rfl) rfl (fun _ => by kernel_rfl) (by simp only [List.setIfInBounds_toArray, List.set_cons_succ, List.set_cons_zero] <;> rfl) ?_
  refine wpL_p (v := .bool true) rfl (by kernel_rfl) rfl (fun _ => by kernel_rfl) (by simp only [List.setIfInBounds_toArray, List.set_cons_succ, List.set_cons_zero] <;> rfl) ?_
  refine wpL_p (v := .bool true) rfl (by kernel_rfl) rfl (fun _ => by kernel_rfl) (by simp only [List.setIfInBounds_toArray, List.set_cons_succ, List.set_cons_zero] <;> rfl) ?_
  refine wpL_p (v := .int .i64 10) rfl (by kernel_rfl) rfl (fun _ => by kernel_rfl) (by simp only [List.setIfInBounds_toArray, List.set_cons_succ, List.set_cons_zero] <;> rfl) ?_
  refine wpL_p (v := .bool true) rfl (by kernel_rfl) rfl (fun _ => by kernel_rfl) (by simp only [List.setIfInBounds_toArray, List.set_cons_succ, List.set_cons_zero] <;> rfl) ?_
  refine wpL_p (v := .bool true) rfl (by kernel_rfl) rfl (fun _ => by kernel_rfl) (by simp only [List.setIfInBounds_toArray, List.set_cons_succ, List.set_cons_zero] <;> rfl) ?_
  refine wpL_p (v := .bool true) rfl (by kernel_rfl) rfl (fun _ => by kernel_rfl) (by simp only [List.setIfInBounds_toArray, List.set_cons_succ, List.set_cons_zero] <;> rfl) ?_
  refine wpL_p (v := .int .i64 11) rfl (by kernel_rfl) rfl (fun _ => by kernel_rfl) (by simp only [List.setIfInBounds_toArray, List.set_cons_succ, List.set_cons_zero] <;> rfl) ?_
  refine wpL_p (v := .int .i64 11) rfl (by kernel_rfl) rfl (fun _ => by kernel_rfl) (by simp only [List.setIfInBounds_toArray, List.set_cons_succ, List.set_cons_zero] <;> rfl) ?_
  refine wpL_p (v := .bool true) rfl (by kernel_rfl) rfl (fun _ => by kernel_rfl) (by simp only [List.setIfInBounds_toArray, List.set_cons_succ, List.set_cons_zero] <;> rfl) ?_
  refine wpL_p (v := .bool true) rfl (by kernel_rfl) rfl (fun _ => by kernel_rfl) (by simp only [List.setIfInBounds_toArray, List.set_cons_succ, List.set_cons_zero] <;> rfl) ?_
  refine wpL_p (v := .bool true) rfl (by kernel_rfl) rfl (fun _ => by kernel_rfl) (by simp only [List.setIfInBounds_toArray, List.set_cons_succ, List.set_cons_zero] <;> rfl) ?_
  refine wpL_done (fun W12 hW12 => ?_)
  clear hW11
  refine (show Code.wp _ _ _ _ _ from ?_)
  refine wp_ret ?_
  go_ret
  exact ⟨rfl, hW12.1⟩
set_option maxRecDepth 100000 in
set_option maxHeartbeats 4000000 in
theorem FracTexts_w01 (w : World) (a b d e : Int) (sx : Bool) (nx dx : Nat) (Hnx : nx < R 8) (Hdx : dx < R 8) (sy : Bool) (ny dy : Nat) (Hny : ny < R 8) (Hdy : dy < R 8) (lx : List UInt8) (hlx : lx.length ≤ 158) (l1 l2 l3 : List UInt8) (E1 : [48] ++ lx = l1) (E2 : lx ++ [32] = l2) (E3 : lx ++ [47, 49] = l3) (ly : List UInt8) (Hst : (lx == ly) = false)
    (Hne_0 : decide (sx = sy ∧ nx = ny ∧ dx = dy) = false)
    (HAw : Hid (∀ W, Below w.heap.size w W → Calls Tryd.prog 10 #[] W fun e w' => e = .returned (.bool true) ∧ Below W.heap.size W w'))
    (HM1 : Hid (∀ W, Calls Tryd.prog 11 #[.int .i64 a, .int .u32 d] W fun e w' => e = .returned (.agg (frcC sx nx dx)) ∧ Below W.heap.size W w'))
    (HM2 : Hid (∀ W, Calls Tryd.prog 11 #[.int .i64 b, .int .u32 e] W fun e w' => e = .returned (.agg (frcC sy ny dy)) ∧ Below W.heap.size W w'))
    (HT1 : Hid (∀ W, Below w.heap.size w W → Calls Tryd.prog 20 #[.agg (frcC sx nx dx)] W fun e w' => e = .returned (.tuple #[.string ⟨(lx).toArray⟩, .int .i64 0]) ∧ Below W.heap.size W w'))
    (HT2 : Hid (∀ W, Below w.heap.size w W → Calls Tryd.prog 20 #[.agg (frcC sy ny dy)] W fun e w' => e = .returned (.tuple #[.string ⟨(ly).toArray⟩, .int .i64 0]) ∧ Below W.heap.size W w'))
    (HR1 : Hid (∀ W, Below w.heap.size w W → Calls Tryd.prog 21 #[.string ⟨(lx).toArray⟩] W fun e w' => e = .returned (.tuple #[.agg (frcC sx nx dx), .int .i64 0]) ∧ Below W.heap.size W w'))
    (HR2 : Hid (∀ W, Below w.heap.size w W → Calls Tryd.prog 21 #[.string ⟨(l1).toArray⟩] W fun e w' => e = .returned (.tuple #[.agg (frcC false 0 0), .int .i64 10]) ∧ Below W.heap.size W w'))
    (HR3 : Hid (∀ W, Below w.heap.size w W → Calls Tryd.prog 21 #[.string ⟨(l2).toArray⟩] W fun e w' => e = .returned (.tuple #[.agg (frcC false 0 0), .int .i64 10]) ∧ Below W.heap.size W w'))
    (HR4 : Hid (∀ W, Below w.heap.size w W → Calls Tryd.prog 21 #[.string ⟨(l3).toArray⟩] W fun e w' => e = .returned (.tuple #[.agg (frcC false 0 0), .int .i64 10]) ∧ Below W.heap.size W w'))
    (HC : Hid (∀ W, Calls Tryd.prog 22 #[.string ⟨(lx).toArray⟩, .string ⟨#[47]⟩] W fun e w' => e = .returned (.bool true) ∧ Below W.heap.size W w')) :
    Calls Tryd.prog 6 #[.int .i64 a, .int .i64 b, .int .u32 d, .int .u32 e] w fun e w' => e = .returned (.bool true) ∧ Below w.heap.size w w' := by
  go_enter Tryd.func6, Tryd.ntmps6
  refine wp_seq ?_
  refine wp_region_L (W0 := w) [] (KS.start w) ?_
  refine wpL_p (v := .bool false) rfl (by kernel_rfl) rfl (fun _ => by kernel_rfl) (by simp only [List.setIfInBounds_toArray, List.set_cons_succ, List.set_cons_zero] <;> rfl) ?_
  refine wpL_done (fun W1 hW1 => ?_)
  refine (show Code.wp _ _ _ _ _ from ?_)
  refine wp_seq ?_
  refine wp_seq ?_
  refine wp_region_L (W0 := w) [] (hW1) ?_
  refine wpL_v (v := .bool true) rfl (by kernel_rfl) rfl (yb_call (f := 10) (args := #[]) (fun _ => by kernel_rfl) fun W hW => HAw.out W hW.1) (by simp only [List.setIfInBounds_toArray, List.set_cons_succ, List.set_cons_zero] <;> rfl) ?_
  refine wpL_p (v := .bool false) rfl (by kernel_rfl) rfl (fun _ => by kernel_rfl) (by simp only [List.setIfInBounds_toArray, List.set_cons_succ, List.set_cons_zero] <;> rfl) ?_
  refine wpL_done (fun W2 hW2 => ?_)
  clear hW1
  refine (show Code.wp _ _ _ _ _ from ?_)
  refine wp_cond_false rfl ?_
  refine wp_skip ?_
  refine (show Code.wp _ _ _ _ _ from ?_)
  refine wp_seq ?_
  refine wp_region_L (W0 := w) [] (hW2) ?_
  refine wpL_p (v := .int .i64 a) rfl (by kernel_rfl) rfl (fun _ => by kernel_rfl) (by simp only [List.setIfInBounds_toArray, List.set_cons_succ, List.set_cons_zero] <;> rfl) ?_
  refine wpL_p (v := .int .u32 d) rfl (by kernel_rfl) rfl (fun _ => by kernel_rfl) (by simp only [List.setIfInBounds_toArray, List.set_cons_succ, List.set_cons_zero] <;> rfl) ?_
  refine wpL_v (v := .agg (frcC sx nx dx)) rfl (by kernel_rfl) rfl (yb_call (f := 11) (args := #[.int .i64 a, .int .u32 d]) (fun _ => by kernel_rfl) fun W hW => HM1.out W) (by simp only [List.setIfInBounds_toArray, List.set_cons_succ, List.set_cons_zero] <;> rfl) ?_
  refine wpL_p (v := .int .i64 b) rfl (by kernel_rfl) rfl (fun _ => by kernel_rfl) (by simp only [List.setIfInBounds_toArray, List.set_cons_succ, List.set_cons_zero] <;> rfl) ?_
  refine wpL_p (v := .int .u32 e) rfl (by kernel_rfl) rfl (fun _ => by kernel_rfl) (by simp only [List.setIfInBounds_toArray, List.set_cons_succ, List.set_cons_zero] <;> rfl) ?_
  refine wpL_v (v := .agg (frcC sy ny dy)) rfl (by kernel_rfl) rfl (yb_call (f := 11) (args := #[.int .i64 b, .int .u32 e]) (fun _ => by kernel_rfl) fun W hW => HM2.out W) (by simp only [List.setIfInBounds_toArray, List.set_cons_succ, List.set_cons_zero] <;> rfl) ?_
  refine wpL_new (fun g => .pointer (some ⟨g, 0, none⟩)) (obi := .cells (frcC false 0 0) 26 (0, 0)) rfl rfl (fun _ => by rw [frc_zero]; rfl) (fun _ => by simp only [List.setIfInBounds_toArray, List.set_cons_succ, List.set_cons_zero] <;> rfl) fun g1 Bg1 Fg1 => ?_
  try simp only [List.forall_mem_cons] at Fg1
  refine wpL_new (fun g => .pointer (some ⟨g, 0, none⟩)) (obi := .cells (frcC false 0 0) 26 (0, 0)) rfl rfl (fun _ => by rw [frc_zero]; rfl) (fun _ => by simp only [List.setIfInBounds_toArray, List.set_cons_succ, List.set_cons_zero] <;> rfl) fun g2 Bg2 Fg2 => ?_
  try simp only [List.forall_mem_cons] at Fg2
  refine wpL_s [(g2, .cells (frcC false 0 0) 26 (0, 0)), (g1, .cells (frcC sx nx dx) 26 (0, 0))] rfl rfl (st_f (neg := sx) (n := nx) (d := dx) rfl (by kernel_rfl) (by kernel_rfl) (.tail _ (.head _)) (by omega) size27 (List.forall_mem_cons.2 ⟨.inr ⟨(.head _), (Ne.symm Fg2.1)⟩, (List.forall_mem_cons.2 ⟨.inl rfl, (List.forall_mem_nil _)⟩)⟩)) ?_
  refine wpL_s [(g2, .cells (frcC sy ny dy) 26 (0, 0)), (g1, .cells (frcC sx nx dx) 26 (0, 0))] rfl rfl (st_f (neg := sy) (n := ny) (d := dy) rfl (by kernel_rfl) (by kernel_rfl) (.head _) (by omega) size27 (List.forall_mem_cons.2 ⟨.inl rfl, (List.forall_mem_cons.2 ⟨.inr ⟨(.tail _ (.head _)), Fg2.1⟩, (List.forall_mem_nil _)⟩)⟩)) ?_
  refine wpL_done (fun W3 hW3 => ?_)
  clear hW2
  refine (show Code.wp _ _ _ _ _ from ?_)
  refine wp_seq ?_
  refine wp_region_L (W0 := w) [(g2, .cells (frcC sy ny dy) 26 (0, 0)), (g1, .cells (frcC sx nx dx) 26 (0, 0))] (hW3) ?_
  refine wpL_v (v := .agg (frcC sx nx dx)) rfl (by kernel_rfl) rfl (yb_load rfl (by kernel_rfl) (.tail _ (.head _)) Tryd.underlying26 rfl size27 (by simp) (frc_whole sx nx dx)) (by simp only [List.setIfInBounds_toArray, List.set_cons_succ, List.set_cons_zero] <;> rfl) ?_
  refine wpL_v (v := .tuple #[.string ⟨(lx).toArray⟩, .int .i64 0]) rfl (by kernel_rfl) rfl (yb_call (f := 20) (args := #[.agg (frcC sx nx dx)]) (fun _ => by kernel_rfl) fun W hW => HT1.out W hW.1) (by simp only [List.setIfInBounds_toArray, List.set_cons_succ, List.set_cons_zero] <;> rfl) ?_
  refine wpL_p (v := .tuple #[.string ⟨(lx).toArray⟩, .int .i64 0]) rfl (by kernel_rfl) rfl (fun _ => by kernel_rfl) (by simp only [List.setIfInBounds_toArray, List.set_cons_succ, List.set_cons_zero] <;> rfl) ?_
  refine wpL_p (v := .string ⟨(lx).toArray⟩) rfl (by kernel_rfl) rfl (fun _ => by kernel_rfl) (by simp only [List.setIfInBounds_toArray, List.set_cons_succ, List.set_cons_zero] <;> rfl) ?_
  refine wpL_p (v := .int .i64 0) rfl (by kernel_rfl) rfl (fun _ => by kernel_rfl) (by simp only [List.setIfInBounds_toArray, List.set_cons_succ, List.set_cons_zero] <;> rfl) ?_
  refine wpL_p (v := .string ⟨(lx).toArray⟩) rfl (by kernel_rfl) rfl (fun _ => by kernel_rfl) (by simp only [List.setIfInBounds_toArray, List.set_cons_succ, List.set_cons_zero] <;> rfl) ?_
  refine wpL_p (v := .int .i64 0) rfl (by kernel_rfl) rfl (fun _ => by kernel_rfl) (by simp only [List.setIfInBounds_toArray, List.set_cons_succ, List.set_cons_zero] <;> rfl) ?_
  refine wpL_done (fun W4 hW4 => ?_)
  clear hW3
  refine (show Code.wp _ _ _ _ _ from ?_)
  refine wp_seq ?_
  refine wp_region_L (W0 := w) [(g2, .cells (frcC sy ny dy) 26 (0, 0)), (g1, .cells (frcC sx nx dx) 26 (0, 0))] (hW4) ?_
  refine wpL_v (v := .agg (frcC sy ny dy)) rfl (by kernel_rfl) rfl (yb_load rfl (by kernel_rfl) (.head _) Tryd.underlying26 rfl size27 (by simp) (frc_whole sy ny dy)) (by simp only [List.setIfInBounds_toArray, List.set_cons_succ, List.set_cons_zero] <;> rfl) ?_
  refine wpL_v (v := .tuple #[.string ⟨(ly).toArray⟩, .int .i64 0]) rfl (by kernel_rfl) rfl (yb_call (f := 20) (args := #[.agg (frcC sy ny dy)]) (fun _ => by kernel_rfl) fun W hW => HT2.out W hW.1) (by simp only [List.setIfInBounds_toArray, List.set_cons_succ, List.set_cons_zero] <;> rfl) ?_
  refine wpL_p (v := .tuple #[.string ⟨(ly).toArray⟩, .int .i64 0]) rfl (by kernel_rfl) rfl (fun _ => by kernel_rfl) (by simp only [List.setIfInBounds_toArray, List.set_cons_succ, List.set_cons_zero] <;> rfl) ?_
  refine wpL_p (v := .string ⟨(ly).toArray⟩) rfl (by kernel_rfl) rfl (fun _ => by kernel_rfl) (by simp only [List.setIfInBounds_toArray, List.set_cons_succ, List.set_cons_zero] <;> rfl) ?_
  refine wpL_p (v := .int .i64 0) rfl (by kernel_rfl) rfl (fun _ => by kernel_rfl) (by simp only [List.setIfInBounds_toArray, List.set_cons_succ, List.set_cons_zero] <;> rfl) ?_
  refine wpL_p (v := .string ⟨(ly).toArray⟩) rfl (by kernel_rfl) rfl (fun _ => by kernel_rfl) (by simp only [List.setIfInBounds_toArray, List.set_cons_succ, List.set_cons_zero] <;> rfl) ?_
  refine wpL_p (v := .int .i64 0) rfl (by kernel_rfl) rfl (fun _ => by kernel_rfl) (by simp only [List.setIfInBounds_toArray, List.set_cons_succ, List.set_cons_zero] <;> rfl) ?_
  refine wpL_done (fun W5 hW5 => ?_)
  clear hW4
  refine (show Code.wp _ _ _ _ _ from ?_)
  refine wp_seq ?_
  refine wp_region_L (W0 := w) [(g2, .cells (frcC sy ny dy) 26 (0, 0)), (g1, .cells (frcC sx nx dx) 26 (0, 0))] (hW5) ?_
  refine wpL_p (v := .string ⟨(lx).toArray⟩) rfl (by kernel_rfl) rfl (fun _ => by kernel_rfl) (by simp only [List.setIfInBounds_toArray, List.set_cons_succ, List.set_cons_zero] <;> rfl) ?_
  refine wpL_v (v := .tuple #[.agg (frcC sx nx dx), .int .i64 0]) rfl (by kernel_rfl) rfl (yb_call (f := 21) (args := #[.string ⟨(lx).toArray⟩]) (fun _ => by kernel_rfl) fun W hW => HR1.out W hW.1) (by simp only [List.setIfInBounds_toArray, List.set_cons_succ, List.set_cons_zero] <;> rfl) ?_
  refine wpL_p (v := .tuple #[.agg (frcC sx nx dx), .int .i64 0]) rfl (by kernel_rfl) rfl (fun _ => by kernel_rfl) (by simp only [List.setIfInBounds_toArray, List.set_cons_succ, List.set_cons_zero] <;> rfl) ?_
  refine wpL_p (v := .agg (frcC sx nx dx)) rfl (by kernel_rfl) rfl (fun _ => by kernel_rfl) (by simp only [List.setIfInBounds_toArray, List.set_cons_succ, List.set_cons_zero] <;> rfl) ?_
  refine wpL_p (v := .int .i64 0) rfl (by kernel_rfl) rfl (fun _ => by kernel_rfl) (by simp only [List.setIfInBounds_toArray, List.set_cons_succ, List.set_cons_zero] <;> rfl) ?_
  refine wpL_new (fun g => .pointer (some ⟨g, 0, none⟩)) (obi := .cells (frcC false 0 0) 26 (0, 0)) rfl rfl (fun _ => by rw [frc_zero]; rfl) (fun _ => by simp only [List.setIfInBounds_toArray, List.set_cons_succ, List.set_cons_zero] <;> rfl) fun g3 Bg3 Fg3 => ?_
  try simp only [List.forall_mem_cons] at Fg3
  refine wpL_s [(g3, .cells (frcC sx nx dx) 26 (0, 0)), (g2, .cells (frcC sy ny dy) 26 (0, 0)), (g1, .cells (frcC sx nx dx) 26 (0, 0))] rfl rfl (st_f (neg := sx) (n := nx) (d := dx) rfl (by kernel_rfl) (by kernel_rfl) (.head _) (by omega) size27 (List.forall_mem_cons.2 ⟨.inl rfl, (List.forall_mem_cons.2 ⟨.inr ⟨(.tail _ (.head _)), Fg3.1⟩, (List.forall_mem_cons.2 ⟨.inr ⟨(.tail _ (.tail _ (.head _))), Fg3.2.1⟩, (List.forall_mem_nil _)⟩)⟩)⟩)) ?_
  refine wpL_p (v := .int .i64 0) rfl (by kernel_rfl) rfl (fun _ => by kernel_rfl) (by simp only [List.setIfInBounds_toArray, List.set_cons_succ, List.set_cons_zero] <;> rfl) ?_
  refine wpL_done (fun W6 hW6 => ?_)
  clear hW5
  refine (show Code.wp _ _ _ _ _ from ?_)
  refine wp_seq ?_
  refine wp_region_L (W0 := w) [(g3, .cells (frcC sx nx dx) 26 (0, 0)), (g2, .cells (frcC sy ny dy) 26 (0, 0)), (g1, .cells (frcC sx nx dx) 26 (0, 0))] (hW6) ?_
  refine wpL_p (v := .string ⟨(lx).toArray⟩) rfl (by kernel_rfl) rfl (fun _ => by kernel_rfl) (by simp only [List.setIfInBounds_toArray, List.set_cons_succ, List.set_cons_zero] <;> rfl) ?_
  refine wpL_p (v := .string ⟨(l1).toArray⟩) rfl (by kernel_rfl) rfl (run_bin rfl (vx := .string ⟨([48]).toArray⟩) (vy := .string ⟨(lx).toArray⟩) (by kernel_rfl) (by kernel_rfl) fun w => run_catS E1 (by simp; omega) w) (by simp only [List.setIfInBounds_toArray, List.set_cons_succ, List.set_cons_zero] <;> rfl) ?_
  refine wpL_v (v := .tuple #[.agg (frcC false 0 0), .int .i64 10]) rfl (by kernel_rfl) rfl (yb_call (f := 21) (args := #[.string ⟨(l1).toArray⟩]) (fun _ => by kernel_rfl) fun W hW => HR2.out W hW.1) (by simp only [List.setIfInBounds_toArray, List.set_cons_succ, List.set_cons_zero] <;> rfl) ?_
  refine wpL_p (v := .tuple #[.agg (frcC false 0 0), .int .i64 10]) rfl (by kernel_rfl) rfl (fun _ => by kernel_rfl) (by simp only [List.setIfInBounds_toArray, List.set_cons_succ, List.set_cons_zero] <;> rfl) ?_
  refine wpL_p (v := .agg (frcC false 0 0)) rfl (by kernel_rfl) rfl (fun _ => by kernel_rfl) (by simp only [List.setIfInBounds_toArray, List.set_cons_succ, List.set_cons_zero] <;> rfl) ?_
  refine wpL_p (v := .int .i64 10) rfl (by kernel_rfl) rfl (fun _ => by kernel_rfl) (by simp only [List.setIfInBounds_toArray, List.set_cons_succ, List.set_cons_zero] <;> rfl) ?_
  refine wpL_new (fun g => .pointer (some ⟨g, 0, none⟩)) (obi := .cells (frcC false 0 0) 26 (0, 0)) rfl rfl (fun _ => by rw [frc_zero]; rfl) (fun _ => by simp only [List.setIfInBounds_toArray, List.set_cons_succ, List.set_cons_zero] <;> rfl) fun g4 Bg4 Fg4 => ?_
  try simp only [List.forall_mem_cons] at Fg4
  refine wpL_s [(g4, .cells (frcC false 0 0) 26 (0, 0)), (g3, .cells (frcC sx nx dx) 26 (0, 0)), (g2, .cells (frcC sy ny dy) 26 (0, 0)), (g1, .cells (frcC sx nx dx) 26 (0, 0))] rfl rfl (st_f (neg := false) (n := 0) (d := 0) rfl (by kernel_rfl) (by kernel_rfl) (.head _) (by omega) size27 (List.forall_mem_cons.2 ⟨.inl rfl, (List.forall_mem_cons.2 ⟨.inr ⟨(.tail _ (.head _)), Fg4.1⟩, (List.forall_mem_cons.2 ⟨.inr ⟨(.tail _ (.tail _ (.head _))), Fg4.2.1⟩, (List.forall_mem_cons.2 ⟨.inr ⟨(.tail _ (.tail _ (.tail _ (.head _)))), Fg4.2.2.1⟩, (List.forall_mem_nil _)⟩)⟩)⟩)⟩)) ?_
  refine wpL_p (v := .int .i64 10) rfl (by kernel_rfl) rfl (fun _ => by kernel_rfl) (by simp only [List.setIfInBounds_toArray, List.set_cons_succ, List.set_cons_zero] <;> rfl) ?_
  refine wpL_done (fun W7 hW7 => ?_)
  clear hW6
  refine (show Code.wp _ _ _ _ _ from ?_)
  refine wp_seq ?_
  refine wp_region_L (W0 := w) [(g4, .cells (frcC false 0 0) 26 (0, 0)), (g3, .cells (frcC sx nx dx) 26 (0, 0)), (g2, .cells (frcC sy ny dy) 26 (0, 0)), (g1, .cells (frcC sx nx dx) 26 (0, 0))] (hW7) ?_
  refine wpL_p (v := .string ⟨(lx).toArray⟩) rfl (by kernel_rfl) rfl (fun _ => by kernel_rfl) (by simp only [List.setIfInBounds_toArray, List.set_cons_succ, List.set_cons_zero] <;> rfl) ?_
  refine wpL_p (v := .string ⟨(l2).toArray⟩) rfl (by kernel_rfl) rfl (run_bin rfl (vx := .string ⟨(lx).toArray⟩) (vy := .string ⟨([32]).toArray⟩) (by kernel_rfl) (by kernel_rfl) fun w => run_catS E2 (by simp; omega) w) (by simp only [List.setIfInBounds_toArray, List.set_cons_succ, List.set_cons_zero] <;> rfl) ?_
  refine wpL_v (v := .tuple #[.agg (frcC false 0 0), .int .i64 10]) rfl (by kernel_rfl) rfl (yb_call (f := 21) (args := #[.string ⟨(l2).toArray⟩]) (fun _ => by kernel_rfl) fun W hW => HR3.out W hW.1) (by simp only [List.setIfInBounds_toArray, List.set_cons_succ, List.set_cons_zero] <;> rfl) ?_
  refine wpL_p (v := .tuple #[.agg (frcC false 0 0), .int .i64 10]) rfl (by kernel_rfl) rfl (fun _ => by kernel_rfl) (by simp only [List.setIfInBounds_toArray, List.set_cons_succ, List.set_cons_zero] <;> rfl) ?_
  refine wpL_p (v := .agg (frcC false 0 0)) rfl (by kernel_rfl) rfl (fun _ => by kernel_rfl) (by simp only [List.setIfInBounds_toArray, List.set_cons_succ, List.set_cons_zero] <;> rfl) ?_
  refine wpL_p (v := .int .i64 10) rfl (by kernel_rfl) rfl (fun _ => by kernel_rfl) (by simp only [List.setIfInBounds_toArray, List.set_cons_succ, List.set_cons_zero] <;> rfl) ?_
  refine wpL_new (fun g => .pointer (some ⟨g, 0, none⟩)) (obi := .cells (frcC false 0 0) 26 (0, 0)) rfl rfl (fun _ => by rw [frc_zero]; rfl) (fun _ => by simp only [List.setIfInBounds_toArray, List.set_cons_succ, List.set_cons_zero] <;> rfl) fun g5 Bg5 Fg5 => ?_
  try simp only [List.forall_mem_cons] at Fg5
  refine wpL_s [(g5, .cells (frcC false 0 0) 26 (0, 0)), (g4, .cells (frcC false 0 0) 26 (0, 0)), (g3, .cells (frcC sx nx dx) 26 (0, 0)), (g2, .cells (frcC sy ny dy) 26 (0, 0)), (g1, .cells (frcC sx nx dx) 26 (0, 0))] rfl rfl (st_f (neg := false) (n := 0) (d := 0) rfl (by kernel_rfl) (by kernel_rfl) (.head _) (by omega) size27 (List.forall_mem_cons.2 ⟨.inl rfl, (List.forall_mem_cons.2 ⟨.inr ⟨(.tail _ (.head _)), Fg5.1⟩, (List.forall_mem_cons.2 ⟨.inr ⟨(.tail _ (.tail _ (.head _))), Fg5.2.1⟩, (List.forall_mem_cons.2 ⟨.inr ⟨(.tail _ (.tail _ (.tail _ (.head _)))), Fg5.2.2.1⟩, (List.forall_mem_cons.2 ⟨.inr ⟨(.tail _ (.tail _ (.tail _ (.tail _ (.head _))))), Fg5.2.2.2.1⟩, (List.forall_mem_nil _)⟩)⟩)⟩)⟩)⟩)) ?_
  refine wpL_p (v := .int .i64 10) rfl (by kernel_rfl) rfl (fun _ => by kernel_rfl) (by simp only [List.setIfInBounds_toArray, List.set_cons_succ, List.set_cons_zero] <;> rfl) ?_
  refine wpL_done (fun W8 hW8 => ?_)
  clear hW7
  refine (show Code.wp _ _ _ _ _ from ?_)
  refine wp_seq ?_
  refine wp_region_L (W0 := w) [(g5, .cells (frcC false 0 0) 26 (0, 0)), (g4, .cells (frcC false 0 0) 26 (0, 0)), (g3, .cells (frcC sx nx dx) 26 (0, 0)), (g2, .cells (frcC sy ny dy) 26 (0, 0)), (g1, .cells (frcC sx nx dx) 26 (0, 0))] (hW8) ?_
  refine wpL_p (v := .string ⟨(lx).toArray⟩) rfl (by kernel_rfl) rfl (fun _ => by kernel_rfl) (by simp only [List.setIfInBounds_toArray, List.set_cons_succ, List.set_cons_zero] <;> rfl) ?_
  refine wpL_p (v := .string ⟨(l3).toArray⟩) rfl (by kernel_rfl) rfl (run_bin rfl (vx := .string ⟨(lx).toArray⟩) (vy := .string ⟨([47, 49]).toArray⟩) (by kernel_rfl) (by kernel_rfl) fun w => run_catS E3 (by simp; omega) w) (by simp only [List.setIfInBounds_toArray, List.set_cons_succ, List.set_cons_zero] <;> rfl) ?_
  refine wpL_v (v := .tuple #[.agg (frcC false 0 0), .int .i64 10]) rfl (by kernel_rfl) rfl (yb_call (f := 21) (args := #[.string ⟨(l3).toArray⟩]) (fun _ => by kernel_rfl) fun W hW => HR4.out W hW.1) (by simp only [List.setIfInBounds_toArray, List.set_cons_succ, List.set_cons_zero] <;> rfl) ?_
  refine wpL_p (v := .tuple #[.agg (frcC false 0 0), .int .i64 10]) rfl (by kernel_rfl) rfl (fun _ => by kernel_rfl) (by simp only [List.setIfInBounds_toArray, List.set_cons_succ, List.set_cons_zero] <;> rfl) ?_
  refine wpL_p (v := .agg (frcC false 0 0)) rfl (by kernel_rfl) rfl (fun _ => by kernel_rfl) (by simp only [List.setIfInBounds_toArray, List.set_cons_succ, List.set_cons_zero] <;> rfl) ?_
  refine wpL_p (v := .int .i64 10) rfl (by kernel_rfl) rfl (fun _ => by kernel_rfl) (by simp only [List.setIfInBounds_toArray, List.set_cons_succ, List.set_cons_zero] <;> rfl) ?_
  refine wpL_new (fun g => .pointer (some ⟨g, 0, none⟩)) (obi := .cells (frcC false 0 0) 26 (0, 0)) rfl rfl (fun _ => by rw [frc_zero]; rfl) (fun _ => by simp only [List.setIfInBounds_toArray, List.set_cons_succ, List.set_cons_zero] <;> rfl) fun g6 Bg6 Fg6 => ?_
  try simp only [List.forall_mem_cons] at Fg6
  refine wpL_s [(g6, .cells (frcC false 0 0) 26 (0, 0)), (g5, .cells (frcC false 0 0) 26 (0, 0)), (g4, .cells (frcC false 0 0) 26 (0, 0)), (g3, .cells (frcC sx nx dx) 26 (0, 0)), (g2, .cells (frcC sy ny dy) 26 (0, 0)), (g1, .cells (frcC sx nx dx) 26 (0, 0))] rfl rfl (st_f (neg := false) (n := 0) (d := 0) rfl (by kernel_rfl) (by kernel_rfl) (.head _) (by omega) size27 (List.forall_mem_cons.2 ⟨.inl rfl, (List.forall_mem_cons.2 ⟨.inr ⟨(.tail _ (.head _)), Fg6.1⟩, (List.forall_mem_cons.2 ⟨.inr ⟨(.tail _ (.tail _ (.head _))), Fg6.2.1⟩, (List.forall_mem_cons.2 ⟨.inr ⟨(.tail _ (.tail _ (.tail _ (.head _)))), Fg6.2.2.1⟩, (List.forall_mem_cons.2 ⟨.inr ⟨(.tail _ (.tail _ (.tail _ (.tail _ (.head _))))), Fg6.2.2.2.1⟩, (List.forall_mem_cons.2 ⟨.inr ⟨(.tail _ (.tail _ (.tail _ (.tail _ (.tail _ (.head _)))))), Fg6.2.2.2.2.1⟩, (List.forall_mem_nil _)⟩)⟩)⟩)⟩)⟩)⟩)) ?_
  refine wpL_p (v := .int .i64 10) rfl (by kernel_rfl) rfl (fun _ => by kernel_rfl) (by simp only [List.setIfInBounds_toArray, List.set_cons_succ, List.set_cons_zero] <;> rfl) ?_
  refine wpL_done (fun W9 hW9 => ?_)
  clear hW8
  refine (show Code.wp _ _ _ _ _ from ?_)
  refine wp_seq ?_
  refine wp_region_L (W0 := w) [(g6, .cells (frcC false 0 0) 26 (0, 0)), (g5, .cells (frcC false 0 0) 26 (0, 0)), (g4, .cells (frcC false 0 0) 26 (0, 0)), (g3, .cells (frcC sx nx dx) 26 (0, 0)), (g2, .cells (frcC sy ny dy) 26 (0, 0)), (g1, .cells (frcC sx nx dx) 26 (0, 0))] (hW9) ?_
  refine wpL_p (v := .int .i64 11) rfl (by kernel_rfl) rfl (fun _ => by kernel_rfl) (by simp only [List.setIfInBounds_toArray, List.set_cons_succ, List.set_cons_zero] <;> rfl) ?_
  refine wpL_done (fun W10 hW10 => ?_)
  clear hW9
  refine (show Code.wp _ _ _ _ _ from ?_)
  refine wp_seq ?_
  refine wp_seq ?_
  refine wp_region_L (W0 := w) [(g6, .cells (frcC false 0 0) 26 (0, 0)), (g5, .cells (frcC false 0 0) 26 (0, 0)), (g4, .cells (frcC false 0 0) 26 (0, 0)), (g3, .cells (frcC sx nx dx) 26 (0, 0)), (g2, .cells (frcC sy ny dy) 26 (0, 0)), (g1, .cells (frcC sx nx dx) 26 (0, 0))] (hW10) ?_
  refine wpL_p (v := .string ⟨(lx).toArray⟩) rfl (by kernel_rfl) rfl (fun _ => by kernel_rfl) (by simp only [List.setIfInBounds_toArray, List.set_cons_succ, List.set_cons_zero] <;> rfl) ?_
  refine wpL_v (v := .bool true) rfl (by kernel_rfl) rfl (yb_call (f := 22) (args := #[.string ⟨(lx).toArray⟩, .string ⟨#[47]⟩]) (fun _ => by kernel_rfl) fun W hW => HC.out W) (by simp only [List.setIfInBounds_toArray, List.set_cons_succ, List.set_cons_zero] <;> rfl) ?_
  refine wpL_done (fun W11 hW11 => ?_)
  clear hW10
  refine (show Code.wp _ _ _ _ _ from ?_)
  refine wp_cond_true rfl ?_
  refine wp_region_L (W0 := w) [(g6, .cells (frcC false 0 0) 26 (0, 0)), (g5, .cells (frcC false 0 0) 26 (0, 0)), (g4, .cells (frcC false 0 0) 26 (0, 0)), (g3, .cells (frcC sx nx dx) 26 (0, 0)), (g2, .cells (frcC sy ny dy) 26 (0, 0)), (g1, .cells (frcC sx nx dx) 26 (0, 0))] (hW11) ?_
  refine wpL_p (v := .int .i64 10) rfl (by kernel_rfl) rfl (fun _ => by kernel_rfl) (by simp only [List.setIfInBounds_toArray, List.set_cons_succ, List.set_cons_zero] <;> rfl) ?_
  refine wpL_done (fun W12 hW12 => ?_)
  clear hW11
  refine (show Code.wp _ _ _ _ _ from ?_)
  refine wp_seq ?_
  refine wp_region_L (W0 := w) [(g6, .cells (frcC false 0 0) 26 (0, 0)), (g5, .cells (frcC false 0 0) 26 (0, 0)), (g4, .cells (frcC false 0 0) 26 (0, 0)), (g3, .cells (frcC sx nx dx) 26 (0, 0)), (g2, .cells (frcC sy ny dy) 26 (0, 0)), (g1, .cells (frcC sx nx dx) 26 (0, 0))] (hW12) ?_
  refine wpL_p (v := .int .i64 0) rfl (by kernel_rfl) rfl (fun _ => by kernel_rfl) (by simp only [List.setIfInBounds_toArray, List.set_cons_succ, List.set_cons_zero] <;> rfl) ?_
  refine wpL_p (v := .int .i64 0) rfl (by kernel_rfl) rfl (fun _ => by kernel_rfl) (by simp only [List.setIfInBounds_toArray, List.set_cons_succ, List.set_cons_zero] <;> rfl) ?_
  refine wpL_p (v := .int .i64 0) rfl (by kernel_rfl) rfl (fun _ => by kernel_rfl) (by simp only [List.setIfInBounds_toArray, List.set_cons_succ, List.set_cons_zero] <;> rfl) ?_
  refine wpL_new (fun g => .slice (some ⟨g, 0, none⟩) 3 3) (obi := .cells #[.int .i64 0, .int .i64 0, .int .i64 0] 29 (0, 0)) rfl rfl (fun _ => by kernel_rfl) (fun _ => by simp only [List.setIfInBounds_toArray, List.set_cons_succ, List.set_cons_zero] <;> rfl) fun g7 Bg7 Fg7 => ?_
  try simp only [List.forall_mem_cons] at Fg7
  refine wpL_v (v := .bool true) rfl (by kernel_rfl) rfl (yb_call (f := 14) (args := #[.slice (some ⟨g7, 0, none⟩) 3 3]) (fun _ => by kernel_rfl) fun W hW => all_W 3 (by omega) rfl (hW.2 _ (.head _))) (by simp only [List.setIfInBounds_toArray, List.set_cons_succ, List.set_cons_zero] <;> rfl) ?_
  refine wpL_p (v := .bool true) rfl (by kernel_rfl) rfl (fun _ => by kernel_rfl) (by simp only [List.setIfInBounds_toArray, List.set_cons_succ, List.set_cons_zero] <;> rfl) ?_
  refine wpL_v (v := .agg (frcC sx nx dx)) rfl (by kernel_rfl) rfl (yb_load rfl (by kernel_rfl) (.tail _ (.tail _ (.tail _ (.tail _ (.head _))))) Tryd.underlying26 rfl size27 (by simp) (frc_whole sx nx dx)) (by simp only [List.setIfInBounds_toArray, List.set_cons_succ, List.set_cons_zero] <;> rfl) ?_
  refine wpL_v (v := .agg (frcC sx nx dx)) rfl (by kernel_rfl) rfl (yb_load rfl (by kernel_rfl) (.tail _ (.tail _ (.tail _ (.tail _ (.tail _ (.tail _ (.head _))))))) Tryd.underlying26 rfl size27 (by simp) (frc_whole sx nx dx)) (by simp only [List.setIfInBounds_toArray, List.set_cons_succ, List.set_cons_zero] <;> rfl) ?_
  refine wpL_p (v := .bool true) rfl (by kernel_rfl) rfl (run_bin rfl (vx := .agg (frcC sx nx dx)) (vy := .agg (frcC sx nx dx)) (by kernel_rfl) (by kernel_rfl) fun w => run_eql27s Hnx Hdx w) (by simp only [List.setIfInBounds_toArray, List.set_cons_succ, List.set_cons_zero] <;> rfl) ?_
  refine wpL_p (v := .bool true) rfl (by kernel_rfl) rfl (fun _ => by kernel_rfl) (by simp only [List.setIfInBounds_toArray, List.set_cons_succ, List.set_cons_zero] <;> rfl) ?_
  refine wpL_p (v := .bool true) rfl (by kernel_rfl) rfl (fun _ => by kernel_rfl) (by simp only [List.setIfInBounds_toArray, List.set_cons_succ, List.set_cons_zero] <;> rfl) ?_
  refine wpL_p (v := .string ⟨(lx).toArray⟩) rfl (by kernel_rfl) rfl (fun _ => by kernel_rfl) (by simp only [List.setIfInBounds_toArray, List.set_cons_succ, List.set_cons_zero] <;> rfl) ?_
  refine wpL_p (v := .string ⟨(ly).toArray⟩) rfl (by kernel_rfl) rfl (fun _ => by kernel_rfl) (by simp only [List.setIfInBounds_toArray, List.set_cons_succ, List.set_cons_zero] <;> rfl) ?_
  refine wpL_p (v := .bool false) rfl (by kernel_rfl) rfl (run_bin rfl (vx := .string ⟨(lx).toArray⟩) (vy := .string ⟨(ly).toArray⟩) (by kernel_rfl) (by kernel_rfl) fun w => run_eqs Hst w) (by simp only [List.setIfInBounds_toArray, List.set_cons_succ, List.set_cons_zero] <;> rfl) ?_
  refine wpL_v (v := .agg (frcC sx nx dx)) rfl (by kernel_rfl) rfl (yb_load rfl (by kernel_rfl) (.tail _ (.tail _ (.tail _ (.tail _ (.tail _ (.tail _ (.head _))))))) Tryd.underlying26 rfl size27 (by simp) (frc_whole sx nx dx)) (by simp only [List.setIfInBounds_toArray, List.set_cons_succ, List.set_cons_zero] <;> rfl) ?_
  refine wpL_v (v := .agg (frcC sy ny dy)) rfl (by kernel_rfl) rfl (yb_load rfl (by kernel_rfl) (.tail _ (.tail _ (.tail _ (.tail _ (.tail _ (.head _)))))) Tryd.underlying26 rfl size27 (by simp) (frc_whole sy ny dy)) (by simp only [List.setIfInBounds_toArray, List.set_cons_succ, List.set_cons_zero] <;> rfl) ?_
  refine wpL_p (v := .bool false) rfl (by kernel_rfl) rfl (run_bin rfl (vx := .agg (frcC sx nx dx)) (vy := .agg (frcC sy ny dy)) (by kernel_rfl) (by kernel_rfl) fun w => run_eql27x Hnx Hny Hdx Hdy Hne_0 w) (by simp only [List.setIfInBounds_toArray, List.set_cons_succ, List.set_cons_zero] <;> rfl) ?_
  refine wpL_p (v := .bool true) rfl (by kernel_rfl) rfl (fun _ => by kernel_rfl) (by simp only [List.setIfInBounds_toArray, List.set_cons_succ, List.set_cons_zero] <;> rfl) ?_
  refine wpL_p (v := .bool true) rfl (by kernel_rfl) rfl (fun _ => by kernel_rfl) (by simp only [List.setIfInBounds_toArray, List.set_cons_succ, List.set_cons_zero] <;> rfl) ?_
  refine wpL_p (v := .bool true) rfl (by kernel_rfl) rfl (fun _ => by kernel_rfl) (by simp only [List.setIfInBounds_toArray, List.set_cons_succ, List.set_cons_zero] <;> rfl) ?_
  refine wpL_p (v := .int .i64 10) rfl (by kernel_rfl) rfl (fun _ => by kernel_rfl) (by simp only [List.setIfInBounds_toArray, List.set_cons_succ, List.set_cons_zero] <;> rfl) ?_
  refine wpL_p (v := .bool true) rfl (by kernel_rfl) rfl (fun _ => by kernel_rfl) (by simp only [List.setIfInBounds_toArray, List.set_cons_succ, List.set_cons_zero] <;> rfl) ?_
  refine wpL_p (v := .bool true) rfl (by kernel_rfl) rfl (fun _ => by kernel_rfl) (by simp only [List.setIfInBounds_toArray, List.set_cons_succ, List.set_cons_zero] <;> rfl) ?_
  refine wpL_p (v := .bool true) rfl (by kernel_rfl) rfl (fun _ => by kernel_rfl) (by simp only [List.setIfInBounds_toArray, List.set_cons_succ, List.set_cons_zero] <;> rfl) ?_
  refine wpL_p (v := .int .i64 10) rfl (by kernel_rfl) rfl (fun _ => by kernel_rfl) (by simp only [List.setIfInBounds_toArray, List.set_cons_succ, List.set_cons_zero] <;> rfl) ?_
  refine wpL_p (v := .bool true) rfl (by kernel_rfl) rfl (fun _ => by kernel_rfl) (by simp only [List.setIfInBounds_toArray, List.set_cons_succ, List.set_cons_zero] <;> rfl) ?_
  refine wpL_p (v := .bool true) rfl (by kernel_rfl) rfl (fun _ => by kernel_rfl) (by simp only [List.setIfInBounds_toArray, List.set_cons_succ, List.set_cons_zero] <;> rfl) ?_
  refine wpL_p (v := .bool true) rfl (by kernel_rfl) rfl (fun _ => by kernel_rfl) (by simp only [List.setIfInBounds_toArray, List.set_cons_succ, List.set_cons_zero] <;> rfl) ?_
  refine wpL_p (v := .int .i64 10) rfl (by kernel_rfl) rfl (fun _ => by kernel_rfl) (by simp only [List.setIfInBounds_toArray, List.set_cons_succ, List.set_cons_zero] <;> rfl) ?_
  refine wpL_p (v := .int .i64 10) rfl (by kernel_rfl) rfl (fun _ => by kernel_rfl) (by simp only [List.setIfInBounds_toArray, List.set_cons_succ, List.set_cons_zero] <;> rfl) ?_
  refine wpL_p (v := .bool true) rfl (by kernel_rfl) rfl (fun _ => by kernel_rfl) (by simp only [List.setIfInBounds_toArray, List.set_cons_succ, List.set_cons_zero] <;> rfl) ?_
  refine wpL_p (v := .bool true) rfl (by kernel_rfl) rfl (fun _ => by kernel_rfl) (by simp only [List.setIfInBounds_toArray, List.set_cons_succ, List.set_cons_zero] <;> rfl) ?_
  refine wpL_p (v := .bool true) rfl (by kernel_rfl) rfl (fun _ => by kernel_rfl) (by simp only [List.setIfInBounds_toArray, List.set_cons_succ, List.set_cons_zero] <;> rfl) ?_
  refine wpL_done (fun W13 hW13 => ?_)
  clear hW12
  refine (show Code.wp _ _ _ _ _ from ?_)
  refine wp_ret ?_
  go_ret
  exact ⟨rfl, hW13.1⟩
set_option maxRecDepth 100000 in
set_option maxHeartbeats 4000000 in
theorem FracTexts_w00 (w : World) (a b d e : Int) (sx : Bool) (nx dx : Nat) (Hnx : nx < R 8) (Hdx : dx < R 8) (sy : Bool) (ny dy : Nat) (Hny : ny < R 8) (Hdy : dy < R 8) (lx : List UInt8) (hlx : lx.length ≤ 158) (l1 l2 l3 : List UInt8) (E1 : [48] ++ lx = l1) (E2 : lx ++ [32] = l2) (E3 : lx ++ [47, 49] = l3) (ly : List UInt8) (Hst : (lx == ly) = false)
    (Hne_0 : decide (sx = sy ∧ nx = ny ∧ dx = dy) = false)
    (HAw : Hid (∀ W, Below w.heap.size w W → Calls Tryd.prog 10 #[] W fun e w' => e = .returned (.bool true) ∧ Below W.heap.size W w'))
    (HM1 : Hid (∀ W, Calls Tryd.prog 11 #[.int .i64 a, .int .u32 d] W fun e w' => e = .returned (.agg (frcC sx nx dx)) ∧ Below W.heap.size W w'))
    (HM2 : Hid (∀ W, Calls Tryd.prog 11 #[.int .i64 b, .int .u32 e] W fun e w' => e = .returned (.agg (frcC sy ny dy)) ∧ Below W.heap.size W w'))
    (HT1 : Hid (∀ W, Below w.heap.size w W → Calls Tryd.prog 20 #[.agg (frcC sx nx dx)] W fun e w' => e = .returned (.tuple #[.string ⟨(lx).toArray⟩, .int .i64 0]) ∧ Below W.heap.size W w'))
    (HT2 : Hid (∀ W, Below w.heap.size w W → Calls Tryd.prog 20 #[.agg (frcC sy ny dy)] W fun e w' => e = .returned (.tuple #[.string ⟨(ly).toArray⟩, .int .i64 0]) ∧ Below W.heap.size W w'))
    (HR1 : Hid (∀ W, Below w.heap.size w W → Calls Tryd.prog 21 #[.string ⟨(lx).toArray⟩] W fun e w' => e = .returned (.tuple #[.agg (frcC sx nx dx), .int .i64 0]) ∧ Below W.heap.size W w'))
    (HR2 : Hid (∀ W, Below w.heap.size w W → Calls Tryd.prog 21 #[.string ⟨(l1).toArray⟩] W fun e w' => e = .returned (.tuple #[.agg (frcC false 0 0), .int .i64 10]) ∧ Below W.heap.size W w'))
    (HR3 : Hid (∀ W, Below w.heap.size w W → Calls Tryd.prog 21 #[.string ⟨(l2).toArray⟩] W fun e w' => e = .returned (.tuple #[.agg (frcC false 0 0), .int .i64 10]) ∧ Below W.heap.size W w'))
    (HR4 : Hid (∀ W, Below w.heap.size w W → Calls Tryd.prog 21 #[.string ⟨(l3).toArray⟩] W fun e w' => e = .returned (.tuple #[.agg (frcC false 0 0), .int .i64 11]) ∧ Below W.heap.size W w'))
    (HC : Hid (∀ W, Calls Tryd.prog 22 #[.string ⟨(lx).toArray⟩, .string ⟨#[47]⟩] W fun e w' => e = .returned (.bool false) ∧ Below W.heap.size W w')) :
    Calls Tryd.prog 6 #[.int .i64 a, .int .i64 b, .int .u32 d, .int .u32 e] w fun e w' => e = .returned (.bool true) ∧ Below w.heap.size w w' := by
  go_enter Tryd.func6, Tryd.ntmps6
  refine wp_seq ?_
  refine wp_region_L (W0 := w) [] (KS.start w) ?_
  refine wpL_p (v := .bool false) rfl (by kernel_rfl) rfl (fun _ => by kernel_rfl) (by simp only [List.setIfInBounds_toArray, List.set_cons_succ, List.set_cons_zero] <;> rfl) ?_
  refine wpL_done (fun W1 hW1 => ?_)
  refine (show Code.wp _ _ _ _ _ from ?_)
  refine wp_seq ?_
  refine wp_seq ?_
  refine wp_region_L (W0 := w) [] (hW1) ?_
  refine wpL_v (v := .bool true) rfl (by kernel_rfl) rfl (yb_call (f := 10) (args := #[]) (fun _ => by kernel_rfl) fun W hW => HAw.out W hW.1) (by simp only [List.setIfInBounds_toArray, List.set_cons_succ, List.set_cons_zero] <;> rfl) ?_
  refine wpL_p (v := .bool false) rfl (by kernel_rfl) rfl (fun _ => by kernel_rfl) (by simp only [List.setIfInBounds_toArray, List.set_cons_succ, List.set_cons_zero] <;> rfl) ?_
  refine wpL_done (fun W2 hW2 => ?_)
  clear hW1
  refine (show Code.wp _ _ _ _ _ from ?_)
  refine wp_cond_false rfl ?_
  refine wp_skip ?_
  refine (show Code.wp _ _ _ _ _ from ?_)
  refine wp_seq ?_
  refine wp_region_L (W0 := w) [] (hW2) ?_
  refine wpL_p (v := .int .i64 a) rfl (by kernel_rfl) rfl (fun _ => by kernel_rfl) (by simp only [List.setIfInBounds_toArray, List.set_cons_succ, List.set_cons_zero] <;> rfl) ?_
  refine wpL_p (v := .int .u32 d) rfl (by kernel_rfl) rfl (fun _ => by kernel_rfl) (by simp only [List.setIfInBounds_toArray, List.set_cons_succ, List.set_cons_zero] <;> rfl) ?_
  refine wpL_v (v := .agg (frcC sx nx dx)) rfl (by kernel_rfl) rfl (yb_call (f := 11) (args := #[.int .i64 a, .int .u32 d]) (fun _ => by kernel_rfl) fun W hW => HM1.out W) (by simp only [List.setIfInBounds_toArray, List.set_cons_succ, List.set_cons_zero] <;> rfl) ?_
  refine wpL_p (v := .int .i64 b) rfl (by kernel_rfl) rfl (fun _ => by kernel_rfl) (by simp only [List.setIfInBounds_toArray, List.set_cons_succ, List.set_cons_zero] <;> rfl) ?_
  refine wpL_p (v := .int .u32 e) rfl (by kernel_rfl) rfl (fun _ => by kernel_rfl) (by simp only [List.setIfInBounds_toArray, List.set_cons_succ, List.set_cons_zero] <;> rfl) ?_
  refine wpL_v (v := .agg (frcC sy ny dy)) rfl (by kernel_rfl) rfl (yb_call (f := 11) (args := #[.int .i64 b, .int .u32 e]) (fun _ => by kernel_rfl) fun W hW => HM2.out W) (by simp only [List.setIfInBounds_toArray, List.set_cons_succ, List.set_cons_zero] <;> rfl) ?_
  refine wpL_new (fun g => .pointer (some ⟨g, 0, none⟩)) (obi := .cells (frcC false 0 0) 26 (0, 0)) rfl rfl (fun _ => by rw [frc_zero]; rfl) (fun _ => by simp only [List.setIfInBounds_toArray, List.set_cons_succ, List.set_cons_zero] <;> rfl) fun g1 Bg1 Fg1 => ?_
  try simp only [List.forall_mem_cons] at Fg1
  refine wpL_new (fun g => .pointer (some ⟨g, 0, none⟩)) (obi := .cells (frcC false 0 0) 26 (0, 0)) rfl rfl (fun _ => by rw [frc_zero]; rfl) (fun _ => by simp only [List.setIfInBounds_toArray, List.set_cons_succ, List.set_cons_zero] <;> rfl) fun g2 Bg2 Fg2 => ?_
  try simp only [List.forall_mem_cons] at Fg2
  refine wpL_s [(g2, .cells (frcC false 0 0) 26 (0, 0)), (g1, .cells (frcC sx nx dx) 26 (0, 0))] rfl rfl (st_f (neg := sx) (n := nx) (d := dx) rfl (by kernel_rfl) (by kernel_rfl) (.tail _ (.head _)) (by omega) size27 (List.forall_mem_cons.2 ⟨.inr ⟨(.head _), (Ne.symm Fg2.1)⟩, (List.forall_mem_cons.2 ⟨.inl rfl, (List.forall_mem_nil _)⟩)⟩)) ?_
  refine wpL_s [(g2, .cells (frcC sy ny dy) 26 (0, 0)), (g1, .cells (frcC sx nx dx) 26 (0, 0))] rfl rfl (st_f (neg := sy) (n := ny) (d := dy) rfl (by kernel_rfl) (by kernel_rfl) (.head _) (by omega) size27 (List.forall_mem_cons.2 ⟨.inl rfl, (List.forall_mem_cons.2 ⟨.inr ⟨(.tail _ (.head _)), Fg2.1⟩, (List.forall_mem_nil _)⟩)⟩)) ?_
  refine wpL_done (fun W3 hW3 => ?_)
  clear hW2
  refine (show Code.wp _ _ _ _ _ from ?_)
  refine wp_seq ?_
  refine wp_region_L (W0 := w) [(g2, .cells (frcC sy ny dy) 26 (0, 0)), (g1, .cells (frcC sx nx dx) 26 (0, 0))] (hW3) ?_
  refine wpL_v (v := .agg (frcC sx nx dx)) rfl (by kernel_rfl) rfl (yb_load rfl (by kernel_rfl) (.tail _ (.head _)) Tryd.underlying26 rfl size27 (by simp) (frc_whole sx nx dx)) (by simp only [List.setIfInBounds_toArray, List.set_cons_succ, List.set_cons_zero] <;> rfl) ?_
  refine wpL_v (v := .tuple #[.string ⟨(lx).toArray⟩, .int .i64 0]) rfl (by kernel_rfl) rfl (yb_call (f := 20) (args := #[.agg (frcC sx nx dx)]) (fun _ => by kernel_rfl) fun W hW => HT1.out W hW.1) (by simp only [List.setIfInBounds_toArray, List.set_cons_succ, List.set_cons_zero] <;> rfl) ?_
  refine wpL_p (v := .tuple #[.string ⟨(lx).toArray⟩, .int .i64 0]) rfl (by kernel_rfl) rfl (fun _ => by kernel_rfl) (by simp only [List.setIfInBounds_toArray, List.set_cons_succ, List.set_cons_zero] <;> rfl) ?_
  refine wpL_p (v := .string ⟨(lx).toArray⟩) rfl (by kernel_rfl) rfl (fun _ => by kernel_rfl) (by simp only [List.setIfInBounds_toArray, List.set_cons_succ, List.set_cons_zero] <;> rfl) ?_
  refine wpL_p (v := .int .i64 0) rfl (by kernel_rfl) rfl (fun _ => by kernel_rfl) (by simp only [List.setIfInBounds_toArray, List.set_cons_succ, List.set_cons_zero] <;> rfl) ?_
  refine wpL_p (v := .string ⟨(lx).toArray⟩) rfl (by kernel_rfl) rfl (fun _ => by kernel_rfl) (by simp only [List.setIfInBounds_toArray, List.set_cons_succ, List.set_cons_zero] <;> rfl) ?_
  refine wpL_p (v := .int .i64 0) rfl (by kernel_rfl) rfl (fun _ => by kernel_rfl) (by simp only [List.setIfInBounds_toArray, List.set_cons_succ, List.set_cons_zero] <;> rfl) ?_
  refine wpL_done (fun W4 hW4 => ?_)
  clear hW3
  refine (show Code.wp _ _ _ _ _ from ?_)
  refine wp_seq ?_
  refine wp_region_L (W0 := w) [(g2, .cells (frcC sy ny dy) 26 (0, 0)), (g1, .cells (frcC sx nx dx) 26 (0, 0))] (hW4) ?_
  refine wpL_v (v := .agg (frcC sy ny dy)) rfl (by kernel_rfl) rfl (yb_load rfl (by kernel_rfl) (.head _) Tryd.underlying26 rfl size27 (by simp) (frc_whole sy ny dy)) (by simp only [List.setIfInBounds_toArray, List.set_cons_succ, List.set_cons_zero] <;> rfl) ?_
  refine wpL_v (v := .tuple #[.string ⟨(ly).toArray⟩, .int .i64 0]) rfl (by kernel_rfl) rfl (yb_call (f := 20) (args := #[.agg (frcC sy ny dy)]) (fun _ => by kernel_rfl) fun W hW => HT2.out W hW.1) (by simp only [List.setIfInBounds_toArray, List.set_cons_succ, List.set_cons_zero] <;> rfl) ?_
  refine wpL_p (v := .tuple #[.string ⟨(ly).toArray⟩, .int .i64 0]) rfl (by kernel_rfl) rfl (fun _ => by kernel_rfl) (by simp only [List.setIfInBounds_toArray, List.set_cons_succ, List.set_cons_zero] <;> rfl) ?_
  refine wpL_p (v := .string ⟨(ly).toArray⟩) rfl (by kernel_rfl) rfl (fun _ => by kernel_rfl) (by simp only [List.setIfInBounds_toArray, List.set_cons_succ, List.set_cons_zero] <;> rfl) ?_
  refine wpL_p (v := .int .i64 0) rfl (by kernel_rfl) rfl (fun _ => by kernel_rfl) (by simp only [List.setIfInBounds_toArray, List.set_cons_succ, List.set_cons_zero] <;> rfl) ?_
  refine wpL_p (v := .string ⟨(ly).toArray⟩) rfl (by kernel_rfl) rfl (fun _ => by kernel_rfl) (by simp only [List.setIfInBounds_toArray, List.set_cons_succ, List.set_cons_zero] <;> rfl) ?_
  refine wpL_p (v := .int .i64 0) rfl (by kernel_rfl) rfl (fun _ => by kernel_rfl) (by simp only [List.setIfInBounds_toArray, List.set_cons_succ, List.set_cons_zero] <;> rfl) ?_
  refine wpL_done (fun W5 hW5 => ?_)
  clear hW4
  refine (show Code.wp _ _ _ _ _ from ?_)
  refine wp_seq ?_
  refine wp_region_L (W0 := w) [(g2, .cells (frcC sy ny dy) 26 (0, 0)), (g1, .cells (frcC sx nx dx) 26 (0, 0))] (hW5) ?_
  refine wpL_p (v := .string ⟨(lx).toArray⟩) rfl (by kernel_rfl) rfl (fun _ => by kernel_rfl) (by simp only [List.setIfInBounds_toArray, List.set_cons_succ, List.set_cons_zero] <;> rfl) ?_
  refine wpL_v (v := .tuple #[.agg (frcC sx nx dx), .int .i64 0]) rfl (by kernel_rfl) rfl (yb_call (f := 21) (args := #[.string ⟨(lx).toArray⟩]) (fun _ => by kernel_rfl) fun W hW => HR1.out W hW.1) (by simp only [List.setIfInBounds_toArray, List.set_cons_succ, List.set_cons_zero] <;> rfl) ?_
  refine wpL_p (v := .tuple #[.agg (frcC sx nx dx), .int .i64 0]) rfl (by kernel_rfl) rfl (fun _ => by kernel_rfl) (by simp only [List.setIfInBounds_toArray, List.set_cons_succ, List.set_cons_zero] <;> rfl) ?_
  refine wpL_p (v := .agg (frcC sx nx dx)) rfl (by kernel_rfl) rfl (fun _ => by kernel_rfl) (by simp only [List.setIfInBounds_toArray, List.set_cons_succ, List.set_cons_zero] <;> rfl) ?_
  refine wpL_p (v := .int .i64 0) rfl (by kernel_rfl) rfl (fun _ => by kernel_rfl) (by simp only [List.setIfInBounds_toArray, List.set_cons_succ, List.set_cons_zero] <;> rfl) ?_
  refine wpL_new (fun g => .pointer (some ⟨g, 0, none⟩)) (obi := .cells (frcC false 0 0) 26 (0, 0)) rfl rfl (fun _ => by rw [frc_zero]; rfl) (fun _ => by simp only [List.setIfInBounds_toArray, List.set_cons_succ, List.set_cons_zero] <;> rfl) fun g3 Bg3 Fg3 => ?_
  try simp only [List.forall_mem_cons] at Fg3
  refine wpL_s [(g3, .cells (frcC sx nx dx) 26 (0, 0)), (g2, .cells (frcC sy ny dy) 26 (0, 0)), (g1, .cells (frcC sx nx dx) 26 (0, 0))] rfl rfl (st_f (neg := sx) (n := nx) (d := dx) rfl (by kernel_rfl) (by kernel_rfl) (.head _) (by omega) size27 (List.forall_mem_cons.2 ⟨.inl rfl, (List.forall_mem_cons.2 ⟨.inr ⟨(.tail _ (.head _)), Fg3.1⟩, (List.forall_mem_cons.2 ⟨.inr ⟨(.tail _ (.tail _ (.head _))), Fg3.2.1⟩, (List.forall_mem_nil _)⟩)⟩)⟩)) ?_
  refine wpL_p (v := .int .i64 0) rfl (by kernel_rfl) rfl (fun _ => by kernel_rfl) (by simp only [List.setIfInBounds_toArray, List.set_cons_succ, List.set_cons_zero] <;> rfl) ?_
  refine wpL_done (fun W6 hW6 => ?_)
  clear hW5
  refine (show Code.wp _ _ _ _ _ from ?_)
  refine wp_seq ?_
  refine wp_region_L (W0 := w) [(g3, .cells (frcC sx nx dx) 26 (0, 0)), (g2, .cells (frcC sy ny dy) 26 (0, 0)), (g1, .cells (frcC sx nx dx) 26 (0, 0))] (hW6) ?_
  refine wpL_p (v := .string ⟨(lx).toArray⟩) rfl (by kernel_rfl) rfl (fun _ => by kernel_rfl) (by simp only [List.setIfInBounds_toArray, List.set_cons_succ, List.set_cons_zero] <;> rfl) ?_
  refine wpL_p (v := .string ⟨(l1).toArray⟩) rfl (by kernel_rfl) rfl (run_bin rfl (vx := .string ⟨([48]).toArray⟩) (vy := .string ⟨(lx).toArray⟩) (by kernel_rfl) (by kernel_rfl) fun w => run_catS E1 (by simp; omega) w) (by simp only [List.setIfInBounds_toArray, List.set_cons_succ, List.set_cons_zero] <;> rfl) ?_
  refine wpL_v (v := .tuple #[.agg (frcC false 0 0), .int .i64 10]) rfl (by kernel_rfl) rfl (yb_call (f := 21) (args := #[.string ⟨(l1).toArray⟩]) (fun _ => by kernel_rfl) fun W hW => HR2.out W hW.1) (by simp only [List.setIfInBounds_toArray, List.set_cons_succ, List.set_cons_zero] <;> rfl) ?_
  refine wpL_p (v := .tuple #[.agg (frcC false 0 0), .int .i64 10]) rfl (by kernel_rfl) rfl (fun _ => by kernel_rfl) (by simp only [List.setIfInBounds_toArray, List.set_cons_succ, List.set_cons_zero] <;> rfl) ?_
  refine wpL_p (v := .agg (frcC false 0 0)) rfl (by kernel_rfl) rfl (fun _ => by kernel_rfl) (by simp only [List.setIfInBounds_toArray, List.set_cons_succ, List.set_cons_zero] <;> rfl) ?_
  refine wpL_p (v := .int .i64 10) rfl (by kernel_rfl) rfl (fun _ => by kernel_rfl) (by simp only [List.setIfInBounds_toArray, List.set_cons_succ, List.set_cons_zero] <;> rfl) ?_
  refine wpL_new (fun g => .pointer (some ⟨g, 0, none⟩)) (obi := .cells (frcC false 0 0) 26 (0, 0)) rfl rfl (fun _ => by rw [frc_zero]; rfl) (fun _ => by simp only [List.setIfInBounds_toArray, List.set_cons_succ, List.set_cons_zero] <;> rfl) fun g4 Bg4 Fg4 => ?_
  try simp only [List.forall_mem_cons] at Fg4
  refine wpL_s [(g4, .cells (frcC false 0 0) 26 (0, 0)), (g3, .cells (frcC sx nx dx) 26 (0, 0)), (g2, .cells (frcC sy ny dy) 26 (0, 0)), (g1, .cells (frcC sx nx dx) 26 (0, 0))] rfl rfl (st_f (neg := false) (n := 0) (d := 0) rfl (by kernel_rfl) (by kernel_rfl) (.head _) (by omega) size27 (List.forall_mem_cons.2 ⟨.inl rfl, (List.forall_mem_cons.2 ⟨.inr ⟨(.tail _ (.head _)), Fg4.1⟩, (List.forall_mem_cons.2 ⟨.inr ⟨(.tail _ (.tail _ (.head _))), Fg4.2.1⟩, (List.forall_mem_cons.2 ⟨.inr ⟨(.tail _ (.tail _ (.tail _ (.head _)))), Fg4.2.2.1⟩, (List.forall_mem_nil _)⟩)⟩)⟩)⟩)) ?_
  refine wpL_p (v := .int .i64 10) rfl (by kernel_rfl) rfl (fun _ => by kernel_rfl) (by simp only [List.setIfInBounds_toArray, List.set_cons_succ, List.set_cons_zero] <;> rfl) ?_
  refine wpL_done (fun W7 hW7 => ?_)
  clear hW6
  refine (show Code.wp _ _ _ _ _ from ?_)
  refine wp_seq ?_
  refine wp_region_L (W0 := w) [(g4, .cells (frcC false 0 0) 26 (0, 0)), (g3, .cells (frcC sx nx dx) 26 (0, 0)), (g2, .cells (frcC sy ny dy) 26 (0, 0)), (g1, .cells (frcC sx nx dx) 26 (0, 0))] (hW7) ?_
  refine wpL_p (v := .string ⟨(lx).toArray⟩) rfl (by kernel_rfl) rfl (fun _ => by kernel_rfl) (by simp only [List.setIfInBounds_toArray, List.set_cons_succ, List.set_cons_zero] <;> rfl) ?_
  refine wpL_p (v := .string ⟨(l2).toArray⟩) rfl (by kernel_rfl) rfl (run_bin rfl (vx := .string ⟨(lx).toArray⟩) (vy := .string ⟨([32]).toArray⟩) (by kernel_rfl) (by kernel_rfl) fun w => run_catS E2 (by simp; omega) w) (by simp only [List.setIfInBounds_toArray, List.set_cons_succ, List.set_cons_zero] <;> rfl) ?_
  refine wpL_v (v := .tuple #[.agg (frcC false 0 0), .int .i64 10]) rfl (by kernel_rfl) rfl (yb_call (f := 21) (args := #[.string ⟨(l2).toArray⟩]) (fun _ => by kernel_rfl) fun W hW => HR3.out W hW.1) (by simp only [List.setIfInBounds_toArray, List.set_cons_succ, List.set_cons_zero] <;> rfl) ?_
  refine wpL_p (v := .tuple #[.agg (frcC false 0 0), .int .i64 10]) rfl (by kernel_rfl) rfl (fun _ => by kernel_rfl) (by simp only [List.setIfInBounds_toArray, List.set_cons_succ, List.set_cons_zero] <;> rfl) ?_
  refine wpL_p (v := .agg (frcC false 0 0)) rfl (by kernel_rfl) rfl (fun _ => by kernel_rfl) (by simp only [List.setIfInBounds_toArray, List.set_cons_succ, List.set_cons_zero] <;> rfl) ?_
  refine wpL_p (v := .int .i64 10) rfl (by kernel_rfl) rfl (fun _ => by kernel_rfl) (by simp only [List.setIfInBounds_toArray, List.set_cons_succ, List.set_cons_zero] <;> rfl) ?_
  refine wpL_new (fun g => .pointer (some ⟨g, 0, none⟩)) (obi := .cells (frcC false 0 0) 26 (0, 0)) rfl rfl (fun _ => by rw [frc_zero]; rfl) (fun _ => by simp only [List.setIfInBounds_toArray, List.set_cons_succ, List.set_cons_zero] <;> rfl) fun g5 Bg5 Fg5 => ?_
  try simp only [List.forall_mem_cons] at Fg5
  refine wpL_s [(g5, .cells (frcC false 0 0) 26 (0, 0)), (g4, .cells (frcC false 0 0) 26 (0, 0)), (g3, .cells (frcC sx nx dx) 26 (0, 0)), (g2, .cells (frcC sy ny dy) 26 (0, 0)), (g1, .cells (frcC sx nx dx) 26 (0, 0))] rfl rfl (st_f (neg := false) (n := 0) (d := 0) rfl (by kernel_rfl) (by kernel_rfl) (.head _) (by omega) size27 (List.forall_mem_cons.2 ⟨.inl rfl, (List.forall_mem_cons.2 ⟨.inr ⟨(.tail _ (.head _)), Fg5.1⟩, (List.forall_mem_cons.2 ⟨.inr ⟨(.tail _ (.tail _ (.head _))), Fg5.2.1⟩, (List.forall_mem_cons.2 ⟨.inr ⟨(.tail _ (.tail _ (.tail _ (.head _)))), Fg5.2.2.1⟩, (List.forall_mem_cons.2 ⟨.inr ⟨(.tail _ (.tail _ (.tail _ (.tail _ (.head _))))), Fg5.2.2.2.1⟩, (List.forall_mem_nil _)⟩)⟩)⟩)⟩)⟩)) ?_
  refine wpL_p (v := .int .i64 10) rfl (by kernel_rfl) rfl (fun _ => by kernel_rfl) (by simp only [List.setIfInBounds_toArray, List.set_cons_succ, List.set_cons_zero] <;> rfl) ?_
  refine wpL_done (fun W8 hW8 => ?_)
  clear hW7
  refine (show Code.wp _ _ _ _ _ from ?_)
  refine wp_seq ?_
  refine wp_region_L (W0 := w) [(g5, .cells (frcC false 0 0) 26 (0, 0)), (g4, .cells (frcC false 0 0) 26 (0, 0)), (g3, .cells (frcC sx nx dx) 26 (0, 0)), (g2, .cells (frcC sy ny dy) 26 (0, 0)), (g1, .cells (frcC sx nx dx) 26 (0, 0))] (hW8) ?_
  refine wpL_p (v := .string ⟨(lx).toArray⟩) rfl (by kernel_rfl) rfl (fun _ => by kernel_rfl) (by simp only [List.setIfInBounds_toArray, List.set_cons_succ, List.set_cons_zero] <;> rfl) ?_
  refine wpL_p (v := .string ⟨(l3).toArray⟩) rfl (by kernel_rfl) rfl (run_bin rfl (vx := .string ⟨(lx).toArray⟩) (vy := .string ⟨([47, 49]).toArray⟩) (by kernel_rfl) (by kernel_rfl) fun w => run_catS E3 (by simp; omega) w) (by simp only [List.setIfInBounds_toArray, List.set_cons_succ, List.set_cons_zero] <;> rfl) ?_
  refine wpL_v (v := .tuple #[.agg (frcC false 0 0), .int .i64 11]) rfl (by kernel_rfl) rfl (yb_call (f := 21) (args := #[.string ⟨(l3).toArray⟩]) (fun _ => by kernel_rfl) fun W hW => HR4.out W hW.1) (by simp only [List.setIfInBounds_toArray, List.set_cons_succ, List.set_cons_zero] <;> rfl) ?_
  refine wpL_p (v := .tuple #[.agg (frcC false 0 0), .int .i64 11]) rfl (by kernel_rfl) rfl (fun _ => by kernel_rfl) (by simp only [List.setIfInBounds_toArray, List.set_cons_succ, List.set_cons_zero] <;> rfl) ?_
  refine wpL_p (v := .agg (frcC false 0 0)) rfl (by kernel_rfl) rfl (fun _ => by kernel_rfl) (by simp only [List.setIfInBounds_toArray, List.set_cons_succ, List.set_cons_zero] <;> rfl) ?_
  refine wpL_p (v := .int .i64 11) rfl (by kernel_rfl) rfl (fun _ => by kernel_rfl) (by simp only [List.setIfInBounds_toArray, List.set_cons_succ, List.set_cons_zero] <;> rfl) ?_
  refine wpL_new (fun g => .pointer (some ⟨g, 0, none⟩)) (obi := .cells (frcC false 0 0) 26 (0, 0)) rfl rfl (fun _ => by rw [frc_zero]; rfl) (fun _ => by simp only [List.setIfInBounds_toArray, List.set_cons_succ, List.set_cons_zero] <;> rfl) fun g6 Bg6 Fg6 => ?_
  try simp only [List.forall_mem_cons] at Fg6
  refine wpL_s [(g6, .cells (frcC false 0 0) 26 (0, 0)), (g5, .cells (frcC false 0 0) 26 (0, 0)), (g4, .cells (frcC false 0 0) 26 (0, 0)), (g3, .cells (frcC sx nx dx) 26 (0, 0)), (g2, .cells (frcC sy ny dy) 26 (0, 0)), (g1, .cells (frcC sx nx dx) 26 (0, 0))] rfl rfl (st_f (neg := false) (n := 0) (d := 0) rfl (by kernel_rfl) (by kernel_rfl) (.head _) (by omega) size27 (List.forall_mem_cons.2 ⟨.inl rfl, (List.forall_mem_cons.2 ⟨.inr ⟨(.tail _ (.head _)), Fg6.1⟩, (List.forall_mem_cons.2 ⟨.inr ⟨(.tail _ (.tail _ (.head _))), Fg6.2.1⟩, (List.forall_mem_cons.2 ⟨.inr ⟨(.tail _ (.tail _ (.tail _ (.head _)))), Fg6.2.2.1⟩, (List.forall_mem_cons.2 ⟨.inr ⟨(.tail _ (.tail _ (.tail _ (.tail _ (.head _))))), Fg6.2.2.2.1⟩, (List.forall_mem_cons.2 ⟨.inr ⟨(.tail _ (.tail _ (.tail _ (.tail _ (.tail _ (.head _)))))), Fg6.2.2.2.2.1⟩, (List.forall_mem_nil _)⟩)⟩)⟩)⟩)⟩)⟩)) ?_
  refine wpL_p (v := .int .i64 11) rfl (by kernel_rfl) rfl (fun _ => by kernel_rfl) (by simp only [List.setIfInBounds_toArray, List.set_cons_succ, List.set_cons_zero] <;> rfl) ?_
  refine wpL_done (fun W9 hW9 => ?_)
  clear hW8
  refine (show Code.wp _ _ _ _ _ from ?_)
  refine wp_seq ?_
  refine wp_region_L (W0 := w) [(g6, .cells (frcC false 0 0) 26 (0, 0)), (g5, .cells (frcC false 0 0) 26 (0, 0)), (g4, .cells (frcC false 0 0) 26 (0, 0)), (g3, .cells (frcC sx nx dx) 26 (0, 0)), (g2, .cells (frcC sy ny dy) 26 (0, 0)), (g1, .cells (frcC sx nx dx) 26 (0, 0))] (hW9) ?_
  refine wpL_p (v := .int .i64 11) rfl (by kernel_rfl) rfl (fun _ => by kernel_rfl) (by simp only [List.setIfInBounds_toArray, List.set_cons_succ, List.set_cons_zero] <;> rfl) ?_
  refine wpL_done (fun W10 hW10 => ?_)
  clear hW9
  refine (show Code.wp _ _ _ _ _ from ?_)
  refine wp_seq ?_
  refine wp_seq ?_
  refine wp_region_L (W0 := w) [(g6, .cells (frcC false 0 0) 26 (0, 0)), (g5, .cells (frcC false 0 0) 26 (0, 0)), (g4, .cells (frcC false 0 0) 26 (0, 0)), (g3, .cells (frcC sx nx dx) 26 (0, 0)), (g2, .cells (frcC sy ny dy) 26 (0, 0)), (g1, .cells (frcC sx nx dx) 26 (0, 0))] (hW10) ?_
  refine wpL_p (v := .string ⟨(lx).toArray⟩) rfl (by kernel_rfl) rfl (fun _ => by kernel_rfl) (by simp only [List.setIfInBounds_toArray, List.set_cons_succ, List.set_cons_zero] <;> rfl) ?_
  refine wpL_v (v := .bool false) rfl (by kernel_rfl) rfl (yb_call (f := 22) (args := #[.string ⟨(lx).toArray⟩, .string ⟨#[47]⟩]) (fun _ => by kernel_rfl) fun W hW => HC.out W) (by simp only [List.setIfInBounds_toArray, List.set_cons_succ, List.set_cons_zero] <;> rfl) ?_
  refine wpL_done (fun W11 hW11 => ?_)
  clear hW10
  refine (show Code.wp _ _ _ _ _ from ?_)
  refine wp_cond_false rfl ?_
  refine wp_skip ?_
  refine (show Code.wp _ _ _ _ _ from ?_)
  refine wp_seq ?_
  refine wp_region_L (W0 := w) [(g6, .cells (frcC false 0 0) 26 (0, 0)), (g5, .cells (frcC false 0 0) 26 (0, 0)), (g4, .cells (frcC false 0 0) 26 (0, 0)), (g3, .cells (frcC sx nx dx) 26 (0, 0)), (g2, .cells (frcC sy ny dy) 26 (0, 0)), (g1, .cells (frcC sx nx dx) 26 (0, 0))] (hW11) ?_
  refine wpL_p (v := .int .i64 0) rfl (by kernel_rfl) rfl (fun _ => by kernel_rfl) (by simp only [List.setIfInBounds_toArray, List.set_cons_succ, List.set_cons_zero] <;> rfl) ?_
  refine wpL_p (v := .int .i64 0) rfl (by kernel_rfl) rfl (fun _ => by kernel_rfl) (by simp only [List.setIfInBounds_toArray, List.set_cons_succ, List.set_cons_zero] <;> rfl) ?_
  refine wpL_p (v := .int .i64 0) rfl (by kernel_rfl) rfl (fun _ => by kernel_rfl) (by simp only [List.setIfInBounds_toArray, List.set_cons_succ, List.set_cons_zero] <;> rfl) ?_
  refine wpL_new (fun g => .slice (some ⟨g, 0, none⟩) 3 3) (obi := .cells #[.int .i64 0, .int .i64 0, .int .i64 0] 29 (0, 0)) rfl rfl (fun _ => by kernel_rfl) (fun _ => by simp only [List.setIfInBounds_toArray, List.set_cons_succ, List.set_cons_zero] <;> rfl) fun g7 Bg7 Fg7 => ?_
  try simp only [List.forall_mem_cons] at Fg7
  refine wpL_v (v := .bool true) rfl (by kernel_rfl) rfl (yb_call (f := 14) (args := #[.slice (some ⟨g7, 0, none⟩) 3 3]) (fun _ => by kernel_rfl) fun W hW => all_W 3 (by omega) rfl (hW.2 _ (.head _))) (by simp only [List.setIfInBounds_toArray, List.set_cons_succ, List.set_cons_zero] <;> rfl) ?_
  refine wpL_p (v := .bool true) rfl (by kernel_rfl) rfl (fun _ => by kernel_rfl) (by simp only [List.setIfInBounds_toArray, List.set_cons_succ, List.set_cons_zero] <;> rfl) ?_
  refine wpL_v (v := .agg (frcC sx nx dx)) rfl (by kernel_rfl) rfl (yb_load rfl (by kernel_rfl) (.tail _ (.tail _ (.tail _ (.tail _ (.head _))))) Tryd.underlying26 rfl size27 (by simp) (frc_whole sx nx dx)) (by simp only [List.setIfInBounds_toArray, List.set_cons_succ, List.set_cons_zero] <;> rfl) ?_
  refine wpL_v (v := .agg (frcC sx nx dx)) rfl (by kernel_rfl) rfl (yb_load rfl (by kernel_rfl) (.tail _ (.tail _ (.tail _ (.tail _ (.tail _ (.tail _ (.head _))))))) Tryd.underlying26 rfl size27 (by simp) (frc_whole sx nx dx)) (by simp only [List.setIfInBounds_toArray, List.set_cons_succ, List.set_cons_zero] <;> rfl) ?_
  refine wpL_p (v := .bool true) rfl (by kernel_rfl) rfl (run_bin rfl (vx := .agg (frcC sx nx dx)) (vy := .agg (frcC sx nx dx)) (by kernel_rfl) (by kernel_rfl) fun w => run_eql27s Hnx Hdx w) (by simp only [List.setIfInBounds_toArray, List.set_cons_succ, List.set_cons_zero] <;> rfl) ?_
  refine wpL_p (v := .bool true) rfl (by kernel_rfl) rfl (fun _ => by kernel_rfl) (by simp only [List.setIfInBounds_toArray, List.set_cons_succ, List.set_cons_zero] <;> rfl) ?_
  refine wpL_p (v := .bool true) rfl (by kernel_rfl) rfl (fun _ => by kernel_rfl) (by simp only [List.setIfInBounds_toArray, List.set_cons_succ, List.set_cons_zero] <;> rfl) ?_
  refine wpL_p (v := .string ⟨(lx).toArray⟩) rfl (by kernel_rfl) rfl (fun _ => by kernel_rfl) (by simp only [List.setIfInBounds_toArray, List.set_cons_succ, List.set_cons_zero] <;> rfl) ?_
  refine wpL_p (v := .string ⟨(ly).toArray⟩) rfl (by kernel_rfl) rfl (fun _ => by kernel_rfl) (by simp only [List.setIfInBounds_toArray, List.set_cons_succ, List.set_cons_zero] <;> rfl) ?_
  refine wpL_p (v := .bool false) rfl (by kernel_rfl) rfl (run_bin rfl (vx := .string ⟨(lx).toArray⟩) (vy := .string ⟨(ly).toArray⟩) (by kernel_rfl) (by kernel_rfl) fun w => run_eqs Hst w) (by simp only [List.setIfInBounds_toArray, List.set_cons_succ, List.set_cons_zero] <;> rfl) ?_
  refine wpL_v (v := .agg (frcC sx nx dx)) rfl (by kernel_rfl) rfl (yb_load rfl (by kernel_rfl) (.tail _ (.tail _ (.tail _ (.tail _ (.tail _ (.tail _ (.head _))))))) Tryd.underlying26 rfl size27 (by simp) (frc_whole sx nx dx)) (by simp only [List.setIfInBounds_toArray, List.set_cons_succ, List.set_cons_zero] <;> rfl) ?_
  refine wpL_v (v := .agg (frcC sy ny dy)) rfl (by kernel_rfl) rfl (yb_load rfl (by kernel_rfl) (.tail _ (.tail _ (.tail _ (.tail _ (.tail _ (.head _)))))) Tryd.underlying26 rfl size27 (by simp) (frc_whole sy ny dy)) (by simp only [List.setIfInBounds_toArray, List.set_cons_succ, List.set_cons_zero] <;> rfl) ?_
  refine wpL_p (v := .bool false) rfl (by kernel_rfl) rfl (run_bin rfl (vx := .agg (frcC sx nx dx)) (vy := .agg (frcC sy ny dy)) (by kernel_rfl) (by kernel_rfl) fun w => run_eql27x Hnx Hny Hdx Hdy Hne_0 w) (by simp only [List.setIfInBounds_toArray, List.set_cons_succ, List.set_cons_zero] <;> rfl) ?_
  refine wpL_p (v := .bool true) rfl (by kernel_rfl) rfl (fun _ => by kernel_rfl) (by simp only [List.setIfInBounds_toArray, List.set_cons_succ, List.set_cons_zero] <;> rfl) ?_
  refine wpL_p (v := .bool true) rfl (by kernel_rfl) rfl (fun _ => by kernel_rfl) (by simp only [List.setIfInBounds_toArray, List.set_cons_succ, List.set_cons_zero] <;> rfl) ?_
  refine wpL_p (v := .bool true) rfl (by kernel_rfl) rfl (fun _ => by kernel_rfl) (by simp only [List.setIfInBounds_toArray, List.set_cons_succ, List.set_cons_zero] <;> rfl) ?_
  refine wpL_p (v := .int .i64 10) rfl (by kernel_rfl) rfl (fun _ => by kernel_rfl) (by simp only [List.setIfInBounds_toArray, List.set_cons_succ, List.set_cons_zero] <;> rfl) ?_
  refine wpL_p (v := .bool true) rfl (by kernel_rfl) rfl (fun _ => by kernel_rfl) (by simp only [List.setIfInBounds_toArray, List.set_cons_succ, List.set_cons_zero] <;> rfl) ?_
  refine wpL_p (v := .bool true) rfl (by kernel_rfl) rfl (fun _ => by kernel_rfl) (by simp only [List.setIfInBounds_toArray, List.set_cons_succ, List.set_cons_zero] <;> rfl) ?_
  refine wpL_p (v := .bool true) rfl (by kernel_rfl) rfl (fun _ => by kernel_rfl) (by simp only [List.setIfInBounds_toArray, List.set_cons_succ, List.set_cons_zero] <;> rfl) ?_
  refine wpL_p (v := .int .i64 10) rfl (by kernel_rfl) rfl (fun _ => by kernel_rfl) (by simp only [List.setIfInBounds_toArray, List.set_cons_succ, List.set_cons_zero] <;> rfl) ?_
  refine wpL_p (v := .bool true) rfl (by kernel_rfl) rfl (fun _ => by kernel_rfl) (by simp only [List.setIfInBounds_toArray, List.set_cons_succ, List.set_cons_zero] <;> rfl) ?_
  refine wpL_p (v := .bool true) rfl (by kernel_rfl) rfl (fun _ => by kernel_rfl) (by simp only [List.setIfInBounds_toArray, List.set_cons_succ, List.set_cons_zero] <;> rfl) ?_
  refine wpL_p (v := .bool true) rfl (by kernel_rfl) rfl (fun _ => by kernel_rfl) (by simp only [List.setIfInBounds_toArray, List.set_cons_succ, List.set_cons_zero] <;> rfl) ?_
  refine wpL_p (v := .int .i64 11) rfl (by kernel_rfl) rfl (fun _ => by kernel_rfl) (by simp only [List.setIfInBounds_toArray, List.set_cons_succ, List.set_cons_zero] <;> rfl) ?_
  refine wpL_p (v := .int .i64 11) rfl (by kernel_rfl) rfl (fun _ => by kernel_rfl) (by simp only [List.setIfInBounds_toArray, List.set_cons_succ, List.set_cons_zero] <;> rfl) ?_
  refine wpL_p (v := .bool true) rfl (by kernel_rfl) rfl (fun _ => by kernel_rfl) (by simp only [List.setIfInBounds_toArray, List.set_cons_succ, List.set_cons_zero] <;> rfl) ?_
  refine wpL_p (v := .bool true) rfl (by kernel_rfl) rfl (fun _ => by kernel_rfl) (by simp only [List.setIfInBounds_toArray, List.set_cons_succ, List.set_cons_zero] <;> rfl) ?_
  refine wpL_p (v := .bool true) rfl (by kernel_rfl) rfl (fun _ => by kernel_rfl) (by simp only [List.setIfInBounds_toArray, List.set_cons_succ, List.set_cons_zero] <;> rfl) ?_
  refine wpL_done (fun W12 hW12 => ?_)
  clear hW11
  refine (show Code.wp _ _ _ _ _ from ?_)
  refine wp_ret ?_
  go_ret
  exact ⟨rfl, hW12.1⟩
end Go.Proofs.YtkfcikijmkgahaaDoor
