import Derived.Test.YtkfcikijmkgahaaDoorG05
import Derived.Test.YtkfcikijmkgahaaDoorG22
import Derived.Outline
import Derived.Deep.Cut
/- Part of the proof: Aw. -/
set_option linter.unusedVariables false
set_option linter.unusedSimpArgs false
set_option linter.unusedSectionVars false
namespace Go.Proofs.YtkfcikijmkgahaaDoor
open Go.RowKit Tw
theorem ba_app' (a b : List UInt8) : (⟨a.toArray⟩ : ByteArray) ++ ⟨b.toArray⟩ = ⟨(a ++ b).toArray⟩ := by
  apply ByteArray.ext
  rw [ByteArray.data_append]
  simp
theorem run_cat {x y : Operand} (w : World) : (do eqGuard .add 9 x y (.string ⟨#[49]⟩) R78; binOp .add 9 (.string ⟨#[49]⟩) R78 : Sem Value).run Tryd.prog w = .ok S79 w := by
  unfold R78 S79
  have h : ¬ 9223372036854775807 < 1 + (Lib.repeatL [48] 78).length := by rw [Lib.repeatL_length]; simp
  go_simp
  exact ba_app' [49] _
set_option maxRecDepth 100000 in
set_option maxHeartbeats 8000000 in
theorem awake_walk (w : World)
    (HR0 : Hid (∀ W, Calls Tryd.prog 27 #[.int .i64 1, .int .i64 6] W fun e w' => e = .returned (.agg (frcC false 1 6)) ∧ Below W.heap.size W w'))
    (HR1 : Hid (∀ W, Calls Tryd.prog 27 #[.int .i64 1, .int .i64 10] W fun e w' => e = .returned (.agg (frcC false 1 10)) ∧ Below W.heap.size W w'))
    (HR2 : Hid (∀ W, Calls Tryd.prog 27 #[.int .i64 6, .int .i64 (-4)] W fun e w' => e = .returned (.agg (frcC true 3 2)) ∧ Below W.heap.size W w'))
    (HR3 : Hid (∀ W, Calls Tryd.prog 27 #[.int .i64 (-3), .int .i64 2] W fun e w' => e = .returned (.agg (frcC true 3 2)) ∧ Below W.heap.size W w'))
    (HR4 : Hid (∀ W, Calls Tryd.prog 27 #[.int .i64 3, .int .i64 2] W fun e w' => e = .returned (.agg (frcC false 3 2)) ∧ Below W.heap.size W w'))
    (HR5 : Hid (∀ W, Calls Tryd.prog 27 #[.int .i64 4, .int .i64 15] W fun e w' => e = .returned (.agg (frcC false 4 15)) ∧ Below W.heap.size W w'))
    (HR6 : Hid (∀ W, Calls Tryd.prog 27 #[.int .i64 1, .int .i64 15] W fun e w' => e = .returned (.agg (frcC false 1 15)) ∧ Below W.heap.size W w'))
    (HR7 : Hid (∀ W, Calls Tryd.prog 27 #[.int .i64 1, .int .i64 60] W fun e w' => e = .returned (.agg (frcC false 1 60)) ∧ Below W.heap.size W w'))
    (HR8 : Hid (∀ W, Calls Tryd.prog 27 #[.int .i64 5, .int .i64 3] W fun e w' => e = .returned (.agg (frcC false 5 3)) ∧ Below W.heap.size W w'))
    (HAd : Hid (∀ W, Calls Tryd.prog 12 #[.agg (frcC false 1 6), .agg (frcC false 1 10)] W fun e w' => e = .returned (.tuple #[.agg (frcC false 4 15), .int .i64 0]) ∧ Below W.heap.size W w'))
    (HSu : Hid (∀ W, Calls Tryd.prog 13 #[.agg (frcC false 1 6), .agg (frcC false 1 10)] W fun e w' => e = .returned (.tuple #[.agg (frcC false 1 15), .int .i64 0]) ∧ Below W.heap.size W w'))
    (HMu : Hid (∀ W, Calls Tryd.prog 15 #[.agg (frcC false 1 6), .agg (frcC false 1 10)] W fun e w' => e = .returned (.tuple #[.agg (frcC false 1 60), .int .i64 0]) ∧ Below W.heap.size W w'))
    (HDi : Hid (∀ W, Calls Tryd.prog 17 #[.agg (frcC false 1 6), .agg (frcC false 1 10)] W fun e w' => e = .returned (.tuple #[.agg (frcC false 5 3), .int .i64 0]) ∧ Below W.heap.size W w'))
    (HF1 : Hid (∀ W, Calls Tryd.prog 19 #[.agg (frcC true 3 2)] W fun e w' => e = .returned (.tuple #[.int .i64 (-2), .int .i64 0]) ∧ Below W.heap.size W w'))
    (HF2 : Hid (∀ W, Calls Tryd.prog 19 #[.agg (frcC false 3 2)] W fun e w' => e = .returned (.tuple #[.int .i64 1, .int .i64 0]) ∧ Below W.heap.size W w'))
    (HTx : Hid (∀ W, Below w.heap.size w W → Calls Tryd.prog 20 #[.agg (frcC true 3 2)] W fun e w' => e = .returned (.tuple #[.string ⟨#[45, 51, 47, 50]⟩, .int .i64 0]) ∧ Below W.heap.size W w'))
    (HRd : Hid (∀ W, Below w.heap.size w W → Calls Tryd.prog 21 #[.string ⟨#[45, 51, 47, 50]⟩] W fun e w' => e = .returned (.tuple #[.agg (frcC true 3 2), .int .i64 0]) ∧ Below W.heap.size W w'))
    (HRp : ∀ W, Calls Tryd.prog 28 #[.string ⟨#[48]⟩, .int .i64 78] W fun e w' => e = .returned R78 ∧ Below W.heap.size W w')
    (HRc : Hid (∀ l e, (l, e) ∈ L8 → ∀ W, Below w.heap.size w W → Calls Tryd.prog 21 #[strV l] W fun x w' => x = .returned (.tuple #[.agg (frcC false 0 0), .int .i64 e]) ∧ Below W.heap.size W w')) :
    Calls Tryd.prog 10 #[] w fun e w' => e = .returned (.bool true) ∧ Below w.heap.size w w' := by
  go_enter Tryd.func10, Tryd.ntmps10
  refine wp_seq ?_
  refine wp_region_L (W0 := w) [] (KS.start w) ?_
  refine wpL_p (v := .bool false) rfl (by kernel_rfl) rfl (fun _ => by kernel_rfl) (by simp only [List.setIfInBounds_toArray, List.set_cons_succ, List.set_cons_zero] <;> rfl) ?_
  refine wpL_done (fun W1 hW1 => ?_)
  refine (show Code.wp _ _ _ _ _ from ?_)
  refine wp_seq ?_
  refine wp_region_L (W0 := w) [] (hW1) ?_
  refine wpL_v (v := .agg (frcC false 1 6)) rfl (by kernel_rfl) rfl (yb_call (f := 27) (args := #[.int .i64 1, .int .i64 6]) (fun _ => by kernel_rfl) fun W hW => HR0.out W) (by simp only [List.setIfInBounds_toArray, List.set_cons_succ, List.set_cons_zero] <;> rfl) ?_
  refine wpL_v (v := .agg (frcC false 1 10)) rfl (by kernel_rfl) rfl (yb_call (f := 27) (args := #[.int .i64 1, .int .i64 10]) (fun _ => by kernel_rfl) fun W hW => HR1.out W) (by simp only [List.setIfInBounds_toArray, List.set_cons_succ, List.set_cons_zero] <;> rfl) ?_
  refine wpL_new (fun g => .pointer (some ⟨g, 0, none⟩)) (obi := .cells (frcC false 0 0) 26 (0, 0)) rfl rfl (fun _ => by rw [frc_zero]; rfl) (fun _ => by simp only [List.setIfInBounds_toArray, List.set_cons_succ, List.set_cons_zero] <;> rfl) fun g1 Bg1 Fg1 => ?_
  try simp only [List.forall_mem_cons] at Fg1
  refine wpL_new (fun g => .pointer (some ⟨g, 0, none⟩)) (obi := .cells (frcC false 0 0) 26 (0, 0)) rfl rfl (fun _ => by rw [frc_zero]; rfl) (fun _ => by simp only [List.setIfInBounds_toArray, List.set_cons_succ, List.set_cons_zero] <;> rfl) fun g2 Bg2 Fg2 => ?_
  try simp only [List.forall_mem_cons] at Fg2
  refine wpL_s [(g2, .cells (frcC false 0 0) 26 (0, 0)), (g1, .cells (frcC false 1 6) 26 (0, 0))] rfl rfl (st_f (neg := false) (n := 1) (d := 6) rfl (by kernel_rfl) (by kernel_rfl) (.tail _ (.head _)) (by omega) size27 (by intro p hp; simp only [List.mem_cons, List.not_mem_nil, or_false] at hp; rcases hp with rfl | rfl; exact .inr ⟨by simp, by simp only; omega⟩; exact .inl rfl)) ?_
  refine wpL_s [(g2, .cells (frcC false 1 10) 26 (0, 0)), (g1, .cells (frcC false 1 6) 26 (0, 0))] rfl rfl (st_f (neg := false) (n := 1) (d := 10) rfl (by kernel_rfl) (by kernel_rfl) (.head _) (by omega) size27 (by intro p hp; simp only [List.mem_cons, List.not_mem_nil, or_false] at hp; rcases hp with rfl | rfl; exact .inl rfl; exact .inr ⟨by simp, by simp only; omega⟩)) ?_
  refine wpL_done (fun W2 hW2 => ?_)
  clear hW1
  refine (show Code.wp _ _ _ _ _ from ?_)
  refine wp_seq ?_
  refine wp_region_L (W0 := w) [(g2, .cells (frcC false 1 10) 26 (0, 0)), (g1, .cells (frcC false 1 6) 26 (0, 0))] (hW2) ?_
  refine wpL_v (v := .agg (frcC false 1 6)) rfl (by kernel_rfl) rfl (yb_load rfl (by kernel_rfl) (.tail _ (.head _)) Tryd.underlying26 rfl size27 (by simp) (frc_whole false 1 6)) (by simp only [List.setIfInBounds_toArray, List.set_cons_succ, List.set_cons_zero] <;> rfl) ?_
  refine wpL_v (v := .agg (frcC false 1 10)) rfl (by kernel_rfl) rfl (yb_load rfl (by kernel_rfl) (.head _) Tryd.underlying26 rfl size27 (by simp) (frc_whole false 1 10)) (by simp only [List.setIfInBounds_toArray, List.set_cons_succ, List.set_cons_zero] <;> rfl) ?_
  refine wpL_v (v := .tuple #[.agg (frcC false 4 15), .int .i64 0]) rfl (by kernel_rfl) rfl (yb_call (f := 12) (args := #[.agg (frcC false 1 6), .agg (frcC false 1 10)]) (fun _ => by kernel_rfl) fun W hW => HAd.out W) (by simp only [List.setIfInBounds_toArray, List.set_cons_succ, List.set_cons_zero] <;> rfl) ?_
  refine wpL_p (v := .tuple #[.agg (frcC false 4 15), .int .i64 0]) rfl (by kernel_rfl) rfl (fun _ => by kernel_rfl) (by simp only [List.setIfInBounds_toArray, List.set_cons_succ, List.set_cons_zero] <;> rfl) ?_
  refine wpL_p (v := .agg (frcC false 4 15)) rfl (by kernel_rfl) rfl (fun _ => by kernel_rfl) (by simp only [List.setIfInBounds_toArray, List.set_cons_succ, List.set_cons_zero] <;> rfl) ?_
  refine wpL_p (v := .int .i64 0) rfl (by kernel_rfl) rfl (fun _ => by kernel_rfl) (by simp only [List.setIfInBounds_toArray, List.set_cons_succ, List.set_cons_zero] <;> rfl) ?_
  refine wpL_new (fun g => .pointer (some ⟨g, 0, none⟩)) (obi := .cells (frcC false 0 0) 26 (0, 0)) rfl rfl (fun _ => by rw [frc_zero]; rfl) (fun _ => by simp only [List.setIfInBounds_toArray, List.set_cons_succ, List.set_cons_zero] <;> rfl) fun g3 Bg3 Fg3 => ?_
  try simp only [List.forall_mem_cons] at Fg3
  refine wpL_s [(g3, .cells (frcC false 4 15) 26 (0, 0)), (g2, .cells (frcC false 1 10) 26 (0, 0)), (g1, .cells (frcC false 1 6) 26 (0, 0))] rfl rfl (st_f (neg := false) (n := 4) (d := 15) rfl (by kernel_rfl) (by kernel_rfl) (.head _) (by omega) size27 (by intro p hp; simp only [List.mem_cons, List.not_mem_nil, or_false] at hp; rcases hp with rfl | rfl | rfl; exact .inl rfl; exact .inr ⟨by simp, by simp only; omega⟩; exact .inr ⟨by simp, by simp only; omega⟩)) ?_
  refine wpL_p (v := .int .i64 0) rfl (by kernel_rfl) rfl (fun _ => by kernel_rfl) (by simp only [List.setIfInBounds_toArray, List.set_cons_succ, List.set_cons_zero] <;> rfl) ?_
  refine wpL_done (fun W3 hW3 => ?_)
  clear hW2
  refine (show Code.wp _ _ _ _ _ from ?_)
  refine wp_seq ?_
  refine wp_region_L (W0 := w) [(g3, .cells (frcC false 4 15) 26 (0, 0)), (g2, .cells (frcC false 1 10) 26 (0, 0)), (g1, .cells (frcC false 1 6) 26 (0, 0))] (hW3) ?_
  refine wpL_v (v := .agg (frcC false 1 6)) rfl (by kernel_rfl) rfl (yb_load rfl (by kernel_rfl) (.tail _ (.tail _ (.head _))) Tryd.underlying26 rfl size27 (by simp) (frc_whole false 1 6)) (by simp only [List.setIfInBounds_toArray, List.set_cons_succ, List.set_cons_zero] <;> rfl) ?_
  refine wpL_v (v := .agg (frcC false 1 10)) rfl (by kernel_rfl) rfl (yb_load rfl (by kernel_rfl) (.tail _ (.head _)) Tryd.underlying26 rfl size27 (by simp) (frc_whole false 1 10)) (by simp only [List.setIfInBounds_toArray, List.set_cons_succ, List.set_cons_zero] <;> rfl) ?_
  refine wpL_v (v := .tuple #[.agg (frcC false 1 15), .int .i64 0]) rfl (by kernel_rfl) rfl (yb_call (f := 13) (args := #[.agg (frcC false 1 6), .agg (frcC false 1 10)]) (fun _ => by kernel_rfl) fun W hW => HSu.out W) (by simp only [List.setIfInBounds_toArray, List.set_cons_succ, List.set_cons_zero] <;> rfl) ?_
  refine wpL_p (v := .tuple #[.agg (frcC false 1 15), .int .i64 0]) rfl (by kernel_rfl) rfl (fun _ => by kernel_rfl) (by simp only [List.setIfInBounds_toArray, List.set_cons_succ, List.set_cons_zero] <;> rfl) ?_
  refine wpL_p (v := .agg (frcC false 1 15)) rfl (by kernel_rfl) rfl (fun _ => by kernel_rfl) (by simp only [List.setIfInBounds_toArray, List.set_cons_succ, List.set_cons_zero] <;> rfl) ?_
  refine wpL_p (v := .int .i64 0) rfl (by kernel_rfl) rfl (fun _ => by kernel_rfl) (by simp only [List.setIfInBounds_toArray, List.set_cons_succ, List.set_cons_zero] <;> rfl) ?_
  refine wpL_new (fun g => .pointer (some ⟨g, 0, none⟩)) (obi := .cells (frcC false 0 0) 26 (0, 0)) rfl rfl (fun _ => by rw [frc_zero]; rfl) (fun _ => by simp only [List.setIfInBounds_toArray, List.set_cons_succ, List.set_cons_zero] <;> rfl) fun g4 Bg4 Fg4 => ?_
  try simp only [List.forall_mem_cons] at Fg4
  refine wpL_s [(g4, .cells (frcC false 1 15) 26 (0, 0)), (g3, .cells (frcC false 4 15) 26 (0, 0)), (g2, .cells (frcC false 1 10) 26 (0, 0)), (g1, .cells (frcC false 1 6) 26 (0, 0))] rfl rfl (st_f (neg := false) (n := 1) (d := 15) rfl (by kernel_rfl) (by kernel_rfl) (.head _) (by omega) size27 (by intro p hp; simp only [List.mem_cons, List.not_mem_nil, or_false] at hp; rcases hp with rfl | rfl | rfl | rfl; exact .inl rfl; exact .inr ⟨by simp, by simp only; omega⟩; exact .inr ⟨by simp, by simp only; omega⟩; exact .inr ⟨by simp, by simp only; omega⟩)) ?_
  refine wpL_p (v := .int .i64 0) rfl (by kernel_rfl) rfl (fun _ => by kernel_rfl) (by simp only [List.setIfInBounds_toArray, List.set_cons_succ, List.set_cons_zero] <;> rfl) ?_
  refine wpL_done (fun W4 hW4 => ?_)
  clear hW3
  refine (show Code.wp _ _ _ _ _ from ?_)
  refine wp_seq ?_
  refine wp_region_L (W0 := w) [(g4, .cells (frcC false 1 15) 26 (0, 0)), (g3, .cells (frcC false 4 15) 26 (0, 0)), (g2, .cells (frcC false 1 10) 26 (0, 0)), (g1, .cells (frcC false 1 6) 26 (0, 0))] (hW4) ?_
  refine wpL_v (v := .agg (frcC false 1 6)) rfl (by kernel_rfl) rfl (yb_load rfl (by kernel_rfl) (.tail _ (.tail _ (.tail _ (.head _)))) Tryd.underlying26 rfl size27 (by simp) (frc_whole false 1 6)) (by simp only [List.setIfInBounds_toArray, List.set_cons_succ, List.set_cons_zero] <;> rfl) ?_
  refine wpL_v (v := .agg (frcC false 1 10)) rfl (by kernel_rfl) rfl (yb_load rfl (by kernel_rfl) (.tail _ (.tail _ (.head _))) Tryd.underlying26 rfl size27 (by simp) (frc_whole false 1 10)) (by simp only [List.setIfInBounds_toArray, List.set_cons_succ, List.set_cons_zero] <;> rfl) ?_
  refine wpL_v (v := .tuple #[.agg (frcC false 1 60), .int .i64 0]) rfl (by kernel_rfl) rfl (yb_call (f := 15) (args := #[.agg (frcC false 1 6), .agg (frcC false 1 10)]) (fun _ => by kernel_rfl) fun W hW => HMu.out W) (by simp only [List.setIfInBounds_toArray, List.set_cons_succ, List.set_cons_zero] <;> rfl) ?_
  refine wpL_p (v := .tuple #[.agg (frcC false 1 60), .int .i64 0]) rfl (by kernel_rfl) rfl (fun _ => by kernel_rfl) (by simp only [List.setIfInBounds_toArray, List.set_cons_succ, List.set_cons_zero] <;> rfl) ?_
  refine wpL_p (v := .agg (frcC false 1 60)) rfl (by kernel_rfl) rfl (fun _ => by kernel_rfl) (by simp only [List.setIfInBounds_toArray, List.set_cons_succ, List.set_cons_zero] <;> rfl) ?_
  refine wpL_p (v := .int .i64 0) rfl (by kernel_rfl) rfl (fun _ => by kernel_rfl) (by simp only [List.setIfInBounds_toArray, List.set_cons_succ, List.set_cons_zero] <;> rfl) ?_
  refine wpL_new (fun g => .pointer (some ⟨g, 0, none⟩)) (obi := .cells (frcC false 0 0) 26 (0, 0)) rfl rfl (fun _ => by rw [frc_zero]; rfl) (fun _ => by simp only [List.setIfInBounds_toArray, List.set_cons_succ, List.set_cons_zero] <;> rfl) fun g5 Bg5 Fg5 => ?_
  try simp only [List.forall_mem_cons] at Fg5
  refine wpL_s [(g5, .cells (frcC false 1 60) 26 (0, 0)), (g4, .cells (frcC false 1 15) 26 (0, 0)), (g3, .cells (frcC false 4 15) 26 (0, 0)), (g2, .cells (frcC false 1 10) 26 (0, 0)), (g1, .cells (frcC false 1 6) 26 (0, 0))] rfl rfl (st_f (neg := false) (n := 1) (d := 60) rfl (by kernel_rfl) (by kernel_rfl) (.head _) (by omega) size27 (by intro p hp; simp only [List.mem_cons, List.not_mem_nil, or_false] at hp; rcases hp with rfl | rfl | rfl | rfl | rfl; exact .inl rfl; exact .inr ⟨by simp, by simp only; omega⟩; exact .inr ⟨by simp, by simp only; omega⟩; exact .inr ⟨by simp, by simp only; omega⟩; exact .inr ⟨by simp, by simp only; omega⟩)) ?_
  refine wpL_p (v := .int .i64 0) rfl (by kernel_rfl) rfl (fun _ => by kernel_rfl) (by simp only [List.setIfInBounds_toArray, List.set_cons_succ, List.set_cons_zero] <;> rfl) ?_
  refine wpL_done (fun W5 hW5 => ?_)
  clear hW4
  refine (show Code.wp _ _ _ _ _ from ?_)
  refine wp_seq ?_
  refine wp_region_L (W0 := w) [(g5, .cells (frcC false 1 60) 26 (0, 0)), (g4, .cells (frcC false 1 15) 26 (0, 0)), (g3, .cells (frcC false 4 15) 26 (0, 0)), (g2, .cells (frcC false 1 10) 26 (0, 0)), (g1, .cells (frcC false 1 6) 26 (0, 0))] (hW5) ?_
  refine wpL_v (v := .agg (frcC false 1 6)) rfl (by kernel_rfl) rfl (yb_load rfl (by kernel_rfl) (.tail _ (.tail _ (.tail _ (.tail _ (.head _))))) Tryd.underlying26 rfl size27 (by simp) (frc_whole false 1 6)) (by simp only [List.setIfInBounds_toArray, List.set_cons_succ, List.set_cons_zero] <;> rfl) ?_
  refine wpL_v (v := .agg (frcC false 1 10)) rfl (by kernel_rfl) rfl (yb_load rfl (by kernel_rfl) (.tail _ (.tail _ (.tail _ (.head _)))) Tryd.underlying26 rfl size27 (by simp) (frc_whole false 1 10)) (by simp only [List.setIfInBounds_toArray, List.set_cons_succ, List.set_cons_zero] <;> rfl) ?_
  refine wpL_v (v := .tuple #[.agg (frcC false 5 3), .int .i64 0]) rfl (by kernel_rfl) rfl (yb_call (f := 17) (args := #[.agg (frcC false 1 6), .agg (frcC false 1 10)]) (fun _ => by kernel_rfl) fun W hW => HDi.out W) (by simp only [List.setIfInBounds_toArray, List.set_cons_succ, List.set_cons_zero] <;> rfl) ?_
  refine wpL_p (v := .tuple #[.agg (frcC false 5 3), .int .i64 0]) rfl (by kernel_rfl) rfl (fun _ => by kernel_rfl) (by simp only [List.setIfInBounds_toArray, List.set_cons_succ, List.set_cons_zero] <;> rfl) ?_
  refine wpL_p (v := .agg (frcC false 5 3)) rfl (by kernel_rfl) rfl (fun _ => by kernel_rfl) (by simp only [List.setIfInBounds_toArray, List.set_cons_succ, List.set_cons_zero] <;> rfl) ?_
  refine wpL_p (v := .int .i64 0) rfl (by kernel_rfl) rfl (fun _ => by kernel_rfl) (by simp only [List.setIfInBounds_toArray, List.set_cons_succ, List.set_cons_zero] <;> rfl) ?_
  refine wpL_new (fun g => .pointer (some ⟨g, 0, none⟩)) (obi := .cells (frcC false 0 0) 26 (0, 0)) rfl rfl (fun _ => by rw [frc_zero]; rfl) (fun _ => by simp only [List.setIfInBounds_toArray, List.set_cons_succ, List.set_cons_zero] <;> rfl) fun g6 Bg6 Fg6 => ?_
  try simp only [List.forall_mem_cons] at Fg6
  refine wpL_s [(g6, .cells (frcC false 5 3) 26 (0, 0)), (g5, .cells (frcC false 1 60) 26 (0, 0)), (g4, .cells (frcC false 1 15) 26 (0, 0)), (g3, .cells (frcC false 4 15) 26 (0, 0)), (g2, .cells (frcC false 1 10) 26 (0, 0)), (g1, .cells (frcC false 1 6) 26 (0, 0))] rfl rfl (st_f (neg := false) (n := 5) (d := 3) rfl (by kernel_rfl) (by kernel_rfl) (.head _) (by omega) size27 (by intro p hp; simp only [List.mem_cons, List.not_mem_nil, or_false] at hp; rcases hp with rfl | rfl | rfl | rfl | rfl | rfl; exact .inl rfl; exact .inr ⟨by simp, by simp only; omega⟩; exact .inr ⟨by simp, by simp only; omega⟩; exact .inr ⟨by simp, by simp only; omega⟩; exact .inr ⟨by simp, by simp only; omega⟩; exact .inr ⟨by simp, by simp only; omega⟩)) ?_
  refine wpL_p (v := .int .i64 0) rfl (by kernel_rfl) rfl (fun _ => by kernel_rfl) (by simp only [List.setIfInBounds_toArray, List.set_cons_succ, List.set_cons_zero] <;> rfl) ?_
  refine wpL_done (fun W6 hW6 => ?_)
  clear hW5
  refine (show Code.wp _ _ _ _ _ from ?_)
  refine wp_seq ?_
  refine wp_region_L (W0 := w) [(g6, .cells (frcC false 5 3) 26 (0, 0)), (g5, .cells (frcC false 1 60) 26 (0, 0)), (g4, .cells (frcC false 1 15) 26 (0, 0)), (g3, .cells (frcC false 4 15) 26 (0, 0)), (g2, .cells (frcC false 1 10) 26 (0, 0)), (g1, .cells (frcC false 1 6) 26 (0, 0))] (hW6) ?_
  refine wpL_v (v := .agg (frcC true 3 2)) rfl (by kernel_rfl) rfl (yb_call (f := 27) (args := #[.int .i64 6, .int .i64 (-4)]) (fun _ => by kernel_rfl) fun W hW => HR2.out W) (by simp only [List.setIfInBounds_toArray, List.set_cons_succ, List.set_cons_zero] <;> rfl) ?_
  refine wpL_v (v := .tuple #[.string ⟨#[45, 51, 47, 50]⟩, .int .i64 0]) rfl (by kernel_rfl) rfl (yb_call (f := 20) (args := #[.agg (frcC true 3 2)]) (fun _ => by kernel_rfl) fun W hW => HTx.out W hW.1) (by simp only [List.setIfInBounds_toArray, List.set_cons_succ, List.set_cons_zero] <;> rfl) ?_
  refine wpL_p (v := .tuple #[.string ⟨#[45, 51, 47, 50]⟩, .int .i64 0]) rfl (by kernel_rfl) rfl (fun _ => by kernel_rfl) (by simp only [List.setIfInBounds_toArray, List.set_cons_succ, List.set_cons_zero] <;> rfl) ?_
  refine wpL_p (v := .string ⟨#[45, 51, 47, 50]⟩) rfl (by kernel_rfl) rfl (fun _ => by kernel_rfl) (by simp only [List.setIfInBounds_toArray, List.set_cons_succ, List.set_cons_zero] <;> rfl) ?_
  refine wpL_p (v := .int .i64 0) rfl (by kernel_rfl) rfl (fun _ => by kernel_rfl) (by simp only [List.setIfInBounds_toArray, List.set_cons_succ, List.set_cons_zero] <;> rfl) ?_
  refine wpL_p (v := .string ⟨#[45, 51, 47, 50]⟩) rfl (by kernel_rfl) rfl (fun _ => by kernel_rfl) (by simp only [List.setIfInBounds_toArray, List.set_cons_succ, List.set_cons_zero] <;> rfl) ?_
  refine wpL_p (v := .int .i64 0) rfl (by kernel_rfl) rfl (fun _ => by kernel_rfl) (by simp only [List.setIfInBounds_toArray, List.set_cons_succ, List.set_cons_zero] <;> rfl) ?_
  refine wpL_done (fun W7 hW7 => ?_)
  clear hW6
  refine (show Code.wp _ _ _ _ _ from ?_)
  refine wp_seq ?_
  refine wp_region_L (W0 := w) [(g6, .cells (frcC false 5 3) 26 (0, 0)), (g5, .cells (frcC false 1 60) 26 (0, 0)), (g4, .cells (frcC false 1 15) 26 (0, 0)), (g3, .cells (frcC false 4 15) 26 (0, 0)), (g2, .cells (frcC false 1 10) 26 (0, 0)), (g1, .cells (frcC false 1 6) 26 (0, 0))] (hW7) ?_
  refine wpL_v (v := .agg (frcC true 3 2)) rfl (by kernel_rfl) rfl (yb_call (f := 27) (args := #[.int .i64 (-3), .int .i64 2]) (fun _ => by kernel_rfl) fun W hW => HR3.out W) (by simp only [List.setIfInBounds_toArray, List.set_cons_succ, List.set_cons_zero] <;> rfl) ?_
  refine wpL_v (v := .tuple #[.int .i64 (-2), .int .i64 0]) rfl (by kernel_rfl) rfl (yb_call (f := 19) (args := #[.agg (frcC true 3 2)]) (fun _ => by kernel_rfl) fun W hW => HF1.out W) (by simp only [List.setIfInBounds_toArray, List.set_cons_succ, List.set_cons_zero] <;> rfl) ?_
  refine wpL_p (v := .tuple #[.int .i64 (-2), .int .i64 0]) rfl (by kernel_rfl) rfl (fun _ => by kernel_rfl) (by simp only [List.setIfInBounds_toArray, List.set_cons_succ, List.set_cons_zero] <;> rfl) ?_
  refine wpL_p (v := .int .i64 (-2)) rfl (by kernel_rfl) rfl (fun _ => by kernel_rfl) (by simp only [List.setIfInBounds_toArray, List.set_cons_succ, List.set_cons_zero] <;> rfl) ?_
  refine wpL_p (v := .int .i64 0) rfl (by kernel_rfl) rfl (fun _ => by kernel_rfl) (by simp only [List.setIfInBounds_toArray, List.set_cons_succ, List.set_cons_zero] <;> rfl) ?_
  refine wpL_p (v := .int .i64 (-2)) rfl (by kernel_rfl) rfl (fun _ => by kernel_rfl) (by simp only [List.setIfInBounds_toArray, List.set_cons_succ, List.set_cons_zero] <;> rfl) ?_
  refine wpL_p (v := .int .i64 0) rfl (by kernel_rfl) rfl (fun _ => by kernel_rfl) (by simp only [List.setIfInBounds_toArray, List.set_cons_succ, List.set_cons_zero] <;> rfl) ?_
  refine wpL_done (fun W8 hW8 => ?_)
  clear hW7
  refine (show Code.wp _ _ _ _ _ from ?_)
  refine wp_seq ?_
  refine wp_region_L (W0 := w) [(g6, .cells (frcC false 5 3) 26 (0, 0)), (g5, .cells (frcC false 1 60) 26 (0, 0)), (g4, .cells (frcC false 1 15) 26 (0, 0)), (g3, .cells (frcC false 4 15) 26 (0, 0)), (g2, .cells (frcC false 1 10) 26 (0, 0)), (g1, .cells (frcC false 1 6) 26 (0, 0))] (hW8) ?_
  refine wpL_v (v := .agg (frcC false 3 2)) rfl (by kernel_rfl) rfl (yb_call (f := 27) (args := #[.int .i64 3, .int .i64 2]) (fun _ => by kernel_rfl) fun W hW => HR4.out W) (by simp only [List.setIfInBounds_toArray, List.set_cons_succ, List.set_cons_zero] <;> rfl) ?_
  refine wpL_v (v := .tuple #[.int .i64 1, .int .i64 0]) rfl (by kernel_rfl) rfl (yb_call (f := 19) (args := #[.agg (frcC false 3 2)]) (fun _ => by kernel_rfl) fun W hW => HF2.out W) (by simp only [List.setIfInBounds_toArray, List.set_cons_succ, List.set_cons_zero] <;> rfl) ?_
  refine wpL_p (v := .tuple #[.int .i64 1, .int .i64 0]) rfl (by kernel_rfl) rfl (fun _ => by kernel_rfl) (by simp only [List.setIfInBounds_toArray, List.set_cons_succ, List.set_cons_zero] <;> rfl) ?_
  refine wpL_p (v := .int .i64 1) rfl (by kernel_rfl) rfl (fun _ => by kernel_rfl) (by simp only [List.setIfInBounds_toArray, List.set_cons_succ, List.set_cons_zero] <;> rfl) ?_
  refine wpL_p (v := .int .i64 0) rfl (by kernel_rfl) rfl (fun _ => by kernel_rfl) (by simp only [List.setIfInBounds_toArray, List.set_cons_succ, List.set_cons_zero] <;> rfl) ?_
  refine wpL_p (v := .int .i64 1) rfl (by kernel_rfl) rfl (fun _ => by kernel_rfl) (by simp only [List.setIfInBounds_toArray, List.set_cons_succ, List.set_cons_zero] <;> rfl) ?_
  refine wpL_p (v := .int .i64 0) rfl (by kernel_rfl) rfl (fun _ => by kernel_rfl) (by simp only [List.setIfInBounds_toArray, List.set_cons_succ, List.set_cons_zero] <;> rfl) ?_
  refine wpL_done (fun W9 hW9 => ?_)
  clear hW8
  refine (show Code.wp _ _ _ _ _ from ?_)
  refine wp_seq ?_
  refine wp_seq ?_
  refine wp_region_V (W0 := w) [(g6, .cells (frcC false 5 3) 26 (0, 0)), (g5, .cells (frcC false 1 60) 26 (0, 0)), (g4, .cells (frcC false 1 15) 26 (0, 0)), (g3, .cells (frcC false 4 15) 26 (0, 0)), (g2, .cells (frcC false 1 10) 26 (0, 0)), (g1, .cells (frcC false 1 6) 26 (0, 0))] (by kernel_rfl) (hW9) ?_
  refine wpV_p (i := 0) (v := .int .i64 0) rfl rfl (by kernel_rfl) (by kernel_rfl) rfl (fun _ => by kernel_rfl) (by simp only [List.setIfInBounds_toArray, List.set_cons_succ, List.set_cons_zero] <;> rfl) ?_
  refine wpV_p (i := 1) (v := .int .i64 0) rfl rfl (by kernel_rfl) (by kernel_rfl) rfl (fun _ => by kernel_rfl) (by simp only [List.setIfInBounds_toArray, List.set_cons_succ, List.set_cons_zero] <;> rfl) ?_
  refine wpV_p (i := 2) (v := .int .i64 0) rfl rfl (by kernel_rfl) (by kernel_rfl) rfl (fun _ => by kernel_rfl) (by simp only [List.setIfInBounds_toArray, List.set_cons_succ, List.set_cons_zero] <;> rfl) ?_
  refine wpV_p (i := 3) (v := .int .i64 0) rfl rfl (by kernel_rfl) (by kernel_rfl) rfl (fun _ => by kernel_rfl) (by simp only [List.setIfInBounds_toArray, List.set_cons_succ, List.set_cons_zero] <;> rfl) ?_
  refine wpV_p (i := 4) (v := .int .i64 0) rfl rfl (by kernel_rfl) (by kernel_rfl) rfl (fun _ => by kernel_rfl) (by simp only [List.setIfInBounds_toArray, List.set_cons_succ, List.set_cons_zero] <;> rfl) ?_
  refine wpV_p (i := 5) (v := .int .i64 0) rfl rfl (by kernel_rfl) (by kernel_rfl) rfl (fun _ => by kernel_rfl) (by simp only [List.setIfInBounds_toArray, List.set_cons_succ, List.set_cons_zero] <;> rfl) ?_
  refine wpV_p (i := 6) (v := .int .i64 0) rfl rfl (by kernel_rfl) (by kernel_rfl) rfl (fun _ => by kernel_rfl) (by simp only [List.setIfInBounds_toArray, List.set_cons_succ, List.set_cons_zero] <;> rfl) ?_
  refine wpV_p (i := 7) (v := .int .i64 0) rfl rfl (by kernel_rfl) (by kernel_rfl) rfl (fun _ => by kernel_rfl) (by simp only [List.setIfInBounds_toArray, List.set_cons_succ, List.set_cons_zero] <;> rfl) ?_
  refine wpV_p (i := 8) (v := .int .i64 0) rfl rfl (by kernel_rfl) (by kernel_rfl) rfl (fun _ => by kernel_rfl) (by simp only [List.setIfInBounds_toArray, List.set_cons_succ, List.set_cons_zero] <;> rfl) ?_
  refine wpV_p (i := 9) (v := .int .i64 0) rfl rfl (by kernel_rfl) (by kernel_rfl) rfl (fun _ => by kernel_rfl) (by simp only [List.setIfInBounds_toArray, List.set_cons_succ, List.set_cons_zero] <;> rfl) ?_
  refine wpV_p (i := 10) (v := .int .i64 0) rfl rfl (by kernel_rfl) (by kernel_rfl) rfl (fun _ => by kernel_rfl) (by simp only [List.setIfInBounds_toArray, List.set_cons_succ, List.set_cons_zero] <;> rfl) ?_
  refine wpV_p (i := 11) (v := .int .i64 0) rfl rfl (by kernel_rfl) (by kernel_rfl) rfl (fun _ => by kernel_rfl) (by simp only [List.setIfInBounds_toArray, List.set_cons_succ, List.set_cons_zero] <;> rfl) ?_
  refine wpV_p (i := 12) (v := .int .i64 0) rfl rfl (by kernel_rfl) (by kernel_rfl) rfl (fun _ => by kernel_rfl) (by simp only [List.setIfInBounds_toArray, List.set_cons_succ, List.set_cons_zero] <;> rfl) ?_
  refine wpV_p (i := 13) (v := .bool false) rfl rfl (by kernel_rfl) (by kernel_rfl) rfl (fun _ => by kernel_rfl) (by simp only [List.setIfInBounds_toArray, List.set_cons_succ, List.set_cons_zero] <;> rfl) ?_
  refine wpV_p (i := 14) (v := .bool false) rfl rfl (by kernel_rfl) (by kernel_rfl) rfl (fun _ => by kernel_rfl) (by simp only [List.setIfInBounds_toArray, List.set_cons_succ, List.set_cons_zero] <;> rfl) ?_
  refine wpV_v (i := 15) (v := .agg (frcC false 4 15)) rfl rfl (by kernel_rfl) (by kernel_rfl) rfl (yb_load rfl (by kernel_rfl) (.tail _ (.tail _ (.tail _ (.head _)))) Tryd.underlying26 rfl size27 (by simp) (frc_whole false 4 15)) (by simp only [List.setIfInBounds_toArray, List.set_cons_succ, List.set_cons_zero] <;> rfl) ?_
  refine wpV_v (i := 16) (v := .agg (frcC false 4 15)) rfl rfl (by kernel_rfl) (by kernel_rfl) rfl (yb_call (f := 27) (args := #[.int .i64 4, .int .i64 15]) (fun _ => by kernel_rfl) fun W hW => HR5.out W) (by simp only [List.setIfInBounds_toArray, List.set_cons_succ, List.set_cons_zero] <;> rfl) ?_
  refine wpV_p (i := 17) (v := .bool false) rfl rfl (by kernel_rfl) (by kernel_rfl) rfl (run_bin rfl (vx := .agg (frcC false 4 15)) (vy := .agg (frcC false 4 15)) (by kernel_rfl) (by kernel_rfl) fun w => run_neq27s (lt8 (by omega)) (lt8 (by omega)) w) (by simp only [List.setIfInBounds_toArray, List.set_cons_succ, List.set_cons_zero] <;> rfl) ?_
  refine wpV_p (i := 18) (v := .bool false) rfl rfl (by kernel_rfl) (by kernel_rfl) rfl (fun _ => by kernel_rfl) (by simp only [List.setIfInBounds_toArray, List.set_cons_succ, List.set_cons_zero] <;> rfl) ?_
  refine wpV_p (i := 19) (v := .bool false) rfl rfl (by kernel_rfl) (by kernel_rfl) rfl (fun _ => by kernel_rfl) (by simp only [List.setIfInBounds_toArray, List.set_cons_succ, List.set_cons_zero] <;> rfl) ?_
  refine wpV_v (i := 20) (v := .agg (frcC false 1 15)) rfl rfl (by kernel_rfl) (by kernel_rfl) rfl (yb_load rfl (by kernel_rfl) (.tail _ (.tail _ (.head _))) Tryd.underlying26 rfl size27 (by simp) (frc_whole false 1 15)) (by simp only [List.setIfInBounds_toArray, List.set_cons_succ, List.set_cons_zero] <;> rfl) ?_
  refine wpV_v (i := 21) (v := .agg (frcC false 1 15)) rfl rfl (by kernel_rfl) (by kernel_rfl) rfl (yb_call (f := 27) (args := #[.int .i64 1, .int .i64 15]) (fun _ => by kernel_rfl) fun W hW => HR6.out W) (by simp only [List.setIfInBounds_toArray, List.set_cons_succ, List.set_cons_zero] <;> rfl) ?_
  refine wpV_p (i := 22) (v := .bool false) rfl rfl (by kernel_rfl) (by kernel_rfl) rfl (run_bin rfl (vx := .agg (frcC false 1 15)) (vy := .agg (frcC false 1 15)) (by kernel_rfl) (by kernel_rfl) fun w => run_neq27s (lt8 (by omega)) (lt8 (by omega)) w) (by simp only [List.setIfInBounds_toArray, List.set_cons_succ, List.set_cons_zero] <;> rfl) ?_
  refine wpV_p (i := 23) (v := .bool false) rfl rfl (by kernel_rfl) (by kernel_rfl) rfl (fun _ => by kernel_rfl) (by simp only [List.setIfInBounds_toArray, List.set_cons_succ, List.set_cons_zero] <;> rfl) ?_
  refine wpV_p (i := 24) (v := .bool false) rfl rfl (by kernel_rfl) (by kernel_rfl) rfl (fun _ => by kernel_rfl) (by simp only [List.setIfInBounds_toArray, List.set_cons_succ, List.set_cons_zero] <;> rfl) ?_
  refine wpV_v (i := 25) (v := .agg (frcC false 1 60)) rfl rfl (by kernel_rfl) (by kernel_rfl) rfl (yb_load rfl (by kernel_rfl) (.tail _ (.head _)) Tryd.underlying26 rfl size27 (by simp) (frc_whole false 1 60)) (by simp only [List.setIfInBounds_toArray, List.set_cons_succ, List.set_cons_zero] <;> rfl) ?_
  refine wpV_v (i := 26) (v := .agg (frcC false 1 60)) rfl rfl (by kernel_rfl) (by kernel_rfl) rfl (yb_call (f := 27) (args := #[.int .i64 1, .int .i64 60]) (fun _ => by kernel_rfl) fun W hW => HR7.out W) (by simp only [List.setIfInBounds_toArray, List.set_cons_succ, List.set_cons_zero] <;> rfl) ?_
  refine wpV_p (i := 27) (v := .bool false) rfl rfl (by kernel_rfl) (by kernel_rfl) rfl (run_bin rfl (vx := .agg (frcC false 1 60)) (vy := .agg (frcC false 1 60)) (by kernel_rfl) (by kernel_rfl) fun w => run_neq27s (lt8 (by omega)) (lt8 (by omega)) w) (by simp only [List.setIfInBounds_toArray, List.set_cons_succ, List.set_cons_zero] <;> rfl) ?_
  refine wpV_p (i := 28) (v := .bool false) rfl rfl (by kernel_rfl) (by kernel_rfl) rfl (fun _ => by kernel_rfl) (by simp only [List.setIfInBounds_toArray, List.set_cons_succ, List.set_cons_zero] <;> rfl) ?_
  refine wpV_p (i := 29) (v := .bool false) rfl rfl (by kernel_rfl) (by kernel_rfl) rfl (fun _ => by kernel_rfl) (by simp only [List.setIfInBounds_toArray, List.set_cons_succ, List.set_cons_zero] <;> rfl) ?_
  refine wpV_v (i := 30) (v := .agg (frcC false 5 3)) rfl rfl (by kernel_rfl) (by kernel_rfl) rfl (yb_load rfl (by kernel_rfl) (.head _) Tryd.underlying26 rfl size27 (by simp) (frc_whole false 5 3)) (by simp only [List.setIfInBounds_toArray, List.set_cons_succ, List.set_cons_zero] <;> rfl) ?_
  refine wpV_v (i := 31) (v := .agg (frcC false 5 3)) rfl rfl (by kernel_rfl) (by kernel_rfl) rfl (yb_call (f := 27) (args := #[.int .i64 5, .int .i64 3]) (fun _ => by kernel_rfl) fun W hW => HR8.out W) (by simp only [List.setIfInBounds_toArray, List.set_cons_succ, List.set_cons_zero] <;> rfl) ?_
  refine wpV_p (i := 32) (v := .bool false) rfl rfl (by kernel_rfl) (by kernel_rfl) rfl (run_bin rfl (vx := .agg (frcC false 5 3)) (vy := .agg (frcC false 5 3)) (by kernel_rfl) (by kernel_rfl) fun w => run_neq27s (lt8 (by omega)) (lt8 (by omega)) w) (by simp only [List.setIfInBounds_toArray, List.set_cons_succ, List.set_cons_zero] <;> rfl) ?_
  refine wpV_p (i := 33) (v := .bool false) rfl rfl (by kernel_rfl) (by kernel_rfl) rfl (fun _ => by kernel_rfl) (by simp only [List.setIfInBounds_toArray, List.set_cons_succ, List.set_cons_zero] <;> rfl) ?_
  refine wpV_p (i := 34) (v := .bool false) rfl rfl (by kernel_rfl) (by kernel_rfl) rfl (fun _ => by kernel_rfl) (by simp only [List.setIfInBounds_toArray, List.set_cons_succ, List.set_cons_zero] <;> rfl) ?_
  refine wpV_p (i := 35) (v := .string ⟨#[45, 51, 47, 50]⟩) rfl rfl (by kernel_rfl) (by kernel_rfl) rfl (fun _ => by kernel_rfl) (by simp only [List.setIfInBounds_toArray, List.set_cons_succ, List.set_cons_zero] <;> rfl) ?_
  refine wpV_p (i := 36) (v := .bool false) rfl rfl (by kernel_rfl) (by kernel_rfl) rfl (fun _ => by kernel_rfl) (by simp only [List.setIfInBounds_toArray, List.set_cons_succ, List.set_cons_zero] <;> rfl) ?_
  refine wpV_p (i := 37) (v := .bool false) rfl rfl (by kernel_rfl) (by kernel_rfl) rfl (fun _ => by kernel_rfl) (by simp only [List.setIfInBounds_toArray, List.set_cons_succ, List.set_cons_zero] <;> rfl) ?_
  refine wpV_p (i := 38) (v := .bool false) rfl rfl (by kernel_rfl) (by kernel_rfl) rfl (fun _ => by kernel_rfl) (by simp only [List.setIfInBounds_toArray, List.set_cons_succ, List.set_cons_zero] <;> rfl) ?_
  refine wpV_p (i := 39) (v := .int .i64 (-2)) rfl rfl (by kernel_rfl) (by kernel_rfl) rfl (fun _ => by kernel_rfl) (by simp only [List.setIfInBounds_toArray, List.set_cons_succ, List.set_cons_zero] <;> rfl) ?_
  refine wpV_p (i := 40) (v := .bool false) rfl rfl (by kernel_rfl) (by kernel_rfl) rfl (fun _ => by kernel_rfl) (by simp only [List.setIfInBounds_toArray, List.set_cons_succ, List.set_cons_zero] <;> rfl) ?_
  refine wpV_p (i := 41) (v := .bool false) rfl rfl (by kernel_rfl) (by kernel_rfl) rfl (fun _ => by kernel_rfl) (by simp only [List.setIfInBounds_toArray, List.set_cons_succ, List.set_cons_zero] <;> rfl) ?_
  refine wpV_p (i := 42) (v := .bool false) rfl rfl (by kernel_rfl) (by kernel_rfl) rfl (fun _ => by kernel_rfl) (by simp only [List.setIfInBounds_toArray, List.set_cons_succ, List.set_cons_zero] <;> rfl) ?_
  refine wpV_p (i := 43) (v := .int .i64 1) rfl rfl (by kernel_rfl) (by kernel_rfl) rfl (fun _ => by kernel_rfl) (by simp only [List.setIfInBounds_toArray, List.set_cons_succ, List.set_cons_zero] <;> rfl) ?_
  refine wpV_p (i := 44) (v := .bool false) rfl rfl (by kernel_rfl) (by kernel_rfl) rfl (fun _ => by kernel_rfl) (by simp only [List.setIfInBounds_toArray, List.set_cons_succ, List.set_cons_zero] <;> rfl) ?_
  refine wpV_p (i := 45) (v := .bool false) rfl rfl (by kernel_rfl) (by kernel_rfl) rfl (fun _ => by kernel_rfl) (by simp only [List.setIfInBounds_toArray, List.set_cons_succ, List.set_cons_zero] <;> rfl) ?_
  refine wpV_done (by kernel_rfl) (fun W10 hW10 => ?_) _
  clear hW9
  refine (show Code.wp _ _ _ _ _ from ?_)
  refine wp_cond_false rfl ?_
  refine wp_skip ?_
  refine (show Code.wp _ _ _ _ _ from ?_)
  refine wp_seq ?_
  refine wp_seq ?_
  refine wp_region_L (W0 := w) [(g6, .cells (frcC false 5 3) 26 (0, 0)), (g5, .cells (frcC false 1 60) 26 (0, 0)), (g4, .cells (frcC false 1 15) 26 (0, 0)), (g3, .cells (frcC false 4 15) 26 (0, 0)), (g2, .cells (frcC false 1 10) 26 (0, 0)), (g1, .cells (frcC false 1 6) 26 (0, 0))] (hW10) ?_
  refine wpL_v (v := .agg (frcC true 3 2)) rfl (by kernel_rfl) rfl (yb_call (f := 27) (args := #[.int .i64 6, .int .i64 (-4)]) (fun _ => by kernel_rfl) fun W hW => HR2.out W) (by simp only [List.setIfInBounds_toArray, List.set_cons_succ, List.set_cons_zero] <;> rfl) ?_
  refine wpL_p (v := .agg #[.int .u32 3, .int .u32 0, .int .u32 0, .int .u32 0, .int .u32 0, .int .u32 0, .int .u32 0, .int .u32 0]) rfl (by kernel_rfl) rfl (fun _ => by kernel_rfl) (by simp only [List.setIfInBounds_toArray, List.set_cons_succ, List.set_cons_zero] <;> rfl) ?_
  refine wpL_p (v := .agg #[.int .u32 2, .int .u32 0, .int .u32 0, .int .u32 0, .int .u32 0, .int .u32 0, .int .u32 0, .int .u32 0]) rfl (by kernel_rfl) rfl (fun _ => by kernel_rfl) (by simp only [List.setIfInBounds_toArray, List.set_cons_succ, List.set_cons_zero] <;> rfl) ?_
  refine wpL_p (v := .agg (frcC true 3 2)) rfl (by kernel_rfl) rfl (fun _ => by kernel_rfl) (by simp only [List.setIfInBounds_toArray, List.set_cons_succ, List.set_cons_zero] <;> rfl) ?_
  refine wpL_p (v := .bool false) rfl (by kernel_rfl) rfl (run_bin rfl (vx := .agg (frcC true 3 2)) (vy := .agg (frcC true 3 2)) (by kernel_rfl) (by kernel_rfl) fun w => run_neq27s (lt8 (by omega)) (lt8 (by omega)) w) (by simp only [List.setIfInBounds_toArray, List.set_cons_succ, List.set_cons_zero] <;> rfl) ?_
  refine wpL_done (fun W11 hW11 => ?_)
  clear hW10
  refine (show Code.wp _ _ _ _ _ from ?_)
  refine wp_cond_false rfl ?_
  refine wp_skip ?_
  refine (show Code.wp _ _ _ _ _ from ?_)
  refine wp_seq ?_
  refine wp_seq ?_
  have HK13 := Lib.hid (hW11.sub (K' := []) (fun _ h => by cases h))
  clear hW11
  try go_frame
  have HK14 := Lib.hid HK13.out.drew
  refine wp_region_fin (F := fun b r W => w.heap.size ≤ r ∧ w.heap.size ≤ b ∧ KS w [] W ∧ ∃ n D cnt, SubD L8 D ∧ W.ranges Tryd.prog 9 (plainElem (H := Unit) Tryd.prog 29) b r n D (Maps.has D) cnt)
    (fun b r => [(114, .map (some b)), (115, R78), (116, S79), (117, .map (some b)), (118, .pointer (some ⟨r, 0, none⟩))]) (by kernel_rfl) ?_ ?_
  · intro Q' hQ
    generalize W11.drew = W14 at *
    refine Tw.wpAny_step2 (n := 12) (rs := [0, 8]) (by kernel_rfl) (by simp) fun i hi => ?_
    simp only [List.mem_cons, List.not_mem_nil, or_false] at hi
    rcases hi with rfl | rfl
    · refine ⟨_, 114, rfl, rfl, rfl, Oto.of_run (v := .map (some W14.heap.size)) (w' := W14.alloc (.map #[] 0)) rfl ?_⟩
      refine wpC_sound (I := MapI Tryd.prog 9 29 L8 w W14.heap.size) (m := 1) (last := 12) 11 _ _ ?_ _ (MapI.start HK14.out (by omega))
      try go_frame
      refine wpC_c (i := 8) (v := R78) rfl rfl (by kernel_rfl) rfl (fun _ => by kernel_rfl) HRp (by simp only [List.setIfInBounds_toArray, List.set_cons_succ, List.set_cons_zero] <;> rfl) ?_
      refine wpC_v (i := 9) (v := S79) rfl rfl (by kernel_rfl) rfl (run_bin rfl (vx := .string ⟨#[49]⟩) (vy := R78) (by kernel_rfl) (by kernel_rfl) fun w => run_cat w) (by simp only [List.setIfInBounds_toArray, List.set_cons_succ, List.set_cons_zero] <;> rfl) ?_
      refine wpC_i (i := 1) (l := [51, 47, 45, 50]) (e := 10) Tryd.underlying9 Tryd.underlying29 Tryd.underlying52 (by simp [L8]) (by decide) (by decide) rfl rfl rfl (by kernel_rfl) rfl rfl rfl rfl ?_
      refine wpC_i (i := 2) (l := [48, 51]) (e := 10) Tryd.underlying9 Tryd.underlying29 Tryd.underlying52 (by simp [L8]) (by decide) (by decide) rfl rfl rfl (by kernel_rfl) rfl rfl rfl rfl ?_
      refine wpC_i (i := 3) (l := [49, 47, 48]) (e := 10) Tryd.underlying9 Tryd.underlying29 Tryd.underlying52 (by simp [L8]) (by decide) (by decide) rfl rfl rfl (by kernel_rfl) rfl rfl rfl rfl ?_
      refine wpC_i (i := 4) (l := []) (e := 10) Tryd.underlying9 Tryd.underlying29 Tryd.underlying52 (by simp [L8]) (by decide) (by decide) rfl rfl rfl (by kernel_rfl) rfl rfl rfl rfl ?_
      refine wpC_i (i := 5) (l := [50, 47, 52]) (e := 11) Tryd.underlying9 Tryd.underlying29 Tryd.underlying52 (by simp [L8]) (by decide) (by decide) rfl rfl rfl (by kernel_rfl) rfl rfl rfl rfl ?_
      refine wpC_i (i := 6) (l := [52, 47, 49]) (e := 11) Tryd.underlying9 Tryd.underlying29 Tryd.underlying52 (by simp [L8]) (by decide) (by decide) rfl rfl rfl (by kernel_rfl) rfl rfl rfl rfl ?_
      refine wpC_i (i := 7) (l := [45, 48]) (e := 11) Tryd.underlying9 Tryd.underlying29 Tryd.underlying52 (by simp [L8]) (by decide) (by decide) rfl rfl rfl (by kernel_rfl) rfl rfl rfl rfl ?_
      refine wpC_i (i := 10) (l := (49 :: Lib.repeatL [48] 78)) (e := 3) Tryd.underlying9 Tryd.underlying29 Tryd.underlying52 (by simp [L8]) (by decide) (by decide) rfl rfl rfl (by kernel_rfl) rfl rfl rfl rfl ?_
      refine wpC_v (i := 11) (v := .map (some W14.heap.size)) rfl rfl (by kernel_rfl) rfl (fun _ => by kernel_rfl) (by simp only [List.setIfInBounds_toArray, List.set_cons_succ, List.set_cons_zero] <;> rfl) ?_
      refine wpC_r Tryd.underlying9 Tryd.underlying52 rfl rfl rfl (by kernel_rfl) (by kernel_rfl) rfl rfl ?_
      intro r n D cnt W hr hK hS hrg
      have h := hQ _ r W ⟨hr, HK14.out.1.size, hK, n, D, cnt, hS, hrg⟩
      simp only [List.foldl_cons, List.foldl_nil] at h
      try go_frame
      simp only [Act.put, List.setIfInBounds_toArray, List.set_cons_succ, List.set_cons_zero] at h
      exact h
    · refine ⟨_, 115, rfl, rfl, rfl, Oto.of_call (v := R78) (by kernel_rfl) (HRp W14) fun W15 hb => ?_⟩
      have HK15 := Lib.hid (HK14.out.below hb)
      clear hb
      refine Tw.wpAny_step2 (n := 11) (rs := [0, 9]) (by kernel_rfl) (by simp) fun i hi => ?_
      simp only [List.mem_cons, List.not_mem_nil, or_false] at hi
      try go_frame
      rcases hi with rfl | rfl
      · refine ⟨_, 114, rfl, rfl, rfl, Oto.of_run (v := .map (some W15.heap.size)) (w' := W15.alloc (.map #[] 0)) rfl ?_⟩
        refine wpC_sound (I := MapI Tryd.prog 9 29 L8 w W15.heap.size) (m := 1) (last := 12) 10 _ _ ?_ _ (MapI.start HK15.out (by omega))
        try go_frame
        refine wpC_v (i := 9) (v := S79) rfl rfl (by kernel_rfl) rfl (run_bin rfl (vx := .string ⟨#[49]⟩) (vy := R78) (by kernel_rfl) (by kernel_rfl) fun w => run_cat w) (by simp only [List.setIfInBounds_toArray, List.set_cons_succ, List.set_cons_zero] <;> rfl) ?_
        refine wpC_i (i := 1) (l := [51, 47, 45, 50]) (e := 10) Tryd.underlying9 Tryd.underlying29 Tryd.underlying52 (by simp [L8]) (by decide) (by decide) rfl rfl rfl (by kernel_rfl) rfl rfl rfl rfl ?_
        refine wpC_i (i := 2) (l := [48, 51]) (e := 10) Tryd.underlying9 Tryd.underlying29 Tryd.underlying52 (by simp [L8]) (by decide) (by decide) rfl rfl rfl (by kernel_rfl) rfl rfl rfl rfl ?_
        refine wpC_i (i := 3) (l := [49, 47, 48]) (e := 10) Tryd.underlying9 Tryd.underlying29 Tryd.underlying52 (by simp [L8]) (by decide) (by decide) rfl rfl rfl (by kernel_rfl) rfl rfl rfl rfl ?_
        refine wpC_i (i := 4) (l := []) (e := 10) Tryd.underlying9 Tryd.underlying29 Tryd.underlying52 (by simp [L8]) (by decide) (by decide) rfl rfl rfl (by kernel_rfl) rfl rfl rfl rfl ?_
        refine wpC_i (i := 5) (l := [50, 47, 52]) (e := 11) Tryd.underlying9 Tryd.underlying29 Tryd.underlying52 (by simp [L8]) (by decide) (by decide) rfl rfl rfl (by kernel_rfl) rfl rfl rfl rfl ?_
        refine wpC_i (i := 6) (l := [52, 47, 49]) (e := 11) Tryd.underlying9 Tryd.underlying29 Tryd.underlying52 (by simp [L8]) (by decide) (by decide) rfl rfl rfl (by kernel_rfl) rfl rfl rfl rfl ?_
        refine wpC_i (i := 7) (l := [45, 48]) (e := 11) Tryd.underlying9 Tryd.underlying29 Tryd.underlying52 (by simp [L8]) (by decide) (by decide) rfl rfl rfl (by kernel_rfl) rfl rfl rfl rfl ?_
        refine wpC_i (i := 10) (l := (49 :: Lib.repeatL [48] 78)) (e := 3) Tryd.underlying9 Tryd.underlying29 Tryd.underlying52 (by simp [L8]) (by decide) (by decide) rfl rfl rfl (by kernel_rfl) rfl rfl rfl rfl ?_
        refine wpC_v (i := 11) (v := .map (some W15.heap.size)) rfl rfl (by kernel_rfl) rfl (fun _ => by kernel_rfl) (by simp only [List.setIfInBounds_toArray, List.set_cons_succ, List.set_cons_zero] <;> rfl) ?_
        refine wpC_r Tryd.underlying9 Tryd.underlying52 rfl rfl rfl (by kernel_rfl) (by kernel_rfl) rfl rfl ?_
        intro r n D cnt W hr hK hS hrg
        have h := hQ _ r W ⟨hr, HK15.out.1.size, hK, n, D, cnt, hS, hrg⟩
        simp only [List.foldl_cons, List.foldl_nil] at h
        try go_frame
        simp only [Act.put, List.setIfInBounds_toArray, List.set_cons_succ, List.set_cons_zero] at h
        exact h
      · refine ⟨_, 116, rfl, rfl, rfl, Oto.of_run (v := S79) (w' := W15) (run_bin rfl (vx := .string ⟨#[49]⟩) (vy := R78) (by kernel_rfl) (by kernel_rfl) (fun w => run_cat w) W15) ?_⟩
        refine Tw.wpAny_step2 (n := 10) (rs := [0]) (by kernel_rfl) (by simp) fun i hi => ?_
        cases List.mem_singleton.1 hi
        try go_frame
        refine ⟨_, 114, rfl, rfl, rfl, Oto.of_run (v := .map (some W15.heap.size)) (w' := W15.alloc (.map #[] 0)) rfl ?_⟩
        refine wpC_sound (I := MapI Tryd.prog 9 29 L8 w W15.heap.size) (m := 1) (last := 12) 9 _ _ ?_ _ (MapI.start HK15.out (by omega))
        try go_frame
        refine wpC_i (i := 1) (l := [51, 47, 45, 50]) (e := 10) Tryd.underlying9 Tryd.underlying29 Tryd.underlying52 (by simp [L8]) (by decide) (by decide) rfl rfl rfl (by kernel_rfl) rfl rfl rfl rfl ?_
        refine wpC_i (i := 2) (l := [48, 51]) (e := 10) Tryd.underlying9 Tryd.underlying29 Tryd.underlying52 (by simp [L8]) (by decide) (by decide) rfl rfl rfl (by kernel_rfl) rfl rfl rfl rfl ?_
        refine wpC_i (i := 3) (l := [49, 47, 48]) (e := 10) Tryd.underlying9 Tryd.underlying29 Tryd.underlying52 (by simp [L8]) (by decide) (by decide) rfl rfl rfl (by kernel_rfl) rfl rfl rfl rfl ?_
        refine wpC_i (i := 4) (l := []) (e := 10) Tryd.underlying9 Tryd.underlying29 Tryd.underlying52 (by simp [L8]) (by decide) (by decide) rfl rfl rfl (by kernel_rfl) rfl rfl rfl rfl ?_
        refine wpC_i (i := 5) (l := [50, 47, 52]) (e := 11) Tryd.underlying9 Tryd.underlying29 Tryd.underlying52 (by simp [L8]) (by decide) (by decide) rfl rfl rfl (by kernel_rfl) rfl rfl rfl rfl ?_
        refine wpC_i (i := 6) (l := [52, 47, 49]) (e := 11) Tryd.underlying9 Tryd.underlying29 Tryd.underlying52 (by simp [L8]) (by decide) (by decide) rfl rfl rfl (by kernel_rfl) rfl rfl rfl rfl ?_
        refine wpC_i (i := 7) (l := [45, 48]) (e := 11) Tryd.underlying9 Tryd.underlying29 Tryd.underlying52 (by simp [L8]) (by decide) (by decide) rfl rfl rfl (by kernel_rfl) rfl rfl rfl rfl ?_
        refine wpC_i (i := 10) (l := (49 :: Lib.repeatL [48] 78)) (e := 3) Tryd.underlying9 Tryd.underlying29 Tryd.underlying52 (by simp [L8]) (by decide) (by decide) rfl rfl rfl (by kernel_rfl) rfl rfl rfl rfl ?_
        refine wpC_v (i := 11) (v := .map (some W15.heap.size)) rfl rfl (by kernel_rfl) rfl (fun _ => by kernel_rfl) (by simp only [List.setIfInBounds_toArray, List.set_cons_succ, List.set_cons_zero] <;> rfl) ?_
        refine wpC_r Tryd.underlying9 Tryd.underlying52 rfl rfl rfl (by kernel_rfl) (by kernel_rfl) rfl rfl ?_
        intro r n D cnt W hr hK hS hrg
        have h := hQ _ r W ⟨hr, HK15.out.1.size, hK, n, D, cnt, hS, hrg⟩
        simp only [List.foldl_cons, List.foldl_nil] at h
        try go_frame
        simp only [Act.put, List.setIfInBounds_toArray, List.set_cons_succ, List.set_cons_zero] at h
        exact h
  intro b r W16 hF
  simp only [List.foldl_cons, List.foldl_nil]
  try go_frame
  obtain ⟨hr, hb, hK, n, D, cnt, hS, hrg⟩ := hF
  have HS := Lib.hid hS
  have HRL := Lib.hid (show RgL Tryd.prog 9 29 D b r n w W16 from ⟨_, _, hrg, fun _ h => h, hK⟩)
  clear hS hK hrg HK13 HK14
  have tok : True := trivial
  go_wp2_with fail
  go_loopw [17] (fun _ wr => Hid (RgL Tryd.prog 9 29 D b r n w wr)) (fun _ wr => wr.rangeLeft b r)
  case atStart => exact HRL
  case round =>
    clear HRL
    obtain ⟨left, cnt, hrg, hlf, hks⟩ := hrel.out
    have HRg := Lib.hid hrg
    have HLf := Lib.hid hlf
    have HKr := Lib.hid hks
    clear hrg hlf hks hrel
    go_wp2_with (first
      | (at_next; refine wpList_next_L _ rfl _ rfl Tryd.underlying9 Tryd.underlying29 HS.out rfl HRg.out HLf.out ?_ ?_)
      | fail)
    · have HBr := Lib.hid HKr.out.1
      (with_reducible refine (HRd.out _ HBr.out).mono ?_)
      rintro e w2 ⟨rfl, hb1⟩
      have HKq := Lib.hid (HKr.out.below hb1)
      clear hb1
      go_upto_region 20 with (first
        | (refine wpList_stf (neg := true) (n := 3) (d := 2) (neg' := false) (n' := 0) (d' := 0) rfl rfl rfl rfl (by rw [frc_zero]; exact heap1 w2 _) size27 ?_))
      have HKv := Lib.hid (HKq.out.newvar (cs := frcC false 0 0) (cs' := frcC true 3 2) (t := 26))
      have f_g := HKq.out.fresh.1
      rw [← frc_zero]
      generalize (w2.alloc (.cells (frcC false 0 0) 26)).setRow w2.heap.size (frcC true 3 2) = W30 at *
      generalize w2.heap.size = g at *
      refine wp_region_V (W0 := w) [(g, .cells (frcC true 3 2) 26 (0, 0))] (by kernel_rfl) (HKv.out) ?_
      refine wpV_p (i := 0) (v := .int .i64 0) rfl rfl (by kernel_rfl) (by kernel_rfl) rfl (fun _ => by kernel_rfl) (by simp only [List.setIfInBounds_toArray, List.set_cons_succ, List.set_cons_zero] <;> rfl) ?_
      refine wpV_p (i := 1) (v := .bool true) rfl rfl (by kernel_rfl) (by kernel_rfl) rfl (fun _ => by kernel_rfl) (by simp only [List.setIfInBounds_toArray, List.set_cons_succ, List.set_cons_zero] <;> rfl) ?_
      refine wpV_p (i := 2) (v := .bool true) rfl rfl (by kernel_rfl) (by kernel_rfl) rfl (fun _ => by kernel_rfl) (by simp only [List.setIfInBounds_toArray, List.set_cons_succ, List.set_cons_zero] <;> rfl) ?_
      refine wpV_v (i := 3) (v := .agg (frcC true 3 2)) rfl rfl (by kernel_rfl) (by kernel_rfl) rfl (yb_load rfl (by kernel_rfl) (.head _) Tryd.underlying26 rfl size27 (by simp) (frc_whole true 3 2)) (by simp only [List.setIfInBounds_toArray, List.set_cons_succ, List.set_cons_zero] <;> rfl) ?_
      refine wpV_v (i := 4) (v := .agg (frcC true 3 2)) rfl rfl (by kernel_rfl) (by kernel_rfl) rfl (yb_call (f := 27) (args := #[.int .i64 6, .int .i64 (-4)]) (fun _ => by kernel_rfl) fun W hW => HR2.out W) (by simp only [List.setIfInBounds_toArray, List.set_cons_succ, List.set_cons_zero] <;> rfl) ?_
      refine wpV_p (i := 5) (v := .bool true) rfl rfl (by kernel_rfl) (by kernel_rfl) rfl (run_bin rfl (vx := .agg (frcC true 3 2)) (vy := .agg (frcC true 3 2)) (by kernel_rfl) (by kernel_rfl) fun w => run_eql27s (lt8 (by omega)) (lt8 (by omega)) w) (by simp only [List.setIfInBounds_toArray, List.set_cons_succ, List.set_cons_zero] <;> rfl) ?_
      refine wpV_p (i := 6) (v := .bool true) rfl rfl (by kernel_rfl) (by kernel_rfl) rfl (fun _ => by kernel_rfl) (by simp only [List.setIfInBounds_toArray, List.set_cons_succ, List.set_cons_zero] <;> rfl) ?_
      refine wpV_p (i := 7) (v := .bool true) rfl rfl (by kernel_rfl) (by kernel_rfl) rfl (fun _ => by kernel_rfl) (by simp only [List.setIfInBounds_toArray, List.set_cons_succ, List.set_cons_zero] <;> rfl) ?_
      refine wpV_done (by kernel_rfl) (fun W51 hW51 => ?_) _
      go_wp2
      go_ret
      exact ⟨rfl, hW51.1⟩
    · intro l c w1 left1 cnt1 hm hrg1 hlf1 hlt hg1 hs1 hen
      have HB1 := Lib.hid (HKr.out.1.grown hg1 HKr.out.1.size (fun j hj => by cases hj; exact hr))
      have HR1 := Lib.hid hrg1
      have HL1 := Lib.hid hlf1
      have HLt := Lib.hid hlt
      have HM := Lib.hid hm
      clear hrg1 hlf1 hlt hm hg1 hs1
      go_wp2_with (first
        | ((go_at_call 21); (with_reducible refine (HRc.out l c HM.out _ HB1.out).mono ?_); rintro e w2 ⟨rfl, hb2⟩; have HK2 := Lib.hid ((KS.start w1).below hb2); clear hb2)
        | (refine wpList_stf (neg := false) (n := 0) (d := 0) (neg' := false) (n' := 0) (d' := 0) rfl rfl rfl rfl (by rw [frc_zero]; exact heap1 w2 _) size27 ?_))
      have HK3 := Lib.hid (HK2.out.newvar (cs := frcC false 0 0) (cs' := frcC false 0 0) (t := 26))
      rw [← frc_zero]
      generalize (w2.alloc (.cells (frcC false 0 0) 26)).setRow w2.heap.size (frcC false 0 0) = W3 at *
      have HR3 := Lib.hid (HR1.out.kept (grown_of_below HK3.out.1 none) (by simp) (by simp))
      have HW3 := Lib.hid (KS.below (show KS w [] w1 from ⟨HB1.out, fun _ h => by cases h⟩) HK3.out.1)
      go_roundw
      case rel => exact Lib.hid ⟨left1, cnt1, HR3.out, HL1.out, HW3.out⟩
      case measure => rw [HR3.out.left_eq, HRg.out.left_eq]; exact HLt.out
end Go.Proofs.YtkfcikijmkgahaaDoor
