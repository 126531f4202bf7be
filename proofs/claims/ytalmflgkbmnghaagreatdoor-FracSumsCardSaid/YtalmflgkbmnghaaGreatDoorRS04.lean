import Derived.Test.YtalmflgkbmnghaaGreatDoorRS00
import Derived.Test.YtalmflgkbmnghaaGreatDoorRS03
import Derived.Test.YtalmflgkbmnghaaGreatDoorRS01
import Derived.Outline
import Derived.Deep.Cut
import Derived.Test.YtalmflgkbmnghaaGreatDoorCards
import Derived.Test.YtalmflgkbmnghaaGreatDoorTie
import Derived.WalkKit
import Derived.ProofKit
import Derived.OpenShut
import Derived.LaidMore
import Derived.SizedLaws
import Derived.Shelf.Vars
import Derived.Stop.Joined
import Derived.SevenTiedAt
import Derived.Shelf.Strings.Builder1
import Derived.Shelf.Strings.Builder2
import Derived.Shelf.Small.Bits
import Derived.Shelf.Small.Wraps
import Derived.Shelf.Strings.BuilderF
import Derived.Shelf.Strings.BuilderK
import Derived.Shelf.Strings.Builder2Cap
import Derived.Shelf.Strconv.Itoa0
import Derived.Shelf.Strconv.Itoa1
import Derived.Shelf.LaysM
import Derived.Shelf.Strconv.Itoa2
import Derived.Shelf.Strconv.Itoa3
import Derived.Shelf.Strings.Search1
import Derived.Shelf.Strings.Search2
import Derived.Shelf.Strings.Cut
import Derived.Shelf.Strings.Shaped
import Derived.Shelf.Strings.Prefix
import Derived.Shelf.Bits.Mul64
import Derived.Shelf.Strings.Repeat
import Derived.Shelf.Strings.BuilderCap
import Derived.Test.YtalmflgkbmnghaaGreatDoorProg
/- Part of the proof: Aw, Ay, Rw, Sh, Si. -/
set_option linter.unusedVariables false
set_option linter.unusedSimpArgs false
set_option linter.unusedSectionVars false
namespace Go.Proofs.YtalmflgkbmnghaaGreatDoor
open Go.RowKit Tf
theorem ba_app' (a b : List UInt8) : (⟨a.toArray⟩ : ByteArray) ++ ⟨b.toArray⟩ = ⟨(a ++ b).toArray⟩ := by
  apply ByteArray.ext
  rw [ByteArray.data_append]
  simp
theorem run_cat {x y : Operand} (w : World) : (do eqGuard .add 9 x y (.string ⟨#[49]⟩) R78; binOp .add 9 (.string ⟨#[49]⟩) R78 : Sem Value).run Tryz.prog w = .ok S79 w := by
  unfold R78 S79
  have h : ¬ 9223372036854775807 < 1 + (Lib.repeatL [48] 78).length := by rw [Lib.repeatL_length]; simp
  go_simp
  exact ba_app' [49] _
set_option maxRecDepth 100000 in
set_option maxHeartbeats 8000000 in
theorem awake_walk (w : World)
    (HR0 : Hid (∀ W, Calls Tryz.prog 11 #[.int .i64 1, .int .i64 6] W fun e w' => e = .returned (.agg (frcC false 1 6)) ∧ Below W.heap.size W w'))
    (HR1 : Hid (∀ W, Calls Tryz.prog 11 #[.int .i64 1, .int .i64 10] W fun e w' => e = .returned (.agg (frcC false 1 10)) ∧ Below W.heap.size W w'))
    (HR2 : Hid (∀ W, Calls Tryz.prog 11 #[.int .i64 6, .int .i64 (-4)] W fun e w' => e = .returned (.agg (frcC true 3 2)) ∧ Below W.heap.size W w'))
    (HR3 : Hid (∀ W, Calls Tryz.prog 11 #[.int .i64 (-3), .int .i64 2] W fun e w' => e = .returned (.agg (frcC true 3 2)) ∧ Below W.heap.size W w'))
    (HR4 : Hid (∀ W, Calls Tryz.prog 11 #[.int .i64 3, .int .i64 2] W fun e w' => e = .returned (.agg (frcC false 3 2)) ∧ Below W.heap.size W w'))
    (HR5 : Hid (∀ W, Calls Tryz.prog 11 #[.int .i64 4, .int .i64 15] W fun e w' => e = .returned (.agg (frcC false 4 15)) ∧ Below W.heap.size W w'))
    (HR6 : Hid (∀ W, Calls Tryz.prog 11 #[.int .i64 1, .int .i64 15] W fun e w' => e = .returned (.agg (frcC false 1 15)) ∧ Below W.heap.size W w'))
    (HR7 : Hid (∀ W, Calls Tryz.prog 11 #[.int .i64 1, .int .i64 60] W fun e w' => e = .returned (.agg (frcC false 1 60)) ∧ Below W.heap.size W w'))
    (HR8 : Hid (∀ W, Calls Tryz.prog 11 #[.int .i64 5, .int .i64 3] W fun e w' => e = .returned (.agg (frcC false 5 3)) ∧ Below W.heap.size W w'))
    (HAd : Hid (∀ W, Calls Tryz.prog 15 #[.agg (frcC false 1 6), .agg (frcC false 1 10)] W fun e w' => e = .returned (.tuple #[.agg (frcC false 4 15), .int .i64 0]) ∧ Below W.heap.size W w'))
    (HSu : Hid (∀ W, Calls Tryz.prog 20 #[.agg (frcC false 1 6), .agg (frcC false 1 10)] W fun e w' => e = .returned (.tuple #[.agg (frcC false 1 15), .int .i64 0]) ∧ Below W.heap.size W w'))
    (HMu : Hid (∀ W, Calls Tryz.prog 22 #[.agg (frcC false 1 6), .agg (frcC false 1 10)] W fun e w' => e = .returned (.tuple #[.agg (frcC false 1 60), .int .i64 0]) ∧ Below W.heap.size W w'))
    (HDi : Hid (∀ W, Calls Tryz.prog 24 #[.agg (frcC false 1 6), .agg (frcC false 1 10)] W fun e w' => e = .returned (.tuple #[.agg (frcC false 5 3), .int .i64 0]) ∧ Below W.heap.size W w'))
    (HF1 : Hid (∀ W, Calls Tryz.prog 28 #[.agg (frcC true 3 2)] W fun e w' => e = .returned (.tuple #[.int .i64 (-2), .int .i64 0]) ∧ Below W.heap.size W w'))
    (HF2 : Hid (∀ W, Calls Tryz.prog 28 #[.agg (frcC false 3 2)] W fun e w' => e = .returned (.tuple #[.int .i64 1, .int .i64 0]) ∧ Below W.heap.size W w'))
    (HTx : Hid (∀ W, Below w.heap.size w W → Calls Tryz.prog 30 #[.agg (frcC true 3 2)] W fun e w' => e = .returned (.tuple #[.string ⟨#[45, 51, 47, 50]⟩, .int .i64 0]) ∧ Below W.heap.size W w'))
    (HRd : Hid (∀ W, Below w.heap.size w W → Calls Tryz.prog 33 #[.string ⟨#[45, 51, 47, 50]⟩] W fun e w' => e = .returned (.tuple #[.agg (frcC true 3 2), .int .i64 0]) ∧ Below W.heap.size W w'))
    (HRp : ∀ W, Calls Tryz.prog 32 #[.string ⟨#[48]⟩, .int .i64 78] W fun e w' => e = .returned R78 ∧ Below W.heap.size W w')
    (HRc : Hid (∀ l e, (l, e) ∈ L8 → ∀ W, Below w.heap.size w W → Calls Tryz.prog 33 #[strV l] W fun x w' => x = .returned (.tuple #[.agg (frcC false 0 0), .int .i64 e]) ∧ Below W.heap.size W w')) :
    Calls Tryz.prog 8 #[] w fun e w' => e = .returned (.bool true) ∧ Below w.heap.size w w' := by
  go_enter Tryz.func8, Tryz.ntmps8
  refine wp_seq ?_
  refine wp_region_L (W0 := w) [] (KS.start w) ?_
  refine wpL_p (v := .bool false) rfl (by kernel_rfl) rfl (fun _ => by kernel_rfl) (by simp only [List.setIfInBounds_toArray, List.set_cons_succ, List.set_cons_zero] <;> rfl) ?_
  refine wpL_done (fun W1 hW1 => ?_)
  refine (show Code.wp _ _ _ _ _ from ?_)
  refine wp_seq ?_
  refine wp_region_L (W0 := w) [] (hW1) ?_
  refine wpL_v (v := .agg (frcC false 1 6)) rfl (by kernel_rfl) rfl (yb_call (f := 11) (args := #[.int .i64 1, .int .i64 6]) (fun _ => by kernel_rfl) fun W hW => HR0.out W) (by simp only [List.setIfInBounds_toArray, List.set_cons_succ, List.set_cons_zero] <;> rfl) ?_
  refine wpL_v (v := .agg (frcC false 1 10)) rfl (by kernel_rfl) rfl (yb_call (f := 11) (args := #[.int .i64 1, .int .i64 10]) (fun _ => by kernel_rfl) fun W hW => HR1.out W) (by simp only [List.setIfInBounds_toArray, List.set_cons_succ, List.set_cons_zero] <;> rfl) ?_
  refine wpL_new (fun g => .pointer (some ⟨g, 0, none⟩)) (obi := .cells (frcC false 0 0) 25 (0, 0)) rfl rfl (fun _ => by rw [frc_zero]; rfl) (fun _ => by simp only [List.setIfInBounds_toArray, List.set_cons_succ, List.set_cons_zero] <;> rfl) fun g1 Bg1 Fg1 => ?_
  try simp only [List.forall_mem_cons] at Fg1
  refine wpL_new (fun g => .pointer (some ⟨g, 0, none⟩)) (obi := .cells (frcC false 0 0) 25 (0, 0)) rfl rfl (fun _ => by rw [frc_zero]; rfl) (fun _ => by simp only [List.setIfInBounds_toArray, List.set_cons_succ, List.set_cons_zero] <;> rfl) fun g2 Bg2 Fg2 => ?_
  try simp only [List.forall_mem_cons] at Fg2
  refine wpL_s [(g2, .cells (frcC false 0 0) 25 (0, 0)), (g1, .cells (frcC false 1 6) 25 (0, 0))] rfl rfl (st_f (neg := false) (n := 1) (d := 6) rfl (by kernel_rfl) (by kernel_rfl) (.tail _ (.head _)) (by omega) size27 (by intro p hp; simp only [List.mem_cons, List.not_mem_nil, or_false] at hp; rcases hp with rfl | rfl; exact .inr ⟨by simp, by simp only; omega⟩; exact .inl rfl)) ?_
  refine wpL_s [(g2, .cells (frcC false 1 10) 25 (0, 0)), (g1, .cells (frcC false 1 6) 25 (0, 0))] rfl rfl (st_f (neg := false) (n := 1) (d := 10) rfl (by kernel_rfl) (by kernel_rfl) (.head _) (by omega) size27 (by intro p hp; simp only [List.mem_cons, List.not_mem_nil, or_false] at hp; rcases hp with rfl | rfl; exact .inl rfl; exact .inr ⟨by simp, by simp only; omega⟩)) ?_
  refine wpL_done (fun W2 hW2 => ?_)
  clear hW1
  refine (show Code.wp _ _ _ _ _ from ?_)
  refine wp_seq ?_
  refine wp_region_L (W0 := w) [(g2, .cells (frcC false 1 10) 25 (0, 0)), (g1, .cells (frcC false 1 6) 25 (0, 0))] (hW2) ?_
  refine wpL_v (v := .agg (frcC false 1 6)) rfl (by kernel_rfl) rfl (yb_load rfl (by kernel_rfl) (.tail _ (.head _)) Tryz.underlying25 rfl size27 (by simp) (frc_whole false 1 6)) (by simp only [List.setIfInBounds_toArray, List.set_cons_succ, List.set_cons_zero] <;> rfl) ?_
  refine wpL_v (v := .agg (frcC false 1 10)) rfl (by kernel_rfl) rfl (yb_load rfl (by kernel_rfl) (.head _) Tryz.underlying25 rfl size27 (by simp) (frc_whole false 1 10)) (by simp only [List.setIfInBounds_toArray, List.set_cons_succ, List.set_cons_zero] <;> rfl) ?_
  refine wpL_v (v := .tuple #[.agg (frcC false 4 15), .int .i64 0]) rfl (by kernel_rfl) rfl (yb_call (f := 15) (args := #[.agg (frcC false 1 6), .agg (frcC false 1 10)]) (fun _ => by kernel_rfl) fun W hW => HAd.out W) (by simp only [List.setIfInBounds_toArray, List.set_cons_succ, List.set_cons_zero] <;> rfl) ?_
  refine wpL_p (v := .tuple #[.agg (frcC false 4 15), .int .i64 0]) rfl (by kernel_rfl) rfl (fun _ => by kernel_rfl) (by simp only [List.setIfInBounds_toArray, List.set_cons_succ, List.set_cons_zero] <;> rfl) ?_
  refine wpL_p (v := .agg (frcC false 4 15)) rfl (by kernel_rfl) rfl (fun _ => by kernel_rfl) (by simp only [List.setIfInBounds_toArray, List.set_cons_succ, List.set_cons_zero] <;> rfl) ?_
  refine wpL_p (v := .int .i64 0) rfl (by kernel_rfl) rfl (fun _ => by kernel_rfl) (by simp only [List.setIfInBounds_toArray, List.set_cons_succ, List.set_cons_zero] <;> rfl) ?_
  refine wpL_new (fun g => .pointer (some ⟨g, 0, none⟩)) (obi := .cells (frcC false 0 0) 25 (0, 0)) rfl rfl (fun _ => by rw [frc_zero]; rfl) (fun _ => by simp only [List.setIfInBounds_toArray, List.set_cons_succ, List.set_cons_zero] <;> rfl) fun g3 Bg3 Fg3 => ?_
  try simp only [List.forall_mem_cons] at Fg3
  refine wpL_s [(g3, .cells (frcC false 4 15) 25 (0, 0)), (g2, .cells (frcC false 1 10) 25 (0, 0)), (g1, .cells (frcC false 1 6) 25 (0, 0))] rfl rfl (st_f (neg := false) (n := 4) (d := 15) rfl (by kernel_rfl) (by kernel_rfl) (.head _) (by omega) size27 (by intro p hp; simp only [List.mem_cons, List.not_mem_nil, or_false] at hp; rcases hp with rfl | rfl | rfl; exact .inl rfl; exact .inr ⟨by simp, by simp only; omega⟩; exact .inr ⟨by simp, by simp only; omega⟩)) ?_
  refine wpL_p (v := .int .i64 0) rfl (by kernel_rfl) rfl (fun _ => by kernel_rfl) (by simp only [List.setIfInBounds_toArray, List.set_cons_succ, List.set_cons_zero] <;> rfl) ?_
  refine wpL_done (fun W3 hW3 => ?_)
  clear hW2
  refine (show Code.wp _ _ _ _ _ from ?_)
  refine wp_seq ?_
  refine wp_region_L (W0 := w) [(g3, .cells (frcC false 4 15) 25 (0, 0)), (g2, .cells (frcC false 1 10) 25 (0, 0)), (g1, .cells (frcC false 1 6) 25 (0, 0))] (hW3) ?_
  refine wpL_v (v := .agg (frcC false 1 6)) rfl (by kernel_rfl) rfl (yb_load rfl (by kernel_rfl) (.tail _ (.tail _ (.head _))) Tryz.underlying25 rfl size27 (by simp) (frc_whole false 1 6)) (by simp only [List.setIfInBounds_toArray, List.set_cons_succ, List.set_cons_zero] <;> rfl) ?_
  refine wpL_v (v := .agg (frcC false 1 10)) rfl (by kernel_rfl) rfl (yb_load rfl (by kernel_rfl) (.tail _ (.head _)) Tryz.underlying25 rfl size27 (by simp) (frc_whole false 1 10)) (by simp only [List.setIfInBounds_toArray, List.set_cons_succ, List.set_cons_zero] <;> rfl) ?_
  refine wpL_v (v := .tuple #[.agg (frcC false 1 15), .int .i64 0]) rfl (by kernel_rfl) rfl (yb_call (f := 20) (args := #[.agg (frcC false 1 6), .agg (frcC false 1 10)]) (fun _ => by kernel_rfl) fun W hW => HSu.out W) (by simp only [List.setIfInBounds_toArray, List.set_cons_succ, List.set_cons_zero] <;> rfl) ?_
  refine wpL_p (v := .tuple #[.agg (frcC false 1 15), .int .i64 0]) rfl (by kernel_rfl) rfl (fun _ => by kernel_rfl) (by simp only [List.setIfInBounds_toArray, List.set_cons_succ, List.set_cons_zero] <;> rfl) ?_
  refine wpL_p (v := .agg (frcC false 1 15)) rfl (by kernel_rfl) rfl (fun _ => by kernel_rfl) (by simp only [List.setIfInBounds_toArray, List.set_cons_succ, List.set_cons_zero] <;> rfl) ?_
  refine wpL_p (v := .int .i64 0) rfl (by kernel_rfl) rfl (fun _ => by kernel_rfl) (by simp only [List.setIfInBounds_toArray, List.set_cons_succ, List.set_cons_zero] <;> rfl) ?_
  refine wpL_new (fun g => .pointer (some ⟨g, 0, none⟩)) (obi := .cells (frcC false 0 0) 25 (0, 0)) rfl rfl (fun _ => by rw [frc_zero]; rfl) (fun _ => by simp only [List.setIfInBounds_toArray, List.set_cons_succ, List.set_cons_zero] <;> rfl) fun g4 Bg4 Fg4 => ?_
  try simp only [List.forall_mem_cons] at Fg4
  refine wpL_s [(g4, .cells (frcC false 1 15) 25 (0, 0)), (g3, .cells (frcC false 4 15) 25 (0, 0)), (g2, .cells (frcC false 1 10) 25 (0, 0)), (g1, .cells (frcC false 1 6) 25 (0, 0))] rfl rfl (st_f (neg := false) (n := 1) (d := 15) rfl (by kernel_rfl) (by kernel_rfl) (.head _) (by omega) size27 (by intro p hp; simp only [List.mem_cons, List.not_mem_nil, or_false] at hp; rcases hp with rfl | rfl | rfl | rfl; exact .inl rfl; exact .inr ⟨by simp, by simp only; omega⟩; exact .inr ⟨by simp, by simp only; omega⟩; exact .inr ⟨by simp, by simp only; omega⟩)) ?_
  refine wpL_p (v := .int .i64 0) rfl (by kernel_rfl) rfl (fun _ => by kernel_rfl) (by simp only [List.setIfInBounds_toArray, List.set_cons_succ, List.set_cons_zero] <;> rfl) ?_
  refine wpL_done (fun W4 hW4 => ?_)
  clear hW3
  refine (show Code.wp _ _ _ _ _ from ?_)
  refine wp_seq ?_
  refine wp_region_L (W0 := w) [(g4, .cells (frcC false 1 15) 25 (0, 0)), (g3, .cells (frcC false 4 15) 25 (0, 0)), (g2, .cells (frcC false 1 10) 25 (0, 0)), (g1, .cells (frcC false 1 6) 25 (0, 0))] (hW4) ?_
  refine wpL_v (v := .agg (frcC false 1 6)) rfl (by kernel_rfl) rfl (yb_load rfl (by kernel_rfl) (.tail _ (.tail _ (.tail _ (.head _)))) Tryz.underlying25 rfl size27 (by simp) (frc_whole false 1 6)) (by simp only [List.setIfInBounds_toArray, List.set_cons_succ, List.set_cons_zero] <;> rfl) ?_
  refine wpL_v (v := .agg (frcC false 1 10)) rfl (by kernel_rfl) rfl (yb_load rfl (by kernel_rfl) (.tail _ (.tail _ (.head _))) Tryz.underlying25 rfl size27 (by simp) (frc_whole false 1 10)) (by simp only [List.setIfInBounds_toArray, List.set_cons_succ, List.set_cons_zero] <;> rfl) ?_
  refine wpL_v (v := .tuple #[.agg (frcC false 1 60), .int .i64 0]) rfl (by kernel_rfl) rfl (yb_call (f := 22) (args := #[.agg (frcC false 1 6), .agg (frcC false 1 10)]) (fun _ => by kernel_rfl) fun W hW => HMu.out W) (by simp only [List.setIfInBounds_toArray, List.set_cons_succ, List.set_cons_zero] <;> rfl) ?_
  refine wpL_p (v := .tuple #[.agg (frcC false 1 60), .int .i64 0]) rfl (by kernel_rfl) rfl (fun _ => by kernel_rfl) (by simp only [List.setIfInBounds_toArray, List.set_cons_succ, List.set_cons_zero] <;> rfl) ?_
  refine wpL_p (v := .agg (frcC false 1 60)) rfl (by kernel_rfl) rfl (fun _ => by kernel_rfl) (by simp only [List.setIfInBounds_toArray, List.set_cons_succ, List.set_cons_zero] <;> rfl) ?_
  refine wpL_p (v := .int .i64 0) rfl (by kernel_rfl) rfl (fun _ => by kernel_rfl) (by simp only [List.setIfInBounds_toArray, List.set_cons_succ, List.set_cons_zero] <;> rfl) ?_
  refine wpL_new (fun g => .pointer (some ⟨g, 0, none⟩)) (obi := .cells (frcC false 0 0) 25 (0, 0)) rfl rfl (fun _ => by rw [frc_zero]; rfl) (fun _ => by simp only [List.setIfInBounds_toArray, List.set_cons_succ, List.set_cons_zero] <;> rfl) fun g5 Bg5 Fg5 => ?_
  try simp only [List.forall_mem_cons] at Fg5
  refine wpL_s [(g5, .cells (frcC false 1 60) 25 (0, 0)), (g4, .cells (frcC false 1 15) 25 (0, 0)), (g3, .cells (frcC false 4 15) 25 (0, 0)), (g2, .cells (frcC false 1 10) 25 (0, 0)), (g1, .cells (frcC false 1 6) 25 (0, 0))] rfl rfl (st_f (neg := false) (n := 1) (d := 60) rfl (by kernel_rfl) (by kernel_rfl) (.head _) (by omega) size27 (by intro p hp; simp only [List.mem_cons, List.not_mem_nil, or_false] at hp; rcases hp with rfl | rfl | rfl | rfl | rfl; exact .inl rfl; exact .inr ⟨by simp, by simp only; omega⟩; exact .inr ⟨by simp, by simp only; omega⟩; exact .inr ⟨by simp, by simp only; omega⟩; exact .inr ⟨by simp, by simp only; omega⟩)) ?_
  refine wpL_p (v := .int .i64 0) rfl (by kernel_rfl) rfl (fun _ => by kernel_rfl) (by simp only [List.setIfInBounds_toArray, List.set_cons_succ, List.set_cons_zero] <;> rfl) ?_
  refine wpL_done (fun W5 hW5 => ?_)
  clear hW4
  refine (show Code.wp _ _ _ _ _ from ?_)
  refine wp_seq ?_
  refine wp_region_L (W0 := w) [(g5, .cells (frcC false 1 60) 25 (0, 0)), (g4, .cells (frcC false 1 15) 25 (0, 0)), (g3, .cells (frcC false 4 15) 25 (0, 0)), (g2, .cells (frcC false 1 10) 25 (0, 0)), (g1, .cells (frcC false 1 6) 25 (0, 0))] (hW5) ?_
  refine wpL_v (v := .agg (frcC false 1 6)) rfl (by kernel_rfl) rfl (yb_load rfl (by kernel_rfl) (.tail _ (.tail _ (.tail _ (.tail _ (.head _))))) Tryz.underlying25 rfl size27 (by simp) (frc_whole false 1 6)) (by simp only [List.setIfInBounds_toArray, List.set_cons_succ, List.set_cons_zero] <;> rfl) ?_
  refine wpL_v (v := .agg (frcC false 1 10)) rfl (by kernel_rfl) rfl (yb_load rfl (by kernel_rfl) (.tail _ (.tail _ (.tail _ (.head _)))) Tryz.underlying25 rfl size27 (by simp) (frc_whole false 1 10)) (by simp only [List.setIfInBounds_toArray, List.set_cons_succ, List.set_cons_zero] <;> rfl) ?_
  refine wpL_v (v := .tuple #[.agg (frcC false 5 3), .int .i64 0]) rfl (by kernel_rfl) rfl (yb_call (f := 24) (args := #[.agg (frcC false 1 6), .agg (frcC false 1 10)]) (fun _ => by kernel_rfl) fun W hW => HDi.out W) (by simp only [List.setIfInBounds_toArray, List.set_cons_succ, List.set_cons_zero] <;> rfl) ?_
  refine wpL_p (v := .tuple #[.agg (frcC false 5 3), .int .i64 0]) rfl (by kernel_rfl) rfl (fun _ => by kernel_rfl) (by simp only [List.setIfInBounds_toArray, List.set_cons_succ, List.set_cons_zero] <;> rfl) ?_
  refine wpL_p (v := .agg (frcC false 5 3)) rfl (by kernel_rfl) rfl (fun _ => by kernel_rfl) (by simp only [List.setIfInBounds_toArray, List.set_cons_succ, List.set_cons_zero] <;> rfl) ?_
  refine wpL_p (v := .int .i64 0) rfl (by kernel_rfl) rfl (fun _ => by kernel_rfl) (by simp only [List.setIfInBounds_toArray, List.set_cons_succ, List.set_cons_zero] <;> rfl) ?_
  refine wpL_new (fun g => .pointer (some ⟨g, 0, none⟩)) (obi := .cells (frcC false 0 0) 25 (0, 0)) rfl rfl (fun _ => by rw [frc_zero]; rfl) (fun _ => by simp only [List.setIfInBounds_toArray, List.set_cons_succ, List.set_cons_zero] <;> rfl) fun g6 Bg6 Fg6 => ?_
  try simp only [List.forall_mem_cons] at Fg6
  refine wpL_s [(g6, .cells (frcC false 5 3) 25 (0, 0)), (g5, .cells (frcC false 1 60) 25 (0, 0)), (g4, .cells (frcC false 1 15) 25 (0, 0)), (g3, .cells (frcC false 4 15) 25 (0, 0)), (g2, .cells (frcC false 1 10) 25 (0, 0)), (g1, .cells (frcC false 1 6) 25 (0, 0))] rfl rfl (st_f (neg := false) (n := 5) (d := 3) rfl (by kernel_rfl) (by kernel_rfl) (.head _) (by omega) size27 (by intro p hp; simp only [List.mem_cons, List.not_mem_nil, or_false] at hp; rcases hp with rfl | rfl | rfl | rfl | rfl | rfl; exact .inl rfl; exact .inr ⟨by simp, by simp only; omega⟩; exact .inr ⟨by simp, by simp only; omega⟩; exact .inr ⟨by simp, by simp only; omega⟩; exact .inr ⟨by simp, by simp only; omega⟩; exact .inr ⟨by simp, by simp only; omega⟩)) ?_
  refine wpL_p (v := .int .i64 0) rfl (by kernel_rfl) rfl (fun _ => by kernel_rfl) (by simp only [List.setIfInBounds_toArray, List.set_cons_succ, List.set_cons_zero] <;> rfl) ?_
  refine wpL_done (fun W6 hW6 => ?_)
  clear hW5
  refine (show Code.wp _ _ _ _ _ from ?_)
  refine wp_seq ?_
  refine wp_region_L (W0 := w) [(g6, .cells (frcC false 5 3) 25 (0, 0)), (g5, .cells (frcC false 1 60) 25 (0, 0)), (g4, .cells (frcC false 1 15) 25 (0, 0)), (g3, .cells (frcC false 4 15) 25 (0, 0)), (g2, .cells (frcC false 1 10) 25 (0, 0)), (g1, .cells (frcC false 1 6) 25 (0, 0))] (hW6) ?_
  refine wpL_v (v := .agg (frcC true 3 2)) rfl (by kernel_rfl) rfl (yb_call (f := 11) (args := #[.int .i64 6, .int .i64 (-4)]) (fun _ => by kernel_rfl) fun W hW => HR2.out W) (by simp only [List.setIfInBounds_toArray, List.set_cons_succ, List.set_cons_zero] <;> rfl) ?_
  refine wpL_v (v := .tuple #[.string ⟨#[45, 51, 47, 50]⟩, .int .i64 0]) rfl (by kernel_rfl) rfl (yb_call (f := 30) (args := #[.agg (frcC true 3 2)]) (fun _ => by kernel_rfl) fun W hW => HTx.out W hW.1) (by simp only [List.setIfInBounds_toArray, List.set_cons_succ, List.set_cons_zero] <;> rfl) ?_
  refine wpL_p (v := .tuple #[.string ⟨#[45, 51, 47, 50]⟩, .int .i64 0]) rfl (by kernel_rfl) rfl (fun _ => by kernel_rfl) (by simp only [List.setIfInBounds_toArray, List.set_cons_succ, List.set_cons_zero] <;> rfl) ?_
  refine wpL_p (v := .string ⟨#[45, 51, 47, 50]⟩) rfl (by kernel_rfl) rfl (fun _ => by kernel_rfl) (by simp only [List.setIfInBounds_toArray, List.set_cons_succ, List.set_cons_zero] <;> rfl) ?_
  refine wpL_p (v := .int .i64 0) rfl (by kernel_rfl) rfl (fun _ => by kernel_rfl) (by simp only [List.setIfInBounds_toArray, List.set_cons_succ, List.set_cons_zero] <;> rfl) ?_
  refine wpL_p (v := .string ⟨#[45, 51, 47, 50]⟩) rfl (by kernel_rfl) rfl (fun _ => by kernel_rfl) (by simp only [List.setIfInBounds_toArray, List.set_cons_succ, List.set_cons_zero] <;> rfl) ?_
  refine wpL_p (v := .int .i64 0) rfl (by kernel_rfl) rfl (fun _ => by kernel_rfl) (by simp only [List.setIfInBounds_toArray, List.set_cons_succ, List.set_cons_zero] <;> rfl) ?_
  refine wpL_done (fun W7 hW7 => ?_)
  clear hW6
  refine (show Code.wp _ _ _ _ _ from ?_)
  refine wp_seq ?_
  refine wp_region_L (W0 := w) [(g6, .cells (frcC false 5 3) 25 (0, 0)), (g5, .cells (frcC false 1 60) 25 (0, 0)), (g4, .cells (frcC false 1 15) 25 (0, 0)), (g3, .cells (frcC false 4 15) 25 (0, 0)), (g2, .cells (frcC false 1 10) 25 (0, 0)), (g1, .cells (frcC false 1 6) 25 (0, 0))] (hW7) ?_
  refine wpL_v (v := .agg (frcC true 3 2)) rfl (by kernel_rfl) rfl (yb_call (f := 11) (args := #[.int .i64 (-3), .int .i64 2]) (fun _ => by kernel_rfl) fun W hW => HR3.out W) (by simp only [List.setIfInBounds_toArray, List.set_cons_succ, List.set_cons_zero] <;> rfl) ?_
  refine wpL_v (v := .tuple #[.int .i64 (-2), .int .i64 0]) rfl (by kernel_rfl) rfl (yb_call (f := 28) (args := #[.agg (frcC true 3 2)]) (fun _ => by kernel_rfl) fun W hW => HF1.out W) (by simp only [List.setIfInBounds_toArray, List.set_cons_succ, List.set_cons_zero] <;> rfl) ?_
  refine wpL_p (v := .tuple #[.int .i64 (-2), .int .i64 0]) rfl (by kernel_rfl) rfl (fun _ => by kernel_rfl) (by simp only [List.setIfInBounds_toArray, List.set_cons_succ, List.set_cons_zero] <;> rfl) ?_
  refine wpL_p (v := .int .i64 (-2)) rfl (by kernel_rfl) rfl (fun _ => by kernel_rfl) (by simp only [List.setIfInBounds_toArray, List.set_cons_succ, List.set_cons_zero] <;> rfl) ?_
  refine wpL_p (v := .int .i64 0) rfl (by kernel_rfl) rfl (fun _ => by kernel_rfl) (by simp only [List.setIfInBounds_toArray, List.set_cons_succ, List.set_cons_zero] <;> rfl) ?_
  refine wpL_p (v := .int .i64 (-2)) rfl (by kernel_rfl) rfl (fun _ => by kernel_rfl) (by simp only [List.setIfInBounds_toArray, List.set_cons_succ, List.set_cons_zero] <;> rfl) ?_
  refine wpL_p (v := .int .i64 0) rfl (by kernel_rfl) rfl (fun _ => by kernel_rfl) (by simp only [List.setIfInBounds_toArray, List.set_cons_succ, List.set_cons_zero] <;> rfl) ?_
  refine wpL_done (fun W8 hW8 => ?_)
  clear hW7
  refine (show Code.wp _ _ _ _ _ from ?_)
  refine wp_seq ?_
  refine wp_region_L (W0 := w) [(g6, .cells (frcC false 5 3) 25 (0, 0)), (g5, .cells (frcC false 1 60) 25 (0, 0)), (g4, .cells (frcC false 1 15) 25 (0, 0)), (g3, .cells (frcC false 4 15) 25 (0, 0)), (g2, .cells (frcC false 1 10) 25 (0, 0)), (g1, .cells (frcC false 1 6) 25 (0, 0))] (hW8) ?_
  refine wpL_v (v := .agg (frcC false 3 2)) rfl (by kernel_rfl) rfl (yb_call (f := 11) (args := #[.int .i64 3, .int .i64 2]) (fun _ => by kernel_rfl) fun W hW => HR4.out W) (by simp only [List.setIfInBounds_toArray, List.set_cons_succ, List.set_cons_zero] <;> rfl) ?_
  refine wpL_v (v := .tuple #[.int .i64 1, .int .i64 0]) rfl (by kernel_rfl) rfl (yb_call (f := 28) (args := #[.agg (frcC false 3 2)]) (fun _ => by kernel_rfl) fun W hW => HF2.out W) (by simp only [List.setIfInBounds_toArray, List.set_cons_succ, List.set_cons_zero] <;> rfl) ?_
  refine wpL_p (v := .tuple #[.int .i64 1, .int .i64 0]) rfl (by kernel_rfl) rfl (fun _ => by kernel_rfl) (by simp only [List.setIfInBounds_toArray, List.set_cons_succ, List.set_cons_zero] <;> rfl) ?_
  refine wpL_p (v := .int .i64 1) rfl (by kernel_rfl) rfl (fun _ => by kernel_rfl) (by simp only [List.setIfInBounds_toArray, List.set_cons_succ, List.set_cons_zero] <;> rfl) ?_
  refine wpL_p (v := .int .i64 0) rfl (by kernel_rfl) rfl (fun _ => by kernel_rfl) (by simp only [List.setIfInBounds_toArray, List.set_cons_succ, List.set_cons_zero] <;> rfl) ?_
  refine wpL_p (v := .int .i64 1) rfl (by kernel_rfl) rfl (fun _ => by kernel_rfl) (by simp only [List.setIfInBounds_toArray, List.set_cons_succ, List.set_cons_zero] <;> rfl) ?_
  refine wpL_p (v := .int .i64 0) rfl (by kernel_rfl) rfl (fun _ => by kernel_rfl) (by simp only [List.setIfInBounds_toArray, List.set_cons_succ, List.set_cons_zero] <;> rfl) ?_
  refine wpL_done (fun W9 hW9 => ?_)
  clear hW8
  refine (show Code.wp _ _ _ _ _ from ?_)
  refine wp_seq ?_
  refine wp_seq ?_
  refine wp_region_V (W0 := w) [(g6, .cells (frcC false 5 3) 25 (0, 0)), (g5, .cells (frcC false 1 60) 25 (0, 0)), (g4, .cells (frcC false 1 15) 25 (0, 0)), (g3, .cells (frcC false 4 15) 25 (0, 0)), (g2, .cells (frcC false 1 10) 25 (0, 0)), (g1, .cells (frcC false 1 6) 25 (0, 0))] (by kernel_rfl) (hW9) ?_
  refine wpV_p (i := 0) (v := .int .i64 0) rfl rfl (by kernel_rfl) (by kernel_rfl) rfl (fun _ => by kernel_rfl) (by simp only [List.setIfInBounds_toArray, List.set_cons_succ, List.set_cons_zero] <;> rfl) ?_
  refine wpV_p (i := 1) (v := .int .i64 0) rfl rfl (by kernel_rfl) (by kernel_rfl) rfl (fun _ => by kernel_rfl) (by simp only [List.setIfInBounds_toArray, List.set_cons_succ, List.set_cons_zero] <;> rfl) ?_
  refine wpV_p (i := 2) (v := .int .i64 0) rfl rfl (by kernel_rfl) (by kernel_rfl) rfl (fun _ => by kernel_rfl) (by simp only [List.setIfInBounds_toArray, List.set_cons_succ, List.set_cons_zero] <;> rfl) ?_
  refine wpV_p (i := 3) (v := .int .i64 0) rfl rfl (by kernel_rfl) (by kernel_rfl) rfl (fun _ => by kernel_rfl) (by simp only [List.setIfInBounds_toArray, List.set_cons_succ, List.set_cons_zero] <;> rfl) ?_
  refine wpV_p (i := 4) (v := .int .i64 0) rfl rfl (by kernel_rfl) (by kernel_rfl) rfl (fun _ => by kernel_rfl) (by simp only [List.setIfInBounds_toArray, List.set_cons_succ, List.set_cons_zero] <;> rfl) ?_
  refine wpV_p (i := 5) (v := .int .i64 0) rfl rfl (by kernel_rfl) (by kernel_rfl) rfl (fun _ => by kernel_rfl) (by simp only [List.setIfInBounds_toArray, List.set_cons_succ, List.set_cons_zero] <;> rfl) ?_
  refine wpV_p (i := 6) (v := .int .i64 0) rfl rfl (by kernel_rfl) (by kernel_rfl) rfl (fun _ => by kernel_rfl) (by simp only [List.setIfInBounds_toArray, List.set_cons_succ, List.set_cons_zero] <;> rfl) ?_
  refine wpV_p (i := 7) (v := .int .i64 0) rfl rfl (by kernel_rfl) (by kernel_rfl) rfl (fun _ => by kernel_rfl) (by simp only [List.setIfInBounds_toArray, List.set_cons_succ, List.set_cons_zero] <;> rfl) ?_
  refine wpV_p (i := 8) (v := .int .i64 0) rfl rfl (by kernel_rfl) (by kernel_rfl) rfl (fun _ => by kernel_rfl) (by simp only [List.setIfInBounds_toArray, List.set_cons_succ, List.set_cons_zero] <;> rfl) ?_
  refine wpV_p (i := 9) (v := .int .i64 0) rfl rfl (by kernel_rfl) (by kernel_rfl) rfl (fun _ => by kernel_rfl) (by simp only [List.setIfInBounds_toArray, List.set_cons_succ, List.set_cons_zero] <;> rfl) ?_
  refine wpV_p (i := 10) (v := .int .i64 0) rfl rfl (by kernel_rfl) (by kernel_rfl) rfl (fun _ => by kernel_rfl) (by simp only [List.setIfInBounds_toArray, List.set_cons_succ, List.set_cons_zero] <;> rfl) ?_
  refine wpV_p (i := 11) (v := .int .i64 0) rfl rfl (by kernel_rfl) (by kernel_rfl) rfl (fun _ => by kernel_rfl) (by simp only [List.setIfInBounds_toArray, List.set_cons_succ, List.set_cons_zero] <;> rfl) ?_
  refine wpV_p (i := 12) (v := .int .i64 0) rfl rfl (by kernel_rfl) (by kernel_rfl) rfl (fun _ => by kernel_rfl) (by simp only [List.setIfInBounds_toArray, List.set_cons_succ, List.set_cons_zero] <;> rfl) ?_
  refine wpV_p (i := 13) (v := .bool false) rfl rfl (by kernel_rfl) (by kernel_rfl) rfl (fun _ => by kernel_rfl) (by simp only [List.setIfInBounds_toArray, List.set_cons_succ, List.set_cons_zero] <;> rfl) ?_
  refine wpV_p (i := 14) (v := .bool false) rfl rfl (by kernel_rfl) (by kernel_rfl) rfl (fun _ => by kernel_rfl) (by simp only [List.setIfInBounds_toArray, List.set_cons_succ, List.set_cons_zero] <;> rfl) ?_
  refine wpV_v (i := 15) (v := .agg (frcC false 4 15)) rfl rfl (by kernel_rfl) (by kernel_rfl) rfl (yb_load rfl (by kernel_rfl) (.tail _ (.tail _ (.tail _ (.head _)))) Tryz.underlying25 rfl size27 (by simp) (frc_whole false 4 15)) (by simp only [List.setIfInBounds_toArray, List.set_cons_succ, List.set_cons_zero] <;> rfl) ?_
  refine wpV_v (i := 16) (v := .agg (frcC false 4 15)) rfl rfl (by kernel_rfl) (by kernel_rfl) rfl (yb_call (f := 11) (args := #[.int .i64 4, .int .i64 15]) (fun _ => by kernel_rfl) fun W hW => HR5.out W) (by simp only [List.setIfInBounds_toArray, List.set_cons_succ, List.set_cons_zero] <;> rfl) ?_
  refine wpV_p (i := 17) (v := .bool false) rfl rfl (by kernel_rfl) (by kernel_rfl) rfl (run_binY rfl (vx := .agg (frcC false 4 15)) (vy := .agg (frcC false 4 15)) (by kernel_rfl) (by kernel_rfl) fun w => run_neq27s (lt8 (by omega)) (lt8 (by omega)) w) (by simp only [List.setIfInBounds_toArray, List.set_cons_succ, List.set_cons_zero] <;> rfl) ?_
  refine wpV_p (i := 18) (v := .bool false) rfl rfl (by kernel_rfl) (by kernel_rfl) rfl (fun _ => by kernel_rfl) (by simp only [List.setIfInBounds_toArray, List.set_cons_succ, List.set_cons_zero] <;> rfl) ?_
  refine wpV_p (i := 19) (v := .bool false) rfl rfl (by kernel_rfl) (by kernel_rfl) rfl (fun _ => by kernel_rfl) (by simp only [List.setIfInBounds_toArray, List.set_cons_succ, List.set_cons_zero] <;> rfl) ?_
  refine wpV_v (i := 20) (v := .agg (frcC false 1 15)) rfl rfl (by kernel_rfl) (by kernel_rfl) rfl (yb_load rfl (by kernel_rfl) (.tail _ (.tail _ (.head _))) Tryz.underlying25 rfl size27 (by simp) (frc_whole false 1 15)) (by simp only [List.setIfInBounds_toArray, List.set_cons_succ, List.set_cons_zero] <;> rfl) ?_
  refine wpV_v (i := 21) (v := .agg (frcC false 1 15)) rfl rfl (by kernel_rfl) (by kernel_rfl) rfl (yb_call (f := 11) (args := #[.int .i64 1, .int .i64 15]) (fun _ => by kernel_rfl) fun W hW => HR6.out W) (by simp only [List.setIfInBounds_toArray, List.set_cons_succ, List.set_cons_zero] <;> rfl) ?_
  refine wpV_p (i := 22) (v := .bool false) rfl rfl (by kernel_rfl) (by kernel_rfl) rfl (run_binY rfl (vx := .agg (frcC false 1 15)) (vy := .agg (frcC false 1 15)) (by kernel_rfl) (by kernel_rfl) fun w => run_neq27s (lt8 (by omega)) (lt8 (by omega)) w) (by simp only [List.setIfInBounds_toArray, List.set_cons_succ, List.set_cons_zero] <;> rfl) ?_
  refine wpV_p (i := 23) (v := .bool false) rfl rfl (by kernel_rfl) (by kernel_rfl) rfl (fun _ => by kernel_rfl) (by simp only [List.setIfInBounds_toArray, List.set_cons_succ, List.set_cons_zero] <;> rfl) ?_
  refine wpV_p (i := 24) (v := .bool false) rfl rfl (by kernel_rfl) (by kernel_rfl) rfl (fun _ => by kernel_rfl) (by simp only [List.setIfInBounds_toArray, List.set_cons_succ, List.set_cons_zero] <;> rfl) ?_
  refine wpV_v (i := 25) (v := .agg (frcC false 1 60)) rfl rfl (by kernel_rfl) (by kernel_rfl) rfl (yb_load rfl (by kernel_rfl) (.tail _ (.head _)) Tryz.underlying25 rfl size27 (by simp) (frc_whole false 1 60)) (by simp only [List.setIfInBounds_toArray, List.set_cons_succ, List.set_cons_zero] <;> rfl) ?_
  refine wpV_v (i := 26) (v := .agg (frcC false 1 60)) rfl rfl (by kernel_rfl) (by kernel_rfl) rfl (yb_call (f := 11) (args := #[.int .i64 1, .int .i64 60]) (fun _ => by kernel_rfl) fun W hW => HR7.out W) (by simp only [List.setIfInBounds_toArray, List.set_cons_succ, List.set_cons_zero] <;> rfl) ?_
  refine wpV_p (i := 27) (v := .bool false) rfl rfl (by kernel_rfl) (by kernel_rfl) rfl (run_binY rfl (vx := .agg (frcC false 1 60)) (vy := .agg (frcC false 1 60)) (by kernel_rfl) (by kernel_rfl) fun w => run_neq27s (lt8 (by omega)) (lt8 (by omega)) w) (by simp only [List.setIfInBounds_toArray, List.set_cons_succ, List.set_cons_zero] <;> rfl) ?_
  refine wpV_p (i := 28) (v := .bool false) rfl rfl (by kernel_rfl) (by kernel_rfl) rfl (fun _ => by kernel_rfl) (by simp only [List.setIfInBounds_toArray, List.set_cons_succ, List.set_cons_zero] <;> rfl) ?_
  refine wpV_p (i := 29) (v := .bool false) rfl rfl (by kernel_rfl) (by kernel_rfl) rfl (fun _ => by kernel_rfl) (by simp only [List.setIfInBounds_toArray, List.set_cons_succ, List.set_cons_zero] <;> rfl) ?_
  refine wpV_v (i := 30) (v := .agg (frcC false 5 3)) rfl rfl (by kernel_rfl) (by kernel_rfl) rfl (yb_load rfl (by kernel_rfl) (.head _) Tryz.underlying25 rfl size27 (by simp) (frc_whole false 5 3)) (by simp only [List.setIfInBounds_toArray, List.set_cons_succ, List.set_cons_zero] <;> rfl) ?_
  refine wpV_v (i := 31) (v := .agg (frcC false 5 3)) rfl rfl (by kernel_rfl) (by kernel_rfl) rfl (yb_call (f := 11) (args := #[.int .i64 5, .int .i64 3]) (fun _ => by kernel_rfl) fun W hW => HR8.out W) (by simp only [List.setIfInBounds_toArray, List.set_cons_succ, List.set_cons_zero] <;> rfl) ?_
  refine wpV_p (i := 32) (v := .bool false) rfl rfl (by kernel_rfl) (by kernel_rfl) rfl (run_binY rfl (vx := .agg (frcC false 5 3)) (vy := .agg (frcC false 5 3)) (by kernel_rfl) (by kernel_rfl) fun w => run_neq27s (lt8 (by omega)) (lt8 (by omega)) w) (by simp only [List.setIfInBounds_toArray, List.set_cons_succ, List.set_cons_zero] <;> rfl) ?_
  refine wpV_p (i := 33) (v := .bool false) rfl rfl (by kernel_rfl) (by kernel_rfl) rfl (fun _ => by kernel_rfl) (by simp only [List.setIfInBounds_toArray, List.set_cons_succ, List.set_cons_zero] <;> rfl) ?_
  refine wpV_p (i := 34) (v := .bool false) rfl rfl (by kernel_rfl) (by kernel_rfl) rfl (fun _ => by kernel_rfl) (by simp only [List.setIfInBounds_toArray, List.set_cons_succ, List.set_cons_zero] <;> rfl) ?_
  refine wpV_p (i := 35) (v := .string ⟨#[45, 51, 47, 50]⟩) rfl rfl (by kernel_rfl) (by kernel_rfl) rfl (fun _ => by kernel_rfl) (by simp only [List.setIfInBounds_toArray, List.set_cons_succ, List.set_cons_zero] <;> rfl) ?_
  refine wpV_p (i := 36) (v := .bool false) rfl rfl (by kernel_rfl) (by kernel_rfl) rfl (fun _ => by kernel_rfl) (by simp only [List.setIfInBounds_toArray, List.set_cons_succ, List.set_cons_zero] <;> rfl) ?_
  refine wpV_p (i := 37) (v := .bool false) rfl rfl (by kernel_rfl) (by kernel_rfl) rfl (fun _ => by kernel_rfl) (by simp only [List.setIfInBounds_toArray, List.set_cons_succ, List.set_cons_zero] <;> rfl) ?_
  refine wpV_p (i := 38) (v := .bool false) rfl rfl (by kernel_rfl) (by kernel_rfl) rfl (fun _ => by kernel_rfl) (by simp only [List.setIfInBounds_toArray, List.set_cons_succ, List.set_cons_zero] <;> rfl) ?_
  refine wpV_p (i := 39) (v := .int .i64 (-2)) rfl rfl (by kernel_rfl) (by kernel_rfl) rfl (fun _ => by kernel_rfl) (by simp only [List.setIfInBounds_toArray, List.set_cons_succ, List.set_cons_zero] <;> rfl) ?_
  refine wpV_p (i := 40) (v := .bool false) rfl rfl (by kernel_rfl) (by kernel_rfl) rfl (fun _ => by kernel_rfl) (by simp only [List.setIfInBounds_toArray, List.set_cons_succ, List.set_cons_zero] <;> rfl) ?_
  refine wpV_p (i := 41) (v := .bool false) rfl rfl (by kernel_rfl) (by kernel_rfl) rfl (fun _ => by kernel_rfl) (by simp only [List.setIfInBounds_toArray, List.set_cons_succ, List.set_cons_zero] <;> rfl) ?_
  refine wpV_p (i := 42) (v := .bool false) rfl rfl (by kernel_rfl) (by kernel_rfl) rfl (fun _ => by kernel_rfl) (by simp only [List.setIfInBounds_toArray, List.set_cons_succ, List.set_cons_zero] <;> rfl) ?_
  refine wpV_p (i := 43) (v := .int .i64 1) rfl rfl (by kernel_rfl) (by kernel_rfl) rfl (fun _ => by kernel_rfl) (by simp only [List.setIfInBounds_toArray, List.set_cons_succ, List.set_cons_zero] <;> rfl) ?_
  refine wpV_p (i := 44) (v := .bool false) rfl rfl (by kernel_rfl) (by kernel_rfl) rfl (fun _ => by kernel_rfl) (by simp only [List.setIfInBounds_toArray, List.set_cons_succ, List.set_cons_zero] <;> rfl) ?_
  refine wpV_p (i := 45) (v := .bool false) rfl rfl (by kernel_rfl) (by kernel_rfl) rfl (fun _ => by kernel_rfl) (by simp only [List.setIfInBounds_toArray, List.set_cons_succ, List.set_cons_zero] <;> rfl) ?_
  refine wpV_done (by kernel_rfl) (fun W10 hW10 => ?_) _
  clear hW9
  refine (show Code.wp _ _ _ _ _ from ?_)
  refine wp_cond_false rfl ?_
  refine wp_skip ?_
  refine (show Code.wp _ _ _ _ _ from ?_)
  refine wp_seq ?_
  refine wp_seq ?_
  refine wp_region_L (W0 := w) [(g6, .cells (frcC false 5 3) 25 (0, 0)), (g5, .cells (frcC false 1 60) 25 (0, 0)), (g4, .cells (frcC false 1 15) 25 (0, 0)), (g3, .cells (frcC false 4 15) 25 (0, 0)), (g2, .cells (frcC false 1 10) 25 (0, 0)), (g1, .cells (frcC false 1 6) 25 (0, 0))] (hW10) ?_
  refine wpL_v (v := .agg (frcC true 3 2)) rfl (by kernel_rfl) rfl (yb_call (f := 11) (args := #[.int .i64 6, .int .i64 (-4)]) (fun _ => by kernel_rfl) fun W hW => HR2.out W) (by simp only [List.setIfInBounds_toArray, List.set_cons_succ, List.set_cons_zero] <;> rfl) ?_
  refine wpL_p (v := .agg #[.int .u32 3, .int .u32 0, .int .u32 0, .int .u32 0, .int .u32 0, .int .u32 0, .int .u32 0, .int .u32 0]) rfl (by kernel_rfl) rfl (fun _ => by kernel_rfl) (by simp only [List.setIfInBounds_toArray, List.set_cons_succ, List.set_cons_zero] <;> rfl) ?_
  refine wpL_p (v := .agg #[.int .u32 2, .int .u32 0, .int .u32 0, .int .u32 0, .int .u32 0, .int .u32 0, .int .u32 0, .int .u32 0]) rfl (by kernel_rfl) rfl (fun _ => by kernel_rfl) (by simp only [List.setIfInBounds_toArray, List.set_cons_succ, List.set_cons_zero] <;> rfl) ?_
  refine wpL_p (v := .agg (frcC true 3 2)) rfl (by kernel_rfl) rfl (fun _ => by kernel_rfl) (by simp only [List.setIfInBounds_toArray, List.set_cons_succ, List.set_cons_zero] <;> rfl) ?_
  refine wpL_p (v := .bool false) rfl (by kernel_rfl) rfl (run_binY rfl (vx := .agg (frcC true 3 2)) (vy := .agg (frcC true 3 2)) (by kernel_rfl) (by kernel_rfl) fun w => run_neq27s (lt8 (by omega)) (lt8 (by omega)) w) (by simp only [List.setIfInBounds_toArray, List.set_cons_succ, List.set_cons_zero] <;> rfl) ?_
  refine wpL_done (fun W11 hW11 => ?_)
  clear hW10
  refine (show Code.wp _ _ _ _ _ from ?_)
  refine wp_cond_false rfl ?_
  refine wp_skip ?_
  refine (show Code.wp _ _ _ _ _ from ?_)
  refine wp_seq ?_
  refine wp_seq ?_
  have HK13 := Lib.hid (hW11.sub (K' := []) (fun _ h => by cases h))
  clear hW11
  try go_frame
  have HK14 := Lib.hid HK13.out.drew
  refine wp_region_fin (F := fun b r W => w.heap.size ≤ r ∧ w.heap.size ≤ b ∧ KS w [] W ∧ ∃ n D cnt, SubD L8 D ∧ W.ranges Tryz.prog 9 (plainElem (H := Unit) Tryz.prog 35) b r n D (Maps.has D) cnt)
    (fun b r => [(114, .map (some b)), (115, R78), (116, S79), (117, .map (some b)), (118, .pointer (some ⟨r, 0, none⟩))]) (by kernel_rfl) ?_ ?_
  · intro Q' hQ
    generalize W11.drew = W14 at *
    refine Tf.wpAny_step2 (n := 12) (rs := [0, 8]) (by kernel_rfl) (by simp) fun i hi => ?_
    simp only [List.mem_cons, List.not_mem_nil, or_false] at hi
    rcases hi with rfl | rfl
    · refine ⟨_, 114, rfl, rfl, rfl, Oto.of_run (v := .map (some W14.heap.size)) (w' := W14.alloc (.map #[] 0)) rfl ?_⟩
      refine wpC_sound (I := MapI Tryz.prog 9 35 L8 w W14.heap.size) (m := 1) (last := 12) 11 _ _ ?_ _ (MapI.start HK14.out (by omega))
      try go_frame
      refine wpC_c (i := 8) (v := R78) rfl rfl (by kernel_rfl) rfl (fun _ => by kernel_rfl) HRp (by simp only [List.setIfInBounds_toArray, List.set_cons_succ, List.set_cons_zero] <;> rfl) ?_
      refine wpC_v (i := 9) (v := S79) rfl rfl (by kernel_rfl) rfl (run_binY rfl (vx := .string ⟨#[49]⟩) (vy := R78) (by kernel_rfl) (by kernel_rfl) fun w => run_cat w) (by simp only [List.setIfInBounds_toArray, List.set_cons_succ, List.set_cons_zero] <;> rfl) ?_
      refine wpC_i (i := 1) (l := [51, 47, 45, 50]) (e := 10) Tryz.underlying9 Tryz.underlying35 Tryz.underlying54 (by simp [L8]) (by decide) (by decide) rfl rfl rfl (by kernel_rfl) rfl rfl rfl rfl ?_
      refine wpC_i (i := 2) (l := [48, 51]) (e := 10) Tryz.underlying9 Tryz.underlying35 Tryz.underlying54 (by simp [L8]) (by decide) (by decide) rfl rfl rfl (by kernel_rfl) rfl rfl rfl rfl ?_
      refine wpC_i (i := 3) (l := [49, 47, 48]) (e := 10) Tryz.underlying9 Tryz.underlying35 Tryz.underlying54 (by simp [L8]) (by decide) (by decide) rfl rfl rfl (by kernel_rfl) rfl rfl rfl rfl ?_
      refine wpC_i (i := 4) (l := []) (e := 10) Tryz.underlying9 Tryz.underlying35 Tryz.underlying54 (by simp [L8]) (by decide) (by decide) rfl rfl rfl (by kernel_rfl) rfl rfl rfl rfl ?_
      refine wpC_i (i := 5) (l := [50, 47, 52]) (e := 11) Tryz.underlying9 Tryz.underlying35 Tryz.underlying54 (by simp [L8]) (by decide) (by decide) rfl rfl rfl (by kernel_rfl) rfl rfl rfl rfl ?_
      refine wpC_i (i := 6) (l := [52, 47, 49]) (e := 11) Tryz.underlying9 Tryz.underlying35 Tryz.underlying54 (by simp [L8]) (by decide) (by decide) rfl rfl rfl (by kernel_rfl) rfl rfl rfl rfl ?_
      refine wpC_i (i := 7) (l := [45, 48]) (e := 11) Tryz.underlying9 Tryz.underlying35 Tryz.underlying54 (by simp [L8]) (by decide) (by decide) rfl rfl rfl (by kernel_rfl) rfl rfl rfl rfl ?_
      refine wpC_i (i := 10) (l := (49 :: Lib.repeatL [48] 78)) (e := 3) Tryz.underlying9 Tryz.underlying35 Tryz.underlying54 (by simp [L8]) (by decide) (by decide) rfl rfl rfl (by kernel_rfl) rfl rfl rfl rfl ?_
      refine wpC_v (i := 11) (v := .map (some W14.heap.size)) rfl rfl (by kernel_rfl) rfl (fun _ => by kernel_rfl) (by simp only [List.setIfInBounds_toArray, List.set_cons_succ, List.set_cons_zero] <;> rfl) ?_
      refine wpC_r Tryz.underlying9 Tryz.underlying54 rfl rfl rfl (by kernel_rfl) (by kernel_rfl) rfl rfl ?_
      intro r n D cnt W hr hK hS hrg
      have h := hQ _ r W ⟨hr, HK14.out.1.size, hK, n, D, cnt, hS, hrg⟩
      simp only [List.foldl_cons, List.foldl_nil] at h
      try go_frame
      simp only [Act.put, List.setIfInBounds_toArray, List.set_cons_succ, List.set_cons_zero] at h
      exact h
    · refine ⟨_, 115, rfl, rfl, rfl, Oto.of_call (v := R78) (by kernel_rfl) (HRp W14) fun W15 hb => ?_⟩
      have HK15 := Lib.hid (HK14.out.below hb)
      clear hb
      refine Tf.wpAny_step2 (n := 11) (rs := [0, 9]) (by kernel_rfl) (by simp) fun i hi => ?_
      simp only [List.mem_cons, List.not_mem_nil, or_false] at hi
      try go_frame
      rcases hi with rfl | rfl
      · refine ⟨_, 114, rfl, rfl, rfl, Oto.of_run (v := .map (some W15.heap.size)) (w' := W15.alloc (.map #[] 0)) rfl ?_⟩
        refine wpC_sound (I := MapI Tryz.prog 9 35 L8 w W15.heap.size) (m := 1) (last := 12) 10 _ _ ?_ _ (MapI.start HK15.out (by omega))
        try go_frame
        refine wpC_v (i := 9) (v := S79) rfl rfl (by kernel_rfl) rfl (run_binY rfl (vx := .string ⟨#[49]⟩) (vy := R78) (by kernel_rfl) (by kernel_rfl) fun w => run_cat w) (by simp only [List.setIfInBounds_toArray, List.set_cons_succ, List.set_cons_zero] <;> rfl) ?_
        refine wpC_i (i := 1) (l := [51, 47, 45, 50]) (e := 10) Tryz.underlying9 Tryz.underlying35 Tryz.underlying54 (by simp [L8]) (by decide) (by decide) rfl rfl rfl (by kernel_rfl) rfl rfl rfl rfl ?_
        refine wpC_i (i := 2) (l := [48, 51]) (e := 10) Tryz.underlying9 Tryz.underlying35 Tryz.underlying54 (by simp [L8]) (by decide) (by decide) rfl rfl rfl (by kernel_rfl) rfl rfl rfl rfl ?_
        refine wpC_i (i := 3) (l := [49, 47, 48]) (e := 10) Tryz.underlying9 Tryz.underlying35 Tryz.underlying54 (by simp [L8]) (by decide) (by decide) rfl rfl rfl (by kernel_rfl) rfl rfl rfl rfl ?_
        refine wpC_i (i := 4) (l := []) (e := 10) Tryz.underlying9 Tryz.underlying35 Tryz.underlying54 (by simp [L8]) (by decide) (by decide) rfl rfl rfl (by kernel_rfl) rfl rfl rfl rfl ?_
        refine wpC_i (i := 5) (l := [50, 47, 52]) (e := 11) Tryz.underlying9 Tryz.underlying35 Tryz.underlying54 (by simp [L8]) (by decide) (by decide) rfl rfl rfl (by kernel_rfl) rfl rfl rfl rfl ?_
        refine wpC_i (i := 6) (l := [52, 47, 49]) (e := 11) Tryz.underlying9 Tryz.underlying35 Tryz.underlying54 (by simp [L8]) (by decide) (by decide) rfl rfl rfl (by kernel_rfl) rfl rfl rfl rfl ?_
        refine wpC_i (i := 7) (l := [45, 48]) (e := 11) Tryz.underlying9 Tryz.underlying35 Tryz.underlying54 (by simp [L8]) (by decide) (by decide) rfl rfl rfl (by kernel_rfl) rfl rfl rfl rfl ?_
        refine wpC_i (i := 10) (l := (49 :: Lib.repeatL [48] 78)) (e := 3) Tryz.underlying9 Tryz.underlying35 Tryz.underlying54 (by simp [L8]) (by decide) (by decide) rfl rfl rfl (by kernel_rfl) rfl rfl rfl rfl ?_
        refine wpC_v (i := 11) (v := .map (some W15.heap.size)) rfl rfl (by kernel_rfl) rfl (fun _ => by kernel_rfl) (by simp only [List.setIfInBounds_toArray, List.set_cons_succ, List.set_cons_zero] <;> rfl) ?_
        refine wpC_r Tryz.underlying9 Tryz.underlying54 rfl rfl rfl (by kernel_rfl) (by kernel_rfl) rfl rfl ?_
        intro r n D cnt W hr hK hS hrg
        have h := hQ _ r W ⟨hr, HK15.out.1.size, hK, n, D, cnt, hS, hrg⟩
        simp only [List.foldl_cons, List.foldl_nil] at h
        try go_frame
        simp only [Act.put, List.setIfInBounds_toArray, List.set_cons_succ, List.set_cons_zero] at h
        exact h
      · refine ⟨_, 116, rfl, rfl, rfl, Oto.of_run (v := S79) (w' := W15) (run_binY rfl (vx := .string ⟨#[49]⟩) (vy := R78) (by kernel_rfl) (by kernel_rfl) (fun w => run_cat w) W15) ?_⟩
        refine Tf.wpAny_step2 (n := 10) (rs := [0]) (by kernel_rfl) (by simp) fun i hi => ?_
        cases List.mem_singleton.1 hi
        try go_frame
        refine ⟨_, 114, rfl, rfl, rfl, Oto.of_run (v := .map (some W15.heap.size)) (w' := W15.alloc (.map #[] 0)) rfl ?_⟩
        refine wpC_sound (I := MapI Tryz.prog 9 35 L8 w W15.heap.size) (m := 1) (last := 12) 9 _ _ ?_ _ (MapI.start HK15.out (by omega))
        try go_frame
        refine wpC_i (i := 1) (l := [51, 47, 45, 50]) (e := 10) Tryz.underlying9 Tryz.underlying35 Tryz.underlying54 (by simp [L8]) (by decide) (by decide) rfl rfl rfl (by kernel_rfl) rfl rfl rfl rfl ?_
        refine wpC_i (i := 2) (l := [48, 51]) (e := 10) Tryz.underlying9 Tryz.underlying35 Tryz.underlying54 (by simp [L8]) (by decide) (by decide) rfl rfl rfl (by kernel_rfl) rfl rfl rfl rfl ?_
        refine wpC_i (i := 3) (l := [49, 47, 48]) (e := 10) Tryz.underlying9 Tryz.underlying35 Tryz.underlying54 (by simp [L8]) (by decide) (by decide) rfl rfl rfl (by kernel_rfl) rfl rfl rfl rfl ?_
        refine wpC_i (i := 4) (l := []) (e := 10) Tryz.underlying9 Tryz.underlying35 Tryz.underlying54 (by simp [L8]) (by decide) (by decide) rfl rfl rfl (by kernel_rfl) rfl rfl rfl rfl ?_
        refine wpC_i (i := 5) (l := [50, 47, 52]) (e := 11) Tryz.underlying9 Tryz.underlying35 Tryz.underlying54 (by simp [L8]) (by decide) (by decide) rfl rfl rfl (by kernel_rfl) rfl rfl rfl rfl ?_
        refine wpC_i (i := 6) (l := [52, 47, 49]) (e := 11) Tryz.underlying9 Tryz.underlying35 Tryz.underlying54 (by simp [L8]) (by decide) (by decide) rfl rfl rfl (by kernel_rfl) rfl rfl rfl rfl ?_
        refine wpC_i (i := 7) (l := [45, 48]) (e := 11) Tryz.underlying9 Tryz.underlying35 Tryz.underlying54 (by simp [L8]) (by decide) (by decide) rfl rfl rfl (by kernel_rfl) rfl rfl rfl rfl ?_
        refine wpC_i (i := 10) (l := (49 :: Lib.repeatL [48] 78)) (e := 3) Tryz.underlying9 Tryz.underlying35 Tryz.underlying54 (by simp [L8]) (by decide) (by decide) rfl rfl rfl (by kernel_rfl) rfl rfl rfl rfl ?_
        refine wpC_v (i := 11) (v := .map (some W15.heap.size)) rfl rfl (by kernel_rfl) rfl (fun _ => by kernel_rfl) (by simp only [List.setIfInBounds_toArray, List.set_cons_succ, List.set_cons_zero] <;> rfl) ?_
        refine wpC_r Tryz.underlying9 Tryz.underlying54 rfl rfl rfl (by kernel_rfl) (by kernel_rfl) rfl rfl ?_
        intro r n D cnt W hr hK hS hrg
        have h := hQ _ r W ⟨hr, HK15.out.1.size, hK, n, D, cnt, hS, hrg⟩
        simp only [List.foldl_cons, List.foldl_nil] at h
        try go_frame
        simp only [Act.put, List.setIfInBounds_toArray, List.set_cons_succ, List.set_cons_zero] at h
        exact h
  intro b r W16 hF
  simp only [List.foldl_cons, List.foldl_nil]
  try go_frame
  obtain ⟨hr, hb, hK, n, D, cnt, hS, hrg⟩ := hF
  have HS := Lib.hid hS
  have HRL := Lib.hid (show RgL Tryz.prog 9 35 D b r n w W16 from ⟨_, _, hrg, fun _ h => h, hK⟩)
  clear hS hK hrg HK13 HK14
  have tok : True := trivial
  go_wp2_with fail
  go_loopw [17] (fun _ wr => Hid (RgL Tryz.prog 9 35 D b r n w wr)) (fun _ wr => wr.rangeLeft b r)
  case atStart => exact HRL
  case round =>
    clear HRL
    obtain ⟨left, cnt, hrg, hlf, hks⟩ := hrel.out
    have HRg := Lib.hid hrg
    have HLf := Lib.hid hlf
    have HKr := Lib.hid hks
    clear hrg hlf hks hrel
    go_wp2_with (first
      | (at_next; refine wpList_next_L _ rfl _ rfl Tryz.underlying9 Tryz.underlying35 HS.out rfl HRg.out HLf.out ?_ ?_)
      | fail)
    · have HBr := Lib.hid HKr.out.1
      (with_reducible refine (HRd.out _ HBr.out).mono ?_)
      rintro e w2 ⟨rfl, hb1⟩
      have HKq := Lib.hid (HKr.out.below hb1)
      clear hb1
      go_upto_region 20 with (first
        | (refine wpList_stf (neg := true) (n := 3) (d := 2) (neg' := false) (n' := 0) (d' := 0) rfl rfl rfl rfl (by rw [frc_zero]; exact heap1 w2 _) size27 ?_))
      have HKv := Lib.hid (HKq.out.newvar (cs := frcC false 0 0) (cs' := frcC true 3 2) (t := 25))
      have f_g := HKq.out.fresh.1
      rw [← frc_zero]
      generalize (w2.alloc (.cells (frcC false 0 0) 25)).setRow w2.heap.size (frcC true 3 2) = W30 at *
      generalize w2.heap.size = g at *
      refine wp_region_V (W0 := w) [(g, .cells (frcC true 3 2) 25 (0, 0))] (by kernel_rfl) (HKv.out) ?_
      refine wpV_p (i := 0) (v := .int .i64 0) rfl rfl (by kernel_rfl) (by kernel_rfl) rfl (fun _ => by kernel_rfl) (by simp only [List.setIfInBounds_toArray, List.set_cons_succ, List.set_cons_zero] <;> rfl) ?_
      refine wpV_p (i := 1) (v := .bool true) rfl rfl (by kernel_rfl) (by kernel_rfl) rfl (fun _ => by kernel_rfl) (by simp only [List.setIfInBounds_toArray, List.set_cons_succ, List.set_cons_zero] <;> rfl) ?_
      refine wpV_p (i := 2) (v := .bool true) rfl rfl (by kernel_rfl) (by kernel_rfl) rfl (fun _ => by kernel_rfl) (by simp only [List.setIfInBounds_toArray, List.set_cons_succ, List.set_cons_zero] <;> rfl) ?_
      refine wpV_v (i := 3) (v := .agg (frcC true 3 2)) rfl rfl (by kernel_rfl) (by kernel_rfl) rfl (yb_load rfl (by kernel_rfl) (.head _) Tryz.underlying25 rfl size27 (by simp) (frc_whole true 3 2)) (by simp only [List.setIfInBounds_toArray, List.set_cons_succ, List.set_cons_zero] <;> rfl) ?_
      refine wpV_v (i := 4) (v := .agg (frcC true 3 2)) rfl rfl (by kernel_rfl) (by kernel_rfl) rfl (yb_call (f := 11) (args := #[.int .i64 6, .int .i64 (-4)]) (fun _ => by kernel_rfl) fun W hW => HR2.out W) (by simp only [List.setIfInBounds_toArray, List.set_cons_succ, List.set_cons_zero] <;> rfl) ?_
      refine wpV_p (i := 5) (v := .bool true) rfl rfl (by kernel_rfl) (by kernel_rfl) rfl (run_binY rfl (vx := .agg (frcC true 3 2)) (vy := .agg (frcC true 3 2)) (by kernel_rfl) (by kernel_rfl) fun w => run_eql27s (lt8 (by omega)) (lt8 (by omega)) w) (by simp only [List.setIfInBounds_toArray, List.set_cons_succ, List.set_cons_zero] <;> rfl) ?_
      refine wpV_p (i := 6) (v := .bool true) rfl rfl (by kernel_rfl) (by kernel_rfl) rfl (fun _ => by kernel_rfl) (by simp only [List.setIfInBounds_toArray, List.set_cons_succ, List.set_cons_zero] <;> rfl) ?_
      refine wpV_p (i := 7) (v := .bool true) rfl rfl (by kernel_rfl) (by kernel_rfl) rfl (fun _ => by kernel_rfl) (by simp only [List.setIfInBounds_toArray, List.set_cons_succ, List.set_cons_zero] <;> rfl) ?_
      refine wpV_done (by kernel_rfl) (fun W51 hW51 => ?_) _
      go_wp2
      go_ret
      exact ⟨rfl, hW51.1⟩
    · intro l c w1 left1 cnt1 hm hrg1 hlf1 hlt hg1 hs1 hen
      have HB1 := Lib.hid (HKr.out.1.grown hg1 HKr.out.1.size (fun j hj => by cases hj; exact hr))
      have HR1 := Lib.hid hrg1
      have HL1 := Lib.hid hlf1
      have HLt := Lib.hid hlt
      have HM := Lib.hid hm
      clear hrg1 hlf1 hlt hm hg1 hs1
      go_wp2_with (first
        | ((go_at_call 33); (with_reducible refine (HRc.out l c HM.out _ HB1.out).mono ?_); rintro e w2 ⟨rfl, hb2⟩; have HK2 := Lib.hid ((KS.start w1).below hb2); clear hb2)
        | (refine wpList_stf (neg := false) (n := 0) (d := 0) (neg' := false) (n' := 0) (d' := 0) rfl rfl rfl rfl (by rw [frc_zero]; exact heap1 w2 _) size27 ?_))
      have HK3 := Lib.hid (HK2.out.newvar (cs := frcC false 0 0) (cs' := frcC false 0 0) (t := 25))
      rw [← frc_zero]
      generalize (w2.alloc (.cells (frcC false 0 0) 25)).setRow w2.heap.size (frcC false 0 0) = W3 at *
      have HR3 := Lib.hid (HR1.out.kept (grown_of_below HK3.out.1 none) (by simp) (by simp))
      have HW3 := Lib.hid (KS.below (show KS w [] w1 from ⟨HB1.out, fun _ h => by cases h⟩) HK3.out.1)
      go_roundw
      case rel => exact Lib.hid ⟨left1, cnt1, HR3.out, HL1.out, HW3.out⟩
      case measure => rw [HR3.out.left_eq, HRg.out.left_eq]; exact HLt.out
end Go.Proofs.YtalmflgkbmnghaaGreatDoor
/- awake's answer is true wherever the library's tables are what they are. -/
namespace Go.Proofs.YtalmflgkbmnghaaGreatDoor
open Go.RowKit Tf
variable [ShLZ]
variable [ShSt]
theorem len8 (l : List UInt8) (e : Int) (h : (l, e) ∈ L8) : l.length < 4294967281 := by
  unfold L8 at h
  simp only [List.mem_cons, Prod.mk.injEq, List.not_mem_nil, or_false] at h
  rcases h with ⟨rfl, rfl⟩ | ⟨rfl, rfl⟩ | ⟨rfl, rfl⟩ | ⟨rfl, rfl⟩ | ⟨rfl, rfl⟩ | ⟨rfl, rfl⟩ | ⟨rfl, rfl⟩ | ⟨rfl, rfl⟩ <;> decide +kernel
theorem awake_any (hRp : ∀ W, Calls Tryz.prog 32 #[.string ⟨#[48]⟩, .int .i64 78] W fun e w' => e = .returned R78 ∧ Below W.heap.size W w') (w : World) (hE : Env w) :
    Calls Tryz.prog 8 #[] w fun e w' => e = .returned (.bool true) ∧ Below w.heap.size w w' := by
  refine awake_walk w (ax_ratio 1 6 false 1 6 (by decide +kernel) (by omega)) (ax_ratio 1 10 false 1 10 (by decide +kernel) (by omega)) (ax_ratio 6 (-4) true 3 2 (by decide +kernel) (by omega))
    (ax_ratio (-3) 2 true 3 2 (by decide +kernel) (by omega)) (ax_ratio 3 2 false 3 2 (by decide +kernel) (by omega)) (ax_ratio 4 15 false 4 15 (by decide +kernel) (by omega)) (ax_ratio 1 15 false 1 15 (by decide +kernel) (by omega))
    (ax_ratio 1 60 false 1 60 (by decide +kernel) (by omega)) (ax_ratio 5 3 false 5 3 (by decide +kernel) (by omega)) ax_add ax_sub ax_mul ax_div ax_floor1 ax_floor2 ?_ ?_ hRp ?_
  · intro W hW
    exact ax_text W (hE.keep hW)
  · intro W hW
    have h := read_any [45, 51, 47, 50] (by decide) W (hE.keep hW)
    rw [read_32] at h
    exact h
  · intro l e hl W hW
    have h := read_any l (len8 l e hl) W (hE.keep hW)
    rw [read_err l e hl] at h
    exact h
end Go.Proofs.YtalmflgkbmnghaaGreatDoor
/- From the row's condition (the tables laid, the world's shape) to what the proofs ask of the library's variables. -/
namespace Go.Proofs.YtalmflgkbmnghaaGreatDoor
open Go.ChangeShapes Go.WideShapes Go.ChangeAt Go.RowKit
theorem of_wf {k : IntKind} {n : Int} (h : (Lit.int k n).wf = true) : k.min ≤ n ∧ n ≤ k.max := by simpa [Lit.wf] using h
theorem own : ownKnob Tryz.prog.godebug = none := by kernel_rfl
def laid3 : List (String × DataW Unit) := [("math/bits.deBruijn32tab", Rows.laid_math_bits_deBruijn32tab), ("math/bits.deBruijn64tab", Rows.laid_math_bits_deBruijn64tab), ("internal/strconv.uint64pow10", Rows.laid_internal_strconv_uint64pow10)]
set_option maxRecDepth 100000 in
theorem door_met (os : Os) (args : Array Value) : laidMetH Tryz.prog laid3 ((World.doorLaid Tryz.prog 1000 os).forCall (fun _ _ => 0) ⟨#[], args, []⟩).memory :=
  laidMetH_of_parts3 (fuel := 8) (laidMet_of_run' 8 (by kernel_rfl) (by kernel_rfl)) (by kernel_rfl) (by kernel_rfl)
theorem gPow : Tryz.prog.globalNamed "internal/strconv.uint64pow10" = some 1 := by kernel_rfl
theorem tPow : (Tryz.prog.globals[1]?).map (·.type) = some 152 := by kernel_rfl
theorem pow_of_laid {W : World} (h : laidMetH Tryz.prog laid3 W) : Lib.TabIs Tryz.prog W "internal/strconv.uint64pow10" .u64 Lib.pow10Tab := by
  rw [MakeChecks.laidMetH_plain _ _ _ (by kernel_rfl)] at h
  obtain ⟨ps, ⟨g0, t0, cs0, f0, p0, q0, hg0, ht0, hv0, hd0, ⟨g1, t1, cs1, f1, p1, q1, hg1, ht1, hv1, hd1, ⟨g2, t2, cs2, f2, p2, q2, hg2, ht2, hv2, hd2, _, _⟩, _⟩, _⟩, _, _⟩ := h
  obtain rfl := Option.some.inj (gPow.symm.trans hg2)
  obtain rfl := Option.some.inj (tPow.symm.trans ht2)
  unfold Lib.TabIs
  rw [hv2, ← Lib.cells_of_tab (k := .u64) (zs := Lib.pow10Tab) Tryz.underlying152 Tryz.underlying84 (by kernel_rfl) (by kernel_rfl) (show DataW.trod (fun _ => ()) Tryz.prog W 0 (fun _ => true) false f2 152 cs2.toList = some (Lib.tabData .u64 Lib.pow10Tab, p2) from hd2)]
theorem max_of_shape {W : World} (h : W.ShapedOpen Tryz.prog) : ∃ m, W.cell? ⟨0, 0, none⟩ = some (.int .i64 m) :=
  cell_of_shapedOpen_int (t := 3) (zero := #[.int .i64 0]) h (of_decide_eq_true (by kernel_rfl)) (by kernel_rfl) rfl (by kernel_rfl) (by kernel_rfl) Tryz.underlying3
theorem env_of {W : World} (h : laidMetH Tryz.prog laid3 W) (hs : W.ShapedOpen Tryz.prog) : Env W := ⟨pow_of_laid h, max_of_shape hs⟩
end Go.Proofs.YtalmflgkbmnghaaGreatDoor
/-
  DERIVED: THE SHELF's CONTRACTS AT THIS DUMP, IN PLAIN WORDS (tools/lay-plain.mjs out of 'TryzShelf.lean', which tools/lay-shelf.mjs wrote): THE SAME DECLARATIONS UNDER THE SAME NAMES: 'import', 'namespace', 'open', 'def', 'theorem' AND NOTHING ELSE: no command of the shelf's: FOR A HAND-IN. Each laying: the table of numbers ('.._ren') and one theorem, a field a fact of the dump's own or the kernel's comparison; each contract: ONE APPLICATION.
-/
namespace Go.Proofs
open Go.Shelf
def Tryz.lays133_ren : Go.Shelf.Ren := ⟨fun | 133 => 99 | 128 => 108 | n => n, fun | 51 => 22 | 3 => 3 | 4 => 4 | 46 => 91 | 5 => 5 | 9 => 9 | n => n, fun | n => n⟩
theorem Tryz.lays133 : Go.Proofs.Lays.n133 Tryz.prog Tryz.lays133_ren := {
  mixed := by kernel_rfl
  f128 := Tryz.func108.trans (congrArg some (by kernel_rfl))
  f133 := Tryz.func99.trans (congrArg some (by kernel_rfl))
  t3 := Tryz.underlying3
  a3 := Tryz.isAgg3
  z3 := Tryz.sizeOf3
  v3 := Tryz.zeroValue3
  t4 := Tryz.underlying4
  a4 := Tryz.isAgg4
  z4 := Tryz.sizeOf4
  v4 := Tryz.zeroValue4
  t5 := Tryz.underlying5
  a5 := Tryz.isAgg5
  z5 := Tryz.sizeOf5
  v5 := Tryz.zeroValue5
  t9 := Tryz.underlying9
  a9 := Tryz.isAgg9
  z9 := Tryz.sizeOf9
  v9 := Tryz.zeroValue9
  t46 := Tryz.underlying91
  a46 := Tryz.isAgg91
  z46 := Tryz.sizeOf91
  v46 := Tryz.zeroValue91
  t51 := Tryz.underlying22
  a51 := Tryz.isAgg22
  z51 := Tryz.sizeOf22
  v51 := Tryz.zeroValue22 }
theorem Tryz.bits_LeadingZeros32 (x : Int) (w : World) (h0 : 0 ≤ x) (h1 : x ≤ 4294967295) :
    Calls Tryz.prog 99 #[.int .u32 x] w fun e w' => e = .returned (.int .i64 (32 - (Lib.bitLen x.toNat : Int))) ∧ w' = w := Any.bits_LeadingZeros32 Tryz.lays133 x w h0 h1
def Tryz.lays103_ren : Go.Shelf.Ren := ⟨fun | 103 => 70 | 210 => 94 | 206 => 91 | n => n, fun | 9 => 9 | 4 => 4 | 24 => 105 | 3 => 3 | n => n, fun | n => n⟩
theorem Tryz.lays103 : Go.Proofs.Lays.n103 Tryz.prog Tryz.lays103_ren := {
  mixed := by kernel_rfl
  f103 := Tryz.func70.trans (congrArg some (by kernel_rfl))
  f206 := Tryz.func91.trans (congrArg some (by kernel_rfl))
  f210 := Tryz.func94.trans (congrArg some (by kernel_rfl))
  t3 := Tryz.underlying3
  a3 := Tryz.isAgg3
  z3 := Tryz.sizeOf3
  v3 := Tryz.zeroValue3
  t4 := Tryz.underlying4
  a4 := Tryz.isAgg4
  z4 := Tryz.sizeOf4
  v4 := Tryz.zeroValue4
  t9 := Tryz.underlying9
  a9 := Tryz.isAgg9
  z9 := Tryz.sizeOf9
  v9 := Tryz.zeroValue9
  t24 := Tryz.underlying105
  a24 := Tryz.isAgg105
  z24 := Tryz.sizeOf105
  v24 := Tryz.zeroValue105 }
open Go.RowKit in
theorem Tryz.strings_CutPrefix (s p : ByteArray) (w : World) :
    Calls Tryz.prog 70 #[.string s, .string p] w fun e w' => e = .returned (.tuple #[.string ⟨(Lib.trimPrefix s.data.toList p.data.toList).toArray⟩, .bool (Lib.hasPrefix s.data.toList p.data.toList)]) ∧ w' = w := Any.strings_CutPrefix Tryz.lays103 s p w
def Tryz.laysM171_ren : Go.Shelf.Ren := ⟨fun | 171 => 88 | 243 => 104 | 246 => 109 | 283 => 114 | 284 => 115 | 285 => 116 | 286 => 117 | 129 => 121 | 317 => 120 | 318 => 122 | 319 => 123 | 320 => 124 | 337 => 125 | 338 => 126 | n => n, fun | 3 => 3 | 9 => 9 | 2 => 2 | 4 => 4 | 171 => 145 | 0 => 0 | 53 => 84 | 37 => 67 | 5 => 5 | 173 => 148 | 212 => 152 | 51 => 22 | 20 => 20 | 213 => 153 | 46 => 91 | 232 => 156 | 233 => 157 | n => n, fun | 17 => 1 | 18 => 2 | 19 => 3 | n => n⟩
theorem Tryz.laysM171 : Go.Proofs.LaysM.n171 Tryz.prog Tryz.laysM171_ren := {
  mixed := by kernel_rfl
  f129 := Tryz.func121.trans (congrArg some (by kernel_rfl))
  f171 := Tryz.func88.trans (congrArg some (by kernel_rfl))
  f243 := Tryz.func104.trans (congrArg some (by kernel_rfl))
  f246 := Tryz.func109.trans (congrArg some (by kernel_rfl))
  f283 := Tryz.func114.trans (congrArg some (by kernel_rfl))
  f284 := Tryz.func115.trans (congrArg some (by kernel_rfl))
  f285 := Tryz.func116.trans (congrArg some (by kernel_rfl))
  f286 := Tryz.func117.trans (congrArg some (by kernel_rfl))
  f317 := Tryz.func120.trans (congrArg some (by kernel_rfl))
  f318 := Tryz.func122.trans (congrArg some (by kernel_rfl))
  f319 := Tryz.func123.trans (congrArg some (by kernel_rfl))
  f320 := Tryz.func124.trans (congrArg some (by kernel_rfl))
  f337 := Tryz.func125.trans (congrArg some (by kernel_rfl))
  f338 := Tryz.func126.trans (congrArg some (by kernel_rfl))
  t0 := Tryz.underlying0
  a0 := Tryz.isAgg0
  z0 := Tryz.sizeOf0
  v0 := Tryz.zeroValue0
  t2 := Tryz.underlying2
  a2 := Tryz.isAgg2
  z2 := Tryz.sizeOf2
  v2 := Tryz.zeroValue2
  t3 := Tryz.underlying3
  a3 := Tryz.isAgg3
  z3 := Tryz.sizeOf3
  v3 := Tryz.zeroValue3
  t4 := Tryz.underlying4
  a4 := Tryz.isAgg4
  z4 := Tryz.sizeOf4
  v4 := Tryz.zeroValue4
  t5 := Tryz.underlying5
  a5 := Tryz.isAgg5
  z5 := Tryz.sizeOf5
  v5 := Tryz.zeroValue5
  t9 := Tryz.underlying9
  a9 := Tryz.isAgg9
  z9 := Tryz.sizeOf9
  v9 := Tryz.zeroValue9
  t20 := Tryz.underlying20
  a20 := Tryz.isAgg20
  z20 := Tryz.sizeOf20
  v20 := Tryz.zeroValue20
  t37 := Tryz.underlying67
  a37 := Tryz.isAgg67
  z37 := Tryz.sizeOf67
  v37 := Tryz.zeroValue67
  t46 := Tryz.underlying91
  a46 := Tryz.isAgg91
  z46 := Tryz.sizeOf91
  v46 := Tryz.zeroValue91
  t51 := Tryz.underlying22
  a51 := Tryz.isAgg22
  z51 := Tryz.sizeOf22
  v51 := Tryz.zeroValue22
  t53 := Tryz.underlying84
  a53 := Tryz.isAgg84
  z53 := Tryz.sizeOf84
  v53 := Tryz.zeroValue84
  t171 := Tryz.underlying145
  a171 := Tryz.isAgg145
  z171 := Tryz.sizeOf145
  v171 := Tryz.zeroValue145
  t173 := Tryz.underlying148
  a173 := Tryz.isAgg148
  z173 := Tryz.sizeOf148
  v173 := Tryz.zeroValue148
  t212 := Tryz.underlying152
  a212 := Tryz.isAgg152
  z212 := Tryz.sizeOf152
  v212 := Tryz.zeroValue152
  t213 := Tryz.underlying153
  a213 := Tryz.isAgg153
  z213 := Tryz.sizeOf153
  t232 := Tryz.underlying156
  a232 := Tryz.isAgg156
  z232 := Tryz.sizeOf156
  v232 := Tryz.zeroValue156
  t233 := Tryz.underlying157
  a233 := Tryz.isAgg157
  z233 := Tryz.sizeOf157
  v233 := Tryz.zeroValue157
  g17 := by kernel_rfl
  g18 := by kernel_rfl
  g19 := by kernel_rfl
  i0 := by kernel_rfl
  i2 := by kernel_rfl
  i3 := by kernel_rfl
  i4 := by kernel_rfl
  i5 := by kernel_rfl
  i9 := by kernel_rfl
  i20 := by kernel_rfl
  i37 := by kernel_rfl
  i46 := by kernel_rfl
  i51 := by kernel_rfl
  i53 := by kernel_rfl
  i171 := by kernel_rfl
  i173 := by kernel_rfl
  i212 := by kernel_rfl
  i232 := by kernel_rfl
  i233 := by kernel_rfl
  m17 := by kernel_rfl
  m18 := by kernel_rfl
  m19 := by kernel_rfl }
open Go.RowKit Go.Sort Go.Lib in
theorem Tryz.strconv_Itoa (n : Int) (h0 : -9223372036854775808 ≤ n) (h1 : n ≤ 9223372036854775807) (w : World) (htab : Lib.TabIs Tryz.prog w "internal/strconv.uint64pow10" .u64 Lib.pow10Tab) :
    Calls Tryz.prog 88 #[.int .i64 n] w fun e w' => e = .returned (.string ⟨(Lib.itoa n).toArray⟩) ∧ ∃ k os, w' = grow (w.drewN k) os := Any.strconv_Itoa Tryz.laysM171 n h0 h1 w htab
def Tryz.lays145_ren : Go.Shelf.Ren := ⟨fun | 145 => 71 | 220 => 95 | 219 => 107 | 217 => 110 | 225 => 111 | 224 => 112 | 267 => 113 | 266 => 118 | 314 => 119 | n => n, fun | 9 => 9 | 4 => 4 | 59 => 107 | 3 => 3 | 5 => 5 | 46 => 91 | 146 => 126 | 51 => 22 | n => n, fun | 1 => 0 | n => n⟩
theorem Tryz.lays145 : Go.Proofs.Lays.n145 Tryz.prog Tryz.lays145_ren := {
  mixed := by kernel_rfl
  f145 := Tryz.func71.trans (congrArg some (by kernel_rfl))
  f217 := Tryz.func110.trans (congrArg some (by kernel_rfl))
  f219 := Tryz.func107.trans (congrArg some (by kernel_rfl))
  f220 := Tryz.func95.trans (congrArg some (by kernel_rfl))
  f224 := Tryz.func112.trans (congrArg some (by kernel_rfl))
  f225 := Tryz.func111.trans (congrArg some (by kernel_rfl))
  f266 := Tryz.func118.trans (congrArg some (by kernel_rfl))
  f267 := Tryz.func113.trans (congrArg some (by kernel_rfl))
  f314 := Tryz.func119.trans (congrArg some (by kernel_rfl))
  t3 := Tryz.underlying3
  a3 := Tryz.isAgg3
  z3 := Tryz.sizeOf3
  v3 := Tryz.zeroValue3
  t4 := Tryz.underlying4
  a4 := Tryz.isAgg4
  z4 := Tryz.sizeOf4
  v4 := Tryz.zeroValue4
  t5 := Tryz.underlying5
  a5 := Tryz.isAgg5
  z5 := Tryz.sizeOf5
  v5 := Tryz.zeroValue5
  t9 := Tryz.underlying9
  a9 := Tryz.isAgg9
  z9 := Tryz.sizeOf9
  v9 := Tryz.zeroValue9
  t46 := Tryz.underlying91
  a46 := Tryz.isAgg91
  z46 := Tryz.sizeOf91
  v46 := Tryz.zeroValue91
  t51 := Tryz.underlying22
  a51 := Tryz.isAgg22
  z51 := Tryz.sizeOf22
  v51 := Tryz.zeroValue22
  t59 := Tryz.underlying107
  a59 := Tryz.isAgg107
  z59 := Tryz.sizeOf107
  v59 := Tryz.zeroValue107
  t146 := Tryz.underlying126
  a146 := Tryz.isAgg126
  z146 := Tryz.sizeOf126
  v146 := Tryz.zeroValue126
  g1 := by kernel_rfl }
open Go.RowKit Go.Lib in
theorem Tryz.strings_Cut (s sep : ByteArray) (m : Int) (w : World) (hs : s.size < 4294967281) (hm : w.cell? ⟨0, 0, none⟩ = some (.int .i64 m)) :
    Calls Tryz.prog 71 #[.string s, .string sep] w fun e w' => e = .returned (.tuple #[.string ⟨(Lib.cut s.data.toList sep.data.toList).1.toArray⟩, .string ⟨(Lib.cut s.data.toList sep.data.toList).2.1.toArray⟩, .bool (Lib.cut s.data.toList sep.data.toList).2.2]) ∧ ∃ n, w' = w.drewN n := Any.strings_Cut Tryz.lays145 s sep m w hs hm
def Tryz.lays105_ren : Go.Shelf.Ren := ⟨fun | 105 => 32 | 212 => 64 | 99 => 65 | 165 => 66 | 166 => 67 | 170 => 68 | 169 => 69 | 263 => 89 | 264 => 90 | 206 => 91 | 240 => 92 | 241 => 93 | 276 => 105 | 277 => 106 | n => n, fun | 9 => 9 | 3 => 3 | 4 => 4 | 20 => 20 | 0 => 0 | 46 => 91 | 109 => 92 | 5 => 5 | 72 => 97 | 76 => 101 | 51 => 22 | 146 => 126 | 53 => 84 | 148 => 128 | 70 => 95 | 37 => 67 | 75 => 100 | 127 => 130 | 164 => 138 | 80 => 104 | n => n, fun | n => n⟩
theorem Tryz.lays105 : Go.Proofs.Lays.n105 Tryz.prog Tryz.lays105_ren := {
  mixed := by kernel_rfl
  f99 := Tryz.func65.trans (congrArg some (by kernel_rfl))
  f105 := Tryz.func32.trans (congrArg some (by kernel_rfl))
  f165 := Tryz.func66.trans (congrArg some (by kernel_rfl))
  f166 := Tryz.func67.trans (congrArg some (by kernel_rfl))
  f169 := Tryz.func69.trans (congrArg some (by kernel_rfl))
  f170 := Tryz.func68.trans (congrArg some (by kernel_rfl))
  f206 := Tryz.func91.trans (congrArg some (by kernel_rfl))
  f212 := Tryz.func64.trans (congrArg some (by kernel_rfl))
  f240 := Tryz.func92.trans (congrArg some (by kernel_rfl))
  f241 := Tryz.func93.trans (congrArg some (by kernel_rfl))
  f263 := Tryz.func89.trans (congrArg some (by kernel_rfl))
  f264 := Tryz.func90.trans (congrArg some (by kernel_rfl))
  f276 := Tryz.func105.trans (congrArg some (by kernel_rfl))
  f277 := Tryz.func106.trans (congrArg some (by kernel_rfl))
  t0 := Tryz.underlying0
  a0 := Tryz.isAgg0
  z0 := Tryz.sizeOf0
  v0 := Tryz.zeroValue0
  t3 := Tryz.underlying3
  a3 := Tryz.isAgg3
  z3 := Tryz.sizeOf3
  v3 := Tryz.zeroValue3
  t4 := Tryz.underlying4
  a4 := Tryz.isAgg4
  z4 := Tryz.sizeOf4
  v4 := Tryz.zeroValue4
  t5 := Tryz.underlying5
  a5 := Tryz.isAgg5
  z5 := Tryz.sizeOf5
  v5 := Tryz.zeroValue5
  t9 := Tryz.underlying9
  a9 := Tryz.isAgg9
  z9 := Tryz.sizeOf9
  v9 := Tryz.zeroValue9
  t20 := Tryz.underlying20
  a20 := Tryz.isAgg20
  z20 := Tryz.sizeOf20
  v20 := Tryz.zeroValue20
  t37 := Tryz.underlying67
  a37 := Tryz.isAgg67
  z37 := Tryz.sizeOf67
  v37 := Tryz.zeroValue67
  t46 := Tryz.underlying91
  a46 := Tryz.isAgg91
  z46 := Tryz.sizeOf91
  v46 := Tryz.zeroValue91
  t51 := Tryz.underlying22
  a51 := Tryz.isAgg22
  z51 := Tryz.sizeOf22
  v51 := Tryz.zeroValue22
  t53 := Tryz.underlying84
  a53 := Tryz.isAgg84
  z53 := Tryz.sizeOf84
  v53 := Tryz.zeroValue84
  t70 := Tryz.underlying95
  a70 := Tryz.isAgg95
  z70 := Tryz.sizeOf95
  v70 := Tryz.zeroValue95
  t72 := Tryz.underlying97
  a72 := Tryz.isAgg97
  z72 := Tryz.sizeOf97
  v72 := Tryz.zeroValue97
  t75 := Tryz.underlying100
  a75 := Tryz.isAgg100
  z75 := Tryz.sizeOf100
  v75 := Tryz.zeroValue100
  t76 := Tryz.underlying101
  a76 := Tryz.isAgg101
  z76 := Tryz.sizeOf101
  v76 := Tryz.zeroValue101
  t109 := Tryz.underlying92
  a109 := Tryz.isAgg92
  z109 := Tryz.sizeOf92
  v109 := Tryz.zeroValue92
  t127 := Tryz.underlying130
  a127 := Tryz.isAgg130
  z127 := Tryz.sizeOf130
  v127 := Tryz.zeroValue130
  t146 := Tryz.underlying126
  a146 := Tryz.isAgg126
  z146 := Tryz.sizeOf126
  v146 := Tryz.zeroValue126
  t148 := Tryz.underlying128
  a148 := Tryz.isAgg128
  z148 := Tryz.sizeOf128
  v148 := Tryz.zeroValue128
  t164 := Tryz.underlying138
  a164 := Tryz.isAgg138
  z164 := Tryz.sizeOf138
  v164 := Tryz.zeroValue138 }
theorem Tryz.Builder_Extra_105 : Builder.Extra Tryz.prog Tryz.lays105_ren := {
  sizeBuilder := by kernel_rfl
  liesBuilder := by kernel_rfl
  t5 := Tryz.underlying5
  a5 := Tryz.isAgg5
  z5 := Tryz.sizeOf5
  v5 := Tryz.zeroValue5
  infoByte := by kernel_rfl
  cellsByte := by kernel_rfl
  sizeByte := by kernel_rfl
  neB5 := by decide }
open Go.RowKit Go.Lib in
theorem Tryz.strings_Repeat (s : ByteArray) (c : Nat) (w : World) (hc : c ≤ 9223372036854775807) (hlen : s.size * c ≤ 140737488355328) :
    Calls Tryz.prog 32 #[.string s, .int .i64 c] w fun e w' => e = .returned (.string ⟨(Lib.repeatL s.data.toList c).toArray⟩) ∧ Below w.heap.size w w' := Any.strings_Repeat Tryz.lays105 Tryz.Builder_Extra_105 s c w hc hlen
end Go.Proofs
/- What the shelf says of the library's functions, in the proofs' words. -/
namespace Go.Proofs.YtalmflgkbmnghaaGreatDoor
open Go.RowKit Tf
theorem bitLen_facts : ∀ (f x : Nat), x < 2 ^ f → x < 2 ^ Lib.bitLenAux f x ∧ (0 < x → 2 ^ Lib.bitLenAux f x ≤ 2 * x)
  | 0, x, h => by
    have : x = 0 := by simpa using h
    subst this
    simp [Lib.bitLenAux]
  | f + 1, x, h => by
    rw [Nat.pow_succ] at h
    obtain ⟨h1, h2⟩ := bitLen_facts f (x / 2) (by omega)
    unfold Lib.bitLenAux
    by_cases hx : x = 0
    · subst hx; simp
    · rw [if_neg hx, Nat.pow_add, Nat.pow_one]
      rcases Nat.eq_zero_or_pos (x / 2) with h0 | h0
      · have hz : Lib.bitLenAux f (x / 2) = 0 := by rw [h0]; cases f <;> simp [Lib.bitLenAux]
        rw [hz]
        exact ⟨by omega, fun _ => by omega⟩
      · have h3 := h2 h0
        generalize 2 ^ Lib.bitLenAux f (x / 2) = z at *
        exact ⟨by omega, fun _ => by omega⟩
theorem lz_shelf (x : Nat) (hx : x < 4294967296) (h0 : 0 < x) (w : World) :
    Calls Tryz.prog 99 #[.int .u32 x] w fun e w' => (∃ s : Nat, s < 32 ∧ e = .returned (.int .i64 s) ∧ x * 2 ^ s < 4294967296 ∧ 2147483648 ≤ x * 2 ^ s) ∧ w = w' := by
  refine (Tryz.bits_LeadingZeros32 (x : Int) w (by omega) (by omega)).mono ?_
  rintro e w' ⟨rfl, rfl⟩
  refine ⟨?_, rfl⟩
  rw [Int.toNat_natCast]
  obtain ⟨h1, h2⟩ := bitLen_facts 64 x (by omega)
  have h2 := h2 h0
  have hl : Lib.bitLenAux 64 x ≤ 32 := by
    rcases Nat.lt_or_ge 32 (Lib.bitLenAux 64 x) with h | h
    · have : 2 ^ 33 ≤ 2 ^ Lib.bitLenAux 64 x := Nat.pow_le_pow_right (by omega) h
      omega
    · exact h
  have hl1 : 1 ≤ Lib.bitLenAux 64 x := by
    rcases Nat.eq_zero_or_pos (Lib.bitLenAux 64 x) with h | h
    · rw [h] at h1; omega
    · exact h
  refine ⟨32 - Lib.bitLenAux 64 x, by omega, ?_, ?_, ?_⟩
  · show Ending.returned (.int .i64 (32 - (Lib.bitLen x : Int))) = _
    exact ret_int (by unfold Lib.bitLen; omega)
  · have e : 2 ^ Lib.bitLenAux 64 x * 2 ^ (32 - Lib.bitLenAux 64 x) = 4294967296 := by rw [← Nat.pow_add, show Lib.bitLenAux 64 x + (32 - Lib.bitLenAux 64 x) = 32 from by omega]
    have : x * 2 ^ (32 - Lib.bitLenAux 64 x) < 2 ^ Lib.bitLenAux 64 x * 2 ^ (32 - Lib.bitLenAux 64 x) := Nat.mul_lt_mul_of_pos_right h1 (Nat.pow_pos (by omega))
    omega
  · have e : 2 ^ Lib.bitLenAux 64 x * 2 ^ (32 - Lib.bitLenAux 64 x) = 4294967296 := by rw [← Nat.pow_add, show Lib.bitLenAux 64 x + (32 - Lib.bitLenAux 64 x) = 32 from by omega]
    have : 2 ^ Lib.bitLenAux 64 x * 2 ^ (32 - Lib.bitLenAux 64 x) ≤ 2 * x * 2 ^ (32 - Lib.bitLenAux 64 x) := Nat.mul_le_mul_right _ h2
    rw [e, Nat.mul_assoc] at this
    omega

instance : ShLZ := ⟨lz_shelf⟩
theorem itoa_shelf (n : Nat) (h : n ≤ 9223372036854775807) (w : World) (hE : Env w) :
    Calls Tryz.prog 88 #[.int .i64 (n : Int)] w fun e w' => e = .returned (.string ⟨(Lib.decDigits n).toArray⟩) ∧ Below w.heap.size w w' := by
  have hi : Lib.itoa (n : Int) = Lib.decDigits n := by unfold Lib.itoa; rw [if_neg (by omega)]; rfl
  refine (Tryz.strconv_Itoa n (by omega) (by omega) w hE.1).mono fun e w' ⟨he, k, os, hw⟩ => ⟨by rw [he, hi], ?_⟩
  subst hw
  exact below_grown_ev w k os
where
  below_grown_ev (w : World) (k : Nat) (os : Array Obj) : Below w.heap.size w (Sort.grow (w.drewN k) os) := by
    refine ⟨rfl, rfl, rfl, by simp [Sort.grow], fun i hi => ?_⟩
    simp only [Sort.grow, World.drewN]
    rw [Array.getElem?_append_left hi]
theorem cutPrefix_shelf (l : List UInt8) (W : World) : Calls Tryz.prog 70 #[.string ⟨l.toArray⟩, .string ⟨#[45]⟩] W fun e w' => e = .returned (.tuple #[.string ⟨(Lib.trimPrefix l [45]).toArray⟩, .bool (Lib.hasPrefix l [45])]) ∧ Below W.heap.size W w' :=
  (Tryz.strings_CutPrefix ⟨l.toArray⟩ ⟨#[45]⟩ W).mono fun e w' ⟨he, hw⟩ => ⟨he, by subst hw; exact Below.refl _ _⟩
theorem cut_shelf (l : List UInt8) (hl : l.length < 4294967281) (W : World) (hW : Env W) : Calls Tryz.prog 71 #[.string ⟨l.toArray⟩, .string ⟨#[47]⟩] W fun e w' => e = .returned (.tuple #[.string ⟨(Lib.cut l [47]).1.toArray⟩, .string ⟨(Lib.cut l [47]).2.1.toArray⟩, .bool (Lib.cut l [47]).2.2]) ∧ Below W.heap.size W w' := by
  obtain ⟨m, hm⟩ := hW.2
  exact (Tryz.strings_Cut ⟨l.toArray⟩ ⟨#[47]⟩ m W (by rw [ba_size]; omega) hm).mono fun e w' ⟨he, n, hw⟩ => ⟨he, by subst hw; exact belowN (Below.refl _ _) n⟩
instance : ShSt := ⟨itoa_shelf, cutPrefix_shelf, cut_shelf⟩
theorem rep_any (W : World) : Calls Tryz.prog 32 #[.string ⟨#[48]⟩, .int .i64 78] W fun e w' => e = .returned (.string ⟨(Lib.repeatL [48] 78).toArray⟩) ∧ Below W.heap.size W w' :=
  Tryz.strings_Repeat ⟨#[48]⟩ 78 W (by omega) (by decide)
end Go.Proofs.YtalmflgkbmnghaaGreatDoor
