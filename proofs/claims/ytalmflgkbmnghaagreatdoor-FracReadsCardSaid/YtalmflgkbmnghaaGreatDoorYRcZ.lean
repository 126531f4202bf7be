import Derived.Test.YtalmflgkbmnghaaGreatDoorYRc07
import Derived.Test.YtalmflgkbmnghaaGreatDoorRQ02
import Derived.Test.YtalmflgkbmnghaaGreatDoorRQ00
import Derived.Test.YtalmflgkbmnghaaGreatDoorRQ01
import Derived.Test.YtalmflgkbmnghaaGreatDoorRQ04
import Derived.Test.YtalmflgkbmnghaaGreatDoorYRc00
import Derived.Test.YtalmflgkbmnghaaGreatDoorRQ05
/- FracReads: the law holds for every input; no condition but the row's own. -/
set_option linter.unusedVariables false
set_option linter.unusedSimpArgs false
set_option linter.unusedSectionVars false
namespace Go.Proofs.YtalmflgkbmnghaaGreatDoor
open Go Go.RowKit Tw
open Tf (dg R R_pos R_le R_succ dg_of_lt setd setd_eq)
variable [ShLZ]
set_option maxRecDepth 100000 in
set_option maxHeartbeats 4000000 in
theorem pair_same (s : Bool) (n d : Nat) (k : Int) (hn : n < R 8) (hd : d < R 8) (w : World) : Calls Tryz.prog 19 #[.agg (frcC s n d), .int .i64 k, .agg (frcC s n d), .int .i64 k] w fun e w' => e = .returned (.bool true) ∧ Below w.heap.size w w' := by
  go_enter Tryz.func19, Tryz.ntmps19
  refine wp_seq ?_
  refine wp_region_L (W0 := w) [] (KS.start w) ?_
  refine wpL_new (fun g => .pointer (some ⟨g, 0, none⟩)) (obi := .cells (frcC s n d) 25 (0, 0)) rfl rfl (fun _ => by kernel_rfl) (fun _ => by simp only [List.setIfInBounds_toArray, List.set_cons_succ, List.set_cons_zero] <;> rfl) fun g1 Bg1 Fg1 => ?_
  refine wpL_new (fun g => .pointer (some ⟨g, 0, none⟩)) (obi := .cells (frcC s n d) 34 (0, 0)) rfl rfl (fun _ => by kernel_rfl) (fun _ => by simp only [List.setIfInBounds_toArray, List.set_cons_succ, List.set_cons_zero] <;> rfl) fun g2 Bg2 Fg2 => ?_
  obtain dj3_0 : g1 ≠ g2 := by simpa only [dj_app_l, dj_app_r, dj_cons_l, dj_cons_r, dj_nil_l, dj_nil_r, dk_app, dk_cons, dk_nil, and_true, true_and, and_assoc] using (show Dk g2 [(g1, .cells (frcC s n d) 25 (0, 0))] from Fg2)
  refine Tw.lm (v := .bool false) rfl rfl ?_
  refine wpL_done (fun W1 hW1 => ?_)
  refine (show Code.wp _ _ _ _ _ from ?_)
  refine wp_seq ?_
  refine wp_region_L (W0 := w) [(g2, .cells (frcC s n d) 34 (0, 0)), (g1, .cells (frcC s n d) 25 (0, 0))] (hW1) ?_
  refine Tw.lv (v := .agg (frcC s n d)) rfl rfl (yb_all rfl (by kernel_rfl) (.tail _ (.head _)) Tryz.underlying25 rfl (by simp only [frcC_size]; kernel_rfl)) ?_
  refine Tw.lv (v := .agg (frcC s n d)) rfl rfl (yb_all rfl (by kernel_rfl) (.head _) Tryz.underlying34 rfl (by simp only [frcC_size]; kernel_rfl)) ?_
  refine Tw.lp (v := .bool true) rfl rfl (run_bin rfl (vx := .agg (frcC s n d)) (vy := .agg (frcC s n d)) (by kernel_rfl) (by kernel_rfl) fun w => run_eql27s hn hd w) ?_
  refine Tw.lm (v := .bool true) rfl rfl ?_
  refine Tw.lm (v := .int .i64 k) rfl rfl ?_
  refine Tw.lm (v := .int .i64 k) rfl rfl ?_
  refine Tw.lp (v := .bool true) rfl rfl (run_bin rfl (vx := (.int .i64 k)) (vy := (.int .i64 k)) (by kernel_rfl) (by kernel_rfl) fun w => bi_eql (decide_eq_true rfl) w) ?_
  refine Tw.lm (v := .bool true) rfl rfl ?_
  refine Tw.lm (v := .bool true) rfl rfl ?_
  refine wpL_done (fun W2 hW2 => ?_)
  refine (show Code.wp _ _ _ _ _ from ?_)
  refine wp_ret ?_
  try simp only [inBlock_ret, then_ret]
  refine bodyPost_ret (v := .bool true) ?_ rfl ?_
  · kernel_rfl
  · exact ⟨rfl, hW2.1⟩
end Go.Proofs.YtalmflgkbmnghaaGreatDoor
namespace Go.Proofs.YtalmflgkbmnghaaGreatDoor
open Go Go.RowKit Tw
set_option linter.unusedSimpArgs false
set_option linter.unusedVariables false
open Tf (dg R R_pos R_le R_succ dg_of_lt setd setd_eq)
variable [ShLZ]
variable [ShSt]
theorem readV_shape8 (l : List UInt8) : ∃ s n d e, readV l = .tuple #[.agg (frcC s n d), .int .i64 e] ∧ n < R 8 ∧ d < R 8 := by
  unfold readV
  split
  · split
    · split
      · exact ⟨_, _, _, _, rfl, pVal_lt _, pVal_lt _⟩
      · exact ⟨_, _, _, _, rfl, R_pos 8, R_pos 8⟩
    · exact ⟨_, _, _, _, rfl, R_pos 8, R_pos 8⟩
  · exact ⟨_, _, _, _, rfl, R_pos 8, R_pos 8⟩
set_option maxRecDepth 100000 in
set_option maxHeartbeats 20000000 in
theorem lreads_any (l : List UInt8) (w : World) (hE : Env w) : Calls Tryz.prog 9 #[strV l] w fun e w' => e = .returned (.bool true) ∧ Below w.heap.size w w' := by
  have HE := Lib.hid hE
  clear hE
  go_enter Tryz.func9, Tryz.ntmps9
  refine wp_seq ?_
  refine wp_region_L (W0 := w) [] (KS.start w) ?_
  refine Tw.lm (v := .bool false) rfl rfl ?_
  refine wpL_done (fun W1 hW1 => ?_)
  refine (show Code.wp _ _ _ _ _ from ?_)
  refine wp_seq ?_
  refine wp_seq ?_
  refine wp_region_L (W0 := w) [] (hW1) ?_
  refine Tw.lm (v := strV l) rfl rfl ?_
  refine Tw.lp (v := .int .i64 ((l.length : Nat) : Int)) rfl rfl (run_lenS (l := l) rfl Tryz.underlying9 (by kernel_rfl)) ?_
  refine Tw.lp (v := .bool (decide (2000 < l.length))) rfl rfl (run_bin rfl (vx := (.int .i64 ((l.length : Nat) : Int))) (vy := (.int .i64 ((2000 : Nat) : Int))) (by kernel_rfl) (by kernel_rfl) fun w => bn_gtr rfl w) ?_
  refine wpL_done (fun W2 hW2 => ?_)
  refine (show Code.wp _ _ _ _ _ from ?_)
  cases hd1 : (decide (2000 < l.length)) with
  | false =>
    have h1 : ¬ (2000 < l.length) := of_decide_eq_false hd1
    clear hd1
    refine wp_cond_false rfl ?_
    refine wp_skip ?_
    refine (show Code.wp _ _ _ _ _ from ?_)
    refine wp_seq ?_
    refine wp_region_L (W0 := w) [] (hW2) ?_
    refine Tw.lm (v := strV l) rfl rfl ?_
    obtain ⟨sv, nv, dv, ev, hpv, lnv, ldv⟩ := readV_shape8 l
    refine Tw.lv (v := .tuple #[.agg (frcC sv nv dv), .int .i64 ev]) rfl rfl (yb_call (f := 33) (args := #[strV l]) (fun _ => by kernel_rfl) fun W hW => (by have h := read_any l (by omega) W (HE.out.keep hW.1); rw [hpv] at h; exact h)) ?_
    refine Tw.lm (v := .tuple #[.agg (frcC sv nv dv), .int .i64 ev]) rfl rfl ?_
    refine Tw.lm (v := .agg (frcC sv nv dv)) rfl rfl ?_
    refine Tw.lm (v := .int .i64 ev) rfl rfl ?_
    refine wpL_new (fun g => .pointer (some ⟨g, 0, none⟩)) (obi := .cells (frcC false 0 0) 25 (0, 0)) rfl rfl (fun _ => by kernel_rfl) (fun _ => by simp only [List.setIfInBounds_toArray, List.set_cons_succ, List.set_cons_zero] <;> rfl) fun g1 Bg1 Fg1 => ?_
    refine wpL_s [(g1, .cells (frcC sv nv dv) 25 (0, 0))] rfl rfl (st_all (by simp only [frcC_size]) (by exact frc_onec) rfl (by kernel_rfl) (by kernel_rfl) (.head _) Bg1 (by simp only [frcC_size]; kernel_rfl) (List.forall_mem_cons.2 ⟨.inl rfl, (List.forall_mem_nil _)⟩)) ?_
    refine Tw.lm (v := .int .i64 ev) rfl rfl ?_
    refine wpL_done (fun W3 hW3 => ?_)
    refine (show Code.wp _ _ _ _ _ from ?_)
    refine wp_seq ?_
    refine wp_region_L (W0 := w) [(g1, .cells (frcC sv nv dv) 25 (0, 0))] (hW3) ?_
    refine Tw.lm (v := strV l) rfl rfl ?_
    refine Tw.lv (v := .tuple #[.agg (frcC sv nv dv), .int .i64 ev]) rfl rfl (yb_call (f := 34) (args := #[strV l]) (fun _ => by kernel_rfl) fun W hW => (by have h := RRead_any l (by omega) W; rw [hpv] at h; exact h)) ?_
    refine Tw.lm (v := .tuple #[.agg (frcC sv nv dv), .int .i64 ev]) rfl rfl ?_
    refine Tw.lm (v := .agg (frcC sv nv dv)) rfl rfl ?_
    refine Tw.lm (v := .int .i64 ev) rfl rfl ?_
    refine wpL_new (fun g => .pointer (some ⟨g, 0, none⟩)) (obi := .cells (frcC false 0 0) 34 (0, 0)) rfl rfl (fun _ => by kernel_rfl) (fun _ => by simp only [List.setIfInBounds_toArray, List.set_cons_succ, List.set_cons_zero] <;> rfl) fun g2 Bg2 Fg2 => ?_
    obtain dj3_0 : g1 ≠ g2 := by simpa only [dj_app_l, dj_app_r, dj_cons_l, dj_cons_r, dj_nil_l, dj_nil_r, dk_app, dk_cons, dk_nil, and_true, true_and, and_assoc] using (show Dk g2 [(g1, .cells (frcC sv nv dv) 25 (0, 0))] from Fg2)
    refine wpL_s [(g2, .cells (frcC sv nv dv) 34 (0, 0)), (g1, .cells (frcC sv nv dv) 25 (0, 0))] rfl rfl (st_all (by simp only [frcC_size]) (by exact frc_onec) rfl (by kernel_rfl) (by kernel_rfl) (.head _) Bg2 (by simp only [frcC_size]; kernel_rfl) (List.forall_mem_cons.2 ⟨.inl rfl, (List.forall_mem_cons.2 ⟨.inr ⟨(.tail _ (.head _)), (by first | assumption | exact Ne.symm (by assumption))⟩, (List.forall_mem_nil _)⟩)⟩)) ?_
    refine Tw.lm (v := .int .i64 ev) rfl rfl ?_
    refine wpL_done (fun W4 hW4 => ?_)
    refine (show Code.wp _ _ _ _ _ from ?_)
    refine wp_seq ?_
    refine wp_region_L (W0 := w) [(g2, .cells (frcC sv nv dv) 34 (0, 0)), (g1, .cells (frcC sv nv dv) 25 (0, 0))] (hW4) ?_
    refine Tw.lv (v := .agg (frcC sv nv dv)) rfl rfl (yb_all rfl (by kernel_rfl) (.tail _ (.head _)) Tryz.underlying25 rfl (by simp only [frcC_size]; kernel_rfl)) ?_
    refine Tw.lm (v := .int .i64 ev) rfl rfl ?_
    refine Tw.lv (v := .agg (frcC sv nv dv)) rfl rfl (yb_all rfl (by kernel_rfl) (.head _) Tryz.underlying34 rfl (by simp only [frcC_size]; kernel_rfl)) ?_
    refine Tw.lm (v := .int .i64 ev) rfl rfl ?_
    refine Tw.lv (v := .bool true) rfl rfl (yb_call (f := 19) (args := #[.agg (frcC sv nv dv), .int .i64 ev, .agg (frcC sv nv dv), .int .i64 ev]) (fun _ => by kernel_rfl) fun W hW => pair_same sv nv dv ev lnv ldv W) ?_
    refine Tw.lm (v := .bool true) rfl rfl ?_
    refine wpL_done (fun W5 hW5 => ?_)
    refine (show Code.wp _ _ _ _ _ from ?_)
    refine wp_ret ?_
    try simp only [inBlock_ret, then_ret]
    refine bodyPost_ret (v := .bool true) ?_ rfl ?_
    · kernel_rfl
    · exact ⟨rfl, hW5.1⟩
  | true =>
    have h1 : 2000 < l.length := of_decide_eq_true hd1
    clear hd1
    refine wp_cond_true rfl ?_
    refine wp_seq ?_
    refine wp_region_L (W0 := w) [] (hW2) ?_
    refine Tw.lm (v := .bool true) rfl rfl ?_
    refine wpL_done (fun W6 hW6 => ?_)
    refine (show Code.wp _ _ _ _ _ from ?_)
    refine wp_ret ?_
    try simp only [inBlock_ret, then_ret]
    refine bodyPost_ret (v := .bool true) ?_ rfl ?_
    · kernel_rfl
    · exact ⟨rfl, hW6.1⟩
end Go.Proofs.YtalmflgkbmnghaaGreatDoor
namespace Go.Proofs.YtalmflgkbmnghaaGreatDoor
open Go Go.RowKit Tw
set_option linter.unusedSimpArgs false
set_option linter.unusedVariables false
open Tf (dg R R_pos R_le R_succ dg_of_lt setd setd_eq)
variable [ShLZ]
variable [ShSt]
set_option maxRecDepth 100000 in
set_option maxHeartbeats 4000000 in
theorem FracReads_any (l : List UInt8) (hA : ∀ W, Env W → Calls Tryz.prog 8 #[] W fun e w' => e = .returned (.bool true) ∧ Below W.heap.size W w') (w : World) (hE : Env w) : Calls Tryz.prog 4 #[strV l] w fun e w' => e = .returned (.bool true) ∧ Below w.heap.size w w' := by
  have HE := Lib.hid hE
  clear hE
  go_enter Tryz.func4, Tryz.ntmps4
  refine wp_seq ?_
  refine wp_region_L (W0 := w) [] (KS.start w) ?_
  refine Tw.lm (v := .bool false) rfl rfl ?_
  refine wpL_done (fun W1 hW1 => ?_)
  refine (show Code.wp _ _ _ _ _ from ?_)
  refine wp_seq ?_
  refine wp_region_L (W0 := w) [] (hW1) ?_
  refine Tw.lm (v := strV l) rfl rfl ?_
  refine Tw.lv (v := .bool true) rfl rfl (yb_call (f := 9) (args := #[strV l]) (fun _ => by kernel_rfl) fun W hW => lreads_any l W (HE.out.keep hW.1)) ?_
  refine Tw.lm (v := .bool true) rfl rfl ?_
  refine Tw.lv (v := .bool true) rfl rfl (yb_call (f := 8) (args := #[]) (fun _ => by kernel_rfl) fun W hW => hA W (HE.out.keep hW.1)) ?_
  refine Tw.lm (v := .bool true) rfl rfl ?_
  refine Tw.lm (v := .bool true) rfl rfl ?_
  refine wpL_done (fun W2 hW2 => ?_)
  refine (show Code.wp _ _ _ _ _ from ?_)
  refine wp_ret ?_
  try simp only [inBlock_ret, then_ret]
  refine bodyPost_ret (v := .bool true) ?_ rfl ?_
  · kernel_rfl
  · exact ⟨rfl, hW2.1⟩
end Go.Proofs.YtalmflgkbmnghaaGreatDoor
namespace Go.Proofs.YtalmflgkbmnghaaGreatDoor
open Go Go.RowKit Tw
theorem FracReads_law (w : World) (hE : Env w) (l : List UInt8) (hl : l.length ≤ 281474976710656) : Calls Tryz.prog 4 #[strV l] w fun e w' => e = .returned (.bool true) ∧ Below w.heap.size w w' :=
  FracReads_any l (fun W hW => awake_any rep_any W hW) w hE
end Go.Proofs.YtalmflgkbmnghaaGreatDoor
/- FracReads holds for every input: the program's own answer is true, wherever the listed variables are as the program's text lays them; each argument reads afterwards as it read before. -/
namespace Go.Proofs.YtalmflgkbmnghaaGreatDoor
open Go.ChangeShapes Go.WideShapes Go.ChangeAt Go.RowKit Tw
open Go
set_option maxRecDepth 100000 in
theorem fracReads_lifted (os : Os) (started : os.Started) (H : Type) (enc : TypeId × Value → H) :
    ReturnsInHanded {} Tryz.checked os 4 .any (fun w args => (Rows.fracReadsSpec.pre enc Tryz.prog Tryz.f4 Rows.fracReadsRow.domain false w args ∧ laidMetH Tryz.prog laid3 w) ∧ sizedMet enc Tryz.prog Tryz.f4 (OpenSpec.ofChange Rows.fracReadsSpec) false w args) (Rows.fracReadsSpec.post enc Tryz.prog Tryz.f4 false true false false) := by
  refine handed_and_sized (C := Tryz.checked) (X := fun w => laidMetH Tryz.prog laid3 w) (fun _ _ hh h => h.of_heap hh) own started (by kernel_rfl) Tryz.func4
    (ChangeSpec.witness_shaped (enc := enc) (C := Tryz.checked) (os := os) (X := fun w _ => laidMetH Tryz.prog laid3 w) false (World.doorLaid Tryz.prog 1000 os) #[.string ByteArray.empty] 8 rfl (World.shaped_of_RefB (by kernel_rfl) (by kernel_rfl)) (by kernel_rfl) (by kernel_rfl) (by kernel_rfl) (door_met os _)) ?_
  intro W base args ds gs before hval0 hW hL hsh hsz
  have hval : ∀ (j : Nat) t v, Tryz.f4.params[j]? = some t → args[j]? = some v → Value.okWide Tryz.prog W .any base t v := hval0
  have hW2 := hW
  obtain ⟨p, q, hA0, hV, rfl, hfz, hnd⟩ := hW2
  have hA : DataW.TrodAll enc Tryz.prog W 0 (fun _ => true) true Tryz.f4.params.toList args.toList ds p := hA0
  rw [Tryz.params4] at hA hval
  obtain ⟨v0, vs0, d0, ds0, p0, q0, hargs, rfl, rfl, h0, r0⟩ := trodAll_cons hA
  obtain ⟨rfl, rfl, rfl⟩ := trodAll_nil r0
  obtain rfl : args = #[v0] := by cases args; simp_all
  obtain ⟨rfl, rfl⟩ := trodVars_none hV
  obtain ⟨s0, rfl, rfl, rfl, w0⟩ := ChangeMaps.open_string Tryz.underlying9 (hval 0 9 v0 rfl rfl) h0
  have rr0 : s0.data.toList.length ≤ 281474976710656 := by have h1 := sized_string (j := 0) (t := 9) hsz rfl rfl; have h2 := reachBytes_lt; omega
  clear hA0 hval0
  simp only [List.append_nil] at hW
  refine (FracReads_law W (env_of hL hsh) s0.data.toList rr0).mono fun e W' ⟨he, bel⟩ => ?_
  subst he
  exact ⟨_, rfl, _, _, _, [], [], [], hW, (trodAll_cons_mk (shut_bool Tryz.underlying4 _) trodAll_mk0), (trodAll_cons_mk (ChangeMaps.shut_string Tryz.underlying9 w0) trodAll_mk0), rfl, bel.frame _, fun h => by cases h⟩
theorem fracReads_said : Rows.FracReadsSaid :=
  OpenClaim.holds_of_wide 4 Tryz.f4 rfl rfl rfl rfl rfl rfl rfl ⟨rfl, rfl, rfl, rfl, rfl⟩ rfl rfl rfl rfl rfl (by kernel_rfl) Tryz.func4 (by kernel_rfl)
    (of_decide_eq_true (by kernel_rfl)) (by unfold Func.isWrapper; first | (rw [if_pos (by decide +kernel)]; kernel_rfl) | (rw [if_neg (by decide +kernel)]; exact ⟨rfl, rfl⟩))
    (fun os started H enc _ => fracReads_lifted os started H enc)
theorem fracReads_proved : Rows.FracReadsCardSaid :=
  Claim7.holds_tied_plain_at .later [] [.data, .data, .data] true Rows.fracReadsCard.stood.harness Rows.fracReadsCard.stood.looks
    fracReads_said (fun _ h => by cases h) (by kernel_rfl) (fun _ h => by cases h) fracReads_row_tie rfl ⟨rfl, rfl⟩ (by kernel_rfl) rfl
    (fun f fn hf hfn => by
      obtain rfl : f = 4 := Option.some.inj ((show Tryz.prog.funcNamed "twistlock/twistlocklaw01.FracReads" = some 4 by kernel_rfl).symm.trans hf) |>.symm
      obtain rfl : fn = Tryz.f4 := (Option.some.inj (Tryz.func4.symm.trans hfn)).symm
      exact ⟨by kernel_rfl, fun j t ht => by
        rw [Tryz.params4] at ht
        have hm : t ∈ [9] := by simpa using Array.mem_of_getElem? ht
        have hall : ([9].all fun u => !Tryz.prog.wantsStandIn u) = true := by kernel_rfl
        exact (show Tryz.prog.wantsStandIn t = false by simpa using List.all_eq_true.1 hall t hm)⟩)
    (by kernel_rfl)
#print axioms fracReads_proved
end Go.Proofs.YtalmflgkbmnghaaGreatDoor
