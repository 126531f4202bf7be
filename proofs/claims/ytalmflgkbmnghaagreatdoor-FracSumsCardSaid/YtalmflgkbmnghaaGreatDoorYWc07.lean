import Derived.Test.YtalmflgkbmnghaaGreatDoorYWc06
import Derived.Test.YtalmflgkbmnghaaGreatDoorYWc02
/- Part of the proof: YP, YQ0, YQ, YB. -/
set_option linter.unusedVariables false
set_option linter.unusedSimpArgs false
set_option linter.unusedSectionVars false
namespace Go.Proofs.YtalmflgkbmnghaaGreatDoor
open Go Go.RowKit Tw
set_option linter.unusedSimpArgs false
set_option linter.unusedVariables false
open Tf (dg R R_pos R_le R_succ dg_of_lt setd setd_eq)
variable [ShLZ]
variable [ShSt]
def AnsNW (W0 : Base) (K : List (Nat × Obj)) (n : Nat) (c : Int) (v : Value) (K2 : List (Nat × Obj)) : Prop := ∃ q d T, v = .tuple #[.slice q (cd n).length d, .int .i64 c] ∧ (cd n).length ≤ d ∧ NS W0 q (cd n) T ∧ Dj K T ∧ K2 = K ++ T
def AnsNF (w : World) (n : Nat) (c : Int) (e : Ending) (w' : World) : Prop := ∃ q d, e = .returned (.tuple #[.slice q (cd n).length d, .int .i64 c]) ∧ (cd n).length ≤ d ∧ SLF w w' q (nums (cd n)) ∧ Below w.heap.size w w'
theorem AnsNF.g {W0 : Base} {K : List (Nat × Obj)} {W w2 : World} {n : Nat} {c : Int} {e : Ending} (h : AnsNF W n c e w2) (hW : KS W0 K W) : ∃ v K2, e = .returned v ∧ KS W0 K2 w2 ∧ AnsNW W0 K n c v K2 := by
  obtain ⟨q, d, rfl, h1, h2, h3⟩ := h
  obtain ⟨T, h4, h5, h6, _⟩ := ns_new hW h3 h2
  exact ⟨_, _, rfl, h4, q, d, T, rfl, h1, h6, h5, rfl⟩
end Go.Proofs.YtalmflgkbmnghaaGreatDoor
namespace Go.Proofs.YtalmflgkbmnghaaGreatDoor
open Go Go.RowKit Tw
set_option linter.unusedSimpArgs false
set_option linter.unusedVariables false
open Tf (dg R R_pos R_le R_succ dg_of_lt setd setd_eq)
variable [ShLZ]
variable [ShSt]
def FirstAt (u : List UInt8) (k : Nat) (a : Int) : Prop := (a = -1 ∧ ∀ (j : Nat) (b : UInt8), k ≤ j → u[j]? = some b → ¬ b.toNat = 47) ∨ (∃ i : Nat, a = (i : Int) ∧ (∃ b, u[i]? = some b ∧ b.toNat = 47) ∧ ∀ (j : Nat) (b : UInt8), k ≤ j → j < i → u[j]? = some b → ¬ b.toNat = 47)
theorem FirstAt.start (u : List UInt8) : FirstAt u u.length (-1) := .inl ⟨rfl, fun j b hj hb => by have := (List.getElem?_eq_some_iff.1 hb).1; omega⟩
theorem FirstAt.hit {u : List UInt8} {k : Nat} {b : UInt8} (hb : u[k]? = some b) (h : b.toNat = 47) : FirstAt u k (k : Int) := .inr ⟨k, rfl, ⟨b, hb, h⟩, fun j c h1 h2 => by omega⟩
end Go.Proofs.YtalmflgkbmnghaaGreatDoor
namespace Go.Proofs.YtalmflgkbmnghaaGreatDoor
open Go Go.RowKit Tw
set_option linter.unusedSimpArgs false
set_option linter.unusedVariables false
open Tf (dg R R_pos R_le R_succ dg_of_lt setd setd_eq)
variable [ShLZ]
variable [ShSt]
end Go.Proofs.YtalmflgkbmnghaaGreatDoor
namespace Go.Proofs.YtalmflgkbmnghaaGreatDoor
open Go Go.RowKit Tw
open Tf (dg R R_pos R_le R_succ dg_of_lt setd setd_eq)
theorem div_lt8 {x y : Nat} (h : (cd x).length ≤ 4) : x / y < R 8 := cd_R8.1 (Nat.le_trans (cd_div_len h) (by omega))
theorem frc_same {s s' : Bool} {n d : Nat} (h : s = s') : (Value.tuple #[.agg (frcC s n d), .int .i64 0]) = .tuple #[.agg (frcC s' n d), .int .i64 0] := by rw [h]
theorem quo0 {a b : Int} (hb : b ≠ 0) : (a.natAbs / Nat.gcd a.natAbs b.natAbs ≠ 0) ↔ a ≠ 0 := by
  have hg : 0 < Nat.gcd a.natAbs b.natAbs := Nat.gcd_pos_of_pos_right _ (by omega)
  constructor
  · rintro h rfl
    simp at h
  · intro h
    have := Nat.div_pos (Nat.le_of_dvd (by omega) (Nat.gcd_dvd_left a.natAbs b.natAbs)) hg
    omega
theorem sgn_true {a b : Int} (h : (a < 0 ∧ 0 < b) ∨ (0 < a ∧ b < 0)) (hb : b ≠ 0) : (true && decide (a.natAbs / Nat.gcd a.natAbs b.natAbs ≠ 0)) = (decide (a ≠ 0) && (decide (a < 0) != decide (b < 0))) := by
  have e : decide (a.natAbs / Nat.gcd a.natAbs b.natAbs ≠ 0) = decide (a ≠ 0) := decide_eq_decide.2 (quo0 (a := a) hb)
  rw [Bool.true_and, e]
  rcases h with ⟨h1, h2⟩ | ⟨h1, h2⟩
  · have h3 : ¬ b < 0 := by omega
    simp [h1, h3]
  · have h3 : ¬ a < 0 := by omega
    simp [h2, h3]
theorem sgn_false {a b : Int} (h : ¬ (a < 0 ∧ 0 < b) ∧ ¬ (0 < a ∧ b < 0)) (hb : b ≠ 0) : (false && decide (a.natAbs / Nat.gcd a.natAbs b.natAbs ≠ 0)) = (decide (a ≠ 0) && (decide (a < 0) != decide (b < 0))) := by
  rw [Bool.false_and]
  by_cases h0 : a = 0
  · simp [h0]
  · by_cases h1 : a < 0
    · have h2 : b < 0 := by omega
      simp [h1, h2]
    · have h2 : ¬ b < 0 := by omega
      simp [h1, h2]
theorem of_ratio (n : Int) : (Value.tuple #[.agg (frcC (decide (n ≠ 0) && (decide (n < 0) != decide ((1 : Int) < 0))) (n.natAbs / Nat.gcd n.natAbs (1 : Int).natAbs) ((1 : Int).natAbs / Nat.gcd n.natAbs (1 : Int).natAbs)), .int .i64 0]) = .tuple #[.agg (frcC (decide (n < 0)) n.natAbs 1), .int .i64 0] := by
  have e : (1 : Int).natAbs = 1 := rfl
  rw [e, Nat.gcd_one_right, Nat.div_one, Nat.div_one]
  have : (decide (n ≠ 0) && (decide (n < 0) != decide ((1 : Int) < 0))) = decide (n < 0) := by
    by_cases h : n < 0
    · have : n ≠ 0 := by omega
      simp [h, this]
    · simp [h]
  rw [this]
set_option maxRecDepth 100000 in
set_option maxHeartbeats 20000000 in
theorem RRatio_any (a b : Int) (a1 : -9223372036854775808 ≤ a) (a2 : a ≤ 9223372036854775807) (b1 : -9223372036854775808 ≤ b) (b2 : b ≤ 9223372036854775807) (hb : b ≠ 0) (w : World) : Calls Tryz.prog 38 #[.int .i64 a, .int .i64 b] w fun e w' => e = .returned (.tuple #[.agg (frcC (decide (a ≠ 0) && (decide (a < 0) != decide (b < 0))) (a.natAbs / Nat.gcd a.natAbs b.natAbs) (b.natAbs / Nat.gcd a.natAbs b.natAbs)), .int .i64 0]) ∧ Below w.heap.size w w' := by
  have la : (cd a.natAbs).length ≤ 4 := cd_le.2 (by omega)
  have lb : (cd b.natAbs).length ≤ 4 := cd_le.2 (by omega)
  have hb0 : 0 < b.natAbs := by omega
  obtain ⟨S, hS⟩ : ∃ S, S = (decide (a ≠ 0) && (decide (a < 0) != decide (b < 0))) := ⟨_, rfl⟩
  rw [← hS]
  go_enter Tryz.func38, Tryz.ntmps38
  refine wp_seq ?_
  refine wp_region_L (W0 := w) [] (KS.start w) ?_
  refine wpL_new (fun g => .pointer (some ⟨g, 0, none⟩)) (obi := .cells (frcC false 0 0) 34 (0, 0)) rfl rfl (fun _ => by kernel_rfl) (fun _ => by simp only [List.setIfInBounds_toArray, List.set_cons_succ, List.set_cons_zero] <;> rfl) fun g1 Bg1 Fg1 => ?_
  refine Tw.lm (v := .int .i64 0) rfl rfl ?_
  refine wpL_done (fun W1 hW1 => ?_)
  refine (show Code.wp _ _ _ _ _ from ?_)
  refine wp_seq ?_
  refine wp_seq ?_
  refine wp_region_L (W0 := w) [(g1, .cells (frcC false 0 0) 34 (0, 0))] (hW1) ?_
  refine Tw.lm (v := .int .i64 b) rfl rfl ?_
  refine Tw.lp (v := .bool (decide (b = 0))) rfl rfl (run_bin rfl (vx := (.int .i64 b)) (vy := (.int .i64 0)) (by kernel_rfl) (by kernel_rfl) fun w => bi_eql rfl w) ?_
  refine wpL_done (fun W2 hW2 => ?_)
  refine (show Code.wp _ _ _ _ _ from ?_)
  cases hd1 : (decide (b = 0)) with
  | false =>
    have h1 : ¬ (b = 0) := of_decide_eq_false hd1
    clear hd1
    refine wp_cond_false rfl ?_
    refine wp_skip ?_
    refine (show Code.wp _ _ _ _ _ from ?_)
    refine wp_seq ?_
    refine wp_region_L (W0 := w) [(g1, .cells (frcC false 0 0) 34 (0, 0))] (hW2) ?_
    refine Tw.lm (v := .int .i64 a) rfl rfl ?_
    refine Tw.lp (v := .bool (decide (a < 0))) rfl rfl (run_bin rfl (vx := (.int .i64 a)) (vy := (.int .i64 0)) (by kernel_rfl) (by kernel_rfl) fun w => bi_lss rfl w) ?_
    refine Tw.lm (v := .bool (decide (a < 0))) rfl rfl ?_
    cases hd2 : (decide (a < 0)) with
    | false =>
      have h2 : ¬ (a < 0) := of_decide_eq_false hd2
      clear hd2
      refine Tw.ln rfl ?_
      refine Tw.ln rfl ?_
      refine Tw.lm (v := .bool false) rfl rfl ?_
      refine Tw.lm (v := .bool false) rfl rfl ?_
      refine Tw.lm (v := .int .i64 a) rfl rfl ?_
      refine Tw.lp (v := .bool (decide (0 < a))) rfl rfl (run_bin rfl (vx := (.int .i64 a)) (vy := (.int .i64 0)) (by kernel_rfl) (by kernel_rfl) fun w => bi_gtr rfl w) ?_
      refine Tw.lm (v := .bool (decide (0 < a))) rfl rfl ?_
      cases hd3 : (decide (0 < a)) with
      | false =>
        have h3 : ¬ (0 < a) := of_decide_eq_false hd3
        clear hd3
        refine Tw.ln rfl ?_
        refine Tw.ln rfl ?_
        refine Tw.lm (v := .bool false) rfl rfl ?_
        refine Tw.lm (v := .bool false) rfl rfl ?_
        refine Tw.lm (v := .int .i64 a) rfl rfl ?_
        refine wpL_c (f := 78) (args := #[.int .i64 a]) (AnsG w [(g1, .cells (frcC false 0 0) 34 (0, 0))] (cd a.natAbs)) rfl (by kernel_rfl) (fun _ => (by kernel_rfl)) (fun W hW => (size_any a (by omega) (by omega) W).mono fun e w2 h => Ans.g h hW) (fun _ => by simp only [List.setIfInBounds_toArray, List.set_cons_succ, List.set_cons_zero] <;> rfl) ?_
        rintro v2 _ ⟨q2, d2, T2, rfl, C2, H2, F2, J2, rfl⟩
        obtain dj3_0 : Dk g1 T2 := by simpa only [dj_app_l, dj_app_r, dj_cons_l, dj_cons_r, dj_nil_l, dj_nil_r, dk_app, dk_cons, dk_nil, and_true, true_and, and_assoc] using (show Dj [(g1, .cells (frcC false 0 0) 34 (0, 0))] T2 from J2)
        refine Tw.lm (v := .int .i64 b) rfl rfl ?_
        refine wpL_c (f := 78) (args := #[.int .i64 b]) (AnsG w ((g1, .cells (frcC false 0 0) 34 (0, 0)) :: T2) (cd b.natAbs)) rfl (by kernel_rfl) (fun _ => (by kernel_rfl)) (fun W hW => (size_any b (by omega) (by omega) W).mono fun e w2 h => Ans.g h hW) (fun _ => by simp only [List.setIfInBounds_toArray, List.set_cons_succ, List.set_cons_zero] <;> rfl) ?_
        rintro v4 _ ⟨q4, d4, T4, rfl, C4, H4, F4, J4, rfl⟩
        obtain ⟨dj5_0, dj5_1⟩ : Dk g1 T4 ∧ Dj T2 T4 := by simpa only [dj_app_l, dj_app_r, dj_cons_l, dj_cons_r, dj_nil_l, dj_nil_r, dk_app, dk_cons, dk_nil, and_true, true_and, and_assoc] using (show Dj ((g1, .cells (frcC false 0 0) 34 (0, 0)) :: T2) T4 from J4)
        refine Tw.lv (v := .tuple #[.agg (frcC (false && decide ((a.natAbs / Nat.gcd a.natAbs b.natAbs) ≠ 0)) (a.natAbs / Nat.gcd a.natAbs b.natAbs) (b.natAbs / Nat.gcd a.natAbs b.natAbs)), .int .i64 0]) rfl rfl (yb_call (f := 45) (args := #[.bool false, .slice q2 ((cd a.natAbs).length) d2, .slice q4 ((cd b.natAbs).length) d4]) (fun _ => by kernel_rfl) fun W hW => packV_yes (neg := false) (div_lt8 (y := Nat.gcd a.natAbs b.natAbs) la) (div_lt8 (y := Nat.gcd a.natAbs b.natAbs) lb) ▸ make0_any false a.natAbs b.natAbs q2 q4 d2 d4 hb0 (by omega) (by omega) C2 C4 W ((H2.mono (fun q hq => by first | exact hq | (simp only [List.mem_cons, List.mem_append, List.nil_append, List.not_mem_nil, or_assoc, or_false, false_or] at hq ⊢ <;> grind))) W hW) ((H4.mono (fun q hq => by first | exact hq | (simp only [List.mem_cons, List.mem_append, List.nil_append, List.not_mem_nil, or_assoc, or_false, false_or] at hq ⊢ <;> grind))) W hW)) ?_
        refine Tw.lm (v := .agg (frcC (false && decide ((a.natAbs / Nat.gcd a.natAbs b.natAbs) ≠ 0)) (a.natAbs / Nat.gcd a.natAbs b.natAbs) (b.natAbs / Nat.gcd a.natAbs b.natAbs))) rfl rfl ?_
        refine Tw.lm (v := .int .i64 0) rfl rfl ?_
        refine wpL_s ((g1, .cells (frcC (false && decide ((a.natAbs / Nat.gcd a.natAbs b.natAbs) ≠ 0)) (a.natAbs / Nat.gcd a.natAbs b.natAbs) (b.natAbs / Nat.gcd a.natAbs b.natAbs)) 34 (0, 0)) :: (T2 ++ T4)) rfl rfl (st_all (by simp only [frcC_size]) (by exact frc_onec) rfl (by kernel_rfl) (by kernel_rfl) (.head _) Bg1 (by simp only [frcC_size]; kernel_rfl) (List.forall_mem_cons.2 ⟨.inl rfl, (fun p hp => .inr ⟨(.tail _ hp), ((show Dk g1 (T2 ++ T4) from (by (try simp only [dj_app_l, dj_app_r, dj_cons_l, dj_cons_r, dj_nil_l, dj_nil_r, dk_app, dk_cons, dk_nil, and_true, true_and, and_assoc]); repeat' (first | trivial | assumption | exact Dj.symm (by assumption) | exact Ne.symm (by assumption) | apply And.intro))) _ hp)⟩)⟩)) ?_
        refine Tw.lm (v := .int .i64 0) rfl rfl ?_
        refine wpL_done (fun W3 hW3 => ?_)
        refine (show Code.wp _ _ _ _ _ from ?_)
        refine wp_ret ?_
        try simp only [inBlock_ret, then_ret]
        refine bodyPost_ret (v := .tuple #[.agg (frcC (false && decide ((a.natAbs / Nat.gcd a.natAbs b.natAbs) ≠ 0)) (a.natAbs / Nat.gcd a.natAbs b.natAbs) (b.natAbs / Nat.gcd a.natAbs b.natAbs)), .int .i64 0]) ?_ rfl ?_
        · exact (res_cell_tmp (p := 4) (q := 5) rfl rfl (hW3.2 _ (.head _)) Tryz.underlying34 rfl (by simp only [frcC_size]; kernel_rfl))
        · exact ⟨(ret_v (frc_same ((sgn_false (a := a) (b := b) (by omega) hb).trans hS.symm))), hW3.1⟩
      | true =>
        have h3 : 0 < a := of_decide_eq_true hd3
        clear hd3
        refine Tw.lm (v := .int .i64 b) rfl rfl ?_
        refine Tw.lp (v := .bool (decide (b < 0))) rfl rfl (run_bin rfl (vx := (.int .i64 b)) (vy := (.int .i64 0)) (by kernel_rfl) (by kernel_rfl) fun w => bi_lss rfl w) ?_
        refine Tw.lm (v := .bool (decide (b < 0))) rfl rfl ?_
        refine Tw.lm (v := .bool (decide (b < 0))) rfl rfl ?_
        refine Tw.lm (v := .int .i64 a) rfl rfl ?_
        refine wpL_c (f := 78) (args := #[.int .i64 a]) (AnsG w [(g1, .cells (frcC false 0 0) 34 (0, 0))] (cd a.natAbs)) rfl (by kernel_rfl) (fun _ => (by kernel_rfl)) (fun W hW => (size_any a (by omega) (by omega) W).mono fun e w2 h => Ans.g h hW) (fun _ => by simp only [List.setIfInBounds_toArray, List.set_cons_succ, List.set_cons_zero] <;> rfl) ?_
        rintro v6 _ ⟨q6, d6, T6, rfl, C6, H6, F6, J6, rfl⟩
        obtain dj7_0 : Dk g1 T6 := by simpa only [dj_app_l, dj_app_r, dj_cons_l, dj_cons_r, dj_nil_l, dj_nil_r, dk_app, dk_cons, dk_nil, and_true, true_and, and_assoc] using (show Dj [(g1, .cells (frcC false 0 0) 34 (0, 0))] T6 from J6)
        refine Tw.lm (v := .int .i64 b) rfl rfl ?_
        refine wpL_c (f := 78) (args := #[.int .i64 b]) (AnsG w ((g1, .cells (frcC false 0 0) 34 (0, 0)) :: T6) (cd b.natAbs)) rfl (by kernel_rfl) (fun _ => (by kernel_rfl)) (fun W hW => (size_any b (by omega) (by omega) W).mono fun e w2 h => Ans.g h hW) (fun _ => by simp only [List.setIfInBounds_toArray, List.set_cons_succ, List.set_cons_zero] <;> rfl) ?_
        rintro v8 _ ⟨q8, d8, T8, rfl, C8, H8, F8, J8, rfl⟩
        obtain ⟨dj9_0, dj9_1⟩ : Dk g1 T8 ∧ Dj T6 T8 := by simpa only [dj_app_l, dj_app_r, dj_cons_l, dj_cons_r, dj_nil_l, dj_nil_r, dk_app, dk_cons, dk_nil, and_true, true_and, and_assoc] using (show Dj ((g1, .cells (frcC false 0 0) 34 (0, 0)) :: T6) T8 from J8)
        cases hd4 : (decide (b < 0)) with
        | false =>
          have h4 : ¬ (b < 0) := of_decide_eq_false hd4
          clear hd4
          refine Tw.lv (v := .tuple #[.agg (frcC (false && decide ((a.natAbs / Nat.gcd a.natAbs b.natAbs) ≠ 0)) (a.natAbs / Nat.gcd a.natAbs b.natAbs) (b.natAbs / Nat.gcd a.natAbs b.natAbs)), .int .i64 0]) rfl rfl (yb_call (f := 45) (args := #[.bool false, .slice q6 ((cd a.natAbs).length) d6, .slice q8 ((cd b.natAbs).length) d8]) (fun _ => by kernel_rfl) fun W hW => packV_yes (neg := false) (div_lt8 (y := Nat.gcd a.natAbs b.natAbs) la) (div_lt8 (y := Nat.gcd a.natAbs b.natAbs) lb) ▸ make0_any false a.natAbs b.natAbs q6 q8 d6 d8 hb0 (by omega) (by omega) C6 C8 W ((H6.mono (fun q hq => by first | exact hq | (simp only [List.mem_cons, List.mem_append, List.nil_append, List.not_mem_nil, or_assoc, or_false, false_or] at hq ⊢ <;> grind))) W hW) ((H8.mono (fun q hq => by first | exact hq | (simp only [List.mem_cons, List.mem_append, List.nil_append, List.not_mem_nil, or_assoc, or_false, false_or] at hq ⊢ <;> grind))) W hW)) ?_
          refine Tw.lm (v := .agg (frcC (false && decide ((a.natAbs / Nat.gcd a.natAbs b.natAbs) ≠ 0)) (a.natAbs / Nat.gcd a.natAbs b.natAbs) (b.natAbs / Nat.gcd a.natAbs b.natAbs))) rfl rfl ?_
          refine Tw.lm (v := .int .i64 0) rfl rfl ?_
          refine wpL_s ((g1, .cells (frcC (false && decide ((a.natAbs / Nat.gcd a.natAbs b.natAbs) ≠ 0)) (a.natAbs / Nat.gcd a.natAbs b.natAbs) (b.natAbs / Nat.gcd a.natAbs b.natAbs)) 34 (0, 0)) :: (T6 ++ T8)) rfl rfl (st_all (by simp only [frcC_size]) (by exact frc_onec) rfl (by kernel_rfl) (by kernel_rfl) (.head _) Bg1 (by simp only [frcC_size]; kernel_rfl) (List.forall_mem_cons.2 ⟨.inl rfl, (fun p hp => .inr ⟨(.tail _ hp), ((show Dk g1 (T6 ++ T8) from (by (try simp only [dj_app_l, dj_app_r, dj_cons_l, dj_cons_r, dj_nil_l, dj_nil_r, dk_app, dk_cons, dk_nil, and_true, true_and, and_assoc]); repeat' (first | trivial | assumption | exact Dj.symm (by assumption) | exact Ne.symm (by assumption) | apply And.intro))) _ hp)⟩)⟩)) ?_
          refine Tw.lm (v := .int .i64 0) rfl rfl ?_
          refine wpL_done (fun W4 hW4 => ?_)
          refine (show Code.wp _ _ _ _ _ from ?_)
          refine wp_ret ?_
          try simp only [inBlock_ret, then_ret]
          refine bodyPost_ret (v := .tuple #[.agg (frcC (false && decide ((a.natAbs / Nat.gcd a.natAbs b.natAbs) ≠ 0)) (a.natAbs / Nat.gcd a.natAbs b.natAbs) (b.natAbs / Nat.gcd a.natAbs b.natAbs)), .int .i64 0]) ?_ rfl ?_
          · exact (res_cell_tmp (p := 4) (q := 5) rfl rfl (hW4.2 _ (.head _)) Tryz.underlying34 rfl (by simp only [frcC_size]; kernel_rfl))
          · exact ⟨(ret_v (frc_same ((sgn_false (a := a) (b := b) (by omega) hb).trans hS.symm))), hW4.1⟩
        | true =>
          have h4 : b < 0 := of_decide_eq_true hd4
          clear hd4
          refine Tw.lv (v := .tuple #[.agg (frcC (true && decide ((a.natAbs / Nat.gcd a.natAbs b.natAbs) ≠ 0)) (a.natAbs / Nat.gcd a.natAbs b.natAbs) (b.natAbs / Nat.gcd a.natAbs b.natAbs)), .int .i64 0]) rfl rfl (yb_call (f := 45) (args := #[.bool true, .slice q6 ((cd a.natAbs).length) d6, .slice q8 ((cd b.natAbs).length) d8]) (fun _ => by kernel_rfl) fun W hW => packV_yes (neg := true) (div_lt8 (y := Nat.gcd a.natAbs b.natAbs) la) (div_lt8 (y := Nat.gcd a.natAbs b.natAbs) lb) ▸ make0_any true a.natAbs b.natAbs q6 q8 d6 d8 hb0 (by omega) (by omega) C6 C8 W ((H6.mono (fun q hq => by first | exact hq | (simp only [List.mem_cons, List.mem_append, List.nil_append, List.not_mem_nil, or_assoc, or_false, false_or] at hq ⊢ <;> grind))) W hW) ((H8.mono (fun q hq => by first | exact hq | (simp only [List.mem_cons, List.mem_append, List.nil_append, List.not_mem_nil, or_assoc, or_false, false_or] at hq ⊢ <;> grind))) W hW)) ?_
          refine Tw.lm (v := .agg (frcC (true && decide ((a.natAbs / Nat.gcd a.natAbs b.natAbs) ≠ 0)) (a.natAbs / Nat.gcd a.natAbs b.natAbs) (b.natAbs / Nat.gcd a.natAbs b.natAbs))) rfl rfl ?_
          refine Tw.lm (v := .int .i64 0) rfl rfl ?_
          refine wpL_s ((g1, .cells (frcC (true && decide ((a.natAbs / Nat.gcd a.natAbs b.natAbs) ≠ 0)) (a.natAbs / Nat.gcd a.natAbs b.natAbs) (b.natAbs / Nat.gcd a.natAbs b.natAbs)) 34 (0, 0)) :: (T6 ++ T8)) rfl rfl (st_all (by simp only [frcC_size]) (by exact frc_onec) rfl (by kernel_rfl) (by kernel_rfl) (.head _) Bg1 (by simp only [frcC_size]; kernel_rfl) (List.forall_mem_cons.2 ⟨.inl rfl, (fun p hp => .inr ⟨(.tail _ hp), ((show Dk g1 (T6 ++ T8) from (by (try simp only [dj_app_l, dj_app_r, dj_cons_l, dj_cons_r, dj_nil_l, dj_nil_r, dk_app, dk_cons, dk_nil, and_true, true_and, and_assoc]); repeat' (first | trivial | assumption | exact Dj.symm (by assumption) | exact Ne.symm (by assumption) | apply And.intro))) _ hp)⟩)⟩)) ?_
          refine Tw.lm (v := .int .i64 0) rfl rfl ?_
          refine wpL_done (fun W5 hW5 => ?_)
          refine (show Code.wp _ _ _ _ _ from ?_)
          refine wp_ret ?_
          try simp only [inBlock_ret, then_ret]
          refine bodyPost_ret (v := .tuple #[.agg (frcC (true && decide ((a.natAbs / Nat.gcd a.natAbs b.natAbs) ≠ 0)) (a.natAbs / Nat.gcd a.natAbs b.natAbs) (b.natAbs / Nat.gcd a.natAbs b.natAbs)), .int .i64 0]) ?_ rfl ?_
          · exact (res_cell_tmp (p := 4) (q := 5) rfl rfl (hW5.2 _ (.head _)) Tryz.underlying34 rfl (by simp only [frcC_size]; kernel_rfl))
          · exact ⟨(ret_v (frc_same ((sgn_true (a := a) (b := b) (by omega) hb).trans hS.symm))), hW5.1⟩
    | true =>
      have h2 : a < 0 := of_decide_eq_true hd2
      clear hd2
      refine Tw.lm (v := .int .i64 b) rfl rfl ?_
      refine Tw.lp (v := .bool (decide (0 < b))) rfl rfl (run_bin rfl (vx := (.int .i64 b)) (vy := (.int .i64 0)) (by kernel_rfl) (by kernel_rfl) fun w => bi_gtr rfl w) ?_
      refine Tw.lm (v := .bool (decide (0 < b))) rfl rfl ?_
      refine Tw.lm (v := .bool (decide (0 < b))) rfl rfl ?_
      cases hd5 : (decide (0 < b)) with
      | false =>
        have h5 : ¬ (0 < b) := of_decide_eq_false hd5
        clear hd5
        refine Tw.lm (v := .int .i64 a) rfl rfl ?_
        refine Tw.lp (v := .bool (decide (0 < a))) rfl rfl (run_bin rfl (vx := (.int .i64 a)) (vy := (.int .i64 0)) (by kernel_rfl) (by kernel_rfl) fun w => bi_gtr rfl w) ?_
        refine Tw.lm (v := .bool (decide (0 < a))) rfl rfl ?_
        cases hd6 : (decide (0 < a)) with
        | false =>
          have h6 : ¬ (0 < a) := of_decide_eq_false hd6
          clear hd6
          refine Tw.ln rfl ?_
          refine Tw.ln rfl ?_
          refine Tw.lm (v := .bool false) rfl rfl ?_
          refine Tw.lm (v := .bool false) rfl rfl ?_
          refine Tw.lm (v := .int .i64 a) rfl rfl ?_
          refine wpL_c (f := 78) (args := #[.int .i64 a]) (AnsG w [(g1, .cells (frcC false 0 0) 34 (0, 0))] (cd a.natAbs)) rfl (by kernel_rfl) (fun _ => (by kernel_rfl)) (fun W hW => (size_any a (by omega) (by omega) W).mono fun e w2 h => Ans.g h hW) (fun _ => by simp only [List.setIfInBounds_toArray, List.set_cons_succ, List.set_cons_zero] <;> rfl) ?_
          rintro v10 _ ⟨q10, d10, T10, rfl, C10, H10, F10, J10, rfl⟩
          obtain dj11_0 : Dk g1 T10 := by simpa only [dj_app_l, dj_app_r, dj_cons_l, dj_cons_r, dj_nil_l, dj_nil_r, dk_app, dk_cons, dk_nil, and_true, true_and, and_assoc] using (show Dj [(g1, .cells (frcC false 0 0) 34 (0, 0))] T10 from J10)
          refine Tw.lm (v := .int .i64 b) rfl rfl ?_
          refine wpL_c (f := 78) (args := #[.int .i64 b]) (AnsG w ((g1, .cells (frcC false 0 0) 34 (0, 0)) :: T10) (cd b.natAbs)) rfl (by kernel_rfl) (fun _ => (by kernel_rfl)) (fun W hW => (size_any b (by omega) (by omega) W).mono fun e w2 h => Ans.g h hW) (fun _ => by simp only [List.setIfInBounds_toArray, List.set_cons_succ, List.set_cons_zero] <;> rfl) ?_
          rintro v12 _ ⟨q12, d12, T12, rfl, C12, H12, F12, J12, rfl⟩
          obtain ⟨dj13_0, dj13_1⟩ : Dk g1 T12 ∧ Dj T10 T12 := by simpa only [dj_app_l, dj_app_r, dj_cons_l, dj_cons_r, dj_nil_l, dj_nil_r, dk_app, dk_cons, dk_nil, and_true, true_and, and_assoc] using (show Dj ((g1, .cells (frcC false 0 0) 34 (0, 0)) :: T10) T12 from J12)
          refine Tw.lv (v := .tuple #[.agg (frcC (false && decide ((a.natAbs / Nat.gcd a.natAbs b.natAbs) ≠ 0)) (a.natAbs / Nat.gcd a.natAbs b.natAbs) (b.natAbs / Nat.gcd a.natAbs b.natAbs)), .int .i64 0]) rfl rfl (yb_call (f := 45) (args := #[.bool false, .slice q10 ((cd a.natAbs).length) d10, .slice q12 ((cd b.natAbs).length) d12]) (fun _ => by kernel_rfl) fun W hW => packV_yes (neg := false) (div_lt8 (y := Nat.gcd a.natAbs b.natAbs) la) (div_lt8 (y := Nat.gcd a.natAbs b.natAbs) lb) ▸ make0_any false a.natAbs b.natAbs q10 q12 d10 d12 hb0 (by omega) (by omega) C10 C12 W ((H10.mono (fun q hq => by first | exact hq | (simp only [List.mem_cons, List.mem_append, List.nil_append, List.not_mem_nil, or_assoc, or_false, false_or] at hq ⊢ <;> grind))) W hW) ((H12.mono (fun q hq => by first | exact hq | (simp only [List.mem_cons, List.mem_append, List.nil_append, List.not_mem_nil, or_assoc, or_false, false_or] at hq ⊢ <;> grind))) W hW)) ?_
          refine Tw.lm (v := .agg (frcC (false && decide ((a.natAbs / Nat.gcd a.natAbs b.natAbs) ≠ 0)) (a.natAbs / Nat.gcd a.natAbs b.natAbs) (b.natAbs / Nat.gcd a.natAbs b.natAbs))) rfl rfl ?_
          refine Tw.lm (v := .int .i64 0) rfl rfl ?_
          refine wpL_s ((g1, .cells (frcC (false && decide ((a.natAbs / Nat.gcd a.natAbs b.natAbs) ≠ 0)) (a.natAbs / Nat.gcd a.natAbs b.natAbs) (b.natAbs / Nat.gcd a.natAbs b.natAbs)) 34 (0, 0)) :: (T10 ++ T12)) rfl rfl (st_all (by simp only [frcC_size]) (by exact frc_onec) rfl (by kernel_rfl) (by kernel_rfl) (.head _) Bg1 (by simp only [frcC_size]; kernel_rfl) (List.forall_mem_cons.2 ⟨.inl rfl, (fun p hp => .inr ⟨(.tail _ hp), ((show Dk g1 (T10 ++ T12) from (by (try simp only [dj_app_l, dj_app_r, dj_cons_l, dj_cons_r, dj_nil_l, dj_nil_r, dk_app, dk_cons, dk_nil, and_true, true_and, and_assoc]); repeat' (first | trivial | assumption | exact Dj.symm (by assumption) | exact Ne.symm (by assumption) | apply And.intro))) _ hp)⟩)⟩)) ?_
          refine Tw.lm (v := .int .i64 0) rfl rfl ?_
          refine wpL_done (fun W6 hW6 => ?_)
          refine (show Code.wp _ _ _ _ _ from ?_)
          refine wp_ret ?_
          try simp only [inBlock_ret, then_ret]
          refine bodyPost_ret (v := .tuple #[.agg (frcC (false && decide ((a.natAbs / Nat.gcd a.natAbs b.natAbs) ≠ 0)) (a.natAbs / Nat.gcd a.natAbs b.natAbs) (b.natAbs / Nat.gcd a.natAbs b.natAbs)), .int .i64 0]) ?_ rfl ?_
          · exact (res_cell_tmp (p := 4) (q := 5) rfl rfl (hW6.2 _ (.head _)) Tryz.underlying34 rfl (by simp only [frcC_size]; kernel_rfl))
          · exact ⟨(ret_v (frc_same ((sgn_false (a := a) (b := b) (by omega) hb).trans hS.symm))), hW6.1⟩
        | true =>
          have h6 : 0 < a := of_decide_eq_true hd6
          clear hd6
          refine Tw.lm (v := .int .i64 b) rfl rfl ?_
          refine Tw.lp (v := .bool (decide (b < 0))) rfl rfl (run_bin rfl (vx := (.int .i64 b)) (vy := (.int .i64 0)) (by kernel_rfl) (by kernel_rfl) fun w => bi_lss rfl w) ?_
          refine Tw.lm (v := .bool (decide (b < 0))) rfl rfl ?_
          refine Tw.lm (v := .bool (decide (b < 0))) rfl rfl ?_
          refine Tw.lm (v := .int .i64 a) rfl rfl ?_
          refine wpL_c (f := 78) (args := #[.int .i64 a]) (AnsG w [(g1, .cells (frcC false 0 0) 34 (0, 0))] (cd a.natAbs)) rfl (by kernel_rfl) (fun _ => (by kernel_rfl)) (fun W hW => (size_any a (by omega) (by omega) W).mono fun e w2 h => Ans.g h hW) (fun _ => by simp only [List.setIfInBounds_toArray, List.set_cons_succ, List.set_cons_zero] <;> rfl) ?_
          rintro v14 _ ⟨q14, d14, T14, rfl, C14, H14, F14, J14, rfl⟩
          obtain dj15_0 : Dk g1 T14 := by simpa only [dj_app_l, dj_app_r, dj_cons_l, dj_cons_r, dj_nil_l, dj_nil_r, dk_app, dk_cons, dk_nil, and_true, true_and, and_assoc] using (show Dj [(g1, .cells (frcC false 0 0) 34 (0, 0))] T14 from J14)
          refine Tw.lm (v := .int .i64 b) rfl rfl ?_
          refine wpL_c (f := 78) (args := #[.int .i64 b]) (AnsG w ((g1, .cells (frcC false 0 0) 34 (0, 0)) :: T14) (cd b.natAbs)) rfl (by kernel_rfl) (fun _ => (by kernel_rfl)) (fun W hW => (size_any b (by omega) (by omega) W).mono fun e w2 h => Ans.g h hW) (fun _ => by simp only [List.setIfInBounds_toArray, List.set_cons_succ, List.set_cons_zero] <;> rfl) ?_
          rintro v16 _ ⟨q16, d16, T16, rfl, C16, H16, F16, J16, rfl⟩
          obtain ⟨dj17_0, dj17_1⟩ : Dk g1 T16 ∧ Dj T14 T16 := by simpa only [dj_app_l, dj_app_r, dj_cons_l, dj_cons_r, dj_nil_l, dj_nil_r, dk_app, dk_cons, dk_nil, and_true, true_and, and_assoc] using (show Dj ((g1, .cells (frcC false 0 0) 34 (0, 0)) :: T14) T16 from J16)
          cases hd7 : (decide (b < 0)) with
          | false =>
            have h7 : ¬ (b < 0) := of_decide_eq_false hd7
            clear hd7
            refine Tw.lv (v := .tuple #[.agg (frcC (false && decide ((a.natAbs / Nat.gcd a.natAbs b.natAbs) ≠ 0)) (a.natAbs / Nat.gcd a.natAbs b.natAbs) (b.natAbs / Nat.gcd a.natAbs b.natAbs)), .int .i64 0]) rfl rfl (yb_call (f := 45) (args := #[.bool false, .slice q14 ((cd a.natAbs).length) d14, .slice q16 ((cd b.natAbs).length) d16]) (fun _ => by kernel_rfl) fun W hW => packV_yes (neg := false) (div_lt8 (y := Nat.gcd a.natAbs b.natAbs) la) (div_lt8 (y := Nat.gcd a.natAbs b.natAbs) lb) ▸ make0_any false a.natAbs b.natAbs q14 q16 d14 d16 hb0 (by omega) (by omega) C14 C16 W ((H14.mono (fun q hq => by first | exact hq | (simp only [List.mem_cons, List.mem_append, List.nil_append, List.not_mem_nil, or_assoc, or_false, false_or] at hq ⊢ <;> grind))) W hW) ((H16.mono (fun q hq => by first | exact hq | (simp only [List.mem_cons, List.mem_append, List.nil_append, List.not_mem_nil, or_assoc, or_false, false_or] at hq ⊢ <;> grind))) W hW)) ?_
            refine Tw.lm (v := .agg (frcC (false && decide ((a.natAbs / Nat.gcd a.natAbs b.natAbs) ≠ 0)) (a.natAbs / Nat.gcd a.natAbs b.natAbs) (b.natAbs / Nat.gcd a.natAbs b.natAbs))) rfl rfl ?_
            refine Tw.lm (v := .int .i64 0) rfl rfl ?_
            refine wpL_s ((g1, .cells (frcC (false && decide ((a.natAbs / Nat.gcd a.natAbs b.natAbs) ≠ 0)) (a.natAbs / Nat.gcd a.natAbs b.natAbs) (b.natAbs / Nat.gcd a.natAbs b.natAbs)) 34 (0, 0)) :: (T14 ++ T16)) rfl rfl (st_all (by simp only [frcC_size]) (by exact frc_onec) rfl (by kernel_rfl) (by kernel_rfl) (.head _) Bg1 (by simp only [frcC_size]; kernel_rfl) (List.forall_mem_cons.2 ⟨.inl rfl, (fun p hp => .inr ⟨(.tail _ hp), ((show Dk g1 (T14 ++ T16) from (by (try simp only [dj_app_l, dj_app_r, dj_cons_l, dj_cons_r, dj_nil_l, dj_nil_r, dk_app, dk_cons, dk_nil, and_true, true_and, and_assoc]); repeat' (first | trivial | assumption | exact Dj.symm (by assumption) | exact Ne.symm (by assumption) | apply And.intro))) _ hp)⟩)⟩)) ?_
            refine Tw.lm (v := .int .i64 0) rfl rfl ?_
            refine wpL_done (fun W7 hW7 => ?_)
            refine (show Code.wp _ _ _ _ _ from ?_)
            refine wp_ret ?_
            try simp only [inBlock_ret, then_ret]
            refine bodyPost_ret (v := .tuple #[.agg (frcC (false && decide ((a.natAbs / Nat.gcd a.natAbs b.natAbs) ≠ 0)) (a.natAbs / Nat.gcd a.natAbs b.natAbs) (b.natAbs / Nat.gcd a.natAbs b.natAbs)), .int .i64 0]) ?_ rfl ?_
            · exact (res_cell_tmp (p := 4) (q := 5) rfl rfl (hW7.2 _ (.head _)) Tryz.underlying34 rfl (by simp only [frcC_size]; kernel_rfl))
            · exact ⟨(ret_v (frc_same ((sgn_false (a := a) (b := b) (by omega) hb).trans hS.symm))), hW7.1⟩
          | true =>
            have h7 : b < 0 := of_decide_eq_true hd7
            clear hd7
            refine Tw.lv (v := .tuple #[.agg (frcC (true && decide ((a.natAbs / Nat.gcd a.natAbs b.natAbs) ≠ 0)) (a.natAbs / Nat.gcd a.natAbs b.natAbs) (b.natAbs / Nat.gcd a.natAbs b.natAbs)), .int .i64 0]) rfl rfl (yb_call (f := 45) (args := #[.bool true, .slice q14 ((cd a.natAbs).length) d14, .slice q16 ((cd b.natAbs).length) d16]) (fun _ => by kernel_rfl) fun W hW => packV_yes (neg := true) (div_lt8 (y := Nat.gcd a.natAbs b.natAbs) la) (div_lt8 (y := Nat.gcd a.natAbs b.natAbs) lb) ▸ make0_any true a.natAbs b.natAbs q14 q16 d14 d16 hb0 (by omega) (by omega) C14 C16 W ((H14.mono (fun q hq => by first | exact hq | (simp only [List.mem_cons, List.mem_append, List.nil_append, List.not_mem_nil, or_assoc, or_false, false_or] at hq ⊢ <;> grind))) W hW) ((H16.mono (fun q hq => by first | exact hq | (simp only [List.mem_cons, List.mem_append, List.nil_append, List.not_mem_nil, or_assoc, or_false, false_or] at hq ⊢ <;> grind))) W hW)) ?_
            refine Tw.lm (v := .agg (frcC (true && decide ((a.natAbs / Nat.gcd a.natAbs b.natAbs) ≠ 0)) (a.natAbs / Nat.gcd a.natAbs b.natAbs) (b.natAbs / Nat.gcd a.natAbs b.natAbs))) rfl rfl ?_
            refine Tw.lm (v := .int .i64 0) rfl rfl ?_
            refine wpL_s ((g1, .cells (frcC (true && decide ((a.natAbs / Nat.gcd a.natAbs b.natAbs) ≠ 0)) (a.natAbs / Nat.gcd a.natAbs b.natAbs) (b.natAbs / Nat.gcd a.natAbs b.natAbs)) 34 (0, 0)) :: (T14 ++ T16)) rfl rfl (st_all (by simp only [frcC_size]) (by exact frc_onec) rfl (by kernel_rfl) (by kernel_rfl) (.head _) Bg1 (by simp only [frcC_size]; kernel_rfl) (List.forall_mem_cons.2 ⟨.inl rfl, (fun p hp => .inr ⟨(.tail _ hp), ((show Dk g1 (T14 ++ T16) from (by (try simp only [dj_app_l, dj_app_r, dj_cons_l, dj_cons_r, dj_nil_l, dj_nil_r, dk_app, dk_cons, dk_nil, and_true, true_and, and_assoc]); repeat' (first | trivial | assumption | exact Dj.symm (by assumption) | exact Ne.symm (by assumption) | apply And.intro))) _ hp)⟩)⟩)) ?_
            refine Tw.lm (v := .int .i64 0) rfl rfl ?_
            refine wpL_done (fun W8 hW8 => ?_)
            refine (show Code.wp _ _ _ _ _ from ?_)
            refine wp_ret ?_
            try simp only [inBlock_ret, then_ret]
            refine bodyPost_ret (v := .tuple #[.agg (frcC (true && decide ((a.natAbs / Nat.gcd a.natAbs b.natAbs) ≠ 0)) (a.natAbs / Nat.gcd a.natAbs b.natAbs) (b.natAbs / Nat.gcd a.natAbs b.natAbs)), .int .i64 0]) ?_ rfl ?_
            · exact (res_cell_tmp (p := 4) (q := 5) rfl rfl (hW8.2 _ (.head _)) Tryz.underlying34 rfl (by simp only [frcC_size]; kernel_rfl))
            · exact ⟨(ret_v (frc_same ((sgn_true (a := a) (b := b) (by omega) hb).trans hS.symm))), hW8.1⟩
      | true =>
        have h5 : 0 < b := of_decide_eq_true hd5
        clear hd5
        refine Tw.ln rfl ?_
        refine Tw.ln rfl ?_
        refine Tw.ln rfl ?_
        refine Tw.ln rfl ?_
        refine Tw.ln rfl ?_
        refine Tw.ln rfl ?_
        refine Tw.lm (v := .bool true) rfl rfl ?_
        refine Tw.lm (v := .int .i64 a) rfl rfl ?_
        refine wpL_c (f := 78) (args := #[.int .i64 a]) (AnsG w [(g1, .cells (frcC false 0 0) 34 (0, 0))] (cd a.natAbs)) rfl (by kernel_rfl) (fun _ => (by kernel_rfl)) (fun W hW => (size_any a (by omega) (by omega) W).mono fun e w2 h => Ans.g h hW) (fun _ => by simp only [List.setIfInBounds_toArray, List.set_cons_succ, List.set_cons_zero] <;> rfl) ?_
        rintro v18 _ ⟨q18, d18, T18, rfl, C18, H18, F18, J18, rfl⟩
        obtain dj19_0 : Dk g1 T18 := by simpa only [dj_app_l, dj_app_r, dj_cons_l, dj_cons_r, dj_nil_l, dj_nil_r, dk_app, dk_cons, dk_nil, and_true, true_and, and_assoc] using (show Dj [(g1, .cells (frcC false 0 0) 34 (0, 0))] T18 from J18)
        refine Tw.lm (v := .int .i64 b) rfl rfl ?_
        refine wpL_c (f := 78) (args := #[.int .i64 b]) (AnsG w ((g1, .cells (frcC false 0 0) 34 (0, 0)) :: T18) (cd b.natAbs)) rfl (by kernel_rfl) (fun _ => (by kernel_rfl)) (fun W hW => (size_any b (by omega) (by omega) W).mono fun e w2 h => Ans.g h hW) (fun _ => by simp only [List.setIfInBounds_toArray, List.set_cons_succ, List.set_cons_zero] <;> rfl) ?_
        rintro v20 _ ⟨q20, d20, T20, rfl, C20, H20, F20, J20, rfl⟩
        obtain ⟨dj21_0, dj21_1⟩ : Dk g1 T20 ∧ Dj T18 T20 := by simpa only [dj_app_l, dj_app_r, dj_cons_l, dj_cons_r, dj_nil_l, dj_nil_r, dk_app, dk_cons, dk_nil, and_true, true_and, and_assoc] using (show Dj ((g1, .cells (frcC false 0 0) 34 (0, 0)) :: T18) T20 from J20)
        refine Tw.lv (v := .tuple #[.agg (frcC (true && decide ((a.natAbs / Nat.gcd a.natAbs b.natAbs) ≠ 0)) (a.natAbs / Nat.gcd a.natAbs b.natAbs) (b.natAbs / Nat.gcd a.natAbs b.natAbs)), .int .i64 0]) rfl rfl (yb_call (f := 45) (args := #[.bool true, .slice q18 ((cd a.natAbs).length) d18, .slice q20 ((cd b.natAbs).length) d20]) (fun _ => by kernel_rfl) fun W hW => packV_yes (neg := true) (div_lt8 (y := Nat.gcd a.natAbs b.natAbs) la) (div_lt8 (y := Nat.gcd a.natAbs b.natAbs) lb) ▸ make0_any true a.natAbs b.natAbs q18 q20 d18 d20 hb0 (by omega) (by omega) C18 C20 W ((H18.mono (fun q hq => by first | exact hq | (simp only [List.mem_cons, List.mem_append, List.nil_append, List.not_mem_nil, or_assoc, or_false, false_or] at hq ⊢ <;> grind))) W hW) ((H20.mono (fun q hq => by first | exact hq | (simp only [List.mem_cons, List.mem_append, List.nil_append, List.not_mem_nil, or_assoc, or_false, false_or] at hq ⊢ <;> grind))) W hW)) ?_
        refine Tw.lm (v := .agg (frcC (true && decide ((a.natAbs / Nat.gcd a.natAbs b.natAbs) ≠ 0)) (a.natAbs / Nat.gcd a.natAbs b.natAbs) (b.natAbs / Nat.gcd a.natAbs b.natAbs))) rfl rfl ?_
        refine Tw.lm (v := .int .i64 0) rfl rfl ?_
        refine wpL_s ((g1, .cells (frcC (true && decide ((a.natAbs / Nat.gcd a.natAbs b.natAbs) ≠ 0)) (a.natAbs / Nat.gcd a.natAbs b.natAbs) (b.natAbs / Nat.gcd a.natAbs b.natAbs)) 34 (0, 0)) :: (T18 ++ T20)) rfl rfl (st_all (by simp only [frcC_size]) (by exact frc_onec) rfl (by kernel_rfl) (by kernel_rfl) (.head _) Bg1 (by simp only [frcC_size]; kernel_rfl) (List.forall_mem_cons.2 ⟨.inl rfl, (fun p hp => .inr ⟨(.tail _ hp), ((show Dk g1 (T18 ++ T20) from (by (try simp only [dj_app_l, dj_app_r, dj_cons_l, dj_cons_r, dj_nil_l, dj_nil_r, dk_app, dk_cons, dk_nil, and_true, true_and, and_assoc]); repeat' (first | trivial | assumption | exact Dj.symm (by assumption) | exact Ne.symm (by assumption) | apply And.intro))) _ hp)⟩)⟩)) ?_
        refine Tw.lm (v := .int .i64 0) rfl rfl ?_
        refine wpL_done (fun W9 hW9 => ?_)
        refine (show Code.wp _ _ _ _ _ from ?_)
        refine wp_ret ?_
        try simp only [inBlock_ret, then_ret]
        refine bodyPost_ret (v := .tuple #[.agg (frcC (true && decide ((a.natAbs / Nat.gcd a.natAbs b.natAbs) ≠ 0)) (a.natAbs / Nat.gcd a.natAbs b.natAbs) (b.natAbs / Nat.gcd a.natAbs b.natAbs)), .int .i64 0]) ?_ rfl ?_
        · exact (res_cell_tmp (p := 4) (q := 5) rfl rfl (hW9.2 _ (.head _)) Tryz.underlying34 rfl (by simp only [frcC_size]; kernel_rfl))
        · exact ⟨(ret_v (frc_same ((sgn_true (a := a) (b := b) (by omega) hb).trans hS.symm))), hW9.1⟩
  | true =>
    have h1 : b = 0 := of_decide_eq_true hd1
    clear hd1
    exact absurd h1 hb
set_option maxRecDepth 100000 in
set_option maxHeartbeats 4000000 in
theorem ROf_any (n : Int) (h1 : -9223372036854775808 ≤ n) (h2 : n ≤ 9223372036854775807) (w : World) : Calls Tryz.prog 40 #[.int .i64 n] w fun e w' => e = .returned (.agg (frcC (decide (n < 0)) n.natAbs 1)) ∧ Below w.heap.size w w' := by
  go_enter Tryz.func40, Tryz.ntmps40
  refine wp_seq ?_
  refine wp_region_L (W0 := w) [] (KS.start w) ?_
  refine wpL_new (fun g => .pointer (some ⟨g, 0, none⟩)) (obi := .cells (frcC false 0 0) 34 (0, 0)) rfl rfl (fun _ => by kernel_rfl) (fun _ => by simp only [List.setIfInBounds_toArray, List.set_cons_succ, List.set_cons_zero] <;> rfl) fun g1 Bg1 Fg1 => ?_
  refine wpL_done (fun W1 hW1 => ?_)
  refine (show Code.wp _ _ _ _ _ from ?_)
  refine wp_seq ?_
  refine wp_region_L (W0 := w) [(g1, .cells (frcC false 0 0) 34 (0, 0))] (hW1) ?_
  refine Tw.lm (v := .int .i64 n) rfl rfl ?_
  refine Tw.lv (v := .tuple #[.agg (frcC (decide (n < 0)) n.natAbs 1), .int .i64 0]) rfl rfl (yb_call (f := 38) (args := #[.int .i64 n, .int .i64 1]) (fun _ => by kernel_rfl) fun W hW => of_ratio n ▸ RRatio_any n 1 h1 h2 (by omega) (by omega) (by omega) W) ?_
  refine Tw.lm (v := .tuple #[.agg (frcC (decide (n < 0)) n.natAbs 1), .int .i64 0]) rfl rfl ?_
  refine Tw.lm (v := .agg (frcC (decide (n < 0)) n.natAbs 1)) rfl rfl ?_
  refine Tw.lm (v := .int .i64 0) rfl rfl ?_
  refine wpL_new (fun g => .pointer (some ⟨g, 0, none⟩)) (obi := .cells (frcC false 0 0) 34 (0, 0)) rfl rfl (fun _ => by kernel_rfl) (fun _ => by simp only [List.setIfInBounds_toArray, List.set_cons_succ, List.set_cons_zero] <;> rfl) fun g2 Bg2 Fg2 => ?_
  obtain dj3_0 : g1 ≠ g2 := by simpa only [dj_app_l, dj_app_r, dj_cons_l, dj_cons_r, dj_nil_l, dj_nil_r, dk_app, dk_cons, dk_nil, and_true, true_and, and_assoc] using (show Dk g2 [(g1, .cells (frcC false 0 0) 34 (0, 0))] from Fg2)
  refine wpL_s [(g2, .cells (frcC (decide (n < 0)) n.natAbs 1) 34 (0, 0)), (g1, .cells (frcC false 0 0) 34 (0, 0))] rfl rfl (st_all (by simp only [frcC_size]) (by exact frc_onec) rfl (by kernel_rfl) (by kernel_rfl) (.head _) Bg2 (by simp only [frcC_size]; kernel_rfl) (List.forall_mem_cons.2 ⟨.inl rfl, (List.forall_mem_cons.2 ⟨.inr ⟨(.tail _ (.head _)), (by first | assumption | exact Ne.symm (by assumption))⟩, (List.forall_mem_nil _)⟩)⟩)) ?_
  refine Tw.lm (v := .int .i64 0) rfl rfl ?_
  refine wpL_done (fun W2 hW2 => ?_)
  refine (show Code.wp _ _ _ _ _ from ?_)
  refine wp_seq ?_
  refine wp_region_L (W0 := w) [(g2, .cells (frcC (decide (n < 0)) n.natAbs 1) 34 (0, 0)), (g1, .cells (frcC false 0 0) 34 (0, 0))] (hW2) ?_
  refine Tw.lv (v := .agg (frcC (decide (n < 0)) n.natAbs 1)) rfl rfl (yb_all rfl (by kernel_rfl) (.head _) Tryz.underlying34 rfl (by simp only [frcC_size]; kernel_rfl)) ?_
  refine wpL_s [(g2, .cells (frcC (decide (n < 0)) n.natAbs 1) 34 (0, 0)), (g1, .cells (frcC (decide (n < 0)) n.natAbs 1) 34 (0, 0))] rfl rfl (st_all (by simp only [frcC_size]) (by exact frc_onec) rfl (by kernel_rfl) (by kernel_rfl) (.tail _ (.head _)) Bg1 (by simp only [frcC_size]; kernel_rfl) (List.forall_mem_cons.2 ⟨.inr ⟨(.head _), (by first | assumption | exact Ne.symm (by assumption))⟩, (List.forall_mem_cons.2 ⟨.inl rfl, (List.forall_mem_nil _)⟩)⟩)) ?_
  refine wpL_done (fun W3 hW3 => ?_)
  refine (show Code.wp _ _ _ _ _ from ?_)
  refine wp_ret ?_
  try simp only [inBlock_ret, then_ret]
  refine bodyPost_ret (v := .agg (frcC (decide (n < 0)) n.natAbs 1)) ?_ rfl ?_
  · exact (res_cell (p := 2) rfl rfl (hW3.2 _ (.tail _ (.head _))) Tryz.underlying34 rfl (by simp only [frcC_size]; kernel_rfl))
  · exact ⟨rfl, hW3.1⟩
end Go.Proofs.YtalmflgkbmnghaaGreatDoor
