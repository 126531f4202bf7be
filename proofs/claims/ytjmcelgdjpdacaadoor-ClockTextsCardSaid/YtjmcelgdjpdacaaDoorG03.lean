import Derived.Test.YtjmcelgdjpdacaaDoorG01
/- Part of the proof: Jf, Jg, Jh. -/
set_option linter.unusedVariables false
set_option linter.unusedSimpArgs false
set_option linter.unusedSectionVars false
namespace Go.Proofs.YtjmcelgdjpdacaaDoor
open Go.RowKit Tw
open Go
structure TideR (F N D B A : Int) : Prop where
  f0 : 0 ≤ F
  f1 : F ≤ 100000000
  d1 : 1 ≤ D
  d2 : D ≤ 1000
  n2 : N ≤ 20160 * D
  b0 : 0 ≤ B
  b1 : B < 10080
  a0 : 0 ≤ A
  a1 : A < 10080
  l0 : 0 < B + A
  l1 : B + A < N.tdiv D
def highV (F N D k : Int) : Int := F + k * N / D
def firstV (F N D m : Int) : Int := if m - F + 1 ≤ 0 then 0 else ((m - F + 1) * D + N - 1) / N
theorem TideR.pos {F N D B A : Int} (h : TideR F N D B A) : D ≤ N ∧ 0 < N ∧ N ≤ 20160000 := by
  have hl := h.l1
  have h0 := h.l0
  have hd := h.d1
  have hn : 0 ≤ N := by
    refine Int.not_lt.1 fun hneg => ?_
    have : N.tdiv D ≤ 0 := by
      rw [show N = -(-N) from by omega, Int.neg_tdiv]
      have := Int.tdiv_nonneg (a := -N) (b := D) (by omega) (by omega)
      omega
    omega
  rw [Int.tdiv_eq_ediv_of_nonneg hn] at hl
  have h1 : 1 ≤ N / D := by omega
  have h2 : D * 1 ≤ D * (N / D) := Int.mul_le_mul_of_nonneg_left h1 (by omega)
  have h3 : D * (N / D) ≤ N := Int.mul_ediv_self_le (by omega)
  have := h.n2
  have := h.d2
  refine ⟨by omega, by omega, by omega⟩
theorem TideR.ndiv {F N D B A : Int} (h : TideR F N D B A) : B + A < N / D := by
  have hl := h.l1
  rwa [Int.tdiv_eq_ediv_of_nonneg (by have := h.pos; omega)] at hl
theorem mul_up {x D M : Int} (h : x / D ≤ M) (h1 : 1 ≤ D) (h2 : D ≤ 1000) (h3 : 0 ≤ M) : x < 1000 * (M + 1) := by
  have a := Int.lt_ediv_add_one_mul_self x (show 0 < D by omega)
  have b : (x / D + 1) * D ≤ (M + 1) * D := Int.mul_le_mul_of_nonneg_right (by omega) (by omega)
  have c : (M + 1) * D ≤ (M + 1) * 1000 := Int.mul_le_mul_of_nonneg_left h2 (by omega)
  omega
theorem TideR.next {F N D B A k : Int} (h : TideR F N D B A) : highV F N D k + 1 ≤ highV F N D (k + 1) := by
  unfold highV
  have h1 : (k * N + D) / D ≤ ((k + 1) * N) / D := Int.ediv_le_ediv (by have := h.d1; omega) (by rw [Int.add_mul]; have := h.pos; omega)
  have h2 : (k * N + D) / D = k * N / D + 1 := Int.add_ediv_of_dvd_right (Int.dvd_refl D) |>.trans (by rw [Int.ediv_self (by have := h.d1; omega)])
  omega
theorem TideR.k0 {F N D B A m : Int} (h : TideR F N D B A) (hm : m ≤ 100000000) : 0 ≤ firstV F N D m ∧ firstV F N D m * N ≤ 200000000000 := by
  unfold firstV
  have hp := h.pos
  have := h.d1
  have := h.d2
  split
  · omega
  · have ha : (m - F + 1) * D ≤ (m - F + 1) * 1000 := Int.mul_le_mul_of_nonneg_left h.d2 (by omega)
    have hb : 0 ≤ (m - F + 1) * D := Int.mul_nonneg (by omega) (by omega)
    have := h.f0
    refine ⟨Int.ediv_nonneg (by omega) (by omega), ?_⟩
    have := Int.ediv_mul_le ((m - F + 1) * D + N - 1) (show N ≠ 0 by omega)
    omega
theorem TideR.step {F N D B A k to_ : Int} (h : TideR F N D B A) (hk : 0 ≤ k) (ht : to_ ≤ 100000000) (hb : highV F N D k - B < to_) : (k + 1) * N ≤ 200000000000 := by
  unfold highV at hb
  have h0 := h.f0
  have h1 := h.b1
  have := mul_up (x := k * N) (D := D) (M := 100020000) (by omega) h.d1 h.d2 (by omega)
  have := h.pos
  rw [Int.add_mul]
  omega
theorem high_range {F N D B A k : Int} (h : TideR F N D B A) (hk : 0 ≤ k) (hb : k * N ≤ 200000000000) : 0 ≤ k * N ∧ 0 ≤ k * N / D ∧ k * N / D ≤ 200000000000 := by
  have hp := h.pos
  have h0 : 0 ≤ k * N := Int.mul_nonneg hk (by omega)
  refine ⟨h0, Int.ediv_nonneg h0 (by have := h.d1; omega), ?_⟩
  have := Int.ediv_le_self D h0
  omega
def windowsL (F N D B A from_ to_ : Int) : Nat → Int → List (Int × Int)
  | 0, _ => []
  | n + 1, k => if to_ ≤ highV F N D k - B then [] else (if min (highV F N D k + A) to_ ≤ max (highV F N D k - B) from_ then [] else [(max (highV F N D k - B) from_, min (highV F N D k + A) to_)]) ++ windowsL F N D B A from_ to_ n (k + 1)
def commonL : Nat → List (Int × Int) → List (Int × Int) → List (Int × Int)
  | 0, _, _ => []
  | _ + 1, [], _ => []
  | _ + 1, _ :: _, [] => []
  | n + 1, a :: l, b :: m => (if min a.2 b.2 ≤ max a.1 b.1 then [] else [(max a.1 b.1, min a.2 b.2)]) ++ (if a.2 < b.2 then commonL n l (b :: m) else commonL n (a :: l) m)
def tidal (F N D B A : Int) : Bool := isT F && decide (1 ≤ D) && decide (D ≤ 1000) && decide (N ≤ 20160 * D) && decide (0 ≤ B) && decide (B < 10080) && decide (0 ≤ A) && decide (A < 10080) && decide (0 < B + A) && decide (B + A < N.tdiv D)
theorem tidal_iff {F N D B A : Int} : tidal F N D B A = true ↔ TideR F N D B A := by
  unfold tidal isT
  simp only [Bool.and_eq_true, decide_eq_true_eq]
  constructor
  · rintro ⟨⟨⟨⟨⟨⟨⟨⟨⟨⟨h1, h2⟩, h3⟩, h4⟩, h5⟩, h6⟩, h7⟩, h8⟩, h9⟩, h10⟩, h11⟩
    exact ⟨h1, h2, h3, h4, h5, h6, h7, h8, h9, h10, h11⟩
  · rintro ⟨h1, h2, h3, h4, h5, h6, h7, h8, h9, h10, h11⟩
    exact ⟨⟨⟨⟨⟨⟨⟨⟨⟨⟨h1, h2⟩, h3⟩, h4⟩, h5⟩, h6⟩, h7⟩, h8⟩, h9⟩, h10⟩, h11⟩
theorem run_mulI {x y z : Int} (h : x * y = z) (hr : -9223372036854775808 ≤ z ∧ z ≤ 9223372036854775807) {px py : Operand} (w : World) : (do eqGuard .mul 3 px py (.int .i64 x) (.int .i64 y); binOp .mul 3 (.int .i64 x) (.int .i64 y) : Sem Value).run Tryd.prog w = .ok (.int .i64 z) w := by
  subst h; go_simp; exact wrap_in hr
theorem run_quoI {x y z : Int} (h : x.tdiv y = z) (hy : y ≠ 0) (hr : -9223372036854775808 ≤ z ∧ z ≤ 9223372036854775807) {px py : Operand} (w : World) : (do eqGuard .quo 3 px py (.int .i64 x) (.int .i64 y); binOp .quo 3 (.int .i64 x) (.int .i64 y) : Sem Value).run Tryd.prog w = .ok (.int .i64 z) w := by
  subst h; go_simp; exact wrap_in hr
theorem size_tide : (Tryd.prog.info? 28).map (·.size) = some 5 := by kernel_rfl
theorem tdiv_range {N D : Int} (h1 : 1 ≤ D) (hN : -9223372036854775808 ≤ N ∧ N ≤ 9223372036854775807) : -9223372036854775808 ≤ N.tdiv D ∧ N.tdiv D ≤ 9223372036854775807 := by
  by_cases h : 0 ≤ N
  · rw [Int.tdiv_eq_ediv_of_nonneg h]
    have := Int.ediv_le_self D h
    have := Int.ediv_nonneg h (show 0 ≤ D by omega)
    omega
  · rw [show N = -(-N) from by omega, Int.neg_tdiv, Int.tdiv_eq_ediv_of_nonneg (show 0 ≤ -N by omega)]
    have := Int.ediv_le_self D (show 0 ≤ -N by omega)
    have := Int.ediv_nonneg (show 0 ≤ -N by omega) (show 0 ≤ D by omega)
    omega
theorem TideR.small {F N D B A k : Int} (h : TideR F N D B A) (hb : k * N ≤ 200000000000) (hk : 0 ≤ k) : k ≤ 200000000000 := by
  have := h.pos
  have h1 : k * 1 ≤ k * N := Int.mul_le_mul_of_nonneg_left (by omega) hk
  omega
theorem TideR.ahead {F N D B A m : Int} (h : TideR F N D B A) (hm : m ≤ 100000000) (ha : 1 ≤ m - F + 1) : 0 ≤ (m - F + 1) * D ∧ (m - F + 1) * D ≤ 100000001000 := by
  have := h.f0
  have ha : (m - F + 1) * D ≤ (m - F + 1) * 1000 := Int.mul_le_mul_of_nonneg_left h.d2 (by omega)
  have hb : 0 ≤ (m - F + 1) * D := Int.mul_nonneg (by omega) (by have := h.d1; omega)
  omega
set_option maxRecDepth 100000 in
set_option maxHeartbeats 2000000 in
theorem Tidal_any (F N D B A : Int) (hN : -9223372036854775808 ≤ N ∧ N ≤ 9223372036854775807) (w : World) : Calls Tryd.prog 31 #[.agg #[.int .i64 F, .int .i64 N, .int .i64 D, .int .i64 B, .int .i64 A]] w fun e w' => e = .returned (.bool (tidal F N D B A)) ∧ Below w.heap.size w w' := by
  by_cases hF : isT F = true
  · by_cases h1 : 1 ≤ D
    · by_cases h2 : D ≤ 1000
      · by_cases h3 : N ≤ 20160 * D
        · by_cases h4 : 0 ≤ B
          · by_cases h5 : B < 10080
            · by_cases h6 : 0 ≤ A
              · by_cases h7 : A < 10080
                · by_cases h8 : 0 < B + A
                  · by_cases h9 : B + A < N.tdiv D
                    · have hit := fun W => isTime_any F W
                      rw [hF] at hit
                      have hr : tidal F N D B A = true := by unfold tidal; simp [hF, h1, h2, h3, h4, h5, h6, h7, h8, h9]
                      rw [hr]
                      go_enter Tryd.func31, Tryd.ntmps31
                      refine wp_seq ?_
                      refine wp_region_L (W0 := w) [] (KS.start w) ?_
                      refine wpL_new (fun g => .pointer (some ⟨g, 0, none⟩)) (obi := .cells #[.int .i64 F, .int .i64 N, .int .i64 D, .int .i64 B, .int .i64 A] 28 (0, 0)) rfl rfl (fun _ => by kernel_rfl) (fun _ => by simp only [List.setIfInBounds_toArray, List.set_cons_succ, List.set_cons_zero] <;> rfl) fun g1 Bg1 Fg1 => ?_
                      try simp only [List.forall_mem_cons] at Fg1
                      refine lm (v := .bool false) rfl rfl ?_
                      refine wpL_done (fun W1 hW1 => ?_)
                      refine (show Code.wp _ _ _ _ _ from ?_)
                      refine wp_seq ?_
                      refine wp_seq ?_
                      refine wp_region_L (W0 := w) [(g1, .cells #[.int .i64 F, .int .i64 N, .int .i64 D, .int .i64 B, .int .i64 A] 28 (0, 0))] (hW1) ?_
                      refine lm (v := .pointer (some ⟨g1, 0, none⟩)) rfl rfl ?_
                      refine lv (v := .int .i64 F) rfl rfl (yb_loadc (off := 0) rfl (by kernel_rfl) (.head _) Tryd.underlying3 rfl (by kernel_rfl)) ?_
                      refine lv (v := .bool true) rfl rfl (yb_call (f := 64) (args := #[.int .i64 F]) (fun _ => by kernel_rfl) fun W hW => hit W) ?_
                      refine lm (v := .bool false) rfl rfl ?_
                      refine lm (v := .bool false) rfl rfl ?_
                      refine lm (v := .pointer (some ⟨g1, 2, none⟩)) rfl rfl ?_
                      refine lv (v := .int .i64 D) rfl rfl (yb_loadc (off := 2) rfl (by kernel_rfl) (.head _) Tryd.underlying3 rfl (by kernel_rfl)) ?_
                      refine lp (v := .bool false) rfl rfl (run_bin rfl (vx := .int .i64 D) (vy := .int .i64 1) (by kernel_rfl) (by kernel_rfl) fun w => run_lssI (decide_eq_false (by omega)) w) ?_
                      refine lm (v := .bool false) rfl rfl ?_
                      refine lm (v := .bool false) rfl rfl ?_
                      refine lm (v := .pointer (some ⟨g1, 2, none⟩)) rfl rfl ?_
                      refine lv (v := .int .i64 D) rfl rfl (yb_loadc (off := 2) rfl (by kernel_rfl) (.head _) Tryd.underlying3 rfl (by kernel_rfl)) ?_
                      refine lp (v := .bool false) rfl rfl (run_bin rfl (vx := .int .i64 D) (vy := .int .i64 1000) (by kernel_rfl) (by kernel_rfl) fun w => run_gtrI (decide_eq_false (by omega)) w) ?_
                      refine lm (v := .bool false) rfl rfl ?_
                      refine lm (v := .bool false) rfl rfl ?_
                      refine lm (v := .pointer (some ⟨g1, 1, none⟩)) rfl rfl ?_
                      refine lv (v := .int .i64 N) rfl rfl (yb_loadc (off := 1) rfl (by kernel_rfl) (.head _) Tryd.underlying3 rfl (by kernel_rfl)) ?_
                      refine lm (v := .pointer (some ⟨g1, 2, none⟩)) rfl rfl ?_
                      refine lv (v := .int .i64 D) rfl rfl (yb_loadc (off := 2) rfl (by kernel_rfl) (.head _) Tryd.underlying3 rfl (by kernel_rfl)) ?_
                      refine lp (v := .int .i64 (20160 * D)) rfl rfl (run_bin rfl (vx := .int .i64 20160) (vy := .int .i64 D) (by kernel_rfl) (by kernel_rfl) fun w => run_mulI (z := (20160 * D)) rfl (by omega) w) ?_
                      refine lp (v := .bool false) rfl rfl (run_bin rfl (vx := .int .i64 N) (vy := .int .i64 (20160 * D)) (by kernel_rfl) (by kernel_rfl) fun w => run_gtrI (decide_eq_false (by omega)) w) ?_
                      refine lm (v := .bool false) rfl rfl ?_
                      refine wpL_done (fun W2 hW2 => ?_)
                      clear hW1
                      refine (show Code.wp _ _ _ _ _ from ?_)
                      refine wp_cond_false rfl ?_
                      refine wp_skip ?_
                      refine (show Code.wp _ _ _ _ _ from ?_)
                      refine wp_seq ?_
                      refine wp_seq ?_
                      refine wp_region_L (W0 := w) [(g1, .cells #[.int .i64 F, .int .i64 N, .int .i64 D, .int .i64 B, .int .i64 A] 28 (0, 0))] (hW2) ?_
                      refine lm (v := .pointer (some ⟨g1, 3, none⟩)) rfl rfl ?_
                      refine lv (v := .int .i64 B) rfl rfl (yb_loadc (off := 3) rfl (by kernel_rfl) (.head _) Tryd.underlying3 rfl (by kernel_rfl)) ?_
                      refine lp (v := .bool false) rfl rfl (run_bin rfl (vx := .int .i64 B) (vy := .int .i64 0) (by kernel_rfl) (by kernel_rfl) fun w => run_lssI (decide_eq_false (by omega)) w) ?_
                      refine lm (v := .bool false) rfl rfl ?_
                      refine lm (v := .pointer (some ⟨g1, 3, none⟩)) rfl rfl ?_
                      refine lv (v := .int .i64 B) rfl rfl (yb_loadc (off := 3) rfl (by kernel_rfl) (.head _) Tryd.underlying3 rfl (by kernel_rfl)) ?_
                      refine lp (v := .bool false) rfl rfl (run_bin rfl (vx := .int .i64 B) (vy := .int .i64 10080) (by kernel_rfl) (by kernel_rfl) fun w => run_geqI (decide_eq_false (by omega)) w) ?_
                      refine lm (v := .bool false) rfl rfl ?_
                      refine lm (v := .bool false) rfl rfl ?_
                      refine lm (v := .pointer (some ⟨g1, 4, none⟩)) rfl rfl ?_
                      refine lv (v := .int .i64 A) rfl rfl (yb_loadc (off := 4) rfl (by kernel_rfl) (.head _) Tryd.underlying3 rfl (by kernel_rfl)) ?_
                      refine lp (v := .bool false) rfl rfl (run_bin rfl (vx := .int .i64 A) (vy := .int .i64 0) (by kernel_rfl) (by kernel_rfl) fun w => run_lssI (decide_eq_false (by omega)) w) ?_
                      refine lm (v := .bool false) rfl rfl ?_
                      refine lm (v := .bool false) rfl rfl ?_
                      refine lm (v := .pointer (some ⟨g1, 4, none⟩)) rfl rfl ?_
                      refine lv (v := .int .i64 A) rfl rfl (yb_loadc (off := 4) rfl (by kernel_rfl) (.head _) Tryd.underlying3 rfl (by kernel_rfl)) ?_
                      refine lp (v := .bool false) rfl rfl (run_bin rfl (vx := .int .i64 A) (vy := .int .i64 10080) (by kernel_rfl) (by kernel_rfl) fun w => run_geqI (decide_eq_false (by omega)) w) ?_
                      refine lm (v := .bool false) rfl rfl ?_
                      refine wpL_done (fun W3 hW3 => ?_)
                      clear hW2
                      refine (show Code.wp _ _ _ _ _ from ?_)
                      refine wp_cond_false rfl ?_
                      refine wp_skip ?_
                      refine (show Code.wp _ _ _ _ _ from ?_)
                      refine wp_seq ?_
                      refine wp_region_L (W0 := w) [(g1, .cells #[.int .i64 F, .int .i64 N, .int .i64 D, .int .i64 B, .int .i64 A] 28 (0, 0))] (hW3) ?_
                      refine lm (v := .pointer (some ⟨g1, 3, none⟩)) rfl rfl ?_
                      refine lv (v := .int .i64 B) rfl rfl (yb_loadc (off := 3) rfl (by kernel_rfl) (.head _) Tryd.underlying3 rfl (by kernel_rfl)) ?_
                      refine lm (v := .pointer (some ⟨g1, 4, none⟩)) rfl rfl ?_
                      refine lv (v := .int .i64 A) rfl rfl (yb_loadc (off := 4) rfl (by kernel_rfl) (.head _) Tryd.underlying3 rfl (by kernel_rfl)) ?_
                      refine lp (v := .int .i64 (B + A)) rfl rfl (run_bin rfl (vx := .int .i64 B) (vy := .int .i64 A) (by kernel_rfl) (by kernel_rfl) fun w => run_addI (z := (B + A)) rfl (by omega) w) ?_
                      refine lm (v := .int .i64 (B + A)) rfl rfl ?_
                      refine wpL_done (fun W4 hW4 => ?_)
                      clear hW3
                      refine (show Code.wp _ _ _ _ _ from ?_)
                      refine wp_seq ?_
                      refine wp_region_L (W0 := w) [(g1, .cells #[.int .i64 F, .int .i64 N, .int .i64 D, .int .i64 B, .int .i64 A] 28 (0, 0))] (hW4) ?_
                      refine lm (v := .int .i64 (B + A)) rfl rfl ?_
                      refine lp (v := .bool true) rfl rfl (run_bin rfl (vx := .int .i64 (B + A)) (vy := .int .i64 0) (by kernel_rfl) (by kernel_rfl) fun w => run_gtrI (decide_eq_true h8) w) ?_
                      refine lm (v := .bool true) rfl rfl ?_
                      refine lm (v := .int .i64 (B + A)) rfl rfl ?_
                      refine lm (v := .pointer (some ⟨g1, 1, none⟩)) rfl rfl ?_
                      refine lv (v := .int .i64 N) rfl rfl (yb_loadc (off := 1) rfl (by kernel_rfl) (.head _) Tryd.underlying3 rfl (by kernel_rfl)) ?_
                      refine lm (v := .pointer (some ⟨g1, 2, none⟩)) rfl rfl ?_
                      refine lv (v := .int .i64 D) rfl rfl (yb_loadc (off := 2) rfl (by kernel_rfl) (.head _) Tryd.underlying3 rfl (by kernel_rfl)) ?_
                      refine lp (v := .int .i64 (N.tdiv D)) rfl rfl (run_bin rfl (vx := .int .i64 N) (vy := .int .i64 D) (by kernel_rfl) (by kernel_rfl) fun w => run_quoI (z := (N.tdiv D)) rfl (by omega) (tdiv_range h1 hN) w) ?_
                      refine lp (v := .bool true) rfl rfl (run_bin rfl (vx := .int .i64 (B + A)) (vy := .int .i64 (N.tdiv D)) (by kernel_rfl) (by kernel_rfl) fun w => run_lssI (decide_eq_true h9) w) ?_
                      refine lm (v := .bool true) rfl rfl ?_
                      refine lm (v := .bool true) rfl rfl ?_
                      refine wpL_done (fun W5 hW5 => ?_)
                      clear hW4
                      refine (show Code.wp _ _ _ _ _ from ?_)
                      refine wp_ret ?_
                      try simp only [inBlock_ret, then_ret]
                      go_ret
                      exact ⟨rfl, hW5.1⟩
                    · have hit := fun W => isTime_any F W
                      rw [hF] at hit
                      have hr : tidal F N D B A = false := by unfold tidal; simp [hF, h1, h2, h3, h4, h5, h6, h7, h8, h9]
                      rw [hr]
                      go_enter Tryd.func31, Tryd.ntmps31
                      refine wp_seq ?_
                      refine wp_region_L (W0 := w) [] (KS.start w) ?_
                      refine wpL_new (fun g => .pointer (some ⟨g, 0, none⟩)) (obi := .cells #[.int .i64 F, .int .i64 N, .int .i64 D, .int .i64 B, .int .i64 A] 28 (0, 0)) rfl rfl (fun _ => by kernel_rfl) (fun _ => by simp only [List.setIfInBounds_toArray, List.set_cons_succ, List.set_cons_zero] <;> rfl) fun g1 Bg1 Fg1 => ?_
                      try simp only [List.forall_mem_cons] at Fg1
                      refine lm (v := .bool false) rfl rfl ?_
                      refine wpL_done (fun W1 hW1 => ?_)
                      refine (show Code.wp _ _ _ _ _ from ?_)
                      refine wp_seq ?_
                      refine wp_seq ?_
                      refine wp_region_L (W0 := w) [(g1, .cells #[.int .i64 F, .int .i64 N, .int .i64 D, .int .i64 B, .int .i64 A] 28 (0, 0))] (hW1) ?_
                      refine lm (v := .pointer (some ⟨g1, 0, none⟩)) rfl rfl ?_
                      refine lv (v := .int .i64 F) rfl rfl (yb_loadc (off := 0) rfl (by kernel_rfl) (.head _) Tryd.underlying3 rfl (by kernel_rfl)) ?_
                      refine lv (v := .bool true) rfl rfl (yb_call (f := 64) (args := #[.int .i64 F]) (fun _ => by kernel_rfl) fun W hW => hit W) ?_
                      refine lm (v := .bool false) rfl rfl ?_
                      refine lm (v := .bool false) rfl rfl ?_
                      refine lm (v := .pointer (some ⟨g1, 2, none⟩)) rfl rfl ?_
                      refine lv (v := .int .i64 D) rfl rfl (yb_loadc (off := 2) rfl (by kernel_rfl) (.head _) Tryd.underlying3 rfl (by kernel_rfl)) ?_
                      refine lp (v := .bool false) rfl rfl (run_bin rfl (vx := .int .i64 D) (vy := .int .i64 1) (by kernel_rfl) (by kernel_rfl) fun w => run_lssI (decide_eq_false (by omega)) w) ?_
                      refine lm (v := .bool false) rfl rfl ?_
                      refine lm (v := .bool false) rfl rfl ?_
                      refine lm (v := .pointer (some ⟨g1, 2, none⟩)) rfl rfl ?_
                      refine lv (v := .int .i64 D) rfl rfl (yb_loadc (off := 2) rfl (by kernel_rfl) (.head _) Tryd.underlying3 rfl (by kernel_rfl)) ?_
                      refine lp (v := .bool false) rfl rfl (run_bin rfl (vx := .int .i64 D) (vy := .int .i64 1000) (by kernel_rfl) (by kernel_rfl) fun w => run_gtrI (decide_eq_false (by omega)) w) ?_
                      refine lm (v := .bool false) rfl rfl ?_
                      refine lm (v := .bool false) rfl rfl ?_
                      refine lm (v := .pointer (some ⟨g1, 1, none⟩)) rfl rfl ?_
                      refine lv (v := .int .i64 N) rfl rfl (yb_loadc (off := 1) rfl (by kernel_rfl) (.head _) Tryd.underlying3 rfl (by kernel_rfl)) ?_
                      refine lm (v := .pointer (some ⟨g1, 2, none⟩)) rfl rfl ?_
                      refine lv (v := .int .i64 D) rfl rfl (yb_loadc (off := 2) rfl (by kernel_rfl) (.head _) Tryd.underlying3 rfl (by kernel_rfl)) ?_
                      refine lp (v := .int .i64 (20160 * D)) rfl rfl (run_bin rfl (vx := .int .i64 20160) (vy := .int .i64 D) (by kernel_rfl) (by kernel_rfl) fun w => run_mulI (z := (20160 * D)) rfl (by omega) w) ?_
                      refine lp (v := .bool false) rfl rfl (run_bin rfl (vx := .int .i64 N) (vy := .int .i64 (20160 * D)) (by kernel_rfl) (by kernel_rfl) fun w => run_gtrI (decide_eq_false (by omega)) w) ?_
                      refine lm (v := .bool false) rfl rfl ?_
                      refine wpL_done (fun W2 hW2 => ?_)
                      clear hW1
                      refine (show Code.wp _ _ _ _ _ from ?_)
                      refine wp_cond_false rfl ?_
                      refine wp_skip ?_
                      refine (show Code.wp _ _ _ _ _ from ?_)
                      refine wp_seq ?_
                      refine wp_seq ?_
                      refine wp_region_L (W0 := w) [(g1, .cells #[.int .i64 F, .int .i64 N, .int .i64 D, .int .i64 B, .int .i64 A] 28 (0, 0))] (hW2) ?_
                      refine lm (v := .pointer (some ⟨g1, 3, none⟩)) rfl rfl ?_
                      refine lv (v := .int .i64 B) rfl rfl (yb_loadc (off := 3) rfl (by kernel_rfl) (.head _) Tryd.underlying3 rfl (by kernel_rfl)) ?_
                      refine lp (v := .bool false) rfl rfl (run_bin rfl (vx := .int .i64 B) (vy := .int .i64 0) (by kernel_rfl) (by kernel_rfl) fun w => run_lssI (decide_eq_false (by omega)) w) ?_
                      refine lm (v := .bool false) rfl rfl ?_
                      refine lm (v := .pointer (some ⟨g1, 3, none⟩)) rfl rfl ?_
                      refine lv (v := .int .i64 B) rfl rfl (yb_loadc (off := 3) rfl (by kernel_rfl) (.head _) Tryd.underlying3 rfl (by kernel_rfl)) ?_
                      refine lp (v := .bool false) rfl rfl (run_bin rfl (vx := .int .i64 B) (vy := .int .i64 10080) (by kernel_rfl) (by kernel_rfl) fun w => run_geqI (decide_eq_false (by omega)) w) ?_
                      refine lm (v := .bool false) rfl rfl ?_
                      refine lm (v := .bool false) rfl rfl ?_
                      refine lm (v := .pointer (some ⟨g1, 4, none⟩)) rfl rfl ?_
                      refine lv (v := .int .i64 A) rfl rfl (yb_loadc (off := 4) rfl (by kernel_rfl) (.head _) Tryd.underlying3 rfl (by kernel_rfl)) ?_
                      refine lp (v := .bool false) rfl rfl (run_bin rfl (vx := .int .i64 A) (vy := .int .i64 0) (by kernel_rfl) (by kernel_rfl) fun w => run_lssI (decide_eq_false (by omega)) w) ?_
                      refine lm (v := .bool false) rfl rfl ?_
                      refine lm (v := .bool false) rfl rfl ?_
                      refine lm (v := .pointer (some ⟨g1, 4, none⟩)) rfl rfl ?_
                      refine lv (v := .int .i64 A) rfl rfl (yb_loadc (off := 4) rfl (by kernel_rfl) (.head _) Tryd.underlying3 rfl (by kernel_rfl)) ?_
                      refine lp (v := .bool false) rfl rfl (run_bin rfl (vx := .int .i64 A) (vy := .int .i64 10080) (by kernel_rfl) (by kernel_rfl) fun w => run_geqI (decide_eq_false (by omega)) w) ?_
                      refine lm (v := .bool false) rfl rfl ?_
                      refine wpL_done (fun W3 hW3 => ?_)
                      clear hW2
                      refine (show Code.wp _ _ _ _ _ from ?_)
                      refine wp_cond_false rfl ?_
                      refine wp_skip ?_
                      refine (show Code.wp _ _ _ _ _ from ?_)
                      refine wp_seq ?_
                      refine wp_region_L (W0 := w) [(g1, .cells #[.int .i64 F, .int .i64 N, .int .i64 D, .int .i64 B, .int .i64 A] 28 (0, 0))] (hW3) ?_
                      refine lm (v := .pointer (some ⟨g1, 3, none⟩)) rfl rfl ?_
                      refine lv (v := .int .i64 B) rfl rfl (yb_loadc (off := 3) rfl (by kernel_rfl) (.head _) Tryd.underlying3 rfl (by kernel_rfl)) ?_
                      refine lm (v := .pointer (some ⟨g1, 4, none⟩)) rfl rfl ?_
                      refine lv (v := .int .i64 A) rfl rfl (yb_loadc (off := 4) rfl (by kernel_rfl) (.head _) Tryd.underlying3 rfl (by kernel_rfl)) ?_
                      refine lp (v := .int .i64 (B + A)) rfl rfl (run_bin rfl (vx := .int .i64 B) (vy := .int .i64 A) (by kernel_rfl) (by kernel_rfl) fun w => run_addI (z := (B + A)) rfl (by omega) w) ?_
                      refine lm (v := .int .i64 (B + A)) rfl rfl ?_
                      refine wpL_done (fun W4 hW4 => ?_)
                      clear hW3
                      refine (show Code.wp _ _ _ _ _ from ?_)
                      refine wp_seq ?_
                      refine wp_region_L (W0 := w) [(g1, .cells #[.int .i64 F, .int .i64 N, .int .i64 D, .int .i64 B, .int .i64 A] 28 (0, 0))] (hW4) ?_
                      refine lm (v := .int .i64 (B + A)) rfl rfl ?_
                      refine lp (v := .bool true) rfl rfl (run_bin rfl (vx := .int .i64 (B + A)) (vy := .int .i64 0) (by kernel_rfl) (by kernel_rfl) fun w => run_gtrI (decide_eq_true h8) w) ?_
                      refine lm (v := .bool true) rfl rfl ?_
                      refine lm (v := .int .i64 (B + A)) rfl rfl ?_
                      refine lm (v := .pointer (some ⟨g1, 1, none⟩)) rfl rfl ?_
                      refine lv (v := .int .i64 N) rfl rfl (yb_loadc (off := 1) rfl (by kernel_rfl) (.head _) Tryd.underlying3 rfl (by kernel_rfl)) ?_
                      refine lm (v := .pointer (some ⟨g1, 2, none⟩)) rfl rfl ?_
                      refine lv (v := .int .i64 D) rfl rfl (yb_loadc (off := 2) rfl (by kernel_rfl) (.head _) Tryd.underlying3 rfl (by kernel_rfl)) ?_
                      refine lp (v := .int .i64 (N.tdiv D)) rfl rfl (run_bin rfl (vx := .int .i64 N) (vy := .int .i64 D) (by kernel_rfl) (by kernel_rfl) fun w => run_quoI (z := (N.tdiv D)) rfl (by omega) (tdiv_range h1 hN) w) ?_
                      refine lp (v := .bool false) rfl rfl (run_bin rfl (vx := .int .i64 (B + A)) (vy := .int .i64 (N.tdiv D)) (by kernel_rfl) (by kernel_rfl) fun w => run_lssI (decide_eq_false h9) w) ?_
                      refine lm (v := .bool false) rfl rfl ?_
                      refine lm (v := .bool false) rfl rfl ?_
                      refine wpL_done (fun W5 hW5 => ?_)
                      clear hW4
                      refine (show Code.wp _ _ _ _ _ from ?_)
                      refine wp_ret ?_
                      try simp only [inBlock_ret, then_ret]
                      go_ret
                      exact ⟨rfl, hW5.1⟩
                  · have hit := fun W => isTime_any F W
                    rw [hF] at hit
                    have hr : tidal F N D B A = false := by unfold tidal; simp [hF, h1, h2, h3, h4, h5, h6, h7, h8]
                    rw [hr]
                    go_enter Tryd.func31, Tryd.ntmps31
                    refine wp_seq ?_
                    refine wp_region_L (W0 := w) [] (KS.start w) ?_
                    refine wpL_new (fun g => .pointer (some ⟨g, 0, none⟩)) (obi := .cells #[.int .i64 F, .int .i64 N, .int .i64 D, .int .i64 B, .int .i64 A] 28 (0, 0)) rfl rfl (fun _ => by kernel_rfl) (fun _ => by simp only [List.setIfInBounds_toArray, List.set_cons_succ, List.set_cons_zero] <;> rfl) fun g1 Bg1 Fg1 => ?_
                    try simp only [List.forall_mem_cons] at Fg1
                    refine lm (v := .bool false) rfl rfl ?_
                    refine wpL_done (fun W1 hW1 => ?_)
                    refine (show Code.wp _ _ _ _ _ from ?_)
                    refine wp_seq ?_
                    refine wp_seq ?_
                    refine wp_region_L (W0 := w) [(g1, .cells #[.int .i64 F, .int .i64 N, .int .i64 D, .int .i64 B, .int .i64 A] 28 (0, 0))] (hW1) ?_
                    refine lm (v := .pointer (some ⟨g1, 0, none⟩)) rfl rfl ?_
                    refine lv (v := .int .i64 F) rfl rfl (yb_loadc (off := 0) rfl (by kernel_rfl) (.head _) Tryd.underlying3 rfl (by kernel_rfl)) ?_
                    refine lv (v := .bool true) rfl rfl (yb_call (f := 64) (args := #[.int .i64 F]) (fun _ => by kernel_rfl) fun W hW => hit W) ?_
                    refine lm (v := .bool false) rfl rfl ?_
                    refine lm (v := .bool false) rfl rfl ?_
                    refine lm (v := .pointer (some ⟨g1, 2, none⟩)) rfl rfl ?_
                    refine lv (v := .int .i64 D) rfl rfl (yb_loadc (off := 2) rfl (by kernel_rfl) (.head _) Tryd.underlying3 rfl (by kernel_rfl)) ?_
                    refine lp (v := .bool false) rfl rfl (run_bin rfl (vx := .int .i64 D) (vy := .int .i64 1) (by kernel_rfl) (by kernel_rfl) fun w => run_lssI (decide_eq_false (by omega)) w) ?_
                    refine lm (v := .bool false) rfl rfl ?_
                    refine lm (v := .bool false) rfl rfl ?_
                    refine lm (v := .pointer (some ⟨g1, 2, none⟩)) rfl rfl ?_
                    refine lv (v := .int .i64 D) rfl rfl (yb_loadc (off := 2) rfl (by kernel_rfl) (.head _) Tryd.underlying3 rfl (by kernel_rfl)) ?_
                    refine lp (v := .bool false) rfl rfl (run_bin rfl (vx := .int .i64 D) (vy := .int .i64 1000) (by kernel_rfl) (by kernel_rfl) fun w => run_gtrI (decide_eq_false (by omega)) w) ?_
                    refine lm (v := .bool false) rfl rfl ?_
                    refine lm (v := .bool false) rfl rfl ?_
                    refine lm (v := .pointer (some ⟨g1, 1, none⟩)) rfl rfl ?_
                    refine lv (v := .int .i64 N) rfl rfl (yb_loadc (off := 1) rfl (by kernel_rfl) (.head _) Tryd.underlying3 rfl (by kernel_rfl)) ?_
                    refine lm (v := .pointer (some ⟨g1, 2, none⟩)) rfl rfl ?_
                    refine lv (v := .int .i64 D) rfl rfl (yb_loadc (off := 2) rfl (by kernel_rfl) (.head _) Tryd.underlying3 rfl (by kernel_rfl)) ?_
                    refine lp (v := .int .i64 (20160 * D)) rfl rfl (run_bin rfl (vx := .int .i64 20160) (vy := .int .i64 D) (by kernel_rfl) (by kernel_rfl) fun w => run_mulI (z := (20160 * D)) rfl (by omega) w) ?_
                    refine lp (v := .bool false) rfl rfl (run_bin rfl (vx := .int .i64 N) (vy := .int .i64 (20160 * D)) (by kernel_rfl) (by kernel_rfl) fun w => run_gtrI (decide_eq_false (by omega)) w) ?_
                    refine lm (v := .bool false) rfl rfl ?_
                    refine wpL_done (fun W2 hW2 => ?_)
                    clear hW1
                    refine (show Code.wp _ _ _ _ _ from ?_)
                    refine wp_cond_false rfl ?_
                    refine wp_skip ?_
                    refine (show Code.wp _ _ _ _ _ from ?_)
                    refine wp_seq ?_
                    refine wp_seq ?_
                    refine wp_region_L (W0 := w) [(g1, .cells #[.int .i64 F, .int .i64 N, .int .i64 D, .int .i64 B, .int .i64 A] 28 (0, 0))] (hW2) ?_
                    refine lm (v := .pointer (some ⟨g1, 3, none⟩)) rfl rfl ?_
                    refine lv (v := .int .i64 B) rfl rfl (yb_loadc (off := 3) rfl (by kernel_rfl) (.head _) Tryd.underlying3 rfl (by kernel_rfl)) ?_
                    refine lp (v := .bool false) rfl rfl (run_bin rfl (vx := .int .i64 B) (vy := .int .i64 0) (by kernel_rfl) (by kernel_rfl) fun w => run_lssI (decide_eq_false (by omega)) w) ?_
                    refine lm (v := .bool false) rfl rfl ?_
                    refine lm (v := .pointer (some ⟨g1, 3, none⟩)) rfl rfl ?_
                    refine lv (v := .int .i64 B) rfl rfl (yb_loadc (off := 3) rfl (by kernel_rfl) (.head _) Tryd.underlying3 rfl (by kernel_rfl)) ?_
                    refine lp (v := .bool false) rfl rfl (run_bin rfl (vx := .int .i64 B) (vy := .int .i64 10080) (by kernel_rfl) (by kernel_rfl) fun w => run_geqI (decide_eq_false (by omega)) w) ?_
                    refine lm (v := .bool false) rfl rfl ?_
                    refine lm (v := .bool false) rfl rfl ?_
                    refine lm (v := .pointer (some ⟨g1, 4, none⟩)) rfl rfl ?_
                    refine lv (v := .int .i64 A) rfl rfl (yb_loadc (off := 4) rfl (by kernel_rfl) (.head _) Tryd.underlying3 rfl (by kernel_rfl)) ?_
                    refine lp (v := .bool false) rfl rfl (run_bin rfl (vx := .int .i64 A) (vy := .int .i64 0) (by kernel_rfl) (by kernel_rfl) fun w => run_lssI (decide_eq_false (by omega)) w) ?_
                    refine lm (v := .bool false) rfl rfl ?_
                    refine lm (v := .bool false) rfl rfl ?_
                    refine lm (v := .pointer (some ⟨g1, 4, none⟩)) rfl rfl ?_
                    refine lv (v := .int .i64 A) rfl rfl (yb_loadc (off := 4) rfl (by kernel_rfl) (.head _) Tryd.underlying3 rfl (by kernel_rfl)) ?_
                    refine lp (v := .bool false) rfl rfl (run_bin rfl (vx := .int .i64 A) (vy := .int .i64 10080) (by kernel_rfl) (by kernel_rfl) fun w => run_geqI (decide_eq_false (by omega)) w) ?_
                    refine lm (v := .bool false) rfl rfl ?_
                    refine wpL_done (fun W3 hW3 => ?_)
                    clear hW2
                    refine (show Code.wp _ _ _ _ _ from ?_)
                    refine wp_cond_false rfl ?_
                    refine wp_skip ?_
                    refine (show Code.wp _ _ _ _ _ from ?_)
                    refine wp_seq ?_
                    refine wp_region_L (W0 := w) [(g1, .cells #[.int .i64 F, .int .i64 N, .int .i64 D, .int .i64 B, .int .i64 A] 28 (0, 0))] (hW3) ?_
                    refine lm (v := .pointer (some ⟨g1, 3, none⟩)) rfl rfl ?_
                    refine lv (v := .int .i64 B) rfl rfl (yb_loadc (off := 3) rfl (by kernel_rfl) (.head _) Tryd.underlying3 rfl (by kernel_rfl)) ?_
                    refine lm (v := .pointer (some ⟨g1, 4, none⟩)) rfl rfl ?_
                    refine lv (v := .int .i64 A) rfl rfl (yb_loadc (off := 4) rfl (by kernel_rfl) (.head _) Tryd.underlying3 rfl (by kernel_rfl)) ?_
                    refine lp (v := .int .i64 (B + A)) rfl rfl (run_bin rfl (vx := .int .i64 B) (vy := .int .i64 A) (by kernel_rfl) (by kernel_rfl) fun w => run_addI (z := (B + A)) rfl (by omega) w) ?_
                    refine lm (v := .int .i64 (B + A)) rfl rfl ?_
                    refine wpL_done (fun W4 hW4 => ?_)
                    clear hW3
                    refine (show Code.wp _ _ _ _ _ from ?_)
                    refine wp_seq ?_
                    refine wp_region_L (W0 := w) [(g1, .cells #[.int .i64 F, .int .i64 N, .int .i64 D, .int .i64 B, .int .i64 A] 28 (0, 0))] (hW4) ?_
                    refine lm (v := .int .i64 (B + A)) rfl rfl ?_
                    refine lp (v := .bool false) rfl rfl (run_bin rfl (vx := .int .i64 (B + A)) (vy := .int .i64 0) (by kernel_rfl) (by kernel_rfl) fun w => run_gtrI (decide_eq_false h8) w) ?_
                    refine lm (v := .bool false) rfl rfl ?_
                    refine ln rfl ?_
                    refine ln rfl ?_
                    refine ln rfl ?_
                    refine ln rfl ?_
                    refine ln rfl ?_
                    refine ln rfl ?_
                    refine ln rfl ?_
                    refine lm (v := .bool false) rfl rfl ?_
                    refine lm (v := .bool false) rfl rfl ?_
                    refine wpL_done (fun W5 hW5 => ?_)
                    clear hW4
                    refine (show Code.wp _ _ _ _ _ from ?_)
                    refine wp_ret ?_
                    try simp only [inBlock_ret, then_ret]
                    go_ret
                    exact ⟨rfl, hW5.1⟩
                · have hit := fun W => isTime_any F W
                  rw [hF] at hit
                  have hr : tidal F N D B A = false := by unfold tidal; simp [hF, h1, h2, h3, h4, h5, h6, h7]
                  rw [hr]
                  go_enter Tryd.func31, Tryd.ntmps31
                  refine wp_seq ?_
                  refine wp_region_L (W0 := w) [] (KS.start w) ?_
                  refine wpL_new (fun g => .pointer (some ⟨g, 0, none⟩)) (obi := .cells #[.int .i64 F, .int .i64 N, .int .i64 D, .int .i64 B, .int .i64 A] 28 (0, 0)) rfl rfl (fun _ => by kernel_rfl) (fun _ => by simp only [List.setIfInBounds_toArray, List.set_cons_succ, List.set_cons_zero] <;> rfl) fun g1 Bg1 Fg1 => ?_
                  try simp only [List.forall_mem_cons] at Fg1
                  refine lm (v := .bool false) rfl rfl ?_
                  refine wpL_done (fun W1 hW1 => ?_)
                  refine (show Code.wp _ _ _ _ _ from ?_)
                  refine wp_seq ?_
                  refine wp_seq ?_
                  refine wp_region_L (W0 := w) [(g1, .cells #[.int .i64 F, .int .i64 N, .int .i64 D, .int .i64 B, .int .i64 A] 28 (0, 0))] (hW1) ?_
                  refine lm (v := .pointer (some ⟨g1, 0, none⟩)) rfl rfl ?_
                  refine lv (v := .int .i64 F) rfl rfl (yb_loadc (off := 0) rfl (by kernel_rfl) (.head _) Tryd.underlying3 rfl (by kernel_rfl)) ?_
                  refine lv (v := .bool true) rfl rfl (yb_call (f := 64) (args := #[.int .i64 F]) (fun _ => by kernel_rfl) fun W hW => hit W) ?_
                  refine lm (v := .bool false) rfl rfl ?_
                  refine lm (v := .bool false) rfl rfl ?_
                  refine lm (v := .pointer (some ⟨g1, 2, none⟩)) rfl rfl ?_
                  refine lv (v := .int .i64 D) rfl rfl (yb_loadc (off := 2) rfl (by kernel_rfl) (.head _) Tryd.underlying3 rfl (by kernel_rfl)) ?_
                  refine lp (v := .bool false) rfl rfl (run_bin rfl (vx := .int .i64 D) (vy := .int .i64 1) (by kernel_rfl) (by kernel_rfl) fun w => run_lssI (decide_eq_false (by omega)) w) ?_
                  refine lm (v := .bool false) rfl rfl ?_
                  refine lm (v := .bool false) rfl rfl ?_
                  refine lm (v := .pointer (some ⟨g1, 2, none⟩)) rfl rfl ?_
                  refine lv (v := .int .i64 D) rfl rfl (yb_loadc (off := 2) rfl (by kernel_rfl) (.head _) Tryd.underlying3 rfl (by kernel_rfl)) ?_
                  refine lp (v := .bool false) rfl rfl (run_bin rfl (vx := .int .i64 D) (vy := .int .i64 1000) (by kernel_rfl) (by kernel_rfl) fun w => run_gtrI (decide_eq_false (by omega)) w) ?_
                  refine lm (v := .bool false) rfl rfl ?_
                  refine lm (v := .bool false) rfl rfl ?_
                  refine lm (v := .pointer (some ⟨g1, 1, none⟩)) rfl rfl ?_
                  refine lv (v := .int .i64 N) rfl rfl (yb_loadc (off := 1) rfl (by kernel_rfl) (.head _) Tryd.underlying3 rfl (by kernel_rfl)) ?_
                  refine lm (v := .pointer (some ⟨g1, 2, none⟩)) rfl rfl ?_
                  refine lv (v := .int .i64 D) rfl rfl (yb_loadc (off := 2) rfl (by kernel_rfl) (.head _) Tryd.underlying3 rfl (by kernel_rfl)) ?_
                  refine lp (v := .int .i64 (20160 * D)) rfl rfl (run_bin rfl (vx := .int .i64 20160) (vy := .int .i64 D) (by kernel_rfl) (by kernel_rfl) fun w => run_mulI (z := (20160 * D)) rfl (by omega) w) ?_
                  refine lp (v := .bool false) rfl rfl (run_bin rfl (vx := .int .i64 N) (vy := .int .i64 (20160 * D)) (by kernel_rfl) (by kernel_rfl) fun w => run_gtrI (decide_eq_false (by omega)) w) ?_
                  refine lm (v := .bool false) rfl rfl ?_
                  refine wpL_done (fun W2 hW2 => ?_)
                  clear hW1
                  refine (show Code.wp _ _ _ _ _ from ?_)
                  refine wp_cond_false rfl ?_
                  refine wp_skip ?_
                  refine (show Code.wp _ _ _ _ _ from ?_)
                  refine wp_seq ?_
                  refine wp_seq ?_
                  refine wp_region_L (W0 := w) [(g1, .cells #[.int .i64 F, .int .i64 N, .int .i64 D, .int .i64 B, .int .i64 A] 28 (0, 0))] (hW2) ?_
                  refine lm (v := .pointer (some ⟨g1, 3, none⟩)) rfl rfl ?_
                  refine lv (v := .int .i64 B) rfl rfl (yb_loadc (off := 3) rfl (by kernel_rfl) (.head _) Tryd.underlying3 rfl (by kernel_rfl)) ?_
                  refine lp (v := .bool false) rfl rfl (run_bin rfl (vx := .int .i64 B) (vy := .int .i64 0) (by kernel_rfl) (by kernel_rfl) fun w => run_lssI (decide_eq_false (by omega)) w) ?_
                  refine lm (v := .bool false) rfl rfl ?_
                  refine lm (v := .pointer (some ⟨g1, 3, none⟩)) rfl rfl ?_
                  refine lv (v := .int .i64 B) rfl rfl (yb_loadc (off := 3) rfl (by kernel_rfl) (.head _) Tryd.underlying3 rfl (by kernel_rfl)) ?_
                  refine lp (v := .bool false) rfl rfl (run_bin rfl (vx := .int .i64 B) (vy := .int .i64 10080) (by kernel_rfl) (by kernel_rfl) fun w => run_geqI (decide_eq_false (by omega)) w) ?_
                  refine lm (v := .bool false) rfl rfl ?_
                  refine lm (v := .bool false) rfl rfl ?_
                  refine lm (v := .pointer (some ⟨g1, 4, none⟩)) rfl rfl ?_
                  refine lv (v := .int .i64 A) rfl rfl (yb_loadc (off := 4) rfl (by kernel_rfl) (.head _) Tryd.underlying3 rfl (by kernel_rfl)) ?_
                  refine lp (v := .bool false) rfl rfl (run_bin rfl (vx := .int .i64 A) (vy := .int .i64 0) (by kernel_rfl) (by kernel_rfl) fun w => run_lssI (decide_eq_false (by omega)) w) ?_
                  refine lm (v := .bool false) rfl rfl ?_
                  refine lm (v := .bool false) rfl rfl ?_
                  refine lm (v := .pointer (some ⟨g1, 4, none⟩)) rfl rfl ?_
                  refine lv (v := .int .i64 A) rfl rfl (yb_loadc (off := 4) rfl (by kernel_rfl) (.head _) Tryd.underlying3 rfl (by kernel_rfl)) ?_
                  refine lp (v := .bool true) rfl rfl (run_bin rfl (vx := .int .i64 A) (vy := .int .i64 10080) (by kernel_rfl) (by kernel_rfl) fun w => run_geqI (decide_eq_true (by omega)) w) ?_
                  refine lm (v := .bool true) rfl rfl ?_
                  refine wpL_done (fun W3 hW3 => ?_)
                  clear hW2
                  refine (show Code.wp _ _ _ _ _ from ?_)
                  refine wp_cond_true rfl ?_
                  refine wp_seq ?_
                  refine wp_region_L (W0 := w) [(g1, .cells #[.int .i64 F, .int .i64 N, .int .i64 D, .int .i64 B, .int .i64 A] 28 (0, 0))] (hW3) ?_
                  refine lm (v := .bool false) rfl rfl ?_
                  refine wpL_done (fun W4 hW4 => ?_)
                  clear hW3
                  refine (show Code.wp _ _ _ _ _ from ?_)
                  refine wp_ret ?_
                  try simp only [inBlock_ret, then_ret]
                  go_ret
                  exact ⟨rfl, hW4.1⟩
              · have hit := fun W => isTime_any F W
                rw [hF] at hit
                have hr : tidal F N D B A = false := by unfold tidal; simp [hF, h1, h2, h3, h4, h5, h6]
                rw [hr]
                go_enter Tryd.func31, Tryd.ntmps31
                refine wp_seq ?_
                refine wp_region_L (W0 := w) [] (KS.start w) ?_
                refine wpL_new (fun g => .pointer (some ⟨g, 0, none⟩)) (obi := .cells #[.int .i64 F, .int .i64 N, .int .i64 D, .int .i64 B, .int .i64 A] 28 (0, 0)) rfl rfl (fun _ => by kernel_rfl) (fun _ => by simp only [List.setIfInBounds_toArray, List.set_cons_succ, List.set_cons_zero] <;> rfl) fun g1 Bg1 Fg1 => ?_
                try simp only [List.forall_mem_cons] at Fg1
                refine lm (v := .bool false) rfl rfl ?_
                refine wpL_done (fun W1 hW1 => ?_)
                refine (show Code.wp _ _ _ _ _ from ?_)
                refine wp_seq ?_
                refine wp_seq ?_
                refine wp_region_L (W0 := w) [(g1, .cells #[.int .i64 F, .int .i64 N, .int .i64 D, .int .i64 B, .int .i64 A] 28 (0, 0))] (hW1) ?_
                refine lm (v := .pointer (some ⟨g1, 0, none⟩)) rfl rfl ?_
                refine lv (v := .int .i64 F) rfl rfl (yb_loadc (off := 0) rfl (by kernel_rfl) (.head _) Tryd.underlying3 rfl (by kernel_rfl)) ?_
                refine lv (v := .bool true) rfl rfl (yb_call (f := 64) (args := #[.int .i64 F]) (fun _ => by kernel_rfl) fun W hW => hit W) ?_
                refine lm (v := .bool false) rfl rfl ?_
                refine lm (v := .bool false) rfl rfl ?_
                refine lm (v := .pointer (some ⟨g1, 2, none⟩)) rfl rfl ?_
                refine lv (v := .int .i64 D) rfl rfl (yb_loadc (off := 2) rfl (by kernel_rfl) (.head _) Tryd.underlying3 rfl (by kernel_rfl)) ?_
                refine lp (v := .bool false) rfl rfl (run_bin rfl (vx := .int .i64 D) (vy := .int .i64 1) (by kernel_rfl) (by kernel_rfl) fun w => run_lssI (decide_eq_false (by omega)) w) ?_
                refine lm (v := .bool false) rfl rfl ?_
                refine lm (v := .bool false) rfl rfl ?_
                refine lm (v := .pointer (some ⟨g1, 2, none⟩)) rfl rfl ?_
                refine lv (v := .int .i64 D) rfl rfl (yb_loadc (off := 2) rfl (by kernel_rfl) (.head _) Tryd.underlying3 rfl (by kernel_rfl)) ?_
                refine lp (v := .bool false) rfl rfl (run_bin rfl (vx := .int .i64 D) (vy := .int .i64 1000) (by kernel_rfl) (by kernel_rfl) fun w => run_gtrI (decide_eq_false (by omega)) w) ?_
                refine lm (v := .bool false) rfl rfl ?_
                refine lm (v := .bool false) rfl rfl ?_
                refine lm (v := .pointer (some ⟨g1, 1, none⟩)) rfl rfl ?_
                refine lv (v := .int .i64 N) rfl rfl (yb_loadc (off := 1) rfl (by kernel_rfl) (.head _) Tryd.underlying3 rfl (by kernel_rfl)) ?_
                refine lm (v := .pointer (some ⟨g1, 2, none⟩)) rfl rfl ?_
                refine lv (v := .int .i64 D) rfl rfl (yb_loadc (off := 2) rfl (by kernel_rfl) (.head _) Tryd.underlying3 rfl (by kernel_rfl)) ?_
                refine lp (v := .int .i64 (20160 * D)) rfl rfl (run_bin rfl (vx := .int .i64 20160) (vy := .int .i64 D) (by kernel_rfl) (by kernel_rfl) fun w => run_mulI (z := (20160 * D)) rfl (by omega) w) ?_
                refine lp (v := .bool false) rfl rfl (run_bin rfl (vx := .int .i64 N) (vy := .int .i64 (20160 * D)) (by kernel_rfl) (by kernel_rfl) fun w => run_gtrI (decide_eq_false (by omega)) w) ?_
                refine lm (v := .bool false) rfl rfl ?_
                refine wpL_done (fun W2 hW2 => ?_)
                clear hW1
                refine (show Code.wp _ _ _ _ _ from ?_)
                refine wp_cond_false rfl ?_
                refine wp_skip ?_
                refine (show Code.wp _ _ _ _ _ from ?_)
                refine wp_seq ?_
                refine wp_seq ?_
                refine wp_region_L (W0 := w) [(g1, .cells #[.int .i64 F, .int .i64 N, .int .i64 D, .int .i64 B, .int .i64 A] 28 (0, 0))] (hW2) ?_
                refine lm (v := .pointer (some ⟨g1, 3, none⟩)) rfl rfl ?_
                refine lv (v := .int .i64 B) rfl rfl (yb_loadc (off := 3) rfl (by kernel_rfl) (.head _) Tryd.underlying3 rfl (by kernel_rfl)) ?_
                refine lp (v := .bool false) rfl rfl (run_bin rfl (vx := .int .i64 B) (vy := .int .i64 0) (by kernel_rfl) (by kernel_rfl) fun w => run_lssI (decide_eq_false (by omega)) w) ?_
                refine lm (v := .bool false) rfl rfl ?_
                refine lm (v := .pointer (some ⟨g1, 3, none⟩)) rfl rfl ?_
                refine lv (v := .int .i64 B) rfl rfl (yb_loadc (off := 3) rfl (by kernel_rfl) (.head _) Tryd.underlying3 rfl (by kernel_rfl)) ?_
                refine lp (v := .bool false) rfl rfl (run_bin rfl (vx := .int .i64 B) (vy := .int .i64 10080) (by kernel_rfl) (by kernel_rfl) fun w => run_geqI (decide_eq_false (by omega)) w) ?_
                refine lm (v := .bool false) rfl rfl ?_
                refine lm (v := .bool false) rfl rfl ?_
                refine lm (v := .pointer (some ⟨g1, 4, none⟩)) rfl rfl ?_
                refine lv (v := .int .i64 A) rfl rfl (yb_loadc (off := 4) rfl (by kernel_rfl) (.head _) Tryd.underlying3 rfl (by kernel_rfl)) ?_
                refine lp (v := .bool true) rfl rfl (run_bin rfl (vx := .int .i64 A) (vy := .int .i64 0) (by kernel_rfl) (by kernel_rfl) fun w => run_lssI (decide_eq_true (by omega)) w) ?_
                refine lm (v := .bool true) rfl rfl ?_
                refine lm (v := .bool true) rfl rfl ?_
                refine ln rfl ?_
                refine ln rfl ?_
                refine ln rfl ?_
                refine lm (v := .bool true) rfl rfl ?_
                refine wpL_done (fun W3 hW3 => ?_)
                clear hW2
                refine (show Code.wp _ _ _ _ _ from ?_)
                refine wp_cond_true rfl ?_
                refine wp_seq ?_
                refine wp_region_L (W0 := w) [(g1, .cells #[.int .i64 F, .int .i64 N, .int .i64 D, .int .i64 B, .int .i64 A] 28 (0, 0))] (hW3) ?_
                refine lm (v := .bool false) rfl rfl ?_
                refine wpL_done (fun W4 hW4 => ?_)
                clear hW3
                refine (show Code.wp _ _ _ _ _ from ?_)
                refine wp_ret ?_
                try simp only [inBlock_ret, then_ret]
                go_ret
                exact ⟨rfl, hW4.1⟩
            · have hit := fun W => isTime_any F W
              rw [hF] at hit
              have hr : tidal F N D B A = false := by unfold tidal; simp [hF, h1, h2, h3, h4, h5]
              rw [hr]
              go_enter Tryd.func31, Tryd.ntmps31
              refine wp_seq ?_
              refine wp_region_L (W0 := w) [] (KS.start w) ?_
              refine wpL_new (fun g => .pointer (some ⟨g, 0, none⟩)) (obi := .cells #[.int .i64 F, .int .i64 N, .int .i64 D, .int .i64 B, .int .i64 A] 28 (0, 0)) rfl rfl (fun _ => by kernel_rfl) (fun _ => by simp only [List.setIfInBounds_toArray, List.set_cons_succ, List.set_cons_zero] <;> rfl) fun g1 Bg1 Fg1 => ?_
              try simp only [List.forall_mem_cons] at Fg1
              refine lm (v := .bool false) rfl rfl ?_
              refine wpL_done (fun W1 hW1 => ?_)
              refine (show Code.wp _ _ _ _ _ from ?_)
              refine wp_seq ?_
              refine wp_seq ?_
              refine wp_region_L (W0 := w) [(g1, .cells #[.int .i64 F, .int .i64 N, .int .i64 D, .int .i64 B, .int .i64 A] 28 (0, 0))] (hW1) ?_
              refine lm (v := .pointer (some ⟨g1, 0, none⟩)) rfl rfl ?_
              refine lv (v := .int .i64 F) rfl rfl (yb_loadc (off := 0) rfl (by kernel_rfl) (.head _) Tryd.underlying3 rfl (by kernel_rfl)) ?_
              refine lv (v := .bool true) rfl rfl (yb_call (f := 64) (args := #[.int .i64 F]) (fun _ => by kernel_rfl) fun W hW => hit W) ?_
              refine lm (v := .bool false) rfl rfl ?_
              refine lm (v := .bool false) rfl rfl ?_
              refine lm (v := .pointer (some ⟨g1, 2, none⟩)) rfl rfl ?_
              refine lv (v := .int .i64 D) rfl rfl (yb_loadc (off := 2) rfl (by kernel_rfl) (.head _) Tryd.underlying3 rfl (by kernel_rfl)) ?_
              refine lp (v := .bool false) rfl rfl (run_bin rfl (vx := .int .i64 D) (vy := .int .i64 1) (by kernel_rfl) (by kernel_rfl) fun w => run_lssI (decide_eq_false (by omega)) w) ?_
              refine lm (v := .bool false) rfl rfl ?_
              refine lm (v := .bool false) rfl rfl ?_
              refine lm (v := .pointer (some ⟨g1, 2, none⟩)) rfl rfl ?_
              refine lv (v := .int .i64 D) rfl rfl (yb_loadc (off := 2) rfl (by kernel_rfl) (.head _) Tryd.underlying3 rfl (by kernel_rfl)) ?_
              refine lp (v := .bool false) rfl rfl (run_bin rfl (vx := .int .i64 D) (vy := .int .i64 1000) (by kernel_rfl) (by kernel_rfl) fun w => run_gtrI (decide_eq_false (by omega)) w) ?_
              refine lm (v := .bool false) rfl rfl ?_
              refine lm (v := .bool false) rfl rfl ?_
              refine lm (v := .pointer (some ⟨g1, 1, none⟩)) rfl rfl ?_
              refine lv (v := .int .i64 N) rfl rfl (yb_loadc (off := 1) rfl (by kernel_rfl) (.head _) Tryd.underlying3 rfl (by kernel_rfl)) ?_
              refine lm (v := .pointer (some ⟨g1, 2, none⟩)) rfl rfl ?_
              refine lv (v := .int .i64 D) rfl rfl (yb_loadc (off := 2) rfl (by kernel_rfl) (.head _) Tryd.underlying3 rfl (by kernel_rfl)) ?_
              refine lp (v := .int .i64 (20160 * D)) rfl rfl (run_bin rfl (vx := .int .i64 20160) (vy := .int .i64 D) (by kernel_rfl) (by kernel_rfl) fun w => run_mulI (z := (20160 * D)) rfl (by omega) w) ?_
              refine lp (v := .bool false) rfl rfl (run_bin rfl (vx := .int .i64 N) (vy := .int .i64 (20160 * D)) (by kernel_rfl) (by kernel_rfl) fun w => run_gtrI (decide_eq_false (by omega)) w) ?_
              refine lm (v := .bool false) rfl rfl ?_
              refine wpL_done (fun W2 hW2 => ?_)
              clear hW1
              refine (show Code.wp _ _ _ _ _ from ?_)
              refine wp_cond_false rfl ?_
              refine wp_skip ?_
              refine (show Code.wp _ _ _ _ _ from ?_)
              refine wp_seq ?_
              refine wp_seq ?_
              refine wp_region_L (W0 := w) [(g1, .cells #[.int .i64 F, .int .i64 N, .int .i64 D, .int .i64 B, .int .i64 A] 28 (0, 0))] (hW2) ?_
              refine lm (v := .pointer (some ⟨g1, 3, none⟩)) rfl rfl ?_
              refine lv (v := .int .i64 B) rfl rfl (yb_loadc (off := 3) rfl (by kernel_rfl) (.head _) Tryd.underlying3 rfl (by kernel_rfl)) ?_
              refine lp (v := .bool false) rfl rfl (run_bin rfl (vx := .int .i64 B) (vy := .int .i64 0) (by kernel_rfl) (by kernel_rfl) fun w => run_lssI (decide_eq_false (by omega)) w) ?_
              refine lm (v := .bool false) rfl rfl ?_
              refine lm (v := .pointer (some ⟨g1, 3, none⟩)) rfl rfl ?_
              refine lv (v := .int .i64 B) rfl rfl (yb_loadc (off := 3) rfl (by kernel_rfl) (.head _) Tryd.underlying3 rfl (by kernel_rfl)) ?_
              refine lp (v := .bool true) rfl rfl (run_bin rfl (vx := .int .i64 B) (vy := .int .i64 10080) (by kernel_rfl) (by kernel_rfl) fun w => run_geqI (decide_eq_true (by omega)) w) ?_
              refine lm (v := .bool true) rfl rfl ?_
              refine lm (v := .bool true) rfl rfl ?_
              refine ln rfl ?_
              refine ln rfl ?_
              refine ln rfl ?_
              refine lm (v := .bool true) rfl rfl ?_
              refine lm (v := .bool true) rfl rfl ?_
              refine ln rfl ?_
              refine ln rfl ?_
              refine ln rfl ?_
              refine lm (v := .bool true) rfl rfl ?_
              refine wpL_done (fun W3 hW3 => ?_)
              clear hW2
              refine (show Code.wp _ _ _ _ _ from ?_)
              refine wp_cond_true rfl ?_
              refine wp_seq ?_
              refine wp_region_L (W0 := w) [(g1, .cells #[.int .i64 F, .int .i64 N, .int .i64 D, .int .i64 B, .int .i64 A] 28 (0, 0))] (hW3) ?_
              refine lm (v := .bool false) rfl rfl ?_
              refine wpL_done (fun W4 hW4 => ?_)
              clear hW3
              refine (show Code.wp _ _ _ _ _ from ?_)
              refine wp_ret ?_
              try simp only [inBlock_ret, then_ret]
              go_ret
              exact ⟨rfl, hW4.1⟩
          · have hit := fun W => isTime_any F W
            rw [hF] at hit
            have hr : tidal F N D B A = false := by unfold tidal; simp [hF, h1, h2, h3, h4]
            rw [hr]
            go_enter Tryd.func31, Tryd.ntmps31
            refine wp_seq ?_
            refine wp_region_L (W0 := w) [] (KS.start w) ?_
            refine wpL_new (fun g => .pointer (some ⟨g, 0, none⟩)) (obi := .cells #[.int .i64 F, .int .i64 N, .int .i64 D, .int .i64 B, .int .i64 A] 28 (0, 0)) rfl rfl (fun _ => by kernel_rfl) (fun _ => by simp only [List.setIfInBounds_toArray, List.set_cons_succ, List.set_cons_zero] <;> rfl) fun g1 Bg1 Fg1 => ?_
            try simp only [List.forall_mem_cons] at Fg1
            refine lm (v := .bool false) rfl rfl ?_
            refine wpL_done (fun W1 hW1 => ?_)
            refine (show Code.wp _ _ _ _ _ from ?_)
            refine wp_seq ?_
            refine wp_seq ?_
            refine wp_region_L (W0 := w) [(g1, .cells #[.int .i64 F, .int .i64 N, .int .i64 D, .int .i64 B, .int .i64 A] 28 (0, 0))] (hW1) ?_
            refine lm (v := .pointer (some ⟨g1, 0, none⟩)) rfl rfl ?_
            refine lv (v := .int .i64 F) rfl rfl (yb_loadc (off := 0) rfl (by kernel_rfl) (.head _) Tryd.underlying3 rfl (by kernel_rfl)) ?_
            refine lv (v := .bool true) rfl rfl (yb_call (f := 64) (args := #[.int .i64 F]) (fun _ => by kernel_rfl) fun W hW => hit W) ?_
            refine lm (v := .bool false) rfl rfl ?_
            refine lm (v := .bool false) rfl rfl ?_
            refine lm (v := .pointer (some ⟨g1, 2, none⟩)) rfl rfl ?_
            refine lv (v := .int .i64 D) rfl rfl (yb_loadc (off := 2) rfl (by kernel_rfl) (.head _) Tryd.underlying3 rfl (by kernel_rfl)) ?_
            refine lp (v := .bool false) rfl rfl (run_bin rfl (vx := .int .i64 D) (vy := .int .i64 1) (by kernel_rfl) (by kernel_rfl) fun w => run_lssI (decide_eq_false (by omega)) w) ?_
            refine lm (v := .bool false) rfl rfl ?_
            refine lm (v := .bool false) rfl rfl ?_
            refine lm (v := .pointer (some ⟨g1, 2, none⟩)) rfl rfl ?_
            refine lv (v := .int .i64 D) rfl rfl (yb_loadc (off := 2) rfl (by kernel_rfl) (.head _) Tryd.underlying3 rfl (by kernel_rfl)) ?_
            refine lp (v := .bool false) rfl rfl (run_bin rfl (vx := .int .i64 D) (vy := .int .i64 1000) (by kernel_rfl) (by kernel_rfl) fun w => run_gtrI (decide_eq_false (by omega)) w) ?_
            refine lm (v := .bool false) rfl rfl ?_
            refine lm (v := .bool false) rfl rfl ?_
            refine lm (v := .pointer (some ⟨g1, 1, none⟩)) rfl rfl ?_
            refine lv (v := .int .i64 N) rfl rfl (yb_loadc (off := 1) rfl (by kernel_rfl) (.head _) Tryd.underlying3 rfl (by kernel_rfl)) ?_
            refine lm (v := .pointer (some ⟨g1, 2, none⟩)) rfl rfl ?_
            refine lv (v := .int .i64 D) rfl rfl (yb_loadc (off := 2) rfl (by kernel_rfl) (.head _) Tryd.underlying3 rfl (by kernel_rfl)) ?_
            refine lp (v := .int .i64 (20160 * D)) rfl rfl (run_bin rfl (vx := .int .i64 20160) (vy := .int .i64 D) (by kernel_rfl) (by kernel_rfl) fun w => run_mulI (z := (20160 * D)) rfl (by omega) w) ?_
            refine lp (v := .bool false) rfl rfl (run_bin rfl (vx := .int .i64 N) (vy := .int .i64 (20160 * D)) (by kernel_rfl) (by kernel_rfl) fun w => run_gtrI (decide_eq_false (by omega)) w) ?_
            refine lm (v := .bool false) rfl rfl ?_
            refine wpL_done (fun W2 hW2 => ?_)
            clear hW1
            refine (show Code.wp _ _ _ _ _ from ?_)
            refine wp_cond_false rfl ?_
            refine wp_skip ?_
            refine (show Code.wp _ _ _ _ _ from ?_)
            refine wp_seq ?_
            refine wp_seq ?_
            refine wp_region_L (W0 := w) [(g1, .cells #[.int .i64 F, .int .i64 N, .int .i64 D, .int .i64 B, .int .i64 A] 28 (0, 0))] (hW2) ?_
            refine lm (v := .pointer (some ⟨g1, 3, none⟩)) rfl rfl ?_
            refine lv (v := .int .i64 B) rfl rfl (yb_loadc (off := 3) rfl (by kernel_rfl) (.head _) Tryd.underlying3 rfl (by kernel_rfl)) ?_
            refine lp (v := .bool true) rfl rfl (run_bin rfl (vx := .int .i64 B) (vy := .int .i64 0) (by kernel_rfl) (by kernel_rfl) fun w => run_lssI (decide_eq_true (by omega)) w) ?_
            refine lm (v := .bool true) rfl rfl ?_
            refine ln rfl ?_
            refine ln rfl ?_
            refine ln rfl ?_
            refine lm (v := .bool true) rfl rfl ?_
            refine lm (v := .bool true) rfl rfl ?_
            refine ln rfl ?_
            refine ln rfl ?_
            refine ln rfl ?_
            refine lm (v := .bool true) rfl rfl ?_
            refine lm (v := .bool true) rfl rfl ?_
            refine ln rfl ?_
            refine ln rfl ?_
            refine ln rfl ?_
            refine lm (v := .bool true) rfl rfl ?_
            refine wpL_done (fun W3 hW3 => ?_)
            clear hW2
            refine (show Code.wp _ _ _ _ _ from ?_)
            refine wp_cond_true rfl ?_
            refine wp_seq ?_
            refine wp_region_L (W0 := w) [(g1, .cells #[.int .i64 F, .int .i64 N, .int .i64 D, .int .i64 B, .int .i64 A] 28 (0, 0))] (hW3) ?_
            refine lm (v := .bool false) rfl rfl ?_
            refine wpL_done (fun W4 hW4 => ?_)
            clear hW3
            refine (show Code.wp _ _ _ _ _ from ?_)
            refine wp_ret ?_
            try simp only [inBlock_ret, then_ret]
            go_ret
            exact ⟨rfl, hW4.1⟩
        · have hit := fun W => isTime_any F W
          rw [hF] at hit
          have hr : tidal F N D B A = false := by unfold tidal; simp [hF, h1, h2, h3]
          rw [hr]
          go_enter Tryd.func31, Tryd.ntmps31
          refine wp_seq ?_
          refine wp_region_L (W0 := w) [] (KS.start w) ?_
          refine wpL_new (fun g => .pointer (some ⟨g, 0, none⟩)) (obi := .cells #[.int .i64 F, .int .i64 N, .int .i64 D, .int .i64 B, .int .i64 A] 28 (0, 0)) rfl rfl (fun _ => by kernel_rfl) (fun _ => by simp only [List.setIfInBounds_toArray, List.set_cons_succ, List.set_cons_zero] <;> rfl) fun g1 Bg1 Fg1 => ?_
          try simp only [List.forall_mem_cons] at Fg1
          refine lm (v := .bool false) rfl rfl ?_
          refine wpL_done (fun W1 hW1 => ?_)
          refine (show Code.wp _ _ _ _ _ from ?_)
          refine wp_seq ?_
          refine wp_seq ?_
          refine wp_region_L (W0 := w) [(g1, .cells #[.int .i64 F, .int .i64 N, .int .i64 D, .int .i64 B, .int .i64 A] 28 (0, 0))] (hW1) ?_
          refine lm (v := .pointer (some ⟨g1, 0, none⟩)) rfl rfl ?_
          refine lv (v := .int .i64 F) rfl rfl (yb_loadc (off := 0) rfl (by kernel_rfl) (.head _) Tryd.underlying3 rfl (by kernel_rfl)) ?_
          refine lv (v := .bool true) rfl rfl (yb_call (f := 64) (args := #[.int .i64 F]) (fun _ => by kernel_rfl) fun W hW => hit W) ?_
          refine lm (v := .bool false) rfl rfl ?_
          refine lm (v := .bool false) rfl rfl ?_
          refine lm (v := .pointer (some ⟨g1, 2, none⟩)) rfl rfl ?_
          refine lv (v := .int .i64 D) rfl rfl (yb_loadc (off := 2) rfl (by kernel_rfl) (.head _) Tryd.underlying3 rfl (by kernel_rfl)) ?_
          refine lp (v := .bool false) rfl rfl (run_bin rfl (vx := .int .i64 D) (vy := .int .i64 1) (by kernel_rfl) (by kernel_rfl) fun w => run_lssI (decide_eq_false (by omega)) w) ?_
          refine lm (v := .bool false) rfl rfl ?_
          refine lm (v := .bool false) rfl rfl ?_
          refine lm (v := .pointer (some ⟨g1, 2, none⟩)) rfl rfl ?_
          refine lv (v := .int .i64 D) rfl rfl (yb_loadc (off := 2) rfl (by kernel_rfl) (.head _) Tryd.underlying3 rfl (by kernel_rfl)) ?_
          refine lp (v := .bool false) rfl rfl (run_bin rfl (vx := .int .i64 D) (vy := .int .i64 1000) (by kernel_rfl) (by kernel_rfl) fun w => run_gtrI (decide_eq_false (by omega)) w) ?_
          refine lm (v := .bool false) rfl rfl ?_
          refine lm (v := .bool false) rfl rfl ?_
          refine lm (v := .pointer (some ⟨g1, 1, none⟩)) rfl rfl ?_
          refine lv (v := .int .i64 N) rfl rfl (yb_loadc (off := 1) rfl (by kernel_rfl) (.head _) Tryd.underlying3 rfl (by kernel_rfl)) ?_
          refine lm (v := .pointer (some ⟨g1, 2, none⟩)) rfl rfl ?_
          refine lv (v := .int .i64 D) rfl rfl (yb_loadc (off := 2) rfl (by kernel_rfl) (.head _) Tryd.underlying3 rfl (by kernel_rfl)) ?_
          refine lp (v := .int .i64 (20160 * D)) rfl rfl (run_bin rfl (vx := .int .i64 20160) (vy := .int .i64 D) (by kernel_rfl) (by kernel_rfl) fun w => run_mulI (z := (20160 * D)) rfl (by omega) w) ?_
          refine lp (v := .bool true) rfl rfl (run_bin rfl (vx := .int .i64 N) (vy := .int .i64 (20160 * D)) (by kernel_rfl) (by kernel_rfl) fun w => run_gtrI (decide_eq_true (by omega)) w) ?_
          refine lm (v := .bool true) rfl rfl ?_
          refine wpL_done (fun W2 hW2 => ?_)
          clear hW1
          refine (show Code.wp _ _ _ _ _ from ?_)
          refine wp_cond_true rfl ?_
          refine wp_seq ?_
          refine wp_region_L (W0 := w) [(g1, .cells #[.int .i64 F, .int .i64 N, .int .i64 D, .int .i64 B, .int .i64 A] 28 (0, 0))] (hW2) ?_
          refine lm (v := .bool false) rfl rfl ?_
          refine wpL_done (fun W3 hW3 => ?_)
          clear hW2
          refine (show Code.wp _ _ _ _ _ from ?_)
          refine wp_ret ?_
          try simp only [inBlock_ret, then_ret]
          go_ret
          exact ⟨rfl, hW3.1⟩
      · have hit := fun W => isTime_any F W
        rw [hF] at hit
        have hr : tidal F N D B A = false := by unfold tidal; simp [hF, h1, h2]
        rw [hr]
        go_enter Tryd.func31, Tryd.ntmps31
        refine wp_seq ?_
        refine wp_region_L (W0 := w) [] (KS.start w) ?_
        refine wpL_new (fun g => .pointer (some ⟨g, 0, none⟩)) (obi := .cells #[.int .i64 F, .int .i64 N, .int .i64 D, .int .i64 B, .int .i64 A] 28 (0, 0)) rfl rfl (fun _ => by kernel_rfl) (fun _ => by simp only [List.setIfInBounds_toArray, List.set_cons_succ, List.set_cons_zero] <;> rfl) fun g1 Bg1 Fg1 => ?_
        try simp only [List.forall_mem_cons] at Fg1
        refine lm (v := .bool false) rfl rfl ?_
        refine wpL_done (fun W1 hW1 => ?_)
        refine (show Code.wp _ _ _ _ _ from ?_)
        refine wp_seq ?_
        refine wp_seq ?_
        refine wp_region_L (W0 := w) [(g1, .cells #[.int .i64 F, .int .i64 N, .int .i64 D, .int .i64 B, .int .i64 A] 28 (0, 0))] (hW1) ?_
        refine lm (v := .pointer (some ⟨g1, 0, none⟩)) rfl rfl ?_
        refine lv (v := .int .i64 F) rfl rfl (yb_loadc (off := 0) rfl (by kernel_rfl) (.head _) Tryd.underlying3 rfl (by kernel_rfl)) ?_
        refine lv (v := .bool true) rfl rfl (yb_call (f := 64) (args := #[.int .i64 F]) (fun _ => by kernel_rfl) fun W hW => hit W) ?_
        refine lm (v := .bool false) rfl rfl ?_
        refine lm (v := .bool false) rfl rfl ?_
        refine lm (v := .pointer (some ⟨g1, 2, none⟩)) rfl rfl ?_
        refine lv (v := .int .i64 D) rfl rfl (yb_loadc (off := 2) rfl (by kernel_rfl) (.head _) Tryd.underlying3 rfl (by kernel_rfl)) ?_
        refine lp (v := .bool false) rfl rfl (run_bin rfl (vx := .int .i64 D) (vy := .int .i64 1) (by kernel_rfl) (by kernel_rfl) fun w => run_lssI (decide_eq_false (by omega)) w) ?_
        refine lm (v := .bool false) rfl rfl ?_
        refine lm (v := .bool false) rfl rfl ?_
        refine lm (v := .pointer (some ⟨g1, 2, none⟩)) rfl rfl ?_
        refine lv (v := .int .i64 D) rfl rfl (yb_loadc (off := 2) rfl (by kernel_rfl) (.head _) Tryd.underlying3 rfl (by kernel_rfl)) ?_
        refine lp (v := .bool true) rfl rfl (run_bin rfl (vx := .int .i64 D) (vy := .int .i64 1000) (by kernel_rfl) (by kernel_rfl) fun w => run_gtrI (decide_eq_true (by omega)) w) ?_
        refine lm (v := .bool true) rfl rfl ?_
        refine lm (v := .bool true) rfl rfl ?_
        refine ln rfl ?_
        refine ln rfl ?_
        refine ln rfl ?_
        refine ln rfl ?_
        refine ln rfl ?_
        refine ln rfl ?_
        refine lm (v := .bool true) rfl rfl ?_
        refine wpL_done (fun W2 hW2 => ?_)
        clear hW1
        refine (show Code.wp _ _ _ _ _ from ?_)
        refine wp_cond_true rfl ?_
        refine wp_seq ?_
        refine wp_region_L (W0 := w) [(g1, .cells #[.int .i64 F, .int .i64 N, .int .i64 D, .int .i64 B, .int .i64 A] 28 (0, 0))] (hW2) ?_
        refine lm (v := .bool false) rfl rfl ?_
        refine wpL_done (fun W3 hW3 => ?_)
        clear hW2
        refine (show Code.wp _ _ _ _ _ from ?_)
        refine wp_ret ?_
        try simp only [inBlock_ret, then_ret]
        go_ret
        exact ⟨rfl, hW3.1⟩
    · have hit := fun W => isTime_any F W
      rw [hF] at hit
      have hr : tidal F N D B A = false := by unfold tidal; simp [hF, h1]
      rw [hr]
      go_enter Tryd.func31, Tryd.ntmps31
      refine wp_seq ?_
      refine wp_region_L (W0 := w) [] (KS.start w) ?_
      refine wpL_new (fun g => .pointer (some ⟨g, 0, none⟩)) (obi := .cells #[.int .i64 F, .int .i64 N, .int .i64 D, .int .i64 B, .int .i64 A] 28 (0, 0)) rfl rfl (fun _ => by kernel_rfl) (fun _ => by simp only [List.setIfInBounds_toArray, List.set_cons_succ, List.set_cons_zero] <;> rfl) fun g1 Bg1 Fg1 => ?_
      try simp only [List.forall_mem_cons] at Fg1
      refine lm (v := .bool false) rfl rfl ?_
      refine wpL_done (fun W1 hW1 => ?_)
      refine (show Code.wp _ _ _ _ _ from ?_)
      refine wp_seq ?_
      refine wp_seq ?_
      refine wp_region_L (W0 := w) [(g1, .cells #[.int .i64 F, .int .i64 N, .int .i64 D, .int .i64 B, .int .i64 A] 28 (0, 0))] (hW1) ?_
      refine lm (v := .pointer (some ⟨g1, 0, none⟩)) rfl rfl ?_
      refine lv (v := .int .i64 F) rfl rfl (yb_loadc (off := 0) rfl (by kernel_rfl) (.head _) Tryd.underlying3 rfl (by kernel_rfl)) ?_
      refine lv (v := .bool true) rfl rfl (yb_call (f := 64) (args := #[.int .i64 F]) (fun _ => by kernel_rfl) fun W hW => hit W) ?_
      refine lm (v := .bool false) rfl rfl ?_
      refine lm (v := .bool false) rfl rfl ?_
      refine lm (v := .pointer (some ⟨g1, 2, none⟩)) rfl rfl ?_
      refine lv (v := .int .i64 D) rfl rfl (yb_loadc (off := 2) rfl (by kernel_rfl) (.head _) Tryd.underlying3 rfl (by kernel_rfl)) ?_
      refine lp (v := .bool true) rfl rfl (run_bin rfl (vx := .int .i64 D) (vy := .int .i64 1) (by kernel_rfl) (by kernel_rfl) fun w => run_lssI (decide_eq_true (by omega)) w) ?_
      refine lm (v := .bool true) rfl rfl ?_
      refine lm (v := .bool true) rfl rfl ?_
      refine ln rfl ?_
      refine ln rfl ?_
      refine ln rfl ?_
      refine lm (v := .bool true) rfl rfl ?_
      refine lm (v := .bool true) rfl rfl ?_
      refine ln rfl ?_
      refine ln rfl ?_
      refine ln rfl ?_
      refine ln rfl ?_
      refine ln rfl ?_
      refine ln rfl ?_
      refine lm (v := .bool true) rfl rfl ?_
      refine wpL_done (fun W2 hW2 => ?_)
      clear hW1
      refine (show Code.wp _ _ _ _ _ from ?_)
      refine wp_cond_true rfl ?_
      refine wp_seq ?_
      refine wp_region_L (W0 := w) [(g1, .cells #[.int .i64 F, .int .i64 N, .int .i64 D, .int .i64 B, .int .i64 A] 28 (0, 0))] (hW2) ?_
      refine lm (v := .bool false) rfl rfl ?_
      refine wpL_done (fun W3 hW3 => ?_)
      clear hW2
      refine (show Code.wp _ _ _ _ _ from ?_)
      refine wp_ret ?_
      try simp only [inBlock_ret, then_ret]
      go_ret
      exact ⟨rfl, hW3.1⟩
  · have hit := fun W => isTime_any F W
    rw [(Bool.not_eq_true _).mp hF] at hit
    have hr : tidal F N D B A = false := by unfold tidal; simp [(Bool.not_eq_true _).mp hF]
    rw [hr]
    go_enter Tryd.func31, Tryd.ntmps31
    refine wp_seq ?_
    refine wp_region_L (W0 := w) [] (KS.start w) ?_
    refine wpL_new (fun g => .pointer (some ⟨g, 0, none⟩)) (obi := .cells #[.int .i64 F, .int .i64 N, .int .i64 D, .int .i64 B, .int .i64 A] 28 (0, 0)) rfl rfl (fun _ => by kernel_rfl) (fun _ => by simp only [List.setIfInBounds_toArray, List.set_cons_succ, List.set_cons_zero] <;> rfl) fun g1 Bg1 Fg1 => ?_
    try simp only [List.forall_mem_cons] at Fg1
    refine lm (v := .bool false) rfl rfl ?_
    refine wpL_done (fun W1 hW1 => ?_)
    refine (show Code.wp _ _ _ _ _ from ?_)
    refine wp_seq ?_
    refine wp_seq ?_
    refine wp_region_L (W0 := w) [(g1, .cells #[.int .i64 F, .int .i64 N, .int .i64 D, .int .i64 B, .int .i64 A] 28 (0, 0))] (hW1) ?_
    refine lm (v := .pointer (some ⟨g1, 0, none⟩)) rfl rfl ?_
    refine lv (v := .int .i64 F) rfl rfl (yb_loadc (off := 0) rfl (by kernel_rfl) (.head _) Tryd.underlying3 rfl (by kernel_rfl)) ?_
    refine lv (v := .bool false) rfl rfl (yb_call (f := 64) (args := #[.int .i64 F]) (fun _ => by kernel_rfl) fun W hW => hit W) ?_
    refine lm (v := .bool true) rfl rfl ?_
    refine lm (v := .bool true) rfl rfl ?_
    refine ln rfl ?_
    refine ln rfl ?_
    refine ln rfl ?_
    refine lm (v := .bool true) rfl rfl ?_
    refine lm (v := .bool true) rfl rfl ?_
    refine ln rfl ?_
    refine ln rfl ?_
    refine ln rfl ?_
    refine lm (v := .bool true) rfl rfl ?_
    refine lm (v := .bool true) rfl rfl ?_
    refine ln rfl ?_
    refine ln rfl ?_
    refine ln rfl ?_
    refine ln rfl ?_
    refine ln rfl ?_
    refine ln rfl ?_
    refine lm (v := .bool true) rfl rfl ?_
    refine wpL_done (fun W2 hW2 => ?_)
    clear hW1
    refine (show Code.wp _ _ _ _ _ from ?_)
    refine wp_cond_true rfl ?_
    refine wp_seq ?_
    refine wp_region_L (W0 := w) [(g1, .cells #[.int .i64 F, .int .i64 N, .int .i64 D, .int .i64 B, .int .i64 A] 28 (0, 0))] (hW2) ?_
    refine lm (v := .bool false) rfl rfl ?_
    refine wpL_done (fun W3 hW3 => ?_)
    clear hW2
    refine (show Code.wp _ _ _ _ _ from ?_)
    refine wp_ret ?_
    try simp only [inBlock_ret, then_ret]
    go_ret
    exact ⟨rfl, hW3.1⟩
set_option maxRecDepth 100000 in
set_option maxHeartbeats 2000000 in
theorem firstAfter_any (F N D B A : Int) (hT : TideR F N D B A) (m : Int) (hm : -100000000 ≤ m ∧ m ≤ 100000000) (w : World) : Calls Tryd.prog 66 #[.agg #[.int .i64 F, .int .i64 N, .int .i64 D, .int .i64 B, .int .i64 A], .int .i64 m] w fun e w' => e = .returned (.int .i64 (firstV F N D m)) ∧ Below w.heap.size w w' := by
  have hf0 := hT.f0
  have hf1 := hT.f1
  have hd0 := hT.d1
  have hd1 := hT.d2
  have hp := hT.pos
  by_cases ha : m - F + 1 ≤ 0
  · rw [show firstV F N D m = 0 from if_pos ha]
    go_enter Tryd.func66, Tryd.ntmps66
    refine wp_seq ?_
    refine wp_region_L (W0 := w) [] (KS.start w) ?_
    refine wpL_new (fun g => .pointer (some ⟨g, 0, none⟩)) (obi := .cells #[.int .i64 F, .int .i64 N, .int .i64 D, .int .i64 B, .int .i64 A] 28 (0, 0)) rfl rfl (fun _ => by kernel_rfl) (fun _ => by simp only [List.setIfInBounds_toArray, List.set_cons_succ, List.set_cons_zero] <;> rfl) fun g1 Bg1 Fg1 => ?_
    try simp only [List.forall_mem_cons] at Fg1
    refine lm (v := .int .i64 0) rfl rfl ?_
    refine wpL_done (fun W1 hW1 => ?_)
    refine (show Code.wp _ _ _ _ _ from ?_)
    refine wp_seq ?_
    refine wp_region_L (W0 := w) [(g1, .cells #[.int .i64 F, .int .i64 N, .int .i64 D, .int .i64 B, .int .i64 A] 28 (0, 0))] (hW1) ?_
    refine lm (v := .int .i64 m) rfl rfl ?_
    refine lm (v := .pointer (some ⟨g1, 0, none⟩)) rfl rfl ?_
    refine lv (v := .int .i64 F) rfl rfl (yb_loadc (off := 0) rfl (by kernel_rfl) (.head _) Tryd.underlying3 rfl (by kernel_rfl)) ?_
    refine lp (v := .int .i64 (m - F)) rfl rfl (run_bin rfl (vx := .int .i64 m) (vy := .int .i64 F) (by kernel_rfl) (by kernel_rfl) fun w => run_subI (z := (m - F)) rfl (by omega) w) ?_
    refine lp (v := .int .i64 (m - F + 1)) rfl rfl (run_bin rfl (vx := .int .i64 (m - F)) (vy := .int .i64 1) (by kernel_rfl) (by kernel_rfl) fun w => run_addI (z := (m - F + 1)) rfl (by omega) w) ?_
    refine lm (v := .int .i64 (m - F + 1)) rfl rfl ?_
    refine wpL_done (fun W2 hW2 => ?_)
    clear hW1
    refine (show Code.wp _ _ _ _ _ from ?_)
    refine wp_seq ?_
    refine wp_seq ?_
    refine wp_region_L (W0 := w) [(g1, .cells #[.int .i64 F, .int .i64 N, .int .i64 D, .int .i64 B, .int .i64 A] 28 (0, 0))] (hW2) ?_
    refine lm (v := .int .i64 (m - F + 1)) rfl rfl ?_
    refine lp (v := .bool true) rfl rfl (run_bin rfl (vx := .int .i64 (m - F + 1)) (vy := .int .i64 0) (by kernel_rfl) (by kernel_rfl) fun w => run_leqI (decide_eq_true ha) w) ?_
    refine wpL_done (fun W3 hW3 => ?_)
    clear hW2
    refine (show Code.wp _ _ _ _ _ from ?_)
    refine wp_cond_true rfl ?_
    refine wp_seq ?_
    refine wp_region_L (W0 := w) [(g1, .cells #[.int .i64 F, .int .i64 N, .int .i64 D, .int .i64 B, .int .i64 A] 28 (0, 0))] (hW3) ?_
    refine lm (v := .int .i64 0) rfl rfl ?_
    refine wpL_done (fun W4 hW4 => ?_)
    clear hW3
    refine (show Code.wp _ _ _ _ _ from ?_)
    refine wp_ret ?_
    try simp only [inBlock_ret, then_ret]
    go_ret
    exact ⟨rfl, hW4.1⟩
  · rw [show firstV F N D m = ((m - F + 1) * D + N - 1) / N from if_neg ha]
    have hb := hT.ahead hm.2 (by omega)
    have hq := Int.ediv_le_self N (show 0 ≤ (m - F + 1) * D + N - 1 by omega)
    have hq0 := Int.ediv_nonneg (show 0 ≤ (m - F + 1) * D + N - 1 by omega) (show 0 ≤ N by omega)
    go_enter Tryd.func66, Tryd.ntmps66
    refine wp_seq ?_
    refine wp_region_L (W0 := w) [] (KS.start w) ?_
    refine wpL_new (fun g => .pointer (some ⟨g, 0, none⟩)) (obi := .cells #[.int .i64 F, .int .i64 N, .int .i64 D, .int .i64 B, .int .i64 A] 28 (0, 0)) rfl rfl (fun _ => by kernel_rfl) (fun _ => by simp only [List.setIfInBounds_toArray, List.set_cons_succ, List.set_cons_zero] <;> rfl) fun g1 Bg1 Fg1 => ?_
    try simp only [List.forall_mem_cons] at Fg1
    refine lm (v := .int .i64 0) rfl rfl ?_
    refine wpL_done (fun W1 hW1 => ?_)
    refine (show Code.wp _ _ _ _ _ from ?_)
    refine wp_seq ?_
    refine wp_region_L (W0 := w) [(g1, .cells #[.int .i64 F, .int .i64 N, .int .i64 D, .int .i64 B, .int .i64 A] 28 (0, 0))] (hW1) ?_
    refine lm (v := .int .i64 m) rfl rfl ?_
    refine lm (v := .pointer (some ⟨g1, 0, none⟩)) rfl rfl ?_
    refine lv (v := .int .i64 F) rfl rfl (yb_loadc (off := 0) rfl (by kernel_rfl) (.head _) Tryd.underlying3 rfl (by kernel_rfl)) ?_
    refine lp (v := .int .i64 (m - F)) rfl rfl (run_bin rfl (vx := .int .i64 m) (vy := .int .i64 F) (by kernel_rfl) (by kernel_rfl) fun w => run_subI (z := (m - F)) rfl (by omega) w) ?_
    refine lp (v := .int .i64 (m - F + 1)) rfl rfl (run_bin rfl (vx := .int .i64 (m - F)) (vy := .int .i64 1) (by kernel_rfl) (by kernel_rfl) fun w => run_addI (z := (m - F + 1)) rfl (by omega) w) ?_
    refine lm (v := .int .i64 (m - F + 1)) rfl rfl ?_
    refine wpL_done (fun W2 hW2 => ?_)
    clear hW1
    refine (show Code.wp _ _ _ _ _ from ?_)
    refine wp_seq ?_
    refine wp_seq ?_
    refine wp_region_L (W0 := w) [(g1, .cells #[.int .i64 F, .int .i64 N, .int .i64 D, .int .i64 B, .int .i64 A] 28 (0, 0))] (hW2) ?_
    refine lm (v := .int .i64 (m - F + 1)) rfl rfl ?_
    refine lp (v := .bool false) rfl rfl (run_bin rfl (vx := .int .i64 (m - F + 1)) (vy := .int .i64 0) (by kernel_rfl) (by kernel_rfl) fun w => run_leqI (decide_eq_false ha) w) ?_
    refine wpL_done (fun W3 hW3 => ?_)
    clear hW2
    refine (show Code.wp _ _ _ _ _ from ?_)
    refine wp_cond_false rfl ?_
    refine wp_skip ?_
    refine (show Code.wp _ _ _ _ _ from ?_)
    refine wp_seq ?_
    refine wp_region_L (W0 := w) [(g1, .cells #[.int .i64 F, .int .i64 N, .int .i64 D, .int .i64 B, .int .i64 A] 28 (0, 0))] (hW3) ?_
    refine lm (v := .int .i64 (m - F + 1)) rfl rfl ?_
    refine lm (v := .pointer (some ⟨g1, 2, none⟩)) rfl rfl ?_
    refine lv (v := .int .i64 D) rfl rfl (yb_loadc (off := 2) rfl (by kernel_rfl) (.head _) Tryd.underlying3 rfl (by kernel_rfl)) ?_
    refine lp (v := .int .i64 ((m - F + 1) * D)) rfl rfl (run_bin rfl (vx := .int .i64 (m - F + 1)) (vy := .int .i64 D) (by kernel_rfl) (by kernel_rfl) fun w => run_mulI (z := ((m - F + 1) * D)) rfl (by omega) w) ?_
    refine lm (v := .pointer (some ⟨g1, 1, none⟩)) rfl rfl ?_
    refine lv (v := .int .i64 N) rfl rfl (yb_loadc (off := 1) rfl (by kernel_rfl) (.head _) Tryd.underlying3 rfl (by kernel_rfl)) ?_
    refine lp (v := .int .i64 ((m - F + 1) * D + N)) rfl rfl (run_bin rfl (vx := .int .i64 ((m - F + 1) * D)) (vy := .int .i64 N) (by kernel_rfl) (by kernel_rfl) fun w => run_addI (z := ((m - F + 1) * D + N)) rfl (by omega) w) ?_
    refine lp (v := .int .i64 ((m - F + 1) * D + N - 1)) rfl rfl (run_bin rfl (vx := .int .i64 ((m - F + 1) * D + N)) (vy := .int .i64 1) (by kernel_rfl) (by kernel_rfl) fun w => run_subI (z := ((m - F + 1) * D + N - 1)) rfl (by omega) w) ?_
    refine lm (v := .pointer (some ⟨g1, 1, none⟩)) rfl rfl ?_
    refine lv (v := .int .i64 N) rfl rfl (yb_loadc (off := 1) rfl (by kernel_rfl) (.head _) Tryd.underlying3 rfl (by kernel_rfl)) ?_
    refine lp (v := .int .i64 (((m - F + 1) * D + N - 1) / N)) rfl rfl (run_bin rfl (vx := .int .i64 ((m - F + 1) * D + N - 1)) (vy := .int .i64 N) (by kernel_rfl) (by kernel_rfl) fun w => run_quoI (z := (((m - F + 1) * D + N - 1) / N)) (Int.tdiv_eq_ediv_of_nonneg (by omega)) (by omega) (by omega) w) ?_
    refine lm (v := .int .i64 (((m - F + 1) * D + N - 1) / N)) rfl rfl ?_
    refine wpL_done (fun W4 hW4 => ?_)
    clear hW3
    refine (show Code.wp _ _ _ _ _ from ?_)
    refine wp_ret ?_
    try simp only [inBlock_ret, then_ret]
    go_ret
    exact ⟨rfl, hW4.1⟩
set_option maxRecDepth 100000 in
set_option maxHeartbeats 2000000 in
theorem high_any (F N D B A : Int) (hT : TideR F N D B A) (k : Int) (hk : 0 ≤ k) (hb : k * N ≤ 200000000000) (w : World) : Calls Tryd.prog 67 #[.agg #[.int .i64 F, .int .i64 N, .int .i64 D, .int .i64 B, .int .i64 A], .int .i64 k] w fun e w' => e = .returned (.int .i64 (highV F N D k)) ∧ Below w.heap.size w w' := by
  have hf0 := hT.f0
  have hf1 := hT.f1
  have hd0 := hT.d1
  have hr := high_range hT hk hb
  unfold highV
  go_enter Tryd.func67, Tryd.ntmps67
  refine wp_seq ?_
  refine wp_region_L (W0 := w) [] (KS.start w) ?_
  refine wpL_new (fun g => .pointer (some ⟨g, 0, none⟩)) (obi := .cells #[.int .i64 F, .int .i64 N, .int .i64 D, .int .i64 B, .int .i64 A] 28 (0, 0)) rfl rfl (fun _ => by kernel_rfl) (fun _ => by simp only [List.setIfInBounds_toArray, List.set_cons_succ, List.set_cons_zero] <;> rfl) fun g1 Bg1 Fg1 => ?_
  try simp only [List.forall_mem_cons] at Fg1
  refine lm (v := .int .i64 0) rfl rfl ?_
  refine wpL_done (fun W1 hW1 => ?_)
  refine (show Code.wp _ _ _ _ _ from ?_)
  refine wp_seq ?_
  refine wp_region_V (W0 := w) [(g1, .cells #[.int .i64 F, .int .i64 N, .int .i64 D, .int .i64 B, .int .i64 A] 28 (0, 0))] (by kernel_rfl) (hW1) ?_
  refine vm (i := 0) (v := .pointer (some ⟨g1, 0, none⟩)) rfl rfl rfl ?_
  refine vv (i := 1) (v := .int .i64 F) rfl rfl rfl (yb_loadc (off := 0) rfl (by kernel_rfl) (.head _) Tryd.underlying3 rfl (by kernel_rfl)) ?_
  refine vm (i := 2) (v := .int .i64 k) rfl rfl rfl ?_
  refine vm (i := 3) (v := .pointer (some ⟨g1, 1, none⟩)) rfl rfl rfl ?_
  refine vv (i := 4) (v := .int .i64 N) rfl rfl rfl (yb_loadc (off := 1) rfl (by kernel_rfl) (.head _) Tryd.underlying3 rfl (by kernel_rfl)) ?_
  refine vp (i := 5) (v := .int .i64 (k * N)) rfl rfl rfl (run_bin rfl (vx := .int .i64 k) (vy := .int .i64 N) (by kernel_rfl) (by kernel_rfl) fun w => run_mulI (z := (k * N)) rfl (by omega) w) ?_
  refine vm (i := 6) (v := .pointer (some ⟨g1, 2, none⟩)) rfl rfl rfl ?_
  refine vv (i := 7) (v := .int .i64 D) rfl rfl rfl (yb_loadc (off := 2) rfl (by kernel_rfl) (.head _) Tryd.underlying3 rfl (by kernel_rfl)) ?_
  refine vp (i := 8) (v := .int .i64 (k * N / D)) rfl rfl rfl (run_bin rfl (vx := .int .i64 (k * N)) (vy := .int .i64 D) (by kernel_rfl) (by kernel_rfl) fun w => run_quoI (z := (k * N / D)) (Int.tdiv_eq_ediv_of_nonneg hr.1) (by omega) (by omega) w) ?_
  refine vp (i := 9) (v := .int .i64 (F + k * N / D)) rfl rfl rfl (run_bin rfl (vx := .int .i64 F) (vy := .int .i64 (k * N / D)) (by kernel_rfl) (by kernel_rfl) fun w => run_addI (z := (F + k * N / D)) rfl (by omega) w) ?_
  refine vm (i := 10) (v := .int .i64 (F + k * N / D)) rfl rfl rfl ?_
  refine wpV_done (by kernel_rfl) (fun W2 hW2 => ?_) _
  clear hW1
  refine (show Code.wp _ _ _ _ _ from ?_)
  refine wp_ret ?_
  try simp only [inBlock_ret, then_ret]
  go_ret
  exact ⟨rfl, hW2.1⟩
set_option maxRecDepth 100000 in
set_option maxHeartbeats 2000000 in
theorem High_any (F N D B A : Int) (hN : -9223372036854775808 ≤ N ∧ N ≤ 9223372036854775807) (k : Int) (w : World) : Calls Tryd.prog 29 #[.agg #[.int .i64 F, .int .i64 N, .int .i64 D, .int .i64 B, .int .i64 A], .int .i64 k] w fun e w' => e = .returned (if tidal F N D B A = true ∧ 0 ≤ k then (if firstV F N D 100000000 ≤ k then .tuple #[.int .i64 0, .int .i64 3] else .tuple #[.int .i64 (highV F N D k), .int .i64 0]) else .tuple #[.int .i64 0, .int .i64 2]) ∧ Below w.heap.size w w' := by
  by_cases ht : tidal F N D B A = true
  · by_cases hk : 0 ≤ k
    · have htd := fun W => Tidal_any F N D B A hN W
      rw [ht] at htd
      have hT := tidal_iff.1 ht
      rw [if_pos ⟨ht, hk⟩]
      have hfa := fun W => firstAfter_any F N D B A hT 100000000 (by omega) W
      have hk0 := hT.k0 (m := 100000000) (by omega)
      obtain ⟨fv, hfv⟩ : ∃ v, firstV F N D 100000000 = v := ⟨_, rfl⟩
      rw [hfv] at hfa hk0 ⊢
      by_cases hge : fv ≤ k
      · rw [if_pos hge]
        go_enter Tryd.func29, Tryd.ntmps29
        refine wp_seq ?_
        refine wp_region_L (W0 := w) [] (KS.start w) ?_
        refine wpL_new (fun g => .pointer (some ⟨g, 0, none⟩)) (obi := .cells #[.int .i64 F, .int .i64 N, .int .i64 D, .int .i64 B, .int .i64 A] 28 (0, 0)) rfl rfl (fun _ => by kernel_rfl) (fun _ => by simp only [List.setIfInBounds_toArray, List.set_cons_succ, List.set_cons_zero] <;> rfl) fun g1 Bg1 Fg1 => ?_
        try simp only [List.forall_mem_cons] at Fg1
        refine lm (v := .int .i64 0) rfl rfl ?_
        refine lm (v := .int .i64 0) rfl rfl ?_
        refine wpL_done (fun W1 hW1 => ?_)
        refine (show Code.wp _ _ _ _ _ from ?_)
        refine wp_seq ?_
        refine wp_seq ?_
        refine wp_region_L (W0 := w) [(g1, .cells #[.int .i64 F, .int .i64 N, .int .i64 D, .int .i64 B, .int .i64 A] 28 (0, 0))] (hW1) ?_
        refine lv (v := .agg #[.int .i64 F, .int .i64 N, .int .i64 D, .int .i64 B, .int .i64 A]) rfl rfl (yb_load (n := 5) (off := 0) rfl (by kernel_rfl) (.head _) Tryd.underlying28 rfl size_tide (by simp) (by kernel_rfl)) ?_
        refine lv (v := .bool true) rfl rfl (yb_call (f := 31) (args := #[.agg #[.int .i64 F, .int .i64 N, .int .i64 D, .int .i64 B, .int .i64 A]]) (fun _ => by kernel_rfl) fun W hW => htd W) ?_
        refine lm (v := .bool false) rfl rfl ?_
        refine lm (v := .bool false) rfl rfl ?_
        refine lm (v := .int .i64 k) rfl rfl ?_
        refine lp (v := .bool false) rfl rfl (run_bin rfl (vx := .int .i64 k) (vy := .int .i64 0) (by kernel_rfl) (by kernel_rfl) fun w => run_lssI (decide_eq_false (by omega)) w) ?_
        refine lm (v := .bool false) rfl rfl ?_
        refine wpL_done (fun W2 hW2 => ?_)
        clear hW1
        refine (show Code.wp _ _ _ _ _ from ?_)
        refine wp_cond_false rfl ?_
        refine wp_skip ?_
        refine (show Code.wp _ _ _ _ _ from ?_)
        refine wp_seq ?_
        refine wp_seq ?_
        refine wp_region_L (W0 := w) [(g1, .cells #[.int .i64 F, .int .i64 N, .int .i64 D, .int .i64 B, .int .i64 A] 28 (0, 0))] (hW2) ?_
        refine lm (v := .int .i64 k) rfl rfl ?_
        refine lv (v := .agg #[.int .i64 F, .int .i64 N, .int .i64 D, .int .i64 B, .int .i64 A]) rfl rfl (yb_load (n := 5) (off := 0) rfl (by kernel_rfl) (.head _) Tryd.underlying28 rfl size_tide (by simp) (by kernel_rfl)) ?_
        refine lv (v := .int .i64 fv) rfl rfl (yb_call (f := 66) (args := #[.agg #[.int .i64 F, .int .i64 N, .int .i64 D, .int .i64 B, .int .i64 A], .int .i64 100000000]) (fun _ => by kernel_rfl) fun W hW => hfa W) ?_
        refine lp (v := .bool true) rfl rfl (run_bin rfl (vx := .int .i64 k) (vy := .int .i64 fv) (by kernel_rfl) (by kernel_rfl) fun w => run_geqI (decide_eq_true hge) w) ?_
        refine wpL_done (fun W3 hW3 => ?_)
        clear hW2
        refine (show Code.wp _ _ _ _ _ from ?_)
        refine wp_cond_true rfl ?_
        refine wp_seq ?_
        refine wp_region_L (W0 := w) [(g1, .cells #[.int .i64 F, .int .i64 N, .int .i64 D, .int .i64 B, .int .i64 A] 28 (0, 0))] (hW3) ?_
        refine lm (v := .int .i64 0) rfl rfl ?_
        refine lm (v := .int .i64 3) rfl rfl ?_
        refine wpL_done (fun W4 hW4 => ?_)
        clear hW3
        refine (show Code.wp _ _ _ _ _ from ?_)
        refine wp_ret ?_
        try simp only [inBlock_ret, then_ret]
        exact bodyPost_ret (results_tmp2 rfl _ _ _) rfl ⟨by first | rfl, hW4.1⟩
      · rw [if_neg hge]
        have hkN : k * N ≤ 200000000000 := Int.le_trans (Int.mul_le_mul_of_nonneg_right (show k ≤ fv by omega) (by have := hT.pos; omega)) hk0.2
        go_enter Tryd.func29, Tryd.ntmps29
        refine wp_seq ?_
        refine wp_region_L (W0 := w) [] (KS.start w) ?_
        refine wpL_new (fun g => .pointer (some ⟨g, 0, none⟩)) (obi := .cells #[.int .i64 F, .int .i64 N, .int .i64 D, .int .i64 B, .int .i64 A] 28 (0, 0)) rfl rfl (fun _ => by kernel_rfl) (fun _ => by simp only [List.setIfInBounds_toArray, List.set_cons_succ, List.set_cons_zero] <;> rfl) fun g1 Bg1 Fg1 => ?_
        try simp only [List.forall_mem_cons] at Fg1
        refine lm (v := .int .i64 0) rfl rfl ?_
        refine lm (v := .int .i64 0) rfl rfl ?_
        refine wpL_done (fun W1 hW1 => ?_)
        refine (show Code.wp _ _ _ _ _ from ?_)
        refine wp_seq ?_
        refine wp_seq ?_
        refine wp_region_L (W0 := w) [(g1, .cells #[.int .i64 F, .int .i64 N, .int .i64 D, .int .i64 B, .int .i64 A] 28 (0, 0))] (hW1) ?_
        refine lv (v := .agg #[.int .i64 F, .int .i64 N, .int .i64 D, .int .i64 B, .int .i64 A]) rfl rfl (yb_load (n := 5) (off := 0) rfl (by kernel_rfl) (.head _) Tryd.underlying28 rfl size_tide (by simp) (by kernel_rfl)) ?_
        refine lv (v := .bool true) rfl rfl (yb_call (f := 31) (args := #[.agg #[.int .i64 F, .int .i64 N, .int .i64 D, .int .i64 B, .int .i64 A]]) (fun _ => by kernel_rfl) fun W hW => htd W) ?_
        refine lm (v := .bool false) rfl rfl ?_
        refine lm (v := .bool false) rfl rfl ?_
        refine lm (v := .int .i64 k) rfl rfl ?_
        refine lp (v := .bool false) rfl rfl (run_bin rfl (vx := .int .i64 k) (vy := .int .i64 0) (by kernel_rfl) (by kernel_rfl) fun w => run_lssI (decide_eq_false (by omega)) w) ?_
        refine lm (v := .bool false) rfl rfl ?_
        refine wpL_done (fun W2 hW2 => ?_)
        clear hW1
        refine (show Code.wp _ _ _ _ _ from ?_)
        refine wp_cond_false rfl ?_
        refine wp_skip ?_
        refine (show Code.wp _ _ _ _ _ from ?_)
        refine wp_seq ?_
        refine wp_seq ?_
        refine wp_region_L (W0 := w) [(g1, .cells #[.int .i64 F, .int .i64 N, .int .i64 D, .int .i64 B, .int .i64 A] 28 (0, 0))] (hW2) ?_
        refine lm (v := .int .i64 k) rfl rfl ?_
        refine lv (v := .agg #[.int .i64 F, .int .i64 N, .int .i64 D, .int .i64 B, .int .i64 A]) rfl rfl (yb_load (n := 5) (off := 0) rfl (by kernel_rfl) (.head _) Tryd.underlying28 rfl size_tide (by simp) (by kernel_rfl)) ?_
        refine lv (v := .int .i64 fv) rfl rfl (yb_call (f := 66) (args := #[.agg #[.int .i64 F, .int .i64 N, .int .i64 D, .int .i64 B, .int .i64 A], .int .i64 100000000]) (fun _ => by kernel_rfl) fun W hW => hfa W) ?_
        refine lp (v := .bool false) rfl rfl (run_bin rfl (vx := .int .i64 k) (vy := .int .i64 fv) (by kernel_rfl) (by kernel_rfl) fun w => run_geqI (decide_eq_false hge) w) ?_
        refine wpL_done (fun W3 hW3 => ?_)
        clear hW2
        refine (show Code.wp _ _ _ _ _ from ?_)
        refine wp_cond_false rfl ?_
        refine wp_skip ?_
        refine (show Code.wp _ _ _ _ _ from ?_)
        refine wp_seq ?_
        refine wp_region_L (W0 := w) [(g1, .cells #[.int .i64 F, .int .i64 N, .int .i64 D, .int .i64 B, .int .i64 A] 28 (0, 0))] (hW3) ?_
        refine lv (v := .agg #[.int .i64 F, .int .i64 N, .int .i64 D, .int .i64 B, .int .i64 A]) rfl rfl (yb_load (n := 5) (off := 0) rfl (by kernel_rfl) (.head _) Tryd.underlying28 rfl size_tide (by simp) (by kernel_rfl)) ?_
        refine lm (v := .int .i64 k) rfl rfl ?_
        refine lv (v := .int .i64 (highV F N D k)) rfl rfl (yb_call (f := 67) (args := #[.agg #[.int .i64 F, .int .i64 N, .int .i64 D, .int .i64 B, .int .i64 A], .int .i64 k]) (fun _ => by kernel_rfl) fun W hW => high_any F N D B A hT k hk (by omega) W) ?_
        refine lm (v := .int .i64 (highV F N D k)) rfl rfl ?_
        refine lm (v := .int .i64 0) rfl rfl ?_
        refine wpL_done (fun W4 hW4 => ?_)
        clear hW3
        refine (show Code.wp _ _ _ _ _ from ?_)
        refine wp_ret ?_
        try simp only [inBlock_ret, then_ret]
        exact bodyPost_ret (results_tmp2 rfl _ _ _) rfl ⟨by first | rfl, hW4.1⟩
    · have htd := fun W => Tidal_any F N D B A hN W
      rw [ht] at htd
      rw [if_neg (fun h => hk h.2)]
      go_enter Tryd.func29, Tryd.ntmps29
      refine wp_seq ?_
      refine wp_region_L (W0 := w) [] (KS.start w) ?_
      refine wpL_new (fun g => .pointer (some ⟨g, 0, none⟩)) (obi := .cells #[.int .i64 F, .int .i64 N, .int .i64 D, .int .i64 B, .int .i64 A] 28 (0, 0)) rfl rfl (fun _ => by kernel_rfl) (fun _ => by simp only [List.setIfInBounds_toArray, List.set_cons_succ, List.set_cons_zero] <;> rfl) fun g1 Bg1 Fg1 => ?_
      try simp only [List.forall_mem_cons] at Fg1
      refine lm (v := .int .i64 0) rfl rfl ?_
      refine lm (v := .int .i64 0) rfl rfl ?_
      refine wpL_done (fun W1 hW1 => ?_)
      refine (show Code.wp _ _ _ _ _ from ?_)
      refine wp_seq ?_
      refine wp_seq ?_
      refine wp_region_L (W0 := w) [(g1, .cells #[.int .i64 F, .int .i64 N, .int .i64 D, .int .i64 B, .int .i64 A] 28 (0, 0))] (hW1) ?_
      refine lv (v := .agg #[.int .i64 F, .int .i64 N, .int .i64 D, .int .i64 B, .int .i64 A]) rfl rfl (yb_load (n := 5) (off := 0) rfl (by kernel_rfl) (.head _) Tryd.underlying28 rfl size_tide (by simp) (by kernel_rfl)) ?_
      refine lv (v := .bool true) rfl rfl (yb_call (f := 31) (args := #[.agg #[.int .i64 F, .int .i64 N, .int .i64 D, .int .i64 B, .int .i64 A]]) (fun _ => by kernel_rfl) fun W hW => htd W) ?_
      refine lm (v := .bool false) rfl rfl ?_
      refine lm (v := .bool false) rfl rfl ?_
      refine lm (v := .int .i64 k) rfl rfl ?_
      refine lp (v := .bool true) rfl rfl (run_bin rfl (vx := .int .i64 k) (vy := .int .i64 0) (by kernel_rfl) (by kernel_rfl) fun w => run_lssI (decide_eq_true (by omega)) w) ?_
      refine lm (v := .bool true) rfl rfl ?_
      refine wpL_done (fun W2 hW2 => ?_)
      clear hW1
      refine (show Code.wp _ _ _ _ _ from ?_)
      refine wp_cond_true rfl ?_
      refine wp_seq ?_
      refine wp_region_L (W0 := w) [(g1, .cells #[.int .i64 F, .int .i64 N, .int .i64 D, .int .i64 B, .int .i64 A] 28 (0, 0))] (hW2) ?_
      refine lm (v := .int .i64 0) rfl rfl ?_
      refine lm (v := .int .i64 2) rfl rfl ?_
      refine wpL_done (fun W3 hW3 => ?_)
      clear hW2
      refine (show Code.wp _ _ _ _ _ from ?_)
      refine wp_ret ?_
      try simp only [inBlock_ret, then_ret]
      exact bodyPost_ret (results_tmp2 rfl _ _ _) rfl ⟨by first | rfl, hW3.1⟩
  · have htd := fun W => Tidal_any F N D B A hN W
    rw [(Bool.not_eq_true _).mp ht] at htd
    rw [if_neg (fun h => ht h.1)]
    go_enter Tryd.func29, Tryd.ntmps29
    refine wp_seq ?_
    refine wp_region_L (W0 := w) [] (KS.start w) ?_
    refine wpL_new (fun g => .pointer (some ⟨g, 0, none⟩)) (obi := .cells #[.int .i64 F, .int .i64 N, .int .i64 D, .int .i64 B, .int .i64 A] 28 (0, 0)) rfl rfl (fun _ => by kernel_rfl) (fun _ => by simp only [List.setIfInBounds_toArray, List.set_cons_succ, List.set_cons_zero] <;> rfl) fun g1 Bg1 Fg1 => ?_
    try simp only [List.forall_mem_cons] at Fg1
    refine lm (v := .int .i64 0) rfl rfl ?_
    refine lm (v := .int .i64 0) rfl rfl ?_
    refine wpL_done (fun W1 hW1 => ?_)
    refine (show Code.wp _ _ _ _ _ from ?_)
    refine wp_seq ?_
    refine wp_seq ?_
    refine wp_region_L (W0 := w) [(g1, .cells #[.int .i64 F, .int .i64 N, .int .i64 D, .int .i64 B, .int .i64 A] 28 (0, 0))] (hW1) ?_
    refine lv (v := .agg #[.int .i64 F, .int .i64 N, .int .i64 D, .int .i64 B, .int .i64 A]) rfl rfl (yb_load (n := 5) (off := 0) rfl (by kernel_rfl) (.head _) Tryd.underlying28 rfl size_tide (by simp) (by kernel_rfl)) ?_
    refine lv (v := .bool false) rfl rfl (yb_call (f := 31) (args := #[.agg #[.int .i64 F, .int .i64 N, .int .i64 D, .int .i64 B, .int .i64 A]]) (fun _ => by kernel_rfl) fun W hW => htd W) ?_
    refine lm (v := .bool true) rfl rfl ?_
    refine lm (v := .bool true) rfl rfl ?_
    refine ln rfl ?_
    refine ln rfl ?_
    refine lm (v := .bool true) rfl rfl ?_
    refine wpL_done (fun W2 hW2 => ?_)
    clear hW1
    refine (show Code.wp _ _ _ _ _ from ?_)
    refine wp_cond_true rfl ?_
    refine wp_seq ?_
    refine wp_region_L (W0 := w) [(g1, .cells #[.int .i64 F, .int .i64 N, .int .i64 D, .int .i64 B, .int .i64 A] 28 (0, 0))] (hW2) ?_
    refine lm (v := .int .i64 0) rfl rfl ?_
    refine lm (v := .int .i64 2) rfl rfl ?_
    refine wpL_done (fun W3 hW3 => ?_)
    clear hW2
    refine (show Code.wp _ _ _ _ _ from ?_)
    refine wp_ret ?_
    try simp only [inBlock_ret, then_ret]
    exact bodyPost_ret (results_tmp2 rfl _ _ _) rfl ⟨by first | rfl, hW3.1⟩
end Go.Proofs.YtjmcelgdjpdacaaDoor
namespace Go.Proofs.YtjmcelgdjpdacaaDoor
open Go.RowKit Tw
open Go
set_option maxRecDepth 100000 in
set_option maxHeartbeats 10000000 in
theorem windows_seq (n₀ b1 b2 b3 : Nat) (F N D B A : Int) (hT : TideR F N D B A) (from_ to_ : Int) (fuel0 : Nat) (W0 : World) (hn : n₀ ≤ W0.heap.size) (hb1 : b1 < n₀ ∧ W0.heap[b1]? = some (.cells #[.int .i64 F, .int .i64 N, .int .i64 D, .int .i64 B, .int .i64 A] 28 (0, 0))) (hb2 : b2 < n₀ ∧ W0.heap[b2]? = some (.cells #[.int .i64 from_] 3 (0, 0)))
    (hb3 : b3 < n₀ ∧ W0.heap[b3]? = some (.cells #[.int .i64 to_] 3 (0, 0))) (hf0 : 0 ≤ from_ ∧ from_ ≤ to_ ∧ to_ ≤ 100000000) (hfu0 : to_ - (highV F N D (firstV F N D (from_ - A)) - B) ≤ fuel0) :
    SeqF Tryd.prog 83 #[.pointer (some ⟨b1, 0, none⟩), .pointer (some ⟨b2, 0, none⟩), .pointer (some ⟨b3, 0, none⟩)] encS n₀ W0 (windowsL F N D B A from_ to_ fuel0 (firstV F N D (from_ - A))) := by
  intro l B_ J Jx S0 W1 hB0 hnB hBW hS0 hJa hJxa hYd hJ0
  have hn0 : n₀ ≤ W1.heap.size := Nat.le_trans hn hB0.size
  have hta := hT.a0
  have hta1 := hT.a1
  have htb := hT.b0
  have htb1 := hT.b1
  have htf := hT.f0
  have htf1 := hT.f1
  have hfa := fun W => firstAfter_any F N D B A hT (from_ - A) (by omega) W
  have hk00 := hT.k0 (m := from_ - A) (by omega)
  obtain ⟨k0, hk0⟩ : ∃ v, firstV F N D (from_ - A) = v := ⟨_, rfl⟩
  rw [hk0] at hfa hk00
  have hB0r : Fr S0 S0 W1 W1 := Fr.refl fun k hk => (hS0 k hk).2
  have hLow : ∀ {S : List Nat} {W : World}, Fr S0 S W1 W → Below n₀ W1 W := fun h => h.lower (fun k hk => (hS0 k hk).1) hn0
  have hMem : ∀ {S : List Nat} {W : World}, Fr S0 S W1 W → ∀ k ∈ S, n₀ ≤ k ∧ k < W.heap.size := fun h k hk => ⟨h.low (fun k hk => (hS0 k hk).1) hn0 k hk, (h.own k hk).1⟩
  have low : ∀ (b : Nat) (o : Obj), b < n₀ → W0.heap[b]? = some o → ∀ W, Below n₀ W1 W → W.heap[b]? = some o := fun b o hb h W hW => by
    rw [hW.block b hb, hB0.block b hb]; exact h
  have boxes : ∀ {S : List Nat} (W : World), Fr S0 S W1 W → KS (W : World) [(b1, .cells #[.int .i64 F, .int .i64 N, .int .i64 D, .int .i64 B, .int .i64 A] 28 (0, 0)), (b2, .cells #[.int .i64 from_] 3 (0, 0)), (b3, .cells #[.int .i64 to_] 3 (0, 0))] W := fun W hF => ⟨Below.refl _ _, List.forall_mem_cons.2 ⟨low _ _ hb1.1 hb1.2 W (hLow hF), List.forall_mem_cons.2 ⟨low _ _ hb2.1 hb2.2 W (hLow hF), List.forall_mem_cons.2 ⟨low _ _ hb3.1 hb3.2 W (hLow hF), List.forall_mem_nil _⟩⟩⟩⟩
  refine callsIn_of_wp Tryd.func83 rfl trivial ?_ rfl
  simp only [Tryd.ntmps83, List.size_toArray, List.length_cons, List.length_nil, Nat.reduceAdd, Nat.reduceSub, Array.replicate_succ, Array.replicate_zero, List.push_toArray, List.append_toArray, List.nil_append, List.cons_append]
  refine wpIn_seq ?_
  refine wp_region_LI (W0 := (W1 : World)) [(b1, .cells #[.int .i64 F, .int .i64 N, .int .i64 D, .int .i64 B, .int .i64 A] 28 (0, 0)), (b2, .cells #[.int .i64 from_] 3 (0, 0)), (b3, .cells #[.int .i64 to_] 3 (0, 0))] (by kernel_rfl) ((boxes W1 hB0r)) ?_
  refine lv (v := .agg #[.int .i64 F, .int .i64 N, .int .i64 D, .int .i64 B, .int .i64 A]) rfl rfl (yb_load (n := 5) (off := 0) rfl (by kernel_rfl) (.head _) Tryd.underlying28 rfl size_tide (by simp) (by kernel_rfl)) ?_
  refine lv (v := .int .i64 from_) rfl rfl (yb_loadc (off := 0) rfl (by kernel_rfl) (.tail _ (.head _)) Tryd.underlying3 rfl (by kernel_rfl)) ?_
  refine lm (v := .pointer (some ⟨b1, 4, none⟩)) rfl rfl ?_
  refine lv (v := .int .i64 A) rfl rfl (yb_loadc (off := 4) rfl (by kernel_rfl) (.head _) Tryd.underlying3 rfl (by kernel_rfl)) ?_
  refine lp (v := .int .i64 (from_ - A)) rfl rfl (run_bin rfl (vx := .int .i64 from_) (vy := .int .i64 A) (by kernel_rfl) (by kernel_rfl) fun w => run_subI (z := (from_ - A)) rfl (by omega) w) ?_
  refine lv (v := .int .i64 k0) rfl rfl (yb_call (f := 66) (args := #[.agg #[.int .i64 F, .int .i64 N, .int .i64 D, .int .i64 B, .int .i64 A], .int .i64 (from_ - A)]) (fun _ => by kernel_rfl) fun W hW => hfa W) ?_
  refine lm (v := .int .i64 k0) rfl rfl ?_
  refine wpL_done (fun W2 hW2 => ?_)
  have hR2 : KS (W2 : World) [(b1, .cells #[.int .i64 F, .int .i64 N, .int .i64 D, .int .i64 B, .int .i64 A] 28 (0, 0)), (b2, .cells #[.int .i64 from_] 3 (0, 0)), (b3, .cells #[.int .i64 to_] 3 (0, 0))] W2 := ⟨Below.refl _ _, hW2.2⟩
  obtain ⟨hJ2, hB2⟩ := abideF hJa hJ0 hB0r hW2
  refine (show Code.wpIn _ _ _ _ _ _ _ from ?_)
  refine wpIn_block ?_
  gi_loopw [5] (fun u wr => ∃ (k : Int) (fuel : Nat) (pre : List (Int × Int)) (S : List Nat), (windowsL F N D B A from_ to_ fuel0 (firstV F N D (from_ - A))) = pre ++ windowsL F N D B A from_ to_ fuel k ∧ to_ - (highV F N D k - B) ≤ fuel ∧ 0 ≤ k ∧ k * N ≤ 200000000000 ∧ u = .int .i64 k ∧ J pre S wr ∧ Fr S0 S W1 wr) (fun u _ => (to_ - (highV F N D (intOf u) - B)).toNat)
  case atStart => exact ⟨_, fuel0, [], _, by rw [hk0]; rfl, by rw [← hk0]; exact hfu0, hk00.1, hk00.2, rfl, hJ2, hB2⟩
  case round =>
    obtain ⟨k, fuel, pre, S, hxs, hfu, hk, hkN, rfl, hJr, hBr⟩ := hrel
    have hhi := fun W => high_any F N D B A hT k hk hkN W
    have hrg := high_range hT hk hkN
    have hnx := hT.next (k := k)
    have hrg2 : 0 ≤ highV F N D k ∧ highV F N D k ≤ 300000000000 := by unfold highV; omega
    have hst := hT.step (k := k) (to_ := to_) hk (by omega)
    obtain ⟨at_, hat⟩ : ∃ v, highV F N D k = v := ⟨_, rfl⟩
    rw [hat] at hhi hnx hrg2 hfu hst
    by_cases hge : to_ ≤ at_ - B
    · have hend : windowsL F N D B A from_ to_ fuel k = [] := by cases fuel with | zero => rfl | succ f => rw [windowsL, hat, if_pos hge]
      rw [hend, List.append_nil] at hxs
      refine wpIn_seq ?_
      refine wpIn_block ?_
      refine wpIn_seq ?_
      refine wp_region_LI (W0 := (wr : World)) [(b1, .cells #[.int .i64 F, .int .i64 N, .int .i64 D, .int .i64 B, .int .i64 A] 28 (0, 0)), (b2, .cells #[.int .i64 from_] 3 (0, 0)), (b3, .cells #[.int .i64 to_] 3 (0, 0))] (by kernel_rfl) ((boxes wr hBr)) ?_
      refine lv (v := .agg #[.int .i64 F, .int .i64 N, .int .i64 D, .int .i64 B, .int .i64 A]) rfl rfl (yb_load (n := 5) (off := 0) rfl (by kernel_rfl) (.head _) Tryd.underlying28 rfl size_tide (by simp) (by kernel_rfl)) ?_
      refine lm (v := .int .i64 k) rfl rfl ?_
      refine lv (v := .int .i64 at_) rfl rfl (yb_call (f := 67) (args := #[.agg #[.int .i64 F, .int .i64 N, .int .i64 D, .int .i64 B, .int .i64 A], .int .i64 k]) (fun _ => by kernel_rfl) fun W hW => hhi W) ?_
      refine lm (v := .int .i64 at_) rfl rfl ?_
      refine wpL_done (fun W3 hW3 => ?_)
      have hR3 : KS (W3 : World) [(b1, .cells #[.int .i64 F, .int .i64 N, .int .i64 D, .int .i64 B, .int .i64 A] 28 (0, 0)), (b2, .cells #[.int .i64 from_] 3 (0, 0)), (b3, .cells #[.int .i64 to_] 3 (0, 0))] W3 := ⟨Below.refl _ _, hW3.2⟩
      obtain ⟨hJ3, hB3⟩ := abideF hJa hJr hBr hW3
      refine (show Code.wpIn _ _ _ _ _ _ _ from ?_)
      refine wpIn_seq ?_
      refine wpIn_seq ?_
      refine wp_region_LI (W0 := (W3 : World)) [(b1, .cells #[.int .i64 F, .int .i64 N, .int .i64 D, .int .i64 B, .int .i64 A] 28 (0, 0)), (b2, .cells #[.int .i64 from_] 3 (0, 0)), (b3, .cells #[.int .i64 to_] 3 (0, 0))] (by kernel_rfl) (hR3) ?_
      refine lm (v := .int .i64 at_) rfl rfl ?_
      refine lm (v := .pointer (some ⟨b1, 3, none⟩)) rfl rfl ?_
      refine lv (v := .int .i64 B) rfl rfl (yb_loadc (off := 3) rfl (by kernel_rfl) (.head _) Tryd.underlying3 rfl (by kernel_rfl)) ?_
      refine lp (v := .int .i64 (at_ - B)) rfl rfl (run_bin rfl (vx := .int .i64 at_) (vy := .int .i64 B) (by kernel_rfl) (by kernel_rfl) fun w => run_subI (z := (at_ - B)) rfl (by omega) w) ?_
      refine lv (v := .int .i64 to_) rfl rfl (yb_loadc (off := 0) rfl (by kernel_rfl) (.tail _ (.tail _ (.head _))) Tryd.underlying3 rfl (by kernel_rfl)) ?_
      refine lp (v := .bool true) rfl rfl (run_bin rfl (vx := .int .i64 (at_ - B)) (vy := .int .i64 to_) (by kernel_rfl) (by kernel_rfl) fun w => run_geqI (decide_eq_true hge) w) ?_
      refine wpL_done (fun W4 hW4 => ?_)
      have hR4 : KS (W4 : World) [(b1, .cells #[.int .i64 F, .int .i64 N, .int .i64 D, .int .i64 B, .int .i64 A] 28 (0, 0)), (b2, .cells #[.int .i64 from_] 3 (0, 0)), (b3, .cells #[.int .i64 to_] 3 (0, 0))] W4 := ⟨Below.refl _ _, hW4.2⟩
      obtain ⟨hJ4, hB4⟩ := abideF hJa hJ3 hB3 hW4
      refine (show Code.wpIn _ _ _ _ _ _ _ from ?_)
      refine wpIn_cond_true rfl ?_
      refine wpIn_ret ?_
      try simp only [inBlock_ret, then_ret]
      refine bodyPost_ret (results_none rfl _ _ _) rfl ?_
      exact ⟨⟨_, rfl⟩, _, hB4, .inl (hxs.symm ▸ hJ4)⟩
    · obtain ⟨fuel, rfl⟩ : ∃ f, fuel = f + 1 := ⟨fuel - 1, by omega⟩
      rw [windowsL, hat, if_neg hge] at hxs
      have hkN1 := hst (by omega)
      have hk1 := hT.small hkN1 (by omega)
      by_cases he : min (at_ + A) to_ ≤ max (at_ - B) from_
      · have hem := fun W => empty_any (max (at_ - B) from_) (min (at_ + A) to_) W
        rw [decide_eq_true he] at hem
        refine wpIn_seq ?_
        refine wpIn_block ?_
        refine wpIn_seq ?_
        refine wp_region_LI (W0 := (wr : World)) [(b1, .cells #[.int .i64 F, .int .i64 N, .int .i64 D, .int .i64 B, .int .i64 A] 28 (0, 0)), (b2, .cells #[.int .i64 from_] 3 (0, 0)), (b3, .cells #[.int .i64 to_] 3 (0, 0))] (by kernel_rfl) ((boxes wr hBr)) ?_
        refine lv (v := .agg #[.int .i64 F, .int .i64 N, .int .i64 D, .int .i64 B, .int .i64 A]) rfl rfl (yb_load (n := 5) (off := 0) rfl (by kernel_rfl) (.head _) Tryd.underlying28 rfl size_tide (by simp) (by kernel_rfl)) ?_
        refine lm (v := .int .i64 k) rfl rfl ?_
        refine lv (v := .int .i64 at_) rfl rfl (yb_call (f := 67) (args := #[.agg #[.int .i64 F, .int .i64 N, .int .i64 D, .int .i64 B, .int .i64 A], .int .i64 k]) (fun _ => by kernel_rfl) fun W hW => hhi W) ?_
        refine lm (v := .int .i64 at_) rfl rfl ?_
        refine wpL_done (fun W3 hW3 => ?_)
        have hR3 : KS (W3 : World) [(b1, .cells #[.int .i64 F, .int .i64 N, .int .i64 D, .int .i64 B, .int .i64 A] 28 (0, 0)), (b2, .cells #[.int .i64 from_] 3 (0, 0)), (b3, .cells #[.int .i64 to_] 3 (0, 0))] W3 := ⟨Below.refl _ _, hW3.2⟩
        obtain ⟨hJ3, hB3⟩ := abideF hJa hJr hBr hW3
        refine (show Code.wpIn _ _ _ _ _ _ _ from ?_)
        refine wpIn_seq ?_
        refine wpIn_seq ?_
        refine wp_region_LI (W0 := (W3 : World)) [(b1, .cells #[.int .i64 F, .int .i64 N, .int .i64 D, .int .i64 B, .int .i64 A] 28 (0, 0)), (b2, .cells #[.int .i64 from_] 3 (0, 0)), (b3, .cells #[.int .i64 to_] 3 (0, 0))] (by kernel_rfl) (hR3) ?_
        refine lm (v := .int .i64 at_) rfl rfl ?_
        refine lm (v := .pointer (some ⟨b1, 3, none⟩)) rfl rfl ?_
        refine lv (v := .int .i64 B) rfl rfl (yb_loadc (off := 3) rfl (by kernel_rfl) (.head _) Tryd.underlying3 rfl (by kernel_rfl)) ?_
        refine lp (v := .int .i64 (at_ - B)) rfl rfl (run_bin rfl (vx := .int .i64 at_) (vy := .int .i64 B) (by kernel_rfl) (by kernel_rfl) fun w => run_subI (z := (at_ - B)) rfl (by omega) w) ?_
        refine lv (v := .int .i64 to_) rfl rfl (yb_loadc (off := 0) rfl (by kernel_rfl) (.tail _ (.tail _ (.head _))) Tryd.underlying3 rfl (by kernel_rfl)) ?_
        refine lp (v := .bool false) rfl rfl (run_bin rfl (vx := .int .i64 (at_ - B)) (vy := .int .i64 to_) (by kernel_rfl) (by kernel_rfl) fun w => run_geqI (decide_eq_false hge) w) ?_
        refine wpL_done (fun W4 hW4 => ?_)
        have hR4 : KS (W4 : World) [(b1, .cells #[.int .i64 F, .int .i64 N, .int .i64 D, .int .i64 B, .int .i64 A] 28 (0, 0)), (b2, .cells #[.int .i64 from_] 3 (0, 0)), (b3, .cells #[.int .i64 to_] 3 (0, 0))] W4 := ⟨Below.refl _ _, hW4.2⟩
        obtain ⟨hJ4, hB4⟩ := abideF hJa hJ3 hB3 hW4
        refine (show Code.wpIn _ _ _ _ _ _ _ from ?_)
        refine wpIn_cond_false rfl ?_
        refine wpIn_skip ?_
        refine (show Code.wpIn _ _ _ _ _ _ _ from ?_)
        refine wpIn_seq ?_
        refine wp_region_LI (W0 := (W4 : World)) [(b1, .cells #[.int .i64 F, .int .i64 N, .int .i64 D, .int .i64 B, .int .i64 A] 28 (0, 0)), (b2, .cells #[.int .i64 from_] 3 (0, 0)), (b3, .cells #[.int .i64 to_] 3 (0, 0))] (by kernel_rfl) (hR4) ?_
        refine lm (v := .int .i64 at_) rfl rfl ?_
        refine lm (v := .pointer (some ⟨b1, 3, none⟩)) rfl rfl ?_
        refine lv (v := .int .i64 B) rfl rfl (yb_loadc (off := 3) rfl (by kernel_rfl) (.head _) Tryd.underlying3 rfl (by kernel_rfl)) ?_
        refine lp (v := .int .i64 (at_ - B)) rfl rfl (run_bin rfl (vx := .int .i64 at_) (vy := .int .i64 B) (by kernel_rfl) (by kernel_rfl) fun w => run_subI (z := (at_ - B)) rfl (by omega) w) ?_
        refine lm (v := .int .i64 at_) rfl rfl ?_
        refine lm (v := .pointer (some ⟨b1, 4, none⟩)) rfl rfl ?_
        refine lv (v := .int .i64 A) rfl rfl (yb_loadc (off := 4) rfl (by kernel_rfl) (.head _) Tryd.underlying3 rfl (by kernel_rfl)) ?_
        refine lp (v := .int .i64 (at_ + A)) rfl rfl (run_bin rfl (vx := .int .i64 at_) (vy := .int .i64 A) (by kernel_rfl) (by kernel_rfl) fun w => run_addI (z := (at_ + A)) rfl (by omega) w) ?_
        refine lm (v := .agg #[.int .i64 (at_ - B), .int .i64 (at_ + A)]) rfl rfl ?_
        refine lv (v := .int .i64 from_) rfl rfl (yb_loadc (off := 0) rfl (by kernel_rfl) (.tail _ (.head _)) Tryd.underlying3 rfl (by kernel_rfl)) ?_
        refine lv (v := .int .i64 to_) rfl rfl (yb_loadc (off := 0) rfl (by kernel_rfl) (.tail _ (.tail _ (.head _))) Tryd.underlying3 rfl (by kernel_rfl)) ?_
        refine lm (v := .agg #[.int .i64 from_, .int .i64 to_]) rfl rfl ?_
        refine lv (v := .agg #[.int .i64 (max (at_ - B) from_), .int .i64 (min (at_ + A) to_)]) rfl rfl (yb_call (f := 59) (args := #[.agg #[.int .i64 (at_ - B), .int .i64 (at_ + A)], .agg #[.int .i64 from_, .int .i64 to_]]) (fun _ => by kernel_rfl) fun W hW => both_any (at_ - B) (at_ + A) from_ to_ W) ?_
        refine wpL_new (fun g => .pointer (some ⟨g, 0, none⟩)) (obi := .cells #[.int .i64 0, .int .i64 0] 41 (0, 0)) rfl rfl (fun _ => by kernel_rfl) (fun _ => by simp only [List.setIfInBounds_toArray, List.set_cons_succ, List.set_cons_zero] <;> rfl) fun g1 Bg1 Fg1 => ?_
        try simp only [List.forall_mem_cons] at Fg1
        refine wpL_s [(g1, .cells #[.int .i64 (max (at_ - B) from_), .int .i64 (min (at_ + A) to_)] 41 (0, 0)), (b1, .cells #[.int .i64 F, .int .i64 N, .int .i64 D, .int .i64 B, .int .i64 A] 28 (0, 0)), (b2, .cells #[.int .i64 from_] 3 (0, 0)), (b3, .cells #[.int .i64 to_] 3 (0, 0))] rfl rfl (st_span rfl (by kernel_rfl) (by kernel_rfl) (.head _) (by omega) (List.forall_mem_cons.2 ⟨.inl rfl, (List.forall_mem_cons.2 ⟨.inr ⟨(.tail _ (.head _)), Fg1.1⟩, (List.forall_mem_cons.2 ⟨.inr ⟨(.tail _ (.tail _ (.head _))), Fg1.2.1⟩, (List.forall_mem_cons.2 ⟨.inr ⟨(.tail _ (.tail _ (.tail _ (.head _)))), Fg1.2.2.1⟩, (List.forall_mem_nil _)⟩)⟩)⟩)⟩)) ?_
        refine wpL_done (fun W5 hW5 => ?_)
        have hR5 : KS (W5 : World) [(g1, .cells #[.int .i64 (max (at_ - B) from_), .int .i64 (min (at_ + A) to_)] 41 (0, 0)), (b1, .cells #[.int .i64 F, .int .i64 N, .int .i64 D, .int .i64 B, .int .i64 A] 28 (0, 0)), (b2, .cells #[.int .i64 from_] 3 (0, 0)), (b3, .cells #[.int .i64 to_] 3 (0, 0))] W5 := ⟨Below.refl _ _, hW5.2⟩
        obtain ⟨hJ5, hB5⟩ := abideF hJa hJ4 hB4 hW5
        refine (show Code.wpIn _ _ _ _ _ _ _ from ?_)
        refine wpIn_seq ?_
        refine wp_region_LI (W0 := (W5 : World)) [(g1, .cells #[.int .i64 (max (at_ - B) from_), .int .i64 (min (at_ + A) to_)] 41 (0, 0)), (b1, .cells #[.int .i64 F, .int .i64 N, .int .i64 D, .int .i64 B, .int .i64 A] 28 (0, 0)), (b2, .cells #[.int .i64 from_] 3 (0, 0)), (b3, .cells #[.int .i64 to_] 3 (0, 0))] (by kernel_rfl) (hR5) ?_
        refine lv (v := .agg #[.int .i64 (max (at_ - B) from_), .int .i64 (min (at_ + A) to_)]) rfl rfl (yb_load (n := 2) (off := 0) rfl (by kernel_rfl) (.head _) Tryd.underlying41 rfl size_span (by simp) (by kernel_rfl)) ?_
        refine lv (v := .bool true) rfl rfl (yb_call (f := 60) (args := #[.agg #[.int .i64 (max (at_ - B) from_), .int .i64 (min (at_ + A) to_)]]) (fun _ => by kernel_rfl) fun W hW => hem W) ?_
        refine lm (v := .bool false) rfl rfl ?_
        refine lm (v := .bool false) rfl rfl ?_
        refine ln rfl ?_
        refine ln rfl ?_
        refine ln rfl ?_
        refine ln rfl ?_
        refine lm (v := .bool false) rfl rfl ?_
        refine wpL_done (fun W6 hW6 => ?_)
        have hR6 : KS (W6 : World) [(g1, .cells #[.int .i64 (max (at_ - B) from_), .int .i64 (min (at_ + A) to_)] 41 (0, 0)), (b1, .cells #[.int .i64 F, .int .i64 N, .int .i64 D, .int .i64 B, .int .i64 A] 28 (0, 0)), (b2, .cells #[.int .i64 from_] 3 (0, 0)), (b3, .cells #[.int .i64 to_] 3 (0, 0))] W6 := ⟨Below.refl _ _, hW6.2⟩
        obtain ⟨hJ6, hB6⟩ := abideF hJa hJ5 hB5 hW6
        refine (show Code.wpIn _ _ _ _ _ _ _ from ?_)
        refine wpIn_cond_false rfl ?_
        refine wpIn_skip ?_
        refine (show Code.wpIn _ _ _ _ _ _ _ from ?_)
        refine wp_region_LI (W0 := (W6 : World)) [(g1, .cells #[.int .i64 (max (at_ - B) from_), .int .i64 (min (at_ + A) to_)] 41 (0, 0)), (b1, .cells #[.int .i64 F, .int .i64 N, .int .i64 D, .int .i64 B, .int .i64 A] 28 (0, 0)), (b2, .cells #[.int .i64 from_] 3 (0, 0)), (b3, .cells #[.int .i64 to_] 3 (0, 0))] (by kernel_rfl) (hR6) ?_
        refine lm (v := .int .i64 k) rfl rfl ?_
        refine lp (v := .int .i64 (k + 1)) rfl rfl (run_bin rfl (vx := .int .i64 k) (vy := .int .i64 1) (by kernel_rfl) (by kernel_rfl) fun w => run_addI (z := (k + 1)) rfl (by omega) w) ?_
        refine lm (v := .int .i64 (k + 1)) rfl rfl ?_
        refine wpL_done (fun W7 hW7 => ?_)
        have hR7 : KS (W7 : World) [(g1, .cells #[.int .i64 (max (at_ - B) from_), .int .i64 (min (at_ + A) to_)] 41 (0, 0)), (b1, .cells #[.int .i64 F, .int .i64 N, .int .i64 D, .int .i64 B, .int .i64 A] 28 (0, 0)), (b2, .cells #[.int .i64 from_] 3 (0, 0)), (b3, .cells #[.int .i64 to_] 3 (0, 0))] W7 := ⟨Below.refl _ _, hW7.2⟩
        obtain ⟨hJ7, hB7⟩ := abideF hJa hJ6 hB6 hW7
        go_roundw
        case rel =>
          repeat apply Exists.intro
          exact ⟨⟨k + 1, fuel, pre, _, by rw [hxs, if_pos he]; simp, by omega, by omega, hkN1, rfl, hJ7, hB7⟩, rfl⟩
        case measure => (show (to_ - (highV F N D (intOf (.int .i64 (k + 1))) - B)).toNat < (to_ - (highV F N D (intOf (.int .i64 k)) - B)).toNat); simp only [intOf]; omega
      · have hem := fun W => empty_any (max (at_ - B) from_) (min (at_ + A) to_) W
        rw [decide_eq_false he] at hem
        refine wpIn_seq ?_
        refine wpIn_block ?_
        refine wpIn_seq ?_
        refine wp_region_LI (W0 := (wr : World)) [(b1, .cells #[.int .i64 F, .int .i64 N, .int .i64 D, .int .i64 B, .int .i64 A] 28 (0, 0)), (b2, .cells #[.int .i64 from_] 3 (0, 0)), (b3, .cells #[.int .i64 to_] 3 (0, 0))] (by kernel_rfl) ((boxes wr hBr)) ?_
        refine lv (v := .agg #[.int .i64 F, .int .i64 N, .int .i64 D, .int .i64 B, .int .i64 A]) rfl rfl (yb_load (n := 5) (off := 0) rfl (by kernel_rfl) (.head _) Tryd.underlying28 rfl size_tide (by simp) (by kernel_rfl)) ?_
        refine lm (v := .int .i64 k) rfl rfl ?_
        refine lv (v := .int .i64 at_) rfl rfl (yb_call (f := 67) (args := #[.agg #[.int .i64 F, .int .i64 N, .int .i64 D, .int .i64 B, .int .i64 A], .int .i64 k]) (fun _ => by kernel_rfl) fun W hW => hhi W) ?_
        refine lm (v := .int .i64 at_) rfl rfl ?_
        refine wpL_done (fun W3 hW3 => ?_)
        have hR3 : KS (W3 : World) [(b1, .cells #[.int .i64 F, .int .i64 N, .int .i64 D, .int .i64 B, .int .i64 A] 28 (0, 0)), (b2, .cells #[.int .i64 from_] 3 (0, 0)), (b3, .cells #[.int .i64 to_] 3 (0, 0))] W3 := ⟨Below.refl _ _, hW3.2⟩
        obtain ⟨hJ3, hB3⟩ := abideF hJa hJr hBr hW3
        refine (show Code.wpIn _ _ _ _ _ _ _ from ?_)
        refine wpIn_seq ?_
        refine wpIn_seq ?_
        refine wp_region_LI (W0 := (W3 : World)) [(b1, .cells #[.int .i64 F, .int .i64 N, .int .i64 D, .int .i64 B, .int .i64 A] 28 (0, 0)), (b2, .cells #[.int .i64 from_] 3 (0, 0)), (b3, .cells #[.int .i64 to_] 3 (0, 0))] (by kernel_rfl) (hR3) ?_
        refine lm (v := .int .i64 at_) rfl rfl ?_
        refine lm (v := .pointer (some ⟨b1, 3, none⟩)) rfl rfl ?_
        refine lv (v := .int .i64 B) rfl rfl (yb_loadc (off := 3) rfl (by kernel_rfl) (.head _) Tryd.underlying3 rfl (by kernel_rfl)) ?_
        refine lp (v := .int .i64 (at_ - B)) rfl rfl (run_bin rfl (vx := .int .i64 at_) (vy := .int .i64 B) (by kernel_rfl) (by kernel_rfl) fun w => run_subI (z := (at_ - B)) rfl (by omega) w) ?_
        refine lv (v := .int .i64 to_) rfl rfl (yb_loadc (off := 0) rfl (by kernel_rfl) (.tail _ (.tail _ (.head _))) Tryd.underlying3 rfl (by kernel_rfl)) ?_
        refine lp (v := .bool false) rfl rfl (run_bin rfl (vx := .int .i64 (at_ - B)) (vy := .int .i64 to_) (by kernel_rfl) (by kernel_rfl) fun w => run_geqI (decide_eq_false hge) w) ?_
        refine wpL_done (fun W4 hW4 => ?_)
        have hR4 : KS (W4 : World) [(b1, .cells #[.int .i64 F, .int .i64 N, .int .i64 D, .int .i64 B, .int .i64 A] 28 (0, 0)), (b2, .cells #[.int .i64 from_] 3 (0, 0)), (b3, .cells #[.int .i64 to_] 3 (0, 0))] W4 := ⟨Below.refl _ _, hW4.2⟩
        obtain ⟨hJ4, hB4⟩ := abideF hJa hJ3 hB3 hW4
        refine (show Code.wpIn _ _ _ _ _ _ _ from ?_)
        refine wpIn_cond_false rfl ?_
        refine wpIn_skip ?_
        refine (show Code.wpIn _ _ _ _ _ _ _ from ?_)
        refine wpIn_seq ?_
        refine wp_region_LI (W0 := (W4 : World)) [(b1, .cells #[.int .i64 F, .int .i64 N, .int .i64 D, .int .i64 B, .int .i64 A] 28 (0, 0)), (b2, .cells #[.int .i64 from_] 3 (0, 0)), (b3, .cells #[.int .i64 to_] 3 (0, 0))] (by kernel_rfl) (hR4) ?_
        refine lm (v := .int .i64 at_) rfl rfl ?_
        refine lm (v := .pointer (some ⟨b1, 3, none⟩)) rfl rfl ?_
        refine lv (v := .int .i64 B) rfl rfl (yb_loadc (off := 3) rfl (by kernel_rfl) (.head _) Tryd.underlying3 rfl (by kernel_rfl)) ?_
        refine lp (v := .int .i64 (at_ - B)) rfl rfl (run_bin rfl (vx := .int .i64 at_) (vy := .int .i64 B) (by kernel_rfl) (by kernel_rfl) fun w => run_subI (z := (at_ - B)) rfl (by omega) w) ?_
        refine lm (v := .int .i64 at_) rfl rfl ?_
        refine lm (v := .pointer (some ⟨b1, 4, none⟩)) rfl rfl ?_
        refine lv (v := .int .i64 A) rfl rfl (yb_loadc (off := 4) rfl (by kernel_rfl) (.head _) Tryd.underlying3 rfl (by kernel_rfl)) ?_
        refine lp (v := .int .i64 (at_ + A)) rfl rfl (run_bin rfl (vx := .int .i64 at_) (vy := .int .i64 A) (by kernel_rfl) (by kernel_rfl) fun w => run_addI (z := (at_ + A)) rfl (by omega) w) ?_
        refine lm (v := .agg #[.int .i64 (at_ - B), .int .i64 (at_ + A)]) rfl rfl ?_
        refine lv (v := .int .i64 from_) rfl rfl (yb_loadc (off := 0) rfl (by kernel_rfl) (.tail _ (.head _)) Tryd.underlying3 rfl (by kernel_rfl)) ?_
        refine lv (v := .int .i64 to_) rfl rfl (yb_loadc (off := 0) rfl (by kernel_rfl) (.tail _ (.tail _ (.head _))) Tryd.underlying3 rfl (by kernel_rfl)) ?_
        refine lm (v := .agg #[.int .i64 from_, .int .i64 to_]) rfl rfl ?_
        refine lv (v := .agg #[.int .i64 (max (at_ - B) from_), .int .i64 (min (at_ + A) to_)]) rfl rfl (yb_call (f := 59) (args := #[.agg #[.int .i64 (at_ - B), .int .i64 (at_ + A)], .agg #[.int .i64 from_, .int .i64 to_]]) (fun _ => by kernel_rfl) fun W hW => both_any (at_ - B) (at_ + A) from_ to_ W) ?_
        refine wpL_new (fun g => .pointer (some ⟨g, 0, none⟩)) (obi := .cells #[.int .i64 0, .int .i64 0] 41 (0, 0)) rfl rfl (fun _ => by kernel_rfl) (fun _ => by simp only [List.setIfInBounds_toArray, List.set_cons_succ, List.set_cons_zero] <;> rfl) fun g1 Bg1 Fg1 => ?_
        try simp only [List.forall_mem_cons] at Fg1
        refine wpL_s [(g1, .cells #[.int .i64 (max (at_ - B) from_), .int .i64 (min (at_ + A) to_)] 41 (0, 0)), (b1, .cells #[.int .i64 F, .int .i64 N, .int .i64 D, .int .i64 B, .int .i64 A] 28 (0, 0)), (b2, .cells #[.int .i64 from_] 3 (0, 0)), (b3, .cells #[.int .i64 to_] 3 (0, 0))] rfl rfl (st_span rfl (by kernel_rfl) (by kernel_rfl) (.head _) (by omega) (List.forall_mem_cons.2 ⟨.inl rfl, (List.forall_mem_cons.2 ⟨.inr ⟨(.tail _ (.head _)), Fg1.1⟩, (List.forall_mem_cons.2 ⟨.inr ⟨(.tail _ (.tail _ (.head _))), Fg1.2.1⟩, (List.forall_mem_cons.2 ⟨.inr ⟨(.tail _ (.tail _ (.tail _ (.head _)))), Fg1.2.2.1⟩, (List.forall_mem_nil _)⟩)⟩)⟩)⟩)) ?_
        refine wpL_done (fun W5 hW5 => ?_)
        have hR5 : KS (W5 : World) [(g1, .cells #[.int .i64 (max (at_ - B) from_), .int .i64 (min (at_ + A) to_)] 41 (0, 0)), (b1, .cells #[.int .i64 F, .int .i64 N, .int .i64 D, .int .i64 B, .int .i64 A] 28 (0, 0)), (b2, .cells #[.int .i64 from_] 3 (0, 0)), (b3, .cells #[.int .i64 to_] 3 (0, 0))] W5 := ⟨Below.refl _ _, hW5.2⟩
        obtain ⟨hJ5, hB5⟩ := abideF hJa hJ4 hB4 hW5
        refine (show Code.wpIn _ _ _ _ _ _ _ from ?_)
        refine wpIn_seq ?_
        refine wp_region_S (W0 := (W5 : World)) (List.take 6 _) (List.drop 6 _) [(g1, .cells #[.int .i64 (max (at_ - B) from_), .int .i64 (min (at_ + A) to_)] 41 (0, 0)), (b1, .cells #[.int .i64 F, .int .i64 N, .int .i64 D, .int .i64 B, .int .i64 A] 28 (0, 0)), (b2, .cells #[.int .i64 from_] 3 (0, 0)), (b3, .cells #[.int .i64 to_] 3 (0, 0))] (List.take_append_drop 6 _).symm (by kernel_rfl) (hR5) ?_
        simp only [List.take_succ_cons, List.take_zero, List.drop_succ_cons, List.drop_zero]
        refine lv (v := .agg #[.int .i64 (max (at_ - B) from_), .int .i64 (min (at_ + A) to_)]) rfl rfl (yb_load (n := 2) (off := 0) rfl (by kernel_rfl) (.head _) Tryd.underlying41 rfl size_span (by simp) (by kernel_rfl)) ?_
        refine lv (v := .bool false) rfl rfl (yb_call (f := 60) (args := #[.agg #[.int .i64 (max (at_ - B) from_), .int .i64 (min (at_ + A) to_)]]) (fun _ => by kernel_rfl) fun W hW => hem W) ?_
        refine lm (v := .bool true) rfl rfl ?_
        refine lm (v := .bool true) rfl rfl ?_
        refine lm (v := .func (.yield l) #[] #[]) rfl rfl ?_
        refine lv (v := .agg #[.int .i64 (max (at_ - B) from_), .int .i64 (min (at_ + A) to_)]) rfl rfl (yb_load (n := 2) (off := 0) rfl (by kernel_rfl) (.head _) Tryd.underlying41 rfl size_span (by simp) (by kernel_rfl)) ?_
        refine wpL_done (fun W6 hW6 => ?_)
        have hR6 : KS (W6 : World) [(g1, .cells #[.int .i64 (max (at_ - B) from_), .int .i64 (min (at_ + A) to_)] 41 (0, 0)), (b1, .cells #[.int .i64 F, .int .i64 N, .int .i64 D, .int .i64 B, .int .i64 A] 28 (0, 0)), (b2, .cells #[.int .i64 from_] 3 (0, 0)), (b3, .cells #[.int .i64 to_] 3 (0, 0))] W6 := ⟨Below.refl _ _, hW6.2⟩
        obtain ⟨hJ6, hB6⟩ := abideF hJa hJ5 hB5 hW6
        refine (show wpListIn _ _ _ _ _ _ _ _ from ?_)
        have hYY := yieldF (m := 0) (r := none) (hYd pre ((max (at_ - B) from_), (min (at_ + A) to_)) _ W6 hJ6 (hMem hB6) (pre_of (rest := windowsL F N D B A from_ to_ fuel (k + 1)) (by rw [hxs, if_neg he]; simp)))
        refine wpl_yield rfl rfl (by kernel_rfl) (by kernel_rfl) (by kernel_rfl) rfl hYY (by simp only [List.setIfInBounds_toArray, List.set_cons_succ, List.set_cons_zero] <;> rfl) (by simp only [List.setIfInBounds_toArray, List.set_cons_succ, List.set_cons_zero] <;> rfl) (fun W7 hA7 => ?_) (fun W7 hX7 => ?_)
        · obtain ⟨Sy, hBy, hJy⟩ := hA7
          have hBy2 := hB6.trans hBy
          have hKy : KS (W7 : World) [(b1, .cells #[.int .i64 F, .int .i64 N, .int .i64 D, .int .i64 B, .int .i64 A] 28 (0, 0)), (b2, .cells #[.int .i64 from_] 3 (0, 0)), (b3, .cells #[.int .i64 to_] 3 (0, 0))] W7 := boxes W7 hBy2
          refine wpl_rest (W0 := (W7 : World)) [(b1, .cells #[.int .i64 F, .int .i64 N, .int .i64 D, .int .i64 B, .int .i64 A] 28 (0, 0)), (b2, .cells #[.int .i64 from_] 3 (0, 0)), (b3, .cells #[.int .i64 to_] 3 (0, 0))] (by kernel_rfl) (hKy) ?_
          refine lm (v := .bool false) rfl rfl ?_
          refine lm (v := .bool false) rfl rfl ?_
          refine wpL_done (fun W8 hW8 => ?_)
          have hR8 : KS (W8 : World) [(b1, .cells #[.int .i64 F, .int .i64 N, .int .i64 D, .int .i64 B, .int .i64 A] 28 (0, 0)), (b2, .cells #[.int .i64 from_] 3 (0, 0)), (b3, .cells #[.int .i64 to_] 3 (0, 0))] W8 := ⟨Below.refl _ _, hW8.2⟩
          obtain ⟨hJ8, hB8⟩ := abideF hJa hJy hBy2 hW8
          refine (show Code.wpIn _ _ _ _ _ _ _ from ?_)
          refine wpIn_cond_false rfl ?_
          refine wpIn_skip ?_
          refine (show Code.wpIn _ _ _ _ _ _ _ from ?_)
          refine wp_region_LI (W0 := (W8 : World)) [(b1, .cells #[.int .i64 F, .int .i64 N, .int .i64 D, .int .i64 B, .int .i64 A] 28 (0, 0)), (b2, .cells #[.int .i64 from_] 3 (0, 0)), (b3, .cells #[.int .i64 to_] 3 (0, 0))] (by kernel_rfl) (hR8) ?_
          refine lm (v := .int .i64 k) rfl rfl ?_
          refine lp (v := .int .i64 (k + 1)) rfl rfl (run_bin rfl (vx := .int .i64 k) (vy := .int .i64 1) (by kernel_rfl) (by kernel_rfl) fun w => run_addI (z := (k + 1)) rfl (by omega) w) ?_
          refine lm (v := .int .i64 (k + 1)) rfl rfl ?_
          refine wpL_done (fun W9 hW9 => ?_)
          have hR9 : KS (W9 : World) [(b1, .cells #[.int .i64 F, .int .i64 N, .int .i64 D, .int .i64 B, .int .i64 A] 28 (0, 0)), (b2, .cells #[.int .i64 from_] 3 (0, 0)), (b3, .cells #[.int .i64 to_] 3 (0, 0))] W9 := ⟨Below.refl _ _, hW9.2⟩
          obtain ⟨hJ9, hB9⟩ := abideF hJa hJ8 hB8 hW9
          go_roundw
          case rel =>
            repeat apply Exists.intro
            exact ⟨⟨k + 1, fuel, (pre ++ [((max (at_ - B) from_), (min (at_ + A) to_))]), _, by rw [hxs, if_neg he]; simp, by omega, by omega, hkN1, rfl, hJ9, hB9⟩, rfl⟩
          case measure => (show (to_ - (highV F N D (intOf (.int .i64 (k + 1))) - B)).toNat < (to_ - (highV F N D (intOf (.int .i64 k)) - B)).toNat); simp only [intOf]; omega
        · obtain ⟨Sy, hBy, hJy⟩ := hX7
          have hBy2 := hB6.trans hBy
          have hKy : KS (W7 : World) [] W7 := KS.start _
          refine wpl_rest (W0 := (W7 : World)) [] (by kernel_rfl) (hKy) ?_
          refine lm (v := .bool true) rfl rfl ?_
          refine lm (v := .bool true) rfl rfl ?_
          refine wpL_done (fun W8 hW8 => ?_)
          refine (show Code.wpIn _ _ _ _ _ _ _ from ?_)
          refine wpIn_cond_true rfl ?_
          refine wpIn_ret ?_
          try simp only [inBlock_ret, then_ret]
          refine bodyPost_ret (results_none rfl _ _ _) rfl ?_
          obtain ⟨hJz, hBz⟩ := abideF hJxa hJy hBy2 hW8
          exact ⟨⟨_, rfl⟩, _, hBz, .inr ⟨_, hJz⟩⟩
end Go.Proofs.YtjmcelgdjpdacaaDoor
namespace Go.Proofs.YtjmcelgdjpdacaaDoor
open Go.RowKit Tw
open Go
theorem com_nil_l (n : Nat) (m : List (Int × Int)) : commonL n [] m = [] := by cases n <;> rfl
theorem com_nil_r (n : Nat) (l : List (Int × Int)) : commonL n l [] = [] := by cases n <;> cases l <;> rfl
theorem com_step {n : Nat} {la lc : List (Int × Int)} {i j : Nat} {a c : Int × Int} (h1 : la[i]? = some a) (h2 : lc[j]? = some c) : commonL (n + 1) (la.drop i) (lc.drop j) = (if min a.2 c.2 ≤ max a.1 c.1 then [] else [(max a.1 c.1, min a.2 c.2)]) ++ (if a.2 < c.2 then commonL n (la.drop (i + 1)) (lc.drop j) else commonL n (la.drop i) (lc.drop (j + 1))) := by
  have e1 := drop_get h1
  have e2 := drop_get h2
  rw [e1, e2]
  rfl
set_option maxRecDepth 100000 in
set_option maxHeartbeats 10000000 in
theorem common_seq (n₀ b1 b2 ca cc : Nat) (pa pc : Option Addr) (la lc : List (Int × Int)) (fuel0 : Nat) (W0 : World) (hn : n₀ ≤ W0.heap.size) (hb1 : b1 < n₀ ∧ W0.heap[b1]? = some (.cells #[.slice pa la.length ca] 22 (0, 0)))
    (hb2 : b2 < n₀ ∧ W0.heap[b2]? = some (.cells #[.slice pc lc.length cc] 22 (0, 0))) (hAVa : AV W0 n₀ la pa ca) (hAVc : AV W0 n₀ lc pc cc) (hla : la.length ≤ 1000) (hlc : lc.length ≤ 1000) (hfu0 : la.length + lc.length ≤ fuel0) :
    SeqF Tryd.prog 84 #[.pointer (some ⟨b1, 0, none⟩), .pointer (some ⟨b2, 0, none⟩)] encS n₀ W0 (commonL fuel0 la lc) := by
  intro l B_ J Jx S0 W1 hB0 hnB hBW hS0 hJa hJxa hYd hJ0
  have hn0 : n₀ ≤ W1.heap.size := Nat.le_trans hn hB0.size
  have hB0r : Fr S0 S0 W1 W1 := Fr.refl fun k hk => (hS0 k hk).2
  have hLow : ∀ {S : List Nat} {W : World}, Fr S0 S W1 W → Below n₀ W1 W := fun h => h.lower (fun k hk => (hS0 k hk).1) hn0
  have hMem : ∀ {S : List Nat} {W : World}, Fr S0 S W1 W → ∀ k ∈ S, n₀ ≤ k ∧ k < W.heap.size := fun h k hk => ⟨h.low (fun k hk => (hS0 k hk).1) hn0 k hk, (h.own k hk).1⟩
  have low : ∀ (b : Nat) (o : Obj), b < n₀ → W0.heap[b]? = some o → ∀ W, Below n₀ W1 W → W.heap[b]? = some o := fun b o hb h W hW => by
    rw [hW.block b hb, hB0.block b hb]; exact h
  have boxes : ∀ {S : List Nat} (W : World), Fr S0 S W1 W → KS (W : World) [(b1, .cells #[.slice pa la.length ca] 22 (0, 0)), (b2, .cells #[.slice pc lc.length cc] 22 (0, 0))] W := fun W hF => ⟨Below.refl _ _, List.forall_mem_cons.2 ⟨low _ _ hb1.1 hb1.2 W (hLow hF), List.forall_mem_cons.2 ⟨low _ _ hb2.1 hb2.2 W (hLow hF), List.forall_mem_nil _⟩⟩⟩
  refine callsIn_of_wp Tryd.func84 rfl trivial ?_ rfl
  simp only [Tryd.ntmps84, List.size_toArray, List.length_cons, List.length_nil, Nat.reduceAdd, Nat.reduceSub, Array.replicate_succ, Array.replicate_zero, List.push_toArray, List.append_toArray, List.nil_append, List.cons_append]
  refine wpIn_seq ?_
  refine wp_region_LI (W0 := (W1 : World)) [(b1, .cells #[.slice pa la.length ca] 22 (0, 0)), (b2, .cells #[.slice pc lc.length cc] 22 (0, 0))] (by kernel_rfl) ((boxes W1 hB0r)) ?_
  refine lm (v := .int .i64 0) rfl rfl ?_
  refine lm (v := .int .i64 0) rfl rfl ?_
  refine wpL_done (fun W2 hW2 => ?_)
  have hR2 : KS (W2 : World) [(b1, .cells #[.slice pa la.length ca] 22 (0, 0)), (b2, .cells #[.slice pc lc.length cc] 22 (0, 0))] W2 := ⟨Below.refl _ _, hW2.2⟩
  obtain ⟨hJ2, hB2⟩ := abideF hJa hJ0 hB0r hW2
  refine (show Code.wpIn _ _ _ _ _ _ _ from ?_)
  refine wpIn_block ?_
  gi_loopw [4, 5] (fun u v wr => ∃ (i j fuel : Nat) (pre : List (Int × Int)) (S : List Nat), (commonL fuel0 la lc) = pre ++ commonL fuel (la.drop i) (lc.drop j) ∧ i ≤ la.length ∧ j ≤ lc.length ∧ (la.length - i) + (lc.length - j) ≤ fuel ∧ u = .int .i64 (i : Int) ∧ v = .int .i64 (j : Int) ∧ J pre S wr ∧ Fr S0 S W1 wr) (fun u v _ => (la.length - intOf u).toNat + (lc.length - intOf v).toNat)
  case atStart => exact ⟨0, 0, fuel0, [], _, rfl, by omega, by omega, by omega, rfl, rfl, hJ2, hB2⟩
  case round =>
    obtain ⟨i, j, fuel, pre, S, hxs, hi0, hj0, hfu, rfl, rfl, hJr, hBr⟩ := hrel
    by_cases hia : i < la.length
    · by_cases hjc : j < lc.length
      · obtain ⟨fuel, rfl⟩ : ∃ f, fuel = f + 1 := ⟨fuel - 1, by omega⟩
        obtain ⟨ba, oa, hpa, hba, hca0⟩ := hAVa.2.resolve_left (fun e => by rw [e] at hia; simp at hia)
        obtain ⟨bc, oc, hpc, hbc, hcc0⟩ := hAVc.2.resolve_left (fun e => by rw [e] at hjc; simp at hjc)
        have hca1 := cells_low hca0 hB0 hba
        have hcc1 := cells_low hcc0 hB0 hbc
        have hcell1 := hca1
        have hbw := hba
        obtain ⟨⟨fa, ta⟩, hga⟩ : ∃ s, la[i]? = some s := ⟨_, List.getElem?_eq_getElem hia⟩
        obtain ⟨⟨fc, tc⟩, hgc⟩ : ∃ s, lc[j]? = some s := ⟨_, List.getElem?_eq_getElem hjc⟩
        rw [com_step hga hgc] at hxs
        by_cases he : min ta tc ≤ max fa fc
        · by_cases hlt2 : ta < tc
          · have hem := fun W => empty_any (max fa fc) (min ta tc) W
            rw [decide_eq_true he] at hem
            refine wpIn_seq ?_
            refine wpIn_seq ?_
            refine wp_region_LI (W0 := (wr : World)) [(b1, .cells #[.slice pa la.length ca] 22 (0, 0)), (b2, .cells #[.slice pc lc.length cc] 22 (0, 0))] (by kernel_rfl) ((boxes wr hBr)) ?_
            refine lm (v := .int .i64 (i : Int)) rfl rfl ?_
            refine lv (v := .slice pa la.length ca) rfl rfl (yb_loadc (off := 0) rfl (by kernel_rfl) (.head _) Tryd.underlying22 rfl (by kernel_rfl)) ?_
            refine lm (v := .int .i64 (la.length : Int)) rfl rfl ?_
            refine lp (v := .bool true) rfl rfl (run_bin rfl (vx := .int .i64 (i : Int)) (vy := .int .i64 (la.length : Int)) (by kernel_rfl) (by kernel_rfl) fun w => run_lssI (decide_eq_true (by omega)) w) ?_
            refine lm (v := .bool true) rfl rfl ?_
            refine lm (v := .int .i64 (j : Int)) rfl rfl ?_
            refine lv (v := .slice pc lc.length cc) rfl rfl (yb_loadc (off := 0) rfl (by kernel_rfl) (.tail _ (.head _)) Tryd.underlying22 rfl (by kernel_rfl)) ?_
            refine lm (v := .int .i64 (lc.length : Int)) rfl rfl ?_
            refine lp (v := .bool true) rfl rfl (run_bin rfl (vx := .int .i64 (j : Int)) (vy := .int .i64 (lc.length : Int)) (by kernel_rfl) (by kernel_rfl) fun w => run_lssI (decide_eq_true (by omega)) w) ?_
            refine lm (v := .bool true) rfl rfl ?_
            refine wpL_done (fun W3 hW3 => ?_)
            have hR3 : KS (W3 : World) [(b1, .cells #[.slice pa la.length ca] 22 (0, 0)), (b2, .cells #[.slice pc lc.length cc] 22 (0, 0))] W3 := ⟨Below.refl _ _, hW3.2⟩
            obtain ⟨hJ3, hB3⟩ := abideF hJa hJr hBr hW3
            refine (show Code.wpIn _ _ _ _ _ _ _ from ?_)
            refine wpIn_cond_true rfl ?_
            refine wpIn_skip ?_
            refine (show Code.wpIn _ _ _ _ _ _ _ from ?_)
            refine wpIn_block ?_
            refine wpIn_seq ?_
            have hca := cells_low hca1 (hLow hB3) hba
            have hcc := cells_low hcc1 (hLow hB3) hbc
            have hcell := cells_low hcell1 (hLow hB3) hbw
            refine wp_region_VI (W0 := (W3 : World)) [(b1, .cells #[.slice pa la.length ca] 22 (0, 0)), (b2, .cells #[.slice pc lc.length cc] 22 (0, 0))] (by kernel_rfl) (by kernel_rfl) (hR3) ?_
            refine vv (i := 0) (v := .slice pa la.length ca) rfl rfl rfl (yb_loadc (off := 0) rfl (by kernel_rfl) (.head _) Tryd.underlying22 rfl (by kernel_rfl)) ?_
            refine vm (i := 1) (v := .int .i64 (i : Int)) rfl rfl rfl ?_
            refine vp (i := 2) (v := .pointer (some ⟨ba, oa + 2 * i, none⟩)) rfl rfl rfl (run_idxp (b := ba) (off := oa) (n := la.length) (cap := ca) (k := i) rfl (by kernel_rfl) hpa (by kernel_rfl) hia) ?_
            refine vv (i := 3) (v := .agg #[.int .i64 fa, .int .i64 ta]) rfl rfl rfl (yb_load2 rfl (by kernel_rfl) (hca i (fa, ta) hga).1 (hca i (fa, ta) hga).2 (World.block_lt_of_cell? _ _ (hca i (fa, ta) hga).1)) ?_
            refine vv (i := 4) (v := .slice pc lc.length cc) rfl rfl rfl (yb_loadc (off := 0) rfl (by kernel_rfl) (.tail _ (.head _)) Tryd.underlying22 rfl (by kernel_rfl)) ?_
            refine vm (i := 5) (v := .int .i64 (j : Int)) rfl rfl rfl ?_
            refine vp (i := 6) (v := .pointer (some ⟨bc, oc + 2 * j, none⟩)) rfl rfl rfl (run_idxp (b := bc) (off := oc) (n := lc.length) (cap := cc) (k := j) rfl (by kernel_rfl) hpc (by kernel_rfl) hjc) ?_
            refine vv (i := 7) (v := .agg #[.int .i64 fc, .int .i64 tc]) rfl rfl rfl (yb_load2 rfl (by kernel_rfl) (hcc j (fc, tc) hgc).1 (hcc j (fc, tc) hgc).2 (World.block_lt_of_cell? _ _ (hcc j (fc, tc) hgc).1)) ?_
            refine vv (i := 8) (v := .agg #[.int .i64 (max fa fc), .int .i64 (min ta tc)]) rfl rfl rfl (yb_call (f := 59) (args := #[.agg #[.int .i64 fa, .int .i64 ta], .agg #[.int .i64 fc, .int .i64 tc]]) (fun _ => by kernel_rfl) fun W hW => both_any fa ta fc tc W) ?_
            refine wpV_ns (fun g => .pointer (some ⟨g, 0, none⟩)) (i := 9) (obi := .cells #[.int .i64 0, .int .i64 0] 41 (0, 0)) rfl rfl rfl (by kernel_rfl) (fun _ => by kernel_rfl) (fun _ => by simp only [List.setIfInBounds_toArray, List.set_cons_succ, List.set_cons_zero] <;> rfl) fun g1 Bg1 Fg1 => ?_
            try simp only [List.forall_mem_cons] at Fg1
            refine wpV_s [(g1, .cells #[.int .i64 (max fa fc), .int .i64 (min ta tc)] 41 (0, 0)), (b1, .cells #[.slice pa la.length ca] 22 (0, 0)), (b2, .cells #[.slice pc lc.length cc] 22 (0, 0))] (i := 10) rfl (by kernel_rfl) rfl rfl rfl (st_span rfl (by kernel_rfl) (by kernel_rfl) (.head _) (by omega) (List.forall_mem_cons.2 ⟨.inl rfl, (List.forall_mem_cons.2 ⟨.inr ⟨(.tail _ (.head _)), Fg1.1⟩, (List.forall_mem_cons.2 ⟨.inr ⟨(.tail _ (.tail _ (.head _))), Fg1.2.1⟩, (List.forall_mem_nil _)⟩)⟩)⟩)) ?_
            refine wpV_done (by kernel_rfl) (fun W4 hW4 => ?_) _
            have hR4 : KS (W4 : World) [(g1, .cells #[.int .i64 (max fa fc), .int .i64 (min ta tc)] 41 (0, 0)), (b1, .cells #[.slice pa la.length ca] 22 (0, 0)), (b2, .cells #[.slice pc lc.length cc] 22 (0, 0))] W4 := ⟨Below.refl _ _, hW4.2⟩
            obtain ⟨hJ4, hB4⟩ := abideF hJa hJ3 hB3 hW4
            refine (show Code.wpIn _ _ _ _ _ _ _ from ?_)
            refine wpIn_seq ?_
            refine wpIn_seq ?_
            refine wp_region_LI (W0 := (W4 : World)) [(g1, .cells #[.int .i64 (max fa fc), .int .i64 (min ta tc)] 41 (0, 0)), (b1, .cells #[.slice pa la.length ca] 22 (0, 0)), (b2, .cells #[.slice pc lc.length cc] 22 (0, 0))] (by kernel_rfl) (hR4) ?_
            refine lv (v := .agg #[.int .i64 (max fa fc), .int .i64 (min ta tc)]) rfl rfl (yb_load (n := 2) (off := 0) rfl (by kernel_rfl) (.head _) Tryd.underlying41 rfl size_span (by simp) (by kernel_rfl)) ?_
            refine lv (v := .bool true) rfl rfl (yb_call (f := 60) (args := #[.agg #[.int .i64 (max fa fc), .int .i64 (min ta tc)]]) (fun _ => by kernel_rfl) fun W hW => hem W) ?_
            refine lm (v := .bool false) rfl rfl ?_
            refine lm (v := .bool false) rfl rfl ?_
            refine ln rfl ?_
            refine ln rfl ?_
            refine ln rfl ?_
            refine ln rfl ?_
            refine lm (v := .bool false) rfl rfl ?_
            refine wpL_done (fun W5 hW5 => ?_)
            have hR5 : KS (W5 : World) [(g1, .cells #[.int .i64 (max fa fc), .int .i64 (min ta tc)] 41 (0, 0)), (b1, .cells #[.slice pa la.length ca] 22 (0, 0)), (b2, .cells #[.slice pc lc.length cc] 22 (0, 0))] W5 := ⟨Below.refl _ _, hW5.2⟩
            obtain ⟨hJ5, hB5⟩ := abideF hJa hJ4 hB4 hW5
            refine (show Code.wpIn _ _ _ _ _ _ _ from ?_)
            refine wpIn_cond_false rfl ?_
            refine wpIn_skip ?_
            refine (show Code.wpIn _ _ _ _ _ _ _ from ?_)
            refine wpIn_seq ?_
            have hca := cells_low hca1 (hLow hB5) hba
            have hcc := cells_low hcc1 (hLow hB5) hbc
            have hcell := cells_low hcell1 (hLow hB5) hbw
            refine wp_region_VI (W0 := (W5 : World)) [(g1, .cells #[.int .i64 (max fa fc), .int .i64 (min ta tc)] 41 (0, 0)), (b1, .cells #[.slice pa la.length ca] 22 (0, 0)), (b2, .cells #[.slice pc lc.length cc] 22 (0, 0))] (by kernel_rfl) (by kernel_rfl) (hR5) ?_
            refine vv (i := 0) (v := .slice pa la.length ca) rfl rfl rfl (yb_loadc (off := 0) rfl (by kernel_rfl) (.tail _ (.head _)) Tryd.underlying22 rfl (by kernel_rfl)) ?_
            refine vm (i := 1) (v := .int .i64 (i : Int)) rfl rfl rfl ?_
            refine vp (i := 2) (v := .pointer (some ⟨ba, oa + 2 * i, none⟩)) rfl rfl rfl (run_idxp (b := ba) (off := oa) (n := la.length) (cap := ca) (k := i) rfl (by kernel_rfl) hpa (by kernel_rfl) hia) ?_
            refine vm (i := 3) (v := .pointer (some ⟨ba, oa + 2 * i + 1, none⟩)) rfl rfl rfl ?_
            refine vv (i := 4) (v := .int .i64 ta) rfl rfl rfl (yb_load1 rfl (by kernel_rfl) (hca i (fa, ta) hga).2 (World.block_lt_of_cell? _ _ (hca i (fa, ta) hga).2) Tryd.underlying3 rfl) ?_
            refine vv (i := 5) (v := .slice pc lc.length cc) rfl rfl rfl (yb_loadc (off := 0) rfl (by kernel_rfl) (.tail _ (.tail _ (.head _))) Tryd.underlying22 rfl (by kernel_rfl)) ?_
            refine vm (i := 6) (v := .int .i64 (j : Int)) rfl rfl rfl ?_
            refine vp (i := 7) (v := .pointer (some ⟨bc, oc + 2 * j, none⟩)) rfl rfl rfl (run_idxp (b := bc) (off := oc) (n := lc.length) (cap := cc) (k := j) rfl (by kernel_rfl) hpc (by kernel_rfl) hjc) ?_
            refine vm (i := 8) (v := .pointer (some ⟨bc, oc + 2 * j + 1, none⟩)) rfl rfl rfl ?_
            refine vv (i := 9) (v := .int .i64 tc) rfl rfl rfl (yb_load1 rfl (by kernel_rfl) (hcc j (fc, tc) hgc).2 (World.block_lt_of_cell? _ _ (hcc j (fc, tc) hgc).2) Tryd.underlying3 rfl) ?_
            refine vp (i := 10) (v := .bool true) rfl rfl rfl (run_bin rfl (vx := .int .i64 ta) (vy := .int .i64 tc) (by kernel_rfl) (by kernel_rfl) fun w => run_lssI (decide_eq_true hlt2) w) ?_
            refine wpV_done (by kernel_rfl) (fun W6 hW6 => ?_) _
            have hR6 : KS (W6 : World) [(g1, .cells #[.int .i64 (max fa fc), .int .i64 (min ta tc)] 41 (0, 0)), (b1, .cells #[.slice pa la.length ca] 22 (0, 0)), (b2, .cells #[.slice pc lc.length cc] 22 (0, 0))] W6 := ⟨Below.refl _ _, hW6.2⟩
            obtain ⟨hJ6, hB6⟩ := abideF hJa hJ5 hB5 hW6
            refine (show Code.wpIn _ _ _ _ _ _ _ from ?_)
            refine wpIn_cond_true rfl ?_
            refine wp_region_LI (W0 := (W6 : World)) [(g1, .cells #[.int .i64 (max fa fc), .int .i64 (min ta tc)] 41 (0, 0)), (b1, .cells #[.slice pa la.length ca] 22 (0, 0)), (b2, .cells #[.slice pc lc.length cc] 22 (0, 0))] (by kernel_rfl) (hR6) ?_
            refine lm (v := .int .i64 (i : Int)) rfl rfl ?_
            refine lp (v := .int .i64 ((i + 1 : Nat) : Int)) rfl rfl (run_bin rfl (vx := .int .i64 (i : Int)) (vy := .int .i64 1) (by kernel_rfl) (by kernel_rfl) fun w => run_addI (z := ((i + 1 : Nat) : Int)) rfl (by omega) w) ?_
            refine lm (v := .int .i64 ((i + 1 : Nat) : Int)) rfl rfl ?_
            refine wpL_done (fun W7 hW7 => ?_)
            have hR7 : KS (W7 : World) [(g1, .cells #[.int .i64 (max fa fc), .int .i64 (min ta tc)] 41 (0, 0)), (b1, .cells #[.slice pa la.length ca] 22 (0, 0)), (b2, .cells #[.slice pc lc.length cc] 22 (0, 0))] W7 := ⟨Below.refl _ _, hW7.2⟩
            obtain ⟨hJ7, hB7⟩ := abideF hJa hJ6 hB6 hW7
            go_roundw
            case rel =>
              repeat apply Exists.intro
              exact ⟨⟨i + 1, j, fuel, pre, _, by rw [hxs, if_pos he, if_pos hlt2]; simp, by omega, by omega, by omega, rfl, rfl, hJ7, hB7⟩, rfl⟩
            case measure => (show (la.length - intOf (.int .i64 ((i + 1 : Nat) : Int))).toNat + (lc.length - intOf (.int .i64 (j : Int))).toNat < (la.length - intOf (.int .i64 (i : Int))).toNat + (lc.length - intOf (.int .i64 (j : Int))).toNat); simp only [intOf]; omega
          · have hem := fun W => empty_any (max fa fc) (min ta tc) W
            rw [decide_eq_true he] at hem
            refine wpIn_seq ?_
            refine wpIn_seq ?_
            refine wp_region_LI (W0 := (wr : World)) [(b1, .cells #[.slice pa la.length ca] 22 (0, 0)), (b2, .cells #[.slice pc lc.length cc] 22 (0, 0))] (by kernel_rfl) ((boxes wr hBr)) ?_
            refine lm (v := .int .i64 (i : Int)) rfl rfl ?_
            refine lv (v := .slice pa la.length ca) rfl rfl (yb_loadc (off := 0) rfl (by kernel_rfl) (.head _) Tryd.underlying22 rfl (by kernel_rfl)) ?_
            refine lm (v := .int .i64 (la.length : Int)) rfl rfl ?_
            refine lp (v := .bool true) rfl rfl (run_bin rfl (vx := .int .i64 (i : Int)) (vy := .int .i64 (la.length : Int)) (by kernel_rfl) (by kernel_rfl) fun w => run_lssI (decide_eq_true (by omega)) w) ?_
            refine lm (v := .bool true) rfl rfl ?_
            refine lm (v := .int .i64 (j : Int)) rfl rfl ?_
            refine lv (v := .slice pc lc.length cc) rfl rfl (yb_loadc (off := 0) rfl (by kernel_rfl) (.tail _ (.head _)) Tryd.underlying22 rfl (by kernel_rfl)) ?_
            refine lm (v := .int .i64 (lc.length : Int)) rfl rfl ?_
            refine lp (v := .bool true) rfl rfl (run_bin rfl (vx := .int .i64 (j : Int)) (vy := .int .i64 (lc.length : Int)) (by kernel_rfl) (by kernel_rfl) fun w => run_lssI (decide_eq_true (by omega)) w) ?_
            refine lm (v := .bool true) rfl rfl ?_
            refine wpL_done (fun W3 hW3 => ?_)
            have hR3 : KS (W3 : World) [(b1, .cells #[.slice pa la.length ca] 22 (0, 0)), (b2, .cells #[.slice pc lc.length cc] 22 (0, 0))] W3 := ⟨Below.refl _ _, hW3.2⟩
            obtain ⟨hJ3, hB3⟩ := abideF hJa hJr hBr hW3
            refine (show Code.wpIn _ _ _ _ _ _ _ from ?_)
            refine wpIn_cond_true rfl ?_
            refine wpIn_skip ?_
            refine (show Code.wpIn _ _ _ _ _ _ _ from ?_)
            refine wpIn_block ?_
            refine wpIn_seq ?_
            have hca := cells_low hca1 (hLow hB3) hba
            have hcc := cells_low hcc1 (hLow hB3) hbc
            have hcell := cells_low hcell1 (hLow hB3) hbw
            refine wp_region_VI (W0 := (W3 : World)) [(b1, .cells #[.slice pa la.length ca] 22 (0, 0)), (b2, .cells #[.slice pc lc.length cc] 22 (0, 0))] (by kernel_rfl) (by kernel_rfl) (hR3) ?_
            refine vv (i := 0) (v := .slice pa la.length ca) rfl rfl rfl (yb_loadc (off := 0) rfl (by kernel_rfl) (.head _) Tryd.underlying22 rfl (by kernel_rfl)) ?_
            refine vm (i := 1) (v := .int .i64 (i : Int)) rfl rfl rfl ?_
            refine vp (i := 2) (v := .pointer (some ⟨ba, oa + 2 * i, none⟩)) rfl rfl rfl (run_idxp (b := ba) (off := oa) (n := la.length) (cap := ca) (k := i) rfl (by kernel_rfl) hpa (by kernel_rfl) hia) ?_
            refine vv (i := 3) (v := .agg #[.int .i64 fa, .int .i64 ta]) rfl rfl rfl (yb_load2 rfl (by kernel_rfl) (hca i (fa, ta) hga).1 (hca i (fa, ta) hga).2 (World.block_lt_of_cell? _ _ (hca i (fa, ta) hga).1)) ?_
            refine vv (i := 4) (v := .slice pc lc.length cc) rfl rfl rfl (yb_loadc (off := 0) rfl (by kernel_rfl) (.tail _ (.head _)) Tryd.underlying22 rfl (by kernel_rfl)) ?_
            refine vm (i := 5) (v := .int .i64 (j : Int)) rfl rfl rfl ?_
            refine vp (i := 6) (v := .pointer (some ⟨bc, oc + 2 * j, none⟩)) rfl rfl rfl (run_idxp (b := bc) (off := oc) (n := lc.length) (cap := cc) (k := j) rfl (by kernel_rfl) hpc (by kernel_rfl) hjc) ?_
            refine vv (i := 7) (v := .agg #[.int .i64 fc, .int .i64 tc]) rfl rfl rfl (yb_load2 rfl (by kernel_rfl) (hcc j (fc, tc) hgc).1 (hcc j (fc, tc) hgc).2 (World.block_lt_of_cell? _ _ (hcc j (fc, tc) hgc).1)) ?_
            refine vv (i := 8) (v := .agg #[.int .i64 (max fa fc), .int .i64 (min ta tc)]) rfl rfl rfl (yb_call (f := 59) (args := #[.agg #[.int .i64 fa, .int .i64 ta], .agg #[.int .i64 fc, .int .i64 tc]]) (fun _ => by kernel_rfl) fun W hW => both_any fa ta fc tc W) ?_
            refine wpV_ns (fun g => .pointer (some ⟨g, 0, none⟩)) (i := 9) (obi := .cells #[.int .i64 0, .int .i64 0] 41 (0, 0)) rfl rfl rfl (by kernel_rfl) (fun _ => by kernel_rfl) (fun _ => by simp only [List.setIfInBounds_toArray, List.set_cons_succ, List.set_cons_zero] <;> rfl) fun g1 Bg1 Fg1 => ?_
            try simp only [List.forall_mem_cons] at Fg1
            refine wpV_s [(g1, .cells #[.int .i64 (max fa fc), .int .i64 (min ta tc)] 41 (0, 0)), (b1, .cells #[.slice pa la.length ca] 22 (0, 0)), (b2, .cells #[.slice pc lc.length cc] 22 (0, 0))] (i := 10) rfl (by kernel_rfl) rfl rfl rfl (st_span rfl (by kernel_rfl) (by kernel_rfl) (.head _) (by omega) (List.forall_mem_cons.2 ⟨.inl rfl, (List.forall_mem_cons.2 ⟨.inr ⟨(.tail _ (.head _)), Fg1.1⟩, (List.forall_mem_cons.2 ⟨.inr ⟨(.tail _ (.tail _ (.head _))), Fg1.2.1⟩, (List.forall_mem_nil _)⟩)⟩)⟩)) ?_
            refine wpV_done (by kernel_rfl) (fun W4 hW4 => ?_) _
            have hR4 : KS (W4 : World) [(g1, .cells #[.int .i64 (max fa fc), .int .i64 (min ta tc)] 41 (0, 0)), (b1, .cells #[.slice pa la.length ca] 22 (0, 0)), (b2, .cells #[.slice pc lc.length cc] 22 (0, 0))] W4 := ⟨Below.refl _ _, hW4.2⟩
            obtain ⟨hJ4, hB4⟩ := abideF hJa hJ3 hB3 hW4
            refine (show Code.wpIn _ _ _ _ _ _ _ from ?_)
            refine wpIn_seq ?_
            refine wpIn_seq ?_
            refine wp_region_LI (W0 := (W4 : World)) [(g1, .cells #[.int .i64 (max fa fc), .int .i64 (min ta tc)] 41 (0, 0)), (b1, .cells #[.slice pa la.length ca] 22 (0, 0)), (b2, .cells #[.slice pc lc.length cc] 22 (0, 0))] (by kernel_rfl) (hR4) ?_
            refine lv (v := .agg #[.int .i64 (max fa fc), .int .i64 (min ta tc)]) rfl rfl (yb_load (n := 2) (off := 0) rfl (by kernel_rfl) (.head _) Tryd.underlying41 rfl size_span (by simp) (by kernel_rfl)) ?_
            refine lv (v := .bool true) rfl rfl (yb_call (f := 60) (args := #[.agg #[.int .i64 (max fa fc), .int .i64 (min ta tc)]]) (fun _ => by kernel_rfl) fun W hW => hem W) ?_
            refine lm (v := .bool false) rfl rfl ?_
            refine lm (v := .bool false) rfl rfl ?_
            refine ln rfl ?_
            refine ln rfl ?_
            refine ln rfl ?_
            refine ln rfl ?_
            refine lm (v := .bool false) rfl rfl ?_
            refine wpL_done (fun W5 hW5 => ?_)
            have hR5 : KS (W5 : World) [(g1, .cells #[.int .i64 (max fa fc), .int .i64 (min ta tc)] 41 (0, 0)), (b1, .cells #[.slice pa la.length ca] 22 (0, 0)), (b2, .cells #[.slice pc lc.length cc] 22 (0, 0))] W5 := ⟨Below.refl _ _, hW5.2⟩
            obtain ⟨hJ5, hB5⟩ := abideF hJa hJ4 hB4 hW5
            refine (show Code.wpIn _ _ _ _ _ _ _ from ?_)
            refine wpIn_cond_false rfl ?_
            refine wpIn_skip ?_
            refine (show Code.wpIn _ _ _ _ _ _ _ from ?_)
            refine wpIn_seq ?_
            have hca := cells_low hca1 (hLow hB5) hba
            have hcc := cells_low hcc1 (hLow hB5) hbc
            have hcell := cells_low hcell1 (hLow hB5) hbw
            refine wp_region_VI (W0 := (W5 : World)) [(g1, .cells #[.int .i64 (max fa fc), .int .i64 (min ta tc)] 41 (0, 0)), (b1, .cells #[.slice pa la.length ca] 22 (0, 0)), (b2, .cells #[.slice pc lc.length cc] 22 (0, 0))] (by kernel_rfl) (by kernel_rfl) (hR5) ?_
            refine vv (i := 0) (v := .slice pa la.length ca) rfl rfl rfl (yb_loadc (off := 0) rfl (by kernel_rfl) (.tail _ (.head _)) Tryd.underlying22 rfl (by kernel_rfl)) ?_
            refine vm (i := 1) (v := .int .i64 (i : Int)) rfl rfl rfl ?_
            refine vp (i := 2) (v := .pointer (some ⟨ba, oa + 2 * i, none⟩)) rfl rfl rfl (run_idxp (b := ba) (off := oa) (n := la.length) (cap := ca) (k := i) rfl (by kernel_rfl) hpa (by kernel_rfl) hia) ?_
            refine vm (i := 3) (v := .pointer (some ⟨ba, oa + 2 * i + 1, none⟩)) rfl rfl rfl ?_
            refine vv (i := 4) (v := .int .i64 ta) rfl rfl rfl (yb_load1 rfl (by kernel_rfl) (hca i (fa, ta) hga).2 (World.block_lt_of_cell? _ _ (hca i (fa, ta) hga).2) Tryd.underlying3 rfl) ?_
            refine vv (i := 5) (v := .slice pc lc.length cc) rfl rfl rfl (yb_loadc (off := 0) rfl (by kernel_rfl) (.tail _ (.tail _ (.head _))) Tryd.underlying22 rfl (by kernel_rfl)) ?_
            refine vm (i := 6) (v := .int .i64 (j : Int)) rfl rfl rfl ?_
            refine vp (i := 7) (v := .pointer (some ⟨bc, oc + 2 * j, none⟩)) rfl rfl rfl (run_idxp (b := bc) (off := oc) (n := lc.length) (cap := cc) (k := j) rfl (by kernel_rfl) hpc (by kernel_rfl) hjc) ?_
            refine vm (i := 8) (v := .pointer (some ⟨bc, oc + 2 * j + 1, none⟩)) rfl rfl rfl ?_
            refine vv (i := 9) (v := .int .i64 tc) rfl rfl rfl (yb_load1 rfl (by kernel_rfl) (hcc j (fc, tc) hgc).2 (World.block_lt_of_cell? _ _ (hcc j (fc, tc) hgc).2) Tryd.underlying3 rfl) ?_
            refine vp (i := 10) (v := .bool false) rfl rfl rfl (run_bin rfl (vx := .int .i64 ta) (vy := .int .i64 tc) (by kernel_rfl) (by kernel_rfl) fun w => run_lssI (decide_eq_false hlt2) w) ?_
            refine wpV_done (by kernel_rfl) (fun W6 hW6 => ?_) _
            have hR6 : KS (W6 : World) [(g1, .cells #[.int .i64 (max fa fc), .int .i64 (min ta tc)] 41 (0, 0)), (b1, .cells #[.slice pa la.length ca] 22 (0, 0)), (b2, .cells #[.slice pc lc.length cc] 22 (0, 0))] W6 := ⟨Below.refl _ _, hW6.2⟩
            obtain ⟨hJ6, hB6⟩ := abideF hJa hJ5 hB5 hW6
            refine (show Code.wpIn _ _ _ _ _ _ _ from ?_)
            refine wpIn_cond_false rfl ?_
            refine wp_region_LI (W0 := (W6 : World)) [(g1, .cells #[.int .i64 (max fa fc), .int .i64 (min ta tc)] 41 (0, 0)), (b1, .cells #[.slice pa la.length ca] 22 (0, 0)), (b2, .cells #[.slice pc lc.length cc] 22 (0, 0))] (by kernel_rfl) (hR6) ?_
            refine lm (v := .int .i64 (j : Int)) rfl rfl ?_
            refine lp (v := .int .i64 ((j + 1 : Nat) : Int)) rfl rfl (run_bin rfl (vx := .int .i64 (j : Int)) (vy := .int .i64 1) (by kernel_rfl) (by kernel_rfl) fun w => run_addI (z := ((j + 1 : Nat) : Int)) rfl (by omega) w) ?_
            refine lm (v := .int .i64 ((j + 1 : Nat) : Int)) rfl rfl ?_
            refine wpL_done (fun W7 hW7 => ?_)
            have hR7 : KS (W7 : World) [(g1, .cells #[.int .i64 (max fa fc), .int .i64 (min ta tc)] 41 (0, 0)), (b1, .cells #[.slice pa la.length ca] 22 (0, 0)), (b2, .cells #[.slice pc lc.length cc] 22 (0, 0))] W7 := ⟨Below.refl _ _, hW7.2⟩
            obtain ⟨hJ7, hB7⟩ := abideF hJa hJ6 hB6 hW7
            go_roundw
            case rel =>
              repeat apply Exists.intro
              exact ⟨⟨i, j + 1, fuel, pre, _, by rw [hxs, if_pos he, if_neg hlt2]; simp, by omega, by omega, by omega, rfl, rfl, hJ7, hB7⟩, rfl⟩
            case measure => (show (la.length - intOf (.int .i64 (i : Int))).toNat + (lc.length - intOf (.int .i64 ((j + 1 : Nat) : Int))).toNat < (la.length - intOf (.int .i64 (i : Int))).toNat + (lc.length - intOf (.int .i64 (j : Int))).toNat); simp only [intOf]; omega
        · by_cases hlt2 : ta < tc
          · have hem := fun W => empty_any (max fa fc) (min ta tc) W
            rw [decide_eq_false he] at hem
            refine wpIn_seq ?_
            refine wpIn_seq ?_
            refine wp_region_LI (W0 := (wr : World)) [(b1, .cells #[.slice pa la.length ca] 22 (0, 0)), (b2, .cells #[.slice pc lc.length cc] 22 (0, 0))] (by kernel_rfl) ((boxes wr hBr)) ?_
            refine lm (v := .int .i64 (i : Int)) rfl rfl ?_
            refine lv (v := .slice pa la.length ca) rfl rfl (yb_loadc (off := 0) rfl (by kernel_rfl) (.head _) Tryd.underlying22 rfl (by kernel_rfl)) ?_
            refine lm (v := .int .i64 (la.length : Int)) rfl rfl ?_
            refine lp (v := .bool true) rfl rfl (run_bin rfl (vx := .int .i64 (i : Int)) (vy := .int .i64 (la.length : Int)) (by kernel_rfl) (by kernel_rfl) fun w => run_lssI (decide_eq_true (by omega)) w) ?_
            refine lm (v := .bool true) rfl rfl ?_
            refine lm (v := .int .i64 (j : Int)) rfl rfl ?_
            refine lv (v := .slice pc lc.length cc) rfl rfl (yb_loadc (off := 0) rfl (by kernel_rfl) (.tail _ (.head _)) Tryd.underlying22 rfl (by kernel_rfl)) ?_
            refine lm (v := .int .i64 (lc.length : Int)) rfl rfl ?_
            refine lp (v := .bool true) rfl rfl (run_bin rfl (vx := .int .i64 (j : Int)) (vy := .int .i64 (lc.length : Int)) (by kernel_rfl) (by kernel_rfl) fun w => run_lssI (decide_eq_true (by omega)) w) ?_
            refine lm (v := .bool true) rfl rfl ?_
            refine wpL_done (fun W3 hW3 => ?_)
            have hR3 : KS (W3 : World) [(b1, .cells #[.slice pa la.length ca] 22 (0, 0)), (b2, .cells #[.slice pc lc.length cc] 22 (0, 0))] W3 := ⟨Below.refl _ _, hW3.2⟩
            obtain ⟨hJ3, hB3⟩ := abideF hJa hJr hBr hW3
            refine (show Code.wpIn _ _ _ _ _ _ _ from ?_)
            refine wpIn_cond_true rfl ?_
            refine wpIn_skip ?_
            refine (show Code.wpIn _ _ _ _ _ _ _ from ?_)
            refine wpIn_block ?_
            refine wpIn_seq ?_
            have hca := cells_low hca1 (hLow hB3) hba
            have hcc := cells_low hcc1 (hLow hB3) hbc
            have hcell := cells_low hcell1 (hLow hB3) hbw
            refine wp_region_VI (W0 := (W3 : World)) [(b1, .cells #[.slice pa la.length ca] 22 (0, 0)), (b2, .cells #[.slice pc lc.length cc] 22 (0, 0))] (by kernel_rfl) (by kernel_rfl) (hR3) ?_
            refine vv (i := 0) (v := .slice pa la.length ca) rfl rfl rfl (yb_loadc (off := 0) rfl (by kernel_rfl) (.head _) Tryd.underlying22 rfl (by kernel_rfl)) ?_
            refine vm (i := 1) (v := .int .i64 (i : Int)) rfl rfl rfl ?_
            refine vp (i := 2) (v := .pointer (some ⟨ba, oa + 2 * i, none⟩)) rfl rfl rfl (run_idxp (b := ba) (off := oa) (n := la.length) (cap := ca) (k := i) rfl (by kernel_rfl) hpa (by kernel_rfl) hia) ?_
            refine vv (i := 3) (v := .agg #[.int .i64 fa, .int .i64 ta]) rfl rfl rfl (yb_load2 rfl (by kernel_rfl) (hca i (fa, ta) hga).1 (hca i (fa, ta) hga).2 (World.block_lt_of_cell? _ _ (hca i (fa, ta) hga).1)) ?_
            refine vv (i := 4) (v := .slice pc lc.length cc) rfl rfl rfl (yb_loadc (off := 0) rfl (by kernel_rfl) (.tail _ (.head _)) Tryd.underlying22 rfl (by kernel_rfl)) ?_
            refine vm (i := 5) (v := .int .i64 (j : Int)) rfl rfl rfl ?_
            refine vp (i := 6) (v := .pointer (some ⟨bc, oc + 2 * j, none⟩)) rfl rfl rfl (run_idxp (b := bc) (off := oc) (n := lc.length) (cap := cc) (k := j) rfl (by kernel_rfl) hpc (by kernel_rfl) hjc) ?_
            refine vv (i := 7) (v := .agg #[.int .i64 fc, .int .i64 tc]) rfl rfl rfl (yb_load2 rfl (by kernel_rfl) (hcc j (fc, tc) hgc).1 (hcc j (fc, tc) hgc).2 (World.block_lt_of_cell? _ _ (hcc j (fc, tc) hgc).1)) ?_
            refine vv (i := 8) (v := .agg #[.int .i64 (max fa fc), .int .i64 (min ta tc)]) rfl rfl rfl (yb_call (f := 59) (args := #[.agg #[.int .i64 fa, .int .i64 ta], .agg #[.int .i64 fc, .int .i64 tc]]) (fun _ => by kernel_rfl) fun W hW => both_any fa ta fc tc W) ?_
            refine wpV_ns (fun g => .pointer (some ⟨g, 0, none⟩)) (i := 9) (obi := .cells #[.int .i64 0, .int .i64 0] 41 (0, 0)) rfl rfl rfl (by kernel_rfl) (fun _ => by kernel_rfl) (fun _ => by simp only [List.setIfInBounds_toArray, List.set_cons_succ, List.set_cons_zero] <;> rfl) fun g1 Bg1 Fg1 => ?_
            try simp only [List.forall_mem_cons] at Fg1
            refine wpV_s [(g1, .cells #[.int .i64 (max fa fc), .int .i64 (min ta tc)] 41 (0, 0)), (b1, .cells #[.slice pa la.length ca] 22 (0, 0)), (b2, .cells #[.slice pc lc.length cc] 22 (0, 0))] (i := 10) rfl (by kernel_rfl) rfl rfl rfl (st_span rfl (by kernel_rfl) (by kernel_rfl) (.head _) (by omega) (List.forall_mem_cons.2 ⟨.inl rfl, (List.forall_mem_cons.2 ⟨.inr ⟨(.tail _ (.head _)), Fg1.1⟩, (List.forall_mem_cons.2 ⟨.inr ⟨(.tail _ (.tail _ (.head _))), Fg1.2.1⟩, (List.forall_mem_nil _)⟩)⟩)⟩)) ?_
            refine wpV_done (by kernel_rfl) (fun W4 hW4 => ?_) _
            have hR4 : KS (W4 : World) [(g1, .cells #[.int .i64 (max fa fc), .int .i64 (min ta tc)] 41 (0, 0)), (b1, .cells #[.slice pa la.length ca] 22 (0, 0)), (b2, .cells #[.slice pc lc.length cc] 22 (0, 0))] W4 := ⟨Below.refl _ _, hW4.2⟩
            obtain ⟨hJ4, hB4⟩ := abideF hJa hJ3 hB3 hW4
            refine (show Code.wpIn _ _ _ _ _ _ _ from ?_)
            refine wpIn_seq ?_
            refine wpIn_seq ?_
            refine wp_region_S (W0 := (W4 : World)) (List.take 6 _) (List.drop 6 _) [(g1, .cells #[.int .i64 (max fa fc), .int .i64 (min ta tc)] 41 (0, 0)), (b1, .cells #[.slice pa la.length ca] 22 (0, 0)), (b2, .cells #[.slice pc lc.length cc] 22 (0, 0))] (List.take_append_drop 6 _).symm (by kernel_rfl) (hR4) ?_
            simp only [List.take_succ_cons, List.take_zero, List.drop_succ_cons, List.drop_zero]
            refine lv (v := .agg #[.int .i64 (max fa fc), .int .i64 (min ta tc)]) rfl rfl (yb_load (n := 2) (off := 0) rfl (by kernel_rfl) (.head _) Tryd.underlying41 rfl size_span (by simp) (by kernel_rfl)) ?_
            refine lv (v := .bool false) rfl rfl (yb_call (f := 60) (args := #[.agg #[.int .i64 (max fa fc), .int .i64 (min ta tc)]]) (fun _ => by kernel_rfl) fun W hW => hem W) ?_
            refine lm (v := .bool true) rfl rfl ?_
            refine lm (v := .bool true) rfl rfl ?_
            refine lm (v := .func (.yield l) #[] #[]) rfl rfl ?_
            refine lv (v := .agg #[.int .i64 (max fa fc), .int .i64 (min ta tc)]) rfl rfl (yb_load (n := 2) (off := 0) rfl (by kernel_rfl) (.head _) Tryd.underlying41 rfl size_span (by simp) (by kernel_rfl)) ?_
            refine wpL_done (fun W5 hW5 => ?_)
            have hR5 : KS (W5 : World) [(g1, .cells #[.int .i64 (max fa fc), .int .i64 (min ta tc)] 41 (0, 0)), (b1, .cells #[.slice pa la.length ca] 22 (0, 0)), (b2, .cells #[.slice pc lc.length cc] 22 (0, 0))] W5 := ⟨Below.refl _ _, hW5.2⟩
            obtain ⟨hJ5, hB5⟩ := abideF hJa hJ4 hB4 hW5
            refine (show wpListIn _ _ _ _ _ _ _ _ from ?_)
            have hYY := yieldF (m := 0) (r := none) (hYd pre ((max fa fc), (min ta tc)) _ W5 hJ5 (hMem hB5) (pre_of (rest := if ta < tc then commonL fuel (la.drop (i + 1)) (lc.drop j) else commonL fuel (la.drop i) (lc.drop (j + 1))) (by rw [hxs, if_neg he]; simp)))
            refine wpl_yield rfl rfl (by kernel_rfl) (by kernel_rfl) (by kernel_rfl) rfl hYY (by simp only [List.setIfInBounds_toArray, List.set_cons_succ, List.set_cons_zero] <;> rfl) (by simp only [List.setIfInBounds_toArray, List.set_cons_succ, List.set_cons_zero] <;> rfl) (fun W6 hA6 => ?_) (fun W6 hX6 => ?_)
            · obtain ⟨Sy, hBy, hJy⟩ := hA6
              have hBy2 := hB5.trans hBy
              have hKy : KS (W6 : World) [(b1, .cells #[.slice pa la.length ca] 22 (0, 0)), (b2, .cells #[.slice pc lc.length cc] 22 (0, 0))] W6 := boxes W6 hBy2
              refine wpl_rest (W0 := (W6 : World)) [(b1, .cells #[.slice pa la.length ca] 22 (0, 0)), (b2, .cells #[.slice pc lc.length cc] 22 (0, 0))] (by kernel_rfl) (hKy) ?_
              refine lm (v := .bool false) rfl rfl ?_
              refine lm (v := .bool false) rfl rfl ?_
              refine wpL_done (fun W7 hW7 => ?_)
              have hR7 : KS (W7 : World) [(b1, .cells #[.slice pa la.length ca] 22 (0, 0)), (b2, .cells #[.slice pc lc.length cc] 22 (0, 0))] W7 := ⟨Below.refl _ _, hW7.2⟩
              obtain ⟨hJ7, hB7⟩ := abideF hJa hJy hBy2 hW7
              refine (show Code.wpIn _ _ _ _ _ _ _ from ?_)
              refine wpIn_cond_false rfl ?_
              refine wpIn_skip ?_
              refine (show Code.wpIn _ _ _ _ _ _ _ from ?_)
              refine wpIn_seq ?_
              have hca := cells_low hca1 (hLow hB7) hba
              have hcc := cells_low hcc1 (hLow hB7) hbc
              have hcell := cells_low hcell1 (hLow hB7) hbw
              refine wp_region_VI (W0 := (W7 : World)) [(b1, .cells #[.slice pa la.length ca] 22 (0, 0)), (b2, .cells #[.slice pc lc.length cc] 22 (0, 0))] (by kernel_rfl) (by kernel_rfl) (hR7) ?_
              refine vv (i := 0) (v := .slice pa la.length ca) rfl rfl rfl (yb_loadc (off := 0) rfl (by kernel_rfl) (.head _) Tryd.underlying22 rfl (by kernel_rfl)) ?_
              refine vm (i := 1) (v := .int .i64 (i : Int)) rfl rfl rfl ?_
              refine vp (i := 2) (v := .pointer (some ⟨ba, oa + 2 * i, none⟩)) rfl rfl rfl (run_idxp (b := ba) (off := oa) (n := la.length) (cap := ca) (k := i) rfl (by kernel_rfl) hpa (by kernel_rfl) hia) ?_
              refine vm (i := 3) (v := .pointer (some ⟨ba, oa + 2 * i + 1, none⟩)) rfl rfl rfl ?_
              refine vv (i := 4) (v := .int .i64 ta) rfl rfl rfl (yb_load1 rfl (by kernel_rfl) (hca i (fa, ta) hga).2 (World.block_lt_of_cell? _ _ (hca i (fa, ta) hga).2) Tryd.underlying3 rfl) ?_
              refine vv (i := 5) (v := .slice pc lc.length cc) rfl rfl rfl (yb_loadc (off := 0) rfl (by kernel_rfl) (.tail _ (.head _)) Tryd.underlying22 rfl (by kernel_rfl)) ?_
              refine vm (i := 6) (v := .int .i64 (j : Int)) rfl rfl rfl ?_
              refine vp (i := 7) (v := .pointer (some ⟨bc, oc + 2 * j, none⟩)) rfl rfl rfl (run_idxp (b := bc) (off := oc) (n := lc.length) (cap := cc) (k := j) rfl (by kernel_rfl) hpc (by kernel_rfl) hjc) ?_
              refine vm (i := 8) (v := .pointer (some ⟨bc, oc + 2 * j + 1, none⟩)) rfl rfl rfl ?_
              refine vv (i := 9) (v := .int .i64 tc) rfl rfl rfl (yb_load1 rfl (by kernel_rfl) (hcc j (fc, tc) hgc).2 (World.block_lt_of_cell? _ _ (hcc j (fc, tc) hgc).2) Tryd.underlying3 rfl) ?_
              refine vp (i := 10) (v := .bool true) rfl rfl rfl (run_bin rfl (vx := .int .i64 ta) (vy := .int .i64 tc) (by kernel_rfl) (by kernel_rfl) fun w => run_lssI (decide_eq_true hlt2) w) ?_
              refine wpV_done (by kernel_rfl) (fun W8 hW8 => ?_) _
              have hR8 : KS (W8 : World) [(b1, .cells #[.slice pa la.length ca] 22 (0, 0)), (b2, .cells #[.slice pc lc.length cc] 22 (0, 0))] W8 := ⟨Below.refl _ _, hW8.2⟩
              obtain ⟨hJ8, hB8⟩ := abideF hJa hJ7 hB7 hW8
              refine (show Code.wpIn _ _ _ _ _ _ _ from ?_)
              refine wpIn_cond_true rfl ?_
              refine wp_region_LI (W0 := (W8 : World)) [(b1, .cells #[.slice pa la.length ca] 22 (0, 0)), (b2, .cells #[.slice pc lc.length cc] 22 (0, 0))] (by kernel_rfl) (hR8) ?_
              refine lm (v := .int .i64 (i : Int)) rfl rfl ?_
              refine lp (v := .int .i64 ((i + 1 : Nat) : Int)) rfl rfl (run_bin rfl (vx := .int .i64 (i : Int)) (vy := .int .i64 1) (by kernel_rfl) (by kernel_rfl) fun w => run_addI (z := ((i + 1 : Nat) : Int)) rfl (by omega) w) ?_
              refine lm (v := .int .i64 ((i + 1 : Nat) : Int)) rfl rfl ?_
              refine wpL_done (fun W9 hW9 => ?_)
              have hR9 : KS (W9 : World) [(b1, .cells #[.slice pa la.length ca] 22 (0, 0)), (b2, .cells #[.slice pc lc.length cc] 22 (0, 0))] W9 := ⟨Below.refl _ _, hW9.2⟩
              obtain ⟨hJ9, hB9⟩ := abideF hJa hJ8 hB8 hW9
              go_roundw
              case rel =>
                repeat apply Exists.intro
                exact ⟨⟨i + 1, j, fuel, (pre ++ [((max fa fc), (min ta tc))]), _, by rw [hxs, if_neg he, if_pos hlt2]; simp, by omega, by omega, by omega, rfl, rfl, hJ9, hB9⟩, rfl⟩
              case measure => (show (la.length - intOf (.int .i64 ((i + 1 : Nat) : Int))).toNat + (lc.length - intOf (.int .i64 (j : Int))).toNat < (la.length - intOf (.int .i64 (i : Int))).toNat + (lc.length - intOf (.int .i64 (j : Int))).toNat); simp only [intOf]; omega
            · obtain ⟨Sy, hBy, hJy⟩ := hX6
              have hBy2 := hB5.trans hBy
              have hKy : KS (W6 : World) [] W6 := KS.start _
              refine wpl_rest (W0 := (W6 : World)) [] (by kernel_rfl) (hKy) ?_
              refine lm (v := .bool true) rfl rfl ?_
              refine lm (v := .bool true) rfl rfl ?_
              refine wpL_done (fun W7 hW7 => ?_)
              refine (show Code.wpIn _ _ _ _ _ _ _ from ?_)
              refine wpIn_cond_true rfl ?_
              refine wpIn_ret ?_
              try simp only [inBlock_ret, then_ret]
              refine bodyPost_ret (results_none rfl _ _ _) rfl ?_
              obtain ⟨hJz, hBz⟩ := abideF hJxa hJy hBy2 hW7
              exact ⟨⟨_, rfl⟩, _, hBz, .inr ⟨_, hJz⟩⟩
          · have hem := fun W => empty_any (max fa fc) (min ta tc) W
            rw [decide_eq_false he] at hem
            refine wpIn_seq ?_
            refine wpIn_seq ?_
            refine wp_region_LI (W0 := (wr : World)) [(b1, .cells #[.slice pa la.length ca] 22 (0, 0)), (b2, .cells #[.slice pc lc.length cc] 22 (0, 0))] (by kernel_rfl) ((boxes wr hBr)) ?_
            refine lm (v := .int .i64 (i : Int)) rfl rfl ?_
            refine lv (v := .slice pa la.length ca) rfl rfl (yb_loadc (off := 0) rfl (by kernel_rfl) (.head _) Tryd.underlying22 rfl (by kernel_rfl)) ?_
            refine lm (v := .int .i64 (la.length : Int)) rfl rfl ?_
            refine lp (v := .bool true) rfl rfl (run_bin rfl (vx := .int .i64 (i : Int)) (vy := .int .i64 (la.length : Int)) (by kernel_rfl) (by kernel_rfl) fun w => run_lssI (decide_eq_true (by omega)) w) ?_
            refine lm (v := .bool true) rfl rfl ?_
            refine lm (v := .int .i64 (j : Int)) rfl rfl ?_
            refine lv (v := .slice pc lc.length cc) rfl rfl (yb_loadc (off := 0) rfl (by kernel_rfl) (.tail _ (.head _)) Tryd.underlying22 rfl (by kernel_rfl)) ?_
            refine lm (v := .int .i64 (lc.length : Int)) rfl rfl ?_
            refine lp (v := .bool true) rfl rfl (run_bin rfl (vx := .int .i64 (j : Int)) (vy := .int .i64 (lc.length : Int)) (by kernel_rfl) (by kernel_rfl) fun w => run_lssI (decide_eq_true (by omega)) w) ?_
            refine lm (v := .bool true) rfl rfl ?_
            refine wpL_done (fun W3 hW3 => ?_)
            have hR3 : KS (W3 : World) [(b1, .cells #[.slice pa la.length ca] 22 (0, 0)), (b2, .cells #[.slice pc lc.length cc] 22 (0, 0))] W3 := ⟨Below.refl _ _, hW3.2⟩
            obtain ⟨hJ3, hB3⟩ := abideF hJa hJr hBr hW3
            refine (show Code.wpIn _ _ _ _ _ _ _ from ?_)
            refine wpIn_cond_true rfl ?_
            refine wpIn_skip ?_
            refine (show Code.wpIn _ _ _ _ _ _ _ from ?_)
            refine wpIn_block ?_
            refine wpIn_seq ?_
            have hca := cells_low hca1 (hLow hB3) hba
            have hcc := cells_low hcc1 (hLow hB3) hbc
            have hcell := cells_low hcell1 (hLow hB3) hbw
            refine wp_region_VI (W0 := (W3 : World)) [(b1, .cells #[.slice pa la.length ca] 22 (0, 0)), (b2, .cells #[.slice pc lc.length cc] 22 (0, 0))] (by kernel_rfl) (by kernel_rfl) (hR3) ?_
            refine vv (i := 0) (v := .slice pa la.length ca) rfl rfl rfl (yb_loadc (off := 0) rfl (by kernel_rfl) (.head _) Tryd.underlying22 rfl (by kernel_rfl)) ?_
            refine vm (i := 1) (v := .int .i64 (i : Int)) rfl rfl rfl ?_
            refine vp (i := 2) (v := .pointer (some ⟨ba, oa + 2 * i, none⟩)) rfl rfl rfl (run_idxp (b := ba) (off := oa) (n := la.length) (cap := ca) (k := i) rfl (by kernel_rfl) hpa (by kernel_rfl) hia) ?_
            refine vv (i := 3) (v := .agg #[.int .i64 fa, .int .i64 ta]) rfl rfl rfl (yb_load2 rfl (by kernel_rfl) (hca i (fa, ta) hga).1 (hca i (fa, ta) hga).2 (World.block_lt_of_cell? _ _ (hca i (fa, ta) hga).1)) ?_
            refine vv (i := 4) (v := .slice pc lc.length cc) rfl rfl rfl (yb_loadc (off := 0) rfl (by kernel_rfl) (.tail _ (.head _)) Tryd.underlying22 rfl (by kernel_rfl)) ?_
            refine vm (i := 5) (v := .int .i64 (j : Int)) rfl rfl rfl ?_
            refine vp (i := 6) (v := .pointer (some ⟨bc, oc + 2 * j, none⟩)) rfl rfl rfl (run_idxp (b := bc) (off := oc) (n := lc.length) (cap := cc) (k := j) rfl (by kernel_rfl) hpc (by kernel_rfl) hjc) ?_
            refine vv (i := 7) (v := .agg #[.int .i64 fc, .int .i64 tc]) rfl rfl rfl (yb_load2 rfl (by kernel_rfl) (hcc j (fc, tc) hgc).1 (hcc j (fc, tc) hgc).2 (World.block_lt_of_cell? _ _ (hcc j (fc, tc) hgc).1)) ?_
            refine vv (i := 8) (v := .agg #[.int .i64 (max fa fc), .int .i64 (min ta tc)]) rfl rfl rfl (yb_call (f := 59) (args := #[.agg #[.int .i64 fa, .int .i64 ta], .agg #[.int .i64 fc, .int .i64 tc]]) (fun _ => by kernel_rfl) fun W hW => both_any fa ta fc tc W) ?_
            refine wpV_ns (fun g => .pointer (some ⟨g, 0, none⟩)) (i := 9) (obi := .cells #[.int .i64 0, .int .i64 0] 41 (0, 0)) rfl rfl rfl (by kernel_rfl) (fun _ => by kernel_rfl) (fun _ => by simp only [List.setIfInBounds_toArray, List.set_cons_succ, List.set_cons_zero] <;> rfl) fun g1 Bg1 Fg1 => ?_
            try simp only [List.forall_mem_cons] at Fg1
            refine wpV_s [(g1, .cells #[.int .i64 (max fa fc), .int .i64 (min ta tc)] 41 (0, 0)), (b1, .cells #[.slice pa la.length ca] 22 (0, 0)), (b2, .cells #[.slice pc lc.length cc] 22 (0, 0))] (i := 10) rfl (by kernel_rfl) rfl rfl rfl (st_span rfl (by kernel_rfl) (by kernel_rfl) (.head _) (by omega) (List.forall_mem_cons.2 ⟨.inl rfl, (List.forall_mem_cons.2 ⟨.inr ⟨(.tail _ (.head _)), Fg1.1⟩, (List.forall_mem_cons.2 ⟨.inr ⟨(.tail _ (.tail _ (.head _))), Fg1.2.1⟩, (List.forall_mem_nil _)⟩)⟩)⟩)) ?_
            refine wpV_done (by kernel_rfl) (fun W4 hW4 => ?_) _
            have hR4 : KS (W4 : World) [(g1, .cells #[.int .i64 (max fa fc), .int .i64 (min ta tc)] 41 (0, 0)), (b1, .cells #[.slice pa la.length ca] 22 (0, 0)), (b2, .cells #[.slice pc lc.length cc] 22 (0, 0))] W4 := ⟨Below.refl _ _, hW4.2⟩
            obtain ⟨hJ4, hB4⟩ := abideF hJa hJ3 hB3 hW4
            refine (show Code.wpIn _ _ _ _ _ _ _ from ?_)
            refine wpIn_seq ?_
            refine wpIn_seq ?_
            refine wp_region_S (W0 := (W4 : World)) (List.take 6 _) (List.drop 6 _) [(g1, .cells #[.int .i64 (max fa fc), .int .i64 (min ta tc)] 41 (0, 0)), (b1, .cells #[.slice pa la.length ca] 22 (0, 0)), (b2, .cells #[.slice pc lc.length cc] 22 (0, 0))] (List.take_append_drop 6 _).symm (by kernel_rfl) (hR4) ?_
            simp only [List.take_succ_cons, List.take_zero, List.drop_succ_cons, List.drop_zero]
            refine lv (v := .agg #[.int .i64 (max fa fc), .int .i64 (min ta tc)]) rfl rfl (yb_load (n := 2) (off := 0) rfl (by kernel_rfl) (.head _) Tryd.underlying41 rfl size_span (by simp) (by kernel_rfl)) ?_
            refine lv (v := .bool false) rfl rfl (yb_call (f := 60) (args := #[.agg #[.int .i64 (max fa fc), .int .i64 (min ta tc)]]) (fun _ => by kernel_rfl) fun W hW => hem W) ?_
            refine lm (v := .bool true) rfl rfl ?_
            refine lm (v := .bool true) rfl rfl ?_
            refine lm (v := .func (.yield l) #[] #[]) rfl rfl ?_
            refine lv (v := .agg #[.int .i64 (max fa fc), .int .i64 (min ta tc)]) rfl rfl (yb_load (n := 2) (off := 0) rfl (by kernel_rfl) (.head _) Tryd.underlying41 rfl size_span (by simp) (by kernel_rfl)) ?_
            refine wpL_done (fun W5 hW5 => ?_)
            have hR5 : KS (W5 : World) [(g1, .cells #[.int .i64 (max fa fc), .int .i64 (min ta tc)] 41 (0, 0)), (b1, .cells #[.slice pa la.length ca] 22 (0, 0)), (b2, .cells #[.slice pc lc.length cc] 22 (0, 0))] W5 := ⟨Below.refl _ _, hW5.2⟩
            obtain ⟨hJ5, hB5⟩ := abideF hJa hJ4 hB4 hW5
            refine (show wpListIn _ _ _ _ _ _ _ _ from ?_)
            have hYY := yieldF (m := 0) (r := none) (hYd pre ((max fa fc), (min ta tc)) _ W5 hJ5 (hMem hB5) (pre_of (rest := if ta < tc then commonL fuel (la.drop (i + 1)) (lc.drop j) else commonL fuel (la.drop i) (lc.drop (j + 1))) (by rw [hxs, if_neg he]; simp)))
            refine wpl_yield rfl rfl (by kernel_rfl) (by kernel_rfl) (by kernel_rfl) rfl hYY (by simp only [List.setIfInBounds_toArray, List.set_cons_succ, List.set_cons_zero] <;> rfl) (by simp only [List.setIfInBounds_toArray, List.set_cons_succ, List.set_cons_zero] <;> rfl) (fun W6 hA6 => ?_) (fun W6 hX6 => ?_)
            · obtain ⟨Sy, hBy, hJy⟩ := hA6
              have hBy2 := hB5.trans hBy
              have hKy : KS (W6 : World) [(b1, .cells #[.slice pa la.length ca] 22 (0, 0)), (b2, .cells #[.slice pc lc.length cc] 22 (0, 0))] W6 := boxes W6 hBy2
              refine wpl_rest (W0 := (W6 : World)) [(b1, .cells #[.slice pa la.length ca] 22 (0, 0)), (b2, .cells #[.slice pc lc.length cc] 22 (0, 0))] (by kernel_rfl) (hKy) ?_
              refine lm (v := .bool false) rfl rfl ?_
              refine lm (v := .bool false) rfl rfl ?_
              refine wpL_done (fun W7 hW7 => ?_)
              have hR7 : KS (W7 : World) [(b1, .cells #[.slice pa la.length ca] 22 (0, 0)), (b2, .cells #[.slice pc lc.length cc] 22 (0, 0))] W7 := ⟨Below.refl _ _, hW7.2⟩
              obtain ⟨hJ7, hB7⟩ := abideF hJa hJy hBy2 hW7
              refine (show Code.wpIn _ _ _ _ _ _ _ from ?_)
              refine wpIn_cond_false rfl ?_
              refine wpIn_skip ?_
              refine (show Code.wpIn _ _ _ _ _ _ _ from ?_)
              refine wpIn_seq ?_
              have hca := cells_low hca1 (hLow hB7) hba
              have hcc := cells_low hcc1 (hLow hB7) hbc
              have hcell := cells_low hcell1 (hLow hB7) hbw
              refine wp_region_VI (W0 := (W7 : World)) [(b1, .cells #[.slice pa la.length ca] 22 (0, 0)), (b2, .cells #[.slice pc lc.length cc] 22 (0, 0))] (by kernel_rfl) (by kernel_rfl) (hR7) ?_
              refine vv (i := 0) (v := .slice pa la.length ca) rfl rfl rfl (yb_loadc (off := 0) rfl (by kernel_rfl) (.head _) Tryd.underlying22 rfl (by kernel_rfl)) ?_
              refine vm (i := 1) (v := .int .i64 (i : Int)) rfl rfl rfl ?_
              refine vp (i := 2) (v := .pointer (some ⟨ba, oa + 2 * i, none⟩)) rfl rfl rfl (run_idxp (b := ba) (off := oa) (n := la.length) (cap := ca) (k := i) rfl (by kernel_rfl) hpa (by kernel_rfl) hia) ?_
              refine vm (i := 3) (v := .pointer (some ⟨ba, oa + 2 * i + 1, none⟩)) rfl rfl rfl ?_
              refine vv (i := 4) (v := .int .i64 ta) rfl rfl rfl (yb_load1 rfl (by kernel_rfl) (hca i (fa, ta) hga).2 (World.block_lt_of_cell? _ _ (hca i (fa, ta) hga).2) Tryd.underlying3 rfl) ?_
              refine vv (i := 5) (v := .slice pc lc.length cc) rfl rfl rfl (yb_loadc (off := 0) rfl (by kernel_rfl) (.tail _ (.head _)) Tryd.underlying22 rfl (by kernel_rfl)) ?_
              refine vm (i := 6) (v := .int .i64 (j : Int)) rfl rfl rfl ?_
              refine vp (i := 7) (v := .pointer (some ⟨bc, oc + 2 * j, none⟩)) rfl rfl rfl (run_idxp (b := bc) (off := oc) (n := lc.length) (cap := cc) (k := j) rfl (by kernel_rfl) hpc (by kernel_rfl) hjc) ?_
              refine vm (i := 8) (v := .pointer (some ⟨bc, oc + 2 * j + 1, none⟩)) rfl rfl rfl ?_
              refine vv (i := 9) (v := .int .i64 tc) rfl rfl rfl (yb_load1 rfl (by kernel_rfl) (hcc j (fc, tc) hgc).2 (World.block_lt_of_cell? _ _ (hcc j (fc, tc) hgc).2) Tryd.underlying3 rfl) ?_
              refine vp (i := 10) (v := .bool false) rfl rfl rfl (run_bin rfl (vx := .int .i64 ta) (vy := .int .i64 tc) (by kernel_rfl) (by kernel_rfl) fun w => run_lssI (decide_eq_false hlt2) w) ?_
              refine wpV_done (by kernel_rfl) (fun W8 hW8 => ?_) _
              have hR8 : KS (W8 : World) [(b1, .cells #[.slice pa la.length ca] 22 (0, 0)), (b2, .cells #[.slice pc lc.length cc] 22 (0, 0))] W8 := ⟨Below.refl _ _, hW8.2⟩
              obtain ⟨hJ8, hB8⟩ := abideF hJa hJ7 hB7 hW8
              refine (show Code.wpIn _ _ _ _ _ _ _ from ?_)
              refine wpIn_cond_false rfl ?_
              refine wp_region_LI (W0 := (W8 : World)) [(b1, .cells #[.slice pa la.length ca] 22 (0, 0)), (b2, .cells #[.slice pc lc.length cc] 22 (0, 0))] (by kernel_rfl) (hR8) ?_
              refine lm (v := .int .i64 (j : Int)) rfl rfl ?_
              refine lp (v := .int .i64 ((j + 1 : Nat) : Int)) rfl rfl (run_bin rfl (vx := .int .i64 (j : Int)) (vy := .int .i64 1) (by kernel_rfl) (by kernel_rfl) fun w => run_addI (z := ((j + 1 : Nat) : Int)) rfl (by omega) w) ?_
              refine lm (v := .int .i64 ((j + 1 : Nat) : Int)) rfl rfl ?_
              refine wpL_done (fun W9 hW9 => ?_)
              have hR9 : KS (W9 : World) [(b1, .cells #[.slice pa la.length ca] 22 (0, 0)), (b2, .cells #[.slice pc lc.length cc] 22 (0, 0))] W9 := ⟨Below.refl _ _, hW9.2⟩
              obtain ⟨hJ9, hB9⟩ := abideF hJa hJ8 hB8 hW9
              go_roundw
              case rel =>
                repeat apply Exists.intro
                exact ⟨⟨i, j + 1, fuel, (pre ++ [((max fa fc), (min ta tc))]), _, by rw [hxs, if_neg he, if_neg hlt2]; simp, by omega, by omega, by omega, rfl, rfl, hJ9, hB9⟩, rfl⟩
              case measure => (show (la.length - intOf (.int .i64 (i : Int))).toNat + (lc.length - intOf (.int .i64 ((j + 1 : Nat) : Int))).toNat < (la.length - intOf (.int .i64 (i : Int))).toNat + (lc.length - intOf (.int .i64 (j : Int))).toNat); simp only [intOf]; omega
            · obtain ⟨Sy, hBy, hJy⟩ := hX6
              have hBy2 := hB5.trans hBy
              have hKy : KS (W6 : World) [] W6 := KS.start _
              refine wpl_rest (W0 := (W6 : World)) [] (by kernel_rfl) (hKy) ?_
              refine lm (v := .bool true) rfl rfl ?_
              refine lm (v := .bool true) rfl rfl ?_
              refine wpL_done (fun W7 hW7 => ?_)
              refine (show Code.wpIn _ _ _ _ _ _ _ from ?_)
              refine wpIn_cond_true rfl ?_
              refine wpIn_ret ?_
              try simp only [inBlock_ret, then_ret]
              refine bodyPost_ret (results_none rfl _ _ _) rfl ?_
              obtain ⟨hJz, hBz⟩ := abideF hJxa hJy hBy2 hW7
              exact ⟨⟨_, rfl⟩, _, hBz, .inr ⟨_, hJz⟩⟩
      · have hend : commonL fuel (la.drop i) (lc.drop j) = [] := by rw [List.drop_eq_nil_of_le (by omega : lc.length ≤ j)]; exact com_nil_r _ _
        rw [hend, List.append_nil] at hxs
        refine wpIn_seq ?_
        refine wpIn_seq ?_
        refine wp_region_LI (W0 := (wr : World)) [(b1, .cells #[.slice pa la.length ca] 22 (0, 0)), (b2, .cells #[.slice pc lc.length cc] 22 (0, 0))] (by kernel_rfl) ((boxes wr hBr)) ?_
        refine lm (v := .int .i64 (i : Int)) rfl rfl ?_
        refine lv (v := .slice pa la.length ca) rfl rfl (yb_loadc (off := 0) rfl (by kernel_rfl) (.head _) Tryd.underlying22 rfl (by kernel_rfl)) ?_
        refine lm (v := .int .i64 (la.length : Int)) rfl rfl ?_
        refine lp (v := .bool true) rfl rfl (run_bin rfl (vx := .int .i64 (i : Int)) (vy := .int .i64 (la.length : Int)) (by kernel_rfl) (by kernel_rfl) fun w => run_lssI (decide_eq_true (by omega)) w) ?_
        refine lm (v := .bool true) rfl rfl ?_
        refine lm (v := .int .i64 (j : Int)) rfl rfl ?_
        refine lv (v := .slice pc lc.length cc) rfl rfl (yb_loadc (off := 0) rfl (by kernel_rfl) (.tail _ (.head _)) Tryd.underlying22 rfl (by kernel_rfl)) ?_
        refine lm (v := .int .i64 (lc.length : Int)) rfl rfl ?_
        refine lp (v := .bool false) rfl rfl (run_bin rfl (vx := .int .i64 (j : Int)) (vy := .int .i64 (lc.length : Int)) (by kernel_rfl) (by kernel_rfl) fun w => run_lssI (decide_eq_false (by omega)) w) ?_
        refine lm (v := .bool false) rfl rfl ?_
        refine wpL_done (fun W3 hW3 => ?_)
        have hR3 : KS (W3 : World) [(b1, .cells #[.slice pa la.length ca] 22 (0, 0)), (b2, .cells #[.slice pc lc.length cc] 22 (0, 0))] W3 := ⟨Below.refl _ _, hW3.2⟩
        obtain ⟨hJ3, hB3⟩ := abideF hJa hJr hBr hW3
        refine (show Code.wpIn _ _ _ _ _ _ _ from ?_)
        refine wpIn_cond_false rfl ?_
        refine wpIn_exit ?_
        simp only [then_exit, inBlock_exit]
        refine bodyPost_end (results_none rfl _ _ _) rfl ?_
        exact ⟨⟨_, rfl⟩, _, hB3, .inl (hxs.symm ▸ hJ3)⟩
    · have hend : commonL fuel (la.drop i) (lc.drop j) = [] := by rw [List.drop_eq_nil_of_le (by omega : la.length ≤ i)]; exact com_nil_l _ _
      rw [hend, List.append_nil] at hxs
      refine wpIn_seq ?_
      refine wpIn_seq ?_
      refine wp_region_LI (W0 := (wr : World)) [(b1, .cells #[.slice pa la.length ca] 22 (0, 0)), (b2, .cells #[.slice pc lc.length cc] 22 (0, 0))] (by kernel_rfl) ((boxes wr hBr)) ?_
      refine lm (v := .int .i64 (i : Int)) rfl rfl ?_
      refine lv (v := .slice pa la.length ca) rfl rfl (yb_loadc (off := 0) rfl (by kernel_rfl) (.head _) Tryd.underlying22 rfl (by kernel_rfl)) ?_
      refine lm (v := .int .i64 (la.length : Int)) rfl rfl ?_
      refine lp (v := .bool false) rfl rfl (run_bin rfl (vx := .int .i64 (i : Int)) (vy := .int .i64 (la.length : Int)) (by kernel_rfl) (by kernel_rfl) fun w => run_lssI (decide_eq_false (by omega)) w) ?_
      refine lm (v := .bool false) rfl rfl ?_
      refine ln rfl ?_
      refine ln rfl ?_
      refine ln rfl ?_
      refine ln rfl ?_
      refine lm (v := .bool false) rfl rfl ?_
      refine wpL_done (fun W3 hW3 => ?_)
      have hR3 : KS (W3 : World) [(b1, .cells #[.slice pa la.length ca] 22 (0, 0)), (b2, .cells #[.slice pc lc.length cc] 22 (0, 0))] W3 := ⟨Below.refl _ _, hW3.2⟩
      obtain ⟨hJ3, hB3⟩ := abideF hJa hJr hBr hW3
      refine (show Code.wpIn _ _ _ _ _ _ _ from ?_)
      refine wpIn_cond_false rfl ?_
      refine wpIn_exit ?_
      simp only [then_exit, inBlock_exit]
      refine bodyPost_end (results_none rfl _ _ _) rfl ?_
      exact ⟨⟨_, rfl⟩, _, hB3, .inl (hxs.symm ▸ hJ3)⟩
end Go.Proofs.YtjmcelgdjpdacaaDoor
