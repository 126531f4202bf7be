import Derived.Test.YthpooalhibedpaaDoorG05
import Derived.Test.YthpooalhibedpaaDoorG01
/- SlotOrder: the law holds for every input; no condition but the row's own. -/
set_option linter.unusedVariables false
set_option linter.unusedSimpArgs false
set_option linter.unusedSectionVars false
/- The order of slots. -/
namespace Go.Proofs.YthpooalhibedpaaDoor
open Go Go.RowKit Tw
def fewS (m : Nat) : Slt := ⟨((m % 2 : Nat) : Int), ((m / 2 % 4 : Nat) : Int), m / 8 % 3⟩
structure Tri where
  a : Slt
  b : Slt
  c : Slt
def triC (t : Tri) : List Value := sltC t.a ++ (sltC t.b ++ sltC t.c)
theorem triC_len (t : Tri) : (triC t).length = 9 := rfl
theorem triC_one (t : Tri) : ∀ v ∈ triC t, v.oneCell' = true := fun v hv => by
  simp only [triC, List.mem_append] at hv
  rcases hv with hv | hv | hv
  · exact sltC_one _ v hv
  · exact sltC_one _ v hv
  · exact sltC_one _ v hv
theorem cmp_anti (a b : Slt) : cmpS a b = -cmpS b a := by
  rcases cmpS_cases a b with ⟨h, e⟩ | ⟨h, e⟩ | ⟨h, e⟩
  · rw [e, cmpS_gt h]
  · subst h; rw [cmpS_eq]; rfl
  · rw [e, cmpS_lt h]; rfl
theorem cmp_zero (a b : Slt) : cmpS a b = 0 ↔ eqS a b = true := by
  rw [eqS_iff]
  constructor
  · intro h0
    rcases cmpS_cases a b with ⟨h, e⟩ | ⟨h, e⟩ | ⟨h, e⟩
    · omega
    · exact h
    · omega
  · rintro rfl; exact cmpS_eq a
theorem cmp_tr {a b c : Slt} (h1 : cmpS a b < 0) (h2 : cmpS b c < 0) : cmpS a c < 0 := by
  rcases cmpS_cases a b with ⟨h, e⟩ | ⟨h, e⟩ | ⟨h, e⟩
  · rcases cmpS_cases b c with ⟨g, f⟩ | ⟨g, f⟩ | ⟨g, f⟩
    · rw [cmpS_lt (ltS_trans h g)]; omega
    · omega
    · omega
  · omega
  · omega
theorem cmp_rng (a b : Slt) : -1 ≤ cmpS a b ∧ cmpS a b ≤ 1 := by
  rcases cmpS_cases a b with ⟨h, e⟩ | ⟨h, e⟩ | ⟨h, e⟩ <;> omega
theorem ovl_comm (a b : Nat) : ovl a b = ovl b a := by
  unfold ovl
  rw [Bool.eq_iff_iff]
  simp only [Bool.or_eq_true, decide_eq_true_eq]
  omega
theorem meet_comm (a b : Slt) : meetS a b = meetS b a := by
  unfold meetS
  rw [ovl_comm, show decide (a.col = b.col) = decide (b.col = a.col) from by rw [decide_eq_decide]; exact eq_comm, show decide (a.tier = b.tier) = decide (b.tier = a.tier) from by rw [decide_eq_decide]; exact eq_comm]
theorem meet_self (a : Slt) : meetS a a = true := by simp [meetS, ovl]
theorem over_self (a : Slt) : overS a a = false := by simp [overS]
theorem over_iff {a b : Slt} : overS a b = true ↔ a.col = b.col ∧ b.tier < a.tier ∧ (a.half = b.half ∨ a.half = 0 ∨ b.half = 0) := by
  simp [overS, ovl]
theorem meet_iff {a b : Slt} : meetS a b = true ↔ a.col = b.col ∧ a.tier = b.tier ∧ (a.half = b.half ∨ a.half = 0 ∨ b.half = 0) := by
  simp [meetS, ovl]
theorem meet_over {a b : Slt} (h : meetS a b = true) (h2 : overS a b = true) : False := by
  have := meet_iff.1 h; have := over_iff.1 h2; omega
theorem over_anti {a b : Slt} (h : overS a b = true) (h2 : overS b a = true) : False := by
  have := over_iff.1 h; have := over_iff.1 h2; omega
theorem over_one {a b : Slt} (h : overS a b = true) : cmpS a b = 1 := by
  have := over_iff.1 h
  exact cmpS_gt (.inr ⟨this.1.symm, .inl this.2.1⟩)
theorem over_tr {a b c : Slt} (h : overS a b = true) (h2 : overS b c = true) (h3 : overS a c = false) : b.half = 0 ∧ a.half ≠ c.half ∧ a.half ≠ 0 ∧ c.half ≠ 0 := by
  have h := over_iff.1 h
  have h2 := over_iff.1 h2
  have h3 : ¬ (a.col = c.col ∧ c.tier < a.tier ∧ (a.half = c.half ∨ a.half = 0 ∨ c.half = 0)) := fun e => by rw [over_iff.2 e] at h3; cases h3
  omega
end Go.Proofs.YthpooalhibedpaaDoor
namespace Go.Proofs.YthpooalhibedpaaDoor
open Go Go.RowKit Tw
theorem un_neg {P : Program} {k : IntKind} {n z : Int} (h : -n = z) (hw : k.wrap z = z) (w : World) : (Op.unary .neg (.int k n) : Sem Value).run P w = .ok (.int k z) w := by
  subst h
  simp [Op.unary, Op.intArith, Int.zero_sub, hw]
theorem cel_part {W : World} {g : Nat} {cs ds : List Value} (h : ∀ (j : Nat) (v : Value), cs[j]? = some v → W.cell? ⟨g, 0 + j, none⟩ = some v) (off : Nat) (he : (cs.drop off).take ds.length = ds) : ∀ (j : Nat) (v : Value), ds[j]? = some v → W.cell? ⟨g, off + j, none⟩ = some v := fun j v hv => by
  have h1 : j < ds.length := (List.getElem?_eq_some_iff.1 hv).1
  have h2 : cs[off + j]? = some v := by
    rw [← he, List.getElem?_take_of_lt h1, List.getElem?_drop] at hv
    exact hv
  have := h (off + j) v h2
  rwa [Nat.zero_add] at this
theorem el_tri : Elem Tryd.prog 75 74 9 72 (.agg #[.int .i64 0, .int .i64 0, .int .u8 0, .int .i64 0, .int .i64 0, .int .u8 0, .int .i64 0, .int .i64 0, .int .u8 0]) := Elem.mk' Tryd.underlying75 (by kernel_rfl) rfl
set_option maxRecDepth 100000 in
set_option maxHeartbeats 4000000 in
theorem fewO_any (k n g : Nat) (hk : k ≤ 2) (hn : n ≤ 4294967295) (w : World) (h1 : CapR w g [.int .u32 ((n : Nat) : Int)]) : Calls Tryd.prog 35 #[.int .i64 ((k : Nat) : Int), .pointer (some ⟨g, 0, none⟩)] w fun e w' => e = .returned (.agg (sltC (fewS (n / 2 ^ (8 * k) % 256))).toArray) ∧ Below w.heap.size w w' := by
  have H1 := Lib.hid h1
  clear h1
  have hd := Nat.div_le_self n (2 ^ (8 * k))
  go_enter Tryd.func35, Tryd.ntmps35
  refine wp_seq ?_
  refine wp_region_L (W0 := w) [] (KS.start w) ?_
  refine wpL_new (fun g => .pointer (some ⟨g, 0, none⟩)) (obi := .cells #[.int .i64 0, .int .i64 0, .int .u8 0] 34 (0, 0)) rfl rfl (fun _ => by kernel_rfl) (fun _ => by simp only [List.setIfInBounds_toArray, List.set_cons_succ, List.set_cons_zero] <;> rfl) fun g21 Bg21 Fg21 => ?_
  refine wpL_done (fun W1 hW1 => ?_)
  refine (show Code.wp _ _ _ _ _ from ?_)
  refine wp_seq ?_
  refine wp_region_L (W0 := w) [(g21, .cells #[.int .i64 0, .int .i64 0, .int .u8 0] 34 (0, 0))] (hW1) ?_
  refine lv (v := .int .u32 ((n : Nat) : Int)) rfl rfl (yb_rf (v := .int .u32 ((n : Nat) : Int)) rfl (by kernel_rfl) (fun W hW => ((H1.out).keep hW.1).2 0 _ rfl) Tryd.underlying61 rfl) ?_
  refine lm (v := .int .i64 ((k : Nat) : Int)) rfl rfl ?_
  refine lp (v := .int .i64 (((8 * k) : Nat) : Int)) rfl rfl (run_bin rfl (vx := (.int .i64 ((8 : Nat) : Int))) (vy := (.int .i64 ((k : Nat) : Int))) (by kernel_rfl) (by kernel_rfl) fun w => bn_mul (z := (8 * k)) rfl (wr_i64 (by omega)) w) ?_
  refine lp (v := .int .u32 (((n / 2 ^ (8 * k)) : Nat) : Int)) rfl rfl (run_bin rfl (vx := (.int .u32 ((n : Nat) : Int))) (vy := (.int .i64 (((8 * k) : Nat) : Int))) (by kernel_rfl) (by kernel_rfl) fun w => bn_shr (z := (n / 2 ^ (8 * k))) rfl (by first | omega | decide | (simp only [IntKind.bits]; omega)) w) ?_
  refine lp (v := .int .u32 ((((n / 2 ^ (8 * k)) % 256) : Nat) : Int)) rfl rfl (run_bin rfl (vx := (.int .u32 (((n / 2 ^ (8 * k)) : Nat) : Int))) (vy := (.int .u32 ((255 : Nat) : Int))) (by kernel_rfl) (by kernel_rfl) fun w => bn_and (z := ((n / 2 ^ (8 * k)) % 256)) (Nat.and_two_pow_sub_one_eq_mod _ 8) (by rw [show IntKind.u32.bits = 32 from rfl]; exact Nat.lt_of_le_of_lt (Nat.div_le_self _ _) (by omega)) (by decide) (wr_u32 (by omega)) w) ?_
  refine lp (v := .int .i64 ((((n / 2 ^ (8 * k)) % 256) : Nat) : Int)) rfl rfl (run_conv rfl (vx := (.int .u32 ((((n / 2 ^ (8 * k)) % 256) : Nat) : Int))) (by kernel_rfl) fun w => cv_int Tryd.underlying61 Tryd.underlying3 (wr_i64 (by omega)) w) ?_
  refine lm (v := .int .i64 ((((n / 2 ^ (8 * k)) % 256) : Nat) : Int)) rfl rfl ?_
  refine wpL_done (fun W2 hW2 => ?_)
  refine (show Code.wp _ _ _ _ _ from ?_)
  refine wp_seq ?_
  refine wp_region_L (W0 := w) [(g21, .cells #[.int .i64 0, .int .i64 0, .int .u8 0] 34 (0, 0))] (hW2) ?_
  refine lm (v := .int .i64 ((((n / 2 ^ (8 * k)) % 256) : Nat) : Int)) rfl rfl ?_
  refine lp (v := .int .i64 (((((n / 2 ^ (8 * k)) % 256) % 2) : Nat) : Int)) rfl rfl (run_bin rfl (vx := (.int .i64 ((((n / 2 ^ (8 * k)) % 256) : Nat) : Int))) (vy := (.int .i64 ((2 : Nat) : Int))) (by kernel_rfl) (by kernel_rfl) fun w => bn_rem (z := (((n / 2 ^ (8 * k)) % 256) % 2)) rfl (by omega) w) ?_
  refine lm (v := .int .i64 ((((n / 2 ^ (8 * k)) % 256) : Nat) : Int)) rfl rfl ?_
  refine lp (v := .int .i64 (((((n / 2 ^ (8 * k)) % 256) / 2) : Nat) : Int)) rfl rfl (run_bin rfl (vx := (.int .i64 ((((n / 2 ^ (8 * k)) % 256) : Nat) : Int))) (vy := (.int .i64 ((2 : Nat) : Int))) (by kernel_rfl) (by kernel_rfl) fun w => bn_quo (z := (((n / 2 ^ (8 * k)) % 256) / 2)) rfl (by omega) (wr_i64 (by omega)) w) ?_
  refine lp (v := .int .i64 ((((((n / 2 ^ (8 * k)) % 256) / 2) % 4) : Nat) : Int)) rfl rfl (run_bin rfl (vx := (.int .i64 (((((n / 2 ^ (8 * k)) % 256) / 2) : Nat) : Int))) (vy := (.int .i64 ((4 : Nat) : Int))) (by kernel_rfl) (by kernel_rfl) fun w => bn_rem (z := ((((n / 2 ^ (8 * k)) % 256) / 2) % 4)) rfl (by omega) w) ?_
  refine lm (v := .int .i64 ((((n / 2 ^ (8 * k)) % 256) : Nat) : Int)) rfl rfl ?_
  refine lp (v := .int .i64 (((((n / 2 ^ (8 * k)) % 256) / 8) : Nat) : Int)) rfl rfl (run_bin rfl (vx := (.int .i64 ((((n / 2 ^ (8 * k)) % 256) : Nat) : Int))) (vy := (.int .i64 ((8 : Nat) : Int))) (by kernel_rfl) (by kernel_rfl) fun w => bn_quo (z := (((n / 2 ^ (8 * k)) % 256) / 8)) rfl (by omega) (wr_i64 (by omega)) w) ?_
  refine lp (v := .int .i64 ((((((n / 2 ^ (8 * k)) % 256) / 8) % 3) : Nat) : Int)) rfl rfl (run_bin rfl (vx := (.int .i64 (((((n / 2 ^ (8 * k)) % 256) / 8) : Nat) : Int))) (vy := (.int .i64 ((3 : Nat) : Int))) (by kernel_rfl) (by kernel_rfl) fun w => bn_rem (z := ((((n / 2 ^ (8 * k)) % 256) / 8) % 3)) rfl (by omega) w) ?_
  refine lp (v := .int .u8 ((((((n / 2 ^ (8 * k)) % 256) / 8) % 3) : Nat) : Int)) rfl rfl (run_conv rfl (vx := (.int .i64 ((((((n / 2 ^ (8 * k)) % 256) / 8) % 3) : Nat) : Int))) (by kernel_rfl) fun w => cv_int Tryd.underlying3 Tryd.underlying5 (wr_u8 (by omega)) w) ?_
  refine lm (v := .agg #[.int .i64 (((((n / 2 ^ (8 * k)) % 256) % 2) : Nat) : Int), .int .i64 ((((((n / 2 ^ (8 * k)) % 256) / 2) % 4) : Nat) : Int), .int .u8 ((((((n / 2 ^ (8 * k)) % 256) / 8) % 3) : Nat) : Int)]) rfl rfl ?_
  refine wpL_s [(g21, .cells #[.int .i64 (((((n / 2 ^ (8 * k)) % 256) % 2) : Nat) : Int), .int .i64 ((((((n / 2 ^ (8 * k)) % 256) / 2) % 4) : Nat) : Int), .int .u8 ((((((n / 2 ^ (8 * k)) % 256) / 8) % 3) : Nat) : Int)] 34 (0, 0))] rfl rfl (st_row (off := 0) (v := .agg #[.int .i64 (((((n / 2 ^ (8 * k)) % 256) % 2) : Nat) : Int), .int .i64 ((((((n / 2 ^ (8 * k)) % 256) / 2) % 4) : Nat) : Int), .int .u8 ((((((n / 2 ^ (8 * k)) % 256) / 8) % 3) : Nat) : Int)]) rfl (by kernel_rfl) (by kernel_rfl) (.head _) Bg21 (by kernel_rfl) (by first | (simp [Value.cells]; done) | exact Nat.le_of_ble_eq_true rfl) (by intro v hv; simp [Value.cells] at hv; first | (subst hv; rfl) | (rcases hv with rfl | rfl | rfl <;> rfl)) (by kernel_rfl) (List.forall_mem_cons.2 ⟨.inl rfl, (List.forall_mem_nil _)⟩)) ?_
  refine wpL_done (fun W3 hW3 => ?_)
  refine (show Code.wp _ _ _ _ _ from ?_)
  refine wp_ret ?_
  try simp only [inBlock_ret, then_ret]
  refine bodyPost_ret (v := .agg #[.int .i64 (((((n / 2 ^ (8 * k)) % 256) % 2) : Nat) : Int), .int .i64 ((((((n / 2 ^ (8 * k)) % 256) / 2) % 4) : Nat) : Int), .int .u8 ((((((n / 2 ^ (8 * k)) % 256) / 8) % 3) : Nat) : Int)]) ?_ rfl ?_
  · exact (res_cell (p := 3) rfl rfl (hW3.2 _ (.head _)) Tryd.underlying34 rfl (by kernel_rfl))
  · exact ⟨rfl, hW3.1⟩
end Go.Proofs.YthpooalhibedpaaDoor
namespace Go.Proofs.YthpooalhibedpaaDoor
open Go Go.RowKit Tw
set_option maxRecDepth 100000 in
set_option maxHeartbeats 4000000 in
theorem SlotOrder_any (a b c : Slt) (n : Nat) (hn : n ≤ 4294967295) (w : World) (hE : Env w) : Calls Tryd.prog 7 #[.agg (sltC a).toArray, .agg (sltC b).toArray, .agg (sltC c).toArray, .int .u32 ((n : Nat) : Int)] w fun e w' => e = .returned (.bool true) ∧ Below w.heap.size w w' := by
  have HE := Lib.hid hE
  clear hE
  go_enter Tryd.func7, Tryd.ntmps7
  refine wp_seq ?_
  refine wp_region_L (W0 := w) [] (KS.start w) ?_
  refine wpL_new (fun g => .pointer (some ⟨g, 0, none⟩)) (obi := .cells (sltC a).toArray 34 (0, 0)) rfl rfl (fun _ => by kernel_rfl) (fun _ => by simp only [List.setIfInBounds_toArray, List.set_cons_succ, List.set_cons_zero] <;> rfl) fun g1 Bg1 Fg1 => ?_
  refine wpL_new (fun g => .pointer (some ⟨g, 0, none⟩)) (obi := .cells (sltC b).toArray 34 (0, 0)) rfl rfl (fun _ => by kernel_rfl) (fun _ => by simp only [List.setIfInBounds_toArray, List.set_cons_succ, List.set_cons_zero] <;> rfl) fun g2 Bg2 Fg2 => ?_
  obtain dj3_0 : g1 ≠ g2 := by simpa only [dj_app_l, dj_app_r, dj_cons_l, dj_cons_r, dj_nil_l, dj_nil_r, dk_app, dk_cons, dk_nil, and_true, true_and, and_assoc] using (show Dk g2 [(g1, .cells (sltC a).toArray 34 (0, 0))] from Fg2)
  refine wpL_new (fun g => .pointer (some ⟨g, 0, none⟩)) (obi := .cells (sltC c).toArray 34 (0, 0)) rfl rfl (fun _ => by kernel_rfl) (fun _ => by simp only [List.setIfInBounds_toArray, List.set_cons_succ, List.set_cons_zero] <;> rfl) fun g4 Bg4 Fg4 => ?_
  obtain ⟨dj5_0, dj5_1⟩ : g2 ≠ g4 ∧ g1 ≠ g4 := by simpa only [dj_app_l, dj_app_r, dj_cons_l, dj_cons_r, dj_nil_l, dj_nil_r, dk_app, dk_cons, dk_nil, and_true, true_and, and_assoc] using (show Dk g4 [(g2, .cells (sltC b).toArray 34 (0, 0)), (g1, .cells (sltC a).toArray 34 (0, 0))] from Fg4)
  refine wpL_new (fun g => .pointer (some ⟨g, 0, none⟩)) (obi := .cells #[.int .u32 ((n : Nat) : Int)] 61 (0, 0)) rfl rfl (fun _ => by kernel_rfl) (fun _ => by simp only [List.setIfInBounds_toArray, List.set_cons_succ, List.set_cons_zero] <;> rfl) fun g6 Bg6 Fg6 => ?_
  obtain ⟨dj7_0, dj7_1, dj7_2⟩ : g4 ≠ g6 ∧ g2 ≠ g6 ∧ g1 ≠ g6 := by simpa only [dj_app_l, dj_app_r, dj_cons_l, dj_cons_r, dj_nil_l, dj_nil_r, dk_app, dk_cons, dk_nil, and_true, true_and, and_assoc] using (show Dk g6 [(g4, .cells (sltC c).toArray 34 (0, 0)), (g2, .cells (sltC b).toArray 34 (0, 0)), (g1, .cells (sltC a).toArray 34 (0, 0))] from Fg6)
  refine lm (v := .bool false) rfl rfl ?_
  refine wpL_done (fun W1 hW1 => ?_)
  refine (show Code.wp _ _ _ _ _ from ?_)
  refine wp_seq ?_
  refine wp_region_L (W0 := w) [(g6, .cells #[.int .u32 ((n : Nat) : Int)] 61 (0, 0)), (g4, .cells (sltC c).toArray 34 (0, 0)), (g2, .cells (sltC b).toArray 34 (0, 0)), (g1, .cells (sltC a).toArray 34 (0, 0))] (hW1) ?_
  refine lm (v := .func (.func 35) #[] #[.pointer (some ⟨g6, 0, none⟩)]) rfl rfl ?_
  refine lm (v := .func (.func 35) #[] #[.pointer (some ⟨g6, 0, none⟩)]) rfl rfl ?_
  refine wpL_done (fun W2 hW2 => ?_)
  refine (show Code.wp _ _ _ _ _ from ?_)
  refine wp_seq ?_
  refine wp_seq ?_
  refine wp_region_V (W0 := w) [(g6, .cells #[.int .u32 ((n : Nat) : Int)] 61 (0, 0)), (g4, .cells (sltC c).toArray 34 (0, 0)), (g2, .cells (sltC b).toArray 34 (0, 0)), (g1, .cells (sltC a).toArray 34 (0, 0))] (by kernel_rfl) (hW2) ?_
  refine vv (i := 0) (v := .agg (sltC a).toArray) rfl rfl rfl (yb_load (n := 3) (off := 0) rfl (by kernel_rfl) (.tail _ (.tail _ (.tail _ (.head _)))) Tryd.underlying34 rfl (by kernel_rfl) (by first | (simp [Value.cells]; done) | exact Nat.le_of_ble_eq_true rfl) (by kernel_rfl)) ?_
  refine vv (i := 1) (v := .agg (sltC b).toArray) rfl rfl rfl (yb_load (n := 3) (off := 0) rfl (by kernel_rfl) (.tail _ (.tail _ (.head _))) Tryd.underlying34 rfl (by kernel_rfl) (by first | (simp [Value.cells]; done) | exact Nat.le_of_ble_eq_true rfl) (by kernel_rfl)) ?_
  refine vv (i := 2) (v := .agg (sltC c).toArray) rfl rfl rfl (yb_load (n := 3) (off := 0) rfl (by kernel_rfl) (.tail _ (.head _)) Tryd.underlying34 rfl (by kernel_rfl) (by first | (simp [Value.cells]; done) | exact Nat.le_of_ble_eq_true rfl) (by kernel_rfl)) ?_
  refine vm (i := 3) (v := .agg #[.int .i64 a.col, .int .i64 a.tier, .int .u8 ((a.half : Nat) : Int), .int .i64 b.col, .int .i64 b.tier, .int .u8 ((b.half : Nat) : Int), .int .i64 c.col, .int .i64 c.tier, .int .u8 ((c.half : Nat) : Int)]) rfl rfl rfl ?_
  refine vm (i := 4) (v := .func (.func 35) #[] #[.pointer (some ⟨g6, 0, none⟩)]) rfl rfl rfl ?_
  refine vv (i := 5) (v := .agg (sltC (fewS (n / 2 ^ (8 * 0) % 256))).toArray) rfl rfl rfl (yb_call (f := 35) (args := #[.int .i64 0, .pointer (some ⟨g6, 0, none⟩)]) (fun _ => by kernel_rfl) fun W hW => fewO_any 0 n g6 (by decide) hn W (CapR.of hW (.head _))) ?_
  refine vm (i := 6) (v := .func (.func 35) #[] #[.pointer (some ⟨g6, 0, none⟩)]) rfl rfl rfl ?_
  refine vv (i := 7) (v := .agg (sltC (fewS (n / 2 ^ (8 * 1) % 256))).toArray) rfl rfl rfl (yb_call (f := 35) (args := #[.int .i64 1, .pointer (some ⟨g6, 0, none⟩)]) (fun _ => by kernel_rfl) fun W hW => fewO_any 1 n g6 (by decide) hn W (CapR.of hW (.head _))) ?_
  refine vm (i := 8) (v := .func (.func 35) #[] #[.pointer (some ⟨g6, 0, none⟩)]) rfl rfl rfl ?_
  refine vv (i := 9) (v := .agg (sltC (fewS (n / 2 ^ (8 * 2) % 256))).toArray) rfl rfl rfl (yb_call (f := 35) (args := #[.int .i64 2, .pointer (some ⟨g6, 0, none⟩)]) (fun _ => by kernel_rfl) fun W hW => fewO_any 2 n g6 (by decide) hn W (CapR.of hW (.head _))) ?_
  refine vm (i := 10) (v := .agg #[.int .i64 ((fewS (n / 2 ^ (8 * 0) % 256)).col), .int .i64 ((fewS (n / 2 ^ (8 * 0) % 256)).tier), .int .u8 ((((fewS (n / 2 ^ (8 * 0) % 256)).half) : Nat) : Int), .int .i64 ((fewS (n / 2 ^ (8 * 1) % 256)).col), .int .i64 ((fewS (n / 2 ^ (8 * 1) % 256)).tier), .int .u8 ((((fewS (n / 2 ^ (8 * 1) % 256)).half) : Nat) : Int), .int .i64 ((fewS (n / 2 ^ (8 * 2) % 256)).col), .int .i64 ((fewS (n / 2 ^ (8 * 2) % 256)).tier), .int .u8 ((((fewS (n / 2 ^ (8 * 2) % 256)).half) : Nat) : Int)]) rfl rfl rfl ?_
  refine vm (i := 13) (v := .int .i64 0) rfl rfl rfl ?_
  refine wpV_ns (fun g => .slice (some ⟨g, 0, none⟩) 2 2) (i := 11) (obi := .cells #[.int .i64 a.col, .int .i64 a.tier, .int .u8 ((a.half : Nat) : Int), .int .i64 b.col, .int .i64 b.tier, .int .u8 ((b.half : Nat) : Int), .int .i64 c.col, .int .i64 c.tier, .int .u8 ((c.half : Nat) : Int), .int .i64 ((fewS (n / 2 ^ (8 * 0) % 256)).col), .int .i64 ((fewS (n / 2 ^ (8 * 0) % 256)).tier), .int .u8 ((((fewS (n / 2 ^ (8 * 0) % 256)).half) : Nat) : Int), .int .i64 ((fewS (n / 2 ^ (8 * 1) % 256)).col), .int .i64 ((fewS (n / 2 ^ (8 * 1) % 256)).tier), .int .u8 ((((fewS (n / 2 ^ (8 * 1) % 256)).half) : Nat) : Int), .int .i64 ((fewS (n / 2 ^ (8 * 2) % 256)).col), .int .i64 ((fewS (n / 2 ^ (8 * 2) % 256)).tier), .int .u8 ((((fewS (n / 2 ^ (8 * 2) % 256)).half) : Nat) : Int)] 74 (0, 0)) rfl rfl rfl (by kernel_rfl) (fun _ => by kernel_rfl) (fun _ => by simp only [List.setIfInBounds_toArray, List.set_cons_succ, List.set_cons_zero] <;> rfl) fun g8 Bg8 Fg8 => ?_
  obtain ⟨dj9_0, dj9_1, dj9_2, dj9_3⟩ : g6 ≠ g8 ∧ g4 ≠ g8 ∧ g2 ≠ g8 ∧ g1 ≠ g8 := by simpa only [dj_app_l, dj_app_r, dj_cons_l, dj_cons_r, dj_nil_l, dj_nil_r, dk_app, dk_cons, dk_nil, and_true, true_and, and_assoc] using (show Dk g8 [(g6, .cells #[.int .u32 ((n : Nat) : Int)] 61 (0, 0)), (g4, .cells (sltC c).toArray 34 (0, 0)), (g2, .cells (sltC b).toArray 34 (0, 0)), (g1, .cells (sltC a).toArray 34 (0, 0))] from Fg8)
  refine vm (i := 12) (v := .int .i64 2) rfl rfl rfl ?_
  refine wpV_done (by kernel_rfl) (fun W3 hW3 => ?_) _
  refine (show Code.wp _ _ _ _ _ from ?_)
  refine wp_block ?_
  obtain ⟨trs, htr⟩ : ∃ l : List Tri, l = ([⟨a, b, c⟩, ⟨(fewS (n / 2 ^ (8 * 0) % 256)), (fewS (n / 2 ^ (8 * 1) % 256)), (fewS (n / 2 ^ (8 * 2) % 256))⟩] : List Tri) := ⟨_, rfl⟩
  have hlt : trs.length = 2 := by rw [htr]; rfl
  have hRT : RL triC w (some ⟨g8, 0, none⟩) trs [(g8, .cells #[.int .i64 a.col, .int .i64 a.tier, .int .u8 ((a.half : Nat) : Int), .int .i64 b.col, .int .i64 b.tier, .int .u8 ((b.half : Nat) : Int), .int .i64 c.col, .int .i64 c.tier, .int .u8 ((c.half : Nat) : Int), .int .i64 ((fewS (n / 2 ^ (8 * 0) % 256)).col), .int .i64 ((fewS (n / 2 ^ (8 * 0) % 256)).tier), .int .u8 ((((fewS (n / 2 ^ (8 * 0) % 256)).half) : Nat) : Int), .int .i64 ((fewS (n / 2 ^ (8 * 1) % 256)).col), .int .i64 ((fewS (n / 2 ^ (8 * 1) % 256)).tier), .int .u8 ((((fewS (n / 2 ^ (8 * 1) % 256)).half) : Nat) : Int), .int .i64 ((fewS (n / 2 ^ (8 * 2) % 256)).col), .int .i64 ((fewS (n / 2 ^ (8 * 2) % 256)).tier), .int .u8 ((((fewS (n / 2 ^ (8 * 2) % 256)).half) : Nat) : Int)] 74 (0, 0))] := by rw [htr]; exact fun W hW => blk_slv hW (.head _)
  go_loopw [32] (fun u32 wr => ∃ (k : Nat), (k ≤ 2) ∧ u32 = .int .i64 ((k : Nat) : Int) ∧ KS w [(g8, .cells #[.int .i64 a.col, .int .i64 a.tier, .int .u8 ((a.half : Nat) : Int), .int .i64 b.col, .int .i64 b.tier, .int .u8 ((b.half : Nat) : Int), .int .i64 c.col, .int .i64 c.tier, .int .u8 ((c.half : Nat) : Int), .int .i64 ((fewS (n / 2 ^ (8 * 0) % 256)).col), .int .i64 ((fewS (n / 2 ^ (8 * 0) % 256)).tier), .int .u8 ((((fewS (n / 2 ^ (8 * 0) % 256)).half) : Nat) : Int), .int .i64 ((fewS (n / 2 ^ (8 * 1) % 256)).col), .int .i64 ((fewS (n / 2 ^ (8 * 1) % 256)).tier), .int .u8 ((((fewS (n / 2 ^ (8 * 1) % 256)).half) : Nat) : Int), .int .i64 ((fewS (n / 2 ^ (8 * 2) % 256)).col), .int .i64 ((fewS (n / 2 ^ (8 * 2) % 256)).tier), .int .u8 ((((fewS (n / 2 ^ (8 * 2) % 256)).half) : Nat) : Int)] 74 (0, 0)), (g6, .cells #[.int .u32 ((n : Nat) : Int)] 61 (0, 0)), (g4, .cells (sltC c).toArray 34 (0, 0)), (g2, .cells (sltC b).toArray 34 (0, 0)), (g1, .cells (sltC a).toArray 34 (0, 0))] wr) (fun u32 _ => 2 - (intOf u32).toNat)
  case atStart => exact ⟨0, (by omega), rfl, (hW3.sub (fun p hp => by first | exact hp | (simp only [List.mem_cons, List.mem_append, List.nil_append, List.not_mem_nil, or_assoc, or_false, false_or] at hp ⊢ <;> grind)))⟩
  case round =>
    obtain ⟨k, hk, rfl, hL4⟩ := hrel
    refine wp_seq ?_
    refine wp_region_L (W0 := w) [(g8, .cells #[.int .i64 a.col, .int .i64 a.tier, .int .u8 ((a.half : Nat) : Int), .int .i64 b.col, .int .i64 b.tier, .int .u8 ((b.half : Nat) : Int), .int .i64 c.col, .int .i64 c.tier, .int .u8 ((c.half : Nat) : Int), .int .i64 ((fewS (n / 2 ^ (8 * 0) % 256)).col), .int .i64 ((fewS (n / 2 ^ (8 * 0) % 256)).tier), .int .u8 ((((fewS (n / 2 ^ (8 * 0) % 256)).half) : Nat) : Int), .int .i64 ((fewS (n / 2 ^ (8 * 1) % 256)).col), .int .i64 ((fewS (n / 2 ^ (8 * 1) % 256)).tier), .int .u8 ((((fewS (n / 2 ^ (8 * 1) % 256)).half) : Nat) : Int), .int .i64 ((fewS (n / 2 ^ (8 * 2) % 256)).col), .int .i64 ((fewS (n / 2 ^ (8 * 2) % 256)).tier), .int .u8 ((((fewS (n / 2 ^ (8 * 2) % 256)).half) : Nat) : Int)] 74 (0, 0)), (g6, .cells #[.int .u32 ((n : Nat) : Int)] 61 (0, 0)), (g4, .cells (sltC c).toArray 34 (0, 0)), (g2, .cells (sltC b).toArray 34 (0, 0)), (g1, .cells (sltC a).toArray 34 (0, 0))] (hL4) ?_
    refine lp (v := .bool (decide (k < 2))) rfl rfl (run_bin rfl (vx := (.int .i64 ((k : Nat) : Int))) (vy := (.int .i64 ((2 : Nat) : Int))) (by kernel_rfl) (by kernel_rfl) fun w => bn_lss rfl w) ?_
    refine wpL_done (fun W5 hW5 => ?_)
    refine (show Code.wp _ _ _ _ _ from ?_)
    refine wp_seq ?_
    cases hd1 : (decide (k < 2)) with
    | false =>
      have h1 : ¬ (k < 2) := of_decide_eq_false hd1
      clear hd1
      refine wp_cond_false rfl ?_
      refine wp_exit ?_
      refine (show Code.wp _ _ _ _ _ from ?_)
      refine wp_seq ?_
      refine wp_region_L (W0 := w) [(g8, .cells #[.int .i64 a.col, .int .i64 a.tier, .int .u8 ((a.half : Nat) : Int), .int .i64 b.col, .int .i64 b.tier, .int .u8 ((b.half : Nat) : Int), .int .i64 c.col, .int .i64 c.tier, .int .u8 ((c.half : Nat) : Int), .int .i64 ((fewS (n / 2 ^ (8 * 0) % 256)).col), .int .i64 ((fewS (n / 2 ^ (8 * 0) % 256)).tier), .int .u8 ((((fewS (n / 2 ^ (8 * 0) % 256)).half) : Nat) : Int), .int .i64 ((fewS (n / 2 ^ (8 * 1) % 256)).col), .int .i64 ((fewS (n / 2 ^ (8 * 1) % 256)).tier), .int .u8 ((((fewS (n / 2 ^ (8 * 1) % 256)).half) : Nat) : Int), .int .i64 ((fewS (n / 2 ^ (8 * 2) % 256)).col), .int .i64 ((fewS (n / 2 ^ (8 * 2) % 256)).tier), .int .u8 ((((fewS (n / 2 ^ (8 * 2) % 256)).half) : Nat) : Int)] 74 (0, 0)), (g6, .cells #[.int .u32 ((n : Nat) : Int)] 61 (0, 0)), (g4, .cells (sltC c).toArray 34 (0, 0)), (g2, .cells (sltC b).toArray 34 (0, 0)), (g1, .cells (sltC a).toArray 34 (0, 0))] (hW5) ?_
      refine lv (v := .bool true) rfl rfl (yb_call (f := 11) (args := #[]) (fun _ => by kernel_rfl) fun W hW => awake8_any W (HE.out.keep hW.1)) ?_
      refine lm (v := .bool true) rfl rfl ?_
      refine wpL_done (fun W6 hW6 => ?_)
      refine (show Code.wp _ _ _ _ _ from ?_)
      refine wp_ret ?_
      try simp only [inBlock_ret, then_ret]
      refine bodyPost_ret (v := .bool true) ?_ rfl ?_
      · kernel_rfl
      · exact ⟨rfl, hW6.1⟩
    | true =>
      have h1 : k < 2 := of_decide_eq_true hd1
      clear hd1
      refine wp_cond_true rfl ?_
      refine wp_skip ?_
      refine (show Code.wp _ _ _ _ _ from ?_)
      refine wp_seq ?_
      refine wp_block ?_
      refine wp_seq ?_
      refine wp_region_L (W0 := w) [(g8, .cells #[.int .i64 a.col, .int .i64 a.tier, .int .u8 ((a.half : Nat) : Int), .int .i64 b.col, .int .i64 b.tier, .int .u8 ((b.half : Nat) : Int), .int .i64 c.col, .int .i64 c.tier, .int .u8 ((c.half : Nat) : Int), .int .i64 ((fewS (n / 2 ^ (8 * 0) % 256)).col), .int .i64 ((fewS (n / 2 ^ (8 * 0) % 256)).tier), .int .u8 ((((fewS (n / 2 ^ (8 * 0) % 256)).half) : Nat) : Int), .int .i64 ((fewS (n / 2 ^ (8 * 1) % 256)).col), .int .i64 ((fewS (n / 2 ^ (8 * 1) % 256)).tier), .int .u8 ((((fewS (n / 2 ^ (8 * 1) % 256)).half) : Nat) : Int), .int .i64 ((fewS (n / 2 ^ (8 * 2) % 256)).col), .int .i64 ((fewS (n / 2 ^ (8 * 2) % 256)).tier), .int .u8 ((((fewS (n / 2 ^ (8 * 2) % 256)).half) : Nat) : Int)] 74 (0, 0)), (g6, .cells #[.int .u32 ((n : Nat) : Int)] 61 (0, 0)), (g4, .cells (sltC c).toArray 34 (0, 0)), (g2, .cells (sltC b).toArray 34 (0, 0)), (g1, .cells (sltC a).toArray 34 (0, 0))] (hW5) ?_
      obtain ⟨y10, g10_, f10_, hy10, hp10, hc10⟩ := RL.at hRT triC_len (by decide) (hW5.sub (fun p hp => by cases List.mem_singleton.1 hp; exact (.head _))) (k := k) (by omega)
      have r1 := cmp_rng y10.a y10.b
      have r2 := cmp_rng y10.b y10.a
      refine lp (v := .pointer (some ⟨g10_, f10_ + k * 9, none⟩)) rfl rfl (run_idxQ (p := (some ⟨g8, 0, none⟩)) (cap := 2) (n := 2) (j := .i64) (k := k) (sz := 9) rfl Tryd.underlying75 (by kernel_rfl) (by kernel_rfl) hp10 (by kernel_rfl) (by omega)) ?_
      refine lv (v := .agg (triC y10).toArray) rfl rfl (yb_rs (off := f10_ + k * 9) (cs := triC y10) rfl (by kernel_rfl) (fun W hW => hc10 W (hW.sub (fun p hp => by cases List.mem_singleton.1 hp; exact (.head _)))) Tryd.underlying74 rfl (by kernel_rfl)) ?_
      refine wpL_new (fun g => .pointer (some ⟨g, 0, none⟩)) (obi := .cells #[.int .i64 0, .int .i64 0, .int .u8 0, .int .i64 0, .int .i64 0, .int .u8 0, .int .i64 0, .int .i64 0, .int .u8 0] 74 (0, 0)) rfl rfl (fun _ => by kernel_rfl) (fun _ => by simp only [List.setIfInBounds_toArray, List.set_cons_succ, List.set_cons_zero] <;> rfl) fun g11 Bg11 Fg11 => ?_
      obtain ⟨dj12_0, dj12_1, dj12_2, dj12_3, dj12_4⟩ : g8 ≠ g11 ∧ g6 ≠ g11 ∧ g4 ≠ g11 ∧ g2 ≠ g11 ∧ g1 ≠ g11 := by simpa only [dj_app_l, dj_app_r, dj_cons_l, dj_cons_r, dj_nil_l, dj_nil_r, dk_app, dk_cons, dk_nil, and_true, true_and, and_assoc] using (show Dk g11 [(g8, .cells #[.int .i64 a.col, .int .i64 a.tier, .int .u8 ((a.half : Nat) : Int), .int .i64 b.col, .int .i64 b.tier, .int .u8 ((b.half : Nat) : Int), .int .i64 c.col, .int .i64 c.tier, .int .u8 ((c.half : Nat) : Int), .int .i64 ((fewS (n / 2 ^ (8 * 0) % 256)).col), .int .i64 ((fewS (n / 2 ^ (8 * 0) % 256)).tier), .int .u8 ((((fewS (n / 2 ^ (8 * 0) % 256)).half) : Nat) : Int), .int .i64 ((fewS (n / 2 ^ (8 * 1) % 256)).col), .int .i64 ((fewS (n / 2 ^ (8 * 1) % 256)).tier), .int .u8 ((((fewS (n / 2 ^ (8 * 1) % 256)).half) : Nat) : Int), .int .i64 ((fewS (n / 2 ^ (8 * 2) % 256)).col), .int .i64 ((fewS (n / 2 ^ (8 * 2) % 256)).tier), .int .u8 ((((fewS (n / 2 ^ (8 * 2) % 256)).half) : Nat) : Int)] 74 (0, 0)), (g6, .cells #[.int .u32 ((n : Nat) : Int)] 61 (0, 0)), (g4, .cells (sltC c).toArray 34 (0, 0)), (g2, .cells (sltC b).toArray 34 (0, 0)), (g1, .cells (sltC a).toArray 34 (0, 0))] from Fg11)
      refine wpL_s [(g11, .cells (triC y10).toArray 74 (0, 0)), (g8, .cells #[.int .i64 a.col, .int .i64 a.tier, .int .u8 ((a.half : Nat) : Int), .int .i64 b.col, .int .i64 b.tier, .int .u8 ((b.half : Nat) : Int), .int .i64 c.col, .int .i64 c.tier, .int .u8 ((c.half : Nat) : Int), .int .i64 ((fewS (n / 2 ^ (8 * 0) % 256)).col), .int .i64 ((fewS (n / 2 ^ (8 * 0) % 256)).tier), .int .u8 ((((fewS (n / 2 ^ (8 * 0) % 256)).half) : Nat) : Int), .int .i64 ((fewS (n / 2 ^ (8 * 1) % 256)).col), .int .i64 ((fewS (n / 2 ^ (8 * 1) % 256)).tier), .int .u8 ((((fewS (n / 2 ^ (8 * 1) % 256)).half) : Nat) : Int), .int .i64 ((fewS (n / 2 ^ (8 * 2) % 256)).col), .int .i64 ((fewS (n / 2 ^ (8 * 2) % 256)).tier), .int .u8 ((((fewS (n / 2 ^ (8 * 2) % 256)).half) : Nat) : Int)] 74 (0, 0)), (g6, .cells #[.int .u32 ((n : Nat) : Int)] 61 (0, 0)), (g4, .cells (sltC c).toArray 34 (0, 0)), (g2, .cells (sltC b).toArray 34 (0, 0)), (g1, .cells (sltC a).toArray 34 (0, 0))] rfl rfl (st_row (off := 0) (v := .agg (triC y10).toArray) rfl (by kernel_rfl) (by kernel_rfl) (.head _) Bg11 (by kernel_rfl) (by first | (simp [Value.cells]; done) | exact Nat.le_of_ble_eq_true rfl) (fun v hv => triC_one y10 v hv) (by kernel_rfl) (List.forall_mem_cons.2 ⟨.inl rfl, (List.forall_mem_cons.2 ⟨.inr ⟨(.tail _ (.head _)), (by first | assumption | exact Ne.symm (by assumption))⟩, (List.forall_mem_cons.2 ⟨.inr ⟨(.tail _ (.tail _ (.head _))), (by first | assumption | exact Ne.symm (by assumption))⟩, (List.forall_mem_cons.2 ⟨.inr ⟨(.tail _ (.tail _ (.tail _ (.head _)))), (by first | assumption | exact Ne.symm (by assumption))⟩, (List.forall_mem_cons.2 ⟨.inr ⟨(.tail _ (.tail _ (.tail _ (.tail _ (.head _))))), (by first | assumption | exact Ne.symm (by assumption))⟩, (List.forall_mem_cons.2 ⟨.inr ⟨(.tail _ (.tail _ (.tail _ (.tail _ (.tail _ (.head _)))))), (by first | assumption | exact Ne.symm (by assumption))⟩, (List.forall_mem_nil _)⟩)⟩)⟩)⟩)⟩)⟩)) ?_
      refine wpL_done (fun W7 hW7 => ?_)
      refine (show Code.wp _ _ _ _ _ from ?_)
      have HG11 := Lib.hid (CapR.of (cs := triC y10) hW7 (.head _))
      have hb11 := hW7.1
      refine wp_joins (fun az wz => ∃ (ga gb gc : Nat), ((W7 : Base).B ≤ ga) ∧ ((W7 : Base).B ≤ gb) ∧ ((W7 : Base).B ≤ gc) ∧ (ga ≠ gb) ∧ (ga ≠ gc) ∧ (gb ≠ gc) ∧ JoinR (fun zq => List.toArray ((.agg (sltC a).toArray) :: (.agg (sltC b).toArray) :: (.agg (sltC c).toArray) :: (.int .u32 ((n : Nat) : Int)) :: (.pointer (some ⟨g1, 0, none⟩)) :: (.pointer (some ⟨g2, 0, none⟩)) :: (.pointer (some ⟨g4, 0, none⟩)) :: (.pointer (some ⟨g6, 0, none⟩)) :: zq 8 :: (.func (.func 35) #[] #[.pointer (some ⟨g6, 0, none⟩)]) :: undef :: (.pointer (some ⟨g11, 0, none⟩)) :: (.pointer (some ⟨ga, 0, none⟩)) :: (.pointer (some ⟨gb, 0, none⟩)) :: (.pointer (some ⟨gc, 0, none⟩)) :: zq 15 :: zq 16 :: zq 17 :: (.func (.func 35) #[] #[.pointer (some ⟨g6, 0, none⟩)]) :: (.agg (sltC a).toArray) :: (.agg (sltC b).toArray) :: (.agg (sltC c).toArray) :: (.agg #[.int .i64 a.col, .int .i64 a.tier, .int .u8 ((a.half : Nat) : Int), .int .i64 b.col, .int .i64 b.tier, .int .u8 ((b.half : Nat) : Int), .int .i64 c.col, .int .i64 c.tier, .int .u8 ((c.half : Nat) : Int)]) :: (.func (.func 35) #[] #[.pointer (some ⟨g6, 0, none⟩)]) :: (.agg (sltC (fewS (n / 2 ^ (8 * 0) % 256))).toArray) :: (.func (.func 35) #[] #[.pointer (some ⟨g6, 0, none⟩)]) :: (.agg (sltC (fewS (n / 2 ^ (8 * 1) % 256))).toArray) :: (.func (.func 35) #[] #[.pointer (some ⟨g6, 0, none⟩)]) :: (.agg (sltC (fewS (n / 2 ^ (8 * 2) % 256))).toArray) :: (.agg #[.int .i64 ((fewS (n / 2 ^ (8 * 0) % 256)).col), .int .i64 ((fewS (n / 2 ^ (8 * 0) % 256)).tier), .int .u8 ((((fewS (n / 2 ^ (8 * 0) % 256)).half) : Nat) : Int), .int .i64 ((fewS (n / 2 ^ (8 * 1) % 256)).col), .int .i64 ((fewS (n / 2 ^ (8 * 1) % 256)).tier), .int .u8 ((((fewS (n / 2 ^ (8 * 1) % 256)).half) : Nat) : Int), .int .i64 ((fewS (n / 2 ^ (8 * 2) % 256)).col), .int .i64 ((fewS (n / 2 ^ (8 * 2) % 256)).tier), .int .u8 ((((fewS (n / 2 ^ (8 * 2) % 256)).half) : Nat) : Int)]) :: (.slice (some ⟨g8, 0, none⟩) 2 2) :: (.int .i64 2) :: (.int .i64 ((k : Nat) : Int)) :: (.bool true) :: (.pointer (some ⟨g10_, f10_ + k * 9, none⟩)) :: (.agg (triC y10).toArray) :: zq 36 :: zq 37 :: zq 38 :: zq 39 :: zq 40 :: zq 41 :: zq 42 :: zq 43 :: zq 44 :: zq 45 :: zq 46 :: zq 47 :: zq 48 :: zq 49 :: zq 50 :: zq 51 :: zq 52 :: zq 53 :: zq 54 :: zq 55 :: zq 56 :: zq 57 :: zq 58 :: zq 59 :: zq 60 :: zq 61 :: zq 62 :: zq 63 :: zq 64 :: zq 65 :: zq 66 :: zq 67 :: zq 68 :: zq 69 :: zq 70 :: zq 71 :: zq 72 :: zq 73 :: zq 74 :: zq 75 :: zq 76 :: zq 77 :: zq 78 :: zq 79 :: zq 80 :: zq 81 :: zq 82 :: zq 83 :: zq 84 :: zq 85 :: zq 86 :: zq 87 :: zq 88 :: zq 89 :: zq 90 :: zq 91 :: zq 92 :: zq 93 :: zq 94 :: zq 95 :: zq 96 :: zq 97 :: zq 98 :: zq 99 :: zq 100 :: zq 101 :: zq 102 :: zq 103 :: zq 104 :: zq 105 :: zq 106 :: zq 107 :: zq 108 :: zq 109 :: zq 110 :: zq 111 :: zq 112 :: zq 113 :: zq 114 :: zq 115 :: zq 116 :: zq 117 :: zq 118 :: zq 119 :: zq 120 :: zq 121 :: zq 122 :: zq 123 :: zq 124 :: zq 125 :: zq 126 :: zq 127 :: zq 128 :: zq 129 :: zq 130 :: zq 131 :: zq 132 :: zq 133 :: zq 134 :: zq 135 :: zq 136 :: zq 137 :: zq 138 :: zq 139 :: zq 140 :: zq 141 :: zq 142 :: zq 143 :: zq 144 :: zq 145 :: zq 146 :: zq 147 :: zq 148 :: zq 149 :: zq 150 :: zq 151 :: zq 152 :: zq 153 :: zq 154 :: zq 155 :: zq 156 :: zq 157 :: zq 158 :: zq 159 :: zq 160 :: zq 161 :: zq 162 :: zq 163 :: undef :: [])) W7 [(ga, .cells #[.int .i64 y10.a.col, .int .i64 y10.a.tier, .int .u8 ((y10.a.half : Nat) : Int)] 34 (0, 0)), (gb, .cells #[.int .i64 y10.b.col, .int .i64 y10.b.tier, .int .u8 ((y10.b.half : Nat) : Int)] 34 (0, 0)), (gc, .cells #[.int .i64 y10.c.col, .int .i64 y10.c.tier, .int .u8 ((y10.c.half : Nat) : Int)] 34 (0, 0))] az wz) 1 ?_ ?_
      · refine (show Code.wp _ _ _ _ _ from ?_)
        refine wp_region_V (W0 := W7) [] (by kernel_rfl) ((KS.start W7)) ?_
        refine vm (i := 0) (v := .pointer (some ⟨g11, 0, none⟩)) rfl rfl rfl ?_
        refine vb (i := 1) (v := .agg #[.int .i64 y10.a.col, .int .i64 y10.a.tier, .int .u8 ((y10.a.half : Nat) : Int)]) rfl rfl rfl (yb_rs (off := 0) (cs := [.int .i64 y10.a.col, .int .i64 y10.a.tier, .int .u8 ((y10.a.half : Nat) : Int)]) rfl (by kernel_rfl) (fun W hW => cel_part (HG11.out.keep hW.1).2 0 rfl) Tryd.underlying34 rfl (by kernel_rfl)) ?_
        refine vm (i := 2) (v := .pointer (some ⟨g11, 3, none⟩)) rfl rfl rfl ?_
        refine vb (i := 3) (v := .agg #[.int .i64 y10.b.col, .int .i64 y10.b.tier, .int .u8 ((y10.b.half : Nat) : Int)]) rfl rfl rfl (yb_rs (off := 3) (cs := [.int .i64 y10.b.col, .int .i64 y10.b.tier, .int .u8 ((y10.b.half : Nat) : Int)]) rfl (by kernel_rfl) (fun W hW => cel_part (HG11.out.keep hW.1).2 3 rfl) Tryd.underlying34 rfl (by kernel_rfl)) ?_
        refine vm (i := 4) (v := .pointer (some ⟨g11, 6, none⟩)) rfl rfl rfl ?_
        refine vb (i := 5) (v := .agg #[.int .i64 y10.c.col, .int .i64 y10.c.tier, .int .u8 ((y10.c.half : Nat) : Int)]) rfl rfl rfl (yb_rs (off := 6) (cs := [.int .i64 y10.c.col, .int .i64 y10.c.tier, .int .u8 ((y10.c.half : Nat) : Int)]) rfl (by kernel_rfl) (fun W hW => cel_part (HG11.out.keep hW.1).2 6 rfl) Tryd.underlying34 rfl (by kernel_rfl)) ?_
        refine wpV_t3x (i := 6) (j := 7) (m := 8) (by kernel_rfl) ?_ ?_ ?_
        · refine stepV_nsx (fun g => .pointer (some ⟨g, 0, none⟩)) (i := 6) (obi := .cells #[.int .i64 0, .int .i64 0, .int .u8 0] 34 (0, 0)) rfl rfl rfl (fun _ => by kernel_rfl) (fun _ => by simp only [List.setIfInBounds_toArray, List.set_cons_succ, List.set_cons_zero] <;> rfl) fun g13 Bg13 Fg13 => ?_
          refine wpV_2 (i := 7) (j := 8) (by kernel_rfl) ?_ ?_
          · refine stepV_nsx (fun g => .pointer (some ⟨g, 0, none⟩)) (i := 7) (obi := .cells #[.int .i64 0, .int .i64 0, .int .u8 0] 34 (0, 0)) rfl rfl rfl (fun _ => by kernel_rfl) (fun _ => by simp only [List.setIfInBounds_toArray, List.set_cons_succ, List.set_cons_zero] <;> rfl) fun g14 Bg14 Fg14 => ?_
            obtain dj15_0 : g13 ≠ g14 := by simpa only [dj_app_l, dj_app_r, dj_cons_l, dj_cons_r, dj_nil_l, dj_nil_r, dk_app, dk_cons, dk_nil, and_true, true_and, and_assoc] using (show Dk g14 [(g13, .cells #[.int .i64 0, .int .i64 0, .int .u8 0] 34 (0, 0))] from Fg14)
            refine wpV_ns (fun g => .pointer (some ⟨g, 0, none⟩)) (i := 8) (obi := .cells #[.int .i64 0, .int .i64 0, .int .u8 0] 34 (0, 0)) rfl rfl rfl (by kernel_rfl) (fun _ => by kernel_rfl) (fun _ => by simp only [List.setIfInBounds_toArray, List.set_cons_succ, List.set_cons_zero] <;> rfl) fun g16 Bg16 Fg16 => ?_
            obtain ⟨dj17_0, dj17_1⟩ : g14 ≠ g16 ∧ g13 ≠ g16 := by simpa only [dj_app_l, dj_app_r, dj_cons_l, dj_cons_r, dj_nil_l, dj_nil_r, dk_app, dk_cons, dk_nil, and_true, true_and, and_assoc] using (show Dk g16 [(g14, .cells #[.int .i64 0, .int .i64 0, .int .u8 0] 34 (0, 0)), (g13, .cells #[.int .i64 0, .int .i64 0, .int .u8 0] 34 (0, 0))] from Fg16)
            refine wpV_s [(g16, .cells #[.int .i64 0, .int .i64 0, .int .u8 0] 34 (0, 0)), (g14, .cells #[.int .i64 0, .int .i64 0, .int .u8 0] 34 (0, 0)), (g13, .cells #[.int .i64 y10.a.col, .int .i64 y10.a.tier, .int .u8 ((y10.a.half : Nat) : Int)] 34 (0, 0))] (i := 9) rfl (by kernel_rfl) rfl rfl rfl (st_row (off := 0) (v := .agg #[.int .i64 y10.a.col, .int .i64 y10.a.tier, .int .u8 ((y10.a.half : Nat) : Int)]) rfl (by kernel_rfl) (by kernel_rfl) (.tail _ (.tail _ (.head _))) Bg13 (by kernel_rfl) (by first | (simp [Value.cells]; done) | exact Nat.le_of_ble_eq_true rfl) (by intro v hv; simp [Value.cells] at hv; first | (subst hv; rfl) | (rcases hv with rfl | rfl | rfl <;> rfl)) (by kernel_rfl) (List.forall_mem_cons.2 ⟨.inr ⟨(.head _), (by first | assumption | exact Ne.symm (by assumption))⟩, (List.forall_mem_cons.2 ⟨.inr ⟨(.tail _ (.head _)), (by first | assumption | exact Ne.symm (by assumption))⟩, (List.forall_mem_cons.2 ⟨.inl rfl, (List.forall_mem_nil _)⟩)⟩)⟩)) ?_
            refine wpV_s [(g16, .cells #[.int .i64 0, .int .i64 0, .int .u8 0] 34 (0, 0)), (g14, .cells #[.int .i64 y10.b.col, .int .i64 y10.b.tier, .int .u8 ((y10.b.half : Nat) : Int)] 34 (0, 0)), (g13, .cells #[.int .i64 y10.a.col, .int .i64 y10.a.tier, .int .u8 ((y10.a.half : Nat) : Int)] 34 (0, 0))] (i := 10) rfl (by kernel_rfl) rfl rfl rfl (st_row (off := 0) (v := .agg #[.int .i64 y10.b.col, .int .i64 y10.b.tier, .int .u8 ((y10.b.half : Nat) : Int)]) rfl (by kernel_rfl) (by kernel_rfl) (.tail _ (.head _)) Bg14 (by kernel_rfl) (by first | (simp [Value.cells]; done) | exact Nat.le_of_ble_eq_true rfl) (by intro v hv; simp [Value.cells] at hv; first | (subst hv; rfl) | (rcases hv with rfl | rfl | rfl <;> rfl)) (by kernel_rfl) (List.forall_mem_cons.2 ⟨.inr ⟨(.head _), (by first | assumption | exact Ne.symm (by assumption))⟩, (List.forall_mem_cons.2 ⟨.inl rfl, (List.forall_mem_cons.2 ⟨.inr ⟨(.tail _ (.tail _ (.head _))), (by first | assumption | exact Ne.symm (by assumption))⟩, (List.forall_mem_nil _)⟩)⟩)⟩)) ?_
            refine wpV_s [(g16, .cells #[.int .i64 y10.c.col, .int .i64 y10.c.tier, .int .u8 ((y10.c.half : Nat) : Int)] 34 (0, 0)), (g14, .cells #[.int .i64 y10.b.col, .int .i64 y10.b.tier, .int .u8 ((y10.b.half : Nat) : Int)] 34 (0, 0)), (g13, .cells #[.int .i64 y10.a.col, .int .i64 y10.a.tier, .int .u8 ((y10.a.half : Nat) : Int)] 34 (0, 0))] (i := 11) rfl (by kernel_rfl) rfl rfl rfl (st_row (off := 0) (v := .agg #[.int .i64 y10.c.col, .int .i64 y10.c.tier, .int .u8 ((y10.c.half : Nat) : Int)]) rfl (by kernel_rfl) (by kernel_rfl) (.head _) Bg16 (by kernel_rfl) (by first | (simp [Value.cells]; done) | exact Nat.le_of_ble_eq_true rfl) (by intro v hv; simp [Value.cells] at hv; first | (subst hv; rfl) | (rcases hv with rfl | rfl | rfl <;> rfl)) (by kernel_rfl) (List.forall_mem_cons.2 ⟨.inl rfl, (List.forall_mem_cons.2 ⟨.inr ⟨(.tail _ (.head _)), (by first | assumption | exact Ne.symm (by assumption))⟩, (List.forall_mem_cons.2 ⟨.inr ⟨(.tail _ (.tail _ (.head _))), (by first | assumption | exact Ne.symm (by assumption))⟩, (List.forall_mem_nil _)⟩)⟩)⟩)) ?_
            refine wpV_done (by kernel_rfl) (fun W8 hW8 => ?_) _
            exact ⟨g13, g14, g16, (by first | assumption | exact Ne.symm (by assumption)), (by first | assumption | exact Ne.symm (by assumption)), (by first | assumption | exact Ne.symm (by assumption)), (by first | assumption | exact Ne.symm (by assumption)), (by first | assumption | exact Ne.symm (by assumption)), (by first | assumption | exact Ne.symm (by assumption)), join_mk (by kernel_rfl) (hW8.sub (fun p hp => by first | exact hp | (simp only [List.mem_cons, List.mem_append, List.nil_append, List.not_mem_nil, or_assoc, or_false, false_or] at hp ⊢ <;> grind)))⟩
          · refine stepV_nsx (fun g => .pointer (some ⟨g, 0, none⟩)) (i := 8) (obi := .cells #[.int .i64 0, .int .i64 0, .int .u8 0] 34 (0, 0)) rfl rfl rfl (fun _ => by kernel_rfl) (fun _ => by simp only [List.setIfInBounds_toArray, List.set_cons_succ, List.set_cons_zero] <;> rfl) fun g18 Bg18 Fg18 => ?_
            obtain dj19_0 : g13 ≠ g18 := by simpa only [dj_app_l, dj_app_r, dj_cons_l, dj_cons_r, dj_nil_l, dj_nil_r, dk_app, dk_cons, dk_nil, and_true, true_and, and_assoc] using (show Dk g18 [(g13, .cells #[.int .i64 0, .int .i64 0, .int .u8 0] 34 (0, 0))] from Fg18)
            refine wpV_ns (fun g => .pointer (some ⟨g, 0, none⟩)) (i := 7) (obi := .cells #[.int .i64 0, .int .i64 0, .int .u8 0] 34 (0, 0)) rfl rfl rfl (by kernel_rfl) (fun _ => by kernel_rfl) (fun _ => by simp only [List.setIfInBounds_toArray, List.set_cons_succ, List.set_cons_zero] <;> rfl) fun g20 Bg20 Fg20 => ?_
            obtain ⟨dj21_0, dj21_1⟩ : g18 ≠ g20 ∧ g13 ≠ g20 := by simpa only [dj_app_l, dj_app_r, dj_cons_l, dj_cons_r, dj_nil_l, dj_nil_r, dk_app, dk_cons, dk_nil, and_true, true_and, and_assoc] using (show Dk g20 [(g18, .cells #[.int .i64 0, .int .i64 0, .int .u8 0] 34 (0, 0)), (g13, .cells #[.int .i64 0, .int .i64 0, .int .u8 0] 34 (0, 0))] from Fg20)
            refine wpV_s [(g20, .cells #[.int .i64 0, .int .i64 0, .int .u8 0] 34 (0, 0)), (g18, .cells #[.int .i64 0, .int .i64 0, .int .u8 0] 34 (0, 0)), (g13, .cells #[.int .i64 y10.a.col, .int .i64 y10.a.tier, .int .u8 ((y10.a.half : Nat) : Int)] 34 (0, 0))] (i := 9) rfl (by kernel_rfl) rfl rfl rfl (st_row (off := 0) (v := .agg #[.int .i64 y10.a.col, .int .i64 y10.a.tier, .int .u8 ((y10.a.half : Nat) : Int)]) rfl (by kernel_rfl) (by kernel_rfl) (.tail _ (.tail _ (.head _))) Bg13 (by kernel_rfl) (by first | (simp [Value.cells]; done) | exact Nat.le_of_ble_eq_true rfl) (by intro v hv; simp [Value.cells] at hv; first | (subst hv; rfl) | (rcases hv with rfl | rfl | rfl <;> rfl)) (by kernel_rfl) (List.forall_mem_cons.2 ⟨.inr ⟨(.head _), (by first | assumption | exact Ne.symm (by assumption))⟩, (List.forall_mem_cons.2 ⟨.inr ⟨(.tail _ (.head _)), (by first | assumption | exact Ne.symm (by assumption))⟩, (List.forall_mem_cons.2 ⟨.inl rfl, (List.forall_mem_nil _)⟩)⟩)⟩)) ?_
            refine wpV_s [(g20, .cells #[.int .i64 y10.b.col, .int .i64 y10.b.tier, .int .u8 ((y10.b.half : Nat) : Int)] 34 (0, 0)), (g18, .cells #[.int .i64 0, .int .i64 0, .int .u8 0] 34 (0, 0)), (g13, .cells #[.int .i64 y10.a.col, .int .i64 y10.a.tier, .int .u8 ((y10.a.half : Nat) : Int)] 34 (0, 0))] (i := 10) rfl (by kernel_rfl) rfl rfl rfl (st_row (off := 0) (v := .agg #[.int .i64 y10.b.col, .int .i64 y10.b.tier, .int .u8 ((y10.b.half : Nat) : Int)]) rfl (by kernel_rfl) (by kernel_rfl) (.head _) Bg20 (by kernel_rfl) (by first | (simp [Value.cells]; done) | exact Nat.le_of_ble_eq_true rfl) (by intro v hv; simp [Value.cells] at hv; first | (subst hv; rfl) | (rcases hv with rfl | rfl | rfl <;> rfl)) (by kernel_rfl) (List.forall_mem_cons.2 ⟨.inl rfl, (List.forall_mem_cons.2 ⟨.inr ⟨(.tail _ (.head _)), (by first | assumption | exact Ne.symm (by assumption))⟩, (List.forall_mem_cons.2 ⟨.inr ⟨(.tail _ (.tail _ (.head _))), (by first | assumption | exact Ne.symm (by assumption))⟩, (List.forall_mem_nil _)⟩)⟩)⟩)) ?_
            refine wpV_s [(g20, .cells #[.int .i64 y10.b.col, .int .i64 y10.b.tier, .int .u8 ((y10.b.half : Nat) : Int)] 34 (0, 0)), (g18, .cells #[.int .i64 y10.c.col, .int .i64 y10.c.tier, .int .u8 ((y10.c.half : Nat) : Int)] 34 (0, 0)), (g13, .cells #[.int .i64 y10.a.col, .int .i64 y10.a.tier, .int .u8 ((y10.a.half : Nat) : Int)] 34 (0, 0))] (i := 11) rfl (by kernel_rfl) rfl rfl rfl (st_row (off := 0) (v := .agg #[.int .i64 y10.c.col, .int .i64 y10.c.tier, .int .u8 ((y10.c.half : Nat) : Int)]) rfl (by kernel_rfl) (by kernel_rfl) (.tail _ (.head _)) Bg18 (by kernel_rfl) (by first | (simp [Value.cells]; done) | exact Nat.le_of_ble_eq_true rfl) (by intro v hv; simp [Value.cells] at hv; first | (subst hv; rfl) | (rcases hv with rfl | rfl | rfl <;> rfl)) (by kernel_rfl) (List.forall_mem_cons.2 ⟨.inr ⟨(.head _), (by first | assumption | exact Ne.symm (by assumption))⟩, (List.forall_mem_cons.2 ⟨.inl rfl, (List.forall_mem_cons.2 ⟨.inr ⟨(.tail _ (.tail _ (.head _))), (by first | assumption | exact Ne.symm (by assumption))⟩, (List.forall_mem_nil _)⟩)⟩)⟩)) ?_
            refine wpV_done (by kernel_rfl) (fun W9 hW9 => ?_) _
            exact ⟨g13, g20, g18, (by first | assumption | exact Ne.symm (by assumption)), (by first | assumption | exact Ne.symm (by assumption)), (by first | assumption | exact Ne.symm (by assumption)), (by first | assumption | exact Ne.symm (by assumption)), (by first | assumption | exact Ne.symm (by assumption)), (by first | assumption | exact Ne.symm (by assumption)), join_mk (by kernel_rfl) (hW9.sub (fun p hp => by first | exact hp | (simp only [List.mem_cons, List.mem_append, List.nil_append, List.not_mem_nil, or_assoc, or_false, false_or] at hp ⊢ <;> grind)))⟩
        · refine stepV_nsx (fun g => .pointer (some ⟨g, 0, none⟩)) (i := 7) (obi := .cells #[.int .i64 0, .int .i64 0, .int .u8 0] 34 (0, 0)) rfl rfl rfl (fun _ => by kernel_rfl) (fun _ => by simp only [List.setIfInBounds_toArray, List.set_cons_succ, List.set_cons_zero] <;> rfl) fun g22 Bg22 Fg22 => ?_
          refine wpV_2 (i := 6) (j := 8) (by kernel_rfl) ?_ ?_
          · refine stepV_nsx (fun g => .pointer (some ⟨g, 0, none⟩)) (i := 6) (obi := .cells #[.int .i64 0, .int .i64 0, .int .u8 0] 34 (0, 0)) rfl rfl rfl (fun _ => by kernel_rfl) (fun _ => by simp only [List.setIfInBounds_toArray, List.set_cons_succ, List.set_cons_zero] <;> rfl) fun g23 Bg23 Fg23 => ?_
            obtain dj24_0 : g22 ≠ g23 := by simpa only [dj_app_l, dj_app_r, dj_cons_l, dj_cons_r, dj_nil_l, dj_nil_r, dk_app, dk_cons, dk_nil, and_true, true_and, and_assoc] using (show Dk g23 [(g22, .cells #[.int .i64 0, .int .i64 0, .int .u8 0] 34 (0, 0))] from Fg23)
            refine wpV_ns (fun g => .pointer (some ⟨g, 0, none⟩)) (i := 8) (obi := .cells #[.int .i64 0, .int .i64 0, .int .u8 0] 34 (0, 0)) rfl rfl rfl (by kernel_rfl) (fun _ => by kernel_rfl) (fun _ => by simp only [List.setIfInBounds_toArray, List.set_cons_succ, List.set_cons_zero] <;> rfl) fun g25 Bg25 Fg25 => ?_
            obtain ⟨dj26_0, dj26_1⟩ : g23 ≠ g25 ∧ g22 ≠ g25 := by simpa only [dj_app_l, dj_app_r, dj_cons_l, dj_cons_r, dj_nil_l, dj_nil_r, dk_app, dk_cons, dk_nil, and_true, true_and, and_assoc] using (show Dk g25 [(g23, .cells #[.int .i64 0, .int .i64 0, .int .u8 0] 34 (0, 0)), (g22, .cells #[.int .i64 0, .int .i64 0, .int .u8 0] 34 (0, 0))] from Fg25)
            refine wpV_s [(g25, .cells #[.int .i64 0, .int .i64 0, .int .u8 0] 34 (0, 0)), (g23, .cells #[.int .i64 y10.a.col, .int .i64 y10.a.tier, .int .u8 ((y10.a.half : Nat) : Int)] 34 (0, 0)), (g22, .cells #[.int .i64 0, .int .i64 0, .int .u8 0] 34 (0, 0))] (i := 9) rfl (by kernel_rfl) rfl rfl rfl (st_row (off := 0) (v := .agg #[.int .i64 y10.a.col, .int .i64 y10.a.tier, .int .u8 ((y10.a.half : Nat) : Int)]) rfl (by kernel_rfl) (by kernel_rfl) (.tail _ (.head _)) Bg23 (by kernel_rfl) (by first | (simp [Value.cells]; done) | exact Nat.le_of_ble_eq_true rfl) (by intro v hv; simp [Value.cells] at hv; first | (subst hv; rfl) | (rcases hv with rfl | rfl | rfl <;> rfl)) (by kernel_rfl) (List.forall_mem_cons.2 ⟨.inr ⟨(.head _), (by first | assumption | exact Ne.symm (by assumption))⟩, (List.forall_mem_cons.2 ⟨.inl rfl, (List.forall_mem_cons.2 ⟨.inr ⟨(.tail _ (.tail _ (.head _))), (by first | assumption | exact Ne.symm (by assumption))⟩, (List.forall_mem_nil _)⟩)⟩)⟩)) ?_
            refine wpV_s [(g25, .cells #[.int .i64 0, .int .i64 0, .int .u8 0] 34 (0, 0)), (g23, .cells #[.int .i64 y10.a.col, .int .i64 y10.a.tier, .int .u8 ((y10.a.half : Nat) : Int)] 34 (0, 0)), (g22, .cells #[.int .i64 y10.b.col, .int .i64 y10.b.tier, .int .u8 ((y10.b.half : Nat) : Int)] 34 (0, 0))] (i := 10) rfl (by kernel_rfl) rfl rfl rfl (st_row (off := 0) (v := .agg #[.int .i64 y10.b.col, .int .i64 y10.b.tier, .int .u8 ((y10.b.half : Nat) : Int)]) rfl (by kernel_rfl) (by kernel_rfl) (.tail _ (.tail _ (.head _))) Bg22 (by kernel_rfl) (by first | (simp [Value.cells]; done) | exact Nat.le_of_ble_eq_true rfl) (by intro v hv; simp [Value.cells] at hv; first | (subst hv; rfl) | (rcases hv with rfl | rfl | rfl <;> rfl)) (by kernel_rfl) (List.forall_mem_cons.2 ⟨.inr ⟨(.head _), (by first | assumption | exact Ne.symm (by assumption))⟩, (List.forall_mem_cons.2 ⟨.inr ⟨(.tail _ (.head _)), (by first | assumption | exact Ne.symm (by assumption))⟩, (List.forall_mem_cons.2 ⟨.inl rfl, (List.forall_mem_nil _)⟩)⟩)⟩)) ?_
            refine wpV_s [(g25, .cells #[.int .i64 y10.c.col, .int .i64 y10.c.tier, .int .u8 ((y10.c.half : Nat) : Int)] 34 (0, 0)), (g23, .cells #[.int .i64 y10.a.col, .int .i64 y10.a.tier, .int .u8 ((y10.a.half : Nat) : Int)] 34 (0, 0)), (g22, .cells #[.int .i64 y10.b.col, .int .i64 y10.b.tier, .int .u8 ((y10.b.half : Nat) : Int)] 34 (0, 0))] (i := 11) rfl (by kernel_rfl) rfl rfl rfl (st_row (off := 0) (v := .agg #[.int .i64 y10.c.col, .int .i64 y10.c.tier, .int .u8 ((y10.c.half : Nat) : Int)]) rfl (by kernel_rfl) (by kernel_rfl) (.head _) Bg25 (by kernel_rfl) (by first | (simp [Value.cells]; done) | exact Nat.le_of_ble_eq_true rfl) (by intro v hv; simp [Value.cells] at hv; first | (subst hv; rfl) | (rcases hv with rfl | rfl | rfl <;> rfl)) (by kernel_rfl) (List.forall_mem_cons.2 ⟨.inl rfl, (List.forall_mem_cons.2 ⟨.inr ⟨(.tail _ (.head _)), (by first | assumption | exact Ne.symm (by assumption))⟩, (List.forall_mem_cons.2 ⟨.inr ⟨(.tail _ (.tail _ (.head _))), (by first | assumption | exact Ne.symm (by assumption))⟩, (List.forall_mem_nil _)⟩)⟩)⟩)) ?_
            refine wpV_done (by kernel_rfl) (fun W10 hW10 => ?_) _
            exact ⟨g23, g22, g25, (by first | assumption | exact Ne.symm (by assumption)), (by first | assumption | exact Ne.symm (by assumption)), (by first | assumption | exact Ne.symm (by assumption)), (by first | assumption | exact Ne.symm (by assumption)), (by first | assumption | exact Ne.symm (by assumption)), (by first | assumption | exact Ne.symm (by assumption)), join_mk (by kernel_rfl) (hW10.sub (fun p hp => by first | exact hp | (simp only [List.mem_cons, List.mem_append, List.nil_append, List.not_mem_nil, or_assoc, or_false, false_or] at hp ⊢ <;> grind)))⟩
          · refine stepV_nsx (fun g => .pointer (some ⟨g, 0, none⟩)) (i := 8) (obi := .cells #[.int .i64 0, .int .i64 0, .int .u8 0] 34 (0, 0)) rfl rfl rfl (fun _ => by kernel_rfl) (fun _ => by simp only [List.setIfInBounds_toArray, List.set_cons_succ, List.set_cons_zero] <;> rfl) fun g27 Bg27 Fg27 => ?_
            obtain dj28_0 : g22 ≠ g27 := by simpa only [dj_app_l, dj_app_r, dj_cons_l, dj_cons_r, dj_nil_l, dj_nil_r, dk_app, dk_cons, dk_nil, and_true, true_and, and_assoc] using (show Dk g27 [(g22, .cells #[.int .i64 0, .int .i64 0, .int .u8 0] 34 (0, 0))] from Fg27)
            refine wpV_ns (fun g => .pointer (some ⟨g, 0, none⟩)) (i := 6) (obi := .cells #[.int .i64 0, .int .i64 0, .int .u8 0] 34 (0, 0)) rfl rfl rfl (by kernel_rfl) (fun _ => by kernel_rfl) (fun _ => by simp only [List.setIfInBounds_toArray, List.set_cons_succ, List.set_cons_zero] <;> rfl) fun g29 Bg29 Fg29 => ?_
            obtain ⟨dj30_0, dj30_1⟩ : g27 ≠ g29 ∧ g22 ≠ g29 := by simpa only [dj_app_l, dj_app_r, dj_cons_l, dj_cons_r, dj_nil_l, dj_nil_r, dk_app, dk_cons, dk_nil, and_true, true_and, and_assoc] using (show Dk g29 [(g27, .cells #[.int .i64 0, .int .i64 0, .int .u8 0] 34 (0, 0)), (g22, .cells #[.int .i64 0, .int .i64 0, .int .u8 0] 34 (0, 0))] from Fg29)
            refine wpV_s [(g29, .cells #[.int .i64 y10.a.col, .int .i64 y10.a.tier, .int .u8 ((y10.a.half : Nat) : Int)] 34 (0, 0)), (g27, .cells #[.int .i64 0, .int .i64 0, .int .u8 0] 34 (0, 0)), (g22, .cells #[.int .i64 0, .int .i64 0, .int .u8 0] 34 (0, 0))] (i := 9) rfl (by kernel_rfl) rfl rfl rfl (st_row (off := 0) (v := .agg #[.int .i64 y10.a.col, .int .i64 y10.a.tier, .int .u8 ((y10.a.half : Nat) : Int)]) rfl (by kernel_rfl) (by kernel_rfl) (.head _) Bg29 (by kernel_rfl) (by first | (simp [Value.cells]; done) | exact Nat.le_of_ble_eq_true rfl) (by intro v hv; simp [Value.cells] at hv; first | (subst hv; rfl) | (rcases hv with rfl | rfl | rfl <;> rfl)) (by kernel_rfl) (List.forall_mem_cons.2 ⟨.inl rfl, (List.forall_mem_cons.2 ⟨.inr ⟨(.tail _ (.head _)), (by first | assumption | exact Ne.symm (by assumption))⟩, (List.forall_mem_cons.2 ⟨.inr ⟨(.tail _ (.tail _ (.head _))), (by first | assumption | exact Ne.symm (by assumption))⟩, (List.forall_mem_nil _)⟩)⟩)⟩)) ?_
            refine wpV_s [(g29, .cells #[.int .i64 y10.a.col, .int .i64 y10.a.tier, .int .u8 ((y10.a.half : Nat) : Int)] 34 (0, 0)), (g27, .cells #[.int .i64 0, .int .i64 0, .int .u8 0] 34 (0, 0)), (g22, .cells #[.int .i64 y10.b.col, .int .i64 y10.b.tier, .int .u8 ((y10.b.half : Nat) : Int)] 34 (0, 0))] (i := 10) rfl (by kernel_rfl) rfl rfl rfl (st_row (off := 0) (v := .agg #[.int .i64 y10.b.col, .int .i64 y10.b.tier, .int .u8 ((y10.b.half : Nat) : Int)]) rfl (by kernel_rfl) (by kernel_rfl) (.tail _ (.tail _ (.head _))) Bg22 (by kernel_rfl) (by first | (simp [Value.cells]; done) | exact Nat.le_of_ble_eq_true rfl) (by intro v hv; simp [Value.cells] at hv; first | (subst hv; rfl) | (rcases hv with rfl | rfl | rfl <;> rfl)) (by kernel_rfl) (List.forall_mem_cons.2 ⟨.inr ⟨(.head _), (by first | assumption | exact Ne.symm (by assumption))⟩, (List.forall_mem_cons.2 ⟨.inr ⟨(.tail _ (.head _)), (by first | assumption | exact Ne.symm (by assumption))⟩, (List.forall_mem_cons.2 ⟨.inl rfl, (List.forall_mem_nil _)⟩)⟩)⟩)) ?_
            refine wpV_s [(g29, .cells #[.int .i64 y10.a.col, .int .i64 y10.a.tier, .int .u8 ((y10.a.half : Nat) : Int)] 34 (0, 0)), (g27, .cells #[.int .i64 y10.c.col, .int .i64 y10.c.tier, .int .u8 ((y10.c.half : Nat) : Int)] 34 (0, 0)), (g22, .cells #[.int .i64 y10.b.col, .int .i64 y10.b.tier, .int .u8 ((y10.b.half : Nat) : Int)] 34 (0, 0))] (i := 11) rfl (by kernel_rfl) rfl rfl rfl (st_row (off := 0) (v := .agg #[.int .i64 y10.c.col, .int .i64 y10.c.tier, .int .u8 ((y10.c.half : Nat) : Int)]) rfl (by kernel_rfl) (by kernel_rfl) (.tail _ (.head _)) Bg27 (by kernel_rfl) (by first | (simp [Value.cells]; done) | exact Nat.le_of_ble_eq_true rfl) (by intro v hv; simp [Value.cells] at hv; first | (subst hv; rfl) | (rcases hv with rfl | rfl | rfl <;> rfl)) (by kernel_rfl) (List.forall_mem_cons.2 ⟨.inr ⟨(.head _), (by first | assumption | exact Ne.symm (by assumption))⟩, (List.forall_mem_cons.2 ⟨.inl rfl, (List.forall_mem_cons.2 ⟨.inr ⟨(.tail _ (.tail _ (.head _))), (by first | assumption | exact Ne.symm (by assumption))⟩, (List.forall_mem_nil _)⟩)⟩)⟩)) ?_
            refine wpV_done (by kernel_rfl) (fun W11 hW11 => ?_) _
            exact ⟨g29, g22, g27, (by first | assumption | exact Ne.symm (by assumption)), (by first | assumption | exact Ne.symm (by assumption)), (by first | assumption | exact Ne.symm (by assumption)), (by first | assumption | exact Ne.symm (by assumption)), (by first | assumption | exact Ne.symm (by assumption)), (by first | assumption | exact Ne.symm (by assumption)), join_mk (by kernel_rfl) (hW11.sub (fun p hp => by first | exact hp | (simp only [List.mem_cons, List.mem_append, List.nil_append, List.not_mem_nil, or_assoc, or_false, false_or] at hp ⊢ <;> grind)))⟩
        · refine stepV_nsx (fun g => .pointer (some ⟨g, 0, none⟩)) (i := 8) (obi := .cells #[.int .i64 0, .int .i64 0, .int .u8 0] 34 (0, 0)) rfl rfl rfl (fun _ => by kernel_rfl) (fun _ => by simp only [List.setIfInBounds_toArray, List.set_cons_succ, List.set_cons_zero] <;> rfl) fun g31 Bg31 Fg31 => ?_
          refine wpV_2 (i := 6) (j := 7) (by kernel_rfl) ?_ ?_
          · refine stepV_nsx (fun g => .pointer (some ⟨g, 0, none⟩)) (i := 6) (obi := .cells #[.int .i64 0, .int .i64 0, .int .u8 0] 34 (0, 0)) rfl rfl rfl (fun _ => by kernel_rfl) (fun _ => by simp only [List.setIfInBounds_toArray, List.set_cons_succ, List.set_cons_zero] <;> rfl) fun g32 Bg32 Fg32 => ?_
            obtain dj33_0 : g31 ≠ g32 := by simpa only [dj_app_l, dj_app_r, dj_cons_l, dj_cons_r, dj_nil_l, dj_nil_r, dk_app, dk_cons, dk_nil, and_true, true_and, and_assoc] using (show Dk g32 [(g31, .cells #[.int .i64 0, .int .i64 0, .int .u8 0] 34 (0, 0))] from Fg32)
            refine wpV_ns (fun g => .pointer (some ⟨g, 0, none⟩)) (i := 7) (obi := .cells #[.int .i64 0, .int .i64 0, .int .u8 0] 34 (0, 0)) rfl rfl rfl (by kernel_rfl) (fun _ => by kernel_rfl) (fun _ => by simp only [List.setIfInBounds_toArray, List.set_cons_succ, List.set_cons_zero] <;> rfl) fun g34 Bg34 Fg34 => ?_
            obtain ⟨dj35_0, dj35_1⟩ : g32 ≠ g34 ∧ g31 ≠ g34 := by simpa only [dj_app_l, dj_app_r, dj_cons_l, dj_cons_r, dj_nil_l, dj_nil_r, dk_app, dk_cons, dk_nil, and_true, true_and, and_assoc] using (show Dk g34 [(g32, .cells #[.int .i64 0, .int .i64 0, .int .u8 0] 34 (0, 0)), (g31, .cells #[.int .i64 0, .int .i64 0, .int .u8 0] 34 (0, 0))] from Fg34)
            refine wpV_s [(g34, .cells #[.int .i64 0, .int .i64 0, .int .u8 0] 34 (0, 0)), (g32, .cells #[.int .i64 y10.a.col, .int .i64 y10.a.tier, .int .u8 ((y10.a.half : Nat) : Int)] 34 (0, 0)), (g31, .cells #[.int .i64 0, .int .i64 0, .int .u8 0] 34 (0, 0))] (i := 9) rfl (by kernel_rfl) rfl rfl rfl (st_row (off := 0) (v := .agg #[.int .i64 y10.a.col, .int .i64 y10.a.tier, .int .u8 ((y10.a.half : Nat) : Int)]) rfl (by kernel_rfl) (by kernel_rfl) (.tail _ (.head _)) Bg32 (by kernel_rfl) (by first | (simp [Value.cells]; done) | exact Nat.le_of_ble_eq_true rfl) (by intro v hv; simp [Value.cells] at hv; first | (subst hv; rfl) | (rcases hv with rfl | rfl | rfl <;> rfl)) (by kernel_rfl) (List.forall_mem_cons.2 ⟨.inr ⟨(.head _), (by first | assumption | exact Ne.symm (by assumption))⟩, (List.forall_mem_cons.2 ⟨.inl rfl, (List.forall_mem_cons.2 ⟨.inr ⟨(.tail _ (.tail _ (.head _))), (by first | assumption | exact Ne.symm (by assumption))⟩, (List.forall_mem_nil _)⟩)⟩)⟩)) ?_
            refine wpV_s [(g34, .cells #[.int .i64 y10.b.col, .int .i64 y10.b.tier, .int .u8 ((y10.b.half : Nat) : Int)] 34 (0, 0)), (g32, .cells #[.int .i64 y10.a.col, .int .i64 y10.a.tier, .int .u8 ((y10.a.half : Nat) : Int)] 34 (0, 0)), (g31, .cells #[.int .i64 0, .int .i64 0, .int .u8 0] 34 (0, 0))] (i := 10) rfl (by kernel_rfl) rfl rfl rfl (st_row (off := 0) (v := .agg #[.int .i64 y10.b.col, .int .i64 y10.b.tier, .int .u8 ((y10.b.half : Nat) : Int)]) rfl (by kernel_rfl) (by kernel_rfl) (.head _) Bg34 (by kernel_rfl) (by first | (simp [Value.cells]; done) | exact Nat.le_of_ble_eq_true rfl) (by intro v hv; simp [Value.cells] at hv; first | (subst hv; rfl) | (rcases hv with rfl | rfl | rfl <;> rfl)) (by kernel_rfl) (List.forall_mem_cons.2 ⟨.inl rfl, (List.forall_mem_cons.2 ⟨.inr ⟨(.tail _ (.head _)), (by first | assumption | exact Ne.symm (by assumption))⟩, (List.forall_mem_cons.2 ⟨.inr ⟨(.tail _ (.tail _ (.head _))), (by first | assumption | exact Ne.symm (by assumption))⟩, (List.forall_mem_nil _)⟩)⟩)⟩)) ?_
            refine wpV_s [(g34, .cells #[.int .i64 y10.b.col, .int .i64 y10.b.tier, .int .u8 ((y10.b.half : Nat) : Int)] 34 (0, 0)), (g32, .cells #[.int .i64 y10.a.col, .int .i64 y10.a.tier, .int .u8 ((y10.a.half : Nat) : Int)] 34 (0, 0)), (g31, .cells #[.int .i64 y10.c.col, .int .i64 y10.c.tier, .int .u8 ((y10.c.half : Nat) : Int)] 34 (0, 0))] (i := 11) rfl (by kernel_rfl) rfl rfl rfl (st_row (off := 0) (v := .agg #[.int .i64 y10.c.col, .int .i64 y10.c.tier, .int .u8 ((y10.c.half : Nat) : Int)]) rfl (by kernel_rfl) (by kernel_rfl) (.tail _ (.tail _ (.head _))) Bg31 (by kernel_rfl) (by first | (simp [Value.cells]; done) | exact Nat.le_of_ble_eq_true rfl) (by intro v hv; simp [Value.cells] at hv; first | (subst hv; rfl) | (rcases hv with rfl | rfl | rfl <;> rfl)) (by kernel_rfl) (List.forall_mem_cons.2 ⟨.inr ⟨(.head _), (by first | assumption | exact Ne.symm (by assumption))⟩, (List.forall_mem_cons.2 ⟨.inr ⟨(.tail _ (.head _)), (by first | assumption | exact Ne.symm (by assumption))⟩, (List.forall_mem_cons.2 ⟨.inl rfl, (List.forall_mem_nil _)⟩)⟩)⟩)) ?_
            refine wpV_done (by kernel_rfl) (fun W12 hW12 => ?_) _
            exact ⟨g32, g34, g31, (by first | assumption | exact Ne.symm (by assumption)), (by first | assumption | exact Ne.symm (by assumption)), (by first | assumption | exact Ne.symm (by assumption)), (by first | assumption | exact Ne.symm (by assumption)), (by first | assumption | exact Ne.symm (by assumption)), (by first | assumption | exact Ne.symm (by assumption)), join_mk (by kernel_rfl) (hW12.sub (fun p hp => by first | exact hp | (simp only [List.mem_cons, List.mem_append, List.nil_append, List.not_mem_nil, or_assoc, or_false, false_or] at hp ⊢ <;> grind)))⟩
          · refine stepV_nsx (fun g => .pointer (some ⟨g, 0, none⟩)) (i := 7) (obi := .cells #[.int .i64 0, .int .i64 0, .int .u8 0] 34 (0, 0)) rfl rfl rfl (fun _ => by kernel_rfl) (fun _ => by simp only [List.setIfInBounds_toArray, List.set_cons_succ, List.set_cons_zero] <;> rfl) fun g36 Bg36 Fg36 => ?_
            obtain dj37_0 : g31 ≠ g36 := by simpa only [dj_app_l, dj_app_r, dj_cons_l, dj_cons_r, dj_nil_l, dj_nil_r, dk_app, dk_cons, dk_nil, and_true, true_and, and_assoc] using (show Dk g36 [(g31, .cells #[.int .i64 0, .int .i64 0, .int .u8 0] 34 (0, 0))] from Fg36)
            refine wpV_ns (fun g => .pointer (some ⟨g, 0, none⟩)) (i := 6) (obi := .cells #[.int .i64 0, .int .i64 0, .int .u8 0] 34 (0, 0)) rfl rfl rfl (by kernel_rfl) (fun _ => by kernel_rfl) (fun _ => by simp only [List.setIfInBounds_toArray, List.set_cons_succ, List.set_cons_zero] <;> rfl) fun g38 Bg38 Fg38 => ?_
            obtain ⟨dj39_0, dj39_1⟩ : g36 ≠ g38 ∧ g31 ≠ g38 := by simpa only [dj_app_l, dj_app_r, dj_cons_l, dj_cons_r, dj_nil_l, dj_nil_r, dk_app, dk_cons, dk_nil, and_true, true_and, and_assoc] using (show Dk g38 [(g36, .cells #[.int .i64 0, .int .i64 0, .int .u8 0] 34 (0, 0)), (g31, .cells #[.int .i64 0, .int .i64 0, .int .u8 0] 34 (0, 0))] from Fg38)
            refine wpV_s [(g38, .cells #[.int .i64 y10.a.col, .int .i64 y10.a.tier, .int .u8 ((y10.a.half : Nat) : Int)] 34 (0, 0)), (g36, .cells #[.int .i64 0, .int .i64 0, .int .u8 0] 34 (0, 0)), (g31, .cells #[.int .i64 0, .int .i64 0, .int .u8 0] 34 (0, 0))] (i := 9) rfl (by kernel_rfl) rfl rfl rfl (st_row (off := 0) (v := .agg #[.int .i64 y10.a.col, .int .i64 y10.a.tier, .int .u8 ((y10.a.half : Nat) : Int)]) rfl (by kernel_rfl) (by kernel_rfl) (.head _) Bg38 (by kernel_rfl) (by first | (simp [Value.cells]; done) | exact Nat.le_of_ble_eq_true rfl) (by intro v hv; simp [Value.cells] at hv; first | (subst hv; rfl) | (rcases hv with rfl | rfl | rfl <;> rfl)) (by kernel_rfl) (List.forall_mem_cons.2 ⟨.inl rfl, (List.forall_mem_cons.2 ⟨.inr ⟨(.tail _ (.head _)), (by first | assumption | exact Ne.symm (by assumption))⟩, (List.forall_mem_cons.2 ⟨.inr ⟨(.tail _ (.tail _ (.head _))), (by first | assumption | exact Ne.symm (by assumption))⟩, (List.forall_mem_nil _)⟩)⟩)⟩)) ?_
            refine wpV_s [(g38, .cells #[.int .i64 y10.a.col, .int .i64 y10.a.tier, .int .u8 ((y10.a.half : Nat) : Int)] 34 (0, 0)), (g36, .cells #[.int .i64 y10.b.col, .int .i64 y10.b.tier, .int .u8 ((y10.b.half : Nat) : Int)] 34 (0, 0)), (g31, .cells #[.int .i64 0, .int .i64 0, .int .u8 0] 34 (0, 0))] (i := 10) rfl (by kernel_rfl) rfl rfl rfl (st_row (off := 0) (v := .agg #[.int .i64 y10.b.col, .int .i64 y10.b.tier, .int .u8 ((y10.b.half : Nat) : Int)]) rfl (by kernel_rfl) (by kernel_rfl) (.tail _ (.head _)) Bg36 (by kernel_rfl) (by first | (simp [Value.cells]; done) | exact Nat.le_of_ble_eq_true rfl) (by intro v hv; simp [Value.cells] at hv; first | (subst hv; rfl) | (rcases hv with rfl | rfl | rfl <;> rfl)) (by kernel_rfl) (List.forall_mem_cons.2 ⟨.inr ⟨(.head _), (by first | assumption | exact Ne.symm (by assumption))⟩, (List.forall_mem_cons.2 ⟨.inl rfl, (List.forall_mem_cons.2 ⟨.inr ⟨(.tail _ (.tail _ (.head _))), (by first | assumption | exact Ne.symm (by assumption))⟩, (List.forall_mem_nil _)⟩)⟩)⟩)) ?_
            refine wpV_s [(g38, .cells #[.int .i64 y10.a.col, .int .i64 y10.a.tier, .int .u8 ((y10.a.half : Nat) : Int)] 34 (0, 0)), (g36, .cells #[.int .i64 y10.b.col, .int .i64 y10.b.tier, .int .u8 ((y10.b.half : Nat) : Int)] 34 (0, 0)), (g31, .cells #[.int .i64 y10.c.col, .int .i64 y10.c.tier, .int .u8 ((y10.c.half : Nat) : Int)] 34 (0, 0))] (i := 11) rfl (by kernel_rfl) rfl rfl rfl (st_row (off := 0) (v := .agg #[.int .i64 y10.c.col, .int .i64 y10.c.tier, .int .u8 ((y10.c.half : Nat) : Int)]) rfl (by kernel_rfl) (by kernel_rfl) (.tail _ (.tail _ (.head _))) Bg31 (by kernel_rfl) (by first | (simp [Value.cells]; done) | exact Nat.le_of_ble_eq_true rfl) (by intro v hv; simp [Value.cells] at hv; first | (subst hv; rfl) | (rcases hv with rfl | rfl | rfl <;> rfl)) (by kernel_rfl) (List.forall_mem_cons.2 ⟨.inr ⟨(.head _), (by first | assumption | exact Ne.symm (by assumption))⟩, (List.forall_mem_cons.2 ⟨.inr ⟨(.tail _ (.head _)), (by first | assumption | exact Ne.symm (by assumption))⟩, (List.forall_mem_cons.2 ⟨.inl rfl, (List.forall_mem_nil _)⟩)⟩)⟩)) ?_
            refine wpV_done (by kernel_rfl) (fun W13 hW13 => ?_) _
            exact ⟨g38, g36, g31, (by first | assumption | exact Ne.symm (by assumption)), (by first | assumption | exact Ne.symm (by assumption)), (by first | assumption | exact Ne.symm (by assumption)), (by first | assumption | exact Ne.symm (by assumption)), (by first | assumption | exact Ne.symm (by assumption)), (by first | assumption | exact Ne.symm (by assumption)), join_mk (by kernel_rfl) (hW13.sub (fun p hp => by first | exact hp | (simp only [List.mem_cons, List.mem_append, List.nil_append, List.not_mem_nil, or_assoc, or_false, false_or] at hp ⊢ <;> grind)))⟩
      · rintro a1 W1j ⟨ga, gb, gc, bl_ga, bl_gb, bl_gc, nn_ga_gb, nn_ga_gc, nn_gb_gc, ⟨zx1, rfl⟩, hW1j⟩
        dsimp only [cutT]
        refine wp_seq ?_
        refine wp_region_V (W0 := W7) [(ga, .cells #[.int .i64 y10.a.col, .int .i64 y10.a.tier, .int .u8 ((y10.a.half : Nat) : Int)] 34 (0, 0)), (gb, .cells #[.int .i64 y10.b.col, .int .i64 y10.b.tier, .int .u8 ((y10.b.half : Nat) : Int)] 34 (0, 0)), (gc, .cells #[.int .i64 y10.c.col, .int .i64 y10.c.tier, .int .u8 ((y10.c.half : Nat) : Int)] 34 (0, 0))] (by kernel_rfl) (hW1j) ?_
        refine vv (i := 0) (v := .agg #[.int .i64 y10.a.col, .int .i64 y10.a.tier, .int .u8 ((y10.a.half : Nat) : Int)]) rfl rfl rfl (yb_load (n := 3) (off := 0) rfl (by kernel_rfl) (.head _) Tryd.underlying34 rfl (by kernel_rfl) (by first | (simp [Value.cells]; done) | exact Nat.le_of_ble_eq_true rfl) (by kernel_rfl)) ?_
        refine vv (i := 1) (v := .agg #[.int .i64 y10.b.col, .int .i64 y10.b.tier, .int .u8 ((y10.b.half : Nat) : Int)]) rfl rfl rfl (yb_load (n := 3) (off := 0) rfl (by kernel_rfl) (.tail _ (.head _)) Tryd.underlying34 rfl (by kernel_rfl) (by first | (simp [Value.cells]; done) | exact Nat.le_of_ble_eq_true rfl) (by kernel_rfl)) ?_
        refine vv (i := 2) (v := .int .i64 (cmpS y10.a y10.b)) rfl rfl rfl (yb_call (f := 19) (args := #[.agg #[.int .i64 y10.a.col, .int .i64 y10.a.tier, .int .u8 ((y10.a.half : Nat) : Int)], .agg #[.int .i64 y10.b.col, .int .i64 y10.b.tier, .int .u8 ((y10.b.half : Nat) : Int)]]) (fun _ => by kernel_rfl) fun W hW => Compare_any y10.a y10.b W) ?_
        refine vv (i := 3) (v := .agg #[.int .i64 y10.b.col, .int .i64 y10.b.tier, .int .u8 ((y10.b.half : Nat) : Int)]) rfl rfl rfl (yb_load (n := 3) (off := 0) rfl (by kernel_rfl) (.tail _ (.head _)) Tryd.underlying34 rfl (by kernel_rfl) (by first | (simp [Value.cells]; done) | exact Nat.le_of_ble_eq_true rfl) (by kernel_rfl)) ?_
        refine vv (i := 4) (v := .agg #[.int .i64 y10.c.col, .int .i64 y10.c.tier, .int .u8 ((y10.c.half : Nat) : Int)]) rfl rfl rfl (yb_load (n := 3) (off := 0) rfl (by kernel_rfl) (.tail _ (.tail _ (.head _))) Tryd.underlying34 rfl (by kernel_rfl) (by first | (simp [Value.cells]; done) | exact Nat.le_of_ble_eq_true rfl) (by kernel_rfl)) ?_
        refine vv (i := 5) (v := .int .i64 (cmpS y10.b y10.c)) rfl rfl rfl (yb_call (f := 19) (args := #[.agg #[.int .i64 y10.b.col, .int .i64 y10.b.tier, .int .u8 ((y10.b.half : Nat) : Int)], .agg #[.int .i64 y10.c.col, .int .i64 y10.c.tier, .int .u8 ((y10.c.half : Nat) : Int)]]) (fun _ => by kernel_rfl) fun W hW => Compare_any y10.b y10.c W) ?_
        refine vv (i := 6) (v := .agg #[.int .i64 y10.a.col, .int .i64 y10.a.tier, .int .u8 ((y10.a.half : Nat) : Int)]) rfl rfl rfl (yb_load (n := 3) (off := 0) rfl (by kernel_rfl) (.head _) Tryd.underlying34 rfl (by kernel_rfl) (by first | (simp [Value.cells]; done) | exact Nat.le_of_ble_eq_true rfl) (by kernel_rfl)) ?_
        refine vv (i := 7) (v := .agg #[.int .i64 y10.c.col, .int .i64 y10.c.tier, .int .u8 ((y10.c.half : Nat) : Int)]) rfl rfl rfl (yb_load (n := 3) (off := 0) rfl (by kernel_rfl) (.tail _ (.tail _ (.head _))) Tryd.underlying34 rfl (by kernel_rfl) (by first | (simp [Value.cells]; done) | exact Nat.le_of_ble_eq_true rfl) (by kernel_rfl)) ?_
        refine vv (i := 8) (v := .int .i64 (cmpS y10.a y10.c)) rfl rfl rfl (yb_call (f := 19) (args := #[.agg #[.int .i64 y10.a.col, .int .i64 y10.a.tier, .int .u8 ((y10.a.half : Nat) : Int)], .agg #[.int .i64 y10.c.col, .int .i64 y10.c.tier, .int .u8 ((y10.c.half : Nat) : Int)]]) (fun _ => by kernel_rfl) fun W hW => Compare_any y10.a y10.c W) ?_
        refine vm (i := 9) (v := .int .i64 (cmpS y10.a y10.b)) rfl rfl rfl ?_
        refine vm (i := 10) (v := .int .i64 (cmpS y10.b y10.c)) rfl rfl rfl ?_
        refine vm (i := 11) (v := .int .i64 (cmpS y10.a y10.c)) rfl rfl rfl ?_
        refine wpV_done (by kernel_rfl) (fun W14 hW14 => ?_) _
        refine (show Code.wp _ _ _ _ _ from ?_)
        refine wp_joins (JoinR (fun z => List.toArray ((.agg (sltC a).toArray) :: (.agg (sltC b).toArray) :: (.agg (sltC c).toArray) :: (.int .u32 ((n : Nat) : Int)) :: (.pointer (some ⟨g1, 0, none⟩)) :: (.pointer (some ⟨g2, 0, none⟩)) :: (.pointer (some ⟨g4, 0, none⟩)) :: (.pointer (some ⟨g6, 0, none⟩)) :: z 8 :: (.func (.func 35) #[] #[.pointer (some ⟨g6, 0, none⟩)]) :: undef :: (.pointer (some ⟨g11, 0, none⟩)) :: (.pointer (some ⟨ga, 0, none⟩)) :: (.pointer (some ⟨gb, 0, none⟩)) :: (.pointer (some ⟨gc, 0, none⟩)) :: (.int .i64 (cmpS y10.a y10.b)) :: (.int .i64 (cmpS y10.b y10.c)) :: (.int .i64 (cmpS y10.a y10.c)) :: (.func (.func 35) #[] #[.pointer (some ⟨g6, 0, none⟩)]) :: (.agg (sltC a).toArray) :: (.agg (sltC b).toArray) :: (.agg (sltC c).toArray) :: (.agg #[.int .i64 a.col, .int .i64 a.tier, .int .u8 ((a.half : Nat) : Int), .int .i64 b.col, .int .i64 b.tier, .int .u8 ((b.half : Nat) : Int), .int .i64 c.col, .int .i64 c.tier, .int .u8 ((c.half : Nat) : Int)]) :: (.func (.func 35) #[] #[.pointer (some ⟨g6, 0, none⟩)]) :: (.agg (sltC (fewS (n / 2 ^ (8 * 0) % 256))).toArray) :: (.func (.func 35) #[] #[.pointer (some ⟨g6, 0, none⟩)]) :: (.agg (sltC (fewS (n / 2 ^ (8 * 1) % 256))).toArray) :: (.func (.func 35) #[] #[.pointer (some ⟨g6, 0, none⟩)]) :: (.agg (sltC (fewS (n / 2 ^ (8 * 2) % 256))).toArray) :: (.agg #[.int .i64 ((fewS (n / 2 ^ (8 * 0) % 256)).col), .int .i64 ((fewS (n / 2 ^ (8 * 0) % 256)).tier), .int .u8 ((((fewS (n / 2 ^ (8 * 0) % 256)).half) : Nat) : Int), .int .i64 ((fewS (n / 2 ^ (8 * 1) % 256)).col), .int .i64 ((fewS (n / 2 ^ (8 * 1) % 256)).tier), .int .u8 ((((fewS (n / 2 ^ (8 * 1) % 256)).half) : Nat) : Int), .int .i64 ((fewS (n / 2 ^ (8 * 2) % 256)).col), .int .i64 ((fewS (n / 2 ^ (8 * 2) % 256)).tier), .int .u8 ((((fewS (n / 2 ^ (8 * 2) % 256)).half) : Nat) : Int)]) :: (.slice (some ⟨g8, 0, none⟩) 2 2) :: (.int .i64 2) :: (.int .i64 ((k : Nat) : Int)) :: (.bool true) :: (.pointer (some ⟨g10_, f10_ + k * 9, none⟩)) :: (.agg (triC y10).toArray) :: (zx1 36) :: (zx1 37) :: (zx1 38) :: (zx1 39) :: (zx1 40) :: (zx1 41) :: (.agg #[.int .i64 y10.a.col, .int .i64 y10.a.tier, .int .u8 ((y10.a.half : Nat) : Int)]) :: (.agg #[.int .i64 y10.b.col, .int .i64 y10.b.tier, .int .u8 ((y10.b.half : Nat) : Int)]) :: (.int .i64 (cmpS y10.a y10.b)) :: (.agg #[.int .i64 y10.b.col, .int .i64 y10.b.tier, .int .u8 ((y10.b.half : Nat) : Int)]) :: (.agg #[.int .i64 y10.c.col, .int .i64 y10.c.tier, .int .u8 ((y10.c.half : Nat) : Int)]) :: (.int .i64 (cmpS y10.b y10.c)) :: (.agg #[.int .i64 y10.a.col, .int .i64 y10.a.tier, .int .u8 ((y10.a.half : Nat) : Int)]) :: (.agg #[.int .i64 y10.c.col, .int .i64 y10.c.tier, .int .u8 ((y10.c.half : Nat) : Int)]) :: (.int .i64 (cmpS y10.a y10.c)) :: z 51 :: z 52 :: z 53 :: z 54 :: z 55 :: z 56 :: z 57 :: z 58 :: z 59 :: z 60 :: z 61 :: z 62 :: z 63 :: z 64 :: z 65 :: z 66 :: z 67 :: z 68 :: z 69 :: z 70 :: z 71 :: z 72 :: z 73 :: z 74 :: z 75 :: z 76 :: z 77 :: z 78 :: z 79 :: z 80 :: z 81 :: z 82 :: z 83 :: z 84 :: (zx1 85) :: (zx1 86) :: (zx1 87) :: (zx1 88) :: (zx1 89) :: (zx1 90) :: (zx1 91) :: (zx1 92) :: (zx1 93) :: (zx1 94) :: (zx1 95) :: (zx1 96) :: (zx1 97) :: (zx1 98) :: (zx1 99) :: (zx1 100) :: (zx1 101) :: (zx1 102) :: (zx1 103) :: (zx1 104) :: (zx1 105) :: (zx1 106) :: (zx1 107) :: (zx1 108) :: (zx1 109) :: (zx1 110) :: (zx1 111) :: (zx1 112) :: (zx1 113) :: (zx1 114) :: (zx1 115) :: (zx1 116) :: (zx1 117) :: (zx1 118) :: (zx1 119) :: (zx1 120) :: (zx1 121) :: (zx1 122) :: (zx1 123) :: (zx1 124) :: (zx1 125) :: (zx1 126) :: (zx1 127) :: (zx1 128) :: (zx1 129) :: (zx1 130) :: (zx1 131) :: (zx1 132) :: (zx1 133) :: (zx1 134) :: (zx1 135) :: (zx1 136) :: (zx1 137) :: (zx1 138) :: (zx1 139) :: (zx1 140) :: (zx1 141) :: (zx1 142) :: (zx1 143) :: (zx1 144) :: (zx1 145) :: (zx1 146) :: (zx1 147) :: (zx1 148) :: (zx1 149) :: (zx1 150) :: (zx1 151) :: (zx1 152) :: (zx1 153) :: (zx1 154) :: (zx1 155) :: (zx1 156) :: (zx1 157) :: (zx1 158) :: (zx1 159) :: (zx1 160) :: (zx1 161) :: (zx1 162) :: (zx1 163) :: undef :: [])) W7 [(ga, .cells #[.int .i64 y10.a.col, .int .i64 y10.a.tier, .int .u8 ((y10.a.half : Nat) : Int)] 34 (0, 0)), (gb, .cells #[.int .i64 y10.b.col, .int .i64 y10.b.tier, .int .u8 ((y10.b.half : Nat) : Int)] 34 (0, 0)), (gc, .cells #[.int .i64 y10.c.col, .int .i64 y10.c.tier, .int .u8 ((y10.c.half : Nat) : Int)] 34 (0, 0))]) 1 ?_ ?_
        · refine (show Code.wp _ _ _ _ _ from ?_)
          refine wp_seq ?_
          refine wp_region_L (W0 := W7) [(ga, .cells #[.int .i64 y10.a.col, .int .i64 y10.a.tier, .int .u8 ((y10.a.half : Nat) : Int)] 34 (0, 0)), (gb, .cells #[.int .i64 y10.b.col, .int .i64 y10.b.tier, .int .u8 ((y10.b.half : Nat) : Int)] 34 (0, 0)), (gc, .cells #[.int .i64 y10.c.col, .int .i64 y10.c.tier, .int .u8 ((y10.c.half : Nat) : Int)] 34 (0, 0))] (hW14) ?_
          refine lm (v := .int .i64 (cmpS y10.a y10.b)) rfl rfl ?_
          refine lv (v := .agg #[.int .i64 y10.b.col, .int .i64 y10.b.tier, .int .u8 ((y10.b.half : Nat) : Int)]) rfl rfl (yb_load (n := 3) (off := 0) rfl (by kernel_rfl) (.tail _ (.head _)) Tryd.underlying34 rfl (by kernel_rfl) (by first | (simp [Value.cells]; done) | exact Nat.le_of_ble_eq_true rfl) (by kernel_rfl)) ?_
          refine lv (v := .agg #[.int .i64 y10.a.col, .int .i64 y10.a.tier, .int .u8 ((y10.a.half : Nat) : Int)]) rfl rfl (yb_load (n := 3) (off := 0) rfl (by kernel_rfl) (.head _) Tryd.underlying34 rfl (by kernel_rfl) (by first | (simp [Value.cells]; done) | exact Nat.le_of_ble_eq_true rfl) (by kernel_rfl)) ?_
          refine lv (v := .int .i64 (cmpS y10.b y10.a)) rfl rfl (yb_call (f := 19) (args := #[.agg #[.int .i64 y10.b.col, .int .i64 y10.b.tier, .int .u8 ((y10.b.half : Nat) : Int)], .agg #[.int .i64 y10.a.col, .int .i64 y10.a.tier, .int .u8 ((y10.a.half : Nat) : Int)]]) (fun _ => by kernel_rfl) fun W hW => Compare_any y10.b y10.a W) ?_
          refine lp (v := .int .i64 (-(cmpS y10.b y10.a))) rfl rfl (run_un rfl (by kernel_rfl) fun w => un_neg (z := (-(cmpS y10.b y10.a))) rfl (wi_i64 (by omega)) w) ?_
          refine lp (v := .bool (!(decide ((cmpS y10.a y10.b) = (-(cmpS y10.b y10.a)))))) rfl rfl (run_bin rfl (vx := (.int .i64 (cmpS y10.a y10.b))) (vy := (.int .i64 (-(cmpS y10.b y10.a)))) (by kernel_rfl) (by kernel_rfl) fun w => bi_neq rfl w) ?_
          refine lm (v := .bool (!(decide ((cmpS y10.a y10.b) = (-(cmpS y10.b y10.a)))))) rfl rfl ?_
          cases hd2 : (decide ((cmpS y10.a y10.b) = (-(cmpS y10.b y10.a)))) with
          | false =>
            have h2 : ¬ ((cmpS y10.a y10.b) = (-(cmpS y10.b y10.a))) := of_decide_eq_false hd2
            clear hd2
            exact absurd (cmp_anti _ _) h2
          | true =>
            have h2 : (cmpS y10.a y10.b) = (-(cmpS y10.b y10.a)) := of_decide_eq_true hd2
            clear hd2
            refine lm (v := .int .i64 (cmpS y10.a y10.b)) rfl rfl ?_
            refine lp (v := .bool (decide ((cmpS y10.a y10.b) = 0))) rfl rfl (run_bin rfl (vx := (.int .i64 (cmpS y10.a y10.b))) (vy := (.int .i64 0)) (by kernel_rfl) (by kernel_rfl) fun w => bi_eql rfl w) ?_
            refine lv (v := .agg #[.int .i64 y10.a.col, .int .i64 y10.a.tier, .int .u8 ((y10.a.half : Nat) : Int)]) rfl rfl (yb_load (n := 3) (off := 0) rfl (by kernel_rfl) (.head _) Tryd.underlying34 rfl (by kernel_rfl) (by first | (simp [Value.cells]; done) | exact Nat.le_of_ble_eq_true rfl) (by kernel_rfl)) ?_
            refine lv (v := .agg #[.int .i64 y10.b.col, .int .i64 y10.b.tier, .int .u8 ((y10.b.half : Nat) : Int)]) rfl rfl (yb_load (n := 3) (off := 0) rfl (by kernel_rfl) (.tail _ (.head _)) Tryd.underlying34 rfl (by kernel_rfl) (by first | (simp [Value.cells]; done) | exact Nat.le_of_ble_eq_true rfl) (by kernel_rfl)) ?_
            refine lp (v := .bool (eqS y10.a y10.b)) rfl rfl (run_bin rfl (vx := .agg (sltC y10.a).toArray) (vy := .agg (sltC y10.b).toArray) (by kernel_rfl) (by kernel_rfl) fun w => eq_slt w) ?_
            refine lp (v := .bool (!((decide ((cmpS y10.a y10.b) = 0)) == (eqS y10.a y10.b)))) rfl rfl (run_bin rfl (vx := .bool (decide ((cmpS y10.a y10.b) = 0))) (vy := .bool (eqS y10.a y10.b)) (by kernel_rfl) (by kernel_rfl) fun w => bn_bool_neq rfl Tryd.underlying4 w) ?_
            refine lm (v := .bool (!((decide ((cmpS y10.a y10.b) = 0)) == (eqS y10.a y10.b)))) rfl rfl ?_
            refine lm (v := .bool (!((decide ((cmpS y10.a y10.b) = 0)) == (eqS y10.a y10.b)))) rfl rfl ?_
            cases h3 : ((decide ((cmpS y10.a y10.b) = 0)) == (eqS y10.a y10.b)) with
            | false =>
              exact absurd (show ((decide ((cmpS y10.a y10.b) = 0)) == (eqS y10.a y10.b)) = true from by rw [beq_iff_eq, Bool.eq_iff_iff, decide_eq_true_iff]; exact cmp_zero _ _) (by rw [h3]; decide)
            | true =>
              refine lm (v := .int .i64 (cmpS y10.a y10.b)) rfl rfl ?_
              refine lp (v := .bool (decide ((cmpS y10.a y10.b) < 0))) rfl rfl (run_bin rfl (vx := (.int .i64 (cmpS y10.a y10.b))) (vy := (.int .i64 0)) (by kernel_rfl) (by kernel_rfl) fun w => bi_lss rfl w) ?_
              refine lm (v := .bool (decide ((cmpS y10.a y10.b) < 0))) rfl rfl ?_
              cases hd4 : (decide ((cmpS y10.a y10.b) < 0)) with
              | false =>
                have h4 : ¬ ((cmpS y10.a y10.b) < 0) := of_decide_eq_false hd4
                clear hd4
                refine ln rfl ?_
                refine ln rfl ?_
                refine lm (v := .bool false) rfl rfl ?_
                refine lm (v := .bool false) rfl rfl ?_
                refine ln rfl ?_
                refine ln rfl ?_
                refine lm (v := .bool false) rfl rfl ?_
                refine lm (v := .bool false) rfl rfl ?_
                refine lm (v := .bool false) rfl rfl ?_
                refine lm (v := .int .i64 (cmpS y10.a y10.b)) rfl rfl ?_
                refine lp (v := .bool (decide ((cmpS y10.a y10.b) < (-1)))) rfl rfl (run_bin rfl (vx := (.int .i64 (cmpS y10.a y10.b))) (vy := (.int .i64 (-1))) (by kernel_rfl) (by kernel_rfl) fun w => bi_lss rfl w) ?_
                refine lm (v := .bool (decide ((cmpS y10.a y10.b) < (-1)))) rfl rfl ?_
                refine lm (v := .bool (decide ((cmpS y10.a y10.b) < (-1)))) rfl rfl ?_
                cases hd5 : (decide ((cmpS y10.a y10.b) < (-1))) with
                | false =>
                  have h5 : ¬ ((cmpS y10.a y10.b) < (-1)) := of_decide_eq_false hd5
                  clear hd5
                  refine lm (v := .int .i64 (cmpS y10.a y10.b)) rfl rfl ?_
                  refine lp (v := .bool (decide (1 < (cmpS y10.a y10.b)))) rfl rfl (run_bin rfl (vx := (.int .i64 (cmpS y10.a y10.b))) (vy := (.int .i64 1)) (by kernel_rfl) (by kernel_rfl) fun w => bi_gtr rfl w) ?_
                  refine lm (v := .bool (decide (1 < (cmpS y10.a y10.b)))) rfl rfl ?_
                  refine wpL_done (fun W15 hW15 => ?_)
                  refine (show Code.wp _ _ _ _ _ from ?_)
                  cases hd6 : (decide (1 < (cmpS y10.a y10.b))) with
                  | false =>
                    have h6 : ¬ (1 < (cmpS y10.a y10.b)) := of_decide_eq_false hd6
                    clear hd6
                    refine wp_cond_false rfl ?_
                    refine wp_skip ?_
                    exact join_mk (by kernel_rfl) (hW15.sub (fun p hp => by first | exact hp | (simp only [List.mem_cons, List.mem_append, List.nil_append, List.not_mem_nil, or_assoc, or_false, false_or] at hp ⊢ <;> grind)))
                  | true =>
                    have h6 : 1 < (cmpS y10.a y10.b) := of_decide_eq_true hd6
                    clear hd6
                    omega
                | true =>
                  have h5 : (cmpS y10.a y10.b) < (-1) := of_decide_eq_true hd5
                  clear hd5
                  omega
              | true =>
                have h4 : (cmpS y10.a y10.b) < 0 := of_decide_eq_true hd4
                clear hd4
                refine lm (v := .int .i64 (cmpS y10.b y10.c)) rfl rfl ?_
                refine lp (v := .bool (decide ((cmpS y10.b y10.c) < 0))) rfl rfl (run_bin rfl (vx := (.int .i64 (cmpS y10.b y10.c))) (vy := (.int .i64 0)) (by kernel_rfl) (by kernel_rfl) fun w => bi_lss rfl w) ?_
                refine lm (v := .bool (decide ((cmpS y10.b y10.c) < 0))) rfl rfl ?_
                refine lm (v := .bool (decide ((cmpS y10.b y10.c) < 0))) rfl rfl ?_
                cases hd7 : (decide ((cmpS y10.b y10.c) < 0)) with
                | false =>
                  have h7 : ¬ ((cmpS y10.b y10.c) < 0) := of_decide_eq_false hd7
                  clear hd7
                  refine ln rfl ?_
                  refine ln rfl ?_
                  refine lm (v := .bool false) rfl rfl ?_
                  refine lm (v := .bool false) rfl rfl ?_
                  refine lm (v := .bool false) rfl rfl ?_
                  refine lm (v := .int .i64 (cmpS y10.a y10.b)) rfl rfl ?_
                  refine lp (v := .bool (decide ((cmpS y10.a y10.b) < (-1)))) rfl rfl (run_bin rfl (vx := (.int .i64 (cmpS y10.a y10.b))) (vy := (.int .i64 (-1))) (by kernel_rfl) (by kernel_rfl) fun w => bi_lss rfl w) ?_
                  refine lm (v := .bool (decide ((cmpS y10.a y10.b) < (-1)))) rfl rfl ?_
                  refine lm (v := .bool (decide ((cmpS y10.a y10.b) < (-1)))) rfl rfl ?_
                  cases hd8 : (decide ((cmpS y10.a y10.b) < (-1))) with
                  | false =>
                    have h8 : ¬ ((cmpS y10.a y10.b) < (-1)) := of_decide_eq_false hd8
                    clear hd8
                    refine lm (v := .int .i64 (cmpS y10.a y10.b)) rfl rfl ?_
                    refine lp (v := .bool (decide (1 < (cmpS y10.a y10.b)))) rfl rfl (run_bin rfl (vx := (.int .i64 (cmpS y10.a y10.b))) (vy := (.int .i64 1)) (by kernel_rfl) (by kernel_rfl) fun w => bi_gtr rfl w) ?_
                    refine lm (v := .bool (decide (1 < (cmpS y10.a y10.b)))) rfl rfl ?_
                    refine wpL_done (fun W16 hW16 => ?_)
                    refine (show Code.wp _ _ _ _ _ from ?_)
                    cases hd9 : (decide (1 < (cmpS y10.a y10.b))) with
                    | false =>
                      have h9 : ¬ (1 < (cmpS y10.a y10.b)) := of_decide_eq_false hd9
                      clear hd9
                      refine wp_cond_false rfl ?_
                      refine wp_skip ?_
                      exact join_mk (by kernel_rfl) (hW16.sub (fun p hp => by first | exact hp | (simp only [List.mem_cons, List.mem_append, List.nil_append, List.not_mem_nil, or_assoc, or_false, false_or] at hp ⊢ <;> grind)))
                    | true =>
                      have h9 : 1 < (cmpS y10.a y10.b) := of_decide_eq_true hd9
                      clear hd9
                      omega
                  | true =>
                    have h8 : (cmpS y10.a y10.b) < (-1) := of_decide_eq_true hd8
                    clear hd8
                    omega
                | true =>
                  have h7 : (cmpS y10.b y10.c) < 0 := of_decide_eq_true hd7
                  clear hd7
                  refine lm (v := .int .i64 (cmpS y10.a y10.c)) rfl rfl ?_
                  refine lp (v := .bool (!(decide ((cmpS y10.a y10.c) < 0)))) rfl rfl (run_bin rfl (vx := (.int .i64 (cmpS y10.a y10.c))) (vy := (.int .i64 0)) (by kernel_rfl) (by kernel_rfl) fun w => bi_geq rfl w) ?_
                  refine lm (v := .bool (!(decide ((cmpS y10.a y10.c) < 0)))) rfl rfl ?_
                  refine lm (v := .bool (!(decide ((cmpS y10.a y10.c) < 0)))) rfl rfl ?_
                  refine lm (v := .bool (!(decide ((cmpS y10.a y10.c) < 0)))) rfl rfl ?_
                  cases hd10 : (decide ((cmpS y10.a y10.c) < 0)) with
                  | false =>
                    have h10 : ¬ ((cmpS y10.a y10.c) < 0) := of_decide_eq_false hd10
                    clear hd10
                    exact absurd (cmp_tr h4 h7) h10
                  | true =>
                    have h10 : (cmpS y10.a y10.c) < 0 := of_decide_eq_true hd10
                    clear hd10
                    refine lm (v := .int .i64 (cmpS y10.a y10.b)) rfl rfl ?_
                    refine lp (v := .bool (decide ((cmpS y10.a y10.b) < (-1)))) rfl rfl (run_bin rfl (vx := (.int .i64 (cmpS y10.a y10.b))) (vy := (.int .i64 (-1))) (by kernel_rfl) (by kernel_rfl) fun w => bi_lss rfl w) ?_
                    refine lm (v := .bool (decide ((cmpS y10.a y10.b) < (-1)))) rfl rfl ?_
                    refine lm (v := .bool (decide ((cmpS y10.a y10.b) < (-1)))) rfl rfl ?_
                    cases hd11 : (decide ((cmpS y10.a y10.b) < (-1))) with
                    | false =>
                      have h11 : ¬ ((cmpS y10.a y10.b) < (-1)) := of_decide_eq_false hd11
                      clear hd11
                      refine lm (v := .int .i64 (cmpS y10.a y10.b)) rfl rfl ?_
                      refine lp (v := .bool (decide (1 < (cmpS y10.a y10.b)))) rfl rfl (run_bin rfl (vx := (.int .i64 (cmpS y10.a y10.b))) (vy := (.int .i64 1)) (by kernel_rfl) (by kernel_rfl) fun w => bi_gtr rfl w) ?_
                      refine lm (v := .bool (decide (1 < (cmpS y10.a y10.b)))) rfl rfl ?_
                      refine wpL_done (fun W17 hW17 => ?_)
                      refine (show Code.wp _ _ _ _ _ from ?_)
                      cases hd12 : (decide (1 < (cmpS y10.a y10.b))) with
                      | false =>
                        have h12 : ¬ (1 < (cmpS y10.a y10.b)) := of_decide_eq_false hd12
                        clear hd12
                        refine wp_cond_false rfl ?_
                        refine wp_skip ?_
                        exact join_mk (by kernel_rfl) (hW17.sub (fun p hp => by first | exact hp | (simp only [List.mem_cons, List.mem_append, List.nil_append, List.not_mem_nil, or_assoc, or_false, false_or] at hp ⊢ <;> grind)))
                      | true =>
                        have h12 : 1 < (cmpS y10.a y10.b) := of_decide_eq_true hd12
                        clear hd12
                        omega
                    | true =>
                      have h11 : (cmpS y10.a y10.b) < (-1) := of_decide_eq_true hd11
                      clear hd11
                      omega
        · rintro a2 W2j ⟨⟨z, rfl⟩, hW2j⟩
          dsimp only [cutT]
          refine wp_joins (JoinR (fun z => List.toArray ((.agg (sltC a).toArray) :: (.agg (sltC b).toArray) :: (.agg (sltC c).toArray) :: (.int .u32 ((n : Nat) : Int)) :: (.pointer (some ⟨g1, 0, none⟩)) :: (.pointer (some ⟨g2, 0, none⟩)) :: (.pointer (some ⟨g4, 0, none⟩)) :: (.pointer (some ⟨g6, 0, none⟩)) :: z 8 :: (.func (.func 35) #[] #[.pointer (some ⟨g6, 0, none⟩)]) :: undef :: (.pointer (some ⟨g11, 0, none⟩)) :: (.pointer (some ⟨ga, 0, none⟩)) :: (.pointer (some ⟨gb, 0, none⟩)) :: (.pointer (some ⟨gc, 0, none⟩)) :: (.int .i64 (cmpS y10.a y10.b)) :: (.int .i64 (cmpS y10.b y10.c)) :: (.int .i64 (cmpS y10.a y10.c)) :: (.func (.func 35) #[] #[.pointer (some ⟨g6, 0, none⟩)]) :: (.agg (sltC a).toArray) :: (.agg (sltC b).toArray) :: (.agg (sltC c).toArray) :: (.agg #[.int .i64 a.col, .int .i64 a.tier, .int .u8 ((a.half : Nat) : Int), .int .i64 b.col, .int .i64 b.tier, .int .u8 ((b.half : Nat) : Int), .int .i64 c.col, .int .i64 c.tier, .int .u8 ((c.half : Nat) : Int)]) :: (.func (.func 35) #[] #[.pointer (some ⟨g6, 0, none⟩)]) :: (.agg (sltC (fewS (n / 2 ^ (8 * 0) % 256))).toArray) :: (.func (.func 35) #[] #[.pointer (some ⟨g6, 0, none⟩)]) :: (.agg (sltC (fewS (n / 2 ^ (8 * 1) % 256))).toArray) :: (.func (.func 35) #[] #[.pointer (some ⟨g6, 0, none⟩)]) :: (.agg (sltC (fewS (n / 2 ^ (8 * 2) % 256))).toArray) :: (.agg #[.int .i64 ((fewS (n / 2 ^ (8 * 0) % 256)).col), .int .i64 ((fewS (n / 2 ^ (8 * 0) % 256)).tier), .int .u8 ((((fewS (n / 2 ^ (8 * 0) % 256)).half) : Nat) : Int), .int .i64 ((fewS (n / 2 ^ (8 * 1) % 256)).col), .int .i64 ((fewS (n / 2 ^ (8 * 1) % 256)).tier), .int .u8 ((((fewS (n / 2 ^ (8 * 1) % 256)).half) : Nat) : Int), .int .i64 ((fewS (n / 2 ^ (8 * 2) % 256)).col), .int .i64 ((fewS (n / 2 ^ (8 * 2) % 256)).tier), .int .u8 ((((fewS (n / 2 ^ (8 * 2) % 256)).half) : Nat) : Int)]) :: (.slice (some ⟨g8, 0, none⟩) 2 2) :: (.int .i64 2) :: (.int .i64 ((k : Nat) : Int)) :: (.bool true) :: (.pointer (some ⟨g10_, f10_ + k * 9, none⟩)) :: (.agg (triC y10).toArray) :: (zx1 36) :: (zx1 37) :: (zx1 38) :: (zx1 39) :: (zx1 40) :: (zx1 41) :: (.agg #[.int .i64 y10.a.col, .int .i64 y10.a.tier, .int .u8 ((y10.a.half : Nat) : Int)]) :: (.agg #[.int .i64 y10.b.col, .int .i64 y10.b.tier, .int .u8 ((y10.b.half : Nat) : Int)]) :: (.int .i64 (cmpS y10.a y10.b)) :: (.agg #[.int .i64 y10.b.col, .int .i64 y10.b.tier, .int .u8 ((y10.b.half : Nat) : Int)]) :: (.agg #[.int .i64 y10.c.col, .int .i64 y10.c.tier, .int .u8 ((y10.c.half : Nat) : Int)]) :: (.int .i64 (cmpS y10.b y10.c)) :: (.agg #[.int .i64 y10.a.col, .int .i64 y10.a.tier, .int .u8 ((y10.a.half : Nat) : Int)]) :: (.agg #[.int .i64 y10.c.col, .int .i64 y10.c.tier, .int .u8 ((y10.c.half : Nat) : Int)]) :: (.int .i64 (cmpS y10.a y10.c)) :: z 51 :: z 52 :: z 53 :: z 54 :: z 55 :: z 56 :: z 57 :: z 58 :: z 59 :: z 60 :: z 61 :: z 62 :: z 63 :: z 64 :: z 65 :: z 66 :: z 67 :: z 68 :: z 69 :: z 70 :: z 71 :: z 72 :: z 73 :: z 74 :: z 75 :: z 76 :: z 77 :: z 78 :: z 79 :: z 80 :: z 81 :: z 82 :: z 83 :: z 84 :: z 85 :: z 86 :: z 87 :: z 88 :: z 89 :: z 90 :: z 91 :: z 92 :: z 93 :: z 94 :: z 95 :: z 96 :: z 97 :: z 98 :: z 99 :: z 100 :: z 101 :: z 102 :: z 103 :: z 104 :: z 105 :: z 106 :: z 107 :: z 108 :: z 109 :: z 110 :: z 111 :: z 112 :: z 113 :: z 114 :: z 115 :: z 116 :: z 117 :: z 118 :: z 119 :: z 120 :: z 121 :: z 122 :: z 123 :: z 124 :: z 125 :: z 126 :: (zx1 127) :: (zx1 128) :: (zx1 129) :: (zx1 130) :: (zx1 131) :: (zx1 132) :: (zx1 133) :: (zx1 134) :: (zx1 135) :: (zx1 136) :: (zx1 137) :: (zx1 138) :: (zx1 139) :: (zx1 140) :: (zx1 141) :: (zx1 142) :: (zx1 143) :: (zx1 144) :: (zx1 145) :: (zx1 146) :: (zx1 147) :: (zx1 148) :: (zx1 149) :: (zx1 150) :: (zx1 151) :: (zx1 152) :: (zx1 153) :: (zx1 154) :: (zx1 155) :: (zx1 156) :: (zx1 157) :: (zx1 158) :: (zx1 159) :: (zx1 160) :: (zx1 161) :: (zx1 162) :: (zx1 163) :: undef :: [])) W7 [(ga, .cells #[.int .i64 y10.a.col, .int .i64 y10.a.tier, .int .u8 ((y10.a.half : Nat) : Int)] 34 (0, 0)), (gb, .cells #[.int .i64 y10.b.col, .int .i64 y10.b.tier, .int .u8 ((y10.b.half : Nat) : Int)] 34 (0, 0)), (gc, .cells #[.int .i64 y10.c.col, .int .i64 y10.c.tier, .int .u8 ((y10.c.half : Nat) : Int)] 34 (0, 0))]) 1 ?_ ?_
          · refine (show Code.wp _ _ _ _ _ from ?_)
            refine wp_seq ?_
            refine wp_region_V (W0 := W7) [(ga, .cells #[.int .i64 y10.a.col, .int .i64 y10.a.tier, .int .u8 ((y10.a.half : Nat) : Int)] 34 (0, 0)), (gb, .cells #[.int .i64 y10.b.col, .int .i64 y10.b.tier, .int .u8 ((y10.b.half : Nat) : Int)] 34 (0, 0)), (gc, .cells #[.int .i64 y10.c.col, .int .i64 y10.c.tier, .int .u8 ((y10.c.half : Nat) : Int)] 34 (0, 0))] (by kernel_rfl) (hW2j) ?_
            refine vv (i := 0) (v := .agg #[.int .i64 y10.a.col, .int .i64 y10.a.tier, .int .u8 ((y10.a.half : Nat) : Int)]) rfl rfl rfl (yb_load (n := 3) (off := 0) rfl (by kernel_rfl) (.head _) Tryd.underlying34 rfl (by kernel_rfl) (by first | (simp [Value.cells]; done) | exact Nat.le_of_ble_eq_true rfl) (by kernel_rfl)) ?_
            refine vv (i := 1) (v := .agg #[.int .i64 y10.b.col, .int .i64 y10.b.tier, .int .u8 ((y10.b.half : Nat) : Int)]) rfl rfl rfl (yb_load (n := 3) (off := 0) rfl (by kernel_rfl) (.tail _ (.head _)) Tryd.underlying34 rfl (by kernel_rfl) (by first | (simp [Value.cells]; done) | exact Nat.le_of_ble_eq_true rfl) (by kernel_rfl)) ?_
            refine vv (i := 2) (v := .bool (meetS y10.a y10.b)) rfl rfl rfl (yb_call (f := 21) (args := #[.agg #[.int .i64 y10.a.col, .int .i64 y10.a.tier, .int .u8 ((y10.a.half : Nat) : Int)], .agg #[.int .i64 y10.b.col, .int .i64 y10.b.tier, .int .u8 ((y10.b.half : Nat) : Int)]]) (fun _ => by kernel_rfl) fun W hW => Meet_any y10.a y10.b W) ?_
            refine vv (i := 3) (v := .agg #[.int .i64 y10.b.col, .int .i64 y10.b.tier, .int .u8 ((y10.b.half : Nat) : Int)]) rfl rfl rfl (yb_load (n := 3) (off := 0) rfl (by kernel_rfl) (.tail _ (.head _)) Tryd.underlying34 rfl (by kernel_rfl) (by first | (simp [Value.cells]; done) | exact Nat.le_of_ble_eq_true rfl) (by kernel_rfl)) ?_
            refine vv (i := 4) (v := .agg #[.int .i64 y10.a.col, .int .i64 y10.a.tier, .int .u8 ((y10.a.half : Nat) : Int)]) rfl rfl rfl (yb_load (n := 3) (off := 0) rfl (by kernel_rfl) (.head _) Tryd.underlying34 rfl (by kernel_rfl) (by first | (simp [Value.cells]; done) | exact Nat.le_of_ble_eq_true rfl) (by kernel_rfl)) ?_
            refine vv (i := 5) (v := .bool (meetS y10.b y10.a)) rfl rfl rfl (yb_call (f := 21) (args := #[.agg #[.int .i64 y10.b.col, .int .i64 y10.b.tier, .int .u8 ((y10.b.half : Nat) : Int)], .agg #[.int .i64 y10.a.col, .int .i64 y10.a.tier, .int .u8 ((y10.a.half : Nat) : Int)]]) (fun _ => by kernel_rfl) fun W hW => Meet_any y10.b y10.a W) ?_
            refine vp (i := 6) (v := .bool (!((meetS y10.a y10.b) == (meetS y10.b y10.a)))) rfl rfl rfl (run_bin rfl (vx := .bool (meetS y10.a y10.b)) (vy := .bool (meetS y10.b y10.a)) (by kernel_rfl) (by kernel_rfl) fun w => bn_bool_neq rfl Tryd.underlying4 w) ?_
            refine vm (i := 7) (v := .bool (!((meetS y10.a y10.b) == (meetS y10.b y10.a)))) rfl rfl rfl ?_
            cases h13 : ((meetS y10.a y10.b) == (meetS y10.b y10.a)) with
            | false =>
              exact absurd (show ((meetS y10.a y10.b) == (meetS y10.b y10.a)) = true from beq_iff_eq.2 (meet_comm _ _)) (by rw [h13]; decide)
            | true =>
              refine vv (i := 8) (v := .agg #[.int .i64 y10.a.col, .int .i64 y10.a.tier, .int .u8 ((y10.a.half : Nat) : Int)]) rfl rfl rfl (yb_load (n := 3) (off := 0) rfl (by kernel_rfl) (.head _) Tryd.underlying34 rfl (by kernel_rfl) (by first | (simp [Value.cells]; done) | exact Nat.le_of_ble_eq_true rfl) (by kernel_rfl)) ?_
              refine vv (i := 9) (v := .agg #[.int .i64 y10.a.col, .int .i64 y10.a.tier, .int .u8 ((y10.a.half : Nat) : Int)]) rfl rfl rfl (yb_load (n := 3) (off := 0) rfl (by kernel_rfl) (.head _) Tryd.underlying34 rfl (by kernel_rfl) (by first | (simp [Value.cells]; done) | exact Nat.le_of_ble_eq_true rfl) (by kernel_rfl)) ?_
              refine vv (i := 10) (v := .bool (meetS y10.a y10.a)) rfl rfl rfl (yb_call (f := 21) (args := #[.agg #[.int .i64 y10.a.col, .int .i64 y10.a.tier, .int .u8 ((y10.a.half : Nat) : Int)], .agg #[.int .i64 y10.a.col, .int .i64 y10.a.tier, .int .u8 ((y10.a.half : Nat) : Int)]]) (fun _ => by kernel_rfl) fun W hW => Meet_any y10.a y10.a W) ?_
              refine vp (i := 11) (v := .bool (!(meetS y10.a y10.a))) rfl rfl rfl (run_un rfl (by kernel_rfl) fun w => un_not w) ?_
              refine vm (i := 12) (v := .bool (!(meetS y10.a y10.a))) rfl rfl rfl ?_
              refine vm (i := 13) (v := .bool (!(meetS y10.a y10.a))) rfl rfl rfl ?_
              cases h14 : (meetS y10.a y10.a) with
              | false =>
                exact absurd (meet_self _) (by rw [h14]; decide)
              | true =>
                refine vv (i := 14) (v := .agg #[.int .i64 y10.a.col, .int .i64 y10.a.tier, .int .u8 ((y10.a.half : Nat) : Int)]) rfl rfl rfl (yb_load (n := 3) (off := 0) rfl (by kernel_rfl) (.head _) Tryd.underlying34 rfl (by kernel_rfl) (by first | (simp [Value.cells]; done) | exact Nat.le_of_ble_eq_true rfl) (by kernel_rfl)) ?_
                refine vv (i := 15) (v := .agg #[.int .i64 y10.b.col, .int .i64 y10.b.tier, .int .u8 ((y10.b.half : Nat) : Int)]) rfl rfl rfl (yb_load (n := 3) (off := 0) rfl (by kernel_rfl) (.tail _ (.head _)) Tryd.underlying34 rfl (by kernel_rfl) (by first | (simp [Value.cells]; done) | exact Nat.le_of_ble_eq_true rfl) (by kernel_rfl)) ?_
                refine vv (i := 16) (v := .bool (meetS y10.a y10.b)) rfl rfl rfl (yb_call (f := 21) (args := #[.agg #[.int .i64 y10.a.col, .int .i64 y10.a.tier, .int .u8 ((y10.a.half : Nat) : Int)], .agg #[.int .i64 y10.b.col, .int .i64 y10.b.tier, .int .u8 ((y10.b.half : Nat) : Int)]]) (fun _ => by kernel_rfl) fun W hW => Meet_any y10.a y10.b W) ?_
                refine vm (i := 17) (v := .bool (meetS y10.a y10.b)) rfl rfl rfl ?_
                cases h15 : (meetS y10.a y10.b) with
                | false =>
                  refine vn (i := 18) rfl rfl ?_
                  refine vn (i := 19) rfl rfl ?_
                  refine vn (i := 20) rfl rfl ?_
                  refine vm (i := 21) (v := .bool false) rfl rfl rfl ?_
                  refine vm (i := 22) (v := .bool false) rfl rfl rfl ?_
                  refine vm (i := 23) (v := .bool false) rfl rfl rfl ?_
                  refine vv (i := 24) (v := .agg #[.int .i64 y10.a.col, .int .i64 y10.a.tier, .int .u8 ((y10.a.half : Nat) : Int)]) rfl rfl rfl (yb_load (n := 3) (off := 0) rfl (by kernel_rfl) (.head _) Tryd.underlying34 rfl (by kernel_rfl) (by first | (simp [Value.cells]; done) | exact Nat.le_of_ble_eq_true rfl) (by kernel_rfl)) ?_
                  refine vv (i := 25) (v := .agg #[.int .i64 y10.b.col, .int .i64 y10.b.tier, .int .u8 ((y10.b.half : Nat) : Int)]) rfl rfl rfl (yb_load (n := 3) (off := 0) rfl (by kernel_rfl) (.tail _ (.head _)) Tryd.underlying34 rfl (by kernel_rfl) (by first | (simp [Value.cells]; done) | exact Nat.le_of_ble_eq_true rfl) (by kernel_rfl)) ?_
                  refine vv (i := 26) (v := .bool (overS y10.a y10.b)) rfl rfl rfl (yb_call (f := 23) (args := #[.agg #[.int .i64 y10.a.col, .int .i64 y10.a.tier, .int .u8 ((y10.a.half : Nat) : Int)], .agg #[.int .i64 y10.b.col, .int .i64 y10.b.tier, .int .u8 ((y10.b.half : Nat) : Int)]]) (fun _ => by kernel_rfl) fun W hW => Over_any y10.a y10.b W) ?_
                  refine vm (i := 27) (v := .bool (overS y10.a y10.b)) rfl rfl rfl ?_
                  cases h16 : (overS y10.a y10.b) with
                  | false =>
                    refine vn (i := 28) rfl rfl ?_
                    refine vn (i := 29) rfl rfl ?_
                    refine vn (i := 30) rfl rfl ?_
                    refine vn (i := 31) rfl rfl ?_
                    refine vn (i := 32) rfl rfl ?_
                    refine vn (i := 33) rfl rfl ?_
                    refine vn (i := 34) rfl rfl ?_
                    refine vm (i := 35) (v := .bool false) rfl rfl rfl ?_
                    refine vm (i := 36) (v := .bool false) rfl rfl rfl ?_
                    refine vm (i := 37) (v := .bool false) rfl rfl rfl ?_
                    refine vv (i := 38) (v := .agg #[.int .i64 y10.a.col, .int .i64 y10.a.tier, .int .u8 ((y10.a.half : Nat) : Int)]) rfl rfl rfl (yb_load (n := 3) (off := 0) rfl (by kernel_rfl) (.head _) Tryd.underlying34 rfl (by kernel_rfl) (by first | (simp [Value.cells]; done) | exact Nat.le_of_ble_eq_true rfl) (by kernel_rfl)) ?_
                    refine vv (i := 39) (v := .agg #[.int .i64 y10.a.col, .int .i64 y10.a.tier, .int .u8 ((y10.a.half : Nat) : Int)]) rfl rfl rfl (yb_load (n := 3) (off := 0) rfl (by kernel_rfl) (.head _) Tryd.underlying34 rfl (by kernel_rfl) (by first | (simp [Value.cells]; done) | exact Nat.le_of_ble_eq_true rfl) (by kernel_rfl)) ?_
                    refine vv (i := 40) (v := .bool (overS y10.a y10.a)) rfl rfl rfl (yb_call (f := 23) (args := #[.agg #[.int .i64 y10.a.col, .int .i64 y10.a.tier, .int .u8 ((y10.a.half : Nat) : Int)], .agg #[.int .i64 y10.a.col, .int .i64 y10.a.tier, .int .u8 ((y10.a.half : Nat) : Int)]]) (fun _ => by kernel_rfl) fun W hW => Over_any y10.a y10.a W) ?_
                    refine vm (i := 41) (v := .bool (overS y10.a y10.a)) rfl rfl rfl ?_
                    refine wpV_done (by kernel_rfl) (fun W18 hW18 => ?_) _
                    refine (show Code.wp _ _ _ _ _ from ?_)
                    cases h17 : (overS y10.a y10.a) with
                    | false =>
                      refine wp_cond_false rfl ?_
                      refine wp_skip ?_
                      exact join_mk (by kernel_rfl) (hW18.sub (fun p hp => by first | exact hp | (simp only [List.mem_cons, List.mem_append, List.nil_append, List.not_mem_nil, or_assoc, or_false, false_or] at hp ⊢ <;> grind)))
                    | true =>
                      exact absurd (over_self _) (by rw [h17]; decide)
                  | true =>
                    refine vv (i := 28) (v := .agg #[.int .i64 y10.b.col, .int .i64 y10.b.tier, .int .u8 ((y10.b.half : Nat) : Int)]) rfl rfl rfl (yb_load (n := 3) (off := 0) rfl (by kernel_rfl) (.tail _ (.head _)) Tryd.underlying34 rfl (by kernel_rfl) (by first | (simp [Value.cells]; done) | exact Nat.le_of_ble_eq_true rfl) (by kernel_rfl)) ?_
                    refine vv (i := 29) (v := .agg #[.int .i64 y10.a.col, .int .i64 y10.a.tier, .int .u8 ((y10.a.half : Nat) : Int)]) rfl rfl rfl (yb_load (n := 3) (off := 0) rfl (by kernel_rfl) (.head _) Tryd.underlying34 rfl (by kernel_rfl) (by first | (simp [Value.cells]; done) | exact Nat.le_of_ble_eq_true rfl) (by kernel_rfl)) ?_
                    refine vv (i := 30) (v := .bool (overS y10.b y10.a)) rfl rfl rfl (yb_call (f := 23) (args := #[.agg #[.int .i64 y10.b.col, .int .i64 y10.b.tier, .int .u8 ((y10.b.half : Nat) : Int)], .agg #[.int .i64 y10.a.col, .int .i64 y10.a.tier, .int .u8 ((y10.a.half : Nat) : Int)]]) (fun _ => by kernel_rfl) fun W hW => Over_any y10.b y10.a W) ?_
                    refine vm (i := 31) (v := .bool (overS y10.b y10.a)) rfl rfl rfl ?_
                    cases h18 : (overS y10.b y10.a) with
                    | false =>
                      refine vm (i := 32) (v := .int .i64 (cmpS y10.a y10.b)) rfl rfl rfl ?_
                      refine vp (i := 33) (v := .bool (!(decide ((cmpS y10.a y10.b) = 1)))) rfl rfl rfl (run_bin rfl (vx := (.int .i64 (cmpS y10.a y10.b))) (vy := (.int .i64 1)) (by kernel_rfl) (by kernel_rfl) fun w => bi_neq rfl w) ?_
                      refine vm (i := 34) (v := .bool (!(decide ((cmpS y10.a y10.b) = 1)))) rfl rfl rfl ?_
                      refine vm (i := 35) (v := .bool (!(decide ((cmpS y10.a y10.b) = 1)))) rfl rfl rfl ?_
                      refine vm (i := 36) (v := .bool (!(decide ((cmpS y10.a y10.b) = 1)))) rfl rfl rfl ?_
                      refine vm (i := 37) (v := .bool (!(decide ((cmpS y10.a y10.b) = 1)))) rfl rfl rfl ?_
                      cases hd19 : (decide ((cmpS y10.a y10.b) = 1)) with
                      | false =>
                        have h19 : ¬ ((cmpS y10.a y10.b) = 1) := of_decide_eq_false hd19
                        clear hd19
                        exact absurd (over_one h16) h19
                      | true =>
                        have h19 : (cmpS y10.a y10.b) = 1 := of_decide_eq_true hd19
                        clear hd19
                        refine vv (i := 38) (v := .agg #[.int .i64 y10.a.col, .int .i64 y10.a.tier, .int .u8 ((y10.a.half : Nat) : Int)]) rfl rfl rfl (yb_load (n := 3) (off := 0) rfl (by kernel_rfl) (.head _) Tryd.underlying34 rfl (by kernel_rfl) (by first | (simp [Value.cells]; done) | exact Nat.le_of_ble_eq_true rfl) (by kernel_rfl)) ?_
                        refine vv (i := 39) (v := .agg #[.int .i64 y10.a.col, .int .i64 y10.a.tier, .int .u8 ((y10.a.half : Nat) : Int)]) rfl rfl rfl (yb_load (n := 3) (off := 0) rfl (by kernel_rfl) (.head _) Tryd.underlying34 rfl (by kernel_rfl) (by first | (simp [Value.cells]; done) | exact Nat.le_of_ble_eq_true rfl) (by kernel_rfl)) ?_
                        refine vv (i := 40) (v := .bool (overS y10.a y10.a)) rfl rfl rfl (yb_call (f := 23) (args := #[.agg #[.int .i64 y10.a.col, .int .i64 y10.a.tier, .int .u8 ((y10.a.half : Nat) : Int)], .agg #[.int .i64 y10.a.col, .int .i64 y10.a.tier, .int .u8 ((y10.a.half : Nat) : Int)]]) (fun _ => by kernel_rfl) fun W hW => Over_any y10.a y10.a W) ?_
                        refine vm (i := 41) (v := .bool (overS y10.a y10.a)) rfl rfl rfl ?_
                        refine wpV_done (by kernel_rfl) (fun W19 hW19 => ?_) _
                        refine (show Code.wp _ _ _ _ _ from ?_)
                        cases h20 : (overS y10.a y10.a) with
                        | false =>
                          refine wp_cond_false rfl ?_
                          refine wp_skip ?_
                          exact join_mk (by kernel_rfl) (hW19.sub (fun p hp => by first | exact hp | (simp only [List.mem_cons, List.mem_append, List.nil_append, List.not_mem_nil, or_assoc, or_false, false_or] at hp ⊢ <;> grind)))
                        | true =>
                          exact absurd (over_self _) (by rw [h20]; decide)
                    | true =>
                      exact (over_anti h16 h18).elim
                | true =>
                  refine vv (i := 18) (v := .agg #[.int .i64 y10.a.col, .int .i64 y10.a.tier, .int .u8 ((y10.a.half : Nat) : Int)]) rfl rfl rfl (yb_load (n := 3) (off := 0) rfl (by kernel_rfl) (.head _) Tryd.underlying34 rfl (by kernel_rfl) (by first | (simp [Value.cells]; done) | exact Nat.le_of_ble_eq_true rfl) (by kernel_rfl)) ?_
                  refine vv (i := 19) (v := .agg #[.int .i64 y10.b.col, .int .i64 y10.b.tier, .int .u8 ((y10.b.half : Nat) : Int)]) rfl rfl rfl (yb_load (n := 3) (off := 0) rfl (by kernel_rfl) (.tail _ (.head _)) Tryd.underlying34 rfl (by kernel_rfl) (by first | (simp [Value.cells]; done) | exact Nat.le_of_ble_eq_true rfl) (by kernel_rfl)) ?_
                  refine vv (i := 20) (v := .bool (overS y10.a y10.b)) rfl rfl rfl (yb_call (f := 23) (args := #[.agg #[.int .i64 y10.a.col, .int .i64 y10.a.tier, .int .u8 ((y10.a.half : Nat) : Int)], .agg #[.int .i64 y10.b.col, .int .i64 y10.b.tier, .int .u8 ((y10.b.half : Nat) : Int)]]) (fun _ => by kernel_rfl) fun W hW => Over_any y10.a y10.b W) ?_
                  refine vm (i := 21) (v := .bool (overS y10.a y10.b)) rfl rfl rfl ?_
                  refine vm (i := 22) (v := .bool (overS y10.a y10.b)) rfl rfl rfl ?_
                  refine vm (i := 23) (v := .bool (overS y10.a y10.b)) rfl rfl rfl ?_
                  cases h21 : (overS y10.a y10.b) with
                  | false =>
                    refine vv (i := 24) (v := .agg #[.int .i64 y10.a.col, .int .i64 y10.a.tier, .int .u8 ((y10.a.half : Nat) : Int)]) rfl rfl rfl (yb_load (n := 3) (off := 0) rfl (by kernel_rfl) (.head _) Tryd.underlying34 rfl (by kernel_rfl) (by first | (simp [Value.cells]; done) | exact Nat.le_of_ble_eq_true rfl) (by kernel_rfl)) ?_
                    refine vv (i := 25) (v := .agg #[.int .i64 y10.b.col, .int .i64 y10.b.tier, .int .u8 ((y10.b.half : Nat) : Int)]) rfl rfl rfl (yb_load (n := 3) (off := 0) rfl (by kernel_rfl) (.tail _ (.head _)) Tryd.underlying34 rfl (by kernel_rfl) (by first | (simp [Value.cells]; done) | exact Nat.le_of_ble_eq_true rfl) (by kernel_rfl)) ?_
                    refine vv (i := 26) (v := .bool false) rfl rfl rfl (yb_call (f := 23) (args := #[.agg #[.int .i64 y10.a.col, .int .i64 y10.a.tier, .int .u8 ((y10.a.half : Nat) : Int)], .agg #[.int .i64 y10.b.col, .int .i64 y10.b.tier, .int .u8 ((y10.b.half : Nat) : Int)]]) (fun _ => by kernel_rfl) fun W hW => (by have h9 := Over_any y10.a y10.b W; rw [h21] at h9; exact h9)) ?_
                    refine vm (i := 27) (v := .bool false) rfl rfl rfl ?_
                    refine vn (i := 28) rfl rfl ?_
                    refine vn (i := 29) rfl rfl ?_
                    refine vn (i := 30) rfl rfl ?_
                    refine vn (i := 31) rfl rfl ?_
                    refine vn (i := 32) rfl rfl ?_
                    refine vn (i := 33) rfl rfl ?_
                    refine vn (i := 34) rfl rfl ?_
                    refine vm (i := 35) (v := .bool false) rfl rfl rfl ?_
                    refine vm (i := 36) (v := .bool false) rfl rfl rfl ?_
                    refine vm (i := 37) (v := .bool false) rfl rfl rfl ?_
                    refine vv (i := 38) (v := .agg #[.int .i64 y10.a.col, .int .i64 y10.a.tier, .int .u8 ((y10.a.half : Nat) : Int)]) rfl rfl rfl (yb_load (n := 3) (off := 0) rfl (by kernel_rfl) (.head _) Tryd.underlying34 rfl (by kernel_rfl) (by first | (simp [Value.cells]; done) | exact Nat.le_of_ble_eq_true rfl) (by kernel_rfl)) ?_
                    refine vv (i := 39) (v := .agg #[.int .i64 y10.a.col, .int .i64 y10.a.tier, .int .u8 ((y10.a.half : Nat) : Int)]) rfl rfl rfl (yb_load (n := 3) (off := 0) rfl (by kernel_rfl) (.head _) Tryd.underlying34 rfl (by kernel_rfl) (by first | (simp [Value.cells]; done) | exact Nat.le_of_ble_eq_true rfl) (by kernel_rfl)) ?_
                    refine vv (i := 40) (v := .bool (overS y10.a y10.a)) rfl rfl rfl (yb_call (f := 23) (args := #[.agg #[.int .i64 y10.a.col, .int .i64 y10.a.tier, .int .u8 ((y10.a.half : Nat) : Int)], .agg #[.int .i64 y10.a.col, .int .i64 y10.a.tier, .int .u8 ((y10.a.half : Nat) : Int)]]) (fun _ => by kernel_rfl) fun W hW => Over_any y10.a y10.a W) ?_
                    refine vm (i := 41) (v := .bool (overS y10.a y10.a)) rfl rfl rfl ?_
                    refine wpV_done (by kernel_rfl) (fun W20 hW20 => ?_) _
                    refine (show Code.wp _ _ _ _ _ from ?_)
                    cases h22 : (overS y10.a y10.a) with
                    | false =>
                      refine wp_cond_false rfl ?_
                      refine wp_skip ?_
                      exact join_mk (by kernel_rfl) (hW20.sub (fun p hp => by first | exact hp | (simp only [List.mem_cons, List.mem_append, List.nil_append, List.not_mem_nil, or_assoc, or_false, false_or] at hp ⊢ <;> grind)))
                    | true =>
                      exact absurd (over_self _) (by rw [h22]; decide)
                  | true =>
                    exact (meet_over h15 h21).elim
          · rintro a3 W3j ⟨⟨z, rfl⟩, hW3j⟩
            dsimp only [cutT]
            refine wp_seq ?_
            refine wp_region_L (W0 := W7) [(ga, .cells #[.int .i64 y10.a.col, .int .i64 y10.a.tier, .int .u8 ((y10.a.half : Nat) : Int)] 34 (0, 0)), (gb, .cells #[.int .i64 y10.b.col, .int .i64 y10.b.tier, .int .u8 ((y10.b.half : Nat) : Int)] 34 (0, 0)), (gc, .cells #[.int .i64 y10.c.col, .int .i64 y10.c.tier, .int .u8 ((y10.c.half : Nat) : Int)] 34 (0, 0))] (hW3j) ?_
            refine lv (v := .agg #[.int .i64 y10.a.col, .int .i64 y10.a.tier, .int .u8 ((y10.a.half : Nat) : Int)]) rfl rfl (yb_load (n := 3) (off := 0) rfl (by kernel_rfl) (.head _) Tryd.underlying34 rfl (by kernel_rfl) (by first | (simp [Value.cells]; done) | exact Nat.le_of_ble_eq_true rfl) (by kernel_rfl)) ?_
            refine lv (v := .agg #[.int .i64 y10.b.col, .int .i64 y10.b.tier, .int .u8 ((y10.b.half : Nat) : Int)]) rfl rfl (yb_load (n := 3) (off := 0) rfl (by kernel_rfl) (.tail _ (.head _)) Tryd.underlying34 rfl (by kernel_rfl) (by first | (simp [Value.cells]; done) | exact Nat.le_of_ble_eq_true rfl) (by kernel_rfl)) ?_
            refine lv (v := .bool (overS y10.a y10.b)) rfl rfl (yb_call (f := 23) (args := #[.agg #[.int .i64 y10.a.col, .int .i64 y10.a.tier, .int .u8 ((y10.a.half : Nat) : Int)], .agg #[.int .i64 y10.b.col, .int .i64 y10.b.tier, .int .u8 ((y10.b.half : Nat) : Int)]]) (fun _ => by kernel_rfl) fun W hW => Over_any y10.a y10.b W) ?_
            refine lm (v := .bool (overS y10.a y10.b)) rfl rfl ?_
            cases h23 : (overS y10.a y10.b) with
            | false =>
              refine ln rfl ?_
              refine ln rfl ?_
              refine ln rfl ?_
              refine lm (v := .bool false) rfl rfl ?_
              refine lm (v := .bool false) rfl rfl ?_
              refine ln rfl ?_
              refine ln rfl ?_
              refine ln rfl ?_
              refine ln rfl ?_
              refine lm (v := .bool false) rfl rfl ?_
              refine lm (v := .bool false) rfl rfl ?_
              refine ln rfl ?_
              refine ln rfl ?_
              refine ln rfl ?_
              refine ln rfl ?_
              refine ln rfl ?_
              refine ln rfl ?_
              refine ln rfl ?_
              refine ln rfl ?_
              refine ln rfl ?_
              refine ln rfl ?_
              refine ln rfl ?_
              refine ln rfl ?_
              refine ln rfl ?_
              refine ln rfl ?_
              refine ln rfl ?_
              refine ln rfl ?_
              refine ln rfl ?_
              refine ln rfl ?_
              refine ln rfl ?_
              refine ln rfl ?_
              refine lm (v := .bool false) rfl rfl ?_
              refine wpL_done (fun W21 hW21 => ?_)
              refine (show Code.wp _ _ _ _ _ from ?_)
              refine wp_cond_false rfl ?_
              refine wp_skip ?_
              refine (show Code.wp _ _ _ _ _ from ?_)
              refine wp_region_L (W0 := w) [(g11, .cells (triC y10).toArray 74 (0, 0)), (g8, .cells #[.int .i64 a.col, .int .i64 a.tier, .int .u8 ((a.half : Nat) : Int), .int .i64 b.col, .int .i64 b.tier, .int .u8 ((b.half : Nat) : Int), .int .i64 c.col, .int .i64 c.tier, .int .u8 ((c.half : Nat) : Int), .int .i64 ((fewS (n / 2 ^ (8 * 0) % 256)).col), .int .i64 ((fewS (n / 2 ^ (8 * 0) % 256)).tier), .int .u8 ((((fewS (n / 2 ^ (8 * 0) % 256)).half) : Nat) : Int), .int .i64 ((fewS (n / 2 ^ (8 * 1) % 256)).col), .int .i64 ((fewS (n / 2 ^ (8 * 1) % 256)).tier), .int .u8 ((((fewS (n / 2 ^ (8 * 1) % 256)).half) : Nat) : Int), .int .i64 ((fewS (n / 2 ^ (8 * 2) % 256)).col), .int .i64 ((fewS (n / 2 ^ (8 * 2) % 256)).tier), .int .u8 ((((fewS (n / 2 ^ (8 * 2) % 256)).half) : Nat) : Int)] 74 (0, 0)), (g6, .cells #[.int .u32 ((n : Nat) : Int)] 61 (0, 0)), (g4, .cells (sltC c).toArray 34 (0, 0)), (g2, .cells (sltC b).toArray 34 (0, 0)), (g1, .cells (sltC a).toArray 34 (0, 0))] ((hW7.below hW21.1)) ?_
              refine lp (v := .int .i64 (((k + 1) : Nat) : Int)) rfl rfl (run_bin rfl (vx := (.int .i64 ((k : Nat) : Int))) (vy := (.int .i64 ((1 : Nat) : Int))) (by kernel_rfl) (by kernel_rfl) fun w => bn_add (z := (k + 1)) rfl (wr_i64 (by omega)) w) ?_
              refine lm (v := .int .i64 (((k + 1) : Nat) : Int)) rfl rfl ?_
              refine wpL_done (fun W22 hW22 => ?_)
              go_roundw
              case rel =>
                repeat apply Exists.intro
                exact ⟨⟨k + 1, (by omega), rfl, (hW22.sub (fun p hp => by first | exact hp | (simp only [List.mem_cons, List.mem_append, List.nil_append, List.not_mem_nil, or_assoc, or_false, false_or] at hp ⊢ <;> grind)))⟩, rfl⟩
              case measure => (show 2 - (intOf (.int .i64 (((k + 1) : Nat) : Int))).toNat < 2 - (intOf (.int .i64 ((k : Nat) : Int))).toNat); simp only [intOf]; omega
            | true =>
              refine lv (v := .agg #[.int .i64 y10.b.col, .int .i64 y10.b.tier, .int .u8 ((y10.b.half : Nat) : Int)]) rfl rfl (yb_load (n := 3) (off := 0) rfl (by kernel_rfl) (.tail _ (.head _)) Tryd.underlying34 rfl (by kernel_rfl) (by first | (simp [Value.cells]; done) | exact Nat.le_of_ble_eq_true rfl) (by kernel_rfl)) ?_
              refine lv (v := .agg #[.int .i64 y10.c.col, .int .i64 y10.c.tier, .int .u8 ((y10.c.half : Nat) : Int)]) rfl rfl (yb_load (n := 3) (off := 0) rfl (by kernel_rfl) (.tail _ (.tail _ (.head _))) Tryd.underlying34 rfl (by kernel_rfl) (by first | (simp [Value.cells]; done) | exact Nat.le_of_ble_eq_true rfl) (by kernel_rfl)) ?_
              refine lv (v := .bool (overS y10.b y10.c)) rfl rfl (yb_call (f := 23) (args := #[.agg #[.int .i64 y10.b.col, .int .i64 y10.b.tier, .int .u8 ((y10.b.half : Nat) : Int)], .agg #[.int .i64 y10.c.col, .int .i64 y10.c.tier, .int .u8 ((y10.c.half : Nat) : Int)]]) (fun _ => by kernel_rfl) fun W hW => Over_any y10.b y10.c W) ?_
              refine lm (v := .bool (overS y10.b y10.c)) rfl rfl ?_
              refine lm (v := .bool (overS y10.b y10.c)) rfl rfl ?_
              cases h24 : (overS y10.b y10.c) with
              | false =>
                refine ln rfl ?_
                refine ln rfl ?_
                refine ln rfl ?_
                refine ln rfl ?_
                refine lm (v := .bool false) rfl rfl ?_
                refine lm (v := .bool false) rfl rfl ?_
                refine ln rfl ?_
                refine ln rfl ?_
                refine ln rfl ?_
                refine ln rfl ?_
                refine ln rfl ?_
                refine ln rfl ?_
                refine ln rfl ?_
                refine ln rfl ?_
                refine ln rfl ?_
                refine ln rfl ?_
                refine ln rfl ?_
                refine ln rfl ?_
                refine ln rfl ?_
                refine ln rfl ?_
                refine ln rfl ?_
                refine ln rfl ?_
                refine ln rfl ?_
                refine ln rfl ?_
                refine ln rfl ?_
                refine ln rfl ?_
                refine lm (v := .bool false) rfl rfl ?_
                refine wpL_done (fun W23 hW23 => ?_)
                refine (show Code.wp _ _ _ _ _ from ?_)
                refine wp_cond_false rfl ?_
                refine wp_skip ?_
                refine (show Code.wp _ _ _ _ _ from ?_)
                refine wp_region_L (W0 := w) [(g11, .cells (triC y10).toArray 74 (0, 0)), (g8, .cells #[.int .i64 a.col, .int .i64 a.tier, .int .u8 ((a.half : Nat) : Int), .int .i64 b.col, .int .i64 b.tier, .int .u8 ((b.half : Nat) : Int), .int .i64 c.col, .int .i64 c.tier, .int .u8 ((c.half : Nat) : Int), .int .i64 ((fewS (n / 2 ^ (8 * 0) % 256)).col), .int .i64 ((fewS (n / 2 ^ (8 * 0) % 256)).tier), .int .u8 ((((fewS (n / 2 ^ (8 * 0) % 256)).half) : Nat) : Int), .int .i64 ((fewS (n / 2 ^ (8 * 1) % 256)).col), .int .i64 ((fewS (n / 2 ^ (8 * 1) % 256)).tier), .int .u8 ((((fewS (n / 2 ^ (8 * 1) % 256)).half) : Nat) : Int), .int .i64 ((fewS (n / 2 ^ (8 * 2) % 256)).col), .int .i64 ((fewS (n / 2 ^ (8 * 2) % 256)).tier), .int .u8 ((((fewS (n / 2 ^ (8 * 2) % 256)).half) : Nat) : Int)] 74 (0, 0)), (g6, .cells #[.int .u32 ((n : Nat) : Int)] 61 (0, 0)), (g4, .cells (sltC c).toArray 34 (0, 0)), (g2, .cells (sltC b).toArray 34 (0, 0)), (g1, .cells (sltC a).toArray 34 (0, 0))] ((hW7.below hW23.1)) ?_
                refine lp (v := .int .i64 (((k + 1) : Nat) : Int)) rfl rfl (run_bin rfl (vx := (.int .i64 ((k : Nat) : Int))) (vy := (.int .i64 ((1 : Nat) : Int))) (by kernel_rfl) (by kernel_rfl) fun w => bn_add (z := (k + 1)) rfl (wr_i64 (by omega)) w) ?_
                refine lm (v := .int .i64 (((k + 1) : Nat) : Int)) rfl rfl ?_
                refine wpL_done (fun W24 hW24 => ?_)
                go_roundw
                case rel =>
                  repeat apply Exists.intro
                  exact ⟨⟨k + 1, (by omega), rfl, (hW24.sub (fun p hp => by first | exact hp | (simp only [List.mem_cons, List.mem_append, List.nil_append, List.not_mem_nil, or_assoc, or_false, false_or] at hp ⊢ <;> grind)))⟩, rfl⟩
                case measure => (show 2 - (intOf (.int .i64 (((k + 1) : Nat) : Int))).toNat < 2 - (intOf (.int .i64 ((k : Nat) : Int))).toNat); simp only [intOf]; omega
              | true =>
                refine lv (v := .agg #[.int .i64 y10.a.col, .int .i64 y10.a.tier, .int .u8 ((y10.a.half : Nat) : Int)]) rfl rfl (yb_load (n := 3) (off := 0) rfl (by kernel_rfl) (.head _) Tryd.underlying34 rfl (by kernel_rfl) (by first | (simp [Value.cells]; done) | exact Nat.le_of_ble_eq_true rfl) (by kernel_rfl)) ?_
                refine lv (v := .agg #[.int .i64 y10.c.col, .int .i64 y10.c.tier, .int .u8 ((y10.c.half : Nat) : Int)]) rfl rfl (yb_load (n := 3) (off := 0) rfl (by kernel_rfl) (.tail _ (.tail _ (.head _))) Tryd.underlying34 rfl (by kernel_rfl) (by first | (simp [Value.cells]; done) | exact Nat.le_of_ble_eq_true rfl) (by kernel_rfl)) ?_
                refine lv (v := .bool (overS y10.a y10.c)) rfl rfl (yb_call (f := 23) (args := #[.agg #[.int .i64 y10.a.col, .int .i64 y10.a.tier, .int .u8 ((y10.a.half : Nat) : Int)], .agg #[.int .i64 y10.c.col, .int .i64 y10.c.tier, .int .u8 ((y10.c.half : Nat) : Int)]]) (fun _ => by kernel_rfl) fun W hW => Over_any y10.a y10.c W) ?_
                refine lp (v := .bool (!(overS y10.a y10.c))) rfl rfl (run_un rfl (by kernel_rfl) fun w => un_not w) ?_
                refine lm (v := .bool (!(overS y10.a y10.c))) rfl rfl ?_
                refine lm (v := .bool (!(overS y10.a y10.c))) rfl rfl ?_
                cases h25 : (overS y10.a y10.c) with
                | false =>
                  refine lm (v := .pointer (some ⟨gb, 2, none⟩)) rfl rfl ?_
                  refine lv (v := .int .u8 ((y10.b.half : Nat) : Int)) rfl rfl (yb_cell (off := 2) rfl (by kernel_rfl) (.tail _ (.head _)) Tryd.underlying5 rfl (by kernel_rfl)) ?_
                  refine lp (v := .bool (!(decide (y10.b.half = 0)))) rfl rfl (run_bin rfl (vx := (.int .u8 ((y10.b.half : Nat) : Int))) (vy := (.int .u8 ((0 : Nat) : Int))) (by kernel_rfl) (by kernel_rfl) fun w => bn_neq rfl w) ?_
                  refine lm (v := .bool (!(decide (y10.b.half = 0)))) rfl rfl ?_
                  cases hd26 : (decide (y10.b.half = 0)) with
                  | false =>
                    have h26 : ¬ (y10.b.half = 0) := of_decide_eq_false hd26
                    clear hd26
                    exact absurd (over_tr h23 h24 h25).1 h26
                  | true =>
                    have h26 : y10.b.half = 0 := of_decide_eq_true hd26
                    clear hd26
                    refine lm (v := .pointer (some ⟨ga, 2, none⟩)) rfl rfl ?_
                    refine lv (v := .int .u8 ((y10.a.half : Nat) : Int)) rfl rfl (yb_cell (off := 2) rfl (by kernel_rfl) (.head _) Tryd.underlying5 rfl (by kernel_rfl)) ?_
                    refine lm (v := .pointer (some ⟨gc, 2, none⟩)) rfl rfl ?_
                    refine lv (v := .int .u8 ((y10.c.half : Nat) : Int)) rfl rfl (yb_cell (off := 2) rfl (by kernel_rfl) (.tail _ (.tail _ (.head _))) Tryd.underlying5 rfl (by kernel_rfl)) ?_
                    refine lp (v := .bool (decide (y10.a.half = y10.c.half))) rfl rfl (run_bin rfl (vx := (.int .u8 ((y10.a.half : Nat) : Int))) (vy := (.int .u8 ((y10.c.half : Nat) : Int))) (by kernel_rfl) (by kernel_rfl) fun w => bn_eql rfl w) ?_
                    refine lm (v := .bool (decide (y10.a.half = y10.c.half))) rfl rfl ?_
                    refine lm (v := .bool (decide (y10.a.half = y10.c.half))) rfl rfl ?_
                    cases hd27 : (decide (y10.a.half = y10.c.half)) with
                    | false =>
                      have h27 : ¬ (y10.a.half = y10.c.half) := of_decide_eq_false hd27
                      clear hd27
                      refine lm (v := .pointer (some ⟨ga, 2, none⟩)) rfl rfl ?_
                      refine lv (v := .int .u8 ((y10.a.half : Nat) : Int)) rfl rfl (yb_cell (off := 2) rfl (by kernel_rfl) (.head _) Tryd.underlying5 rfl (by kernel_rfl)) ?_
                      refine lp (v := .bool (decide (y10.a.half = 0))) rfl rfl (run_bin rfl (vx := (.int .u8 ((y10.a.half : Nat) : Int))) (vy := (.int .u8 ((0 : Nat) : Int))) (by kernel_rfl) (by kernel_rfl) fun w => bn_eql rfl w) ?_
                      refine lm (v := .bool (decide (y10.a.half = 0))) rfl rfl ?_
                      refine lm (v := .bool (decide (y10.a.half = 0))) rfl rfl ?_
                      cases hd28 : (decide (y10.a.half = 0)) with
                      | false =>
                        have h28 : ¬ (y10.a.half = 0) := of_decide_eq_false hd28
                        clear hd28
                        refine lm (v := .pointer (some ⟨gc, 2, none⟩)) rfl rfl ?_
                        refine lv (v := .int .u8 ((y10.c.half : Nat) : Int)) rfl rfl (yb_cell (off := 2) rfl (by kernel_rfl) (.tail _ (.tail _ (.head _))) Tryd.underlying5 rfl (by kernel_rfl)) ?_
                        refine lp (v := .bool (decide (y10.c.half = 0))) rfl rfl (run_bin rfl (vx := (.int .u8 ((y10.c.half : Nat) : Int))) (vy := (.int .u8 ((0 : Nat) : Int))) (by kernel_rfl) (by kernel_rfl) fun w => bn_eql rfl w) ?_
                        refine lm (v := .bool (decide (y10.c.half = 0))) rfl rfl ?_
                        refine lm (v := .bool (decide (y10.c.half = 0))) rfl rfl ?_
                        refine wpL_done (fun W25 hW25 => ?_)
                        refine (show Code.wp _ _ _ _ _ from ?_)
                        cases hd29 : (decide (y10.c.half = 0)) with
                        | false =>
                          have h29 : ¬ (y10.c.half = 0) := of_decide_eq_false hd29
                          clear hd29
                          refine wp_cond_false rfl ?_
                          refine wp_skip ?_
                          refine (show Code.wp _ _ _ _ _ from ?_)
                          refine wp_region_L (W0 := w) [(g11, .cells (triC y10).toArray 74 (0, 0)), (g8, .cells #[.int .i64 a.col, .int .i64 a.tier, .int .u8 ((a.half : Nat) : Int), .int .i64 b.col, .int .i64 b.tier, .int .u8 ((b.half : Nat) : Int), .int .i64 c.col, .int .i64 c.tier, .int .u8 ((c.half : Nat) : Int), .int .i64 ((fewS (n / 2 ^ (8 * 0) % 256)).col), .int .i64 ((fewS (n / 2 ^ (8 * 0) % 256)).tier), .int .u8 ((((fewS (n / 2 ^ (8 * 0) % 256)).half) : Nat) : Int), .int .i64 ((fewS (n / 2 ^ (8 * 1) % 256)).col), .int .i64 ((fewS (n / 2 ^ (8 * 1) % 256)).tier), .int .u8 ((((fewS (n / 2 ^ (8 * 1) % 256)).half) : Nat) : Int), .int .i64 ((fewS (n / 2 ^ (8 * 2) % 256)).col), .int .i64 ((fewS (n / 2 ^ (8 * 2) % 256)).tier), .int .u8 ((((fewS (n / 2 ^ (8 * 2) % 256)).half) : Nat) : Int)] 74 (0, 0)), (g6, .cells #[.int .u32 ((n : Nat) : Int)] 61 (0, 0)), (g4, .cells (sltC c).toArray 34 (0, 0)), (g2, .cells (sltC b).toArray 34 (0, 0)), (g1, .cells (sltC a).toArray 34 (0, 0))] ((hW7.below hW25.1)) ?_
                          refine lp (v := .int .i64 (((k + 1) : Nat) : Int)) rfl rfl (run_bin rfl (vx := (.int .i64 ((k : Nat) : Int))) (vy := (.int .i64 ((1 : Nat) : Int))) (by kernel_rfl) (by kernel_rfl) fun w => bn_add (z := (k + 1)) rfl (wr_i64 (by omega)) w) ?_
                          refine lm (v := .int .i64 (((k + 1) : Nat) : Int)) rfl rfl ?_
                          refine wpL_done (fun W26 hW26 => ?_)
                          go_roundw
                          case rel =>
                            repeat apply Exists.intro
                            exact ⟨⟨k + 1, (by omega), rfl, (hW26.sub (fun p hp => by first | exact hp | (simp only [List.mem_cons, List.mem_append, List.nil_append, List.not_mem_nil, or_assoc, or_false, false_or] at hp ⊢ <;> grind)))⟩, rfl⟩
                          case measure => (show 2 - (intOf (.int .i64 (((k + 1) : Nat) : Int))).toNat < 2 - (intOf (.int .i64 ((k : Nat) : Int))).toNat); simp only [intOf]; omega
                        | true =>
                          have h29 : y10.c.half = 0 := of_decide_eq_true hd29
                          clear hd29
                          exact absurd h29 (over_tr h23 h24 h25).2.2.2
                      | true =>
                        have h28 : y10.a.half = 0 := of_decide_eq_true hd28
                        clear hd28
                        exact absurd h28 (over_tr h23 h24 h25).2.2.1
                    | true =>
                      have h27 : y10.a.half = y10.c.half := of_decide_eq_true hd27
                      clear hd27
                      exact absurd h27 (over_tr h23 h24 h25).2.1
                | true =>
                  refine ln rfl ?_
                  refine ln rfl ?_
                  refine ln rfl ?_
                  refine ln rfl ?_
                  refine ln rfl ?_
                  refine ln rfl ?_
                  refine ln rfl ?_
                  refine ln rfl ?_
                  refine ln rfl ?_
                  refine ln rfl ?_
                  refine ln rfl ?_
                  refine ln rfl ?_
                  refine ln rfl ?_
                  refine ln rfl ?_
                  refine ln rfl ?_
                  refine ln rfl ?_
                  refine ln rfl ?_
                  refine ln rfl ?_
                  refine ln rfl ?_
                  refine ln rfl ?_
                  refine lm (v := .bool false) rfl rfl ?_
                  refine wpL_done (fun W27 hW27 => ?_)
                  refine (show Code.wp _ _ _ _ _ from ?_)
                  refine wp_cond_false rfl ?_
                  refine wp_skip ?_
                  refine (show Code.wp _ _ _ _ _ from ?_)
                  refine wp_region_L (W0 := w) [(g11, .cells (triC y10).toArray 74 (0, 0)), (g8, .cells #[.int .i64 a.col, .int .i64 a.tier, .int .u8 ((a.half : Nat) : Int), .int .i64 b.col, .int .i64 b.tier, .int .u8 ((b.half : Nat) : Int), .int .i64 c.col, .int .i64 c.tier, .int .u8 ((c.half : Nat) : Int), .int .i64 ((fewS (n / 2 ^ (8 * 0) % 256)).col), .int .i64 ((fewS (n / 2 ^ (8 * 0) % 256)).tier), .int .u8 ((((fewS (n / 2 ^ (8 * 0) % 256)).half) : Nat) : Int), .int .i64 ((fewS (n / 2 ^ (8 * 1) % 256)).col), .int .i64 ((fewS (n / 2 ^ (8 * 1) % 256)).tier), .int .u8 ((((fewS (n / 2 ^ (8 * 1) % 256)).half) : Nat) : Int), .int .i64 ((fewS (n / 2 ^ (8 * 2) % 256)).col), .int .i64 ((fewS (n / 2 ^ (8 * 2) % 256)).tier), .int .u8 ((((fewS (n / 2 ^ (8 * 2) % 256)).half) : Nat) : Int)] 74 (0, 0)), (g6, .cells #[.int .u32 ((n : Nat) : Int)] 61 (0, 0)), (g4, .cells (sltC c).toArray 34 (0, 0)), (g2, .cells (sltC b).toArray 34 (0, 0)), (g1, .cells (sltC a).toArray 34 (0, 0))] ((hW7.below hW27.1)) ?_
                  refine lp (v := .int .i64 (((k + 1) : Nat) : Int)) rfl rfl (run_bin rfl (vx := (.int .i64 ((k : Nat) : Int))) (vy := (.int .i64 ((1 : Nat) : Int))) (by kernel_rfl) (by kernel_rfl) fun w => bn_add (z := (k + 1)) rfl (wr_i64 (by omega)) w) ?_
                  refine lm (v := .int .i64 (((k + 1) : Nat) : Int)) rfl rfl ?_
                  refine wpL_done (fun W28 hW28 => ?_)
                  go_roundw
                  case rel =>
                    repeat apply Exists.intro
                    exact ⟨⟨k + 1, (by omega), rfl, (hW28.sub (fun p hp => by first | exact hp | (simp only [List.mem_cons, List.mem_append, List.nil_append, List.not_mem_nil, or_assoc, or_false, false_or] at hp ⊢ <;> grind)))⟩, rfl⟩
                  case measure => (show 2 - (intOf (.int .i64 (((k + 1) : Nat) : Int))).toNat < 2 - (intOf (.int .i64 ((k : Nat) : Int))).toNat); simp only [intOf]; omega
end Go.Proofs.YthpooalhibedpaaDoor
/- SlotOrder holds for every input: the program's own answer is true, wherever the listed variables are as the program's text lays them; each argument reads afterwards as it read before. -/
namespace Go.Proofs.YthpooalhibedpaaDoor
open Go.ChangeShapes Go.WideShapes Go.ChangeAt Go.RowKit Tw
set_option maxRecDepth 100000 in
theorem slotOrder_lifted (os : Os) (started : os.Started) (H : Type) (enc : TypeId × Value → H) :
    ReturnsInHanded {} Tryd.checked os 7 .any (fun w args => (Rows.slotOrderSpec.pre enc Tryd.prog Tryd.f7 Rows.slotOrderRow.domain false w args ∧ laidMetH Tryd.prog laidN w) ∧ sizedMet enc Tryd.prog Tryd.f7 (OpenSpec.ofChange Rows.slotOrderSpec) false w args) (Rows.slotOrderSpec.post enc Tryd.prog Tryd.f7 false true false false) := by
  refine handed_and_sized (C := Tryd.checked) (X := fun w => laidMetH Tryd.prog laidN w) (fun _ _ hh h => h.of_heap hh) own started (by kernel_rfl) Tryd.func7
    (ChangeSpec.witness_shaped (enc := enc) (C := Tryd.checked) (os := os) (X := fun w _ => laidMetH Tryd.prog laidN w) false (World.doorLaid Tryd.prog 1000 os) #[.agg #[.int .i64 0, .int .i64 0, .int .u8 0], .agg #[.int .i64 0, .int .i64 0, .int .u8 0], .agg #[.int .i64 0, .int .i64 0, .int .u8 0], .int .u32 0] 8 rfl (World.shaped_of_RefB (by kernel_rfl) (by kernel_rfl)) (by kernel_rfl) (by kernel_rfl) (by kernel_rfl) (door_met os _)) ?_
  intro W base args ds gs before hval0 hW hL hsh hsz
  have hval : ∀ (j : Nat) t v, Tryd.f7.params[j]? = some t → args[j]? = some v → Value.okWide Tryd.prog W .any base t v := hval0
  have hW2 := hW
  obtain ⟨p, q, hA0, hV, rfl, hfz, hnd⟩ := hW2
  have hA : DataW.TrodAll enc Tryd.prog W 0 (fun _ => true) true Tryd.f7.params.toList args.toList ds p := hA0
  rw [Tryd.params7] at hA hval
  obtain ⟨v0, vs0, d0, ds0, p0, q0, hargs, rfl, rfl, h0, r0⟩ := trodAll_cons hA
  obtain ⟨v1, vs1, d1, ds1, p1, q1, rfl, rfl, rfl, h1, r1⟩ := trodAll_cons r0
  obtain ⟨v2, vs2, d2, ds2, p2, q2, rfl, rfl, rfl, h2, r2⟩ := trodAll_cons r1
  obtain ⟨v3, vs3, d3, ds3, p3, q3, rfl, rfl, rfl, h3, r3⟩ := trodAll_cons r2
  obtain ⟨rfl, rfl, rfl⟩ := trodAll_nil r3
  obtain rfl : args = #[v0, v1, v2, v3] := by cases args; simp_all
  obtain ⟨rfl, rfl⟩ := trodVars_none hV
  have k0 := h0
  have lt0 : ∀ x ∈ p0, x.block < W.heap.size := by obtain ⟨m, hm⟩ := k0; exact DataW.trod_lt m _ _ _ hm
  obtain ⟨y0, rfl, ok0⟩ := open_recS Tryd.underlying34 (OpensS.of opens_slt) (hval 0 34 v0 rfl rfl) h0 (sized_par (j := 0) (t := 34) hsz rfl rfl)
  have k1 := h1
  have lt1 : ∀ x ∈ p1, x.block < W.heap.size := by obtain ⟨m, hm⟩ := k1; exact DataW.trod_lt m _ _ _ hm
  obtain ⟨y1, rfl, ok1⟩ := open_recS Tryd.underlying34 (OpensS.of opens_slt) (hval 1 34 v1 rfl rfl) h1 (sized_par (j := 1) (t := 34) hsz rfl rfl)
  have k2 := h2
  have lt2 : ∀ x ∈ p2, x.block < W.heap.size := by obtain ⟨m, hm⟩ := k2; exact DataW.trod_lt m _ _ _ hm
  obtain ⟨y2, rfl, ok2⟩ := open_recS Tryd.underlying34 (OpensS.of opens_slt) (hval 2 34 v2 rfl rfl) h2 (sized_par (j := 2) (t := 34) hsz rfl rfl)
  obtain ⟨a3, rfl, rfl, rfl, w3⟩ := open_int Tryd.underlying61 (hval 3 61 v3 rfl rfl) h3
  have rr3 : 0 ≤ a3 ∧ a3 ≤ 4294967295 := of_wf w3
  obtain ⟨n3, rfl⟩ : ∃ n : Nat, a3 = (n : Int) := ⟨a3.toNat, by omega⟩
  clear hA0 hval0
  refine (SlotOrder_any y0 y1 y2 n3 (by omega) W (env_of hL)).mono fun e W' ⟨he, bel⟩ => ?_
  subst he
  exact ⟨_, rfl, _, _, _, [], _, [], hW, (trodAll_cons_mk (shut_bool Tryd.underlying4 _) trodAll_mk0), (trodAll_cons_mk (Below.trod laidOut (by kernel_rfl) (of_decide_eq_true (by kernel_rfl)) k0 bel lt0) (trodAll_cons_mk (Below.trod laidOut (by kernel_rfl) (of_decide_eq_true (by kernel_rfl)) k1 bel lt1) (trodAll_cons_mk (Below.trod laidOut (by kernel_rfl) (of_decide_eq_true (by kernel_rfl)) k2 bel lt2) (trodAll_cons_mk (shut_int Tryd.underlying61 w3) trodAll_mk0)))), rfl, bel.frame _, fun h => by cases h⟩
theorem slotOrder_said : Rows.SlotOrderSaid :=
  OpenClaim.holds_of_wide 7 Tryd.f7 rfl rfl rfl rfl rfl rfl rfl ⟨rfl, rfl, rfl, rfl, rfl⟩ rfl rfl rfl rfl rfl (by kernel_rfl) Tryd.func7 (by kernel_rfl)
    (of_decide_eq_true (by kernel_rfl)) (by unfold Func.isWrapper; first | (rw [if_pos (by decide +kernel)]; kernel_rfl) | (rw [if_neg (by decide +kernel)]; exact ⟨rfl, rfl⟩))
    (fun os started H enc _ => slotOrder_lifted os started H enc)
theorem slotOrder_proved : Rows.SlotOrderCardSaid :=
  Claim7.holds_tied_plain_at .later [] [.data] true Rows.slotOrderCard.stood.harness Rows.slotOrderCard.stood.looks
    slotOrder_said (fun _ h => by cases h) (by kernel_rfl) (fun _ h => by cases h) slotOrder_row_tie rfl ⟨rfl, rfl⟩ (by kernel_rfl) rfl
    (fun f fn hf hfn => by
      obtain rfl : f = 7 := Option.some.inj ((show Tryd.prog.funcNamed "twistlock/twistlocklaw08.SlotOrder" = some 7 by kernel_rfl).symm.trans hf) |>.symm
      obtain rfl : fn = Tryd.f7 := (Option.some.inj (Tryd.func7.symm.trans hfn)).symm
      exact ⟨by kernel_rfl, fun j t ht => by
        rw [Tryd.params7] at ht
        have hm : t ∈ [34, 34, 34, 61] := by simpa using Array.mem_of_getElem? ht
        have hall : ([34, 34, 34, 61].all fun u => !Tryd.prog.wantsStandIn u) = true := by kernel_rfl
        exact (show Tryd.prog.wantsStandIn t = false by simpa using List.all_eq_true.1 hall t hm)⟩)
    (by kernel_rfl)
#print axioms slotOrder_proved
end Go.Proofs.YthpooalhibedpaaDoor
