import Derived.Test.YthpooalhibedpaaDoorG05
import Derived.Test.YthpooalhibedpaaDoorG01
import Derived.Test.YthpooalhibedpaaDoorG02
import Derived.JoinedCond
/- SlotHeldUpto: the law holds for every input; no condition but the row's own. -/
set_option linter.unusedVariables false
set_option linter.unusedSimpArgs false
set_option linter.unusedSectionVars false
/- The order of slots. -/
namespace Go.Proofs.YthpooalhibedpaaDoor
open Go Go.RowKit Tw
def fewS (m : Nat) : Slt := ⟨((m % 2 : Nat) : Int), ((m / 2 % 4 : Nat) : Int), m / 8 % 3⟩
structure Tri where
  a : Slt
  b : Slt
  c : Slt
def triC (t : Tri) : List Value := sltC t.a ++ (sltC t.b ++ sltC t.c)
theorem triC_len (t : Tri) : (triC t).length = 9 := rfl
theorem triC_one (t : Tri) : ∀ v ∈ triC t, v.oneCell' = true := fun v hv => by
  simp only [triC, List.mem_append] at hv
  rcases hv with hv | hv | hv
  · exact sltC_one _ v hv
  · exact sltC_one _ v hv
  · exact sltC_one _ v hv
theorem cmp_anti (a b : Slt) : cmpS a b = -cmpS b a := by
  rcases cmpS_cases a b with ⟨h, e⟩ | ⟨h, e⟩ | ⟨h, e⟩
  · rw [e, cmpS_gt h]
  · subst h; rw [cmpS_eq]; rfl
  · rw [e, cmpS_lt h]; rfl
theorem cmp_zero (a b : Slt) : cmpS a b = 0 ↔ eqS a b = true := by
  rw [eqS_iff]
  constructor
  · intro h0
    rcases cmpS_cases a b with ⟨h, e⟩ | ⟨h, e⟩ | ⟨h, e⟩
    · omega
    · exact h
    · omega
  · rintro rfl; exact cmpS_eq a
theorem cmp_tr {a b c : Slt} (h1 : cmpS a b < 0) (h2 : cmpS b c < 0) : cmpS a c < 0 := by
  rcases cmpS_cases a b with ⟨h, e⟩ | ⟨h, e⟩ | ⟨h, e⟩
  · rcases cmpS_cases b c with ⟨g, f⟩ | ⟨g, f⟩ | ⟨g, f⟩
    · rw [cmpS_lt (ltS_trans h g)]; omega
    · omega
    · omega
  · omega
  · omega
theorem cmp_rng (a b : Slt) : -1 ≤ cmpS a b ∧ cmpS a b ≤ 1 := by
  rcases cmpS_cases a b with ⟨h, e⟩ | ⟨h, e⟩ | ⟨h, e⟩ <;> omega
theorem ovl_comm (a b : Nat) : ovl a b = ovl b a := by
  unfold ovl
  rw [Bool.eq_iff_iff]
  simp only [Bool.or_eq_true, decide_eq_true_eq]
  omega
theorem meet_comm (a b : Slt) : meetS a b = meetS b a := by
  unfold meetS
  rw [ovl_comm, show decide (a.col = b.col) = decide (b.col = a.col) from by rw [decide_eq_decide]; exact eq_comm, show decide (a.tier = b.tier) = decide (b.tier = a.tier) from by rw [decide_eq_decide]; exact eq_comm]
theorem meet_self (a : Slt) : meetS a a = true := by simp [meetS, ovl]
theorem over_self (a : Slt) : overS a a = false := by simp [overS]
theorem over_iff {a b : Slt} : overS a b = true ↔ a.col = b.col ∧ b.tier < a.tier ∧ (a.half = b.half ∨ a.half = 0 ∨ b.half = 0) := by
  simp [overS, ovl]
theorem meet_iff {a b : Slt} : meetS a b = true ↔ a.col = b.col ∧ a.tier = b.tier ∧ (a.half = b.half ∨ a.half = 0 ∨ b.half = 0) := by
  simp [meetS, ovl]
theorem meet_over {a b : Slt} (h : meetS a b = true) (h2 : overS a b = true) : False := by
  have := meet_iff.1 h; have := over_iff.1 h2; omega
theorem over_anti {a b : Slt} (h : overS a b = true) (h2 : overS b a = true) : False := by
  have := over_iff.1 h; have := over_iff.1 h2; omega
theorem over_one {a b : Slt} (h : overS a b = true) : cmpS a b = 1 := by
  have := over_iff.1 h
  exact cmpS_gt (.inr ⟨this.1.symm, .inl this.2.1⟩)
theorem over_tr {a b c : Slt} (h : overS a b = true) (h2 : overS b c = true) (h3 : overS a c = false) : b.half = 0 ∧ a.half ≠ c.half ∧ a.half ≠ 0 ∧ c.half ≠ 0 := by
  have h := over_iff.1 h
  have h2 := over_iff.1 h2
  have h3 : ¬ (a.col = c.col ∧ c.tier < a.tier ∧ (a.half = c.half ∨ a.half = 0 ∨ c.half = 0)) := fun e => by rw [over_iff.2 e] at h3; cases h3
  omega
end Go.Proofs.YthpooalhibedpaaDoor
namespace Go.Proofs.YthpooalhibedpaaDoor
open Go Go.RowKit Tw
theorem un_neg {P : Program} {k : IntKind} {n z : Int} (h : -n = z) (hw : k.wrap z = z) (w : World) : (Op.unary .neg (.int k n) : Sem Value).run P w = .ok (.int k z) w := by
  subst h
  simp [Op.unary, Op.intArith, Int.zero_sub, hw]
theorem cel_part {W : World} {g : Nat} {cs ds : List Value} (h : ∀ (j : Nat) (v : Value), cs[j]? = some v → W.cell? ⟨g, 0 + j, none⟩ = some v) (off : Nat) (he : (cs.drop off).take ds.length = ds) : ∀ (j : Nat) (v : Value), ds[j]? = some v → W.cell? ⟨g, off + j, none⟩ = some v := fun j v hv => by
  have h1 : j < ds.length := (List.getElem?_eq_some_iff.1 hv).1
  have h2 : cs[off + j]? = some v := by
    rw [← he, List.getElem?_take_of_lt h1, List.getElem?_drop] at hv
    exact hv
  have := h (off + j) v h2
  rwa [Nat.zero_add] at this
theorem el_tri : Elem Tryd.prog 75 74 9 72 (.agg #[.int .i64 0, .int .i64 0, .int .u8 0, .int .i64 0, .int .i64 0, .int .u8 0, .int .i64 0, .int .i64 0, .int .u8 0]) := Elem.mk' Tryd.underlying75 (by kernel_rfl) rfl
set_option maxRecDepth 100000 in
set_option maxHeartbeats 4000000 in
theorem fewO_any (k n g : Nat) (hk : k ≤ 2) (hn : n ≤ 4294967295) (w : World) (h1 : CapR w g [.int .u32 ((n : Nat) : Int)]) : Calls Tryd.prog 35 #[.int .i64 ((k : Nat) : Int), .pointer (some ⟨g, 0, none⟩)] w fun e w' => e = .returned (.agg (sltC (fewS (n / 2 ^ (8 * k) % 256))).toArray) ∧ Below w.heap.size w w' := by
  have H1 := Lib.hid h1
  clear h1
  have hd := Nat.div_le_self n (2 ^ (8 * k))
  go_enter Tryd.func35, Tryd.ntmps35
  refine wp_seq ?_
  refine wp_region_L (W0 := w) [] (KS.start w) ?_
  refine wpL_new (fun g => .pointer (some ⟨g, 0, none⟩)) (obi := .cells #[.int .i64 0, .int .i64 0, .int .u8 0] 34 (0, 0)) rfl rfl (fun _ => by kernel_rfl) (fun _ => by simp only [List.setIfInBounds_toArray, List.set_cons_succ, List.set_cons_zero] <;> rfl) fun g21 Bg21 Fg21 => ?_
  refine wpL_done (fun W1 hW1 => ?_)
  refine (show Code.wp _ _ _ _ _ from ?_)
  refine wp_seq ?_
  refine wp_region_L (W0 := w) [(g21, .cells #[.int .i64 0, .int .i64 0, .int .u8 0] 34 (0, 0))] (hW1) ?_
  refine lv (v := .int .u32 ((n : Nat) : Int)) rfl rfl (yb_rf (v := .int .u32 ((n : Nat) : Int)) rfl (by kernel_rfl) (fun W hW => ((H1.out).keep hW.1).2 0 _ rfl) Tryd.underlying61 rfl) ?_
  refine lm (v := .int .i64 ((k : Nat) : Int)) rfl rfl ?_
  refine lp (v := .int .i64 (((8 * k) : Nat) : Int)) rfl rfl (run_bin rfl (vx := (.int .i64 ((8 : Nat) : Int))) (vy := (.int .i64 ((k : Nat) : Int))) (by kernel_rfl) (by kernel_rfl) fun w => bn_mul (z := (8 * k)) rfl (wr_i64 (by omega)) w) ?_
  refine lp (v := .int .u32 (((n / 2 ^ (8 * k)) : Nat) : Int)) rfl rfl (run_bin rfl (vx := (.int .u32 ((n : Nat) : Int))) (vy := (.int .i64 (((8 * k) : Nat) : Int))) (by kernel_rfl) (by kernel_rfl) fun w => bn_shr (z := (n / 2 ^ (8 * k))) rfl (by first | omega | decide | (simp only [IntKind.bits]; omega)) w) ?_
  refine lp (v := .int .u32 ((((n / 2 ^ (8 * k)) % 256) : Nat) : Int)) rfl rfl (run_bin rfl (vx := (.int .u32 (((n / 2 ^ (8 * k)) : Nat) : Int))) (vy := (.int .u32 ((255 : Nat) : Int))) (by kernel_rfl) (by kernel_rfl) fun w => bn_and (z := ((n / 2 ^ (8 * k)) % 256)) (Nat.and_two_pow_sub_one_eq_mod _ 8) (by rw [show IntKind.u32.bits = 32 from rfl]; exact Nat.lt_of_le_of_lt (Nat.div_le_self _ _) (by omega)) (by decide) (wr_u32 (by omega)) w) ?_
  refine lp (v := .int .i64 ((((n / 2 ^ (8 * k)) % 256) : Nat) : Int)) rfl rfl (run_conv rfl (vx := (.int .u32 ((((n / 2 ^ (8 * k)) % 256) : Nat) : Int))) (by kernel_rfl) fun w => cv_int Tryd.underlying61 Tryd.underlying3 (wr_i64 (by omega)) w) ?_
  refine lm (v := .int .i64 ((((n / 2 ^ (8 * k)) % 256) : Nat) : Int)) rfl rfl ?_
  refine wpL_done (fun W2 hW2 => ?_)
  refine (show Code.wp _ _ _ _ _ from ?_)
  refine wp_seq ?_
  refine wp_region_L (W0 := w) [(g21, .cells #[.int .i64 0, .int .i64 0, .int .u8 0] 34 (0, 0))] (hW2) ?_
  refine lm (v := .int .i64 ((((n / 2 ^ (8 * k)) % 256) : Nat) : Int)) rfl rfl ?_
  refine lp (v := .int .i64 (((((n / 2 ^ (8 * k)) % 256) % 2) : Nat) : Int)) rfl rfl (run_bin rfl (vx := (.int .i64 ((((n / 2 ^ (8 * k)) % 256) : Nat) : Int))) (vy := (.int .i64 ((2 : Nat) : Int))) (by kernel_rfl) (by kernel_rfl) fun w => bn_rem (z := (((n / 2 ^ (8 * k)) % 256) % 2)) rfl (by omega) w) ?_
  refine lm (v := .int .i64 ((((n / 2 ^ (8 * k)) % 256) : Nat) : Int)) rfl rfl ?_
  refine lp (v := .int .i64 (((((n / 2 ^ (8 * k)) % 256) / 2) : Nat) : Int)) rfl rfl (run_bin rfl (vx := (.int .i64 ((((n / 2 ^ (8 * k)) % 256) : Nat) : Int))) (vy := (.int .i64 ((2 : Nat) : Int))) (by kernel_rfl) (by kernel_rfl) fun w => bn_quo (z := (((n / 2 ^ (8 * k)) % 256) / 2)) rfl (by omega) (wr_i64 (by omega)) w) ?_
  refine lp (v := .int .i64 ((((((n / 2 ^ (8 * k)) % 256) / 2) % 4) : Nat) : Int)) rfl rfl (run_bin rfl (vx := (.int .i64 (((((n / 2 ^ (8 * k)) % 256) / 2) : Nat) : Int))) (vy := (.int .i64 ((4 : Nat) : Int))) (by kernel_rfl) (by kernel_rfl) fun w => bn_rem (z := ((((n / 2 ^ (8 * k)) % 256) / 2) % 4)) rfl (by omega) w) ?_
  refine lm (v := .int .i64 ((((n / 2 ^ (8 * k)) % 256) : Nat) : Int)) rfl rfl ?_
  refine lp (v := .int .i64 (((((n / 2 ^ (8 * k)) % 256) / 8) : Nat) : Int)) rfl rfl (run_bin rfl (vx := (.int .i64 ((((n / 2 ^ (8 * k)) % 256) : Nat) : Int))) (vy := (.int .i64 ((8 : Nat) : Int))) (by kernel_rfl) (by kernel_rfl) fun w => bn_quo (z := (((n / 2 ^ (8 * k)) % 256) / 8)) rfl (by omega) (wr_i64 (by omega)) w) ?_
  refine lp (v := .int .i64 ((((((n / 2 ^ (8 * k)) % 256) / 8) % 3) : Nat) : Int)) rfl rfl (run_bin rfl (vx := (.int .i64 (((((n / 2 ^ (8 * k)) % 256) / 8) : Nat) : Int))) (vy := (.int .i64 ((3 : Nat) : Int))) (by kernel_rfl) (by kernel_rfl) fun w => bn_rem (z := ((((n / 2 ^ (8 * k)) % 256) / 8) % 3)) rfl (by omega) w) ?_
  refine lp (v := .int .u8 ((((((n / 2 ^ (8 * k)) % 256) / 8) % 3) : Nat) : Int)) rfl rfl (run_conv rfl (vx := (.int .i64 ((((((n / 2 ^ (8 * k)) % 256) / 8) % 3) : Nat) : Int))) (by kernel_rfl) fun w => cv_int Tryd.underlying3 Tryd.underlying5 (wr_u8 (by omega)) w) ?_
  refine lm (v := .agg #[.int .i64 (((((n / 2 ^ (8 * k)) % 256) % 2) : Nat) : Int), .int .i64 ((((((n / 2 ^ (8 * k)) % 256) / 2) % 4) : Nat) : Int), .int .u8 ((((((n / 2 ^ (8 * k)) % 256) / 8) % 3) : Nat) : Int)]) rfl rfl ?_
  refine wpL_s [(g21, .cells #[.int .i64 (((((n / 2 ^ (8 * k)) % 256) % 2) : Nat) : Int), .int .i64 ((((((n / 2 ^ (8 * k)) % 256) / 2) % 4) : Nat) : Int), .int .u8 ((((((n / 2 ^ (8 * k)) % 256) / 8) % 3) : Nat) : Int)] 34 (0, 0))] rfl rfl (st_row (off := 0) (v := .agg #[.int .i64 (((((n / 2 ^ (8 * k)) % 256) % 2) : Nat) : Int), .int .i64 ((((((n / 2 ^ (8 * k)) % 256) / 2) % 4) : Nat) : Int), .int .u8 ((((((n / 2 ^ (8 * k)) % 256) / 8) % 3) : Nat) : Int)]) rfl (by kernel_rfl) (by kernel_rfl) (.head _) Bg21 (by kernel_rfl) (by first | (simp [Value.cells]; done) | exact Nat.le_of_ble_eq_true rfl) (by intro v hv; simp [Value.cells] at hv; first | (subst hv; rfl) | (rcases hv with rfl | rfl | rfl <;> rfl)) (by kernel_rfl) (List.forall_mem_cons.2 ⟨.inl rfl, (List.forall_mem_nil _)⟩)) ?_
  refine wpL_done (fun W3 hW3 => ?_)
  refine (show Code.wp _ _ _ _ _ from ?_)
  refine wp_ret ?_
  try simp only [inBlock_ret, then_ret]
  refine bodyPost_ret (v := .agg #[.int .i64 (((((n / 2 ^ (8 * k)) % 256) % 2) : Nat) : Int), .int .i64 ((((((n / 2 ^ (8 * k)) % 256) / 2) % 4) : Nat) : Int), .int .u8 ((((((n / 2 ^ (8 * k)) % 256) / 8) % 3) : Nat) : Int)]) ?_ rfl ?_
  · exact (res_cell (p := 3) rfl rfl (hW3.2 _ (.head _)) Tryd.underlying34 rfl (by kernel_rfl))
  · exact ⟨rfl, hW3.1⟩
end Go.Proofs.YthpooalhibedpaaDoor
/- What holds a slot of a few. -/
namespace Go.Proofs.YthpooalhibedpaaDoor
open Go Go.RowKit Tw
def fewL (l : List Nat) : List Slt := l.map fewS
def undB (x y : Slt) : Bool := overS x y && decide (y.tier = x.tier - 1)
def pairB (x y z : Slt) : Bool := decide (y.half = x.half) || (decide (x.half = 0) && (decide (y.half = 1) && decide (z.half = 2)))
def needB (x : Slt) (u : List Slt) : Bool := u.any fun y => u.any (pairB x y)
theorem fewL_len (l : List Nat) : (fewL l).length = l.length := List.length_map _
theorem fewS_in (m : Nat) : (0 ≤ (fewS m).tier ∧ (fewS m).tier ≤ 3) ∧ (fewS m).half ≤ 2 := by
  unfold fewS
  refine ⟨⟨?_, ?_⟩, ?_⟩ <;> simp only <;> omega
theorem fewS_ok (m : Nat) : sltOk (fewS m) := by
  unfold sltOk fewS
  refine ⟨⟨?_, ?_⟩, ⟨?_, ?_⟩, ?_⟩ <;> simp only <;> omega
theorem few_snoc {l : List Nat} {k n : Nat} (h : l[k]? = some n) : fewL (l.take (k + 1)) = fewL (l.take k) ++ [fewS n] := by
  obtain ⟨hk, rfl⟩ := List.getElem?_eq_some_iff.1 h
  unfold fewL
  rw [List.take_succ_eq_append_getElem hk, List.map_append]; rfl
theorem back_snoc {l : List Nat} {k n : Nat} (hk : k < l.length) (h : l[l.length - 1 - k]? = some n) : fewL (l.reverse.take (k + 1)) = fewL (l.reverse.take k) ++ [fewS n] :=
  few_snoc (by rw [List.getElem?_reverse hk]; exact h)
theorem und_yes {x : Slt} {l : List Slt} {y : Slt} (h : undB x y = true) : (l ++ [y]).filter (undB x) = l.filter (undB x) ++ [y] := by
  rw [List.filter_append, List.filter_cons_of_pos h, List.filter_nil]
theorem und_no {x : Slt} {l : List Slt} {y : Slt} (h : undB x y = false) : (l ++ [y]).filter (undB x) = l.filter (undB x) := by
  rw [List.filter_append, List.filter_cons_of_neg (by rw [h]; decide), List.filter_nil, List.append_nil]
theorem und_is {x y : Slt} (h1 : overS x y = true) (h2 : y.tier = x.tier - 1) : undB x y = true := by unfold undB; rw [h1, decide_eq_true h2]; rfl
theorem und_not1 {x y : Slt} (h1 : overS x y = false) : undB x y = false := by unfold undB; rw [h1]; rfl
theorem und_not2 {x y : Slt} (h2 : ¬ y.tier = x.tier - 1) : undB x y = false := by unfold undB; rw [decide_eq_false h2, Bool.and_false]
theorem und_len (x : Slt) (l : List Slt) : (l.filter (undB x)).length ≤ l.length := List.length_filter_le _ _
theorem belowS_congr {x : Slt} {l m : List Slt} {h : Nat} (he : (⟨x.col, x.tier - 1, h⟩ : Slt) ∈ l ↔ (⟨x.col, x.tier - 1, h⟩ : Slt) ∈ m) : belowS x l h = belowS x m h := by
  rw [Bool.eq_iff_iff, belowS_iff, belowS_iff]; exact he
theorem held_mem {x : Slt} {l m : List Slt} (he : ∀ y, y ∈ l ↔ y ∈ m) : heldS x l = heldS x m := by
  unfold heldS
  rw [belowS_congr (he _), belowS_congr (he _), belowS_congr (he _)]
theorem held_back (x : Slt) (l : List Nat) : heldS x (fewL l.reverse) = heldS x (fewL l) :=
  held_mem fun y => by unfold fewL; rw [List.map_reverse, List.mem_reverse]
theorem held_under (x : Slt) (l : List Slt) : heldS x (l.filter (undB x)) = heldS x l := by
  have key : ∀ h : Nat, (h = x.half ∨ x.half = 0) → belowS x (l.filter (undB x)) h = belowS x l h := fun h hh => belowS_congr (by
    rw [List.mem_filter]
    refine and_iff_left ?_
    unfold undB
    rw [Bool.and_eq_true, over_iff]
    refine ⟨⟨rfl, by show x.tier - 1 < x.tier; omega, ?_⟩, decide_eq_true rfl⟩
    rcases hh with rfl | h0
    · exact .inl rfl
    · exact .inr (.inl h0))
  unfold heldS
  rw [key _ (.inl rfl)]
  by_cases h0 : x.half = 0
  · rw [key 1 (.inr h0), key 2 (.inr h0)]
  · rw [decide_eq_false h0, Bool.false_and, Bool.false_and]
theorem held_more {x z : Slt} {l : List Slt} (h : heldS x l = true) : heldS x (l ++ [z]) = true := by
  have key : ∀ h : Nat, belowS x l h = true → belowS x (l ++ [z]) h = true := fun h hh => by
    rw [belowS_iff] at hh ⊢
    exact List.mem_append_left _ hh
  unfold heldS at *
  simp only [Bool.or_eq_true, Bool.and_eq_true] at *
  rcases h with h | h | ⟨h1, h2, h3⟩
  · exact .inl h
  · exact .inr (.inl (key _ h))
  · exact .inr (.inr ⟨h1, key _ h2, key _ h3⟩)
theorem held_low {x : Slt} {l : List Slt} (h : x.tier = 0) : heldS x l = true := by
  unfold heldS
  rw [decide_eq_true (by omega)]; rfl
theorem und_col {x y : Slt} {l : List Slt} (h : y ∈ l.filter (undB x)) : y = ⟨x.col, x.tier - 1, y.half⟩ ∧ y ∈ l := by
  obtain ⟨h1, h2⟩ := List.mem_filter.1 h
  unfold undB at h2
  rw [Bool.and_eq_true, over_iff, decide_eq_true_eq] at h2
  obtain ⟨⟨h3, _⟩, h4⟩ := h2
  obtain ⟨c, t, f⟩ := y
  simp only at h3 h4
  subst h3 h4
  exact ⟨rfl, h1⟩
theorem und_of {x : Slt} {l : List Slt} {h : Nat} (hh : h = x.half ∨ x.half = 0) (hm : (⟨x.col, x.tier - 1, h⟩ : Slt) ∈ l) : (⟨x.col, x.tier - 1, h⟩ : Slt) ∈ l.filter (undB x) := by
  refine List.mem_filter.2 ⟨hm, ?_⟩
  unfold undB
  rw [Bool.and_eq_true, over_iff]
  refine ⟨⟨rfl, by show x.tier - 1 < x.tier; omega, ?_⟩, decide_eq_true rfl⟩
  rcases hh with rfl | h0
  · exact .inl rfl
  · exact .inr (.inl h0)
theorem pair_iff {x y z : Slt} : pairB x y z = true ↔ y.half = x.half ∨ (x.half = 0 ∧ y.half = 1 ∧ z.half = 2) := by
  unfold pairB
  simp only [Bool.or_eq_true, Bool.and_eq_true, decide_eq_true_eq]
theorem need_iff {x : Slt} {u : List Slt} : needB x u = true ↔ ∃ y ∈ u, ∃ z ∈ u, pairB x y z = true := by
  unfold needB
  simp only [List.any_eq_true]
theorem held_need {x : Slt} {l : List Slt} (ht : 0 < x.tier) : heldS x l = needB x (l.filter (undB x)) := by
  rw [Bool.eq_iff_iff, need_iff]
  unfold heldS
  rw [decide_eq_false (by omega), Bool.false_or, Bool.or_eq_true, Bool.and_eq_true, Bool.and_eq_true, decide_eq_true_eq, belowS_iff, belowS_iff, belowS_iff]
  constructor
  · rintro (h | ⟨h0, h1, h2⟩)
    · exact ⟨_, und_of (.inl rfl) h, _, und_of (.inl rfl) h, pair_iff.2 (.inl rfl)⟩
    · exact ⟨_, und_of (.inr h0) h1, _, und_of (.inr h0) h2, pair_iff.2 (.inr ⟨h0, rfl, rfl⟩)⟩
  · rintro ⟨y, hy, z, hz, hp⟩
    obtain ⟨e1, m1⟩ := und_col hy
    obtain ⟨e2, m2⟩ := und_col hz
    rcases pair_iff.1 hp with h | ⟨h0, h1, h2⟩
    · rw [h] at e1; exact .inl (e1 ▸ m1)
    · rw [h1] at e1; rw [h2] at e2
      exact .inr ⟨h0, e1 ▸ m1, e2 ▸ m2⟩
theorem any_snoc {α : Type} {l : List α} {k : Nat} {y : α} {p : α → Bool} (h : l[k]? = some y) : (l.take (k + 1)).any p = ((l.take k).any p || p y) := by
  obtain ⟨hk, rfl⟩ := List.getElem?_eq_some_iff.1 h
  rw [List.take_succ_eq_append_getElem hk, List.any_append]
  simp
end Go.Proofs.YthpooalhibedpaaDoor
namespace Go.Proofs.YthpooalhibedpaaDoor
open Go Go.RowKit Tw
section
variable {P : Program} {md : Region.Mode} {ops : Array Oper} {Q : Exit → Act → World → Prop} {W0 : Base}
def storesWaitD (md : Region.Mode) (ops : Array Oper) (i : Nat) : Bool :=
  (List.range ops.size).all fun j => match ops[j]? with
    | some o => !isStore o || waits md ops 9 j i
    | none => true
theorem storesWaitD_spec {i : Nat} (h : storesWaitD md ops i = true) (j : Nat) (o : Oper) (ho : ops[j]? = some o) (hs : isStore o = true) : ∃ m, waits md ops m j i = true := by
  unfold storesWaitD at h
  rw [List.all_eq_true] at h
  have h1 := h j (List.mem_range.2 (Array.getElem?_eq_some_iff.1 ho).1)
  simp only [ho, hs, Bool.not_true, Bool.false_or] at h1
  exact ⟨9, h1⟩
theorem vvd {i : Nat} {oi : Oper} {v : Value} {d n : Nat} {listed : Array Bool} {tm : Array Value} {df : List Deferred} {K : List (Nat × Obj)} {T : Array Value} (hi : ops[i]? = some oi) (hd : oi.dst = some d) (hw : Region.wanted oi (yielded ops tm) = true)
    (hy : ∀ w, KS W0 K w → ∀ K' : Act → World → Prop, (∀ w', Below w.heap.size w w' → K' (Act.put ⟨tm, df⟩ oi.dst v) w') → Oper.wp P oi ⟨tm, df⟩ w K' (fun _ _ _ => False))
    (h : wpV P md ops Q W0 n (listed.setIfInBounds i true) ⟨T, df⟩ K) (hlt : Nat.blt d tm.size = true := by kernel_rfl) (hf : freeP md ops listed i = true := by kernel_rfl) (hs : storesWaitD md ops i = true := by kernel_rfl) (hT : tm.setIfInBounds d v = T := by simp only [List.setIfInBounds_toArray, List.set_cons_succ, List.set_cons_zero] <;> rfl) : wpV P md ops Q W0 (n + 1) listed ⟨tm, df⟩ K := by
  unfold freeP at hf
  simp only [Bool.and_eq_true] at hf
  obtain ⟨h1, h2, h3, h4⟩ := hf
  refine wpV_first hi (Region.noSelect_spec h1) n listed ⟨tm, df⟩ K (closed_of h4) (Region.free_spec hi h2) (by simpa using h3)
    (.inr ⟨.inl ⟨hw, fun w hk => Oto.of_wp hd (Nat.le_of_ble_eq_true hlt) (hy w hk)⟩, storesWaitD_spec hs⟩) ?_
  rw [hd]
  subst hT
  exact h
theorem vnp {i : Nat} {oi : Oper} {d n : Nat} {listed : Array Bool} {tm : Array Value} {df : List Deferred} {K : List (Nat × Obj)} {T : Array Value} (hi : ops[i]? = some oi) (hd : oi.dst = some d)
    (h : wpV P md ops Q W0 n (listed.setIfInBounds i true) ⟨T, df⟩ K) (hf : freeP md ops listed i = true := by kernel_rfl) (hw : Region.wanted oi (yielded ops tm) = false := by kernel_rfl) (hT : tm.setIfInBounds d undef = T := by simp only [List.setIfInBounds_toArray, List.set_cons_succ, List.set_cons_zero] <;> rfl) : wpV P md ops Q W0 (n + 1) listed ⟨tm, df⟩ K := by
  unfold freeP at hf
  simp only [Bool.and_eq_true] at hf
  obtain ⟨h1, h2, h3, h4⟩ := hf
  refine wpV_first hi (Region.noSelect_spec h1) n listed ⟨tm, df⟩ K (closed_of h4) (Region.free_spec hi h2) (by simpa using h3)
    (.inl fun _ => .inr ⟨hw, rfl⟩) ?_
  rw [hd]
  subst hT
  exact h
end
set_option maxRecDepth 100000 in
set_option maxHeartbeats 4000000 in
theorem fewH_any (k : Nat) (hk : k ≤ 65535) (w : World) : Calls Tryd.prog 36 #[.int .i64 ((k : Nat) : Int)] w fun e w' => e = .returned (.agg (sltC (fewS k)).toArray) ∧ Below w.heap.size w w' := by
  go_enter Tryd.func36, Tryd.ntmps36
  refine wp_seq ?_
  refine wp_region_L (W0 := w) [] (KS.start w) ?_
  refine wpL_new (fun g => .pointer (some ⟨g, 0, none⟩)) (obi := .cells #[.int .i64 0, .int .i64 0, .int .u8 0] 34 (0, 0)) rfl rfl (fun _ => by kernel_rfl) (fun _ => by simp only [List.setIfInBounds_toArray, List.set_cons_succ, List.set_cons_zero] <;> rfl) fun g1 Bg1 Fg1 => ?_
  refine wpL_done (fun W1 hW1 => ?_)
  refine (show Code.wp _ _ _ _ _ from ?_)
  refine wp_seq ?_
  refine wp_region_L (W0 := w) [(g1, .cells #[.int .i64 0, .int .i64 0, .int .u8 0] 34 (0, 0))] (hW1) ?_
  refine lm (v := .int .i64 ((k : Nat) : Int)) rfl rfl ?_
  refine lp (v := .int .i64 (((k % 2) : Nat) : Int)) rfl rfl (run_bin rfl (vx := (.int .i64 ((k : Nat) : Int))) (vy := (.int .i64 ((2 : Nat) : Int))) (by kernel_rfl) (by kernel_rfl) fun w => bn_rem (z := (k % 2)) rfl (by omega) w) ?_
  refine lm (v := .int .i64 ((k : Nat) : Int)) rfl rfl ?_
  refine lp (v := .int .i64 (((k / 2) : Nat) : Int)) rfl rfl (run_bin rfl (vx := (.int .i64 ((k : Nat) : Int))) (vy := (.int .i64 ((2 : Nat) : Int))) (by kernel_rfl) (by kernel_rfl) fun w => bn_quo (z := (k / 2)) rfl (by omega) (wr_i64 (by omega)) w) ?_
  refine lp (v := .int .i64 ((((k / 2) % 4) : Nat) : Int)) rfl rfl (run_bin rfl (vx := (.int .i64 (((k / 2) : Nat) : Int))) (vy := (.int .i64 ((4 : Nat) : Int))) (by kernel_rfl) (by kernel_rfl) fun w => bn_rem (z := ((k / 2) % 4)) rfl (by omega) w) ?_
  refine lm (v := .int .i64 ((k : Nat) : Int)) rfl rfl ?_
  refine lp (v := .int .i64 (((k / 8) : Nat) : Int)) rfl rfl (run_bin rfl (vx := (.int .i64 ((k : Nat) : Int))) (vy := (.int .i64 ((8 : Nat) : Int))) (by kernel_rfl) (by kernel_rfl) fun w => bn_quo (z := (k / 8)) rfl (by omega) (wr_i64 (by omega)) w) ?_
  refine lp (v := .int .i64 ((((k / 8) % 3) : Nat) : Int)) rfl rfl (run_bin rfl (vx := (.int .i64 (((k / 8) : Nat) : Int))) (vy := (.int .i64 ((3 : Nat) : Int))) (by kernel_rfl) (by kernel_rfl) fun w => bn_rem (z := ((k / 8) % 3)) rfl (by omega) w) ?_
  refine lp (v := .int .u8 ((((k / 8) % 3) : Nat) : Int)) rfl rfl (run_conv rfl (vx := (.int .i64 ((((k / 8) % 3) : Nat) : Int))) (by kernel_rfl) fun w => cv_int Tryd.underlying3 Tryd.underlying5 (wr_u8 (by omega)) w) ?_
  refine lm (v := .agg #[.int .i64 (((k % 2) : Nat) : Int), .int .i64 ((((k / 2) % 4) : Nat) : Int), .int .u8 ((((k / 8) % 3) : Nat) : Int)]) rfl rfl ?_
  refine wpL_s [(g1, .cells #[.int .i64 (((k % 2) : Nat) : Int), .int .i64 ((((k / 2) % 4) : Nat) : Int), .int .u8 ((((k / 8) % 3) : Nat) : Int)] 34 (0, 0))] rfl rfl (st_row (off := 0) (v := .agg #[.int .i64 (((k % 2) : Nat) : Int), .int .i64 ((((k / 2) % 4) : Nat) : Int), .int .u8 ((((k / 8) % 3) : Nat) : Int)]) rfl (by kernel_rfl) (by kernel_rfl) (.head _) Bg1 (by kernel_rfl) (by first | (simp [Value.cells]; done) | exact Nat.le_of_ble_eq_true rfl) (by intro v hv; simp [Value.cells] at hv; first | (subst hv; rfl) | (rcases hv with rfl | rfl | rfl <;> rfl)) (by kernel_rfl) (List.forall_mem_cons.2 ⟨.inl rfl, (List.forall_mem_nil _)⟩)) ?_
  refine wpL_done (fun W2 hW2 => ?_)
  refine (show Code.wp _ _ _ _ _ from ?_)
  refine wp_ret ?_
  try simp only [inBlock_ret, then_ret]
  refine bodyPost_ret (v := .agg #[.int .i64 (((k % 2) : Nat) : Int), .int .i64 ((((k / 2) % 4) : Nat) : Int), .int .u8 ((((k / 8) % 3) : Nat) : Int)]) ?_ rfl ?_
  · exact (res_cell (p := 2) rfl rfl (hW2.2 _ (.head _)) Tryd.underlying34 rfl (by kernel_rfl))
  · exact ⟨rfl, hW2.1⟩
end Go.Proofs.YthpooalhibedpaaDoor
namespace Go.Proofs.YthpooalhibedpaaDoor
open Go Go.RowKit Tw
set_option maxRecDepth 100000 in
set_option maxHeartbeats 4000000 in
theorem SlotHeld_any (n m : Nat) (hn : n ≤ 65535) (hm : m ≤ 255) (l : List Nat) (p : Option Addr) (c : Nat) (hl : l.length ≤ 1048576) (hl8 : ∀ x ∈ l, x ≤ 255) (w : World) (hp : SLV w p (l.flatMap u8C)) (hE : Env w) : Calls Tryd.prog 8 #[.int .u16 ((n : Nat) : Int), .slice p l.length c, .int .u8 ((m : Nat) : Int)] w fun e w' => e = .returned (.bool true) ∧ Below w.heap.size w w' := by
  have HE := Lib.hid hE
  clear hE
  have HP := Lib.hid hp
  clear hp
  obtain ⟨⟨hx1, hx2⟩, hx3⟩ := fewS_in n
  go_enter Tryd.func8, Tryd.ntmps8
  refine wp_seq ?_
  refine wp_region_L (W0 := w) [] (KS.start w) ?_
  refine lm (v := .bool false) rfl rfl ?_
  refine wpL_done (fun W1 hW1 => ?_)
  refine (show Code.wp _ _ _ _ _ from ?_)
  refine wp_seq ?_
  refine wp_region_L (W0 := w) [] (hW1) ?_
  refine lm (v := .func (.func 36) #[] #[]) rfl rfl ?_
  refine wpL_done (fun W2 hW2 => ?_)
  refine (show Code.wp _ _ _ _ _ from ?_)
  refine wp_seq ?_
  refine wp_region_L (W0 := w) [] (hW2) ?_
  refine lm (v := .func (.func 36) #[] #[]) rfl rfl ?_
  refine lm (v := .int .u16 ((n : Nat) : Int)) rfl rfl ?_
  refine lp (v := .int .i64 ((n : Nat) : Int)) rfl rfl (run_conv rfl (vx := (.int .u16 ((n : Nat) : Int))) (by kernel_rfl) fun w => cv_int Tryd.underlying77 Tryd.underlying3 (wr_i64 (by omega)) w) ?_
  refine lv (v := .agg (sltC (fewS n)).toArray) rfl rfl (yb_call (f := 36) (args := #[.int .i64 ((n : Nat) : Int)]) (fun _ => by kernel_rfl) fun W hW => fewH_any n (by omega) W) ?_
  refine wpL_new (fun g => .pointer (some ⟨g, 0, none⟩)) (obi := .cells #[.int .i64 0, .int .i64 0, .int .u8 0] 34 (0, 0)) rfl rfl (fun _ => by kernel_rfl) (fun _ => by simp only [List.setIfInBounds_toArray, List.set_cons_succ, List.set_cons_zero] <;> rfl) fun g1 Bg1 Fg1 => ?_
  refine wpL_s [(g1, .cells (sltC (fewS n)).toArray 34 (0, 0))] rfl rfl (st_row (off := 0) (v := .agg (sltC (fewS n)).toArray) rfl (by kernel_rfl) (by kernel_rfl) (.head _) Bg1 (by kernel_rfl) (by first | (simp [Value.cells]; done) | exact Nat.le_of_ble_eq_true rfl) (fun v hv => sltC_one (fewS n) v hv) (by kernel_rfl) (List.forall_mem_cons.2 ⟨.inl rfl, (List.forall_mem_nil _)⟩)) ?_
  refine wpL_done (fun W3 hW3 => ?_)
  refine (show Code.wp _ _ _ _ _ from ?_)
  refine wp_seq ?_
  have HG8 := Lib.hid (CapR.of (cs := sltC (fewS n)) hW3 (.head _))
  have hb8 := hW3.1
  have HP8 := Lib.hid (HP.out.keep hb8)
  refine wp_region_L (W0 := W3) [] ((KS.start W3)) ?_
  refine lm (v := .slice none 0 0) rfl rfl ?_
  refine lm (v := .slice none 0 0) rfl rfl ?_
  refine lm (v := .slice none 0 0) rfl rfl ?_
  refine wpL_done (fun W4 hW4 => ?_)
  refine (show Code.wp _ _ _ _ _ from ?_)
  refine wp_seq ?_
  refine wp_seq ?_
  refine wp_region_L (W0 := W3) [] (hW4) ?_
  refine lm (v := .slice p l.length c) rfl rfl ?_
  refine lp (v := .int .i64 ((l.length : Nat) : Int)) rfl rfl (run_lenL (p := p) (cap := c) (n := l.length) rfl Tryd.underlying78 (by kernel_rfl)) ?_
  refine lm (v := .int .i64 0) rfl rfl ?_
  refine wpL_done (fun W5 hW5 => ?_)
  refine (show Code.wp _ _ _ _ _ from ?_)
  refine wp_block ?_
  go_loopw [26, 9, 10, 11] (fun u26 u9 u10 u11 wr => ∃ (k : Nat) (va vb vu : Value) (Ka Kb Ku : List (Nat × Obj)), (k ≤ l.length) ∧ (OwnL W3 34 3 va k ((fewL (l.take k)).flatMap sltC) Ka) ∧ (OwnL W3 34 3 vb k ((fewL (l.reverse.take k)).flatMap sltC) Kb) ∧ (OwnL W3 34 3 vu ((fewL (l.take k)).filter (undB (fewS n))).length (((fewL (l.take k)).filter (undB (fewS n))).flatMap sltC) Ku) ∧ (Dj Ka Kb) ∧ (Dj Ka Ku) ∧ (Dj Kb Ku) ∧ u26 = .int .i64 ((k : Nat) : Int) ∧ va = u9 ∧ vb = u10 ∧ vu = u11 ∧ KS W3 (Ka ++ (Kb ++ Ku)) wr) (fun u26 _ _ _ _ => l.length - (intOf u26).toNat)
  case atStart => exact ⟨0, (.slice none 0 0), (.slice none 0 0), (.slice none 0 0), [], [], [], (Nat.zero_le _), (OwnL.nil _ _ _), (OwnL.nil _ _ _), (OwnL.nil _ _ _), (show Dj [] [] from (by (try simp only [dj_app_l, dj_app_r, dj_cons_l, dj_cons_r, dj_nil_l, dj_nil_r, dk_app, dk_cons, dk_nil, and_true, true_and, and_assoc]); repeat' (first | trivial | assumption | exact Dj.symm (by assumption) | exact Ne.symm (by assumption) | apply And.intro))), (show Dj [] [] from (by (try simp only [dj_app_l, dj_app_r, dj_cons_l, dj_cons_r, dj_nil_l, dj_nil_r, dk_app, dk_cons, dk_nil, and_true, true_and, and_assoc]); repeat' (first | trivial | assumption | exact Dj.symm (by assumption) | exact Ne.symm (by assumption) | apply And.intro))), (show Dj [] [] from (by (try simp only [dj_app_l, dj_app_r, dj_cons_l, dj_cons_r, dj_nil_l, dj_nil_r, dk_app, dk_cons, dk_nil, and_true, true_and, and_assoc]); repeat' (first | trivial | assumption | exact Dj.symm (by assumption) | exact Ne.symm (by assumption) | apply And.intro))), rfl, rfl, rfl, rfl, (hW5.sub (fun p hp => by first | exact hp | (simp only [List.mem_cons, List.mem_append, List.nil_append, List.not_mem_nil, or_assoc, or_false, false_or] at hp ⊢ <;> grind)))⟩
  case round =>
    obtain ⟨k, va, vb, vu, Ka, Kb, Ku, hk, hOa, hOb, hOu, dh2_0, dh2_1, dh2_2, rfl, rfl, rfl, rfl, hL6⟩ := hrel
    have hul : ((fewL (l.take k)).filter (undB (fewS n))).length ≤ k := Nat.le_trans (und_len _ _) (by rw [fewL_len, List.length_take]; omega)
    refine wp_seq ?_
    refine wp_region_L (W0 := W3) (Ka ++ (Kb ++ Ku)) (hL6) ?_
    refine lp (v := .bool (decide (k < l.length))) rfl rfl (run_bin rfl (vx := (.int .i64 ((k : Nat) : Int))) (vy := (.int .i64 ((l.length : Nat) : Int))) (by kernel_rfl) (by kernel_rfl) fun w => bn_lss rfl w) ?_
    refine wpL_done (fun W7 hW7 => ?_)
    refine (show Code.wp _ _ _ _ _ from ?_)
    refine wp_seq ?_
    cases hd1 : (decide (k < l.length)) with
    | false =>
      have h1 : ¬ (k < l.length) := of_decide_eq_false hd1
      clear hd1
      refine wp_cond_false rfl ?_
      refine wp_exit ?_
      refine (show Code.wp _ _ _ _ _ from ?_)
      refine wp_seq ?_
      have hkl : k = l.length := by omega
      obtain ⟨u, hu⟩ : ∃ u, u = (fewL l).filter (undB (fewS n)) := ⟨_, rfl⟩
      have hHu : heldS (fewS n) u = heldS (fewS n) (fewL l) := by rw [hu]; exact held_under _ _
      have hul2 : u.length ≤ l.length := by rw [hu]; exact Nat.le_trans (und_len _ _) (by rw [fewL_len]; exact Nat.le_refl _)
      have hfl := fewL_len l
      have hfr : (fewL l.reverse).length = l.length := by rw [fewL_len, List.length_reverse]
      have hA : OwnL W3 34 3 va (fewL l).length ((fewL l).flatMap sltC) Ka := by have h9 := hOa; rw [hkl, List.take_length] at h9; rw [fewL_len]; exact h9
      have hB : OwnL W3 34 3 vb (fewL l.reverse).length ((fewL l.reverse).flatMap sltC) Kb := by have h9 := hOb; rw [hkl, show l.reverse.take l.length = l.reverse from by rw [← List.length_reverse]; exact List.take_length] at h9; rw [hfr]; exact h9
      have hU : OwnL W3 34 3 vu u.length (u.flatMap sltC) Ku := by have h9 := hOu; rw [hkl, List.take_length] at h9; rw [hu]; exact h9
      obtain ⟨qA, dA, rfl, hdA, RA⟩ := own_rl hA
      obtain ⟨qB, dB, rfl, hdB, RB⟩ := own_rl hB
      obtain ⟨qU, dU, rfl, hdU, RU⟩ := own_rl hU
      refine wp_region_L (W0 := W3) (Ka ++ (Kb ++ Ku)) (hW7) ?_
      refine lv (v := .agg (sltC (fewS n)).toArray) rfl rfl (yb_rs (off := 0) (cs := _) rfl (by kernel_rfl) (fun W hW => ((HG8.out).keep hW.1).2) Tryd.underlying34 rfl (by kernel_rfl)) ?_
      refine lm (v := .slice qA (fewL l).length dA) rfl rfl ?_
      refine lv (v := .bool (heldS (fewS n) (fewL l))) rfl rfl (yb_call (f := 25) (args := #[.agg (sltC (fewS n)).toArray, .slice qA (fewL l).length dA]) (fun _ => by kernel_rfl) fun W hW => Held_any (fewS n) (fewL l) qA dA (by first | omega | (rw [List.length_append, List.length_singleton]; omega)) (fewS_ok n).2.1 W (RA _ (hW.sub (fun p hp => by simp only [List.mem_cons, List.mem_append, List.nil_append, List.not_mem_nil, or_assoc, or_false, false_or, hp, true_or, or_true])))) ?_
      refine lm (v := .bool (heldS (fewS n) (fewL l))) rfl rfl ?_
      refine wpL_done (fun W8 hW8 => ?_)
      refine (show Code.wp _ _ _ _ _ from ?_)
      refine wp_seq ?_
      refine wp_seq ?_
      refine wp_region_V (W0 := W3) (Ka ++ (Kb ++ Ku)) (by kernel_rfl) (hW8) ?_
      refine vb (i := 0) (v := .agg (sltC (fewS n)).toArray) rfl rfl rfl (yb_rs (off := 0) (cs := _) rfl (by kernel_rfl) (fun W hW => ((HG8.out).keep hW.1).2) Tryd.underlying34 rfl (by kernel_rfl)) ?_
      refine vm (i := 1) (v := .slice qB ((fewL l.reverse).length) dB) rfl rfl rfl ?_
      refine vvd (i := 2) (v := .bool (heldS (fewS n) (fewL l))) rfl rfl rfl (yb_call (f := 25) (args := #[.agg (sltC (fewS n)).toArray, .slice qB ((fewL l.reverse).length) dB]) (fun _ => by kernel_rfl) fun W hW => (by have h9 := Held_any (fewS n) (fewL l.reverse) qB dB (by first | omega | (rw [List.length_append, List.length_singleton]; omega)) (fewS_ok n).2.1 W (RB _ (hW.sub (fun p hp => by simp only [List.mem_cons, List.mem_append, List.nil_append, List.not_mem_nil, or_assoc, or_false, false_or, hp, true_or, or_true]))); rw [held_back] at h9; exact h9)) ?_
      refine vm (i := 3) (v := .bool (heldS (fewS n) (fewL l))) rfl rfl rfl ?_
      refine vp (i := 4) (v := .bool false) rfl rfl rfl (run_bin rfl (vx := .bool (heldS (fewS n) (fewL l))) (vy := .bool (heldS (fewS n) (fewL l))) (by kernel_rfl) (by kernel_rfl) fun w => bn_bool_neq (b := true) (beq_self_eq_true _) Tryd.underlying4 w) ?_
      refine vm (i := 5) (v := .bool false) rfl rfl rfl ?_
      refine vb (i := 6) (v := .agg (sltC (fewS n)).toArray) rfl rfl rfl (yb_rs (off := 0) (cs := _) rfl (by kernel_rfl) (fun W hW => ((HG8.out).keep hW.1).2) Tryd.underlying34 rfl (by kernel_rfl)) ?_
      refine vm (i := 7) (v := .slice qU u.length dU) rfl rfl rfl ?_
      refine vvd (i := 8) (v := .bool (heldS (fewS n) (fewL l))) rfl rfl rfl (yb_call (f := 25) (args := #[.agg (sltC (fewS n)).toArray, .slice qU u.length dU]) (fun _ => by kernel_rfl) fun W hW => (by have h9 := Held_any (fewS n) u qU dU (by first | omega | (rw [List.length_append, List.length_singleton]; omega)) (fewS_ok n).2.1 W (RU _ (hW.sub (fun p hp => by simp only [List.mem_cons, List.mem_append, List.nil_append, List.not_mem_nil, or_assoc, or_false, false_or, hp, true_or, or_true]))); rw [hHu] at h9; exact h9)) ?_
      refine vm (i := 9) (v := .bool (heldS (fewS n) (fewL l))) rfl rfl rfl ?_
      refine vp (i := 10) (v := .bool false) rfl rfl rfl (run_bin rfl (vx := .bool (heldS (fewS n) (fewL l))) (vy := .bool (heldS (fewS n) (fewL l))) (by kernel_rfl) (by kernel_rfl) fun w => bn_bool_neq (b := true) (beq_self_eq_true _) Tryd.underlying4 w) ?_
      refine vm (i := 11) (v := .bool false) rfl rfl rfl ?_
      refine vm (i := 12) (v := .bool false) rfl rfl rfl ?_
      refine vm (i := 13) (v := .bool (heldS (fewS n) (fewL l))) rfl rfl rfl ?_
      refine vm (i := 14) (v := .bool (heldS (fewS n) (fewL l))) rfl rfl rfl ?_
      cases h2 : (heldS (fewS n) (fewL l)) with
      | false =>
        refine vnp (i := 15) rfl rfl ?_
        refine vnp (i := 16) rfl rfl ?_
        refine vnp (i := 17) rfl rfl ?_
        refine vnp (i := 18) rfl rfl ?_
        refine vnp (i := 19) rfl rfl ?_
        refine vnp (i := 20) rfl rfl ?_
        refine vnp (i := 21) rfl rfl ?_
        refine vnp (i := 22) rfl rfl ?_
        refine vnp (i := 23) rfl rfl ?_
        refine vnp (i := 24) rfl rfl ?_
        refine vm (i := 25) (v := .bool false) rfl rfl rfl ?_
        refine vm (i := 26) (v := .bool false) rfl rfl rfl ?_
        refine wpV_done (by kernel_rfl) (fun W9 hW9 => ?_) _
        refine (show Code.wp _ _ _ _ _ from ?_)
        refine wp_cond_false rfl ?_
        refine wp_skip ?_
        refine (show Code.wp _ _ _ _ _ from ?_)
        refine wp_seq ?_
        refine wp_seq ?_
        refine wp_region_L (W0 := W3) (Ka ++ (Kb ++ Ku)) (hW9) ?_
        refine lm (v := .pointer (some ⟨g1, 1, none⟩)) rfl rfl ?_
        refine lv (v := .int .i64 ((fewS n).tier)) rfl rfl (yb_rf (v := .int .i64 ((fewS n).tier)) rfl (by kernel_rfl) (fun W hW => ((HG8.out).keep hW.1).2 1 _ rfl) Tryd.underlying3 rfl) ?_
        refine lp (v := .bool (decide (((fewS n).tier) = 0))) rfl rfl (run_bin rfl (vx := (.int .i64 ((fewS n).tier))) (vy := (.int .i64 0)) (by kernel_rfl) (by kernel_rfl) fun w => bi_eql rfl w) ?_
        refine wpL_done (fun W10 hW10 => ?_)
        refine (show Code.wp _ _ _ _ _ from ?_)
        cases hd3 : (decide (((fewS n).tier) = 0)) with
        | false =>
          have h3 : ¬ (((fewS n).tier) = 0) := of_decide_eq_false hd3
          clear hd3
          refine wp_cond_false rfl ?_
          refine wp_skip ?_
          refine (show Code.wp _ _ _ _ _ from ?_)
          refine wp_seq ?_
          refine wp_region_L (W0 := W3) (Ka ++ (Kb ++ Ku)) (hW10) ?_
          refine lm (v := .bool false) rfl rfl ?_
          refine wpL_done (fun W11 hW11 => ?_)
          refine (show Code.wp _ _ _ _ _ from ?_)
          refine wp_seq ?_
          refine wp_seq ?_
          refine wp_region_L (W0 := W3) (Ka ++ (Kb ++ Ku)) (hW11) ?_
          refine lm (v := .slice qU u.length dU) rfl rfl ?_
          refine lp (v := .int .i64 ((u.length : Nat) : Int)) rfl rfl (run_lenL (p := qU) (cap := dU) (n := u.length) rfl Tryd.underlying35 (by kernel_rfl)) ?_
          refine lm (v := .int .i64 0) rfl rfl ?_
          refine wpL_done (fun W12 hW12 => ?_)
          refine (show Code.wp _ _ _ _ _ from ?_)
          refine wp_block ?_
          go_loopw [109, 15] (fun u109 u15 wr => ∃ (i : Nat) (nd : Bool), (i ≤ u.length) ∧ (nd = (u.take i).any (fun y => u.any (pairB (fewS n) y))) ∧ u109 = .int .i64 ((i : Nat) : Int) ∧ u15 = .bool nd ∧ KS W3 (Ka ++ (Kb ++ Ku)) wr) (fun u109 _ _ => u.length - (intOf u109).toNat)
          case atStart => exact ⟨0, false, (Nat.zero_le _), rfl, rfl, rfl, (hW12.sub (fun p hp => by first | exact hp | (simp only [List.mem_cons, List.mem_append, List.nil_append, List.not_mem_nil, or_assoc, or_false, false_or] at hp ⊢ <;> grind)))⟩
          case round =>
            obtain ⟨i, nd, hi, hnd, rfl, rfl, hL13⟩ := hrel
            refine wp_seq ?_
            refine wp_region_L (W0 := W3) (Ka ++ (Kb ++ Ku)) (hL13) ?_
            refine lp (v := .bool (decide (i < u.length))) rfl rfl (run_bin rfl (vx := (.int .i64 ((i : Nat) : Int))) (vy := (.int .i64 ((u.length : Nat) : Int))) (by kernel_rfl) (by kernel_rfl) fun w => bn_lss rfl w) ?_
            refine wpL_done (fun W14 hW14 => ?_)
            refine (show Code.wp _ _ _ _ _ from ?_)
            refine wp_seq ?_
            cases hd4 : (decide (i < u.length)) with
            | false =>
              have h4 : ¬ (i < u.length) := of_decide_eq_false hd4
              clear hd4
              refine wp_cond_false rfl ?_
              refine wp_exit ?_
              refine (show Code.wp _ _ _ _ _ from ?_)
              refine wp_seq ?_
              have hn1 : nd = needB (fewS n) u := by rw [hnd, show i = u.length from by omega, List.take_length]; rfl
              have hn2 : (heldS (fewS n) (fewL l)) = nd := by rw [hn1, hu]; exact held_need (by omega)
              rw [h2] at hn2
              refine wp_region_L (W0 := W3) (Ka ++ (Kb ++ Ku)) (hW14) ?_
              refine lm (v := .bool false) rfl rfl ?_
              refine lm (v := .bool nd) rfl rfl ?_
              refine lp (v := .bool (false == nd)) rfl rfl (run_bin rfl (vx := .bool false) (vy := .bool nd) (by kernel_rfl) (by kernel_rfl) fun w => bn_bool_eql rfl Tryd.underlying4 w) ?_
              refine lm (v := .bool (false == nd)) rfl rfl ?_
              cases h5 : (false == nd) with
              | false =>
                exact absurd (show (false == nd) = true from by rw [← hn2]; rfl) (by rw [h5]; decide)
              | true =>
                refine lv (v := .bool true) rfl rfl (yb_call (f := 11) (args := #[]) (fun _ => by kernel_rfl) fun W hW => awake8_any W (HE.out.keep (hb8.trans (hW.1.mono hb8.size)))) ?_
                refine lm (v := .bool true) rfl rfl ?_
                refine lm (v := .bool true) rfl rfl ?_
                refine wpL_done (fun W15 hW15 => ?_)
                refine (show Code.wp _ _ _ _ _ from ?_)
                refine wp_ret ?_
                try simp only [inBlock_ret, then_ret]
                refine bodyPost_ret (v := .bool true) ?_ rfl ?_
                · kernel_rfl
                · exact ⟨rfl, (hb8.trans (hW15.1.mono hb8.size))⟩
            | true =>
              have h4 : i < u.length := of_decide_eq_true hd4
              clear hd4
              refine wp_cond_true rfl ?_
              refine wp_skip ?_
              refine (show Code.wp _ _ _ _ _ from ?_)
              refine wp_seq ?_
              refine wp_block ?_
              refine wp_seq ?_
              refine wp_region_L (W0 := W3) (Ka ++ (Kb ++ Ku)) (hW14) ?_
              obtain ⟨y4, g4_, f4_, hy4, hp4, hc4⟩ := RL.at RU sltC_len (by decide) (hW14.sub (fun p hp => by simp only [List.mem_cons, List.mem_append, List.nil_append, List.not_mem_nil, or_assoc, or_false, false_or, hp, true_or, or_true])) (k := i) (by omega)
              refine lp (v := .pointer (some ⟨g4_, f4_ + i * 3, none⟩)) rfl rfl (run_idxQ (p := qU) (cap := dU) (n := u.length) (j := .i64) (k := i) (sz := 3) rfl Tryd.underlying35 (by kernel_rfl) (by kernel_rfl) hp4 (by kernel_rfl) (by omega)) ?_
              refine lv (v := .agg (sltC y4).toArray) rfl rfl (yb_rs (off := f4_ + i * 3) (cs := sltC y4) rfl (by kernel_rfl) (fun W hW => hc4 W (hW.sub (fun p hp => by simp only [List.mem_cons, List.mem_append, List.nil_append, List.not_mem_nil, or_assoc, or_false, false_or, hp, true_or, or_true]))) Tryd.underlying34 rfl (by kernel_rfl)) ?_
              refine wpL_new (fun g => .pointer (some ⟨g, 0, none⟩)) (obi := .cells #[.int .i64 0, .int .i64 0, .int .u8 0] 34 (0, 0)) rfl rfl (fun _ => by kernel_rfl) (fun _ => by simp only [List.setIfInBounds_toArray, List.set_cons_succ, List.set_cons_zero] <;> rfl) fun g5 Bg5 Fg5 => ?_
              obtain ⟨dj6_0, dj6_1, dj6_2⟩ : Dk g5 Ka ∧ Dk g5 Kb ∧ Dk g5 Ku := by simpa only [dj_app_l, dj_app_r, dj_cons_l, dj_cons_r, dj_nil_l, dj_nil_r, dk_app, dk_cons, dk_nil, and_true, true_and, and_assoc] using (show Dk g5 (Ka ++ (Kb ++ Ku)) from Fg5)
              refine wpL_s ((g5, .cells (sltC y4).toArray 34 (0, 0)) :: (Ka ++ (Kb ++ Ku))) rfl rfl (st_row (off := 0) (v := .agg (sltC y4).toArray) rfl (by kernel_rfl) (by kernel_rfl) (.head _) Bg5 (by kernel_rfl) (by first | (simp [Value.cells]; done) | exact Nat.le_of_ble_eq_true rfl) (fun v hv => sltC_one y4 v hv) (by kernel_rfl) (List.forall_mem_cons.2 ⟨.inl rfl, (fun p hp => .inr ⟨(.tail _ hp), ((show Dk g5 (Ka ++ (Kb ++ Ku)) from (by (try simp only [dj_app_l, dj_app_r, dj_cons_l, dj_cons_r, dj_nil_l, dj_nil_r, dk_app, dk_cons, dk_nil, and_true, true_and, and_assoc]); repeat' (first | trivial | assumption | exact Dj.symm (by assumption) | exact Ne.symm (by assumption) | apply And.intro))) _ hp)⟩)⟩)) ?_
              refine wpL_done (fun W16 hW16 => ?_)
              refine (show Code.wp _ _ _ _ _ from ?_)
              refine wp_seq ?_
              refine wp_region_L (W0 := W3) ((g5, .cells (sltC y4).toArray 34 (0, 0)) :: (Ka ++ (Kb ++ Ku))) (hW16) ?_
              refine lm (v := .slice qU u.length dU) rfl rfl ?_
              refine lp (v := .int .i64 ((u.length : Nat) : Int)) rfl rfl (run_lenL (p := qU) (cap := dU) (n := u.length) rfl Tryd.underlying35 (by kernel_rfl)) ?_
              refine lm (v := .int .i64 0) rfl rfl ?_
              refine wpL_done (fun W17 hW17 => ?_)
              refine (show Code.wp _ _ _ _ _ from ?_)
              refine wp_block ?_
              go_loopw [115, 15] (fun u115 u15 wr => ∃ (j : Nat) (nf : Bool), (j ≤ u.length) ∧ (nf = (nd || (u.take j).any (pairB (fewS n) y4))) ∧ u115 = .int .i64 ((j : Nat) : Int) ∧ u15 = .bool nf ∧ KS W3 ((g5, .cells (sltC y4).toArray 34 (0, 0)) :: (Ka ++ (Kb ++ Ku))) wr) (fun u115 _ _ => u.length - (intOf u115).toNat)
              case atStart => exact ⟨0, nd, (Nat.zero_le _), (by rw [List.take_zero, List.any_nil, Bool.or_false]), rfl, rfl, (hW17.sub (fun p hp => by first | exact hp | (simp only [List.mem_cons, List.mem_append, List.nil_append, List.not_mem_nil, or_assoc, or_false, false_or] at hp ⊢ <;> grind)))⟩
              case round =>
                obtain ⟨j, nf, hj, hnf, rfl, rfl, hL18⟩ := hrel
                refine wp_seq ?_
                refine wp_region_L (W0 := W3) ((g5, .cells (sltC y4).toArray 34 (0, 0)) :: (Ka ++ (Kb ++ Ku))) (hL18) ?_
                refine lp (v := .bool (decide (j < u.length))) rfl rfl (run_bin rfl (vx := (.int .i64 ((j : Nat) : Int))) (vy := (.int .i64 ((u.length : Nat) : Int))) (by kernel_rfl) (by kernel_rfl) fun w => bn_lss rfl w) ?_
                refine wpL_done (fun W19 hW19 => ?_)
                refine (show Code.wp _ _ _ _ _ from ?_)
                refine wp_seq ?_
                cases hd6 : (decide (j < u.length)) with
                | false =>
                  have h6 : ¬ (j < u.length) := of_decide_eq_false hd6
                  clear hd6
                  refine wp_cond_false rfl ?_
                  refine wp_exit ?_
                  refine (show Code.wp _ _ _ _ _ from ?_)
                  refine wp_region_L (W0 := W3) ((g5, .cells (sltC y4).toArray 34 (0, 0)) :: (Ka ++ (Kb ++ Ku))) (hW19) ?_
                  refine lp (v := .int .i64 (((i + 1) : Nat) : Int)) rfl rfl (run_bin rfl (vx := (.int .i64 ((i : Nat) : Int))) (vy := (.int .i64 ((1 : Nat) : Int))) (by kernel_rfl) (by kernel_rfl) fun w => bn_add (z := (i + 1)) rfl (wr_i64 (by omega)) w) ?_
                  refine lm (v := .int .i64 (((i + 1) : Nat) : Int)) rfl rfl ?_
                  refine wpL_done (fun W20 hW20 => ?_)
                  go_roundw
                  case rel =>
                    repeat apply Exists.intro
                    exact ⟨⟨i + 1, nf, (by omega), (by rw [any_snoc hy4, ← hnd, hnf, show j = u.length from by omega, List.take_length]), rfl, rfl, (hW20.sub (fun p hp => by first | exact hp | (simp only [List.mem_cons, List.mem_append, List.nil_append, List.not_mem_nil, or_assoc, or_false, false_or] at hp ⊢ <;> grind)))⟩, rfl⟩
                  case measure => (show u.length - (intOf (.int .i64 (((i + 1) : Nat) : Int))).toNat < u.length - (intOf (.int .i64 ((i : Nat) : Int))).toNat); simp only [intOf]; omega
                | true =>
                  have h6 : j < u.length := of_decide_eq_true hd6
                  clear hd6
                  refine wp_cond_true rfl ?_
                  refine wp_skip ?_
                  refine (show Code.wp _ _ _ _ _ from ?_)
                  refine wp_seq ?_
                  refine wp_block ?_
                  refine wp_seq ?_
                  refine wp_region_L (W0 := W3) ((g5, .cells (sltC y4).toArray 34 (0, 0)) :: (Ka ++ (Kb ++ Ku))) (hW19) ?_
                  obtain ⟨y8, g8_, f8_, hy8, hp8, hc8⟩ := RL.at RU sltC_len (by decide) (hW19.sub (fun p hp => by simp only [List.mem_cons, List.mem_append, List.nil_append, List.not_mem_nil, or_assoc, or_false, false_or, hp, true_or, or_true])) (k := j) (by omega)
                  refine lp (v := .pointer (some ⟨g8_, f8_ + j * 3, none⟩)) rfl rfl (run_idxQ (p := qU) (cap := dU) (n := u.length) (j := .i64) (k := j) (sz := 3) rfl Tryd.underlying35 (by kernel_rfl) (by kernel_rfl) hp8 (by kernel_rfl) (by omega)) ?_
                  refine lv (v := .agg (sltC y8).toArray) rfl rfl (yb_rs (off := f8_ + j * 3) (cs := sltC y8) rfl (by kernel_rfl) (fun W hW => hc8 W (hW.sub (fun p hp => by simp only [List.mem_cons, List.mem_append, List.nil_append, List.not_mem_nil, or_assoc, or_false, false_or, hp, true_or, or_true]))) Tryd.underlying34 rfl (by kernel_rfl)) ?_
                  refine wpL_new (fun g => .pointer (some ⟨g, 0, none⟩)) (obi := .cells #[.int .i64 0, .int .i64 0, .int .u8 0] 34 (0, 0)) rfl rfl (fun _ => by kernel_rfl) (fun _ => by simp only [List.setIfInBounds_toArray, List.set_cons_succ, List.set_cons_zero] <;> rfl) fun g9 Bg9 Fg9 => ?_
                  obtain ⟨dj10_0, dj10_1, dj10_2, dj10_3⟩ : g5 ≠ g9 ∧ Dk g9 Ka ∧ Dk g9 Kb ∧ Dk g9 Ku := by simpa only [dj_app_l, dj_app_r, dj_cons_l, dj_cons_r, dj_nil_l, dj_nil_r, dk_app, dk_cons, dk_nil, and_true, true_and, and_assoc] using (show Dk g9 ((g5, .cells (sltC y4).toArray 34 (0, 0)) :: (Ka ++ (Kb ++ Ku))) from Fg9)
                  refine wpL_s ((g9, .cells (sltC y8).toArray 34 (0, 0)) :: (g5, .cells (sltC y4).toArray 34 (0, 0)) :: (Ka ++ (Kb ++ Ku))) rfl rfl (st_row (off := 0) (v := .agg (sltC y8).toArray) rfl (by kernel_rfl) (by kernel_rfl) (.head _) Bg9 (by kernel_rfl) (by first | (simp [Value.cells]; done) | exact Nat.le_of_ble_eq_true rfl) (fun v hv => sltC_one y8 v hv) (by kernel_rfl) (List.forall_mem_cons.2 ⟨.inl rfl, (List.forall_mem_cons.2 ⟨.inr ⟨(.tail _ (.head _)), (by first | assumption | exact Ne.symm (by assumption))⟩, (fun p hp => .inr ⟨(.tail _ (.tail _ hp)), ((show Dk g9 (Ka ++ (Kb ++ Ku)) from (by (try simp only [dj_app_l, dj_app_r, dj_cons_l, dj_cons_r, dj_nil_l, dj_nil_r, dk_app, dk_cons, dk_nil, and_true, true_and, and_assoc]); repeat' (first | trivial | assumption | exact Dj.symm (by assumption) | exact Ne.symm (by assumption) | apply And.intro))) _ hp)⟩)⟩)⟩)) ?_
                  refine wpL_done (fun W21 hW21 => ?_)
                  refine (show Code.wp _ _ _ _ _ from ?_)
                  refine wp_region_L (W0 := W3) ((g9, .cells (sltC y8).toArray 34 (0, 0)) :: (g5, .cells (sltC y4).toArray 34 (0, 0)) :: (Ka ++ (Kb ++ Ku))) (hW21) ?_
                  refine lm (v := .bool nf) rfl rfl ?_
                  refine lm (v := .bool nf) rfl rfl ?_
                  cases h7 : nf with
                  | false =>
                    refine lm (v := .pointer (some ⟨g5, 2, none⟩)) rfl rfl ?_
                    refine lv (v := .int .u8 ((y4.half : Nat) : Int)) rfl rfl (yb_cell (off := 2) rfl (by kernel_rfl) (.tail _ (.head _)) Tryd.underlying5 rfl (by kernel_rfl)) ?_
                    refine lm (v := .pointer (some ⟨g1, 2, none⟩)) rfl rfl ?_
                    refine lv (v := .int .u8 ((((fewS n).half) : Nat) : Int)) rfl rfl (yb_rf (v := .int .u8 ((((fewS n).half) : Nat) : Int)) rfl (by kernel_rfl) (fun W hW => ((HG8.out).keep hW.1).2 2 _ rfl) Tryd.underlying5 rfl) ?_
                    refine lp (v := .bool (decide (y4.half = ((fewS n).half)))) rfl rfl (run_bin rfl (vx := (.int .u8 ((y4.half : Nat) : Int))) (vy := (.int .u8 ((((fewS n).half) : Nat) : Int))) (by kernel_rfl) (by kernel_rfl) fun w => bn_eql rfl w) ?_
                    refine lm (v := .bool (decide (y4.half = ((fewS n).half)))) rfl rfl ?_
                    refine lm (v := .bool (decide (y4.half = ((fewS n).half)))) rfl rfl ?_
                    cases hd8 : (decide (y4.half = ((fewS n).half))) with
                    | false =>
                      have h8 : ¬ (y4.half = ((fewS n).half)) := of_decide_eq_false hd8
                      clear hd8
                      refine lm (v := .pointer (some ⟨g1, 2, none⟩)) rfl rfl ?_
                      refine lv (v := .int .u8 ((((fewS n).half) : Nat) : Int)) rfl rfl (yb_rf (v := .int .u8 ((((fewS n).half) : Nat) : Int)) rfl (by kernel_rfl) (fun W hW => ((HG8.out).keep hW.1).2 2 _ rfl) Tryd.underlying5 rfl) ?_
                      refine lp (v := .bool (decide (((fewS n).half) = 0))) rfl rfl (run_bin rfl (vx := (.int .u8 ((((fewS n).half) : Nat) : Int))) (vy := (.int .u8 ((0 : Nat) : Int))) (by kernel_rfl) (by kernel_rfl) fun w => bn_eql rfl w) ?_
                      refine lm (v := .bool (decide (((fewS n).half) = 0))) rfl rfl ?_
                      cases hd9 : (decide (((fewS n).half) = 0)) with
                      | false =>
                        have h9 : ¬ (((fewS n).half) = 0) := of_decide_eq_false hd9
                        clear hd9
                        refine ln rfl ?_
                        refine ln rfl ?_
                        refine ln rfl ?_
                        refine lm (v := .bool false) rfl rfl ?_
                        refine lm (v := .bool false) rfl rfl ?_
                        refine ln rfl ?_
                        refine ln rfl ?_
                        refine ln rfl ?_
                        refine lm (v := .bool false) rfl rfl ?_
                        refine lm (v := .bool false) rfl rfl ?_
                        refine lm (v := .bool false) rfl rfl ?_
                        refine wpL_done (fun W22 hW22 => ?_)
                        refine (show Code.wp _ _ _ _ _ from ?_)
                        refine wp_region_L (W0 := W3) ((g9, .cells (sltC y8).toArray 34 (0, 0)) :: (g5, .cells (sltC y4).toArray 34 (0, 0)) :: (Ka ++ (Kb ++ Ku))) (hW22) ?_
                        refine lp (v := .int .i64 (((j + 1) : Nat) : Int)) rfl rfl (run_bin rfl (vx := (.int .i64 ((j : Nat) : Int))) (vy := (.int .i64 ((1 : Nat) : Int))) (by kernel_rfl) (by kernel_rfl) fun w => bn_add (z := (j + 1)) rfl (wr_i64 (by omega)) w) ?_
                        refine lm (v := .int .i64 (((j + 1) : Nat) : Int)) rfl rfl ?_
                        refine wpL_done (fun W23 hW23 => ?_)
                        go_roundw
                        case rel =>
                          repeat apply Exists.intro
                          exact ⟨⟨j + 1, false, (by omega), (by rw [any_snoc hy8, ← Bool.or_assoc, ← hnf]; simp [pairB, h7, decide_eq_false h8, decide_eq_false h9]), rfl, rfl, (hW23.sub (fun p hp => by first | exact hp | (simp only [List.mem_cons, List.mem_append, List.nil_append, List.not_mem_nil, or_assoc, or_false, false_or] at hp ⊢ <;> grind)))⟩, rfl⟩
                        case measure => (show u.length - (intOf (.int .i64 (((j + 1) : Nat) : Int))).toNat < u.length - (intOf (.int .i64 ((j : Nat) : Int))).toNat); simp only [intOf]; omega
                      | true =>
                        have h9 : ((fewS n).half) = 0 := of_decide_eq_true hd9
                        clear hd9
                        refine lm (v := .pointer (some ⟨g5, 2, none⟩)) rfl rfl ?_
                        refine lv (v := .int .u8 ((y4.half : Nat) : Int)) rfl rfl (yb_cell (off := 2) rfl (by kernel_rfl) (.tail _ (.head _)) Tryd.underlying5 rfl (by kernel_rfl)) ?_
                        refine lp (v := .bool (decide (y4.half = 1))) rfl rfl (run_bin rfl (vx := (.int .u8 ((y4.half : Nat) : Int))) (vy := (.int .u8 ((1 : Nat) : Int))) (by kernel_rfl) (by kernel_rfl) fun w => bn_eql rfl w) ?_
                        refine lm (v := .bool (decide (y4.half = 1))) rfl rfl ?_
                        refine lm (v := .bool (decide (y4.half = 1))) rfl rfl ?_
                        cases hd10 : (decide (y4.half = 1)) with
                        | false =>
                          have h10 : ¬ (y4.half = 1) := of_decide_eq_false hd10
                          clear hd10
                          refine ln rfl ?_
                          refine ln rfl ?_
                          refine ln rfl ?_
                          refine lm (v := .bool false) rfl rfl ?_
                          refine lm (v := .bool false) rfl rfl ?_
                          refine lm (v := .bool false) rfl rfl ?_
                          refine wpL_done (fun W24 hW24 => ?_)
                          refine (show Code.wp _ _ _ _ _ from ?_)
                          refine wp_region_L (W0 := W3) ((g9, .cells (sltC y8).toArray 34 (0, 0)) :: (g5, .cells (sltC y4).toArray 34 (0, 0)) :: (Ka ++ (Kb ++ Ku))) (hW24) ?_
                          refine lp (v := .int .i64 (((j + 1) : Nat) : Int)) rfl rfl (run_bin rfl (vx := (.int .i64 ((j : Nat) : Int))) (vy := (.int .i64 ((1 : Nat) : Int))) (by kernel_rfl) (by kernel_rfl) fun w => bn_add (z := (j + 1)) rfl (wr_i64 (by omega)) w) ?_
                          refine lm (v := .int .i64 (((j + 1) : Nat) : Int)) rfl rfl ?_
                          refine wpL_done (fun W25 hW25 => ?_)
                          go_roundw
                          case rel =>
                            repeat apply Exists.intro
                            exact ⟨⟨j + 1, false, (by omega), (by rw [any_snoc hy8, ← Bool.or_assoc, ← hnf]; simp [pairB, h7, decide_eq_false h8, decide_eq_true h9, decide_eq_false h10]), rfl, rfl, (hW25.sub (fun p hp => by first | exact hp | (simp only [List.mem_cons, List.mem_append, List.nil_append, List.not_mem_nil, or_assoc, or_false, false_or] at hp ⊢ <;> grind)))⟩, rfl⟩
                          case measure => (show u.length - (intOf (.int .i64 (((j + 1) : Nat) : Int))).toNat < u.length - (intOf (.int .i64 ((j : Nat) : Int))).toNat); simp only [intOf]; omega
                        | true =>
                          have h10 : y4.half = 1 := of_decide_eq_true hd10
                          clear hd10
                          refine lm (v := .pointer (some ⟨g9, 2, none⟩)) rfl rfl ?_
                          refine lv (v := .int .u8 ((y8.half : Nat) : Int)) rfl rfl (yb_cell (off := 2) rfl (by kernel_rfl) (.head _) Tryd.underlying5 rfl (by kernel_rfl)) ?_
                          refine lp (v := .bool (decide (y8.half = 2))) rfl rfl (run_bin rfl (vx := (.int .u8 ((y8.half : Nat) : Int))) (vy := (.int .u8 ((2 : Nat) : Int))) (by kernel_rfl) (by kernel_rfl) fun w => bn_eql rfl w) ?_
                          refine lm (v := .bool (decide (y8.half = 2))) rfl rfl ?_
                          refine lm (v := .bool (decide (y8.half = 2))) rfl rfl ?_
                          refine lm (v := .bool (decide (y8.half = 2))) rfl rfl ?_
                          refine wpL_done (fun W26 hW26 => ?_)
                          refine (show Code.wp _ _ _ _ _ from ?_)
                          refine wp_region_L (W0 := W3) ((g9, .cells (sltC y8).toArray 34 (0, 0)) :: (g5, .cells (sltC y4).toArray 34 (0, 0)) :: (Ka ++ (Kb ++ Ku))) (hW26) ?_
                          refine lp (v := .int .i64 (((j + 1) : Nat) : Int)) rfl rfl (run_bin rfl (vx := (.int .i64 ((j : Nat) : Int))) (vy := (.int .i64 ((1 : Nat) : Int))) (by kernel_rfl) (by kernel_rfl) fun w => bn_add (z := (j + 1)) rfl (wr_i64 (by omega)) w) ?_
                          refine lm (v := .int .i64 (((j + 1) : Nat) : Int)) rfl rfl ?_
                          refine wpL_done (fun W27 hW27 => ?_)
                          go_roundw
                          case rel =>
                            repeat apply Exists.intro
                            exact ⟨⟨j + 1, (decide (y8.half = 2)), (by omega), (by rw [any_snoc hy8, ← Bool.or_assoc, ← hnf]; simp [pairB, h7, decide_eq_false h8, decide_eq_true h9, decide_eq_true h10]), rfl, rfl, (hW27.sub (fun p hp => by first | exact hp | (simp only [List.mem_cons, List.mem_append, List.nil_append, List.not_mem_nil, or_assoc, or_false, false_or] at hp ⊢ <;> grind)))⟩, rfl⟩
                          case measure => (show u.length - (intOf (.int .i64 (((j + 1) : Nat) : Int))).toNat < u.length - (intOf (.int .i64 ((j : Nat) : Int))).toNat); simp only [intOf]; omega
                    | true =>
                      have h8 : y4.half = ((fewS n).half) := of_decide_eq_true hd8
                      clear hd8
                      refine ln rfl ?_
                      refine ln rfl ?_
                      refine ln rfl ?_
                      refine ln rfl ?_
                      refine ln rfl ?_
                      refine ln rfl ?_
                      refine ln rfl ?_
                      refine ln rfl ?_
                      refine ln rfl ?_
                      refine ln rfl ?_
                      refine ln rfl ?_
                      refine ln rfl ?_
                      refine ln rfl ?_
                      refine lm (v := .bool true) rfl rfl ?_
                      refine lm (v := .bool true) rfl rfl ?_
                      refine wpL_done (fun W28 hW28 => ?_)
                      refine (show Code.wp _ _ _ _ _ from ?_)
                      refine wp_region_L (W0 := W3) ((g9, .cells (sltC y8).toArray 34 (0, 0)) :: (g5, .cells (sltC y4).toArray 34 (0, 0)) :: (Ka ++ (Kb ++ Ku))) (hW28) ?_
                      refine lp (v := .int .i64 (((j + 1) : Nat) : Int)) rfl rfl (run_bin rfl (vx := (.int .i64 ((j : Nat) : Int))) (vy := (.int .i64 ((1 : Nat) : Int))) (by kernel_rfl) (by kernel_rfl) fun w => bn_add (z := (j + 1)) rfl (wr_i64 (by omega)) w) ?_
                      refine lm (v := .int .i64 (((j + 1) : Nat) : Int)) rfl rfl ?_
                      refine wpL_done (fun W29 hW29 => ?_)
                      go_roundw
                      case rel =>
                        repeat apply Exists.intro
                        exact ⟨⟨j + 1, true, (by omega), (by rw [any_snoc hy8, ← Bool.or_assoc, ← hnf]; simp [pairB, h7, decide_eq_true h8]), rfl, rfl, (hW29.sub (fun p hp => by first | exact hp | (simp only [List.mem_cons, List.mem_append, List.nil_append, List.not_mem_nil, or_assoc, or_false, false_or] at hp ⊢ <;> grind)))⟩, rfl⟩
                      case measure => (show u.length - (intOf (.int .i64 (((j + 1) : Nat) : Int))).toNat < u.length - (intOf (.int .i64 ((j : Nat) : Int))).toNat); simp only [intOf]; omega
                  | true =>
                    refine ln rfl ?_
                    refine ln rfl ?_
                    refine ln rfl ?_
                    refine ln rfl ?_
                    refine ln rfl ?_
                    refine lm (v := .bool true) rfl rfl ?_
                    refine lm (v := .bool true) rfl rfl ?_
                    refine ln rfl ?_
                    refine ln rfl ?_
                    refine ln rfl ?_
                    refine ln rfl ?_
                    refine ln rfl ?_
                    refine ln rfl ?_
                    refine ln rfl ?_
                    refine ln rfl ?_
                    refine ln rfl ?_
                    refine ln rfl ?_
                    refine ln rfl ?_
                    refine ln rfl ?_
                    refine ln rfl ?_
                    refine lm (v := .bool true) rfl rfl ?_
                    refine lm (v := .bool true) rfl rfl ?_
                    refine wpL_done (fun W30 hW30 => ?_)
                    refine (show Code.wp _ _ _ _ _ from ?_)
                    refine wp_region_L (W0 := W3) ((g9, .cells (sltC y8).toArray 34 (0, 0)) :: (g5, .cells (sltC y4).toArray 34 (0, 0)) :: (Ka ++ (Kb ++ Ku))) (hW30) ?_
                    refine lp (v := .int .i64 (((j + 1) : Nat) : Int)) rfl rfl (run_bin rfl (vx := (.int .i64 ((j : Nat) : Int))) (vy := (.int .i64 ((1 : Nat) : Int))) (by kernel_rfl) (by kernel_rfl) fun w => bn_add (z := (j + 1)) rfl (wr_i64 (by omega)) w) ?_
                    refine lm (v := .int .i64 (((j + 1) : Nat) : Int)) rfl rfl ?_
                    refine wpL_done (fun W31 hW31 => ?_)
                    go_roundw
                    case rel =>
                      repeat apply Exists.intro
                      exact ⟨⟨j + 1, true, (by omega), (by rw [any_snoc hy8, ← Bool.or_assoc, ← hnf]; simp [pairB, h7]), rfl, rfl, (hW31.sub (fun p hp => by first | exact hp | (simp only [List.mem_cons, List.mem_append, List.nil_append, List.not_mem_nil, or_assoc, or_false, false_or] at hp ⊢ <;> grind)))⟩, rfl⟩
                    case measure => (show u.length - (intOf (.int .i64 (((j + 1) : Nat) : Int))).toNat < u.length - (intOf (.int .i64 ((j : Nat) : Int))).toNat); simp only [intOf]; omega
        | true =>
          have h3 : ((fewS n).tier) = 0 := of_decide_eq_true hd3
          clear hd3
          exact absurd (held_low h3) (by rw [h2]; decide)
      | true =>
        refine vb (i := 15) (v := .agg (sltC (fewS n)).toArray) rfl rfl rfl (yb_rs (off := 0) (cs := _) rfl (by kernel_rfl) (fun W hW => ((HG8.out).keep hW.1).2) Tryd.underlying34 rfl (by kernel_rfl)) ?_
        refine vm (i := 16) (v := .slice qA (fewL l).length dA) rfl rfl rfl ?_
        refine vm (i := 17) (v := .func (.func 36) #[] #[]) rfl rfl rfl ?_
        refine vm (i := 18) (v := .int .u8 ((m : Nat) : Int)) rfl rfl rfl ?_
        refine vp (i := 19) (v := .int .i64 ((m : Nat) : Int)) rfl rfl rfl (run_conv rfl (vx := (.int .u8 ((m : Nat) : Int))) (by kernel_rfl) fun w => cv_int Tryd.underlying5 Tryd.underlying3 (wr_i64 (by omega)) w) ?_
        refine vvd (i := 20) (v := .agg (sltC (fewS m)).toArray) rfl rfl rfl (yb_call (f := 36) (args := #[.int .i64 ((m : Nat) : Int)]) (fun _ => by kernel_rfl) fun W hW => fewH_any m (by omega) W) ?_
        refine wpV_nsg (fun g => .slice (some ⟨g, 0, none⟩) 1 1) (i := 21) (obi := .cells (sltC (fewS m)).toArray 34 (0, 0)) rfl rfl rfl (by kernel_rfl) (fun _ => by kernel_rfl) (fun _ => by simp only [List.setIfInBounds_toArray, List.set_cons_succ, List.set_cons_zero] <;> rfl) fun g11 Bg11 Fg11 => ?_
        obtain ⟨dj12_0, dj12_1, dj12_2⟩ : Dk g11 Ka ∧ Dk g11 Kb ∧ Dk g11 Ku := by simpa only [dj_app_l, dj_app_r, dj_cons_l, dj_cons_r, dj_nil_l, dj_nil_r, dk_app, dk_cons, dk_nil, and_true, true_and, and_assoc] using (show Dk g11 (Ka ++ (Kb ++ Ku)) from Fg11)
        refine wpV_g (AppO W3 34 3 (Kb ++ Ku) ((fewL l).length + 1) (((fewL l).flatMap sltC) ++ [.int .i64 ((fewS m).col), .int .i64 ((fewS m).tier), .int .u8 ((((fewS m).half) : Nat) : Int)])) (i := 22) rfl rfl rfl (by kernel_rfl) rfl (app_own el_slt (m := 1) (c := 1) (news := [.int .i64 ((fewS m).col), .int .i64 ((fewS m).tier), .int .u8 ((((fewS m).half) : Nat) : Int)]) rfl (by kernel_rfl) (by kernel_rfl) (.head _) hA (fun p hp => by simp only [List.mem_cons, List.mem_append, List.nil_append, List.not_mem_nil, or_assoc, or_false, false_or, hp, or_true, true_or]) (fun p hp => ⟨by simp only [List.mem_cons, List.mem_append, List.nil_append, List.not_mem_nil, or_assoc, or_false, false_or] at hp ⊢ <;> grind, (show Dj (Kb ++ Ku) Ka from (by (try simp only [dj_app_l, dj_app_r, dj_cons_l, dj_cons_r, dj_nil_l, dj_nil_r, dk_app, dk_cons, dk_nil, and_true, true_and, and_assoc]); repeat' (first | trivial | assumption | exact Dj.symm (by assumption) | exact Ne.symm (by assumption) | apply And.intro))) p hp⟩) rfl (by simp [strV, Value.oneCell']) (by omega) (by omega) (by omega)) (fun _ => by simp only [List.setIfInBounds_toArray, List.set_cons_succ, List.set_cons_zero] <;> rfl) ?_
        rintro v13 K9 ⟨Kl13, O13, N13, rfl⟩
        obtain ⟨dj14_0, dj14_1⟩ : Dj Kb Kl13 ∧ Dj Ku Kl13 := by simpa only [dj_app_l, dj_app_r, dj_cons_l, dj_cons_r, dj_nil_l, dj_nil_r, dk_app, dk_cons, dk_nil, and_true, true_and, and_assoc] using (show Dj (Kb ++ Ku) Kl13 from N13)
        have hM := own_app (cells := sltC) (l' := fewL l ++ [fewS m]) O13 (by rw [List.flatMap_append]; rfl) (by rw [List.length_append]; rfl)
        obtain ⟨qM, dM, rfl, hdM, RM⟩ := own_rl hM
        refine wpV_c (i := 23) (fun v K9 => v = Value.bool true ∧ K9 = ((Kb ++ Ku) ++ Kl13)) rfl rfl (by kernel_rfl) (by kernel_rfl) (fun _ => (by kernel_rfl)) (fun W hW => ((show Calls Tryd.prog 25 #[.agg (sltC (fewS n)).toArray, .slice qM (fewL l ++ [fewS m]).length dM] W (fun e w' => e = .returned (.bool true) ∧ Below W.heap.size W w') from (by have h9 := Held_any (fewS n) (fewL l ++ [fewS m]) qM dM (by first | omega | (rw [List.length_append, List.length_singleton]; omega)) (fewS_ok n).2.1 W (RM _ (hW.sub (fun p hp => by simp only [List.mem_cons, List.mem_append, List.nil_append, List.not_mem_nil, or_assoc, or_false, false_or, hp, true_or, or_true]))); rw [held_more h2] at h9; exact h9)).mono fun e w' ⟨h1, h2⟩ => ⟨_, _, h1, hW.below h2, rfl, rfl⟩)) (fun v K9 hG => by obtain ⟨_, rfl⟩ := hG; exact fun p hp => hp) (fun _ => by simp only [List.setIfInBounds_toArray, List.set_cons_succ, List.set_cons_zero] <;> rfl) ?_
        rintro _ _ ⟨rfl, rfl⟩
        refine vm (i := 24) (v := .bool false) rfl rfl rfl ?_
        refine vm (i := 25) (v := .bool false) rfl rfl rfl ?_
        refine vm (i := 26) (v := .bool false) rfl rfl rfl ?_
        refine wpV_done (by kernel_rfl) (fun W32 hW32 => ?_) _
        refine (show Code.wp _ _ _ _ _ from ?_)
        refine wp_cond_false rfl ?_
        refine wp_skip ?_
        refine (show Code.wp _ _ _ _ _ from ?_)
        refine wp_seq ?_
        refine wp_seq ?_
        refine wp_region_L (W0 := W3) ((Kb ++ Ku) ++ Kl13) (hW32) ?_
        refine lm (v := .pointer (some ⟨g1, 1, none⟩)) rfl rfl ?_
        refine lv (v := .int .i64 ((fewS n).tier)) rfl rfl (yb_rf (v := .int .i64 ((fewS n).tier)) rfl (by kernel_rfl) (fun W hW => ((HG8.out).keep hW.1).2 1 _ rfl) Tryd.underlying3 rfl) ?_
        refine lp (v := .bool (decide (((fewS n).tier) = 0))) rfl rfl (run_bin rfl (vx := (.int .i64 ((fewS n).tier))) (vy := (.int .i64 0)) (by kernel_rfl) (by kernel_rfl) fun w => bi_eql rfl w) ?_
        refine wpL_done (fun W33 hW33 => ?_)
        refine (show Code.wp _ _ _ _ _ from ?_)
        cases hd11 : (decide (((fewS n).tier) = 0)) with
        | false =>
          have h11 : ¬ (((fewS n).tier) = 0) := of_decide_eq_false hd11
          clear hd11
          refine wp_cond_false rfl ?_
          refine wp_skip ?_
          refine (show Code.wp _ _ _ _ _ from ?_)
          refine wp_seq ?_
          refine wp_region_L (W0 := W3) ((Kb ++ Ku) ++ Kl13) (hW33) ?_
          refine lm (v := .bool false) rfl rfl ?_
          refine wpL_done (fun W34 hW34 => ?_)
          refine (show Code.wp _ _ _ _ _ from ?_)
          refine wp_seq ?_
          refine wp_seq ?_
          refine wp_region_L (W0 := W3) ((Kb ++ Ku) ++ Kl13) (hW34) ?_
          refine lm (v := .slice qU u.length dU) rfl rfl ?_
          refine lp (v := .int .i64 ((u.length : Nat) : Int)) rfl rfl (run_lenL (p := qU) (cap := dU) (n := u.length) rfl Tryd.underlying35 (by kernel_rfl)) ?_
          refine lm (v := .int .i64 0) rfl rfl ?_
          refine wpL_done (fun W35 hW35 => ?_)
          refine (show Code.wp _ _ _ _ _ from ?_)
          refine wp_block ?_
          go_loopw [109, 15] (fun u109 u15 wr => ∃ (i : Nat) (nd : Bool), (i ≤ u.length) ∧ (nd = (u.take i).any (fun y => u.any (pairB (fewS n) y))) ∧ u109 = .int .i64 ((i : Nat) : Int) ∧ u15 = .bool nd ∧ KS W3 (Kb ++ (Ku ++ Kl13)) wr) (fun u109 _ _ => u.length - (intOf u109).toNat)
          case atStart => exact ⟨0, false, (Nat.zero_le _), rfl, rfl, rfl, (hW35.sub (fun p hp => by first | exact hp | (simp only [List.mem_cons, List.mem_append, List.nil_append, List.not_mem_nil, or_assoc, or_false, false_or] at hp ⊢ <;> grind)))⟩
          case round =>
            obtain ⟨i, nd, hi, hnd, rfl, rfl, hL36⟩ := hrel
            refine wp_seq ?_
            refine wp_region_L (W0 := W3) (Kb ++ (Ku ++ Kl13)) (hL36) ?_
            refine lp (v := .bool (decide (i < u.length))) rfl rfl (run_bin rfl (vx := (.int .i64 ((i : Nat) : Int))) (vy := (.int .i64 ((u.length : Nat) : Int))) (by kernel_rfl) (by kernel_rfl) fun w => bn_lss rfl w) ?_
            refine wpL_done (fun W37 hW37 => ?_)
            refine (show Code.wp _ _ _ _ _ from ?_)
            refine wp_seq ?_
            cases hd12 : (decide (i < u.length)) with
            | false =>
              have h12 : ¬ (i < u.length) := of_decide_eq_false hd12
              clear hd12
              refine wp_cond_false rfl ?_
              refine wp_exit ?_
              refine (show Code.wp _ _ _ _ _ from ?_)
              refine wp_seq ?_
              have hn1 : nd = needB (fewS n) u := by rw [hnd, show i = u.length from by omega, List.take_length]; rfl
              have hn2 : (heldS (fewS n) (fewL l)) = nd := by rw [hn1, hu]; exact held_need (by omega)
              rw [h2] at hn2
              refine wp_region_L (W0 := W3) (Kb ++ (Ku ++ Kl13)) (hW37) ?_
              refine lm (v := .bool true) rfl rfl ?_
              refine lm (v := .bool nd) rfl rfl ?_
              refine lp (v := .bool (true == nd)) rfl rfl (run_bin rfl (vx := .bool true) (vy := .bool nd) (by kernel_rfl) (by kernel_rfl) fun w => bn_bool_eql rfl Tryd.underlying4 w) ?_
              refine lm (v := .bool (true == nd)) rfl rfl ?_
              cases h13 : (true == nd) with
              | false =>
                exact absurd (show (true == nd) = true from by rw [← hn2]; rfl) (by rw [h13]; decide)
              | true =>
                refine lv (v := .bool true) rfl rfl (yb_call (f := 11) (args := #[]) (fun _ => by kernel_rfl) fun W hW => awake8_any W (HE.out.keep (hb8.trans (hW.1.mono hb8.size)))) ?_
                refine lm (v := .bool true) rfl rfl ?_
                refine lm (v := .bool true) rfl rfl ?_
                refine wpL_done (fun W38 hW38 => ?_)
                refine (show Code.wp _ _ _ _ _ from ?_)
                refine wp_ret ?_
                try simp only [inBlock_ret, then_ret]
                refine bodyPost_ret (v := .bool true) ?_ rfl ?_
                · kernel_rfl
                · exact ⟨rfl, (hb8.trans (hW38.1.mono hb8.size))⟩
            | true =>
              have h12 : i < u.length := of_decide_eq_true hd12
              clear hd12
              refine wp_cond_true rfl ?_
              refine wp_skip ?_
              refine (show Code.wp _ _ _ _ _ from ?_)
              refine wp_seq ?_
              refine wp_block ?_
              refine wp_seq ?_
              refine wp_region_L (W0 := W3) (Kb ++ (Ku ++ Kl13)) (hW37) ?_
              obtain ⟨y16, g16_, f16_, hy16, hp16, hc16⟩ := RL.at RU sltC_len (by decide) (hW37.sub (fun p hp => by simp only [List.mem_cons, List.mem_append, List.nil_append, List.not_mem_nil, or_assoc, or_false, false_or, hp, true_or, or_true])) (k := i) (by omega)
              refine lp (v := .pointer (some ⟨g16_, f16_ + i * 3, none⟩)) rfl rfl (run_idxQ (p := qU) (cap := dU) (n := u.length) (j := .i64) (k := i) (sz := 3) rfl Tryd.underlying35 (by kernel_rfl) (by kernel_rfl) hp16 (by kernel_rfl) (by omega)) ?_
              refine lv (v := .agg (sltC y16).toArray) rfl rfl (yb_rs (off := f16_ + i * 3) (cs := sltC y16) rfl (by kernel_rfl) (fun W hW => hc16 W (hW.sub (fun p hp => by simp only [List.mem_cons, List.mem_append, List.nil_append, List.not_mem_nil, or_assoc, or_false, false_or, hp, true_or, or_true]))) Tryd.underlying34 rfl (by kernel_rfl)) ?_
              refine wpL_new (fun g => .pointer (some ⟨g, 0, none⟩)) (obi := .cells #[.int .i64 0, .int .i64 0, .int .u8 0] 34 (0, 0)) rfl rfl (fun _ => by kernel_rfl) (fun _ => by simp only [List.setIfInBounds_toArray, List.set_cons_succ, List.set_cons_zero] <;> rfl) fun g17 Bg17 Fg17 => ?_
              obtain ⟨dj18_0, dj18_1, dj18_2⟩ : Dk g17 Kb ∧ Dk g17 Ku ∧ Dk g17 Kl13 := by simpa only [dj_app_l, dj_app_r, dj_cons_l, dj_cons_r, dj_nil_l, dj_nil_r, dk_app, dk_cons, dk_nil, and_true, true_and, and_assoc] using (show Dk g17 (Kb ++ (Ku ++ Kl13)) from Fg17)
              refine wpL_s ((g17, .cells (sltC y16).toArray 34 (0, 0)) :: (Kb ++ (Ku ++ Kl13))) rfl rfl (st_row (off := 0) (v := .agg (sltC y16).toArray) rfl (by kernel_rfl) (by kernel_rfl) (.head _) Bg17 (by kernel_rfl) (by first | (simp [Value.cells]; done) | exact Nat.le_of_ble_eq_true rfl) (fun v hv => sltC_one y16 v hv) (by kernel_rfl) (List.forall_mem_cons.2 ⟨.inl rfl, (fun p hp => .inr ⟨(.tail _ hp), ((show Dk g17 (Kb ++ (Ku ++ Kl13)) from (by (try simp only [dj_app_l, dj_app_r, dj_cons_l, dj_cons_r, dj_nil_l, dj_nil_r, dk_app, dk_cons, dk_nil, and_true, true_and, and_assoc]); repeat' (first | trivial | assumption | exact Dj.symm (by assumption) | exact Ne.symm (by assumption) | apply And.intro))) _ hp)⟩)⟩)) ?_
              refine wpL_done (fun W39 hW39 => ?_)
              refine (show Code.wp _ _ _ _ _ from ?_)
              refine wp_seq ?_
              refine wp_region_L (W0 := W3) ((g17, .cells (sltC y16).toArray 34 (0, 0)) :: (Kb ++ (Ku ++ Kl13))) (hW39) ?_
              refine lm (v := .slice qU u.length dU) rfl rfl ?_
              refine lp (v := .int .i64 ((u.length : Nat) : Int)) rfl rfl (run_lenL (p := qU) (cap := dU) (n := u.length) rfl Tryd.underlying35 (by kernel_rfl)) ?_
              refine lm (v := .int .i64 0) rfl rfl ?_
              refine wpL_done (fun W40 hW40 => ?_)
              refine (show Code.wp _ _ _ _ _ from ?_)
              refine wp_block ?_
              go_loopw [115, 15] (fun u115 u15 wr => ∃ (j : Nat) (nf : Bool), (j ≤ u.length) ∧ (nf = (nd || (u.take j).any (pairB (fewS n) y16))) ∧ u115 = .int .i64 ((j : Nat) : Int) ∧ u15 = .bool nf ∧ KS W3 ((g17, .cells (sltC y16).toArray 34 (0, 0)) :: (Kb ++ (Ku ++ Kl13))) wr) (fun u115 _ _ => u.length - (intOf u115).toNat)
              case atStart => exact ⟨0, nd, (Nat.zero_le _), (by rw [List.take_zero, List.any_nil, Bool.or_false]), rfl, rfl, (hW40.sub (fun p hp => by first | exact hp | (simp only [List.mem_cons, List.mem_append, List.nil_append, List.not_mem_nil, or_assoc, or_false, false_or] at hp ⊢ <;> grind)))⟩
              case round =>
                obtain ⟨j, nf, hj, hnf, rfl, rfl, hL41⟩ := hrel
                refine wp_seq ?_
                refine wp_region_L (W0 := W3) ((g17, .cells (sltC y16).toArray 34 (0, 0)) :: (Kb ++ (Ku ++ Kl13))) (hL41) ?_
                refine lp (v := .bool (decide (j < u.length))) rfl rfl (run_bin rfl (vx := (.int .i64 ((j : Nat) : Int))) (vy := (.int .i64 ((u.length : Nat) : Int))) (by kernel_rfl) (by kernel_rfl) fun w => bn_lss rfl w) ?_
                refine wpL_done (fun W42 hW42 => ?_)
                refine (show Code.wp _ _ _ _ _ from ?_)
                refine wp_seq ?_
                cases hd14 : (decide (j < u.length)) with
                | false =>
                  have h14 : ¬ (j < u.length) := of_decide_eq_false hd14
                  clear hd14
                  refine wp_cond_false rfl ?_
                  refine wp_exit ?_
                  refine (show Code.wp _ _ _ _ _ from ?_)
                  refine wp_region_L (W0 := W3) ((g17, .cells (sltC y16).toArray 34 (0, 0)) :: (Kb ++ (Ku ++ Kl13))) (hW42) ?_
                  refine lp (v := .int .i64 (((i + 1) : Nat) : Int)) rfl rfl (run_bin rfl (vx := (.int .i64 ((i : Nat) : Int))) (vy := (.int .i64 ((1 : Nat) : Int))) (by kernel_rfl) (by kernel_rfl) fun w => bn_add (z := (i + 1)) rfl (wr_i64 (by omega)) w) ?_
                  refine lm (v := .int .i64 (((i + 1) : Nat) : Int)) rfl rfl ?_
                  refine wpL_done (fun W43 hW43 => ?_)
                  go_roundw
                  case rel =>
                    repeat apply Exists.intro
                    exact ⟨⟨i + 1, nf, (by omega), (by rw [any_snoc hy16, ← hnd, hnf, show j = u.length from by omega, List.take_length]), rfl, rfl, (hW43.sub (fun p hp => by first | exact hp | (simp only [List.mem_cons, List.mem_append, List.nil_append, List.not_mem_nil, or_assoc, or_false, false_or] at hp ⊢ <;> grind)))⟩, rfl⟩
                  case measure => (show u.length - (intOf (.int .i64 (((i + 1) : Nat) : Int))).toNat < u.length - (intOf (.int .i64 ((i : Nat) : Int))).toNat); simp only [intOf]; omega
                | true =>
                  have h14 : j < u.length := of_decide_eq_true hd14
                  clear hd14
                  refine wp_cond_true rfl ?_
                  refine wp_skip ?_
                  refine (show Code.wp _ _ _ _ _ from ?_)
                  refine wp_seq ?_
                  refine wp_block ?_
                  refine wp_seq ?_
                  refine wp_region_L (W0 := W3) ((g17, .cells (sltC y16).toArray 34 (0, 0)) :: (Kb ++ (Ku ++ Kl13))) (hW42) ?_
                  obtain ⟨y20, g20_, f20_, hy20, hp20, hc20⟩ := RL.at RU sltC_len (by decide) (hW42.sub (fun p hp => by simp only [List.mem_cons, List.mem_append, List.nil_append, List.not_mem_nil, or_assoc, or_false, false_or, hp, true_or, or_true])) (k := j) (by omega)
                  refine lp (v := .pointer (some ⟨g20_, f20_ + j * 3, none⟩)) rfl rfl (run_idxQ (p := qU) (cap := dU) (n := u.length) (j := .i64) (k := j) (sz := 3) rfl Tryd.underlying35 (by kernel_rfl) (by kernel_rfl) hp20 (by kernel_rfl) (by omega)) ?_
                  refine lv (v := .agg (sltC y20).toArray) rfl rfl (yb_rs (off := f20_ + j * 3) (cs := sltC y20) rfl (by kernel_rfl) (fun W hW => hc20 W (hW.sub (fun p hp => by simp only [List.mem_cons, List.mem_append, List.nil_append, List.not_mem_nil, or_assoc, or_false, false_or, hp, true_or, or_true]))) Tryd.underlying34 rfl (by kernel_rfl)) ?_
                  refine wpL_new (fun g => .pointer (some ⟨g, 0, none⟩)) (obi := .cells #[.int .i64 0, .int .i64 0, .int .u8 0] 34 (0, 0)) rfl rfl (fun _ => by kernel_rfl) (fun _ => by simp only [List.setIfInBounds_toArray, List.set_cons_succ, List.set_cons_zero] <;> rfl) fun g21 Bg21 Fg21 => ?_
                  obtain ⟨dj22_0, dj22_1, dj22_2, dj22_3⟩ : g17 ≠ g21 ∧ Dk g21 Kb ∧ Dk g21 Ku ∧ Dk g21 Kl13 := by simpa only [dj_app_l, dj_app_r, dj_cons_l, dj_cons_r, dj_nil_l, dj_nil_r, dk_app, dk_cons, dk_nil, and_true, true_and, and_assoc] using (show Dk g21 ((g17, .cells (sltC y16).toArray 34 (0, 0)) :: (Kb ++ (Ku ++ Kl13))) from Fg21)
                  refine wpL_s ((g21, .cells (sltC y20).toArray 34 (0, 0)) :: (g17, .cells (sltC y16).toArray 34 (0, 0)) :: (Kb ++ (Ku ++ Kl13))) rfl rfl (st_row (off := 0) (v := .agg (sltC y20).toArray) rfl (by kernel_rfl) (by kernel_rfl) (.head _) Bg21 (by kernel_rfl) (by first | (simp [Value.cells]; done) | exact Nat.le_of_ble_eq_true rfl) (fun v hv => sltC_one y20 v hv) (by kernel_rfl) (List.forall_mem_cons.2 ⟨.inl rfl, (List.forall_mem_cons.2 ⟨.inr ⟨(.tail _ (.head _)), (by first | assumption | exact Ne.symm (by assumption))⟩, (fun p hp => .inr ⟨(.tail _ (.tail _ hp)), ((show Dk g21 (Kb ++ (Ku ++ Kl13)) from (by (try simp only [dj_app_l, dj_app_r, dj_cons_l, dj_cons_r, dj_nil_l, dj_nil_r, dk_app, dk_cons, dk_nil, and_true, true_and, and_assoc]); repeat' (first | trivial | assumption | exact Dj.symm (by assumption) | exact Ne.symm (by assumption) | apply And.intro))) _ hp)⟩)⟩)⟩)) ?_
                  refine wpL_done (fun W44 hW44 => ?_)
                  refine (show Code.wp _ _ _ _ _ from ?_)
                  refine wp_region_L (W0 := W3) ((g21, .cells (sltC y20).toArray 34 (0, 0)) :: (g17, .cells (sltC y16).toArray 34 (0, 0)) :: (Kb ++ (Ku ++ Kl13))) (hW44) ?_
                  refine lm (v := .bool nf) rfl rfl ?_
                  refine lm (v := .bool nf) rfl rfl ?_
                  cases h15 : nf with
                  | false =>
                    refine lm (v := .pointer (some ⟨g17, 2, none⟩)) rfl rfl ?_
                    refine lv (v := .int .u8 ((y16.half : Nat) : Int)) rfl rfl (yb_cell (off := 2) rfl (by kernel_rfl) (.tail _ (.head _)) Tryd.underlying5 rfl (by kernel_rfl)) ?_
                    refine lm (v := .pointer (some ⟨g1, 2, none⟩)) rfl rfl ?_
                    refine lv (v := .int .u8 ((((fewS n).half) : Nat) : Int)) rfl rfl (yb_rf (v := .int .u8 ((((fewS n).half) : Nat) : Int)) rfl (by kernel_rfl) (fun W hW => ((HG8.out).keep hW.1).2 2 _ rfl) Tryd.underlying5 rfl) ?_
                    refine lp (v := .bool (decide (y16.half = ((fewS n).half)))) rfl rfl (run_bin rfl (vx := (.int .u8 ((y16.half : Nat) : Int))) (vy := (.int .u8 ((((fewS n).half) : Nat) : Int))) (by kernel_rfl) (by kernel_rfl) fun w => bn_eql rfl w) ?_
                    refine lm (v := .bool (decide (y16.half = ((fewS n).half)))) rfl rfl ?_
                    refine lm (v := .bool (decide (y16.half = ((fewS n).half)))) rfl rfl ?_
                    cases hd16 : (decide (y16.half = ((fewS n).half))) with
                    | false =>
                      have h16 : ¬ (y16.half = ((fewS n).half)) := of_decide_eq_false hd16
                      clear hd16
                      refine lm (v := .pointer (some ⟨g1, 2, none⟩)) rfl rfl ?_
                      refine lv (v := .int .u8 ((((fewS n).half) : Nat) : Int)) rfl rfl (yb_rf (v := .int .u8 ((((fewS n).half) : Nat) : Int)) rfl (by kernel_rfl) (fun W hW => ((HG8.out).keep hW.1).2 2 _ rfl) Tryd.underlying5 rfl) ?_
                      refine lp (v := .bool (decide (((fewS n).half) = 0))) rfl rfl (run_bin rfl (vx := (.int .u8 ((((fewS n).half) : Nat) : Int))) (vy := (.int .u8 ((0 : Nat) : Int))) (by kernel_rfl) (by kernel_rfl) fun w => bn_eql rfl w) ?_
                      refine lm (v := .bool (decide (((fewS n).half) = 0))) rfl rfl ?_
                      cases hd17 : (decide (((fewS n).half) = 0)) with
                      | false =>
                        have h17 : ¬ (((fewS n).half) = 0) := of_decide_eq_false hd17
                        clear hd17
                        refine ln rfl ?_
                        refine ln rfl ?_
                        refine ln rfl ?_
                        refine lm (v := .bool false) rfl rfl ?_
                        refine lm (v := .bool false) rfl rfl ?_
                        refine ln rfl ?_
                        refine ln rfl ?_
                        refine ln rfl ?_
                        refine lm (v := .bool false) rfl rfl ?_
                        refine lm (v := .bool false) rfl rfl ?_
                        refine lm (v := .bool false) rfl rfl ?_
                        refine wpL_done (fun W45 hW45 => ?_)
                        refine (show Code.wp _ _ _ _ _ from ?_)
                        refine wp_region_L (W0 := W3) ((g21, .cells (sltC y20).toArray 34 (0, 0)) :: (g17, .cells (sltC y16).toArray 34 (0, 0)) :: (Kb ++ (Ku ++ Kl13))) (hW45) ?_
                        refine lp (v := .int .i64 (((j + 1) : Nat) : Int)) rfl rfl (run_bin rfl (vx := (.int .i64 ((j : Nat) : Int))) (vy := (.int .i64 ((1 : Nat) : Int))) (by kernel_rfl) (by kernel_rfl) fun w => bn_add (z := (j + 1)) rfl (wr_i64 (by omega)) w) ?_
                        refine lm (v := .int .i64 (((j + 1) : Nat) : Int)) rfl rfl ?_
                        refine wpL_done (fun W46 hW46 => ?_)
                        go_roundw
                        case rel =>
                          repeat apply Exists.intro
                          exact ⟨⟨j + 1, false, (by omega), (by rw [any_snoc hy20, ← Bool.or_assoc, ← hnf]; simp [pairB, h15, decide_eq_false h16, decide_eq_false h17]), rfl, rfl, (hW46.sub (fun p hp => by first | exact hp | (simp only [List.mem_cons, List.mem_append, List.nil_append, List.not_mem_nil, or_assoc, or_false, false_or] at hp ⊢ <;> grind)))⟩, rfl⟩
                        case measure => (show u.length - (intOf (.int .i64 (((j + 1) : Nat) : Int))).toNat < u.length - (intOf (.int .i64 ((j : Nat) : Int))).toNat); simp only [intOf]; omega
                      | true =>
                        have h17 : ((fewS n).half) = 0 := of_decide_eq_true hd17
                        clear hd17
                        refine lm (v := .pointer (some ⟨g17, 2, none⟩)) rfl rfl ?_
                        refine lv (v := .int .u8 ((y16.half : Nat) : Int)) rfl rfl (yb_cell (off := 2) rfl (by kernel_rfl) (.tail _ (.head _)) Tryd.underlying5 rfl (by kernel_rfl)) ?_
                        refine lp (v := .bool (decide (y16.half = 1))) rfl rfl (run_bin rfl (vx := (.int .u8 ((y16.half : Nat) : Int))) (vy := (.int .u8 ((1 : Nat) : Int))) (by kernel_rfl) (by kernel_rfl) fun w => bn_eql rfl w) ?_
                        refine lm (v := .bool (decide (y16.half = 1))) rfl rfl ?_
                        refine lm (v := .bool (decide (y16.half = 1))) rfl rfl ?_
                        cases hd18 : (decide (y16.half = 1)) with
                        | false =>
                          have h18 : ¬ (y16.half = 1) := of_decide_eq_false hd18
                          clear hd18
                          refine ln rfl ?_
                          refine ln rfl ?_
                          refine ln rfl ?_
                          refine lm (v := .bool false) rfl rfl ?_
                          refine lm (v := .bool false) rfl rfl ?_
                          refine lm (v := .bool false) rfl rfl ?_
                          refine wpL_done (fun W47 hW47 => ?_)
                          refine (show Code.wp _ _ _ _ _ from ?_)
                          refine wp_region_L (W0 := W3) ((g21, .cells (sltC y20).toArray 34 (0, 0)) :: (g17, .cells (sltC y16).toArray 34 (0, 0)) :: (Kb ++ (Ku ++ Kl13))) (hW47) ?_
                          refine lp (v := .int .i64 (((j + 1) : Nat) : Int)) rfl rfl (run_bin rfl (vx := (.int .i64 ((j : Nat) : Int))) (vy := (.int .i64 ((1 : Nat) : Int))) (by kernel_rfl) (by kernel_rfl) fun w => bn_add (z := (j + 1)) rfl (wr_i64 (by omega)) w) ?_
                          refine lm (v := .int .i64 (((j + 1) : Nat) : Int)) rfl rfl ?_
                          refine wpL_done (fun W48 hW48 => ?_)
                          go_roundw
                          case rel =>
                            repeat apply Exists.intro
                            exact ⟨⟨j + 1, false, (by omega), (by rw [any_snoc hy20, ← Bool.or_assoc, ← hnf]; simp [pairB, h15, decide_eq_false h16, decide_eq_true h17, decide_eq_false h18]), rfl, rfl, (hW48.sub (fun p hp => by first | exact hp | (simp only [List.mem_cons, List.mem_append, List.nil_append, List.not_mem_nil, or_assoc, or_false, false_or] at hp ⊢ <;> grind)))⟩, rfl⟩
                          case measure => (show u.length - (intOf (.int .i64 (((j + 1) : Nat) : Int))).toNat < u.length - (intOf (.int .i64 ((j : Nat) : Int))).toNat); simp only [intOf]; omega
                        | true =>
                          have h18 : y16.half = 1 := of_decide_eq_true hd18
                          clear hd18
                          refine lm (v := .pointer (some ⟨g21, 2, none⟩)) rfl rfl ?_
                          refine lv (v := .int .u8 ((y20.half : Nat) : Int)) rfl rfl (yb_cell (off := 2) rfl (by kernel_rfl) (.head _) Tryd.underlying5 rfl (by kernel_rfl)) ?_
                          refine lp (v := .bool (decide (y20.half = 2))) rfl rfl (run_bin rfl (vx := (.int .u8 ((y20.half : Nat) : Int))) (vy := (.int .u8 ((2 : Nat) : Int))) (by kernel_rfl) (by kernel_rfl) fun w => bn_eql rfl w) ?_
                          refine lm (v := .bool (decide (y20.half = 2))) rfl rfl ?_
                          refine lm (v := .bool (decide (y20.half = 2))) rfl rfl ?_
                          refine lm (v := .bool (decide (y20.half = 2))) rfl rfl ?_
                          refine wpL_done (fun W49 hW49 => ?_)
                          refine (show Code.wp _ _ _ _ _ from ?_)
                          refine wp_region_L (W0 := W3) ((g21, .cells (sltC y20).toArray 34 (0, 0)) :: (g17, .cells (sltC y16).toArray 34 (0, 0)) :: (Kb ++ (Ku ++ Kl13))) (hW49) ?_
                          refine lp (v := .int .i64 (((j + 1) : Nat) : Int)) rfl rfl (run_bin rfl (vx := (.int .i64 ((j : Nat) : Int))) (vy := (.int .i64 ((1 : Nat) : Int))) (by kernel_rfl) (by kernel_rfl) fun w => bn_add (z := (j + 1)) rfl (wr_i64 (by omega)) w) ?_
                          refine lm (v := .int .i64 (((j + 1) : Nat) : Int)) rfl rfl ?_
                          refine wpL_done (fun W50 hW50 => ?_)
                          go_roundw
                          case rel =>
                            repeat apply Exists.intro
                            exact ⟨⟨j + 1, (decide (y20.half = 2)), (by omega), (by rw [any_snoc hy20, ← Bool.or_assoc, ← hnf]; simp [pairB, h15, decide_eq_false h16, decide_eq_true h17, decide_eq_true h18]), rfl, rfl, (hW50.sub (fun p hp => by first | exact hp | (simp only [List.mem_cons, List.mem_append, List.nil_append, List.not_mem_nil, or_assoc, or_false, false_or] at hp ⊢ <;> grind)))⟩, rfl⟩
                          case measure => (show u.length - (intOf (.int .i64 (((j + 1) : Nat) : Int))).toNat < u.length - (intOf (.int .i64 ((j : Nat) : Int))).toNat); simp only [intOf]; omega
                    | true =>
                      have h16 : y16.half = ((fewS n).half) := of_decide_eq_true hd16
                      clear hd16
                      refine ln rfl ?_
                      refine ln rfl ?_
                      refine ln rfl ?_
                      refine ln rfl ?_
                      refine ln rfl ?_
                      refine ln rfl ?_
                      refine ln rfl ?_
                      refine ln rfl ?_
                      refine ln rfl ?_
                      refine ln rfl ?_
                      refine ln rfl ?_
                      refine ln rfl ?_
                      refine ln rfl ?_
                      refine lm (v := .bool true) rfl rfl ?_
                      refine lm (v := .bool true) rfl rfl ?_
                      refine wpL_done (fun W51 hW51 => ?_)
                      refine (show Code.wp _ _ _ _ _ from ?_)
                      refine wp_region_L (W0 := W3) ((g21, .cells (sltC y20).toArray 34 (0, 0)) :: (g17, .cells (sltC y16).toArray 34 (0, 0)) :: (Kb ++ (Ku ++ Kl13))) (hW51) ?_
                      refine lp (v := .int .i64 (((j + 1) : Nat) : Int)) rfl rfl (run_bin rfl (vx := (.int .i64 ((j : Nat) : Int))) (vy := (.int .i64 ((1 : Nat) : Int))) (by kernel_rfl) (by kernel_rfl) fun w => bn_add (z := (j + 1)) rfl (wr_i64 (by omega)) w) ?_
                      refine lm (v := .int .i64 (((j + 1) : Nat) : Int)) rfl rfl ?_
                      refine wpL_done (fun W52 hW52 => ?_)
                      go_roundw
                      case rel =>
                        repeat apply Exists.intro
                        exact ⟨⟨j + 1, true, (by omega), (by rw [any_snoc hy20, ← Bool.or_assoc, ← hnf]; simp [pairB, h15, decide_eq_true h16]), rfl, rfl, (hW52.sub (fun p hp => by first | exact hp | (simp only [List.mem_cons, List.mem_append, List.nil_append, List.not_mem_nil, or_assoc, or_false, false_or] at hp ⊢ <;> grind)))⟩, rfl⟩
                      case measure => (show u.length - (intOf (.int .i64 (((j + 1) : Nat) : Int))).toNat < u.length - (intOf (.int .i64 ((j : Nat) : Int))).toNat); simp only [intOf]; omega
                  | true =>
                    refine ln rfl ?_
                    refine ln rfl ?_
                    refine ln rfl ?_
                    refine ln rfl ?_
                    refine ln rfl ?_
                    refine lm (v := .bool true) rfl rfl ?_
                    refine lm (v := .bool true) rfl rfl ?_
                    refine ln rfl ?_
                    refine ln rfl ?_
                    refine ln rfl ?_
                    refine ln rfl ?_
                    refine ln rfl ?_
                    refine ln rfl ?_
                    refine ln rfl ?_
                    refine ln rfl ?_
                    refine ln rfl ?_
                    refine ln rfl ?_
                    refine ln rfl ?_
                    refine ln rfl ?_
                    refine ln rfl ?_
                    refine lm (v := .bool true) rfl rfl ?_
                    refine lm (v := .bool true) rfl rfl ?_
                    refine wpL_done (fun W53 hW53 => ?_)
                    refine (show Code.wp _ _ _ _ _ from ?_)
                    refine wp_region_L (W0 := W3) ((g21, .cells (sltC y20).toArray 34 (0, 0)) :: (g17, .cells (sltC y16).toArray 34 (0, 0)) :: (Kb ++ (Ku ++ Kl13))) (hW53) ?_
                    refine lp (v := .int .i64 (((j + 1) : Nat) : Int)) rfl rfl (run_bin rfl (vx := (.int .i64 ((j : Nat) : Int))) (vy := (.int .i64 ((1 : Nat) : Int))) (by kernel_rfl) (by kernel_rfl) fun w => bn_add (z := (j + 1)) rfl (wr_i64 (by omega)) w) ?_
                    refine lm (v := .int .i64 (((j + 1) : Nat) : Int)) rfl rfl ?_
                    refine wpL_done (fun W54 hW54 => ?_)
                    go_roundw
                    case rel =>
                      repeat apply Exists.intro
                      exact ⟨⟨j + 1, true, (by omega), (by rw [any_snoc hy20, ← Bool.or_assoc, ← hnf]; simp [pairB, h15]), rfl, rfl, (hW54.sub (fun p hp => by first | exact hp | (simp only [List.mem_cons, List.mem_append, List.nil_append, List.not_mem_nil, or_assoc, or_false, false_or] at hp ⊢ <;> grind)))⟩, rfl⟩
                    case measure => (show u.length - (intOf (.int .i64 (((j + 1) : Nat) : Int))).toNat < u.length - (intOf (.int .i64 ((j : Nat) : Int))).toNat); simp only [intOf]; omega
        | true =>
          have h11 : ((fewS n).tier) = 0 := of_decide_eq_true hd11
          clear hd11
          refine wp_cond_true rfl ?_
          refine wp_seq ?_
          refine wp_region_L (W0 := W3) ((Kb ++ Ku) ++ Kl13) (hW33) ?_
          refine lm (v := .bool true) rfl rfl ?_
          refine lm (v := .bool true) rfl rfl ?_
          refine lv (v := .bool true) rfl rfl (yb_call (f := 11) (args := #[]) (fun _ => by kernel_rfl) fun W hW => awake8_any W (HE.out.keep (hb8.trans (hW.1.mono hb8.size)))) ?_
          refine lm (v := .bool true) rfl rfl ?_
          refine lm (v := .bool true) rfl rfl ?_
          refine wpL_done (fun W55 hW55 => ?_)
          refine (show Code.wp _ _ _ _ _ from ?_)
          refine wp_ret ?_
          try simp only [inBlock_ret, then_ret]
          refine bodyPost_ret (v := .bool true) ?_ rfl ?_
          · kernel_rfl
          · exact ⟨rfl, (hb8.trans (hW55.1.mono hb8.size))⟩
    | true =>
      have h1 : k < l.length := of_decide_eq_true hd1
      clear hd1
      refine wp_cond_true rfl ?_
      refine wp_skip ?_
      refine (show Code.wp _ _ _ _ _ from ?_)
      refine wp_seq ?_
      refine wp_block ?_
      refine wp_seq ?_
      refine wp_region_L (W0 := W3) (Ka ++ (Kb ++ Ku)) (hW7) ?_
      refine lm (v := .int .i64 ((k : Nat) : Int)) rfl rfl ?_
      refine lm (v := .int .i64 ((k : Nat) : Int)) rfl rfl ?_
      refine wpL_done (fun W56 hW56 => ?_)
      refine (show Code.wp _ _ _ _ _ from ?_)
      refine wp_seq ?_
      refine wp_region_L (W0 := W3) (Ka ++ (Kb ++ Ku)) (hW56) ?_
      refine lm (v := .func (.func 36) #[] #[]) rfl rfl ?_
      refine lm (v := .slice p l.length c) rfl rfl ?_
      refine lm (v := .int .i64 ((k : Nat) : Int)) rfl rfl ?_
      obtain ⟨y23, g23_, f23_, hy23, hp23, hc23⟩ := RL.at (RL.base HP8.out) u8C_len (by decide) (hW56.sub (fun _ h => by cases h)) (k := k) (by omega)
      have hb23 := hl8 _ (List.mem_of_getElem? hy23)
      refine lp (v := .pointer (some ⟨g23_, f23_ + k * 1, none⟩)) rfl rfl (run_idxQ (p := p) (cap := c) (n := l.length) (j := .i64) (k := k) (sz := 1) rfl Tryd.underlying78 (by kernel_rfl) (by kernel_rfl) hp23 (by kernel_rfl) (by omega)) ?_
      refine lv (v := .int .u8 ((y23 : Nat) : Int)) rfl rfl (yb_rf (v := .int .u8 ((y23 : Nat) : Int)) rfl (by kernel_rfl) (fun W hW => hc23 W (hW.sub (fun _ h => by cases h)) 0 _ rfl) Tryd.underlying5 rfl) ?_
      refine lp (v := .int .i64 ((y23 : Nat) : Int)) rfl rfl (run_conv rfl (vx := (.int .u8 ((y23 : Nat) : Int))) (by kernel_rfl) fun w => cv_int Tryd.underlying5 Tryd.underlying3 (wr_i64 (by omega)) w) ?_
      refine lv (v := .agg (sltC (fewS y23)).toArray) rfl rfl (yb_call (f := 36) (args := #[.int .i64 ((y23 : Nat) : Int)]) (fun _ => by kernel_rfl) fun W hW => fewH_any y23 (by omega) W) ?_
      refine wpL_new (fun g => .pointer (some ⟨g, 0, none⟩)) (obi := .cells #[.int .i64 0, .int .i64 0, .int .u8 0] 34 (0, 0)) rfl rfl (fun _ => by kernel_rfl) (fun _ => by simp only [List.setIfInBounds_toArray, List.set_cons_succ, List.set_cons_zero] <;> rfl) fun g24 Bg24 Fg24 => ?_
      obtain ⟨dj25_0, dj25_1, dj25_2⟩ : Dk g24 Ka ∧ Dk g24 Kb ∧ Dk g24 Ku := by simpa only [dj_app_l, dj_app_r, dj_cons_l, dj_cons_r, dj_nil_l, dj_nil_r, dk_app, dk_cons, dk_nil, and_true, true_and, and_assoc] using (show Dk g24 (Ka ++ (Kb ++ Ku)) from Fg24)
      refine wpL_s ((g24, .cells (sltC (fewS y23)).toArray 34 (0, 0)) :: (Ka ++ (Kb ++ Ku))) rfl rfl (st_row (off := 0) (v := .agg (sltC (fewS y23)).toArray) rfl (by kernel_rfl) (by kernel_rfl) (.head _) Bg24 (by kernel_rfl) (by first | (simp [Value.cells]; done) | exact Nat.le_of_ble_eq_true rfl) (fun v hv => sltC_one (fewS y23) v hv) (by kernel_rfl) (List.forall_mem_cons.2 ⟨.inl rfl, (fun p hp => .inr ⟨(.tail _ hp), ((show Dk g24 (Ka ++ (Kb ++ Ku)) from (by (try simp only [dj_app_l, dj_app_r, dj_cons_l, dj_cons_r, dj_nil_l, dj_nil_r, dk_app, dk_cons, dk_nil, and_true, true_and, and_assoc]); repeat' (first | trivial | assumption | exact Dj.symm (by assumption) | exact Ne.symm (by assumption) | apply And.intro))) _ hp)⟩)⟩)) ?_
      refine wpL_done (fun W57 hW57 => ?_)
      refine (show Code.wp _ _ _ _ _ from ?_)
      refine wp_seq ?_
      refine wp_region_L (W0 := W3) ((g24, .cells (sltC (fewS y23)).toArray 34 (0, 0)) :: (Ka ++ (Kb ++ Ku))) (hW57) ?_
      refine lm (v := va) rfl rfl ?_
      refine lv (v := .agg (sltC (fewS y23)).toArray) rfl rfl (yb_load (n := 3) (off := 0) rfl (by kernel_rfl) (.head _) Tryd.underlying34 rfl (by kernel_rfl) (by first | (simp [Value.cells]; done) | exact Nat.le_of_ble_eq_true rfl) (by kernel_rfl)) ?_
      refine wpL_new (fun g => .slice (some ⟨g, 0, none⟩) 1 1) (obi := .cells (sltC (fewS y23)).toArray 34 (0, 0)) rfl rfl (fun _ => by kernel_rfl) (fun _ => by simp only [List.setIfInBounds_toArray, List.set_cons_succ, List.set_cons_zero] <;> rfl) fun g26 Bg26 Fg26 => ?_
      obtain ⟨dj27_0, dj27_1, dj27_2, dj27_3⟩ : g24 ≠ g26 ∧ Dk g26 Ka ∧ Dk g26 Kb ∧ Dk g26 Ku := by simpa only [dj_app_l, dj_app_r, dj_cons_l, dj_cons_r, dj_nil_l, dj_nil_r, dk_app, dk_cons, dk_nil, and_true, true_and, and_assoc] using (show Dk g26 ((g24, .cells (sltC (fewS y23)).toArray 34 (0, 0)) :: (Ka ++ (Kb ++ Ku))) from Fg26)
      refine wpL_g (AppO W3 34 3 ((g24, .cells (sltC (fewS y23)).toArray 34 (0, 0)) :: (Kb ++ Ku)) (k + 1) (((fewL (l.take k)).flatMap sltC) ++ [.int .i64 ((fewS y23).col), .int .i64 ((fewS y23).tier), .int .u8 ((((fewS y23).half) : Nat) : Int)])) rfl rfl (app_own el_slt (m := 1) (c := 1) (news := [.int .i64 ((fewS y23).col), .int .i64 ((fewS y23).tier), .int .u8 ((((fewS y23).half) : Nat) : Int)]) rfl (by kernel_rfl) (by kernel_rfl) (.head _) hOa (fun p hp => by simp only [List.mem_cons, List.mem_append, List.nil_append, List.not_mem_nil, or_assoc, or_false, false_or, hp, or_true, true_or]) (fun p hp => ⟨by simp only [List.mem_cons, List.mem_append, List.nil_append, List.not_mem_nil, or_assoc, or_false, false_or] at hp ⊢ <;> grind, (show Dj ((g24, .cells (sltC (fewS y23)).toArray 34 (0, 0)) :: (Kb ++ Ku)) Ka from (by (try simp only [dj_app_l, dj_app_r, dj_cons_l, dj_cons_r, dj_nil_l, dj_nil_r, dk_app, dk_cons, dk_nil, and_true, true_and, and_assoc]); repeat' (first | trivial | assumption | exact Dj.symm (by assumption) | exact Ne.symm (by assumption) | apply And.intro))) p hp⟩) rfl (by simp [strV, Value.oneCell']) (by omega) (by omega) (by omega)) (fun _ => by simp only [List.setIfInBounds_toArray, List.set_cons_succ, List.set_cons_zero] <;> rfl) ?_
      rintro v28 K9 ⟨Kl28, O28, N28, rfl⟩
      obtain ⟨dj29_0, dj29_1, dj29_2⟩ : Dk g24 Kl28 ∧ Dj Kb Kl28 ∧ Dj Ku Kl28 := by simpa only [dj_app_l, dj_app_r, dj_cons_l, dj_cons_r, dj_nil_l, dj_nil_r, dk_app, dk_cons, dk_nil, and_true, true_and, and_assoc] using (show Dj ((g24, .cells (sltC (fewS y23)).toArray 34 (0, 0)) :: (Kb ++ Ku)) Kl28 from N28)
      refine lm (v := v28) rfl rfl ?_
      refine wpL_done (fun W58 hW58 => ?_)
      refine (show Code.wp _ _ _ _ _ from ?_)
      refine wp_seq ?_
      refine wp_region_L (W0 := W3) ((g24, .cells (sltC (fewS y23)).toArray 34 (0, 0)) :: ((Kb ++ Ku) ++ Kl28)) (hW58) ?_
      refine lm (v := vb) rfl rfl ?_
      refine lm (v := .func (.func 36) #[] #[]) rfl rfl ?_
      refine lm (v := .slice p l.length c) rfl rfl ?_
      refine lm (v := .slice p l.length c) rfl rfl ?_
      refine lp (v := .int .i64 ((l.length : Nat) : Int)) rfl rfl (run_lenL (p := p) (cap := c) (n := l.length) rfl Tryd.underlying78 (by kernel_rfl)) ?_
      refine lp (v := .int .i64 (((l.length - 1) : Nat) : Int)) rfl rfl (run_bin rfl (vx := (.int .i64 ((l.length : Nat) : Int))) (vy := (.int .i64 ((1 : Nat) : Int))) (by kernel_rfl) (by kernel_rfl) fun w => bn_sub (z := (l.length - 1)) rfl (by omega) (wr_i64 (by omega)) w) ?_
      refine lm (v := .int .i64 ((k : Nat) : Int)) rfl rfl ?_
      refine lp (v := .int .i64 ((((l.length - 1) - k) : Nat) : Int)) rfl rfl (run_bin rfl (vx := (.int .i64 (((l.length - 1) : Nat) : Int))) (vy := (.int .i64 ((k : Nat) : Int))) (by kernel_rfl) (by kernel_rfl) fun w => bn_sub (z := ((l.length - 1) - k)) rfl (by omega) (wr_i64 (by omega)) w) ?_
      obtain ⟨y30, g30_, f30_, hy30, hp30, hc30⟩ := RL.at (RL.base HP8.out) u8C_len (by decide) (hW58.sub (fun _ h => by cases h)) (k := ((l.length - 1) - k)) (by omega)
      have hb30 := hl8 _ (List.mem_of_getElem? hy30)
      refine lp (v := .pointer (some ⟨g30_, f30_ + ((l.length - 1) - k) * 1, none⟩)) rfl rfl (run_idxQ (p := p) (cap := c) (n := l.length) (j := .i64) (k := ((l.length - 1) - k)) (sz := 1) rfl Tryd.underlying78 (by kernel_rfl) (by kernel_rfl) hp30 (by kernel_rfl) (by omega)) ?_
      refine lv (v := .int .u8 ((y30 : Nat) : Int)) rfl rfl (yb_rf (v := .int .u8 ((y30 : Nat) : Int)) rfl (by kernel_rfl) (fun W hW => hc30 W (hW.sub (fun _ h => by cases h)) 0 _ rfl) Tryd.underlying5 rfl) ?_
      refine lp (v := .int .i64 ((y30 : Nat) : Int)) rfl rfl (run_conv rfl (vx := (.int .u8 ((y30 : Nat) : Int))) (by kernel_rfl) fun w => cv_int Tryd.underlying5 Tryd.underlying3 (wr_i64 (by omega)) w) ?_
      refine lv (v := .agg (sltC (fewS y30)).toArray) rfl rfl (yb_call (f := 36) (args := #[.int .i64 ((y30 : Nat) : Int)]) (fun _ => by kernel_rfl) fun W hW => fewH_any y30 (by omega) W) ?_
      refine wpL_new (fun g => .slice (some ⟨g, 0, none⟩) 1 1) (obi := .cells (sltC (fewS y30)).toArray 34 (0, 0)) rfl rfl (fun _ => by kernel_rfl) (fun _ => by simp only [List.setIfInBounds_toArray, List.set_cons_succ, List.set_cons_zero] <;> rfl) fun g31 Bg31 Fg31 => ?_
      obtain ⟨dj32_0, dj32_1, dj32_2, dj32_3⟩ : g24 ≠ g31 ∧ Dk g31 Kb ∧ Dk g31 Ku ∧ Dk g31 Kl28 := by simpa only [dj_app_l, dj_app_r, dj_cons_l, dj_cons_r, dj_nil_l, dj_nil_r, dk_app, dk_cons, dk_nil, and_true, true_and, and_assoc] using (show Dk g31 ((g24, .cells (sltC (fewS y23)).toArray 34 (0, 0)) :: ((Kb ++ Ku) ++ Kl28)) from Fg31)
      refine wpL_g (AppO W3 34 3 ((g24, .cells (sltC (fewS y23)).toArray 34 (0, 0)) :: (Ku ++ Kl28)) (k + 1) (((fewL (l.reverse.take k)).flatMap sltC) ++ [.int .i64 ((fewS y30).col), .int .i64 ((fewS y30).tier), .int .u8 ((((fewS y30).half) : Nat) : Int)])) rfl rfl (app_own el_slt (m := 1) (c := 1) (news := [.int .i64 ((fewS y30).col), .int .i64 ((fewS y30).tier), .int .u8 ((((fewS y30).half) : Nat) : Int)]) rfl (by kernel_rfl) (by kernel_rfl) (.head _) hOb (fun p hp => by simp only [List.mem_cons, List.mem_append, List.nil_append, List.not_mem_nil, or_assoc, or_false, false_or, hp, or_true, true_or]) (fun p hp => ⟨by simp only [List.mem_cons, List.mem_append, List.nil_append, List.not_mem_nil, or_assoc, or_false, false_or] at hp ⊢ <;> grind, (show Dj ((g24, .cells (sltC (fewS y23)).toArray 34 (0, 0)) :: (Ku ++ Kl28)) Kb from (by (try simp only [dj_app_l, dj_app_r, dj_cons_l, dj_cons_r, dj_nil_l, dj_nil_r, dk_app, dk_cons, dk_nil, and_true, true_and, and_assoc]); repeat' (first | trivial | assumption | exact Dj.symm (by assumption) | exact Ne.symm (by assumption) | apply And.intro))) p hp⟩) rfl (by simp [strV, Value.oneCell']) (by omega) (by omega) (by omega)) (fun _ => by simp only [List.setIfInBounds_toArray, List.set_cons_succ, List.set_cons_zero] <;> rfl) ?_
      rintro v33 K9 ⟨Kl33, O33, N33, rfl⟩
      obtain ⟨dj34_0, dj34_1, dj34_2⟩ : Dk g24 Kl33 ∧ Dj Ku Kl33 ∧ Dj Kl28 Kl33 := by simpa only [dj_app_l, dj_app_r, dj_cons_l, dj_cons_r, dj_nil_l, dj_nil_r, dk_app, dk_cons, dk_nil, and_true, true_and, and_assoc] using (show Dj ((g24, .cells (sltC (fewS y23)).toArray 34 (0, 0)) :: (Ku ++ Kl28)) Kl33 from N33)
      refine lm (v := v33) rfl rfl ?_
      refine wpL_done (fun W59 hW59 => ?_)
      refine (show Code.wp _ _ _ _ _ from ?_)
      refine wp_seq ?_
      refine wp_region_L (W0 := W3) ((g24, .cells (sltC (fewS y23)).toArray 34 (0, 0)) :: ((Ku ++ Kl28) ++ Kl33)) (hW59) ?_
      refine lv (v := .agg (sltC (fewS n)).toArray) rfl rfl (yb_rs (off := 0) (cs := _) rfl (by kernel_rfl) (fun W hW => ((HG8.out).keep hW.1).2) Tryd.underlying34 rfl (by kernel_rfl)) ?_
      refine lv (v := .agg (sltC (fewS y23)).toArray) rfl rfl (yb_load (n := 3) (off := 0) rfl (by kernel_rfl) (.head _) Tryd.underlying34 rfl (by kernel_rfl) (by first | (simp [Value.cells]; done) | exact Nat.le_of_ble_eq_true rfl) (by kernel_rfl)) ?_
      refine lv (v := .bool (overS (fewS n) (fewS y23))) rfl rfl (yb_call (f := 23) (args := #[.agg (sltC (fewS n)).toArray, .agg (sltC (fewS y23)).toArray]) (fun _ => by kernel_rfl) fun W hW => Over_any (fewS n) (fewS y23) W) ?_
      refine lm (v := .bool (overS (fewS n) (fewS y23))) rfl rfl ?_
      cases h19 : (overS (fewS n) (fewS y23)) with
      | false =>
        refine ln rfl ?_
        refine ln rfl ?_
        refine ln rfl ?_
        refine ln rfl ?_
        refine ln rfl ?_
        refine ln rfl ?_
        refine lm (v := .bool false) rfl rfl ?_
        refine wpL_done (fun W60 hW60 => ?_)
        refine (show Code.wp _ _ _ _ _ from ?_)
        refine wp_cond_false rfl ?_
        refine wp_skip ?_
        refine (show Code.wp _ _ _ _ _ from ?_)
        refine wp_region_L (W0 := W3) ((g24, .cells (sltC (fewS y23)).toArray 34 (0, 0)) :: ((Ku ++ Kl28) ++ Kl33)) (hW60) ?_
        refine lp (v := .int .i64 (((k + 1) : Nat) : Int)) rfl rfl (run_bin rfl (vx := (.int .i64 ((k : Nat) : Int))) (vy := (.int .i64 ((1 : Nat) : Int))) (by kernel_rfl) (by kernel_rfl) fun w => bn_add (z := (k + 1)) rfl (wr_i64 (by omega)) w) ?_
        refine lm (v := .int .i64 (((k + 1) : Nat) : Int)) rfl rfl ?_
        refine wpL_done (fun W61 hW61 => ?_)
        go_roundw
        case rel =>
          repeat apply Exists.intro
          exact ⟨⟨k + 1, v28, v33, vu, Kl28, Kl33, Ku, (by omega), (by rw [few_snoc hy23, List.flatMap_append]; exact O28), (by rw [back_snoc (by omega) (show l[l.length - 1 - k]? = some _ from hy30), List.flatMap_append]; exact O33), (by rw [few_snoc hy23, und_no (und_not1 h19)]; exact hOu), (show Dj Kl28 Kl33 from (by (try simp only [dj_app_l, dj_app_r, dj_cons_l, dj_cons_r, dj_nil_l, dj_nil_r, dk_app, dk_cons, dk_nil, and_true, true_and, and_assoc]); repeat' (first | trivial | assumption | exact Dj.symm (by assumption) | exact Ne.symm (by assumption) | apply And.intro))), (show Dj Kl28 Ku from (by (try simp only [dj_app_l, dj_app_r, dj_cons_l, dj_cons_r, dj_nil_l, dj_nil_r, dk_app, dk_cons, dk_nil, and_true, true_and, and_assoc]); repeat' (first | trivial | assumption | exact Dj.symm (by assumption) | exact Ne.symm (by assumption) | apply And.intro))), (show Dj Kl33 Ku from (by (try simp only [dj_app_l, dj_app_r, dj_cons_l, dj_cons_r, dj_nil_l, dj_nil_r, dk_app, dk_cons, dk_nil, and_true, true_and, and_assoc]); repeat' (first | trivial | assumption | exact Dj.symm (by assumption) | exact Ne.symm (by assumption) | apply And.intro))), rfl, rfl, rfl, rfl, (hW61.sub (fun p hp => by first | exact hp | (simp only [List.mem_cons, List.mem_append, List.nil_append, List.not_mem_nil, or_assoc, or_false, false_or] at hp ⊢ <;> grind)))⟩, rfl⟩
        case measure => (show l.length - (intOf (.int .i64 (((k + 1) : Nat) : Int))).toNat < l.length - (intOf (.int .i64 ((k : Nat) : Int))).toNat); simp only [intOf]; omega
      | true =>
        refine lm (v := .pointer (some ⟨g24, 1, none⟩)) rfl rfl ?_
        refine lv (v := .int .i64 ((fewS y23).tier)) rfl rfl (yb_cell (off := 1) rfl (by kernel_rfl) (.head _) Tryd.underlying3 rfl (by kernel_rfl)) ?_
        refine lm (v := .pointer (some ⟨g1, 1, none⟩)) rfl rfl ?_
        refine lv (v := .int .i64 ((fewS n).tier)) rfl rfl (yb_rf (v := .int .i64 ((fewS n).tier)) rfl (by kernel_rfl) (fun W hW => ((HG8.out).keep hW.1).2 1 _ rfl) Tryd.underlying3 rfl) ?_
        refine lp (v := .int .i64 (((fewS n).tier) - 1)) rfl rfl (run_bin rfl (vx := (.int .i64 ((fewS n).tier))) (vy := (.int .i64 1)) (by kernel_rfl) (by kernel_rfl) fun w => bi_sub (z := (((fewS n).tier) - 1)) rfl (wi_i64 (by omega)) w) ?_
        refine lp (v := .bool (decide (((fewS y23).tier) = (((fewS n).tier) - 1)))) rfl rfl (run_bin rfl (vx := (.int .i64 ((fewS y23).tier))) (vy := (.int .i64 (((fewS n).tier) - 1))) (by kernel_rfl) (by kernel_rfl) fun w => bi_eql rfl w) ?_
        refine lm (v := .bool (decide (((fewS y23).tier) = (((fewS n).tier) - 1)))) rfl rfl ?_
        refine wpL_done (fun W62 hW62 => ?_)
        refine (show Code.wp _ _ _ _ _ from ?_)
        cases hd20 : (decide (((fewS y23).tier) = (((fewS n).tier) - 1))) with
        | false =>
          have h20 : ¬ (((fewS y23).tier) = (((fewS n).tier) - 1)) := of_decide_eq_false hd20
          clear hd20
          refine wp_cond_false rfl ?_
          refine wp_skip ?_
          refine (show Code.wp _ _ _ _ _ from ?_)
          refine wp_region_L (W0 := W3) ((g24, .cells (sltC (fewS y23)).toArray 34 (0, 0)) :: ((Ku ++ Kl28) ++ Kl33)) (hW62) ?_
          refine lp (v := .int .i64 (((k + 1) : Nat) : Int)) rfl rfl (run_bin rfl (vx := (.int .i64 ((k : Nat) : Int))) (vy := (.int .i64 ((1 : Nat) : Int))) (by kernel_rfl) (by kernel_rfl) fun w => bn_add (z := (k + 1)) rfl (wr_i64 (by omega)) w) ?_
          refine lm (v := .int .i64 (((k + 1) : Nat) : Int)) rfl rfl ?_
          refine wpL_done (fun W63 hW63 => ?_)
          go_roundw
          case rel =>
            repeat apply Exists.intro
            exact ⟨⟨k + 1, v28, v33, vu, Kl28, Kl33, Ku, (by omega), (by rw [few_snoc hy23, List.flatMap_append]; exact O28), (by rw [back_snoc (by omega) (show l[l.length - 1 - k]? = some _ from hy30), List.flatMap_append]; exact O33), (by rw [few_snoc hy23, und_no (und_not2 h20)]; exact hOu), (show Dj Kl28 Kl33 from (by (try simp only [dj_app_l, dj_app_r, dj_cons_l, dj_cons_r, dj_nil_l, dj_nil_r, dk_app, dk_cons, dk_nil, and_true, true_and, and_assoc]); repeat' (first | trivial | assumption | exact Dj.symm (by assumption) | exact Ne.symm (by assumption) | apply And.intro))), (show Dj Kl28 Ku from (by (try simp only [dj_app_l, dj_app_r, dj_cons_l, dj_cons_r, dj_nil_l, dj_nil_r, dk_app, dk_cons, dk_nil, and_true, true_and, and_assoc]); repeat' (first | trivial | assumption | exact Dj.symm (by assumption) | exact Ne.symm (by assumption) | apply And.intro))), (show Dj Kl33 Ku from (by (try simp only [dj_app_l, dj_app_r, dj_cons_l, dj_cons_r, dj_nil_l, dj_nil_r, dk_app, dk_cons, dk_nil, and_true, true_and, and_assoc]); repeat' (first | trivial | assumption | exact Dj.symm (by assumption) | exact Ne.symm (by assumption) | apply And.intro))), rfl, rfl, rfl, rfl, (hW63.sub (fun p hp => by first | exact hp | (simp only [List.mem_cons, List.mem_append, List.nil_append, List.not_mem_nil, or_assoc, or_false, false_or] at hp ⊢ <;> grind)))⟩, rfl⟩
          case measure => (show l.length - (intOf (.int .i64 (((k + 1) : Nat) : Int))).toNat < l.length - (intOf (.int .i64 ((k : Nat) : Int))).toNat); simp only [intOf]; omega
        | true =>
          have h20 : ((fewS y23).tier) = (((fewS n).tier) - 1) := of_decide_eq_true hd20
          clear hd20
          refine wp_cond_true rfl ?_
          refine wp_region_L (W0 := W3) ((g24, .cells (sltC (fewS y23)).toArray 34 (0, 0)) :: ((Ku ++ Kl28) ++ Kl33)) (hW62) ?_
          refine lm (v := vu) rfl rfl ?_
          refine lv (v := .agg (sltC (fewS y23)).toArray) rfl rfl (yb_load (n := 3) (off := 0) rfl (by kernel_rfl) (.head _) Tryd.underlying34 rfl (by kernel_rfl) (by first | (simp [Value.cells]; done) | exact Nat.le_of_ble_eq_true rfl) (by kernel_rfl)) ?_
          refine wpL_new (fun g => .slice (some ⟨g, 0, none⟩) 1 1) (obi := .cells (sltC (fewS y23)).toArray 34 (0, 0)) rfl rfl (fun _ => by kernel_rfl) (fun _ => by simp only [List.setIfInBounds_toArray, List.set_cons_succ, List.set_cons_zero] <;> rfl) fun g35 Bg35 Fg35 => ?_
          obtain ⟨dj36_0, dj36_1, dj36_2, dj36_3⟩ : g24 ≠ g35 ∧ Dk g35 Ku ∧ Dk g35 Kl28 ∧ Dk g35 Kl33 := by simpa only [dj_app_l, dj_app_r, dj_cons_l, dj_cons_r, dj_nil_l, dj_nil_r, dk_app, dk_cons, dk_nil, and_true, true_and, and_assoc] using (show Dk g35 ((g24, .cells (sltC (fewS y23)).toArray 34 (0, 0)) :: ((Ku ++ Kl28) ++ Kl33)) from Fg35)
          refine wpL_g (AppO W3 34 3 ((g24, .cells (sltC (fewS y23)).toArray 34 (0, 0)) :: (Kl28 ++ Kl33)) ((((fewL (l.take k)).filter (undB (fewS n))).length) + 1) ((((fewL (l.take k)).filter (undB (fewS n))).flatMap sltC) ++ [.int .i64 ((fewS y23).col), .int .i64 ((fewS y23).tier), .int .u8 ((((fewS y23).half) : Nat) : Int)])) rfl rfl (app_own el_slt (m := 1) (c := 1) (news := [.int .i64 ((fewS y23).col), .int .i64 ((fewS y23).tier), .int .u8 ((((fewS y23).half) : Nat) : Int)]) rfl (by kernel_rfl) (by kernel_rfl) (.head _) hOu (fun p hp => by simp only [List.mem_cons, List.mem_append, List.nil_append, List.not_mem_nil, or_assoc, or_false, false_or, hp, or_true, true_or]) (fun p hp => ⟨by simp only [List.mem_cons, List.mem_append, List.nil_append, List.not_mem_nil, or_assoc, or_false, false_or] at hp ⊢ <;> grind, (show Dj ((g24, .cells (sltC (fewS y23)).toArray 34 (0, 0)) :: (Kl28 ++ Kl33)) Ku from (by (try simp only [dj_app_l, dj_app_r, dj_cons_l, dj_cons_r, dj_nil_l, dj_nil_r, dk_app, dk_cons, dk_nil, and_true, true_and, and_assoc]); repeat' (first | trivial | assumption | exact Dj.symm (by assumption) | exact Ne.symm (by assumption) | apply And.intro))) p hp⟩) rfl (by simp [strV, Value.oneCell']) (by omega) (by omega) (by omega)) (fun _ => by simp only [List.setIfInBounds_toArray, List.set_cons_succ, List.set_cons_zero] <;> rfl) ?_
          rintro v37 K9 ⟨Kl37, O37, N37, rfl⟩
          obtain ⟨dj38_0, dj38_1, dj38_2⟩ : Dk g24 Kl37 ∧ Dj Kl28 Kl37 ∧ Dj Kl33 Kl37 := by simpa only [dj_app_l, dj_app_r, dj_cons_l, dj_cons_r, dj_nil_l, dj_nil_r, dk_app, dk_cons, dk_nil, and_true, true_and, and_assoc] using (show Dj ((g24, .cells (sltC (fewS y23)).toArray 34 (0, 0)) :: (Kl28 ++ Kl33)) Kl37 from N37)
          refine lm (v := v37) rfl rfl ?_
          refine wpL_done (fun W64 hW64 => ?_)
          refine (show Code.wp _ _ _ _ _ from ?_)
          refine wp_region_L (W0 := W3) ((g24, .cells (sltC (fewS y23)).toArray 34 (0, 0)) :: ((Kl28 ++ Kl33) ++ Kl37)) (hW64) ?_
          refine lp (v := .int .i64 (((k + 1) : Nat) : Int)) rfl rfl (run_bin rfl (vx := (.int .i64 ((k : Nat) : Int))) (vy := (.int .i64 ((1 : Nat) : Int))) (by kernel_rfl) (by kernel_rfl) fun w => bn_add (z := (k + 1)) rfl (wr_i64 (by omega)) w) ?_
          refine lm (v := .int .i64 (((k + 1) : Nat) : Int)) rfl rfl ?_
          refine wpL_done (fun W65 hW65 => ?_)
          go_roundw
          case rel =>
            repeat apply Exists.intro
            exact ⟨⟨k + 1, v28, v33, v37, Kl28, Kl33, Kl37, (by omega), (by rw [few_snoc hy23, List.flatMap_append]; exact O28), (by rw [back_snoc (by omega) (show l[l.length - 1 - k]? = some _ from hy30), List.flatMap_append]; exact O33), (by rw [few_snoc hy23, und_yes (und_is h19 h20), List.flatMap_append, List.length_append]; exact O37), (show Dj Kl28 Kl33 from (by (try simp only [dj_app_l, dj_app_r, dj_cons_l, dj_cons_r, dj_nil_l, dj_nil_r, dk_app, dk_cons, dk_nil, and_true, true_and, and_assoc]); repeat' (first | trivial | assumption | exact Dj.symm (by assumption) | exact Ne.symm (by assumption) | apply And.intro))), (show Dj Kl28 Kl37 from (by (try simp only [dj_app_l, dj_app_r, dj_cons_l, dj_cons_r, dj_nil_l, dj_nil_r, dk_app, dk_cons, dk_nil, and_true, true_and, and_assoc]); repeat' (first | trivial | assumption | exact Dj.symm (by assumption) | exact Ne.symm (by assumption) | apply And.intro))), (show Dj Kl33 Kl37 from (by (try simp only [dj_app_l, dj_app_r, dj_cons_l, dj_cons_r, dj_nil_l, dj_nil_r, dk_app, dk_cons, dk_nil, and_true, true_and, and_assoc]); repeat' (first | trivial | assumption | exact Dj.symm (by assumption) | exact Ne.symm (by assumption) | apply And.intro))), rfl, rfl, rfl, rfl, (hW65.sub (fun p hp => by first | exact hp | (simp only [List.mem_cons, List.mem_append, List.nil_append, List.not_mem_nil, or_assoc, or_false, false_or] at hp ⊢ <;> grind)))⟩, rfl⟩
          case measure => (show l.length - (intOf (.int .i64 (((k + 1) : Nat) : Int))).toNat < l.length - (intOf (.int .i64 ((k : Nat) : Int))).toNat); simp only [intOf]; omega
end Go.Proofs.YthpooalhibedpaaDoor
/- A row with a condition of its own and listed variables. -/
namespace Go.Proofs.YthpooalhibedpaaDoor
open Go.ChangeShapes Go.WideShapes Go.ChangeAt Go.RowKit Tw
open Go
theorem handed_cond_laid {H : Type} {enc : TypeId × Value → H} {a : Assume} {C : Checked} {os : Os} {f : FuncId} {fn : Func} {s : OpenSpec} {k : (H : Type) → List (DataW H) → Bool} (hk : s.cond = some k) {F : Stop.Interp} {conds : List PathCond} {apart fresh handsOn again : Bool} {X : World → Prop}
    (hX : ∀ (w w' : World), w.heap = w'.heap → X w → X w')
    (own : ownKnob C.prog.godebug = none) (started : os.Started) (noInit : C.prog.inits.idxOf? f = none) (hfn : C.prog.funcs[f]? = some fn)
    (witness : ∃ (w : World) (tape : Tape) (i : Input), w.os = os ∧ (w.forCall tape i).Shaped C.prog ∧ i.vars = [] ∧ Input.okWide C.prog (w.forCall tape i) .any w.heap.size f i ∧
      ((s.pre enc C.prog fn conds apart (w.forCall tape i).memory i.args ∧ X (w.forCall tape i).memory) ∧ sizedMet enc C.prog fn s apart (w.forCall tape i).memory i.args) ∧ a.holds C.prog (lone (Frame.enter C.prog f i.args .normal) [] (w.forCall tape i)))
    (contract : ∀ (W : World) (base : Nat) (args : Array Value) (ds gs : List (DataW H)) (before : List MemPlace),
      (∀ (j : Nat) t v, fn.params[j]? = some t → args[j]? = some v → Value.okWide C.prog W .any base t v) →
      DataW.Whole enc C.prog fn.params.toList s.vars apart W args.toList ds gs before → X W → k H (ds ++ gs) = true →
      (DataW.weightsEach C.prog (fn.params.toList ++ s.bare.plain.varTypes C.prog) (ds ++ gs)).all (· ≤ reachBytes) = true →
      Calls C.prog f args W fun e W' => ∃ v, e = .returned v ∧ (s.at F).post enc C.prog fn apart fresh handsOn again W args v W') :
    ReturnsInHanded a C os f .any (fun w args => (s.pre enc C.prog fn conds apart w args ∧ X w) ∧ sizedMet enc C.prog fn s apart w args) ((s.at F).post enc C.prog fn apart fresh handsOn again) := by
  refine returnsInHanded_of_calls own started noInit witness fun w tape i _ _ _ hok hpre _ => ?_
  obtain ⟨_, _, _, fn', hfn', _, _, _, _, hval⟩ := hok
  obtain rfl : fn' = fn := Option.some.inj (hfn'.symm.trans hfn)
  obtain ⟨⟨hp1, hx⟩, hz⟩ := hpre
  obtain ⟨ds, gs, before, hw, _, hkk⟩ := (OpenSpec.pre_some hk conds apart _ _).1 hp1
  refine (contract (w.forCall tape i) w.heap.size i.args ds gs before hval (DataW.Whole.of_heap (w' := w.forCall tape i) (by rfl) hw) (hX _ _ (by rfl) hx) hkk (hz.weights hw)).mono fun e W' ⟨v, he, hp⟩ => ?_
  subst he
  exact ChangeSpec.post_blind hp
theorem cond_witness_shaped {H : Type} {enc : TypeId × Value → H} {C : Checked} {os : Os} {f : FuncId} {fn : Func} {s : OpenSpec} {k : (H : Type) → List (DataW H) → Bool} (hk : s.cond = some k) {conds : List PathCond} {apart : Bool} {X : World → Prop} (modest : Bool) (w0 : World) (args : Array Value) (fuel : Nat) (hos : w0.os = os)
    (hsh : (w0.forCall (fun _ _ => 0) ⟨#[], args, []⟩).Shaped C.prog)
    (hok : Input.okWideB C.prog (w0.forCall (fun _ _ => 0) ⟨#[], args, []⟩) f ⟨#[], args, []⟩ = true)
    {x : List (DataW H) × List (DataW H) × List MemPlace} (hx : DataW.whole enc C.prog (w0.forCall (fun _ _ => 0) ⟨#[], args, []⟩).memory fn.params.toList s.vars apart args.toList fuel = some x)
    (hconds : conds.all (PathCond.test C.prog ⟨fn.params.toList, x.1, s.bare.plain.varTypes C.prog, x.2.1⟩) = true) (hkk : k H (x.1 ++ x.2.1) = true)
    (hsz : s.bare.sizedB enc C.prog fn apart (w0.forCall (fun _ _ => 0) ⟨#[], args, []⟩).memory args fuel = true)
    (hX : X (w0.forCall (fun _ _ => 0) ⟨#[], args, []⟩).memory) :
    ∃ (w : World) (tape : Tape) (i : Input), w.os = os ∧ (w.forCall tape i).Shaped C.prog ∧ i.vars = [] ∧ Input.okWide C.prog (w.forCall tape i) .any w.heap.size f i ∧
      ((s.pre enc C.prog fn conds apart (w.forCall tape i).memory i.args ∧ X (w.forCall tape i).memory) ∧ sizedMet enc C.prog fn s apart (w.forCall tape i).memory i.args) ∧ ({ modest := modest } : Assume).holds C.prog (lone (Frame.enter C.prog f i.args .normal) [] (w.forCall tape i)) :=
  ⟨w0, fun _ _ => 0, ⟨#[], args, []⟩, hos, hsh, (Input.okWide_of_okWideB (base := 0) hok).1, (Input.okWide_of_okWideB hok).2,
    ⟨⟨(OpenSpec.pre_some hk conds apart _ _).2 ⟨x.1, x.2.1, x.2.2, DataW.Whole_of_whole hx, hconds, hkk⟩, hX⟩, sizedMet_of_sizedB hsz⟩, by
    simp only [Assume.holds]
    exact ⟨by simp, by simp, fun _ => Modest.zero, by simp, by simp⟩⟩
theorem bulk_one {H : Type} (d : DataW H) : 1 ≤ Rows.uptoBulk d := by
  cases d with
  | lit l => cases l <;> first | exact Nat.le_add_left 1 _ | exact Nat.le_refl 1
  | _ => first | exact Nat.le_add_left 1 _ | exact Nat.le_refl 1
theorem bulk_len {H : Type} (l : List (DataW H)) : l.length ≤ Rows.uptoBulkAll l := by
  induction l with
  | nil => exact Nat.zero_le _
  | cons d l ih =>
    have := bulk_one d
    simp only [List.length_cons, Rows.uptoBulkAll]
    omega
theorem bulk_list {P : Program} {H : Type} {enc : TypeId × Value → H} {W : World} {t e : TypeId} {v : Value} {d : DataW H} {ps : List MemPlace} {base : Nat} (ht : P.underlying t = some (.slice e))
    (hv : Value.okWide P W .any base t v) (h0 : DataW.Trod enc P W 0 (fun _ => true) true t v d ps) : ∃ (p : Option Addr) (cap n : Nat), v = .slice p n cap ∧ n ≤ Rows.uptoBulk d := by
  obtain ⟨a0, len0, cap0, rfl⟩ := okWide_slice ht hv
  obtain ⟨fuel, hf⟩ := h0
  refine ⟨a0, cap0, len0, rfl, ?_⟩
  have hcs : (Value.slice a0 len0 cap0).cells.toList = [.slice a0 len0 cap0] := by simp [Value.cells]
  rw [hcs] at hf
  rcases DataW.trod_slice ht hf with ⟨h1, _⟩ | ⟨a, len, cap, elems, rest, n, _, h1, hx, hb, hl, hm, hlen, hel, _, _⟩
  · have : len0 = 0 := by simp at h1; exact h1.2.1
    omega
  · have e1 : len0 = len := by simp at h1; exact h1.2.1
    have hx2 := congrArg Prod.fst hx
    simp only at hx2
    rw [hx2]
    show len0 ≤ Rows.uptoBulkAll _ + Rows.uptoBulkAll _ + 1
    have := bulk_len (elems.map (·.1))
    rw [List.length_map] at this
    omega
theorem opens_u8c : OpensW Tryd.prog 5 u8C (fun _ n => n ≤ 255) := by
  intro H enc w base sp held fuel cs x h
  obtain ⟨z, hz, hz1, hz2⟩ := fld_int (P := Tryd.prog) Tryd.underlying5 h
  have m1 : IntKind.u8.min = 0 := by decide
  have m2 : IntKind.u8.max = 255 := by decide
  rw [m1] at hz1; rw [m2] at hz2
  subst hz
  exact ⟨z.toNat, by simp [u8C, Int.toNat_of_nonneg hz1], by show z.toNat ≤ 255; omega⟩
end Go.Proofs.YthpooalhibedpaaDoor
/- SlotHeld holds for every input of bulk at most 1048576 (values and letters, each counted each time it is reached): the program's own answer is true, wherever the listed variables are as the program's text lays them; each argument reads afterwards as it read before. -/
namespace Go.Proofs.YthpooalhibedpaaDoor
open Go.ChangeShapes Go.WideShapes Go.ChangeAt Go.RowKit Tw
set_option maxRecDepth 100000 in
theorem slotHeld_lifted (os : Os) (started : os.Started) (H : Type) (enc : TypeId × Value → H) (F : Stop.Interp) :
    ReturnsInHanded {} Tryd.checked os 8 .any (fun w args => ((Rows.OpenSpec.upto Rows.slotHeldSpec).pre enc Tryd.prog Tryd.f8 Rows.slotHeldUptoRow.domain false w args ∧ laidMetH Tryd.prog laidN w) ∧ sizedMet enc Tryd.prog Tryd.f8 (Rows.OpenSpec.upto Rows.slotHeldSpec) false w args) (((Rows.OpenSpec.upto Rows.slotHeldSpec).at F).post enc Tryd.prog Tryd.f8 false true false false) := by
  refine handed_cond_laid (C := Tryd.checked) (s := Rows.OpenSpec.upto Rows.slotHeldSpec) (k := Rows.uptoSmall) rfl (X := fun w => laidMetH Tryd.prog laidN w) (fun _ _ hh h => h.of_heap hh) own started (by kernel_rfl) Tryd.func8
    (cond_witness_shaped (enc := enc) (C := Tryd.checked) (os := os) (s := Rows.OpenSpec.upto Rows.slotHeldSpec) (k := Rows.uptoSmall) rfl (X := fun w => laidMetH Tryd.prog laidN w) false (World.doorLaid Tryd.prog 1000 os) #[.int .u16 0, .slice none 0 0, .int .u8 0] 8 rfl (World.shaped_of_RefB (by kernel_rfl) (by kernel_rfl)) (by kernel_rfl)
      (x := ([.lit (.int .u16 0), .nil, .lit (.int .u8 0)], [], [])) (by kernel_rfl) rfl (by kernel_rfl) (by kernel_rfl) (door_met os _)) ?_
  intro W base args ds gs before hval0 hW hL hk hsz
  have hval : ∀ (j : Nat) t v, Tryd.f8.params[j]? = some t → args[j]? = some v → Value.okWide Tryd.prog W .any base t v := hval0
  have hW2 := hW
  obtain ⟨p, q, hA0, hV, rfl, hfz, hnd⟩ := hW2
  have hA : DataW.TrodAll enc Tryd.prog W 0 (fun _ => true) true Tryd.f8.params.toList args.toList ds p := hA0
  rw [Tryd.params8] at hA hval
  obtain ⟨v0, vs0, d0, ds0, p0, q0, hargs, rfl, rfl, h0, r0⟩ := trodAll_cons hA
  obtain ⟨v1, vs1, d1, ds1, p1, q1, rfl, rfl, rfl, h1, r1⟩ := trodAll_cons r0
  obtain ⟨v2, vs2, d2, ds2, p2, q2, rfl, rfl, rfl, h2, r2⟩ := trodAll_cons r1
  obtain ⟨rfl, rfl, rfl⟩ := trodAll_nil r2
  obtain rfl : args = #[v0, v1, v2] := by cases args; simp_all
  obtain ⟨rfl, rfl⟩ := trodVars_none hV
  obtain ⟨a0, rfl, rfl, rfl, w0⟩ := open_int Tryd.underlying77 (hval 0 77 v0 rfl rfl) h0
  have rr0 : 0 ≤ a0 ∧ a0 ≤ 65535 := of_wf w0
  obtain ⟨n0, rfl⟩ : ∃ n : Nat, a0 = (n : Int) := ⟨a0.toNat, by omega⟩
  have k1 := h1
  obtain ⟨bp1, bc1, bn1, be1, bk1⟩ := bulk_list Tryd.underlying78 (hval 1 78 v1 rfl rfl) h1
  have lt1 : ∀ x ∈ p1, x.block < W.heap.size := by obtain ⟨m, hm⟩ := k1; exact DataW.trod_lt m _ _ _ hm
  obtain ⟨p1_, c1, l1, rfl, ok1⟩ := open_recsS (sz := 1) (by_ := 1) Tryd.underlying78 (OpensS.of opens_u8c) (by kernel_rfl) (by omega) (fun _ => rfl) (by kernel_rfl) (hval 1 78 v1 rfl rfl) h1 (sized_par (j := 1) (t := 78) hsz rfl rfl)
  obtain ⟨a2, rfl, rfl, rfl, w2⟩ := open_int Tryd.underlying5 (hval 2 5 v2 rfl rfl) h2
  have rr2 : 0 ≤ a2 ∧ a2 ≤ 255 := of_wf w2
  obtain ⟨n2, rfl⟩ : ∃ n : Nat, a2 = (n : Int) := ⟨a2.toNat, by omega⟩
  have hk2 := of_decide_eq_true hk
  simp only [List.cons_append, List.nil_append, List.append_nil, Rows.uptoBulkAll] at hk2
  have bq1 : l1.length = bn1 := by injection be1
  clear hA0 hval0
  refine (SlotHeld_any n0 n2 (by omega) (by omega) l1 p1_ c1 (by omega) ok1.1.2.1 W ok1.1.1 (env_of hL)).mono fun e W' ⟨he, bel⟩ => ?_
  subst he
  exact ⟨_, rfl, _, _, _, [], _, [], hW, (trodAll_cons_mk (shut_bool Tryd.underlying4 _) trodAll_mk0), (trodAll_cons_mk (shut_int Tryd.underlying77 w0) (trodAll_cons_mk (Below.trod laidOut (by kernel_rfl) (of_decide_eq_true (by kernel_rfl)) k1 bel lt1) (trodAll_cons_mk (shut_int Tryd.underlying5 w2) trodAll_mk0))), rfl, bel.frame _, fun h => by cases h⟩
theorem slotHeld_said : Rows.SlotHeldUptoSaid :=
  OpenClaim.holds_of_cond 8 Tryd.f8 rfl rfl rfl rfl rfl rfl rfl ⟨rfl, rfl, rfl, rfl, rfl⟩ rfl rfl rfl rfl rfl (by kernel_rfl) Tryd.func8 (by kernel_rfl)
    (of_decide_eq_true (by kernel_rfl)) (by unfold Func.isWrapper; first | (rw [if_pos (by decide +kernel)]; kernel_rfl) | (rw [if_neg (by decide +kernel)]; exact ⟨rfl, rfl⟩))
    (fun os started H enc _ F => slotHeld_lifted os started H enc F)
theorem slotHeld_proved : Rows.SlotHeldUptoCardSaid :=
  Claim7.holds_tied_plain_at .later [] [.data] true Rows.slotHeldUptoCard.stood.harness Rows.slotHeldUptoCard.stood.looks
    slotHeld_said (fun _ h => by cases h) (by kernel_rfl) (fun _ h => by cases h) slotHeldUpto_row_tie rfl ⟨rfl, rfl⟩ (by kernel_rfl) rfl
    (fun f fn hf hfn => by
      obtain rfl : f = 8 := Option.some.inj ((show Tryd.prog.funcNamed "twistlock/twistlocklaw08.SlotHeld" = some 8 by kernel_rfl).symm.trans hf) |>.symm
      obtain rfl : fn = Tryd.f8 := (Option.some.inj (Tryd.func8.symm.trans hfn)).symm
      exact ⟨by kernel_rfl, fun j t ht => by
        rw [Tryd.params8] at ht
        have hm : t ∈ [77, 78, 5] := by simpa using Array.mem_of_getElem? ht
        have hall : ([77, 78, 5].all fun u => !Tryd.prog.wantsStandIn u) = true := by kernel_rfl
        exact (show Tryd.prog.wantsStandIn t = false by simpa using List.all_eq_true.1 hall t hm)⟩)
    (by kernel_rfl)
#print axioms slotHeld_proved
end Go.Proofs.YthpooalhibedpaaDoor
