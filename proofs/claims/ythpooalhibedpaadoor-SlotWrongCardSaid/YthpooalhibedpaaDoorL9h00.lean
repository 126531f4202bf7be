import Derived.Test.YthpooalhibedpaaDoorG05
import Derived.Test.YthpooalhibedpaaDoorG01
/- Part of the proof: L9f, L8p, L8q, L9b, L9c, TB. -/
set_option linter.unusedVariables false
set_option linter.unusedSimpArgs false
set_option linter.unusedSectionVars false
/- Ships that are not right, slots that there are not, texts that are no names. -/
namespace Go.Proofs.YthpooalhibedpaaDoor
open Go Go.RowKit Tw
section
variable {cs : List Col} {os : List Cov} {x : Slt} {l : List UInt8}
theorem name_bad (h : rightX cs os = false) (x : Slt) : nameR cs os x = ([], 2) := by
  unfold nameR; rw [if_neg (by rw [h]; decide)]
theorem find_bad (h : rightX cs os = false) (l : List UInt8) : findR cs os l = (slt0, 2) := by
  unfold findR; rw [if_neg (by rw [h]; decide)]
theorem name_none (hr : rightX cs os = true) (h : isSlot cs x = false) : nameR cs os x = ([], 6) := by
  unfold nameR; rw [if_pos hr, if_neg (by rw [h]; decide)]
theorem name_some (hr : rightX cs os = true) (h : isSlot cs x = true) : nameR cs os x = (nameX cs x, 0) := by
  unfold nameR; rw [if_pos hr, if_pos h]
theorem find_no (hr : rightX cs os = true) (h : placeB l = false) : findR cs os l = (slt0, 80) := by
  unfold findR; rw [if_pos hr, if_neg (by rw [h]; decide)]
theorem is_noex (h : exS cs x.col x.tier = false) : isSlot cs x = false := by
  unfold isSlot rightS; rw [h]; rfl
theorem is_nohalf (h : 2 < x.half) : isSlot cs x = false := by
  cases hq : isSlot cs x with
  | false => rfl
  | true => obtain ⟨_, _, _, _, _, _, h2⟩ := slot_at hq; omega
theorem ex_nocol {n t : Int} (h : n < 0 ∨ ((cs.length : Nat) : Int) ≤ n) : exS cs n t = false := by
  cases hq : exS cs n t with
  | false => rfl
  | true =>
    obtain ⟨j, c, hj, hn, _⟩ := exS_iff.1 hq
    have := (List.getElem?_eq_some_iff.1 hj).1
    omega
theorem ex_notier (hg : ∀ c ∈ cs, c.tiers ≤ 10) {n t : Int} (h : 10 ≤ t) : exS cs n t = false := by
  cases hq : exS cs n t with
  | false => rfl
  | true =>
    obtain ⟨j, c, hj, _, _, h2⟩ := exS_iff.1 hq
    have := hg c (List.mem_of_getElem? hj)
    omega
theorem slots_is {z k : Nat} (h : (slotsX cs z)[k]? = some x) (hz : z = 20 ∨ z = 40) : isSlot cs x = true := by
  have h1 := slots_mem.1 (List.mem_of_getElem? h)
  unfold isSlot
  rcases hz with rfl | rfl
  · rw [h1]; rfl
  · rw [h1, Bool.or_true]
theorem posT_pos {c : Col} (hc : c ∈ cs) (h : 1 ≤ c.tiers) : 1 ≤ posT cs := by
  induction cs with
  | nil => cases hc
  | cons d cs ih =>
    simp only [posT]
    rcases List.mem_cons.1 hc with rfl | hc
    · omega
    · have := ih hc; omega
theorem slots_40 {c : Col} (hc : c ∈ cs) (h : 1 ≤ c.tiers) : 0 < (slotsX cs 40).length := by
  rw [slots_len]
  have h1 := posT_pos hc h
  have h2 : (hsX 40).length = 1 := rfl
  rw [h2]; omega
theorem nameX_len (cs : List Col) (x : Slt) : (nameX cs x).length = 7 := rfl
theorem place_len (h : l.length ≠ 7) : placeB l = false := by
  unfold placeB digsOk; rw [decide_eq_false h]; rfl
theorem place_dg {k : Nat} {b : UInt8} (h : l[k]? = some b) (hb : isDg b = false) : placeB l = false := by
  have h1 : l.all isDg = false := by
    cases hq : l.all isDg with
    | false => rfl
    | true =>
      have := List.all_eq_true.1 hq b (List.mem_of_getElem? h)
      rw [hb] at this; cases this
  unfold placeB digsOk; rw [h1, Bool.and_false]; rfl
theorem nodg_lo {b : UInt8} (h : b.toNat < 48) : isDg b = false := by
  unfold isDg; rw [decide_eq_false (by omega)]; rfl
theorem nodg_hi {b : UInt8} (h : 57 < b.toNat) : isDg b = false := by
  unfold isDg; rw [decide_eq_false (p := b.toNat ≤ 57) (by omega), Bool.and_false]
theorem find_what (hr : rightX cs os = true) (l : List UInt8) : ∃ (y : Slt) (e : Nat), findR cs os l = (y, e) ∧ ((e = 0 ∧ nameR cs os y = (l, 0)) ∨ (e ≠ 0 ∧ y = slt0)) ∧ (placeB l = false → e = 80) := by
  rcases find_cases cs os l with ⟨h, _⟩ | ⟨_, hp, h⟩ | ⟨_, hp, h⟩ | ⟨_, hp, h⟩
  · rw [hr] at h; cases h
  · exact ⟨_, _, h, .inr ⟨by decide, rfl⟩, fun _ => rfl⟩
  · refine ⟨(findR cs os l).1, 0, Prod.ext rfl h, .inl ⟨rfl, ?_⟩, fun e => by rw [hp] at e; cases e⟩
    obtain ⟨h1, h2, _⟩ := name_find (x := (findR cs os l).1) hr (Prod.ext rfl h)
    rw [name_some hr h1, h2]
  · exact ⟨_, _, h, .inr ⟨by decide, rfl⟩, fun e => by rw [hp] at e; cases e⟩
end
end Go.Proofs.YthpooalhibedpaaDoor
/- The order of slots. -/
namespace Go.Proofs.YthpooalhibedpaaDoor
open Go Go.RowKit Tw
def fewS (m : Nat) : Slt := ⟨((m % 2 : Nat) : Int), ((m / 2 % 4 : Nat) : Int), m / 8 % 3⟩
structure Tri where
  a : Slt
  b : Slt
  c : Slt
def triC (t : Tri) : List Value := sltC t.a ++ (sltC t.b ++ sltC t.c)
theorem triC_len (t : Tri) : (triC t).length = 9 := rfl
theorem triC_one (t : Tri) : ∀ v ∈ triC t, v.oneCell' = true := fun v hv => by
  simp only [triC, List.mem_append] at hv
  rcases hv with hv | hv | hv
  · exact sltC_one _ v hv
  · exact sltC_one _ v hv
  · exact sltC_one _ v hv
theorem cmp_anti (a b : Slt) : cmpS a b = -cmpS b a := by
  rcases cmpS_cases a b with ⟨h, e⟩ | ⟨h, e⟩ | ⟨h, e⟩
  · rw [e, cmpS_gt h]
  · subst h; rw [cmpS_eq]; rfl
  · rw [e, cmpS_lt h]; rfl
theorem cmp_zero (a b : Slt) : cmpS a b = 0 ↔ eqS a b = true := by
  rw [eqS_iff]
  constructor
  · intro h0
    rcases cmpS_cases a b with ⟨h, e⟩ | ⟨h, e⟩ | ⟨h, e⟩
    · omega
    · exact h
    · omega
  · rintro rfl; exact cmpS_eq a
theorem cmp_tr {a b c : Slt} (h1 : cmpS a b < 0) (h2 : cmpS b c < 0) : cmpS a c < 0 := by
  rcases cmpS_cases a b with ⟨h, e⟩ | ⟨h, e⟩ | ⟨h, e⟩
  · rcases cmpS_cases b c with ⟨g, f⟩ | ⟨g, f⟩ | ⟨g, f⟩
    · rw [cmpS_lt (ltS_trans h g)]; omega
    · omega
    · omega
  · omega
  · omega
theorem cmp_rng (a b : Slt) : -1 ≤ cmpS a b ∧ cmpS a b ≤ 1 := by
  rcases cmpS_cases a b with ⟨h, e⟩ | ⟨h, e⟩ | ⟨h, e⟩ <;> omega
theorem ovl_comm (a b : Nat) : ovl a b = ovl b a := by
  unfold ovl
  rw [Bool.eq_iff_iff]
  simp only [Bool.or_eq_true, decide_eq_true_eq]
  omega
theorem meet_comm (a b : Slt) : meetS a b = meetS b a := by
  unfold meetS
  rw [ovl_comm, show decide (a.col = b.col) = decide (b.col = a.col) from by rw [decide_eq_decide]; exact eq_comm, show decide (a.tier = b.tier) = decide (b.tier = a.tier) from by rw [decide_eq_decide]; exact eq_comm]
theorem meet_self (a : Slt) : meetS a a = true := by simp [meetS, ovl]
theorem over_self (a : Slt) : overS a a = false := by simp [overS]
theorem over_iff {a b : Slt} : overS a b = true ↔ a.col = b.col ∧ b.tier < a.tier ∧ (a.half = b.half ∨ a.half = 0 ∨ b.half = 0) := by
  simp [overS, ovl]
theorem meet_iff {a b : Slt} : meetS a b = true ↔ a.col = b.col ∧ a.tier = b.tier ∧ (a.half = b.half ∨ a.half = 0 ∨ b.half = 0) := by
  simp [meetS, ovl]
theorem meet_over {a b : Slt} (h : meetS a b = true) (h2 : overS a b = true) : False := by
  have := meet_iff.1 h; have := over_iff.1 h2; omega
theorem over_anti {a b : Slt} (h : overS a b = true) (h2 : overS b a = true) : False := by
  have := over_iff.1 h; have := over_iff.1 h2; omega
theorem over_one {a b : Slt} (h : overS a b = true) : cmpS a b = 1 := by
  have := over_iff.1 h
  exact cmpS_gt (.inr ⟨this.1.symm, .inl this.2.1⟩)
theorem over_tr {a b c : Slt} (h : overS a b = true) (h2 : overS b c = true) (h3 : overS a c = false) : b.half = 0 ∧ a.half ≠ c.half ∧ a.half ≠ 0 ∧ c.half ≠ 0 := by
  have h := over_iff.1 h
  have h2 := over_iff.1 h2
  have h3 : ¬ (a.col = c.col ∧ c.tier < a.tier ∧ (a.half = c.half ∨ a.half = 0 ∨ c.half = 0)) := fun e => by rw [over_iff.2 e] at h3; cases h3
  omega
end Go.Proofs.YthpooalhibedpaaDoor
namespace Go.Proofs.YthpooalhibedpaaDoor
open Go Go.RowKit Tw
theorem un_neg {P : Program} {k : IntKind} {n z : Int} (h : -n = z) (hw : k.wrap z = z) (w : World) : (Op.unary .neg (.int k n) : Sem Value).run P w = .ok (.int k z) w := by
  subst h
  simp [Op.unary, Op.intArith, Int.zero_sub, hw]
theorem cel_part {W : World} {g : Nat} {cs ds : List Value} (h : ∀ (j : Nat) (v : Value), cs[j]? = some v → W.cell? ⟨g, 0 + j, none⟩ = some v) (off : Nat) (he : (cs.drop off).take ds.length = ds) : ∀ (j : Nat) (v : Value), ds[j]? = some v → W.cell? ⟨g, off + j, none⟩ = some v := fun j v hv => by
  have h1 : j < ds.length := (List.getElem?_eq_some_iff.1 hv).1
  have h2 : cs[off + j]? = some v := by
    rw [← he, List.getElem?_take_of_lt h1, List.getElem?_drop] at hv
    exact hv
  have := h (off + j) v h2
  rwa [Nat.zero_add] at this
theorem el_tri : Elem Tryd.prog 75 74 9 72 (.agg #[.int .i64 0, .int .i64 0, .int .u8 0, .int .i64 0, .int .i64 0, .int .u8 0, .int .i64 0, .int .i64 0, .int .u8 0]) := Elem.mk' Tryd.underlying75 (by kernel_rfl) rfl
set_option maxRecDepth 100000 in
set_option maxHeartbeats 4000000 in
theorem fewO_any (k n g : Nat) (hk : k ≤ 2) (hn : n ≤ 4294967295) (w : World) (h1 : CapR w g [.int .u32 ((n : Nat) : Int)]) : Calls Tryd.prog 35 #[.int .i64 ((k : Nat) : Int), .pointer (some ⟨g, 0, none⟩)] w fun e w' => e = .returned (.agg (sltC (fewS (n / 2 ^ (8 * k) % 256))).toArray) ∧ Below w.heap.size w w' := by
  have H1 := Lib.hid h1
  clear h1
  have hd := Nat.div_le_self n (2 ^ (8 * k))
  go_enter Tryd.func35, Tryd.ntmps35
  refine wp_seq ?_
  refine wp_region_L (W0 := w) [] (KS.start w) ?_
  refine wpL_new (fun g => .pointer (some ⟨g, 0, none⟩)) (obi := .cells #[.int .i64 0, .int .i64 0, .int .u8 0] 34 (0, 0)) rfl rfl (fun _ => by kernel_rfl) (fun _ => by simp only [List.setIfInBounds_toArray, List.set_cons_succ, List.set_cons_zero] <;> rfl) fun g21 Bg21 Fg21 => ?_
  refine wpL_done (fun W1 hW1 => ?_)
  refine (show Code.wp _ _ _ _ _ from ?_)
  refine wp_seq ?_
  refine wp_region_L (W0 := w) [(g21, .cells #[.int .i64 0, .int .i64 0, .int .u8 0] 34 (0, 0))] (hW1) ?_
  refine lv (v := .int .u32 ((n : Nat) : Int)) rfl rfl (yb_rf (v := .int .u32 ((n : Nat) : Int)) rfl (by kernel_rfl) (fun W hW => ((H1.out).keep hW.1).2 0 _ rfl) Tryd.underlying61 rfl) ?_
  refine lm (v := .int .i64 ((k : Nat) : Int)) rfl rfl ?_
  refine lp (v := .int .i64 (((8 * k) : Nat) : Int)) rfl rfl (run_bin rfl (vx := (.int .i64 ((8 : Nat) : Int))) (vy := (.int .i64 ((k : Nat) : Int))) (by kernel_rfl) (by kernel_rfl) fun w => bn_mul (z := (8 * k)) rfl (wr_i64 (by omega)) w) ?_
  refine lp (v := .int .u32 (((n / 2 ^ (8 * k)) : Nat) : Int)) rfl rfl (run_bin rfl (vx := (.int .u32 ((n : Nat) : Int))) (vy := (.int .i64 (((8 * k) : Nat) : Int))) (by kernel_rfl) (by kernel_rfl) fun w => bn_shr (z := (n / 2 ^ (8 * k))) rfl (by first | omega | decide | (simp only [IntKind.bits]; omega)) w) ?_
  refine lp (v := .int .u32 ((((n / 2 ^ (8 * k)) % 256) : Nat) : Int)) rfl rfl (run_bin rfl (vx := (.int .u32 (((n / 2 ^ (8 * k)) : Nat) : Int))) (vy := (.int .u32 ((255 : Nat) : Int))) (by kernel_rfl) (by kernel_rfl) fun w => bn_and (z := ((n / 2 ^ (8 * k)) % 256)) (Nat.and_two_pow_sub_one_eq_mod _ 8) (by rw [show IntKind.u32.bits = 32 from rfl]; exact Nat.lt_of_le_of_lt (Nat.div_le_self _ _) (by omega)) (by decide) (wr_u32 (by omega)) w) ?_
  refine lp (v := .int .i64 ((((n / 2 ^ (8 * k)) % 256) : Nat) : Int)) rfl rfl (run_conv rfl (vx := (.int .u32 ((((n / 2 ^ (8 * k)) % 256) : Nat) : Int))) (by kernel_rfl) fun w => cv_int Tryd.underlying61 Tryd.underlying3 (wr_i64 (by omega)) w) ?_
  refine lm (v := .int .i64 ((((n / 2 ^ (8 * k)) % 256) : Nat) : Int)) rfl rfl ?_
  refine wpL_done (fun W2 hW2 => ?_)
  refine (show Code.wp _ _ _ _ _ from ?_)
  refine wp_seq ?_
  refine wp_region_L (W0 := w) [(g21, .cells #[.int .i64 0, .int .i64 0, .int .u8 0] 34 (0, 0))] (hW2) ?_
  refine lm (v := .int .i64 ((((n / 2 ^ (8 * k)) % 256) : Nat) : Int)) rfl rfl ?_
  refine lp (v := .int .i64 (((((n / 2 ^ (8 * k)) % 256) % 2) : Nat) : Int)) rfl rfl (run_bin rfl (vx := (.int .i64 ((((n / 2 ^ (8 * k)) % 256) : Nat) : Int))) (vy := (.int .i64 ((2 : Nat) : Int))) (by kernel_rfl) (by kernel_rfl) fun w => bn_rem (z := (((n / 2 ^ (8 * k)) % 256) % 2)) rfl (by omega) w) ?_
  refine lm (v := .int .i64 ((((n / 2 ^ (8 * k)) % 256) : Nat) : Int)) rfl rfl ?_
  refine lp (v := .int .i64 (((((n / 2 ^ (8 * k)) % 256) / 2) : Nat) : Int)) rfl rfl (run_bin rfl (vx := (.int .i64 ((((n / 2 ^ (8 * k)) % 256) : Nat) : Int))) (vy := (.int .i64 ((2 : Nat) : Int))) (by kernel_rfl) (by kernel_rfl) fun w => bn_quo (z := (((n / 2 ^ (8 * k)) % 256) / 2)) rfl (by omega) (wr_i64 (by omega)) w) ?_
  refine lp (v := .int .i64 ((((((n / 2 ^ (8 * k)) % 256) / 2) % 4) : Nat) : Int)) rfl rfl (run_bin rfl (vx := (.int .i64 (((((n / 2 ^ (8 * k)) % 256) / 2) : Nat) : Int))) (vy := (.int .i64 ((4 : Nat) : Int))) (by kernel_rfl) (by kernel_rfl) fun w => bn_rem (z := ((((n / 2 ^ (8 * k)) % 256) / 2) % 4)) rfl (by omega) w) ?_
  refine lm (v := .int .i64 ((((n / 2 ^ (8 * k)) % 256) : Nat) : Int)) rfl rfl ?_
  refine lp (v := .int .i64 (((((n / 2 ^ (8 * k)) % 256) / 8) : Nat) : Int)) rfl rfl (run_bin rfl (vx := (.int .i64 ((((n / 2 ^ (8 * k)) % 256) : Nat) : Int))) (vy := (.int .i64 ((8 : Nat) : Int))) (by kernel_rfl) (by kernel_rfl) fun w => bn_quo (z := (((n / 2 ^ (8 * k)) % 256) / 8)) rfl (by omega) (wr_i64 (by omega)) w) ?_
  refine lp (v := .int .i64 ((((((n / 2 ^ (8 * k)) % 256) / 8) % 3) : Nat) : Int)) rfl rfl (run_bin rfl (vx := (.int .i64 (((((n / 2 ^ (8 * k)) % 256) / 8) : Nat) : Int))) (vy := (.int .i64 ((3 : Nat) : Int))) (by kernel_rfl) (by kernel_rfl) fun w => bn_rem (z := ((((n / 2 ^ (8 * k)) % 256) / 8) % 3)) rfl (by omega) w) ?_
  refine lp (v := .int .u8 ((((((n / 2 ^ (8 * k)) % 256) / 8) % 3) : Nat) : Int)) rfl rfl (run_conv rfl (vx := (.int .i64 ((((((n / 2 ^ (8 * k)) % 256) / 8) % 3) : Nat) : Int))) (by kernel_rfl) fun w => cv_int Tryd.underlying3 Tryd.underlying5 (wr_u8 (by omega)) w) ?_
  refine lm (v := .agg #[.int .i64 (((((n / 2 ^ (8 * k)) % 256) % 2) : Nat) : Int), .int .i64 ((((((n / 2 ^ (8 * k)) % 256) / 2) % 4) : Nat) : Int), .int .u8 ((((((n / 2 ^ (8 * k)) % 256) / 8) % 3) : Nat) : Int)]) rfl rfl ?_
  refine wpL_s [(g21, .cells #[.int .i64 (((((n / 2 ^ (8 * k)) % 256) % 2) : Nat) : Int), .int .i64 ((((((n / 2 ^ (8 * k)) % 256) / 2) % 4) : Nat) : Int), .int .u8 ((((((n / 2 ^ (8 * k)) % 256) / 8) % 3) : Nat) : Int)] 34 (0, 0))] rfl rfl (st_row (off := 0) (v := .agg #[.int .i64 (((((n / 2 ^ (8 * k)) % 256) % 2) : Nat) : Int), .int .i64 ((((((n / 2 ^ (8 * k)) % 256) / 2) % 4) : Nat) : Int), .int .u8 ((((((n / 2 ^ (8 * k)) % 256) / 8) % 3) : Nat) : Int)]) rfl (by kernel_rfl) (by kernel_rfl) (.head _) Bg21 (by kernel_rfl) (by first | (simp [Value.cells]; done) | exact Nat.le_of_ble_eq_true rfl) (by intro v hv; simp [Value.cells] at hv; first | (subst hv; rfl) | (rcases hv with rfl | rfl | rfl <;> rfl)) (by kernel_rfl) (List.forall_mem_cons.2 ⟨.inl rfl, (List.forall_mem_nil _)⟩)) ?_
  refine wpL_done (fun W3 hW3 => ?_)
  refine (show Code.wp _ _ _ _ _ from ?_)
  refine wp_ret ?_
  try simp only [inBlock_ret, then_ret]
  refine bodyPost_ret (v := .agg #[.int .i64 (((((n / 2 ^ (8 * k)) % 256) % 2) : Nat) : Int), .int .i64 ((((((n / 2 ^ (8 * k)) % 256) / 2) % 4) : Nat) : Int), .int .u8 ((((((n / 2 ^ (8 * k)) % 256) / 8) % 3) : Nat) : Int)]) ?_ rfl ?_
  · exact (res_cell (p := 3) rfl rfl (hW3.2 _ (.head _)) Tryd.underlying34 rfl (by kernel_rfl))
  · exact ⟨rfl, hW3.1⟩
end Go.Proofs.YthpooalhibedpaaDoor
/- What holds a slot of a few. -/
namespace Go.Proofs.YthpooalhibedpaaDoor
open Go Go.RowKit Tw
def fewL (l : List Nat) : List Slt := l.map fewS
def undB (x y : Slt) : Bool := overS x y && decide (y.tier = x.tier - 1)
def pairB (x y z : Slt) : Bool := decide (y.half = x.half) || (decide (x.half = 0) && (decide (y.half = 1) && decide (z.half = 2)))
def needB (x : Slt) (u : List Slt) : Bool := u.any fun y => u.any (pairB x y)
theorem fewL_len (l : List Nat) : (fewL l).length = l.length := List.length_map _
theorem fewS_in (m : Nat) : (0 ≤ (fewS m).tier ∧ (fewS m).tier ≤ 3) ∧ (fewS m).half ≤ 2 := by
  unfold fewS
  refine ⟨⟨?_, ?_⟩, ?_⟩ <;> simp only <;> omega
theorem fewS_ok (m : Nat) : sltOk (fewS m) := by
  unfold sltOk fewS
  refine ⟨⟨?_, ?_⟩, ⟨?_, ?_⟩, ?_⟩ <;> simp only <;> omega
theorem few_snoc {l : List Nat} {k n : Nat} (h : l[k]? = some n) : fewL (l.take (k + 1)) = fewL (l.take k) ++ [fewS n] := by
  obtain ⟨hk, rfl⟩ := List.getElem?_eq_some_iff.1 h
  unfold fewL
  rw [List.take_succ_eq_append_getElem hk, List.map_append]; rfl
theorem back_snoc {l : List Nat} {k n : Nat} (hk : k < l.length) (h : l[l.length - 1 - k]? = some n) : fewL (l.reverse.take (k + 1)) = fewL (l.reverse.take k) ++ [fewS n] :=
  few_snoc (by rw [List.getElem?_reverse hk]; exact h)
theorem und_yes {x : Slt} {l : List Slt} {y : Slt} (h : undB x y = true) : (l ++ [y]).filter (undB x) = l.filter (undB x) ++ [y] := by
  rw [List.filter_append, List.filter_cons_of_pos h, List.filter_nil]
theorem und_no {x : Slt} {l : List Slt} {y : Slt} (h : undB x y = false) : (l ++ [y]).filter (undB x) = l.filter (undB x) := by
  rw [List.filter_append, List.filter_cons_of_neg (by rw [h]; decide), List.filter_nil, List.append_nil]
theorem und_is {x y : Slt} (h1 : overS x y = true) (h2 : y.tier = x.tier - 1) : undB x y = true := by unfold undB; rw [h1, decide_eq_true h2]; rfl
theorem und_not1 {x y : Slt} (h1 : overS x y = false) : undB x y = false := by unfold undB; rw [h1]; rfl
theorem und_not2 {x y : Slt} (h2 : ¬ y.tier = x.tier - 1) : undB x y = false := by unfold undB; rw [decide_eq_false h2, Bool.and_false]
theorem und_len (x : Slt) (l : List Slt) : (l.filter (undB x)).length ≤ l.length := List.length_filter_le _ _
theorem belowS_congr {x : Slt} {l m : List Slt} {h : Nat} (he : (⟨x.col, x.tier - 1, h⟩ : Slt) ∈ l ↔ (⟨x.col, x.tier - 1, h⟩ : Slt) ∈ m) : belowS x l h = belowS x m h := by
  rw [Bool.eq_iff_iff, belowS_iff, belowS_iff]; exact he
theorem held_mem {x : Slt} {l m : List Slt} (he : ∀ y, y ∈ l ↔ y ∈ m) : heldS x l = heldS x m := by
  unfold heldS
  rw [belowS_congr (he _), belowS_congr (he _), belowS_congr (he _)]
theorem held_back (x : Slt) (l : List Nat) : heldS x (fewL l.reverse) = heldS x (fewL l) :=
  held_mem fun y => by unfold fewL; rw [List.map_reverse, List.mem_reverse]
theorem held_under (x : Slt) (l : List Slt) : heldS x (l.filter (undB x)) = heldS x l := by
  have key : ∀ h : Nat, (h = x.half ∨ x.half = 0) → belowS x (l.filter (undB x)) h = belowS x l h := fun h hh => belowS_congr (by
    rw [List.mem_filter]
    refine and_iff_left ?_
    unfold undB
    rw [Bool.and_eq_true, over_iff]
    refine ⟨⟨rfl, by show x.tier - 1 < x.tier; omega, ?_⟩, decide_eq_true rfl⟩
    rcases hh with rfl | h0
    · exact .inl rfl
    · exact .inr (.inl h0))
  unfold heldS
  rw [key _ (.inl rfl)]
  by_cases h0 : x.half = 0
  · rw [key 1 (.inr h0), key 2 (.inr h0)]
  · rw [decide_eq_false h0, Bool.false_and, Bool.false_and]
theorem held_more {x z : Slt} {l : List Slt} (h : heldS x l = true) : heldS x (l ++ [z]) = true := by
  have key : ∀ h : Nat, belowS x l h = true → belowS x (l ++ [z]) h = true := fun h hh => by
    rw [belowS_iff] at hh ⊢
    exact List.mem_append_left _ hh
  unfold heldS at *
  simp only [Bool.or_eq_true, Bool.and_eq_true] at *
  rcases h with h | h | ⟨h1, h2, h3⟩
  · exact .inl h
  · exact .inr (.inl (key _ h))
  · exact .inr (.inr ⟨h1, key _ h2, key _ h3⟩)
theorem held_low {x : Slt} {l : List Slt} (h : x.tier = 0) : heldS x l = true := by
  unfold heldS
  rw [decide_eq_true (by omega)]; rfl
theorem und_col {x y : Slt} {l : List Slt} (h : y ∈ l.filter (undB x)) : y = ⟨x.col, x.tier - 1, y.half⟩ ∧ y ∈ l := by
  obtain ⟨h1, h2⟩ := List.mem_filter.1 h
  unfold undB at h2
  rw [Bool.and_eq_true, over_iff, decide_eq_true_eq] at h2
  obtain ⟨⟨h3, _⟩, h4⟩ := h2
  obtain ⟨c, t, f⟩ := y
  simp only at h3 h4
  subst h3 h4
  exact ⟨rfl, h1⟩
theorem und_of {x : Slt} {l : List Slt} {h : Nat} (hh : h = x.half ∨ x.half = 0) (hm : (⟨x.col, x.tier - 1, h⟩ : Slt) ∈ l) : (⟨x.col, x.tier - 1, h⟩ : Slt) ∈ l.filter (undB x) := by
  refine List.mem_filter.2 ⟨hm, ?_⟩
  unfold undB
  rw [Bool.and_eq_true, over_iff]
  refine ⟨⟨rfl, by show x.tier - 1 < x.tier; omega, ?_⟩, decide_eq_true rfl⟩
  rcases hh with rfl | h0
  · exact .inl rfl
  · exact .inr (.inl h0)
theorem pair_iff {x y z : Slt} : pairB x y z = true ↔ y.half = x.half ∨ (x.half = 0 ∧ y.half = 1 ∧ z.half = 2) := by
  unfold pairB
  simp only [Bool.or_eq_true, Bool.and_eq_true, decide_eq_true_eq]
theorem need_iff {x : Slt} {u : List Slt} : needB x u = true ↔ ∃ y ∈ u, ∃ z ∈ u, pairB x y z = true := by
  unfold needB
  simp only [List.any_eq_true]
theorem held_need {x : Slt} {l : List Slt} (ht : 0 < x.tier) : heldS x l = needB x (l.filter (undB x)) := by
  rw [Bool.eq_iff_iff, need_iff]
  unfold heldS
  rw [decide_eq_false (by omega), Bool.false_or, Bool.or_eq_true, Bool.and_eq_true, Bool.and_eq_true, decide_eq_true_eq, belowS_iff, belowS_iff, belowS_iff]
  constructor
  · rintro (h | ⟨h0, h1, h2⟩)
    · exact ⟨_, und_of (.inl rfl) h, _, und_of (.inl rfl) h, pair_iff.2 (.inl rfl)⟩
    · exact ⟨_, und_of (.inr h0) h1, _, und_of (.inr h0) h2, pair_iff.2 (.inr ⟨h0, rfl, rfl⟩)⟩
  · rintro ⟨y, hy, z, hz, hp⟩
    obtain ⟨e1, m1⟩ := und_col hy
    obtain ⟨e2, m2⟩ := und_col hz
    rcases pair_iff.1 hp with h | ⟨h0, h1, h2⟩
    · rw [h] at e1; exact .inl (e1 ▸ m1)
    · rw [h1] at e1; rw [h2] at e2
      exact .inr ⟨h0, e1 ▸ m1, e2 ▸ m2⟩
theorem any_snoc {α : Type} {l : List α} {k : Nat} {y : α} {p : α → Bool} (h : l[k]? = some y) : (l.take (k + 1)).any p = ((l.take k).any p || p y) := by
  obtain ⟨hk, rfl⟩ := List.getElem?_eq_some_iff.1 h
  rw [List.take_succ_eq_append_getElem hk, List.any_append]
  simp
end Go.Proofs.YthpooalhibedpaaDoor
namespace Go.Proofs.YthpooalhibedpaaDoor
open Go Go.RowKit Tw
section
variable {P : Program} {md : Region.Mode} {ops : Array Oper} {Q : Exit → Act → World → Prop} {W0 : Base}
def storesWaitD (md : Region.Mode) (ops : Array Oper) (i : Nat) : Bool :=
  (List.range ops.size).all fun j => match ops[j]? with
    | some o => !isStore o || waits md ops 9 j i
    | none => true
theorem storesWaitD_spec {i : Nat} (h : storesWaitD md ops i = true) (j : Nat) (o : Oper) (ho : ops[j]? = some o) (hs : isStore o = true) : ∃ m, waits md ops m j i = true := by
  unfold storesWaitD at h
  rw [List.all_eq_true] at h
  have h1 := h j (List.mem_range.2 (Array.getElem?_eq_some_iff.1 ho).1)
  simp only [ho, hs, Bool.not_true, Bool.false_or] at h1
  exact ⟨9, h1⟩
theorem vvd {i : Nat} {oi : Oper} {v : Value} {d n : Nat} {listed : Array Bool} {tm : Array Value} {df : List Deferred} {K : List (Nat × Obj)} {T : Array Value} (hi : ops[i]? = some oi) (hd : oi.dst = some d) (hw : Region.wanted oi (yielded ops tm) = true)
    (hy : ∀ w, KS W0 K w → ∀ K' : Act → World → Prop, (∀ w', Below w.heap.size w w' → K' (Act.put ⟨tm, df⟩ oi.dst v) w') → Oper.wp P oi ⟨tm, df⟩ w K' (fun _ _ _ => False))
    (h : wpV P md ops Q W0 n (listed.setIfInBounds i true) ⟨T, df⟩ K) (hlt : Nat.blt d tm.size = true := by kernel_rfl) (hf : freeP md ops listed i = true := by kernel_rfl) (hs : storesWaitD md ops i = true := by kernel_rfl) (hT : tm.setIfInBounds d v = T := by simp only [List.setIfInBounds_toArray, List.set_cons_succ, List.set_cons_zero] <;> rfl) : wpV P md ops Q W0 (n + 1) listed ⟨tm, df⟩ K := by
  unfold freeP at hf
  simp only [Bool.and_eq_true] at hf
  obtain ⟨h1, h2, h3, h4⟩ := hf
  refine wpV_first hi (Region.noSelect_spec h1) n listed ⟨tm, df⟩ K (closed_of h4) (Region.free_spec hi h2) (by simpa using h3)
    (.inr ⟨.inl ⟨hw, fun w hk => Oto.of_wp hd (Nat.le_of_ble_eq_true hlt) (hy w hk)⟩, storesWaitD_spec hs⟩) ?_
  rw [hd]
  subst hT
  exact h
theorem vnp {i : Nat} {oi : Oper} {d n : Nat} {listed : Array Bool} {tm : Array Value} {df : List Deferred} {K : List (Nat × Obj)} {T : Array Value} (hi : ops[i]? = some oi) (hd : oi.dst = some d)
    (h : wpV P md ops Q W0 n (listed.setIfInBounds i true) ⟨T, df⟩ K) (hf : freeP md ops listed i = true := by kernel_rfl) (hw : Region.wanted oi (yielded ops tm) = false := by kernel_rfl) (hT : tm.setIfInBounds d undef = T := by simp only [List.setIfInBounds_toArray, List.set_cons_succ, List.set_cons_zero] <;> rfl) : wpV P md ops Q W0 (n + 1) listed ⟨tm, df⟩ K := by
  unfold freeP at hf
  simp only [Bool.and_eq_true] at hf
  obtain ⟨h1, h2, h3, h4⟩ := hf
  refine wpV_first hi (Region.noSelect_spec h1) n listed ⟨tm, df⟩ K (closed_of h4) (Region.free_spec hi h2) (by simpa using h3)
    (.inl fun _ => .inr ⟨hw, rfl⟩) ?_
  rw [hd]
  subst hT
  exact h
end
set_option maxRecDepth 100000 in
set_option maxHeartbeats 4000000 in
theorem fewH_any (k : Nat) (hk : k ≤ 65535) (w : World) : Calls Tryd.prog 36 #[.int .i64 ((k : Nat) : Int)] w fun e w' => e = .returned (.agg (sltC (fewS k)).toArray) ∧ Below w.heap.size w w' := by
  go_enter Tryd.func36, Tryd.ntmps36
  refine wp_seq ?_
  refine wp_region_L (W0 := w) [] (KS.start w) ?_
  refine wpL_new (fun g => .pointer (some ⟨g, 0, none⟩)) (obi := .cells #[.int .i64 0, .int .i64 0, .int .u8 0] 34 (0, 0)) rfl rfl (fun _ => by kernel_rfl) (fun _ => by simp only [List.setIfInBounds_toArray, List.set_cons_succ, List.set_cons_zero] <;> rfl) fun g1 Bg1 Fg1 => ?_
  refine wpL_done (fun W1 hW1 => ?_)
  refine (show Code.wp _ _ _ _ _ from ?_)
  refine wp_seq ?_
  refine wp_region_L (W0 := w) [(g1, .cells #[.int .i64 0, .int .i64 0, .int .u8 0] 34 (0, 0))] (hW1) ?_
  refine lm (v := .int .i64 ((k : Nat) : Int)) rfl rfl ?_
  refine lp (v := .int .i64 (((k % 2) : Nat) : Int)) rfl rfl (run_bin rfl (vx := (.int .i64 ((k : Nat) : Int))) (vy := (.int .i64 ((2 : Nat) : Int))) (by kernel_rfl) (by kernel_rfl) fun w => bn_rem (z := (k % 2)) rfl (by omega) w) ?_
  refine lm (v := .int .i64 ((k : Nat) : Int)) rfl rfl ?_
  refine lp (v := .int .i64 (((k / 2) : Nat) : Int)) rfl rfl (run_bin rfl (vx := (.int .i64 ((k : Nat) : Int))) (vy := (.int .i64 ((2 : Nat) : Int))) (by kernel_rfl) (by kernel_rfl) fun w => bn_quo (z := (k / 2)) rfl (by omega) (wr_i64 (by omega)) w) ?_
  refine lp (v := .int .i64 ((((k / 2) % 4) : Nat) : Int)) rfl rfl (run_bin rfl (vx := (.int .i64 (((k / 2) : Nat) : Int))) (vy := (.int .i64 ((4 : Nat) : Int))) (by kernel_rfl) (by kernel_rfl) fun w => bn_rem (z := ((k / 2) % 4)) rfl (by omega) w) ?_
  refine lm (v := .int .i64 ((k : Nat) : Int)) rfl rfl ?_
  refine lp (v := .int .i64 (((k / 8) : Nat) : Int)) rfl rfl (run_bin rfl (vx := (.int .i64 ((k : Nat) : Int))) (vy := (.int .i64 ((8 : Nat) : Int))) (by kernel_rfl) (by kernel_rfl) fun w => bn_quo (z := (k / 8)) rfl (by omega) (wr_i64 (by omega)) w) ?_
  refine lp (v := .int .i64 ((((k / 8) % 3) : Nat) : Int)) rfl rfl (run_bin rfl (vx := (.int .i64 (((k / 8) : Nat) : Int))) (vy := (.int .i64 ((3 : Nat) : Int))) (by kernel_rfl) (by kernel_rfl) fun w => bn_rem (z := ((k / 8) % 3)) rfl (by omega) w) ?_
  refine lp (v := .int .u8 ((((k / 8) % 3) : Nat) : Int)) rfl rfl (run_conv rfl (vx := (.int .i64 ((((k / 8) % 3) : Nat) : Int))) (by kernel_rfl) fun w => cv_int Tryd.underlying3 Tryd.underlying5 (wr_u8 (by omega)) w) ?_
  refine lm (v := .agg #[.int .i64 (((k % 2) : Nat) : Int), .int .i64 ((((k / 2) % 4) : Nat) : Int), .int .u8 ((((k / 8) % 3) : Nat) : Int)]) rfl rfl ?_
  refine wpL_s [(g1, .cells #[.int .i64 (((k % 2) : Nat) : Int), .int .i64 ((((k / 2) % 4) : Nat) : Int), .int .u8 ((((k / 8) % 3) : Nat) : Int)] 34 (0, 0))] rfl rfl (st_row (off := 0) (v := .agg #[.int .i64 (((k % 2) : Nat) : Int), .int .i64 ((((k / 2) % 4) : Nat) : Int), .int .u8 ((((k / 8) % 3) : Nat) : Int)]) rfl (by kernel_rfl) (by kernel_rfl) (.head _) Bg1 (by kernel_rfl) (by first | (simp [Value.cells]; done) | exact Nat.le_of_ble_eq_true rfl) (by intro v hv; simp [Value.cells] at hv; first | (subst hv; rfl) | (rcases hv with rfl | rfl | rfl <;> rfl)) (by kernel_rfl) (List.forall_mem_cons.2 ⟨.inl rfl, (List.forall_mem_nil _)⟩)) ?_
  refine wpL_done (fun W2 hW2 => ?_)
  refine (show Code.wp _ _ _ _ _ from ?_)
  refine wp_ret ?_
  try simp only [inBlock_ret, then_ret]
  refine bodyPost_ret (v := .agg #[.int .i64 (((k % 2) : Nat) : Int), .int .i64 ((((k / 2) % 4) : Nat) : Int), .int .u8 ((((k / 8) % 3) : Nat) : Int)]) ?_ rfl ?_
  · exact (res_cell (p := 2) rfl rfl (hW2.2 _ (.head _)) Tryd.underlying34 rfl (by kernel_rfl))
  · exact ⟨rfl, hW2.1⟩
end Go.Proofs.YthpooalhibedpaaDoor
namespace Go.Proofs.YthpooalhibedpaaDoor
open Go Go.RowKit Tw
set_option maxRecDepth 100000 in
set_option maxHeartbeats 4000000 in
theorem Built_any {W0 : Base} (l : List Pl) (p : Option Addr) (c : Nat) (n : Nat) (hl : l.length ≤ 9223372036854775807) (hcap : l.length ≤ c) (hok : ∀ y ∈ l, plOk y) (hn : n ≤ 4294967295) (hp : RL plC W0 p l []) (w : World) (hw : KS W0 [] w) : Calls Tryd.prog 33 #[.slice p l.length c, .int .u32 ((n : Nat) : Int)] w fun e w' => ∃ v T, e = .returned v ∧ KS W0 T w' ∧ ShipT W0 (builtC l) (builtO n) v T := by
  obtain ⟨m, hm⟩ : ∃ m : Nat, m = min l.length 12 := ⟨_, rfl⟩
  go_enter Tryd.func33, Tryd.ntmps33
  refine wp_seq ?_
  refine wp_region_L (W0 := W0) [] (hw) ?_
  refine wpL_new (fun g => .pointer (some ⟨g, 0, none⟩)) (obi := .cells (shC (.slice none 0 0) (.slice none 0 0) tl0).toArray 32 (0, 0)) rfl rfl (fun _ => by kernel_rfl) (fun _ => by simp only [List.setIfInBounds_toArray, List.set_cons_succ, List.set_cons_zero] <;> rfl) fun g1 Bg1 Fg1 => ?_
  refine wpL_done (fun W1 hW1 => ?_)
  refine (show Code.wp _ _ _ _ _ from ?_)
  refine wp_seq ?_
  refine wp_region_L (W0 := W0) [(g1, .cells (shC (.slice none 0 0) (.slice none 0 0) tl0).toArray 32 (0, 0))] (hW1) ?_
  refine wpL_new (fun g => .pointer (some ⟨g, 0, none⟩)) (obi := .cells (shC (.slice none 0 0) (.slice none 0 0) tl0).toArray 32 (0, 0)) rfl rfl (fun _ => by kernel_rfl) (fun _ => by simp only [List.setIfInBounds_toArray, List.set_cons_succ, List.set_cons_zero] <;> rfl) fun g2 Bg2 Fg2 => ?_
  obtain dj3_0 : g1 ≠ g2 := by simpa only [dj_app_l, dj_app_r, dj_cons_l, dj_cons_r, dj_nil_l, dj_nil_r, dk_app, dk_cons, dk_nil, and_true, true_and, and_assoc] using (show Dk g2 [(g1, .cells (shC (.slice none 0 0) (.slice none 0 0) tl0).toArray 32 (0, 0))] from Fg2)
  refine wpL_done (fun W2 hW2 => ?_)
  refine (show Code.wp _ _ _ _ _ from ?_)
  refine wp_seq ?_
  refine wp_seq ?_
  refine wp_region_L (W0 := W0) [(g2, .cells (shC (.slice none 0 0) (.slice none 0 0) tl0).toArray 32 (0, 0)), (g1, .cells (shC (.slice none 0 0) (.slice none 0 0) tl0).toArray 32 (0, 0))] (hW2) ?_
  refine lm (v := .slice p l.length c) rfl rfl ?_
  refine lm (v := .slice p l.length c) rfl rfl ?_
  refine lp (v := .int .i64 ((l.length : Nat) : Int)) rfl rfl (run_lenL (p := p) (cap := c) (n := l.length) rfl Tryd.underlying60 (by kernel_rfl)) ?_
  refine lp (v := .int .i64 ((m : Nat) : Int)) rfl rfl (run_min2 (x := ((l.length : Nat) : Int)) (y := 12) (z := ((m : Nat) : Int)) rfl (by kernel_rfl) (by kernel_rfl) (by omega)) ?_
  refine lp (v := .slice p m c) rfl rfl (run_slt (kd := .i64) (j := m) (n := l.length) (c := c) (sz := 4) rfl Tryd.underlying60 (by kernel_rfl) (by kernel_rfl) (by kernel_rfl) (by omega)) ?_
  refine lp (v := .int .i64 ((m : Nat) : Int)) rfl rfl (run_lenL (p := p) (cap := c) (n := m) rfl Tryd.underlying60 (by kernel_rfl)) ?_
  refine lm (v := .int .i64 0) rfl rfl ?_
  refine wpL_done (fun W3 hW3 => ?_)
  refine (show Code.wp _ _ _ _ _ from ?_)
  refine wp_block ?_
  go_loopw [18] (fun u18 wr => ∃ (k : Nat) (cs : List Col) (vc : Value) (Kc : List (Nat × Obj)), (k ≤ m) ∧ (cs = bld ((l.take m).take k)) ∧ (cs.length ≤ k) ∧ (OwnL W0 65 12 vc cs.length (cs.flatMap colC) Kc) ∧ (Dk g2 Kc) ∧ (Dk g1 Kc) ∧ u18 = .int .i64 ((k : Nat) : Int) ∧ KS W0 ((g2, .cells (shC (vc) (.slice none 0 0) tl0).toArray 32 (0, 0)) :: (g1, .cells (shC (.slice none 0 0) (.slice none 0 0) tl0).toArray 32 (0, 0)) :: Kc) wr) (fun u18 _ => m - (intOf u18).toNat)
  case atStart => exact ⟨0, [], (.slice none 0 0), [], (Nat.zero_le _), rfl, (Nat.le_refl _), (OwnL.nil _ _ _), (show Dk g2 [] from (by (try simp only [dj_app_l, dj_app_r, dj_cons_l, dj_cons_r, dj_nil_l, dj_nil_r, dk_app, dk_cons, dk_nil, and_true, true_and, and_assoc]); repeat' (first | trivial | assumption | exact Dj.symm (by assumption) | exact Ne.symm (by assumption) | apply And.intro))), (show Dk g1 [] from (by (try simp only [dj_app_l, dj_app_r, dj_cons_l, dj_cons_r, dj_nil_l, dj_nil_r, dk_app, dk_cons, dk_nil, and_true, true_and, and_assoc]); repeat' (first | trivial | assumption | exact Dj.symm (by assumption) | exact Ne.symm (by assumption) | apply And.intro))), rfl, (hW3.sub (fun p hp => by first | exact hp | (simp only [List.mem_cons, List.mem_append, List.nil_append, List.not_mem_nil, or_assoc, or_false, false_or] at hp ⊢ <;> grind)))⟩
  case round =>
    obtain ⟨k, cs, vc, Kc, hk, hcs, hlc, hOc, dh4_0, dh4_1, rfl, hL4⟩ := hrel
    obtain ⟨pc, cc, rfl, hcc, RC⟩ := own_rl hOc
    refine wp_seq ?_
    refine wp_region_L (W0 := W0) ((g2, .cells (shC (.slice pc cs.length cc) (.slice none 0 0) tl0).toArray 32 (0, 0)) :: (g1, .cells (shC (.slice none 0 0) (.slice none 0 0) tl0).toArray 32 (0, 0)) :: Kc) (hL4) ?_
    refine lp (v := .bool (decide (k < m))) rfl rfl (run_bin rfl (vx := (.int .i64 ((k : Nat) : Int))) (vy := (.int .i64 ((m : Nat) : Int))) (by kernel_rfl) (by kernel_rfl) fun w => bn_lss rfl w) ?_
    refine wpL_done (fun W5 hW5 => ?_)
    refine (show Code.wp _ _ _ _ _ from ?_)
    refine wp_seq ?_
    cases hd1 : (decide (k < m)) with
    | false =>
      have h1 : ¬ (k < m) := of_decide_eq_false hd1
      clear hd1
      refine wp_cond_false rfl ?_
      refine wp_exit ?_
      refine (show Code.wp _ _ _ _ _ from ?_)
      refine wp_seq ?_
      refine wp_seq ?_
      refine wp_region_L (W0 := W0) ((g2, .cells (shC (.slice pc cs.length cc) (.slice none 0 0) tl0).toArray 32 (0, 0)) :: (g1, .cells (shC (.slice none 0 0) (.slice none 0 0) tl0).toArray 32 (0, 0)) :: Kc) (hW5) ?_
      refine lm (v := .pointer (some ⟨g2, 0, none⟩)) rfl rfl ?_
      refine lv (v := .slice pc cs.length cc) rfl rfl (yb_cell (off := 0) rfl (by kernel_rfl) (.head _) Tryd.underlying22 rfl (by kernel_rfl)) ?_
      refine lp (v := .int .i64 ((cs.length : Nat) : Int)) rfl rfl (run_lenO (W0 := W0) rfl Tryd.underlying22 (by kernel_rfl) hOc) ?_
      refine lp (v := .bool (decide (cs.length = 0))) rfl rfl (run_bin rfl (vx := (.int .i64 ((cs.length : Nat) : Int))) (vy := (.int .i64 ((0 : Nat) : Int))) (by kernel_rfl) (by kernel_rfl) fun w => bn_eql rfl w) ?_
      refine wpL_done (fun W6 hW6 => ?_)
      refine (show Code.wp _ _ _ _ _ from ?_)
      cases hd2 : (decide (cs.length = 0)) with
      | false =>
        have h2 : ¬ (cs.length = 0) := of_decide_eq_false hd2
        clear hd2
        refine wp_cond_false rfl ?_
        refine wp_skip ?_
        refine (show Code.wp _ _ _ _ _ from ?_)
        refine wp_seq ?_
        refine wp_seq ?_
        refine wp_region_L (W0 := W0) ((g2, .cells (shC (.slice pc cs.length cc) (.slice none 0 0) tl0).toArray 32 (0, 0)) :: (g1, .cells (shC (.slice none 0 0) (.slice none 0 0) tl0).toArray 32 (0, 0)) :: Kc) (hW6) ?_
        refine lm (v := .int .i64 0) rfl rfl ?_
        refine wpL_done (fun W7 hW7 => ?_)
        refine (show Code.wp _ _ _ _ _ from ?_)
        refine wp_block ?_
        have hB : builtC l = cs := by unfold builtC; rw [← hm, ← show cs = bld (l.take m) from by rw [hcs, List.take_of_length_le (by rw [List.length_take]; omega)]]; exact if_neg h2
        go_loopw [11] (fun u11 wr => ∃ (i : Nat) (os : List Cov) (vo : Value) (Tr Ko : List (Nat × Obj)), (i ≤ 5) ∧ (os.map (fun o => (o.bay, o.rows)) = covTo n i) ∧ (os.length ≤ 2 * i) ∧ (OwnL W0 67 2 vo os.length (os.flatMap covC) Ko) ∧ (∀ W, KS W0 Tr W → RwR W os) ∧ (Dk g2 Tr) ∧ (Dk g1 Tr) ∧ (Dj Kc Tr) ∧ (Dk g2 Ko) ∧ (Dk g1 Ko) ∧ (Dj Kc Ko) ∧ (Dj Tr Ko) ∧ u11 = .int .i64 ((i : Nat) : Int) ∧ KS W0 ((g2, .cells (shC (.slice pc cs.length cc) (vo) tl0).toArray 32 (0, 0)) :: (g1, .cells (shC (.slice none 0 0) (.slice none 0 0) tl0).toArray 32 (0, 0)) :: (Kc ++ (Tr ++ Ko))) wr) (fun u11 _ => 5 - (intOf u11).toNat)
        case atStart => exact ⟨0, [], (.slice none 0 0), [], [], (Nat.zero_le _), rfl, (Nat.le_refl _), (OwnL.nil _ _ _), (fun _ _ => rw_nil), (show Dk g2 [] from (by (try simp only [dj_app_l, dj_app_r, dj_cons_l, dj_cons_r, dj_nil_l, dj_nil_r, dk_app, dk_cons, dk_nil, and_true, true_and, and_assoc]); repeat' (first | trivial | assumption | exact Dj.symm (by assumption) | exact Ne.symm (by assumption) | apply And.intro))), (show Dk g1 [] from (by (try simp only [dj_app_l, dj_app_r, dj_cons_l, dj_cons_r, dj_nil_l, dj_nil_r, dk_app, dk_cons, dk_nil, and_true, true_and, and_assoc]); repeat' (first | trivial | assumption | exact Dj.symm (by assumption) | exact Ne.symm (by assumption) | apply And.intro))), (show Dj Kc [] from (by (try simp only [dj_app_l, dj_app_r, dj_cons_l, dj_cons_r, dj_nil_l, dj_nil_r, dk_app, dk_cons, dk_nil, and_true, true_and, and_assoc]); repeat' (first | trivial | assumption | exact Dj.symm (by assumption) | exact Ne.symm (by assumption) | apply And.intro))), (show Dk g2 [] from (by (try simp only [dj_app_l, dj_app_r, dj_cons_l, dj_cons_r, dj_nil_l, dj_nil_r, dk_app, dk_cons, dk_nil, and_true, true_and, and_assoc]); repeat' (first | trivial | assumption | exact Dj.symm (by assumption) | exact Ne.symm (by assumption) | apply And.intro))), (show Dk g1 [] from (by (try simp only [dj_app_l, dj_app_r, dj_cons_l, dj_cons_r, dj_nil_l, dj_nil_r, dk_app, dk_cons, dk_nil, and_true, true_and, and_assoc]); repeat' (first | trivial | assumption | exact Dj.symm (by assumption) | exact Ne.symm (by assumption) | apply And.intro))), (show Dj Kc [] from (by (try simp only [dj_app_l, dj_app_r, dj_cons_l, dj_cons_r, dj_nil_l, dj_nil_r, dk_app, dk_cons, dk_nil, and_true, true_and, and_assoc]); repeat' (first | trivial | assumption | exact Dj.symm (by assumption) | exact Ne.symm (by assumption) | apply And.intro))), (show Dj [] [] from (by (try simp only [dj_app_l, dj_app_r, dj_cons_l, dj_cons_r, dj_nil_l, dj_nil_r, dk_app, dk_cons, dk_nil, and_true, true_and, and_assoc]); repeat' (first | trivial | assumption | exact Dj.symm (by assumption) | exact Ne.symm (by assumption) | apply And.intro))), rfl, (hW7.sub (fun p hp => by first | exact hp | (simp only [List.mem_cons, List.mem_append, List.nil_append, List.not_mem_nil, or_assoc, or_false, false_or] at hp ⊢ <;> grind)))⟩
        case round =>
          obtain ⟨i, os, vo, Tr, Ko, hi, hos, hlo, hOo, hRo, dh5_0, dh5_1, dh5_2, dh5_3, dh5_4, dh5_5, dh5_6, rfl, hL8⟩ := hrel
          obtain ⟨po, co, rfl, hco, RO⟩ := own_rl hOo
          refine wp_seq ?_
          refine wp_seq ?_
          refine wp_region_L (W0 := W0) ((g2, .cells (shC (.slice pc cs.length cc) (.slice po os.length co) tl0).toArray 32 (0, 0)) :: (g1, .cells (shC (.slice none 0 0) (.slice none 0 0) tl0).toArray 32 (0, 0)) :: (Kc ++ (Tr ++ Ko))) (hL8) ?_
          refine lm (v := .int .i64 ((i : Nat) : Int)) rfl rfl ?_
          refine lp (v := .bool (decide (i < 5))) rfl rfl (run_bin rfl (vx := (.int .i64 ((i : Nat) : Int))) (vy := (.int .i64 ((5 : Nat) : Int))) (by kernel_rfl) (by kernel_rfl) fun w => bn_lss rfl w) ?_
          refine wpL_done (fun W9 hW9 => ?_)
          refine (show Code.wp _ _ _ _ _ from ?_)
          cases hd3 : (decide (i < 5)) with
          | false =>
            have h3 : ¬ (i < 5) := of_decide_eq_false hd3
            clear hd3
            refine wp_cond_false rfl ?_
            refine wp_exit ?_
            refine (show Code.wp _ _ _ _ _ from ?_)
            refine wp_seq ?_
            refine wp_region_L (W0 := W0) ((g2, .cells (shC (.slice pc cs.length cc) (.slice po os.length co) tl0).toArray 32 (0, 0)) :: (g1, .cells (shC (.slice none 0 0) (.slice none 0 0) tl0).toArray 32 (0, 0)) :: (Kc ++ (Tr ++ Ko))) (hW9) ?_
            refine lv (v := .agg (shC (.slice pc cs.length cc) (.slice po os.length co) tl0).toArray) rfl rfl (yb_load (n := 13) (off := 0) rfl (by kernel_rfl) (.head _) Tryd.underlying32 rfl (by kernel_rfl) (by first | (simp [Value.cells]; done) | exact Nat.le_of_ble_eq_true rfl) (by kernel_rfl)) ?_
            refine wpL_s ((g2, .cells (shC (.slice pc cs.length cc) (.slice po os.length co) tl0).toArray 32 (0, 0)) :: (g1, .cells (shC (.slice pc cs.length cc) (.slice po os.length co) tl0).toArray 32 (0, 0)) :: (Kc ++ (Tr ++ Ko))) rfl rfl (st_row (off := 0) (v := .agg (shC (.slice pc cs.length cc) (.slice po os.length co) tl0).toArray) rfl (by kernel_rfl) (by kernel_rfl) (.tail _ (.head _)) Bg1 (by kernel_rfl) (by first | (simp [Value.cells]; done) | exact Nat.le_of_ble_eq_true rfl) (fun v hv => shC_one v hv) (by kernel_rfl) (List.forall_mem_cons.2 ⟨.inr ⟨(.head _), (by first | assumption | exact Ne.symm (by assumption))⟩, (List.forall_mem_cons.2 ⟨.inl rfl, (fun p hp => .inr ⟨(.tail _ (.tail _ hp)), ((show Dk g1 (Kc ++ (Tr ++ Ko)) from (by (try simp only [dj_app_l, dj_app_r, dj_cons_l, dj_cons_r, dj_nil_l, dj_nil_r, dk_app, dk_cons, dk_nil, and_true, true_and, and_assoc]); repeat' (first | trivial | assumption | exact Dj.symm (by assumption) | exact Ne.symm (by assumption) | apply And.intro))) _ hp)⟩)⟩)⟩)) ?_
            refine wpL_done (fun W10 hW10 => ?_)
            refine (show Code.wp _ _ _ _ _ from ?_)
            refine wp_ret ?_
            try simp only [inBlock_ret, then_ret]
            refine bodyPost_ret (v := .agg (shC (.slice pc cs.length cc) (.slice po os.length co) tl0).toArray) ?_ rfl ?_
            · exact (res_cell (p := 4) rfl rfl (hW10.2 _ (.tail _ (.head _))) Tryd.underlying32 rfl (by kernel_rfl))
            · exact ⟨_, ((g2, .cells (shC (.slice pc cs.length cc) (.slice po os.length co) tl0).toArray 32 (0, 0)) :: (g1, .cells (shC (.slice pc cs.length cc) (.slice po os.length co) tl0).toArray 32 (0, 0)) :: (Kc ++ (Tr ++ Ko))), rfl, hW10, (by rw [hB]; exact ⟨pc, cc, os, po, co, rfl, hcc, hco, RC.mono (fun p hp => by simp only [List.mem_cons, List.mem_append, hp, true_or, or_true]), RO.mono (fun p hp => by simp only [List.mem_cons, List.mem_append, hp, true_or, or_true]), (fun W hW => hRo W (hW.sub (fun p hp => by simp only [List.mem_cons, List.mem_append, hp, true_or, or_true]))), (by rw [hos, show i = 5 from by omega]; rfl)⟩)⟩
          | true =>
            have h3 : i < 5 := of_decide_eq_true hd3
            clear hd3
            refine wp_cond_true rfl ?_
            refine wp_skip ?_
            refine (show Code.wp _ _ _ _ _ from ?_)
            refine wp_seq ?_
            refine wp_block ?_
            refine wp_seq ?_
            refine wp_seq ?_
            refine wp_region_L (W0 := W0) ((g2, .cells (shC (.slice pc cs.length cc) (.slice po os.length co) tl0).toArray 32 (0, 0)) :: (g1, .cells (shC (.slice none 0 0) (.slice none 0 0) tl0).toArray 32 (0, 0)) :: (Kc ++ (Tr ++ Ko))) (hW9) ?_
            refine lm (v := .int .u32 ((n : Nat) : Int)) rfl rfl ?_
            refine lm (v := .int .i64 ((i : Nat) : Int)) rfl rfl ?_
            refine lp (v := .int .i64 (((2 * i) : Nat) : Int)) rfl rfl (run_bin rfl (vx := (.int .i64 ((2 : Nat) : Int))) (vy := (.int .i64 ((i : Nat) : Int))) (by kernel_rfl) (by kernel_rfl) fun w => bn_mul (z := (2 * i)) rfl (wr_i64 (by omega)) w) ?_
            refine lp (v := .int .u32 (((n / 2 ^ (2 * i)) : Nat) : Int)) rfl rfl (run_bin rfl (vx := (.int .u32 ((n : Nat) : Int))) (vy := (.int .i64 (((2 * i) : Nat) : Int))) (by kernel_rfl) (by kernel_rfl) fun w => bn_shr (z := (n / 2 ^ (2 * i))) rfl (by first | omega | decide | (simp only [IntKind.bits]; omega)) w) ?_
            refine lp (v := .int .u32 ((((n / 2 ^ (2 * i)) % 2) : Nat) : Int)) rfl rfl (run_bin rfl (vx := (.int .u32 (((n / 2 ^ (2 * i)) : Nat) : Int))) (vy := (.int .u32 ((1 : Nat) : Int))) (by kernel_rfl) (by kernel_rfl) fun w => bn_and (z := ((n / 2 ^ (2 * i)) % 2)) (Nat.and_one_is_mod _) (by rw [show IntKind.u32.bits = 32 from rfl]; exact Nat.lt_of_le_of_lt (Nat.div_le_self _ _) (by omega)) (by decide) (wr_u32 (by omega)) w) ?_
            refine lp (v := .bool (decide (((n / 2 ^ (2 * i)) % 2) = 1))) rfl rfl (run_bin rfl (vx := (.int .u32 ((((n / 2 ^ (2 * i)) % 2) : Nat) : Int))) (vy := (.int .u32 ((1 : Nat) : Int))) (by kernel_rfl) (by kernel_rfl) fun w => bn_eql rfl w) ?_
            refine wpL_done (fun W11 hW11 => ?_)
            refine (show Code.wp _ _ _ _ _ from ?_)
            cases hd4 : (decide (((n / 2 ^ (2 * i)) % 2) = 1)) with
            | false =>
              have h4 : ¬ (((n / 2 ^ (2 * i)) % 2) = 1) := of_decide_eq_false hd4
              clear hd4
              refine wp_cond_false rfl ?_
              refine wp_skip ?_
              refine (show Code.wp _ _ _ _ _ from ?_)
              refine wp_seq ?_
              refine wp_region_L (W0 := W0) ((g2, .cells (shC (.slice pc cs.length cc) (.slice po os.length co) tl0).toArray 32 (0, 0)) :: (g1, .cells (shC (.slice none 0 0) (.slice none 0 0) tl0).toArray 32 (0, 0)) :: (Kc ++ (Tr ++ Ko))) (hW11) ?_
              refine lm (v := .int .u32 ((n : Nat) : Int)) rfl rfl ?_
              refine lm (v := .int .i64 ((i : Nat) : Int)) rfl rfl ?_
              refine lp (v := .int .i64 (((2 * i) : Nat) : Int)) rfl rfl (run_bin rfl (vx := (.int .i64 ((2 : Nat) : Int))) (vy := (.int .i64 ((i : Nat) : Int))) (by kernel_rfl) (by kernel_rfl) fun w => bn_mul (z := (2 * i)) rfl (wr_i64 (by omega)) w) ?_
              refine lp (v := .int .i64 ((((2 * i) + 1) : Nat) : Int)) rfl rfl (run_bin rfl (vx := (.int .i64 (((2 * i) : Nat) : Int))) (vy := (.int .i64 ((1 : Nat) : Int))) (by kernel_rfl) (by kernel_rfl) fun w => bn_add (z := ((2 * i) + 1)) rfl (wr_i64 (by omega)) w) ?_
              refine lp (v := .int .u32 (((n / 2 ^ ((2 * i) + 1)) : Nat) : Int)) rfl rfl (run_bin rfl (vx := (.int .u32 ((n : Nat) : Int))) (vy := (.int .i64 ((((2 * i) + 1) : Nat) : Int))) (by kernel_rfl) (by kernel_rfl) fun w => bn_shr (z := (n / 2 ^ ((2 * i) + 1))) rfl (by first | omega | decide | (simp only [IntKind.bits]; omega)) w) ?_
              refine lp (v := .int .u32 ((((n / 2 ^ ((2 * i) + 1)) % 2) : Nat) : Int)) rfl rfl (run_bin rfl (vx := (.int .u32 (((n / 2 ^ ((2 * i) + 1)) : Nat) : Int))) (vy := (.int .u32 ((1 : Nat) : Int))) (by kernel_rfl) (by kernel_rfl) fun w => bn_and (z := ((n / 2 ^ ((2 * i) + 1)) % 2)) (Nat.and_one_is_mod _) (by rw [show IntKind.u32.bits = 32 from rfl]; exact Nat.lt_of_le_of_lt (Nat.div_le_self _ _) (by omega)) (by decide) (wr_u32 (by omega)) w) ?_
              refine lp (v := .bool (decide (((n / 2 ^ ((2 * i) + 1)) % 2) = 1))) rfl rfl (run_bin rfl (vx := (.int .u32 ((((n / 2 ^ ((2 * i) + 1)) % 2) : Nat) : Int))) (vy := (.int .u32 ((1 : Nat) : Int))) (by kernel_rfl) (by kernel_rfl) fun w => bn_eql rfl w) ?_
              refine wpL_done (fun W12 hW12 => ?_)
              refine (show Code.wp _ _ _ _ _ from ?_)
              cases hd5 : (decide (((n / 2 ^ ((2 * i) + 1)) % 2) = 1)) with
              | false =>
                have h5 : ¬ (((n / 2 ^ ((2 * i) + 1)) % 2) = 1) := of_decide_eq_false hd5
                clear hd5
                refine wp_cond_false rfl ?_
                refine wp_skip ?_
                refine (show Code.wp _ _ _ _ _ from ?_)
                refine wp_region_L (W0 := W0) ((g2, .cells (shC (.slice pc cs.length cc) (.slice po os.length co) tl0).toArray 32 (0, 0)) :: (g1, .cells (shC (.slice none 0 0) (.slice none 0 0) tl0).toArray 32 (0, 0)) :: (Kc ++ (Tr ++ Ko))) (hW12) ?_
                refine lm (v := .int .i64 ((i : Nat) : Int)) rfl rfl ?_
                refine lp (v := .int .i64 (((i + 1) : Nat) : Int)) rfl rfl (run_bin rfl (vx := (.int .i64 ((i : Nat) : Int))) (vy := (.int .i64 ((1 : Nat) : Int))) (by kernel_rfl) (by kernel_rfl) fun w => bn_add (z := (i + 1)) rfl (wr_i64 (by omega)) w) ?_
                refine lm (v := .int .i64 (((i + 1) : Nat) : Int)) rfl rfl ?_
                refine wpL_done (fun W13 hW13 => ?_)
                go_roundw
                case rel =>
                  repeat apply Exists.intro
                  exact ⟨⟨i + 1, os, (.slice po os.length co), Tr, Ko, (by omega), (by rw [cov_00 h4 h5, hos]), (by omega), hOo, hRo, (show Dk g2 Tr from (by (try simp only [dj_app_l, dj_app_r, dj_cons_l, dj_cons_r, dj_nil_l, dj_nil_r, dk_app, dk_cons, dk_nil, and_true, true_and, and_assoc]); repeat' (first | trivial | assumption | exact Dj.symm (by assumption) | exact Ne.symm (by assumption) | apply And.intro))), (show Dk g1 Tr from (by (try simp only [dj_app_l, dj_app_r, dj_cons_l, dj_cons_r, dj_nil_l, dj_nil_r, dk_app, dk_cons, dk_nil, and_true, true_and, and_assoc]); repeat' (first | trivial | assumption | exact Dj.symm (by assumption) | exact Ne.symm (by assumption) | apply And.intro))), (show Dj Kc Tr from (by (try simp only [dj_app_l, dj_app_r, dj_cons_l, dj_cons_r, dj_nil_l, dj_nil_r, dk_app, dk_cons, dk_nil, and_true, true_and, and_assoc]); repeat' (first | trivial | assumption | exact Dj.symm (by assumption) | exact Ne.symm (by assumption) | apply And.intro))), (show Dk g2 Ko from (by (try simp only [dj_app_l, dj_app_r, dj_cons_l, dj_cons_r, dj_nil_l, dj_nil_r, dk_app, dk_cons, dk_nil, and_true, true_and, and_assoc]); repeat' (first | trivial | assumption | exact Dj.symm (by assumption) | exact Ne.symm (by assumption) | apply And.intro))), (show Dk g1 Ko from (by (try simp only [dj_app_l, dj_app_r, dj_cons_l, dj_cons_r, dj_nil_l, dj_nil_r, dk_app, dk_cons, dk_nil, and_true, true_and, and_assoc]); repeat' (first | trivial | assumption | exact Dj.symm (by assumption) | exact Ne.symm (by assumption) | apply And.intro))), (show Dj Kc Ko from (by (try simp only [dj_app_l, dj_app_r, dj_cons_l, dj_cons_r, dj_nil_l, dj_nil_r, dk_app, dk_cons, dk_nil, and_true, true_and, and_assoc]); repeat' (first | trivial | assumption | exact Dj.symm (by assumption) | exact Ne.symm (by assumption) | apply And.intro))), (show Dj Tr Ko from (by (try simp only [dj_app_l, dj_app_r, dj_cons_l, dj_cons_r, dj_nil_l, dj_nil_r, dk_app, dk_cons, dk_nil, and_true, true_and, and_assoc]); repeat' (first | trivial | assumption | exact Dj.symm (by assumption) | exact Ne.symm (by assumption) | apply And.intro))), rfl, (hW13.sub (fun p hp => by first | exact hp | (simp only [List.mem_cons, List.mem_append, List.nil_append, List.not_mem_nil, or_assoc, or_false, false_or] at hp ⊢ <;> grind)))⟩, rfl⟩
                case measure => (show 5 - (intOf (.int .i64 (((i + 1) : Nat) : Int))).toNat < 5 - (intOf (.int .i64 ((i : Nat) : Int))).toNat); simp only [intOf]; omega
              | true =>
                have h5 : ((n / 2 ^ ((2 * i) + 1)) % 2) = 1 := of_decide_eq_true hd5
                clear hd5
                refine wp_cond_true rfl ?_
                refine wp_region_L (W0 := W0) ((g2, .cells (shC (.slice pc cs.length cc) (.slice po os.length co) tl0).toArray 32 (0, 0)) :: (g1, .cells (shC (.slice none 0 0) (.slice none 0 0) tl0).toArray 32 (0, 0)) :: (Kc ++ (Tr ++ Ko))) (hW12) ?_
                refine lm (v := .pointer (some ⟨g2, 1, none⟩)) rfl rfl ?_
                refine lv (v := .slice po os.length co) rfl rfl (yb_cell (off := 1) rfl (by kernel_rfl) (.head _) Tryd.underlying23 rfl (by kernel_rfl)) ?_
                refine lm (v := .int .i64 ((i : Nat) : Int)) rfl rfl ?_
                refine wpL_new (fun g => .slice (some ⟨g, 0, none⟩) 3 3) (obi := .cells #[.int .i64 2, .int .i64 3, .int .i64 4] 3 (0, 0)) rfl rfl (fun _ => by kernel_rfl) (fun _ => by simp only [List.setIfInBounds_toArray, List.set_cons_succ, List.set_cons_zero] <;> rfl) fun g6 Bg6 Fg6 => ?_
                obtain ⟨dj7_0, dj7_1, dj7_2, dj7_3, dj7_4⟩ : g2 ≠ g6 ∧ g1 ≠ g6 ∧ Dk g6 Kc ∧ Dk g6 Tr ∧ Dk g6 Ko := by simpa only [dj_app_l, dj_app_r, dj_cons_l, dj_cons_r, dj_nil_l, dj_nil_r, dk_app, dk_cons, dk_nil, and_true, true_and, and_assoc] using (show Dk g6 ((g2, .cells (shC (.slice pc cs.length cc) (.slice po os.length co) tl0).toArray 32 (0, 0)) :: (g1, .cells (shC (.slice none 0 0) (.slice none 0 0) tl0).toArray 32 (0, 0)) :: (Kc ++ (Tr ++ Ko))) from Fg6)
                refine lm (v := .agg #[.int .i64 ((i : Nat) : Int), .slice (some ⟨g6, 0, none⟩) 3 3]) rfl rfl ?_
                refine wpL_new (fun g => .slice (some ⟨g, 0, none⟩) 1 1) (obi := .cells #[.int .i64 ((i : Nat) : Int), .slice (some ⟨g6, 0, none⟩) 3 3] 67 (0, 0)) rfl rfl (fun _ => by kernel_rfl) (fun _ => by simp only [List.setIfInBounds_toArray, List.set_cons_succ, List.set_cons_zero] <;> rfl) fun g8 Bg8 Fg8 => ?_
                obtain ⟨dj9_0, dj9_1, dj9_2, dj9_3, dj9_4, dj9_5⟩ : g6 ≠ g8 ∧ g2 ≠ g8 ∧ g1 ≠ g8 ∧ Dk g8 Kc ∧ Dk g8 Tr ∧ Dk g8 Ko := by simpa only [dj_app_l, dj_app_r, dj_cons_l, dj_cons_r, dj_nil_l, dj_nil_r, dk_app, dk_cons, dk_nil, and_true, true_and, and_assoc] using (show Dk g8 ((g6, .cells #[.int .i64 2, .int .i64 3, .int .i64 4] 3 (0, 0)) :: (g2, .cells (shC (.slice pc cs.length cc) (.slice po os.length co) tl0).toArray 32 (0, 0)) :: (g1, .cells (shC (.slice none 0 0) (.slice none 0 0) tl0).toArray 32 (0, 0)) :: (Kc ++ (Tr ++ Ko))) from Fg8)
                refine wpL_g (AppO W0 67 2 ((g6, .cells #[.int .i64 2, .int .i64 3, .int .i64 4] 3 (0, 0)) :: (g2, .cells (shC (.slice pc cs.length cc) (.slice po os.length co) tl0).toArray 32 (0, 0)) :: (g1, .cells (shC (.slice none 0 0) (.slice none 0 0) tl0).toArray 32 (0, 0)) :: (Kc ++ Tr)) (os.length + 1) ((os.flatMap covC) ++ [.int .i64 ((i : Nat) : Int), .slice (some ⟨g6, 0, none⟩) 3 3])) rfl rfl (app_own el_cov (m := 1) (c := 1) (news := [.int .i64 ((i : Nat) : Int), .slice (some ⟨g6, 0, none⟩) 3 3]) rfl (by kernel_rfl) (by kernel_rfl) (.head _) hOo (fun p hp => by simp only [List.mem_cons, List.mem_append, List.nil_append, List.not_mem_nil, or_assoc, or_false, false_or, hp, or_true, true_or]) (fun p hp => ⟨by simp only [List.mem_cons, List.mem_append, List.nil_append, List.not_mem_nil, or_assoc, or_false, false_or] at hp ⊢ <;> grind, (show Dj ((g6, .cells #[.int .i64 2, .int .i64 3, .int .i64 4] 3 (0, 0)) :: (g2, .cells (shC (.slice pc cs.length cc) (.slice po os.length co) tl0).toArray 32 (0, 0)) :: (g1, .cells (shC (.slice none 0 0) (.slice none 0 0) tl0).toArray 32 (0, 0)) :: (Kc ++ Tr)) Ko from (by (try simp only [dj_app_l, dj_app_r, dj_cons_l, dj_cons_r, dj_nil_l, dj_nil_r, dk_app, dk_cons, dk_nil, and_true, true_and, and_assoc]); repeat' (first | trivial | assumption | exact Dj.symm (by assumption) | exact Ne.symm (by assumption) | apply And.intro))) p hp⟩) rfl (by simp [strV, Value.oneCell']) (by omega) (by omega) (by omega)) (fun _ => by simp only [List.setIfInBounds_toArray, List.set_cons_succ, List.set_cons_zero] <;> rfl) ?_
                rintro v10 K9 ⟨Kl10, O10, N10, rfl⟩
                obtain ⟨dj11_0, dj11_1, dj11_2, dj11_3, dj11_4⟩ : Dk g6 Kl10 ∧ Dk g2 Kl10 ∧ Dk g1 Kl10 ∧ Dj Kc Kl10 ∧ Dj Tr Kl10 := by simpa only [dj_app_l, dj_app_r, dj_cons_l, dj_cons_r, dj_nil_l, dj_nil_r, dk_app, dk_cons, dk_nil, and_true, true_and, and_assoc] using (show Dj ((g6, .cells #[.int .i64 2, .int .i64 3, .int .i64 4] 3 (0, 0)) :: (g2, .cells (shC (.slice pc cs.length cc) (.slice po os.length co) tl0).toArray 32 (0, 0)) :: (g1, .cells (shC (.slice none 0 0) (.slice none 0 0) tl0).toArray 32 (0, 0)) :: (Kc ++ Tr)) Kl10 from N10)
                refine lm (v := .pointer (some ⟨g2, 1, none⟩)) rfl rfl ?_
                obtain ⟨p12, c12, rfl⟩ := own_shape O10
                refine wpL_s ((g6, .cells #[.int .i64 2, .int .i64 3, .int .i64 4] 3 (0, 0)) :: (g2, .cells (shC (.slice pc cs.length cc) (.slice p12 (os.length + 1) c12) tl0).toArray 32 (0, 0)) :: (g1, .cells (shC (.slice none 0 0) (.slice none 0 0) tl0).toArray 32 (0, 0)) :: ((Kc ++ Tr) ++ Kl10)) rfl rfl (st_row (off := 1) (v := .slice p12 (os.length + 1) c12) rfl (by kernel_rfl) (by kernel_rfl) (.tail _ (.head _)) Bg2 (by kernel_rfl) (by first | (simp [Value.cells]; done) | exact Nat.le_of_ble_eq_true rfl) (by intro v hv; simp [Value.cells] at hv; first | (subst hv; rfl) | (rcases hv with rfl <;> rfl)) (by kernel_rfl) (List.forall_mem_cons.2 ⟨.inr ⟨(.head _), (by first | assumption | exact Ne.symm (by assumption))⟩, (List.forall_mem_cons.2 ⟨.inl rfl, (List.forall_mem_cons.2 ⟨.inr ⟨(.tail _ (.tail _ (.head _))), (by first | assumption | exact Ne.symm (by assumption))⟩, (fun p hp => .inr ⟨(.tail _ (.tail _ (.tail _ hp))), ((show Dk g2 ((Kc ++ Tr) ++ Kl10) from (by (try simp only [dj_app_l, dj_app_r, dj_cons_l, dj_cons_r, dj_nil_l, dj_nil_r, dk_app, dk_cons, dk_nil, and_true, true_and, and_assoc]); repeat' (first | trivial | assumption | exact Dj.symm (by assumption) | exact Ne.symm (by assumption) | apply And.intro))) _ hp)⟩)⟩)⟩)⟩)) ?_
                refine wpL_done (fun W14 hW14 => ?_)
                refine (show Code.wp _ _ _ _ _ from ?_)
                refine wp_region_L (W0 := W0) ((g6, .cells #[.int .i64 2, .int .i64 3, .int .i64 4] 3 (0, 0)) :: (g2, .cells (shC (.slice pc cs.length cc) (.slice p12 (os.length + 1) c12) tl0).toArray 32 (0, 0)) :: (g1, .cells (shC (.slice none 0 0) (.slice none 0 0) tl0).toArray 32 (0, 0)) :: ((Kc ++ Tr) ++ Kl10)) (hW14) ?_
                refine lm (v := .int .i64 ((i : Nat) : Int)) rfl rfl ?_
                refine lp (v := .int .i64 (((i + 1) : Nat) : Int)) rfl rfl (run_bin rfl (vx := (.int .i64 ((i : Nat) : Int))) (vy := (.int .i64 ((1 : Nat) : Int))) (by kernel_rfl) (by kernel_rfl) fun w => bn_add (z := (i + 1)) rfl (wr_i64 (by omega)) w) ?_
                refine lm (v := .int .i64 (((i + 1) : Nat) : Int)) rfl rfl ?_
                refine wpL_done (fun W15 hW15 => ?_)
                go_roundw
                case rel =>
                  repeat apply Exists.intro
                  exact ⟨⟨i + 1, (os ++ [⟨((i : Nat) : Int), [2, 3, 4], some ⟨g6, 0, none⟩, 3⟩]), .slice p12 (os.length + 1) c12, ((g6, .cells #[.int .i64 2, .int .i64 3, .int .i64 4] 3 (0, 0)) :: Tr), Kl10, (by omega), (by rw [cov_01 h4 h5]; simp only [List.map_append, List.map_cons, List.map_nil, hos, List.append_assoc, List.cons_append, List.nil_append]), (by simp only [List.length_append, List.length_singleton, List.length_cons, List.length_nil]; omega), (own_app O10 (by simp only [List.flatMap_append, List.append_assoc]; rfl) (by simp only [List.length_append]; rfl)), (fun W hW => (rw_snoc (hRo W (hW.sub (fun p hp => by simp only [List.mem_cons, hp, or_true]))) (o := ⟨((i : Nat) : Int), [2, 3, 4], some ⟨g6, 0, none⟩, 3⟩) (blk_slv hW (.head _)))), (show Dk g2 ((g6, .cells #[.int .i64 2, .int .i64 3, .int .i64 4] 3 (0, 0)) :: Tr) from (by (try simp only [dj_app_l, dj_app_r, dj_cons_l, dj_cons_r, dj_nil_l, dj_nil_r, dk_app, dk_cons, dk_nil, and_true, true_and, and_assoc]); repeat' (first | trivial | assumption | exact Dj.symm (by assumption) | exact Ne.symm (by assumption) | apply And.intro))), (show Dk g1 ((g6, .cells #[.int .i64 2, .int .i64 3, .int .i64 4] 3 (0, 0)) :: Tr) from (by (try simp only [dj_app_l, dj_app_r, dj_cons_l, dj_cons_r, dj_nil_l, dj_nil_r, dk_app, dk_cons, dk_nil, and_true, true_and, and_assoc]); repeat' (first | trivial | assumption | exact Dj.symm (by assumption) | exact Ne.symm (by assumption) | apply And.intro))), (show Dj Kc ((g6, .cells #[.int .i64 2, .int .i64 3, .int .i64 4] 3 (0, 0)) :: Tr) from (by (try simp only [dj_app_l, dj_app_r, dj_cons_l, dj_cons_r, dj_nil_l, dj_nil_r, dk_app, dk_cons, dk_nil, and_true, true_and, and_assoc]); repeat' (first | trivial | assumption | exact Dj.symm (by assumption) | exact Ne.symm (by assumption) | apply And.intro))), (show Dk g2 Kl10 from (by (try simp only [dj_app_l, dj_app_r, dj_cons_l, dj_cons_r, dj_nil_l, dj_nil_r, dk_app, dk_cons, dk_nil, and_true, true_and, and_assoc]); repeat' (first | trivial | assumption | exact Dj.symm (by assumption) | exact Ne.symm (by assumption) | apply And.intro))), (show Dk g1 Kl10 from (by (try simp only [dj_app_l, dj_app_r, dj_cons_l, dj_cons_r, dj_nil_l, dj_nil_r, dk_app, dk_cons, dk_nil, and_true, true_and, and_assoc]); repeat' (first | trivial | assumption | exact Dj.symm (by assumption) | exact Ne.symm (by assumption) | apply And.intro))), (show Dj Kc Kl10 from (by (try simp only [dj_app_l, dj_app_r, dj_cons_l, dj_cons_r, dj_nil_l, dj_nil_r, dk_app, dk_cons, dk_nil, and_true, true_and, and_assoc]); repeat' (first | trivial | assumption | exact Dj.symm (by assumption) | exact Ne.symm (by assumption) | apply And.intro))), (show Dj ((g6, .cells #[.int .i64 2, .int .i64 3, .int .i64 4] 3 (0, 0)) :: Tr) Kl10 from (by (try simp only [dj_app_l, dj_app_r, dj_cons_l, dj_cons_r, dj_nil_l, dj_nil_r, dk_app, dk_cons, dk_nil, and_true, true_and, and_assoc]); repeat' (first | trivial | assumption | exact Dj.symm (by assumption) | exact Ne.symm (by assumption) | apply And.intro))), rfl, (hW15.sub (fun p hp => by first | exact hp | (simp only [List.mem_cons, List.mem_append, List.nil_append, List.not_mem_nil, or_assoc, or_false, false_or] at hp ⊢ <;> grind)))⟩, rfl⟩
                case measure => (show 5 - (intOf (.int .i64 (((i + 1) : Nat) : Int))).toNat < 5 - (intOf (.int .i64 ((i : Nat) : Int))).toNat); simp only [intOf]; omega
            | true =>
              have h4 : ((n / 2 ^ (2 * i)) % 2) = 1 := of_decide_eq_true hd4
              clear hd4
              refine wp_cond_true rfl ?_
              refine wp_region_L (W0 := W0) ((g2, .cells (shC (.slice pc cs.length cc) (.slice po os.length co) tl0).toArray 32 (0, 0)) :: (g1, .cells (shC (.slice none 0 0) (.slice none 0 0) tl0).toArray 32 (0, 0)) :: (Kc ++ (Tr ++ Ko))) (hW11) ?_
              refine lm (v := .pointer (some ⟨g2, 1, none⟩)) rfl rfl ?_
              refine lv (v := .slice po os.length co) rfl rfl (yb_cell (off := 1) rfl (by kernel_rfl) (.head _) Tryd.underlying23 rfl (by kernel_rfl)) ?_
              refine lm (v := .int .i64 ((i : Nat) : Int)) rfl rfl ?_
              refine wpL_new (fun g => .slice (some ⟨g, 0, none⟩) 2 2) (obi := .cells #[.int .i64 0, .int .i64 1] 3 (0, 0)) rfl rfl (fun _ => by kernel_rfl) (fun _ => by simp only [List.setIfInBounds_toArray, List.set_cons_succ, List.set_cons_zero] <;> rfl) fun g13 Bg13 Fg13 => ?_
              obtain ⟨dj14_0, dj14_1, dj14_2, dj14_3, dj14_4⟩ : g2 ≠ g13 ∧ g1 ≠ g13 ∧ Dk g13 Kc ∧ Dk g13 Tr ∧ Dk g13 Ko := by simpa only [dj_app_l, dj_app_r, dj_cons_l, dj_cons_r, dj_nil_l, dj_nil_r, dk_app, dk_cons, dk_nil, and_true, true_and, and_assoc] using (show Dk g13 ((g2, .cells (shC (.slice pc cs.length cc) (.slice po os.length co) tl0).toArray 32 (0, 0)) :: (g1, .cells (shC (.slice none 0 0) (.slice none 0 0) tl0).toArray 32 (0, 0)) :: (Kc ++ (Tr ++ Ko))) from Fg13)
              refine lm (v := .agg #[.int .i64 ((i : Nat) : Int), .slice (some ⟨g13, 0, none⟩) 2 2]) rfl rfl ?_
              refine wpL_new (fun g => .slice (some ⟨g, 0, none⟩) 1 1) (obi := .cells #[.int .i64 ((i : Nat) : Int), .slice (some ⟨g13, 0, none⟩) 2 2] 67 (0, 0)) rfl rfl (fun _ => by kernel_rfl) (fun _ => by simp only [List.setIfInBounds_toArray, List.set_cons_succ, List.set_cons_zero] <;> rfl) fun g15 Bg15 Fg15 => ?_
              obtain ⟨dj16_0, dj16_1, dj16_2, dj16_3, dj16_4, dj16_5⟩ : g13 ≠ g15 ∧ g2 ≠ g15 ∧ g1 ≠ g15 ∧ Dk g15 Kc ∧ Dk g15 Tr ∧ Dk g15 Ko := by simpa only [dj_app_l, dj_app_r, dj_cons_l, dj_cons_r, dj_nil_l, dj_nil_r, dk_app, dk_cons, dk_nil, and_true, true_and, and_assoc] using (show Dk g15 ((g13, .cells #[.int .i64 0, .int .i64 1] 3 (0, 0)) :: (g2, .cells (shC (.slice pc cs.length cc) (.slice po os.length co) tl0).toArray 32 (0, 0)) :: (g1, .cells (shC (.slice none 0 0) (.slice none 0 0) tl0).toArray 32 (0, 0)) :: (Kc ++ (Tr ++ Ko))) from Fg15)
              refine wpL_g (AppO W0 67 2 ((g13, .cells #[.int .i64 0, .int .i64 1] 3 (0, 0)) :: (g2, .cells (shC (.slice pc cs.length cc) (.slice po os.length co) tl0).toArray 32 (0, 0)) :: (g1, .cells (shC (.slice none 0 0) (.slice none 0 0) tl0).toArray 32 (0, 0)) :: (Kc ++ Tr)) (os.length + 1) ((os.flatMap covC) ++ [.int .i64 ((i : Nat) : Int), .slice (some ⟨g13, 0, none⟩) 2 2])) rfl rfl (app_own el_cov (m := 1) (c := 1) (news := [.int .i64 ((i : Nat) : Int), .slice (some ⟨g13, 0, none⟩) 2 2]) rfl (by kernel_rfl) (by kernel_rfl) (.head _) hOo (fun p hp => by simp only [List.mem_cons, List.mem_append, List.nil_append, List.not_mem_nil, or_assoc, or_false, false_or, hp, or_true, true_or]) (fun p hp => ⟨by simp only [List.mem_cons, List.mem_append, List.nil_append, List.not_mem_nil, or_assoc, or_false, false_or] at hp ⊢ <;> grind, (show Dj ((g13, .cells #[.int .i64 0, .int .i64 1] 3 (0, 0)) :: (g2, .cells (shC (.slice pc cs.length cc) (.slice po os.length co) tl0).toArray 32 (0, 0)) :: (g1, .cells (shC (.slice none 0 0) (.slice none 0 0) tl0).toArray 32 (0, 0)) :: (Kc ++ Tr)) Ko from (by (try simp only [dj_app_l, dj_app_r, dj_cons_l, dj_cons_r, dj_nil_l, dj_nil_r, dk_app, dk_cons, dk_nil, and_true, true_and, and_assoc]); repeat' (first | trivial | assumption | exact Dj.symm (by assumption) | exact Ne.symm (by assumption) | apply And.intro))) p hp⟩) rfl (by simp [strV, Value.oneCell']) (by omega) (by omega) (by omega)) (fun _ => by simp only [List.setIfInBounds_toArray, List.set_cons_succ, List.set_cons_zero] <;> rfl) ?_
              rintro v17 K9 ⟨Kl17, O17, N17, rfl⟩
              obtain ⟨dj18_0, dj18_1, dj18_2, dj18_3, dj18_4⟩ : Dk g13 Kl17 ∧ Dk g2 Kl17 ∧ Dk g1 Kl17 ∧ Dj Kc Kl17 ∧ Dj Tr Kl17 := by simpa only [dj_app_l, dj_app_r, dj_cons_l, dj_cons_r, dj_nil_l, dj_nil_r, dk_app, dk_cons, dk_nil, and_true, true_and, and_assoc] using (show Dj ((g13, .cells #[.int .i64 0, .int .i64 1] 3 (0, 0)) :: (g2, .cells (shC (.slice pc cs.length cc) (.slice po os.length co) tl0).toArray 32 (0, 0)) :: (g1, .cells (shC (.slice none 0 0) (.slice none 0 0) tl0).toArray 32 (0, 0)) :: (Kc ++ Tr)) Kl17 from N17)
              refine lm (v := .pointer (some ⟨g2, 1, none⟩)) rfl rfl ?_
              obtain ⟨p19, c19, rfl⟩ := own_shape O17
              refine wpL_s ((g13, .cells #[.int .i64 0, .int .i64 1] 3 (0, 0)) :: (g2, .cells (shC (.slice pc cs.length cc) (.slice p19 (os.length + 1) c19) tl0).toArray 32 (0, 0)) :: (g1, .cells (shC (.slice none 0 0) (.slice none 0 0) tl0).toArray 32 (0, 0)) :: ((Kc ++ Tr) ++ Kl17)) rfl rfl (st_row (off := 1) (v := .slice p19 (os.length + 1) c19) rfl (by kernel_rfl) (by kernel_rfl) (.tail _ (.head _)) Bg2 (by kernel_rfl) (by first | (simp [Value.cells]; done) | exact Nat.le_of_ble_eq_true rfl) (by intro v hv; simp [Value.cells] at hv; first | (subst hv; rfl) | (rcases hv with rfl <;> rfl)) (by kernel_rfl) (List.forall_mem_cons.2 ⟨.inr ⟨(.head _), (by first | assumption | exact Ne.symm (by assumption))⟩, (List.forall_mem_cons.2 ⟨.inl rfl, (List.forall_mem_cons.2 ⟨.inr ⟨(.tail _ (.tail _ (.head _))), (by first | assumption | exact Ne.symm (by assumption))⟩, (fun p hp => .inr ⟨(.tail _ (.tail _ (.tail _ hp))), ((show Dk g2 ((Kc ++ Tr) ++ Kl17) from (by (try simp only [dj_app_l, dj_app_r, dj_cons_l, dj_cons_r, dj_nil_l, dj_nil_r, dk_app, dk_cons, dk_nil, and_true, true_and, and_assoc]); repeat' (first | trivial | assumption | exact Dj.symm (by assumption) | exact Ne.symm (by assumption) | apply And.intro))) _ hp)⟩)⟩)⟩)⟩)) ?_
              refine wpL_done (fun W16 hW16 => ?_)
              refine (show Code.wp _ _ _ _ _ from ?_)
              refine wp_seq ?_
              refine wp_region_L (W0 := W0) ((g13, .cells #[.int .i64 0, .int .i64 1] 3 (0, 0)) :: (g2, .cells (shC (.slice pc cs.length cc) (.slice p19 (os.length + 1) c19) tl0).toArray 32 (0, 0)) :: (g1, .cells (shC (.slice none 0 0) (.slice none 0 0) tl0).toArray 32 (0, 0)) :: ((Kc ++ Tr) ++ Kl17)) (hW16) ?_
              refine lm (v := .int .u32 ((n : Nat) : Int)) rfl rfl ?_
              refine lm (v := .int .i64 ((i : Nat) : Int)) rfl rfl ?_
              refine lp (v := .int .i64 (((2 * i) : Nat) : Int)) rfl rfl (run_bin rfl (vx := (.int .i64 ((2 : Nat) : Int))) (vy := (.int .i64 ((i : Nat) : Int))) (by kernel_rfl) (by kernel_rfl) fun w => bn_mul (z := (2 * i)) rfl (wr_i64 (by omega)) w) ?_
              refine lp (v := .int .i64 ((((2 * i) + 1) : Nat) : Int)) rfl rfl (run_bin rfl (vx := (.int .i64 (((2 * i) : Nat) : Int))) (vy := (.int .i64 ((1 : Nat) : Int))) (by kernel_rfl) (by kernel_rfl) fun w => bn_add (z := ((2 * i) + 1)) rfl (wr_i64 (by omega)) w) ?_
              refine lp (v := .int .u32 (((n / 2 ^ ((2 * i) + 1)) : Nat) : Int)) rfl rfl (run_bin rfl (vx := (.int .u32 ((n : Nat) : Int))) (vy := (.int .i64 ((((2 * i) + 1) : Nat) : Int))) (by kernel_rfl) (by kernel_rfl) fun w => bn_shr (z := (n / 2 ^ ((2 * i) + 1))) rfl (by first | omega | decide | (simp only [IntKind.bits]; omega)) w) ?_
              refine lp (v := .int .u32 ((((n / 2 ^ ((2 * i) + 1)) % 2) : Nat) : Int)) rfl rfl (run_bin rfl (vx := (.int .u32 (((n / 2 ^ ((2 * i) + 1)) : Nat) : Int))) (vy := (.int .u32 ((1 : Nat) : Int))) (by kernel_rfl) (by kernel_rfl) fun w => bn_and (z := ((n / 2 ^ ((2 * i) + 1)) % 2)) (Nat.and_one_is_mod _) (by rw [show IntKind.u32.bits = 32 from rfl]; exact Nat.lt_of_le_of_lt (Nat.div_le_self _ _) (by omega)) (by decide) (wr_u32 (by omega)) w) ?_
              refine lp (v := .bool (decide (((n / 2 ^ ((2 * i) + 1)) % 2) = 1))) rfl rfl (run_bin rfl (vx := (.int .u32 ((((n / 2 ^ ((2 * i) + 1)) % 2) : Nat) : Int))) (vy := (.int .u32 ((1 : Nat) : Int))) (by kernel_rfl) (by kernel_rfl) fun w => bn_eql rfl w) ?_
              refine wpL_done (fun W17 hW17 => ?_)
              refine (show Code.wp _ _ _ _ _ from ?_)
              cases hd6 : (decide (((n / 2 ^ ((2 * i) + 1)) % 2) = 1)) with
              | false =>
                have h6 : ¬ (((n / 2 ^ ((2 * i) + 1)) % 2) = 1) := of_decide_eq_false hd6
                clear hd6
                refine wp_cond_false rfl ?_
                refine wp_skip ?_
                refine (show Code.wp _ _ _ _ _ from ?_)
                refine wp_region_L (W0 := W0) ((g13, .cells #[.int .i64 0, .int .i64 1] 3 (0, 0)) :: (g2, .cells (shC (.slice pc cs.length cc) (.slice p19 (os.length + 1) c19) tl0).toArray 32 (0, 0)) :: (g1, .cells (shC (.slice none 0 0) (.slice none 0 0) tl0).toArray 32 (0, 0)) :: ((Kc ++ Tr) ++ Kl17)) (hW17) ?_
                refine lm (v := .int .i64 ((i : Nat) : Int)) rfl rfl ?_
                refine lp (v := .int .i64 (((i + 1) : Nat) : Int)) rfl rfl (run_bin rfl (vx := (.int .i64 ((i : Nat) : Int))) (vy := (.int .i64 ((1 : Nat) : Int))) (by kernel_rfl) (by kernel_rfl) fun w => bn_add (z := (i + 1)) rfl (wr_i64 (by omega)) w) ?_
                refine lm (v := .int .i64 (((i + 1) : Nat) : Int)) rfl rfl ?_
                refine wpL_done (fun W18 hW18 => ?_)
                go_roundw
                case rel =>
                  repeat apply Exists.intro
                  exact ⟨⟨i + 1, (os ++ [⟨((i : Nat) : Int), [0, 1], some ⟨g13, 0, none⟩, 2⟩]), .slice p19 (os.length + 1) c19, ((g13, .cells #[.int .i64 0, .int .i64 1] 3 (0, 0)) :: Tr), Kl17, (by omega), (by rw [cov_10 h4 h6]; simp only [List.map_append, List.map_cons, List.map_nil, hos, List.append_assoc, List.cons_append, List.nil_append]), (by simp only [List.length_append, List.length_singleton, List.length_cons, List.length_nil]; omega), (own_app O17 (by simp only [List.flatMap_append, List.append_assoc]; rfl) (by simp only [List.length_append]; rfl)), (fun W hW => (rw_snoc (hRo W (hW.sub (fun p hp => by simp only [List.mem_cons, hp, or_true]))) (o := ⟨((i : Nat) : Int), [0, 1], some ⟨g13, 0, none⟩, 2⟩) (blk_slv hW (.head _)))), (show Dk g2 ((g13, .cells #[.int .i64 0, .int .i64 1] 3 (0, 0)) :: Tr) from (by (try simp only [dj_app_l, dj_app_r, dj_cons_l, dj_cons_r, dj_nil_l, dj_nil_r, dk_app, dk_cons, dk_nil, and_true, true_and, and_assoc]); repeat' (first | trivial | assumption | exact Dj.symm (by assumption) | exact Ne.symm (by assumption) | apply And.intro))), (show Dk g1 ((g13, .cells #[.int .i64 0, .int .i64 1] 3 (0, 0)) :: Tr) from (by (try simp only [dj_app_l, dj_app_r, dj_cons_l, dj_cons_r, dj_nil_l, dj_nil_r, dk_app, dk_cons, dk_nil, and_true, true_and, and_assoc]); repeat' (first | trivial | assumption | exact Dj.symm (by assumption) | exact Ne.symm (by assumption) | apply And.intro))), (show Dj Kc ((g13, .cells #[.int .i64 0, .int .i64 1] 3 (0, 0)) :: Tr) from (by (try simp only [dj_app_l, dj_app_r, dj_cons_l, dj_cons_r, dj_nil_l, dj_nil_r, dk_app, dk_cons, dk_nil, and_true, true_and, and_assoc]); repeat' (first | trivial | assumption | exact Dj.symm (by assumption) | exact Ne.symm (by assumption) | apply And.intro))), (show Dk g2 Kl17 from (by (try simp only [dj_app_l, dj_app_r, dj_cons_l, dj_cons_r, dj_nil_l, dj_nil_r, dk_app, dk_cons, dk_nil, and_true, true_and, and_assoc]); repeat' (first | trivial | assumption | exact Dj.symm (by assumption) | exact Ne.symm (by assumption) | apply And.intro))), (show Dk g1 Kl17 from (by (try simp only [dj_app_l, dj_app_r, dj_cons_l, dj_cons_r, dj_nil_l, dj_nil_r, dk_app, dk_cons, dk_nil, and_true, true_and, and_assoc]); repeat' (first | trivial | assumption | exact Dj.symm (by assumption) | exact Ne.symm (by assumption) | apply And.intro))), (show Dj Kc Kl17 from (by (try simp only [dj_app_l, dj_app_r, dj_cons_l, dj_cons_r, dj_nil_l, dj_nil_r, dk_app, dk_cons, dk_nil, and_true, true_and, and_assoc]); repeat' (first | trivial | assumption | exact Dj.symm (by assumption) | exact Ne.symm (by assumption) | apply And.intro))), (show Dj ((g13, .cells #[.int .i64 0, .int .i64 1] 3 (0, 0)) :: Tr) Kl17 from (by (try simp only [dj_app_l, dj_app_r, dj_cons_l, dj_cons_r, dj_nil_l, dj_nil_r, dk_app, dk_cons, dk_nil, and_true, true_and, and_assoc]); repeat' (first | trivial | assumption | exact Dj.symm (by assumption) | exact Ne.symm (by assumption) | apply And.intro))), rfl, (hW18.sub (fun p hp => by first | exact hp | (simp only [List.mem_cons, List.mem_append, List.nil_append, List.not_mem_nil, or_assoc, or_false, false_or] at hp ⊢ <;> grind)))⟩, rfl⟩
                case measure => (show 5 - (intOf (.int .i64 (((i + 1) : Nat) : Int))).toNat < 5 - (intOf (.int .i64 ((i : Nat) : Int))).toNat); simp only [intOf]; omega
              | true =>
                have h6 : ((n / 2 ^ ((2 * i) + 1)) % 2) = 1 := of_decide_eq_true hd6
                clear hd6
                refine wp_cond_true rfl ?_
                refine wp_region_L (W0 := W0) ((g13, .cells #[.int .i64 0, .int .i64 1] 3 (0, 0)) :: (g2, .cells (shC (.slice pc cs.length cc) (.slice p19 (os.length + 1) c19) tl0).toArray 32 (0, 0)) :: (g1, .cells (shC (.slice none 0 0) (.slice none 0 0) tl0).toArray 32 (0, 0)) :: ((Kc ++ Tr) ++ Kl17)) (hW17) ?_
                refine lm (v := .pointer (some ⟨g2, 1, none⟩)) rfl rfl ?_
                refine lv (v := .slice p19 (os.length + 1) c19) rfl rfl (yb_cell (off := 1) rfl (by kernel_rfl) (.tail _ (.head _)) Tryd.underlying23 rfl (by kernel_rfl)) ?_
                refine lm (v := .int .i64 ((i : Nat) : Int)) rfl rfl ?_
                refine wpL_new (fun g => .slice (some ⟨g, 0, none⟩) 3 3) (obi := .cells #[.int .i64 2, .int .i64 3, .int .i64 4] 3 (0, 0)) rfl rfl (fun _ => by kernel_rfl) (fun _ => by simp only [List.setIfInBounds_toArray, List.set_cons_succ, List.set_cons_zero] <;> rfl) fun g20 Bg20 Fg20 => ?_
                obtain ⟨dj21_0, dj21_1, dj21_2, dj21_3, dj21_4, dj21_5⟩ : g13 ≠ g20 ∧ g2 ≠ g20 ∧ g1 ≠ g20 ∧ Dk g20 Kc ∧ Dk g20 Tr ∧ Dk g20 Kl17 := by simpa only [dj_app_l, dj_app_r, dj_cons_l, dj_cons_r, dj_nil_l, dj_nil_r, dk_app, dk_cons, dk_nil, and_true, true_and, and_assoc] using (show Dk g20 ((g13, .cells #[.int .i64 0, .int .i64 1] 3 (0, 0)) :: (g2, .cells (shC (.slice pc cs.length cc) (.slice p19 (os.length + 1) c19) tl0).toArray 32 (0, 0)) :: (g1, .cells (shC (.slice none 0 0) (.slice none 0 0) tl0).toArray 32 (0, 0)) :: ((Kc ++ Tr) ++ Kl17)) from Fg20)
                refine lm (v := .agg #[.int .i64 ((i : Nat) : Int), .slice (some ⟨g20, 0, none⟩) 3 3]) rfl rfl ?_
                refine wpL_new (fun g => .slice (some ⟨g, 0, none⟩) 1 1) (obi := .cells #[.int .i64 ((i : Nat) : Int), .slice (some ⟨g20, 0, none⟩) 3 3] 67 (0, 0)) rfl rfl (fun _ => by kernel_rfl) (fun _ => by simp only [List.setIfInBounds_toArray, List.set_cons_succ, List.set_cons_zero] <;> rfl) fun g22 Bg22 Fg22 => ?_
                obtain ⟨dj23_0, dj23_1, dj23_2, dj23_3, dj23_4, dj23_5, dj23_6⟩ : g20 ≠ g22 ∧ g13 ≠ g22 ∧ g2 ≠ g22 ∧ g1 ≠ g22 ∧ Dk g22 Kc ∧ Dk g22 Tr ∧ Dk g22 Kl17 := by simpa only [dj_app_l, dj_app_r, dj_cons_l, dj_cons_r, dj_nil_l, dj_nil_r, dk_app, dk_cons, dk_nil, and_true, true_and, and_assoc] using (show Dk g22 ((g20, .cells #[.int .i64 2, .int .i64 3, .int .i64 4] 3 (0, 0)) :: (g13, .cells #[.int .i64 0, .int .i64 1] 3 (0, 0)) :: (g2, .cells (shC (.slice pc cs.length cc) (.slice p19 (os.length + 1) c19) tl0).toArray 32 (0, 0)) :: (g1, .cells (shC (.slice none 0 0) (.slice none 0 0) tl0).toArray 32 (0, 0)) :: ((Kc ++ Tr) ++ Kl17)) from Fg22)
                refine wpL_g (AppO W0 67 2 ((g20, .cells #[.int .i64 2, .int .i64 3, .int .i64 4] 3 (0, 0)) :: (g13, .cells #[.int .i64 0, .int .i64 1] 3 (0, 0)) :: (g2, .cells (shC (.slice pc cs.length cc) (.slice p19 (os.length + 1) c19) tl0).toArray 32 (0, 0)) :: (g1, .cells (shC (.slice none 0 0) (.slice none 0 0) tl0).toArray 32 (0, 0)) :: (Kc ++ Tr)) ((os.length + 1) + 1) (((os.flatMap covC) ++ [.int .i64 ((i : Nat) : Int), .slice (some ⟨g13, 0, none⟩) 2 2]) ++ [.int .i64 ((i : Nat) : Int), .slice (some ⟨g20, 0, none⟩) 3 3])) rfl rfl (app_own el_cov (m := 1) (c := 1) (news := [.int .i64 ((i : Nat) : Int), .slice (some ⟨g20, 0, none⟩) 3 3]) rfl (by kernel_rfl) (by kernel_rfl) (.head _) O17 (fun p hp => by simp only [List.mem_cons, List.mem_append, List.nil_append, List.not_mem_nil, or_assoc, or_false, false_or, hp, or_true, true_or]) (fun p hp => ⟨by simp only [List.mem_cons, List.mem_append, List.nil_append, List.not_mem_nil, or_assoc, or_false, false_or] at hp ⊢ <;> grind, (show Dj ((g20, .cells #[.int .i64 2, .int .i64 3, .int .i64 4] 3 (0, 0)) :: (g13, .cells #[.int .i64 0, .int .i64 1] 3 (0, 0)) :: (g2, .cells (shC (.slice pc cs.length cc) (.slice p19 (os.length + 1) c19) tl0).toArray 32 (0, 0)) :: (g1, .cells (shC (.slice none 0 0) (.slice none 0 0) tl0).toArray 32 (0, 0)) :: (Kc ++ Tr)) Kl17 from (by (try simp only [dj_app_l, dj_app_r, dj_cons_l, dj_cons_r, dj_nil_l, dj_nil_r, dk_app, dk_cons, dk_nil, and_true, true_and, and_assoc]); repeat' (first | trivial | assumption | exact Dj.symm (by assumption) | exact Ne.symm (by assumption) | apply And.intro))) p hp⟩) rfl (by simp [strV, Value.oneCell']) (by omega) (by omega) (by omega)) (fun _ => by simp only [List.setIfInBounds_toArray, List.set_cons_succ, List.set_cons_zero] <;> rfl) ?_
                rintro v24 K9 ⟨Kl24, O24, N24, rfl⟩
                obtain ⟨dj25_0, dj25_1, dj25_2, dj25_3, dj25_4, dj25_5⟩ : Dk g20 Kl24 ∧ Dk g13 Kl24 ∧ Dk g2 Kl24 ∧ Dk g1 Kl24 ∧ Dj Kc Kl24 ∧ Dj Tr Kl24 := by simpa only [dj_app_l, dj_app_r, dj_cons_l, dj_cons_r, dj_nil_l, dj_nil_r, dk_app, dk_cons, dk_nil, and_true, true_and, and_assoc] using (show Dj ((g20, .cells #[.int .i64 2, .int .i64 3, .int .i64 4] 3 (0, 0)) :: (g13, .cells #[.int .i64 0, .int .i64 1] 3 (0, 0)) :: (g2, .cells (shC (.slice pc cs.length cc) (.slice p19 (os.length + 1) c19) tl0).toArray 32 (0, 0)) :: (g1, .cells (shC (.slice none 0 0) (.slice none 0 0) tl0).toArray 32 (0, 0)) :: (Kc ++ Tr)) Kl24 from N24)
                refine lm (v := .pointer (some ⟨g2, 1, none⟩)) rfl rfl ?_
                obtain ⟨p26, c26, rfl⟩ := own_shape O24
                refine wpL_s ((g20, .cells #[.int .i64 2, .int .i64 3, .int .i64 4] 3 (0, 0)) :: (g13, .cells #[.int .i64 0, .int .i64 1] 3 (0, 0)) :: (g2, .cells (shC (.slice pc cs.length cc) (.slice p26 ((os.length + 1) + 1) c26) tl0).toArray 32 (0, 0)) :: (g1, .cells (shC (.slice none 0 0) (.slice none 0 0) tl0).toArray 32 (0, 0)) :: ((Kc ++ Tr) ++ Kl24)) rfl rfl (st_row (off := 1) (v := .slice p26 ((os.length + 1) + 1) c26) rfl (by kernel_rfl) (by kernel_rfl) (.tail _ (.tail _ (.head _))) Bg2 (by kernel_rfl) (by first | (simp [Value.cells]; done) | exact Nat.le_of_ble_eq_true rfl) (by intro v hv; simp [Value.cells] at hv; first | (subst hv; rfl) | (rcases hv with rfl <;> rfl)) (by kernel_rfl) (List.forall_mem_cons.2 ⟨.inr ⟨(.head _), (by first | assumption | exact Ne.symm (by assumption))⟩, (List.forall_mem_cons.2 ⟨.inr ⟨(.tail _ (.head _)), (by first | assumption | exact Ne.symm (by assumption))⟩, (List.forall_mem_cons.2 ⟨.inl rfl, (List.forall_mem_cons.2 ⟨.inr ⟨(.tail _ (.tail _ (.tail _ (.head _)))), (by first | assumption | exact Ne.symm (by assumption))⟩, (fun p hp => .inr ⟨(.tail _ (.tail _ (.tail _ (.tail _ hp)))), ((show Dk g2 ((Kc ++ Tr) ++ Kl24) from (by (try simp only [dj_app_l, dj_app_r, dj_cons_l, dj_cons_r, dj_nil_l, dj_nil_r, dk_app, dk_cons, dk_nil, and_true, true_and, and_assoc]); repeat' (first | trivial | assumption | exact Dj.symm (by assumption) | exact Ne.symm (by assumption) | apply And.intro))) _ hp)⟩)⟩)⟩)⟩)⟩)) ?_
                refine wpL_done (fun W19 hW19 => ?_)
                refine (show Code.wp _ _ _ _ _ from ?_)
                refine wp_region_L (W0 := W0) ((g20, .cells #[.int .i64 2, .int .i64 3, .int .i64 4] 3 (0, 0)) :: (g13, .cells #[.int .i64 0, .int .i64 1] 3 (0, 0)) :: (g2, .cells (shC (.slice pc cs.length cc) (.slice p26 ((os.length + 1) + 1) c26) tl0).toArray 32 (0, 0)) :: (g1, .cells (shC (.slice none 0 0) (.slice none 0 0) tl0).toArray 32 (0, 0)) :: ((Kc ++ Tr) ++ Kl24)) (hW19) ?_
                refine lm (v := .int .i64 ((i : Nat) : Int)) rfl rfl ?_
                refine lp (v := .int .i64 (((i + 1) : Nat) : Int)) rfl rfl (run_bin rfl (vx := (.int .i64 ((i : Nat) : Int))) (vy := (.int .i64 ((1 : Nat) : Int))) (by kernel_rfl) (by kernel_rfl) fun w => bn_add (z := (i + 1)) rfl (wr_i64 (by omega)) w) ?_
                refine lm (v := .int .i64 (((i + 1) : Nat) : Int)) rfl rfl ?_
                refine wpL_done (fun W20 hW20 => ?_)
                go_roundw
                case rel =>
                  repeat apply Exists.intro
                  exact ⟨⟨i + 1, ((os ++ [⟨((i : Nat) : Int), [0, 1], some ⟨g13, 0, none⟩, 2⟩]) ++ [⟨((i : Nat) : Int), [2, 3, 4], some ⟨g20, 0, none⟩, 3⟩]), .slice p26 ((os.length + 1) + 1) c26, ((g20, .cells #[.int .i64 2, .int .i64 3, .int .i64 4] 3 (0, 0)) :: ((g13, .cells #[.int .i64 0, .int .i64 1] 3 (0, 0)) :: Tr)), Kl24, (by omega), (by rw [cov_11 h4 h6]; simp only [List.map_append, List.map_cons, List.map_nil, hos, List.append_assoc, List.cons_append, List.nil_append]), (by simp only [List.length_append, List.length_singleton, List.length_cons, List.length_nil]; omega), (own_app O24 (by simp only [List.flatMap_append, List.append_assoc]; rfl) (by simp only [List.length_append]; rfl)), (fun W hW => (rw_snoc (rw_snoc (hRo W (hW.sub (fun p hp => by simp only [List.mem_cons, hp, or_true]))) (o := ⟨((i : Nat) : Int), [0, 1], some ⟨g13, 0, none⟩, 2⟩) (blk_slv hW (.tail _ (.head _)))) (o := ⟨((i : Nat) : Int), [2, 3, 4], some ⟨g20, 0, none⟩, 3⟩) (blk_slv hW (.head _)))), (show Dk g2 ((g20, .cells #[.int .i64 2, .int .i64 3, .int .i64 4] 3 (0, 0)) :: ((g13, .cells #[.int .i64 0, .int .i64 1] 3 (0, 0)) :: Tr)) from (by (try simp only [dj_app_l, dj_app_r, dj_cons_l, dj_cons_r, dj_nil_l, dj_nil_r, dk_app, dk_cons, dk_nil, and_true, true_and, and_assoc]); repeat' (first | trivial | assumption | exact Dj.symm (by assumption) | exact Ne.symm (by assumption) | apply And.intro))), (show Dk g1 ((g20, .cells #[.int .i64 2, .int .i64 3, .int .i64 4] 3 (0, 0)) :: ((g13, .cells #[.int .i64 0, .int .i64 1] 3 (0, 0)) :: Tr)) from (by (try simp only [dj_app_l, dj_app_r, dj_cons_l, dj_cons_r, dj_nil_l, dj_nil_r, dk_app, dk_cons, dk_nil, and_true, true_and, and_assoc]); repeat' (first | trivial | assumption | exact Dj.symm (by assumption) | exact Ne.symm (by assumption) | apply And.intro))), (show Dj Kc ((g20, .cells #[.int .i64 2, .int .i64 3, .int .i64 4] 3 (0, 0)) :: ((g13, .cells #[.int .i64 0, .int .i64 1] 3 (0, 0)) :: Tr)) from (by (try simp only [dj_app_l, dj_app_r, dj_cons_l, dj_cons_r, dj_nil_l, dj_nil_r, dk_app, dk_cons, dk_nil, and_true, true_and, and_assoc]); repeat' (first | trivial | assumption | exact Dj.symm (by assumption) | exact Ne.symm (by assumption) | apply And.intro))), (show Dk g2 Kl24 from (by (try simp only [dj_app_l, dj_app_r, dj_cons_l, dj_cons_r, dj_nil_l, dj_nil_r, dk_app, dk_cons, dk_nil, and_true, true_and, and_assoc]); repeat' (first | trivial | assumption | exact Dj.symm (by assumption) | exact Ne.symm (by assumption) | apply And.intro))), (show Dk g1 Kl24 from (by (try simp only [dj_app_l, dj_app_r, dj_cons_l, dj_cons_r, dj_nil_l, dj_nil_r, dk_app, dk_cons, dk_nil, and_true, true_and, and_assoc]); repeat' (first | trivial | assumption | exact Dj.symm (by assumption) | exact Ne.symm (by assumption) | apply And.intro))), (show Dj Kc Kl24 from (by (try simp only [dj_app_l, dj_app_r, dj_cons_l, dj_cons_r, dj_nil_l, dj_nil_r, dk_app, dk_cons, dk_nil, and_true, true_and, and_assoc]); repeat' (first | trivial | assumption | exact Dj.symm (by assumption) | exact Ne.symm (by assumption) | apply And.intro))), (show Dj ((g20, .cells #[.int .i64 2, .int .i64 3, .int .i64 4] 3 (0, 0)) :: ((g13, .cells #[.int .i64 0, .int .i64 1] 3 (0, 0)) :: Tr)) Kl24 from (by (try simp only [dj_app_l, dj_app_r, dj_cons_l, dj_cons_r, dj_nil_l, dj_nil_r, dk_app, dk_cons, dk_nil, and_true, true_and, and_assoc]); repeat' (first | trivial | assumption | exact Dj.symm (by assumption) | exact Ne.symm (by assumption) | apply And.intro))), rfl, (hW20.sub (fun p hp => by first | exact hp | (simp only [List.mem_cons, List.mem_append, List.nil_append, List.not_mem_nil, or_assoc, or_false, false_or] at hp ⊢ <;> grind)))⟩, rfl⟩
                case measure => (show 5 - (intOf (.int .i64 (((i + 1) : Nat) : Int))).toNat < 5 - (intOf (.int .i64 ((i : Nat) : Int))).toNat); simp only [intOf]; omega
      | true =>
        have h2 : cs.length = 0 := of_decide_eq_true hd2
        clear hd2
        refine wp_cond_true rfl ?_
        refine wp_region_L (W0 := W0) ((g2, .cells (shC (.slice pc cs.length cc) (.slice none 0 0) tl0).toArray 32 (0, 0)) :: (g1, .cells (shC (.slice none 0 0) (.slice none 0 0) tl0).toArray 32 (0, 0)) :: Kc) (hW6) ?_
        refine lm (v := .agg #[.int .i64 0, .int .i64 0, .bool false, .int .i64 3, .int .i64 0, .int .i64 500000000, .int .i64 500000000, .int .i64 0, .slice none 0 0, .int .i64 0, .int .i64 0, .int .i64 2000]) rfl rfl ?_
        refine wpL_new (fun g => .slice (some ⟨g, 0, none⟩) 1 1) (obi := .cells #[.int .i64 0, .int .i64 0, .bool false, .int .i64 3, .int .i64 0, .int .i64 500000000, .int .i64 500000000, .int .i64 0, .slice none 0 0, .int .i64 0, .int .i64 0, .int .i64 2000] 65 (0, 0)) rfl rfl (fun _ => by kernel_rfl) (fun _ => by simp only [List.setIfInBounds_toArray, List.set_cons_succ, List.set_cons_zero] <;> rfl) fun g27 Bg27 Fg27 => ?_
        obtain ⟨dj28_0, dj28_1, dj28_2⟩ : g2 ≠ g27 ∧ g1 ≠ g27 ∧ Dk g27 Kc := by simpa only [dj_app_l, dj_app_r, dj_cons_l, dj_cons_r, dj_nil_l, dj_nil_r, dk_app, dk_cons, dk_nil, and_true, true_and, and_assoc] using (show Dk g27 ((g2, .cells (shC (.slice pc cs.length cc) (.slice none 0 0) tl0).toArray 32 (0, 0)) :: (g1, .cells (shC (.slice none 0 0) (.slice none 0 0) tl0).toArray 32 (0, 0)) :: Kc) from Fg27)
        refine lm (v := .pointer (some ⟨g2, 0, none⟩)) rfl rfl ?_
        refine wpL_s ((g27, .cells #[.int .i64 0, .int .i64 0, .bool false, .int .i64 3, .int .i64 0, .int .i64 500000000, .int .i64 500000000, .int .i64 0, .slice none 0 0, .int .i64 0, .int .i64 0, .int .i64 2000] 65 (0, 0)) :: (g2, .cells (shC (.slice (some ⟨g27, 0, none⟩) 1 1) (.slice none 0 0) tl0).toArray 32 (0, 0)) :: (g1, .cells (shC (.slice none 0 0) (.slice none 0 0) tl0).toArray 32 (0, 0)) :: Kc) rfl rfl (st_row (off := 0) (v := .slice (some ⟨g27, 0, none⟩) 1 1) rfl (by kernel_rfl) (by kernel_rfl) (.tail _ (.head _)) Bg2 (by kernel_rfl) (by first | (simp [Value.cells]; done) | exact Nat.le_of_ble_eq_true rfl) (by intro v hv; simp [Value.cells] at hv; first | (subst hv; rfl) | (rcases hv with rfl <;> rfl)) (by kernel_rfl) (List.forall_mem_cons.2 ⟨.inr ⟨(.head _), (by first | assumption | exact Ne.symm (by assumption))⟩, (List.forall_mem_cons.2 ⟨.inl rfl, (List.forall_mem_cons.2 ⟨.inr ⟨(.tail _ (.tail _ (.head _))), (by first | assumption | exact Ne.symm (by assumption))⟩, (fun p hp => .inr ⟨(.tail _ (.tail _ (.tail _ hp))), ((show Dk g2 Kc from (by (try simp only [dj_app_l, dj_app_r, dj_cons_l, dj_cons_r, dj_nil_l, dj_nil_r, dk_app, dk_cons, dk_nil, and_true, true_and, and_assoc]); repeat' (first | trivial | assumption | exact Dj.symm (by assumption) | exact Ne.symm (by assumption) | apply And.intro))) _ hp)⟩)⟩)⟩)⟩)) ?_
        refine wpL_done (fun W21 hW21 => ?_)
        refine (show Code.wp _ _ _ _ _ from ?_)
        refine wp_seq ?_
        refine wp_seq ?_
        refine wp_region_L (W0 := W0) ((g27, .cells #[.int .i64 0, .int .i64 0, .bool false, .int .i64 3, .int .i64 0, .int .i64 500000000, .int .i64 500000000, .int .i64 0, .slice none 0 0, .int .i64 0, .int .i64 0, .int .i64 2000] 65 (0, 0)) :: (g2, .cells (shC (.slice (some ⟨g27, 0, none⟩) 1 1) (.slice none 0 0) tl0).toArray 32 (0, 0)) :: (g1, .cells (shC (.slice none 0 0) (.slice none 0 0) tl0).toArray 32 (0, 0)) :: Kc) (hW21) ?_
        refine lm (v := .int .i64 0) rfl rfl ?_
        refine wpL_done (fun W22 hW22 => ?_)
        refine (show Code.wp _ _ _ _ _ from ?_)
        refine wp_block ?_
        have hB : builtC l = [col1] := by unfold builtC; rw [← hm, ← show cs = bld (l.take m) from by rw [hcs, List.take_of_length_le (by rw [List.length_take]; omega)]]; exact if_pos h2
        go_loopw [11] (fun u11 wr => ∃ (i : Nat) (os : List Cov) (vo : Value) (Tr Ko : List (Nat × Obj)), (i ≤ 5) ∧ (os.map (fun o => (o.bay, o.rows)) = covTo n i) ∧ (os.length ≤ 2 * i) ∧ (OwnL W0 67 2 vo os.length (os.flatMap covC) Ko) ∧ (∀ W, KS W0 Tr W → RwR W os) ∧ (Dk g27 Tr) ∧ (Dk g2 Tr) ∧ (Dk g1 Tr) ∧ (Dj Kc Tr) ∧ (Dk g27 Ko) ∧ (Dk g2 Ko) ∧ (Dk g1 Ko) ∧ (Dj Kc Ko) ∧ (Dj Tr Ko) ∧ u11 = .int .i64 ((i : Nat) : Int) ∧ KS W0 ((g27, .cells #[.int .i64 0, .int .i64 0, .bool false, .int .i64 3, .int .i64 0, .int .i64 500000000, .int .i64 500000000, .int .i64 0, .slice none 0 0, .int .i64 0, .int .i64 0, .int .i64 2000] 65 (0, 0)) :: (g2, .cells (shC (.slice (some ⟨g27, 0, none⟩) 1 1) (vo) tl0).toArray 32 (0, 0)) :: (g1, .cells (shC (.slice none 0 0) (.slice none 0 0) tl0).toArray 32 (0, 0)) :: (Kc ++ (Tr ++ Ko))) wr) (fun u11 _ => 5 - (intOf u11).toNat)
        case atStart => exact ⟨0, [], (.slice none 0 0), [], [], (Nat.zero_le _), rfl, (Nat.le_refl _), (OwnL.nil _ _ _), (fun _ _ => rw_nil), (show Dk g27 [] from (by (try simp only [dj_app_l, dj_app_r, dj_cons_l, dj_cons_r, dj_nil_l, dj_nil_r, dk_app, dk_cons, dk_nil, and_true, true_and, and_assoc]); repeat' (first | trivial | assumption | exact Dj.symm (by assumption) | exact Ne.symm (by assumption) | apply And.intro))), (show Dk g2 [] from (by (try simp only [dj_app_l, dj_app_r, dj_cons_l, dj_cons_r, dj_nil_l, dj_nil_r, dk_app, dk_cons, dk_nil, and_true, true_and, and_assoc]); repeat' (first | trivial | assumption | exact Dj.symm (by assumption) | exact Ne.symm (by assumption) | apply And.intro))), (show Dk g1 [] from (by (try simp only [dj_app_l, dj_app_r, dj_cons_l, dj_cons_r, dj_nil_l, dj_nil_r, dk_app, dk_cons, dk_nil, and_true, true_and, and_assoc]); repeat' (first | trivial | assumption | exact Dj.symm (by assumption) | exact Ne.symm (by assumption) | apply And.intro))), (show Dj Kc [] from (by (try simp only [dj_app_l, dj_app_r, dj_cons_l, dj_cons_r, dj_nil_l, dj_nil_r, dk_app, dk_cons, dk_nil, and_true, true_and, and_assoc]); repeat' (first | trivial | assumption | exact Dj.symm (by assumption) | exact Ne.symm (by assumption) | apply And.intro))), (show Dk g27 [] from (by (try simp only [dj_app_l, dj_app_r, dj_cons_l, dj_cons_r, dj_nil_l, dj_nil_r, dk_app, dk_cons, dk_nil, and_true, true_and, and_assoc]); repeat' (first | trivial | assumption | exact Dj.symm (by assumption) | exact Ne.symm (by assumption) | apply And.intro))), (show Dk g2 [] from (by (try simp only [dj_app_l, dj_app_r, dj_cons_l, dj_cons_r, dj_nil_l, dj_nil_r, dk_app, dk_cons, dk_nil, and_true, true_and, and_assoc]); repeat' (first | trivial | assumption | exact Dj.symm (by assumption) | exact Ne.symm (by assumption) | apply And.intro))), (show Dk g1 [] from (by (try simp only [dj_app_l, dj_app_r, dj_cons_l, dj_cons_r, dj_nil_l, dj_nil_r, dk_app, dk_cons, dk_nil, and_true, true_and, and_assoc]); repeat' (first | trivial | assumption | exact Dj.symm (by assumption) | exact Ne.symm (by assumption) | apply And.intro))), (show Dj Kc [] from (by (try simp only [dj_app_l, dj_app_r, dj_cons_l, dj_cons_r, dj_nil_l, dj_nil_r, dk_app, dk_cons, dk_nil, and_true, true_and, and_assoc]); repeat' (first | trivial | assumption | exact Dj.symm (by assumption) | exact Ne.symm (by assumption) | apply And.intro))), (show Dj [] [] from (by (try simp only [dj_app_l, dj_app_r, dj_cons_l, dj_cons_r, dj_nil_l, dj_nil_r, dk_app, dk_cons, dk_nil, and_true, true_and, and_assoc]); repeat' (first | trivial | assumption | exact Dj.symm (by assumption) | exact Ne.symm (by assumption) | apply And.intro))), rfl, (hW22.sub (fun p hp => by first | exact hp | (simp only [List.mem_cons, List.mem_append, List.nil_append, List.not_mem_nil, or_assoc, or_false, false_or] at hp ⊢ <;> grind)))⟩
        case round =>
          obtain ⟨i, os, vo, Tr, Ko, hi, hos, hlo, hOo, hRo, dh29_0, dh29_1, dh29_2, dh29_3, dh29_4, dh29_5, dh29_6, dh29_7, dh29_8, rfl, hL23⟩ := hrel
          obtain ⟨po, co, rfl, hco, RO⟩ := own_rl hOo
          refine wp_seq ?_
          refine wp_seq ?_
          refine wp_region_L (W0 := W0) ((g27, .cells #[.int .i64 0, .int .i64 0, .bool false, .int .i64 3, .int .i64 0, .int .i64 500000000, .int .i64 500000000, .int .i64 0, .slice none 0 0, .int .i64 0, .int .i64 0, .int .i64 2000] 65 (0, 0)) :: (g2, .cells (shC (.slice (some ⟨g27, 0, none⟩) 1 1) (.slice po os.length co) tl0).toArray 32 (0, 0)) :: (g1, .cells (shC (.slice none 0 0) (.slice none 0 0) tl0).toArray 32 (0, 0)) :: (Kc ++ (Tr ++ Ko))) (hL23) ?_
          refine lm (v := .int .i64 ((i : Nat) : Int)) rfl rfl ?_
          refine lp (v := .bool (decide (i < 5))) rfl rfl (run_bin rfl (vx := (.int .i64 ((i : Nat) : Int))) (vy := (.int .i64 ((5 : Nat) : Int))) (by kernel_rfl) (by kernel_rfl) fun w => bn_lss rfl w) ?_
          refine wpL_done (fun W24 hW24 => ?_)
          refine (show Code.wp _ _ _ _ _ from ?_)
          cases hd7 : (decide (i < 5)) with
          | false =>
            have h7 : ¬ (i < 5) := of_decide_eq_false hd7
            clear hd7
            refine wp_cond_false rfl ?_
            refine wp_exit ?_
            refine (show Code.wp _ _ _ _ _ from ?_)
            refine wp_seq ?_
            refine wp_region_L (W0 := W0) ((g27, .cells #[.int .i64 0, .int .i64 0, .bool false, .int .i64 3, .int .i64 0, .int .i64 500000000, .int .i64 500000000, .int .i64 0, .slice none 0 0, .int .i64 0, .int .i64 0, .int .i64 2000] 65 (0, 0)) :: (g2, .cells (shC (.slice (some ⟨g27, 0, none⟩) 1 1) (.slice po os.length co) tl0).toArray 32 (0, 0)) :: (g1, .cells (shC (.slice none 0 0) (.slice none 0 0) tl0).toArray 32 (0, 0)) :: (Kc ++ (Tr ++ Ko))) (hW24) ?_
            refine lv (v := .agg (shC (.slice (some ⟨g27, 0, none⟩) 1 1) (.slice po os.length co) tl0).toArray) rfl rfl (yb_load (n := 13) (off := 0) rfl (by kernel_rfl) (.tail _ (.head _)) Tryd.underlying32 rfl (by kernel_rfl) (by first | (simp [Value.cells]; done) | exact Nat.le_of_ble_eq_true rfl) (by kernel_rfl)) ?_
            refine wpL_s ((g27, .cells #[.int .i64 0, .int .i64 0, .bool false, .int .i64 3, .int .i64 0, .int .i64 500000000, .int .i64 500000000, .int .i64 0, .slice none 0 0, .int .i64 0, .int .i64 0, .int .i64 2000] 65 (0, 0)) :: (g2, .cells (shC (.slice (some ⟨g27, 0, none⟩) 1 1) (.slice po os.length co) tl0).toArray 32 (0, 0)) :: (g1, .cells (shC (.slice (some ⟨g27, 0, none⟩) 1 1) (.slice po os.length co) tl0).toArray 32 (0, 0)) :: (Kc ++ (Tr ++ Ko))) rfl rfl (st_row (off := 0) (v := .agg (shC (.slice (some ⟨g27, 0, none⟩) 1 1) (.slice po os.length co) tl0).toArray) rfl (by kernel_rfl) (by kernel_rfl) (.tail _ (.tail _ (.head _))) Bg1 (by kernel_rfl) (by first | (simp [Value.cells]; done) | exact Nat.le_of_ble_eq_true rfl) (fun v hv => shC_one v hv) (by kernel_rfl) (List.forall_mem_cons.2 ⟨.inr ⟨(.head _), (by first | assumption | exact Ne.symm (by assumption))⟩, (List.forall_mem_cons.2 ⟨.inr ⟨(.tail _ (.head _)), (by first | assumption | exact Ne.symm (by assumption))⟩, (List.forall_mem_cons.2 ⟨.inl rfl, (fun p hp => .inr ⟨(.tail _ (.tail _ (.tail _ hp))), ((show Dk g1 (Kc ++ (Tr ++ Ko)) from (by (try simp only [dj_app_l, dj_app_r, dj_cons_l, dj_cons_r, dj_nil_l, dj_nil_r, dk_app, dk_cons, dk_nil, and_true, true_and, and_assoc]); repeat' (first | trivial | assumption | exact Dj.symm (by assumption) | exact Ne.symm (by assumption) | apply And.intro))) _ hp)⟩)⟩)⟩)⟩)) ?_
            refine wpL_done (fun W25 hW25 => ?_)
            refine (show Code.wp _ _ _ _ _ from ?_)
            refine wp_ret ?_
            try simp only [inBlock_ret, then_ret]
            refine bodyPost_ret (v := .agg (shC (.slice (some ⟨g27, 0, none⟩) 1 1) (.slice po os.length co) tl0).toArray) ?_ rfl ?_
            · exact (res_cell (p := 4) rfl rfl (hW25.2 _ (.tail _ (.tail _ (.head _)))) Tryd.underlying32 rfl (by kernel_rfl))
            · exact ⟨_, ((g27, .cells #[.int .i64 0, .int .i64 0, .bool false, .int .i64 3, .int .i64 0, .int .i64 500000000, .int .i64 500000000, .int .i64 0, .slice none 0 0, .int .i64 0, .int .i64 0, .int .i64 2000] 65 (0, 0)) :: (g2, .cells (shC (.slice (some ⟨g27, 0, none⟩) 1 1) (.slice po os.length co) tl0).toArray 32 (0, 0)) :: (g1, .cells (shC (.slice (some ⟨g27, 0, none⟩) 1 1) (.slice po os.length co) tl0).toArray 32 (0, 0)) :: (Kc ++ (Tr ++ Ko))), rfl, hW25, (by rw [hB]; exact ⟨some ⟨g27, 0, none⟩, 1, os, po, co, rfl, Nat.le_refl _, hco, (fun W hW => blk_slv (cs := [col1].flatMap colC) hW (.head _)), RO.mono (fun p hp => by simp only [List.mem_cons, List.mem_append, hp, true_or, or_true]), (fun W hW => hRo W (hW.sub (fun p hp => by simp only [List.mem_cons, List.mem_append, hp, true_or, or_true]))), (by rw [hos, show i = 5 from by omega]; rfl)⟩)⟩
          | true =>
            have h7 : i < 5 := of_decide_eq_true hd7
            clear hd7
            refine wp_cond_true rfl ?_
            refine wp_skip ?_
            refine (show Code.wp _ _ _ _ _ from ?_)
            refine wp_seq ?_
            refine wp_block ?_
            refine wp_seq ?_
            refine wp_seq ?_
            refine wp_region_L (W0 := W0) ((g27, .cells #[.int .i64 0, .int .i64 0, .bool false, .int .i64 3, .int .i64 0, .int .i64 500000000, .int .i64 500000000, .int .i64 0, .slice none 0 0, .int .i64 0, .int .i64 0, .int .i64 2000] 65 (0, 0)) :: (g2, .cells (shC (.slice (some ⟨g27, 0, none⟩) 1 1) (.slice po os.length co) tl0).toArray 32 (0, 0)) :: (g1, .cells (shC (.slice none 0 0) (.slice none 0 0) tl0).toArray 32 (0, 0)) :: (Kc ++ (Tr ++ Ko))) (hW24) ?_
            refine lm (v := .int .u32 ((n : Nat) : Int)) rfl rfl ?_
            refine lm (v := .int .i64 ((i : Nat) : Int)) rfl rfl ?_
            refine lp (v := .int .i64 (((2 * i) : Nat) : Int)) rfl rfl (run_bin rfl (vx := (.int .i64 ((2 : Nat) : Int))) (vy := (.int .i64 ((i : Nat) : Int))) (by kernel_rfl) (by kernel_rfl) fun w => bn_mul (z := (2 * i)) rfl (wr_i64 (by omega)) w) ?_
            refine lp (v := .int .u32 (((n / 2 ^ (2 * i)) : Nat) : Int)) rfl rfl (run_bin rfl (vx := (.int .u32 ((n : Nat) : Int))) (vy := (.int .i64 (((2 * i) : Nat) : Int))) (by kernel_rfl) (by kernel_rfl) fun w => bn_shr (z := (n / 2 ^ (2 * i))) rfl (by first | omega | decide | (simp only [IntKind.bits]; omega)) w) ?_
            refine lp (v := .int .u32 ((((n / 2 ^ (2 * i)) % 2) : Nat) : Int)) rfl rfl (run_bin rfl (vx := (.int .u32 (((n / 2 ^ (2 * i)) : Nat) : Int))) (vy := (.int .u32 ((1 : Nat) : Int))) (by kernel_rfl) (by kernel_rfl) fun w => bn_and (z := ((n / 2 ^ (2 * i)) % 2)) (Nat.and_one_is_mod _) (by rw [show IntKind.u32.bits = 32 from rfl]; exact Nat.lt_of_le_of_lt (Nat.div_le_self _ _) (by omega)) (by decide) (wr_u32 (by omega)) w) ?_
            refine lp (v := .bool (decide (((n / 2 ^ (2 * i)) % 2) = 1))) rfl rfl (run_bin rfl (vx := (.int .u32 ((((n / 2 ^ (2 * i)) % 2) : Nat) : Int))) (vy := (.int .u32 ((1 : Nat) : Int))) (by kernel_rfl) (by kernel_rfl) fun w => bn_eql rfl w) ?_
            refine wpL_done (fun W26 hW26 => ?_)
            refine (show Code.wp _ _ _ _ _ from ?_)
            cases hd8 : (decide (((n / 2 ^ (2 * i)) % 2) = 1)) with
            | false =>
              have h8 : ¬ (((n / 2 ^ (2 * i)) % 2) = 1) := of_decide_eq_false hd8
              clear hd8
              refine wp_cond_false rfl ?_
              refine wp_skip ?_
              refine (show Code.wp _ _ _ _ _ from ?_)
              refine wp_seq ?_
              refine wp_region_L (W0 := W0) ((g27, .cells #[.int .i64 0, .int .i64 0, .bool false, .int .i64 3, .int .i64 0, .int .i64 500000000, .int .i64 500000000, .int .i64 0, .slice none 0 0, .int .i64 0, .int .i64 0, .int .i64 2000] 65 (0, 0)) :: (g2, .cells (shC (.slice (some ⟨g27, 0, none⟩) 1 1) (.slice po os.length co) tl0).toArray 32 (0, 0)) :: (g1, .cells (shC (.slice none 0 0) (.slice none 0 0) tl0).toArray 32 (0, 0)) :: (Kc ++ (Tr ++ Ko))) (hW26) ?_
              refine lm (v := .int .u32 ((n : Nat) : Int)) rfl rfl ?_
              refine lm (v := .int .i64 ((i : Nat) : Int)) rfl rfl ?_
              refine lp (v := .int .i64 (((2 * i) : Nat) : Int)) rfl rfl (run_bin rfl (vx := (.int .i64 ((2 : Nat) : Int))) (vy := (.int .i64 ((i : Nat) : Int))) (by kernel_rfl) (by kernel_rfl) fun w => bn_mul (z := (2 * i)) rfl (wr_i64 (by omega)) w) ?_
              refine lp (v := .int .i64 ((((2 * i) + 1) : Nat) : Int)) rfl rfl (run_bin rfl (vx := (.int .i64 (((2 * i) : Nat) : Int))) (vy := (.int .i64 ((1 : Nat) : Int))) (by kernel_rfl) (by kernel_rfl) fun w => bn_add (z := ((2 * i) + 1)) rfl (wr_i64 (by omega)) w) ?_
              refine lp (v := .int .u32 (((n / 2 ^ ((2 * i) + 1)) : Nat) : Int)) rfl rfl (run_bin rfl (vx := (.int .u32 ((n : Nat) : Int))) (vy := (.int .i64 ((((2 * i) + 1) : Nat) : Int))) (by kernel_rfl) (by kernel_rfl) fun w => bn_shr (z := (n / 2 ^ ((2 * i) + 1))) rfl (by first | omega | decide | (simp only [IntKind.bits]; omega)) w) ?_
              refine lp (v := .int .u32 ((((n / 2 ^ ((2 * i) + 1)) % 2) : Nat) : Int)) rfl rfl (run_bin rfl (vx := (.int .u32 (((n / 2 ^ ((2 * i) + 1)) : Nat) : Int))) (vy := (.int .u32 ((1 : Nat) : Int))) (by kernel_rfl) (by kernel_rfl) fun w => bn_and (z := ((n / 2 ^ ((2 * i) + 1)) % 2)) (Nat.and_one_is_mod _) (by rw [show IntKind.u32.bits = 32 from rfl]; exact Nat.lt_of_le_of_lt (Nat.div_le_self _ _) (by omega)) (by decide) (wr_u32 (by omega)) w) ?_
              refine lp (v := .bool (decide (((n / 2 ^ ((2 * i) + 1)) % 2) = 1))) rfl rfl (run_bin rfl (vx := (.int .u32 ((((n / 2 ^ ((2 * i) + 1)) % 2) : Nat) : Int))) (vy := (.int .u32 ((1 : Nat) : Int))) (by kernel_rfl) (by kernel_rfl) fun w => bn_eql rfl w) ?_
              refine wpL_done (fun W27 hW27 => ?_)
              refine (show Code.wp _ _ _ _ _ from ?_)
              cases hd9 : (decide (((n / 2 ^ ((2 * i) + 1)) % 2) = 1)) with
              | false =>
                have h9 : ¬ (((n / 2 ^ ((2 * i) + 1)) % 2) = 1) := of_decide_eq_false hd9
                clear hd9
                refine wp_cond_false rfl ?_
                refine wp_skip ?_
                refine (show Code.wp _ _ _ _ _ from ?_)
                refine wp_region_L (W0 := W0) ((g27, .cells #[.int .i64 0, .int .i64 0, .bool false, .int .i64 3, .int .i64 0, .int .i64 500000000, .int .i64 500000000, .int .i64 0, .slice none 0 0, .int .i64 0, .int .i64 0, .int .i64 2000] 65 (0, 0)) :: (g2, .cells (shC (.slice (some ⟨g27, 0, none⟩) 1 1) (.slice po os.length co) tl0).toArray 32 (0, 0)) :: (g1, .cells (shC (.slice none 0 0) (.slice none 0 0) tl0).toArray 32 (0, 0)) :: (Kc ++ (Tr ++ Ko))) (hW27) ?_
                refine lm (v := .int .i64 ((i : Nat) : Int)) rfl rfl ?_
                refine lp (v := .int .i64 (((i + 1) : Nat) : Int)) rfl rfl (run_bin rfl (vx := (.int .i64 ((i : Nat) : Int))) (vy := (.int .i64 ((1 : Nat) : Int))) (by kernel_rfl) (by kernel_rfl) fun w => bn_add (z := (i + 1)) rfl (wr_i64 (by omega)) w) ?_
                refine lm (v := .int .i64 (((i + 1) : Nat) : Int)) rfl rfl ?_
                refine wpL_done (fun W28 hW28 => ?_)
                go_roundw
                case rel =>
                  repeat apply Exists.intro
                  exact ⟨⟨i + 1, os, (.slice po os.length co), Tr, Ko, (by omega), (by rw [cov_00 h8 h9, hos]), (by omega), hOo, hRo, (show Dk g27 Tr from (by (try simp only [dj_app_l, dj_app_r, dj_cons_l, dj_cons_r, dj_nil_l, dj_nil_r, dk_app, dk_cons, dk_nil, and_true, true_and, and_assoc]); repeat' (first | trivial | assumption | exact Dj.symm (by assumption) | exact Ne.symm (by assumption) | apply And.intro))), (show Dk g2 Tr from (by (try simp only [dj_app_l, dj_app_r, dj_cons_l, dj_cons_r, dj_nil_l, dj_nil_r, dk_app, dk_cons, dk_nil, and_true, true_and, and_assoc]); repeat' (first | trivial | assumption | exact Dj.symm (by assumption) | exact Ne.symm (by assumption) | apply And.intro))), (show Dk g1 Tr from (by (try simp only [dj_app_l, dj_app_r, dj_cons_l, dj_cons_r, dj_nil_l, dj_nil_r, dk_app, dk_cons, dk_nil, and_true, true_and, and_assoc]); repeat' (first | trivial | assumption | exact Dj.symm (by assumption) | exact Ne.symm (by assumption) | apply And.intro))), (show Dj Kc Tr from (by (try simp only [dj_app_l, dj_app_r, dj_cons_l, dj_cons_r, dj_nil_l, dj_nil_r, dk_app, dk_cons, dk_nil, and_true, true_and, and_assoc]); repeat' (first | trivial | assumption | exact Dj.symm (by assumption) | exact Ne.symm (by assumption) | apply And.intro))), (show Dk g27 Ko from (by (try simp only [dj_app_l, dj_app_r, dj_cons_l, dj_cons_r, dj_nil_l, dj_nil_r, dk_app, dk_cons, dk_nil, and_true, true_and, and_assoc]); repeat' (first | trivial | assumption | exact Dj.symm (by assumption) | exact Ne.symm (by assumption) | apply And.intro))), (show Dk g2 Ko from (by (try simp only [dj_app_l, dj_app_r, dj_cons_l, dj_cons_r, dj_nil_l, dj_nil_r, dk_app, dk_cons, dk_nil, and_true, true_and, and_assoc]); repeat' (first | trivial | assumption | exact Dj.symm (by assumption) | exact Ne.symm (by assumption) | apply And.intro))), (show Dk g1 Ko from (by (try simp only [dj_app_l, dj_app_r, dj_cons_l, dj_cons_r, dj_nil_l, dj_nil_r, dk_app, dk_cons, dk_nil, and_true, true_and, and_assoc]); repeat' (first | trivial | assumption | exact Dj.symm (by assumption) | exact Ne.symm (by assumption) | apply And.intro))), (show Dj Kc Ko from (by (try simp only [dj_app_l, dj_app_r, dj_cons_l, dj_cons_r, dj_nil_l, dj_nil_r, dk_app, dk_cons, dk_nil, and_true, true_and, and_assoc]); repeat' (first | trivial | assumption | exact Dj.symm (by assumption) | exact Ne.symm (by assumption) | apply And.intro))), (show Dj Tr Ko from (by (try simp only [dj_app_l, dj_app_r, dj_cons_l, dj_cons_r, dj_nil_l, dj_nil_r, dk_app, dk_cons, dk_nil, and_true, true_and, and_assoc]); repeat' (first | trivial | assumption | exact Dj.symm (by assumption) | exact Ne.symm (by assumption) | apply And.intro))), rfl, (hW28.sub (fun p hp => by first | exact hp | (simp only [List.mem_cons, List.mem_append, List.nil_append, List.not_mem_nil, or_assoc, or_false, false_or] at hp ⊢ <;> grind)))⟩, rfl⟩
                case measure => (show 5 - (intOf (.int .i64 (((i + 1) : Nat) : Int))).toNat < 5 - (intOf (.int .i64 ((i : Nat) : Int))).toNat); simp only [intOf]; omega
              | true =>
                have h9 : ((n / 2 ^ ((2 * i) + 1)) % 2) = 1 := of_decide_eq_true hd9
                clear hd9
                refine wp_cond_true rfl ?_
                refine wp_region_L (W0 := W0) ((g27, .cells #[.int .i64 0, .int .i64 0, .bool false, .int .i64 3, .int .i64 0, .int .i64 500000000, .int .i64 500000000, .int .i64 0, .slice none 0 0, .int .i64 0, .int .i64 0, .int .i64 2000] 65 (0, 0)) :: (g2, .cells (shC (.slice (some ⟨g27, 0, none⟩) 1 1) (.slice po os.length co) tl0).toArray 32 (0, 0)) :: (g1, .cells (shC (.slice none 0 0) (.slice none 0 0) tl0).toArray 32 (0, 0)) :: (Kc ++ (Tr ++ Ko))) (hW27) ?_
                refine lm (v := .pointer (some ⟨g2, 1, none⟩)) rfl rfl ?_
                refine lv (v := .slice po os.length co) rfl rfl (yb_cell (off := 1) rfl (by kernel_rfl) (.tail _ (.head _)) Tryd.underlying23 rfl (by kernel_rfl)) ?_
                refine lm (v := .int .i64 ((i : Nat) : Int)) rfl rfl ?_
                refine wpL_new (fun g => .slice (some ⟨g, 0, none⟩) 3 3) (obi := .cells #[.int .i64 2, .int .i64 3, .int .i64 4] 3 (0, 0)) rfl rfl (fun _ => by kernel_rfl) (fun _ => by simp only [List.setIfInBounds_toArray, List.set_cons_succ, List.set_cons_zero] <;> rfl) fun g30 Bg30 Fg30 => ?_
                obtain ⟨dj31_0, dj31_1, dj31_2, dj31_3, dj31_4, dj31_5⟩ : g27 ≠ g30 ∧ g2 ≠ g30 ∧ g1 ≠ g30 ∧ Dk g30 Kc ∧ Dk g30 Tr ∧ Dk g30 Ko := by simpa only [dj_app_l, dj_app_r, dj_cons_l, dj_cons_r, dj_nil_l, dj_nil_r, dk_app, dk_cons, dk_nil, and_true, true_and, and_assoc] using (show Dk g30 ((g27, .cells #[.int .i64 0, .int .i64 0, .bool false, .int .i64 3, .int .i64 0, .int .i64 500000000, .int .i64 500000000, .int .i64 0, .slice none 0 0, .int .i64 0, .int .i64 0, .int .i64 2000] 65 (0, 0)) :: (g2, .cells (shC (.slice (some ⟨g27, 0, none⟩) 1 1) (.slice po os.length co) tl0).toArray 32 (0, 0)) :: (g1, .cells (shC (.slice none 0 0) (.slice none 0 0) tl0).toArray 32 (0, 0)) :: (Kc ++ (Tr ++ Ko))) from Fg30)
                refine lm (v := .agg #[.int .i64 ((i : Nat) : Int), .slice (some ⟨g30, 0, none⟩) 3 3]) rfl rfl ?_
                refine wpL_new (fun g => .slice (some ⟨g, 0, none⟩) 1 1) (obi := .cells #[.int .i64 ((i : Nat) : Int), .slice (some ⟨g30, 0, none⟩) 3 3] 67 (0, 0)) rfl rfl (fun _ => by kernel_rfl) (fun _ => by simp only [List.setIfInBounds_toArray, List.set_cons_succ, List.set_cons_zero] <;> rfl) fun g32 Bg32 Fg32 => ?_
                obtain ⟨dj33_0, dj33_1, dj33_2, dj33_3, dj33_4, dj33_5, dj33_6⟩ : g30 ≠ g32 ∧ g27 ≠ g32 ∧ g2 ≠ g32 ∧ g1 ≠ g32 ∧ Dk g32 Kc ∧ Dk g32 Tr ∧ Dk g32 Ko := by simpa only [dj_app_l, dj_app_r, dj_cons_l, dj_cons_r, dj_nil_l, dj_nil_r, dk_app, dk_cons, dk_nil, and_true, true_and, and_assoc] using (show Dk g32 ((g30, .cells #[.int .i64 2, .int .i64 3, .int .i64 4] 3 (0, 0)) :: (g27, .cells #[.int .i64 0, .int .i64 0, .bool false, .int .i64 3, .int .i64 0, .int .i64 500000000, .int .i64 500000000, .int .i64 0, .slice none 0 0, .int .i64 0, .int .i64 0, .int .i64 2000] 65 (0, 0)) :: (g2, .cells (shC (.slice (some ⟨g27, 0, none⟩) 1 1) (.slice po os.length co) tl0).toArray 32 (0, 0)) :: (g1, .cells (shC (.slice none 0 0) (.slice none 0 0) tl0).toArray 32 (0, 0)) :: (Kc ++ (Tr ++ Ko))) from Fg32)
                refine wpL_g (AppO W0 67 2 ((g30, .cells #[.int .i64 2, .int .i64 3, .int .i64 4] 3 (0, 0)) :: (g27, .cells #[.int .i64 0, .int .i64 0, .bool false, .int .i64 3, .int .i64 0, .int .i64 500000000, .int .i64 500000000, .int .i64 0, .slice none 0 0, .int .i64 0, .int .i64 0, .int .i64 2000] 65 (0, 0)) :: (g2, .cells (shC (.slice (some ⟨g27, 0, none⟩) 1 1) (.slice po os.length co) tl0).toArray 32 (0, 0)) :: (g1, .cells (shC (.slice none 0 0) (.slice none 0 0) tl0).toArray 32 (0, 0)) :: (Kc ++ Tr)) (os.length + 1) ((os.flatMap covC) ++ [.int .i64 ((i : Nat) : Int), .slice (some ⟨g30, 0, none⟩) 3 3])) rfl rfl (app_own el_cov (m := 1) (c := 1) (news := [.int .i64 ((i : Nat) : Int), .slice (some ⟨g30, 0, none⟩) 3 3]) rfl (by kernel_rfl) (by kernel_rfl) (.head _) hOo (fun p hp => by simp only [List.mem_cons, List.mem_append, List.nil_append, List.not_mem_nil, or_assoc, or_false, false_or, hp, or_true, true_or]) (fun p hp => ⟨by simp only [List.mem_cons, List.mem_append, List.nil_append, List.not_mem_nil, or_assoc, or_false, false_or] at hp ⊢ <;> grind, (show Dj ((g30, .cells #[.int .i64 2, .int .i64 3, .int .i64 4] 3 (0, 0)) :: (g27, .cells #[.int .i64 0, .int .i64 0, .bool false, .int .i64 3, .int .i64 0, .int .i64 500000000, .int .i64 500000000, .int .i64 0, .slice none 0 0, .int .i64 0, .int .i64 0, .int .i64 2000] 65 (0, 0)) :: (g2, .cells (shC (.slice (some ⟨g27, 0, none⟩) 1 1) (.slice po os.length co) tl0).toArray 32 (0, 0)) :: (g1, .cells (shC (.slice none 0 0) (.slice none 0 0) tl0).toArray 32 (0, 0)) :: (Kc ++ Tr)) Ko from (by (try simp only [dj_app_l, dj_app_r, dj_cons_l, dj_cons_r, dj_nil_l, dj_nil_r, dk_app, dk_cons, dk_nil, and_true, true_and, and_assoc]); repeat' (first | trivial | assumption | exact Dj.symm (by assumption) | exact Ne.symm (by assumption) | apply And.intro))) p hp⟩) rfl (by simp [strV, Value.oneCell']) (by omega) (by omega) (by omega)) (fun _ => by simp only [List.setIfInBounds_toArray, List.set_cons_succ, List.set_cons_zero] <;> rfl) ?_
                rintro v34 K9 ⟨Kl34, O34, N34, rfl⟩
                obtain ⟨dj35_0, dj35_1, dj35_2, dj35_3, dj35_4, dj35_5⟩ : Dk g30 Kl34 ∧ Dk g27 Kl34 ∧ Dk g2 Kl34 ∧ Dk g1 Kl34 ∧ Dj Kc Kl34 ∧ Dj Tr Kl34 := by simpa only [dj_app_l, dj_app_r, dj_cons_l, dj_cons_r, dj_nil_l, dj_nil_r, dk_app, dk_cons, dk_nil, and_true, true_and, and_assoc] using (show Dj ((g30, .cells #[.int .i64 2, .int .i64 3, .int .i64 4] 3 (0, 0)) :: (g27, .cells #[.int .i64 0, .int .i64 0, .bool false, .int .i64 3, .int .i64 0, .int .i64 500000000, .int .i64 500000000, .int .i64 0, .slice none 0 0, .int .i64 0, .int .i64 0, .int .i64 2000] 65 (0, 0)) :: (g2, .cells (shC (.slice (some ⟨g27, 0, none⟩) 1 1) (.slice po os.length co) tl0).toArray 32 (0, 0)) :: (g1, .cells (shC (.slice none 0 0) (.slice none 0 0) tl0).toArray 32 (0, 0)) :: (Kc ++ Tr)) Kl34 from N34)
                refine lm (v := .pointer (some ⟨g2, 1, none⟩)) rfl rfl ?_
                obtain ⟨p36, c36, rfl⟩ := own_shape O34
                refine wpL_s ((g30, .cells #[.int .i64 2, .int .i64 3, .int .i64 4] 3 (0, 0)) :: (g27, .cells #[.int .i64 0, .int .i64 0, .bool false, .int .i64 3, .int .i64 0, .int .i64 500000000, .int .i64 500000000, .int .i64 0, .slice none 0 0, .int .i64 0, .int .i64 0, .int .i64 2000] 65 (0, 0)) :: (g2, .cells (shC (.slice (some ⟨g27, 0, none⟩) 1 1) (.slice p36 (os.length + 1) c36) tl0).toArray 32 (0, 0)) :: (g1, .cells (shC (.slice none 0 0) (.slice none 0 0) tl0).toArray 32 (0, 0)) :: ((Kc ++ Tr) ++ Kl34)) rfl rfl (st_row (off := 1) (v := .slice p36 (os.length + 1) c36) rfl (by kernel_rfl) (by kernel_rfl) (.tail _ (.tail _ (.head _))) Bg2 (by kernel_rfl) (by first | (simp [Value.cells]; done) | exact Nat.le_of_ble_eq_true rfl) (by intro v hv; simp [Value.cells] at hv; first | (subst hv; rfl) | (rcases hv with rfl <;> rfl)) (by kernel_rfl) (List.forall_mem_cons.2 ⟨.inr ⟨(.head _), (by first | assumption | exact Ne.symm (by assumption))⟩, (List.forall_mem_cons.2 ⟨.inr ⟨(.tail _ (.head _)), (by first | assumption | exact Ne.symm (by assumption))⟩, (List.forall_mem_cons.2 ⟨.inl rfl, (List.forall_mem_cons.2 ⟨.inr ⟨(.tail _ (.tail _ (.tail _ (.head _)))), (by first | assumption | exact Ne.symm (by assumption))⟩, (fun p hp => .inr ⟨(.tail _ (.tail _ (.tail _ (.tail _ hp)))), ((show Dk g2 ((Kc ++ Tr) ++ Kl34) from (by (try simp only [dj_app_l, dj_app_r, dj_cons_l, dj_cons_r, dj_nil_l, dj_nil_r, dk_app, dk_cons, dk_nil, and_true, true_and, and_assoc]); repeat' (first | trivial | assumption | exact Dj.symm (by assumption) | exact Ne.symm (by assumption) | apply And.intro))) _ hp)⟩)⟩)⟩)⟩)⟩)) ?_
                refine wpL_done (fun W29 hW29 => ?_)
                refine (show Code.wp _ _ _ _ _ from ?_)
                refine wp_region_L (W0 := W0) ((g30, .cells #[.int .i64 2, .int .i64 3, .int .i64 4] 3 (0, 0)) :: (g27, .cells #[.int .i64 0, .int .i64 0, .bool false, .int .i64 3, .int .i64 0, .int .i64 500000000, .int .i64 500000000, .int .i64 0, .slice none 0 0, .int .i64 0, .int .i64 0, .int .i64 2000] 65 (0, 0)) :: (g2, .cells (shC (.slice (some ⟨g27, 0, none⟩) 1 1) (.slice p36 (os.length + 1) c36) tl0).toArray 32 (0, 0)) :: (g1, .cells (shC (.slice none 0 0) (.slice none 0 0) tl0).toArray 32 (0, 0)) :: ((Kc ++ Tr) ++ Kl34)) (hW29) ?_
                refine lm (v := .int .i64 ((i : Nat) : Int)) rfl rfl ?_
                refine lp (v := .int .i64 (((i + 1) : Nat) : Int)) rfl rfl (run_bin rfl (vx := (.int .i64 ((i : Nat) : Int))) (vy := (.int .i64 ((1 : Nat) : Int))) (by kernel_rfl) (by kernel_rfl) fun w => bn_add (z := (i + 1)) rfl (wr_i64 (by omega)) w) ?_
                refine lm (v := .int .i64 (((i + 1) : Nat) : Int)) rfl rfl ?_
                refine wpL_done (fun W30 hW30 => ?_)
                go_roundw
                case rel =>
                  repeat apply Exists.intro
                  exact ⟨⟨i + 1, (os ++ [⟨((i : Nat) : Int), [2, 3, 4], some ⟨g30, 0, none⟩, 3⟩]), .slice p36 (os.length + 1) c36, ((g30, .cells #[.int .i64 2, .int .i64 3, .int .i64 4] 3 (0, 0)) :: Tr), Kl34, (by omega), (by rw [cov_01 h8 h9]; simp only [List.map_append, List.map_cons, List.map_nil, hos, List.append_assoc, List.cons_append, List.nil_append]), (by simp only [List.length_append, List.length_singleton, List.length_cons, List.length_nil]; omega), (own_app O34 (by simp only [List.flatMap_append, List.append_assoc]; rfl) (by simp only [List.length_append]; rfl)), (fun W hW => (rw_snoc (hRo W (hW.sub (fun p hp => by simp only [List.mem_cons, hp, or_true]))) (o := ⟨((i : Nat) : Int), [2, 3, 4], some ⟨g30, 0, none⟩, 3⟩) (blk_slv hW (.head _)))), (show Dk g27 ((g30, .cells #[.int .i64 2, .int .i64 3, .int .i64 4] 3 (0, 0)) :: Tr) from (by (try simp only [dj_app_l, dj_app_r, dj_cons_l, dj_cons_r, dj_nil_l, dj_nil_r, dk_app, dk_cons, dk_nil, and_true, true_and, and_assoc]); repeat' (first | trivial | assumption | exact Dj.symm (by assumption) | exact Ne.symm (by assumption) | apply And.intro))), (show Dk g2 ((g30, .cells #[.int .i64 2, .int .i64 3, .int .i64 4] 3 (0, 0)) :: Tr) from (by (try simp only [dj_app_l, dj_app_r, dj_cons_l, dj_cons_r, dj_nil_l, dj_nil_r, dk_app, dk_cons, dk_nil, and_true, true_and, and_assoc]); repeat' (first | trivial | assumption | exact Dj.symm (by assumption) | exact Ne.symm (by assumption) | apply And.intro))), (show Dk g1 ((g30, .cells #[.int .i64 2, .int .i64 3, .int .i64 4] 3 (0, 0)) :: Tr) from (by (try simp only [dj_app_l, dj_app_r, dj_cons_l, dj_cons_r, dj_nil_l, dj_nil_r, dk_app, dk_cons, dk_nil, and_true, true_and, and_assoc]); repeat' (first | trivial | assumption | exact Dj.symm (by assumption) | exact Ne.symm (by assumption) | apply And.intro))), (show Dj Kc ((g30, .cells #[.int .i64 2, .int .i64 3, .int .i64 4] 3 (0, 0)) :: Tr) from (by (try simp only [dj_app_l, dj_app_r, dj_cons_l, dj_cons_r, dj_nil_l, dj_nil_r, dk_app, dk_cons, dk_nil, and_true, true_and, and_assoc]); repeat' (first | trivial | assumption | exact Dj.symm (by assumption) | exact Ne.symm (by assumption) | apply And.intro))), (show Dk g27 Kl34 from (by (try simp only [dj_app_l, dj_app_r, dj_cons_l, dj_cons_r, dj_nil_l, dj_nil_r, dk_app, dk_cons, dk_nil, and_true, true_and, and_assoc]); repeat' (first | trivial | assumption | exact Dj.symm (by assumption) | exact Ne.symm (by assumption) | apply And.intro))), (show Dk g2 Kl34 from (by (try simp only [dj_app_l, dj_app_r, dj_cons_l, dj_cons_r, dj_nil_l, dj_nil_r, dk_app, dk_cons, dk_nil, and_true, true_and, and_assoc]); repeat' (first | trivial | assumption | exact Dj.symm (by assumption) | exact Ne.symm (by assumption) | apply And.intro))), (show Dk g1 Kl34 from (by (try simp only [dj_app_l, dj_app_r, dj_cons_l, dj_cons_r, dj_nil_l, dj_nil_r, dk_app, dk_cons, dk_nil, and_true, true_and, and_assoc]); repeat' (first | trivial | assumption | exact Dj.symm (by assumption) | exact Ne.symm (by assumption) | apply And.intro))), (show Dj Kc Kl34 from (by (try simp only [dj_app_l, dj_app_r, dj_cons_l, dj_cons_r, dj_nil_l, dj_nil_r, dk_app, dk_cons, dk_nil, and_true, true_and, and_assoc]); repeat' (first | trivial | assumption | exact Dj.symm (by assumption) | exact Ne.symm (by assumption) | apply And.intro))), (show Dj ((g30, .cells #[.int .i64 2, .int .i64 3, .int .i64 4] 3 (0, 0)) :: Tr) Kl34 from (by (try simp only [dj_app_l, dj_app_r, dj_cons_l, dj_cons_r, dj_nil_l, dj_nil_r, dk_app, dk_cons, dk_nil, and_true, true_and, and_assoc]); repeat' (first | trivial | assumption | exact Dj.symm (by assumption) | exact Ne.symm (by assumption) | apply And.intro))), rfl, (hW30.sub (fun p hp => by first | exact hp | (simp only [List.mem_cons, List.mem_append, List.nil_append, List.not_mem_nil, or_assoc, or_false, false_or] at hp ⊢ <;> grind)))⟩, rfl⟩
                case measure => (show 5 - (intOf (.int .i64 (((i + 1) : Nat) : Int))).toNat < 5 - (intOf (.int .i64 ((i : Nat) : Int))).toNat); simp only [intOf]; omega
            | true =>
              have h8 : ((n / 2 ^ (2 * i)) % 2) = 1 := of_decide_eq_true hd8
              clear hd8
              refine wp_cond_true rfl ?_
              refine wp_region_L (W0 := W0) ((g27, .cells #[.int .i64 0, .int .i64 0, .bool false, .int .i64 3, .int .i64 0, .int .i64 500000000, .int .i64 500000000, .int .i64 0, .slice none 0 0, .int .i64 0, .int .i64 0, .int .i64 2000] 65 (0, 0)) :: (g2, .cells (shC (.slice (some ⟨g27, 0, none⟩) 1 1) (.slice po os.length co) tl0).toArray 32 (0, 0)) :: (g1, .cells (shC (.slice none 0 0) (.slice none 0 0) tl0).toArray 32 (0, 0)) :: (Kc ++ (Tr ++ Ko))) (hW26) ?_
              refine lm (v := .pointer (some ⟨g2, 1, none⟩)) rfl rfl ?_
              refine lv (v := .slice po os.length co) rfl rfl (yb_cell (off := 1) rfl (by kernel_rfl) (.tail _ (.head _)) Tryd.underlying23 rfl (by kernel_rfl)) ?_
              refine lm (v := .int .i64 ((i : Nat) : Int)) rfl rfl ?_
              refine wpL_new (fun g => .slice (some ⟨g, 0, none⟩) 2 2) (obi := .cells #[.int .i64 0, .int .i64 1] 3 (0, 0)) rfl rfl (fun _ => by kernel_rfl) (fun _ => by simp only [List.setIfInBounds_toArray, List.set_cons_succ, List.set_cons_zero] <;> rfl) fun g37 Bg37 Fg37 => ?_
              obtain ⟨dj38_0, dj38_1, dj38_2, dj38_3, dj38_4, dj38_5⟩ : g27 ≠ g37 ∧ g2 ≠ g37 ∧ g1 ≠ g37 ∧ Dk g37 Kc ∧ Dk g37 Tr ∧ Dk g37 Ko := by simpa only [dj_app_l, dj_app_r, dj_cons_l, dj_cons_r, dj_nil_l, dj_nil_r, dk_app, dk_cons, dk_nil, and_true, true_and, and_assoc] using (show Dk g37 ((g27, .cells #[.int .i64 0, .int .i64 0, .bool false, .int .i64 3, .int .i64 0, .int .i64 500000000, .int .i64 500000000, .int .i64 0, .slice none 0 0, .int .i64 0, .int .i64 0, .int .i64 2000] 65 (0, 0)) :: (g2, .cells (shC (.slice (some ⟨g27, 0, none⟩) 1 1) (.slice po os.length co) tl0).toArray 32 (0, 0)) :: (g1, .cells (shC (.slice none 0 0) (.slice none 0 0) tl0).toArray 32 (0, 0)) :: (Kc ++ (Tr ++ Ko))) from Fg37)
              refine lm (v := .agg #[.int .i64 ((i : Nat) : Int), .slice (some ⟨g37, 0, none⟩) 2 2]) rfl rfl ?_
              refine wpL_new (fun g => .slice (some ⟨g, 0, none⟩) 1 1) (obi := .cells #[.int .i64 ((i : Nat) : Int), .slice (some ⟨g37, 0, none⟩) 2 2] 67 (0, 0)) rfl rfl (fun _ => by kernel_rfl) (fun _ => by simp only [List.setIfInBounds_toArray, List.set_cons_succ, List.set_cons_zero] <;> rfl) fun g39 Bg39 Fg39 => ?_
              obtain ⟨dj40_0, dj40_1, dj40_2, dj40_3, dj40_4, dj40_5, dj40_6⟩ : g37 ≠ g39 ∧ g27 ≠ g39 ∧ g2 ≠ g39 ∧ g1 ≠ g39 ∧ Dk g39 Kc ∧ Dk g39 Tr ∧ Dk g39 Ko := by simpa only [dj_app_l, dj_app_r, dj_cons_l, dj_cons_r, dj_nil_l, dj_nil_r, dk_app, dk_cons, dk_nil, and_true, true_and, and_assoc] using (show Dk g39 ((g37, .cells #[.int .i64 0, .int .i64 1] 3 (0, 0)) :: (g27, .cells #[.int .i64 0, .int .i64 0, .bool false, .int .i64 3, .int .i64 0, .int .i64 500000000, .int .i64 500000000, .int .i64 0, .slice none 0 0, .int .i64 0, .int .i64 0, .int .i64 2000] 65 (0, 0)) :: (g2, .cells (shC (.slice (some ⟨g27, 0, none⟩) 1 1) (.slice po os.length co) tl0).toArray 32 (0, 0)) :: (g1, .cells (shC (.slice none 0 0) (.slice none 0 0) tl0).toArray 32 (0, 0)) :: (Kc ++ (Tr ++ Ko))) from Fg39)
              refine wpL_g (AppO W0 67 2 ((g37, .cells #[.int .i64 0, .int .i64 1] 3 (0, 0)) :: (g27, .cells #[.int .i64 0, .int .i64 0, .bool false, .int .i64 3, .int .i64 0, .int .i64 500000000, .int .i64 500000000, .int .i64 0, .slice none 0 0, .int .i64 0, .int .i64 0, .int .i64 2000] 65 (0, 0)) :: (g2, .cells (shC (.slice (some ⟨g27, 0, none⟩) 1 1) (.slice po os.length co) tl0).toArray 32 (0, 0)) :: (g1, .cells (shC (.slice none 0 0) (.slice none 0 0) tl0).toArray 32 (0, 0)) :: (Kc ++ Tr)) (os.length + 1) ((os.flatMap covC) ++ [.int .i64 ((i : Nat) : Int), .slice (some ⟨g37, 0, none⟩) 2 2])) rfl rfl (app_own el_cov (m := 1) (c := 1) (news := [.int .i64 ((i : Nat) : Int), .slice (some ⟨g37, 0, none⟩) 2 2]) rfl (by kernel_rfl) (by kernel_rfl) (.head _) hOo (fun p hp => by simp only [List.mem_cons, List.mem_append, List.nil_append, List.not_mem_nil, or_assoc, or_false, false_or, hp, or_true, true_or]) (fun p hp => ⟨by simp only [List.mem_cons, List.mem_append, List.nil_append, List.not_mem_nil, or_assoc, or_false, false_or] at hp ⊢ <;> grind, (show Dj ((g37, .cells #[.int .i64 0, .int .i64 1] 3 (0, 0)) :: (g27, .cells #[.int .i64 0, .int .i64 0, .bool false, .int .i64 3, .int .i64 0, .int .i64 500000000, .int .i64 500000000, .int .i64 0, .slice none 0 0, .int .i64 0, .int .i64 0, .int .i64 2000] 65 (0, 0)) :: (g2, .cells (shC (.slice (some ⟨g27, 0, none⟩) 1 1) (.slice po os.length co) tl0).toArray 32 (0, 0)) :: (g1, .cells (shC (.slice none 0 0) (.slice none 0 0) tl0).toArray 32 (0, 0)) :: (Kc ++ Tr)) Ko from (by (try simp only [dj_app_l, dj_app_r, dj_cons_l, dj_cons_r, dj_nil_l, dj_nil_r, dk_app, dk_cons, dk_nil, and_true, true_and, and_assoc]); repeat' (first | trivial | assumption | exact Dj.symm (by assumption) | exact Ne.symm (by assumption) | apply And.intro))) p hp⟩) rfl (by simp [strV, Value.oneCell']) (by omega) (by omega) (by omega)) (fun _ => by simp only [List.setIfInBounds_toArray, List.set_cons_succ, List.set_cons_zero] <;> rfl) ?_
              rintro v41 K9 ⟨Kl41, O41, N41, rfl⟩
              obtain ⟨dj42_0, dj42_1, dj42_2, dj42_3, dj42_4, dj42_5⟩ : Dk g37 Kl41 ∧ Dk g27 Kl41 ∧ Dk g2 Kl41 ∧ Dk g1 Kl41 ∧ Dj Kc Kl41 ∧ Dj Tr Kl41 := by simpa only [dj_app_l, dj_app_r, dj_cons_l, dj_cons_r, dj_nil_l, dj_nil_r, dk_app, dk_cons, dk_nil, and_true, true_and, and_assoc] using (show Dj ((g37, .cells #[.int .i64 0, .int .i64 1] 3 (0, 0)) :: (g27, .cells #[.int .i64 0, .int .i64 0, .bool false, .int .i64 3, .int .i64 0, .int .i64 500000000, .int .i64 500000000, .int .i64 0, .slice none 0 0, .int .i64 0, .int .i64 0, .int .i64 2000] 65 (0, 0)) :: (g2, .cells (shC (.slice (some ⟨g27, 0, none⟩) 1 1) (.slice po os.length co) tl0).toArray 32 (0, 0)) :: (g1, .cells (shC (.slice none 0 0) (.slice none 0 0) tl0).toArray 32 (0, 0)) :: (Kc ++ Tr)) Kl41 from N41)
              refine lm (v := .pointer (some ⟨g2, 1, none⟩)) rfl rfl ?_
              obtain ⟨p43, c43, rfl⟩ := own_shape O41
              refine wpL_s ((g37, .cells #[.int .i64 0, .int .i64 1] 3 (0, 0)) :: (g27, .cells #[.int .i64 0, .int .i64 0, .bool false, .int .i64 3, .int .i64 0, .int .i64 500000000, .int .i64 500000000, .int .i64 0, .slice none 0 0, .int .i64 0, .int .i64 0, .int .i64 2000] 65 (0, 0)) :: (g2, .cells (shC (.slice (some ⟨g27, 0, none⟩) 1 1) (.slice p43 (os.length + 1) c43) tl0).toArray 32 (0, 0)) :: (g1, .cells (shC (.slice none 0 0) (.slice none 0 0) tl0).toArray 32 (0, 0)) :: ((Kc ++ Tr) ++ Kl41)) rfl rfl (st_row (off := 1) (v := .slice p43 (os.length + 1) c43) rfl (by kernel_rfl) (by kernel_rfl) (.tail _ (.tail _ (.head _))) Bg2 (by kernel_rfl) (by first | (simp [Value.cells]; done) | exact Nat.le_of_ble_eq_true rfl) (by intro v hv; simp [Value.cells] at hv; first | (subst hv; rfl) | (rcases hv with rfl <;> rfl)) (by kernel_rfl) (List.forall_mem_cons.2 ⟨.inr ⟨(.head _), (by first | assumption | exact Ne.symm (by assumption))⟩, (List.forall_mem_cons.2 ⟨.inr ⟨(.tail _ (.head _)), (by first | assumption | exact Ne.symm (by assumption))⟩, (List.forall_mem_cons.2 ⟨.inl rfl, (List.forall_mem_cons.2 ⟨.inr ⟨(.tail _ (.tail _ (.tail _ (.head _)))), (by first | assumption | exact Ne.symm (by assumption))⟩, (fun p hp => .inr ⟨(.tail _ (.tail _ (.tail _ (.tail _ hp)))), ((show Dk g2 ((Kc ++ Tr) ++ Kl41) from (by (try simp only [dj_app_l, dj_app_r, dj_cons_l, dj_cons_r, dj_nil_l, dj_nil_r, dk_app, dk_cons, dk_nil, and_true, true_and, and_assoc]); repeat' (first | trivial | assumption | exact Dj.symm (by assumption) | exact Ne.symm (by assumption) | apply And.intro))) _ hp)⟩)⟩)⟩)⟩)⟩)) ?_
              refine wpL_done (fun W31 hW31 => ?_)
              refine (show Code.wp _ _ _ _ _ from ?_)
              refine wp_seq ?_
              refine wp_region_L (W0 := W0) ((g37, .cells #[.int .i64 0, .int .i64 1] 3 (0, 0)) :: (g27, .cells #[.int .i64 0, .int .i64 0, .bool false, .int .i64 3, .int .i64 0, .int .i64 500000000, .int .i64 500000000, .int .i64 0, .slice none 0 0, .int .i64 0, .int .i64 0, .int .i64 2000] 65 (0, 0)) :: (g2, .cells (shC (.slice (some ⟨g27, 0, none⟩) 1 1) (.slice p43 (os.length + 1) c43) tl0).toArray 32 (0, 0)) :: (g1, .cells (shC (.slice none 0 0) (.slice none 0 0) tl0).toArray 32 (0, 0)) :: ((Kc ++ Tr) ++ Kl41)) (hW31) ?_
              refine lm (v := .int .u32 ((n : Nat) : Int)) rfl rfl ?_
              refine lm (v := .int .i64 ((i : Nat) : Int)) rfl rfl ?_
              refine lp (v := .int .i64 (((2 * i) : Nat) : Int)) rfl rfl (run_bin rfl (vx := (.int .i64 ((2 : Nat) : Int))) (vy := (.int .i64 ((i : Nat) : Int))) (by kernel_rfl) (by kernel_rfl) fun w => bn_mul (z := (2 * i)) rfl (wr_i64 (by omega)) w) ?_
              refine lp (v := .int .i64 ((((2 * i) + 1) : Nat) : Int)) rfl rfl (run_bin rfl (vx := (.int .i64 (((2 * i) : Nat) : Int))) (vy := (.int .i64 ((1 : Nat) : Int))) (by kernel_rfl) (by kernel_rfl) fun w => bn_add (z := ((2 * i) + 1)) rfl (wr_i64 (by omega)) w) ?_
              refine lp (v := .int .u32 (((n / 2 ^ ((2 * i) + 1)) : Nat) : Int)) rfl rfl (run_bin rfl (vx := (.int .u32 ((n : Nat) : Int))) (vy := (.int .i64 ((((2 * i) + 1) : Nat) : Int))) (by kernel_rfl) (by kernel_rfl) fun w => bn_shr (z := (n / 2 ^ ((2 * i) + 1))) rfl (by first | omega | decide | (simp only [IntKind.bits]; omega)) w) ?_
              refine lp (v := .int .u32 ((((n / 2 ^ ((2 * i) + 1)) % 2) : Nat) : Int)) rfl rfl (run_bin rfl (vx := (.int .u32 (((n / 2 ^ ((2 * i) + 1)) : Nat) : Int))) (vy := (.int .u32 ((1 : Nat) : Int))) (by kernel_rfl) (by kernel_rfl) fun w => bn_and (z := ((n / 2 ^ ((2 * i) + 1)) % 2)) (Nat.and_one_is_mod _) (by rw [show IntKind.u32.bits = 32 from rfl]; exact Nat.lt_of_le_of_lt (Nat.div_le_self _ _) (by omega)) (by decide) (wr_u32 (by omega)) w) ?_
              refine lp (v := .bool (decide (((n / 2 ^ ((2 * i) + 1)) % 2) = 1))) rfl rfl (run_bin rfl (vx := (.int .u32 ((((n / 2 ^ ((2 * i) + 1)) % 2) : Nat) : Int))) (vy := (.int .u32 ((1 : Nat) : Int))) (by kernel_rfl) (by kernel_rfl) fun w => bn_eql rfl w) ?_
              refine wpL_done (fun W32 hW32 => ?_)
              refine (show Code.wp _ _ _ _ _ from ?_)
              cases hd10 : (decide (((n / 2 ^ ((2 * i) + 1)) % 2) = 1)) with
              | false =>
                have h10 : ¬ (((n / 2 ^ ((2 * i) + 1)) % 2) = 1) := of_decide_eq_false hd10
                clear hd10
                refine wp_cond_false rfl ?_
                refine wp_skip ?_
                refine (show Code.wp _ _ _ _ _ from ?_)
                refine wp_region_L (W0 := W0) ((g37, .cells #[.int .i64 0, .int .i64 1] 3 (0, 0)) :: (g27, .cells #[.int .i64 0, .int .i64 0, .bool false, .int .i64 3, .int .i64 0, .int .i64 500000000, .int .i64 500000000, .int .i64 0, .slice none 0 0, .int .i64 0, .int .i64 0, .int .i64 2000] 65 (0, 0)) :: (g2, .cells (shC (.slice (some ⟨g27, 0, none⟩) 1 1) (.slice p43 (os.length + 1) c43) tl0).toArray 32 (0, 0)) :: (g1, .cells (shC (.slice none 0 0) (.slice none 0 0) tl0).toArray 32 (0, 0)) :: ((Kc ++ Tr) ++ Kl41)) (hW32) ?_
                refine lm (v := .int .i64 ((i : Nat) : Int)) rfl rfl ?_
                refine lp (v := .int .i64 (((i + 1) : Nat) : Int)) rfl rfl (run_bin rfl (vx := (.int .i64 ((i : Nat) : Int))) (vy := (.int .i64 ((1 : Nat) : Int))) (by kernel_rfl) (by kernel_rfl) fun w => bn_add (z := (i + 1)) rfl (wr_i64 (by omega)) w) ?_
                refine lm (v := .int .i64 (((i + 1) : Nat) : Int)) rfl rfl ?_
                refine wpL_done (fun W33 hW33 => ?_)
                go_roundw
                case rel =>
                  repeat apply Exists.intro
                  exact ⟨⟨i + 1, (os ++ [⟨((i : Nat) : Int), [0, 1], some ⟨g37, 0, none⟩, 2⟩]), .slice p43 (os.length + 1) c43, ((g37, .cells #[.int .i64 0, .int .i64 1] 3 (0, 0)) :: Tr), Kl41, (by omega), (by rw [cov_10 h8 h10]; simp only [List.map_append, List.map_cons, List.map_nil, hos, List.append_assoc, List.cons_append, List.nil_append]), (by simp only [List.length_append, List.length_singleton, List.length_cons, List.length_nil]; omega), (own_app O41 (by simp only [List.flatMap_append, List.append_assoc]; rfl) (by simp only [List.length_append]; rfl)), (fun W hW => (rw_snoc (hRo W (hW.sub (fun p hp => by simp only [List.mem_cons, hp, or_true]))) (o := ⟨((i : Nat) : Int), [0, 1], some ⟨g37, 0, none⟩, 2⟩) (blk_slv hW (.head _)))), (show Dk g27 ((g37, .cells #[.int .i64 0, .int .i64 1] 3 (0, 0)) :: Tr) from (by (try simp only [dj_app_l, dj_app_r, dj_cons_l, dj_cons_r, dj_nil_l, dj_nil_r, dk_app, dk_cons, dk_nil, and_true, true_and, and_assoc]); repeat' (first | trivial | assumption | exact Dj.symm (by assumption) | exact Ne.symm (by assumption) | apply And.intro))), (show Dk g2 ((g37, .cells #[.int .i64 0, .int .i64 1] 3 (0, 0)) :: Tr) from (by (try simp only [dj_app_l, dj_app_r, dj_cons_l, dj_cons_r, dj_nil_l, dj_nil_r, dk_app, dk_cons, dk_nil, and_true, true_and, and_assoc]); repeat' (first | trivial | assumption | exact Dj.symm (by assumption) | exact Ne.symm (by assumption) | apply And.intro))), (show Dk g1 ((g37, .cells #[.int .i64 0, .int .i64 1] 3 (0, 0)) :: Tr) from (by (try simp only [dj_app_l, dj_app_r, dj_cons_l, dj_cons_r, dj_nil_l, dj_nil_r, dk_app, dk_cons, dk_nil, and_true, true_and, and_assoc]); repeat' (first | trivial | assumption | exact Dj.symm (by assumption) | exact Ne.symm (by assumption) | apply And.intro))), (show Dj Kc ((g37, .cells #[.int .i64 0, .int .i64 1] 3 (0, 0)) :: Tr) from (by (try simp only [dj_app_l, dj_app_r, dj_cons_l, dj_cons_r, dj_nil_l, dj_nil_r, dk_app, dk_cons, dk_nil, and_true, true_and, and_assoc]); repeat' (first | trivial | assumption | exact Dj.symm (by assumption) | exact Ne.symm (by assumption) | apply And.intro))), (show Dk g27 Kl41 from (by (try simp only [dj_app_l, dj_app_r, dj_cons_l, dj_cons_r, dj_nil_l, dj_nil_r, dk_app, dk_cons, dk_nil, and_true, true_and, and_assoc]); repeat' (first | trivial | assumption | exact Dj.symm (by assumption) | exact Ne.symm (by assumption) | apply And.intro))), (show Dk g2 Kl41 from (by (try simp only [dj_app_l, dj_app_r, dj_cons_l, dj_cons_r, dj_nil_l, dj_nil_r, dk_app, dk_cons, dk_nil, and_true, true_and, and_assoc]); repeat' (first | trivial | assumption | exact Dj.symm (by assumption) | exact Ne.symm (by assumption) | apply And.intro))), (show Dk g1 Kl41 from (by (try simp only [dj_app_l, dj_app_r, dj_cons_l, dj_cons_r, dj_nil_l, dj_nil_r, dk_app, dk_cons, dk_nil, and_true, true_and, and_assoc]); repeat' (first | trivial | assumption | exact Dj.symm (by assumption) | exact Ne.symm (by assumption) | apply And.intro))), (show Dj Kc Kl41 from (by (try simp only [dj_app_l, dj_app_r, dj_cons_l, dj_cons_r, dj_nil_l, dj_nil_r, dk_app, dk_cons, dk_nil, and_true, true_and, and_assoc]); repeat' (first | trivial | assumption | exact Dj.symm (by assumption) | exact Ne.symm (by assumption) | apply And.intro))), (show Dj ((g37, .cells #[.int .i64 0, .int .i64 1] 3 (0, 0)) :: Tr) Kl41 from (by (try simp only [dj_app_l, dj_app_r, dj_cons_l, dj_cons_r, dj_nil_l, dj_nil_r, dk_app, dk_cons, dk_nil, and_true, true_and, and_assoc]); repeat' (first | trivial | assumption | exact Dj.symm (by assumption) | exact Ne.symm (by assumption) | apply And.intro))), rfl, (hW33.sub (fun p hp => by first | exact hp | (simp only [List.mem_cons, List.mem_append, List.nil_append, List.not_mem_nil, or_assoc, or_false, false_or] at hp ⊢ <;> grind)))⟩, rfl⟩
                case measure => (show 5 - (intOf (.int .i64 (((i + 1) : Nat) : Int))).toNat < 5 - (intOf (.int .i64 ((i : Nat) : Int))).toNat); simp only [intOf]; omega
              | true =>
                have h10 : ((n / 2 ^ ((2 * i) + 1)) % 2) = 1 := of_decide_eq_true hd10
                clear hd10
                refine wp_cond_true rfl ?_
                refine wp_region_L (W0 := W0) ((g37, .cells #[.int .i64 0, .int .i64 1] 3 (0, 0)) :: (g27, .cells #[.int .i64 0, .int .i64 0, .bool false, .int .i64 3, .int .i64 0, .int .i64 500000000, .int .i64 500000000, .int .i64 0, .slice none 0 0, .int .i64 0, .int .i64 0, .int .i64 2000] 65 (0, 0)) :: (g2, .cells (shC (.slice (some ⟨g27, 0, none⟩) 1 1) (.slice p43 (os.length + 1) c43) tl0).toArray 32 (0, 0)) :: (g1, .cells (shC (.slice none 0 0) (.slice none 0 0) tl0).toArray 32 (0, 0)) :: ((Kc ++ Tr) ++ Kl41)) (hW32) ?_
                refine lm (v := .pointer (some ⟨g2, 1, none⟩)) rfl rfl ?_
                refine lv (v := .slice p43 (os.length + 1) c43) rfl rfl (yb_cell (off := 1) rfl (by kernel_rfl) (.tail _ (.tail _ (.head _))) Tryd.underlying23 rfl (by kernel_rfl)) ?_
                refine lm (v := .int .i64 ((i : Nat) : Int)) rfl rfl ?_
                refine wpL_new (fun g => .slice (some ⟨g, 0, none⟩) 3 3) (obi := .cells #[.int .i64 2, .int .i64 3, .int .i64 4] 3 (0, 0)) rfl rfl (fun _ => by kernel_rfl) (fun _ => by simp only [List.setIfInBounds_toArray, List.set_cons_succ, List.set_cons_zero] <;> rfl) fun g44 Bg44 Fg44 => ?_
                obtain ⟨dj45_0, dj45_1, dj45_2, dj45_3, dj45_4, dj45_5, dj45_6⟩ : g37 ≠ g44 ∧ g27 ≠ g44 ∧ g2 ≠ g44 ∧ g1 ≠ g44 ∧ Dk g44 Kc ∧ Dk g44 Tr ∧ Dk g44 Kl41 := by simpa only [dj_app_l, dj_app_r, dj_cons_l, dj_cons_r, dj_nil_l, dj_nil_r, dk_app, dk_cons, dk_nil, and_true, true_and, and_assoc] using (show Dk g44 ((g37, .cells #[.int .i64 0, .int .i64 1] 3 (0, 0)) :: (g27, .cells #[.int .i64 0, .int .i64 0, .bool false, .int .i64 3, .int .i64 0, .int .i64 500000000, .int .i64 500000000, .int .i64 0, .slice none 0 0, .int .i64 0, .int .i64 0, .int .i64 2000] 65 (0, 0)) :: (g2, .cells (shC (.slice (some ⟨g27, 0, none⟩) 1 1) (.slice p43 (os.length + 1) c43) tl0).toArray 32 (0, 0)) :: (g1, .cells (shC (.slice none 0 0) (.slice none 0 0) tl0).toArray 32 (0, 0)) :: ((Kc ++ Tr) ++ Kl41)) from Fg44)
                refine lm (v := .agg #[.int .i64 ((i : Nat) : Int), .slice (some ⟨g44, 0, none⟩) 3 3]) rfl rfl ?_
                refine wpL_new (fun g => .slice (some ⟨g, 0, none⟩) 1 1) (obi := .cells #[.int .i64 ((i : Nat) : Int), .slice (some ⟨g44, 0, none⟩) 3 3] 67 (0, 0)) rfl rfl (fun _ => by kernel_rfl) (fun _ => by simp only [List.setIfInBounds_toArray, List.set_cons_succ, List.set_cons_zero] <;> rfl) fun g46 Bg46 Fg46 => ?_
                obtain ⟨dj47_0, dj47_1, dj47_2, dj47_3, dj47_4, dj47_5, dj47_6, dj47_7⟩ : g44 ≠ g46 ∧ g37 ≠ g46 ∧ g27 ≠ g46 ∧ g2 ≠ g46 ∧ g1 ≠ g46 ∧ Dk g46 Kc ∧ Dk g46 Tr ∧ Dk g46 Kl41 := by simpa only [dj_app_l, dj_app_r, dj_cons_l, dj_cons_r, dj_nil_l, dj_nil_r, dk_app, dk_cons, dk_nil, and_true, true_and, and_assoc] using (show Dk g46 ((g44, .cells #[.int .i64 2, .int .i64 3, .int .i64 4] 3 (0, 0)) :: (g37, .cells #[.int .i64 0, .int .i64 1] 3 (0, 0)) :: (g27, .cells #[.int .i64 0, .int .i64 0, .bool false, .int .i64 3, .int .i64 0, .int .i64 500000000, .int .i64 500000000, .int .i64 0, .slice none 0 0, .int .i64 0, .int .i64 0, .int .i64 2000] 65 (0, 0)) :: (g2, .cells (shC (.slice (some ⟨g27, 0, none⟩) 1 1) (.slice p43 (os.length + 1) c43) tl0).toArray 32 (0, 0)) :: (g1, .cells (shC (.slice none 0 0) (.slice none 0 0) tl0).toArray 32 (0, 0)) :: ((Kc ++ Tr) ++ Kl41)) from Fg46)
                refine wpL_g (AppO W0 67 2 ((g44, .cells #[.int .i64 2, .int .i64 3, .int .i64 4] 3 (0, 0)) :: (g37, .cells #[.int .i64 0, .int .i64 1] 3 (0, 0)) :: (g27, .cells #[.int .i64 0, .int .i64 0, .bool false, .int .i64 3, .int .i64 0, .int .i64 500000000, .int .i64 500000000, .int .i64 0, .slice none 0 0, .int .i64 0, .int .i64 0, .int .i64 2000] 65 (0, 0)) :: (g2, .cells (shC (.slice (some ⟨g27, 0, none⟩) 1 1) (.slice p43 (os.length + 1) c43) tl0).toArray 32 (0, 0)) :: (g1, .cells (shC (.slice none 0 0) (.slice none 0 0) tl0).toArray 32 (0, 0)) :: (Kc ++ Tr)) ((os.length + 1) + 1) (((os.flatMap covC) ++ [.int .i64 ((i : Nat) : Int), .slice (some ⟨g37, 0, none⟩) 2 2]) ++ [.int .i64 ((i : Nat) : Int), .slice (some ⟨g44, 0, none⟩) 3 3])) rfl rfl (app_own el_cov (m := 1) (c := 1) (news := [.int .i64 ((i : Nat) : Int), .slice (some ⟨g44, 0, none⟩) 3 3]) rfl (by kernel_rfl) (by kernel_rfl) (.head _) O41 (fun p hp => by simp only [List.mem_cons, List.mem_append, List.nil_append, List.not_mem_nil, or_assoc, or_false, false_or, hp, or_true, true_or]) (fun p hp => ⟨by simp only [List.mem_cons, List.mem_append, List.nil_append, List.not_mem_nil, or_assoc, or_false, false_or] at hp ⊢ <;> grind, (show Dj ((g44, .cells #[.int .i64 2, .int .i64 3, .int .i64 4] 3 (0, 0)) :: (g37, .cells #[.int .i64 0, .int .i64 1] 3 (0, 0)) :: (g27, .cells #[.int .i64 0, .int .i64 0, .bool false, .int .i64 3, .int .i64 0, .int .i64 500000000, .int .i64 500000000, .int .i64 0, .slice none 0 0, .int .i64 0, .int .i64 0, .int .i64 2000] 65 (0, 0)) :: (g2, .cells (shC (.slice (some ⟨g27, 0, none⟩) 1 1) (.slice p43 (os.length + 1) c43) tl0).toArray 32 (0, 0)) :: (g1, .cells (shC (.slice none 0 0) (.slice none 0 0) tl0).toArray 32 (0, 0)) :: (Kc ++ Tr)) Kl41 from (by (try simp only [dj_app_l, dj_app_r, dj_cons_l, dj_cons_r, dj_nil_l, dj_nil_r, dk_app, dk_cons, dk_nil, and_true, true_and, and_assoc]); repeat' (first | trivial | assumption | exact Dj.symm (by assumption) | exact Ne.symm (by assumption) | apply And.intro))) p hp⟩) rfl (by simp [strV, Value.oneCell']) (by omega) (by omega) (by omega)) (fun _ => by simp only [List.setIfInBounds_toArray, List.set_cons_succ, List.set_cons_zero] <;> rfl) ?_
                rintro v48 K9 ⟨Kl48, O48, N48, rfl⟩
                obtain ⟨dj49_0, dj49_1, dj49_2, dj49_3, dj49_4, dj49_5, dj49_6⟩ : Dk g44 Kl48 ∧ Dk g37 Kl48 ∧ Dk g27 Kl48 ∧ Dk g2 Kl48 ∧ Dk g1 Kl48 ∧ Dj Kc Kl48 ∧ Dj Tr Kl48 := by simpa only [dj_app_l, dj_app_r, dj_cons_l, dj_cons_r, dj_nil_l, dj_nil_r, dk_app, dk_cons, dk_nil, and_true, true_and, and_assoc] using (show Dj ((g44, .cells #[.int .i64 2, .int .i64 3, .int .i64 4] 3 (0, 0)) :: (g37, .cells #[.int .i64 0, .int .i64 1] 3 (0, 0)) :: (g27, .cells #[.int .i64 0, .int .i64 0, .bool false, .int .i64 3, .int .i64 0, .int .i64 500000000, .int .i64 500000000, .int .i64 0, .slice none 0 0, .int .i64 0, .int .i64 0, .int .i64 2000] 65 (0, 0)) :: (g2, .cells (shC (.slice (some ⟨g27, 0, none⟩) 1 1) (.slice p43 (os.length + 1) c43) tl0).toArray 32 (0, 0)) :: (g1, .cells (shC (.slice none 0 0) (.slice none 0 0) tl0).toArray 32 (0, 0)) :: (Kc ++ Tr)) Kl48 from N48)
                refine lm (v := .pointer (some ⟨g2, 1, none⟩)) rfl rfl ?_
                obtain ⟨p50, c50, rfl⟩ := own_shape O48
                refine wpL_s ((g44, .cells #[.int .i64 2, .int .i64 3, .int .i64 4] 3 (0, 0)) :: (g37, .cells #[.int .i64 0, .int .i64 1] 3 (0, 0)) :: (g27, .cells #[.int .i64 0, .int .i64 0, .bool false, .int .i64 3, .int .i64 0, .int .i64 500000000, .int .i64 500000000, .int .i64 0, .slice none 0 0, .int .i64 0, .int .i64 0, .int .i64 2000] 65 (0, 0)) :: (g2, .cells (shC (.slice (some ⟨g27, 0, none⟩) 1 1) (.slice p50 ((os.length + 1) + 1) c50) tl0).toArray 32 (0, 0)) :: (g1, .cells (shC (.slice none 0 0) (.slice none 0 0) tl0).toArray 32 (0, 0)) :: ((Kc ++ Tr) ++ Kl48)) rfl rfl (st_row (off := 1) (v := .slice p50 ((os.length + 1) + 1) c50) rfl (by kernel_rfl) (by kernel_rfl) (.tail _ (.tail _ (.tail _ (.head _)))) Bg2 (by kernel_rfl) (by first | (simp [Value.cells]; done) | exact Nat.le_of_ble_eq_true rfl) (by intro v hv; simp [Value.cells] at hv; first | (subst hv; rfl) | (rcases hv with rfl <;> rfl)) (by kernel_rfl) (List.forall_mem_cons.2 ⟨.inr ⟨(.head _), (by first | assumption | exact Ne.symm (by assumption))⟩, (List.forall_mem_cons.2 ⟨.inr ⟨(.tail _ (.head _)), (by first | assumption | exact Ne.symm (by assumption))⟩, (List.forall_mem_cons.2 ⟨.inr ⟨(.tail _ (.tail _ (.head _))), (by first | assumption | exact Ne.symm (by assumption))⟩, (List.forall_mem_cons.2 ⟨.inl rfl, (List.forall_mem_cons.2 ⟨.inr ⟨(.tail _ (.tail _ (.tail _ (.tail _ (.head _))))), (by first | assumption | exact Ne.symm (by assumption))⟩, (fun p hp => .inr ⟨(.tail _ (.tail _ (.tail _ (.tail _ (.tail _ hp))))), ((show Dk g2 ((Kc ++ Tr) ++ Kl48) from (by (try simp only [dj_app_l, dj_app_r, dj_cons_l, dj_cons_r, dj_nil_l, dj_nil_r, dk_app, dk_cons, dk_nil, and_true, true_and, and_assoc]); repeat' (first | trivial | assumption | exact Dj.symm (by assumption) | exact Ne.symm (by assumption) | apply And.intro))) _ hp)⟩)⟩)⟩)⟩)⟩)⟩)) ?_
                refine wpL_done (fun W34 hW34 => ?_)
                refine (show Code.wp _ _ _ _ _ from ?_)
                refine wp_region_L (W0 := W0) ((g44, .cells #[.int .i64 2, .int .i64 3, .int .i64 4] 3 (0, 0)) :: (g37, .cells #[.int .i64 0, .int .i64 1] 3 (0, 0)) :: (g27, .cells #[.int .i64 0, .int .i64 0, .bool false, .int .i64 3, .int .i64 0, .int .i64 500000000, .int .i64 500000000, .int .i64 0, .slice none 0 0, .int .i64 0, .int .i64 0, .int .i64 2000] 65 (0, 0)) :: (g2, .cells (shC (.slice (some ⟨g27, 0, none⟩) 1 1) (.slice p50 ((os.length + 1) + 1) c50) tl0).toArray 32 (0, 0)) :: (g1, .cells (shC (.slice none 0 0) (.slice none 0 0) tl0).toArray 32 (0, 0)) :: ((Kc ++ Tr) ++ Kl48)) (hW34) ?_
                refine lm (v := .int .i64 ((i : Nat) : Int)) rfl rfl ?_
                refine lp (v := .int .i64 (((i + 1) : Nat) : Int)) rfl rfl (run_bin rfl (vx := (.int .i64 ((i : Nat) : Int))) (vy := (.int .i64 ((1 : Nat) : Int))) (by kernel_rfl) (by kernel_rfl) fun w => bn_add (z := (i + 1)) rfl (wr_i64 (by omega)) w) ?_
                refine lm (v := .int .i64 (((i + 1) : Nat) : Int)) rfl rfl ?_
                refine wpL_done (fun W35 hW35 => ?_)
                go_roundw
                case rel =>
                  repeat apply Exists.intro
                  exact ⟨⟨i + 1, ((os ++ [⟨((i : Nat) : Int), [0, 1], some ⟨g37, 0, none⟩, 2⟩]) ++ [⟨((i : Nat) : Int), [2, 3, 4], some ⟨g44, 0, none⟩, 3⟩]), .slice p50 ((os.length + 1) + 1) c50, ((g44, .cells #[.int .i64 2, .int .i64 3, .int .i64 4] 3 (0, 0)) :: ((g37, .cells #[.int .i64 0, .int .i64 1] 3 (0, 0)) :: Tr)), Kl48, (by omega), (by rw [cov_11 h8 h10]; simp only [List.map_append, List.map_cons, List.map_nil, hos, List.append_assoc, List.cons_append, List.nil_append]), (by simp only [List.length_append, List.length_singleton, List.length_cons, List.length_nil]; omega), (own_app O48 (by simp only [List.flatMap_append, List.append_assoc]; rfl) (by simp only [List.length_append]; rfl)), (fun W hW => (rw_snoc (rw_snoc (hRo W (hW.sub (fun p hp => by simp only [List.mem_cons, hp, or_true]))) (o := ⟨((i : Nat) : Int), [0, 1], some ⟨g37, 0, none⟩, 2⟩) (blk_slv hW (.tail _ (.head _)))) (o := ⟨((i : Nat) : Int), [2, 3, 4], some ⟨g44, 0, none⟩, 3⟩) (blk_slv hW (.head _)))), (show Dk g27 ((g44, .cells #[.int .i64 2, .int .i64 3, .int .i64 4] 3 (0, 0)) :: ((g37, .cells #[.int .i64 0, .int .i64 1] 3 (0, 0)) :: Tr)) from (by (try simp only [dj_app_l, dj_app_r, dj_cons_l, dj_cons_r, dj_nil_l, dj_nil_r, dk_app, dk_cons, dk_nil, and_true, true_and, and_assoc]); repeat' (first | trivial | assumption | exact Dj.symm (by assumption) | exact Ne.symm (by assumption) | apply And.intro))), (show Dk g2 ((g44, .cells #[.int .i64 2, .int .i64 3, .int .i64 4] 3 (0, 0)) :: ((g37, .cells #[.int .i64 0, .int .i64 1] 3 (0, 0)) :: Tr)) from (by (try simp only [dj_app_l, dj_app_r, dj_cons_l, dj_cons_r, dj_nil_l, dj_nil_r, dk_app, dk_cons, dk_nil, and_true, true_and, and_assoc]); repeat' (first | trivial | assumption | exact Dj.symm (by assumption) | exact Ne.symm (by assumption) | apply And.intro))), (show Dk g1 ((g44, .cells #[.int .i64 2, .int .i64 3, .int .i64 4] 3 (0, 0)) :: ((g37, .cells #[.int .i64 0, .int .i64 1] 3 (0, 0)) :: Tr)) from (by (try simp only [dj_app_l, dj_app_r, dj_cons_l, dj_cons_r, dj_nil_l, dj_nil_r, dk_app, dk_cons, dk_nil, and_true, true_and, and_assoc]); repeat' (first | trivial | assumption | exact Dj.symm (by assumption) | exact Ne.symm (by assumption) | apply And.intro))), (show Dj Kc ((g44, .cells #[.int .i64 2, .int .i64 3, .int .i64 4] 3 (0, 0)) :: ((g37, .cells #[.int .i64 0, .int .i64 1] 3 (0, 0)) :: Tr)) from (by (try simp only [dj_app_l, dj_app_r, dj_cons_l, dj_cons_r, dj_nil_l, dj_nil_r, dk_app, dk_cons, dk_nil, and_true, true_and, and_assoc]); repeat' (first | trivial | assumption | exact Dj.symm (by assumption) | exact Ne.symm (by assumption) | apply And.intro))), (show Dk g27 Kl48 from (by (try simp only [dj_app_l, dj_app_r, dj_cons_l, dj_cons_r, dj_nil_l, dj_nil_r, dk_app, dk_cons, dk_nil, and_true, true_and, and_assoc]); repeat' (first | trivial | assumption | exact Dj.symm (by assumption) | exact Ne.symm (by assumption) | apply And.intro))), (show Dk g2 Kl48 from (by (try simp only [dj_app_l, dj_app_r, dj_cons_l, dj_cons_r, dj_nil_l, dj_nil_r, dk_app, dk_cons, dk_nil, and_true, true_and, and_assoc]); repeat' (first | trivial | assumption | exact Dj.symm (by assumption) | exact Ne.symm (by assumption) | apply And.intro))), (show Dk g1 Kl48 from (by (try simp only [dj_app_l, dj_app_r, dj_cons_l, dj_cons_r, dj_nil_l, dj_nil_r, dk_app, dk_cons, dk_nil, and_true, true_and, and_assoc]); repeat' (first | trivial | assumption | exact Dj.symm (by assumption) | exact Ne.symm (by assumption) | apply And.intro))), (show Dj Kc Kl48 from (by (try simp only [dj_app_l, dj_app_r, dj_cons_l, dj_cons_r, dj_nil_l, dj_nil_r, dk_app, dk_cons, dk_nil, and_true, true_and, and_assoc]); repeat' (first | trivial | assumption | exact Dj.symm (by assumption) | exact Ne.symm (by assumption) | apply And.intro))), (show Dj ((g44, .cells #[.int .i64 2, .int .i64 3, .int .i64 4] 3 (0, 0)) :: ((g37, .cells #[.int .i64 0, .int .i64 1] 3 (0, 0)) :: Tr)) Kl48 from (by (try simp only [dj_app_l, dj_app_r, dj_cons_l, dj_cons_r, dj_nil_l, dj_nil_r, dk_app, dk_cons, dk_nil, and_true, true_and, and_assoc]); repeat' (first | trivial | assumption | exact Dj.symm (by assumption) | exact Ne.symm (by assumption) | apply And.intro))), rfl, (hW35.sub (fun p hp => by first | exact hp | (simp only [List.mem_cons, List.mem_append, List.nil_append, List.not_mem_nil, or_assoc, or_false, false_or] at hp ⊢ <;> grind)))⟩, rfl⟩
                case measure => (show 5 - (intOf (.int .i64 (((i + 1) : Nat) : Int))).toNat < 5 - (intOf (.int .i64 ((i : Nat) : Int))).toNat); simp only [intOf]; omega
    | true =>
      have h1 : k < m := of_decide_eq_true hd1
      clear hd1
      refine wp_cond_true rfl ?_
      refine wp_skip ?_
      refine (show Code.wp _ _ _ _ _ from ?_)
      refine wp_seq ?_
      refine wp_block ?_
      refine wp_seq ?_
      refine wp_region_L (W0 := W0) ((g2, .cells (shC (.slice pc cs.length cc) (.slice none 0 0) tl0).toArray 32 (0, 0)) :: (g1, .cells (shC (.slice none 0 0) (.slice none 0 0) tl0).toArray 32 (0, 0)) :: Kc) (hW5) ?_
      obtain ⟨y51, g51_, f51_, hy51, hp51, hc51⟩ := RL.at (hp.take plC_len m) plC_len (by decide) (hW5.sub (fun _ h => by cases h)) (k := k) (by first | omega | (rw [List.length_take]; omega))
      have ok51 := hok y51 (List.mem_of_mem_take (List.mem_of_getElem? hy51))
      obtain ⟨ob51, or51, ot51⟩ := ok51
      refine lp (v := .pointer (some ⟨g51_, f51_ + k * 4, none⟩)) rfl rfl (run_idxQ (p := p) (cap := c) (n := m) (j := .i64) (k := k) (sz := 4) rfl Tryd.underlying60 (by kernel_rfl) (by kernel_rfl) hp51 (by kernel_rfl) (by first | omega | (rw [List.length_take]; omega))) ?_
      refine lv (v := .agg (plC y51).toArray) rfl rfl (yb_rs (off := f51_ + k * 4) (cs := plC y51) rfl (by kernel_rfl) (fun W hW => hc51 W (hW.sub (fun _ h => by cases h))) Tryd.underlying117 rfl (by kernel_rfl)) ?_
      refine wpL_new (fun g => .pointer (some ⟨g, 0, none⟩)) (obi := .cells #[.int .u8 0, .int .u8 0, .int .u8 0, .bool false] 117 (0, 0)) rfl rfl (fun _ => by kernel_rfl) (fun _ => by simp only [List.setIfInBounds_toArray, List.set_cons_succ, List.set_cons_zero] <;> rfl) fun g52 Bg52 Fg52 => ?_
      obtain ⟨dj53_0, dj53_1, dj53_2⟩ : g2 ≠ g52 ∧ g1 ≠ g52 ∧ Dk g52 Kc := by simpa only [dj_app_l, dj_app_r, dj_cons_l, dj_cons_r, dj_nil_l, dj_nil_r, dk_app, dk_cons, dk_nil, and_true, true_and, and_assoc] using (show Dk g52 ((g2, .cells (shC (.slice pc cs.length cc) (.slice none 0 0) tl0).toArray 32 (0, 0)) :: (g1, .cells (shC (.slice none 0 0) (.slice none 0 0) tl0).toArray 32 (0, 0)) :: Kc) from Fg52)
      refine wpL_s ((g52, .cells (plC y51).toArray 117 (0, 0)) :: (g2, .cells (shC (.slice pc cs.length cc) (.slice none 0 0) tl0).toArray 32 (0, 0)) :: (g1, .cells (shC (.slice none 0 0) (.slice none 0 0) tl0).toArray 32 (0, 0)) :: Kc) rfl rfl (st_row (off := 0) (v := .agg (plC y51).toArray) rfl (by kernel_rfl) (by kernel_rfl) (.head _) Bg52 (by kernel_rfl) (by first | (simp [Value.cells]; done) | exact Nat.le_of_ble_eq_true rfl) (fun v hv => plC_one y51 v hv) (by kernel_rfl) (List.forall_mem_cons.2 ⟨.inl rfl, (List.forall_mem_cons.2 ⟨.inr ⟨(.tail _ (.head _)), (by first | assumption | exact Ne.symm (by assumption))⟩, (List.forall_mem_cons.2 ⟨.inr ⟨(.tail _ (.tail _ (.head _))), (by first | assumption | exact Ne.symm (by assumption))⟩, (fun p hp => .inr ⟨(.tail _ (.tail _ (.tail _ hp))), ((show Dk g52 Kc from (by (try simp only [dj_app_l, dj_app_r, dj_cons_l, dj_cons_r, dj_nil_l, dj_nil_r, dk_app, dk_cons, dk_nil, and_true, true_and, and_assoc]); repeat' (first | trivial | assumption | exact Dj.symm (by assumption) | exact Ne.symm (by assumption) | apply And.intro))) _ hp)⟩)⟩)⟩)⟩)) ?_
      refine wpL_done (fun W36 hW36 => ?_)
      refine (show Code.wp _ _ _ _ _ from ?_)
      refine wp_seq ?_
      refine wp_region_L (W0 := W0) ((g52, .cells (plC y51).toArray 117 (0, 0)) :: (g2, .cells (shC (.slice pc cs.length cc) (.slice none 0 0) tl0).toArray 32 (0, 0)) :: (g1, .cells (shC (.slice none 0 0) (.slice none 0 0) tl0).toArray 32 (0, 0)) :: Kc) (hW36) ?_
      refine lm (v := .pointer (some ⟨g52, 0, none⟩)) rfl rfl ?_
      refine lv (v := .int .u8 ((y51.bay : Nat) : Int)) rfl rfl (yb_cell (off := 0) rfl (by kernel_rfl) (.head _) Tryd.underlying5 rfl (by kernel_rfl)) ?_
      refine lp (v := .int .i64 ((y51.bay : Nat) : Int)) rfl rfl (run_conv rfl (vx := (.int .u8 ((y51.bay : Nat) : Int))) (by kernel_rfl) fun w => cv_int Tryd.underlying5 Tryd.underlying3 (wr_i64 (by omega)) w) ?_
      refine lp (v := .int .i64 (((y51.bay % 5) : Nat) : Int)) rfl rfl (run_bin rfl (vx := (.int .i64 ((y51.bay : Nat) : Int))) (vy := (.int .i64 ((5 : Nat) : Int))) (by kernel_rfl) (by kernel_rfl) fun w => bn_rem (z := (y51.bay % 5)) rfl (by omega) w) ?_
      refine lm (v := .pointer (some ⟨g52, 1, none⟩)) rfl rfl ?_
      refine lv (v := .int .u8 ((y51.row : Nat) : Int)) rfl rfl (yb_cell (off := 1) rfl (by kernel_rfl) (.head _) Tryd.underlying5 rfl (by kernel_rfl)) ?_
      refine lp (v := .int .i64 ((y51.row : Nat) : Int)) rfl rfl (run_conv rfl (vx := (.int .u8 ((y51.row : Nat) : Int))) (by kernel_rfl) fun w => cv_int Tryd.underlying5 Tryd.underlying3 (wr_i64 (by omega)) w) ?_
      refine lp (v := .int .i64 (((y51.row % 5) : Nat) : Int)) rfl rfl (run_bin rfl (vx := (.int .i64 ((y51.row : Nat) : Int))) (vy := (.int .i64 ((5 : Nat) : Int))) (by kernel_rfl) (by kernel_rfl) fun w => bn_rem (z := (y51.row % 5)) rfl (by omega) w) ?_
      refine lm (v := .pointer (some ⟨g52, 3, none⟩)) rfl rfl ?_
      refine lv (v := .bool y51.deck) rfl rfl (yb_cell (off := 3) rfl (by kernel_rfl) (.head _) Tryd.underlying4 rfl (by kernel_rfl)) ?_
      refine lm (v := .pointer (some ⟨g52, 2, none⟩)) rfl rfl ?_
      refine lv (v := .int .u8 ((y51.tiers : Nat) : Int)) rfl rfl (yb_cell (off := 2) rfl (by kernel_rfl) (.head _) Tryd.underlying5 rfl (by kernel_rfl)) ?_
      refine lp (v := .int .i64 ((y51.tiers : Nat) : Int)) rfl rfl (run_conv rfl (vx := (.int .u8 ((y51.tiers : Nat) : Int))) (by kernel_rfl) fun w => cv_int Tryd.underlying5 Tryd.underlying3 (wr_i64 (by omega)) w) ?_
      refine lp (v := .int .i64 (((y51.tiers % 4) : Nat) : Int)) rfl rfl (run_bin rfl (vx := (.int .i64 ((y51.tiers : Nat) : Int))) (vy := (.int .i64 ((4 : Nat) : Int))) (by kernel_rfl) (by kernel_rfl) fun w => bn_rem (z := (y51.tiers % 4)) rfl (by omega) w) ?_
      refine lp (v := .int .i64 (((2 + (y51.tiers % 4)) : Nat) : Int)) rfl rfl (run_bin rfl (vx := (.int .i64 ((2 : Nat) : Int))) (vy := (.int .i64 (((y51.tiers % 4) : Nat) : Int))) (by kernel_rfl) (by kernel_rfl) fun w => bn_add (z := (2 + (y51.tiers % 4))) rfl (wr_i64 (by omega)) w) ?_
      refine lm (v := .agg #[.int .i64 (((y51.bay % 5) : Nat) : Int), .int .i64 (((y51.row % 5) : Nat) : Int), .bool y51.deck, .int .i64 (((2 + (y51.tiers % 4)) : Nat) : Int), .int .i64 0, .int .i64 500000000, .int .i64 500000000, .int .i64 0, .slice none 0 0, .int .i64 0, .int .i64 0, .int .i64 0]) rfl rfl ?_
      refine wpL_new (fun g => .pointer (some ⟨g, 0, none⟩)) (obi := .cells #[.int .i64 0, .int .i64 0, .bool false, .int .i64 0, .int .i64 0, .int .i64 0, .int .i64 0, .int .i64 0, .slice none 0 0, .int .i64 0, .int .i64 0, .int .i64 0] 65 (0, 0)) rfl rfl (fun _ => by kernel_rfl) (fun _ => by simp only [List.setIfInBounds_toArray, List.set_cons_succ, List.set_cons_zero] <;> rfl) fun g54 Bg54 Fg54 => ?_
      obtain ⟨dj55_0, dj55_1, dj55_2, dj55_3⟩ : g52 ≠ g54 ∧ g2 ≠ g54 ∧ g1 ≠ g54 ∧ Dk g54 Kc := by simpa only [dj_app_l, dj_app_r, dj_cons_l, dj_cons_r, dj_nil_l, dj_nil_r, dk_app, dk_cons, dk_nil, and_true, true_and, and_assoc] using (show Dk g54 ((g52, .cells (plC y51).toArray 117 (0, 0)) :: (g2, .cells (shC (.slice pc cs.length cc) (.slice none 0 0) tl0).toArray 32 (0, 0)) :: (g1, .cells (shC (.slice none 0 0) (.slice none 0 0) tl0).toArray 32 (0, 0)) :: Kc) from Fg54)
      refine wpL_s ((g54, .cells #[.int .i64 (((y51.bay % 5) : Nat) : Int), .int .i64 (((y51.row % 5) : Nat) : Int), .bool y51.deck, .int .i64 (((2 + (y51.tiers % 4)) : Nat) : Int), .int .i64 0, .int .i64 500000000, .int .i64 500000000, .int .i64 0, .slice none 0 0, .int .i64 0, .int .i64 0, .int .i64 0] 65 (0, 0)) :: (g52, .cells (plC y51).toArray 117 (0, 0)) :: (g2, .cells (shC (.slice pc cs.length cc) (.slice none 0 0) tl0).toArray 32 (0, 0)) :: (g1, .cells (shC (.slice none 0 0) (.slice none 0 0) tl0).toArray 32 (0, 0)) :: Kc) rfl rfl (st_row (off := 0) (v := .agg #[.int .i64 (((y51.bay % 5) : Nat) : Int), .int .i64 (((y51.row % 5) : Nat) : Int), .bool y51.deck, .int .i64 (((2 + (y51.tiers % 4)) : Nat) : Int), .int .i64 0, .int .i64 500000000, .int .i64 500000000, .int .i64 0, .slice none 0 0, .int .i64 0, .int .i64 0, .int .i64 0]) rfl (by kernel_rfl) (by kernel_rfl) (.head _) Bg54 (by kernel_rfl) (by first | (simp [Value.cells]; done) | exact Nat.le_of_ble_eq_true rfl) (by intro v hv; simp [Value.cells] at hv; first | (subst hv; rfl) | (rcases hv with rfl | rfl | rfl | rfl | rfl | rfl | rfl | rfl | rfl | rfl | rfl | rfl <;> rfl)) (by kernel_rfl) (List.forall_mem_cons.2 ⟨.inl rfl, (List.forall_mem_cons.2 ⟨.inr ⟨(.tail _ (.head _)), (by first | assumption | exact Ne.symm (by assumption))⟩, (List.forall_mem_cons.2 ⟨.inr ⟨(.tail _ (.tail _ (.head _))), (by first | assumption | exact Ne.symm (by assumption))⟩, (List.forall_mem_cons.2 ⟨.inr ⟨(.tail _ (.tail _ (.tail _ (.head _)))), (by first | assumption | exact Ne.symm (by assumption))⟩, (fun p hp => .inr ⟨(.tail _ (.tail _ (.tail _ (.tail _ hp)))), ((show Dk g54 Kc from (by (try simp only [dj_app_l, dj_app_r, dj_cons_l, dj_cons_r, dj_nil_l, dj_nil_r, dk_app, dk_cons, dk_nil, and_true, true_and, and_assoc]); repeat' (first | trivial | assumption | exact Dj.symm (by assumption) | exact Ne.symm (by assumption) | apply And.intro))) _ hp)⟩)⟩)⟩)⟩)⟩)) ?_
      refine wpL_done (fun W37 hW37 => ?_)
      refine (show Code.wp _ _ _ _ _ from ?_)
      refine wp_seq ?_
      refine wp_region_L (W0 := W0) ((g54, .cells #[.int .i64 (((y51.bay % 5) : Nat) : Int), .int .i64 (((y51.row % 5) : Nat) : Int), .bool y51.deck, .int .i64 (((2 + (y51.tiers % 4)) : Nat) : Int), .int .i64 0, .int .i64 500000000, .int .i64 500000000, .int .i64 0, .slice none 0 0, .int .i64 0, .int .i64 0, .int .i64 0] 65 (0, 0)) :: (g52, .cells (plC y51).toArray 117 (0, 0)) :: (g2, .cells (shC (.slice pc cs.length cc) (.slice none 0 0) tl0).toArray 32 (0, 0)) :: (g1, .cells (shC (.slice none 0 0) (.slice none 0 0) tl0).toArray 32 (0, 0)) :: Kc) (hW37) ?_
      refine lm (v := .pointer (some ⟨g54, 0, none⟩)) rfl rfl ?_
      refine lv (v := .int .i64 (((y51.bay % 5) : Nat) : Int)) rfl rfl (yb_cell (off := 0) rfl (by kernel_rfl) (.head _) Tryd.underlying3 rfl (by kernel_rfl)) ?_
      refine lp (v := .int .i64 (((13000 * (y51.bay % 5)) : Nat) : Int)) rfl rfl (run_bin rfl (vx := (.int .i64 ((13000 : Nat) : Int))) (vy := (.int .i64 (((y51.bay % 5) : Nat) : Int))) (by kernel_rfl) (by kernel_rfl) fun w => bn_mul (z := (13000 * (y51.bay % 5))) rfl (wr_i64 (by omega)) w) ?_
      refine lp (v := .int .i64 ((((13000 * (y51.bay % 5)) : Nat) : Int) - 26000)) rfl rfl (run_bin rfl (vx := (.int .i64 (((13000 * (y51.bay % 5)) : Nat) : Int))) (vy := (.int .i64 26000)) (by kernel_rfl) (by kernel_rfl) fun w => bi_sub (z := ((((13000 * (y51.bay % 5)) : Nat) : Int) - 26000)) rfl (wi_i64 (by omega)) w) ?_
      refine lm (v := .pointer (some ⟨g54, 1, none⟩)) rfl rfl ?_
      refine lv (v := .int .i64 (((y51.row % 5) : Nat) : Int)) rfl rfl (yb_cell (off := 1) rfl (by kernel_rfl) (.head _) Tryd.underlying3 rfl (by kernel_rfl)) ?_
      refine lp (v := .int .i64 (((2500 * (y51.row % 5)) : Nat) : Int)) rfl rfl (run_bin rfl (vx := (.int .i64 ((2500 : Nat) : Int))) (vy := (.int .i64 (((y51.row % 5) : Nat) : Int))) (by kernel_rfl) (by kernel_rfl) fun w => bn_mul (z := (2500 * (y51.row % 5))) rfl (wr_i64 (by omega)) w) ?_
      refine lp (v := .int .i64 ((((2500 * (y51.row % 5)) : Nat) : Int) - 5000)) rfl rfl (run_bin rfl (vx := (.int .i64 (((2500 * (y51.row % 5)) : Nat) : Int))) (vy := (.int .i64 5000)) (by kernel_rfl) (by kernel_rfl) fun w => bi_sub (z := ((((2500 * (y51.row % 5)) : Nat) : Int) - 5000)) rfl (wi_i64 (by omega)) w) ?_
      refine lm (v := .pointer (some ⟨g54, 9, none⟩)) rfl rfl ?_
      refine wpL_s ((g54, .cells #[.int .i64 (((y51.bay % 5) : Nat) : Int), .int .i64 (((y51.row % 5) : Nat) : Int), .bool y51.deck, .int .i64 (((2 + (y51.tiers % 4)) : Nat) : Int), .int .i64 0, .int .i64 500000000, .int .i64 500000000, .int .i64 0, .slice none 0 0, .int .i64 ((((13000 * (y51.bay % 5)) : Nat) : Int) - 26000), .int .i64 0, .int .i64 0] 65 (0, 0)) :: (g52, .cells (plC y51).toArray 117 (0, 0)) :: (g2, .cells (shC (.slice pc cs.length cc) (.slice none 0 0) tl0).toArray 32 (0, 0)) :: (g1, .cells (shC (.slice none 0 0) (.slice none 0 0) tl0).toArray 32 (0, 0)) :: Kc) rfl rfl (st_row (off := 9) (v := .int .i64 ((((13000 * (y51.bay % 5)) : Nat) : Int) - 26000)) rfl (by kernel_rfl) (by kernel_rfl) (.head _) Bg54 (by kernel_rfl) (by first | (simp [Value.cells]; done) | exact Nat.le_of_ble_eq_true rfl) (by intro v hv; simp [Value.cells] at hv; first | (subst hv; rfl) | (rcases hv with rfl <;> rfl)) (by kernel_rfl) (List.forall_mem_cons.2 ⟨.inl rfl, (List.forall_mem_cons.2 ⟨.inr ⟨(.tail _ (.head _)), (by first | assumption | exact Ne.symm (by assumption))⟩, (List.forall_mem_cons.2 ⟨.inr ⟨(.tail _ (.tail _ (.head _))), (by first | assumption | exact Ne.symm (by assumption))⟩, (List.forall_mem_cons.2 ⟨.inr ⟨(.tail _ (.tail _ (.tail _ (.head _)))), (by first | assumption | exact Ne.symm (by assumption))⟩, (fun p hp => .inr ⟨(.tail _ (.tail _ (.tail _ (.tail _ hp)))), ((show Dk g54 Kc from (by (try simp only [dj_app_l, dj_app_r, dj_cons_l, dj_cons_r, dj_nil_l, dj_nil_r, dk_app, dk_cons, dk_nil, and_true, true_and, and_assoc]); repeat' (first | trivial | assumption | exact Dj.symm (by assumption) | exact Ne.symm (by assumption) | apply And.intro))) _ hp)⟩)⟩)⟩)⟩)⟩)) ?_
      refine lm (v := .pointer (some ⟨g54, 10, none⟩)) rfl rfl ?_
      refine wpL_s ((g54, .cells #[.int .i64 (((y51.bay % 5) : Nat) : Int), .int .i64 (((y51.row % 5) : Nat) : Int), .bool y51.deck, .int .i64 (((2 + (y51.tiers % 4)) : Nat) : Int), .int .i64 0, .int .i64 500000000, .int .i64 500000000, .int .i64 0, .slice none 0 0, .int .i64 ((((13000 * (y51.bay % 5)) : Nat) : Int) - 26000), .int .i64 ((((2500 * (y51.row % 5)) : Nat) : Int) - 5000), .int .i64 0] 65 (0, 0)) :: (g52, .cells (plC y51).toArray 117 (0, 0)) :: (g2, .cells (shC (.slice pc cs.length cc) (.slice none 0 0) tl0).toArray 32 (0, 0)) :: (g1, .cells (shC (.slice none 0 0) (.slice none 0 0) tl0).toArray 32 (0, 0)) :: Kc) rfl rfl (st_row (off := 10) (v := .int .i64 ((((2500 * (y51.row % 5)) : Nat) : Int) - 5000)) rfl (by kernel_rfl) (by kernel_rfl) (.head _) Bg54 (by kernel_rfl) (by first | (simp [Value.cells]; done) | exact Nat.le_of_ble_eq_true rfl) (by intro v hv; simp [Value.cells] at hv; first | (subst hv; rfl) | (rcases hv with rfl <;> rfl)) (by kernel_rfl) (List.forall_mem_cons.2 ⟨.inl rfl, (List.forall_mem_cons.2 ⟨.inr ⟨(.tail _ (.head _)), (by first | assumption | exact Ne.symm (by assumption))⟩, (List.forall_mem_cons.2 ⟨.inr ⟨(.tail _ (.tail _ (.head _))), (by first | assumption | exact Ne.symm (by assumption))⟩, (List.forall_mem_cons.2 ⟨.inr ⟨(.tail _ (.tail _ (.tail _ (.head _)))), (by first | assumption | exact Ne.symm (by assumption))⟩, (fun p hp => .inr ⟨(.tail _ (.tail _ (.tail _ (.tail _ hp)))), ((show Dk g54 Kc from (by (try simp only [dj_app_l, dj_app_r, dj_cons_l, dj_cons_r, dj_nil_l, dj_nil_r, dk_app, dk_cons, dk_nil, and_true, true_and, and_assoc]); repeat' (first | trivial | assumption | exact Dj.symm (by assumption) | exact Ne.symm (by assumption) | apply And.intro))) _ hp)⟩)⟩)⟩)⟩)⟩)) ?_
      refine lm (v := .pointer (some ⟨g54, 11, none⟩)) rfl rfl ?_
      refine wpL_s ((g54, .cells #[.int .i64 (((y51.bay % 5) : Nat) : Int), .int .i64 (((y51.row % 5) : Nat) : Int), .bool y51.deck, .int .i64 (((2 + (y51.tiers % 4)) : Nat) : Int), .int .i64 0, .int .i64 500000000, .int .i64 500000000, .int .i64 0, .slice none 0 0, .int .i64 ((((13000 * (y51.bay % 5)) : Nat) : Int) - 26000), .int .i64 ((((2500 * (y51.row % 5)) : Nat) : Int) - 5000), .int .i64 2000] 65 (0, 0)) :: (g52, .cells (plC y51).toArray 117 (0, 0)) :: (g2, .cells (shC (.slice pc cs.length cc) (.slice none 0 0) tl0).toArray 32 (0, 0)) :: (g1, .cells (shC (.slice none 0 0) (.slice none 0 0) tl0).toArray 32 (0, 0)) :: Kc) rfl rfl (st_row (off := 11) (v := .int .i64 2000) rfl (by kernel_rfl) (by kernel_rfl) (.head _) Bg54 (by kernel_rfl) (by first | (simp [Value.cells]; done) | exact Nat.le_of_ble_eq_true rfl) (by intro v hv; simp [Value.cells] at hv; first | (subst hv; rfl) | (rcases hv with rfl <;> rfl)) (by kernel_rfl) (List.forall_mem_cons.2 ⟨.inl rfl, (List.forall_mem_cons.2 ⟨.inr ⟨(.tail _ (.head _)), (by first | assumption | exact Ne.symm (by assumption))⟩, (List.forall_mem_cons.2 ⟨.inr ⟨(.tail _ (.tail _ (.head _))), (by first | assumption | exact Ne.symm (by assumption))⟩, (List.forall_mem_cons.2 ⟨.inr ⟨(.tail _ (.tail _ (.tail _ (.head _)))), (by first | assumption | exact Ne.symm (by assumption))⟩, (fun p hp => .inr ⟨(.tail _ (.tail _ (.tail _ (.tail _ hp)))), ((show Dk g54 Kc from (by (try simp only [dj_app_l, dj_app_r, dj_cons_l, dj_cons_r, dj_nil_l, dj_nil_r, dk_app, dk_cons, dk_nil, and_true, true_and, and_assoc]); repeat' (first | trivial | assumption | exact Dj.symm (by assumption) | exact Ne.symm (by assumption) | apply And.intro))) _ hp)⟩)⟩)⟩)⟩)⟩)) ?_
      refine wpL_done (fun W38 hW38 => ?_)
      refine (show Code.wp _ _ _ _ _ from ?_)
      refine wp_seq ?_
      refine wp_seq ?_
      refine wp_region_L (W0 := W0) ((g54, .cells #[.int .i64 (((y51.bay % 5) : Nat) : Int), .int .i64 (((y51.row % 5) : Nat) : Int), .bool y51.deck, .int .i64 (((2 + (y51.tiers % 4)) : Nat) : Int), .int .i64 0, .int .i64 500000000, .int .i64 500000000, .int .i64 0, .slice none 0 0, .int .i64 ((((13000 * (y51.bay % 5)) : Nat) : Int) - 26000), .int .i64 ((((2500 * (y51.row % 5)) : Nat) : Int) - 5000), .int .i64 2000] 65 (0, 0)) :: (g52, .cells (plC y51).toArray 117 (0, 0)) :: (g2, .cells (shC (.slice pc cs.length cc) (.slice none 0 0) tl0).toArray 32 (0, 0)) :: (g1, .cells (shC (.slice none 0 0) (.slice none 0 0) tl0).toArray 32 (0, 0)) :: Kc) (hW38) ?_
      refine lm (v := .pointer (some ⟨g54, 2, none⟩)) rfl rfl ?_
      refine lv (v := .bool y51.deck) rfl rfl (yb_cell (off := 2) rfl (by kernel_rfl) (.head _) Tryd.underlying4 rfl (by kernel_rfl)) ?_
      refine wpL_done (fun W39 hW39 => ?_)
      refine (show Code.wp _ _ _ _ _ from ?_)
      cases h11 : y51.deck with
      | false =>
        rw [h11] at hW39
        refine wp_cond_false rfl ?_
        refine wp_skip ?_
        refine (show Code.wp _ _ _ _ _ from ?_)
        refine wp_seq ?_
        refine wp_region_L (W0 := W0) ((g54, .cells #[.int .i64 (((y51.bay % 5) : Nat) : Int), .int .i64 (((y51.row % 5) : Nat) : Int), .bool false, .int .i64 (((2 + (y51.tiers % 4)) : Nat) : Int), .int .i64 0, .int .i64 500000000, .int .i64 500000000, .int .i64 0, .slice none 0 0, .int .i64 ((((13000 * (y51.bay % 5)) : Nat) : Int) - 26000), .int .i64 ((((2500 * (y51.row % 5)) : Nat) : Int) - 5000), .int .i64 2000] 65 (0, 0)) :: (g52, .cells (plC y51).toArray 117 (0, 0)) :: (g2, .cells (shC (.slice pc cs.length cc) (.slice none 0 0) tl0).toArray 32 (0, 0)) :: (g1, .cells (shC (.slice none 0 0) (.slice none 0 0) tl0).toArray 32 (0, 0)) :: Kc) (hW39) ?_
        refine lv (v := .agg (shC (.slice pc cs.length cc) (.slice none 0 0) tl0).toArray) rfl rfl (yb_load (n := 13) (off := 0) rfl (by kernel_rfl) (.tail _ (.tail _ (.head _))) Tryd.underlying32 rfl (by kernel_rfl) (by first | (simp [Value.cells]; done) | exact Nat.le_of_ble_eq_true rfl) (by kernel_rfl)) ?_
        refine lm (v := .pointer (some ⟨g54, 0, none⟩)) rfl rfl ?_
        refine lv (v := .int .i64 (((y51.bay % 5) : Nat) : Int)) rfl rfl (yb_cell (off := 0) rfl (by kernel_rfl) (.head _) Tryd.underlying3 rfl (by kernel_rfl)) ?_
        refine lm (v := .pointer (some ⟨g54, 1, none⟩)) rfl rfl ?_
        refine lv (v := .int .i64 (((y51.row % 5) : Nat) : Int)) rfl rfl (yb_cell (off := 1) rfl (by kernel_rfl) (.head _) Tryd.underlying3 rfl (by kernel_rfl)) ?_
        refine lm (v := .pointer (some ⟨g54, 2, none⟩)) rfl rfl ?_
        refine lv (v := .bool false) rfl rfl (yb_cell (off := 2) rfl (by kernel_rfl) (.head _) Tryd.underlying4 rfl (by kernel_rfl)) ?_
        refine lv (v := .tuple #[.int .i64 (findN (fst (isAt (((y51.bay % 5) : Nat) : Int) (((y51.row % 5) : Nat) : Int) false) cs)), .bool ((fst (isAt (((y51.bay % 5) : Nat) : Int) (((y51.row % 5) : Nat) : Int) false) cs).isSome)]) rfl rfl (yb_call (f := 70) (args := #[.agg (shC (.slice pc cs.length cc) (.slice none 0 0) tl0).toArray, .int .i64 (((y51.bay % 5) : Nat) : Int), .int .i64 (((y51.row % 5) : Nat) : Int), .bool false]) (fun _ => by kernel_rfl) fun W hW => Find_any cs pc cc (by omega) ([] : List Cov) none 0 (Nat.zero_le _) tl0 (((y51.bay % 5) : Nat) : Int) (((y51.row % 5) : Nat) : Int) false W (RC _ (hW.sub (fun p hp => by simp only [List.mem_cons, List.mem_append, List.nil_append, List.not_mem_nil, or_assoc, or_false, false_or, hp, true_or, or_true]))) ((RL.nil (T := [])) _ (hW.sub (fun _ h => by cases h)))) ?_
        refine lm (v := .tuple #[.int .i64 (findN (fst (isAt (((y51.bay % 5) : Nat) : Int) (((y51.row % 5) : Nat) : Int) false) cs)), .bool ((fst (isAt (((y51.bay % 5) : Nat) : Int) (((y51.row % 5) : Nat) : Int) false) cs).isSome)]) rfl rfl ?_
        refine lm (v := .int .i64 (findN (fst (isAt (((y51.bay % 5) : Nat) : Int) (((y51.row % 5) : Nat) : Int) false) cs))) rfl rfl ?_
        refine lm (v := .bool ((fst (isAt (((y51.bay % 5) : Nat) : Int) (((y51.row % 5) : Nat) : Int) false) cs).isSome)) rfl rfl ?_
        refine lm (v := .int .i64 (findN (fst (isAt (((y51.bay % 5) : Nat) : Int) (((y51.row % 5) : Nat) : Int) false) cs))) rfl rfl ?_
        refine lm (v := .bool ((fst (isAt (((y51.bay % 5) : Nat) : Int) (((y51.row % 5) : Nat) : Int) false) cs).isSome)) rfl rfl ?_
        refine wpL_done (fun W40 hW40 => ?_)
        refine (show Code.wp _ _ _ _ _ from ?_)
        refine wp_seq ?_
        refine wp_region_L (W0 := W0) ((g54, .cells #[.int .i64 (((y51.bay % 5) : Nat) : Int), .int .i64 (((y51.row % 5) : Nat) : Int), .bool false, .int .i64 (((2 + (y51.tiers % 4)) : Nat) : Int), .int .i64 0, .int .i64 500000000, .int .i64 500000000, .int .i64 0, .slice none 0 0, .int .i64 ((((13000 * (y51.bay % 5)) : Nat) : Int) - 26000), .int .i64 ((((2500 * (y51.row % 5)) : Nat) : Int) - 5000), .int .i64 2000] 65 (0, 0)) :: (g52, .cells (plC y51).toArray 117 (0, 0)) :: (g2, .cells (shC (.slice pc cs.length cc) (.slice none 0 0) tl0).toArray 32 (0, 0)) :: (g1, .cells (shC (.slice none 0 0) (.slice none 0 0) tl0).toArray 32 (0, 0)) :: Kc) (hW40) ?_
        refine lm (v := .bool ((fst (isAt (((y51.bay % 5) : Nat) : Int) (((y51.row % 5) : Nat) : Int) false) cs).isSome)) rfl rfl ?_
        refine lp (v := .bool (!((fst (isAt (((y51.bay % 5) : Nat) : Int) (((y51.row % 5) : Nat) : Int) false) cs).isSome))) rfl rfl (run_un rfl (by kernel_rfl) fun w => un_not w) ?_
        refine wpL_done (fun W41 hW41 => ?_)
        refine (show Code.wp _ _ _ _ _ from ?_)
        cases h12 : ((fst (isAt (((y51.bay % 5) : Nat) : Int) (((y51.row % 5) : Nat) : Int) false) cs).isSome) with
        | false =>
          refine wp_cond_true rfl ?_
          refine wp_region_L (W0 := W0) ((g54, .cells #[.int .i64 (((y51.bay % 5) : Nat) : Int), .int .i64 (((y51.row % 5) : Nat) : Int), .bool false, .int .i64 (((2 + (y51.tiers % 4)) : Nat) : Int), .int .i64 0, .int .i64 500000000, .int .i64 500000000, .int .i64 0, .slice none 0 0, .int .i64 ((((13000 * (y51.bay % 5)) : Nat) : Int) - 26000), .int .i64 ((((2500 * (y51.row % 5)) : Nat) : Int) - 5000), .int .i64 2000] 65 (0, 0)) :: (g52, .cells (plC y51).toArray 117 (0, 0)) :: (g2, .cells (shC (.slice pc cs.length cc) (.slice none 0 0) tl0).toArray 32 (0, 0)) :: (g1, .cells (shC (.slice none 0 0) (.slice none 0 0) tl0).toArray 32 (0, 0)) :: Kc) (hW41) ?_
          refine lm (v := .pointer (some ⟨g2, 0, none⟩)) rfl rfl ?_
          refine lv (v := .slice pc cs.length cc) rfl rfl (yb_cell (off := 0) rfl (by kernel_rfl) (.tail _ (.tail _ (.head _))) Tryd.underlying22 rfl (by kernel_rfl)) ?_
          refine lv (v := .agg #[.int .i64 (((y51.bay % 5) : Nat) : Int), .int .i64 (((y51.row % 5) : Nat) : Int), .bool false, .int .i64 (((2 + (y51.tiers % 4)) : Nat) : Int), .int .i64 0, .int .i64 500000000, .int .i64 500000000, .int .i64 0, .slice none 0 0, .int .i64 ((((13000 * (y51.bay % 5)) : Nat) : Int) - 26000), .int .i64 ((((2500 * (y51.row % 5)) : Nat) : Int) - 5000), .int .i64 2000]) rfl rfl (yb_load (n := 12) (off := 0) rfl (by kernel_rfl) (.head _) Tryd.underlying65 rfl (by kernel_rfl) (by first | (simp [Value.cells]; done) | exact Nat.le_of_ble_eq_true rfl) (by kernel_rfl)) ?_
          refine wpL_new (fun g => .slice (some ⟨g, 0, none⟩) 1 1) (obi := .cells #[.int .i64 (((y51.bay % 5) : Nat) : Int), .int .i64 (((y51.row % 5) : Nat) : Int), .bool false, .int .i64 (((2 + (y51.tiers % 4)) : Nat) : Int), .int .i64 0, .int .i64 500000000, .int .i64 500000000, .int .i64 0, .slice none 0 0, .int .i64 ((((13000 * (y51.bay % 5)) : Nat) : Int) - 26000), .int .i64 ((((2500 * (y51.row % 5)) : Nat) : Int) - 5000), .int .i64 2000] 65 (0, 0)) rfl rfl (fun _ => by kernel_rfl) (fun _ => by simp only [List.setIfInBounds_toArray, List.set_cons_succ, List.set_cons_zero] <;> rfl) fun g56 Bg56 Fg56 => ?_
          obtain ⟨dj57_0, dj57_1, dj57_2, dj57_3, dj57_4⟩ : g54 ≠ g56 ∧ g52 ≠ g56 ∧ g2 ≠ g56 ∧ g1 ≠ g56 ∧ Dk g56 Kc := by simpa only [dj_app_l, dj_app_r, dj_cons_l, dj_cons_r, dj_nil_l, dj_nil_r, dk_app, dk_cons, dk_nil, and_true, true_and, and_assoc] using (show Dk g56 ((g54, .cells #[.int .i64 (((y51.bay % 5) : Nat) : Int), .int .i64 (((y51.row % 5) : Nat) : Int), .bool false, .int .i64 (((2 + (y51.tiers % 4)) : Nat) : Int), .int .i64 0, .int .i64 500000000, .int .i64 500000000, .int .i64 0, .slice none 0 0, .int .i64 ((((13000 * (y51.bay % 5)) : Nat) : Int) - 26000), .int .i64 ((((2500 * (y51.row % 5)) : Nat) : Int) - 5000), .int .i64 2000] 65 (0, 0)) :: (g52, .cells (plC y51).toArray 117 (0, 0)) :: (g2, .cells (shC (.slice pc cs.length cc) (.slice none 0 0) tl0).toArray 32 (0, 0)) :: (g1, .cells (shC (.slice none 0 0) (.slice none 0 0) tl0).toArray 32 (0, 0)) :: Kc) from Fg56)
          refine wpL_g (AppO W0 65 12 [(g54, .cells #[.int .i64 (((y51.bay % 5) : Nat) : Int), .int .i64 (((y51.row % 5) : Nat) : Int), .bool false, .int .i64 (((2 + (y51.tiers % 4)) : Nat) : Int), .int .i64 0, .int .i64 500000000, .int .i64 500000000, .int .i64 0, .slice none 0 0, .int .i64 ((((13000 * (y51.bay % 5)) : Nat) : Int) - 26000), .int .i64 ((((2500 * (y51.row % 5)) : Nat) : Int) - 5000), .int .i64 2000] 65 (0, 0)), (g52, .cells (plC y51).toArray 117 (0, 0)), (g2, .cells (shC (.slice pc cs.length cc) (.slice none 0 0) tl0).toArray 32 (0, 0)), (g1, .cells (shC (.slice none 0 0) (.slice none 0 0) tl0).toArray 32 (0, 0))] (cs.length + 1) ((cs.flatMap colC) ++ [.int .i64 (((y51.bay % 5) : Nat) : Int), .int .i64 (((y51.row % 5) : Nat) : Int), .bool false, .int .i64 (((2 + (y51.tiers % 4)) : Nat) : Int), .int .i64 0, .int .i64 500000000, .int .i64 500000000, .int .i64 0, .slice none 0 0, .int .i64 ((((13000 * (y51.bay % 5)) : Nat) : Int) - 26000), .int .i64 ((((2500 * (y51.row % 5)) : Nat) : Int) - 5000), .int .i64 2000])) rfl rfl (app_own el_col (m := 1) (c := 1) (news := [.int .i64 (((y51.bay % 5) : Nat) : Int), .int .i64 (((y51.row % 5) : Nat) : Int), .bool false, .int .i64 (((2 + (y51.tiers % 4)) : Nat) : Int), .int .i64 0, .int .i64 500000000, .int .i64 500000000, .int .i64 0, .slice none 0 0, .int .i64 ((((13000 * (y51.bay % 5)) : Nat) : Int) - 26000), .int .i64 ((((2500 * (y51.row % 5)) : Nat) : Int) - 5000), .int .i64 2000]) rfl (by kernel_rfl) (by kernel_rfl) (.head _) hOc (fun p hp => by simp only [List.mem_cons, List.mem_append, List.nil_append, List.not_mem_nil, or_assoc, or_false, false_or, hp, or_true, true_or]) (fun p hp => ⟨by simp only [List.mem_cons, List.mem_append, List.nil_append, List.not_mem_nil, or_assoc, or_false, false_or] at hp ⊢ <;> grind, (show Dj [(g54, .cells #[.int .i64 (((y51.bay % 5) : Nat) : Int), .int .i64 (((y51.row % 5) : Nat) : Int), .bool false, .int .i64 (((2 + (y51.tiers % 4)) : Nat) : Int), .int .i64 0, .int .i64 500000000, .int .i64 500000000, .int .i64 0, .slice none 0 0, .int .i64 ((((13000 * (y51.bay % 5)) : Nat) : Int) - 26000), .int .i64 ((((2500 * (y51.row % 5)) : Nat) : Int) - 5000), .int .i64 2000] 65 (0, 0)), (g52, .cells (plC y51).toArray 117 (0, 0)), (g2, .cells (shC (.slice pc cs.length cc) (.slice none 0 0) tl0).toArray 32 (0, 0)), (g1, .cells (shC (.slice none 0 0) (.slice none 0 0) tl0).toArray 32 (0, 0))] Kc from (by (try simp only [dj_app_l, dj_app_r, dj_cons_l, dj_cons_r, dj_nil_l, dj_nil_r, dk_app, dk_cons, dk_nil, and_true, true_and, and_assoc]); repeat' (first | trivial | assumption | exact Dj.symm (by assumption) | exact Ne.symm (by assumption) | apply And.intro))) p hp⟩) rfl (by simp [strV, Value.oneCell']) (by omega) (by omega) (by omega)) (fun _ => by simp only [List.setIfInBounds_toArray, List.set_cons_succ, List.set_cons_zero] <;> rfl) ?_
          rintro v58 K9 ⟨Kl58, O58, N58, rfl⟩
          obtain ⟨dj59_0, dj59_1, dj59_2, dj59_3⟩ : Dk g54 Kl58 ∧ Dk g52 Kl58 ∧ Dk g2 Kl58 ∧ Dk g1 Kl58 := by simpa only [dj_app_l, dj_app_r, dj_cons_l, dj_cons_r, dj_nil_l, dj_nil_r, dk_app, dk_cons, dk_nil, and_true, true_and, and_assoc] using (show Dj [(g54, .cells #[.int .i64 (((y51.bay % 5) : Nat) : Int), .int .i64 (((y51.row % 5) : Nat) : Int), .bool false, .int .i64 (((2 + (y51.tiers % 4)) : Nat) : Int), .int .i64 0, .int .i64 500000000, .int .i64 500000000, .int .i64 0, .slice none 0 0, .int .i64 ((((13000 * (y51.bay % 5)) : Nat) : Int) - 26000), .int .i64 ((((2500 * (y51.row % 5)) : Nat) : Int) - 5000), .int .i64 2000] 65 (0, 0)), (g52, .cells (plC y51).toArray 117 (0, 0)), (g2, .cells (shC (.slice pc cs.length cc) (.slice none 0 0) tl0).toArray 32 (0, 0)), (g1, .cells (shC (.slice none 0 0) (.slice none 0 0) tl0).toArray 32 (0, 0))] Kl58 from N58)
          refine lm (v := .pointer (some ⟨g2, 0, none⟩)) rfl rfl ?_
          obtain ⟨p60, c60, rfl⟩ := own_shape O58
          refine wpL_s ((g54, .cells #[.int .i64 (((y51.bay % 5) : Nat) : Int), .int .i64 (((y51.row % 5) : Nat) : Int), .bool false, .int .i64 (((2 + (y51.tiers % 4)) : Nat) : Int), .int .i64 0, .int .i64 500000000, .int .i64 500000000, .int .i64 0, .slice none 0 0, .int .i64 ((((13000 * (y51.bay % 5)) : Nat) : Int) - 26000), .int .i64 ((((2500 * (y51.row % 5)) : Nat) : Int) - 5000), .int .i64 2000] 65 (0, 0)) :: (g52, .cells (plC y51).toArray 117 (0, 0)) :: (g2, .cells (shC (.slice p60 (cs.length + 1) c60) (.slice none 0 0) tl0).toArray 32 (0, 0)) :: (g1, .cells (shC (.slice none 0 0) (.slice none 0 0) tl0).toArray 32 (0, 0)) :: Kl58) rfl rfl (st_row (off := 0) (v := .slice p60 (cs.length + 1) c60) rfl (by kernel_rfl) (by kernel_rfl) (.tail _ (.tail _ (.head _))) Bg2 (by kernel_rfl) (by first | (simp [Value.cells]; done) | exact Nat.le_of_ble_eq_true rfl) (by intro v hv; simp [Value.cells] at hv; first | (subst hv; rfl) | (rcases hv with rfl <;> rfl)) (by kernel_rfl) (List.forall_mem_cons.2 ⟨.inr ⟨(.head _), (by first | assumption | exact Ne.symm (by assumption))⟩, (List.forall_mem_cons.2 ⟨.inr ⟨(.tail _ (.head _)), (by first | assumption | exact Ne.symm (by assumption))⟩, (List.forall_mem_cons.2 ⟨.inl rfl, (List.forall_mem_cons.2 ⟨.inr ⟨(.tail _ (.tail _ (.tail _ (.head _)))), (by first | assumption | exact Ne.symm (by assumption))⟩, (fun p hp => .inr ⟨(.tail _ (.tail _ (.tail _ (.tail _ hp)))), ((show Dk g2 Kl58 from (by (try simp only [dj_app_l, dj_app_r, dj_cons_l, dj_cons_r, dj_nil_l, dj_nil_r, dk_app, dk_cons, dk_nil, and_true, true_and, and_assoc]); repeat' (first | trivial | assumption | exact Dj.symm (by assumption) | exact Ne.symm (by assumption) | apply And.intro))) _ hp)⟩)⟩)⟩)⟩)⟩)) ?_
          refine wpL_done (fun W42 hW42 => ?_)
          refine (show Code.wp _ _ _ _ _ from ?_)
          refine wp_region_L (W0 := W0) ((g54, .cells #[.int .i64 (((y51.bay % 5) : Nat) : Int), .int .i64 (((y51.row % 5) : Nat) : Int), .bool false, .int .i64 (((2 + (y51.tiers % 4)) : Nat) : Int), .int .i64 0, .int .i64 500000000, .int .i64 500000000, .int .i64 0, .slice none 0 0, .int .i64 ((((13000 * (y51.bay % 5)) : Nat) : Int) - 26000), .int .i64 ((((2500 * (y51.row % 5)) : Nat) : Int) - 5000), .int .i64 2000] 65 (0, 0)) :: (g52, .cells (plC y51).toArray 117 (0, 0)) :: (g2, .cells (shC (.slice p60 (cs.length + 1) c60) (.slice none 0 0) tl0).toArray 32 (0, 0)) :: (g1, .cells (shC (.slice none 0 0) (.slice none 0 0) tl0).toArray 32 (0, 0)) :: Kl58) (hW42) ?_
          refine lp (v := .int .i64 (((k + 1) : Nat) : Int)) rfl rfl (run_bin rfl (vx := (.int .i64 ((k : Nat) : Int))) (vy := (.int .i64 ((1 : Nat) : Int))) (by kernel_rfl) (by kernel_rfl) fun w => bn_add (z := (k + 1)) rfl (wr_i64 (by omega)) w) ?_
          refine lm (v := .int .i64 (((k + 1) : Nat) : Int)) rfl rfl ?_
          refine wpL_done (fun W43 hW43 => ?_)
          go_roundw
          case rel =>
            repeat apply Exists.intro
            exact ⟨⟨k + 1, (cs ++ [colD y51 false]), .slice p60 (cs.length + 1) c60, Kl58, (by omega), (by rw [bld_snoc hy51, ← hcs, add_no h11 h12]), (by rw [List.length_append, List.length_singleton]; omega), (own_app O58 (by rw [List.flatMap_append]; rfl) (by rw [List.length_append]; rfl)), (show Dk g2 Kl58 from (by (try simp only [dj_app_l, dj_app_r, dj_cons_l, dj_cons_r, dj_nil_l, dj_nil_r, dk_app, dk_cons, dk_nil, and_true, true_and, and_assoc]); repeat' (first | trivial | assumption | exact Dj.symm (by assumption) | exact Ne.symm (by assumption) | apply And.intro))), (show Dk g1 Kl58 from (by (try simp only [dj_app_l, dj_app_r, dj_cons_l, dj_cons_r, dj_nil_l, dj_nil_r, dk_app, dk_cons, dk_nil, and_true, true_and, and_assoc]); repeat' (first | trivial | assumption | exact Dj.symm (by assumption) | exact Ne.symm (by assumption) | apply And.intro))), rfl, (hW43.sub (fun p hp => by first | exact hp | (simp only [List.mem_cons, List.mem_append, List.nil_append, List.not_mem_nil, or_assoc, or_false, false_or] at hp ⊢ <;> grind)))⟩, rfl⟩
          case measure => (show m - (intOf (.int .i64 (((k + 1) : Nat) : Int))).toNat < m - (intOf (.int .i64 ((k : Nat) : Int))).toNat); simp only [intOf]; omega
        | true =>
          refine wp_cond_false rfl ?_
          refine wp_skip ?_
          refine (show Code.wp _ _ _ _ _ from ?_)
          refine wp_region_L (W0 := W0) ((g54, .cells #[.int .i64 (((y51.bay % 5) : Nat) : Int), .int .i64 (((y51.row % 5) : Nat) : Int), .bool false, .int .i64 (((2 + (y51.tiers % 4)) : Nat) : Int), .int .i64 0, .int .i64 500000000, .int .i64 500000000, .int .i64 0, .slice none 0 0, .int .i64 ((((13000 * (y51.bay % 5)) : Nat) : Int) - 26000), .int .i64 ((((2500 * (y51.row % 5)) : Nat) : Int) - 5000), .int .i64 2000] 65 (0, 0)) :: (g52, .cells (plC y51).toArray 117 (0, 0)) :: (g2, .cells (shC (.slice pc cs.length cc) (.slice none 0 0) tl0).toArray 32 (0, 0)) :: (g1, .cells (shC (.slice none 0 0) (.slice none 0 0) tl0).toArray 32 (0, 0)) :: Kc) (hW41) ?_
          refine lp (v := .int .i64 (((k + 1) : Nat) : Int)) rfl rfl (run_bin rfl (vx := (.int .i64 ((k : Nat) : Int))) (vy := (.int .i64 ((1 : Nat) : Int))) (by kernel_rfl) (by kernel_rfl) fun w => bn_add (z := (k + 1)) rfl (wr_i64 (by omega)) w) ?_
          refine lm (v := .int .i64 (((k + 1) : Nat) : Int)) rfl rfl ?_
          refine wpL_done (fun W44 hW44 => ?_)
          go_roundw
          case rel =>
            repeat apply Exists.intro
            exact ⟨⟨k + 1, cs, .slice pc cs.length cc, Kc, (by omega), (by rw [bld_snoc hy51, ← hcs, add_yes h11 h12]), (by omega), hOc, (show Dk g2 Kc from (by (try simp only [dj_app_l, dj_app_r, dj_cons_l, dj_cons_r, dj_nil_l, dj_nil_r, dk_app, dk_cons, dk_nil, and_true, true_and, and_assoc]); repeat' (first | trivial | assumption | exact Dj.symm (by assumption) | exact Ne.symm (by assumption) | apply And.intro))), (show Dk g1 Kc from (by (try simp only [dj_app_l, dj_app_r, dj_cons_l, dj_cons_r, dj_nil_l, dj_nil_r, dk_app, dk_cons, dk_nil, and_true, true_and, and_assoc]); repeat' (first | trivial | assumption | exact Dj.symm (by assumption) | exact Ne.symm (by assumption) | apply And.intro))), rfl, (hW44.sub (fun p hp => by first | exact hp | (simp only [List.mem_cons, List.mem_append, List.nil_append, List.not_mem_nil, or_assoc, or_false, false_or] at hp ⊢ <;> grind)))⟩, rfl⟩
          case measure => (show m - (intOf (.int .i64 (((k + 1) : Nat) : Int))).toNat < m - (intOf (.int .i64 ((k : Nat) : Int))).toNat); simp only [intOf]; omega
      | true =>
        rw [h11] at hW39
        refine wp_cond_true rfl ?_
        refine wp_region_L (W0 := W0) ((g54, .cells #[.int .i64 (((y51.bay % 5) : Nat) : Int), .int .i64 (((y51.row % 5) : Nat) : Int), .bool true, .int .i64 (((2 + (y51.tiers % 4)) : Nat) : Int), .int .i64 0, .int .i64 500000000, .int .i64 500000000, .int .i64 0, .slice none 0 0, .int .i64 ((((13000 * (y51.bay % 5)) : Nat) : Int) - 26000), .int .i64 ((((2500 * (y51.row % 5)) : Nat) : Int) - 5000), .int .i64 2000] 65 (0, 0)) :: (g52, .cells (plC y51).toArray 117 (0, 0)) :: (g2, .cells (shC (.slice pc cs.length cc) (.slice none 0 0) tl0).toArray 32 (0, 0)) :: (g1, .cells (shC (.slice none 0 0) (.slice none 0 0) tl0).toArray 32 (0, 0)) :: Kc) (hW39) ?_
        refine lm (v := .pointer (some ⟨g54, 11, none⟩)) rfl rfl ?_
        refine wpL_s ((g54, .cells #[.int .i64 (((y51.bay % 5) : Nat) : Int), .int .i64 (((y51.row % 5) : Nat) : Int), .bool true, .int .i64 (((2 + (y51.tiers % 4)) : Nat) : Int), .int .i64 0, .int .i64 500000000, .int .i64 500000000, .int .i64 0, .slice none 0 0, .int .i64 ((((13000 * (y51.bay % 5)) : Nat) : Int) - 26000), .int .i64 ((((2500 * (y51.row % 5)) : Nat) : Int) - 5000), .int .i64 20000] 65 (0, 0)) :: (g52, .cells (plC y51).toArray 117 (0, 0)) :: (g2, .cells (shC (.slice pc cs.length cc) (.slice none 0 0) tl0).toArray 32 (0, 0)) :: (g1, .cells (shC (.slice none 0 0) (.slice none 0 0) tl0).toArray 32 (0, 0)) :: Kc) rfl rfl (st_row (off := 11) (v := .int .i64 20000) rfl (by kernel_rfl) (by kernel_rfl) (.head _) Bg54 (by kernel_rfl) (by first | (simp [Value.cells]; done) | exact Nat.le_of_ble_eq_true rfl) (by intro v hv; simp [Value.cells] at hv; first | (subst hv; rfl) | (rcases hv with rfl <;> rfl)) (by kernel_rfl) (List.forall_mem_cons.2 ⟨.inl rfl, (List.forall_mem_cons.2 ⟨.inr ⟨(.tail _ (.head _)), (by first | assumption | exact Ne.symm (by assumption))⟩, (List.forall_mem_cons.2 ⟨.inr ⟨(.tail _ (.tail _ (.head _))), (by first | assumption | exact Ne.symm (by assumption))⟩, (List.forall_mem_cons.2 ⟨.inr ⟨(.tail _ (.tail _ (.tail _ (.head _)))), (by first | assumption | exact Ne.symm (by assumption))⟩, (fun p hp => .inr ⟨(.tail _ (.tail _ (.tail _ (.tail _ hp)))), ((show Dk g54 Kc from (by (try simp only [dj_app_l, dj_app_r, dj_cons_l, dj_cons_r, dj_nil_l, dj_nil_r, dk_app, dk_cons, dk_nil, and_true, true_and, and_assoc]); repeat' (first | trivial | assumption | exact Dj.symm (by assumption) | exact Ne.symm (by assumption) | apply And.intro))) _ hp)⟩)⟩)⟩)⟩)⟩)) ?_
        refine wpL_done (fun W45 hW45 => ?_)
        refine (show Code.wp _ _ _ _ _ from ?_)
        refine wp_seq ?_
        refine wp_region_L (W0 := W0) ((g54, .cells #[.int .i64 (((y51.bay % 5) : Nat) : Int), .int .i64 (((y51.row % 5) : Nat) : Int), .bool true, .int .i64 (((2 + (y51.tiers % 4)) : Nat) : Int), .int .i64 0, .int .i64 500000000, .int .i64 500000000, .int .i64 0, .slice none 0 0, .int .i64 ((((13000 * (y51.bay % 5)) : Nat) : Int) - 26000), .int .i64 ((((2500 * (y51.row % 5)) : Nat) : Int) - 5000), .int .i64 20000] 65 (0, 0)) :: (g52, .cells (plC y51).toArray 117 (0, 0)) :: (g2, .cells (shC (.slice pc cs.length cc) (.slice none 0 0) tl0).toArray 32 (0, 0)) :: (g1, .cells (shC (.slice none 0 0) (.slice none 0 0) tl0).toArray 32 (0, 0)) :: Kc) (hW45) ?_
        refine lv (v := .agg (shC (.slice pc cs.length cc) (.slice none 0 0) tl0).toArray) rfl rfl (yb_load (n := 13) (off := 0) rfl (by kernel_rfl) (.tail _ (.tail _ (.head _))) Tryd.underlying32 rfl (by kernel_rfl) (by first | (simp [Value.cells]; done) | exact Nat.le_of_ble_eq_true rfl) (by kernel_rfl)) ?_
        refine lm (v := .pointer (some ⟨g54, 0, none⟩)) rfl rfl ?_
        refine lv (v := .int .i64 (((y51.bay % 5) : Nat) : Int)) rfl rfl (yb_cell (off := 0) rfl (by kernel_rfl) (.head _) Tryd.underlying3 rfl (by kernel_rfl)) ?_
        refine lm (v := .pointer (some ⟨g54, 1, none⟩)) rfl rfl ?_
        refine lv (v := .int .i64 (((y51.row % 5) : Nat) : Int)) rfl rfl (yb_cell (off := 1) rfl (by kernel_rfl) (.head _) Tryd.underlying3 rfl (by kernel_rfl)) ?_
        refine lm (v := .pointer (some ⟨g54, 2, none⟩)) rfl rfl ?_
        refine lv (v := .bool true) rfl rfl (yb_cell (off := 2) rfl (by kernel_rfl) (.head _) Tryd.underlying4 rfl (by kernel_rfl)) ?_
        refine lv (v := .tuple #[.int .i64 (findN (fst (isAt (((y51.bay % 5) : Nat) : Int) (((y51.row % 5) : Nat) : Int) true) cs)), .bool ((fst (isAt (((y51.bay % 5) : Nat) : Int) (((y51.row % 5) : Nat) : Int) true) cs).isSome)]) rfl rfl (yb_call (f := 70) (args := #[.agg (shC (.slice pc cs.length cc) (.slice none 0 0) tl0).toArray, .int .i64 (((y51.bay % 5) : Nat) : Int), .int .i64 (((y51.row % 5) : Nat) : Int), .bool true]) (fun _ => by kernel_rfl) fun W hW => Find_any cs pc cc (by omega) ([] : List Cov) none 0 (Nat.zero_le _) tl0 (((y51.bay % 5) : Nat) : Int) (((y51.row % 5) : Nat) : Int) true W (RC _ (hW.sub (fun p hp => by simp only [List.mem_cons, List.mem_append, List.nil_append, List.not_mem_nil, or_assoc, or_false, false_or, hp, true_or, or_true]))) ((RL.nil (T := [])) _ (hW.sub (fun _ h => by cases h)))) ?_
        refine lm (v := .tuple #[.int .i64 (findN (fst (isAt (((y51.bay % 5) : Nat) : Int) (((y51.row % 5) : Nat) : Int) true) cs)), .bool ((fst (isAt (((y51.bay % 5) : Nat) : Int) (((y51.row % 5) : Nat) : Int) true) cs).isSome)]) rfl rfl ?_
        refine lm (v := .int .i64 (findN (fst (isAt (((y51.bay % 5) : Nat) : Int) (((y51.row % 5) : Nat) : Int) true) cs))) rfl rfl ?_
        refine lm (v := .bool ((fst (isAt (((y51.bay % 5) : Nat) : Int) (((y51.row % 5) : Nat) : Int) true) cs).isSome)) rfl rfl ?_
        refine lm (v := .int .i64 (findN (fst (isAt (((y51.bay % 5) : Nat) : Int) (((y51.row % 5) : Nat) : Int) true) cs))) rfl rfl ?_
        refine lm (v := .bool ((fst (isAt (((y51.bay % 5) : Nat) : Int) (((y51.row % 5) : Nat) : Int) true) cs).isSome)) rfl rfl ?_
        refine wpL_done (fun W46 hW46 => ?_)
        refine (show Code.wp _ _ _ _ _ from ?_)
        refine wp_seq ?_
        refine wp_region_L (W0 := W0) ((g54, .cells #[.int .i64 (((y51.bay % 5) : Nat) : Int), .int .i64 (((y51.row % 5) : Nat) : Int), .bool true, .int .i64 (((2 + (y51.tiers % 4)) : Nat) : Int), .int .i64 0, .int .i64 500000000, .int .i64 500000000, .int .i64 0, .slice none 0 0, .int .i64 ((((13000 * (y51.bay % 5)) : Nat) : Int) - 26000), .int .i64 ((((2500 * (y51.row % 5)) : Nat) : Int) - 5000), .int .i64 20000] 65 (0, 0)) :: (g52, .cells (plC y51).toArray 117 (0, 0)) :: (g2, .cells (shC (.slice pc cs.length cc) (.slice none 0 0) tl0).toArray 32 (0, 0)) :: (g1, .cells (shC (.slice none 0 0) (.slice none 0 0) tl0).toArray 32 (0, 0)) :: Kc) (hW46) ?_
        refine lm (v := .bool ((fst (isAt (((y51.bay % 5) : Nat) : Int) (((y51.row % 5) : Nat) : Int) true) cs).isSome)) rfl rfl ?_
        refine lp (v := .bool (!((fst (isAt (((y51.bay % 5) : Nat) : Int) (((y51.row % 5) : Nat) : Int) true) cs).isSome))) rfl rfl (run_un rfl (by kernel_rfl) fun w => un_not w) ?_
        refine wpL_done (fun W47 hW47 => ?_)
        refine (show Code.wp _ _ _ _ _ from ?_)
        cases h13 : ((fst (isAt (((y51.bay % 5) : Nat) : Int) (((y51.row % 5) : Nat) : Int) true) cs).isSome) with
        | false =>
          refine wp_cond_true rfl ?_
          refine wp_region_L (W0 := W0) ((g54, .cells #[.int .i64 (((y51.bay % 5) : Nat) : Int), .int .i64 (((y51.row % 5) : Nat) : Int), .bool true, .int .i64 (((2 + (y51.tiers % 4)) : Nat) : Int), .int .i64 0, .int .i64 500000000, .int .i64 500000000, .int .i64 0, .slice none 0 0, .int .i64 ((((13000 * (y51.bay % 5)) : Nat) : Int) - 26000), .int .i64 ((((2500 * (y51.row % 5)) : Nat) : Int) - 5000), .int .i64 20000] 65 (0, 0)) :: (g52, .cells (plC y51).toArray 117 (0, 0)) :: (g2, .cells (shC (.slice pc cs.length cc) (.slice none 0 0) tl0).toArray 32 (0, 0)) :: (g1, .cells (shC (.slice none 0 0) (.slice none 0 0) tl0).toArray 32 (0, 0)) :: Kc) (hW47) ?_
          refine lm (v := .pointer (some ⟨g2, 0, none⟩)) rfl rfl ?_
          refine lv (v := .slice pc cs.length cc) rfl rfl (yb_cell (off := 0) rfl (by kernel_rfl) (.tail _ (.tail _ (.head _))) Tryd.underlying22 rfl (by kernel_rfl)) ?_
          refine lv (v := .agg #[.int .i64 (((y51.bay % 5) : Nat) : Int), .int .i64 (((y51.row % 5) : Nat) : Int), .bool true, .int .i64 (((2 + (y51.tiers % 4)) : Nat) : Int), .int .i64 0, .int .i64 500000000, .int .i64 500000000, .int .i64 0, .slice none 0 0, .int .i64 ((((13000 * (y51.bay % 5)) : Nat) : Int) - 26000), .int .i64 ((((2500 * (y51.row % 5)) : Nat) : Int) - 5000), .int .i64 20000]) rfl rfl (yb_load (n := 12) (off := 0) rfl (by kernel_rfl) (.head _) Tryd.underlying65 rfl (by kernel_rfl) (by first | (simp [Value.cells]; done) | exact Nat.le_of_ble_eq_true rfl) (by kernel_rfl)) ?_
          refine wpL_new (fun g => .slice (some ⟨g, 0, none⟩) 1 1) (obi := .cells #[.int .i64 (((y51.bay % 5) : Nat) : Int), .int .i64 (((y51.row % 5) : Nat) : Int), .bool true, .int .i64 (((2 + (y51.tiers % 4)) : Nat) : Int), .int .i64 0, .int .i64 500000000, .int .i64 500000000, .int .i64 0, .slice none 0 0, .int .i64 ((((13000 * (y51.bay % 5)) : Nat) : Int) - 26000), .int .i64 ((((2500 * (y51.row % 5)) : Nat) : Int) - 5000), .int .i64 20000] 65 (0, 0)) rfl rfl (fun _ => by kernel_rfl) (fun _ => by simp only [List.setIfInBounds_toArray, List.set_cons_succ, List.set_cons_zero] <;> rfl) fun g61 Bg61 Fg61 => ?_
          obtain ⟨dj62_0, dj62_1, dj62_2, dj62_3, dj62_4⟩ : g54 ≠ g61 ∧ g52 ≠ g61 ∧ g2 ≠ g61 ∧ g1 ≠ g61 ∧ Dk g61 Kc := by simpa only [dj_app_l, dj_app_r, dj_cons_l, dj_cons_r, dj_nil_l, dj_nil_r, dk_app, dk_cons, dk_nil, and_true, true_and, and_assoc] using (show Dk g61 ((g54, .cells #[.int .i64 (((y51.bay % 5) : Nat) : Int), .int .i64 (((y51.row % 5) : Nat) : Int), .bool true, .int .i64 (((2 + (y51.tiers % 4)) : Nat) : Int), .int .i64 0, .int .i64 500000000, .int .i64 500000000, .int .i64 0, .slice none 0 0, .int .i64 ((((13000 * (y51.bay % 5)) : Nat) : Int) - 26000), .int .i64 ((((2500 * (y51.row % 5)) : Nat) : Int) - 5000), .int .i64 20000] 65 (0, 0)) :: (g52, .cells (plC y51).toArray 117 (0, 0)) :: (g2, .cells (shC (.slice pc cs.length cc) (.slice none 0 0) tl0).toArray 32 (0, 0)) :: (g1, .cells (shC (.slice none 0 0) (.slice none 0 0) tl0).toArray 32 (0, 0)) :: Kc) from Fg61)
          refine wpL_g (AppO W0 65 12 [(g54, .cells #[.int .i64 (((y51.bay % 5) : Nat) : Int), .int .i64 (((y51.row % 5) : Nat) : Int), .bool true, .int .i64 (((2 + (y51.tiers % 4)) : Nat) : Int), .int .i64 0, .int .i64 500000000, .int .i64 500000000, .int .i64 0, .slice none 0 0, .int .i64 ((((13000 * (y51.bay % 5)) : Nat) : Int) - 26000), .int .i64 ((((2500 * (y51.row % 5)) : Nat) : Int) - 5000), .int .i64 20000] 65 (0, 0)), (g52, .cells (plC y51).toArray 117 (0, 0)), (g2, .cells (shC (.slice pc cs.length cc) (.slice none 0 0) tl0).toArray 32 (0, 0)), (g1, .cells (shC (.slice none 0 0) (.slice none 0 0) tl0).toArray 32 (0, 0))] (cs.length + 1) ((cs.flatMap colC) ++ [.int .i64 (((y51.bay % 5) : Nat) : Int), .int .i64 (((y51.row % 5) : Nat) : Int), .bool true, .int .i64 (((2 + (y51.tiers % 4)) : Nat) : Int), .int .i64 0, .int .i64 500000000, .int .i64 500000000, .int .i64 0, .slice none 0 0, .int .i64 ((((13000 * (y51.bay % 5)) : Nat) : Int) - 26000), .int .i64 ((((2500 * (y51.row % 5)) : Nat) : Int) - 5000), .int .i64 20000])) rfl rfl (app_own el_col (m := 1) (c := 1) (news := [.int .i64 (((y51.bay % 5) : Nat) : Int), .int .i64 (((y51.row % 5) : Nat) : Int), .bool true, .int .i64 (((2 + (y51.tiers % 4)) : Nat) : Int), .int .i64 0, .int .i64 500000000, .int .i64 500000000, .int .i64 0, .slice none 0 0, .int .i64 ((((13000 * (y51.bay % 5)) : Nat) : Int) - 26000), .int .i64 ((((2500 * (y51.row % 5)) : Nat) : Int) - 5000), .int .i64 20000]) rfl (by kernel_rfl) (by kernel_rfl) (.head _) hOc (fun p hp => by simp only [List.mem_cons, List.mem_append, List.nil_append, List.not_mem_nil, or_assoc, or_false, false_or, hp, or_true, true_or]) (fun p hp => ⟨by simp only [List.mem_cons, List.mem_append, List.nil_append, List.not_mem_nil, or_assoc, or_false, false_or] at hp ⊢ <;> grind, (show Dj [(g54, .cells #[.int .i64 (((y51.bay % 5) : Nat) : Int), .int .i64 (((y51.row % 5) : Nat) : Int), .bool true, .int .i64 (((2 + (y51.tiers % 4)) : Nat) : Int), .int .i64 0, .int .i64 500000000, .int .i64 500000000, .int .i64 0, .slice none 0 0, .int .i64 ((((13000 * (y51.bay % 5)) : Nat) : Int) - 26000), .int .i64 ((((2500 * (y51.row % 5)) : Nat) : Int) - 5000), .int .i64 20000] 65 (0, 0)), (g52, .cells (plC y51).toArray 117 (0, 0)), (g2, .cells (shC (.slice pc cs.length cc) (.slice none 0 0) tl0).toArray 32 (0, 0)), (g1, .cells (shC (.slice none 0 0) (.slice none 0 0) tl0).toArray 32 (0, 0))] Kc from (by (try simp only [dj_app_l, dj_app_r, dj_cons_l, dj_cons_r, dj_nil_l, dj_nil_r, dk_app, dk_cons, dk_nil, and_true, true_and, and_assoc]); repeat' (first | trivial | assumption | exact Dj.symm (by assumption) | exact Ne.symm (by assumption) | apply And.intro))) p hp⟩) rfl (by simp [strV, Value.oneCell']) (by omega) (by omega) (by omega)) (fun _ => by simp only [List.setIfInBounds_toArray, List.set_cons_succ, List.set_cons_zero] <;> rfl) ?_
          rintro v63 K9 ⟨Kl63, O63, N63, rfl⟩
          obtain ⟨dj64_0, dj64_1, dj64_2, dj64_3⟩ : Dk g54 Kl63 ∧ Dk g52 Kl63 ∧ Dk g2 Kl63 ∧ Dk g1 Kl63 := by simpa only [dj_app_l, dj_app_r, dj_cons_l, dj_cons_r, dj_nil_l, dj_nil_r, dk_app, dk_cons, dk_nil, and_true, true_and, and_assoc] using (show Dj [(g54, .cells #[.int .i64 (((y51.bay % 5) : Nat) : Int), .int .i64 (((y51.row % 5) : Nat) : Int), .bool true, .int .i64 (((2 + (y51.tiers % 4)) : Nat) : Int), .int .i64 0, .int .i64 500000000, .int .i64 500000000, .int .i64 0, .slice none 0 0, .int .i64 ((((13000 * (y51.bay % 5)) : Nat) : Int) - 26000), .int .i64 ((((2500 * (y51.row % 5)) : Nat) : Int) - 5000), .int .i64 20000] 65 (0, 0)), (g52, .cells (plC y51).toArray 117 (0, 0)), (g2, .cells (shC (.slice pc cs.length cc) (.slice none 0 0) tl0).toArray 32 (0, 0)), (g1, .cells (shC (.slice none 0 0) (.slice none 0 0) tl0).toArray 32 (0, 0))] Kl63 from N63)
          refine lm (v := .pointer (some ⟨g2, 0, none⟩)) rfl rfl ?_
          obtain ⟨p65, c65, rfl⟩ := own_shape O63
          refine wpL_s ((g54, .cells #[.int .i64 (((y51.bay % 5) : Nat) : Int), .int .i64 (((y51.row % 5) : Nat) : Int), .bool true, .int .i64 (((2 + (y51.tiers % 4)) : Nat) : Int), .int .i64 0, .int .i64 500000000, .int .i64 500000000, .int .i64 0, .slice none 0 0, .int .i64 ((((13000 * (y51.bay % 5)) : Nat) : Int) - 26000), .int .i64 ((((2500 * (y51.row % 5)) : Nat) : Int) - 5000), .int .i64 20000] 65 (0, 0)) :: (g52, .cells (plC y51).toArray 117 (0, 0)) :: (g2, .cells (shC (.slice p65 (cs.length + 1) c65) (.slice none 0 0) tl0).toArray 32 (0, 0)) :: (g1, .cells (shC (.slice none 0 0) (.slice none 0 0) tl0).toArray 32 (0, 0)) :: Kl63) rfl rfl (st_row (off := 0) (v := .slice p65 (cs.length + 1) c65) rfl (by kernel_rfl) (by kernel_rfl) (.tail _ (.tail _ (.head _))) Bg2 (by kernel_rfl) (by first | (simp [Value.cells]; done) | exact Nat.le_of_ble_eq_true rfl) (by intro v hv; simp [Value.cells] at hv; first | (subst hv; rfl) | (rcases hv with rfl <;> rfl)) (by kernel_rfl) (List.forall_mem_cons.2 ⟨.inr ⟨(.head _), (by first | assumption | exact Ne.symm (by assumption))⟩, (List.forall_mem_cons.2 ⟨.inr ⟨(.tail _ (.head _)), (by first | assumption | exact Ne.symm (by assumption))⟩, (List.forall_mem_cons.2 ⟨.inl rfl, (List.forall_mem_cons.2 ⟨.inr ⟨(.tail _ (.tail _ (.tail _ (.head _)))), (by first | assumption | exact Ne.symm (by assumption))⟩, (fun p hp => .inr ⟨(.tail _ (.tail _ (.tail _ (.tail _ hp)))), ((show Dk g2 Kl63 from (by (try simp only [dj_app_l, dj_app_r, dj_cons_l, dj_cons_r, dj_nil_l, dj_nil_r, dk_app, dk_cons, dk_nil, and_true, true_and, and_assoc]); repeat' (first | trivial | assumption | exact Dj.symm (by assumption) | exact Ne.symm (by assumption) | apply And.intro))) _ hp)⟩)⟩)⟩)⟩)⟩)) ?_
          refine wpL_done (fun W48 hW48 => ?_)
          refine (show Code.wp _ _ _ _ _ from ?_)
          refine wp_region_L (W0 := W0) ((g54, .cells #[.int .i64 (((y51.bay % 5) : Nat) : Int), .int .i64 (((y51.row % 5) : Nat) : Int), .bool true, .int .i64 (((2 + (y51.tiers % 4)) : Nat) : Int), .int .i64 0, .int .i64 500000000, .int .i64 500000000, .int .i64 0, .slice none 0 0, .int .i64 ((((13000 * (y51.bay % 5)) : Nat) : Int) - 26000), .int .i64 ((((2500 * (y51.row % 5)) : Nat) : Int) - 5000), .int .i64 20000] 65 (0, 0)) :: (g52, .cells (plC y51).toArray 117 (0, 0)) :: (g2, .cells (shC (.slice p65 (cs.length + 1) c65) (.slice none 0 0) tl0).toArray 32 (0, 0)) :: (g1, .cells (shC (.slice none 0 0) (.slice none 0 0) tl0).toArray 32 (0, 0)) :: Kl63) (hW48) ?_
          refine lp (v := .int .i64 (((k + 1) : Nat) : Int)) rfl rfl (run_bin rfl (vx := (.int .i64 ((k : Nat) : Int))) (vy := (.int .i64 ((1 : Nat) : Int))) (by kernel_rfl) (by kernel_rfl) fun w => bn_add (z := (k + 1)) rfl (wr_i64 (by omega)) w) ?_
          refine lm (v := .int .i64 (((k + 1) : Nat) : Int)) rfl rfl ?_
          refine wpL_done (fun W49 hW49 => ?_)
          go_roundw
          case rel =>
            repeat apply Exists.intro
            exact ⟨⟨k + 1, (cs ++ [colD y51 true]), .slice p65 (cs.length + 1) c65, Kl63, (by omega), (by rw [bld_snoc hy51, ← hcs, add_no h11 h13]), (by rw [List.length_append, List.length_singleton]; omega), (own_app O63 (by rw [List.flatMap_append]; rfl) (by rw [List.length_append]; rfl)), (show Dk g2 Kl63 from (by (try simp only [dj_app_l, dj_app_r, dj_cons_l, dj_cons_r, dj_nil_l, dj_nil_r, dk_app, dk_cons, dk_nil, and_true, true_and, and_assoc]); repeat' (first | trivial | assumption | exact Dj.symm (by assumption) | exact Ne.symm (by assumption) | apply And.intro))), (show Dk g1 Kl63 from (by (try simp only [dj_app_l, dj_app_r, dj_cons_l, dj_cons_r, dj_nil_l, dj_nil_r, dk_app, dk_cons, dk_nil, and_true, true_and, and_assoc]); repeat' (first | trivial | assumption | exact Dj.symm (by assumption) | exact Ne.symm (by assumption) | apply And.intro))), rfl, (hW49.sub (fun p hp => by first | exact hp | (simp only [List.mem_cons, List.mem_append, List.nil_append, List.not_mem_nil, or_assoc, or_false, false_or] at hp ⊢ <;> grind)))⟩, rfl⟩
          case measure => (show m - (intOf (.int .i64 (((k + 1) : Nat) : Int))).toNat < m - (intOf (.int .i64 ((k : Nat) : Int))).toNat); simp only [intOf]; omega
        | true =>
          refine wp_cond_false rfl ?_
          refine wp_skip ?_
          refine (show Code.wp _ _ _ _ _ from ?_)
          refine wp_region_L (W0 := W0) ((g54, .cells #[.int .i64 (((y51.bay % 5) : Nat) : Int), .int .i64 (((y51.row % 5) : Nat) : Int), .bool true, .int .i64 (((2 + (y51.tiers % 4)) : Nat) : Int), .int .i64 0, .int .i64 500000000, .int .i64 500000000, .int .i64 0, .slice none 0 0, .int .i64 ((((13000 * (y51.bay % 5)) : Nat) : Int) - 26000), .int .i64 ((((2500 * (y51.row % 5)) : Nat) : Int) - 5000), .int .i64 20000] 65 (0, 0)) :: (g52, .cells (plC y51).toArray 117 (0, 0)) :: (g2, .cells (shC (.slice pc cs.length cc) (.slice none 0 0) tl0).toArray 32 (0, 0)) :: (g1, .cells (shC (.slice none 0 0) (.slice none 0 0) tl0).toArray 32 (0, 0)) :: Kc) (hW47) ?_
          refine lp (v := .int .i64 (((k + 1) : Nat) : Int)) rfl rfl (run_bin rfl (vx := (.int .i64 ((k : Nat) : Int))) (vy := (.int .i64 ((1 : Nat) : Int))) (by kernel_rfl) (by kernel_rfl) fun w => bn_add (z := (k + 1)) rfl (wr_i64 (by omega)) w) ?_
          refine lm (v := .int .i64 (((k + 1) : Nat) : Int)) rfl rfl ?_
          refine wpL_done (fun W50 hW50 => ?_)
          go_roundw
          case rel =>
            repeat apply Exists.intro
            exact ⟨⟨k + 1, cs, .slice pc cs.length cc, Kc, (by omega), (by rw [bld_snoc hy51, ← hcs, add_yes h11 h13]), (by omega), hOc, (show Dk g2 Kc from (by (try simp only [dj_app_l, dj_app_r, dj_cons_l, dj_cons_r, dj_nil_l, dj_nil_r, dk_app, dk_cons, dk_nil, and_true, true_and, and_assoc]); repeat' (first | trivial | assumption | exact Dj.symm (by assumption) | exact Ne.symm (by assumption) | apply And.intro))), (show Dk g1 Kc from (by (try simp only [dj_app_l, dj_app_r, dj_cons_l, dj_cons_r, dj_nil_l, dj_nil_r, dk_app, dk_cons, dk_nil, and_true, true_and, and_assoc]); repeat' (first | trivial | assumption | exact Dj.symm (by assumption) | exact Ne.symm (by assumption) | apply And.intro))), rfl, (hW50.sub (fun p hp => by first | exact hp | (simp only [List.mem_cons, List.mem_append, List.nil_append, List.not_mem_nil, or_assoc, or_false, false_or] at hp ⊢ <;> grind)))⟩, rfl⟩
          case measure => (show m - (intOf (.int .i64 (((k + 1) : Nat) : Int))).toNat < m - (intOf (.int .i64 ((k : Nat) : Int))).toNat); simp only [intOf]; omega
end Go.Proofs.YthpooalhibedpaaDoor
