import Derived.Test.YtkfcikijmkgahaaDoorG05
import Derived.Test.YtkfcikijmkgahaaDoorG11
import Derived.LoopN
import Derived.Outline
import Derived.Deep.Cut
/- Part of the proof: Wb, Lp, Lb, L0. -/
set_option linter.unusedVariables false
set_option linter.unusedSimpArgs false
set_option linter.unusedSectionVars false
/- Cells of known variables one by one; fractions that are wrong. -/
namespace Go.Proofs.YtkfcikijmkgahaaDoor
open Go.RowKit Tw
theorem yb_loadc {P : Program} {W0 : World} {o : Oper} {a : Act} {K : List (Nat × Obj)} {ty t : TypeId} {x : Operand} {g off : Nat} {cs : Array Value} {v : Value} {d : TypeDesc} (ho : o.op = .load ty x) (hx : a.eval x = .pointer (some ⟨g, off, none⟩))
    (hm : (g, .cells cs t (0, 0)) ∈ K) (hu : P.underlying ty = some d) (hd : aggD d = false) (hv : cs[off]? = some v) :
    ∀ w, KS W0 K w → ∀ K' : Act → World → Prop, (∀ w', Below w.heap.size w w' → K' (a.put o.dst v) w') → Oper.wp P o a w K' (fun _ _ _ => False) := by
  intro w hw K' hk
  have hc : w.cell? ⟨g, off, none⟩ = some v := by rw [cell_of_row w g off cs t (0, 0) (hw.2 _ hm)]; exact hv
  have hagg : (isAgg ty).run P w = .ok false w := by
    unfold isAgg
    rw [Sem.run_bind, run_underlying hu w]
    unfold aggD at hd
    cases d <;> simp_all
  have hr : (loadVar ty ⟨g, off, none⟩).run P w = .ok v w := by
    simp [loadVar, Sem.run_bind, hagg, hc]
  unfold Oper.wp execOp
  simp only [ho, hx, Instr.loadAt, Instr.sureAddr, Sem.run_bind, Sem.run_pure, Result.andThen_ok, hr]
  exact hk w (Below.refl _ _)
theorem inBlock_ret (id : Nat) (Q : Exit → Act → World → Prop) (a : Act) (w : World) : Exit.inBlock id Q .ret a w = Q .ret a w := rfl
theorem then_ret (f : Act → World → Prop) (Q : Exit → Act → World → Prop) (a : Act) (w : World) : Exit.then f Q .ret a w = Q .ret a w := rfl
/-- a fraction by its limbs -/
def frcW (s : Bool) (f g : Nat → Nat) : Array Value := #[.bool s] ++ fa 8 f ++ fa 8 g
def up (f : Nat → Nat) (i x : Nat) : Nat → Nat := fun j => if j = i then x else f j
theorem frcC_W (s : Bool) (n d : Nat) : frcC s n d = frcW s (dg n) (dg d) := rfl
theorem frcW_list (s : Bool) (f g : Nat → Nat) : frcW s f g = #[.bool s, .int .u32 (f 0), .int .u32 (f 1), .int .u32 (f 2), .int .u32 (f 3), .int .u32 (f 4), .int .u32 (f 5), .int .u32 (f 6), .int .u32 (f 7), .int .u32 (g 0), .int .u32 (g 1), .int .u32 (g 2), .int .u32 (g 3), .int .u32 (g 4), .int .u32 (g 5), .int .u32 (g 6), .int .u32 (g 7)] := by kernel_rfl
theorem over_num (s : Bool) (f g : Nat → Nat) (i x : Nat) (hi : i < 8) : frcW s (up f i x) g = ((frcW s f g).toList.take (1 + i) ++ (Value.int .u32 (x : Int)).cells.toList ++ (frcW s f g).toList.drop (1 + i + (Value.int .u32 (x : Int)).cells.toList.length)).toArray := by
  rcases (by omega : i = 0 ∨ i = 1 ∨ i = 2 ∨ i = 3 ∨ i = 4 ∨ i = 5 ∨ i = 6 ∨ i = 7) with rfl | rfl | rfl | rfl | rfl | rfl | rfl | rfl <;> kernel_rfl
theorem over_den (s : Bool) (f g : Nat → Nat) (i x : Nat) (hi : i < 8) : frcW s f (up g i x) = ((frcW s f g).toList.take (9 + i) ++ (Value.int .u32 (x : Int)).cells.toList ++ (frcW s f g).toList.drop (9 + i + (Value.int .u32 (x : Int)).cells.toList.length)).toArray := by
  rcases (by omega : i = 0 ∨ i = 1 ∨ i = 2 ∨ i = 3 ∨ i = 4 ∨ i = 5 ∨ i = 6 ∨ i = 7) with rfl | rfl | rfl | rfl | rfl | rfl | rfl | rfl <;> kernel_rfl
theorem over_all (s : Bool) (n d : Nat) : frcC s n 0 = ((frcC s n d).toList.take 9 ++ (Value.agg (fa 8 (dg 0))).cells.toList ++ (frcC s n d).toList.drop (9 + (Value.agg (fa 8 (dg 0))).cells.toList.length)).toArray := by kernel_rfl
theorem st_den0 {W0 : World} {o : Oper} {a : Act} {K K' : List (Nat × Obj)} {x y : Operand} {g : Nat} {s : Bool} {n d : Nat} (ho : o.op = .store 24 x y) (hx : a.eval x = .pointer (some ⟨g, 9, none⟩)) (hv : a.eval y = .agg (fa 8 (dg 0)))
    (hm : (g, .cells (frcC s n d) 26 (0, 0)) ∈ K) (hB : W0.heap.size ≤ g) (hK : ∀ p ∈ K', p = (g, .cells (frcC s n 0) 26 (0, 0)) ∨ (p ∈ K ∧ p.1 ≠ g)) : ∀ w, KS W0 K w → ∃ w', (execOp a.eval o).run Tryd.prog w = .ok .skip w' ∧ KS W0 K' w' :=
  st_row ho hx hv hm hB (by kernel_rfl) (by simp [Value.cells]) (by intro v hv; simp [Value.cells, fa] at hv; rcases hv with ⟨_, _, rfl⟩; rfl) (over_all s n d) hK
theorem st_limb {W0 : World} {o : Oper} {a : Act} {K K' : List (Nat × Obj)} {x y : Operand} {g : Nat} {s : Bool} {f h : Nat → Nat} (i v : Nat) (hi : i < 8) (ho : o.op = .store 22 x y) (hx : a.eval x = .pointer (some ⟨g, 1 + i, none⟩)) (hv : a.eval y = .int .u32 (v : Int))
    (hm : (g, .cells (frcW s f h) 26 (0, 0)) ∈ K) (hB : W0.heap.size ≤ g) (hK : ∀ p ∈ K', p = (g, .cells (frcW s (up f i v) h) 26 (0, 0)) ∨ (p ∈ K ∧ p.1 ≠ g)) : ∀ w, KS W0 K w → ∃ w', (execOp a.eval o).run Tryd.prog w = .ok .skip w' ∧ KS W0 K' w' :=
  st_row ho hx hv hm hB (by kernel_rfl) (by simp [Value.cells, frcW]; omega) (by intro v hv; simp [Value.cells] at hv; subst hv; rfl) (over_num s f h i v hi) hK
theorem st_limbd {W0 : World} {o : Oper} {a : Act} {K K' : List (Nat × Obj)} {x y : Operand} {g : Nat} {s : Bool} {f h : Nat → Nat} (i v : Nat) (hi : i < 8) (ho : o.op = .store 22 x y) (hx : a.eval x = .pointer (some ⟨g, 9 + i, none⟩)) (hv : a.eval y = .int .u32 (v : Int))
    (hm : (g, .cells (frcW s f h) 26 (0, 0)) ∈ K) (hB : W0.heap.size ≤ g) (hK : ∀ p ∈ K', p = (g, .cells (frcW s f (up h i v)) 26 (0, 0)) ∨ (p ∈ K ∧ p.1 ≠ g)) : ∀ w, KS W0 K w → ∃ w', (execOp a.eval o).run Tryd.prog w = .ok .skip w' ∧ KS W0 K' w' :=
  st_row ho hx hv hm hB (by kernel_rfl) (by simp [Value.cells, frcW]; omega) (by intro v hv; simp [Value.cells] at hv; subst hv; rfl) (over_den s f h i v hi) hK
/-- the lowest limb put in the place of the highest one -/
def topN (n : Nat) : Nat := setd (setd n 7 (dg n 0)) 0 0
theorem dg_topN (n : Nat) (i : Nat) : dg (topN n) i = up (up (dg n) 7 (dg n 0)) 0 0 i := by
  unfold topN up
  by_cases h0 : i = 0
  · subst h0; rw [dg_setd_same _ _ _ (by omega), if_pos rfl]
  · rw [dg_setd_other _ _ _ _ (by omega) h0, if_neg h0]
    by_cases h7 : i = 7
    · subst h7; rw [dg_setd_same _ _ _ (dg_lt _ _), if_pos rfl]
    · rw [dg_setd_other _ _ _ _ (dg_lt _ _) h7, if_neg h7]
theorem topN_lt {n : Nat} (h : n < R 8) : topN n < R 8 := setd_lt (setd_lt h (by omega) (dg_lt _ _)) (by omega) (by omega)
theorem topN_dvd (n : Nat) : 4294967296 ∣ topN n := by
  have h := dg_topN n 0
  rw [dg_zero] at h
  unfold up at h
  rw [if_pos rfl] at h
  exact Nat.dvd_of_mod_eq_zero h
theorem topN_ne {n : Nat} (h : n < R 7) (h0 : n ≠ 0) : topN n ≠ 0 := by
  intro hz
  refine h0 (eq_of_dg (n := 8) (Nat.lt_of_lt_of_le h (R_le (by omega))) (R_pos 8) fun i hi => ?_)
  have hd0 : dg 0 i = 0 := dg_of_lt' (k := 0) (R_pos 0) (by omega)
  rw [hd0]
  have ht : ∀ j, up (up (dg n) 7 (dg n 0)) 0 0 j = 0 := fun j => by
    rw [← dg_topN, hz]; exact dg_of_lt' (k := 0) (R_pos 0) (by omega)
  by_cases h7 : i = 7
  · subst h7; exact dg_of_lt h
  · by_cases hi0 : i = 0
    · subst hi0
      have := ht 7
      unfold up at this
      simpa using this
    · have := ht i
      unfold up at this
      rw [if_neg hi0, if_neg h7] at this
      exact this
theorem frc_top (s : Bool) (n d : Nat) : frcW s (up (up (dg n) 7 (dg n 0)) 0 0) (up (up (dg d) 7 (dg d 0)) 0 0) = frcC s (topN n) (topN d) := by
  rw [frcC_W]
  unfold frcW
  rw [fa_congr (fun i _ => dg_topN n i), fa_congr (fun i _ => dg_topN d i)]
theorem right_top (s : Bool) {n d : Nat} (h : n < R 7) (h0 : n ≠ 0) : rightB s (topN n) (topN d) = false := by
  unfold rightB
  rw [if_neg (topN_ne h h0)]
  refine decide_eq_false fun hh => ?_
  have := Nat.dvd_gcd (topN_dvd n) (topN_dvd d)
  rw [hh.2] at this
  have := Nat.le_of_dvd (by omega) this
  omega
theorem run_shr4u {o : Oper} {a : Act} {x : Nat} {xT : TypeId} {px py : Operand} {d : TypeId} (ho : o.op = .binOp .shr xT px py d) (hx : a.eval px = .int .u32 (x : Int)) (hy : a.eval py = .int .u64 4) (w : World) : (execOp a.eval o).run Tryd.prog w = .ok (.value (.int .u32 ((x / 16 : Nat) : Int))) w := by
  refine run_bin ho hx hy (fun w => ?_) w
  go_simp
theorem run_add2 {x : Nat} (h : x + 2 < 4294967296) {px py : Operand} (w : World) : (do eqGuard .add 22 px py (.int .u32 2) (.int .u32 (x : Int)); binOp .add 22 (.int .u32 2) (.int .u32 (x : Int)) : Sem Value).run Tryd.prog w = .ok (.int .u32 ((x + 2 : Nat) : Int)) w := by
  go_simp
  have : IntKind.u32.wrap (2 + (x : Int)) = (2 + (x : Int)) % 4294967296 := by kernel_rfl
  rw [this]
  omega
theorem run_rem4 {c k : Nat} (h : c % 4 = k) {px py : Operand} (w : World) : (do eqGuard .rem 5 px py (.int .u8 (c : Int)) (.int .u8 4); binOp .rem 5 (.int .u8 (c : Int)) (.int .u8 4) : Sem Value).run Tryd.prog w = .ok (.int .u8 (k : Int)) w := by
  go_simp
  subst h
  rw [Int.tmod_eq_emod_of_nonneg (by omega)]
  omega
theorem frc_small {m : Nat} (h : m < 4294967296) : frcC false 0 m = #[.bool false, .int .u32 0, .int .u32 0, .int .u32 0, .int .u32 0, .int .u32 0, .int .u32 0, .int .u32 0, .int .u32 0, .int .u32 (m : Int), .int .u32 0, .int .u32 0, .int .u32 0, .int .u32 0, .int .u32 0, .int .u32 0, .int .u32 0] := by
  have h0 : ∀ i, i < 8 → dg m i = if i = 0 then m else 0 := by
    intro i hi
    by_cases hz : i = 0
    · subst hz; rw [dg_zero, if_pos rfl, Nat.mod_eq_of_lt h]
    · rw [if_neg hz]; exact dg_of_lt' (k := 1) (by rw [R_succ, R_zero]; omega) (by omega)
  have hz : ∀ i, dg 0 i = 0 := fun i => dg_of_lt' (k := 0) (R_pos 0) (by omega)
  rw [frcC_W, frcW_list, hz, hz, hz, hz, hz, hz, hz, hz, h0 0 (by omega), h0 1 (by omega), h0 2 (by omega), h0 3 (by omega), h0 4 (by omega), h0 5 (by omega), h0 6 (by omega), h0 7 (by omega)]
  rfl
end Go.Proofs.YtkfcikijmkgahaaDoor
namespace Go.Proofs.YtkfcikijmkgahaaDoor
open Go.RowKit Tw
theorem run_gtr0y {k : Int} (h : 0 < k) {x y : Operand} (w : World) : (do eqGuard .gtr 3 x y (.int .i64 k) (.int .i64 0); binOp .gtr 3 (.int .i64 k) (.int .i64 0) : Sem Value).run Tryd.prog w = .ok (.bool true) w := by
  go_simp
theorem run_gtr0n {k : Int} (h : ¬ 0 < k) {x y : Operand} (w : World) : (do eqGuard .gtr 3 x y (.int .i64 k) (.int .i64 0); binOp .gtr 3 (.int .i64 k) (.int .i64 0) : Sem Value).run Tryd.prog w = .ok (.bool false) w := by
  go_simp
theorem run_sub60 {k : Int} (h : 0 < k) (h2 : k ≤ 224) {x y : Operand} (w : World) : (do eqGuard .sub 3 x y (.int .i64 k) (.int .i64 60); binOp .sub 3 (.int .i64 k) (.int .i64 60) : Sem Value).run Tryd.prog w = .ok (.int .i64 (k - 60)) w := by
  go_simp
  have hw : IntKind.i64.wrap (k - 60) = k - 60 := by
    simp only [IntKind.wrap_i64]
    try unfold wrap64
    omega
  rw [hw]
theorem run_shl1 {m : Nat} (h : m ≤ 60) {x y : Operand} (w : World) : (do eqGuard .shl 3 x y (.int .i64 1) (.int .i64 (m : Int)); binOp .shl 3 (.int .i64 1) (.int .i64 (m : Int)) : Sem Value).run Tryd.prog w = .ok (.int .i64 ((2 ^ m : Nat) : Int)) w := by
  go_simp
  have h2 : (2 : Nat) ^ m ≤ 2 ^ 60 := Nat.pow_le_pow_right (by omega) h
  have h3 : ((2 ^ m : Nat) : Int) = (2 : Int) ^ m := by simp
  rw [← h3]
  generalize 2 ^ m = q at *
  simp only [IntKind.wrap_i64]
  try unfold wrap64
  omega
theorem run_min60 {o : Oper} {a : Act} {k : Int} {m : Nat} {px py : Operand} {tx ty : TypeId} {w : World} (ho : o.op = .call { callee := .builtin .min, args := #[px, py], argTypes := #[tx, ty] }) (hp : #[px, py].map a.eval = #[.int .i64 k, .int .i64 60]) (hm : min k 60 = (m : Int)) : (execOp a.eval o).run Tryd.prog w = .ok (.value (.int .i64 ((m : Nat) : Int))) w := by
  go_simp
  split <;> omega
set_option maxRecDepth 100000 in
set_option maxHeartbeats 4000000 in
theorem power_walk (K : Int) (hK0 : 0 ≤ K) (hK1 : K ≤ 224) (HO1 : Hid (∀ W, Calls Tryd.prog 16 #[.int .i64 1] W fun e w' => e = .returned (.agg (frcC false 1 1)) ∧ Below W.heap.size W w'))
    (HO : Hid (∀ m : Nat, m ≤ 60 → ∀ W, Calls Tryd.prog 16 #[.int .i64 ((2 ^ m : Nat) : Int)] W fun e w' => e = .returned (.agg (frcC false (2 ^ m) 1)) ∧ Below W.heap.size W w'))
    (HM : Hid (∀ j m : Nat, j + m ≤ 224 → ∀ W, Calls Tryd.prog 15 #[.agg (frcC false (2 ^ j) 1), .agg (frcC false (2 ^ m) 1)] W fun e w' => e = .returned (.tuple #[.agg (frcC false (2 ^ (j + m)) 1), .int .i64 0]) ∧ Below W.heap.size W w')) (w : World) :
    Calls Tryd.prog 23 #[.int .i64 K] w fun e w' => e = .returned (.tuple #[.agg (frcC false (2 ^ K.toNat) 1), .int .i64 0]) ∧ Below w.heap.size w w' := by
  go_enter Tryd.func23, Tryd.ntmps23
  refine wp_seq ?_
  refine wp_region_L (W0 := w) [] (KS.start w) ?_
  refine wpL_new (fun g => .pointer (some ⟨g, 0, none⟩)) (obi := .cells (frcC false 0 0) 26 (0, 0)) rfl rfl (fun _ => by rw [frc_zero]; rfl) (fun _ => by simp only [List.setIfInBounds_toArray, List.set_cons_succ, List.set_cons_zero] <;> rfl) fun g1 Bg1 Fg1 => ?_
  try simp only [List.forall_mem_cons] at Fg1
  refine wpL_p (v := .int .i64 0) rfl (by kernel_rfl) rfl (fun _ => by kernel_rfl) (by simp only [List.setIfInBounds_toArray, List.set_cons_succ, List.set_cons_zero] <;> rfl) ?_
  refine wpL_done (fun W1 hW1 => ?_)
  refine (show Code.wp _ _ _ _ _ from ?_)
  refine wp_seq ?_
  refine wp_region_L (W0 := w) [(g1, .cells (frcC false 0 0) 26 (0, 0))] (hW1) ?_
  refine wpL_v (v := .agg (frcC false 1 1)) rfl (by kernel_rfl) rfl (yb_call (f := 16) (args := #[.int .i64 1]) (fun _ => by kernel_rfl) fun W hW => HO1.out W) (by simp only [List.setIfInBounds_toArray, List.set_cons_succ, List.set_cons_zero] <;> rfl) ?_
  refine wpL_new (fun g => .pointer (some ⟨g, 0, none⟩)) (obi := .cells (frcC false 0 0) 26 (0, 0)) rfl rfl (fun _ => by rw [frc_zero]; rfl) (fun _ => by simp only [List.setIfInBounds_toArray, List.set_cons_succ, List.set_cons_zero] <;> rfl) fun g2 Bg2 Fg2 => ?_
  try simp only [List.forall_mem_cons] at Fg2
  refine wpL_s [(g2, .cells (frcC false 1 1) 26 (0, 0)), (g1, .cells (frcC false 0 0) 26 (0, 0))] rfl rfl (st_f (neg := false) (n := 1) (d := 1) rfl (by kernel_rfl) (by kernel_rfl) (.head _) (by omega) size27 (List.forall_mem_cons.2 ⟨.inl rfl, (List.forall_mem_cons.2 ⟨.inr ⟨(.tail _ (.head _)), Fg2.1⟩, (List.forall_mem_nil _)⟩)⟩)) ?_
  refine wpL_done (fun W2 hW2 => ?_)
  clear hW1
  refine (show Code.wp _ _ _ _ _ from ?_)
  refine wp_seq ?_
  refine wp_block ?_
  go_loopw [0] (fun x wr => ∃ (j : Nat) (k : Int), (0 < k → j + k = K) ∧ (k ≤ 0 → j = K) ∧ j ≤ 224 ∧ k ≤ 224 ∧ -60 ≤ k ∧ x = .int .i64 k ∧ KS w [(g2, .cells (frcC false (2 ^ j) 1) 26 (0, 0)), (g1, .cells (frcC false 0 0) 26 (0, 0))] wr) (fun x _ => (intOf x + 60).toNat)
  case atStart => exact ⟨0, K, by omega, by omega, by omega, by omega, by omega, rfl, hW2⟩
  case round =>
    obtain ⟨j, k, h1, h2, h3, h4, h5, rfl, hKS⟩ := hrel
    by_cases hk : 0 < k
    · obtain ⟨m, hm, hm60, hjm, hm0, hmr⟩ : ∃ m : Nat, m ≤ 60 ∧ (min k 60 = (m : Int)) ∧ j + m ≤ 224 ∧ 0 < m ∧ (0 < k - 60 → (m : Int) = 60) := ⟨(min k 60).toNat, by omega, by omega, by omega, by omega, by omega⟩
      refine wp_seq ?_
      refine wp_seq ?_
      refine wp_region_L (W0 := w) [(g2, .cells (frcC false (2 ^ j) 1) 26 (0, 0)), (g1, .cells (frcC false 0 0) 26 (0, 0))] (hKS) ?_
      refine wpL_p (v := .int .i64 k) rfl (by kernel_rfl) rfl (fun _ => by kernel_rfl) (by simp only [List.setIfInBounds_toArray, List.set_cons_succ, List.set_cons_zero] <;> rfl) ?_
      refine wpL_p (v := .bool true) rfl (by kernel_rfl) rfl (run_bin rfl (vx := .int .i64 k) (vy := .int .i64 0) (by kernel_rfl) (by kernel_rfl) fun w => run_gtr0y hk w) (by simp only [List.setIfInBounds_toArray, List.set_cons_succ, List.set_cons_zero] <;> rfl) ?_
      refine wpL_done (fun W3 hW3 => ?_)
      refine (show Code.wp _ _ _ _ _ from ?_)
      refine wp_cond_true rfl ?_
      refine wp_skip ?_
      refine (show Code.wp _ _ _ _ _ from ?_)
      refine wp_seq ?_
      refine wp_block ?_
      refine wp_seq ?_
      refine wp_region_L (W0 := w) [(g2, .cells (frcC false (2 ^ j) 1) 26 (0, 0)), (g1, .cells (frcC false 0 0) 26 (0, 0))] (hW3) ?_
      refine wpL_p (v := .int .i64 0) rfl (by kernel_rfl) rfl (fun _ => by kernel_rfl) (by simp only [List.setIfInBounds_toArray, List.set_cons_succ, List.set_cons_zero] <;> rfl) ?_
      refine wpL_done (fun W4 hW4 => ?_)
      clear hW3
      refine (show Code.wp _ _ _ _ _ from ?_)
      refine wp_seq ?_
      refine wp_region_V (W0 := w) [(g2, .cells (frcC false (2 ^ j) 1) 26 (0, 0)), (g1, .cells (frcC false 0 0) 26 (0, 0))] (by kernel_rfl) (hW4) ?_
      refine wpV_v (i := 0) (v := .agg (frcC false (2 ^ j) 1)) rfl rfl (by kernel_rfl) (by kernel_rfl) rfl (yb_load rfl (by kernel_rfl) (.head _) Tryd.underlying26 rfl size27 (by simp) (frc_whole false (2 ^ j) 1)) (by simp only [List.setIfInBounds_toArray, List.set_cons_succ, List.set_cons_zero] <;> rfl) ?_
      refine wpV_p (i := 1) (v := .int .i64 k) rfl rfl (by kernel_rfl) (by kernel_rfl) rfl (fun _ => by kernel_rfl) (by simp only [List.setIfInBounds_toArray, List.set_cons_succ, List.set_cons_zero] <;> rfl) ?_
      refine wpV_p (i := 2) (v := .int .i64 ((m : Nat) : Int)) rfl rfl (by kernel_rfl) (by kernel_rfl) rfl (fun _ => run_min60 rfl (by kernel_rfl) hm60) (by simp only [List.setIfInBounds_toArray, List.set_cons_succ, List.set_cons_zero] <;> rfl) ?_
      refine wpV_p (i := 3) (v := .int .i64 ((2 ^ m : Nat) : Int)) rfl rfl (by kernel_rfl) (by kernel_rfl) rfl (run_bin rfl (vx := .int .i64 1) (vy := .int .i64 ((m : Nat) : Int)) (by kernel_rfl) (by kernel_rfl) fun w => run_shl1 hm w) (by simp only [List.setIfInBounds_toArray, List.set_cons_succ, List.set_cons_zero] <;> rfl) ?_
      refine wpV_v (i := 4) (v := .agg (frcC false (2 ^ m) 1)) rfl rfl (by kernel_rfl) (by kernel_rfl) rfl (yb_call (f := 16) (args := #[.int .i64 ((2 ^ m : Nat) : Int)]) (fun _ => by kernel_rfl) fun W hW => HO.out m hm W) (by simp only [List.setIfInBounds_toArray, List.set_cons_succ, List.set_cons_zero] <;> rfl) ?_
      refine wpV_v (i := 5) (v := .tuple #[.agg (frcC false (2 ^ (j + m)) 1), .int .i64 0]) rfl rfl (by kernel_rfl) (by kernel_rfl) rfl (yb_call (f := 15) (args := #[.agg (frcC false (2 ^ j) 1), .agg (frcC false (2 ^ m) 1)]) (fun _ => by kernel_rfl) fun W hW => HM.out j m hjm W) (by simp only [List.setIfInBounds_toArray, List.set_cons_succ, List.set_cons_zero] <;> rfl) ?_
      refine wpV_p (i := 6) (v := .tuple #[.agg (frcC false (2 ^ (j + m)) 1), .int .i64 0]) rfl rfl (by kernel_rfl) (by kernel_rfl) rfl (fun _ => by kernel_rfl) (by simp only [List.setIfInBounds_toArray, List.set_cons_succ, List.set_cons_zero] <;> rfl) ?_
      refine wpV_p (i := 7) (v := .agg (frcC false (2 ^ (j + m)) 1)) rfl rfl (by kernel_rfl) (by kernel_rfl) rfl (fun _ => by kernel_rfl) (by simp only [List.setIfInBounds_toArray, List.set_cons_succ, List.set_cons_zero] <;> rfl) ?_
      refine wpV_p (i := 8) (v := .int .i64 0) rfl rfl (by kernel_rfl) (by kernel_rfl) rfl (fun _ => by kernel_rfl) (by simp only [List.setIfInBounds_toArray, List.set_cons_succ, List.set_cons_zero] <;> rfl) ?_
      refine wpV_s [(g2, .cells (frcC false (2 ^ (j + m)) 1) 26 (0, 0)), (g1, .cells (frcC false 0 0) 26 (0, 0))] (i := 9) rfl (by kernel_rfl) rfl rfl rfl (st_f (neg := false) (n := (2 ^ (j + m))) (d := 1) rfl (by kernel_rfl) (by kernel_rfl) (.head _) (by omega) size27 (List.forall_mem_cons.2 ⟨.inl rfl, (List.forall_mem_cons.2 ⟨.inr ⟨(.tail _ (.head _)), Fg2.1⟩, (List.forall_mem_nil _)⟩)⟩)) ?_
      refine wpV_p (i := 10) (v := .int .i64 0) rfl rfl (by kernel_rfl) (by kernel_rfl) rfl (fun _ => by kernel_rfl) (by simp only [List.setIfInBounds_toArray, List.set_cons_succ, List.set_cons_zero] <;> rfl) ?_
      refine wpV_done (by kernel_rfl) (fun W5 hW5 => ?_) _
      clear hW4
      refine (show Code.wp _ _ _ _ _ from ?_)
      refine wp_seq ?_
      refine wp_region_L (W0 := w) [(g2, .cells (frcC false (2 ^ (j + m)) 1) 26 (0, 0)), (g1, .cells (frcC false 0 0) 26 (0, 0))] (hW5) ?_
      refine wpL_p (v := .int .i64 0) rfl (by kernel_rfl) rfl (fun _ => by kernel_rfl) (by simp only [List.setIfInBounds_toArray, List.set_cons_succ, List.set_cons_zero] <;> rfl) ?_
      refine wpL_p (v := .bool false) rfl (by kernel_rfl) rfl (fun _ => by kernel_rfl) (by simp only [List.setIfInBounds_toArray, List.set_cons_succ, List.set_cons_zero] <;> rfl) ?_
      refine wpL_done (fun W6 hW6 => ?_)
      clear hW5
      refine (show Code.wp _ _ _ _ _ from ?_)
      refine wp_cond_false rfl ?_
      refine wp_skip ?_
      refine (show Code.wp _ _ _ _ _ from ?_)
      refine wp_region_L (W0 := w) [(g2, .cells (frcC false (2 ^ (j + m)) 1) 26 (0, 0)), (g1, .cells (frcC false 0 0) 26 (0, 0))] (hW6) ?_
      refine wpL_p (v := .int .i64 k) rfl (by kernel_rfl) rfl (fun _ => by kernel_rfl) (by simp only [List.setIfInBounds_toArray, List.set_cons_succ, List.set_cons_zero] <;> rfl) ?_
      refine wpL_p (v := .int .i64 (k - 60)) rfl (by kernel_rfl) rfl (run_bin rfl (vx := .int .i64 k) (vy := .int .i64 60) (by kernel_rfl) (by kernel_rfl) fun w => run_sub60 hk h4 w) (by simp only [List.setIfInBounds_toArray, List.set_cons_succ, List.set_cons_zero] <;> rfl) ?_
      refine wpL_p (v := .int .i64 (k - 60)) rfl (by kernel_rfl) rfl (fun _ => by kernel_rfl) (by simp only [List.setIfInBounds_toArray, List.set_cons_succ, List.set_cons_zero] <;> rfl) ?_
      refine wpL_done (fun W7 hW7 => ?_)
      clear hW6
      go_roundw
      case rel =>
        repeat apply Exists.intro
        exact ⟨⟨j + m, k - 60, by omega, by omega, by omega, by omega, by omega, rfl, hW7⟩, rfl⟩
      case measure => (show (intOf (.int .i64 (k - 60)) + 60).toNat < (intOf (.int .i64 k) + 60).toNat); simp only [intOf]; omega
    · have hj := h2 (by omega)
      refine wp_seq ?_
      refine wp_seq ?_
      refine wp_region_L (W0 := w) [(g2, .cells (frcC false (2 ^ j) 1) 26 (0, 0)), (g1, .cells (frcC false 0 0) 26 (0, 0))] (hKS) ?_
      refine wpL_p (v := .int .i64 k) rfl (by kernel_rfl) rfl (fun _ => by kernel_rfl) (by simp only [List.setIfInBounds_toArray, List.set_cons_succ, List.set_cons_zero] <;> rfl) ?_
      refine wpL_p (v := .bool false) rfl (by kernel_rfl) rfl (run_bin rfl (vx := .int .i64 k) (vy := .int .i64 0) (by kernel_rfl) (by kernel_rfl) fun w => run_gtr0n hk w) (by simp only [List.setIfInBounds_toArray, List.set_cons_succ, List.set_cons_zero] <;> rfl) ?_
      refine wpL_done (fun W3 hW3 => ?_)
      refine (show Code.wp _ _ _ _ _ from ?_)
      refine wp_cond_false rfl ?_
      refine wp_exit ?_
      refine (show Code.wp _ _ _ _ _ from ?_)
      refine wp_seq ?_
      refine wp_region_L (W0 := w) [(g2, .cells (frcC false (2 ^ j) 1) 26 (0, 0)), (g1, .cells (frcC false 0 0) 26 (0, 0))] (hW3) ?_
      refine wpL_v (v := .agg (frcC false (2 ^ j) 1)) rfl (by kernel_rfl) rfl (yb_load rfl (by kernel_rfl) (.head _) Tryd.underlying26 rfl size27 (by simp) (frc_whole false (2 ^ j) 1)) (by simp only [List.setIfInBounds_toArray, List.set_cons_succ, List.set_cons_zero] <;> rfl) ?_
      refine wpL_s [(g2, .cells (frcC false (2 ^ j) 1) 26 (0, 0)), (g1, .cells (frcC false (2 ^ j) 1) 26 (0, 0))] rfl rfl (st_f (neg := false) (n := (2 ^ j)) (d := 1) rfl (by kernel_rfl) (by kernel_rfl) (.tail _ (.head _)) (by omega) size27 (List.forall_mem_cons.2 ⟨.inr ⟨(.head _), (Ne.symm Fg2.1)⟩, (List.forall_mem_cons.2 ⟨.inl rfl, (List.forall_mem_nil _)⟩)⟩)) ?_
      refine wpL_p (v := .int .i64 0) rfl (by kernel_rfl) rfl (fun _ => by kernel_rfl) (by simp only [List.setIfInBounds_toArray, List.set_cons_succ, List.set_cons_zero] <;> rfl) ?_
      refine wpL_done (fun W4 hW4 => ?_)
      clear hW3
      refine (show Code.wp _ _ _ _ _ from ?_)
      refine wp_ret ?_
      try simp only [inBlock_ret, then_ret]
      exact bodyPost_ret (res_cell_tmp rfl rfl (hW4.2 _ (.tail _ (.head _))) Tryd.underlying26 rfl (by rw [size27, frcC_size])) rfl ⟨by rw [show K.toNat = j from by omega]; rfl, hW4.1⟩
end Go.Proofs.YtkfcikijmkgahaaDoor
namespace Go.Proofs.YtkfcikijmkgahaaDoor
open Go.RowKit Tw
theorem wpL_newg {P : Program} {ops : Array Oper} {Q : Exit → Act → World → Prop} {W0 : World} {rest : List Oper} {oi : Oper} {d : Nat} {obi : Obj} {tm : Array Value} {df : List Deferred} {K : List (Nat × Obj)} {T : Nat → Array Value} (mk : Nat → Value)
    (hdi : oi.dst = some d) (hw : Region.wanted oi (yielded ops tm) = true)
    (hai : ∀ w, (execOp (Act.eval ⟨tm, df⟩) oi).run P w = .ok (.value (mk w.heap.size)) (w.alloc obi))
    (hT : ∀ g, (tm.setIfInBounds d (mk g)) = T g)
    (h : ∀ g, W0.heap.size ≤ g → (∀ p ∈ K, p.1 ≠ g) → wpL P ops Q W0 rest ⟨T g, df⟩ ((g, obi) :: K)) : wpL P ops Q W0 (oi :: rest) ⟨tm, df⟩ K := by
  intro w hK
  refine wpList_step fun K' hK' => ?_
  rw [if_pos hw]
  unfold Oper.wp
  rw [hai w]
  refine hK' _ _ ?_
  rw [hdi]
  simp only [Act.put]
  rw [hT w.heap.size]
  exact h w.heap.size hK.1.size (fun p hp => by have := lt_of_block (hK.2 p hp); omega) _ (hK.alloc obi)
theorem run_conv32 {o : Oper} {a : Act} {x : Nat} {px : Operand} (ho : o.op = .convert 22 3 px) (hp : a.eval px = .int .u32 (x : Int)) (h : x < 4294967296) (w : World) : (execOp a.eval o).run Tryd.prog w = .ok (.value (.int .i64 (x : Int))) w := by
  unfold execOp
  rw [ho]
  simp only [hp]
  go_simp
  first | done | omega | (simp only [IntKind.wrap_i64]; (try unfold wrap64); omega)
theorem run_conv8 {o : Oper} {a : Act} {x : Nat} {px : Operand} (ho : o.op = .convert 5 3 px) (hp : a.eval px = .int .u8 (x : Int)) (h : x < 256) (w : World) : (execOp a.eval o).run Tryd.prog w = .ok (.value (.int .i64 (x : Int))) w := by
  unfold execOp
  rw [ho]
  simp only [hp]
  go_simp
  first | done | omega | (simp only [IntKind.wrap_i64]; (try unfold wrap64); omega)
theorem run_rem225 {c k : Nat} (h : c % 225 = k) {px py : Operand} (w : World) : (do eqGuard .rem 3 px py (.int .i64 (c : Int)) (.int .i64 225); binOp .rem 3 (.int .i64 (c : Int)) (.int .i64 225) : Sem Value).run Tryd.prog w = .ok (.int .i64 (k : Int)) w := by
  go_simp
  subst h
  rw [Int.tmod_eq_emod_of_nonneg (by omega)]
  omega
theorem run_gtrmy {m : Nat} (h : 0 < m) {x y : Operand} (w : World) : (do eqGuard .gtr 22 x y (.int .u32 (m : Int)) (.int .u32 0); binOp .gtr 22 (.int .u32 (m : Int)) (.int .u32 0) : Sem Value).run Tryd.prog w = .ok (.bool true) w := by
  go_simp
theorem run_gtrmn {m : Nat} (h : ¬ 0 < m) {x y : Operand} (w : World) : (do eqGuard .gtr 22 x y (.int .u32 (m : Int)) (.int .u32 0); binOp .gtr 22 (.int .u32 (m : Int)) (.int .u32 0) : Sem Value).run Tryd.prog w = .ok (.bool false) w := by
  go_simp
theorem run_shr1 {m : Nat} {x y : Operand} (w : World) : (do eqGuard .shr 22 x y (.int .u32 (m : Int)) (.int .u64 1); binOp .shr 22 (.int .u32 (m : Int)) (.int .u64 1) : Sem Value).run Tryd.prog w = .ok (.int .u32 ((m / 2 : Nat) : Int)) w := by
  go_simp
theorem run_addn {x y : Nat} (h : x + y < 4294967296) {px py : Operand} (w : World) : (do eqGuard .add 3 px py (.int .i64 (x : Int)) (.int .i64 (y : Int)); binOp .add 3 (.int .i64 (x : Int)) (.int .i64 (y : Int)) : Sem Value).run Tryd.prog w = .ok (.int .i64 ((x + y : Nat) : Int)) w := by
  go_simp
  simp only [IntKind.wrap_i64]
  try unfold wrap64
  omega
theorem run_gtr256y {m : Nat} (h : m > 256) {x y : Operand} (w : World) : (do eqGuard .gtr 3 x y (.int .i64 (m : Int)) (.int .i64 256); binOp .gtr 3 (.int .i64 (m : Int)) (.int .i64 256) : Sem Value).run Tryd.prog w = .ok (.bool true) w := by
  go_simp
  omega
theorem run_gtr256n {m : Nat} (h : ¬ m > 256) {x y : Operand} (w : World) : (do eqGuard .gtr 3 x y (.int .i64 (m : Int)) (.int .i64 256); binOp .gtr 3 (.int .i64 (m : Int)) (.int .i64 256) : Sem Value).run Tryd.prog w = .ok (.bool false) w := by
  go_simp
  omega
/-- how many bits a number has -/
def bl (m : Nat) : Nat := if m = 0 then 0 else Nat.log2 m + 1
theorem bl_zero : bl 0 = 0 := rfl
theorem bl_half {m : Nat} (h : 0 < m) : bl m = bl (m / 2) + 1 := by
  unfold bl
  rw [if_neg (by omega)]
  by_cases h1 : m / 2 = 0
  · rw [if_pos h1, Nat.log2_def, if_neg (by omega)]
  · rw [if_neg h1, Nat.log2_def, if_pos (by omega)]
end Go.Proofs.YtkfcikijmkgahaaDoor
namespace Go.Proofs.YtkfcikijmkgahaaDoor
open Go.RowKit Tw
set_option maxRecDepth 100000 in
set_option maxHeartbeats 4000000 in
theorem FracLong_w0 (w : World) (n a b : Nat)  (o A B C : Nat) (Hor : bits .or .u32 (n : Int) 1 = (o : Int)) (Ho : o < 4294967296) (HA : a % 225 = A) (HB : b % 225 = B) (HC : bl o = C) (HC32 : C ≤ 32) (ha : a < 256) (hb : b < 256) (Hlong : A + C > 256)
    (HAw : Hid (∀ W, Below w.heap.size w W → Calls Tryd.prog 10 #[] W fun e w' => e = .returned (.bool true) ∧ Below W.heap.size W w'))
    (HOo : Hid (∀ W, Calls Tryd.prog 16 #[.int .i64 (o : Int)] W fun e w' => e = .returned (.agg (frcC false o 1)) ∧ Below W.heap.size W w'))
    (HPa : Hid (∀ W, Calls Tryd.prog 23 #[.int .i64 (A : Int)] W fun e w' => e = .returned (.tuple #[.agg (frcC false (2 ^ A) 1), .int .i64 0]) ∧ Below W.heap.size W w'))
    (HPb : Hid (∀ W, Calls Tryd.prog 23 #[.int .i64 (B : Int)] W fun e w' => e = .returned (.tuple #[.agg (frcC false (2 ^ B) 1), .int .i64 0]) ∧ Below W.heap.size W w'))
    (HM1 : Hid (∀ W, Calls Tryd.prog 15 #[.agg (frcC false (2 ^ A) 1), .agg (frcC false o 1)] W fun e w' => e = .returned (.tuple #[.agg (frcC false 0 0), .int .i64 3]) ∧ Below W.heap.size W w')) :
    Calls Tryd.prog 8 #[.int .u32 (n : Int), .int .u8 (a : Int), .int .u8 (b : Int)] w fun e w' => e = .returned (.bool true) ∧ Below w.heap.size w w' := by
  go_enter Tryd.func8, Tryd.ntmps8
  refine wp_seq ?_
  refine wp_region_L (W0 := w) [] (KS.start w) ?_
  refine wpL_p (v := .bool false) rfl (by kernel_rfl) rfl (fun _ => by kernel_rfl) (by simp only [List.setIfInBounds_toArray, List.set_cons_succ, List.set_cons_zero] <;> rfl) ?_
  refine wpL_done (fun W1 hW1 => ?_)
  refine (show Code.wp _ _ _ _ _ from ?_)
  refine wp_seq ?_
  refine wp_seq ?_
  refine wp_region_L (W0 := w) [] (hW1) ?_
  refine wpL_v (v := .bool true) rfl (by kernel_rfl) rfl (yb_call (f := 10) (args := #[]) (fun _ => by kernel_rfl) fun W hW => HAw.out W hW.1) (by simp only [List.setIfInBounds_toArray, List.set_cons_succ, List.set_cons_zero] <;> rfl) ?_
  refine wpL_p (v := .bool false) rfl (by kernel_rfl) rfl (fun _ => by kernel_rfl) (by simp only [List.setIfInBounds_toArray, List.set_cons_succ, List.set_cons_zero] <;> rfl) ?_
  refine wpL_done (fun W2 hW2 => ?_)
  clear hW1
  refine (show Code.wp _ _ _ _ _ from ?_)
  refine wp_cond_false rfl ?_
  refine wp_skip ?_
  refine (show Code.wp _ _ _ _ _ from ?_)
  refine wp_seq ?_
  refine wp_region_L (W0 := w) [] (hW2) ?_
  refine wpL_p (v := .int .u32 (n : Int)) rfl (by kernel_rfl) rfl (fun _ => by kernel_rfl) (by simp only [List.setIfInBounds_toArray, List.set_cons_succ, List.set_cons_zero] <;> rfl) ?_
  refine wpL_p (v := .int .u32 (o : Int)) rfl (by kernel_rfl) rfl (fun _ => by rw [← Hor]; kernel_rfl) (by simp only [List.setIfInBounds_toArray, List.set_cons_succ, List.set_cons_zero] <;> rfl) ?_
  refine wpL_p (v := .int .i64 (o : Int)) rfl (by kernel_rfl) rfl (run_conv32 rfl (by kernel_rfl) Ho) (by simp only [List.setIfInBounds_toArray, List.set_cons_succ, List.set_cons_zero] <;> rfl) ?_
  refine wpL_v (v := .agg (frcC false o 1)) rfl (by kernel_rfl) rfl (yb_call (f := 16) (args := #[.int .i64 (o : Int)]) (fun _ => by kernel_rfl) fun W hW => HOo.out W) (by simp only [List.setIfInBounds_toArray, List.set_cons_succ, List.set_cons_zero] <;> rfl) ?_
  refine wpL_new (fun g => .pointer (some ⟨g, 0, none⟩)) (obi := .cells (frcC false 0 0) 26 (0, 0)) rfl rfl (fun _ => by rw [frc_zero]; rfl) (fun _ => by simp only [List.setIfInBounds_toArray, List.set_cons_succ, List.set_cons_zero] <;> rfl) fun g1 Bg1 Fg1 => ?_
  try simp only [List.forall_mem_cons] at Fg1
  refine wpL_s [(g1, .cells (frcC false o 1) 26 (0, 0))] rfl rfl (st_f (neg := false) (n := o) (d := 1) rfl (by kernel_rfl) (by kernel_rfl) (.head _) (by omega) size27 (List.forall_mem_cons.2 ⟨.inl rfl, (List.forall_mem_nil _)⟩)) ?_
  refine wpL_done (fun W3 hW3 => ?_)
  clear hW2
  refine (show Code.wp _ _ _ _ _ from ?_)
  refine wp_seq ?_
  refine wp_region_L (W0 := w) [(g1, .cells (frcC false o 1) 26 (0, 0))] (hW3) ?_
  refine wpL_p (v := .int .i64 0) rfl (by kernel_rfl) rfl (fun _ => by kernel_rfl) (by simp only [List.setIfInBounds_toArray, List.set_cons_succ, List.set_cons_zero] <;> rfl) ?_
  refine wpL_done (fun W4 hW4 => ?_)
  clear hW3
  refine (show Code.wp _ _ _ _ _ from ?_)
  refine wp_seq ?_
  refine wp_seq ?_
  refine wp_region_L (W0 := w) [(g1, .cells (frcC false o 1) 26 (0, 0))] (hW4) ?_
  refine wpL_p (v := .int .u32 (n : Int)) rfl (by kernel_rfl) rfl (fun _ => by kernel_rfl) (by simp only [List.setIfInBounds_toArray, List.set_cons_succ, List.set_cons_zero] <;> rfl) ?_
  refine wpL_p (v := .int .u32 (o : Int)) rfl (by kernel_rfl) rfl (fun _ => by rw [← Hor]; kernel_rfl) (by simp only [List.setIfInBounds_toArray, List.set_cons_succ, List.set_cons_zero] <;> rfl) ?_
  refine wpL_p (v := .int .u32 (o : Int)) rfl (by kernel_rfl) rfl (fun _ => by kernel_rfl) (by simp only [List.setIfInBounds_toArray, List.set_cons_succ, List.set_cons_zero] <;> rfl) ?_
  refine wpL_done (fun W5 hW5 => ?_)
  clear hW4
  refine (show Code.wp _ _ _ _ _ from ?_)
  refine wp_block ?_
  go_loopw [8, 9] (fun x y wr => ∃ i m : Nat, i + bl m = C ∧ m < 4294967296 ∧ x = .int .i64 (i : Int) ∧ y = .int .u32 (m : Int) ∧ KS w [(g1, .cells (frcC false o 1) 26 (0, 0))] wr) (fun _ y _ => (intOf y).toNat)
  case atStart => exact ⟨0, o, by omega, Ho, rfl, rfl, hW5⟩
  case round =>
    obtain ⟨i, m, hi, hm32, rfl, rfl, hKS⟩ := hrel
    by_cases hm : 0 < m
    · have hbl := bl_half hm
      refine wp_seq ?_
      refine wp_seq ?_
      refine wp_region_L (W0 := w) [(g1, .cells (frcC false o 1) 26 (0, 0))] (hKS) ?_
      refine wpL_p (v := .int .u32 (m : Int)) rfl (by kernel_rfl) rfl (fun _ => by kernel_rfl) (by simp only [List.setIfInBounds_toArray, List.set_cons_succ, List.set_cons_zero] <;> rfl) ?_
      refine wpL_p (v := .bool true) rfl (by kernel_rfl) rfl (run_bin rfl (vx := .int .u32 (m : Int)) (vy := .int .u32 0) (by kernel_rfl) (by kernel_rfl) fun w => run_gtrmy hm w) (by simp only [List.setIfInBounds_toArray, List.set_cons_succ, List.set_cons_zero] <;> rfl) ?_
      refine wpL_done (fun W6 hW6 => ?_)
      refine (show Code.wp _ _ _ _ _ from ?_)
      refine wp_cond_true rfl ?_
      refine wp_skip ?_
      refine (show Code.wp _ _ _ _ _ from ?_)
      refine wp_seq ?_
      refine wp_block ?_
      refine wp_region_L (W0 := w) [(g1, .cells (frcC false o 1) 26 (0, 0))] (hW6) ?_
      refine wpL_p (v := .int .i64 (i : Int)) rfl (by kernel_rfl) rfl (fun _ => by kernel_rfl) (by simp only [List.setIfInBounds_toArray, List.set_cons_succ, List.set_cons_zero] <;> rfl) ?_
      refine wpL_p (v := .int .i64 ((i + 1 : Nat) : Int)) rfl (by kernel_rfl) rfl (run_bin rfl (vx := .int .i64 (i : Int)) (vy := .int .i64 1) (by kernel_rfl) (by kernel_rfl) fun w => run_addn (x := i) (y := 1) (by omega) w) (by simp only [List.setIfInBounds_toArray, List.set_cons_succ, List.set_cons_zero] <;> rfl) ?_
      refine wpL_p (v := .int .i64 ((i + 1 : Nat) : Int)) rfl (by kernel_rfl) rfl (fun _ => by kernel_rfl) (by simp only [List.setIfInBounds_toArray, List.set_cons_succ, List.set_cons_zero] <;> rfl) ?_
      refine wpL_done (fun W7 hW7 => ?_)
      clear hW6
      refine (show Code.wp _ _ _ _ _ from ?_)
      refine wp_region_L (W0 := w) [(g1, .cells (frcC false o 1) 26 (0, 0))] (hW7) ?_
      refine wpL_p (v := .int .u32 (m : Int)) rfl (by kernel_rfl) rfl (fun _ => by kernel_rfl) (by simp only [List.setIfInBounds_toArray, List.set_cons_succ, List.set_cons_zero] <;> rfl) ?_
      refine wpL_p (v := .int .u32 ((m / 2 : Nat) : Int)) rfl (by kernel_rfl) rfl (run_bin rfl (vx := .int .u32 (m : Int)) (vy := .int .u64 1) (by kernel_rfl) (by kernel_rfl) fun w => run_shr1 w) (by simp only [List.setIfInBounds_toArray, List.set_cons_succ, List.set_cons_zero] <;> rfl) ?_
      refine wpL_p (v := .int .u32 ((m / 2 : Nat) : Int)) rfl (by kernel_rfl) rfl (fun _ => by kernel_rfl) (by simp only [List.setIfInBounds_toArray, List.set_cons_succ, List.set_cons_zero] <;> rfl) ?_
      refine wpL_done (fun W8 hW8 => ?_)
      clear hW7
      go_roundw
      case rel =>
        repeat apply Exists.intro
        exact ⟨⟨i + 1, m / 2, by omega, by omega, rfl, rfl, hW8⟩, rfl⟩
      case measure => (show (intOf (.int .u32 ((m / 2 : Nat) : Int))).toNat < (intOf (.int .u32 (m : Int))).toNat); simp only [intOf]; omega
    · obtain rfl : m = 0 := by omega
      rw [bl_zero, Nat.add_zero] at hi
      have hi2 := hi.symm
      subst hi2
      refine wp_seq ?_
      refine wp_seq ?_
      refine wp_region_L (W0 := w) [(g1, .cells (frcC false o 1) 26 (0, 0))] (hKS) ?_
      refine wpL_p (v := .int .u32 ((0 : Nat) : Int)) rfl (by kernel_rfl) rfl (fun _ => by kernel_rfl) (by simp only [List.setIfInBounds_toArray, List.set_cons_succ, List.set_cons_zero] <;> rfl) ?_
      refine wpL_p (v := .bool false) rfl (by kernel_rfl) rfl (run_bin rfl (vx := .int .u32 ((0 : Nat) : Int)) (vy := .int .u32 0) (by kernel_rfl) (by kernel_rfl) fun w => run_gtrmn hm w) (by simp only [List.setIfInBounds_toArray, List.set_cons_succ, List.set_cons_zero] <;> rfl) ?_
      refine wpL_done (fun W6 hW6 => ?_)
      refine (show Code.wp _ _ _ _ _ from ?_)
      refine wp_cond_false rfl ?_
      refine wp_exit ?_
      refine (show Code.wp _ _ _ _ _ from ?_)
      refine wp_seq ?_
      refine wp_region_L (W0 := w) [(g1, .cells (frcC false o 1) 26 (0, 0))] (hW6) ?_
      refine wpL_p (v := .func (.func 23) #[] #[]) rfl (by kernel_rfl) rfl (fun _ => by kernel_rfl) (by simp only [List.setIfInBounds_toArray, List.set_cons_succ, List.set_cons_zero] <;> rfl) ?_
      refine wpL_done (fun W7 hW7 => ?_)
      clear hW6
      refine (show Code.wp _ _ _ _ _ from ?_)
      refine wp_seq ?_
      refine wp_region_L (W0 := w) [(g1, .cells (frcC false o 1) 26 (0, 0))] (hW7) ?_
      refine wpL_p (v := .func (.func 23) #[] #[]) rfl (by kernel_rfl) rfl (fun _ => by kernel_rfl) (by simp only [List.setIfInBounds_toArray, List.set_cons_succ, List.set_cons_zero] <;> rfl) ?_
      refine wpL_p (v := .int .u8 (a : Int)) rfl (by kernel_rfl) rfl (fun _ => by kernel_rfl) (by simp only [List.setIfInBounds_toArray, List.set_cons_succ, List.set_cons_zero] <;> rfl) ?_
      refine wpL_p (v := .int .i64 ((a : Nat) : Int)) rfl (by kernel_rfl) rfl (run_conv8 rfl (by kernel_rfl) ha) (by simp only [List.setIfInBounds_toArray, List.set_cons_succ, List.set_cons_zero] <;> rfl) ?_
      refine wpL_p (v := .int .i64 (A : Int)) rfl (by kernel_rfl) rfl (run_bin rfl (vx := .int .i64 ((a : Nat) : Int)) (vy := .int .i64 225) (by kernel_rfl) (by kernel_rfl) fun w => run_rem225 HA w) (by simp only [List.setIfInBounds_toArray, List.set_cons_succ, List.set_cons_zero] <;> rfl) ?_
      refine wpL_v (v := .tuple #[.agg (frcC false (2 ^ A) 1), .int .i64 0]) rfl (by kernel_rfl) rfl (yb_call (f := 23) (args := #[.int .i64 (A : Int)]) (fun _ => by kernel_rfl) fun W hW => HPa.out W) (by simp only [List.setIfInBounds_toArray, List.set_cons_succ, List.set_cons_zero] <;> rfl) ?_
      refine wpL_p (v := .tuple #[.agg (frcC false (2 ^ A) 1), .int .i64 0]) rfl (by kernel_rfl) rfl (fun _ => by kernel_rfl) (by simp only [List.setIfInBounds_toArray, List.set_cons_succ, List.set_cons_zero] <;> rfl) ?_
      refine wpL_p (v := .agg (frcC false (2 ^ A) 1)) rfl (by kernel_rfl) rfl (fun _ => by kernel_rfl) (by simp only [List.setIfInBounds_toArray, List.set_cons_succ, List.set_cons_zero] <;> rfl) ?_
      refine wpL_p (v := .int .i64 0) rfl (by kernel_rfl) rfl (fun _ => by kernel_rfl) (by simp only [List.setIfInBounds_toArray, List.set_cons_succ, List.set_cons_zero] <;> rfl) ?_
      refine wpL_new (fun g => .pointer (some ⟨g, 0, none⟩)) (obi := .cells (frcC false 0 0) 26 (0, 0)) rfl rfl (fun _ => by rw [frc_zero]; rfl) (fun _ => by simp only [List.setIfInBounds_toArray, List.set_cons_succ, List.set_cons_zero] <;> rfl) fun g2 Bg2 Fg2 => ?_
      try simp only [List.forall_mem_cons] at Fg2
      refine wpL_s [(g2, .cells (frcC false (2 ^ A) 1) 26 (0, 0)), (g1, .cells (frcC false o 1) 26 (0, 0))] rfl rfl (st_f (neg := false) (n := (2 ^ A)) (d := 1) rfl (by kernel_rfl) (by kernel_rfl) (.head _) (by omega) size27 (List.forall_mem_cons.2 ⟨.inl rfl, (List.forall_mem_cons.2 ⟨.inr ⟨(.tail _ (.head _)), Fg2.1⟩, (List.forall_mem_nil _)⟩)⟩)) ?_
      refine wpL_p (v := .int .i64 0) rfl (by kernel_rfl) rfl (fun _ => by kernel_rfl) (by simp only [List.setIfInBounds_toArray, List.set_cons_succ, List.set_cons_zero] <;> rfl) ?_
      refine wpL_done (fun W8 hW8 => ?_)
      clear hW7
      refine (show Code.wp _ _ _ _ _ from ?_)
      refine wp_seq ?_
      refine wp_region_L (W0 := w) [(g2, .cells (frcC false (2 ^ A) 1) 26 (0, 0)), (g1, .cells (frcC false o 1) 26 (0, 0))] (hW8) ?_
      refine wpL_p (v := .func (.func 23) #[] #[]) rfl (by kernel_rfl) rfl (fun _ => by kernel_rfl) (by simp only [List.setIfInBounds_toArray, List.set_cons_succ, List.set_cons_zero] <;> rfl) ?_
      refine wpL_p (v := .int .u8 (b : Int)) rfl (by kernel_rfl) rfl (fun _ => by kernel_rfl) (by simp only [List.setIfInBounds_toArray, List.set_cons_succ, List.set_cons_zero] <;> rfl) ?_
      refine wpL_p (v := .int .i64 ((b : Nat) : Int)) rfl (by kernel_rfl) rfl (run_conv8 rfl (by kernel_rfl) hb) (by simp only [List.setIfInBounds_toArray, List.set_cons_succ, List.set_cons_zero] <;> rfl) ?_
      refine wpL_p (v := .int .i64 (B : Int)) rfl (by kernel_rfl) rfl (run_bin rfl (vx := .int .i64 ((b : Nat) : Int)) (vy := .int .i64 225) (by kernel_rfl) (by kernel_rfl) fun w => run_rem225 HB w) (by simp only [List.setIfInBounds_toArray, List.set_cons_succ, List.set_cons_zero] <;> rfl) ?_
      refine wpL_v (v := .tuple #[.agg (frcC false (2 ^ B) 1), .int .i64 0]) rfl (by kernel_rfl) rfl (yb_call (f := 23) (args := #[.int .i64 (B : Int)]) (fun _ => by kernel_rfl) fun W hW => HPb.out W) (by simp only [List.setIfInBounds_toArray, List.set_cons_succ, List.set_cons_zero] <;> rfl) ?_
      refine wpL_p (v := .tuple #[.agg (frcC false (2 ^ B) 1), .int .i64 0]) rfl (by kernel_rfl) rfl (fun _ => by kernel_rfl) (by simp only [List.setIfInBounds_toArray, List.set_cons_succ, List.set_cons_zero] <;> rfl) ?_
      refine wpL_p (v := .agg (frcC false (2 ^ B) 1)) rfl (by kernel_rfl) rfl (fun _ => by kernel_rfl) (by simp only [List.setIfInBounds_toArray, List.set_cons_succ, List.set_cons_zero] <;> rfl) ?_
      refine wpL_p (v := .int .i64 0) rfl (by kernel_rfl) rfl (fun _ => by kernel_rfl) (by simp only [List.setIfInBounds_toArray, List.set_cons_succ, List.set_cons_zero] <;> rfl) ?_
      refine wpL_new (fun g => .pointer (some ⟨g, 0, none⟩)) (obi := .cells (frcC false 0 0) 26 (0, 0)) rfl rfl (fun _ => by rw [frc_zero]; rfl) (fun _ => by simp only [List.setIfInBounds_toArray, List.set_cons_succ, List.set_cons_zero] <;> rfl) fun g3 Bg3 Fg3 => ?_
      try simp only [List.forall_mem_cons] at Fg3
      refine wpL_s [(g3, .cells (frcC false (2 ^ B) 1) 26 (0, 0)), (g2, .cells (frcC false (2 ^ A) 1) 26 (0, 0)), (g1, .cells (frcC false o 1) 26 (0, 0))] rfl rfl (st_f (neg := false) (n := (2 ^ B)) (d := 1) rfl (by kernel_rfl) (by kernel_rfl) (.head _) (by omega) size27 (List.forall_mem_cons.2 ⟨.inl rfl, (List.forall_mem_cons.2 ⟨.inr ⟨(.tail _ (.head _)), Fg3.1⟩, (List.forall_mem_cons.2 ⟨.inr ⟨(.tail _ (.tail _ (.head _))), Fg3.2.1⟩, (List.forall_mem_nil _)⟩)⟩)⟩)) ?_
      refine wpL_p (v := .int .i64 0) rfl (by kernel_rfl) rfl (fun _ => by kernel_rfl) (by simp only [List.setIfInBounds_toArray, List.set_cons_succ, List.set_cons_zero] <;> rfl) ?_
      refine wpL_done (fun W9 hW9 => ?_)
      clear hW8
      refine (show Code.wp _ _ _ _ _ from ?_)
      refine wp_seq ?_
      refine wp_region_L (W0 := w) [(g3, .cells (frcC false (2 ^ B) 1) 26 (0, 0)), (g2, .cells (frcC false (2 ^ A) 1) 26 (0, 0)), (g1, .cells (frcC false o 1) 26 (0, 0))] (hW9) ?_
      refine wpL_v (v := .agg (frcC false (2 ^ A) 1)) rfl (by kernel_rfl) rfl (yb_load rfl (by kernel_rfl) (.tail _ (.head _)) Tryd.underlying26 rfl size27 (by simp) (frc_whole false (2 ^ A) 1)) (by simp only [List.setIfInBounds_toArray, List.set_cons_succ, List.set_cons_zero] <;> rfl) ?_
      refine wpL_v (v := .agg (frcC false o 1)) rfl (by kernel_rfl) rfl (yb_load rfl (by kernel_rfl) (.tail _ (.tail _ (.head _))) Tryd.underlying26 rfl size27 (by simp) (frc_whole false o 1)) (by simp only [List.setIfInBounds_toArray, List.set_cons_succ, List.set_cons_zero] <;> rfl) ?_
      refine wpL_v (v := .tuple #[.agg (frcC false 0 0), .int .i64 3]) rfl (by kernel_rfl) rfl (yb_call (f := 15) (args := #[.agg (frcC false (2 ^ A) 1), .agg (frcC false o 1)]) (fun _ => by kernel_rfl) fun W hW => HM1.out W) (by simp only [List.setIfInBounds_toArray, List.set_cons_succ, List.set_cons_zero] <;> rfl) ?_
      refine wpL_p (v := .tuple #[.agg (frcC false 0 0), .int .i64 3]) rfl (by kernel_rfl) rfl (fun _ => by kernel_rfl) (by simp only [List.setIfInBounds_toArray, List.set_cons_succ, List.set_cons_zero] <;> rfl) ?_
      refine wpL_p (v := .agg (frcC false 0 0)) rfl (by kernel_rfl) rfl (fun _ => by kernel_rfl) (by simp only [List.setIfInBounds_toArray, List.set_cons_succ, List.set_cons_zero] <;> rfl) ?_
      refine wpL_p (v := .int .i64 3) rfl (by kernel_rfl) rfl (fun _ => by kernel_rfl) (by simp only [List.setIfInBounds_toArray, List.set_cons_succ, List.set_cons_zero] <;> rfl) ?_
      refine wpL_s [(g3, .cells (frcC false (2 ^ B) 1) 26 (0, 0)), (g2, .cells (frcC false 0 0) 26 (0, 0)), (g1, .cells (frcC false o 1) 26 (0, 0))] rfl rfl (st_f (neg := false) (n := 0) (d := 0) rfl (by kernel_rfl) (by kernel_rfl) (.tail _ (.head _)) (by omega) size27 (List.forall_mem_cons.2 ⟨.inr ⟨(.head _), (Ne.symm Fg3.1)⟩, (List.forall_mem_cons.2 ⟨.inl rfl, (List.forall_mem_cons.2 ⟨.inr ⟨(.tail _ (.tail _ (.head _))), Fg2.1⟩, (List.forall_mem_nil _)⟩)⟩)⟩)) ?_
      refine wpL_p (v := .int .i64 3) rfl (by kernel_rfl) rfl (fun _ => by kernel_rfl) (by simp only [List.setIfInBounds_toArray, List.set_cons_succ, List.set_cons_zero] <;> rfl) ?_
      refine wpL_done (fun W10 hW10 => ?_)
      clear hW9
      refine (show Code.wp _ _ _ _ _ from ?_)
      refine wp_seq ?_
      refine wp_seq ?_
      refine wp_region_L (W0 := w) [(g3, .cells (frcC false (2 ^ B) 1) 26 (0, 0)), (g2, .cells (frcC false 0 0) 26 (0, 0)), (g1, .cells (frcC false o 1) 26 (0, 0))] (hW10) ?_
      refine wpL_v (v := .agg (frcC false 0 0)) rfl (by kernel_rfl) rfl (yb_load rfl (by kernel_rfl) (.tail _ (.head _)) Tryd.underlying26 rfl size27 (by simp) (frc_whole false 0 0)) (by simp only [List.setIfInBounds_toArray, List.set_cons_succ, List.set_cons_zero] <;> rfl) ?_
      refine wpL_p (v := .agg (frcC false 0 0)) rfl (by kernel_rfl) rfl (fun _ => by kernel_rfl) (by simp only [List.setIfInBounds_toArray, List.set_cons_succ, List.set_cons_zero] <;> rfl) ?_
      refine wpL_p (v := .bool true) rfl (by kernel_rfl) rfl (run_bin rfl (vx := .agg (frcC false 0 0)) (vy := .agg (frcC false 0 0)) (by kernel_rfl) (by kernel_rfl) fun w => run_eql27s (lt8 (by omega)) (lt8 (by omega)) w) (by simp only [List.setIfInBounds_toArray, List.set_cons_succ, List.set_cons_zero] <;> rfl) ?_
      refine wpL_done (fun W11 hW11 => ?_)
      clear hW10
      refine (show Code.wp _ _ _ _ _ from ?_)
      refine wp_cond_true rfl ?_
      refine wp_seq ?_
      refine wp_region_L (W0 := w) [(g3, .cells (frcC false (2 ^ B) 1) 26 (0, 0)), (g2, .cells (frcC false 0 0) 26 (0, 0)), (g1, .cells (frcC false o 1) 26 (0, 0))] (hW11) ?_
      refine wpL_p (v := .int .i64 3) rfl (by kernel_rfl) rfl (fun _ => by kernel_rfl) (by simp only [List.setIfInBounds_toArray, List.set_cons_succ, List.set_cons_zero] <;> rfl) ?_
      refine wpL_p (v := .bool true) rfl (by kernel_rfl) rfl (fun _ => by kernel_rfl) (by simp only [List.setIfInBounds_toArray, List.set_cons_succ, List.set_cons_zero] <;> rfl) ?_
      refine wpL_p (v := .bool true) rfl (by kernel_rfl) rfl (fun _ => by kernel_rfl) (by simp only [List.setIfInBounds_toArray, List.set_cons_succ, List.set_cons_zero] <;> rfl) ?_
      refine wpL_p (v := .int .u8 (a : Int)) rfl (by kernel_rfl) rfl (fun _ => by kernel_rfl) (by simp only [List.setIfInBounds_toArray, List.set_cons_succ, List.set_cons_zero] <;> rfl) ?_
      refine wpL_p (v := .int .i64 ((a : Nat) : Int)) rfl (by kernel_rfl) rfl (run_conv8 rfl (by kernel_rfl) ha) (by simp only [List.setIfInBounds_toArray, List.set_cons_succ, List.set_cons_zero] <;> rfl) ?_
      refine wpL_p (v := .int .i64 (A : Int)) rfl (by kernel_rfl) rfl (run_bin rfl (vx := .int .i64 ((a : Nat) : Int)) (vy := .int .i64 225) (by kernel_rfl) (by kernel_rfl) fun w => run_rem225 HA w) (by simp only [List.setIfInBounds_toArray, List.set_cons_succ, List.set_cons_zero] <;> rfl) ?_
      refine wpL_p (v := .int .i64 (C : Int)) rfl (by kernel_rfl) rfl (fun _ => by kernel_rfl) (by simp only [List.setIfInBounds_toArray, List.set_cons_succ, List.set_cons_zero] <;> rfl) ?_
      refine wpL_p (v := .int .i64 ((A + C : Nat) : Int)) rfl (by kernel_rfl) rfl (run_bin rfl (vx := .int .i64 (A : Int)) (vy := .int .i64 (C : Int)) (by kernel_rfl) (by kernel_rfl) fun w => run_addn (x := A) (y := C) (by omega) w) (by simp only [List.setIfInBounds_toArray, List.set_cons_succ, List.set_cons_zero] <;> rfl) ?_
      refine wpL_p (v := .bool true) rfl (by kernel_rfl) rfl (run_bin rfl (vx := .int .i64 ((A + C : Nat) : Int)) (vy := .int .i64 256) (by kernel_rfl) (by kernel_rfl) fun w => run_gtr256y (by omega) w) (by simp only [List.setIfInBounds_toArray, List.set_cons_succ, List.set_cons_zero] <;> rfl) ?_
      refine wpL_p (v := .bool true) rfl (by kernel_rfl) rfl (fun _ => by kernel_rfl) (by simp only [List.setIfInBounds_toArray, List.set_cons_succ, List.set_cons_zero] <;> rfl) ?_
      refine wpL_p (v := .bool true) rfl (by kernel_rfl) rfl (fun _ => by kernel_rfl) (by simp only [List.setIfInBounds_toArray, List.set_cons_succ, List.set_cons_zero] <;> rfl) ?_
      refine wpL_p (v := .int .i64 0) rfl (by kernel_rfl) rfl (fun _ => by kernel_rfl) (by simp only [List.setIfInBounds_toArray, List.set_cons_succ, List.set_cons_zero] <;> rfl) ?_
      refine wpL_p (v := .int .i64 0) rfl (by kernel_rfl) rfl (fun _ => by kernel_rfl) (by simp only [List.setIfInBounds_toArray, List.set_cons_succ, List.set_cons_zero] <;> rfl) ?_
      refine wpL_newg (fun g => .slice (some ⟨g, 0, none⟩) 2 2) (obi := .cells #[.int .i64 0, .int .i64 0] 29 (0, 0)) rfl (by kernel_rfl) (fun _ => by kernel_rfl) (fun _ => by simp only [List.setIfInBounds_toArray, List.set_cons_succ, List.set_cons_zero] <;> rfl) fun g4 Bg4 Fg4 => ?_
      try simp only [List.forall_mem_cons] at Fg4
      refine wpL_v (v := .bool true) rfl (by kernel_rfl) rfl (yb_call (f := 14) (args := #[.slice (some ⟨g4, 0, none⟩) 2 2]) (fun _ => by kernel_rfl) fun W hW => all_W 2 (by omega) rfl (hW.2 _ (.head _))) (by simp only [List.setIfInBounds_toArray, List.set_cons_succ, List.set_cons_zero] <;> rfl) ?_
      refine wpL_p (v := .bool true) rfl (by kernel_rfl) rfl (fun _ => by kernel_rfl) (by simp only [List.setIfInBounds_toArray, List.set_cons_succ, List.set_cons_zero] <;> rfl) ?_
      refine wpL_p (v := .bool true) rfl (by kernel_rfl) rfl (fun _ => by kernel_rfl) (by simp only [List.setIfInBounds_toArray, List.set_cons_succ, List.set_cons_zero] <;> rfl) ?_
      refine wpL_done (fun W12 hW12 => ?_)
      clear hW11
      refine (show Code.wp _ _ _ _ _ from ?_)
      refine wp_ret ?_
      go_ret
      exact ⟨rfl, hW12.1⟩
end Go.Proofs.YtkfcikijmkgahaaDoor
