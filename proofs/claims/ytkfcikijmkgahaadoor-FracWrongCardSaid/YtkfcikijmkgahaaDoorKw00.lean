import Derived.Test.YtkfcikijmkgahaaDoorG05
import Derived.Test.YtkfcikijmkgahaaDoorG11
import Derived.LoopN
/- Part of the proof: Wb, Wc. -/
set_option linter.unusedVariables false
set_option linter.unusedSimpArgs false
set_option linter.unusedSectionVars false
/- Cells of known variables one by one; fractions that are wrong. -/
namespace Go.Proofs.YtkfcikijmkgahaaDoor
open Go.RowKit Tw
theorem yb_loadc {P : Program} {W0 : World} {o : Oper} {a : Act} {K : List (Nat × Obj)} {ty t : TypeId} {x : Operand} {g off : Nat} {cs : Array Value} {v : Value} {d : TypeDesc} (ho : o.op = .load ty x) (hx : a.eval x = .pointer (some ⟨g, off, none⟩))
    (hm : (g, .cells cs t (0, 0)) ∈ K) (hu : P.underlying ty = some d) (hd : aggD d = false) (hv : cs[off]? = some v) :
    ∀ w, KS W0 K w → ∀ K' : Act → World → Prop, (∀ w', Below w.heap.size w w' → K' (a.put o.dst v) w') → Oper.wp P o a w K' (fun _ _ _ => False) := by
  intro w hw K' hk
  have hc : w.cell? ⟨g, off, none⟩ = some v := by rw [cell_of_row w g off cs t (0, 0) (hw.2 _ hm)]; exact hv
  have hagg : (isAgg ty).run P w = .ok false w := by
    unfold isAgg
    rw [Sem.run_bind, run_underlying hu w]
    unfold aggD at hd
    cases d <;> simp_all
  have hr : (loadVar ty ⟨g, off, none⟩).run P w = .ok v w := by
    simp [loadVar, Sem.run_bind, hagg, hc]
  unfold Oper.wp execOp
  simp only [ho, hx, Instr.loadAt, Instr.sureAddr, Sem.run_bind, Sem.run_pure, Result.andThen_ok, hr]
  exact hk w (Below.refl _ _)
theorem inBlock_ret (id : Nat) (Q : Exit → Act → World → Prop) (a : Act) (w : World) : Exit.inBlock id Q .ret a w = Q .ret a w := rfl
theorem then_ret (f : Act → World → Prop) (Q : Exit → Act → World → Prop) (a : Act) (w : World) : Exit.then f Q .ret a w = Q .ret a w := rfl
/-- a fraction by its limbs -/
def frcW (s : Bool) (f g : Nat → Nat) : Array Value := #[.bool s] ++ fa 8 f ++ fa 8 g
def up (f : Nat → Nat) (i x : Nat) : Nat → Nat := fun j => if j = i then x else f j
theorem frcC_W (s : Bool) (n d : Nat) : frcC s n d = frcW s (dg n) (dg d) := rfl
theorem frcW_list (s : Bool) (f g : Nat → Nat) : frcW s f g = #[.bool s, .int .u32 (f 0), .int .u32 (f 1), .int .u32 (f 2), .int .u32 (f 3), .int .u32 (f 4), .int .u32 (f 5), .int .u32 (f 6), .int .u32 (f 7), .int .u32 (g 0), .int .u32 (g 1), .int .u32 (g 2), .int .u32 (g 3), .int .u32 (g 4), .int .u32 (g 5), .int .u32 (g 6), .int .u32 (g 7)] := by kernel_rfl
theorem over_num (s : Bool) (f g : Nat → Nat) (i x : Nat) (hi : i < 8) : frcW s (up f i x) g = ((frcW s f g).toList.take (1 + i) ++ (Value.int .u32 (x : Int)).cells.toList ++ (frcW s f g).toList.drop (1 + i + (Value.int .u32 (x : Int)).cells.toList.length)).toArray := by
  rcases (by omega : i = 0 ∨ i = 1 ∨ i = 2 ∨ i = 3 ∨ i = 4 ∨ i = 5 ∨ i = 6 ∨ i = 7) with rfl | rfl | rfl | rfl | rfl | rfl | rfl | rfl <;> kernel_rfl
theorem over_den (s : Bool) (f g : Nat → Nat) (i x : Nat) (hi : i < 8) : frcW s f (up g i x) = ((frcW s f g).toList.take (9 + i) ++ (Value.int .u32 (x : Int)).cells.toList ++ (frcW s f g).toList.drop (9 + i + (Value.int .u32 (x : Int)).cells.toList.length)).toArray := by
  rcases (by omega : i = 0 ∨ i = 1 ∨ i = 2 ∨ i = 3 ∨ i = 4 ∨ i = 5 ∨ i = 6 ∨ i = 7) with rfl | rfl | rfl | rfl | rfl | rfl | rfl | rfl <;> kernel_rfl
theorem over_all (s : Bool) (n d : Nat) : frcC s n 0 = ((frcC s n d).toList.take 9 ++ (Value.agg (fa 8 (dg 0))).cells.toList ++ (frcC s n d).toList.drop (9 + (Value.agg (fa 8 (dg 0))).cells.toList.length)).toArray := by kernel_rfl
theorem st_den0 {W0 : World} {o : Oper} {a : Act} {K K' : List (Nat × Obj)} {x y : Operand} {g : Nat} {s : Bool} {n d : Nat} (ho : o.op = .store 24 x y) (hx : a.eval x = .pointer (some ⟨g, 9, none⟩)) (hv : a.eval y = .agg (fa 8 (dg 0)))
    (hm : (g, .cells (frcC s n d) 26 (0, 0)) ∈ K) (hB : W0.heap.size ≤ g) (hK : ∀ p ∈ K', p = (g, .cells (frcC s n 0) 26 (0, 0)) ∨ (p ∈ K ∧ p.1 ≠ g)) : ∀ w, KS W0 K w → ∃ w', (execOp a.eval o).run Tryd.prog w = .ok .skip w' ∧ KS W0 K' w' :=
  st_row ho hx hv hm hB (by kernel_rfl) (by simp [Value.cells]) (by intro v hv; simp [Value.cells, fa] at hv; rcases hv with ⟨_, _, rfl⟩; rfl) (over_all s n d) hK
theorem st_limb {W0 : World} {o : Oper} {a : Act} {K K' : List (Nat × Obj)} {x y : Operand} {g : Nat} {s : Bool} {f h : Nat → Nat} (i v : Nat) (hi : i < 8) (ho : o.op = .store 22 x y) (hx : a.eval x = .pointer (some ⟨g, 1 + i, none⟩)) (hv : a.eval y = .int .u32 (v : Int))
    (hm : (g, .cells (frcW s f h) 26 (0, 0)) ∈ K) (hB : W0.heap.size ≤ g) (hK : ∀ p ∈ K', p = (g, .cells (frcW s (up f i v) h) 26 (0, 0)) ∨ (p ∈ K ∧ p.1 ≠ g)) : ∀ w, KS W0 K w → ∃ w', (execOp a.eval o).run Tryd.prog w = .ok .skip w' ∧ KS W0 K' w' :=
  st_row ho hx hv hm hB (by kernel_rfl) (by simp [Value.cells, frcW]; omega) (by intro v hv; simp [Value.cells] at hv; subst hv; rfl) (over_num s f h i v hi) hK
theorem st_limbd {W0 : World} {o : Oper} {a : Act} {K K' : List (Nat × Obj)} {x y : Operand} {g : Nat} {s : Bool} {f h : Nat → Nat} (i v : Nat) (hi : i < 8) (ho : o.op = .store 22 x y) (hx : a.eval x = .pointer (some ⟨g, 9 + i, none⟩)) (hv : a.eval y = .int .u32 (v : Int))
    (hm : (g, .cells (frcW s f h) 26 (0, 0)) ∈ K) (hB : W0.heap.size ≤ g) (hK : ∀ p ∈ K', p = (g, .cells (frcW s f (up h i v)) 26 (0, 0)) ∨ (p ∈ K ∧ p.1 ≠ g)) : ∀ w, KS W0 K w → ∃ w', (execOp a.eval o).run Tryd.prog w = .ok .skip w' ∧ KS W0 K' w' :=
  st_row ho hx hv hm hB (by kernel_rfl) (by simp [Value.cells, frcW]; omega) (by intro v hv; simp [Value.cells] at hv; subst hv; rfl) (over_den s f h i v hi) hK
/-- the lowest limb put in the place of the highest one -/
def topN (n : Nat) : Nat := setd (setd n 7 (dg n 0)) 0 0
theorem dg_topN (n : Nat) (i : Nat) : dg (topN n) i = up (up (dg n) 7 (dg n 0)) 0 0 i := by
  unfold topN up
  by_cases h0 : i = 0
  · subst h0; rw [dg_setd_same _ _ _ (by omega), if_pos rfl]
  · rw [dg_setd_other _ _ _ _ (by omega) h0, if_neg h0]
    by_cases h7 : i = 7
    · subst h7; rw [dg_setd_same _ _ _ (dg_lt _ _), if_pos rfl]
    · rw [dg_setd_other _ _ _ _ (dg_lt _ _) h7, if_neg h7]
theorem topN_lt {n : Nat} (h : n < R 8) : topN n < R 8 := setd_lt (setd_lt h (by omega) (dg_lt _ _)) (by omega) (by omega)
theorem topN_dvd (n : Nat) : 4294967296 ∣ topN n := by
  have h := dg_topN n 0
  rw [dg_zero] at h
  unfold up at h
  rw [if_pos rfl] at h
  exact Nat.dvd_of_mod_eq_zero h
theorem topN_ne {n : Nat} (h : n < R 7) (h0 : n ≠ 0) : topN n ≠ 0 := by
  intro hz
  refine h0 (eq_of_dg (n := 8) (Nat.lt_of_lt_of_le h (R_le (by omega))) (R_pos 8) fun i hi => ?_)
  have hd0 : dg 0 i = 0 := dg_of_lt' (k := 0) (R_pos 0) (by omega)
  rw [hd0]
  have ht : ∀ j, up (up (dg n) 7 (dg n 0)) 0 0 j = 0 := fun j => by
    rw [← dg_topN, hz]; exact dg_of_lt' (k := 0) (R_pos 0) (by omega)
  by_cases h7 : i = 7
  · subst h7; exact dg_of_lt h
  · by_cases hi0 : i = 0
    · subst hi0
      have := ht 7
      unfold up at this
      simpa using this
    · have := ht i
      unfold up at this
      rw [if_neg hi0, if_neg h7] at this
      exact this
theorem frc_top (s : Bool) (n d : Nat) : frcW s (up (up (dg n) 7 (dg n 0)) 0 0) (up (up (dg d) 7 (dg d 0)) 0 0) = frcC s (topN n) (topN d) := by
  rw [frcC_W]
  unfold frcW
  rw [fa_congr (fun i _ => dg_topN n i), fa_congr (fun i _ => dg_topN d i)]
theorem right_top (s : Bool) {n d : Nat} (h : n < R 7) (h0 : n ≠ 0) : rightB s (topN n) (topN d) = false := by
  unfold rightB
  rw [if_neg (topN_ne h h0)]
  refine decide_eq_false fun hh => ?_
  have := Nat.dvd_gcd (topN_dvd n) (topN_dvd d)
  rw [hh.2] at this
  have := Nat.le_of_dvd (by omega) this
  omega
theorem run_shr4u {o : Oper} {a : Act} {x : Nat} {xT : TypeId} {px py : Operand} {d : TypeId} (ho : o.op = .binOp .shr xT px py d) (hx : a.eval px = .int .u32 (x : Int)) (hy : a.eval py = .int .u64 4) (w : World) : (execOp a.eval o).run Tryd.prog w = .ok (.value (.int .u32 ((x / 16 : Nat) : Int))) w := by
  refine run_bin ho hx hy (fun w => ?_) w
  go_simp
theorem run_add2 {x : Nat} (h : x + 2 < 4294967296) {px py : Operand} (w : World) : (do eqGuard .add 22 px py (.int .u32 2) (.int .u32 (x : Int)); binOp .add 22 (.int .u32 2) (.int .u32 (x : Int)) : Sem Value).run Tryd.prog w = .ok (.int .u32 ((x + 2 : Nat) : Int)) w := by
  go_simp
  have : IntKind.u32.wrap (2 + (x : Int)) = (2 + (x : Int)) % 4294967296 := by kernel_rfl
  rw [this]
  omega
theorem run_rem4 {c k : Nat} (h : c % 4 = k) {px py : Operand} (w : World) : (do eqGuard .rem 5 px py (.int .u8 (c : Int)) (.int .u8 4); binOp .rem 5 (.int .u8 (c : Int)) (.int .u8 4) : Sem Value).run Tryd.prog w = .ok (.int .u8 (k : Int)) w := by
  go_simp
  subst h
  rw [Int.tmod_eq_emod_of_nonneg (by omega)]
  omega
theorem frc_small {m : Nat} (h : m < 4294967296) : frcC false 0 m = #[.bool false, .int .u32 0, .int .u32 0, .int .u32 0, .int .u32 0, .int .u32 0, .int .u32 0, .int .u32 0, .int .u32 0, .int .u32 (m : Int), .int .u32 0, .int .u32 0, .int .u32 0, .int .u32 0, .int .u32 0, .int .u32 0, .int .u32 0] := by
  have h0 : ∀ i, i < 8 → dg m i = if i = 0 then m else 0 := by
    intro i hi
    by_cases hz : i = 0
    · subst hz; rw [dg_zero, if_pos rfl, Nat.mod_eq_of_lt h]
    · rw [if_neg hz]; exact dg_of_lt' (k := 1) (by rw [R_succ, R_zero]; omega) (by omega)
  have hz : ∀ i, dg 0 i = 0 := fun i => dg_of_lt' (k := 0) (R_pos 0) (by omega)
  rw [frcC_W, frcW_list, hz, hz, hz, hz, hz, hz, hz, hz, h0 0 (by omega), h0 1 (by omega), h0 2 (by omega), h0 3 (by omega), h0 4 (by omega), h0 5 (by omega), h0 6 (by omega), h0 7 (by omega)]
  rfl
end Go.Proofs.YtkfcikijmkgahaaDoor
namespace Go.Proofs.YtkfcikijmkgahaaDoor
open Go.RowKit Tw
theorem ks_one {w : World} {g : Nat} {o : Obj} (h : w.heap[g]? = some o) : KS w [(g, o)] w := ⟨Below.refl _ _, fun p hp => by simp only [List.mem_cons, List.not_mem_nil, or_false] at hp; subst hp; exact h⟩
set_option maxRecDepth 100000 in
set_option maxHeartbeats 4000000 in
theorem Sum_first (s s' : Bool) (n d n' d' : Nat) (HX : Hid (∀ W, Calls Tryd.prog 24 #[.agg (frcC s n d)] W fun e w' => e = .returned (.bool false) ∧ Below W.heap.size W w')) (w : World) (g0 : Nat) (hg : w.heap[g0]? = some (.cells (frcC s n d ++ frcC s' n' d') 26 (0, 0))) :
    Calls Tryd.prog 26 #[.slice (some ⟨g0, 0, none⟩) 2 2] w fun e w' => e = .returned (.tuple #[.agg (frcC false 0 0), .int .i64 2]) ∧ Below w.heap.size w w' := by
  go_enter Tryd.func26, Tryd.ntmps26
  refine wp_seq ?_
  refine wp_region_L (W0 := w) [(g0, .cells (frcC s n d ++ frcC s' n' d') 26 (0, 0))] (ks_one hg) ?_
  refine wpL_new (fun g => .pointer (some ⟨g, 0, none⟩)) (obi := .cells (frcC false 0 0) 26 (0, 0)) rfl rfl (fun _ => by rw [frc_zero]; rfl) (fun _ => by simp only [List.setIfInBounds_toArray, List.set_cons_succ, List.set_cons_zero] <;> rfl) fun g1 Bg1 Fg1 => ?_
  try simp only [List.forall_mem_cons] at Fg1
  refine wpL_p (v := .int .i64 0) rfl (by kernel_rfl) rfl (fun _ => by kernel_rfl) (by simp only [List.setIfInBounds_toArray, List.set_cons_succ, List.set_cons_zero] <;> rfl) ?_
  refine wpL_done (fun W1 hW1 => ?_)
  refine (show Code.wp _ _ _ _ _ from ?_)
  refine wp_seq ?_
  refine wp_seq ?_
  refine wp_region_L (W0 := w) [(g1, .cells (frcC false 0 0) 26 (0, 0)), (g0, .cells (frcC s n d ++ frcC s' n' d') 26 (0, 0))] (hW1) ?_
  refine wpL_p (v := .slice (some ⟨g0, 0, none⟩) 2 2) rfl (by kernel_rfl) rfl (fun _ => by kernel_rfl) (by simp only [List.setIfInBounds_toArray, List.set_cons_succ, List.set_cons_zero] <;> rfl) ?_
  refine wpL_p (v := .int .i64 2) rfl (by kernel_rfl) rfl (fun _ => by kernel_rfl) (by simp only [List.setIfInBounds_toArray, List.set_cons_succ, List.set_cons_zero] <;> rfl) ?_
  refine wpL_p (v := .int .i64 0) rfl (by kernel_rfl) rfl (fun _ => by kernel_rfl) (by simp only [List.setIfInBounds_toArray, List.set_cons_succ, List.set_cons_zero] <;> rfl) ?_
  refine wpL_done (fun W2 hW2 => ?_)
  clear hW1
  refine (show Code.wp _ _ _ _ _ from ?_)
  refine wp_block ?_
  refine wp_loop_rounds 20 ?_
  refine (show Code.wp _ _ _ _ _ from ?_)
  refine wp_seq ?_
  refine wp_region_L (W0 := w) [(g1, .cells (frcC false 0 0) 26 (0, 0)), (g0, .cells (frcC s n d ++ frcC s' n' d') 26 (0, 0))] (hW2) ?_
  refine wpL_p (v := .bool true) rfl (by kernel_rfl) rfl (fun _ => by kernel_rfl) (by simp only [List.setIfInBounds_toArray, List.set_cons_succ, List.set_cons_zero] <;> rfl) ?_
  refine wpL_done (fun W3 hW3 => ?_)
  clear hW2
  refine (show Code.wp _ _ _ _ _ from ?_)
  refine wp_seq ?_
  refine wp_cond_true rfl ?_
  refine wp_skip ?_
  refine (show Code.wp _ _ _ _ _ from ?_)
  refine wp_seq ?_
  refine wp_block ?_
  refine wp_seq ?_
  refine wp_region_L (W0 := w) [(g1, .cells (frcC false 0 0) 26 (0, 0)), (g0, .cells (frcC s n d ++ frcC s' n' d') 26 (0, 0))] (hW3) ?_
  refine wpL_p (v := .pointer (some ⟨g0, 0, none⟩)) rfl (by kernel_rfl) rfl (fun _ => by kernel_rfl) (by simp only [List.setIfInBounds_toArray, List.set_cons_succ, List.set_cons_zero] <;> rfl) ?_
  refine wpL_v (v := .agg (frcC s n d)) rfl (by kernel_rfl) rfl (yb_load (n := 17) (off := 0) rfl (by kernel_rfl) (.tail _ (.head _)) Tryd.underlying26 rfl size27 (by simp) (by kernel_rfl)) (by simp only [List.setIfInBounds_toArray, List.set_cons_succ, List.set_cons_zero] <;> rfl) ?_
  refine wpL_new (fun g => .pointer (some ⟨g, 0, none⟩)) (obi := .cells (frcC false 0 0) 26 (0, 0)) rfl rfl (fun _ => by rw [frc_zero]; rfl) (fun _ => by simp only [List.setIfInBounds_toArray, List.set_cons_succ, List.set_cons_zero] <;> rfl) fun g2 Bg2 Fg2 => ?_
  try simp only [List.forall_mem_cons] at Fg2
  refine wpL_s [(g2, .cells (frcC s n d) 26 (0, 0)), (g1, .cells (frcC false 0 0) 26 (0, 0)), (g0, .cells (frcC s n d ++ frcC s' n' d') 26 (0, 0))] rfl rfl (st_f (neg := s) (n := n) (d := d) rfl (by kernel_rfl) (by kernel_rfl) (.head _) (by omega) size27 (List.forall_mem_cons.2 ⟨.inl rfl, (List.forall_mem_cons.2 ⟨.inr ⟨(.tail _ (.head _)), Fg2.1⟩, (List.forall_mem_cons.2 ⟨.inr ⟨(.tail _ (.tail _ (.head _))), Fg2.2.1⟩, (List.forall_mem_nil _)⟩)⟩)⟩)) ?_
  refine wpL_done (fun W4 hW4 => ?_)
  clear hW3
  refine (show Code.wp _ _ _ _ _ from ?_)
  refine wp_seq ?_
  refine wp_region_L (W0 := w) [(g2, .cells (frcC s n d) 26 (0, 0)), (g1, .cells (frcC false 0 0) 26 (0, 0)), (g0, .cells (frcC s n d ++ frcC s' n' d') 26 (0, 0))] (hW4) ?_
  refine wpL_v (v := .agg (frcC s n d)) rfl (by kernel_rfl) rfl (yb_load rfl (by kernel_rfl) (.head _) Tryd.underlying26 rfl size27 (by simp) (frc_whole s n d)) (by simp only [List.setIfInBounds_toArray, List.set_cons_succ, List.set_cons_zero] <;> rfl) ?_
  refine wpL_v (v := .bool false) rfl (by kernel_rfl) rfl (yb_call (f := 24) (args := #[.agg (frcC s n d)]) (fun _ => by kernel_rfl) fun W hW => HX.out W) (by simp only [List.setIfInBounds_toArray, List.set_cons_succ, List.set_cons_zero] <;> rfl) ?_
  refine wpL_p (v := .bool true) rfl (by kernel_rfl) rfl (fun _ => by kernel_rfl) (by simp only [List.setIfInBounds_toArray, List.set_cons_succ, List.set_cons_zero] <;> rfl) ?_
  refine wpL_done (fun W5 hW5 => ?_)
  clear hW4
  refine (show Code.wp _ _ _ _ _ from ?_)
  refine wp_cond_true rfl ?_
  refine wp_seq ?_
  refine wp_region_L (W0 := w) [(g2, .cells (frcC s n d) 26 (0, 0)), (g1, .cells (frcC false 0 0) 26 (0, 0)), (g0, .cells (frcC s n d ++ frcC s' n' d') 26 (0, 0))] (hW5) ?_
  refine wpL_p (v := .agg (frcC false 0 0)) rfl (by kernel_rfl) rfl (fun _ => by kernel_rfl) (by simp only [List.setIfInBounds_toArray, List.set_cons_succ, List.set_cons_zero] <;> rfl) ?_
  refine wpL_s [(g2, .cells (frcC s n d) 26 (0, 0)), (g1, .cells (frcC false 0 0) 26 (0, 0)), (g0, .cells (frcC s n d ++ frcC s' n' d') 26 (0, 0))] rfl rfl (st_f (neg := false) (n := 0) (d := 0) rfl (by kernel_rfl) (by kernel_rfl) (.tail _ (.head _)) (by omega) size27 (List.forall_mem_cons.2 ⟨.inr ⟨(.head _), (Ne.symm Fg2.1)⟩, (List.forall_mem_cons.2 ⟨.inl rfl, (List.forall_mem_cons.2 ⟨.inr ⟨(.tail _ (.tail _ (.head _))), Fg1.1⟩, (List.forall_mem_nil _)⟩)⟩)⟩)) ?_
  refine wpL_p (v := .int .i64 2) rfl (by kernel_rfl) rfl (fun _ => by kernel_rfl) (by simp only [List.setIfInBounds_toArray, List.set_cons_succ, List.set_cons_zero] <;> rfl) ?_
  refine wpL_done (fun W6 hW6 => ?_)
  clear hW5
  refine (show Code.wp _ _ _ _ _ from ?_)
  refine wp_ret ?_
  try simp only [inBlock_ret, then_ret]
  exact bodyPost_ret (res_cell_tmp rfl rfl (hW6.2 _ (.tail _ (.head _))) Tryd.underlying26 rfl (by rw [size27, frcC_size])) rfl ⟨rfl, hW6.1⟩
set_option maxRecDepth 100000 in
set_option maxHeartbeats 4000000 in
theorem Sum_second (s s' : Bool) (n d n' d' : Nat) (HX : Hid (∀ W, Calls Tryd.prog 24 #[.agg (frcC s n d)] W fun e w' => e = .returned (.bool true) ∧ Below W.heap.size W w')) (HY : Hid (∀ W, Calls Tryd.prog 24 #[.agg (frcC s' n' d')] W fun e w' => e = .returned (.bool false) ∧ Below W.heap.size W w')) (w : World) (g0 : Nat) (hg : w.heap[g0]? = some (.cells (frcC s n d ++ frcC s' n' d') 26 (0, 0))) :
    Calls Tryd.prog 26 #[.slice (some ⟨g0, 0, none⟩) 2 2] w fun e w' => e = .returned (.tuple #[.agg (frcC false 0 0), .int .i64 2]) ∧ Below w.heap.size w w' := by
  go_enter Tryd.func26, Tryd.ntmps26
  refine wp_seq ?_
  refine wp_region_L (W0 := w) [(g0, .cells (frcC s n d ++ frcC s' n' d') 26 (0, 0))] (ks_one hg) ?_
  refine wpL_new (fun g => .pointer (some ⟨g, 0, none⟩)) (obi := .cells (frcC false 0 0) 26 (0, 0)) rfl rfl (fun _ => by rw [frc_zero]; rfl) (fun _ => by simp only [List.setIfInBounds_toArray, List.set_cons_succ, List.set_cons_zero] <;> rfl) fun g1 Bg1 Fg1 => ?_
  try simp only [List.forall_mem_cons] at Fg1
  refine wpL_p (v := .int .i64 0) rfl (by kernel_rfl) rfl (fun _ => by kernel_rfl) (by simp only [List.setIfInBounds_toArray, List.set_cons_succ, List.set_cons_zero] <;> rfl) ?_
  refine wpL_done (fun W1 hW1 => ?_)
  refine (show Code.wp _ _ _ _ _ from ?_)
  refine wp_seq ?_
  refine wp_seq ?_
  refine wp_region_L (W0 := w) [(g1, .cells (frcC false 0 0) 26 (0, 0)), (g0, .cells (frcC s n d ++ frcC s' n' d') 26 (0, 0))] (hW1) ?_
  refine wpL_p (v := .slice (some ⟨g0, 0, none⟩) 2 2) rfl (by kernel_rfl) rfl (fun _ => by kernel_rfl) (by simp only [List.setIfInBounds_toArray, List.set_cons_succ, List.set_cons_zero] <;> rfl) ?_
  refine wpL_p (v := .int .i64 2) rfl (by kernel_rfl) rfl (fun _ => by kernel_rfl) (by simp only [List.setIfInBounds_toArray, List.set_cons_succ, List.set_cons_zero] <;> rfl) ?_
  refine wpL_p (v := .int .i64 0) rfl (by kernel_rfl) rfl (fun _ => by kernel_rfl) (by simp only [List.setIfInBounds_toArray, List.set_cons_succ, List.set_cons_zero] <;> rfl) ?_
  refine wpL_done (fun W2 hW2 => ?_)
  clear hW1
  refine (show Code.wp _ _ _ _ _ from ?_)
  refine wp_block ?_
  refine wp_loop_rounds 20 ?_
  refine (show Code.wp _ _ _ _ _ from ?_)
  refine wp_seq ?_
  refine wp_region_L (W0 := w) [(g1, .cells (frcC false 0 0) 26 (0, 0)), (g0, .cells (frcC s n d ++ frcC s' n' d') 26 (0, 0))] (hW2) ?_
  refine wpL_p (v := .bool true) rfl (by kernel_rfl) rfl (fun _ => by kernel_rfl) (by simp only [List.setIfInBounds_toArray, List.set_cons_succ, List.set_cons_zero] <;> rfl) ?_
  refine wpL_done (fun W3 hW3 => ?_)
  clear hW2
  refine (show Code.wp _ _ _ _ _ from ?_)
  refine wp_seq ?_
  refine wp_cond_true rfl ?_
  refine wp_skip ?_
  refine (show Code.wp _ _ _ _ _ from ?_)
  refine wp_seq ?_
  refine wp_block ?_
  refine wp_seq ?_
  refine wp_region_L (W0 := w) [(g1, .cells (frcC false 0 0) 26 (0, 0)), (g0, .cells (frcC s n d ++ frcC s' n' d') 26 (0, 0))] (hW3) ?_
  refine wpL_p (v := .pointer (some ⟨g0, 0, none⟩)) rfl (by kernel_rfl) rfl (fun _ => by kernel_rfl) (by simp only [List.setIfInBounds_toArray, List.set_cons_succ, List.set_cons_zero] <;> rfl) ?_
  refine wpL_v (v := .agg (frcC s n d)) rfl (by kernel_rfl) rfl (yb_load (n := 17) (off := 0) rfl (by kernel_rfl) (.tail _ (.head _)) Tryd.underlying26 rfl size27 (by simp) (by kernel_rfl)) (by simp only [List.setIfInBounds_toArray, List.set_cons_succ, List.set_cons_zero] <;> rfl) ?_
  refine wpL_new (fun g => .pointer (some ⟨g, 0, none⟩)) (obi := .cells (frcC false 0 0) 26 (0, 0)) rfl rfl (fun _ => by rw [frc_zero]; rfl) (fun _ => by simp only [List.setIfInBounds_toArray, List.set_cons_succ, List.set_cons_zero] <;> rfl) fun g2 Bg2 Fg2 => ?_
  try simp only [List.forall_mem_cons] at Fg2
  refine wpL_s [(g2, .cells (frcC s n d) 26 (0, 0)), (g1, .cells (frcC false 0 0) 26 (0, 0)), (g0, .cells (frcC s n d ++ frcC s' n' d') 26 (0, 0))] rfl rfl (st_f (neg := s) (n := n) (d := d) rfl (by kernel_rfl) (by kernel_rfl) (.head _) (by omega) size27 (List.forall_mem_cons.2 ⟨.inl rfl, (List.forall_mem_cons.2 ⟨.inr ⟨(.tail _ (.head _)), Fg2.1⟩, (List.forall_mem_cons.2 ⟨.inr ⟨(.tail _ (.tail _ (.head _))), Fg2.2.1⟩, (List.forall_mem_nil _)⟩)⟩)⟩)) ?_
  refine wpL_done (fun W4 hW4 => ?_)
  clear hW3
  refine (show Code.wp _ _ _ _ _ from ?_)
  refine wp_seq ?_
  refine wp_region_L (W0 := w) [(g2, .cells (frcC s n d) 26 (0, 0)), (g1, .cells (frcC false 0 0) 26 (0, 0)), (g0, .cells (frcC s n d ++ frcC s' n' d') 26 (0, 0))] (hW4) ?_
  refine wpL_v (v := .agg (frcC s n d)) rfl (by kernel_rfl) rfl (yb_load rfl (by kernel_rfl) (.head _) Tryd.underlying26 rfl size27 (by simp) (frc_whole s n d)) (by simp only [List.setIfInBounds_toArray, List.set_cons_succ, List.set_cons_zero] <;> rfl) ?_
  refine wpL_v (v := .bool true) rfl (by kernel_rfl) rfl (yb_call (f := 24) (args := #[.agg (frcC s n d)]) (fun _ => by kernel_rfl) fun W hW => HX.out W) (by simp only [List.setIfInBounds_toArray, List.set_cons_succ, List.set_cons_zero] <;> rfl) ?_
  refine wpL_p (v := .bool false) rfl (by kernel_rfl) rfl (fun _ => by kernel_rfl) (by simp only [List.setIfInBounds_toArray, List.set_cons_succ, List.set_cons_zero] <;> rfl) ?_
  refine wpL_done (fun W5 hW5 => ?_)
  clear hW4
  refine (show Code.wp _ _ _ _ _ from ?_)
  refine wp_cond_false rfl ?_
  refine wp_skip ?_
  refine (show Code.wp _ _ _ _ _ from ?_)
  refine wp_region_L (W0 := w) [(g2, .cells (frcC s n d) 26 (0, 0)), (g1, .cells (frcC false 0 0) 26 (0, 0)), (g0, .cells (frcC s n d ++ frcC s' n' d') 26 (0, 0))] (hW5) ?_
  refine wpL_p (v := .int .i64 1) rfl (by kernel_rfl) rfl (fun _ => by kernel_rfl) (by simp only [List.setIfInBounds_toArray, List.set_cons_succ, List.set_cons_zero] <;> rfl) ?_
  refine wpL_p (v := .int .i64 1) rfl (by kernel_rfl) rfl (fun _ => by kernel_rfl) (by simp only [List.setIfInBounds_toArray, List.set_cons_succ, List.set_cons_zero] <;> rfl) ?_
  refine wpL_done (fun W6 hW6 => ?_)
  clear hW5
  refine (show Code.wp _ _ _ _ _ from ?_)
  refine wp_seq ?_
  refine wp_region_L (W0 := w) [(g2, .cells (frcC s n d) 26 (0, 0)), (g1, .cells (frcC false 0 0) 26 (0, 0)), (g0, .cells (frcC s n d ++ frcC s' n' d') 26 (0, 0))] (hW6) ?_
  refine wpL_p (v := .bool true) rfl (by kernel_rfl) rfl (fun _ => by kernel_rfl) (by simp only [List.setIfInBounds_toArray, List.set_cons_succ, List.set_cons_zero] <;> rfl) ?_
  refine wpL_done (fun W7 hW7 => ?_)
  clear hW6
  refine (show Code.wp _ _ _ _ _ from ?_)
  refine wp_seq ?_
  refine wp_cond_true rfl ?_
  refine wp_skip ?_
  refine (show Code.wp _ _ _ _ _ from ?_)
  refine wp_seq ?_
  refine wp_block ?_
  refine wp_seq ?_
  refine wp_region_L (W0 := w) [(g2, .cells (frcC s n d) 26 (0, 0)), (g1, .cells (frcC false 0 0) 26 (0, 0)), (g0, .cells (frcC s n d ++ frcC s' n' d') 26 (0, 0))] (hW7) ?_
  refine wpL_p (v := .pointer (some ⟨g0, 17, none⟩)) rfl (by kernel_rfl) rfl (fun _ => by kernel_rfl) (by simp only [List.setIfInBounds_toArray, List.set_cons_succ, List.set_cons_zero] <;> rfl) ?_
  refine wpL_v (v := .agg (frcC s' n' d')) rfl (by kernel_rfl) rfl (yb_load (n := 17) (off := 17) rfl (by kernel_rfl) (.tail _ (.tail _ (.head _))) Tryd.underlying26 rfl size27 (by simp) (by kernel_rfl)) (by simp only [List.setIfInBounds_toArray, List.set_cons_succ, List.set_cons_zero] <;> rfl) ?_
  refine wpL_new (fun g => .pointer (some ⟨g, 0, none⟩)) (obi := .cells (frcC false 0 0) 26 (0, 0)) rfl rfl (fun _ => by rw [frc_zero]; rfl) (fun _ => by simp only [List.setIfInBounds_toArray, List.set_cons_succ, List.set_cons_zero] <;> rfl) fun g3 Bg3 Fg3 => ?_
  try simp only [List.forall_mem_cons] at Fg3
  refine wpL_s [(g3, .cells (frcC s' n' d') 26 (0, 0)), (g2, .cells (frcC s n d) 26 (0, 0)), (g1, .cells (frcC false 0 0) 26 (0, 0)), (g0, .cells (frcC s n d ++ frcC s' n' d') 26 (0, 0))] rfl rfl (st_f (neg := s') (n := n') (d := d') rfl (by kernel_rfl) (by kernel_rfl) (.head _) (by omega) size27 (List.forall_mem_cons.2 ⟨.inl rfl, (List.forall_mem_cons.2 ⟨.inr ⟨(.tail _ (.head _)), Fg3.1⟩, (List.forall_mem_cons.2 ⟨.inr ⟨(.tail _ (.tail _ (.head _))), Fg3.2.1⟩, (List.forall_mem_cons.2 ⟨.inr ⟨(.tail _ (.tail _ (.tail _ (.head _)))), Fg3.2.2.1⟩, (List.forall_mem_nil _)⟩)⟩)⟩)⟩)) ?_
  refine wpL_done (fun W8 hW8 => ?_)
  clear hW7
  refine (show Code.wp _ _ _ _ _ from ?_)
  refine wp_seq ?_
  refine wp_region_L (W0 := w) [(g3, .cells (frcC s' n' d') 26 (0, 0)), (g2, .cells (frcC s n d) 26 (0, 0)), (g1, .cells (frcC false 0 0) 26 (0, 0)), (g0, .cells (frcC s n d ++ frcC s' n' d') 26 (0, 0))] (hW8) ?_
  refine wpL_v (v := .agg (frcC s' n' d')) rfl (by kernel_rfl) rfl (yb_load rfl (by kernel_rfl) (.head _) Tryd.underlying26 rfl size27 (by simp) (frc_whole s' n' d')) (by simp only [List.setIfInBounds_toArray, List.set_cons_succ, List.set_cons_zero] <;> rfl) ?_
  refine wpL_v (v := .bool false) rfl (by kernel_rfl) rfl (yb_call (f := 24) (args := #[.agg (frcC s' n' d')]) (fun _ => by kernel_rfl) fun W hW => HY.out W) (by simp only [List.setIfInBounds_toArray, List.set_cons_succ, List.set_cons_zero] <;> rfl) ?_
  refine wpL_p (v := .bool true) rfl (by kernel_rfl) rfl (fun _ => by kernel_rfl) (by simp only [List.setIfInBounds_toArray, List.set_cons_succ, List.set_cons_zero] <;> rfl) ?_
  refine wpL_done (fun W9 hW9 => ?_)
  clear hW8
  refine (show Code.wp _ _ _ _ _ from ?_)
  refine wp_cond_true rfl ?_
  refine wp_seq ?_
  refine wp_region_L (W0 := w) [(g3, .cells (frcC s' n' d') 26 (0, 0)), (g2, .cells (frcC s n d) 26 (0, 0)), (g1, .cells (frcC false 0 0) 26 (0, 0)), (g0, .cells (frcC s n d ++ frcC s' n' d') 26 (0, 0))] (hW9) ?_
  refine wpL_p (v := .agg (frcC false 0 0)) rfl (by kernel_rfl) rfl (fun _ => by kernel_rfl) (by simp only [List.setIfInBounds_toArray, List.set_cons_succ, List.set_cons_zero] <;> rfl) ?_
  refine wpL_s [(g3, .cells (frcC s' n' d') 26 (0, 0)), (g2, .cells (frcC s n d) 26 (0, 0)), (g1, .cells (frcC false 0 0) 26 (0, 0)), (g0, .cells (frcC s n d ++ frcC s' n' d') 26 (0, 0))] rfl rfl (st_f (neg := false) (n := 0) (d := 0) rfl (by kernel_rfl) (by kernel_rfl) (.tail _ (.tail _ (.head _))) (by omega) size27 (List.forall_mem_cons.2 ⟨.inr ⟨(.head _), (Ne.symm Fg3.2.1)⟩, (List.forall_mem_cons.2 ⟨.inr ⟨(.tail _ (.head _)), (Ne.symm Fg2.1)⟩, (List.forall_mem_cons.2 ⟨.inl rfl, (List.forall_mem_cons.2 ⟨.inr ⟨(.tail _ (.tail _ (.tail _ (.head _)))), Fg1.1⟩, (List.forall_mem_nil _)⟩)⟩)⟩)⟩)) ?_
  refine wpL_p (v := .int .i64 2) rfl (by kernel_rfl) rfl (fun _ => by kernel_rfl) (by simp only [List.setIfInBounds_toArray, List.set_cons_succ, List.set_cons_zero] <;> rfl) ?_
  refine wpL_done (fun W10 hW10 => ?_)
  clear hW9
  refine (show Code.wp _ _ _ _ _ from ?_)
  refine wp_ret ?_
  try simp only [inBlock_ret, then_ret]
  exact bodyPost_ret (res_cell_tmp rfl rfl (hW10.2 _ (.tail _ (.tail _ (.head _)))) Tryd.underlying26 rfl (by rw [size27, frcC_size])) rfl ⟨rfl, hW10.1⟩
set_option maxRecDepth 100000 in
set_option maxHeartbeats 4000000 in
theorem clo_walk (s s' : Bool) (n d n' d' : Nat) (HS : Hid (∀ (W : World) (g0 : Nat), W.heap[g0]? = some (.cells (frcC s n d ++ frcC s' n' d') 26 (0, 0)) → Calls Tryd.prog 26 #[.slice (some ⟨g0, 0, none⟩) 2 2] W fun e w' => e = .returned (.tuple #[.agg (frcC false 0 0), .int .i64 2]) ∧ Below W.heap.size W w')) (w : World) :
    Calls Tryd.prog 25 #[.agg (frcC s n d), .agg (frcC s' n' d')] w fun e w' => e = .returned (.tuple #[.agg (frcC false 0 0), .int .i64 2]) ∧ Below w.heap.size w w' := by
  go_enter Tryd.func25, Tryd.ntmps25
  refine wp_seq ?_
  refine wp_region_L (W0 := w) [] (KS.start w) ?_
  refine wpL_new (fun g => .pointer (some ⟨g, 0, none⟩)) (obi := .cells (frcC s n d) 26 (0, 0)) rfl rfl (fun _ => rfl) (fun _ => by simp only [List.setIfInBounds_toArray, List.set_cons_succ, List.set_cons_zero] <;> rfl) fun g1 Bg1 Fg1 => ?_
  try simp only [List.forall_mem_cons] at Fg1
  refine wpL_new (fun g => .pointer (some ⟨g, 0, none⟩)) (obi := .cells (frcC s' n' d') 26 (0, 0)) rfl rfl (fun _ => rfl) (fun _ => by simp only [List.setIfInBounds_toArray, List.set_cons_succ, List.set_cons_zero] <;> rfl) fun g2 Bg2 Fg2 => ?_
  try simp only [List.forall_mem_cons] at Fg2
  refine wpL_new (fun g => .pointer (some ⟨g, 0, none⟩)) (obi := .cells (frcC false 0 0) 26 (0, 0)) rfl rfl (fun _ => by rw [frc_zero]; rfl) (fun _ => by simp only [List.setIfInBounds_toArray, List.set_cons_succ, List.set_cons_zero] <;> rfl) fun g3 Bg3 Fg3 => ?_
  try simp only [List.forall_mem_cons] at Fg3
  refine wpL_p (v := .int .i64 0) rfl (by kernel_rfl) rfl (fun _ => by kernel_rfl) (by simp only [List.setIfInBounds_toArray, List.set_cons_succ, List.set_cons_zero] <;> rfl) ?_
  refine wpL_done (fun W1 hW1 => ?_)
  refine (show Code.wp _ _ _ _ _ from ?_)
  refine wp_seq ?_
  refine wp_region_L (W0 := w) [(g3, .cells (frcC false 0 0) 26 (0, 0)), (g2, .cells (frcC s' n' d') 26 (0, 0)), (g1, .cells (frcC s n d) 26 (0, 0))] (hW1) ?_
  refine wpL_v (v := .agg (frcC s n d)) rfl (by kernel_rfl) rfl (yb_load rfl (by kernel_rfl) (.tail _ (.tail _ (.head _))) Tryd.underlying26 rfl size27 (by simp) (frc_whole s n d)) (by simp only [List.setIfInBounds_toArray, List.set_cons_succ, List.set_cons_zero] <;> rfl) ?_
  refine wpL_v (v := .agg (frcC s' n' d')) rfl (by kernel_rfl) rfl (yb_load rfl (by kernel_rfl) (.tail _ (.head _)) Tryd.underlying26 rfl size27 (by simp) (frc_whole s' n' d')) (by simp only [List.setIfInBounds_toArray, List.set_cons_succ, List.set_cons_zero] <;> rfl) ?_
  refine wpL_new (fun g => .slice (some ⟨g, 0, none⟩) 2 2) (obi := .cells (frcC s n d ++ frcC s' n' d') 26 (0, 0)) rfl rfl (fun _ => by kernel_rfl) (fun _ => by simp only [List.setIfInBounds_toArray, List.set_cons_succ, List.set_cons_zero] <;> rfl) fun g4 Bg4 Fg4 => ?_
  try simp only [List.forall_mem_cons] at Fg4
  refine wpL_v (v := .tuple #[.agg (frcC false 0 0), .int .i64 2]) rfl (by kernel_rfl) rfl (yb_call (f := 26) (args := #[.slice (some ⟨g4, 0, none⟩) 2 2]) (fun _ => by kernel_rfl) fun W hW => HS.out W _ (hW.2 _ (.head _))) (by simp only [List.setIfInBounds_toArray, List.set_cons_succ, List.set_cons_zero] <;> rfl) ?_
  refine wpL_p (v := .agg (frcC false 0 0)) rfl (by kernel_rfl) rfl (fun _ => by kernel_rfl) (by simp only [List.setIfInBounds_toArray, List.set_cons_succ, List.set_cons_zero] <;> rfl) ?_
  refine wpL_p (v := .int .i64 2) rfl (by kernel_rfl) rfl (fun _ => by kernel_rfl) (by simp only [List.setIfInBounds_toArray, List.set_cons_succ, List.set_cons_zero] <;> rfl) ?_
  refine wpL_s [(g4, .cells (frcC s n d ++ frcC s' n' d') 26 (0, 0)), (g3, .cells (frcC false 0 0) 26 (0, 0)), (g2, .cells (frcC s' n' d') 26 (0, 0)), (g1, .cells (frcC s n d) 26 (0, 0))] rfl rfl (st_f (neg := false) (n := 0) (d := 0) rfl (by kernel_rfl) (by kernel_rfl) (.tail _ (.head _)) (by omega) size27 (List.forall_mem_cons.2 ⟨.inr ⟨(.head _), (Ne.symm Fg4.1)⟩, (List.forall_mem_cons.2 ⟨.inl rfl, (List.forall_mem_cons.2 ⟨.inr ⟨(.tail _ (.tail _ (.head _))), Fg3.1⟩, (List.forall_mem_cons.2 ⟨.inr ⟨(.tail _ (.tail _ (.tail _ (.head _)))), Fg3.2.1⟩, (List.forall_mem_nil _)⟩)⟩)⟩)⟩)) ?_
  refine wpL_p (v := .int .i64 2) rfl (by kernel_rfl) rfl (fun _ => by kernel_rfl) (by simp only [List.setIfInBounds_toArray, List.set_cons_succ, List.set_cons_zero] <;> rfl) ?_
  refine wpL_done (fun W2 hW2 => ?_)
  clear hW1
  refine (show Code.wp _ _ _ _ _ from ?_)
  refine wp_ret ?_
  try simp only [inBlock_ret, then_ret]
  exact bodyPost_ret (res_cell_tmp rfl rfl (hW2.2 _ (.tail _ (.head _))) Tryd.underlying26 rfl (by rw [size27, frcC_size])) rfl ⟨rfl, hW2.1⟩
end Go.Proofs.YtkfcikijmkgahaaDoor
