import Derived.Test.YtkfcikijmkgahaaDoorG04
import Derived.Test.YtkfcikijmkgahaaDoorG02
import Derived.Test.YtkfcikijmkgahaaDoorG03
import Derived.Test.YtkfcikijmkgahaaDoorG00
import Derived.ChangeKeysEq
import Derived.Laws.StructEq
import Derived.Lib.Repeat
import Derived.Lib.ItoaNum
import Derived.Deep.Cut
import Derived.Deep.RegionLaw
import Derived.Deep.QuietTactic
import Derived.RegionTactic
import Derived.WalkKit
import Derived.Lib.LaidTab
import Derived.Lib.IndexMore
import Derived.Lib.Strings
/- Part of the proof: Wl, Fs, Eq, Ef, An, Ak, Dm, Ev. -/
set_option linter.unusedVariables false
set_option linter.unusedSimpArgs false
set_option linter.unusedSectionVars false
/- The law of regions over known blocks for statements that do not draw their order. Nothing of the program. -/
namespace Tw
open Go Go.RowKit Go.Proofs.YtkfcikijmkgahaaDoor
section
variable {P : Program} {ops : Array Oper} {Q : Exit → Act → World → Prop} {W0 : World}
def wpL (P : Program) (ops : Array Oper) (Q : Exit → Act → World → Prop) (W0 : World) (rest : List Oper) (a : Act) (K : List (Nat × Obj)) : Prop := ∀ w, KS W0 K w → wpList P ops Q rest a w
theorem wp_region_L {id : Nat} {l : List Oper} {a : Act} {w : World} (K : List (Nat × Obj)) (hK : KS W0 K w) (h : wpL P l.toArray Q W0 l a K) : (Code.region id l.toArray false).wp P Q a w :=
  wp_region_lit (h w hK)
theorem wpL_v {rest : List Oper} {oi : Oper} {v : Value} {d : Nat} {tm : Array Value} {df : List Deferred} {K : List (Nat × Obj)} (hd : oi.dst = some d) (hlt : Nat.blt d tm.size = true) (hw : Region.wanted oi (yielded ops tm) = true)
    (hy : ∀ w, KS W0 K w → ∀ K' : Act → World → Prop, (∀ w', Below w.heap.size w w' → K' (Act.put ⟨tm, df⟩ oi.dst v) w') → Oper.wp P oi ⟨tm, df⟩ w K' (fun _ _ _ => False))
    {T : Array Value} (hT : tm.setIfInBounds d v = T) (h : wpL P ops Q W0 rest ⟨T, df⟩ K) : wpL P ops Q W0 (oi :: rest) ⟨tm, df⟩ K := by
  intro w hK
  refine wpList_step fun K' hK' => ?_
  rw [if_pos hw]
  exact (Oto.of_wp (a := ⟨tm, df⟩) hd (Nat.le_of_ble_eq_true hlt) (hy w hK)).wp fun u w' ⟨hu, hb⟩ => by
    subst hu
    refine hK' _ _ ?_
    rw [hd]
    subst hT
    exact h w' (hK.below hb)
theorem wpL_p {rest : List Oper} {oi : Oper} {v : Value} {d : Nat} {tm : Array Value} {df : List Deferred} {K : List (Nat × Obj)} (hd : oi.dst = some d) (hlt : Nat.blt d tm.size = true) (hw : Region.wanted oi (yielded ops tm) = true)
    (hy : ∀ w, (execOp (Act.eval ⟨tm, df⟩) oi).run P w = .ok (.value v) w)
    {T : Array Value} (hT : tm.setIfInBounds d v = T) (h : wpL P ops Q W0 rest ⟨T, df⟩ K) : wpL P ops Q W0 (oi :: rest) ⟨tm, df⟩ K :=
  wpL_v hd hlt hw (yb_pure hy) hT h
theorem wpL_n {rest : List Oper} {oi : Oper} {d : Nat} {tm : Array Value} {df : List Deferred} {K : List (Nat × Obj)} (hd : oi.dst = some d) (hw : Region.wanted oi (yielded ops tm) = false)
    {T : Array Value} (hT : tm.setIfInBounds d undef = T) (h : wpL P ops Q W0 rest ⟨T, df⟩ K) : wpL P ops Q W0 (oi :: rest) ⟨tm, df⟩ K := by
  intro w hK
  refine wpList_step fun K' hK' => ?_
  rw [if_neg (by rw [hw]; decide)]
  refine hK' _ _ ?_
  rw [hd]
  subst hT
  exact h w hK
theorem wpL_new {rest : List Oper} {oi : Oper} {d : Nat} {obi : Obj} {tm : Array Value} {df : List Deferred} {K : List (Nat × Obj)} {T : Nat → Array Value} (mk : Nat → Value)
    (hdi : oi.dst = some d) (hgi : oi.guard = none)
    (hai : ∀ w, (execOp (Act.eval ⟨tm, df⟩) oi).run P w = .ok (.value (mk w.heap.size)) (w.alloc obi))
    (hT : ∀ g, (tm.setIfInBounds d (mk g)) = T g)
    (h : ∀ g, W0.heap.size ≤ g → (∀ p ∈ K, p.1 ≠ g) → wpL P ops Q W0 rest ⟨T g, df⟩ ((g, obi) :: K)) : wpL P ops Q W0 (oi :: rest) ⟨tm, df⟩ K := by
  intro w hK
  refine wpList_step fun K' hK' => ?_
  rw [if_pos (wanted_no hgi)]
  unfold Oper.wp
  rw [hai w]
  refine hK' _ _ ?_
  rw [hdi]
  simp only [Act.put]
  rw [hT w.heap.size]
  exact h w.heap.size hK.1.size (fun p hp => by have := lt_of_block (hK.2 p hp); omega) _ (hK.alloc obi)
theorem wpL_s {rest : List Oper} {oi : Oper} {tm : Array Value} {df : List Deferred} {K : List (Nat × Obj)} (K' : List (Nat × Obj)) (hd : oi.dst = none) (hg : oi.guard = none)
    (hst : ∀ w, KS W0 K w → ∃ w', (execOp (Act.eval ⟨tm, df⟩) oi).run P w = .ok .skip w' ∧ KS W0 K' w')
    (h : wpL P ops Q W0 rest ⟨tm, df⟩ K') : wpL P ops Q W0 (oi :: rest) ⟨tm, df⟩ K := by
  intro w hK
  obtain ⟨w', hrun, hw'⟩ := hst w hK
  refine wpList_step fun K2 hK2 => ?_
  rw [if_pos (wanted_no hg)]
  unfold Oper.wp
  rw [hrun]
  refine hK2 _ _ ?_
  rw [hd]
  exact h w' hw'
theorem wpL_done {a : Act} {K : List (Nat × Obj)} (h : ∀ w, KS W0 K w → Q .normal a w) : wpL P ops Q W0 [] a K := fun w hK => wpList_nil (h w hK)
end
end Tw
namespace Go.Proofs.YtkfcikijmkgahaaDoor
open Go.RowKit Tw

theorem dg_one (n : Nat) : dg n 1 = n / 4294967296 % 4294967296 := by
  have h := dg_div n 1 0
  rw [dg_zero, R_succ, R_zero, Nat.mul_one] at h
  exact h.symm
theorem fa_small (n : Nat) (hn : n < 18446744073709551616) : fa 8 (dg n) = #[.int .u32 ((n : Int) % 4294967296), .int .u32 ((n : Int) / 4294967296), .int .u32 0, .int .u32 0, .int .u32 0, .int .u32 0, .int .u32 0, .int .u32 0] := by
  have h0 : dg n 0 = n % 4294967296 := dg_zero n
  have h1 : dg n 1 = n / 4294967296 := by rw [dg_one, Nat.mod_eq_of_lt (by omega)]
  have hR : n < R 2 := by rw [R_succ, R_succ, R_zero]; omega
  have h2 : ∀ i, 2 ≤ i → dg n i = 0 := fun i hi => dg_of_lt' hR hi
  show #[Value.int .u32 (dg n 0 : Nat), .int .u32 (dg n 1 : Nat), .int .u32 (dg n 2 : Nat), .int .u32 (dg n 3 : Nat), .int .u32 (dg n 4 : Nat), .int .u32 (dg n 5 : Nat), .int .u32 (dg n 6 : Nat), .int .u32 (dg n 7 : Nat)] = _
  rw [h0, h1, h2 2 (by omega), h2 3 (by omega), h2 4 (by omega), h2 5 (by omega), h2 6 (by omega), h2 7 (by omega)]
  rfl
set_option maxRecDepth 100000 in
set_option maxHeartbeats 400000 in
theorem fromSmall_any (n : Nat) (hn : n < 18446744073709551616) (w : World) :
    Calls Tryd.prog 32 #[.int .u64 n] w fun e w' => e = .returned (num n) ∧ Below w.heap.size w w' := by
  go_enter Tryd.func32, Tryd.ntmps32
  go_wp2
  obtain ⟨d, hu, hd⟩ := under25
  exact bodyPost_ret (res_cell rfl rfl (heap1 _ _) hu hd (by rw [size25]; rfl)) rfl ⟨by rw [num, fa_small n hn], below1 _ _⟩
end Go.Proofs.YtkfcikijmkgahaaDoor
namespace Go.Proofs.YtkfcikijmkgahaaDoor
open Go.RowKit Tw
theorem run_eqItems_fa {P : Program} {e : TypeId} (he : P.plainKey e = true) (hu : P.underlying e = some (.int .u32)) (d n : Nat) (f g : Nat → Nat) (w : World) : ∀ is : List Nat, (∀ i ∈ is, i < n) →
    (Op.eqItems (d + 1) e 1 (fa n f) (fa n g) is).run P w = .ok (is.all fun i => f i == g i) w
  | [], _ => by simp [Op.eqItems]
  | i :: is, h => by
    have hi := h i (by simp)
    have ih := run_eqItems_fa he hu d n f g w is (fun j hj => h j (List.mem_cons_of_mem _ hj))
    have p1 := run_part_plain w he (xs := fa n f) (off := i * 1) (by rw [Nat.mul_one]; exact fa_get _ hi)
    have p2 := run_part_plain w he (xs := fa n g) (off := i * 1) (by rw [Nat.mul_one]; exact fa_get _ hi)
    simp only [Op.eqItems, Sem.run_bind, p1, p2, Result.andThen_ok, run_equalIn_int w d e .u32 .u32 (f i) (g i) hu]
    rw [List.all_cons]
    rcases Nat.decEq (f i) (g i) with hne | heq
    · have h1 : (((f i : Nat) : Int) == ((g i : Nat) : Int)) = false := by simp; omega
      have h2 : (f i == g i) = false := by simp; omega
      rw [h1, h2]
      simp
    · rw [heq]
      simpa using ih
theorem eq25 {a b : Nat} (ha : a < R 8) (hb : b < R 8) (d D : Nat) (hD : D = d + 1 + 1) (w : World) :
    (Op.equalIn D 24 (.agg (fa 8 (dg a))) (.agg (fa 8 (dg b)))).run Tryd.prog w = .ok (decide (a = b)) w := by
  have hs : (Tryd.prog.info? 22).isSome = true := by kernel_rfl
  obtain ⟨i, hi⟩ := Option.isSome_iff_exists.1 hs
  have hu : Tryd.prog.underlying 24 = some (.array 8 22) := by kernel_rfl
  have h0 := run_equalIn_array w (d + 1) (fa 8 (dg a)) (fa 8 (dg b)) hu hi
  subst hD
  refine h0.trans ?_
  have hc : Tryd.prog.cellsOf 22 = 1 := by kernel_rfl
  rw [hc, run_eqItems_fa (by kernel_rfl) (by kernel_rfl) d 8 _ _ w _ (fun i hi => List.mem_range.1 hi)]
  refine congrArg (fun r => Result.ok r w) ?_
  rw [Bool.eq_iff_iff]
  simp only [List.all_eq_true, List.mem_range, beq_iff_eq, decide_eq_true_eq]
  exact ⟨fun h => eq_of_dg ha hb h, fun h i _ => by rw [h]⟩
theorem fa_one8 : fa 8 (dg 1) = #[.int .u32 1, .int .u32 0, .int .u32 0, .int .u32 0, .int .u32 0, .int .u32 0, .int .u32 0, .int .u32 0] := by
  rw [fa_small 1 (by omega)]; rfl
theorem fa_nil8 : fa 8 (dg 0) = #[.int .u32 0, .int .u32 0, .int .u32 0, .int .u32 0, .int .u32 0, .int .u32 0, .int .u32 0, .int .u32 0] := by
  rw [fa_small 0 (by omega)]; rfl
theorem one_lt8 : 1 < R 8 := by rw [R_succ]; have := R_pos 7; omega
@[go_sem] theorem eq25_one {a : Nat} (ha : a < R 8) (w : World) :
    (Op.equalIn 10000 24 (.agg (fa 8 (dg a))) (.agg #[.int .u32 1, .int .u32 0, .int .u32 0, .int .u32 0, .int .u32 0, .int .u32 0, .int .u32 0, .int .u32 0])).run Tryd.prog w = .ok (decide (a = 1)) w := by
  rw [← fa_one8]; exact eq25 ha one_lt8 9998 10000 rfl w
@[go_sem] theorem eq25_nil {a : Nat} (ha : a < R 8) (w : World) :
    (Op.equalIn 10000 24 (.agg (fa 8 (dg a))) (.agg #[.int .u32 0, .int .u32 0, .int .u32 0, .int .u32 0, .int .u32 0, .int .u32 0, .int .u32 0, .int .u32 0])).run Tryd.prog w = .ok (decide (a = 0)) w := by
  rw [← fa_nil8]; exact eq25 ha (R_pos 8) 9998 10000 rfl w
theorem run_neq25_nil {a : Nat} (ha : a < R 8) {x y : Operand} (w : World) : (do eqGuard .neq 24 x y (.agg (fa 8 (dg a))) (.agg #[.int .u32 0, .int .u32 0, .int .u32 0, .int .u32 0, .int .u32 0, .int .u32 0, .int .u32 0, .int .u32 0]); binOp .neq 24 (.agg (fa 8 (dg a))) (.agg #[.int .u32 0, .int .u32 0, .int .u32 0, .int .u32 0, .int .u32 0, .int .u32 0, .int .u32 0, .int .u32 0]) : Sem Value).run Tryd.prog w = .ok (.bool (!decide (a = 0))) w := by
  go_simp
theorem run_eq25_one {a : Nat} (ha : a < R 8) {x y : Operand} (w : World) : (do eqGuard .eql 24 x y (.agg (fa 8 (dg a))) (.agg #[.int .u32 1, .int .u32 0, .int .u32 0, .int .u32 0, .int .u32 0, .int .u32 0, .int .u32 0, .int .u32 0]); binOp .eql 24 (.agg (fa 8 (dg a))) (.agg #[.int .u32 1, .int .u32 0, .int .u32 0, .int .u32 0, .int .u32 0, .int .u32 0, .int .u32 0, .int .u32 0]) : Sem Value).run Tryd.prog w = .ok (.bool (decide (a = 1))) w := by
  go_simp
theorem st_f {P : Program} {W0 : World} {o : Oper} {a : Act} {K K' : List (Nat × Obj)} {ty : TypeId} {x y : Operand} {g : Nat} {neg neg' : Bool} {n d n' d' : Nat} (ho : o.op = .store ty x y) (hx : a.eval x = .pointer (some ⟨g, 0, none⟩)) (hv : a.eval y = .agg (frcC neg n d))
    (hm : (g, .cells (frcC neg' n' d') ty (0, 0)) ∈ K) (hB : W0.heap.size ≤ g) (hi : (P.info? ty).map (·.size) = some 17)
    (hK : ∀ p ∈ K', p = (g, .cells (frcC neg n d) ty (0, 0)) ∨ (p ∈ K ∧ p.1 ≠ g)) : ∀ w, KS W0 K w → ∃ w', (execOp a.eval o).run P w = .ok .skip w' ∧ KS W0 K' w' :=
  st_row ho hx hv hm hB (by rw [hi]; simp [Value.cells]) (by simp [Value.cells]) (fun v hv => frc_one v hv) (frc_over neg neg' n d n' d') hK
theorem wpList_stf {P : Program} {ops : Array Oper} {rest : List Oper} {o : Oper} {a : Act} {w : World} {Q : Exit → Act → World → Prop} (hgd : o.guard = none) {ty t : TypeId} {x y : Operand} {g : Nat} {neg neg' : Bool} {n d n' d' : Nat} (ho : o.op = .store ty x y)
    (hx : a.eval x = .pointer (some ⟨g, 0, none⟩)) (hv : a.eval y = .agg (frcC neg n d)) (hg : w.heap[g]? = some (.cells (frcC neg' n' d') t (0, 0))) (hi : (P.info? ty).map (·.size) = some 17)
    (h : wpList P ops Q rest (a.put o.dst undef) (w.setRow g (frcC neg n d))) : wpList P ops Q (o :: rest) a w :=
  wpList_stm hgd ho hx hv hg (by rw [hi]; simp [Value.cells]) (by simp [Value.cells]) (fun v hv => frc_one v hv) (frc_over neg neg' n d n' d') h
theorem wpList_ldf {P : Program} {ops : Array Oper} {rest : List Oper} {o : Oper} {a : Act} {w : World} {Q : Exit → Act → World → Prop} (hgd : o.guard = none) {ty t : TypeId} {x : Operand} {g : Nat} {neg : Bool} {n d : Nat} {td : TypeDesc} (ho : o.op = .load ty x)
    (hx : a.eval x = .pointer (some ⟨g, 0, none⟩)) (hg : w.heap[g]? = some (.cells (frcC neg n d) t (0, 0))) (hu : P.underlying ty = some td) (hd : aggD td = true) (hi : (P.info? ty).map (·.size) = some 17)
    (h : wpList P ops Q rest (a.put o.dst (.agg (frcC neg n d))) w) : wpList P ops Q (o :: rest) a w :=
  wpList_ld hgd ho hx hg hu hd hi (by simp) (frc_whole _ _ _) h
theorem wpList_guard {P : Program} {ops : Array Oper} {rest : List Oper} {o : Oper} {a : Act} {w : World} {Q : Exit → Act → World → Prop} (hw : Region.wanted o (yielded ops a.tmps) = true)
    (h : wpList P ops Q ({ o with guard := none } :: rest) a w) : wpList P ops Q (o :: rest) a w := by
  unfold wpList at h ⊢
  rw [if_pos hw]
  rw [if_pos (wanted_no rfl)] at h
  exact h
/-- the fields of a fraction in a block, and the whole of it -/
theorem wpList_ldn {P : Program} {ops : Array Oper} {rest : List Oper} {o : Oper} {a : Act} {w : World} {Q : Exit → Act → World → Prop} (hgd : o.guard = none) {ty t : TypeId} {x : Operand} {g : Nat} {neg : Bool} {n d : Nat} {td : TypeDesc} (ho : o.op = .load ty x)
    (hx : a.eval x = .pointer (some ⟨g, 1, none⟩)) (hg : w.heap[g]? = some (.cells (frcC neg n d) t (0, 0))) (hu : P.underlying ty = some td) (hd : aggD td = true) (hi : (P.info? ty).map (·.size) = some 8)
    (h : wpList P ops Q rest (a.put o.dst (.agg (fa 8 (dg n)))) w) : wpList P ops Q (o :: rest) a w :=
  wpList_ld hgd ho hx hg hu hd hi (by simp) (frc_num neg n d) h
theorem wpList_ldd {P : Program} {ops : Array Oper} {rest : List Oper} {o : Oper} {a : Act} {w : World} {Q : Exit → Act → World → Prop} (hgd : o.guard = none) {ty t : TypeId} {x : Operand} {g : Nat} {neg : Bool} {n d : Nat} {td : TypeDesc} (ho : o.op = .load ty x)
    (hx : a.eval x = .pointer (some ⟨g, 9, none⟩)) (hg : w.heap[g]? = some (.cells (frcC neg n d) t (0, 0))) (hu : P.underlying ty = some td) (hd : aggD td = true) (hi : (P.info? ty).map (·.size) = some 8)
    (h : wpList P ops Q rest (a.put o.dst (.agg (fa 8 (dg d)))) w) : wpList P ops Q (o :: rest) a w :=
  wpList_ld hgd ho hx hg hu hd hi (by simp) (frc_den neg n d) h
theorem wpList_ldw {P : Program} {ops : Array Oper} {rest : List Oper} {o : Oper} {a : Act} {w : World} {Q : Exit → Act → World → Prop} (hgd : o.guard = none) {ty t : TypeId} {x : Operand} {g : Nat} {neg : Bool} {n d : Nat} {td : TypeDesc} (ho : o.op = .load ty x)
    (hx : a.eval x = .pointer (some ⟨g, 0, none⟩)) (hg : w.heap[g]? = some (.cells (frcC neg n d) t (0, 0))) (hu : P.underlying ty = some td) (hd : aggD td = true) (hi : (P.info? ty).map (·.size) = some 17)
    (h : wpList P ops Q rest (a.put o.dst (.agg (frcC neg n d))) w) : wpList P ops Q (o :: rest) a w :=
  wpList_ldf hgd ho hx hg hu hd hi h
end Go.Proofs.YtkfcikijmkgahaaDoor
namespace Go.Proofs.YtkfcikijmkgahaaDoor
open Go.RowKit Tw
theorem part25 (cs : Array Value) (off : Nat) (w : World) : (part 24 cs off).run Tryd.prog w = .ok (.agg (cs.extract off (off + 8))) w := by kernel_rfl
theorem part4 (b : Bool) (cs : Array Value) (h : cs[0]? = some (.bool b)) (w : World) : (part 4 cs 0).run Tryd.prog w = .ok (.bool b) w := by
  have hp : Tryd.prog.plainKey 4 = true := by kernel_rfl
  exact run_part_plain w hp h
theorem frc_cut1 (neg : Bool) (n d : Nat) : (frcC neg n d).extract 1 (1 + 8) = fa 8 (dg n) := by
  rw [frc_num neg n d]
  apply Array.ext'
  simp
theorem frc_cut2 (neg : Bool) (n d : Nat) : (frcC neg n d).extract 9 (9 + 8) = fa 8 (dg d) := by
  rw [frc_den neg n d]
  apply Array.ext'
  simp
noncomputable def flds : List Field := (Tryd.prog.fieldsOf 26).toList
theorem flds_eq : flds = [flds[0]!, flds[1]!, flds[2]!] := by kernel_rfl
theorem flds_names : (flds[0]!.name == "_") = false ∧ (flds[1]!.name == "_") = false ∧ (flds[2]!.name == "_") = false := ⟨by kernel_rfl, by kernel_rfl, by kernel_rfl⟩
theorem flds_types : flds[0]!.type = 4 ∧ flds[1]!.type = 24 ∧ flds[2]!.type = 24 := ⟨by kernel_rfl, by kernel_rfl, by kernel_rfl⟩
theorem flds_offs : flds[0]!.offset = 0 ∧ flds[1]!.offset = 1 ∧ flds[2]!.offset = 9 := ⟨by kernel_rfl, by kernel_rfl, by kernel_rfl⟩
theorem eq27 {s s' : Bool} {n n' d d' : Nat} (hn : n < R 8) (hn' : n' < R 8) (hd : d < R 8) (hd' : d' < R 8) (D D' : Nat) (hD : D = D' + 1 + 1 + 1) (w : World) :
    (Op.equalIn D 26 (.agg (frcC s n d)) (.agg (frcC s' n' d'))).run Tryd.prog w = .ok (decide (s = s' ∧ n = n' ∧ d = d')) w := by
  subst hD
  have hu : Tryd.prog.underlying 26 = some (.struct (Tryd.prog.fieldsOf 26)) := by kernel_rfl
  have hs : Tryd.prog.stoodInHeld 26 = false := by kernel_rfl
  have hb : Tryd.prog.underlying 4 = some .bool := by kernel_rfl
  refine (run_equalIn_struct w (D' + 1 + 1) _ _ _ hu hs).trans ?_
  have h0 := flds_eq
  obtain ⟨m1, m2, m3⟩ := flds_names
  obtain ⟨t1, t2, t3⟩ := flds_types
  obtain ⟨o1, o2, o3⟩ := flds_offs
  rw [show (Tryd.prog.fieldsOf 26).toList = flds from rfl, h0]
  have n1 : flds[0]!.name ≠ "_" := by simpa using m1
  have n2 : flds[1]!.name ≠ "_" := by simpa using m2
  have n3 : flds[2]!.name ≠ "_" := by simpa using m3
  have e1 := eq25 hn hn' D' _ rfl w
  have e2 := eq25 hd hd' D' _ rfl w
  simp only [Op.eqFields, n1, n2, n3, ne_eq, not_false_eq_true, if_true, Sem.run_bind, t1, t2, t3, o1, o2, o3, part4 s _ (frc_neg s n d), part4 s' _ (frc_neg s' n' d'), Result.andThen_ok,
    run_equalIn_bool w (D' + 1) _ s s' hb]
  by_cases h1 : s = s'
  · subst h1
    simp only [beq_self_eq_true, Bool.not_true, Bool.false_eq_true, if_false, Sem.run_bind, part25, frc_cut1, Result.andThen_ok, e1]
    by_cases h2 : n = n'
    · subst h2
      simp only [decide_true, Bool.not_true, Bool.false_eq_true, if_false, Sem.run_bind, part25, frc_cut2, Result.andThen_ok, e2]
      by_cases h3 : d = d'
      · simp [h3]
      · simp [h3]
    · simp [h2]
  · have hb : (s == s') = false := by simp [h1]
    simp [hb, h1]
theorem frc_one1 : frcC false 0 1 = #[.bool false, .int .u32 0, .int .u32 0, .int .u32 0, .int .u32 0, .int .u32 0, .int .u32 0, .int .u32 0, .int .u32 0, .int .u32 1, .int .u32 0, .int .u32 0, .int .u32 0, .int .u32 0, .int .u32 0, .int .u32 0, .int .u32 0] := by
  unfold frcC; rw [fa_nil8, fa_one8]; rfl
@[go_sem high] theorem eq27_one {s : Bool} {n d : Nat} (hn : n < R 8) (hd : d < R 8) (w : World) :
    (Op.equalIn 10000 26 (.agg (frcC s n d)) (.agg #[.bool false, .int .u32 0, .int .u32 0, .int .u32 0, .int .u32 0, .int .u32 0, .int .u32 0, .int .u32 0, .int .u32 0, .int .u32 1, .int .u32 0, .int .u32 0, .int .u32 0, .int .u32 0, .int .u32 0, .int .u32 0, .int .u32 0])).run Tryd.prog w = .ok (decide (s = false ∧ n = 0 ∧ d = 1)) w := by
  rw [← frc_one1]; exact eq27 hn (R_pos 8) hd one_lt8 10000 9997 rfl w
@[go_sem high] theorem eq27_any {s s' : Bool} {n n' d d' : Nat} (hn : n < R 8) (hn' : n' < R 8) (hd : d < R 8) (hd' : d' < R 8) (w : World) :
    (Op.equalIn 10000 26 (.agg (frcC s n d)) (.agg (frcC s' n' d'))).run Tryd.prog w = .ok (decide (s = s' ∧ n = n' ∧ d = d')) w := eq27 hn hn' hd hd' 10000 9997 rfl w
end Go.Proofs.YtkfcikijmkgahaaDoor
namespace Go.Proofs.YtkfcikijmkgahaaDoor
open Go.RowKit Tw
theorem lt8 {n : Nat} (h : n < 4294967296) : n < R 8 := lt_R_of_le (j := 1) (by rw [R_succ, R_zero]; omega) (by omega)
theorem all_W {W : World} {g : Nat} {cs : Array Value} {t : TypeId} (n : Nat) (hn : n ≤ 100) (hcs : cs = Array.replicate n (.int .i64 0)) (h : W.heap[g]? = some (.cells cs t (0, 0))) :
    Calls Tryd.prog 14 #[.slice (some ⟨g, 0, none⟩) n n] W fun e w' => e = .returned (.bool true) ∧ Below W.heap.size W w' := by
  subst hcs
  refine (all_ok g n n W hn (fun i hi => ?_)).mono (fun e w' ⟨he, hw⟩ => ⟨he, by subst hw; exact Below.refl _ _⟩)
  rw [cell_of_row W g i _ t (0, 0) h]
  simp [hi]
theorem run_eql27s {s : Bool} {n d : Nat} (hn : n < R 8) (hd : d < R 8) {x y : Operand} (w : World) : (do eqGuard .eql 26 x y (.agg (frcC s n d)) (.agg (frcC s n d)); binOp .eql 26 (.agg (frcC s n d)) (.agg (frcC s n d)) : Sem Value).run Tryd.prog w = .ok (.bool true) w := by
  go_simp
theorem run_neq27s {s : Bool} {n d : Nat} (hn : n < R 8) (hd : d < R 8) {x y : Operand} (w : World) : (do eqGuard .neq 26 x y (.agg (frcC s n d)) (.agg (frcC s n d)); binOp .neq 26 (.agg (frcC s n d)) (.agg (frcC s n d)) : Sem Value).run Tryd.prog w = .ok (.bool false) w := by
  go_simp
theorem run_eql27x {s s' : Bool} {n n' d d' : Nat} {b : Bool} (hn : n < R 8) (hn' : n' < R 8) (hd : d < R 8) (hd' : d' < R 8) (hb : decide (s = s' ∧ n = n' ∧ d = d') = b) {x y : Operand} (w : World) : (do eqGuard .eql 26 x y (.agg (frcC s n d)) (.agg (frcC s' n' d')); binOp .eql 26 (.agg (frcC s n d)) (.agg (frcC s' n' d')) : Sem Value).run Tryd.prog w = .ok (.bool b) w := by
  subst hb
  go_simp
theorem run_neq27x {s s' : Bool} {n n' d d' : Nat} {b : Bool} (hn : n < R 8) (hn' : n' < R 8) (hd : d < R 8) (hd' : d' < R 8) (hb : decide (s = s' ∧ n = n' ∧ d = d') = b) {x y : Operand} (w : World) : (do eqGuard .neq 26 x y (.agg (frcC s n d)) (.agg (frcC s' n' d')); binOp .neq 26 (.agg (frcC s n d)) (.agg (frcC s' n' d')) : Sem Value).run Tryd.prog w = .ok (.bool !b) w := by
  subst hb
  go_simp
theorem run_eql_same {t : TypeId} {x y : Operand} {k : IntKind} {m : Int} (w : World) : (do eqGuard .eql t x y (.int k m) (.int k m); binOp .eql t (.int k m) (.int k m) : Sem Value).run Tryd.prog w = .ok (.bool true) w := by
  go_simp
theorem run_shr4 {o : Oper} {a : Act} {x : Int} {xT : TypeId} {px py : Operand} {d : TypeId} (ho : o.op = .binOp .shr xT px py d) (hx : a.eval px = .int .i64 x) (hy : a.eval py = .int .u64 4) (w : World) : (execOp a.eval o).run Tryd.prog w = .ok (.value (.int .i64 (x / 2 ^ 4))) w := by
  refine run_bin ho hx hy (fun w => ?_) w
  go_simp
end Go.Proofs.YtkfcikijmkgahaaDoor
namespace Go.Proofs.YtkfcikijmkgahaaDoor
open Go.RowKit Tw
def R78 : Value := .string ⟨(Lib.repeatL [48] 78).toArray⟩
def S79 : Value := .string ⟨(49 :: Lib.repeatL [48] 78).toArray⟩
/-- the texts that are wrong, and their errors -/
def L8 : List (List UInt8 × Int) := [([51, 47, 45, 50], 10), ([48, 51], 10), ([49, 47, 48], 10), ([], 10), ([50, 47, 52], 11), ([52, 47, 49], 11), ([45, 48], 11), (49 :: Lib.repeatL [48] 78, 3)]
end Go.Proofs.YtkfcikijmkgahaaDoor
/- Decimal digits: nine at a time, and back. Plain. -/
namespace Tw
open Go Go.Lib
def padL : Nat → Nat → List UInt8
  | 0, _ => []
  | k + 1, r => padL k (r / 10) ++ [UInt8.ofNat (48 + r % 10)]
theorem padL_length : ∀ k r, (padL k r).length = k
  | 0, _ => rfl
  | k + 1, r => by simp [padL, padL_length k]
theorem dec_small {x : Nat} (h : x < 10) : decDigits x = [UInt8.ofNat (48 + x)] := by rw [decDigits, dif_pos h]
theorem dec_big {x : Nat} (h : 10 ≤ x) : decDigits x = decDigits (x / 10) ++ [UInt8.ofNat (48 + x % 10)] := by rw [decDigits, dif_neg (by omega)]
theorem dec_split : ∀ (k q r : Nat), 0 < q → r < 10 ^ k → decDigits (q * 10 ^ k + r) = decDigits q ++ padL k r
  | 0, q, r, _, hr => by
    have : r = 0 := by simpa using hr
    subst this; simp [padL]
  | k + 1, q, r, hq, hr => by
    have hp : 0 < 10 ^ k := Nat.pow_pos (by omega)
    have e : q * 10 ^ (k + 1) + r = 10 * (q * 10 ^ k) + r := by rw [Nat.pow_succ, ← Nat.mul_assoc]; omega
    have hr' : r < 10 * 10 ^ k := by rw [Nat.pow_succ] at hr; omega
    have hq' : 0 < q * 10 ^ k := Nat.mul_pos hq hp
    rw [e, dec_big (by omega), show (10 * (q * 10 ^ k) + r) / 10 = q * 10 ^ k + r / 10 from by omega, show (10 * (q * 10 ^ k) + r) % 10 = r % 10 from by omega, dec_split k q (r / 10) hq (by omega), padL, List.append_assoc]
theorem dec_tail {low : Nat} (h : low < 1000000000) : (decDigits (1000000000 + low)).drop 1 = padL 9 low := by
  have h1 := dec_split 9 1 low (by omega) (by omega)
  rw [show 1 * 10 ^ 9 + low = 1000000000 + low from by omega, dec_small (x := 1) (by omega)] at h1
  rw [h1]; rfl
/-- one step of the decimal loop -/
theorem dec_step {x : Nat} (h : x / 1000000000 ≠ 0) : decDigits x = decDigits (x / 1000000000) ++ padL 9 (x % 1000000000) := by
  have h1 := dec_split 9 (x / 1000000000) (x % 1000000000) (by omega) (by omega)
  rw [← h1, show x / 1000000000 * 10 ^ 9 + x % 1000000000 = x from by omega]
theorem dec_length : ∀ (k x : Nat), x < 10 ^ (k + 1) → (decDigits x).length ≤ k + 1
  | 0, x, h => by rw [dec_small (by omega)]; simp
  | k + 1, x, h => by
    by_cases hx : x < 10
    · rw [dec_small hx]; simp
    · rw [dec_big (by omega)]
      have := dec_length k (x / 10) (by rw [Nat.pow_succ] at h; omega)
      simp; exact this
theorem dec_pos (x : Nat) : 0 < (decDigits x).length := by
  by_cases hx : x < 10
  · rw [dec_small hx]; simp
  · rw [dec_big (by omega)]; simp
theorem digit_nat {r : Nat} (h : r < 10) : (UInt8.ofNat (48 + r)).toNat = 48 + r := by
  rw [UInt8.toNat_ofNat']; omega
theorem dec_dig (x : Nat) : ∀ b ∈ decDigits x, 48 ≤ b.toNat ∧ b.toNat ≤ 57 := by
  induction x using Nat.strongRecOn with
  | ind x ih =>
    by_cases hx : x < 10
    · rw [dec_small hx]
      intro b hb
      simp only [List.mem_cons, List.not_mem_nil, or_false] at hb
      subst hb
      rw [digit_nat hx]; omega
    · rw [dec_big (by omega)]
      intro b hb
      rcases List.mem_append.1 hb with hb | hb
      · exact ih (x / 10) (by omega) b hb
      · simp only [List.mem_cons, List.not_mem_nil, or_false] at hb
        subst hb
        rw [digit_nat (by omega)]; omega
theorem dec_head {x : Nat} (h : 0 < x) : ((decDigits x).headD 0).toNat ≠ 48 := by
  induction x using Nat.strongRecOn with
  | ind x ih =>
    by_cases hx : x < 10
    · rw [dec_small hx]
      show (UInt8.ofNat (48 + x)).toNat ≠ 48
      rw [digit_nat hx]; omega
    · rw [dec_big (by omega)]
      have h1 := ih (x / 10) (by omega) (by omega)
      have h2 := dec_pos (x / 10)
      cases hl : decDigits (x / 10) with
      | nil => rw [hl] at h2; simp at h2
      | cons b l => rw [hl] at h1; exact h1
theorem dec_value (x : Nat) : (decDigits x).foldl (fun a b => a * 10 + (b.toNat - 48)) 0 = x := by
  induction x using Nat.strongRecOn with
  | ind x ih =>
    by_cases hx : x < 10
    · rw [dec_small hx]
      simp only [List.foldl_cons, List.foldl_nil]
      rw [digit_nat hx]; omega
    · rw [dec_big (by omega), List.foldl_append, ih (x / 10) (by omega)]
      simp only [List.foldl_cons, List.foldl_nil]
      rw [digit_nat (by omega)]; omega
theorem dec_inj {x y : Nat} (h : decDigits x = decDigits y) : x = y := by rw [← dec_value x, ← dec_value y, h]
end Tw
/- What the package-level variables that library functions read hold; the library's contracts in one form. -/
namespace Go.Proofs.YtkfcikijmkgahaaDoor
open Go.RowKit Tw
def Env (w : World) : Prop := Lib.TabIs Tryd.prog w "internal/strconv.uint64pow10" .u64 Lib.pow10Tab ∧ ∃ m, w.cell? ⟨0, 0, none⟩ = some (.int .i64 m)
theorem var_keep {P : Program} {w w' : World} {n : String} {cs : Array Value} (h : w.var? P n = some cs) (hb : Below w.heap.size w w') : w'.var? P n = some cs := by
  unfold World.var? at *
  cases hg : P.globalNamed n with
  | none => rw [hg] at h; cases h
  | some g =>
    rw [hg] at h
    simp only [Option.bind_some] at h ⊢
    cases hh : w.heap[g]? with
    | none => rw [hh] at h; cases h
    | some o => rw [hb.block g (lt_of_block hh)]; exact h
theorem cell_keep {w w' : World} {g k : Nat} {v : Value} (h : w.cell? ⟨g, k, none⟩ = some v) (hb : Below w.heap.size w w') : w'.cell? ⟨g, k, none⟩ = some v := by
  have hlt : g < w.heap.size := World.block_lt_of_cell? _ _ h
  rw [hb.cell (p := ⟨g, k, none⟩) hlt]; exact h
theorem Env.keep {w w' : World} (h : Env w) (hb : Below w.heap.size w w') : Env w' := ⟨var_keep h.1 hb, h.2.elim fun m hm => ⟨m, cell_keep hm hb⟩⟩
theorem Env.drewN {w : World} (h : Env w) (n : Nat) : Env (w.drewN n) := h.keep ⟨rfl, rfl, rfl, Nat.le_refl _, fun _ _ => rfl⟩
/-- what the proofs ask of the library's functions of texts; the shelf's contracts give it (Si) -/
class ShSt : Prop where
  itoa : ∀ (n : Nat), n ≤ 9223372036854775807 → ∀ w : World, Env w → Calls Tryd.prog 61 #[.int .i64 (n : Int)] w fun e w' => e = .returned (.string ⟨(Lib.decDigits n).toArray⟩) ∧ Below w.heap.size w w'
  cutPrefix : ∀ (l : List UInt8) (W : World), Calls Tryd.prog 42 #[.string ⟨l.toArray⟩, .string ⟨#[45]⟩] W fun e w' => e = .returned (.tuple #[.string ⟨(Lib.trimPrefix l [45]).toArray⟩, .bool (Lib.hasPrefix l [45])]) ∧ Below W.heap.size W w'
  cut : ∀ (l : List UInt8), l.length < 4294967281 → ∀ W : World, Env W → Calls Tryd.prog 43 #[.string ⟨l.toArray⟩, .string ⟨#[47]⟩] W fun e w' => e = .returned (.tuple #[.string ⟨(Lib.cut l [47]).1.toArray⟩, .string ⟨(Lib.cut l [47]).2.1.toArray⟩, .bool (Lib.cut l [47]).2.2]) ∧ Below W.heap.size W w'
theorem itoa_any [ShSt] (n : Nat) (h : n ≤ 9223372036854775807) (w : World) (hE : Env w) :
    Calls Tryd.prog 61 #[.int .i64 (n : Int)] w fun e w' => e = .returned (.string ⟨(Lib.decDigits n).toArray⟩) ∧ Below w.heap.size w w' := ShSt.itoa n h w hE
end Go.Proofs.YtkfcikijmkgahaaDoor
