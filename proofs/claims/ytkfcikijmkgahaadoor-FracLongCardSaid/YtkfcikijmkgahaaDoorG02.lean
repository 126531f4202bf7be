import Derived.Test.YtkfcikijmkgahaaDoorG00
import Derived.Test.YtkfcikijmkgahaaDoorG01
import Derived.Test.YtkfcikijmkgahaaDoorProg
import Derived.WalkKit
import Derived.WalkSpells
import Derived.WalkLawsBesides
import Derived.Handy
import Derived.Lib.Hide
import Derived.Deep.QuietTactic
import Derived.BigQuiet
import Derived.Deep.OwnRows
import Derived.Laws.BitsAllLaws
import Derived.Deep.RegionLaw
/- Part of the proof: Ba, Ar, As. -/
set_option linter.unusedVariables false
set_option linter.unusedSimpArgs false
set_option linter.unusedSectionVars false
/- Arrays of digits in memory; the length of a number. -/
namespace Go.Proofs.YtkfcikijmkgahaaDoor
open Go.RowKit Tw

/-- the number of digits without the zeros on top -/
def ln (f : Nat → Nat) : Nat → Nat
  | 0 => 0
  | n + 1 => if f n = 0 then ln f n else n + 1
theorem ln_le (f : Nat → Nat) : ∀ n, ln f n ≤ n
  | 0 => Nat.le_refl _
  | n + 1 => by
    unfold ln
    split
    · exact Nat.le_succ_of_le (ln_le f n)
    · exact Nat.le_refl _
theorem ln_zero (f : Nat → Nat) (n : Nat) (h : f n = 0) : ln f (n + 1) = ln f n := by rw [ln, if_pos h]
theorem ln_pos (f : Nat → Nat) (n : Nat) (h : ¬ f n = 0) : ln f (n + 1) = n + 1 := by rw [ln, if_neg h]

set_option maxHeartbeats 400000 in
theorem length_any (b o n cap : Nat) (f : Nat → Nat) (w : World) (hn : n ≤ 18) (hc : ∀ i, i < n → w.cell? ⟨b, o + i, none⟩ = some (.int .u32 (f i))) :
    Calls Tryd.prog 40 #[.slice (some ⟨b, o, none⟩) n cap] w fun e w' => e = .returned (.int .i64 (ln f n)) ∧ w = w' := by
  have HC := Lib.hid hc
  clear hc
  go_enter Tryd.func40, Tryd.ntmps40
  go_wp2
  go_loop [3] (fun v => ∃ k : Nat, k ≤ n ∧ Hid (ln f n = ln f k) ∧ v = .int .i64 k) (fun v => (intOf v).toNat)
  case atStart => exact ⟨n, Nat.le_refl _, rfl, rfl⟩
  case round =>
    obtain ⟨k, hk, he, rfl⟩ := hrel
    rcases Nat.eq_zero_or_pos k with rfl | hpos
    · go_wp2
      go_ret
      exact ⟨by rw [he.out]; rfl, rfl⟩
    · obtain ⟨j, rfl⟩ : ∃ j, k = j + 1 := ⟨k - 1, by omega⟩
      have hcell := HC.out j (by omega)
      by_cases hz : f j = 0
      · have hb : (((f j : Nat) : Int) == 0) = true := by simp [hz]
        have HZ := Lib.hid hz
        clear hz
        go_wp2
        go_round
        case rel => exact ⟨j, by omega, by unfold Hid; rw [he.out, ln_zero f j HZ.out], by go_num⟩
        case measure => (simp [intOf] <;> omega)
      · have hb : (((f j : Nat) : Int) == 0) = false := by simp [hz]
        go_wp2
        go_ret
        exact ⟨by rw [he.out, ln_pos f j hz]; rfl, rfl⟩
end Go.Proofs.YtkfcikijmkgahaaDoor
/- Arrays of digits as values and in memory. -/
namespace Go.Proofs.YtkfcikijmkgahaaDoor
open Go.RowKit Tw

/-- an array of n numbers of 32 bits -/
def fa (n : Nat) (f : Nat → Nat) : Array Value := ((List.range n).map fun i => Value.int .u32 (f i)).toArray
@[simp, go_sem] theorem fa_size (n : Nat) (f : Nat → Nat) : (fa n f).size = n := by simp [fa]
theorem fa_get {n i : Nat} (f : Nat → Nat) (h : i < n) : (fa n f)[i]? = some (.int .u32 (f i)) := by simp [fa, h]
theorem fa_set {n i v : Nat} (f : Nat → Nat) (_h : i < n) : (fa n f).setIfInBounds i (.int .u32 v) = fa n (fun j => if j = i then v else f j) := by
  apply Array.ext_getElem?
  intro j
  rw [Array.getElem?_setIfInBounds]
  by_cases hj : j < n
  · rw [fa_get _ hj, fa_get _ hj]
    by_cases e : i = j
    · subst e; simp [hj]
    · rw [if_neg e, if_neg (fun h => e h.symm)]
  · simp [fa, hj]
    intro e; omega
theorem fa_congr {n : Nat} {f g : Nat → Nat} (h : ∀ i, i < n → f i = g i) : fa n f = fa n g := by
  apply Array.ext_getElem?
  intro j
  by_cases hj : j < n
  · rw [fa_get _ hj, fa_get _ hj, h j hj]
  · simp [fa, hj]
theorem fa_setd {n i v P : Nat} (h : i < n) (hv : v < 4294967296) : (fa n (dg P)).setIfInBounds i (.int .u32 v) = fa n (dg (setd P i v)) := by
  rw [fa_set _ h]
  refine fa_congr fun j _ => ?_
  by_cases e : j = i
  · subst e; rw [if_pos rfl, dg_setd_same _ _ _ hv]
  · rw [if_neg e, dg_setd_other _ _ _ _ hv e]
theorem fa_one {n : Nat} {f : Nat → Nat} : ∀ v ∈ (fa n f).toList, v.oneCell' = true := by
  intro v hv
  simp only [fa, List.mem_map] at hv
  obtain ⟨i, _, rfl⟩ := hv
  rfl

/-- a number, a wide one -/
def num (x : Nat) : Value := .agg (fa 8 (dg x))
def wid (x : Nat) : Value := .agg (fa 18 (dg x))

/-- a cell of a block that is known -/
theorem blk_cell {w : World} {g n i : Nat} {f : Nat → Nat} {t : TypeId} (h : w.heap[g]? = some (.cells (fa n f) t (0, 0))) (hi : i < n) : w.cell? ⟨g, i, none⟩ = some (.int .u32 (f i)) := by
  rw [cell_of_row w g i _ t (0, 0) h, fa_get f hi]
theorem blk_free {w : World} {g i : Nat} {cs : Array Value} {t : TypeId} (h : w.heap[g]? = some (.cells cs t (0, 0))) : w.frozen? ⟨g, i, none⟩ = false := frozen_of_row w g i cs t h
theorem blk_set {w : World} {g n i v P : Nat} {t : TypeId} (h : w.heap[g]? = some (.cells (fa n (dg P)) t (0, 0))) (hi : i < n) (hv : v < 4294967296) :
    (w.setCell ⟨g, i, none⟩ (.int .u32 v)).heap[g]? = some (.cells (fa n (dg (setd P i v))) t (0, 0)) := by
  rw [heap_setCell_same w g i _ t _ h, fa_setd hi hv]
theorem fa_zero18 : fa 18 (fun _ => 0) = #[.int .u32 0, .int .u32 0, .int .u32 0, .int .u32 0, .int .u32 0, .int .u32 0, .int .u32 0, .int .u32 0, .int .u32 0, .int .u32 0, .int .u32 0, .int .u32 0, .int .u32 0, .int .u32 0, .int .u32 0, .int .u32 0, .int .u32 0, .int .u32 0] := rfl
theorem fa_zero8 : fa 8 (fun _ => 0) = #[.int .u32 0, .int .u32 0, .int .u32 0, .int .u32 0, .int .u32 0, .int .u32 0, .int .u32 0, .int .u32 0] := rfl
theorem fa_whole (n : Nat) (f : Nat → Nat) : fa n f = (((fa n f).toList.drop 0).take n).toArray := by
  have : ((fa n f).toList.drop 0).take n = (fa n f).toList := by rw [List.drop_zero, List.take_of_length_le (by simp)]
  rw [this]
theorem fa_over (n : Nat) (f g : Nat → Nat) : fa n f = ((fa n g).toList.take 0 ++ (Value.agg (fa n f)).cells.toList ++ (fa n g).toList.drop (0 + (Value.agg (fa n f)).cells.toList.length)).toArray := by
  have h : (fa n g).toList.drop (0 + (Value.agg (fa n f)).cells.toList.length) = [] := List.drop_eq_nil_of_le (by simp [Value.cells])
  rw [h]; simp [Value.cells]
theorem under65 : ∃ d, Tryd.prog.underlying 59 = some d ∧ aggD d = true := ⟨_, Tryd.underlying59, rfl⟩
theorem under25 : ∃ d, Tryd.prog.underlying 24 = some d ∧ aggD d = true := ⟨_, Tryd.underlying24, rfl⟩
theorem under27 : ∃ d, Tryd.prog.underlying 26 = some d ∧ aggD d = true := ⟨_, Tryd.underlying26, rfl⟩
theorem size65 : (Tryd.prog.info? 59).map (·.size) = some 18 := by kernel_rfl
theorem size25 : (Tryd.prog.info? 24).map (·.size) = some 8 := by kernel_rfl
theorem size27 : (Tryd.prog.info? 26).map (·.size) = some 17 := by kernel_rfl
theorem heap1 (w : World) (A : Obj) : (w.alloc A).heap[w.heap.size]? = some A := heap_alloc_new w A
theorem size1 (w : World) (A : Obj) : (w.alloc A).heap.size = w.heap.size + 1 := by simp
theorem heap3 (w : World) (A B C : Obj) : (((w.alloc A).alloc B).alloc C).heap[w.heap.size]? = some A ∧ (((w.alloc A).alloc B).alloc C).heap[w.heap.size + 1]? = some B ∧ (((w.alloc A).alloc B).alloc C).heap[w.heap.size + 1 + 1]? = some C := by
  refine ⟨?_, ?_, ?_⟩
  · rw [Below.heap_alloc _ C _ (by simp; omega), Below.heap_alloc _ B _ (by simp), heap1]
  · rw [Below.heap_alloc _ C _ (by simp), ← size1 w A, heap1]
  · rw [← size1 w A, ← size1 _ B, heap1]
theorem below3 (w : World) (A B C : Obj) : Below w.heap.size w (((w.alloc A).alloc B).alloc C) :=
  (((Below.refl _ _).alloc (Nat.le_refl _) _).alloc (by simp) _).alloc (by simp; omega) _
theorem heap2 (w : World) (A B : Obj) : ((w.alloc A).alloc B).heap[w.heap.size]? = some A ∧ ((w.alloc A).alloc B).heap[w.heap.size + 1]? = some B := by
  refine ⟨?_, ?_⟩
  · rw [Below.heap_alloc _ B _ (by simp), heap1]
  · rw [← size1 w A, heap1]
theorem below2 (w : World) (A B : Obj) : Below w.heap.size w ((w.alloc A).alloc B) :=
  ((Below.refl _ _).alloc (Nat.le_refl _) _).alloc (by simp) _
theorem belowN {B : Nat} {a w : World} (h : Below B a w) (n : Nat) : Below B a (w.drewN n) := ⟨h.os, h.tape, h.output, h.size, h.block⟩
theorem below1 (w : World) (A : Obj) : Below w.heap.size w (w.alloc A) := (Below.refl _ _).alloc (Nat.le_refl _) _

section
variable {P : Program}
/-- a whole array stored over another one -/
theorem wpList_sta {ops : Array Oper} {rest : List Oper} {o : Oper} {a : Act} {w : World} {Q : Exit → Act → World → Prop} (hgd : o.guard = none) {ty t : TypeId} {x y : Operand} {g n : Nat} {f f' : Nat → Nat} (ho : o.op = .store ty x y)
    (hx : a.eval x = .pointer (some ⟨g, 0, none⟩)) (hv : a.eval y = .agg (fa n f)) (hg : w.heap[g]? = some (.cells (fa n f') t (0, 0))) (hi : (P.info? ty).map (·.size) = some n)
    (h : wpList P ops Q rest (a.put o.dst undef) (w.setRow g (fa n f))) : wpList P ops Q (o :: rest) a w :=
  wpList_stm hgd ho hx hv hg (by rw [hi]; simp [Value.cells]) (by simp [Value.cells]) fa_one (fa_over _ _ _) h
theorem wpList_lda {ops : Array Oper} {rest : List Oper} {o : Oper} {a : Act} {w : World} {Q : Exit → Act → World → Prop} (hgd : o.guard = none) {ty t : TypeId} {x : Operand} {g n : Nat} {f : Nat → Nat} {d : TypeDesc} (ho : o.op = .load ty x)
    (hx : a.eval x = .pointer (some ⟨g, 0, none⟩)) (hg : w.heap[g]? = some (.cells (fa n f) t (0, 0))) (hu : P.underlying ty = some d) (hd : aggD d = true) (hi : (P.info? ty).map (·.size) = some n)
    (h : wpList P ops Q rest (a.put o.dst (.agg (fa n f))) w) : wpList P ops Q (o :: rest) a w :=
  wpList_ld hgd ho hx hg hu hd hi (by simp) (fa_whole _ _) h
end

theorem ret_int {k : IntKind} {a b : Int} (h : a = b) : Ending.returned (.int k a) = .returned (.int k b) := by rw [h]
theorem quiet_left {P : Program} {f : FuncId} {args : Array Value} {w : World} {n : Nat} {v : Value}
    (h : Calls P f args (w.drewN n) fun e w' => e = .returned v ∧ w.drewN n = w') : Calls P f args (w.drewN n) fun e w'' => e = .returned v ∧ ∃ m, w'' = w.drewN m :=
  h.mono fun _ _ ⟨he, hm⟩ => ⟨he, n, hm.symm⟩
theorem heap4 (w : World) (A B C D : Obj) : ((((w.alloc A).alloc B).alloc C).alloc D).heap[w.heap.size]? = some A ∧ ((((w.alloc A).alloc B).alloc C).alloc D).heap[w.heap.size + 1]? = some B ∧
    ((((w.alloc A).alloc B).alloc C).alloc D).heap[w.heap.size + 1 + 1]? = some C ∧ ((((w.alloc A).alloc B).alloc C).alloc D).heap[w.heap.size + 1 + 1 + 1]? = some D := by
  have h := heap3 w A B C
  refine ⟨?_, ?_, ?_, ?_⟩
  · rw [Below.heap_alloc _ D _ (by simp; omega)]; exact h.1
  · rw [Below.heap_alloc _ D _ (by simp)]; exact h.2.1
  · rw [Below.heap_alloc _ D _ (by simp)]; exact h.2.2
  · rw [← size1 w A, ← size1 _ B, ← size1 _ C, heap1]
theorem below4 (w : World) (A B C D : Obj) : Below w.heap.size w ((((w.alloc A).alloc B).alloc C).alloc D) :=
  (below3 w A B C).alloc (by simp; omega) _
/-- one limb of a difference, with what is borrowed -/
theorem sub_limb {x y c : Nat} (hx : x < 4294967296) (hy : y < 4294967296) (hc : c ≤ 1) :
    ∃ v c' : Nat, v < 4294967296 ∧ c' ≤ 1 ∧ v + y + c = x + c' * 4294967296 ∧
      IntKind.u64.wrap (IntKind.u64.wrap ((x : Int) - y) - c) % 4294967296 = v ∧ IntKind.u64.wrap (IntKind.u64.wrap ((x : Int) - y) - c) / 9223372036854775808 = c' := by
  simp only [IntKind.wrap_u64]
  by_cases h : x < y + c
  · exact ⟨x + 4294967296 - y - c, 1, by omega, by omega, by omega, by omega, by omega⟩
  · exact ⟨x - y - c, 0, by omega, by omega, by omega, by omega, by omega⟩
theorem ln_lt {x : Nat} : ∀ n, x < R n → x < R (ln (dg x) n)
  | 0, h => h
  | n + 1, h => by
    by_cases hz : dg x n = 0
    · rw [ln_zero _ _ hz]
      refine ln_lt n ?_
      have := dg_split x n
      rw [Nat.div_eq_of_lt h, hz, Nat.zero_mul, Nat.zero_mul] at this
      have h2 := mod_lt_R x n
      omega
    · rw [ln_pos _ _ hz]; exact h
theorem ln_ge {x n : Nat} (h : 0 < ln (dg x) n) : dg x (ln (dg x) n - 1) ≠ 0 := by
  induction n with
  | zero => simp [ln] at h
  | succ n ih =>
    by_cases hz : dg x n = 0
    · rw [ln_zero _ _ hz] at h ⊢; exact ih h
    · rw [ln_pos _ _ hz]; exact hz
theorem or64 {x y : Nat} (hx : x < 4294967296) (hy : y < 4294967296) : bits .or .u64 ((y : Int) * 4294967296) (x : Int) = ((y * 4294967296 + x : Nat) : Int) := by
  rw [show (y : Int) * 4294967296 = ((y * 4294967296 : Nat) : Int) from by omega, u64_or_nat _ _ (by omega) (by omega)]
  have h := Nat.two_pow_add_eq_or_of_lt (i := 32) (b := x) (by omega) y
  rw [show (2 : Nat) ^ 32 = 4294967296 from rfl, Nat.mul_comm] at h
  rw [h]
theorem splice_zero {n m : Nat} {f g : Nat → Nat} (h : m ≤ n) (hz : ∀ i, i < n → m ≤ i → g i = f i) : (splice (fa n g).toList 0 (fa m f).toList).toArray = fa n f := by
  apply Array.ext_getElem?
  intro j
  unfold splice
  simp only [List.take_zero, List.nil_append, Nat.zero_add]
  rw [List.getElem?_toArray, List.getElem?_append, List.getElem?_drop]
  simp only [Array.length_toList, fa_size]
  by_cases hj : j < m
  · rw [if_pos hj, Array.getElem?_toList, fa_get _ hj, fa_get _ (by omega)]
  · rw [if_neg hj, Array.getElem?_toList]
    by_cases hj2 : j < n
    · rw [show m + (j - m) = j from by omega, fa_get _ hj2, fa_get _ hj2, hz j hj2 (by omega)]
    · rw [show m + (j - m) = j from by omega, Array.getElem?_eq_none (by simp; omega), Array.getElem?_eq_none (by simp; omega)]
theorem under74 : Tryd.prog.underlying 68 = some (.slice 22) := Tryd.underlying68
theorem size24 : (Tryd.prog.info? 22).map (·.size) = some 1 := by kernel_rfl
theorem fa_dg0 (n : Nat) : fa n (fun _ => 0) = fa n (dg 0) := fa_congr fun i _ => (dg_of_lt' (R_pos 0) (Nat.zero_le i)).symm
theorem lt_R_of_le {x j k : Nat} (h : x < R j) (hk : j ≤ k) : x < R k := Nat.lt_of_lt_of_le h (R_le hk)
theorem wrapmod {v : Nat} (hv : v < 4294967296) : IntKind.u64.wrap (v : Int) % 4294967296 = (v : Int) := by
  simp only [IntKind.wrap_u64]; omega
theorem only_drewN {a w : World} {row : Option Nat} (h : a.grownBy w row) (n : Nat) : a.grownBy (w.drewN n) row := ⟨h.os, h.tape, h.output, h.size, h.block⟩
theorem only_drew {a w : World} {row : Option Nat} (h : a.grownBy w row) : a.grownBy w.drew row := ⟨h.os, h.tape, h.output, h.size, h.block⟩
theorem only_setCell {a w : World} {g i : Nat} (h : a.grownBy w (some g)) (u : Value) : a.grownBy (w.setCell ⟨g, i, none⟩ u) (some g) :=
  ⟨h.os, h.tape, h.output, by simpa [World.setCell] using h.size, fun k hk hne => (Below.heap_setCell w _ u k (by
    rintro rfl
    exact hne rfl)).trans (h.block k hk hne)⟩
theorem only_below {a w w' : World} {g : Nat} (h : a.grownBy w (some g)) (hb : Below w.heap.size w w') : a.grownBy w' (some g) :=
  ⟨hb.os.trans h.os, hb.tape.trans h.tape, hb.output.trans h.output, Nat.le_trans h.size hb.size, fun k hk hne => (hb.block k (Nat.lt_of_lt_of_le hk h.size)).trans (h.block k hk hne)⟩
/-- '>=' on numbers, decided by the prover (a long numeral on the right) -/
theorem wpList_geq {P : Program} {ops : Array Oper} {rest : List Oper} {o : Oper} {a : Act} {w : World} {Q : Exit → Act → World → Prop} (hgd : o.guard = none) {t t' : TypeId} {x y : Operand} {k : IntKind} {m n : Int} (b : Bool) (ho : o.op = .binOp .geq t x y t')
    (hx : a.eval x = .int k m) (hy : a.eval y = .int k n) (hb : decide (n ≤ m) = b) (h : wpList P ops Q rest (a.put o.dst (.bool b)) w) : wpList P ops Q (o :: rest) a w :=
  wpList_plain hgd fun _ hK => by
    subst hb
    unfold Oper.wp
    simp only [execOp, ho, hx, hy, eqGuard_geq, binOp_geq, ge_iff_le, Sem.run_bind, Sem.run_pure, Result.andThen_ok]
    exact hK _ _ h

section
variable {P : Program} {W0 : World}
/-- loads and stores of whole arrays, over known blocks -/
theorem yb_lda {o : Oper} {a : Act} {K : List (Nat × Obj)} {ty t : TypeId} {x : Operand} {g n : Nat} {f : Nat → Nat} {d : TypeDesc} (ho : o.op = .load ty x) (hx : a.eval x = .pointer (some ⟨g, 0, none⟩))
    (hm : (g, .cells (fa n f) t (0, 0)) ∈ K) (hu : P.underlying ty = some d) (hd : aggD d = true) (hi : (P.info? ty).map (·.size) = some n) :
    ∀ w, KS W0 K w → ∀ K' : Act → World → Prop, (∀ w', Below w.heap.size w w' → K' (a.put o.dst (.agg (fa n f))) w') → Oper.wp P o a w K' (fun _ _ _ => False) :=
  yb_load ho hx hm hu hd hi (by simp) (fa_whole _ _)
theorem st_a {o : Oper} {a : Act} {K K' : List (Nat × Obj)} {ty t : TypeId} {x y : Operand} {g n : Nat} {f f' : Nat → Nat} (ho : o.op = .store ty x y) (hx : a.eval x = .pointer (some ⟨g, 0, none⟩)) (hv : a.eval y = .agg (fa n f))
    (hm : (g, .cells (fa n f') t (0, 0)) ∈ K) (hB : W0.heap.size ≤ g) (hi : (P.info? ty).map (·.size) = some n)
    (hK : ∀ p ∈ K', p = (g, .cells (fa n f) t (0, 0)) ∨ (p ∈ K ∧ p.1 ≠ g)) : ∀ w, KS W0 K w → ∃ w', (execOp a.eval o).run P w = .ok .skip w' ∧ KS W0 K' w' :=
  st_row ho hx hv hm hB (by rw [hi]; simp [Value.cells]) (by simp [Value.cells]) fa_one (fa_over _ _ _) hK
end
theorem len65 : Tryd.prog.arrayLen 59 = 18 := by kernel_rfl
theorem len25 : Tryd.prog.arrayLen 24 = 8 := by kernel_rfl
theorem arr65 : Tryd.prog.underlying 59 = some (.array (Tryd.prog.arrayLen 59) (Tryd.prog.elem 59)) := by kernel_rfl
theorem arr25 : Tryd.prog.underlying 24 = some (.array (Tryd.prog.arrayLen 24) (Tryd.prog.elem 24)) := by kernel_rfl
theorem elem65 (w : World) : (Go.sizeOf (Tryd.prog.elem 59)).run Tryd.prog w = .ok 1 w := by kernel_rfl
theorem elem25 (w : World) : (Go.sizeOf (Tryd.prog.elem 24)).run Tryd.prog w = .ok 1 w := by kernel_rfl
theorem run_slice65 (g l h : Nat) (x y : Int) (hx : x = l) (hy : y = h) (hl : l < 18) (hlh : l ≤ h) (hh : h ≤ 18) (W : World) :
    (Instr.sliceAt 59 (.pointer (some ⟨g, 0, none⟩)) (some (.int .i64 x)) (some (.int .i64 y)) none).run Tryd.prog W = .ok (.slice (some ⟨g, l, none⟩) (h - l) (18 - l)) W := by
  subst hx hy
  rw [run_sliceAt_array_lh W 59 _ arr65 .i64 .i64 (l : Int) (h : Int) (by omega) (by omega) (by rw [len65]; omega), elem65]
  simp only [Result.andThen_ok, slicedAt, len65, Int.toNat_natCast]
  rw [if_neg (by omega), Nat.mul_one]
  have hadd : (⟨g, 0, none⟩ : Addr).add l = ⟨g, l, none⟩ := by unfold Addr.add; split <;> simp_all
  rw [hadd]
theorem run_slice25 (g h : Nat) (y : Int) (hy : y = h) (hh : h ≤ 8) (W : World) :
    (Instr.sliceAt 24 (.pointer (some ⟨g, 0, none⟩)) none (some (.int .i64 y)) none).run Tryd.prog W = .ok (.slice (some ⟨g, 0, none⟩) h 8) W := by
  subst hy
  rw [run_sliceAt_array_h W 24 _ arr25 .i64 (h : Int) (by omega) (by rw [len25]; omega), elem25]
  simp only [Result.andThen_ok, slicedAt, len25, Int.toNat_natCast, Nat.zero_mul, Nat.sub_zero]
  rw [if_neg (by omega), Addr.add_zero']
end Go.Proofs.YtkfcikijmkgahaaDoor
namespace Go.Proofs.YtkfcikijmkgahaaDoor
open Go.RowKit Tw
theorem index25_0 (g : Nat) (W : World) : (Instr.indexAt 24 (.pointer (some ⟨g, 0, none⟩)) (.int .i64 0)).run Tryd.prog W = .ok (.pointer (some ⟨g, 0, none⟩)) W := by kernel_rfl
/-- fractions as values: the sign, the numerator's limbs, the denominator's -/
def frcC (neg : Bool) (n d : Nat) : Array Value := #[.bool neg] ++ fa 8 (dg n) ++ fa 8 (dg d)
def frc (neg : Bool) (n d : Nat) : Value := .agg (frcC neg n d)
@[simp, go_sem] theorem frcC_size (neg : Bool) (n d : Nat) : (frcC neg n d).size = 17 := by simp [frcC]
theorem frc_num (neg : Bool) (n d : Nat) : fa 8 (dg n) = (((frcC neg n d).toList.drop 1).take 8).toArray := by
  simp [frcC]
theorem frc_den (neg : Bool) (n d : Nat) : fa 8 (dg d) = (((frcC neg n d).toList.drop 9).take 8).toArray := by
  have h : (frcC neg n d).toList = (Value.bool neg :: (fa 8 (dg n)).toList) ++ (fa 8 (dg d)).toList := by simp [frcC]
  rw [h, List.drop_append]
  simp
  rw [List.take_of_length_le (by simp), List.drop_eq_nil_of_le (by simp), List.nil_append, Array.toArray_toList]
theorem frc_whole (neg : Bool) (n d : Nat) : frcC neg n d = (((frcC neg n d).toList.drop 0).take 17).toArray := by
  have : ((frcC neg n d).toList.drop 0).take 17 = (frcC neg n d).toList := by rw [List.drop_zero, List.take_of_length_le (by simp)]
  rw [this]
theorem frc_neg (neg : Bool) (n d : Nat) : (frcC neg n d)[0]? = some (.bool neg) := by simp [frcC]
theorem frc_one {neg : Bool} {n d : Nat} : ∀ v ∈ (frcC neg n d).toList, v.oneCell' = true := by
  intro v hv
  simp only [frcC, Array.toList_append, List.mem_append] at hv
  rcases hv with (hv | hv) | hv
  · simp at hv; subst hv; rfl
  · exact fa_one v hv
  · exact fa_one v hv
theorem frc_over (neg neg' : Bool) (n d n' d' : Nat) : frcC neg n d = ((frcC neg' n' d').toList.take 0 ++ (Value.agg (frcC neg n d)).cells.toList ++ (frcC neg' n' d').toList.drop (0 + (Value.agg (frcC neg n d)).cells.toList.length)).toArray := by
  have h : (frcC neg' n' d').toList.drop (0 + (Value.agg (frcC neg n d)).cells.toList.length) = [] := List.drop_eq_nil_of_le (by simp [Value.cells])
  rw [h]; simp [Value.cells]
theorem frc_zero : frcC false 0 0 = #[.bool false, .int .u32 0, .int .u32 0, .int .u32 0, .int .u32 0, .int .u32 0, .int .u32 0, .int .u32 0, .int .u32 0, .int .u32 0, .int .u32 0, .int .u32 0, .int .u32 0, .int .u32 0, .int .u32 0, .int .u32 0, .int .u32 0] := by
  unfold frcC; rw [← fa_dg0, fa_zero8]; rfl
theorem frc_cell {w : World} {g : Nat} {neg : Bool} {n d : Nat} {t : TypeId} (h : w.heap[g]? = some (.cells (frcC neg n d) t (0, 0))) : w.cell? ⟨g, 0, none⟩ = some (.bool neg) := by
  rw [cell_of_row w g 0 _ t (0, 0) h, frc_neg]

end Go.Proofs.YtkfcikijmkgahaaDoor
namespace Tw
open Go Go.RowKit Go.Proofs.YtkfcikijmkgahaaDoor
/-- a variable that is made and stored into, behind what is known -/
theorem KS.newvar {w w1 : World} {K : List (Nat × Obj)} {cs cs' : Array Value} {t : TypeId} (h : KS w K w1) : KS w ((w1.heap.size, .cells cs' t (0, 0)) :: K) ((w1.alloc (.cells cs t (0, 0))).setRow w1.heap.size cs') := by
  refine KS.setRow (h.alloc (.cells cs t (0, 0))) h.1.size (heap1 _ _) fun p hp => ?_
  rcases List.mem_cons.1 hp with rfl | hp
  · exact .inl rfl
  · exact .inr ⟨List.mem_cons_of_mem _ hp, fun e => by have := lt_of_block (h.2 p hp); omega⟩
theorem KS.fresh {w w1 : World} {K : List (Nat × Obj)} (h : KS w K w1) : w.heap.size ≤ w1.heap.size ∧ ∀ p ∈ K, p.1 < w1.heap.size := ⟨h.1.size, fun p hp => lt_of_block (h.2 p hp)⟩
theorem KS.drewN {w w1 : World} {K : List (Nat × Obj)} (h : KS w K w1) (n : Nat) : KS w K (w1.drewN n) := ⟨belowN h.1 n, h.2⟩
theorem KS.four (w : World) (A B C D : Obj) : KS w [(w.heap.size, A), (w.heap.size + 1, B), (w.heap.size + 1 + 1, C), (w.heap.size + 1 + 1 + 1, D)] ((((w.alloc A).alloc B).alloc C).alloc D) := by
  have h := heap4 w A B C D
  refine ⟨below4 w A B C D, ?_⟩
  simp only [List.forall_mem_cons]
  exact ⟨h.1, h.2.1, h.2.2.1, h.2.2.2, fun _ h => by cases h⟩
theorem KS.three (w : World) (A B C : Obj) : KS w [(w.heap.size, A), (w.heap.size + 1, B), (w.heap.size + 1 + 1, C)] (((w.alloc A).alloc B).alloc C) := by
  have h := heap3 w A B C
  refine ⟨below3 w A B C, ?_⟩
  simp only [List.forall_mem_cons]
  exact ⟨h.1, h.2.1, h.2.2, fun _ h => by cases h⟩
theorem KS.two (w : World) (A B : Obj) : KS w [(w.heap.size, A), (w.heap.size + 1, B)] ((w.alloc A).alloc B) := by
  have h := heap2 w A B
  refine ⟨below2 w A B, ?_⟩
  simp only [List.forall_mem_cons]
  exact ⟨h.1, h.2, fun _ h => by cases h⟩
theorem KS.one (w : World) (A : Obj) : KS w [(w.heap.size, A)] (w.alloc A) := by
  refine ⟨below1 w A, ?_⟩
  simp only [List.forall_mem_cons]
  exact ⟨heap1 w A, fun _ h => by cases h⟩
/-- a store into a known block -/
theorem KS.put {w w1 : World} {K K' : List (Nat × Obj)} {g : Nat} {cs cs' : Array Value} {t : TypeId} (h : KS w K w1) (hg : w.heap.size ≤ g) (hm : (g, .cells cs t (0, 0)) ∈ K) (hK : ∀ p ∈ K', p = (g, .cells cs' t (0, 0)) ∨ (p ∈ K ∧ p.1 ≠ g)) : KS w K' (w1.setRow g cs') :=
  KS.setRow h hg (h.2 _ hm) hK
end Tw
