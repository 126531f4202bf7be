import Derived.Test.YtalmflgkbmnghaaGreatDoorRM00
import Derived.Test.YtalmflgkbmnghaaGreatDoorZCc00
import Derived.Laws.AppendOwn
import Derived.Laws.BytesArg
import Derived.Laws.IdiomStrings
import Derived.Lib.FrozenHead
import Derived.Outline
import Derived.Deep.Cut
import Derived.Deep.Upon
import Derived.Laws.OwnMore
import Derived.Laws.Small
/- Part of the proof: Sa, Sb, Sn, Sj, Y1, Y7, Y2, Y4. -/
set_option linter.unusedVariables false
set_option linter.unusedSimpArgs false
set_option linter.unusedSectionVars false
/- Numbers of all kinds, strings, cells of known blocks: steps over any program. -/
namespace Tw
open Go Go.RowKit Go.Proofs.YtalmflgkbmnghaaGreatDoor
section
variable {P : Program} {W0 : Base} {T : TypeId} {px py : Operand}

theorem wr_i64 {z : Nat} (h : z ≤ 9223372036854775807) : IntKind.i64.wrap (z : Int) = (z : Int) := by
 unfold IntKind.wrap; simp [IntKind.bits, IntKind.signed]; omega
theorem wi_i64 {z : Int} (h : -9223372036854775808 ≤ z ∧ z ≤ 9223372036854775807) : IntKind.i64.wrap z = z := by
 unfold IntKind.wrap; simp [IntKind.bits, IntKind.signed]; omega
theorem wr_u8 {z : Nat} (h : z ≤ 255) : IntKind.u8.wrap (z : Int) = (z : Int) := by
 unfold IntKind.wrap; simp [IntKind.bits, IntKind.signed]; omega
theorem wr_u32 {z : Nat} (h : z ≤ 4294967295) : IntKind.u32.wrap (z : Int) = (z : Int) := by
 unfold IntKind.wrap; simp [IntKind.bits, IntKind.signed]; omega
theorem wr_u64 {z : Nat} (h : z ≤ 18446744073709551615) : IntKind.u64.wrap (z : Int) = (z : Int) := by
 unfold IntKind.wrap; simp [IntKind.bits, IntKind.signed]; omega
theorem wi_u64 {z : Int} (h : 0 ≤ z ∧ z ≤ 18446744073709551615) : IntKind.u64.wrap z = z := by
 unfold IntKind.wrap; simp [IntKind.bits, IntKind.signed]; omega
theorem bn_add {k : IntKind} {x y z : Nat} (h : x + y = z) (hw : k.wrap (z : Int) = (z : Int)) (w : World) : (do eqGuard .add T px py (.int k (x : Int)) (.int k (y : Int)); binOp .add T (.int k (x : Int)) (.int k (y : Int)) : Sem Value).run P w = .ok (.int k (z : Int)) w := by
 have e := (show (x : Int) + (y : Int) = (z : Int) by omega)
 simp [eqGuard, binOp, Op.intArith, e, hw]
theorem bi_add {k : IntKind} {x y z : Int} (h : x + y = z) (hw : k.wrap z = z) (w : World) : (do eqGuard .add T px py (.int k x) (.int k y); binOp .add T (.int k x) (.int k y) : Sem Value).run P w = .ok (.int k z) w := by
 simp [eqGuard, binOp, Op.intArith, h, hw]
theorem bn_sub {k : IntKind} {x y z : Nat} (h : x - y = z) (hle : y ≤ x) (hw : k.wrap (z : Int) = (z : Int)) (w : World) : (do eqGuard .sub T px py (.int k (x : Int)) (.int k (y : Int)); binOp .sub T (.int k (x : Int)) (.int k (y : Int)) : Sem Value).run P w = .ok (.int k (z : Int)) w := by
 have e := (show (x : Int) - (y : Int) = (z : Int) by omega)
 simp [eqGuard, binOp, Op.intArith, e, hw]
theorem bi_sub {k : IntKind} {x y z : Int} (h : x - y = z) (hw : k.wrap z = z) (w : World) : (do eqGuard .sub T px py (.int k x) (.int k y); binOp .sub T (.int k x) (.int k y) : Sem Value).run P w = .ok (.int k z) w := by
 simp [eqGuard, binOp, Op.intArith, h, hw]
theorem bn_mul {k : IntKind} {x y z : Nat} (h : x * y = z) (hw : k.wrap (z : Int) = (z : Int)) (w : World) : (do eqGuard .mul T px py (.int k (x : Int)) (.int k (y : Int)); binOp .mul T (.int k (x : Int)) (.int k (y : Int)) : Sem Value).run P w = .ok (.int k (z : Int)) w := by
 have e := (show (x : Int) * (y : Int) = (z : Int) by rw [← h]; simp)
 simp [eqGuard, binOp, Op.intArith, e, hw]
theorem bi_mul {k : IntKind} {x y z : Int} (h : x * y = z) (hw : k.wrap z = z) (w : World) : (do eqGuard .mul T px py (.int k x) (.int k y); binOp .mul T (.int k x) (.int k y) : Sem Value).run P w = .ok (.int k z) w := by
 simp [eqGuard, binOp, Op.intArith, h, hw]
theorem bn_quo {k : IntKind} {x y z : Nat} (h : x / y = z) (hy : 0 < y) (hw : k.wrap (z : Int) = (z : Int)) (w : World) : (do eqGuard .quo T px py (.int k (x : Int)) (.int k (y : Int)); binOp .quo T (.int k (x : Int)) (.int k (y : Int)) : Sem Value).run P w = .ok (.int k (z : Int)) w := by
 have e : Int.tdiv (x : Int) (y : Int) = (z : Int) := by rw [← h]; exact (Int.tdiv_eq_ediv_of_nonneg Tw.om).trans (by simp)
 have hy0 : ¬ y = 0 := by omega
 simp [eqGuard, binOp, Op.intDiv, e, hw, hy0]
theorem bn_rem {k : IntKind} {x y z : Nat} (h : x % y = z) (hy : 0 < y) (w : World) : (do eqGuard .rem T px py (.int k (x : Int)) (.int k (y : Int)); binOp .rem T (.int k (x : Int)) (.int k (y : Int)) : Sem Value).run P w = .ok (.int k (z : Int)) w := by
 have e : Int.tmod (x : Int) (y : Int) = (z : Int) := by rw [← h]; exact (Int.tmod_eq_emod_of_nonneg Tw.om).trans (by simp)
 have hy0 : ¬ y = 0 := by omega
 simp [eqGuard, binOp, Op.intDiv, e, hy0]
theorem bn_lss {k : IntKind} {x y : Nat} {b : Bool} (h : decide (x < y) = b) (w : World) : (do eqGuard .lss T px py (.int k (x : Int)) (.int k (y : Int)); binOp .lss T (.int k (x : Int)) (.int k (y : Int)) : Sem Value).run P w = .ok (.bool b) w := by
 subst h
 simp [eqGuard, binOp, Op.intCmp]
theorem bi_lss {k : IntKind} {x y : Int} {b : Bool} (h : decide (x < y) = b) (w : World) : (do eqGuard .lss T px py (.int k x) (.int k y); binOp .lss T (.int k x) (.int k y) : Sem Value).run P w = .ok (.bool b) w := by
 subst h
 simp [eqGuard, binOp, Op.intCmp]
theorem bn_gtr {k : IntKind} {x y : Nat} {b : Bool} (h : decide (y < x) = b) (w : World) : (do eqGuard .gtr T px py (.int k (x : Int)) (.int k (y : Int)); binOp .gtr T (.int k (x : Int)) (.int k (y : Int)) : Sem Value).run P w = .ok (.bool b) w := by
 subst h
 simp [eqGuard, binOp, Op.intCmp]
theorem bi_gtr {k : IntKind} {x y : Int} {b : Bool} (h : decide (y < x) = b) (w : World) : (do eqGuard .gtr T px py (.int k x) (.int k y); binOp .gtr T (.int k x) (.int k y) : Sem Value).run P w = .ok (.bool b) w := by
 subst h
 simp [eqGuard, binOp, Op.intCmp]
theorem bn_leq {k : IntKind} {x y : Nat} {b : Bool} (h : decide (y < x) = b) (w : World) : (do eqGuard .leq T px py (.int k (x : Int)) (.int k (y : Int)); binOp .leq T (.int k (x : Int)) (.int k (y : Int)) : Sem Value).run P w = .ok (.bool (!b)) w := by
 subst h
 simp only [eqGuard, binOp, Op.intCmp]
 simp [← Int.not_le, ← Nat.not_le]
theorem bi_leq {k : IntKind} {x y : Int} {b : Bool} (h : decide (y < x) = b) (w : World) : (do eqGuard .leq T px py (.int k x) (.int k y); binOp .leq T (.int k x) (.int k y) : Sem Value).run P w = .ok (.bool (!b)) w := by
 subst h
 simp only [eqGuard, binOp, Op.intCmp]
 simp [← Int.not_le, ← Nat.not_le]
theorem bi_geq {k : IntKind} {x y : Int} {b : Bool} (h : decide (x < y) = b) (w : World) : (do eqGuard .geq T px py (.int k x) (.int k y); binOp .geq T (.int k x) (.int k y) : Sem Value).run P w = .ok (.bool (!b)) w := by
 subst h
 simp only [eqGuard, binOp, Op.intCmp]
 simp [← Int.not_le, ← Nat.not_le]
theorem bn_eql {k : IntKind} {x y : Nat} {b : Bool} (h : decide (x = y) = b) (w : World) : (do eqGuard .eql T px py (.int k (x : Int)) (.int k (y : Int)); binOp .eql T (.int k (x : Int)) (.int k (y : Int)) : Sem Value).run P w = .ok (.bool b) w := by
 subst h
 have e : ((x : Int) == (y : Int)) = decide (x = y) := by rw [Bool.eq_iff_iff]; simp; omega
 simp [eqGuard, binOp, Op.intCmp, e]
theorem bi_eql {k : IntKind} {x y : Int} {b : Bool} (h : decide (x = y) = b) (w : World) : (do eqGuard .eql T px py (.int k x) (.int k y); binOp .eql T (.int k x) (.int k y) : Sem Value).run P w = .ok (.bool b) w := by
 subst h
 have e : (x == y) = decide (x = y) := by rw [Bool.eq_iff_iff]; simp
 simp [eqGuard, binOp, Op.intCmp, e]
theorem bn_neq {k : IntKind} {x y : Nat} {b : Bool} (h : decide (x = y) = b) (w : World) : (do eqGuard .neq T px py (.int k (x : Int)) (.int k (y : Int)); binOp .neq T (.int k (x : Int)) (.int k (y : Int)) : Sem Value).run P w = .ok (.bool (!b)) w := by
 subst h
 have e : ((x : Int) == (y : Int)) = decide (x = y) := by rw [Bool.eq_iff_iff]; simp; omega
 simp [eqGuard, binOp, Op.intCmp, bne, e]
theorem bi_neq {k : IntKind} {x y : Int} {b : Bool} (h : decide (x = y) = b) (w : World) : (do eqGuard .neq T px py (.int k x) (.int k y); binOp .neq T (.int k x) (.int k y) : Sem Value).run P w = .ok (.bool (!b)) w := by
 subst h
 have e : (x == y) = decide (x = y) := by rw [Bool.eq_iff_iff]; simp
 simp [eqGuard, binOp, Op.intCmp, bne, e]
theorem bn_shl {k k' : IntKind} {x y z : Nat} (h : x * 2 ^ y = z) (hy : y ≤ k.bits) (hw : k.wrap (z : Int) = (z : Int)) (w : World) : (do eqGuard .shl T px py (.int k (x : Int)) (.int k' (y : Int)); binOp .shl T (.int k (x : Int)) (.int k' (y : Int)) : Sem Value).run P w = .ok (.int k (z : Int)) w := by
 have hm : min y k.bits = y := by omega
 have hn : ¬ ((y : Int) < 0) := by omega
 have e : (x : Int) * 2 ^ y = (z : Int) := by rw [← h]; simp
 simp [eqGuard, binOp, Op.shift, hn, hm, e, hw]
theorem run_un {o : Oper} {a : Act} {v vx : Value} {op : UnOp} {xT : TypeId} {x : Operand}
   (ho : o.op = .unOp op xT x) (hx : a.eval x = vx)
   (h : ∀ w, (Op.unary op vx : Sem Value).run P w = .ok v w) : ∀ w, (execOp a.eval o).run P w = .ok (.value v) w := by
 intro w
 have h0 := h w
 unfold execOp
 rw [ho]
 simp only [hx]
 rw [Sem.run_bind, h0]
 rfl
theorem un_not {b : Bool} (w : World) : (Op.unary .not (.bool b) : Sem Value).run P w = .ok (.bool (!b)) w := by
 simp [Op.unary]
theorem run_conv {o : Oper} {a : Act} {v vx : Value} {sT dT : TypeId} {x : Operand}
   (ho : o.op = .convert sT dT x) (hx : a.eval x = vx)
   (h : ∀ w, (convert sT dT vx : Sem Value).run P w = .ok v w) : ∀ w, (execOp a.eval o).run P w = .ok (.value v) w := by
 intro w
 have h0 := h w
 unfold execOp
 rw [ho]
 simp only [hx]
 rw [Sem.run_bind, h0]
 rfl
theorem cv_int {s d : TypeId} {k j : IntKind} {ds : TypeDesc} {n z : Int} (hs : P.underlying s = some ds) (hd : P.underlying d = some (.int k)) (h : k.wrap n = z) (w : World) : (convert s d (.int j n) : Sem Value).run P w = .ok (.int k z) w := by
 subst h
 simp [convert, run_underlying hs, run_underlying hd, Conv.intToInt]

def strV (l : List UInt8) : Value := .string ⟨l.toArray⟩
theorem ba_size (l : List UInt8) : (⟨l.toArray⟩ : ByteArray).size = l.length := by
 simp [ByteArray.size]
theorem ba_toList (l : List UInt8) : (⟨l.toArray⟩ : ByteArray).toList = l := by
 rw [ByteArray.toList_eq]
theorem ba_app (a b : List UInt8) : (⟨a.toArray⟩ : ByteArray) ++ ⟨b.toArray⟩ = ⟨(a ++ b).toArray⟩ := by
 apply ByteArray.ext
 simp
theorem bs_add {a b c : List UInt8} (hc : a ++ b = c) (h : a.length + b.length ≤ 9223372036854775807) (w : World) : (do eqGuard .add T px py (strV a) (strV b); binOp .add T (strV a) (strV b) : Sem Value).run P w = .ok (strV c) w := by
 subst hc
 have h2 : ¬ (((((⟨a.toArray⟩ : ByteArray).size + (⟨b.toArray⟩ : ByteArray).size : Nat)) : Int) > IntKind.i64.max) := by
   rw [ba_size, ba_size]
   have : IntKind.i64.max = 9223372036854775807 := by decide
   omega
 unfold strV
 simp only [eqGuard, binOp, Op.stringOp]
 rw [if_neg h2, ba_app]
 simp
theorem bs_eql {a b : List UInt8} {c : Bool} (h : decide (a = b) = c) (w : World) : (do eqGuard .eql T px py (strV a) (strV b); binOp .eql T (strV a) (strV b) : Sem Value).run P w = .ok (.bool c) w := by
 subst h
 have e : (a == b) = decide (a = b) := by rw [Bool.eq_iff_iff]; simp
 unfold strV
 simp [eqGuard, binOp, Op.stringOp, ba_toList, e]
theorem bs_neq {a b : List UInt8} {c : Bool} (h : decide (a = b) = c) (w : World) : (do eqGuard .neq T px py (strV a) (strV b); binOp .neq T (strV a) (strV b) : Sem Value).run P w = .ok (.bool (!c)) w := by
 subst h
 have e : (a == b) = decide (a = b) := by rw [Bool.eq_iff_iff]; simp
 unfold strV
 simp [eqGuard, binOp, Op.stringOp, ba_toList, e]
theorem run_lenS {o : Oper} {a : Act} {l : List UInt8} {x : Operand} (ho : o.op = .call { callee := .builtin .len, args := #[x], argTypes := #[T] }) (hT : P.underlying T = some .string) (hx : a.eval x = strV l) (w : World) : (execOp a.eval o).run P w = .ok (.value (.int .i64 ((l.length : Nat) : Int))) w := by
 unfold execOp
 rw [ho]
 unfold strV at hx
 have h1 := ba_size l
 simp [resolve, invoke, builtin, Builtin.len_, hx, h1, goInt, run_underlying hT]
theorem run_lenL {o : Oper} {a : Act} {p : Option Addr} {n cap : Nat} {x : Operand} {E : TypeId} (ho : o.op = .call { callee := .builtin .len, args := #[x], argTypes := #[T] }) (hT : P.underlying T = some (.slice E)) (hx : a.eval x = .slice p n cap) (w : World) : (execOp a.eval o).run P w = .ok (.value (.int .i64 ((n : Nat) : Int))) w := by
 unfold execOp
 rw [ho]
 simp [resolve, invoke, builtin, Builtin.len_, hx, goInt, run_underlying hT]
theorem run_idxS {o : Oper} {a : Act} {l : List UInt8} {k : Nat} {b : UInt8} {x y : Operand} {j : IntKind} (ho : o.op = .index T x y) (hT : P.underlying T = some .string) (hx : a.eval x = strV l) (hy : a.eval y = .int j ((k : Nat) : Int)) (hb : l[k]? = some b) (w : World) : (execOp a.eval o).run P w = .ok (.value (.int .u8 ((b.toNat : Nat) : Int))) w := by
 unfold execOp
 rw [ho]
 unfold strV at hx
 obtain ⟨hk, hb2⟩ := List.getElem?_eq_some_iff.1 hb
 have hg : (⟨l.toArray⟩ : ByteArray)[k]? = some b := by
   rw [getElem?_pos _ _ (by rw [ba_size]; exact hk)]
   congr 1
 simp [Instr.index, asIntOf, hx, hy, run_underlying hT, hg]
theorem ba_extract (l : List UInt8) (i j : Nat) : (⟨l.toArray⟩ : ByteArray).extract i j = ⟨((l.take j).drop i).toArray⟩ := by
 apply ByteArray.ext
 rw [ByteArray.data_extract]
 apply Array.ext'
 simp [Array.toList_extract, List.extract_eq_drop_take']
theorem sl_bound {k : IntKind} {i y : Nat} {c : BoundsCode} (h : i ≤ y) (w : World) : (Instr.sliceBound (.int k ((i : Nat) : Int)) y c).run P w = .ok i w := by
 have h2 : (i : Int) ≤ (y : Int) := by omega
 simp [Instr.sliceBound, asIntOf, h2]
theorem run_slH {o : Oper} {a : Act} {l r : List UInt8} {j : Nat} {x p2 : Operand} {k2 : IntKind} (ho : o.op = .slice T x none (some p2) none) (hT : P.underlying T = some .string) (hx : a.eval x = strV l) (h2 : a.eval p2 = .int k2 ((j : Nat) : Int)) (hl : j ≤ l.length) (hr : l.take j = r) (w : World) : (execOp a.eval o).run P w = .ok (.value (strV r)) w := by
 subst hr
 unfold execOp
 rw [ho]
 have hs := ba_size l
 unfold strV at *
 have e2 := fun c => sl_bound (P := P) (k := k2) (c := c) (show j ≤ (⟨l.toArray⟩ : ByteArray).size by rw [hs]; exact hl) w
 simp [Instr.sliceAt, Instr.slice, Instr.sliceBounds, hx, h2, run_underlying hT, e2, ba_extract]
theorem run_slL {o : Oper} {a : Act} {l r : List UInt8} {i : Nat} {x p1 : Operand} {k1 : IntKind} (ho : o.op = .slice T x (some p1) none none) (hT : P.underlying T = some .string) (hx : a.eval x = strV l) (h1 : a.eval p1 = .int k1 ((i : Nat) : Int)) (hl : i ≤ l.length) (hr : l.drop i = r) (w : World) : (execOp a.eval o).run P w = .ok (.value (strV r)) w := by
 subst hr
 unfold execOp
 rw [ho]
 have hs := ba_size l
 unfold strV at *
 have e1 := fun c => sl_bound (P := P) (k := k1) (c := c) hl w
 have e3 : List.drop i (List.take l.length l) = List.drop i l := by rw [List.take_length]
 simp [Instr.sliceAt, Instr.slice, Instr.sliceBounds, hx, h1, run_underlying hT, e1, ba_extract, hs]
theorem addr_add (b off j : Nat) : (⟨b, off, none⟩ : Addr).add j = ⟨b, off + j, none⟩ := by unfold Addr.add; split <;> simp_all
theorem run_idxL {o : Oper} {a : Act} {b off n cap k sz : Nat} {x y : Operand} {E : TypeId} {j : IntKind} (ho : o.op = .indexAddr T x y) (hT : P.underlying T = some (.slice E)) (hsz : (P.info? E).map (·.size) = some sz) (hx : a.eval x = .slice (some ⟨b, off, none⟩) n cap) (hy : a.eval y = .int j ((k : Nat) : Int)) (hk : k < n) (w : World) : (execOp a.eval o).run P w = .ok (.value (.pointer (some ⟨b, off + k * sz, none⟩))) w := by
 unfold execOp
 rw [ho]
 have h1 : (k : Int) < (n : Int) := by omega
 cases hq : P.info? E with
 | none => simp [hq] at hsz
 | some i =>
   have hs : i.size = sz := by simpa [hq] using hsz
   simp [Instr.indexAt, asIntOf, hx, hy, run_underlying hT, h1, Go.sizeOf, typeInfo, hq, hs, addr_add]
   intro; omega
theorem run_idxA {o : Oper} {a : Act} {b off n k sz : Nat} {x y : Operand} {E : TypeId} {j : IntKind} (ho : o.op = .indexAddr T x y) (hT : P.underlying T = some (.array n E)) (hsz : (P.info? E).map (·.size) = some sz) (hx : a.eval x = .pointer (some ⟨b, off, none⟩)) (hy : a.eval y = .int j ((k : Nat) : Int)) (hk : k < n) (w : World) : (execOp a.eval o).run P w = .ok (.value (.pointer (some ⟨b, off + k * sz, none⟩))) w := by
 unfold execOp
 rw [ho]
 have h1 : (k : Int) < (n : Int) := by omega
 cases hq : P.info? E with
 | none => simp [hq] at hsz
 | some i =>
   have hs : i.size = sz := by simpa [hq] using hsz
   simp [Instr.indexAt, Instr.sureAddr, asIntOf, hx, hy, run_underlying hT, h1, Go.sizeOf, typeInfo, hq, hs, addr_add]
   intro; omega
theorem yb_cell {o : Oper} {a : Act} {K : List (Nat × Obj)} {ty t : TypeId} {x : Operand} {g off : Nat} {cs : Array Value} {fr : Nat × Nat} {v : Value} {d : TypeDesc} (ho : o.op = .load ty x) (hx : a.eval x = .pointer (some ⟨g, off, none⟩))
   (hm : (g, .cells cs t fr) ∈ K) (hu : P.underlying ty = some d) (hd : aggD d = false) (hv : cs[off]? = some v) :
   ∀ w, KS W0 K w → ∀ K' : Act → World → Prop, (∀ w', Below w.heap.size w w' → K' (a.put o.dst v) w') → Oper.wp P o a w K' (fun _ _ _ => False) := by
 intro w hw K' hk
 have hc : w.cell? ⟨g, off, none⟩ = some v := by rw [cell_of_row w g off cs t fr (hw.2 _ hm)]; exact hv
 have hagg : (isAgg ty).run P w = .ok false w := by
   unfold isAgg
   rw [Sem.run_bind, run_underlying hu w]
   unfold aggD at hd
   cases d <;> simp_all
 have hr : (loadVar ty ⟨g, off, none⟩).run P w = .ok v w := by
   simp [loadVar, Sem.run_bind, hagg, hc]
 unfold Oper.wp execOp
 simp only [ho, hx, Instr.loadAt, Instr.sureAddr, Sem.run_bind, Sem.run_pure, Result.andThen_ok, hr]
 exact hk w (Below.refl _ _)
theorem run_loadVar_list {g off : Nat} {cs : List Value} {ty : TypeId} {d : TypeDesc} (w : World) (hc : ∀ (j : Nat) (v : Value), cs[j]? = some v → w.cell? ⟨g, off + j, none⟩ = some v)
   (hu : P.underlying ty = some d) (hd : aggD d = true) (hi : (P.info? ty).map (·.size) = some cs.length) : (loadVar ty ⟨g, off, none⟩).run P w = .ok (.agg cs.toArray) w := by
 have hl : (loadCells ⟨g, off, none⟩ cs.length).run P w = .ok cs.toArray w :=
   run_loadCells_list (P := P) w ⟨g, off, none⟩ _ (fun j v hv => by rw [addr_add]; exact hc j v hv)
 cases hq : P.info? ty with
 | none => simp [hq] at hi
 | some i =>
   have hs : i.size = cs.length := by simpa [hq] using hi
   have hagg : (isAgg ty).run P w = .ok true w := by
     unfold isAgg
     rw [Sem.run_bind, run_underlying hu w]
     unfold aggD at hd
     cases d <;> simp_all
   simp [loadVar, Sem.run_bind, hagg, Go.sizeOf, typeInfo, hq, hs, hl]
theorem yb_cells {o : Oper} {a : Act} {K : List (Nat × Obj)} {ty t : TypeId} {x : Operand} {g off : Nat} {cur : Array Value} {fr : Nat × Nat} {cs : List Value} {d : TypeDesc} (ho : o.op = .load ty x) (hx : a.eval x = .pointer (some ⟨g, off, none⟩))
   (hm : (g, .cells cur t fr) ∈ K) (hc0 : ∀ (j : Nat) (v : Value), cs[j]? = some v → cur[off + j]? = some v) (hu : P.underlying ty = some d) (hd : aggD d = true) (hi : (P.info? ty).map (·.size) = some cs.length) :
   ∀ w, KS W0 K w → ∀ K' : Act → World → Prop, (∀ w', Below w.heap.size w w' → K' (a.put o.dst (.agg cs.toArray)) w') → Oper.wp P o a w K' (fun _ _ _ => False) := by
 intro w hw K' hk
 have hr := run_loadVar_list (P := P) (ty := ty) w (fun j v hj => by rw [cell_of_row w g (off + j) cur t fr (hw.2 _ hm)]; exact hc0 j v hj) hu hd hi
 unfold Oper.wp execOp
 simp only [ho, hx, Instr.loadAt, Instr.sureAddr, Sem.run_bind, Sem.run_pure, Result.andThen_ok, hr]
 exact hk w (Below.refl _ _)
end
end Tw
/- Lists that a function makes by append, bytes of strings, lists that were there: steps over any program. -/
namespace Tw
open Go Go.RowKit Go.Proofs.YtalmflgkbmnghaaGreatDoor
section
variable {P : Program} {W0 : Base} {T E : TypeId}
theorem inBlock_ret (id : Nat) (Q : Exit → Act → World → Prop) (a : Act) (w : World) : Exit.inBlock id Q .ret a w = Q .ret a w := rfl
theorem then_ret (f : Act → World → Prop) (Q : Exit → Act → World → Prop) (a : Act) (w : World) : Exit.then f Q .ret a w = Q .ret a w := rfl
def RowN (sz : Nat) (cur : Array Value) (cap n : Nat) (xs : List Value) : Prop := cur.size = cap * sz ∧ cap ≤ maxLen ∧ n ≤ cap ∧ xs.length = n * sz ∧ cur.toList.take (n * sz) = xs
def OwnL (W0 : Base) (E : TypeId) (sz : Nat) (v : Value) (n : Nat) (xs : List Value) (K : List (Nat × Obj)) : Prop :=
 (n = 0 ∧ xs = [] ∧ v = .slice none 0 0 ∧ K = []) ∨ ∃ g cap cur, v = .slice (some ⟨g, 0, none⟩) n cap ∧ W0.B ≤ g ∧ RowN sz cur cap n xs ∧ K = [(g, .cells cur E (0, 0))]
theorem OwnL.nil (W0 : Base) (E : TypeId) (sz : Nat) : OwnL W0 E sz (.slice none 0 0) 0 [] [] := .inl ⟨rfl, rfl, rfl, rfl⟩
structure Elem (P : Program) (T E : TypeId) (sz bts : Nat) (z : Value) : Prop where
 und : P.underlying T = some (.slice E)
 info : ∃ i, P.info? E = some i ∧ i.zero = some z ∧ i.size = sz ∧ i.bytes = bts
 zsz : z.cells.size = sz
theorem Elem.mk' {sz bts : Nat} {z : Value} (h1 : P.underlying T = some (.slice E)) (h2 : (P.info? E).map (fun i => (i.zero, i.size, i.bytes)) = some (some z, sz, bts)) (h3 : z.cells.size = sz) : Elem P T E sz bts z := by
 refine ⟨h1, ?_, h3⟩
 cases hi : P.info? E with
 | none => rw [hi] at h2; cases h2
 | some i =>
   rw [hi] at h2
   simp only [Option.map_some, Option.some.injEq, Prod.mk.injEq] at h2
   exact ⟨i, rfl, h2.1, h2.2.1, h2.2.2⟩
def AppO (W0 : Base) (E : TypeId) (sz : Nat) (K0 : List (Nat × Obj)) (n : Nat) (ys : List Value) (v : Value) (K' : List (Nat × Obj)) : Prop :=
 ∃ Kl, OwnL W0 E sz v n ys Kl ∧ (∀ p ∈ K0, ∀ q ∈ Kl, q.1 ≠ p.1) ∧ K' = K0 ++ Kl
theorem blk_cells {w : World} {h : Nat} {news : List Value} {t : TypeId} {fr : Nat × Nat} (hh : w.heap[h]? = some (.cells news.toArray t fr)) : ∀ (j : Nat) (u : Value), news[j]? = some u → w.cell? ((⟨h, 0, none⟩ : Addr).add j) = some u := by
 intro j u hu
 rw [addr_add, Nat.zero_add, cell_of_row w h j news.toArray _ fr hh]
 simpa using hu
theorem rown_new {sz n m cap : Nat} {olds news : List Value} (z : Array Value) (hz : z.size = sz) (ho : olds.length = n * sz) (hn : news.length = m * sz) (hc : n + m ≤ cap) (hm : cap ≤ maxLen) : RowN sz (olds.toArray ++ news.toArray ++ Builtin.zeroCells z (cap - (n + m))) cap (n + m) (olds ++ news) := by
 refine ⟨?_, hm, hc, by simp [ho, hn, Nat.add_mul], ?_⟩
 · simp only [Array.size_append, List.size_toArray, size_zeroCells, hz, ho, hn]
   rw [← Nat.add_mul, ← Nat.add_mul]
   congr 1
   omega
 · simp only [Array.toList_append, List.append_assoc]
   rw [← List.append_assoc, show (n + m) * sz = (olds ++ news).length from by simp [ho, hn, Nat.add_mul]]
   exact List.take_left
theorem appo_end {w : World} {K K0 : List (Nat × Obj)} (hw : KS W0 K w) (hsub : ∀ p ∈ K0, p ∈ K) {sz : Nat} {cur : Array Value} {cap n : Nat} {ys : List Value} (hR : RowN sz cur cap n ys) :
   KS W0 (K0 ++ [(w.heap.size, .cells cur E (0, 0))]) (w.drew.alloc (.cells cur E)) ∧ AppO W0 E sz K0 n ys (.slice (some ⟨w.heap.size, 0, none⟩) n cap) (K0 ++ [(w.heap.size, .cells cur E (0, 0))]) := by
 have hd : KS W0 K0 w.drew := ⟨hw.drew.1, fun p hp => hw.2 p (hsub p hp)⟩
 refine ⟨(hd.alloc (.cells cur E)).sub (fun p hp => ?_), _, .inr ⟨_, _, _, rfl, hw.size, hR, rfl⟩, fun p hp q hq e => ?_, rfl⟩
 · rcases List.mem_append.1 hp with h | h
   · exact .tail _ h
   · cases List.mem_singleton.1 h; exact .head _
 · cases List.mem_singleton.1 hq
   have := lt_of_block (hw.2 p (hsub p hp))
   have e' : w.heap.size = p.1 := e
   omega
theorem run_appv {o : Oper} {a : Act} {s x : Operand} {u v y : Value} {w w' : World} (ho : o.op = .call { callee := .builtin .append, args := #[s, x], argTypes := #[T, T] })
   (hs : a.eval s = u) (hx : a.eval x = y) (hr : (Builtin.append_ #[T, T] o.type #[u, y]).run P w = .ok v w') : (execOp a.eval o).run P w = .ok (.value v) w' := by
 unfold execOp
 simp only [ho, resolve, invoke, builtin, Sem.run_bind, Sem.run_pure, Result.andThen_ok, List.map_toArray, List.map_cons, List.map_nil, hs, hx, hr]
theorem app_own {o : Oper} {a : Act} {K K0 Kl : List (Nat × Obj)} {s x : Operand} {h m c n sz bts : Nat} {z v : Value} {fr : Nat × Nat} {news xs : List Value} (hE : Elem P T E sz bts z)
   (ho : o.op = .call { callee := .builtin .append, args := #[s, x], argTypes := #[T, T] }) (hs : a.eval s = v) (hx : a.eval x = .slice (some ⟨h, 0, none⟩) m c) (hm : (h, .cells news.toArray E fr) ∈ K)
   (hO : OwnL W0 E sz v n xs Kl) (hsub : ∀ p ∈ Kl, p ∈ K) (hK0 : ∀ p ∈ K0, p ∈ K ∧ ∀ q ∈ Kl, q.1 ≠ p.1) (hl : news.length = m * sz) (h1 : ∀ u ∈ news, u.oneCell' = true) (hm0 : 0 < m) (hn : n + m ≤ 4000000000) (hb : bts ≤ 10000) :
   ∀ w, KS W0 K w → ∃ v' K' w', (execOp a.eval o).run P w = .ok (.value v') w' ∧ KS W0 K' w' ∧ AppO W0 E sz K0 (n + m) (xs ++ news) v' K' := by
 intro w hw
 obtain ⟨hu, ⟨i, hi, hz, hsz, hby⟩, hzs⟩ := hE
 have hh := hw.2 _ hm
 have hmax : n + m ≤ maxLen := by unfold maxLen; omega
 have hbt : (n + m) * i.bytes ≤ 140737488355328 := by
   rw [hby]
   exact Nat.le_trans (Nat.mul_le_mul hn hb) (by decide)
 rcases hO with ⟨rfl, rfl, rfl, rfl⟩ | ⟨g, cap, cur, rfl, hB, ⟨r1, r2, r3, r4, r5⟩, rfl⟩
 · have hr := run_append_nil (P := P) w T o.type E i z hu hi hz ⟨h, 0, none⟩ m c news (by rw [hsz]; exact hl) (blk_cells hh) hm0 Tw.om (by rw [Nat.zero_add] at hbt; omega)
   have hg := grownCap_ge w m 0 E
   have hg2 := grownCap_le_maxLen w m 0 E Tw.om
   have hR := rown_new (sz := sz) (n := 0) (m := m) (olds := []) (news := news) z.cells hzs (by simp) hl (show 0 + m ≤ grownCap w m 0 E by omega) hg2
   simp only [Nat.zero_add, List.nil_append, show (([] : List Value).toArray ++ news.toArray) = news.toArray from by simp] at hR ⊢
   obtain ⟨e1, e2⟩ := appo_end (E := E) hw (fun p hp => (hK0 p hp).1) hR
   exact ⟨_, _, _, run_appv ho hs hx hr, e1, e2⟩
 · have hgc := hw.2 _ (hsub _ Tw.m0)
   by_cases hroom : n + m ≤ cap
   · have hmul : n * sz + m * sz ≤ cap * sz := by rw [← Nat.add_mul]; exact Nat.mul_le_mul_right _ hroom
     have hr := run_append_room (P := P) w T o.type E i hu hi g n cap cur hgc ⟨h, 0, none⟩ m c news (by rw [hsz]; exact hl) (blk_cells hh) h1 hroom (by rw [hsz, r1, hl]; exact hmul)
     refine ⟨_, K0 ++ [(g, .cells (cur.toList.take (n * i.size) ++ news ++ cur.toList.drop (n * i.size + news.length)).toArray E (0, 0))], _, run_appv ho hs hx hr, hw.setRow hB hgc ?_, _, .inr ⟨g, cap, _, rfl, hB, ⟨?_, r2, hroom, by simp [r4, hl, Nat.add_mul], ?_⟩, rfl⟩, fun p hp q hq => ?_, rfl⟩
     · intro p hp
       rcases List.mem_append.1 hp with hp | hp
       · exact .inr ⟨(hK0 p hp).1, fun e => (hK0 p hp).2 _ Tw.m0 e.symm⟩
       · exact .inl (List.mem_singleton.1 hp)
     · rw [hsz]
       simp only [List.size_toArray, List.length_append, List.length_take, List.length_drop, Array.length_toList, r1, hl]
       omega
     · rw [hsz, r5, show (n + m) * sz = (xs ++ news).length from by simp [r4, hl, Nat.add_mul]]
       exact List.take_left
     · cases List.mem_singleton.1 hq
       exact (hK0 p hp).2 (g, .cells cur E (0, 0)) Tw.m0
   · have holds : ∀ j u, xs[j]? = some u → w.cell? ((⟨g, 0, none⟩ : Addr).add j) = some u := by
       intro j u hu
       rw [addr_add, Nat.zero_add, cell_of_row w g j cur _ (0, 0) hgc]
       rw [← r5, List.getElem?_take] at hu
       split at hu
       · simpa using hu
       · cases hu
     have hr := run_append_grow (P := P) w T o.type E i z hu hi hz ⟨g, 0, none⟩ n cap xs (by rw [hsz]; exact r4) holds ⟨h, 0, none⟩ m c news (by rw [hsz]; exact hl) (blk_cells hh) Tw.om Tw.om
       (growslice_fits Tw.om hbt)
     have hg1 := grownCap_ge w (n + m) cap E
     have hg2 := grownCap_le_maxLen w (n + m) cap E hmax
     obtain ⟨e1, e2⟩ := appo_end (E := E) hw (fun p hp => (hK0 p hp).1) (rown_new (sz := sz) (olds := xs) (news := news) z.cells hzs r4 hl hg1 hg2)
     exact ⟨_, _, _, run_appv ho hs hx hr, e1, e2⟩
theorem run_idxQ {o : Oper} {a : Act} {p : Option Addr} {b off n cap k sz : Nat} {x y : Operand} {j : IntKind} (ho : o.op = .indexAddr T x y) (hT : P.underlying T = some (.slice E)) (hsz : (P.info? E).map (·.size) = some sz) (hx : a.eval x = .slice p n cap) (hp : p = some ⟨b, off, none⟩) (hy : a.eval y = .int j ((k : Nat) : Int)) (hk : k < n) (w : World) : (execOp a.eval o).run P w = .ok (.value (.pointer (some ⟨b, off + k * sz, none⟩))) w := by
 subst hp
 exact run_idxL ho hT hsz hx hy hk w
def u8s (l : List UInt8) : List Value := l.map fun b => .int .u8 ((b.toNat : Nat) : Int)
theorem u8s_len (l : List UInt8) : (u8s l).length = l.length := by simp [u8s]
theorem u8s_get {l : List UInt8} {k : Nat} {b : UInt8} (h : l[k]? = some b) : (u8s l)[k]? = some (.int .u8 ((b.toNat : Nat) : Int)) := by simp [u8s, h]
def RowB (cur : Array Value) (l : List UInt8) : Prop := cur.toList.take l.length = u8s l
theorem yb_str {o : Oper} {a : Act} {K : List (Nat × Obj)} {x : Operand} {S : TypeId} {g n cap : Nat} {cur : Array Value} {t : TypeId} {fr : Nat × Nat} {l : List UInt8} (ho : o.op = .convert T S x) (hT : P.underlying T = some (.slice E)) (hE : P.underlying E = some (.int .u8)) (hS : P.underlying S = some .string)
   (hx : a.eval x = .slice (some ⟨g, 0, none⟩) n cap) (hn : l.length = n) (hm : (g, .cells cur t fr) ∈ K) (hR : RowB cur l) :
   ∀ w, KS W0 K w → ∀ K' : Act → World → Prop, (∀ w', Below w.heap.size w w' → K' (a.put o.dst (strV l)) w') → Oper.wp P o a w K' (fun _ _ _ => False) := by
 intro w hw K' hk
 have hc := run_convert_bytes_back (P := P) w T S E ⟨g, 0, none⟩ cap l hT hE hS (fun j hj => by
   rw [addr_add, Nat.zero_add, cell_of_row w g j cur t fr (hw.2 _ hm)]
   have h1 : (cur.toList.take l.length)[j]? = (u8s l)[j]? := by rw [hR]
   rw [List.getElem?_take, if_pos hj, u8s_get (List.getElem?_eq_getElem hj)] at h1
   simpa using h1)
 subst hn
 unfold Oper.wp execOp
 simp only [ho, hx, Sem.run_bind, Sem.run_pure, Result.andThen_ok, hc]
 exact hk w (Below.refl _ _)
theorem RowN.bytes {cur : Array Value} {cap n : Nat} {l : List UInt8} (h : RowN 1 cur cap n (u8s l)) : RowB cur l ∧ l.length = n := by
 obtain ⟨_, _, _, h4, h5⟩ := h
 rw [u8s_len, Nat.mul_one] at h4
 exact ⟨by unfold RowB; rw [h4, ← h5, Nat.mul_one], h4⟩
theorem st_at {o : Oper} {a : Act} {K K' : List (Nat × Obj)} {ty t : TypeId} {x y : Operand} {g off : Nat} {cs : Array Value} {fr : Nat × Nat} {v : Value} (ho : o.op = .store ty x y) (hx : a.eval x = .pointer (some ⟨g, off, none⟩)) (hv : a.eval y = v)
   (hm : (g, .cells cs t fr) ∈ K) (hB : W0.B ≤ g) (hi : (P.info? ty).map (·.size) = some 1) (hvc : v.cells = #[v]) (h1 : v.oneCell' = true) (hfit : off < cs.size) (hfr : cs.size ≤ fr.1 ∨ fr.2 = 0)
   (hK : ∀ p ∈ K', p = (g, .cells (cs.setIfInBounds off v) t fr) ∨ (p ∈ K ∧ p.1 ≠ g)) : ∀ w, KS W0 K w → ∃ w', (execOp a.eval o).run P w = .ok .skip w' ∧ KS W0 K' w' := by
 intro w hw
 have hg := hw.2 _ hm
 have hcell : w.cell? ⟨g, off, none⟩ = some cs[off] := by simp [World.cell?, hg, hfit]
 have hfro : w.frozen? ⟨g, off, none⟩ = false := by
   obtain ⟨lo, hi'⟩ := fr
   simp only [World.frozen?, hg, Bool.and_eq_false_iff, decide_eq_false_iff_not]
   simp only at hfr
   omega
 have hst : (store ((⟨g, off, none⟩ : Addr).add 0) v).run P w = .ok () (w.setRow g (cs.setIfInBounds off v)) := by
   rw [addr_add, Nat.add_zero, run_store P w _ v _ h1, hcell]
   simp [hfro, setCell_eq_setRow w g off cs t fr v hg]
 have hr : (storeVar ty ⟨g, off, none⟩ v).run P w = .ok () (w.setRow g (cs.setIfInBounds off v)) := by
   cases hq : P.info? ty with
   | none => simp [hq] at hi
   | some i =>
     have hs : i.size = 1 := by simpa [hq] using hi
     simp [storeVar, Sem.run_bind, Go.sizeOf, typeInfo, hq, hs, hvc, storeCells, hst]
 refine ⟨w.setRow g (cs.setIfInBounds off v), ?_, below_setRow hw.1 hB _, fun p hp => ?_⟩
 · simp only [execOp, ho, hx, hv, Instr.storeAt, Instr.sureAddr, Sem.run_bind, Sem.run_pure, Result.andThen_ok, hr]
 · rcases hK p hp with rfl | ⟨hp, hne⟩
   · exact setRow_heap w g cs _ t _ hg
   · rw [setRow_other w g p.1 _ hne]; exact hw.2 p hp
def Cel (W : World) (b off : Nat) (xs : List Value) : Prop := ∀ (i : Nat) (u : Value), xs[i]? = some u → W.cell? ⟨b, off + i, none⟩ = some u
def SLV (W : World) (p : Option Addr) (xs : List Value) : Prop := xs = [] ∨ ∃ b off, p = some ⟨b, off, none⟩ ∧ b < W.heap.size ∧ Cel W b off xs
theorem Cel.keep {W W' : World} {b off B : Nat} {xs : List Value} (h : Cel W b off xs) (hlt : b < B) (hB : Below B W W') : Cel W' b off xs := fun i u hu => by
 rw [hB.cell (p := ⟨b, off + i, none⟩) hlt]; exact h i u hu
theorem SLV.keep {W W' : World} {p : Option Addr} {xs : List Value} (h : SLV W p xs) (hB : Below W.heap.size W W') : SLV W' p xs := h.imp id fun ⟨b, off, hp, hlt, hc⟩ => ⟨b, off, hp, Nat.lt_of_lt_of_le hlt hB.size, hc.keep hlt hB⟩
def OutV (w w' : World) (E : TypeId) (sz : Nat) (v : Value) (n : Nat) (xs : List Value) : Prop :=
 (n = 0 ∧ xs = [] ∧ v = .slice none 0 0) ∨ ∃ g cap cur, v = .slice (some ⟨g, 0, none⟩) n cap ∧ w.heap.size ≤ g ∧ RowN sz cur cap n xs ∧ w'.heap[g]? = some (.cells cur E (0, 0))
theorem OwnL.out {w : World} {E : TypeId} {sz n : Nat} {v : Value} {xs : List Value} {K Kl : List (Nat × Obj)} {w' : World} (h : OwnL (w : Base) E sz v n xs Kl) (hs : ∀ p ∈ Kl, p ∈ K) (hK : KS w K w') : OutV w w' E sz v n xs := by
 rcases h with ⟨h1, h2, h3, h4⟩ | ⟨g, cap, cur, h1, h2, h3, rfl⟩
 · exact .inl ⟨h1, h2, h3⟩
 · exact .inr ⟨g, cap, cur, h1, h2, h3, hK.2 _ (hs _ Tw.m0)⟩
theorem RowN.get {sz cap n : Nat} {cur : Array Value} {xs : List Value} (h : RowN sz cur cap n xs) {i : Nat} {u : Value} (hi : xs[i]? = some u) : cur[i]? = some u := by
 rw [← h.2.2.2.2, List.getElem?_take] at hi
 split at hi
 · simpa using hi
 · cases hi
theorem RowN.cel {W : World} {g sz cap n : Nat} {cur : Array Value} {xs : List Value} {fr : Nat × Nat} (h : W.heap[g]? = some (.cells cur E fr)) (hR : RowN sz cur cap n xs) : Cel W g 0 xs := fun i u hu => by
 rw [Nat.zero_add, cell_of_row W g i cur _ fr h]; exact hR.get hu
theorem OutV.own {W : World} {W0 : Base} {E : TypeId} {sz n : Nat} {v : Value} {xs : List Value} {K : List (Nat × Obj)} {w' : World} (h : OutV W w' E sz v n xs) (hW : KS W0 K W) (hb : Below W.heap.size W w') : ∃ Kl, OwnL W0 E sz v n xs Kl ∧ (∀ p ∈ K, ∀ q ∈ Kl, q.1 ≠ p.1) ∧ KS W0 (K ++ Kl) w' := by
 have hK := hW.below hb
 rcases h with ⟨h1, h2, h3⟩ | ⟨g, cap, cur, h1, h2, h3, h4⟩
 · exact ⟨[], .inl ⟨h1, h2, h3, rfl⟩, (fun _ _ _ h => by cases h), by rw [List.append_nil]; exact hK⟩
 · refine ⟨[(g, .cells cur E (0, 0))], .inr ⟨g, cap, cur, h1, Nat.le_trans hW.size h2, h3, rfl⟩, fun p hp q hq e => ?_, hK.1, fun p hp => ?_⟩
   · cases List.mem_singleton.1 hq
     have := lt_of_block (hW.2 p hp)
     have e' : g = p.1 := e
     omega
   · rcases List.mem_append.1 hp with h | h
     · exact hK.2 p h
     · cases List.mem_singleton.1 h; exact h4
theorem OutV.slv {w w' : World} {E : TypeId} {sz n : Nat} {v : Value} {xs : List Value} (h : OutV w w' E sz v n xs) : ∃ p cap, v = .slice p n cap ∧ SLV w' p xs ∧ xs.length = n * sz := by
 rcases h with ⟨rfl, rfl, rfl⟩ | ⟨g, cap, cur, h1, h2, h3, h4⟩
 · exact ⟨none, 0, rfl, .inl rfl, by simp⟩
 · exact ⟨_, cap, h1, .inr ⟨g, 0, rfl, lt_of_block h4, h3.cel h4⟩, h3.2.2.2.1⟩
end
section
variable {P : Program} {ops : Array Oper} {Q : Exit → Act → World → Prop} {W0 : Base}
theorem wpL_g {rest : List Oper} {oi : Oper} {d : Nat} {tm : Array Value} {df : List Deferred} {K : List (Nat × Obj)} {T : Value → Array Value} (G : Value → List (Nat × Obj) → Prop)
   (hdi : oi.dst = some d) (hw : Region.wanted oi (yielded ops tm) = true)
   (hg : ∀ w, KS W0 K w → ∃ v K' w', (execOp (Act.eval ⟨tm, df⟩) oi).run P w = .ok (.value v) w' ∧ KS W0 K' w' ∧ G v K')
   (hT : ∀ v, tm.setIfInBounds d v = T v)
   (h : ∀ v K', G v K' → wpL P ops Q W0 rest ⟨T v, df⟩ K') : wpL P ops Q W0 (oi :: rest) ⟨tm, df⟩ K := by
 refine ⟨fun w hK => ?_⟩
 obtain ⟨v, K', w', hr, hk, hG⟩ := hg w hK
 refine wpList_step fun K2 hK2 => ?_
 rw [if_pos hw]
 unfold Oper.wp
 rw [hr]
 refine hK2 _ _ ?_
 rw [hdi]
 simp only [Act.put]
 rw [hT v]
 exact (h v K' hG).of w' hk
theorem wpV_nsg {md : Region.Mode} {i : Nat} {oi : Oper} {d : Nat} {obi : Obj} {n : Nat} {listed : Array Bool} {tm : Array Value} {df : List Deferred} {K : List (Nat × Obj)} {T : Nat → Array Value} (mk : Nat → Value)
   (hi : ops[i]? = some oi) (hdi : oi.dst = some d) (hw : Region.wanted oi (yielded ops tm) = true)
   (hr : Region.ready md ops listed = [i])
   (hai : ∀ w, (execOp (Act.eval ⟨tm, df⟩) oi).run P w = .ok (.value (mk w.heap.size)) (w.alloc obi))
   (hT : ∀ g, (tm.setIfInBounds d (mk g)) = T g)
   (h : ∀ g, W0.B ≤ g → (∀ p ∈ K, p.1 ≠ g) → wpV P md ops Q W0 n (listed.setIfInBounds i true) ⟨T g, df⟩ ((g, obi) :: K)) :
   wpV P md ops Q W0 (n + 1) listed ⟨tm, df⟩ K := by
 refine wpV_alloc mk hi hr hw hai (fun g hg hf => ?_)
 rw [hdi]
 simp only [Act.put]
 rw [hT g]
 exact h g hg hf
end
end Tw
/- Lists of lists that are read: each element of one cell. Over any program. -/
namespace Tw
open Go Go.RowKit Go.Proofs.YtalmflgkbmnghaaGreatDoor
def Keeps {α : Type} (R : World → Value → α → Prop) : Prop := ∀ (W W' : World) (v : Value) (y : α), R W v y → Below W.heap.size W W' → R W' v y
def LVp {α : Type} (R : World → Value → α → Prop) (W : World) (p : Option Addr) (l : List α) : Prop := ∃ vs : List Value, SLV W p vs ∧ vs.length = l.length ∧ ∀ (k : Nat) (x : Value) (y : α), vs[k]? = some x → l[k]? = some y → R W x y
def LV {α : Type} (R : World → Value → α → Prop) (W : World) (v : Value) (l : List α) : Prop := ∃ p cap, v = .slice p l.length cap ∧ LVp R W p l
def StrR (_ : World) (v : Value) (l : List UInt8) : Prop := v = strV l
theorem StrR.keeps : Keeps StrR := fun _ _ _ _ h _ => h
theorem LVp.keep {α : Type} {R : World → Value → α → Prop} (hR : Keeps R) {W W' : World} {p : Option Addr} {l : List α} (h : LVp R W p l) (hB : Below W.heap.size W W') : LVp R W' p l := by
 obtain ⟨vs, h1, h2, h3⟩ := h
 exact ⟨vs, h1.keep hB, h2, fun k x y hx hy => hR _ _ _ _ (h3 k x y hx hy) hB⟩
theorem LV.keeps {α : Type} {R : World → Value → α → Prop} (hR : Keeps R) : Keeps (LV R) := fun _ _ _ _ ⟨p, cap, h1, h2⟩ hB => ⟨p, cap, h1, h2.keep hR hB⟩
abbrev TxR := LV StrR
abbrev ElR := LV TxR
abbrev SgR := LV ElR
theorem TxR.keeps : Keeps TxR := LV.keeps StrR.keeps
theorem ElR.keeps : Keeps ElR := LV.keeps TxR.keeps
theorem SgR.keeps : Keeps SgR := LV.keeps ElR.keeps
def Dj (A B : List (Nat × Obj)) : Prop := ∀ p ∈ A, ∀ q ∈ B, q.1 ≠ p.1
def Dk (g : Nat) (B : List (Nat × Obj)) : Prop := ∀ q ∈ B, q.1 ≠ g
theorem Dj.symm {A B : List (Nat × Obj)} (h : Dj A B) : Dj B A := fun p hp q hq e => h q hq p hp e.symm
theorem dj_app_l {A B C : List (Nat × Obj)} : Dj (A ++ B) C ↔ Dj A C ∧ Dj B C := by
 unfold Dj
 simp only [List.mem_append]
 exact ⟨fun h => ⟨fun p hp => h p (.inl hp), fun p hp => h p (.inr hp)⟩, fun h p hp => hp.elim (h.1 p) (h.2 p)⟩
theorem dj_app_r {A B C : List (Nat × Obj)} : Dj C (A ++ B) ↔ Dj C A ∧ Dj C B := ⟨fun h => ⟨(dj_app_l.1 h.symm).1.symm, (dj_app_l.1 h.symm).2.symm⟩, fun h => (dj_app_l.2 ⟨h.1.symm, h.2.symm⟩).symm⟩
theorem dj_cons_l {g : Nat} {o : Obj} {A C : List (Nat × Obj)} : Dj ((g, o) :: A) C ↔ Dk g C ∧ Dj A C := by
 unfold Dj Dk
 simp only [List.forall_mem_cons]
theorem dj_cons_r {g : Nat} {o : Obj} {A C : List (Nat × Obj)} : Dj C ((g, o) :: A) ↔ Dk g C ∧ Dj C A := ⟨fun h => ⟨(dj_cons_l.1 h.symm).1, (dj_cons_l.1 h.symm).2.symm⟩, fun h => (dj_cons_l.2 ⟨h.1, h.2.symm⟩).symm⟩
theorem dj_nil_l {C : List (Nat × Obj)} : Dj [] C ↔ True := ⟨fun _ => trivial, fun _ _ h => by cases h⟩
theorem dj_nil_r {C : List (Nat × Obj)} : Dj C [] ↔ True := ⟨fun _ => trivial, fun _ _ _ _ h => by cases h⟩
theorem dk_app {g : Nat} {A B : List (Nat × Obj)} : Dk g (A ++ B) ↔ Dk g A ∧ Dk g B := by
 unfold Dk
 simp only [List.mem_append]
 exact ⟨fun h => ⟨fun p hp => h p (.inl hp), fun p hp => h p (.inr hp)⟩, fun h p hp => hp.elim (h.1 p) (h.2 p)⟩
theorem dk_cons {g h : Nat} {o : Obj} {A : List (Nat × Obj)} : Dk g ((h, o) :: A) ↔ h ≠ g ∧ Dk g A := by
 unfold Dk
 simp only [List.forall_mem_cons]
theorem dk_nil {g : Nat} : Dk g [] ↔ True := ⟨fun _ => trivial, fun _ _ h => by cases h⟩
-- lists of lists that are made
def MkE {α : Type} (R : World → Value → α → Prop) (W0 : Base) (xs : List Value) (l : List α) (T : List (Nat × Obj)) : Prop :=
 xs.length = l.length ∧ ∀ W, KS W0 T W → ∀ (k : Nat) (x : Value) (y : α), xs[k]? = some x → l[k]? = some y → R W x y
def MkV {α : Type} (R : World → Value → α → Prop) (W0 : Base) (v : Value) (y : α) (T : List (Nat × Obj)) : Prop := ∀ W, KS W0 T W → R W v y
theorem MkE.nil {α : Type} {R : World → Value → α → Prop} {W0 : Base} : MkE R W0 [] [] [] := ⟨rfl, fun _ _ k x y h => by simp at h⟩
theorem MkE.snoc {α : Type} {R : World → Value → α → Prop} {W0 : Base} {xs : List Value} {l : List α} {T T' : List (Nat × Obj)} {x : Value} {y : α} (h : MkE R W0 xs l T) (hx : MkV R W0 x y T') : MkE R W0 (xs ++ [x]) (l ++ [y]) (T ++ T') := by
 obtain ⟨h1, h2⟩ := h
 refine ⟨by simp [h1], fun W hW k u v hu hv => ?_⟩
 have hA := hW.sub (fun p hp => List.mem_append_left T' hp)
 have hB := hW.sub (fun p hp => List.mem_append_right T hp)
 rcases Nat.lt_trichotomy k xs.length with hk | rfl | hk
 · rw [List.getElem?_append_left hk] at hu
   rw [List.getElem?_append_left Tw.om] at hv
   exact h2 W hA k u v hu hv
 · rw [List.getElem?_append_right (Nat.le_refl _)] at hu
   rw [h1, List.getElem?_append_right (Nat.le_refl _)] at hv
   simp at hu hv
   subst hu hv
   exact hx W hB
 · rw [List.getElem?_eq_none (by simp; omega)] at hu
   cases hu
theorem MkE.mk {α : Type} {R : World → Value → α → Prop} {W0 : Base} {E : TypeId} {v : Value} {n : Nat} {xs : List Value} {l : List α} {K T : List (Nat × Obj)} (hO : OwnL W0 E 1 v n xs K) (hE : MkE R W0 xs l T) (hn : n = l.length) : MkV (LV R) W0 v l (T ++ K) := by
 obtain ⟨h1, h2⟩ := hE
 intro W hW
 have hA := h2 W (hW.sub (fun p hp => List.mem_append_left K hp))
 rcases hO with ⟨rfl, rfl, rfl, rfl⟩ | ⟨g, cap, cur, rfl, hB, hR, rfl⟩
 · exact ⟨none, 0, by rw [← hn], [], .inl rfl, h1, hA⟩
 · have hb := hW.2 _ (List.mem_append_right T Tw.m0)
   exact ⟨some ⟨g, 0, none⟩, cap, by rw [hn], xs, .inr ⟨g, 0, rfl, lt_of_block hb, hR.cel hb⟩, h1, hA⟩
section
variable {P : Program} {T E : TypeId}
end
section
variable {P : Program} {T U E : TypeId}
theorem run_appu {o : Oper} {a : Act} {s x : Operand} {u v y : Value} {w w' : World} (ho : o.op = .call { callee := .builtin .append, args := #[s, x], argTypes := #[T, U] })
   (hs : a.eval s = u) (hx : a.eval x = y) (hr : (Builtin.append_ #[T, U] o.type #[u, y]).run P w = .ok v w') : (execOp a.eval o).run P w = .ok (.value v) w' := by
 unfold execOp
 simp only [ho, resolve, invoke, builtin, Sem.run_bind, Sem.run_pure, Result.andThen_ok, List.map_toArray, List.map_cons, List.map_nil, hs, hx, hr]
theorem run_room_any (w : World) (ty : TypeId) (i : TypeInfo) (ht : P.underlying T = some (.slice E)) (hi : P.info? E = some i)
   (g sLen sCap : Nat) (cur : Array Value) (hg : w.heap[g]? = some (.cells cur E (0, 0))) (x : Value) (m : Nat) (news : List Value) (hs : Src P i.size U x m news w)
   (hroom : sLen + m ≤ sCap) (hfit : sLen * i.size + news.length ≤ cur.size) :
   (Builtin.append_ #[T, U] ty #[.slice (some ⟨g, 0, none⟩) sLen sCap, x]).run P w =
     .ok (.slice (some ⟨g, 0, none⟩) (sLen + m) sCap) (w.setRow g (cur.toList.take (sLen * i.size) ++ news ++ cur.toList.drop (sLen * i.size + news.length)).toArray) := by
 have hst := run_storeCells_at P g (sLen * i.size) E news 0 cur w hg (by simpa using hfit) hs.one
 simp only [Nat.add_zero] at hst
 rcases hs.kind with ⟨e', hk⟩ | hk <;> simp [Builtin.append_, run_underlying ht, run_underlying hk, Go.sizeOf, typeInfo, hi, hs.len, hroom, hs.cells, Addr.add_lit, hst]
theorem app_any {W0 : Base} {o : Oper} {a : Act} {K K0 Kl : List (Nat × Obj)} {s x : Operand} {m n sz bts : Nat} {z v y : Value} {news xs : List Value} (hE : Elem P T E sz bts z)
   (ho : o.op = .call { callee := .builtin .append, args := #[s, x], argTypes := #[T, U] }) (hs : a.eval s = v) (hx : a.eval x = y) (hsrc : ∀ w, KS W0 K w → Src P sz U y m news w)
   (hO : OwnL W0 E sz v n xs Kl) (hsub : ∀ p ∈ Kl, p ∈ K) (hK0 : ∀ p ∈ K0, p ∈ K ∧ ∀ q ∈ Kl, q.1 ≠ p.1) (hn : n + m ≤ 4000000000) (hb : bts ≤ 10000) :
   ∀ w, KS W0 K w → ∃ v' K' w', (execOp a.eval o).run P w = .ok (.value v') w' ∧ KS W0 K' w' ∧ AppO W0 E sz K0 (n + m) (xs ++ news) v' K' := by
 intro w hw
 obtain ⟨hu, ⟨i, hi, hz, hsz, hby⟩, hzs⟩ := hE
 have hS := hsrc w hw
 have hl := hS.newsLen
 have hmax : n + m ≤ maxLen := by unfold maxLen; omega
 have hbt : (n + m) * i.bytes ≤ 140737488355328 := by
   rw [hby]
   exact Nat.le_trans (Nat.mul_le_mul hn hb) (by decide)
 subst hsz
 rcases Nat.eq_zero_or_pos m with rfl | hm0
 · have hn0 : news = [] := List.eq_nil_of_length_eq_zero (by rw [hl]; simp)
   subst hn0
   rw [List.append_nil, Nat.add_zero]
   have hv : ∃ p cap, v = .slice p n cap ∧ n ≤ cap := by
     rcases hO with ⟨rfl, _, rfl, _⟩ | ⟨g, cap, cur, rfl, _, ⟨_, _, h3, _⟩, _⟩
     · exact ⟨_, _, rfl, Nat.le_refl _⟩
     · exact ⟨_, _, rfl, h3⟩
   obtain ⟨p, cap, rfl, hle⟩ := hv
   have hr := run_append_nothing (P := P) w T U o.type E i hu hi p n cap hle _ hS
   refine ⟨_, K0 ++ Kl, w, run_appu ho hs hx hr, hw.sub (fun q hq => ?_), Kl, hO, fun q hq => (hK0 q hq).2, rfl⟩
   rcases List.mem_append.1 hq with h | h
   · exact (hK0 q h).1
   · exact hsub q h
 · rcases hO with ⟨rfl, rfl, rfl, rfl⟩ | ⟨g, cap, cur, rfl, hB, ⟨r1, r2, r3, r4, r5⟩, rfl⟩
   · have hf0 : (Builtin.firstCells i.size 0 (.slice none 0 0)).run P w.drew = .ok (([] : List Value).toArray) w.drew := by
       simp [run_firstCells_none]
     have hr := run_append_grow_src (P := P) w T U o.type E i z hu hi hz none 0 0 [] hf0 y m news hS Tw.om Tw.om (growslice_fits Tw.om hbt)
     have hg1 := grownCap_ge w (0 + m) 0 E
     have hg2 := grownCap_le_maxLen w (0 + m) 0 E hmax
     have hR := rown_new (sz := i.size) (n := 0) (m := m) (olds := []) (news := news) z.cells hzs (by simp) hl hg1 hg2
     obtain ⟨e1, e2⟩ := appo_end (E := E) hw (fun p hp => (hK0 p hp).1) hR
     refine ⟨_, _, _, run_appu ho hs hx hr, ?_, e2⟩
     simpa using e1
   · have hgc := hw.2 _ (hsub _ Tw.m0)
     by_cases hroom : n + m ≤ cap
     · have hmul : n * i.size + m * i.size ≤ cap * i.size := by rw [← Nat.add_mul]; exact Nat.mul_le_mul_right _ hroom
       have hr := run_room_any (P := P) (U := U) w o.type i hu hi g n cap cur hgc y m news hS hroom (by rw [r1, hl]; exact hmul)
       refine ⟨_, K0 ++ [(g, .cells (cur.toList.take (n * i.size) ++ news ++ cur.toList.drop (n * i.size + news.length)).toArray E (0, 0))], _, run_appu ho hs hx hr, hw.setRow hB hgc ?_, _, .inr ⟨g, cap, _, rfl, hB, ⟨?_, r2, hroom, by simp [r4, hl, Nat.add_mul], ?_⟩, rfl⟩, fun p hp q hq => ?_, rfl⟩
       · intro p hp
         rcases List.mem_append.1 hp with hp | hp
         · exact .inr ⟨(hK0 p hp).1, fun e => (hK0 p hp).2 _ Tw.m0 e.symm⟩
         · exact .inl (List.mem_singleton.1 hp)
       · simp only [List.size_toArray, List.length_append, List.length_take, List.length_drop, Array.length_toList, r1, hl]
         omega
       · rw [r5, show (n + m) * i.size = (xs ++ news).length from by simp [r4, hl, Nat.add_mul]]
         exact List.take_left
       · cases List.mem_singleton.1 hq
         exact (hK0 p hp).2 (g, .cells cur E (0, 0)) Tw.m0
     · have hgd : w.drew.heap[g]? = some (.cells cur E (0, 0)) := hgc
       have holds : ∀ j u, xs[j]? = some u → w.drew.cell? ((⟨g, 0, none⟩ : Addr).add j) = some u := by
         intro j u hu
         rw [addr_add, Nat.zero_add, cell_of_row w.drew g j cur _ (0, 0) hgd]
         rw [← r5, List.getElem?_take] at hu
         split at hu
         · simpa using hu
         · cases hu
       have hf := run_firstCells_some (P := P) w.drew i.size n ⟨g, 0, none⟩ n cap xs r4 holds
       have hr := run_append_grow_src (P := P) w T U o.type E i z hu hi hz (some ⟨g, 0, none⟩) n cap xs hf y m news hS Tw.om Tw.om (growslice_fits Tw.om hbt)
       have hg1 := grownCap_ge w (n + m) cap E
       have hg2 := grownCap_le_maxLen w (n + m) cap E hmax
       obtain ⟨e1, e2⟩ := appo_end (E := E) hw (fun p hp => (hK0 p hp).1) (rown_new (sz := i.size) (olds := xs) (news := news) z.cells hzs r4 hl hg1 hg2)
       refine ⟨_, _, _, run_appu ho hs hx hr, ?_, e2⟩
       simpa using e1
end
end Tw
namespace Tw
open Go Go.RowKit
theorem djt {p : Prop} (h : p := by (try simp only [dj_app_l, dj_app_r, dj_cons_l, dj_cons_r, dj_nil_l, dj_nil_r, dk_app, dk_cons, dk_nil, and_true, true_and, and_assoc]); repeat' (first | trivial | assumption | exact Dj.symm (by assumption) | exact Ne.symm (by assumption) | apply And.intro)) : p := h
theorem dkf {q : Prop} {g : Nat} {K : List (Nat × Obj)} (h : ∀ p ∈ K, p.1 ≠ g) (e : Dk g K → q := by intro h; simpa only [dj_app_l, dj_app_r, dj_cons_l, dj_cons_r, dj_nil_l, dj_nil_r, dk_app, dk_cons, dk_nil, and_true, true_and, and_assoc] using h) : q := e h
theorem djf {q : Prop} {K T : List (Nat × Obj)} (h : Dj K T) (e : Dj K T → q := by intro h; simpa only [dj_app_l, dj_app_r, dj_cons_l, dj_cons_r, dj_nil_l, dj_nil_r, dk_app, dk_cons, dk_nil, and_true, true_and, and_assoc] using h) : q := e h
end Tw
/- Paths of a walk that come together again. -/
namespace Tw
open Go Go.RowKit Go.Proofs.YtalmflgkbmnghaaGreatDoor
def normQ (R : Act → World → Prop) : Exit → Act → World → Prop
 | .normal, a, w => R a w
 | _, _, _ => False
def preW (P : Program) (R : Act → World → Prop) : Nat → Code → Act → World → Prop
 | 0, _, a, w => R a w
 | n + 1, .seq x y, a, w => x.wp P (normQ (preW P R n y)) a w
 | _ + 1, _, _, _ => False
def cutT : Nat → Code → Code
 | n + 1, .seq _ b => cutT n b
 | _, c => c
theorem wp_joins {P : Program} {Q : Exit → Act → World → Prop} (R : Act → World → Prop) : ∀ (n : Nat) {c : Code} {a : Act} {w : World}, preW P R n c a w → (∀ a' w', R a' w' → (cutT n c).wp P Q a' w') → c.wp P Q a w
 | 0, c, a, w, h1, h2 => by
   have := h2 a w h1
   cases c <;> exact this
 | n + 1, c, a, w, h1, h2 => by
   cases c with
   | seq x y =>
     refine wp_seq (wp_mono h1 ?_)
     rintro e a' w' hq
     cases e with
     | normal => exact wp_joins R n hq h2
     | _ => exact hq.elim
   | _ => exact h1.elim
def JoinR (F : (Nat → Value) → Array Value) (W0 : Base) (K : List (Nat × Obj)) (a : Act) (w : World) : Prop := (∃ z, a = { tmps := F z, defers := [] }) ∧ KS W0 K w
theorem join_mk {F : (Nat → Value) → Array Value} {W0 : Base} {K : List (Nat × Obj)} {T : Array Value} {w : World} (h : F (fun i => T.getD i undef) = T) (hK : KS W0 K w) : JoinR F W0 K { tmps := T, defers := [] } w := ⟨⟨_, by rw [h]⟩, hK⟩
end Tw
/- Lists of numbers that are read, cut and handed on: over any program. -/
namespace Tw
open Go Go.RowKit Go.Proofs.YtalmflgkbmnghaaGreatDoor
def nums (l : List Nat) : List Value := l.map fun n => .int .i64 ((n : Nat) : Int)
theorem nums_len (l : List Nat) : (nums l).length = l.length := by simp [nums]
theorem nums_app (l m : List Nat) : nums (l ++ m) = nums l ++ nums m := by simp [nums]
theorem nums_get {l : List Nat} {k x : Nat} (h : l[k]? = some x) : (nums l)[k]? = some (.int .i64 ((x : Nat) : Int)) := by simp [nums, h]
theorem nums_take (l : List Nat) (k : Nat) : nums (l.take k) = (nums l).take k := by simp [nums, List.map_take]
theorem nums_drop (l : List Nat) (k : Nat) : nums (l.drop k) = (nums l).drop k := by simp [nums, List.map_drop]
theorem nums_one (l : List Nat) : ∀ u ∈ nums l, u.oneCell' = true := by
 intro u hu
 obtain ⟨n, _, rfl⟩ := List.mem_map.1 hu
 rfl
theorem slv_take {W : World} {p : Option Addr} {xs : List Value} (h : SLV W p xs) (k : Nat) : SLV W p (xs.take k) := by
 rcases h with rfl | ⟨b, off, rfl, hlt, hc⟩
 · exact .inl (by simp)
 · refine .inr ⟨b, off, rfl, hlt, fun i u hu => hc i u ?_⟩
   rw [List.getElem?_take] at hu
   split at hu
   · exact hu
   · cases hu
def NS (W0 : Base) (p : Option Addr) (l : List Nat) (T : List (Nat × Obj)) : Prop := ∀ W, KS W0 T W → SLV W p (nums l)
section
variable {W0 : Base} {p : Option Addr} {l : List Nat} {K T : List (Nat × Obj)}
theorem NS.mono (h : NS W0 p l T) (hs : ∀ q ∈ T, q ∈ K) : NS W0 p l K := fun W hW => h W (hW.sub hs)
theorem NS.take (h : NS W0 p l T) (k : Nat) : NS W0 p (l.take k) T := fun W hW => by rw [nums_take]; exact slv_take (h W hW) k
theorem NS.nil : NS W0 p [] T := fun _ _ => .inl rfl
theorem NS.base {W : World} (h : SLV W p (nums l)) : NS (W : Base) p l [] := fun _ hW => h.keep hW.1
theorem NS.at {W : World} {k : Nat} (h : NS W0 p l T) (hW : KS W0 T W) (hk : k < l.length) : ∃ b off, p = some ⟨b, off, none⟩ ∧ ∀ W, KS W0 T W → ∀ (i x : Nat), l[i]? = some x → W.cell? ⟨b, off + i * 1, none⟩ = some (.int .i64 ((x : Nat) : Int)) := by
 have hne : nums l ≠ [] := fun e => by have := nums_len l; rw [e] at this; simp at this; omega
 rcases h W hW with h0 | ⟨b, off, rfl, _, _⟩
 · exact absurd h0 hne
 · refine ⟨b, off, rfl, fun W2 hW2 i x hx => ?_⟩
   rcases h W2 hW2 with h0 | ⟨b', off', he, _, hc⟩
   · exact absurd h0 hne
   · cases he
     rw [Nat.mul_one]
     exact hc i _ (nums_get hx)
theorem NS.drop {W : World} {c k : Nat} (h : NS W0 p l T) (hW : KS W0 T W) (hc : l.length ≤ c) : NS W0 (if c = k then p else p.map (·.add (k * 1))) (l.drop k) T := by
 rcases Nat.lt_or_ge k l.length with h1 | h1
 · obtain ⟨b, off, rfl, h2⟩ := h.at hW h1
   rw [if_neg Tw.om]
   intro W2 hW2
   rcases h W2 hW2 with h0 | ⟨b', off', he, hlt, hc⟩
   · have := nums_len l; rw [h0] at this; simp at this; omega
   · cases he
     refine .inr ⟨b, off + k * 1, by simp [addr_add], hlt, fun i u hu => ?_⟩
     rw [nums_drop, List.getElem?_drop] at hu
     rw [Nat.mul_one, Nat.add_assoc]
     exact hc _ u hu
 · rw [List.drop_of_length_le h1]; exact NS.nil
theorem cell_same {w w2 : World} {b off : Nat} (h : w.heap[b]? = w2.heap[b]?) : w.cell? ⟨b, off, none⟩ = w2.cell? ⟨b, off, none⟩ := by
 unfold World.cell?; simp only [h]
def SLF (W w2 : World) (p : Option Addr) (xs : List Value) : Prop := xs = [] ∨ ∃ b off, p = some ⟨b, off, none⟩ ∧ W.heap.size ≤ b ∧ b < w2.heap.size ∧ Cel w2 b off xs
theorem SLF.slv {W w2 : World} {xs : List Value} (h : SLF W w2 p xs) : SLV w2 p xs := h.imp id fun ⟨b, off, h1, _, h2, h3⟩ => ⟨b, off, h1, h2, h3⟩
theorem SLF.back {V W w2 : World} {xs : List Value} (h : SLF W w2 p xs) (hs : V.heap.size ≤ W.heap.size) : SLF V w2 p xs := h.imp id fun ⟨b, off, h1, h2, h3⟩ => ⟨b, off, h1, by omega, h3⟩
theorem SLF.take {W w2 : World} {xs : List Value} (h : SLF W w2 p xs) (k : Nat) : SLF W w2 p (xs.take k) := by
 rcases h with rfl | ⟨b, off, rfl, h1, h2, hc⟩
 · exact .inl (by simp)
 · refine .inr ⟨b, off, rfl, h1, h2, fun i u hu => hc i u ?_⟩
   rw [List.getElem?_take] at hu
   split at hu
   · exact hu
   · cases hu
theorem ns_new {W w2 : World} (hW : KS W0 K W) (hB : Below W.heap.size W w2) (hs : SLF W w2 p (nums l)) : ∃ T, KS W0 (K ++ T) w2 ∧ Dj K T ∧ NS W0 p l T ∧ ∀ W3, KS W0 T W3 → W0.B = W0.w.heap.size → SLF W0.w W3 p (nums l) := by
 have hK := hW.below hB
 rcases hs with h0 | ⟨b, off, rfl, hge, hlt, hc⟩
 · exact ⟨[], by rw [List.append_nil]; exact hK, fun _ _ _ h => (by cases h), fun _ _ => .inl h0, fun _ _ _ => .inl h0⟩
 · have hb : w2.heap[b]? = some (w2.heap[b]) := Array.getElem?_eq_getElem hlt
   refine ⟨[(b, w2.heap[b])], ⟨hK.1, fun q hq => ?_⟩, fun q hq r hr e => ?_, fun W3 hW3 => .inr ⟨b, off, rfl, ?_, fun i u hu => ?_⟩, fun W3 hW3 e => .inr ⟨b, off, rfl, ?_, ?_, fun i u hu => ?_⟩⟩
   · rcases List.mem_append.1 hq with h | h
     · exact hK.2 q h
     · cases List.mem_singleton.1 h; exact hb
   · cases List.mem_singleton.1 hr
     have := lt_of_block (hW.2 q hq)
     have e' : b = q.1 := e
     omega
   · have := hW3.2 _ Tw.m0; exact lt_of_block this
   · rw [cell_same (w2 := w2) (by rw [hW3.2 _ Tw.m0]; exact hb.symm)]; exact hc i u hu
   · have := hW.size; omega
   · have := hW3.2 _ Tw.m0; exact lt_of_block this
   · rw [cell_same (w2 := w2) (by rw [hW3.2 _ Tw.m0]; exact hb.symm)]; exact hc i u hu
theorem own_ns {E : TypeId} {v : Value} {n : Nat} (h : OwnL W0 E 1 v n (nums l) T) : ∃ p c, v = .slice p n c ∧ n ≤ c ∧ NS W0 p l T ∧ ∀ W w2, KS W0 T W → W0.B = W0.w.heap.size → Below W.heap.size W w2 → SLF W0.w w2 p (nums l) := by
 rcases h with ⟨rfl, h2, rfl, rfl⟩ | ⟨g, cap, cur, rfl, hB, hR, rfl⟩
 · exact ⟨none, 0, rfl, Nat.le_refl _, fun _ _ => .inl h2, fun _ _ _ _ _ => .inl h2⟩
 · refine ⟨_, cap, rfl, hR.2.2.1, fun W hW => ?_, fun W w2 hW e hb => ?_⟩
   · have hb := hW.2 _ Tw.m0
     exact .inr ⟨g, 0, rfl, lt_of_block hb, hR.cel hb⟩
   · have h1 := (hW.below hb).2 _ Tw.m0
     exact .inr ⟨g, 0, rfl, by omega, lt_of_block h1, hR.cel h1⟩
theorem own_ncap {E : TypeId} {v : Value} {n : Nat} {xs : List Value} (h : OwnL W0 E 1 v n xs T) : xs.length = n := by
 rcases h with ⟨rfl, h2, rfl, rfl⟩ | ⟨g, cap, cur, rfl, hB, hR, rfl⟩
 · simp [h2]
 · have := hR.2.2.2.1; omega
theorem own_row {E : TypeId} {g n : Nat} {xs : List Value} (hB : W0.B ≤ g) (hl : xs.length = n) (hm : n ≤ 4000000000) : OwnL W0 E 1 (.slice (some ⟨g, 0, none⟩) n n) n xs [(g, .cells xs.toArray E (0, 0))] :=
 .inr ⟨g, n, _, rfl, hB, ⟨by simp [hl], by unfold maxLen; omega, Nat.le_refl _, by simp [hl], by simp [← hl]⟩, rfl⟩
end
section
variable {P : Program} {T E : TypeId} {W0 : Base}
theorem yb_ns {o : Oper} {a : Act} {K : List (Nat × Obj)} {ty : TypeId} {x : Operand} {g off : Nat} {v : Value} {d : TypeDesc} (ho : o.op = .load ty x) (hx : a.eval x = .pointer (some ⟨g, off, none⟩))
   (hc : ∀ W, KS W0 K W → W.cell? ⟨g, off, none⟩ = some v) (hu : P.underlying ty = some d) (hd : aggD d = false) :
   ∀ w, KS W0 K w → ∀ K' : Act → World → Prop, (∀ w', Below w.heap.size w w' → K' (a.put o.dst v) w') → Oper.wp P o a w K' (fun _ _ _ => False) := by
 intro w hw K' hk
 have hagg : (isAgg ty).run P w = .ok false w := by
   unfold isAgg
   rw [Sem.run_bind, run_underlying hu w]
   unfold aggD at hd
   cases d <;> simp_all
 have hr : (loadVar ty ⟨g, off, none⟩).run P w = .ok v w := by
   simp [loadVar, Sem.run_bind, hagg, hc w hw]
 unfold Oper.wp execOp
 simp only [ho, hx, Instr.loadAt, Instr.sureAddr, Sem.run_bind, Sem.run_pure, Result.andThen_ok, hr]
 exact hk w (Below.refl _ _)
theorem run_cutH {o : Oper} {a : Act} {p : Option Addr} {n c j sz : Nat} {x p2 : Operand} {k2 : IntKind} (ho : o.op = .slice T x none (some p2) none) (hT : P.underlying T = some (.slice E)) (hsz : (P.info? E).map (·.size) = some sz) (hx : a.eval x = .slice p n c) (h2 : a.eval p2 = .int k2 ((j : Nat) : Int)) (hl : j ≤ c) (w : World) : (execOp a.eval o).run P w = .ok (.value (.slice p j c)) w := by
 unfold execOp
 rw [ho]
 have e2 := fun q => sl_bound (P := P) (k := k2) (c := q) hl w
 cases hq : P.info? E with
 | none => simp [hq] at hsz
 | some i =>
   have hp : (if c = 0 then p else p.map (·.add (0 * i.size))) = p := by
     split
     · rfl
     · cases p with
       | none => rfl
       | some q => obtain ⟨b, off, s⟩ := q; simp [Addr.add]
   simp [Instr.sliceAt, Instr.slice, Instr.sliceBounds, hx, h2, run_underlying hT, e2, Go.sizeOf, typeInfo, hq]
   cases p with
   | none => simp
   | some q => obtain ⟨b, off, s⟩ := q; simp [Addr.add]
theorem run_cutL {o : Oper} {a : Act} {p : Option Addr} {n c i : Nat} {x p1 : Operand} {k1 : IntKind} (ho : o.op = .slice T x (some p1) none none) (hT : P.underlying T = some (.slice E)) (hsz : (P.info? E).map (·.size) = some 1) (hx : a.eval x = .slice p n c) (h1 : a.eval p1 = .int k1 ((i : Nat) : Int)) (hl : i ≤ n) (w : World) : (execOp a.eval o).run P w = .ok (.value (.slice (if c = i then p else p.map (·.add (i * 1))) (n - i) (c - i))) w := by
 unfold execOp
 rw [ho]
 have e1 := fun q => sl_bound (P := P) (k := k1) (c := q) hl w
 cases hq : P.info? E with
 | none => simp [hq] at hsz
 | some j =>
   have hs : j.size = 1 := by simpa [hq] using hsz
   simp [Instr.sliceAt, Instr.slice, Instr.sliceBounds, hx, h1, run_underlying hT, e1, Go.sizeOf, typeInfo, hq, hs]
theorem src_ns {K : List (Nat × Obj)} {U : TypeId} {p : Option Addr} {l : List Nat} {m c : Nat} (hU : P.underlying U = some (.slice E)) (h : NS W0 p l K) (hm : m = l.length) : ∀ w, KS W0 K w → Src P 1 U (.slice p m c) m (nums l) w := by
 intro w hw
 subst hm
 rcases h w hw with h0 | ⟨b, off, rfl, hlt, hc⟩
 · have hl : l = [] := by
     have := nums_len l; rw [h0] at this; exact List.eq_nil_of_length_eq_zero this.symm
   subst hl
   cases p with
   | none => exact Src.ofNil w hU c
   | some ad => exact Src.ofSlice w hU ad 0 c [] (by simp) (fun j u h => by simp at h) (fun u hu => by cases hu)
 · exact Src.ofSlice w hU ⟨b, off, none⟩ l.length c (nums l) (by simp [nums_len]) (fun j u hj => by rw [addr_add]; exact hc j u hj) (nums_one l)
theorem run_mk {o : Oper} {a : Act} {n : Nat} {x y : Operand} {b : Nat} (ho : o.op = .makeSlice T x y) (hT : P.underlying T = some (.slice E)) (hi : (P.info? E).map (fun i => (i.zero, i.size, i.bytes)) = some (some (.int .i64 0), 1, b)) (hb : b ≤ 10000)
   (hx : a.eval x = .int .i64 ((n : Nat) : Int)) (hy : a.eval y = .int .i64 ((n : Nat) : Int)) (hn : n ≤ 4000000000) (w : World) : (execOp a.eval o).run P w = .ok (.value (.slice (some ⟨w.heap.size, 0, none⟩) n n)) (w.alloc (.cells (nums (List.replicate n 0)).toArray E (0, 0))) := by
 unfold execOp
 rw [ho]
 have h1 : b * n ≤ 281474976710656 := Nat.le_trans (Nat.mul_le_mul hb hn) (by decide)
 have h2 := run_make_row' (P := P) T E (.int .i64 0) b hT hi rfl .i64 .i64 n h1 Tw.om w
 have h3 : madeCells #[.int .i64 0] n = (nums (List.replicate n 0)).toArray := by
   apply Array.ext'
   rw [toList_madeCells_one]
   simp [nums]
 rw [h3] at h2
 simp [hx, hy, h2]
end
def Ans (w : World) (l : List Nat) (e : Ending) (w' : World) : Prop := ∃ q d, e = .returned (.slice q l.length d) ∧ l.length ≤ d ∧ SLF w w' q (nums l) ∧ Below w.heap.size w w'
def AnsV (w : World) (l : List Nat) (e : Ending) (w' : World) : Prop := ∃ q d, e = .returned (.slice q l.length d) ∧ l.length ≤ d ∧ SLV w' q (nums l) ∧ Below w.heap.size w w'
def AnsG (W0 : Base) (K : List (Nat × Obj)) (l : List Nat) (v : Value) (K2 : List (Nat × Obj)) : Prop := ∃ q d T, v = .slice q l.length d ∧ l.length ≤ d ∧ NS W0 q l T ∧ (∀ W3, KS W0 T W3 → W0.B = W0.w.heap.size → SLF W0.w W3 q (nums l)) ∧ Dj K T ∧ K2 = K ++ T
def AnsW (W0 : Base) (K : List (Nat × Obj)) (l : List Nat) (v : Value) (K2 : List (Nat × Obj)) : Prop := ∃ q d T, v = .slice q l.length d ∧ l.length ≤ d ∧ NS W0 q l T ∧ K2 = K ++ T
def Ans2 (w : World) (l m : List Nat) (e : Ending) (w' : World) : Prop := ∃ q d q2 d2, e = .returned (.tuple #[.slice q l.length d, .slice q2 m.length d2]) ∧ l.length ≤ d ∧ m.length ≤ d2 ∧ SLV w' q (nums l) ∧ SLV w' q2 (nums m) ∧ Below w.heap.size w w'
def AnsW2 (W0 : Base) (K : List (Nat × Obj)) (l m : List Nat) (v : Value) (K2 : List (Nat × Obj)) : Prop := ∃ q d q2 d2 T, v = .tuple #[.slice q l.length d, .slice q2 m.length d2] ∧ l.length ≤ d ∧ m.length ≤ d2 ∧ NS W0 q l T ∧ NS W0 q2 m T ∧ K2 = K ++ T
section
variable {W0 : Base} {K : List (Nat × Obj)} {W w2 : World} {l m : List Nat} {e : Ending}
theorem Ans.v (h : Ans W l e w2) : AnsV W l e w2 := by
 obtain ⟨q, d, h1, h2, h3, h4⟩ := h
 exact ⟨q, d, h1, h2, h3.slv, h4⟩
theorem Ans.g (h : Ans W l e w2) (hW : KS W0 K W) : ∃ v K2, e = .returned v ∧ KS W0 K2 w2 ∧ AnsG W0 K l v K2 := by
 obtain ⟨q, d, h1, h2, h3, h4⟩ := h
 obtain ⟨T, a1, a2, a3, a4⟩ := ns_new hW h4 h3
 exact ⟨_, _, h1, a1, q, d, T, rfl, h2, a3, a4, a2, rfl⟩
theorem ns_of' {p : Option Addr} (hW : KS W0 K W) (hB : Below W.heap.size W w2) (hs : SLV w2 p (nums l)) : ∃ T, KS W0 (K ++ T) w2 ∧ NS W0 p l T := by
 have hK := hW.below hB
 rcases hs with h0 | ⟨b, off, rfl, hlt, hc⟩
 · exact ⟨[], by rw [List.append_nil]; exact hK, fun _ _ => .inl h0⟩
 · have hb : w2.heap[b]? = some (w2.heap[b]) := Array.getElem?_eq_getElem hlt
   refine ⟨[(b, w2.heap[b])], ⟨hK.1, fun q hq => ?_⟩, fun W3 hW3 => .inr ⟨b, off, rfl, ?_, fun i u hu => ?_⟩⟩
   · rcases List.mem_append.1 hq with h | h
     · exact hK.2 q h
     · cases List.mem_singleton.1 h; exact hb
   · have := hW3.2 _ Tw.m0; exact lt_of_block this
   · rw [cell_same (w2 := w2) (by rw [hW3.2 _ Tw.m0]; exact hb.symm)]; exact hc i u hu
theorem AnsV.g (h : AnsV W l e w2) (hW : KS W0 K W) : ∃ v K2, e = .returned v ∧ KS W0 K2 w2 ∧ AnsW W0 K l v K2 := by
 obtain ⟨q, d, h1, h2, h3, h4⟩ := h
 obtain ⟨T, a1, a3⟩ := ns_of' hW h4 h3
 exact ⟨_, _, h1, a1, q, d, T, rfl, h2, a3, rfl⟩
theorem Ans2.g (h : Ans2 W l m e w2) (hW : KS W0 K W) : ∃ v K2, e = .returned v ∧ KS W0 K2 w2 ∧ AnsW2 W0 K l m v K2 := by
 obtain ⟨q, d, q2, d2, h1, h2, h3, h4, h5, h6⟩ := h
 obtain ⟨T, a1, a3⟩ := ns_of' hW h6 h4
 obtain ⟨U, b1, b3⟩ := ns_of' a1 (Below.refl _ _) h5
 refine ⟨_, _, h1, b1, q, d, q2, d2, T ++ U, rfl, h2, h3, a3.mono (fun q hq => List.mem_append_left _ hq), b3.mono (fun q hq => List.mem_append_right _ hq), by rw [List.append_assoc]⟩
theorem ns_blk {g : Nat} {E : TypeId} {fr : Nat × Nat} : NS W0 (some ⟨g, 0, none⟩) l [(g, .cells (nums l).toArray E fr)] := fun W hW => by
 have hb := hW.2 _ Tw.m0
 refine .inr ⟨g, 0, rfl, lt_of_block hb, fun i u hu => ?_⟩
 rw [Nat.zero_add, cell_of_row W g i _ _ fr hb]
 simpa using hu
theorem own_snoc {E : TypeId} {v : Value} {n d : Nat} (h : OwnL W0 E 1 v n (nums l ++ [.int .i64 ((d : Nat) : Int)]) K) : OwnL W0 E 1 v n (nums (l ++ [d])) K := by
 rw [nums_app]; exact h
theorem own_snocZ {E : TypeId} {v : Value} {n : Nat} {z : Int} (h : OwnL W0 E 1 v n (nums l ++ [.int .i64 z]) K) (hz : 0 ≤ z) : OwnL W0 E 1 v n (nums (l ++ [z.toNat])) K := by
 rw [nums_app]
 have e : ((z.toNat : Nat) : Int) = z := Int.toNat_of_nonneg hz
 simp only [nums, List.map_cons, List.map_nil, e]
 exact h
theorem own_len {E : TypeId} {v : Value} {n : Nat} (h : OwnL W0 E 1 v n (nums l) K) : l.length = n := by rw [← nums_len]; exact own_ncap h
theorem ret_sl {p : Option Addr} {a b c : Nat} (h : a = b) : Ending.returned (.slice p a c) = Ending.returned (.slice p b c) := by rw [h]
end
section
variable {P : Program} {W0 : Base}
theorem st_to {o : Oper} {a : Act} {K K' : List (Nat × Obj)} {ty t : TypeId} {x y : Operand} {g off : Nat} {cs cs' : Array Value} {fr : Nat × Nat} {v : Value} (hc' : cs.setIfInBounds off v = cs') (ho : o.op = .store ty x y) (hx : a.eval x = .pointer (some ⟨g, off, none⟩)) (hv : a.eval y = v)
   (hm : (g, .cells cs t fr) ∈ K) (hB : W0.B ≤ g) (hi : (P.info? ty).map (·.size) = some 1) (hvc : v.cells = #[v]) (h1 : v.oneCell' = true) (hfit : off < cs.size) (hfr : cs.size ≤ fr.1 ∨ fr.2 = 0)
   (hK : ∀ p ∈ K', p = (g, .cells cs' t fr) ∨ (p ∈ K ∧ p.1 ≠ g)) : ∀ w, KS W0 K w → ∃ w', (execOp a.eval o).run P w = .ok .skip w' ∧ KS W0 K' w' := by
 subst hc'
 exact st_at ho hx hv hm hB hi hvc h1 hfit hfr hK
theorem st_all {o : Oper} {a : Act} {K K' : List (Nat × Obj)} {ty t : TypeId} {x y : Operand} {g : Nat} {cs cs' : Array Value} (hs : cs.size = cs'.size) (h1 : ∀ x ∈ cs'.toList, x.oneCell' = true) (ho : o.op = .store ty x y) (hx : a.eval x = .pointer (some ⟨g, 0, none⟩)) (hv : a.eval y = .agg cs')
   (hm : (g, .cells cs t (0, 0)) ∈ K) (hB : W0.B ≤ g) (hi : (P.info? ty).map (·.size) = some cs'.size)
   (hK : ∀ p ∈ K', p = (g, .cells cs' t (0, 0)) ∨ (p ∈ K ∧ p.1 ≠ g)) : ∀ w, KS W0 K w → ∃ w', (execOp a.eval o).run P w = .ok .skip w' ∧ KS W0 K' w' := by
 refine st_row ho hx hv hm hB hi (by show 0 + cs'.size ≤ cs.size; omega) h1 ?_ hK
 show cs' = (cs.toList.take 0 ++ cs'.toList ++ cs.toList.drop (0 + cs'.toList.length)).toArray
 rw [List.take_zero, List.nil_append, Nat.zero_add, List.drop_of_length_le (by simp; omega), List.append_nil]
theorem yb_all {o : Oper} {a : Act} {K : List (Nat × Obj)} {ty t : TypeId} {x : Operand} {g : Nat} {cur : Array Value} {fr : Nat × Nat} {d : TypeDesc} (ho : o.op = .load ty x) (hx : a.eval x = .pointer (some ⟨g, 0, none⟩))
   (hm : (g, .cells cur t fr) ∈ K) (hu : P.underlying ty = some d) (hd : aggD d = true) (hi : (P.info? ty).map (·.size) = some cur.size) :
   ∀ w, KS W0 K w → ∀ K' : Act → World → Prop, (∀ w', Below w.heap.size w w' → K' (a.put o.dst (.agg cur)) w') → Oper.wp P o a w K' (fun _ _ _ => False) :=
 yb_cells (cs := cur.toList) ho hx hm (fun j v hj => by rw [Nat.zero_add]; simpa using hj) hu hd (by simpa using hi)
theorem un_neg {k : IntKind} {x z : Int} (h : -x = z) (hw : k.wrap z = z) (w : World) : (Op.unary .neg (.int k x) : Sem Value).run P w = .ok (.int k z) w := by
 subst h
 simp [Op.unary, Op.intArith, Int.zero_sub, hw]
theorem run_minN {o : Oper} {a : Act} {x y : Nat} {px py : Operand} {k : IntKind} {tt : Array TypeId} (ho : o.op = .call { callee := .builtin .min, args := #[px, py], argTypes := tt }) (hx : a.eval px = .int k ((x : Nat) : Int)) (hy : a.eval py = .int k ((y : Nat) : Int)) (w : World) : (execOp a.eval o).run P w = .ok (.value (.int k ((min x y : Nat) : Int))) w := by
 unfold execOp
 rw [ho]
 have h := run_min_int2 (P := P) w tt o.type k k x y
 simp only [resolve, invoke, builtin, Sem.run_bind, Sem.run_pure, Result.andThen_ok, List.map_toArray, List.map_cons, List.map_nil, hx, hy, h]
 congr 2
 simp only [Nat.min_def]
 split <;> split <;> first | rfl | (exfalso; omega)
theorem nums_set (l : List Nat) (i x : Nat) : (nums l).toArray.setIfInBounds (0 + i * 1) (.int .i64 ((x : Nat) : Int)) = (nums (l.set i x)).toArray := by
 rw [Nat.zero_add, Nat.mul_one, List.setIfInBounds_toArray]
 simp [nums, List.map_set]
end
end Tw
namespace Go.Proofs.YtalmflgkbmnghaaGreatDoor
open Go Go.RowKit Tw
theorem div_none {a b : Nat} (h : a < b) : a / b = 0 ∧ a % b = a := ⟨Nat.div_eq_of_lt h, Nat.mod_eq_of_lt h⟩
theorem div_len {a b : Nat} (h : ¬ a < b) : (cd b).length ≤ (cd a).length := cd_le.2 (Nat.lt_of_le_of_lt (Nat.le_of_not_lt h) (cd_hi a))
theorem start_lt {a b i : Nat} (hb : 0 < b) (hi : (cd a).length - i ≤ (cd b).length - 1) : dv ((cd a).drop i) < b :=
 Nat.lt_of_lt_of_le (drop_lt (cd_ok a) i _ hi) (low_pow hb)
theorem rep_drop (n i : Nat) : dv ((List.replicate n 0).drop i) = 0 := by
 rw [List.drop_replicate]
 induction n - i with
 | zero => rfl
 | succ k ih => rw [List.replicate_succ, dv, ih]
theorem div_bounds {x b n t lo hi : Nat} (hn : (cd b).length = n) (hn0 : 0 < n) (ht : (cd b)[n - 1]? = some t) (hlo : x / 65536 ^ (n - 1) / (t + 1) = lo) (hhi : min (x / 65536 ^ (n - 1) / t) 65535 = hi) (hq : x / b < 65536) (hb : 0 < b) : lo ≤ x / b ∧ x / b ≤ hi ∧ 0 < t := by
 obtain ⟨m, rfl⟩ : ∃ m, n = m + 1 := ⟨n - 1, by omega⟩
 rw [Nat.add_sub_cancel] at *
 obtain ⟨h1, h2, h3⟩ := top_digit hn ht
 refine ⟨(Nat.le_div_iff_mul_le hb).2 (top_low h3 hlo), ?_, h1⟩
 have h4 := top_high (x := x) (Nat.pow_pos (by omega : 0 < 65536) (n := m)) h1 h2
 rw [← hhi]
 omega
theorem cd_pos' {b : Nat} (h : 0 < (cd b).length) : 0 < b := by
 rcases Nat.eq_zero_or_pos b with rfl | h0
 · simp [cd_zero] at h
 · exact h0
theorem div_x {x r b n : Nat} (hx : x < 65536) (hr : r < b) (hn : (cd b).length = n) (hn0 : 0 < n) : (cd (x + 65536 * r)).length ≤ n - 1 + 2 := by
 rw [cd_le]
 have h1 := cd_hi b
 rw [hn] at h1
 have h2 : 65536 * (r + 1) ≤ 65536 * 65536 ^ n := Nat.mul_le_mul_left _ Tw.om
 rw [show n - 1 + 2 = n + 1 from by omega, Nat.pow_succ, Nat.mul_comm (65536 ^ n)]
 omega
theorem drop_big {l : List Nat} {k : Nat} (h : l.length ≤ k) : dv (l.drop k) = 0 := by rw [List.drop_of_length_le h]; rfl
theorem cd_drop (a : Nat) : ∀ i, (cd a).drop i = cd (dv ((cd a).drop i))
 | 0 => by rw [List.drop_zero, dv_cd]
 | i + 1 => by
   rcases Nat.eq_zero_or_pos a with rfl | h
   · simp [cd_zero, dv]
   · rw [cd_pos h, List.drop_succ_cons]
     exact cd_drop (a / 65536) i
termination_by i => i
end Go.Proofs.YtalmflgkbmnghaaGreatDoor
namespace Go.Proofs.YtalmflgkbmnghaaGreatDoor
open Go Go.RowKit Tw
theorem el_int : Elem Tryz.prog 32 3 1 8 (.int .i64 0) := Elem.mk' Tryz.underlying32 Tw.kr rfl
theorem ans_end {w w2 : World} {E : TypeId} {v : Value} {i : Nat} {R L : List Nat} {K Kl : List (Nat × Obj)} (h : OwnL (w : Base) E 1 v i (nums R) Kl) (he : R = L) (hW : KS (w : Base) K w2) (hs : ∀ p ∈ Kl, p ∈ K) : Ans w L (.returned v) w2 := by
 subst he
 have e := own_len h
 obtain ⟨p, c, rfl, h1, h2, h3⟩ := own_ns h
 subst e
 exact ⟨p, c, rfl, h1, h3 w2 w2 (hW.sub hs) rfl (Below.refl _ _), hW.1⟩
theorem less_none {a b k : Nat} (hk : k = 0) (hE : (cd a).drop k = (cd b).drop k) : false = decide (a < b) := by
 subst hk
 simp only [List.drop_zero] at hE
 have h := congrArg dv hE
 rw [dv_cd, dv_cd] at h
 rw [h]; simp
theorem bool_is {b c : Bool} (h : b = c) : Ending.returned (.bool b) = .returned (.bool c) := by rw [h]
def lenOf : Value → Nat
 | .slice _ n _ => n
 | _ => 0
set_option maxRecDepth 100000 in
set_option maxHeartbeats 4000000 in
theorem trim_any (L : List Nat) (n m : Nat) (p : Option Addr) (c : Nat) (hL : dOk L) (hv : dv L = n) (hm : m = L.length) (hmc : m ≤ c) (hml : m ≤ 4000000000) (w : World) (hp : SLV w p (nums L)) : Calls Tryz.prog 81 #[.slice p m c] w fun e w' => e = .returned (.slice p (cd n).length c) ∧ Below w.heap.size w w' := by
 have HP : NS (w : Base) p L [] := NS.base hp
 clear hp
 go_enter Tryz.func81, Tryz.ntmps81
 refine wp_seq ?_
 refine wp_region_L [] (KS.start w) ?_
 refine Tw.mm (.slice none 0 0) ?_
 refine wpL_done (fun W1 hW1 => ?_)
 change Code.wp ..
 refine wp_seq ?_
 refine wp_block ?_
 go_loopw [0] (fun u0 wr => ∃ (k : Nat), (k ≤ L.length) ∧ (dv (L.take k) = n) ∧ u0 = .slice p k c ∧ KS w [] wr) (fun u0 _ => lenOf u0)
 case atStart => exact ⟨m, Tw.om, (by rw [hm, List.take_length]; exact hv), rfl, (hW1.sub Tw.sb)⟩
 case round =>
   obtain ⟨k, hk, hk2, rfl, hL2⟩ := hrel
   refine wp_seq ?_
   refine wp_seq ?_
   refine wp_region_L _ hL2 ?_
   refine Tw.mm (.slice p k c) ?_
   refine Tw.lp (v := .int .i64 ((k : Nat) : Int)) rfl rfl (run_lenL (p := p) (cap := c) (n := k) rfl Tryz.underlying32 Tw.kr) ?_
   refine Tw.lp (v := .bool (decide (0 < k))) rfl rfl (run_bin rfl (vx := (.int .i64 ((k : Nat) : Int))) (vy := (.int .i64 ((0 : Nat) : Int))) Tw.kr Tw.kr fun w => bn_gtr rfl w) ?_
   refine Tw.mm (.bool (decide (0 < k))) ?_
   cases hd1 : (decide (0 < k)) with
   | false =>
     have h1 : ¬ (0 < k) := of_decide_eq_false hd1
     clear hd1
     refine Tw.ln rfl ?_
     refine Tw.ln rfl ?_
     refine Tw.ln rfl ?_
     refine Tw.ln rfl ?_
     refine Tw.ln rfl ?_
     refine Tw.ln rfl ?_
     refine Tw.ln rfl ?_
     refine Tw.mm (.bool false) ?_
     refine wpL_done (fun W3 hW3 => ?_)
     change Code.wp ..
     refine wp_cond_false rfl ?_
     refine wp_exit ?_
     change Code.wp ..
     refine wp_seq ?_
     refine wp_region_L _ hW3 ?_
     refine Tw.mm (.slice p k c) ?_
     refine Tw.mm (.slice p k c) ?_
     refine wpL_done (fun W4 hW4 => ?_)
     change Code.wp ..
     refine wp_ret ?_
     try simp only [inBlock_ret, then_ret]
     refine bodyPost_ret (v := .slice p k c) ?_ rfl ?_
     · kernel_rfl
     · exact ⟨(ret_sl (by rw [← hv, ← cd_trim hL hk (hk2.trans hv.symm) (fun h => absurd h h1), List.length_take, Nat.min_eq_left hk])), hW4.1⟩
   | true =>
     have h1 : 0 < k := of_decide_eq_true hd1
     clear hd1
     refine Tw.mm (.slice p k c) ?_
     refine Tw.mm (.slice p k c) ?_
     refine Tw.lp (v := .int .i64 ((k : Nat) : Int)) rfl rfl (run_lenL (p := p) (cap := c) (n := k) rfl Tryz.underlying32 Tw.kr) ?_
     refine Tw.lp (v := .int .i64 (((k - 1) : Nat) : Int)) rfl rfl (run_bin rfl (vx := (.int .i64 ((k : Nat) : Int))) (vy := (.int .i64 ((1 : Nat) : Int))) Tw.kr Tw.kr fun w => bn_sub (z := (k - 1)) rfl Tw.om (wr_i64 Tw.om) w) ?_
     obtain ⟨b1, f1, hp1, hc1⟩ := (HP.mono Tw.sb).at hL2 (k := (k - 1)) Tw.om
     refine Tw.lp (v := .pointer (some ⟨b1, f1 + (k - 1) * 1, none⟩)) rfl rfl (run_idxQ (p := p) (cap := c) (n := k) (j := .i64) (k := (k - 1)) (sz := 1) rfl Tryz.underlying32 Tw.kr Tw.kr hp1 Tw.kr Tw.om) ?_
     obtain ⟨x2, hx2⟩ : ∃ x, (L : List Nat)[(k - 1)]? = some x := ⟨_, List.getElem?_eq_getElem Tw.om⟩
     refine Tw.lv (v := .int .i64 ((x2 : Nat) : Int)) rfl rfl (yb_ns (off := f1 + (k - 1) * 1) rfl Tw.kr (fun W hW => hc1 W (hW.sub Tw.sb) _ _ hx2) Tryz.underlying3 rfl) ?_
     refine Tw.lp (v := .bool (decide (x2 = 0))) rfl rfl (run_bin rfl (vx := (.int .i64 ((x2 : Nat) : Int))) (vy := (.int .i64 ((0 : Nat) : Int))) Tw.kr Tw.kr fun w => bn_eql rfl w) ?_
     refine Tw.mm (.bool (decide (x2 = 0))) ?_
     refine wpL_done (fun W5 hW5 => ?_)
     change Code.wp ..
     cases hd2 : (decide (x2 = 0)) with
     | false =>
       have h2 : ¬ (x2 = 0) := of_decide_eq_false hd2
       clear hd2
       refine wp_cond_false rfl ?_
       refine wp_exit ?_
       change Code.wp ..
       refine wp_seq ?_
       refine wp_region_L _ hW5 ?_
       refine Tw.mm (.slice p k c) ?_
       refine Tw.mm (.slice p k c) ?_
       refine wpL_done (fun W6 hW6 => ?_)
       change Code.wp ..
       refine wp_ret ?_
       try simp only [inBlock_ret, then_ret]
       refine bodyPost_ret (v := .slice p k c) ?_ rfl ?_
       · kernel_rfl
       · exact ⟨(ret_sl (by rw [← hv, ← cd_trim hL hk (hk2.trans hv.symm) (fun _ => ⟨_, hx2, h2⟩), List.length_take, Nat.min_eq_left hk])), hW6.1⟩
     | true =>
       have h2 : x2 = 0 := of_decide_eq_true hd2
       clear hd2
       refine wp_cond_true rfl ?_
       refine wp_skip ?_
       change Code.wp ..
       refine wp_block ?_
       refine wp_region_L _ hW5 ?_
       refine Tw.mm (.slice p k c) ?_
       refine Tw.mm (.slice p k c) ?_
       refine Tw.lp (v := .int .i64 ((k : Nat) : Int)) rfl rfl (run_lenL (p := p) (cap := c) (n := k) rfl Tryz.underlying32 Tw.kr) ?_
       refine Tw.lp (v := .int .i64 (((k - 1) : Nat) : Int)) rfl rfl (run_bin rfl (vx := (.int .i64 ((k : Nat) : Int))) (vy := (.int .i64 ((1 : Nat) : Int))) Tw.kr Tw.kr fun w => bn_sub (z := (k - 1)) rfl Tw.om (wr_i64 Tw.om) w) ?_
       refine Tw.lp (v := .slice p (k - 1) c) rfl rfl (run_cutH (p := p) (n := k) (c := c) (j := (k - 1)) (k2 := .i64) (sz := 1) rfl Tryz.underlying32 Tw.kr Tw.kr Tw.kr Tw.om) ?_
       refine Tw.mm (.slice p (k - 1) c) ?_
       refine wpL_done (fun W7 hW7 => ?_)
       go_roundw
       case rel =>
         repeat apply Exists.intro
         exact ⟨⟨k - 1, Tw.om, ((dv_zero Tw.om (by have := h2; subst this; exact hx2)).trans hk2), rfl, (hW7.sub Tw.sb)⟩, rfl⟩
       case measure => (show lenOf (.slice p (k - 1) c) < lenOf (.slice p k c)); simp only [lenOf]; omega
set_option maxRecDepth 100000 in
set_option maxHeartbeats 4000000 in
theorem less_any (a b : Nat) (p q : Option Addr) (c d : Nat) (la : (cd a).length ≤ 4000000000) (w : World) (hp : SLV w p (nums (cd a))) (hq : SLV w q (nums (cd b))) : Calls Tryz.prog 47 #[.slice p (cd a).length c, .slice q (cd b).length d] w fun e w' => e = .returned (.bool (decide (a < b))) ∧ Below w.heap.size w w' := by
 have HP : NS (w : Base) p (cd a) [] := NS.base hp
 have HQ : NS (w : Base) q (cd b) [] := NS.base hq
 clear hp hq
 go_enter Tryz.func47, Tryz.ntmps47
 refine wp_seq ?_
 refine wp_region_L [] (KS.start w) ?_
 refine Tw.mm (.bool false) ?_
 refine wpL_done (fun W1 hW1 => ?_)
 change Code.wp ..
 refine wp_seq ?_
 refine wp_seq ?_
 refine wp_region_L _ hW1 ?_
 refine Tw.mm (.slice p ((cd a).length) c) ?_
 refine Tw.lp (v := .int .i64 ((((cd a).length) : Nat) : Int)) rfl rfl (run_lenL (p := p) (cap := c) (n := ((cd a).length)) rfl Tryz.underlying32 Tw.kr) ?_
 refine Tw.mm (.slice q ((cd b).length) d) ?_
 refine Tw.lp (v := .int .i64 ((((cd b).length) : Nat) : Int)) rfl rfl (run_lenL (p := q) (cap := d) (n := ((cd b).length)) rfl Tryz.underlying32 Tw.kr) ?_
 refine Tw.lp (v := .bool (!(decide (((cd a).length) = ((cd b).length))))) rfl rfl (run_bin rfl (vx := (.int .i64 ((((cd a).length) : Nat) : Int))) (vy := (.int .i64 ((((cd b).length) : Nat) : Int))) Tw.kr Tw.kr fun w => bn_neq rfl w) ?_
 refine wpL_done (fun W2 hW2 => ?_)
 change Code.wp ..
 cases hd1 : (decide (((cd a).length) = ((cd b).length))) with
 | false =>
   have h1 : ¬ (((cd a).length) = ((cd b).length)) := of_decide_eq_false hd1
   clear hd1
   refine wp_cond_true rfl ?_
   refine wp_seq ?_
   refine wp_region_L _ hW2 ?_
   refine Tw.mm (.slice p ((cd a).length) c) ?_
   refine Tw.lp (v := .int .i64 ((((cd a).length) : Nat) : Int)) rfl rfl (run_lenL (p := p) (cap := c) (n := ((cd a).length)) rfl Tryz.underlying32 Tw.kr) ?_
   refine Tw.mm (.slice q ((cd b).length) d) ?_
   refine Tw.lp (v := .int .i64 ((((cd b).length) : Nat) : Int)) rfl rfl (run_lenL (p := q) (cap := d) (n := ((cd b).length)) rfl Tryz.underlying32 Tw.kr) ?_
   refine Tw.lp (v := .bool (decide (((cd a).length) < ((cd b).length)))) rfl rfl (run_bin rfl (vx := (.int .i64 ((((cd a).length) : Nat) : Int))) (vy := (.int .i64 ((((cd b).length) : Nat) : Int))) Tw.kr Tw.kr fun w => bn_lss rfl w) ?_
   refine Tw.mm (.bool (decide (((cd a).length) < ((cd b).length)))) ?_
   refine wpL_done (fun W3 hW3 => ?_)
   change Code.wp ..
   refine wp_ret ?_
   try simp only [inBlock_ret, then_ret]
   refine bodyPost_ret (v := .bool (decide (((cd a).length) < ((cd b).length)))) ?_ rfl ?_
   · kernel_rfl
   · exact ⟨(bool_is (less_len h1)), hW3.1⟩
 | true =>
   have h1 : ((cd a).length) = ((cd b).length) := of_decide_eq_true hd1
   clear hd1
   refine wp_cond_false rfl ?_
   refine wp_skip ?_
   change Code.wp ..
   refine wp_seq ?_
   refine wp_seq ?_
   refine wp_region_L _ hW2 ?_
   refine Tw.mm (.slice p ((cd a).length) c) ?_
   refine Tw.lp (v := .int .i64 ((((cd a).length) : Nat) : Int)) rfl rfl (run_lenL (p := p) (cap := c) (n := ((cd a).length)) rfl Tryz.underlying32 Tw.kr) ?_
   refine Tw.lp (v := .int .i64 (((((cd a).length) : Nat) : Int) - 1)) rfl rfl (run_bin rfl (vx := (.int .i64 ((((cd a).length) : Nat) : Int))) (vy := (.int .i64 ((1 : Nat) : Int))) Tw.kr Tw.kr fun w => bi_sub (z := (((((cd a).length) : Nat) : Int) - 1)) rfl (wi_i64 Tw.om) w) ?_
   refine Tw.mm (.int .i64 (((((cd a).length) : Nat) : Int) - 1)) ?_
   refine wpL_done (fun W4 hW4 => ?_)
   change Code.wp ..
   refine wp_block ?_
   go_loopw [5] (fun u5 wr => ∃ (z : Int) (k : Nat), (z = (k : Int) - 1) ∧ (k ≤ (cd a).length) ∧ ((cd a).drop k = (cd b).drop k) ∧ u5 = .int .i64 z ∧ KS w [] wr) (fun u5 _ => (intOf u5 + 1).toNat)
   case atStart => exact ⟨((((cd a).length : Nat) : Int) - 1), (cd a).length, rfl, (Nat.le_refl _), (by rw [List.drop_length, h1, List.drop_length]), rfl, (hW4.sub Tw.sb)⟩
   case round =>
     obtain ⟨z, k, hz, hk, hE, rfl, hL5⟩ := hrel
     refine wp_seq ?_
     refine wp_seq ?_
     refine wp_region_L _ hL5 ?_
     refine Tw.mm (.int .i64 z) ?_
     refine Tw.lp (v := .bool (!(decide (z < 0)))) rfl rfl (run_bin rfl (vx := (.int .i64 z)) (vy := (.int .i64 0)) Tw.kr Tw.kr fun w => bi_geq rfl w) ?_
     refine wpL_done (fun W6 hW6 => ?_)
     change Code.wp ..
     cases hd2 : (decide (z < 0)) with
     | false =>
       have h2 : ¬ (z < 0) := of_decide_eq_false hd2
       clear hd2
       obtain ⟨j, rfl⟩ := Int.eq_ofNat_of_zero_le (show 0 ≤ z by omega)
       refine wp_cond_true rfl ?_
       refine wp_skip ?_
       change Code.wp ..
       refine wp_seq ?_
       refine wp_block ?_
       refine wp_seq ?_
       refine wp_region_V _ Tw.kr hW6 ?_
       refine vm (i := 0) (v := .slice p ((cd a).length) c) rfl rfl rfl ?_
       refine vm (i := 1) (v := .int .i64 ((j : Nat) : Int)) rfl rfl rfl ?_
       obtain ⟨b1, f1, hp1, hc1⟩ := (HP.mono Tw.sb).at hW6 (k := j) Tw.om
       refine vp (i := 2) (v := .pointer (some ⟨b1, f1 + j * 1, none⟩)) rfl rfl rfl (run_idxQ (p := p) (cap := c) (n := ((cd a).length)) (j := .i64) (k := j) (sz := 1) rfl Tryz.underlying32 Tw.kr Tw.kr hp1 Tw.kr Tw.om) ?_
       obtain ⟨x2, hx2⟩ : ∃ x, ((cd a) : List Nat)[j]? = some x := ⟨_, List.getElem?_eq_getElem Tw.om⟩
       have lx2 : x2 < 65536 := dOk.at (cd_ok a) hx2
       refine vv (i := 3) (v := .int .i64 ((x2 : Nat) : Int)) rfl rfl rfl (yb_ns (off := f1 + j * 1) rfl Tw.kr (fun W hW => hc1 W (hW.sub Tw.sb) _ _ hx2) Tryz.underlying3 rfl) ?_
       refine vm (i := 4) (v := .slice q ((cd b).length) d) rfl rfl rfl ?_
       refine vm (i := 5) (v := .int .i64 ((j : Nat) : Int)) rfl rfl rfl ?_
       obtain ⟨b3, f3, hp3, hc3⟩ := (HQ.mono Tw.sb).at hW6 (k := j) Tw.om
       refine vp (i := 6) (v := .pointer (some ⟨b3, f3 + j * 1, none⟩)) rfl rfl rfl (run_idxQ (p := q) (cap := d) (n := ((cd b).length)) (j := .i64) (k := j) (sz := 1) rfl Tryz.underlying32 Tw.kr Tw.kr hp3 Tw.kr Tw.om) ?_
       obtain ⟨x4, hx4⟩ : ∃ x, ((cd b) : List Nat)[j]? = some x := ⟨_, List.getElem?_eq_getElem Tw.om⟩
       have lx4 : x4 < 65536 := dOk.at (cd_ok b) hx4
       refine vv (i := 7) (v := .int .i64 ((x4 : Nat) : Int)) rfl rfl rfl (yb_ns (off := f3 + j * 1) rfl Tw.kr (fun W hW => hc3 W (hW.sub Tw.sb) _ _ hx4) Tryz.underlying3 rfl) ?_
       refine vp (i := 8) (v := .bool (!(decide (x2 = x4)))) rfl rfl rfl (run_bin rfl (vx := (.int .i64 ((x2 : Nat) : Int))) (vy := (.int .i64 ((x4 : Nat) : Int))) Tw.kr Tw.kr fun w => bn_neq rfl w) ?_
       refine wpV_done Tw.kr (fun W7 hW7 => ?_) _
       change Code.wp ..
       cases hd3 : (decide (x2 = x4)) with
       | false =>
         have h3 : ¬ (x2 = x4) := of_decide_eq_false hd3
         clear hd3
         refine wp_cond_true rfl ?_
         refine wp_seq ?_
         refine wp_region_V _ Tw.kr hW7 ?_
         refine vm (i := 0) (v := .slice p ((cd a).length) c) rfl rfl rfl ?_
         refine vm (i := 1) (v := .int .i64 ((j : Nat) : Int)) rfl rfl rfl ?_
         refine vp (i := 2) (v := .pointer (some ⟨b1, f1 + j * 1, none⟩)) rfl rfl rfl (run_idxQ (p := p) (cap := c) (n := ((cd a).length)) (j := .i64) (k := j) (sz := 1) rfl Tryz.underlying32 Tw.kr Tw.kr hp1 Tw.kr Tw.om) ?_
         refine vv (i := 3) (v := .int .i64 ((x2 : Nat) : Int)) rfl rfl rfl (yb_ns (off := f1 + j * 1) rfl Tw.kr (fun W hW => hc1 W (hW.sub Tw.sb) _ _ hx2) Tryz.underlying3 rfl) ?_
         refine vm (i := 4) (v := .slice q ((cd b).length) d) rfl rfl rfl ?_
         refine vm (i := 5) (v := .int .i64 ((j : Nat) : Int)) rfl rfl rfl ?_
         refine vp (i := 6) (v := .pointer (some ⟨b3, f3 + j * 1, none⟩)) rfl rfl rfl (run_idxQ (p := q) (cap := d) (n := ((cd b).length)) (j := .i64) (k := j) (sz := 1) rfl Tryz.underlying32 Tw.kr Tw.kr hp3 Tw.kr Tw.om) ?_
         refine vv (i := 7) (v := .int .i64 ((x4 : Nat) : Int)) rfl rfl rfl (yb_ns (off := f3 + j * 1) rfl Tw.kr (fun W hW => hc3 W (hW.sub Tw.sb) _ _ hx4) Tryz.underlying3 rfl) ?_
         refine vp (i := 8) (v := .bool (decide (x2 < x4))) rfl rfl rfl (run_bin rfl (vx := (.int .i64 ((x2 : Nat) : Int))) (vy := (.int .i64 ((x4 : Nat) : Int))) Tw.kr Tw.kr fun w => bn_lss rfl w) ?_
         refine vm (i := 9) (v := .bool (decide (x2 < x4))) rfl rfl rfl ?_
         refine wpV_done Tw.kr (fun W8 hW8 => ?_) _
         change Code.wp ..
         refine wp_ret ?_
         try simp only [inBlock_ret, then_ret]
         refine bodyPost_ret (v := .bool (decide (x2 < x4))) ?_ rfl ?_
         · kernel_rfl
         · exact ⟨(bool_is ((less_at (cd_ok a) (cd_ok b) hx2 hx4 h3 (by rw [show j + 1 = k from by omega]; exact hE)).trans (by rw [dv_cd, dv_cd]))), hW8.1⟩
       | true =>
         have h3 : x2 = x4 := of_decide_eq_true hd3
         clear hd3
         refine wp_cond_false rfl ?_
         refine wp_skip ?_
         change Code.wp ..
         refine wp_region_L _ hW7 ?_
         refine Tw.mm (.int .i64 ((j : Nat) : Int)) ?_
         refine Tw.lp (v := .int .i64 (((j : Nat) : Int) - 1)) rfl rfl (run_bin rfl (vx := (.int .i64 ((j : Nat) : Int))) (vy := (.int .i64 ((1 : Nat) : Int))) Tw.kr Tw.kr fun w => bi_sub (z := (((j : Nat) : Int) - 1)) rfl (wi_i64 Tw.om) w) ?_
         refine Tw.mm (.int .i64 (((j : Nat) : Int) - 1)) ?_
         refine wpL_done (fun W9 hW9 => ?_)
         go_roundw
         case rel =>
           repeat apply Exists.intro
           exact ⟨⟨(((j : Nat) : Int) - 1), j, rfl, Tw.om, (drop_step hx2 (by rw [h3]; exact hx4) (by rw [show j + 1 = k from by omega]; exact hE)), rfl, (hW9.sub Tw.sb)⟩, rfl⟩
         case measure => (show (intOf (.int .i64 (((j : Nat) : Int) - 1)) + 1).toNat < (intOf (.int .i64 ((j : Nat) : Int)) + 1).toNat); simp only [intOf]; omega
     | true =>
       have h2 : z < 0 := of_decide_eq_true hd2
       clear hd2
       refine wp_cond_false rfl ?_
       refine wp_exit ?_
       change Code.wp ..
       refine wp_seq ?_
       refine wp_region_L _ hW6 ?_
       refine Tw.mm (.bool false) ?_
       refine wpL_done (fun W10 hW10 => ?_)
       change Code.wp ..
       refine wp_ret ?_
       try simp only [inBlock_ret, then_ret]
       refine bodyPost_ret (v := .bool false) ?_ rfl ?_
       · kernel_rfl
       · exact ⟨(bool_is (less_none (k := k) Tw.om hE)), hW10.1⟩
end Go.Proofs.YtalmflgkbmnghaaGreatDoor
namespace Go.Proofs.YtalmflgkbmnghaaGreatDoor
open Go Go.RowKit Tw
theorem cd_pre {L : List Nat} {n : Nat} (hL : dOk L) (hv : dv L = n) : ∃ k, k ≤ L.length ∧ cd n = L.take k := by
 subst hv
 suffices h : ∀ k, k ≤ L.length → dv (L.take k) = dv L → ∃ j, j ≤ L.length ∧ cd (dv L) = L.take j from h L.length (Nat.le_refl _) (by rw [List.take_length])
 intro k
 induction k with
 | zero => intro h1 h2; exact ⟨0, h1, (cd_trim hL h1 h2 (fun h => absurd h Tw.om)).symm⟩
 | succ k ih =>
   intro h1 h2
   obtain ⟨x, hx⟩ : ∃ x, L[k]? = some x := ⟨_, List.getElem?_eq_getElem Tw.om⟩
   by_cases h0 : x = 0
   · subst h0
     exact ih Tw.om ((dv_zero (k := k + 1) Tw.om hx).trans h2)
   · exact ⟨k + 1, h1, (cd_trim hL h1 h2 (fun _ => ⟨x, hx, h0⟩)).symm⟩
theorem ns_trim {W0 : Base} {p : Option Addr} {L : List Nat} {n : Nat} {K : List (Nat × Obj)} (h : NS W0 p L K) (hL : dOk L) (hv : dv L = n) : NS W0 p (cd n) K := by
 obtain ⟨k, _, e⟩ := cd_pre hL hv
 rw [e]
 exact h.take k
theorem cd_trim_le {L : List Nat} {n m : Nat} (hL : dOk L) (hv : dv L = n) (hm : m = L.length) : (cd n).length ≤ m := by
 obtain ⟨k, h, e⟩ := cd_pre hL hv
 rw [e, List.length_take]
 omega
theorem slf_trim {w w2 : World} {p : Option Addr} {L : List Nat} {n : Nat} (h : SLF w w2 p (nums L)) (hL : dOk L) (hv : dv L = n) : SLF w w2 p (nums (cd n)) := by
 obtain ⟨k, _, e⟩ := cd_pre hL hv
 rw [e, nums_take]
 exact h.take k
set_option maxRecDepth 100000 in
set_option maxHeartbeats 4000000 in
theorem scale_any (a b : Nat) (p : Option Addr) (c : Nat) (hb : b < 65536) (la : (cd a).length ≤ 100000) (w : World) (hp : SLV w p (nums (cd a))) : Calls Tryz.prog 82 #[.slice p (cd a).length c, .int .i64 ((b : Nat) : Int)] w fun e w' => Ans w (cd (a * b)) e w' := by
 have HP : NS (w : Base) p (cd a) [] := NS.base hp
 clear hp
 go_enter Tryz.func82, Tryz.ntmps82
 refine wp_seq ?_
 refine wp_region_L [] (KS.start w) ?_
 refine Tw.mm (.slice none 0 0) ?_
 refine wpL_done (fun W1 hW1 => ?_)
 change Code.wp ..
 refine wp_seq ?_
 refine wp_region_L _ hW1 ?_
 refine Tw.mm (.slice none 0 0) ?_
 refine wpL_done (fun W2 hW2 => ?_)
 change Code.wp ..
 refine wp_seq ?_
 refine wp_region_L _ hW2 ?_
 refine Tw.mm (.int .i64 0) ?_
 refine wpL_done (fun W3 hW3 => ?_)
 change Code.wp ..
 refine wp_seq ?_
 refine wp_seq ?_
 refine wp_region_L _ hW3 ?_
 refine Tw.mm (.int .i64 0) ?_
 refine wpL_done (fun W4 hW4 => ?_)
 change Code.wp ..
 refine wp_block ?_
 go_loopw [7, 6, 5] (fun u7 u6 u5 wr => ∃ (i cy : Nat) (R : List Nat) (vo : Value) (Ko : List (Nat × Obj)), (OwnL (w : Base) 3 1 vo i (nums R) Ko) ∧ (ScI a b R i cy) ∧ (i ≤ (cd a).length ∨ (i = (cd a).length + 1 ∧ cy = 0)) ∧ u7 = .int .i64 ((i : Nat) : Int) ∧ u6 = .int .i64 ((cy : Nat) : Int) ∧ vo = u5 ∧ KS w Ko wr) (fun u7 _ _ _ => (cd a).length + 2 - (intOf u7).toNat)
 case atStart => exact ⟨0, 0, [], (.slice none 0 0), [], (OwnL.nil _ _ _), (ScI.start a b), Tw.om, rfl, rfl, rfl, (hW4.sub Tw.sb)⟩
 case round =>
   obtain ⟨i, cy, R, vo, Ko, hO, hI, hi, rfl, rfl, rfl, hL5⟩ := hrel
   have hcy := hI.c1
   refine wp_seq ?_
   refine wp_seq ?_
   refine wp_region_L _ hL5 ?_
   refine Tw.mm (.int .i64 ((i : Nat) : Int)) ?_
   refine Tw.mm (.slice p ((cd a).length) c) ?_
   refine Tw.lp (v := .int .i64 ((((cd a).length) : Nat) : Int)) rfl rfl (run_lenL (p := p) (cap := c) (n := ((cd a).length)) rfl Tryz.underlying32 Tw.kr) ?_
   refine Tw.lp (v := .bool (decide (i < ((cd a).length)))) rfl rfl (run_bin rfl (vx := (.int .i64 ((i : Nat) : Int))) (vy := (.int .i64 ((((cd a).length) : Nat) : Int))) Tw.kr Tw.kr fun w => bn_lss rfl w) ?_
   refine Tw.mm (.bool (decide (i < ((cd a).length)))) ?_
   cases hd1 : (decide (i < ((cd a).length))) with
   | false =>
     have h1 : ¬ (i < ((cd a).length)) := of_decide_eq_false hd1
     clear hd1
     refine Tw.mm (.int .i64 ((cy : Nat) : Int)) ?_
     refine Tw.lp (v := .bool (decide (0 < cy))) rfl rfl (run_bin rfl (vx := (.int .i64 ((cy : Nat) : Int))) (vy := (.int .i64 ((0 : Nat) : Int))) Tw.kr Tw.kr fun w => bn_gtr rfl w) ?_
     refine Tw.mm (.bool (decide (0 < cy))) ?_
     refine wpL_done (fun W6 hW6 => ?_)
     change Code.wp ..
     cases hd2 : (decide (0 < cy)) with
     | false =>
       have h2 : ¬ (0 < cy) := of_decide_eq_false hd2
       clear hd2
       refine wp_cond_false rfl ?_
       refine wp_exit ?_
       change Code.wp ..
       refine wp_seq ?_
       have hcy0 : cy = 0 := by omega
       have hI0 : ScI a b R i 0 := by rw [← hcy0]; exact hI
       refine wp_region_L _ hW6 ?_
       refine Tw.mm vo ?_
       obtain ⟨p2, c2, rfl, hc2, HN2, HF2⟩ := own_ns hO
       refine Tw.lv (v := .slice p2 ((cd (a * b)).length) c2) rfl rfl (yb_call (f := 81) (args := #[.slice p2 i c2]) Tw.kf fun W hW => trim_any R (a * b) i p2 c2 hI.ok (hI0.end h1) (own_len hO).symm hc2 Tw.om W ((HN2.mono Tw.sb) W hW)) ?_
       refine Tw.mm (.slice p2 ((cd (a * b)).length) c2) ?_
       refine wpL_done (fun W7 hW7 => ?_)
       change Code.wp ..
       refine wp_ret ?_
       try simp only [inBlock_ret, then_ret]
       refine bodyPost_ret (v := .slice p2 ((cd (a * b)).length) c2) ?_ rfl ?_
       · kernel_rfl
       · exact ⟨_, _, rfl, (Nat.le_trans (cd_trim_le hI.ok (hI0.end h1) (own_len hO).symm) hc2), slf_trim (HF2 _ _ (hW7.sub Tw.sb) rfl (Below.refl _ _)) hI.ok (hI0.end h1), hW7.1⟩
     | true =>
       have h2 : 0 < cy := of_decide_eq_true hd2
       clear hd2
       refine wp_cond_true rfl ?_
       refine wp_skip ?_
       change Code.wp ..
       refine wp_seq ?_
       refine wp_block ?_
       refine wp_seq ?_
       refine wp_seq ?_
       refine wp_region_L _ hW6 ?_
       refine Tw.mm (.int .i64 ((i : Nat) : Int)) ?_
       refine Tw.mm (.slice p ((cd a).length) c) ?_
       refine Tw.lp (v := .int .i64 ((((cd a).length) : Nat) : Int)) rfl rfl (run_lenL (p := p) (cap := c) (n := ((cd a).length)) rfl Tryz.underlying32 Tw.kr) ?_
       refine Tw.lp (v := .bool false) rfl rfl (run_bin rfl (vx := (.int .i64 ((i : Nat) : Int))) (vy := (.int .i64 ((((cd a).length) : Nat) : Int))) Tw.kr Tw.kr fun w => bn_lss (decide_eq_false (by assumption)) w) ?_
       refine wpL_done (fun W8 hW8 => ?_)
       change Code.wp ..
       refine wp_cond_false rfl ?_
       refine wp_skip ?_
       change Code.wp ..
       refine wp_seq ?_
       refine wp_region_L _ hW8 ?_
       refine Tw.mm vo ?_
       refine Tw.mm (.int .i64 ((cy : Nat) : Int)) ?_
       refine Tw.lp (v := .int .i64 (((cy % 65536) : Nat) : Int)) rfl rfl (run_bin rfl (vx := (.int .i64 ((cy : Nat) : Int))) (vy := (.int .i64 ((65536 : Nat) : Int))) Tw.kr Tw.kr fun w => bn_rem (z := (cy % 65536)) rfl Tw.om w) ?_
       refine wpL_new (fun g => .slice (some ⟨g, 0, none⟩) 1 1) (obi := .cells #[.int .i64 (((cy % 65536) : Nat) : Int)] 3 (0, 0)) rfl rfl Tw.kf Tw.pf fun g3 Bg3 Fg3 => ?_
       obtain dj4_0 : Dk g3 Ko := Tw.dkf Fg3
       refine wpL_g (AppO w 3 1 [] (i + 1) ((nums R) ++ [.int .i64 (((cy % 65536) : Nat) : Int)])) rfl rfl (app_own el_int (m := 1) (c := 1) (news := [.int .i64 (((cy % 65536) : Nat) : Int)]) rfl Tw.kr Tw.kr Tw.m0 hO Tw.sc (fun _ h => by cases h) rfl (by simp [strV, Value.oneCell']) Tw.om Tw.om Tw.om) Tw.pf ?_
       rintro v5 Kl5 ⟨_, O5, N5, rfl⟩
       refine Tw.mm v5 ?_
       refine wpL_done (fun W9 hW9 => ?_)
       change Code.wp ..
       refine wp_region_L _ hW9 ?_
       refine Tw.mm (.int .i64 ((cy : Nat) : Int)) ?_
       refine Tw.lp (v := .int .i64 (((cy / 65536) : Nat) : Int)) rfl rfl (run_bin rfl (vx := (.int .i64 ((cy : Nat) : Int))) (vy := (.int .i64 ((65536 : Nat) : Int))) Tw.kr Tw.kr fun w => bn_quo (z := (cy / 65536)) rfl Tw.om (wr_i64 Tw.om) w) ?_
       refine Tw.mm (.int .i64 (((cy / 65536) : Nat) : Int)) ?_
       refine wpL_done (fun W10 hW10 => ?_)
       change Code.wp ..
       refine wp_region_L _ hW10 ?_
       refine Tw.mm (.int .i64 ((i : Nat) : Int)) ?_
       refine Tw.lp (v := .int .i64 (((i + 1) : Nat) : Int)) rfl rfl (run_bin rfl (vx := (.int .i64 ((i : Nat) : Int))) (vy := (.int .i64 ((1 : Nat) : Int))) Tw.kr Tw.kr fun w => bn_add (z := (i + 1)) rfl (wr_i64 Tw.om) w) ?_
       refine Tw.mm (.int .i64 (((i + 1) : Nat) : Int)) ?_
       refine wpL_done (fun W11 hW11 => ?_)
       go_roundw
       case rel =>
         repeat apply Exists.intro
         exact ⟨⟨i + 1, (cy / 65536), (R ++ [cy % 65536]), v5, Kl5, (own_snoc O5), (ScI.step hI hb (.inr ⟨h1, rfl⟩) Tw.om), Tw.om, rfl, rfl, rfl, (hW11.sub Tw.sb)⟩, rfl⟩
       case measure => (show (cd a).length + 2 - (intOf (.int .i64 (((i + 1) : Nat) : Int))).toNat < (cd a).length + 2 - (intOf (.int .i64 ((i : Nat) : Int))).toNat); simp only [intOf]; omega
   | true =>
     have h1 : i < ((cd a).length) := of_decide_eq_true hd1
     clear hd1
     refine Tw.ln rfl ?_
     refine Tw.ln rfl ?_
     refine Tw.mm (.bool true) ?_
     refine wpL_done (fun W12 hW12 => ?_)
     change Code.wp ..
     refine wp_cond_true rfl ?_
     refine wp_skip ?_
     change Code.wp ..
     refine wp_seq ?_
     refine wp_block ?_
     refine wp_seq ?_
     refine wp_seq ?_
     refine wp_region_L _ hW12 ?_
     refine Tw.mm (.int .i64 ((i : Nat) : Int)) ?_
     refine Tw.mm (.slice p ((cd a).length) c) ?_
     refine Tw.lp (v := .int .i64 ((((cd a).length) : Nat) : Int)) rfl rfl (run_lenL (p := p) (cap := c) (n := ((cd a).length)) rfl Tryz.underlying32 Tw.kr) ?_
     refine Tw.lp (v := .bool true) rfl rfl (run_bin rfl (vx := (.int .i64 ((i : Nat) : Int))) (vy := (.int .i64 ((((cd a).length) : Nat) : Int))) Tw.kr Tw.kr fun w => bn_lss (decide_eq_true (by assumption)) w) ?_
     refine wpL_done (fun W13 hW13 => ?_)
     change Code.wp ..
     refine wp_cond_true rfl ?_
     refine wp_region_L _ hW13 ?_
     refine Tw.mm (.int .i64 ((cy : Nat) : Int)) ?_
     refine Tw.mm (.slice p ((cd a).length) c) ?_
     refine Tw.mm (.int .i64 ((i : Nat) : Int)) ?_
     obtain ⟨b6, f6, hp6, hc6⟩ := (HP.mono Tw.sb).at hW13 (k := i) Tw.om
     refine Tw.lp (v := .pointer (some ⟨b6, f6 + i * 1, none⟩)) rfl rfl (run_idxQ (p := p) (cap := c) (n := ((cd a).length)) (j := .i64) (k := i) (sz := 1) rfl Tryz.underlying32 Tw.kr Tw.kr hp6 Tw.kr Tw.om) ?_
     obtain ⟨x7, hx7⟩ : ∃ x, ((cd a) : List Nat)[i]? = some x := ⟨_, List.getElem?_eq_getElem Tw.om⟩
     have lx7 : x7 < 65536 := dOk.at (cd_ok a) hx7
     refine Tw.lv (v := .int .i64 ((x7 : Nat) : Int)) rfl rfl (yb_ns (off := f6 + i * 1) rfl Tw.kr (fun W hW => hc6 W (hW.sub Tw.sb) _ _ hx7) Tryz.underlying3 rfl) ?_
     refine Tw.mm (.int .i64 ((b : Nat) : Int)) ?_
     have lmul : x7 * b ≤ 65535 * 65535 := Nat.mul_le_mul Tw.om Tw.om
     refine Tw.lp (v := .int .i64 (((x7 * b) : Nat) : Int)) rfl rfl (run_bin rfl (vx := (.int .i64 ((x7 : Nat) : Int))) (vy := (.int .i64 ((b : Nat) : Int))) Tw.kr Tw.kr fun w => bn_mul (z := (x7 * b)) rfl (wr_i64 Tw.om) w) ?_
     refine Tw.lp (v := .int .i64 (((cy + (x7 * b)) : Nat) : Int)) rfl rfl (run_bin rfl (vx := (.int .i64 ((cy : Nat) : Int))) (vy := (.int .i64 (((x7 * b) : Nat) : Int))) Tw.kr Tw.kr fun w => bn_add (z := (cy + (x7 * b))) rfl (wr_i64 Tw.om) w) ?_
     refine Tw.mm (.int .i64 (((cy + (x7 * b)) : Nat) : Int)) ?_
     refine wpL_done (fun W14 hW14 => ?_)
     change Code.wp ..
     refine wp_seq ?_
     refine wp_region_L _ hW14 ?_
     refine Tw.mm vo ?_
     refine Tw.mm (.int .i64 (((cy + (x7 * b)) : Nat) : Int)) ?_
     refine Tw.lp (v := .int .i64 ((((cy + (x7 * b)) % 65536) : Nat) : Int)) rfl rfl (run_bin rfl (vx := (.int .i64 (((cy + (x7 * b)) : Nat) : Int))) (vy := (.int .i64 ((65536 : Nat) : Int))) Tw.kr Tw.kr fun w => bn_rem (z := ((cy + (x7 * b)) % 65536)) rfl Tw.om w) ?_
     refine wpL_new (fun g => .slice (some ⟨g, 0, none⟩) 1 1) (obi := .cells #[.int .i64 ((((cy + (x7 * b)) % 65536) : Nat) : Int)] 3 (0, 0)) rfl rfl Tw.kf Tw.pf fun g8 Bg8 Fg8 => ?_
     obtain dj9_0 : Dk g8 Ko := Tw.dkf Fg8
     refine wpL_g (AppO w 3 1 [] (i + 1) ((nums R) ++ [.int .i64 ((((cy + (x7 * b)) % 65536) : Nat) : Int)])) rfl rfl (app_own el_int (m := 1) (c := 1) (news := [.int .i64 ((((cy + (x7 * b)) % 65536) : Nat) : Int)]) rfl Tw.kr Tw.kr Tw.m0 hO Tw.sc (fun _ h => by cases h) rfl (by simp [strV, Value.oneCell']) Tw.om Tw.om Tw.om) Tw.pf ?_
     rintro v10 Kl10 ⟨_, O10, N10, rfl⟩
     refine Tw.mm v10 ?_
     refine wpL_done (fun W15 hW15 => ?_)
     change Code.wp ..
     refine wp_region_L _ hW15 ?_
     refine Tw.mm (.int .i64 (((cy + (x7 * b)) : Nat) : Int)) ?_
     refine Tw.lp (v := .int .i64 ((((cy + (x7 * b)) / 65536) : Nat) : Int)) rfl rfl (run_bin rfl (vx := (.int .i64 (((cy + (x7 * b)) : Nat) : Int))) (vy := (.int .i64 ((65536 : Nat) : Int))) Tw.kr Tw.kr fun w => bn_quo (z := ((cy + (x7 * b)) / 65536)) rfl Tw.om (wr_i64 Tw.om) w) ?_
     refine Tw.mm (.int .i64 ((((cy + (x7 * b)) / 65536) : Nat) : Int)) ?_
     refine wpL_done (fun W16 hW16 => ?_)
     change Code.wp ..
     refine wp_region_L _ hW16 ?_
     refine Tw.mm (.int .i64 ((i : Nat) : Int)) ?_
     refine Tw.lp (v := .int .i64 (((i + 1) : Nat) : Int)) rfl rfl (run_bin rfl (vx := (.int .i64 ((i : Nat) : Int))) (vy := (.int .i64 ((1 : Nat) : Int))) Tw.kr Tw.kr fun w => bn_add (z := (i + 1)) rfl (wr_i64 Tw.om) w) ?_
     refine Tw.mm (.int .i64 (((i + 1) : Nat) : Int)) ?_
     refine wpL_done (fun W17 hW17 => ?_)
     go_roundw
     case rel =>
       repeat apply Exists.intro
       exact ⟨⟨i + 1, ((cy + (x7 * b)) / 65536), (R ++ [(cy + (x7 * b)) % 65536]), v10, Kl10, (own_snoc O10), (ScI.step hI hb (.inl ⟨h1, hx7⟩) rfl), Tw.om, rfl, rfl, rfl, (hW17.sub Tw.sb)⟩, rfl⟩
     case measure => (show (cd a).length + 2 - (intOf (.int .i64 (((i + 1) : Nat) : Int))).toNat < (cd a).length + 2 - (intOf (.int .i64 ((i : Nat) : Int))).toNat); simp only [intOf]; omega
end Go.Proofs.YtalmflgkbmnghaaGreatDoor
