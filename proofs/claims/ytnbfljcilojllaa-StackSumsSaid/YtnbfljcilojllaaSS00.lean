import Derived.OrdersHeld
import Derived.Below
import Derived.Laws.Rows
import Derived.WalkKit
import Derived.Laws.CopyRow
import Derived.Laws.CopyOwn
import Derived.RegionTactic
import Derived.Test.YtnbfljcilojllaaProg
import Derived.WalkSpells
import Derived.WalkLawsBesides
import Derived.Handy
import Derived.Lib.Hide
import Derived.Deep.QuietTactic
import Derived.BigQuiet
import Derived.Deep.OwnRows
import Derived.Laws.BitsAllLaws
import Derived.Deep.RegionLaw
import Derived.Laws.AppendOwn
import Derived.Laws.BytesArg
import Derived.Laws.IdiomStrings
import Derived.Lib.FrozenHead
import Derived.Outline
import Derived.Deep.Cut
import Derived.Deep.Upon
import Derived.Handed
import Derived.ChangeArms
import Derived.ChangeShapes
import Derived.WideShapes
import Derived.DataReads
import Derived.ChangeOld
import Derived.SizedLaws
import Derived.Deep.AppendSrc
import Derived.Carry
import Derived.MapKept
import Derived.ChangeMaps5
import Derived.ChangeKeysEq
import Derived.Laws.RangeAny
import Derived.Lib.LaidTab
import Derived.LaidByText
import Derived.ProofKit
import Derived.OpenShut
import Derived.Laws.MakeOwn
import Derived.RangeFuncNested
import Derived.RangeFuncBound
import Derived.RangeFuncCalls
import Derived.RangeFuncLeaves
import Derived.Shelf.Abstract
import Derived.Shelf.RegionOpen
import Derived.OwnWalkIn
import Derived.TacticsInMore
import Derived.LoopNIn
import Derived.LoopIn
import Derived.OrdersIn
import Derived.RangeFuncFrom
import Derived.Maps.Range
/- Part of the proof: Ng, Nb, Nv, Nl, Sa, Sb, Sn, Hp, Ht, T0, T1, T2k, Sr, Sj, Hs, Sq, T2, T3, T4, T5, T6. -/
set_option linter.unusedVariables false
set_option linter.unusedSimpArgs false
set_option linter.unusedSectionVars false
namespace Tw
open Go Go.RowKit
theorem kr {p : Prop} (h : p := by kernel_rfl) : p := h
theorem om {p : Prop} (h : p := by omega) : p := h
theorem pu {p : Prop} (h : p := by simp only [List.setIfInBounds_toArray, List.set_cons_succ, List.set_cons_zero] <;> rfl) : p := h
theorem nee {p : Prop} (h : p := by first | assumption | exact Ne.symm (by assumption)) : p := h
theorem sb {T K : List (Nat × Obj)} (h : ∀ q ∈ T, q ∈ K := by intro q hq; first | exact hq | (simp only [List.mem_cons, List.mem_append, List.nil_append, List.not_mem_nil, or_assoc, or_false, false_or, List.cons_append, List.append_assoc] at hq ⊢ <;> grind)) : ∀ q ∈ T, q ∈ K := h
theorem kf {α : Type} {p : α → Prop} (h : ∀ x, p x := by intro _; kernel_rfl) : ∀ x, p x := h
theorem pf {α : Type} {p : α → Prop} (h : ∀ x, p x := by intro _; simp only [List.setIfInBounds_toArray, List.set_cons_succ, List.set_cons_zero] <;> rfl) : ∀ x, p x := h
theorem sc {T K : List (Nat × Obj)} (h : ∀ p ∈ T, p ∈ K := by intro p hp; simp only [List.mem_cons, List.mem_append, List.nil_append, List.not_mem_nil, or_assoc, or_false, false_or, hp, or_true, true_or]) : ∀ p ∈ T, p ∈ K := h
section
variable {α : Type} {a b c d e f g : α} {l : List α}
theorem m0 : a ∈ a :: l := .head _
theorem m1 : a ∈ b :: a :: l := .tail _ m0
theorem m2 : a ∈ b :: c :: a :: l := .tail _ m1
theorem m3 : a ∈ b :: c :: d :: a :: l := .tail _ m2
theorem m4 : a ∈ b :: c :: d :: e :: a :: l := .tail _ m3
theorem m5 : a ∈ b :: c :: d :: e :: f :: a :: l := .tail _ m4
end
end Tw
/- A statement whose order is left open, over worlds of which only some blocks are known: values (also of calls that make memory) are taken in the text's order, whatever order is drawn. Nothing of the program. -/
namespace Tw
open Go Go.RowKit

structure Base where
 w : World
 B : Nat
 le : B ≤ w.heap.size
instance : Coe World Base := ⟨fun w => ⟨w, w.heap.size, Nat.le_refl _⟩⟩
def KS (W0 : Base) (K : List (Nat × Obj)) (w : World) : Prop := Below W0.B W0.w w ∧ ∀ p ∈ K, w.heap[p.1]? = some p.2
theorem KS.size {W0 : Base} {K : List (Nat × Obj)} {w : World} (h : KS W0 K w) : W0.B ≤ w.heap.size := Nat.le_trans W0.le h.1.size

theorem KS.tail {W0 : Base} {p : Nat × Obj} {K : List (Nat × Obj)} {w : World} (h : KS W0 (p :: K) w) : KS W0 K w := ⟨h.1, fun q hq => h.2 q (List.mem_cons_of_mem _ hq)⟩
theorem KS.sub {W0 : Base} {K K' : List (Nat × Obj)} {w : World} (h : KS W0 K w) (hs : ∀ p ∈ K', p ∈ K) : KS W0 K' w := ⟨h.1, fun q hq => h.2 q (hs q hq)⟩
theorem lt_of_block {w : World} {g : Nat} {o : Obj} (h : w.heap[g]? = some o) : g < w.heap.size := (Array.getElem?_eq_some_iff.1 h).1
theorem KS.below {W0 : Base} {K : List (Nat × Obj)} {w w' : World} (h : KS W0 K w) (hb : Below w.heap.size w w') : KS W0 K w' :=
 ⟨h.1.trans (hb.mono h.size), fun p hp => (hb.block p.1 (lt_of_block (h.2 p hp))).trans (h.2 p hp)⟩
theorem KS.drew {W0 : Base} {K : List (Nat × Obj)} {w : World} (h : KS W0 K w) : KS W0 K w.drew := ⟨h.1.drew, h.2⟩
theorem KS.alloc {W0 : Base} {K : List (Nat × Obj)} {w : World} (h : KS W0 K w) (o : Obj) : KS W0 ((w.heap.size, o) :: K) (w.alloc o) :=
 ⟨h.1.alloc h.size _, fun p hp => by
   rcases List.mem_cons.1 hp with rfl | hp
   · exact heap_alloc_new w o
   · exact (Below.heap_alloc w o p.1 (lt_of_block (h.2 p hp))).trans (h.2 p hp)⟩
theorem KS.start (w : World) : KS w [] w := ⟨Below.refl _ _, fun _ h => by cases h⟩

section
variable {P : Program} {ops : Array Oper} {Q : Exit → Act → World → Prop} {md : Region.Mode} {W0 : Base}

def Oto (P : Program) (o : Oper) (ρ : Operand → Value) (w : World) (R : Value → World → Prop) : Prop :=
 match (execOp ρ o).run P w with
 | .ok (.value v) w' => R v w'
 | .ok .skip w' => R undef w'
 | .ok (.enter f args) w' => Calls P f args w' fun e w'' => ∃ v, e = .returned v ∧ R v w''
 | .ok (.row row args) w' => Rows P row args w' R
 | _ => False

theorem Oto.wp {o : Oper} {a : Act} {w : World} {R : Value → World → Prop} {K : Act → World → Prop} (h : Oto P o a.eval w R) (hk : ∀ v w', R v w' → K (a.put o.dst v) w') : o.wp P a w K Q := by
 unfold Oto at h
 unfold Oper.wp
 generalize (execOp a.eval o).run P w = r at *
 cases r with
 | ok n w' =>
   cases n <;> simp only [Oper.upon] at h ⊢
   · exact hk _ _ h
   · exact hk _ _ h
   · exact Calls.mono h fun e w'' ⟨v, he, hr⟩ => by subst he; exact hk _ _ hr
   · exact Rows.mono h fun _ _ hr => hk _ _ hr
 | halt x w' => exact h.elim

theorem Oto.of_wp {o : Oper} {a : Act} {w : World} {v : Value} {d : Nat} (hd : o.dst = some d) (hlt : d < a.tmps.size)
   (h : ∀ K : Act → World → Prop, (∀ w', Below w.heap.size w w' → K (a.put o.dst v) w') → o.wp P a w K (fun _ _ _ => False)) :
   Oto P o a.eval w (fun u w' => u = v ∧ Below w.heap.size w w') := by
 have h1 := h (fun x w' => x.defers = a.defers ∧ x.tmps[d]? = some v ∧ Below w.heap.size w w') (fun w' hb => by
   refine ⟨by simp [hd, Act.put], by simp [hd, Act.put, hlt], hb⟩)
 have put : ∀ u, (a.put o.dst u).tmps[d]? = some u := fun u => by simp [hd, Act.put, hlt]
 unfold Oper.wp at h1
 unfold Oto
 generalize (execOp a.eval o).run P w = r at *
 cases r with
 | ok n w' =>
   cases n <;> simp only [Oper.upon] at h1 ⊢
   · rename_i u
     rw [put u] at h1
     exact ⟨Option.some.inj h1.2.1, h1.2.2⟩
   · rw [put undef] at h1
     exact ⟨Option.some.inj h1.2.1, h1.2.2⟩
   · refine Calls.mono h1 fun e w'' he => ?_
     cases e with
     | returned u =>
       simp only [put u] at he
       exact ⟨u, rfl, Option.some.inj he.2.1, he.2.2⟩
     | panicked c => exact he.elim
     | outgrown => obtain ⟨_, _, hf⟩ := he; exact hf.elim
   · rename_i dd
     exfalso
     have := h1.1
     simp [hd, Act.put] at this
   · refine Rows.mono h1 fun u w'' he => ?_
     rw [put u] at he
     exact ⟨Option.some.inj he.2.1, he.2.2⟩
 | halt x w' => cases x <;> simp only [Oper.upon] at h1

def YB (P : Program) (ops : Array Oper) (W0 : Base) (K : List (Nat × Obj)) (o : Oper) (v : Value) (a : Act) : Prop :=
 (Region.wanted o (yielded ops a.tmps) = true ∧ ∀ w, KS W0 K w → Oto P o a.eval w (fun u w' => u = v ∧ Below w.heap.size w w')) ∨
 (Region.wanted o (yielded ops a.tmps) = false ∧ v = undef)
def AL (P : Program) (ops : Array Oper) (o : Oper) (obj : Obj) (a : Act) : Prop :=
 Region.wanted o (yielded ops a.tmps) = true ∧ ∀ w, (execOp a.eval o).run P w = .ok (.value (.pointer (some ⟨w.heap.size, 0, none⟩))) (w.alloc obj)
def isStore (o : Oper) : Bool := match o.op with | .store .. => true | .call c => (match c.callee with | .builtin .append => true | _ => false) | _ => false
def ST (P : Program) (ops : Array Oper) (W0 : Base) (K K' : List (Nat × Obj)) (o : Oper) (a : Act) : Prop :=
 Region.wanted o (yielded ops a.tmps) = true ∧ ∀ w, KS W0 K w → ∃ w', (execOp a.eval o).run P w = .ok .skip w' ∧ KS W0 K' w'

theorem YB.of_same {K : List (Nat × Obj)} {o : Oper} {v : Value} {a a' : Act} (hy : YB P ops W0 K o v a) (he : execOp a'.eval o = execOp a.eval o)
   (hw : Region.wanted o (yielded ops a'.tmps) = Region.wanted o (yielded ops a.tmps)) : YB P ops W0 K o v a' := by
 unfold YB Oto at *
 rw [he, hw]
 exact hy
theorem YB.more {K : List (Nat × Obj)} {p : Nat × Obj} {o : Oper} {v : Value} {a : Act} (hy : YB P ops W0 K o v a) : YB P ops W0 (p :: K) o v a :=
 hy.imp (fun h => ⟨h.1, fun w hw => h.2 w hw.tail⟩) id
theorem AL.of_same {o : Oper} {obj : Obj} {a a' : Act} (hy : AL P ops o obj a) (he : execOp a'.eval o = execOp a.eval o)
   (hw : Region.wanted o (yielded ops a'.tmps) = Region.wanted o (yielded ops a.tmps)) : AL P ops o obj a' := by
 unfold AL at *
 rw [he, hw]
 exact hy

def waits (md : Region.Mode) (ops : Array Oper) : Nat → Nat → Nat → Bool
 | 0, _, _ => false
 | n + 1, j, i => match ops[j]? with
   | none => false
   | some o => o.after.toList.any fun e => Region.binds md e && (e.on == i || waits md ops n e.on i)
def closedB (md : Region.Mode) (ops : Array Oper) (listed : Array Bool) : Bool :=
 (List.range ops.size).all fun k => !listed.getD k false || match ops[k]? with
   | none => true
   | some o => o.after.toList.all fun e => !Region.binds md e || listed.getD e.on false
def closed (md : Region.Mode) (ops : Array Oper) (listed : Array Bool) : Prop :=
 ∀ k o, ops[k]? = some o → listed.getD k false = true → ∀ e ∈ o.after, Region.binds md e = true → listed.getD e.on false = true
theorem closed_of {listed : Array Bool} (h : closedB md ops listed = true) : closed md ops listed := by
 intro k o ho hk e he hb
 unfold closedB at h
 rw [List.all_eq_true] at h
 have h1 := h k (List.mem_range.2 (Array.getElem?_eq_some_iff.1 ho).1)
 simp only [hk, ho, Bool.not_true, Bool.false_or, List.all_eq_true] at h1
 have h2 := h1 e (Array.mem_def.1 he)
 simpa [hb] using h2
theorem not_waits {listed : Array Bool} {i : Nat} (hc : closed md ops listed) (hi : listed.getD i false = false) : ∀ n j o, ops[j]? = some o → waits md ops n j i = true →
   (∀ e ∈ o.after, Region.binds md e = true → listed.getD e.on false = true) → False
 | 0, _, _, _, h, _ => by simp [waits] at h
 | n + 1, j, o, ho, h, hall => by
   simp only [waits, ho, List.any_eq_true, Bool.and_eq_true, Bool.or_eq_true, beq_iff_eq] at h
   obtain ⟨e, he, hb, h2⟩ := h
   have hl := hall e (Array.mem_def.2 he) hb
   rcases h2 with h2 | h2
   · rw [h2, hi] at hl; cases hl
   · cases hk : ops[e.on]? with
     | none =>
       cases n with
       | zero => simp [waits] at h2
       | succ n => simp [waits, hk] at h2
     | some ok => exact not_waits hc hi n e.on ok hk h2 (hc e.on ok hk hl)
theorem closed_set {listed : Array Bool} {j : Nat} (hc : closed md ops listed) (hj : j ∈ Region.ready md ops listed) : closed md ops (listed.setIfInBounds j true) := by
 obtain ⟨_, oj, hoj, hall⟩ := mem_ready.1 hj
 intro k o ho hk e he hb
 by_cases hkj : k = j
 · subst hkj
   rw [hoj] at ho
   cases ho
   exact getD_set_true (hall e he hb)
 · rw [getD_set_ne false (Ne.symm hkj)] at hk
   exact getD_set_true (hc k o ho hk e he hb)

theorem unlisted_false {listed : Array Bool} {i : Nat} (h : listed.getD i true = false) : listed.getD i false = false := by
 rcases Nat.lt_or_ge i listed.size with h' | h'
 · simp [h'] at h ⊢; exact h
 · simp [Array.getElem?_eq_none h'] at h

def storesWait (md : Region.Mode) (ops : Array Oper) (i : Nat) : Bool :=
 (List.range ops.size).all fun j => match ops[j]? with
   | some o => !isStore o || waits md ops 4 j i
   | none => true
theorem storesWait_spec {i : Nat} (h : storesWait md ops i = true) (j : Nat) (o : Oper) (ho : ops[j]? = some o) (hs : isStore o = true) : ∃ m, waits md ops m j i = true := by
 unfold storesWait at h
 rw [List.all_eq_true] at h
 have h1 := h j (List.mem_range.2 (Array.getElem?_eq_some_iff.1 ho).1)
 simp only [ho, hs, Bool.not_true, Bool.false_or] at h1
 exact ⟨4, h1⟩
def freeAll (md : Region.Mode) (ops : Array Oper) (listed : Array Bool) (i : Nat) : Bool :=
 Region.noSelect ops && (Region.free md ops listed i && ((Region.ready md ops listed).contains i && (closedB md ops listed && storesWait md ops i)))

theorem run_storeVar_mid {g off : Nat} {cs : Array Value} {t ty : TypeId} {v : Value} (w : World) (hg : w.heap[g]? = some (.cells cs t (0, 0))) (hi : (P.info? ty).map (·.size) = some v.cells.size)
   (hfit : off + v.cells.size ≤ cs.size) (h1 : ∀ x ∈ v.cells.toList, x.oneCell' = true) :
   (storeVar ty ⟨g, off, none⟩ v).run P w = .ok () (w.setRow g (cs.toList.take off ++ v.cells.toList ++ cs.toList.drop (off + v.cells.toList.length)).toArray) := by
 have hst := run_storeCells_at P g off t v.cells.toList 0 cs w hg (by simpa using hfit) h1
 cases hq : P.info? ty with
 | none => simp [hq] at hi
 | some i =>
   have hs : i.size = v.cells.size := by simpa [hq] using hi
   simp only [Nat.add_zero] at hst
   simp [storeVar, Sem.run_bind, Go.sizeOf, typeInfo, hq, hs, hst]
theorem KS.setRow {K K' : List (Nat × Obj)} {w : World} {g : Nat} {cs cs' : Array Value} {t : TypeId} (h : KS W0 K w) (hB : W0.B ≤ g) (hg : w.heap[g]? = some (.cells cs t (0, 0)))
   (hK : ∀ p ∈ K', p = (g, .cells cs' t (0, 0)) ∨ (p ∈ K ∧ p.1 ≠ g)) : KS W0 K' (w.setRow g cs') :=
 ⟨below_setRow h.1 hB _, fun p hp => by
   rcases hK p hp with rfl | ⟨hp, hne⟩
   · exact setRow_heap w g cs cs' t _ hg
   · rw [setRow_other w g p.1 cs' hne]; exact h.2 p hp⟩
theorem st_row {o : Oper} {a : Act} {K K' : List (Nat × Obj)} {ty t : TypeId} {x y : Operand} {g off : Nat} {cs cs' : Array Value} {v : Value} (ho : o.op = .store ty x y) (hx : a.eval x = .pointer (some ⟨g, off, none⟩)) (hv : a.eval y = v)
   (hm : (g, .cells cs t (0, 0)) ∈ K) (hB : W0.B ≤ g) (hi : (P.info? ty).map (·.size) = some v.cells.size)
   (hfit : off + v.cells.size ≤ cs.size) (h1 : ∀ x ∈ v.cells.toList, x.oneCell' = true)
   (hcs : cs' = (cs.toList.take off ++ v.cells.toList ++ cs.toList.drop (off + v.cells.toList.length)).toArray)
   (hK : ∀ p ∈ K', p = (g, .cells cs' t (0, 0)) ∨ (p ∈ K ∧ p.1 ≠ g)) : ∀ w, KS W0 K w → ∃ w', (execOp a.eval o).run P w = .ok .skip w' ∧ KS W0 K' w' := by
 intro w hw
 have hg := hw.2 _ hm
 subst hcs
 refine ⟨_, ?_, hw.setRow hB hg hK⟩
 have hr := run_storeVar_mid (P := P) (ty := ty) (v := v) w hg hi hfit h1
 simp only [execOp, ho, hx, hv, Instr.storeAt, Instr.sureAddr, Sem.run_bind, Sem.run_pure, Result.andThen_ok, hr]
def aggD (d : TypeDesc) : Bool := match d with | .struct _ | .array _ _ => true | _ => false
theorem run_loadVar_mid {g off n : Nat} {cs : Array Value} {t ty : TypeId} {d : TypeDesc} (w : World) (hg : w.heap[g]? = some (.cells cs t (0, 0)))
   (hu : P.underlying ty = some d) (hd : aggD d = true) (hi : (P.info? ty).map (·.size) = some n) (hfit : off + n ≤ cs.size) :
   (loadVar ty ⟨g, off, none⟩).run P w = .ok (.agg ((cs.toList.drop off).take n).toArray) w := by
 have hlen : ((cs.toList.drop off).take n).length = n := by simp; omega
 have hl : (loadCells ⟨g, off, none⟩ ((cs.toList.drop off).take n).length).run P w = .ok ((cs.toList.drop off).take n).toArray w :=
   run_loadCells_list (P := P) w ⟨g, off, none⟩ _ (fun j v hv => by
     have hadd : (⟨g, off, none⟩ : Addr).add j = ⟨g, off + j, none⟩ := by unfold Addr.add; split <;> simp_all
     rw [hadd, cell_of_row w g (off + j) cs t (0, 0) hg]
     obtain ⟨hj, hv⟩ := List.getElem?_eq_some_iff.1 hv
     rw [hlen] at hj
     rw [List.getElem_take, List.getElem_drop] at hv
     rw [Array.getElem?_eq_getElem Tw.om, ← hv]
     simp)
 rw [hlen] at hl
 cases hq : P.info? ty with
 | none => simp [hq] at hi
 | some i =>
   have hs : i.size = n := by simpa [hq] using hi
   have hagg : (isAgg ty).run P w = .ok true w := by
     unfold isAgg
     rw [Sem.run_bind, run_underlying hu w]
     unfold aggD at hd
     cases d <;> simp_all
   simp [loadVar, Sem.run_bind, hagg, Go.sizeOf, typeInfo, hq, hs, hl]
theorem yb_load {o : Oper} {a : Act} {K : List (Nat × Obj)} {ty t : TypeId} {x : Operand} {g off n : Nat} {cs vs : Array Value} {d : TypeDesc} (ho : o.op = .load ty x) (hx : a.eval x = .pointer (some ⟨g, off, none⟩))
   (hm : (g, .cells cs t (0, 0)) ∈ K) (hu : P.underlying ty = some d) (hd : aggD d = true) (hi : (P.info? ty).map (·.size) = some n) (hfit : off + n ≤ cs.size)
   (hvs : vs = ((cs.toList.drop off).take n).toArray) :
   ∀ w, KS W0 K w → ∀ K' : Act → World → Prop, (∀ w', Below w.heap.size w w' → K' (a.put o.dst (.agg vs)) w') → Oper.wp P o a w K' (fun _ _ _ => False) := by
 intro w hw K' hk
 have hr := run_loadVar_mid (P := P) (ty := ty) w (hw.2 _ hm) hu hd hi hfit
 unfold Oper.wp execOp
 simp only [ho, hx, Instr.loadAt, Instr.sureAddr, Sem.run_bind, Sem.run_pure, Result.andThen_ok, hr]
 subst hvs
 exact hk w (Below.refl _ _)

theorem run_loadVar_all {g : Nat} {cs : Array Value} {t ty : TypeId} {d : TypeDesc} (w : World) (hg : w.heap[g]? = some (.cells cs t (0, 0)))
   (hu : P.underlying ty = some d) (hd : aggD d = true) (hi : (P.info? ty).map (·.size) = some cs.size) : (loadVar ty ⟨g, 0, none⟩).run P w = .ok (.agg cs) w := by
 have h := run_loadVar_mid (P := P) (ty := ty) (off := 0) w hg hu hd hi Tw.om
 have e : ((cs.toList.drop 0).take cs.size).toArray = cs := by
   rw [List.drop_zero, List.take_of_length_le (by simp)]
 rw [e] at h
 exact h
theorem res_cell {fn : Func} {p : Tmp} {ty : TypeId} (h : fn.results = #[.cell p ty]) {tmps : Array Value} {w : World} {g : Nat} {t : TypeId} {cs : Array Value} {d : TypeDesc}
   (hp : tmps.getD p undef = .pointer (some ⟨g, 0, none⟩)) (hg : w.heap[g]? = some (.cells cs t (0, 0)))
   (hu : P.underlying ty = some d) (hd : aggD d = true) (hi : (P.info? ty).map (·.size) = some cs.size) :
   (results fn tmps).run P w = .ok (.agg cs) w := by
 have hp' : tmps[p]?.getD undef = .pointer (some ⟨g, 0, none⟩) := by simpa using hp
 simp [results, h, hp', asAddr, run_loadVar_all w hg hu hd hi]
theorem res_cell_tmp {fn : Func} {p q : Tmp} {ty : TypeId} (h : fn.results = #[.cell p ty, .tmp q]) {tmps : Array Value} {w : World} {g : Nat} {t : TypeId} {cs : Array Value} {d : TypeDesc}
   (hp : tmps.getD p undef = .pointer (some ⟨g, 0, none⟩)) (hg : w.heap[g]? = some (.cells cs t (0, 0)))
   (hu : P.underlying ty = some d) (hd : aggD d = true) (hi : (P.info? ty).map (·.size) = some cs.size) :
   (results fn tmps).run P w = .ok (.tuple #[.agg cs, tmps.getD q undef]) w := by
 have hp' : tmps[p]?.getD undef = .pointer (some ⟨g, 0, none⟩) := by simpa using hp
 simp [results, h, hp', asAddr, run_loadVar_all w hg hu hd hi]
theorem yb_pure {o : Oper} {a : Act} {K : List (Nat × Obj)} {v : Value} (h : ∀ w, (execOp a.eval o).run P w = .ok (.value v) w) :
   ∀ w, KS W0 K w → ∀ K' : Act → World → Prop, (∀ w', Below w.heap.size w w' → K' (a.put o.dst v) w') → Oper.wp P o a w K' (fun _ _ _ => False) := by
 intro w _ K' hk
 unfold Oper.wp
 rw [h w]
 exact hk w (Below.refl _ _)
theorem yb_call {o : Oper} {a : Act} {K : List (Nat × Obj)} {v : Value} {f : FuncId} {args : Array Value} (hf : ∀ w, (execOp a.eval o).run P w = .ok (.enter f args) w)
   (h : ∀ w, KS W0 K w → Calls P f args w fun e w' => e = .returned v ∧ Below w.heap.size w w') :
   ∀ w, KS W0 K w → ∀ K' : Act → World → Prop, (∀ w', Below w.heap.size w w' → K' (a.put o.dst v) w') → Oper.wp P o a w K' (fun _ _ _ => False) := by
 intro w hw K' hk
 unfold Oper.wp
 rw [hf w]
 refine (h w hw).mono fun e w' ⟨he, hb⟩ => ?_
 subst he
 exact hk w' hb
end
end Tw
namespace Go.Proofs.Ytnbfljcilojllaa
open Go.RowKit Tw
section
variable {P : Program} {W0 : Base}
variable {ops : Array Oper} {md : Region.Mode} {Q : Exit → Act → World → Prop}
theorem wanted_no {o : Oper} {y : Nat → Option Bool} (h : o.guard = none) : Region.wanted o y = true := by simp [Region.wanted, h]
def freeP (md : Region.Mode) (ops : Array Oper) (listed : Array Bool) (i : Nat) : Bool :=
 Region.noSelect ops && (Region.free md ops listed i && ((Region.ready md ops listed).contains i && closedB md ops listed))
theorem run_bin {o : Oper} {a : Act} {v vx vy : Value} {op : BinOp} {xT : TypeId} {x y : Operand} {d : TypeId}
   (ho : o.op = .binOp op xT x y d) (hx : a.eval x = vx) (hy : a.eval y = vy)
   (h : ∀ w, (do eqGuard op xT x y vx vy; binOp op xT vx vy : Sem Value).run P w = .ok v w) : ∀ w, (execOp a.eval o).run P w = .ok (.value v) w := by
 intro w
 have h0 := h w
 unfold execOp
 rw [ho]
 simp only [hx, hy]
 rw [Sem.run_bind, h0]
 rfl
end
end Go.Proofs.Ytnbfljcilojllaa
/- The law of regions over known blocks (Rg, Yb) once more, for values of new blocks other than pointers (slices of parts). Nothing of the program. -/
namespace Tw
open Go Go.RowKit Go.Proofs.Ytnbfljcilojllaa
section
variable {P : Program} {ops : Array Oper} {Q : Exit → Act → World → Prop} {md : Region.Mode} {W0 : Base}
def AV (P : Program) (ops : Array Oper) (o : Oper) (obj : Obj) (mk : Nat → Value) (a : Act) : Prop :=
 Region.wanted o (yielded ops a.tmps) = true ∧ ∀ w, (execOp a.eval o).run P w = .ok (.value (mk w.heap.size)) (w.alloc obj)

theorem AV.of_same {o : Oper} {obj : Obj} {mk : Nat → Value} {a a' : Act} (hy : AV P ops o obj mk a) (he : execOp a'.eval o = execOp a.eval o)
   (hw : Region.wanted o (yielded ops a'.tmps) = Region.wanted o (yielded ops a.tmps)) : AV P ops o obj mk a' := by
 unfold AV at *
 rw [he, hw]
 exact hy

def GV (P : Program) (ops : Array Oper) (W0 : Base) (K : List (Nat × Obj)) (G : Value → List (Nat × Obj) → Prop) (o : Oper) (a : Act) : Prop :=
 Region.wanted o (yielded ops a.tmps) = true ∧ ∀ w, KS W0 K w → Oto P o a.eval w (fun v w' => ∃ K', KS W0 K' w' ∧ G v K')
theorem oto_of_run {P : Program} {o : Oper} {ρ : Operand → Value} {w w' : World} {v : Value} {R : Value → World → Prop} (h : (execOp ρ o).run P w = .ok (.value v) w') (hR : R v w') : Oto P o ρ w R := by
 unfold Oto
 rw [h]
 exact hR
theorem oto_same {P : Program} {o : Oper} {ρ ρ' : Operand → Value} {w : World} {R : Value → World → Prop} (he : execOp ρ' o = execOp ρ o) (h : Oto P o ρ w R) : Oto P o ρ' w R := by
 unfold Oto at *
 rw [he]
 exact h
theorem YB.sub {K K' : List (Nat × Obj)} {o : Oper} {v : Value} {a : Act} (hy : YB P ops W0 K o v a) (hs : ∀ p ∈ K, p ∈ K') : YB P ops W0 K' o v a :=
 hy.imp (fun h => ⟨h.1, fun w hw => h.2 w (hw.sub hs)⟩) id
def lateB (md : Region.Mode) (ops : Array Oper) (i : Nat) : Bool := (List.range ops.size).all fun k => k == i || (waits md ops 8 i k || waits md ops 8 k i)
theorem lateB_spec {i : Nat} (h : lateB md ops i = true) (k : Nat) (hk : k < ops.size) (hne : k ≠ i) : ∃ m, waits md ops m i k = true ∨ waits md ops m k i = true := by
 unfold lateB at h
 rw [List.all_eq_true] at h
 have h1 := h k (List.mem_range.2 hk)
 simp only [Bool.or_eq_true, beq_iff_eq] at h1
 rcases h1 with h1 | h1
 · exact (hne h1).elim
 · exact ⟨8, h1⟩
def wpV (P : Program) (md : Region.Mode) (ops : Array Oper) (Q : Exit → Act → World → Prop) (W0 : Base) : Nat → Array Bool → Act → List (Nat × Obj) → Prop
 | 0, listed, a, K => Region.ready md ops listed = [] ∧ ∀ w, KS W0 K w → Q .normal a w
 | n + 1, listed, a, K =>
   (Region.ready md ops listed = [] → ∀ w, KS W0 K w → Q .normal a w) ∧
   ∀ i ∈ Region.ready md ops listed, ∃ o, ops[i]? = some o ∧
     ((∃ v, YB P ops W0 K o v a ∧ wpV P md ops Q W0 n (listed.setIfInBounds i true) (a.put o.dst v) K) ∨
      (∃ obj, ∃ mk : Nat → Value, AV P ops o obj mk a ∧ ∀ g, W0.B ≤ g → (∀ p ∈ K, p.1 ≠ g) → wpV P md ops Q W0 n (listed.setIfInBounds i true) (a.put o.dst (mk g)) ((g, obj) :: K)) ∨
      (isStore o = true ∧ ∃ K', ST P ops W0 K K' o a ∧ wpV P md ops Q W0 n (listed.setIfInBounds i true) (a.put o.dst undef) K') ∨
      (∃ G : Value → List (Nat × Obj) → Prop, (isStore o = true ∨ (∀ v K', G v K' → ∀ p ∈ K, p ∈ K') ∨ lateB md ops i = true) ∧ GV P ops W0 K G o a ∧ ∀ v K', G v K' → wpV P md ops Q W0 n (listed.setIfInBounds i true) (a.put o.dst v) K'))

theorem wpV_sound : ∀ (n : Nat) (listed : Array Bool) (a : Act) (K : List (Nat × Obj)), wpV P md ops Q W0 n listed a K → ∀ w, KS W0 K w → wpAny P md ops Q n listed a w
 | 0, _, _, _, h, w, hw => ⟨h.1, h.2 w hw⟩
 | n + 1, listed, a, K, h, w, hw => by
   refine ⟨fun hr => h.1 hr w hw, fun i hi => ?_⟩
   obtain ⟨o, ho, hc⟩ := h.2 i hi
   refine wpOp_step ho fun K' hK' => ?_
   rcases hc with ⟨v, hy, hu⟩ | ⟨obj, mk, hal, hu⟩ | ⟨_, K2, hst, hu⟩ | ⟨G, _, hgv, hu⟩
   · rcases hy with ⟨hwn, hto⟩ | ⟨hwn, rfl⟩
     · rw [if_pos hwn]
       exact (hto w hw).wp fun u w' ⟨hu', hb⟩ => by subst hu'; exact hK' _ _ (wpV_sound n _ _ _ hu w' (hw.below hb))
     · rw [if_neg (by rw [hwn]; decide)]
       exact hK' _ _ (wpV_sound n _ _ _ hu w hw)
   · rw [if_pos hal.1]
     unfold Oper.wp
     rw [hal.2 w]
     refine hK' _ _ (wpV_sound n _ _ _ (hu w.heap.size hw.size (fun p hp e => ?_)) _ (hw.alloc obj))
     have := lt_of_block (hw.2 p hp)
     omega
   · rw [if_pos hst.1]
     obtain ⟨w', hrun, hw'⟩ := hst.2 w hw
     unfold Oper.wp
     rw [hrun]
     exact hK' _ _ (wpV_sound n _ _ _ hu w' hw')
   · rw [if_pos hgv.1]
     exact (hgv.2 w hw).wp fun v w' ⟨K2, hw', hG⟩ => hK' _ _ (wpV_sound n _ _ _ (hu v K2 hG) w' hw')


theorem wpV_first {i : Nat} {oi : Oper} {v : Value} (hi : ops[i]? = some oi) (hsel : ∀ (j : Nat) (o : Oper) cs b, ops[j]? = some o → o.op ≠ .select cs b) :
   ∀ (n : Nat) (listed : Array Bool) (a : Act) (K : List (Nat × Obj)), closed md ops listed →
     (∀ j oj, ops[j]? = some oj → j ≠ i → listed.getD j true = false → (∀ e ∈ oj.after, Region.binds md e = true → e.on ≠ i) → oi.apart ops oj = true) →
     i ∈ Region.ready md ops listed → ((∀ K', YB P ops W0 K' oi v a) ∨ (YB P ops W0 K oi v a ∧ ∀ j o, ops[j]? = some o → isStore o = true → ∃ m, waits md ops m j i = true)) →
     wpV P md ops Q W0 n (listed.setIfInBounds i true) (a.put oi.dst v) K → wpV P md ops Q W0 (n + 1) listed a K := by
 intro n
 induction n with
 | zero =>
   intro listed a K _ _ hr hy H
   refine ⟨fun h => (by rw [h] at hr; cases hr), fun j hj => ?_⟩
   by_cases hji : j = i
   · subst hji
     exact ⟨oi, hi, .inl ⟨v, hy.elim (fun h => h K) (fun h => h.1), H⟩⟩
   · have := ready_mono hj hji
     rw [H.1] at this
     cases this
 | succ n ih =>
   intro listed a K hcl hfree hr hy H
   refine ⟨fun h => (by rw [h] at hr; cases hr), fun j hj => ?_⟩
   by_cases hji : j = i
   · subst hji
     exact ⟨oi, hi, .inl ⟨v, hy.elim (fun h => h K) (fun h => h.1), H⟩⟩
   · obtain ⟨oj, hoj, hc⟩ := H.2 j (ready_mono hj hji)
     obtain ⟨hjun, oj', hoj', hall⟩ := mem_ready.1 hj
     rw [hoj] at hoj'
     cases hoj'
     have hiun := (mem_ready.1 hr).1
     have hnot : ∀ e ∈ oj.after, Region.binds md e = true → e.on ≠ i := fun e he hb heq => by
       have h1 := hall e he hb
       rw [heq, unlisted_false hiun] at h1
       cases h1
     have hap := hfree j oj hoj hji hjun hnot
     obtain ⟨h1, h2, h3⟩ := Oper.apart_spec hap
     have hfree' : ∀ k ok, ops[k]? = some ok → k ≠ i → (listed.setIfInBounds j true).getD k true = false →
         (∀ e ∈ ok.after, Region.binds md e = true → e.on ≠ i) → oi.apart ops ok = true := fun k ok hk hki hun hno => by
       refine hfree k ok hk hki ?_ hno
       by_cases hjk : j = k
       · subst hjk; exact hjun
       · rw [getD_set_ne true hjk] at hun; exact hun
     have hsi : ∀ cs b, oi.op ≠ .select cs b := fun cs b => hsel i oi cs b hi
     have hsj : ∀ cs b, oj.op ≠ .select cs b := fun cs b => hsel j oj cs b hoj
     have keep : ∀ K' u, YB P ops W0 K' oi v a → YB P ops W0 K' oi v (a.put oj.dst u) := fun K' u h => h.of_same (execOp_put oi hsi a oj.dst u h3) (wanted_put oi a oj.dst u h3)
     have eqe : execOp (a.put oi.dst v).eval oj = execOp a.eval oj := execOp_put oj hsj a oi.dst v h1
     have eqw : Region.wanted oj (yielded ops (a.put oi.dst v).tmps) = Region.wanted oj (yielded ops a.tmps) := wanted_put oj a oi.dst v h1
     refine ⟨oj, hoj, ?_⟩
     rcases hc with ⟨u, hyj, hu⟩ | ⟨obj, mk, hal, hu⟩ | ⟨hs, K2, hst2, hu⟩ | ⟨G, hs, hg2, hu⟩
     · refine .inl ⟨u, hyj.of_same eqe.symm eqw.symm, ih _ _ _ (closed_set hcl hj) hfree' (ready_mono hr (Ne.symm hji)) (hy.imp (fun h K' => keep K' u (h K')) (fun h => ⟨keep K u h.1, h.2⟩)) ?_⟩
       rw [Array.setIfInBounds_comm _ _ hji, ← Act.put_comm a v u h2]
       exact hu
     · refine .inr (.inl ⟨obj, mk, hal.of_same eqe.symm eqw.symm, fun g hg hgk => ih _ _ _ (closed_set hcl hj) hfree' (ready_mono hr (Ne.symm hji)) (hy.imp (fun h K' => keep K' _ (h K')) (fun h => ⟨(keep K _ h.1).more, h.2⟩)) ?_⟩)
       rw [Array.setIfInBounds_comm _ _ hji, ← Act.put_comm a v _ h2]
       exact hu g hg hgk
     · rcases hy with hy | ⟨hy, hwait⟩
       · refine .inr (.inr (.inl ⟨hs, K2, ⟨by rw [← eqw]; exact hst2.1, fun w hw => by rw [← eqe]; exact hst2.2 w hw⟩, ih _ _ _ (closed_set hcl hj) hfree' (ready_mono hr (Ne.symm hji)) (.inl fun K' => keep K' _ (hy K')) ?_⟩))
         rw [Array.setIfInBounds_comm _ _ hji, ← Act.put_comm a v _ h2]
         exact hu
       · obtain ⟨m, hm⟩ := hwait j oj hoj hs
         exact (not_waits hcl (unlisted_false hiun) m j oj hoj hm hall).elim
     · rcases hy with hy | ⟨hy, hwait⟩
       · refine .inr (.inr (.inr ⟨G, hs, ⟨by rw [← eqw]; exact hg2.1, fun w hw => oto_same eqe.symm (hg2.2 w hw)⟩, fun u K2 hG => ih _ _ _ (closed_set hcl hj) hfree' (ready_mono hr (Ne.symm hji)) (.inl fun K' => keep K' _ (hy K')) ?_⟩))
         rw [Array.setIfInBounds_comm _ _ hji, ← Act.put_comm a v _ h2]
         exact hu u K2 hG
       · rcases hs with hs | hm | hl
         · obtain ⟨m, hm⟩ := hwait j oj hoj hs
           exact (not_waits hcl (unlisted_false hiun) m j oj hoj hm hall).elim
         · refine .inr (.inr (.inr ⟨G, .inr (.inl hm), ⟨by rw [← eqw]; exact hg2.1, fun w hw => oto_same eqe.symm (hg2.2 w hw)⟩, fun u K2 hG => ih _ _ _ (closed_set hcl hj) hfree' (ready_mono hr (Ne.symm hji)) (.inr ⟨keep K2 _ (hy.sub (hm u K2 hG)), hwait⟩) ?_⟩))
           rw [Array.setIfInBounds_comm _ _ hji, ← Act.put_comm a v _ h2]
           exact hu u K2 hG
         · obtain ⟨m, hm | hm⟩ := lateB_spec hl i (Array.getElem?_eq_some_iff.1 hi).1 (Ne.symm hji)
           · exact (not_waits hcl (unlisted_false hiun) m j oj hoj hm hall).elim
           · obtain ⟨_, oi2, hoi2, halli⟩ := mem_ready.1 hr
             rw [hi] at hoi2
             cases hoi2
             exact (not_waits hcl (unlisted_false hjun) m i oi hi hm halli).elim


theorem wpV_val {i : Nat} {oi : Oper} {v : Value} {d n : Nat} {listed : Array Bool} {a : Act} {K : List (Nat × Obj)} (hi : ops[i]? = some oi) (hd : oi.dst = some d) (hlt : Nat.blt d a.tmps.size = true)
   (hf : freeAll md ops listed i = true) (hw : Region.wanted oi (yielded ops a.tmps) = true)
   (hy : ∀ w, KS W0 K w → ∀ K' : Act → World → Prop, (∀ w', Below w.heap.size w w' → K' (a.put oi.dst v) w') → Oper.wp P oi a w K' (fun _ _ _ => False))
   (h : wpV P md ops Q W0 n (listed.setIfInBounds i true) (a.put oi.dst v) K) : wpV P md ops Q W0 (n + 1) listed a K := by
 unfold freeAll at hf
 simp only [Bool.and_eq_true] at hf
 obtain ⟨h1, h2, h3, h4, h5⟩ := hf
 exact wpV_first hi (Region.noSelect_spec h1) n listed a K (closed_of h4) (Region.free_spec hi h2) (by simpa using h3)
   (.inr ⟨.inl ⟨hw, fun w hk => Oto.of_wp hd (Nat.le_of_ble_eq_true hlt) (hy w hk)⟩, storesWait_spec h5⟩) h
theorem wpV_not {i : Nat} {oi : Oper} {n : Nat} {listed : Array Bool} {a : Act} {K : List (Nat × Obj)} (hi : ops[i]? = some oi)
   (hf : freeAll md ops listed i = true) (hw : Region.wanted oi (yielded ops a.tmps) = false)
   (h : wpV P md ops Q W0 n (listed.setIfInBounds i true) (a.put oi.dst undef) K) : wpV P md ops Q W0 (n + 1) listed a K := by
 unfold freeAll at hf
 simp only [Bool.and_eq_true] at hf
 obtain ⟨h1, h2, h3, h4, h5⟩ := hf
 exact wpV_first hi (Region.noSelect_spec h1) n listed a K (closed_of h4) (Region.free_spec hi h2) (by simpa using h3)
   (.inl fun _ => .inr ⟨hw, rfl⟩) h
theorem wpV_alloc {i : Nat} {oi : Oper} {obj : Obj} (mk : Nat → Value) {n : Nat} {listed : Array Bool} {a : Act} {K : List (Nat × Obj)} (hi : ops[i]? = some oi) (hr : Region.ready md ops listed = [i])
   (hw : Region.wanted oi (yielded ops a.tmps) = true) (hal : ∀ w, (execOp a.eval oi).run P w = .ok (.value (mk w.heap.size)) (w.alloc obj))
   (h : ∀ g, W0.B ≤ g → (∀ p ∈ K, p.1 ≠ g) → wpV P md ops Q W0 n (listed.setIfInBounds i true) (a.put oi.dst (mk g)) ((g, obj) :: K)) : wpV P md ops Q W0 (n + 1) listed a K :=
 ⟨fun h0 => (by rw [hr] at h0; cases h0), fun j hj => by
   rw [hr] at hj
   cases List.mem_singleton.1 hj
   exact ⟨oi, hi, .inr (.inl ⟨obj, mk, ⟨hw, hal⟩, h⟩)⟩⟩
theorem wpV_store {i : Nat} {oi : Oper} {n : Nat} {listed : Array Bool} {a : Act} {K K' : List (Nat × Obj)} (hi : ops[i]? = some oi) (hr : Region.ready md ops listed = [i])
   (hs : isStore oi = true) (hw : Region.wanted oi (yielded ops a.tmps) = true) (hst : ∀ w, KS W0 K w → ∃ w', (execOp a.eval oi).run P w = .ok .skip w' ∧ KS W0 K' w')
   (h : wpV P md ops Q W0 n (listed.setIfInBounds i true) (a.put oi.dst undef) K') : wpV P md ops Q W0 (n + 1) listed a K :=
 ⟨fun h0 => (by rw [hr] at h0; cases h0), fun j hj => by
   rw [hr] at hj
   cases List.mem_singleton.1 hj
   exact ⟨oi, hi, .inr (.inr (.inl ⟨hs, K', ⟨hw, hst⟩, h⟩))⟩⟩
def StepV (P : Program) (md : Region.Mode) (ops : Array Oper) (Q : Exit → Act → World → Prop) (W0 : Base) (n : Nat) (listed : Array Bool) (a : Act) (K : List (Nat × Obj)) (i : Nat) : Prop :=
 ∃ o, ops[i]? = some o ∧
     ((∃ v, YB P ops W0 K o v a ∧ wpV P md ops Q W0 n (listed.setIfInBounds i true) (a.put o.dst v) K) ∨
      (∃ obj, ∃ mk : Nat → Value, AV P ops o obj mk a ∧ ∀ g, W0.B ≤ g → (∀ p ∈ K, p.1 ≠ g) → wpV P md ops Q W0 n (listed.setIfInBounds i true) (a.put o.dst (mk g)) ((g, obj) :: K)) ∨
      (isStore o = true ∧ ∃ K', ST P ops W0 K K' o a ∧ wpV P md ops Q W0 n (listed.setIfInBounds i true) (a.put o.dst undef) K') ∨
      (∃ G : Value → List (Nat × Obj) → Prop, (isStore o = true ∨ (∀ v K', G v K' → ∀ p ∈ K, p ∈ K') ∨ lateB md ops i = true) ∧ GV P ops W0 K G o a ∧ ∀ v K', G v K' → wpV P md ops Q W0 n (listed.setIfInBounds i true) (a.put o.dst v) K'))
theorem stepV_alloc {i : Nat} {oi : Oper} {obj : Obj} (mk : Nat → Value) {n : Nat} {listed : Array Bool} {a : Act} {K : List (Nat × Obj)} (hi : ops[i]? = some oi)
   (hw : Region.wanted oi (yielded ops a.tmps) = true) (hal : ∀ w, (execOp a.eval oi).run P w = .ok (.value (mk w.heap.size)) (w.alloc obj))
   (h : ∀ g, W0.B ≤ g → (∀ p ∈ K, p.1 ≠ g) → wpV P md ops Q W0 n (listed.setIfInBounds i true) (a.put oi.dst (mk g)) ((g, obj) :: K)) : StepV P md ops Q W0 n listed a K i :=
 ⟨oi, hi, .inr (.inl ⟨obj, mk, ⟨hw, hal⟩, h⟩)⟩
theorem wpV_1 {i n : Nat} {listed : Array Bool} {a : Act} {K : List (Nat × Obj)} (hr : Region.ready md ops listed = [i]) (h : StepV P md ops Q W0 n listed a K i) : wpV P md ops Q W0 (n + 1) listed a K :=
 ⟨fun h0 => (by rw [hr] at h0; cases h0), fun j hj => by
   rw [hr] at hj
   cases List.mem_singleton.1 hj
   exact h⟩
theorem wpV_2 {i j n : Nat} {listed : Array Bool} {a : Act} {K : List (Nat × Obj)} (hr : Region.ready md ops listed = [i, j]) (h : StepV P md ops Q W0 n listed a K i) (h' : StepV P md ops Q W0 n listed a K j) : wpV P md ops Q W0 (n + 1) listed a K :=
 ⟨fun h0 => (by rw [hr] at h0; cases h0), fun k hk => by
   rw [hr] at hk
   rcases List.mem_cons.1 hk with rfl | hk
   · exact h
   · cases List.mem_singleton.1 hk
     exact h'⟩
theorem wpV_done {listed : Array Bool} {a : Act} {K : List (Nat × Obj)} (hr : Region.ready md ops listed = []) (h : ∀ w, KS W0 K w → Q .normal a w) : ∀ n, wpV P md ops Q W0 n listed a K
 | 0 => ⟨hr, h⟩
 | _ + 1 => ⟨fun _ => h, by rw [hr]; simp⟩
theorem wp_region_V {id : Nat} {a : Act} {w : World} (K : List (Nat × Obj)) (hm : P.follows .mixedOrders = true) (hK : KS W0 K w)
   (h : wpV P .any ops Q W0 ops.size (Array.replicate ops.size false) a K) : (Code.region id ops true).wp P Q a w :=
 wp_region_any hm (wpV_sound _ _ _ _ h _ hK.drew)

theorem wpV_v {md : Region.Mode} {ops : Array Oper} {Q : Exit → Act → World → Prop} {i : Nat} {oi : Oper} {v : Value} {d n : Nat} {listed : Array Bool} {tm : Array Value} {df : List Deferred} {K : List (Nat × Obj)} (hi : ops[i]? = some oi) (hd : oi.dst = some d) (hlt : Nat.blt d tm.size = true)
   (hf : freeAll md ops listed i = true) (hw : Region.wanted oi (yielded ops tm) = true)
   (hy : ∀ w, KS W0 K w → ∀ K' : Act → World → Prop, (∀ w', Below w.heap.size w w' → K' (Act.put ⟨tm, df⟩ oi.dst v) w') → Oper.wp P oi ⟨tm, df⟩ w K' (fun _ _ _ => False))
   {T : Array Value} (hT : tm.setIfInBounds d v = T)
   (h : wpV P md ops Q W0 n (listed.setIfInBounds i true) ⟨T, df⟩ K) : wpV P md ops Q W0 (n + 1) listed ⟨tm, df⟩ K := by
 refine wpV_val hi hd hlt hf hw hy ?_
 rw [hd]
 subst hT
 exact h
theorem wpV_mem : ∀ (n : Nat) (listed : Array Bool) (a : Act) (K K' : List (Nat × Obj)), (∀ p, p ∈ K ↔ p ∈ K') → wpV P md ops Q W0 n listed a K → wpV P md ops Q W0 n listed a K'
 | 0, _, _, _, _, hm, h => ⟨h.1, fun w hw => h.2 w (hw.sub fun p hp => (hm p).1 hp)⟩
 | n + 1, listed, a, K, K', hm, h => by
   have hs : ∀ w, KS W0 K' w → KS W0 K w := fun w hw => hw.sub fun p hp => (hm p).1 hp
   refine ⟨fun hr w hw => h.1 hr w (hs w hw), fun i hi => ?_⟩
   obtain ⟨o, ho, hc⟩ := h.2 i hi
   refine ⟨o, ho, ?_⟩
   rcases hc with ⟨v, hy, hu⟩ | ⟨obj, mk, hal, hu⟩ | ⟨hst, K2, hs2, hu⟩ | ⟨G, hst, hg2, hu⟩
   · refine .inl ⟨v, ?_, wpV_mem n _ _ K K' hm hu⟩
     rcases hy with ⟨h1, h2⟩ | h1
     · exact .inl ⟨h1, fun w hw => h2 w (hs w hw)⟩
     · exact .inr h1
   · exact .inr (.inl ⟨obj, mk, hal, fun g hg hf => wpV_mem n _ _ ((g, obj) :: K) ((g, obj) :: K') (fun p => by rw [List.mem_cons, List.mem_cons, hm p]) (hu g hg fun p hp => hf p ((hm p).1 hp))⟩)
   · exact .inr (.inr (.inl ⟨hst, K2, ⟨hs2.1, fun w hw => hs2.2 w (hs w hw)⟩, hu⟩))
   · exact .inr (.inr (.inr ⟨G, hst.imp id (fun h => h.imp (fun h v K2 hG p hp => h v K2 hG p ((hm p).2 hp)) id), ⟨hg2.1, fun w hw => hg2.2 w (hs w hw)⟩, hu⟩))
theorem wpV_s {i : Nat} {oi : Oper} {n : Nat} {listed : Array Bool} {tm : Array Value} {df : List Deferred} {K : List (Nat × Obj)} (K' : List (Nat × Obj)) (hi : ops[i]? = some oi) (hr : Region.ready md ops listed = [i]) (hd : oi.dst = none) (hg : oi.guard = none)
   (hs : isStore oi = true) (hst : ∀ w, KS W0 K w → ∃ w', (execOp (Act.eval ⟨tm, df⟩) oi).run P w = .ok .skip w' ∧ KS W0 K' w')
   (h : wpV P md ops Q W0 n (listed.setIfInBounds i true) ⟨tm, df⟩ K') : wpV P md ops Q W0 (n + 1) listed ⟨tm, df⟩ K := by
 refine wpV_store hi hr hs (wanted_no hg) hst ?_
 rw [hd]
 exact h
theorem wpV_p {i : Nat} {oi : Oper} {v : Value} {d n : Nat} {listed : Array Bool} {tm : Array Value} {df : List Deferred} {K : List (Nat × Obj)} (hi : ops[i]? = some oi) (hd : oi.dst = some d) (hlt : Nat.blt d tm.size = true)
   (hf : freeP md ops listed i = true) (hw : Region.wanted oi (yielded ops tm) = true)
   (hy : ∀ w, (execOp (Act.eval ⟨tm, df⟩) oi).run P w = .ok (.value v) w)
   {T : Array Value} (hT : tm.setIfInBounds d v = T)
   (h : wpV P md ops Q W0 n (listed.setIfInBounds i true) ⟨T, df⟩ K) : wpV P md ops Q W0 (n + 1) listed ⟨tm, df⟩ K := by
 unfold freeP at hf
 simp only [Bool.and_eq_true] at hf
 obtain ⟨h1, h2, h3, h4⟩ := hf
 refine wpV_first (v := v) hi (Region.noSelect_spec h1) n listed _ K (closed_of h4) (Region.free_spec hi h2) (by simpa using h3)
   (.inl fun K' => .inl ⟨hw, fun w hk => Oto.of_wp hd (Nat.le_of_ble_eq_true hlt) (yb_pure (K := K') hy w hk)⟩) ?_
 rw [hd]
 subst hT
 exact h
theorem wpV_n {i : Nat} {oi : Oper} {d n : Nat} {listed : Array Bool} {tm : Array Value} {df : List Deferred} {K : List (Nat × Obj)} (hi : ops[i]? = some oi) (hd : oi.dst = some d)
   (hf : freeAll md ops listed i = true) (hw : Region.wanted oi (yielded ops tm) = false)
   {T : Array Value} (hT : tm.setIfInBounds d undef = T)
   (h : wpV P md ops Q W0 n (listed.setIfInBounds i true) ⟨T, df⟩ K) : wpV P md ops Q W0 (n + 1) listed ⟨tm, df⟩ K := by
 refine wpV_not hi hf hw ?_
 rw [hd]
 subst hT
 exact h

theorem wpV_ns {i : Nat} {oi : Oper} {d : Nat} {obi : Obj} {n : Nat} {listed : Array Bool} {tm : Array Value} {df : List Deferred} {K : List (Nat × Obj)} {T : Nat → Array Value} (mk : Nat → Value)
   (hi : ops[i]? = some oi) (hdi : oi.dst = some d) (hgi : oi.guard = none)
   (hr : Region.ready md ops listed = [i])
   (hai : ∀ w, (execOp (Act.eval ⟨tm, df⟩) oi).run P w = .ok (.value (mk w.heap.size)) (w.alloc obi))
   (hT : ∀ g, (tm.setIfInBounds d (mk g)) = T g)
   (h : ∀ g, W0.B ≤ g → (∀ p ∈ K, p.1 ≠ g) → wpV P md ops Q W0 n (listed.setIfInBounds i true) ⟨T g, df⟩ ((g, obi) :: K)) :
   wpV P md ops Q W0 (n + 1) listed ⟨tm, df⟩ K := by
 refine wpV_alloc mk hi hr (wanted_no hgi) hai (fun g hg hf => ?_)
 rw [hdi]
 simp only [Act.put]
 rw [hT g]
 exact h g hg hf
theorem wpV_c {i : Nat} {oi : Oper} {d n : Nat} {listed : Array Bool} {tm : Array Value} {df : List Deferred} {K : List (Nat × Obj)} {T : Value → Array Value} {f : FuncId} {args : Array Value} (G : Value → List (Nat × Obj) → Prop)
   (hi : ops[i]? = some oi) (hdi : oi.dst = some d) (hr : Region.ready md ops listed = [i]) (hw : Region.wanted oi (yielded ops tm) = true)
   (hf : ∀ w, (execOp (Act.eval ⟨tm, df⟩) oi).run P w = .ok (.enter f args) w)
   (hc : ∀ w, KS W0 K w → Calls P f args w fun e w' => ∃ v K', e = .returned v ∧ KS W0 K' w' ∧ G v K') (hm : ∀ v K', G v K' → ∀ p ∈ K, p ∈ K')
   (hT : ∀ v, tm.setIfInBounds d v = T v)
   (h : ∀ v K', G v K' → wpV P md ops Q W0 n (listed.setIfInBounds i true) ⟨T v, df⟩ K') : wpV P md ops Q W0 (n + 1) listed ⟨tm, df⟩ K :=
 ⟨fun h0 => (by rw [hr] at h0; cases h0), fun j hj => by
   rw [hr] at hj
   cases List.mem_singleton.1 hj
   refine ⟨oi, hi, .inr (.inr (.inr ⟨G, .inr (.inl hm), ⟨hw, fun w hK => ?_⟩, fun v K' hG => ?_⟩))⟩
   · unfold Oto
     rw [hf w]
     exact (hc w hK).mono fun e w' ⟨v, K', he, hk, hG⟩ => ⟨v, he, K', hk, hG⟩
   · rw [hdi]
     simp only [Act.put]
     rw [hT v]
     exact h v K' hG⟩
theorem wpV_cl {i : Nat} {oi : Oper} {d n : Nat} {listed : Array Bool} {tm : Array Value} {df : List Deferred} {K : List (Nat × Obj)} {T : Value → Array Value} {f : FuncId} {args : Array Value} (G : Value → List (Nat × Obj) → Prop)
   (hi : ops[i]? = some oi) (hdi : oi.dst = some d) (hr : Region.ready md ops listed = [i]) (hw : Region.wanted oi (yielded ops tm) = true)
   (hf : ∀ w, (execOp (Act.eval ⟨tm, df⟩) oi).run P w = .ok (.enter f args) w)
   (hc : ∀ w, KS W0 K w → Calls P f args w fun e w' => ∃ v K', e = .returned v ∧ KS W0 K' w' ∧ G v K') (hm : lateB md ops i = true)
   (hT : ∀ v, tm.setIfInBounds d v = T v)
   (h : ∀ v K', G v K' → wpV P md ops Q W0 n (listed.setIfInBounds i true) ⟨T v, df⟩ K') : wpV P md ops Q W0 (n + 1) listed ⟨tm, df⟩ K :=
 ⟨fun h0 => (by rw [hr] at h0; cases h0), fun j hj => by
   rw [hr] at hj
   cases List.mem_singleton.1 hj
   refine ⟨oi, hi, .inr (.inr (.inr ⟨G, .inr (.inr hm), ⟨hw, fun w hK => ?_⟩, fun v K' hG => ?_⟩))⟩
   · unfold Oto
     rw [hf w]
     exact (hc w hK).mono fun e w' ⟨v, K', he, hk, hG⟩ => ⟨v, he, K', hk, hG⟩
   · rw [hdi]
     simp only [Act.put]
     rw [hT v]
     exact h v K' hG⟩
theorem vv {i : Nat} {oi : Oper} {v : Value} {d n : Nat} {listed : Array Bool} {tm : Array Value} {df : List Deferred} {K : List (Nat × Obj)} {T : Array Value} (hi : ops[i]? = some oi) (hd : oi.dst = some d) (hw : Region.wanted oi (yielded ops tm) = true)
   (hy : ∀ w, KS W0 K w → ∀ K' : Act → World → Prop, (∀ w', Below w.heap.size w w' → K' (Act.put ⟨tm, df⟩ oi.dst v) w') → Oper.wp P oi ⟨tm, df⟩ w K' (fun _ _ _ => False))
   (h : wpV P md ops Q W0 n (listed.setIfInBounds i true) ⟨T, df⟩ K) (hlt : Nat.blt d tm.size = true := by kernel_rfl) (hf : freeAll md ops listed i = true := by kernel_rfl) (hT : tm.setIfInBounds d v = T := by simp only [List.setIfInBounds_toArray, List.set_cons_succ, List.set_cons_zero] <;> rfl) : wpV P md ops Q W0 (n + 1) listed ⟨tm, df⟩ K := wpV_v hi hd hlt hf hw hy hT h
theorem vp {i : Nat} {oi : Oper} {v : Value} {d n : Nat} {listed : Array Bool} {tm : Array Value} {df : List Deferred} {K : List (Nat × Obj)} {T : Array Value} (hi : ops[i]? = some oi) (hd : oi.dst = some d) (hw : Region.wanted oi (yielded ops tm) = true)
   (hy : ∀ w, (execOp (Act.eval ⟨tm, df⟩) oi).run P w = .ok (.value v) w)
   (h : wpV P md ops Q W0 n (listed.setIfInBounds i true) ⟨T, df⟩ K) (hlt : Nat.blt d tm.size = true := by kernel_rfl) (hf : freeP md ops listed i = true := by kernel_rfl) (hT : tm.setIfInBounds d v = T := by simp only [List.setIfInBounds_toArray, List.set_cons_succ, List.set_cons_zero] <;> rfl) : wpV P md ops Q W0 (n + 1) listed ⟨tm, df⟩ K := wpV_p hi hd hlt hf hw hy hT h
theorem vm {i : Nat} {oi : Oper} {v : Value} {d n : Nat} {listed : Array Bool} {tm : Array Value} {df : List Deferred} {K : List (Nat × Obj)} {T : Array Value} (hi : ops[i]? = some oi) (hd : oi.dst = some d) (hw : Region.wanted oi (yielded ops tm) = true)
   (h : wpV P md ops Q W0 n (listed.setIfInBounds i true) ⟨T, df⟩ K) (hy : ∀ w, (execOp (Act.eval ⟨tm, df⟩) oi).run P w = .ok (.value v) w := by intro _; kernel_rfl) (hlt : Nat.blt d tm.size = true := by kernel_rfl) (hf : freeP md ops listed i = true := by kernel_rfl) (hT : tm.setIfInBounds d v = T := by simp only [List.setIfInBounds_toArray, List.set_cons_succ, List.set_cons_zero] <;> rfl) : wpV P md ops Q W0 (n + 1) listed ⟨tm, df⟩ K := wpV_p hi hd hlt hf hw hy hT h
theorem vn {i : Nat} {oi : Oper} {d n : Nat} {listed : Array Bool} {tm : Array Value} {df : List Deferred} {K : List (Nat × Obj)} {T : Array Value} (hi : ops[i]? = some oi) (hd : oi.dst = some d)
   (h : wpV P md ops Q W0 n (listed.setIfInBounds i true) ⟨T, df⟩ K) (hf : freeAll md ops listed i = true := by kernel_rfl) (hw : Region.wanted oi (yielded ops tm) = false := by kernel_rfl) (hT : tm.setIfInBounds d undef = T := by simp only [List.setIfInBounds_toArray, List.set_cons_succ, List.set_cons_zero] <;> rfl) : wpV P md ops Q W0 (n + 1) listed ⟨tm, df⟩ K := wpV_n hi hd hf hw hT h
end
end Tw
/- The law of regions over known blocks for statements that do not draw their order. Nothing of the program. -/
namespace Tw
open Go Go.RowKit Go.Proofs.Ytnbfljcilojllaa
section
variable {P : Program} {ops : Array Oper} {Q : Exit → Act → World → Prop} {W0 : Base}
structure wpL (P : Program) (ops : Array Oper) (Q : Exit → Act → World → Prop) (W0 : Base) (rest : List Oper) (a : Act) (K : List (Nat × Obj)) : Prop where
 of : ∀ w, KS W0 K w → wpList P ops Q rest a w
theorem wp_region_L {id : Nat} {l : List Oper} {a : Act} {w : World} (K : List (Nat × Obj)) (hK : KS W0 K w) (h : wpL P l.toArray Q W0 l a K) : (Code.region id l.toArray false).wp P Q a w :=
 wp_region_lit (h.of w hK)
theorem wpL_v {rest : List Oper} {oi : Oper} {v : Value} {d : Nat} {tm : Array Value} {df : List Deferred} {K : List (Nat × Obj)} (hd : oi.dst = some d) (hlt : Nat.blt d tm.size = true) (hw : Region.wanted oi (yielded ops tm) = true)
   (hy : ∀ w, KS W0 K w → ∀ K' : Act → World → Prop, (∀ w', Below w.heap.size w w' → K' (Act.put ⟨tm, df⟩ oi.dst v) w') → Oper.wp P oi ⟨tm, df⟩ w K' (fun _ _ _ => False))
   {T : Array Value} (hT : tm.setIfInBounds d v = T) (h : wpL P ops Q W0 rest ⟨T, df⟩ K) : wpL P ops Q W0 (oi :: rest) ⟨tm, df⟩ K := by
 refine ⟨fun w hK => ?_⟩
 refine wpList_step fun K' hK' => ?_
 rw [if_pos hw]
 exact (Oto.of_wp (a := ⟨tm, df⟩) hd (Nat.le_of_ble_eq_true hlt) (hy w hK)).wp fun u w' ⟨hu, hb⟩ => by
   subst hu
   refine hK' _ _ ?_
   rw [hd]
   subst hT
   exact h.of w' (hK.below hb)
theorem wpL_p {rest : List Oper} {oi : Oper} {v : Value} {d : Nat} {tm : Array Value} {df : List Deferred} {K : List (Nat × Obj)} (hd : oi.dst = some d) (hlt : Nat.blt d tm.size = true) (hw : Region.wanted oi (yielded ops tm) = true)
   (hy : ∀ w, (execOp (Act.eval ⟨tm, df⟩) oi).run P w = .ok (.value v) w)
   {T : Array Value} (hT : tm.setIfInBounds d v = T) (h : wpL P ops Q W0 rest ⟨T, df⟩ K) : wpL P ops Q W0 (oi :: rest) ⟨tm, df⟩ K :=
 wpL_v hd hlt hw (yb_pure hy) hT h
theorem wpL_n {rest : List Oper} {oi : Oper} {d : Nat} {tm : Array Value} {df : List Deferred} {K : List (Nat × Obj)} (hd : oi.dst = some d) (hw : Region.wanted oi (yielded ops tm) = false)
   {T : Array Value} (hT : tm.setIfInBounds d undef = T) (h : wpL P ops Q W0 rest ⟨T, df⟩ K) : wpL P ops Q W0 (oi :: rest) ⟨tm, df⟩ K := by
 refine ⟨fun w hK => ?_⟩
 refine wpList_step fun K' hK' => ?_
 rw [if_neg (by rw [hw]; decide)]
 refine hK' _ _ ?_
 rw [hd]
 subst hT
 exact h.of w hK
theorem wpL_new {rest : List Oper} {oi : Oper} {d : Nat} {obi : Obj} {tm : Array Value} {df : List Deferred} {K : List (Nat × Obj)} {T : Nat → Array Value} (mk : Nat → Value)
   (hdi : oi.dst = some d) (hgi : oi.guard = none)
   (hai : ∀ w, (execOp (Act.eval ⟨tm, df⟩) oi).run P w = .ok (.value (mk w.heap.size)) (w.alloc obi))
   (hT : ∀ g, (tm.setIfInBounds d (mk g)) = T g)
   (h : ∀ g, W0.B ≤ g → (∀ p ∈ K, p.1 ≠ g) → wpL P ops Q W0 rest ⟨T g, df⟩ ((g, obi) :: K)) : wpL P ops Q W0 (oi :: rest) ⟨tm, df⟩ K := by
 refine ⟨fun w hK => ?_⟩
 refine wpList_step fun K' hK' => ?_
 rw [if_pos (wanted_no hgi)]
 unfold Oper.wp
 rw [hai w]
 refine hK' _ _ ?_
 rw [hdi]
 simp only [Act.put]
 rw [hT w.heap.size]
 exact (h w.heap.size hK.size (fun p hp => by have := lt_of_block (hK.2 p hp); omega)).of _ (hK.alloc obi)
theorem wpL_s {rest : List Oper} {oi : Oper} {tm : Array Value} {df : List Deferred} {K : List (Nat × Obj)} (K' : List (Nat × Obj)) (hd : oi.dst = none) (hg : oi.guard = none)
   (hst : ∀ w, KS W0 K w → ∃ w', (execOp (Act.eval ⟨tm, df⟩) oi).run P w = .ok .skip w' ∧ KS W0 K' w')
   (h : wpL P ops Q W0 rest ⟨tm, df⟩ K') : wpL P ops Q W0 (oi :: rest) ⟨tm, df⟩ K := by
 refine ⟨fun w hK => ?_⟩
 obtain ⟨w', hrun, hw'⟩ := hst w hK
 refine wpList_step fun K2 hK2 => ?_
 rw [if_pos (wanted_no hg)]
 unfold Oper.wp
 rw [hrun]
 refine hK2 _ _ ?_
 rw [hd]
 exact h.of w' hw'
theorem wpL_done {a : Act} {K : List (Nat × Obj)} (h : ∀ w, KS W0 K w → Q .normal a w) : wpL P ops Q W0 [] a K := ⟨fun w hK => wpList_nil (h w hK)⟩
theorem wpL_c {rest : List Oper} {oi : Oper} {d : Nat} {tm : Array Value} {df : List Deferred} {K : List (Nat × Obj)} {T : Value → Array Value} {f : FuncId} {args : Array Value} (G : Value → List (Nat × Obj) → Prop)
   (hdi : oi.dst = some d) (hw : Region.wanted oi (yielded ops tm) = true)
   (hf : ∀ w, (execOp (Act.eval ⟨tm, df⟩) oi).run P w = .ok (.enter f args) w)
   (hc : ∀ w, KS W0 K w → Calls P f args w fun e w' => ∃ v K', e = .returned v ∧ KS W0 K' w' ∧ G v K')
   (hT : ∀ v, tm.setIfInBounds d v = T v)
   (h : ∀ v K', G v K' → wpL P ops Q W0 rest ⟨T v, df⟩ K') : wpL P ops Q W0 (oi :: rest) ⟨tm, df⟩ K := by
 refine ⟨fun w hK => ?_⟩
 refine wpList_step fun K2 hK2 => ?_
 rw [if_pos hw]
 unfold Oper.wp
 rw [hf w]
 refine (hc w hK).mono fun e w' ⟨v, K', he, hk, hG⟩ => ?_
 subst he
 refine hK2 _ _ ?_
 rw [hdi]
 simp only [Act.put]
 rw [hT v]
 exact (h v K' hG).of w' hk
theorem lv {rest : List Oper} {oi : Oper} {v : Value} {d : Nat} {tm : Array Value} {df : List Deferred} {K : List (Nat × Obj)} {T : Array Value} (hd : oi.dst = some d) (hw : Region.wanted oi (yielded ops tm) = true)
   (hy : ∀ w, KS W0 K w → ∀ K' : Act → World → Prop, (∀ w', Below w.heap.size w w' → K' (Act.put ⟨tm, df⟩ oi.dst v) w') → Oper.wp P oi ⟨tm, df⟩ w K' (fun _ _ _ => False))
   (h : wpL P ops Q W0 rest ⟨T, df⟩ K) (hlt : Nat.blt d tm.size = true := by kernel_rfl) (hT : tm.setIfInBounds d v = T := by simp only [List.setIfInBounds_toArray, List.set_cons_succ, List.set_cons_zero] <;> rfl) : wpL P ops Q W0 (oi :: rest) ⟨tm, df⟩ K := wpL_v hd hlt hw hy hT h
theorem lp {rest : List Oper} {oi : Oper} {v : Value} {d : Nat} {tm : Array Value} {df : List Deferred} {K : List (Nat × Obj)} {T : Array Value} (hd : oi.dst = some d) (hw : Region.wanted oi (yielded ops tm) = true)
   (hy : ∀ w, (execOp (Act.eval ⟨tm, df⟩) oi).run P w = .ok (.value v) w)
   (h : wpL P ops Q W0 rest ⟨T, df⟩ K) (hlt : Nat.blt d tm.size = true := by kernel_rfl) (hT : tm.setIfInBounds d v = T := by simp only [List.setIfInBounds_toArray, List.set_cons_succ, List.set_cons_zero] <;> rfl) : wpL P ops Q W0 (oi :: rest) ⟨tm, df⟩ K := wpL_p hd hlt hw hy hT h
theorem lm {rest : List Oper} {oi : Oper} {v : Value} {d : Nat} {tm : Array Value} {df : List Deferred} {K : List (Nat × Obj)} {T : Array Value} (hd : oi.dst = some d) (hw : Region.wanted oi (yielded ops tm) = true)
   (h : wpL P ops Q W0 rest ⟨T, df⟩ K) (hy : ∀ w, (execOp (Act.eval ⟨tm, df⟩) oi).run P w = .ok (.value v) w := by intro _; kernel_rfl) (hlt : Nat.blt d tm.size = true := by kernel_rfl) (hT : tm.setIfInBounds d v = T := by simp only [List.setIfInBounds_toArray, List.set_cons_succ, List.set_cons_zero] <;> rfl) : wpL P ops Q W0 (oi :: rest) ⟨tm, df⟩ K := wpL_p hd hlt hw hy hT h
theorem ln {rest : List Oper} {oi : Oper} {d : Nat} {tm : Array Value} {df : List Deferred} {K : List (Nat × Obj)} {T : Array Value} (hd : oi.dst = some d)
   (h : wpL P ops Q W0 rest ⟨T, df⟩ K) (hw : Region.wanted oi (yielded ops tm) = false := by kernel_rfl) (hT : tm.setIfInBounds d undef = T := by simp only [List.setIfInBounds_toArray, List.set_cons_succ, List.set_cons_zero] <;> rfl) : wpL P ops Q W0 (oi :: rest) ⟨tm, df⟩ K := wpL_n hd hw hT h
theorem mm {rest : List Oper} {oi : Oper} {d : Nat} {tm : Array Value} {df : List Deferred} {K : List (Nat × Obj)} {T : Array Value} (v : Value) (h : wpL P ops Q W0 rest ⟨T, df⟩ K) (hd : oi.dst = some d := by exact rfl) (hw : Region.wanted oi (yielded ops tm) = true := by exact rfl) (hy : ∀ w, (execOp (Act.eval ⟨tm, df⟩) oi).run P w = .ok (.value v) w := by intro _; kernel_rfl) (hlt : Nat.blt d tm.size = true := by kernel_rfl) (hT : tm.setIfInBounds d v = T := by simp only [List.setIfInBounds_toArray, List.set_cons_succ, List.set_cons_zero] <;> rfl) : wpL P ops Q W0 (oi :: rest) ⟨tm, df⟩ K := lm hd hw h hy hlt hT
end
end Tw
/- Numbers of all kinds, strings, cells of known blocks: steps over any program. -/
namespace Tw
open Go Go.RowKit Go.Proofs.Ytnbfljcilojllaa
section
variable {P : Program} {W0 : Base} {T : TypeId} {px py : Operand}

theorem wr_i64 {z : Nat} (h : z ≤ 9223372036854775807) : IntKind.i64.wrap (z : Int) = (z : Int) := by
 unfold IntKind.wrap; simp [IntKind.bits, IntKind.signed]; omega
theorem wi_i64 {z : Int} (h : -9223372036854775808 ≤ z ∧ z ≤ 9223372036854775807) : IntKind.i64.wrap z = z := by
 unfold IntKind.wrap; simp [IntKind.bits, IntKind.signed]; omega
theorem wr_u32 {z : Nat} (h : z ≤ 4294967295) : IntKind.u32.wrap (z : Int) = (z : Int) := by
 unfold IntKind.wrap; simp [IntKind.bits, IntKind.signed]; omega
theorem wr_u64 {z : Nat} (h : z ≤ 18446744073709551615) : IntKind.u64.wrap (z : Int) = (z : Int) := by
 unfold IntKind.wrap; simp [IntKind.bits, IntKind.signed]; omega
theorem bn_add {k : IntKind} {x y z : Nat} (h : x + y = z) (hw : k.wrap (z : Int) = (z : Int)) (w : World) : (do eqGuard .add T px py (.int k (x : Int)) (.int k (y : Int)); binOp .add T (.int k (x : Int)) (.int k (y : Int)) : Sem Value).run P w = .ok (.int k (z : Int)) w := by
 have e := (show (x : Int) + (y : Int) = (z : Int) by omega)
 simp [eqGuard, binOp, Op.intArith, e, hw]
theorem bw_add {k : IntKind} {x y z : Int} (h : k.wrap (x + y) = z) (w : World) : (do eqGuard .add T px py (.int k x) (.int k y); binOp .add T (.int k x) (.int k y) : Sem Value).run P w = .ok (.int k z) w := by
 simp [eqGuard, binOp, Op.intArith, h]
theorem bn_sub {k : IntKind} {x y z : Nat} (h : x - y = z) (hle : y ≤ x) (hw : k.wrap (z : Int) = (z : Int)) (w : World) : (do eqGuard .sub T px py (.int k (x : Int)) (.int k (y : Int)); binOp .sub T (.int k (x : Int)) (.int k (y : Int)) : Sem Value).run P w = .ok (.int k (z : Int)) w := by
 have e := (show (x : Int) - (y : Int) = (z : Int) by omega)
 simp [eqGuard, binOp, Op.intArith, e, hw]
theorem bi_sub {k : IntKind} {x y z : Int} (h : x - y = z) (hw : k.wrap z = z) (w : World) : (do eqGuard .sub T px py (.int k x) (.int k y); binOp .sub T (.int k x) (.int k y) : Sem Value).run P w = .ok (.int k z) w := by
 simp [eqGuard, binOp, Op.intArith, h, hw]
theorem bw_sub {k : IntKind} {x y z : Int} (h : k.wrap (x - y) = z) (w : World) : (do eqGuard .sub T px py (.int k x) (.int k y); binOp .sub T (.int k x) (.int k y) : Sem Value).run P w = .ok (.int k z) w := by
 simp [eqGuard, binOp, Op.intArith, h]
theorem bn_mul {k : IntKind} {x y z : Nat} (h : x * y = z) (hw : k.wrap (z : Int) = (z : Int)) (w : World) : (do eqGuard .mul T px py (.int k (x : Int)) (.int k (y : Int)); binOp .mul T (.int k (x : Int)) (.int k (y : Int)) : Sem Value).run P w = .ok (.int k (z : Int)) w := by
 have e := (show (x : Int) * (y : Int) = (z : Int) by rw [← h]; simp)
 simp [eqGuard, binOp, Op.intArith, e, hw]
theorem bn_rem {k : IntKind} {x y z : Nat} (h : x % y = z) (hy : 0 < y) (w : World) : (do eqGuard .rem T px py (.int k (x : Int)) (.int k (y : Int)); binOp .rem T (.int k (x : Int)) (.int k (y : Int)) : Sem Value).run P w = .ok (.int k (z : Int)) w := by
 have e : Int.tmod (x : Int) (y : Int) = (z : Int) := by rw [← h]; exact (Int.tmod_eq_emod_of_nonneg Tw.om).trans (by simp)
 have hy0 : ¬ y = 0 := by omega
 simp [eqGuard, binOp, Op.intDiv, e, hy0]
theorem bn_lss {k : IntKind} {x y : Nat} {b : Bool} (h : decide (x < y) = b) (w : World) : (do eqGuard .lss T px py (.int k (x : Int)) (.int k (y : Int)); binOp .lss T (.int k (x : Int)) (.int k (y : Int)) : Sem Value).run P w = .ok (.bool b) w := by
 subst h
 simp [eqGuard, binOp, Op.intCmp]
theorem bi_lss {k : IntKind} {x y : Int} {b : Bool} (h : decide (x < y) = b) (w : World) : (do eqGuard .lss T px py (.int k x) (.int k y); binOp .lss T (.int k x) (.int k y) : Sem Value).run P w = .ok (.bool b) w := by
 subst h
 simp [eqGuard, binOp, Op.intCmp]
theorem bn_gtr {k : IntKind} {x y : Nat} {b : Bool} (h : decide (y < x) = b) (w : World) : (do eqGuard .gtr T px py (.int k (x : Int)) (.int k (y : Int)); binOp .gtr T (.int k (x : Int)) (.int k (y : Int)) : Sem Value).run P w = .ok (.bool b) w := by
 subst h
 simp [eqGuard, binOp, Op.intCmp]
theorem bi_gtr {k : IntKind} {x y : Int} {b : Bool} (h : decide (y < x) = b) (w : World) : (do eqGuard .gtr T px py (.int k x) (.int k y); binOp .gtr T (.int k x) (.int k y) : Sem Value).run P w = .ok (.bool b) w := by
 subst h
 simp [eqGuard, binOp, Op.intCmp]
theorem bi_leq {k : IntKind} {x y : Int} {b : Bool} (h : decide (y < x) = b) (w : World) : (do eqGuard .leq T px py (.int k x) (.int k y); binOp .leq T (.int k x) (.int k y) : Sem Value).run P w = .ok (.bool (!b)) w := by
 subst h
 simp only [eqGuard, binOp, Op.intCmp]
 simp [← Int.not_le, ← Nat.not_le]
theorem bi_geq {k : IntKind} {x y : Int} {b : Bool} (h : decide (x < y) = b) (w : World) : (do eqGuard .geq T px py (.int k x) (.int k y); binOp .geq T (.int k x) (.int k y) : Sem Value).run P w = .ok (.bool (!b)) w := by
 subst h
 simp only [eqGuard, binOp, Op.intCmp]
 simp [← Int.not_le, ← Nat.not_le]
theorem bn_eql {k : IntKind} {x y : Nat} {b : Bool} (h : decide (x = y) = b) (w : World) : (do eqGuard .eql T px py (.int k (x : Int)) (.int k (y : Int)); binOp .eql T (.int k (x : Int)) (.int k (y : Int)) : Sem Value).run P w = .ok (.bool b) w := by
 subst h
 have e : ((x : Int) == (y : Int)) = decide (x = y) := by rw [Bool.eq_iff_iff]; simp; omega
 simp [eqGuard, binOp, Op.intCmp, e]
theorem bi_eql {k : IntKind} {x y : Int} {b : Bool} (h : decide (x = y) = b) (w : World) : (do eqGuard .eql T px py (.int k x) (.int k y); binOp .eql T (.int k x) (.int k y) : Sem Value).run P w = .ok (.bool b) w := by
 subst h
 have e : (x == y) = decide (x = y) := by rw [Bool.eq_iff_iff]; simp
 simp [eqGuard, binOp, Op.intCmp, e]
theorem bn_neq {k : IntKind} {x y : Nat} {b : Bool} (h : decide (x = y) = b) (w : World) : (do eqGuard .neq T px py (.int k (x : Int)) (.int k (y : Int)); binOp .neq T (.int k (x : Int)) (.int k (y : Int)) : Sem Value).run P w = .ok (.bool (!b)) w := by
 subst h
 have e : ((x : Int) == (y : Int)) = decide (x = y) := by rw [Bool.eq_iff_iff]; simp; omega
 simp [eqGuard, binOp, Op.intCmp, bne, e]
theorem bi_neq {k : IntKind} {x y : Int} {b : Bool} (h : decide (x = y) = b) (w : World) : (do eqGuard .neq T px py (.int k x) (.int k y); binOp .neq T (.int k x) (.int k y) : Sem Value).run P w = .ok (.bool (!b)) w := by
 subst h
 have e : (x == y) = decide (x = y) := by rw [Bool.eq_iff_iff]; simp
 simp [eqGuard, binOp, Op.intCmp, bne, e]
theorem bn_shl {k k' : IntKind} {x y z : Nat} (h : x * 2 ^ y = z) (hy : y ≤ k.bits) (hw : k.wrap (z : Int) = (z : Int)) (w : World) : (do eqGuard .shl T px py (.int k (x : Int)) (.int k' (y : Int)); binOp .shl T (.int k (x : Int)) (.int k' (y : Int)) : Sem Value).run P w = .ok (.int k (z : Int)) w := by
 have hm : min y k.bits = y := by omega
 have hn : ¬ ((y : Int) < 0) := by omega
 have e : (x : Int) * 2 ^ y = (z : Int) := by rw [← h]; simp
 simp [eqGuard, binOp, Op.shift, hn, hm, e, hw]
theorem bn_shr {k k' : IntKind} {x y z : Nat} (h : x / 2 ^ y = z) (hy : y ≤ k.bits) (w : World) : (do eqGuard .shr T px py (.int k (x : Int)) (.int k' (y : Int)); binOp .shr T (.int k (x : Int)) (.int k' (y : Int)) : Sem Value).run P w = .ok (.int k (z : Int)) w := by
 have hm : min y k.bits = y := by omega
 have hn : ¬ ((y : Int) < 0) := by omega
 have e : (x : Int).fdiv (2 ^ y) = (z : Int) := by rw [← h, Int.fdiv_eq_ediv_of_nonneg _ (by exact Int.le_of_lt (Int.pow_pos Tw.om))]; simp
 simp [eqGuard, binOp, Op.shift, hn, hm, e]
theorem bn_bool_eql {x y b : Bool} (h : (x == y) = b) (hT : P.underlying T = some .bool) (w : World) : (do eqGuard .eql T px py (.bool x) (.bool y); binOp .eql T (.bool x) (.bool y) : Sem Value).run P w = .ok (.bool b) w := by
 subst h
 simp [eqGuard, run_eql_bool w T x y hT]
theorem run_un {o : Oper} {a : Act} {v vx : Value} {op : UnOp} {xT : TypeId} {x : Operand}
   (ho : o.op = .unOp op xT x) (hx : a.eval x = vx)
   (h : ∀ w, (Op.unary op vx : Sem Value).run P w = .ok v w) : ∀ w, (execOp a.eval o).run P w = .ok (.value v) w := by
 intro w
 have h0 := h w
 unfold execOp
 rw [ho]
 simp only [hx]
 rw [Sem.run_bind, h0]
 rfl
theorem un_not {b : Bool} (w : World) : (Op.unary .not (.bool b) : Sem Value).run P w = .ok (.bool (!b)) w := by
 simp [Op.unary]
theorem run_conv {o : Oper} {a : Act} {v vx : Value} {sT dT : TypeId} {x : Operand}
   (ho : o.op = .convert sT dT x) (hx : a.eval x = vx)
   (h : ∀ w, (convert sT dT vx : Sem Value).run P w = .ok v w) : ∀ w, (execOp a.eval o).run P w = .ok (.value v) w := by
 intro w
 have h0 := h w
 unfold execOp
 rw [ho]
 simp only [hx]
 rw [Sem.run_bind, h0]
 rfl
theorem cv_int {s d : TypeId} {k j : IntKind} {ds : TypeDesc} {n z : Int} (hs : P.underlying s = some ds) (hd : P.underlying d = some (.int k)) (h : k.wrap n = z) (w : World) : (convert s d (.int j n) : Sem Value).run P w = .ok (.int k z) w := by
 subst h
 simp [convert, run_underlying hs, run_underlying hd, Conv.intToInt]

def strV (l : List UInt8) : Value := .string ⟨l.toArray⟩
theorem run_lenL {o : Oper} {a : Act} {p : Option Addr} {n cap : Nat} {x : Operand} {E : TypeId} (ho : o.op = .call { callee := .builtin .len, args := #[x], argTypes := #[T] }) (hT : P.underlying T = some (.slice E)) (hx : a.eval x = .slice p n cap) (w : World) : (execOp a.eval o).run P w = .ok (.value (.int .i64 ((n : Nat) : Int))) w := by
 unfold execOp
 rw [ho]
 simp [resolve, invoke, builtin, Builtin.len_, hx, goInt, run_underlying hT]
theorem sl_bound {k : IntKind} {i y : Nat} {c : BoundsCode} (h : i ≤ y) (w : World) : (Instr.sliceBound (.int k ((i : Nat) : Int)) y c).run P w = .ok i w := by
 have h2 : (i : Int) ≤ (y : Int) := by omega
 simp [Instr.sliceBound, asIntOf, h2]
theorem addr_add (b off j : Nat) : (⟨b, off, none⟩ : Addr).add j = ⟨b, off + j, none⟩ := by unfold Addr.add; split <;> simp_all
theorem run_idxL {o : Oper} {a : Act} {b off n cap k sz : Nat} {x y : Operand} {E : TypeId} {j : IntKind} (ho : o.op = .indexAddr T x y) (hT : P.underlying T = some (.slice E)) (hsz : (P.info? E).map (·.size) = some sz) (hx : a.eval x = .slice (some ⟨b, off, none⟩) n cap) (hy : a.eval y = .int j ((k : Nat) : Int)) (hk : k < n) (w : World) : (execOp a.eval o).run P w = .ok (.value (.pointer (some ⟨b, off + k * sz, none⟩))) w := by
 unfold execOp
 rw [ho]
 have h1 : (k : Int) < (n : Int) := by omega
 cases hq : P.info? E with
 | none => simp [hq] at hsz
 | some i =>
   have hs : i.size = sz := by simpa [hq] using hsz
   simp [Instr.indexAt, asIntOf, hx, hy, run_underlying hT, h1, Go.sizeOf, typeInfo, hq, hs, addr_add]
   intro; omega
theorem yb_cell {o : Oper} {a : Act} {K : List (Nat × Obj)} {ty t : TypeId} {x : Operand} {g off : Nat} {cs : Array Value} {fr : Nat × Nat} {v : Value} {d : TypeDesc} (ho : o.op = .load ty x) (hx : a.eval x = .pointer (some ⟨g, off, none⟩))
   (hm : (g, .cells cs t fr) ∈ K) (hu : P.underlying ty = some d) (hd : aggD d = false) (hv : cs[off]? = some v) :
   ∀ w, KS W0 K w → ∀ K' : Act → World → Prop, (∀ w', Below w.heap.size w w' → K' (a.put o.dst v) w') → Oper.wp P o a w K' (fun _ _ _ => False) := by
 intro w hw K' hk
 have hc : w.cell? ⟨g, off, none⟩ = some v := by rw [cell_of_row w g off cs t fr (hw.2 _ hm)]; exact hv
 have hagg : (isAgg ty).run P w = .ok false w := by
   unfold isAgg
   rw [Sem.run_bind, run_underlying hu w]
   unfold aggD at hd
   cases d <;> simp_all
 have hr : (loadVar ty ⟨g, off, none⟩).run P w = .ok v w := by
   simp [loadVar, Sem.run_bind, hagg, hc]
 unfold Oper.wp execOp
 simp only [ho, hx, Instr.loadAt, Instr.sureAddr, Sem.run_bind, Sem.run_pure, Result.andThen_ok, hr]
 exact hk w (Below.refl _ _)
theorem run_loadVar_list {g off : Nat} {cs : List Value} {ty : TypeId} {d : TypeDesc} (w : World) (hc : ∀ (j : Nat) (v : Value), cs[j]? = some v → w.cell? ⟨g, off + j, none⟩ = some v)
   (hu : P.underlying ty = some d) (hd : aggD d = true) (hi : (P.info? ty).map (·.size) = some cs.length) : (loadVar ty ⟨g, off, none⟩).run P w = .ok (.agg cs.toArray) w := by
 have hl : (loadCells ⟨g, off, none⟩ cs.length).run P w = .ok cs.toArray w :=
   run_loadCells_list (P := P) w ⟨g, off, none⟩ _ (fun j v hv => by rw [addr_add]; exact hc j v hv)
 cases hq : P.info? ty with
 | none => simp [hq] at hi
 | some i =>
   have hs : i.size = cs.length := by simpa [hq] using hi
   have hagg : (isAgg ty).run P w = .ok true w := by
     unfold isAgg
     rw [Sem.run_bind, run_underlying hu w]
     unfold aggD at hd
     cases d <;> simp_all
   simp [loadVar, Sem.run_bind, hagg, Go.sizeOf, typeInfo, hq, hs, hl]
theorem yb_cells {o : Oper} {a : Act} {K : List (Nat × Obj)} {ty t : TypeId} {x : Operand} {g off : Nat} {cur : Array Value} {fr : Nat × Nat} {cs : List Value} {d : TypeDesc} (ho : o.op = .load ty x) (hx : a.eval x = .pointer (some ⟨g, off, none⟩))
   (hm : (g, .cells cur t fr) ∈ K) (hc0 : ∀ (j : Nat) (v : Value), cs[j]? = some v → cur[off + j]? = some v) (hu : P.underlying ty = some d) (hd : aggD d = true) (hi : (P.info? ty).map (·.size) = some cs.length) :
   ∀ w, KS W0 K w → ∀ K' : Act → World → Prop, (∀ w', Below w.heap.size w w' → K' (a.put o.dst (.agg cs.toArray)) w') → Oper.wp P o a w K' (fun _ _ _ => False) := by
 intro w hw K' hk
 have hr := run_loadVar_list (P := P) (ty := ty) w (fun j v hj => by rw [cell_of_row w g (off + j) cur t fr (hw.2 _ hm)]; exact hc0 j v hj) hu hd hi
 unfold Oper.wp execOp
 simp only [ho, hx, Instr.loadAt, Instr.sureAddr, Sem.run_bind, Sem.run_pure, Result.andThen_ok, hr]
 exact hk w (Below.refl _ _)
end
end Tw
/- Lists that a function makes by append, bytes of strings, lists that were there: steps over any program. -/
namespace Tw
open Go Go.RowKit Go.Proofs.Ytnbfljcilojllaa
section
variable {P : Program} {W0 : Base} {T E : TypeId}
theorem inBlock_ret (id : Nat) (Q : Exit → Act → World → Prop) (a : Act) (w : World) : Exit.inBlock id Q .ret a w = Q .ret a w := rfl
theorem then_ret (f : Act → World → Prop) (Q : Exit → Act → World → Prop) (a : Act) (w : World) : Exit.then f Q .ret a w = Q .ret a w := rfl
def RowN (sz : Nat) (cur : Array Value) (cap n : Nat) (xs : List Value) : Prop := cur.size = cap * sz ∧ cap ≤ maxLen ∧ n ≤ cap ∧ xs.length = n * sz ∧ cur.toList.take (n * sz) = xs
def OwnL (W0 : Base) (E : TypeId) (sz : Nat) (v : Value) (n : Nat) (xs : List Value) (K : List (Nat × Obj)) : Prop :=
 (n = 0 ∧ xs = [] ∧ v = .slice none 0 0 ∧ K = []) ∨ ∃ g cap cur, v = .slice (some ⟨g, 0, none⟩) n cap ∧ W0.B ≤ g ∧ RowN sz cur cap n xs ∧ K = [(g, .cells cur E (0, 0))]
theorem OwnL.nil (W0 : Base) (E : TypeId) (sz : Nat) : OwnL W0 E sz (.slice none 0 0) 0 [] [] := .inl ⟨rfl, rfl, rfl, rfl⟩
structure Elem (P : Program) (T E : TypeId) (sz bts : Nat) (z : Value) : Prop where
 und : P.underlying T = some (.slice E)
 info : ∃ i, P.info? E = some i ∧ i.zero = some z ∧ i.size = sz ∧ i.bytes = bts
 zsz : z.cells.size = sz
theorem Elem.mk' {sz bts : Nat} {z : Value} (h1 : P.underlying T = some (.slice E)) (h2 : (P.info? E).map (fun i => (i.zero, i.size, i.bytes)) = some (some z, sz, bts)) (h3 : z.cells.size = sz) : Elem P T E sz bts z := by
 refine ⟨h1, ?_, h3⟩
 cases hi : P.info? E with
 | none => rw [hi] at h2; cases h2
 | some i =>
   rw [hi] at h2
   simp only [Option.map_some, Option.some.injEq, Prod.mk.injEq] at h2
   exact ⟨i, rfl, h2.1, h2.2.1, h2.2.2⟩
def AppO (W0 : Base) (E : TypeId) (sz : Nat) (K0 : List (Nat × Obj)) (n : Nat) (ys : List Value) (v : Value) (K' : List (Nat × Obj)) : Prop :=
 ∃ Kl, OwnL W0 E sz v n ys Kl ∧ (∀ p ∈ K0, ∀ q ∈ Kl, q.1 ≠ p.1) ∧ K' = K0 ++ Kl
theorem blk_cells {w : World} {h : Nat} {news : List Value} {t : TypeId} {fr : Nat × Nat} (hh : w.heap[h]? = some (.cells news.toArray t fr)) : ∀ (j : Nat) (u : Value), news[j]? = some u → w.cell? ((⟨h, 0, none⟩ : Addr).add j) = some u := by
 intro j u hu
 rw [addr_add, Nat.zero_add, cell_of_row w h j news.toArray _ fr hh]
 simpa using hu
theorem rown_new {sz n m cap : Nat} {olds news : List Value} (z : Array Value) (hz : z.size = sz) (ho : olds.length = n * sz) (hn : news.length = m * sz) (hc : n + m ≤ cap) (hm : cap ≤ maxLen) : RowN sz (olds.toArray ++ news.toArray ++ Builtin.zeroCells z (cap - (n + m))) cap (n + m) (olds ++ news) := by
 refine ⟨?_, hm, hc, by simp [ho, hn, Nat.add_mul], ?_⟩
 · simp only [Array.size_append, List.size_toArray, size_zeroCells, hz, ho, hn]
   rw [← Nat.add_mul, ← Nat.add_mul]
   congr 1
   omega
 · simp only [Array.toList_append, List.append_assoc]
   rw [← List.append_assoc, show (n + m) * sz = (olds ++ news).length from by simp [ho, hn, Nat.add_mul]]
   exact List.take_left
theorem appo_end {w : World} {K K0 : List (Nat × Obj)} (hw : KS W0 K w) (hsub : ∀ p ∈ K0, p ∈ K) {sz : Nat} {cur : Array Value} {cap n : Nat} {ys : List Value} (hR : RowN sz cur cap n ys) :
   KS W0 (K0 ++ [(w.heap.size, .cells cur E (0, 0))]) (w.drew.alloc (.cells cur E)) ∧ AppO W0 E sz K0 n ys (.slice (some ⟨w.heap.size, 0, none⟩) n cap) (K0 ++ [(w.heap.size, .cells cur E (0, 0))]) := by
 have hd : KS W0 K0 w.drew := ⟨hw.drew.1, fun p hp => hw.2 p (hsub p hp)⟩
 refine ⟨(hd.alloc (.cells cur E)).sub (fun p hp => ?_), _, .inr ⟨_, _, _, rfl, hw.size, hR, rfl⟩, fun p hp q hq e => ?_, rfl⟩
 · rcases List.mem_append.1 hp with h | h
   · exact .tail _ h
   · cases List.mem_singleton.1 h; exact .head _
 · cases List.mem_singleton.1 hq
   have := lt_of_block (hw.2 p (hsub p hp))
   have e' : w.heap.size = p.1 := e
   omega
theorem run_appv {o : Oper} {a : Act} {s x : Operand} {u v y : Value} {w w' : World} (ho : o.op = .call { callee := .builtin .append, args := #[s, x], argTypes := #[T, T] })
   (hs : a.eval s = u) (hx : a.eval x = y) (hr : (Builtin.append_ #[T, T] o.type #[u, y]).run P w = .ok v w') : (execOp a.eval o).run P w = .ok (.value v) w' := by
 unfold execOp
 simp only [ho, resolve, invoke, builtin, Sem.run_bind, Sem.run_pure, Result.andThen_ok, List.map_toArray, List.map_cons, List.map_nil, hs, hx, hr]
theorem app_own {o : Oper} {a : Act} {K K0 Kl : List (Nat × Obj)} {s x : Operand} {h m c n sz bts : Nat} {z v : Value} {fr : Nat × Nat} {news xs : List Value} (hE : Elem P T E sz bts z)
   (ho : o.op = .call { callee := .builtin .append, args := #[s, x], argTypes := #[T, T] }) (hs : a.eval s = v) (hx : a.eval x = .slice (some ⟨h, 0, none⟩) m c) (hm : (h, .cells news.toArray E fr) ∈ K)
   (hO : OwnL W0 E sz v n xs Kl) (hsub : ∀ p ∈ Kl, p ∈ K) (hK0 : ∀ p ∈ K0, p ∈ K ∧ ∀ q ∈ Kl, q.1 ≠ p.1) (hl : news.length = m * sz) (h1 : ∀ u ∈ news, u.oneCell' = true) (hm0 : 0 < m) (hn : n + m ≤ 4000000000) (hb : bts ≤ 10000) :
   ∀ w, KS W0 K w → ∃ v' K' w', (execOp a.eval o).run P w = .ok (.value v') w' ∧ KS W0 K' w' ∧ AppO W0 E sz K0 (n + m) (xs ++ news) v' K' := by
 intro w hw
 obtain ⟨hu, ⟨i, hi, hz, hsz, hby⟩, hzs⟩ := hE
 have hh := hw.2 _ hm
 have hmax : n + m ≤ maxLen := by unfold maxLen; omega
 have hbt : (n + m) * i.bytes ≤ 140737488355328 := by
   rw [hby]
   exact Nat.le_trans (Nat.mul_le_mul hn hb) (by decide)
 rcases hO with ⟨rfl, rfl, rfl, rfl⟩ | ⟨g, cap, cur, rfl, hB, ⟨r1, r2, r3, r4, r5⟩, rfl⟩
 · have hr := run_append_nil (P := P) w T o.type E i z hu hi hz ⟨h, 0, none⟩ m c news (by rw [hsz]; exact hl) (blk_cells hh) hm0 Tw.om (by rw [Nat.zero_add] at hbt; omega)
   have hg := grownCap_ge w m 0 E
   have hg2 := grownCap_le_maxLen w m 0 E Tw.om
   have hR := rown_new (sz := sz) (n := 0) (m := m) (olds := []) (news := news) z.cells hzs (by simp) hl (show 0 + m ≤ grownCap w m 0 E by omega) hg2
   simp only [Nat.zero_add, List.nil_append, show (([] : List Value).toArray ++ news.toArray) = news.toArray from by simp] at hR ⊢
   obtain ⟨e1, e2⟩ := appo_end (E := E) hw (fun p hp => (hK0 p hp).1) hR
   exact ⟨_, _, _, run_appv ho hs hx hr, e1, e2⟩
 · have hgc := hw.2 _ (hsub _ Tw.m0)
   by_cases hroom : n + m ≤ cap
   · have hmul : n * sz + m * sz ≤ cap * sz := by rw [← Nat.add_mul]; exact Nat.mul_le_mul_right _ hroom
     have hr := run_append_room (P := P) w T o.type E i hu hi g n cap cur hgc ⟨h, 0, none⟩ m c news (by rw [hsz]; exact hl) (blk_cells hh) h1 hroom (by rw [hsz, r1, hl]; exact hmul)
     refine ⟨_, K0 ++ [(g, .cells (cur.toList.take (n * i.size) ++ news ++ cur.toList.drop (n * i.size + news.length)).toArray E (0, 0))], _, run_appv ho hs hx hr, hw.setRow hB hgc ?_, _, .inr ⟨g, cap, _, rfl, hB, ⟨?_, r2, hroom, by simp [r4, hl, Nat.add_mul], ?_⟩, rfl⟩, fun p hp q hq => ?_, rfl⟩
     · intro p hp
       rcases List.mem_append.1 hp with hp | hp
       · exact .inr ⟨(hK0 p hp).1, fun e => (hK0 p hp).2 _ Tw.m0 e.symm⟩
       · exact .inl (List.mem_singleton.1 hp)
     · rw [hsz]
       simp only [List.size_toArray, List.length_append, List.length_take, List.length_drop, Array.length_toList, r1, hl]
       omega
     · rw [hsz, r5, show (n + m) * sz = (xs ++ news).length from by simp [r4, hl, Nat.add_mul]]
       exact List.take_left
     · cases List.mem_singleton.1 hq
       exact (hK0 p hp).2 (g, .cells cur E (0, 0)) Tw.m0
   · have holds : ∀ j u, xs[j]? = some u → w.cell? ((⟨g, 0, none⟩ : Addr).add j) = some u := by
       intro j u hu
       rw [addr_add, Nat.zero_add, cell_of_row w g j cur _ (0, 0) hgc]
       rw [← r5, List.getElem?_take] at hu
       split at hu
       · simpa using hu
       · cases hu
     have hr := run_append_grow (P := P) w T o.type E i z hu hi hz ⟨g, 0, none⟩ n cap xs (by rw [hsz]; exact r4) holds ⟨h, 0, none⟩ m c news (by rw [hsz]; exact hl) (blk_cells hh) Tw.om Tw.om
       (growslice_fits Tw.om hbt)
     have hg1 := grownCap_ge w (n + m) cap E
     have hg2 := grownCap_le_maxLen w (n + m) cap E hmax
     obtain ⟨e1, e2⟩ := appo_end (E := E) hw (fun p hp => (hK0 p hp).1) (rown_new (sz := sz) (olds := xs) (news := news) z.cells hzs r4 hl hg1 hg2)
     exact ⟨_, _, _, run_appv ho hs hx hr, e1, e2⟩
theorem run_lenO {o : Oper} {a : Act} {x : Operand} {sz n : Nat} {v : Value} {xs : List Value} {Kl : List (Nat × Obj)} (ho : o.op = .call { callee := .builtin .len, args := #[x], argTypes := #[T] }) (hT : P.underlying T = some (.slice E)) (hx : a.eval x = v) (hO : OwnL W0 E sz v n xs Kl) (w : World) : (execOp a.eval o).run P w = .ok (.value (.int .i64 ((n : Nat) : Int))) w := by
 rcases hO with ⟨rfl, _, rfl, _⟩ | ⟨g, cap, cur, rfl, _, _, _⟩
 · exact run_lenL ho hT hx w
 · exact run_lenL ho hT hx w
theorem run_idxQ {o : Oper} {a : Act} {p : Option Addr} {b off n cap k sz : Nat} {x y : Operand} {j : IntKind} (ho : o.op = .indexAddr T x y) (hT : P.underlying T = some (.slice E)) (hsz : (P.info? E).map (·.size) = some sz) (hx : a.eval x = .slice p n cap) (hp : p = some ⟨b, off, none⟩) (hy : a.eval y = .int j ((k : Nat) : Int)) (hk : k < n) (w : World) : (execOp a.eval o).run P w = .ok (.value (.pointer (some ⟨b, off + k * sz, none⟩))) w := by
 subst hp
 exact run_idxL ho hT hsz hx hy hk w
theorem run_callv {o : Oper} {a : Act} {x y : Operand} {f : FuncId} {caps : Array Value} {u : Value} {tt : Array TypeId} (ho : o.op = .call { callee := .value x, args := #[y], argTypes := tt }) (hx : a.eval x = .func (.func f) #[] caps) (hy : a.eval y = u) (hf : ∀ args w, (callFunc f args).run P w = .ok (.enter f args) w) (w : World) : (execOp a.eval o).run P w = .ok (.enter f (#[u] ++ caps)) w := by
 unfold execOp
 simp [ho, resolve, Deferred.ofValue, hx, hy, invoke, hf]
def u8s (l : List UInt8) : List Value := l.map fun b => .int .u8 ((b.toNat : Nat) : Int)
theorem u8s_len (l : List UInt8) : (u8s l).length = l.length := by simp [u8s]
def RowB (cur : Array Value) (l : List UInt8) : Prop := cur.toList.take l.length = u8s l
theorem RowN.bytes {cur : Array Value} {cap n : Nat} {l : List UInt8} (h : RowN 1 cur cap n (u8s l)) : RowB cur l ∧ l.length = n := by
 obtain ⟨_, _, _, h4, h5⟩ := h
 rw [u8s_len, Nat.mul_one] at h4
 exact ⟨by unfold RowB; rw [h4, ← h5, Nat.mul_one], h4⟩
theorem st_at {o : Oper} {a : Act} {K K' : List (Nat × Obj)} {ty t : TypeId} {x y : Operand} {g off : Nat} {cs : Array Value} {fr : Nat × Nat} {v : Value} (ho : o.op = .store ty x y) (hx : a.eval x = .pointer (some ⟨g, off, none⟩)) (hv : a.eval y = v)
   (hm : (g, .cells cs t fr) ∈ K) (hB : W0.B ≤ g) (hi : (P.info? ty).map (·.size) = some 1) (hvc : v.cells = #[v]) (h1 : v.oneCell' = true) (hfit : off < cs.size) (hfr : cs.size ≤ fr.1 ∨ fr.2 = 0)
   (hK : ∀ p ∈ K', p = (g, .cells (cs.setIfInBounds off v) t fr) ∨ (p ∈ K ∧ p.1 ≠ g)) : ∀ w, KS W0 K w → ∃ w', (execOp a.eval o).run P w = .ok .skip w' ∧ KS W0 K' w' := by
 intro w hw
 have hg := hw.2 _ hm
 have hcell : w.cell? ⟨g, off, none⟩ = some cs[off] := by simp [World.cell?, hg, hfit]
 have hfro : w.frozen? ⟨g, off, none⟩ = false := by
   obtain ⟨lo, hi'⟩ := fr
   simp only [World.frozen?, hg, Bool.and_eq_false_iff, decide_eq_false_iff_not]
   simp only at hfr
   omega
 have hst : (store ((⟨g, off, none⟩ : Addr).add 0) v).run P w = .ok () (w.setRow g (cs.setIfInBounds off v)) := by
   rw [addr_add, Nat.add_zero, run_store P w _ v _ h1, hcell]
   simp [hfro, setCell_eq_setRow w g off cs t fr v hg]
 have hr : (storeVar ty ⟨g, off, none⟩ v).run P w = .ok () (w.setRow g (cs.setIfInBounds off v)) := by
   cases hq : P.info? ty with
   | none => simp [hq] at hi
   | some i =>
     have hs : i.size = 1 := by simpa [hq] using hi
     simp [storeVar, Sem.run_bind, Go.sizeOf, typeInfo, hq, hs, hvc, storeCells, hst]
 refine ⟨w.setRow g (cs.setIfInBounds off v), ?_, below_setRow hw.1 hB _, fun p hp => ?_⟩
 · simp only [execOp, ho, hx, hv, Instr.storeAt, Instr.sureAddr, Sem.run_bind, Sem.run_pure, Result.andThen_ok, hr]
 · rcases hK p hp with rfl | ⟨hp, hne⟩
   · exact setRow_heap w g cs _ t _ hg
   · rw [setRow_other w g p.1 _ hne]; exact hw.2 p hp
def Cel (W : World) (b off : Nat) (xs : List Value) : Prop := ∀ (i : Nat) (u : Value), xs[i]? = some u → W.cell? ⟨b, off + i, none⟩ = some u
def SLV (W : World) (p : Option Addr) (xs : List Value) : Prop := xs = [] ∨ ∃ b off, p = some ⟨b, off, none⟩ ∧ b < W.heap.size ∧ Cel W b off xs
theorem Cel.keep {W W' : World} {b off B : Nat} {xs : List Value} (h : Cel W b off xs) (hlt : b < B) (hB : Below B W W') : Cel W' b off xs := fun i u hu => by
 rw [hB.cell (p := ⟨b, off + i, none⟩) hlt]; exact h i u hu
theorem SLV.keep {W W' : World} {p : Option Addr} {xs : List Value} (h : SLV W p xs) (hB : Below W.heap.size W W') : SLV W' p xs := h.imp id fun ⟨b, off, hp, hlt, hc⟩ => ⟨b, off, hp, Nat.lt_of_lt_of_le hlt hB.size, hc.keep hlt hB⟩
def OutV (w w' : World) (E : TypeId) (sz : Nat) (v : Value) (n : Nat) (xs : List Value) : Prop :=
 (n = 0 ∧ xs = [] ∧ v = .slice none 0 0) ∨ ∃ g cap cur, v = .slice (some ⟨g, 0, none⟩) n cap ∧ w.heap.size ≤ g ∧ RowN sz cur cap n xs ∧ w'.heap[g]? = some (.cells cur E (0, 0))
theorem OwnL.out {w : World} {E : TypeId} {sz n : Nat} {v : Value} {xs : List Value} {K Kl : List (Nat × Obj)} {w' : World} (h : OwnL (w : Base) E sz v n xs Kl) (hs : ∀ p ∈ Kl, p ∈ K) (hK : KS w K w') : OutV w w' E sz v n xs := by
 rcases h with ⟨h1, h2, h3, h4⟩ | ⟨g, cap, cur, h1, h2, h3, rfl⟩
 · exact .inl ⟨h1, h2, h3⟩
 · exact .inr ⟨g, cap, cur, h1, h2, h3, hK.2 _ (hs _ Tw.m0)⟩
theorem RowN.get {sz cap n : Nat} {cur : Array Value} {xs : List Value} (h : RowN sz cur cap n xs) {i : Nat} {u : Value} (hi : xs[i]? = some u) : cur[i]? = some u := by
 rw [← h.2.2.2.2, List.getElem?_take] at hi
 split at hi
 · simpa using hi
 · cases hi
theorem RowN.cel {W : World} {g sz cap n : Nat} {cur : Array Value} {xs : List Value} {fr : Nat × Nat} (h : W.heap[g]? = some (.cells cur E fr)) (hR : RowN sz cur cap n xs) : Cel W g 0 xs := fun i u hu => by
 rw [Nat.zero_add, cell_of_row W g i cur _ fr h]; exact hR.get hu
theorem OutV.own {W : World} {W0 : Base} {E : TypeId} {sz n : Nat} {v : Value} {xs : List Value} {K : List (Nat × Obj)} {w' : World} (h : OutV W w' E sz v n xs) (hW : KS W0 K W) (hb : Below W.heap.size W w') : ∃ Kl, OwnL W0 E sz v n xs Kl ∧ (∀ p ∈ K, ∀ q ∈ Kl, q.1 ≠ p.1) ∧ KS W0 (K ++ Kl) w' := by
 have hK := hW.below hb
 rcases h with ⟨h1, h2, h3⟩ | ⟨g, cap, cur, h1, h2, h3, h4⟩
 · exact ⟨[], .inl ⟨h1, h2, h3, rfl⟩, (fun _ _ _ h => by cases h), by rw [List.append_nil]; exact hK⟩
 · refine ⟨[(g, .cells cur E (0, 0))], .inr ⟨g, cap, cur, h1, Nat.le_trans hW.size h2, h3, rfl⟩, fun p hp q hq e => ?_, hK.1, fun p hp => ?_⟩
   · cases List.mem_singleton.1 hq
     have := lt_of_block (hW.2 p hp)
     have e' : g = p.1 := e
     omega
   · rcases List.mem_append.1 hp with h | h
     · exact hK.2 p h
     · cases List.mem_singleton.1 h; exact h4
end
section
variable {P : Program} {ops : Array Oper} {Q : Exit → Act → World → Prop} {W0 : Base}
theorem wpL_g {rest : List Oper} {oi : Oper} {d : Nat} {tm : Array Value} {df : List Deferred} {K : List (Nat × Obj)} {T : Value → Array Value} (G : Value → List (Nat × Obj) → Prop)
   (hdi : oi.dst = some d) (hw : Region.wanted oi (yielded ops tm) = true)
   (hg : ∀ w, KS W0 K w → ∃ v K' w', (execOp (Act.eval ⟨tm, df⟩) oi).run P w = .ok (.value v) w' ∧ KS W0 K' w' ∧ G v K')
   (hT : ∀ v, tm.setIfInBounds d v = T v)
   (h : ∀ v K', G v K' → wpL P ops Q W0 rest ⟨T v, df⟩ K') : wpL P ops Q W0 (oi :: rest) ⟨tm, df⟩ K := by
 refine ⟨fun w hK => ?_⟩
 obtain ⟨v, K', w', hr, hk, hG⟩ := hg w hK
 refine wpList_step fun K2 hK2 => ?_
 rw [if_pos hw]
 unfold Oper.wp
 rw [hr]
 refine hK2 _ _ ?_
 rw [hdi]
 simp only [Act.put]
 rw [hT v]
 exact (h v K' hG).of w' hk
theorem wpL_newg {rest : List Oper} {oi : Oper} {d : Nat} {obi : Obj} {tm : Array Value} {df : List Deferred} {K : List (Nat × Obj)} {T : Nat → Array Value} (mk : Nat → Value)
   (hdi : oi.dst = some d) (hw : Region.wanted oi (yielded ops tm) = true)
   (hai : ∀ w, (execOp (Act.eval ⟨tm, df⟩) oi).run P w = .ok (.value (mk w.heap.size)) (w.alloc obi))
   (hT : ∀ g, (tm.setIfInBounds d (mk g)) = T g)
   (h : ∀ g, W0.B ≤ g → (∀ p ∈ K, p.1 ≠ g) → wpL P ops Q W0 rest ⟨T g, df⟩ ((g, obi) :: K)) : wpL P ops Q W0 (oi :: rest) ⟨tm, df⟩ K := by
 refine ⟨fun w hK => ?_⟩
 refine wpList_step fun K' hK' => ?_
 rw [if_pos hw]
 unfold Oper.wp
 rw [hai w]
 refine hK' _ _ ?_
 rw [hdi]
 simp only [Act.put]
 rw [hT w.heap.size]
 exact (h w.heap.size hK.size (fun p hp => by have := lt_of_block (hK.2 p hp); omega)).of _ (hK.alloc obi)
theorem wpV_nsg {md : Region.Mode} {i : Nat} {oi : Oper} {d : Nat} {obi : Obj} {n : Nat} {listed : Array Bool} {tm : Array Value} {df : List Deferred} {K : List (Nat × Obj)} {T : Nat → Array Value} (mk : Nat → Value)
   (hi : ops[i]? = some oi) (hdi : oi.dst = some d) (hw : Region.wanted oi (yielded ops tm) = true)
   (hr : Region.ready md ops listed = [i])
   (hai : ∀ w, (execOp (Act.eval ⟨tm, df⟩) oi).run P w = .ok (.value (mk w.heap.size)) (w.alloc obi))
   (hT : ∀ g, (tm.setIfInBounds d (mk g)) = T g)
   (h : ∀ g, W0.B ≤ g → (∀ p ∈ K, p.1 ≠ g) → wpV P md ops Q W0 n (listed.setIfInBounds i true) ⟨T g, df⟩ ((g, obi) :: K)) :
   wpV P md ops Q W0 (n + 1) listed ⟨tm, df⟩ K := by
 refine wpV_alloc mk hi hr hw hai (fun g hg hf => ?_)
 rw [hdi]
 simp only [Act.put]
 rw [hT g]
 exact h g hg hf
end
end Tw
/- Lists of lists that are read: each element of one cell. Over any program. -/
namespace Tw
open Go Go.RowKit Go.Proofs.Ytnbfljcilojllaa
def Keeps {α : Type} (R : World → Value → α → Prop) : Prop := ∀ (W W' : World) (v : Value) (y : α), R W v y → Below W.heap.size W W' → R W' v y
def LVp {α : Type} (R : World → Value → α → Prop) (W : World) (p : Option Addr) (l : List α) : Prop := ∃ vs : List Value, SLV W p vs ∧ vs.length = l.length ∧ ∀ (k : Nat) (x : Value) (y : α), vs[k]? = some x → l[k]? = some y → R W x y
def LV {α : Type} (R : World → Value → α → Prop) (W : World) (v : Value) (l : List α) : Prop := ∃ p cap, v = .slice p l.length cap ∧ LVp R W p l
def StrR (_ : World) (v : Value) (l : List UInt8) : Prop := v = strV l
theorem StrR.keeps : Keeps StrR := fun _ _ _ _ h _ => h
theorem LVp.keep {α : Type} {R : World → Value → α → Prop} (hR : Keeps R) {W W' : World} {p : Option Addr} {l : List α} (h : LVp R W p l) (hB : Below W.heap.size W W') : LVp R W' p l := by
 obtain ⟨vs, h1, h2, h3⟩ := h
 exact ⟨vs, h1.keep hB, h2, fun k x y hx hy => hR _ _ _ _ (h3 k x y hx hy) hB⟩
theorem LV.keeps {α : Type} {R : World → Value → α → Prop} (hR : Keeps R) : Keeps (LV R) := fun _ _ _ _ ⟨p, cap, h1, h2⟩ hB => ⟨p, cap, h1, h2.keep hR hB⟩
abbrev TxR := LV StrR
abbrev ElR := LV TxR
abbrev SgR := LV ElR
theorem TxR.keeps : Keeps TxR := LV.keeps StrR.keeps
theorem ElR.keeps : Keeps ElR := LV.keeps TxR.keeps
theorem SgR.keeps : Keeps SgR := LV.keeps ElR.keeps
def Dj (A B : List (Nat × Obj)) : Prop := ∀ p ∈ A, ∀ q ∈ B, q.1 ≠ p.1
def Dk (g : Nat) (B : List (Nat × Obj)) : Prop := ∀ q ∈ B, q.1 ≠ g
theorem Dj.symm {A B : List (Nat × Obj)} (h : Dj A B) : Dj B A := fun p hp q hq e => h q hq p hp e.symm
theorem dj_app_l {A B C : List (Nat × Obj)} : Dj (A ++ B) C ↔ Dj A C ∧ Dj B C := by
 unfold Dj
 simp only [List.mem_append]
 exact ⟨fun h => ⟨fun p hp => h p (.inl hp), fun p hp => h p (.inr hp)⟩, fun h p hp => hp.elim (h.1 p) (h.2 p)⟩
theorem dj_app_r {A B C : List (Nat × Obj)} : Dj C (A ++ B) ↔ Dj C A ∧ Dj C B := ⟨fun h => ⟨(dj_app_l.1 h.symm).1.symm, (dj_app_l.1 h.symm).2.symm⟩, fun h => (dj_app_l.2 ⟨h.1.symm, h.2.symm⟩).symm⟩
theorem dj_cons_l {g : Nat} {o : Obj} {A C : List (Nat × Obj)} : Dj ((g, o) :: A) C ↔ Dk g C ∧ Dj A C := by
 unfold Dj Dk
 simp only [List.forall_mem_cons]
theorem dj_cons_r {g : Nat} {o : Obj} {A C : List (Nat × Obj)} : Dj C ((g, o) :: A) ↔ Dk g C ∧ Dj C A := ⟨fun h => ⟨(dj_cons_l.1 h.symm).1, (dj_cons_l.1 h.symm).2.symm⟩, fun h => (dj_cons_l.2 ⟨h.1, h.2.symm⟩).symm⟩
theorem dj_nil_l {C : List (Nat × Obj)} : Dj [] C ↔ True := ⟨fun _ => trivial, fun _ _ h => by cases h⟩
theorem dj_nil_r {C : List (Nat × Obj)} : Dj C [] ↔ True := ⟨fun _ => trivial, fun _ _ _ _ h => by cases h⟩
theorem dk_app {g : Nat} {A B : List (Nat × Obj)} : Dk g (A ++ B) ↔ Dk g A ∧ Dk g B := by
 unfold Dk
 simp only [List.mem_append]
 exact ⟨fun h => ⟨fun p hp => h p (.inl hp), fun p hp => h p (.inr hp)⟩, fun h p hp => hp.elim (h.1 p) (h.2 p)⟩
theorem dk_cons {g h : Nat} {o : Obj} {A : List (Nat × Obj)} : Dk g ((h, o) :: A) ↔ h ≠ g ∧ Dk g A := by
 unfold Dk
 simp only [List.forall_mem_cons]
theorem dk_nil {g : Nat} : Dk g [] ↔ True := ⟨fun _ => trivial, fun _ _ h => by cases h⟩
-- lists of lists that are made
def MkE {α : Type} (R : World → Value → α → Prop) (W0 : Base) (xs : List Value) (l : List α) (T : List (Nat × Obj)) : Prop :=
 xs.length = l.length ∧ ∀ W, KS W0 T W → ∀ (k : Nat) (x : Value) (y : α), xs[k]? = some x → l[k]? = some y → R W x y
def MkV {α : Type} (R : World → Value → α → Prop) (W0 : Base) (v : Value) (y : α) (T : List (Nat × Obj)) : Prop := ∀ W, KS W0 T W → R W v y
theorem MkE.nil {α : Type} {R : World → Value → α → Prop} {W0 : Base} : MkE R W0 [] [] [] := ⟨rfl, fun _ _ k x y h => by simp at h⟩
theorem MkE.snoc {α : Type} {R : World → Value → α → Prop} {W0 : Base} {xs : List Value} {l : List α} {T T' : List (Nat × Obj)} {x : Value} {y : α} (h : MkE R W0 xs l T) (hx : MkV R W0 x y T') : MkE R W0 (xs ++ [x]) (l ++ [y]) (T ++ T') := by
 obtain ⟨h1, h2⟩ := h
 refine ⟨by simp [h1], fun W hW k u v hu hv => ?_⟩
 have hA := hW.sub (fun p hp => List.mem_append_left T' hp)
 have hB := hW.sub (fun p hp => List.mem_append_right T hp)
 rcases Nat.lt_trichotomy k xs.length with hk | rfl | hk
 · rw [List.getElem?_append_left hk] at hu
   rw [List.getElem?_append_left Tw.om] at hv
   exact h2 W hA k u v hu hv
 · rw [List.getElem?_append_right (Nat.le_refl _)] at hu
   rw [h1, List.getElem?_append_right (Nat.le_refl _)] at hv
   simp at hu hv
   subst hu hv
   exact hx W hB
 · rw [List.getElem?_eq_none (by simp; omega)] at hu
   cases hu
theorem MkE.mk {α : Type} {R : World → Value → α → Prop} {W0 : Base} {E : TypeId} {v : Value} {n : Nat} {xs : List Value} {l : List α} {K T : List (Nat × Obj)} (hO : OwnL W0 E 1 v n xs K) (hE : MkE R W0 xs l T) (hn : n = l.length) : MkV (LV R) W0 v l (T ++ K) := by
 obtain ⟨h1, h2⟩ := hE
 intro W hW
 have hA := h2 W (hW.sub (fun p hp => List.mem_append_left K hp))
 rcases hO with ⟨rfl, rfl, rfl, rfl⟩ | ⟨g, cap, cur, rfl, hB, hR, rfl⟩
 · exact ⟨none, 0, by rw [← hn], [], .inl rfl, h1, hA⟩
 · have hb := hW.2 _ (List.mem_append_right T Tw.m0)
   exact ⟨some ⟨g, 0, none⟩, cap, by rw [hn], xs, .inr ⟨g, 0, rfl, lt_of_block hb, hR.cel hb⟩, h1, hA⟩
section
variable {P : Program} {T E : TypeId}
end
theorem own_shape {W0 : Base} {E : TypeId} {sz n : Nat} {v : Value} {xs : List Value} {K : List (Nat × Obj)} (h : OwnL W0 E sz v n xs K) : ∃ p c, v = .slice p n c := by
 rcases h with ⟨rfl, _, rfl, _⟩ | ⟨g, cap, cur, rfl, _⟩
 · exact ⟨_, _, rfl⟩
 · exact ⟨_, _, rfl⟩
section
variable {P : Program} {T U E : TypeId}
theorem run_appu {o : Oper} {a : Act} {s x : Operand} {u v y : Value} {w w' : World} (ho : o.op = .call { callee := .builtin .append, args := #[s, x], argTypes := #[T, U] })
   (hs : a.eval s = u) (hx : a.eval x = y) (hr : (Builtin.append_ #[T, U] o.type #[u, y]).run P w = .ok v w') : (execOp a.eval o).run P w = .ok (.value v) w' := by
 unfold execOp
 simp only [ho, resolve, invoke, builtin, Sem.run_bind, Sem.run_pure, Result.andThen_ok, List.map_toArray, List.map_cons, List.map_nil, hs, hx, hr]
theorem run_room_any (w : World) (ty : TypeId) (i : TypeInfo) (ht : P.underlying T = some (.slice E)) (hi : P.info? E = some i)
   (g sLen sCap : Nat) (cur : Array Value) (hg : w.heap[g]? = some (.cells cur E (0, 0))) (x : Value) (m : Nat) (news : List Value) (hs : Src P i.size U x m news w)
   (hroom : sLen + m ≤ sCap) (hfit : sLen * i.size + news.length ≤ cur.size) :
   (Builtin.append_ #[T, U] ty #[.slice (some ⟨g, 0, none⟩) sLen sCap, x]).run P w =
     .ok (.slice (some ⟨g, 0, none⟩) (sLen + m) sCap) (w.setRow g (cur.toList.take (sLen * i.size) ++ news ++ cur.toList.drop (sLen * i.size + news.length)).toArray) := by
 have hst := run_storeCells_at P g (sLen * i.size) E news 0 cur w hg (by simpa using hfit) hs.one
 simp only [Nat.add_zero] at hst
 rcases hs.kind with ⟨e', hk⟩ | hk <;> simp [Builtin.append_, run_underlying ht, run_underlying hk, Go.sizeOf, typeInfo, hi, hs.len, hroom, hs.cells, Addr.add_lit, hst]
theorem app_any {W0 : Base} {o : Oper} {a : Act} {K K0 Kl : List (Nat × Obj)} {s x : Operand} {m n sz bts : Nat} {z v y : Value} {news xs : List Value} (hE : Elem P T E sz bts z)
   (ho : o.op = .call { callee := .builtin .append, args := #[s, x], argTypes := #[T, U] }) (hs : a.eval s = v) (hx : a.eval x = y) (hsrc : ∀ w, KS W0 K w → Src P sz U y m news w)
   (hO : OwnL W0 E sz v n xs Kl) (hsub : ∀ p ∈ Kl, p ∈ K) (hK0 : ∀ p ∈ K0, p ∈ K ∧ ∀ q ∈ Kl, q.1 ≠ p.1) (hn : n + m ≤ 4000000000) (hb : bts ≤ 10000) :
   ∀ w, KS W0 K w → ∃ v' K' w', (execOp a.eval o).run P w = .ok (.value v') w' ∧ KS W0 K' w' ∧ AppO W0 E sz K0 (n + m) (xs ++ news) v' K' := by
 intro w hw
 obtain ⟨hu, ⟨i, hi, hz, hsz, hby⟩, hzs⟩ := hE
 have hS := hsrc w hw
 have hl := hS.newsLen
 have hmax : n + m ≤ maxLen := by unfold maxLen; omega
 have hbt : (n + m) * i.bytes ≤ 140737488355328 := by
   rw [hby]
   exact Nat.le_trans (Nat.mul_le_mul hn hb) (by decide)
 subst hsz
 rcases Nat.eq_zero_or_pos m with rfl | hm0
 · have hn0 : news = [] := List.eq_nil_of_length_eq_zero (by rw [hl]; simp)
   subst hn0
   rw [List.append_nil, Nat.add_zero]
   have hv : ∃ p cap, v = .slice p n cap ∧ n ≤ cap := by
     rcases hO with ⟨rfl, _, rfl, _⟩ | ⟨g, cap, cur, rfl, _, ⟨_, _, h3, _⟩, _⟩
     · exact ⟨_, _, rfl, Nat.le_refl _⟩
     · exact ⟨_, _, rfl, h3⟩
   obtain ⟨p, cap, rfl, hle⟩ := hv
   have hr := run_append_nothing (P := P) w T U o.type E i hu hi p n cap hle _ hS
   refine ⟨_, K0 ++ Kl, w, run_appu ho hs hx hr, hw.sub (fun q hq => ?_), Kl, hO, fun q hq => (hK0 q hq).2, rfl⟩
   rcases List.mem_append.1 hq with h | h
   · exact (hK0 q h).1
   · exact hsub q h
 · rcases hO with ⟨rfl, rfl, rfl, rfl⟩ | ⟨g, cap, cur, rfl, hB, ⟨r1, r2, r3, r4, r5⟩, rfl⟩
   · have hf0 : (Builtin.firstCells i.size 0 (.slice none 0 0)).run P w.drew = .ok (([] : List Value).toArray) w.drew := by
       simp [run_firstCells_none]
     have hr := run_append_grow_src (P := P) w T U o.type E i z hu hi hz none 0 0 [] hf0 y m news hS Tw.om Tw.om (growslice_fits Tw.om hbt)
     have hg1 := grownCap_ge w (0 + m) 0 E
     have hg2 := grownCap_le_maxLen w (0 + m) 0 E hmax
     have hR := rown_new (sz := i.size) (n := 0) (m := m) (olds := []) (news := news) z.cells hzs (by simp) hl hg1 hg2
     obtain ⟨e1, e2⟩ := appo_end (E := E) hw (fun p hp => (hK0 p hp).1) hR
     refine ⟨_, _, _, run_appu ho hs hx hr, ?_, e2⟩
     simpa using e1
   · have hgc := hw.2 _ (hsub _ Tw.m0)
     by_cases hroom : n + m ≤ cap
     · have hmul : n * i.size + m * i.size ≤ cap * i.size := by rw [← Nat.add_mul]; exact Nat.mul_le_mul_right _ hroom
       have hr := run_room_any (P := P) (U := U) w o.type i hu hi g n cap cur hgc y m news hS hroom (by rw [r1, hl]; exact hmul)
       refine ⟨_, K0 ++ [(g, .cells (cur.toList.take (n * i.size) ++ news ++ cur.toList.drop (n * i.size + news.length)).toArray E (0, 0))], _, run_appu ho hs hx hr, hw.setRow hB hgc ?_, _, .inr ⟨g, cap, _, rfl, hB, ⟨?_, r2, hroom, by simp [r4, hl, Nat.add_mul], ?_⟩, rfl⟩, fun p hp q hq => ?_, rfl⟩
       · intro p hp
         rcases List.mem_append.1 hp with hp | hp
         · exact .inr ⟨(hK0 p hp).1, fun e => (hK0 p hp).2 _ Tw.m0 e.symm⟩
         · exact .inl (List.mem_singleton.1 hp)
       · simp only [List.size_toArray, List.length_append, List.length_take, List.length_drop, Array.length_toList, r1, hl]
         omega
       · rw [r5, show (n + m) * i.size = (xs ++ news).length from by simp [r4, hl, Nat.add_mul]]
         exact List.take_left
       · cases List.mem_singleton.1 hq
         exact (hK0 p hp).2 (g, .cells cur E (0, 0)) Tw.m0
     · have hgd : w.drew.heap[g]? = some (.cells cur E (0, 0)) := hgc
       have holds : ∀ j u, xs[j]? = some u → w.drew.cell? ((⟨g, 0, none⟩ : Addr).add j) = some u := by
         intro j u hu
         rw [addr_add, Nat.zero_add, cell_of_row w.drew g j cur _ (0, 0) hgd]
         rw [← r5, List.getElem?_take] at hu
         split at hu
         · simpa using hu
         · cases hu
       have hf := run_firstCells_some (P := P) w.drew i.size n ⟨g, 0, none⟩ n cap xs r4 holds
       have hr := run_append_grow_src (P := P) w T U o.type E i z hu hi hz (some ⟨g, 0, none⟩) n cap xs hf y m news hS Tw.om Tw.om (growslice_fits Tw.om hbt)
       have hg1 := grownCap_ge w (n + m) cap E
       have hg2 := grownCap_le_maxLen w (n + m) cap E hmax
       obtain ⟨e1, e2⟩ := appo_end (E := E) hw (fun p hp => (hK0 p hp).1) (rown_new (sz := i.size) (olds := xs) (news := news) z.cells hzs r4 hl hg1 hg2)
       refine ⟨_, _, _, run_appu ho hs hx hr, ?_, e2⟩
       simpa using e1
end
end Tw
namespace Tw
open Go Go.RowKit
theorem djt {p : Prop} (h : p := by (try simp only [dj_app_l, dj_app_r, dj_cons_l, dj_cons_r, dj_nil_l, dj_nil_r, dk_app, dk_cons, dk_nil, and_true, true_and, and_assoc]); repeat' (first | trivial | assumption | exact Dj.symm (by assumption) | exact Ne.symm (by assumption) | apply And.intro)) : p := h
theorem dkf {q : Prop} {g : Nat} {K : List (Nat × Obj)} (h : ∀ p ∈ K, p.1 ≠ g) (e : Dk g K → q := by intro h; simpa only [dj_app_l, dj_app_r, dj_cons_l, dj_cons_r, dj_nil_l, dj_nil_r, dk_app, dk_cons, dk_nil, and_true, true_and, and_assoc] using h) : q := e h
theorem djf {q : Prop} {K T : List (Nat × Obj)} (h : Dj K T) (e : Dj K T → q := by intro h; simpa only [dj_app_l, dj_app_r, dj_cons_l, dj_cons_r, dj_nil_l, dj_nil_r, dk_app, dk_cons, dk_nil, and_true, true_and, and_assoc] using h) : q := e h
end Tw
/- What came in: records of plain cells, and lists of them. Over any program. -/
namespace Tw
open Go Go.RowKit Go.Proofs.Ytnbfljcilojllaa Go.ChangeShapes Go.WideShapes
section
variable {H : Type} {enc : TypeId × Value → H} {P : Program} {α : Type}
def OpensC (P : Program) (t : TypeId) (cells : α → List Value) (ok : α → Prop) : Prop := ∀ (H : Type) (enc : TypeId × Value → H) (w : World) (base : Nat) (sp : Nat → Bool) (held : Bool) (fuel : Nat) (cs : List Value) (x : DataW H × List MemPlace),
 DataW.trod enc P w base sp held fuel t cs = some x → ∃ y : α, cs = cells y ∧ ok y
theorem opens_list {w : World} {base : Nat} {a : Addr} {e : TypeId} {sz n : Nat} {cells : α → List Value} {ok : α → Prop} {sp : Nat → Bool} {held : Bool} {elems : List (DataW H × List MemPlace)} (hE : OpensC P e cells ok) (hsz : P.cellsOf e = sz) :
   ∀ m, m ≤ elems.length → (∀ i, i < m → (w.cells? base (a.add (i * P.cellsOf e)) (P.cellsOf e)).bind (DataW.trod enc P w base sp held n e) = elems[i]?) → ∃ l : List α, l.length = m ∧ (∀ y ∈ l, ok y) ∧ ∀ i y, l[i]? = some y → w.cells? base (a.add (i * sz)) sz = some (cells y)
 | 0, _, _ => ⟨[], rfl, (fun _ h => by cases h), fun i y h => by simp at h⟩
 | m + 1, hm, hel => by
   obtain ⟨l, h1, h2, h3⟩ := opens_list hE hsz m Tw.om (fun i hi => hel i Tw.om)
   have h0 := hel m Tw.om
   rw [List.getElem?_eq_getElem Tw.om] at h0
   obtain ⟨cs, hcs, ht⟩ := Option.bind_eq_some_iff.1 h0
   obtain ⟨y, rfl, hy⟩ := hE _ _ _ _ _ _ _ _ _ ht
   rw [hsz] at hcs
   refine ⟨l ++ [y], by simp [h1], fun z hz => ?_, fun i z hz => ?_⟩
   · rcases List.mem_append.1 hz with hz | hz
     · exact h2 z hz
     · cases List.mem_singleton.1 hz; exact hy
   · rcases Nat.lt_or_ge i m with hi | hi
     · rw [List.getElem?_append_left Tw.om] at hz
       exact h3 i z hz
     · obtain ⟨hlt, _⟩ := List.getElem?_eq_some_iff.1 hz
       have hi2 : i = m := by rw [List.length_append, h1, List.length_singleton] at hlt; omega
       subst hi2
       rw [List.getElem?_append_right Tw.om, h1, Nat.sub_self] at hz
       cases hz
       exact hcs
theorem flat_at {cells : α → List Value} {sz : Nat} (hc : ∀ y, (cells y).length = sz) : ∀ {l : List α} {i : Nat} {u : Value}, (l.flatMap cells)[i]? = some u → ∃ y, l[i / sz]? = some y ∧ (cells y)[i % sz]? = some u
 | [], _, _, h => by simp at h
 | y :: l, i, u, h => by
   rw [List.flatMap_cons] at h
   rcases Nat.lt_or_ge i sz with hi | hi
   · rw [List.getElem?_append_left (by rw [hc]; exact hi)] at h
     exact ⟨y, by rw [Nat.div_eq_of_lt hi]; rfl, by rw [Nat.mod_eq_of_lt hi]; exact h⟩
   · rw [List.getElem?_append_right (by rw [hc]; exact hi), hc] at h
     obtain ⟨z, h1, h2⟩ := flat_at hc h
     have h0 : 0 < sz := by
       rcases Nat.eq_zero_or_pos sz with h0 | h0
       · subst h0; rw [Nat.mod_zero] at h2; have := hc z; rw [List.length_eq_zero_iff.1 this] at h2; simp at h2
       · exact h0
     refine ⟨z, ?_, ?_⟩
     · rw [show i / sz = (i - sz) / sz + 1 from by rw [Nat.div_eq_sub_div h0 hi], List.getElem?_cons_succ]; exact h1
     · rw [Nat.mod_eq_sub_mod hi]; exact h2
theorem open_recs {W : World} {t e : TypeId} {v : Value} {d : DataW H} {ps : List MemPlace} {base sz : Nat} {cells : α → List Value} {ok : α → Prop} (ht : P.underlying t = some (.slice e)) (hE : OpensC P e cells ok) (hsz : P.cellsOf e = sz) (hz : 0 < sz) (hc : ∀ y, (cells y).length = sz)
   (hv : Value.okWide P W .any base t v) (h0 : DataW.Trod enc P W 0 (fun _ => true) true t v d ps) : ∃ (p : Option Addr) (cap : Nat) (l : List α), v = .slice p l.length cap ∧ SLV W p (l.flatMap cells) ∧ (∀ y ∈ l, ok y) ∧ l.length ≤ maxLen ∧ l.length ≤ cap := by
 obtain ⟨a0, len0, cap0, rfl⟩ := okWide_slice ht hv
 obtain ⟨fuel, hf⟩ := h0
 rcases DataW.trod_slice ht hf with ⟨hcs, _⟩ | ⟨a, len, cap, elems, rest, n, _, hcs, _, hb, hl, hm, hlen, hel, _, _⟩
 · simp [Value.cells] at hcs
   obtain ⟨rfl, rfl, rfl⟩ := hcs
   exact ⟨none, 0, [], rfl, .inl rfl, (fun _ h => by cases h), by simp, by simp⟩
 · simp [Value.cells] at hcs
   obtain ⟨rfl, rfl, rfl⟩ := hcs
   obtain ⟨l, h1, h2, h3⟩ := opens_list hE hsz len0 Tw.om hel
   refine ⟨some a, cap0, l, by rw [h1], ?_, h2, by omega, by omega⟩
   rcases Nat.eq_zero_or_pos len0 with h0 | h0
   · left; rw [List.length_eq_zero_iff.1 (h1.trans h0)]; rfl
   · obtain ⟨b, off, spot⟩ := a
     have hcell : ∀ i y, l[i]? = some y → ∀ j u, (cells y)[j]? = some u → W.cell? ((⟨b, off, spot⟩ : Addr).add (i * sz) |>.add j) = some u := by
       intro i y hy j u hu
       obtain ⟨_, h4, h5⟩ := World.cells?_some (h3 i y hy)
       obtain ⟨hj, _⟩ := List.getElem?_eq_some_iff.1 hu
       rw [hc] at hj
       rw [h5 j hj]; exact hu
     have h00 : l[0]? = some (l[0]'Tw.om) := List.getElem?_eq_getElem _
     have hspot : spot = none := by
       have hu : (cells (l[0]'Tw.om))[0]? = some ((cells (l[0]'Tw.om))[0]'(by rw [hc]; exact hz)) := List.getElem?_eq_getElem _
       have := World.cell?_spot (hcell 0 _ h00 0 _ hu)
       unfold Addr.add at this
       simp only at this
       split at this <;> simp_all
     subst hspot
     have hadd : ∀ (m j : Nat), ((⟨b, off, none⟩ : Addr).add m).add j = ⟨b, off + (m + j), none⟩ := fun m j => by rw [addr_add, addr_add, Nat.add_assoc]
     refine .inr ⟨b, off, rfl, ?_, fun i u hu => ?_⟩
     · have hu : (cells (l[0]'Tw.om))[0]? = some ((cells (l[0]'Tw.om))[0]'(by rw [hc]; exact hz)) := List.getElem?_eq_getElem _
       have := World.block_lt_of_cell? _ _ (hcell 0 _ h00 0 _ hu)
       rw [hadd] at this
       exact this
     · obtain ⟨y, hy1, hy2⟩ := flat_at hc hu
       have := hcell _ y hy1 _ u hy2
       rw [hadd, Nat.mul_comm, Nat.div_add_mod] at this
       exact this
theorem open_rec {W : World} {t : TypeId} {fs : Array Field} {v : Value} {d : DataW H} {ps : List MemPlace} {base : Nat} {cells : α → List Value} {ok : α → Prop} (ht : P.underlying t = some (.struct fs)) (hE : OpensC P t cells ok)
   (hv : Value.okWide P W .any base t v) (h0 : DataW.Trod enc P W 0 (fun _ => true) true t v d ps) : ∃ y : α, v = .agg (cells y).toArray ∧ ok y := by
 obtain ⟨cs, rfl, _⟩ := okWide_struct ht hv
 obtain ⟨fuel, hf⟩ := h0
 obtain ⟨y, hy, hok⟩ := hE _ _ _ _ _ _ _ _ _ hf
 refine ⟨y, ?_, hok⟩
 rw [← hy]
 rfl
theorem trod_fld {w : World} {base : Nat} {sp : Nat → Bool} {held : Bool} {fuel : Nat} {t : TypeId} {cs : List Value} {x : DataW H × List MemPlace} {fs : Array Field} (ht : P.underlying t = some (.struct fs)) (h : DataW.trod enc P w base sp held fuel t cs = some x) :
   cs.length = P.cellsOf t ∧ ∀ (i : Nat) (f : Field), fs[i]? = some f → ∃ n y, DataW.trod enc P w base sp held n f.type ((cs.drop f.offset).take (P.cellsOf f.type)) = some y := by
 obtain ⟨xs, n, _, _, hl, hx, hg⟩ := DataW.trod_struct ht h
 refine ⟨hl, fun i f hf => ?_⟩
 have h1 := hg i f hf
 have hi : i < xs.length := by rw [hx]; exact (Array.getElem?_eq_some_iff.1 hf).1
 rw [List.getElem?_eq_getElem hi] at h1
 exact ⟨n, _, h1⟩
theorem fld_int {w : World} {base : Nat} {sp : Nat → Bool} {held : Bool} {fuel : Nat} {t : TypeId} {cs : List Value} {x : DataW H × List MemPlace} {k : IntKind} (ht : P.underlying t = some (.int k)) (h : DataW.trod enc P w base sp held fuel t cs = some x) : ∃ n, cs = [.int k n] ∧ k.min ≤ n ∧ n ≤ k.max := by
 obtain ⟨n, h1, _, h2⟩ := DataW.trod_int ht h
 exact ⟨n, h1, by simpa [Lit.wf] using h2⟩
theorem fld_bool {w : World} {base : Nat} {sp : Nat → Bool} {held : Bool} {fuel : Nat} {t : TypeId} {cs : List Value} {x : DataW H × List MemPlace} (ht : P.underlying t = some .bool) (h : DataW.trod enc P w base sp held fuel t cs = some x) : ∃ b, cs = [.bool b] := by
 obtain ⟨n, h1, _⟩ := DataW.trod_bool ht h
 exact ⟨n, h1⟩
end
end Tw
/- Cutting slices; records of a list that is read. Over any program. -/
namespace Tw
open Go Go.RowKit Go.Proofs.Ytnbfljcilojllaa
section
variable {P : Program} {T E : TypeId}
theorem addr_zero (p : Option Addr) : p.map (fun a => a.add 0) = p := by cases p <;> rfl
theorem run_slt {o : Oper} {a : Act} {p : Option Addr} {n c j sz : Nat} {x z : Operand} {kd : IntKind} (ho : o.op = .slice T x none (some z) none) (hT : P.underlying T = some (.slice E)) (hsz : (P.info? E).map (·.size) = some sz) (hx : a.eval x = .slice p n c) (hz : a.eval z = .int kd ((j : Nat) : Int)) (hj : j ≤ c) (w : World) : (execOp a.eval o).run P w = .ok (.value (.slice p j c)) w := by
 have e2 := fun q => sl_bound (P := P) (k := kd) (c := q) hj w
 unfold execOp
 cases hq : P.info? E with
 | none => simp [hq] at hsz
 | some i =>
   have hs : i.size = sz := by simpa [hq] using hsz
   simp [ho, hx, hz, Instr.sliceAt, Instr.slice, Instr.sliceBounds, run_underlying hT, e2, Go.sizeOf, typeInfo, hq, hs]
   intro _
   have := addr_zero p
   simpa using this
def cutQ (p : Option Addr) (c i sz : Nat) : Option Addr := if c = i then p else p.map fun a => a.add (i * sz)
end
section
variable {α : Type} {cells : α → List Value} {sz : Nat}
theorem flat_len (hc : ∀ y, (cells y).length = sz) (l : List α) : (l.flatMap cells).length = l.length * sz := by
 induction l with
 | nil => simp
 | cons b l ih => rw [List.flatMap_cons, List.length_append, hc, ih, List.length_cons, Nat.succ_mul, Nat.add_comm]
theorem flat_take (hc : ∀ y, (cells y).length = sz) (l : List α) (k : Nat) : (l.flatMap cells).take (k * sz) = (l.take k).flatMap cells := by
 rcases Nat.le_total k l.length with hk | hk
 · conv => lhs; rw [← List.take_append_drop k l, List.flatMap_append]
   exact List.take_left' (by rw [flat_len hc, List.length_take, Nat.min_eq_left hk])
 · rw [List.take_of_length_le hk, List.take_of_length_le (by rw [flat_len hc]; exact Nat.mul_le_mul_right _ hk)]
theorem flat_drop (hc : ∀ y, (cells y).length = sz) (l : List α) (k : Nat) : (l.flatMap cells).drop (k * sz) = (l.drop k).flatMap cells := by
 rcases Nat.le_total k l.length with hk | hk
 · conv => lhs; rw [← List.take_append_drop k l, List.flatMap_append]
   exact List.drop_left' (by rw [flat_len hc, List.length_take, Nat.min_eq_left hk])
 · rw [List.drop_eq_nil_of_le hk, List.drop_eq_nil_of_le (by rw [flat_len hc]; exact Nat.mul_le_mul_right _ hk)]; rfl
theorem flat_get (hc : ∀ y, (cells y).length = sz) {l : List α} {k j : Nat} {b : α} {v : Value} (h : l[k]? = some b) (hv : (cells b)[j]? = some v) : (l.flatMap cells)[k * sz + j]? = some v := by
 obtain ⟨hk, rfl⟩ := List.getElem?_eq_some_iff.1 h
 rw [← List.getElem?_drop, flat_drop hc, List.drop_eq_getElem_cons hk, List.flatMap_cons, List.getElem?_append_left (List.getElem?_eq_some_iff.1 hv).1]
 exact hv
theorem rec_at {W : World} {p : Option Addr} {l : List α} {k : Nat} (hc : ∀ y, (cells y).length = sz) (hz : 0 < sz) (h : SLV W p (l.flatMap cells)) (hk : k < l.length) :
   ∃ b g off, l[k]? = some b ∧ p = some ⟨g, off, none⟩ ∧ g < W.heap.size ∧ ∀ (j : Nat) (v : Value), (cells b)[j]? = some v → W.cell? ⟨g, off + k * sz + j, none⟩ = some v := by
 have hy : l[k]? = some l[k] := List.getElem?_eq_getElem hk
 rcases h with h | ⟨g, off, rfl, hlt, hcel⟩
 · have := flat_len hc l
   rw [h] at this
   have h2 : 0 < l.length * sz := Nat.mul_pos Tw.om hz
   simp at this; omega
 · exact ⟨_, g, off, hy, rfl, hlt, fun j v hv => by rw [Nat.add_assoc]; exact hcel _ v (flat_get hc hy hv)⟩
theorem slv_prefix {W : World} {p : Option Addr} {xs : List Value} (n : Nat) (h : SLV W p xs) : SLV W p (xs.take n) := by
 rcases h with h | ⟨g, off, rfl, hlt, hc⟩
 · left; rw [h]; simp
 · right; refine ⟨g, off, rfl, hlt, fun i u hu => hc i u ?_⟩
   rw [List.getElem?_take] at hu
   split at hu
   · exact hu
   · cases hu
theorem slv_cut {W : World} {p : Option Addr} {xs : List Value} {c i sz : Nat} (h : SLV W p xs) (hx : xs.length ≤ c * sz) : SLV W (cutQ p c i sz) (xs.drop (i * sz)) := by
 rcases h with h | ⟨g, off, rfl, hlt, hc⟩
 · left; rw [h]; simp
 · unfold cutQ
   split
   · rename_i he
     left; rw [List.drop_eq_nil_of_le (by rw [← he]; exact hx)]
   · right
     refine ⟨g, off + i * sz, by rw [Option.map_some, addr_add], hlt, fun j u hu => ?_⟩
     rw [List.getElem?_drop] at hu
     rw [Nat.add_assoc]; exact hc _ u hu
end
end Tw
/- Lists of records that are read, among known blocks; a walk begins again where it stands. Over any program. -/
namespace Tw
open Go Go.RowKit Go.Proofs.Ytnbfljcilojllaa
def RL {α : Type} (cells : α → List Value) (W0 : Base) (p : Option Addr) (l : List α) (T : List (Nat × Obj)) : Prop := ∀ W, KS W0 T W → SLV W p (l.flatMap cells)
section
variable {P : Program} {W0 : Base} {T T' : List (Nat × Obj)} {α : Type} {cells : α → List Value} {sz : Nat} {l : List α} {p : Option Addr}
theorem RL.base {w : World} (h : SLV w p (l.flatMap cells)) : RL cells (w : Base) p l [] := fun _ hW => h.keep hW.1
theorem RL.nil {cells : α → List Value} : RL cells W0 p [] T := fun _ _ => .inl rfl
theorem RL.mono (h : RL cells W0 p l T) (hs : ∀ q ∈ T, q ∈ T') : RL cells W0 p l T' := fun W hW => h W (hW.sub hs)
theorem RL.at (h : RL cells W0 p l T) (hc : ∀ y, (cells y).length = sz) (hz : 0 < sz) {W : World} (hW : KS W0 T W) {k : Nat} (hk : k < l.length) :
   ∃ b g off, l[k]? = some b ∧ p = some ⟨g, off, none⟩ ∧ ∀ W, KS W0 T W → ∀ (j : Nat) (v : Value), (cells b)[j]? = some v → W.cell? ⟨g, off + k * sz + j, none⟩ = some v := by
 obtain ⟨b, g, off, hb, rfl, _, _⟩ := rec_at hc hz (h W hW) hk
 refine ⟨b, g, off, hb, rfl, fun W2 hW2 => ?_⟩
 obtain ⟨b2, g2, off2, hb2, he, _, hcl⟩ := rec_at hc hz (h W2 hW2) hk
 rw [hb] at hb2; cases hb2; cases he
 exact hcl
theorem RL.take (h : RL cells W0 p l T) (hc : ∀ y, (cells y).length = sz) (n : Nat) : RL cells W0 p (l.take n) T := fun W hW => by
 rw [← flat_take hc]
 exact slv_prefix _ (h W hW)
theorem RL.cut (h : RL cells W0 p l T) (hc : ∀ y, (cells y).length = sz) (c i : Nat) (hl : l.length ≤ c) : RL cells W0 (cutQ p c i sz) (l.drop i) T := fun W hW => by
 rw [← flat_drop hc]
 exact slv_cut (h W hW) (by rw [flat_len hc]; exact Nat.mul_le_mul_right _ hl)
theorem own_rl {E : TypeId} {v : Value} {n : Nat} (h : OwnL W0 E sz v n (l.flatMap cells) T) : ∃ p c, v = .slice p n c ∧ n ≤ c ∧ RL cells W0 p l T := by
 rcases h with ⟨rfl, h2, rfl, rfl⟩ | ⟨g, cap, cur, rfl, hB, hR, rfl⟩
 · exact ⟨none, 0, rfl, Nat.le_refl _, fun _ _ => .inl h2⟩
 · refine ⟨_, cap, rfl, hR.2.2.1, fun W hW => ?_⟩
   have hb := hW.2 _ Tw.m0
   exact .inr ⟨g, 0, rfl, lt_of_block hb, hR.cel hb⟩
theorem src_rl {U E : TypeId} {m c : Nat} (hU : P.underlying U = some (.slice E)) (hc : ∀ y, (cells y).length = sz) (h1 : ∀ y, ∀ v ∈ cells y, v.oneCell' = true) (hz : 0 < sz) (h : RL cells W0 p l T) (hm : m = l.length) : ∀ w, KS W0 T w → Src P sz U (.slice p m c) m (l.flatMap cells) w := by
 intro w hw
 subst hm
 have hone : ∀ u ∈ l.flatMap cells, u.oneCell' = true := fun u hu => by
   obtain ⟨y, _, hy⟩ := List.mem_flatMap.1 hu
   exact h1 y u hy
 rcases h w hw with h0 | ⟨b, off, rfl, hlt, hcl⟩
 · have hl : l = [] := by
     have h3 : ([] : List Value).length = l.length * sz := by rw [← h0]; exact flat_len hc l
     rw [List.length_nil] at h3
     rcases l with _ | ⟨y, l⟩
     · rfl
     · have h2 : 0 < (y :: l).length * sz := Nat.mul_pos (by simp) hz
       omega
   subst hl
   cases p with
   | none => exact Src.ofNil w hU c
   | some ad => exact Src.ofSlice w hU ad 0 c [] (by simp) (fun j u h => by simp at h) (fun u hu => by cases hu)
 · exact Src.ofSlice w hU ⟨b, off, none⟩ l.length c (l.flatMap cells) (flat_len hc l) (fun j u hj => by rw [addr_add]; exact hcl j u hj) hone
theorem yb_rs {o : Oper} {a : Act} {K : List (Nat × Obj)} {ty : TypeId} {x : Operand} {g off : Nat} {cs : List Value} {D : TypeDesc} (ho : o.op = .load ty x) (hx : a.eval x = .pointer (some ⟨g, off, none⟩))
   (hc : ∀ W, KS W0 K W → ∀ (j : Nat) (v : Value), cs[j]? = some v → W.cell? ⟨g, off + j, none⟩ = some v) (hu : P.underlying ty = some D) (hd : aggD D = true) (hi : (P.info? ty).map (·.size) = some cs.length) :
   ∀ w, KS W0 K w → ∀ K' : Act → World → Prop, (∀ w', Below w.heap.size w w' → K' (a.put o.dst (.agg cs.toArray)) w') → Oper.wp P o a w K' (fun _ _ _ => False) := by
 intro w hw K' hk
 have hr := run_loadVar_list (P := P) (ty := ty) (cs := cs) w (hc w hw) hu hd hi
 unfold Oper.wp execOp
 simp only [ho, hx, Instr.loadAt, Instr.sureAddr, Sem.run_bind, Sem.run_pure, Result.andThen_ok, hr]
 exact hk w (Below.refl _ _)
theorem yb_rf {o : Oper} {a : Act} {K : List (Nat × Obj)} {ty : TypeId} {x : Operand} {g off : Nat} {v : Value} {D : TypeDesc} (ho : o.op = .load ty x) (hx : a.eval x = .pointer (some ⟨g, off, none⟩))
   (hc : ∀ W, KS W0 K W → W.cell? ⟨g, off, none⟩ = some v) (hu : P.underlying ty = some D) (hd : aggD D = false) :
   ∀ w, KS W0 K w → ∀ K' : Act → World → Prop, (∀ w', Below w.heap.size w w' → K' (a.put o.dst v) w') → Oper.wp P o a w K' (fun _ _ _ => False) := by
 intro w hw K' hk
 have hagg : (isAgg ty).run P w = .ok false w := by
   unfold isAgg
   rw [Sem.run_bind, run_underlying hu w]
   unfold aggD at hd
   cases D <;> simp_all
 have hr : (loadVar ty ⟨g, off, none⟩).run P w = .ok v w := by
   simp [loadVar, Sem.run_bind, hagg, hc w hw]
 unfold Oper.wp execOp
 simp only [ho, hx, Instr.loadAt, Instr.sureAddr, Sem.run_bind, Sem.run_pure, Result.andThen_ok, hr]
 exact hk w (Below.refl _ _)
theorem calls_rl {W : World} {K : List (Nat × Obj)} {E : TypeId} {n : Nat} {f : FuncId} {args : Array Value} (hW : KS W0 K W) (h : Calls P f args W fun e w' => ∃ v, e = .returned v ∧ OutV W w' E sz v n (l.flatMap cells) ∧ Below W.heap.size W w') :
   Calls P f args W fun e w' => ∃ v K', e = .returned v ∧ KS W0 K' w' ∧ (∃ p c Kl, v = .slice p n c ∧ n ≤ c ∧ RL cells W0 p l Kl ∧ (∀ p ∈ K, ∀ q ∈ Kl, q.1 ≠ p.1) ∧ K' = K ++ Kl) :=
 h.mono fun e w' ⟨v, he, hO, hb⟩ => by
   obtain ⟨Kl, h1, h2, h3⟩ := hO.own hW hb
   obtain ⟨p, c, hv, hn, hR⟩ := own_rl h1
   exact ⟨v, _, he, h3, p, c, Kl, hv, hn, hR, h2, rfl⟩
end
section
variable {P : Program} {ops : Array Oper} {Q : Exit → Act → World → Prop} {W0 : Base}
theorem wpL_sub {rest : List Oper} {a : Act} {K K2 : List (Nat × Obj)} (hs : ∀ p ∈ K2, p ∈ K) (h : wpL P ops Q W0 rest a K2) : wpL P ops Q W0 rest a K := ⟨fun w hK => h.of w (hK.sub hs)⟩
theorem wpL_rebase {rest : List Oper} {a : Act} {K : List (Nat × Obj)} (h : ∀ W : World, KS W0 K W → wpL P ops Q (W : Base) rest a []) : wpL P ops Q W0 rest a K := ⟨fun w hK => (h w hK).of w (KS.start w)⟩
end
section
variable {P : Program}
theorem run_max2 {o : Oper} {a : Act} {x y z : Int} {px py : Operand} {tx ty : TypeId} (ho : o.op = .call { callee := .builtin .max, args := #[px, py], argTypes := #[tx, ty] }) (hx : a.eval px = .int .i64 x) (hy : a.eval py = .int .i64 y) (hz : max x y = z) (w : World) : (execOp a.eval o).run P w = .ok (.value (.int .i64 z)) w := by
 subst hz
 unfold execOp
 simp [ho, resolve, invoke, builtin, hx, hy, run_max_int2]
 omega
theorem run_min2 {o : Oper} {a : Act} {x y z : Int} {px py : Operand} {tx ty : TypeId} (ho : o.op = .call { callee := .builtin .min, args := #[px, py], argTypes := #[tx, ty] }) (hx : a.eval px = .int .i64 x) (hy : a.eval py = .int .i64 y) (hz : min x y = z) (w : World) : (execOp a.eval o).run P w = .ok (.value (.int .i64 z)) w := by
 subst hz
 unfold execOp
 simp [ho, resolve, invoke, builtin, hx, hy, run_min_int2]
 omega
end
end Tw
/- Maps that are sets of keys, whose keys are compared by asking: what their entries are, among known blocks. Over any program. -/
namespace Tw
open Go Go.RowKit Go.Proofs.Ytnbfljcilojllaa
section
variable {κ : Type} [DecidableEq κ] {kv : κ → Value} {P : Program} {W0 : Base} {T kt et : TypeId}
structure KeyOk (P : Program) (kt : TypeId) (kv : κ → Value) : Prop where
 check : ∀ (b : Bool) (k : κ) (w : World), (Instr.checkKey b 10000 kt (kv k)).run P w = .ok () w
 same : ∀ (a b : κ) (w : World), (Op.equal kt (kv a) (kv b)).run P w = .ok (decide (a = b)) w
 und : ∃ d, P.underlying kt = some d ∧ ∀ (a b : κ), Instr.sameNow d (kv a) (kv b) = none
def SetM (kv : κ → Value) (es : Array MapEntry) (L : List κ) : Prop := es.toList.map (fun e => (e.key, e.val)) = L.map fun k => (kv k, .bool true)
theorem SetM.nil : SetM kv #[] [] := rfl
theorem find_ask (hK : KeyOk P kt kv) (k : κ) (w : World) : ∀ (es : List MapEntry) (L : List κ) (i : Nat), es.map (fun e => (e.key, e.val)) = L.map (fun k => (kv k, .bool true)) → ∃ r, (Instr.findAsking kt (kv k) es i).run P w = .ok r w ∧ r.map (·.2) = if k ∈ L then some (Value.bool true) else none
 | [], [], _, _ => ⟨none, rfl, by simp⟩
 | [], _ :: _, _, h => by cases h
 | _ :: _, [], _, h => by cases h
 | e :: es, x :: L, i, h => by
   rw [List.map_cons, List.map_cons] at h
   obtain ⟨h1, h2⟩ := List.cons.inj h
   obtain ⟨hk, hv⟩ := Prod.mk.inj h1
   unfold Instr.findAsking
   by_cases hx : k = x
   · refine ⟨some (i, e.val), ?_, by simp [hx, hv]⟩
     rw [Sem.run_bind, hk, hK.same]
     simp [hx]
   · obtain ⟨r, hr, hm⟩ := find_ask hK k w es L (i + 1) h2
     refine ⟨r, ?_, by rw [hm]; simp [hx]⟩
     rw [Sem.run_bind, hk, hK.same]
     simp [hx, hr]
theorem find_key (hK : KeyOk P kt kv) {es : Array MapEntry} {L : List κ} (h : SetM kv es L) (k : κ) (w : World) : ∃ r, (Instr.findKey kt (kv k) es.toList).run P w = .ok r w ∧ r.map (·.2) = if k ∈ L then some (Value.bool true) else none := by
 obtain ⟨d, hu, hn⟩ := hK.und
 obtain ⟨r, hr, hm⟩ := find_ask hK k w es.toList L 0 h
 unfold SetM at h
 unfold Instr.findKey
 rw [Sem.run_bind, run_underlying hu w]
 simp only [Result.andThen_ok]
 cases he : es.toList with
 | nil =>
   rw [he] at h
   have hL : L = [] := by cases L with | nil => rfl | cons x L => cases h
   subst hL
   exact ⟨none, rfl, by simp⟩
 | cons e t =>
   rw [he] at h hr
   cases L with
   | nil => cases h
   | cons x L =>
     rw [List.map_cons, List.map_cons] at h
     obtain ⟨h1, h2⟩ := List.cons.inj h
     obtain ⟨hk, hv⟩ := Prod.mk.inj h1
     have hnow : Instr.findNow d (kv k) (e :: t) 0 = none := by
       unfold Instr.findNow
       rw [hk, hn]
     rw [hnow]
     exact ⟨r, hr, hm⟩
theorem run_lookup_set (hK : KeyOk P kt kv) {es : Array MapEntry} {cl g : Nat} {L : List κ} {w : World} (hg : w.heap[g]? = some (.map es cl)) (hT : P.underlying T = some (.map kt et)) (hz : ∀ w, (zeroValue et).run P w = .ok (.bool false) w) (h : SetM kv es L) (k : κ) :
   (Instr.lookup T (.map (some g)) (kv k) false).run P w = .ok (.bool (decide (k ∈ L))) w := by
 obtain ⟨r, hr, hm⟩ := find_key hK h k w
 unfold Instr.lookup
 simp only [Sem.run_bind, run_underlying hT w, Result.andThen_ok, Sem.run_pure, MapKept.run_getObj_map hg, hK.check, hr]
 by_cases hx : k ∈ L
 · rw [if_pos hx] at hm
   cases r with
   | none => cases hm
   | some r => simp at hm; simp [hm, hx]
 · rw [if_neg hx] at hm
   cases r with
   | none => simp [hz w, hx]
   | some r => cases hm
theorem yb_lookset (hK : KeyOk P kt kv) {o : Oper} {a : Act} {K : List (Nat × Obj)} {x y : Operand} {g cl : Nat} {es : Array MapEntry} {L : List κ} {k : κ} (ho : o.op = .lookup T x y false) (hx : a.eval x = .map (some g)) (hy : a.eval y = kv k)
   (hm : (g, .map es cl) ∈ K) (hT : P.underlying T = some (.map kt et)) (hz : ∀ w, (zeroValue et).run P w = .ok (.bool false) w) (h : SetM kv es L) {b : Bool} (hb : b = true ↔ k ∈ L) :
   ∀ w, KS W0 K w → ∀ K' : Act → World → Prop, (∀ w', Below w.heap.size w w' → K' (a.put o.dst (.bool b)) w') → Oper.wp P o a w K' (fun _ _ _ => False) := by
 intro w hw K' hk'
 have hr := run_lookup_set (P := P) hK (hw.2 _ hm) hT hz h k
 have e : decide (k ∈ L) = b := by rw [Bool.eq_iff_iff, decide_eq_true_iff]; exact hb.symm
 rw [e] at hr
 unfold Oper.wp execOp
 simp only [ho, hx, hy, Sem.run_bind, hr, Result.andThen_ok, Sem.run_pure]
 exact hk' w (Below.refl _ _)
def addM (kv : κ → Value) (es : Array MapEntry) (cl : Nat) (k : κ) : Array MapEntry := es.push { key := kv k, val := .bool true, born := cl }
theorem SetM.add {es : Array MapEntry} {L : List κ} (h : SetM kv es L) (cl : Nat) (k : κ) : SetM kv (addM kv es cl k) (L ++ [k]) := by
 unfold SetM addM at *
 simp only [Array.toList_push, List.map_append, h, List.map_cons, List.map_nil]
theorem st_addm (hK : KeyOk P kt kv) {o : Oper} {a : Act} {K K' : List (Nat × Obj)} {x y u : Operand} {g cl : Nat} {es : Array MapEntry} {L : List κ} {k : κ} (ho : o.op = .mapUpdate T x y u) (hx : a.eval x = .map (some g)) (hy : a.eval y = kv k) (hu : a.eval u = .bool true)
   (hm : (g, .map es cl) ∈ K) (hB : W0.B ≤ g) (hT : P.underlying T = some (.map kt et)) (h : SetM kv es L) (hn : k ∉ L)
   (hKs : ∀ p ∈ K', p = (g, .map (addM kv es cl k) (cl + 1)) ∨ (p ∈ K ∧ p.1 ≠ g)) : ∀ w, KS W0 K w → ∃ w', (execOp a.eval o).run P w = .ok .skip w' ∧ KS W0 K' w' := by
 intro w hw
 have hg := hw.2 _ hm
 obtain ⟨r, hr, hrm⟩ := find_key (P := P) hK h k w
 rw [if_neg hn] at hrm
 have hr0 : r = none := by cases r with | none => rfl | some r => cases hrm
 subst hr0
 have hrun : (Instr.mapUpdate T (.map (some g)) (kv k) (.bool true)).run P w = .ok () { w with heap := w.heap.setIfInBounds g (.map (addM kv es cl k) (cl + 1)) } := by
   unfold Instr.mapUpdate addM
   simp only [Sem.run_bind, run_underlying hT w, Result.andThen_ok, MapKept.run_getObj_map hg, hK.check, hr, MapKept.run_setObj_map _ hg]
 refine ⟨ChangeMaps.setBlock w g (.map (addM kv es cl k) (cl + 1)), ?_, ⟨⟨hw.1.os, hw.1.tape, hw.1.output, ?_, fun j hj => ?_⟩, fun p hp => ?_⟩⟩
 · unfold execOp
   simp only [ho, hx, hy, hu, Sem.run_bind, hrun, Result.andThen_ok, Sem.run_pure]
   rfl
 · simpa [ChangeMaps.setBlock] using hw.1.size
 · have hne : j ≠ g := by omega
   exact (ChangeMaps.heap_setBlock_other hg _ hne).trans (hw.1.block j hj)
 · rcases hKs p hp with rfl | ⟨hp, hne⟩
   · exact ChangeMaps.heap_setBlock_same hg _
   · exact (ChangeMaps.heap_setBlock_other hg _ hne).trans (hw.2 _ hp)
end
abbrev I3 := Int × Int × Int
abbrev I2 := Int × Int
def kv3 (k : I3) : Value := .agg #[.int .i64 k.1, .int .i64 k.2.1, .int .i64 k.2.2]
def kv2 (k : I2) : Value := .agg #[.int .i64 k.1, .int .i64 k.2]
end Tw
namespace Go.Proofs.Ytnbfljcilojllaa
open Go Go.RowKit Tw
theorem check_i (b : Bool) (n : Nat) (k : IntKind) (v : Int) (w : World) : (Instr.checkKey b (n + 1) 3 (.int k v)).run Try.prog w = .ok () w := by
 unfold Instr.checkKey
 rw [Sem.run_bind, run_underlying Try.underlying3 w]
 rfl
theorem eq_i (d : Nat) (x y : Int) (w : World) : (Op.equalIn (d + 1) 3 (.int .i64 x) (.int .i64 y)).run Try.prog w = .ok (decide (x = y)) w := by
 unfold Op.equalIn
 rw [Sem.run_bind, run_underlying Try.underlying3 w]
 have e : (x == y) = decide (x = y) := by rw [Bool.eq_iff_iff]; simp
 simp [e]
theorem part_i {cs : Array Value} {i : Nat} {v : Value} (h : cs[i]? = some v) (w : World) : (part 3 cs i).run Try.prog w = .ok v w := by
 have hagg : (isAgg 3).run Try.prog w = .ok false w := by
   unfold isAgg
   rw [Sem.run_bind, run_underlying Try.underlying3 w]
   rfl
 unfold part
 simp [Sem.run_bind, hagg, h]
theorem eq_step {n i : Nat} {xs ys : Array Value} {x y : Int} {is : List Nat} (h : ∀ x y w, (Op.equalIn n 3 (.int .i64 x) (.int .i64 y)).run Try.prog w = .ok (decide (x = y)) w) (hx : xs[i * 1]? = some (.int .i64 x)) (hy : ys[i * 1]? = some (.int .i64 y)) {w : World} {b : Bool} (hr : (Op.eqItems n 3 1 xs ys is).run Try.prog w = .ok b w) :
   (Op.eqItems n 3 1 xs ys (i :: is)).run Try.prog w = .ok (decide (x = y) && b) w := by
 simp only [Op.eqItems, Sem.run_bind, part_i hx, part_i hy, Result.andThen_ok, h]
 by_cases e : x = y
 · simp [e, hr]
 · simp [e]
theorem eq_done {n : Nat} {xs ys : Array Value} {w : World} : (Op.eqItems n 3 1 xs ys []).run Try.prog w = .ok true w := by simp [Op.eqItems]
set_option maxRecDepth 100000 in
theorem key3 : KeyOk Try.prog 177 kv3 := by
 refine ⟨fun b k w => ?_, fun a b w => ?_, _, Try.underlying177, fun a b => rfl⟩
 · have h := fun v w => check_i b 9998 .i64 v w
   unfold kv3
   rw [show (10000 : Nat) = 9999 + 1 from rfl]
   unfold Instr.checkKey
   generalize (9999 : Nat) = n at h ⊢
   go_simp
   rw [show List.range' 0 3 = [0, 1, 2] from rfl]
   go_simp
 · obtain ⟨a1, a2, a3⟩ := a
   obtain ⟨b1, b2, b3⟩ := b
   have h : ∀ x y w, (Op.equalIn 9999 3 (.int .i64 x) (.int .i64 y)).run Try.prog w = .ok (decide (x = y)) w := fun x y w => eq_i 9998 x y w
   obtain ⟨i, hi⟩ : ∃ i, Try.prog.info? 3 = some i := Option.isSome_iff_exists.1 Tw.kr
   unfold kv3 Op.equal Op.maxDepth
   rw [show (10000 : Nat) = 9999 + 1 from rfl, run_equalIn_array w 9999 _ _ Try.underlying177 hi]
   rw [show List.range 3 = [0, 1, 2] from rfl, show Try.prog.cellsOf 3 = 1 by kernel_rfl]
   refine (eq_step h rfl rfl (eq_step h rfl rfl (eq_step h rfl rfl eq_done))).trans ?_
   congr 1
   simp [Prod.mk.injEq]
set_option maxRecDepth 100000 in
theorem key2 : KeyOk Try.prog 181 kv2 := by
 refine ⟨fun b k w => ?_, fun a b w => ?_, _, Try.underlying181, fun a b => rfl⟩
 · have h := fun v w => check_i b 9998 .i64 v w
   unfold kv2
   rw [show (10000 : Nat) = 9999 + 1 from rfl]
   unfold Instr.checkKey
   generalize (9999 : Nat) = n at h ⊢
   go_simp
   rw [show List.range' 0 2 = [0, 1] from rfl]
   go_simp
 · obtain ⟨a1, a2⟩ := a
   obtain ⟨b1, b2⟩ := b
   have h : ∀ x y w, (Op.equalIn 9999 3 (.int .i64 x) (.int .i64 y)).run Try.prog w = .ok (decide (x = y)) w := fun x y w => eq_i 9998 x y w
   obtain ⟨i, hi⟩ : ∃ i, Try.prog.info? 3 = some i := Option.isSome_iff_exists.1 Tw.kr
   unfold kv2 Op.equal Op.maxDepth
   rw [show (10000 : Nat) = 9999 + 1 from rfl, run_equalIn_array w 9999 _ _ Try.underlying181 hi]
   rw [show List.range 2 = [0, 1] from rfl, show Try.prog.cellsOf 3 = 1 by kernel_rfl]
   refine (eq_step h rfl rfl (eq_step h rfl rfl eq_done)).trans ?_
   congr 1
   simp [Prod.mk.injEq]
end Go.Proofs.Ytnbfljcilojllaa
/- Loops over a string, calls of method values, lists cut to nothing. Over any program. -/
namespace Tw
open Go Go.RowKit Go.Proofs.Ytnbfljcilojllaa
section
variable {P : Program} {W0 : Base} {T E : TypeId}
end
section
def OVp {α : Type} (B : Nat) (E : TypeId) (R : World → Value → α → Prop) (W : World) (p : Option Addr) (l : List α) : Prop :=
 ∃ vs : List Value, vs.length = l.length ∧ (vs = [] ∨ ∃ g cur, p = some ⟨g, 0, none⟩ ∧ B ≤ g ∧ W.heap[g]? = some (.cells cur E (0, 0)) ∧ cur.toList.take vs.length = vs) ∧ ∀ (k : Nat) (x : Value) (y : α), vs[k]? = some x → l[k]? = some y → R W x y
def OV {α : Type} (B : Nat) (E : TypeId) (R : World → Value → α → Prop) (W : World) (v : Value) (l : List α) : Prop := ∃ p cap, v = .slice p l.length cap ∧ OVp B E R W p l
theorem OV.keeps {α : Type} {B : Nat} {E : TypeId} {R : World → Value → α → Prop} (hR : Keeps R) : Keeps (OV B E R) := by
 rintro W W' v y ⟨p, cap, h1, vs, h2, h3, h4⟩ hB
 refine ⟨p, cap, h1, vs, h2, h3.imp id ?_, fun k x y hx hy => hR _ _ _ _ (h4 k x y hx hy) hB⟩
 rintro ⟨g, cur, e1, e2, e3, e4⟩
 exact ⟨g, cur, e1, e2, (hB.block g (lt_of_block e3)).trans e3, e4⟩
theorem OVp.lvp {α : Type} {B : Nat} {E : TypeId} {R R' : World → Value → α → Prop} (hR : ∀ W v y, R W v y → R' W v y) {W : World} {p : Option Addr} {l : List α} (h : OVp B E R W p l) : LVp R' W p l := by
 obtain ⟨vs, h2, h3, h4⟩ := h
 refine ⟨vs, ?_, h2, fun k x y hx hy => hR _ _ _ (h4 k x y hx hy)⟩
 rcases h3 with h | ⟨g, cur, e1, e2, e3, e4⟩
 · exact .inl h
 · refine .inr ⟨g, 0, e1, lt_of_block e3, fun i u hu => ?_⟩
   rw [Nat.zero_add, cell_of_row W g i cur _ _ e3]
   rw [← e4, List.getElem?_take] at hu
   split at hu
   · simpa using hu
   · cases hu
theorem OV.lv {α : Type} {B : Nat} {E : TypeId} {R R' : World → Value → α → Prop} (hR : ∀ W v y, R W v y → R' W v y) (W : World) (v : Value) (l : List α) (h : OV B E R W v l) : LV R' W v l := by
 obtain ⟨p, cap, h1, h2⟩ := h
 exact ⟨p, cap, h1, h2.lvp hR⟩
theorem MkE.own {α : Type} {R : World → Value → α → Prop} {W0 : Base} {E : TypeId} {v : Value} {n : Nat} {xs : List Value} {l : List α} {K T : List (Nat × Obj)} (hO : OwnL W0 E 1 v n xs K) (hE : MkE R W0 xs l T) (hn : n = l.length) : MkV (OV W0.B E R) W0 v l (T ++ K) := by
 obtain ⟨h1, h2⟩ := hE
 intro W hW
 have hA := h2 W (hW.sub (fun p hp => List.mem_append_left K hp))
 rcases hO with ⟨rfl, rfl, rfl, rfl⟩ | ⟨g, cap, cur, rfl, hB, hR, rfl⟩
 · exact ⟨none, 0, by rw [← hn], [], h1, .inl rfl, hA⟩
 · have hb := hW.2 _ (List.mem_append_right T Tw.m0)
   refine ⟨some ⟨g, 0, none⟩, cap, by rw [hn], xs, h1, .inr ⟨g, cur, rfl, hB, hb, ?_⟩, hA⟩
   have := hR.2.2.2.2
   rwa [Nat.mul_one, hn, ← h1] at this
end
end Tw
/- Paths of a walk that come together again. -/
namespace Tw
open Go Go.RowKit Go.Proofs.Ytnbfljcilojllaa
def normQ (R : Act → World → Prop) : Exit → Act → World → Prop
 | .normal, a, w => R a w
 | _, _, _ => False
def preW (P : Program) (R : Act → World → Prop) : Nat → Code → Act → World → Prop
 | 0, _, a, w => R a w
 | n + 1, .seq x y, a, w => x.wp P (normQ (preW P R n y)) a w
 | _ + 1, _, _, _ => False
def cutT : Nat → Code → Code
 | n + 1, .seq _ b => cutT n b
 | _, c => c
theorem wp_joins {P : Program} {Q : Exit → Act → World → Prop} (R : Act → World → Prop) : ∀ (n : Nat) {c : Code} {a : Act} {w : World}, preW P R n c a w → (∀ a' w', R a' w' → (cutT n c).wp P Q a' w') → c.wp P Q a w
 | 0, c, a, w, h1, h2 => by
   have := h2 a w h1
   cases c <;> exact this
 | n + 1, c, a, w, h1, h2 => by
   cases c with
   | seq x y =>
     refine wp_seq (wp_mono h1 ?_)
     rintro e a' w' hq
     cases e with
     | normal => exact wp_joins R n hq h2
     | _ => exact hq.elim
   | _ => exact h1.elim
def JoinR (F : (Nat → Value) → Array Value) (W0 : Base) (K : List (Nat × Obj)) (a : Act) (w : World) : Prop := (∃ z, a = { tmps := F z, defers := [] }) ∧ KS W0 K w
theorem join_mk {F : (Nat → Value) → Array Value} {W0 : Base} {K : List (Nat × Obj)} {T : Array Value} {w : World} (h : F (fun i => T.getD i undef) = T) (hK : KS W0 K w) : JoinR F W0 K { tmps := T, defers := [] } w := ⟨⟨_, by rw [h]⟩, hK⟩
end Tw
/- Steps of a drawn statement where several operations may come next. Over any program. -/
namespace Tw
open Go Go.RowKit Go.Proofs.Ytnbfljcilojllaa
section
variable {P : Program} {md : Region.Mode} {ops : Array Oper} {Q R : Exit → Act → World → Prop} {W0 : Base}
theorem vb {i : Nat} {oi : Oper} {v : Value} {d n : Nat} {listed : Array Bool} {tm : Array Value} {df : List Deferred} {K : List (Nat × Obj)} {T : Array Value} (hi : ops[i]? = some oi) (hd : oi.dst = some d) (hw : Region.wanted oi (yielded ops tm) = true)
   (hy : ∀ w, KS W0 [] w → ∀ K' : Act → World → Prop, (∀ w', Below w.heap.size w w' → K' (Act.put ⟨tm, df⟩ oi.dst v) w') → Oper.wp P oi ⟨tm, df⟩ w K' (fun _ _ _ => False))
   (h : wpV P md ops Q W0 n (listed.setIfInBounds i true) ⟨T, df⟩ K) (hlt : Nat.blt d tm.size = true := by kernel_rfl) (hf : freeP md ops listed i = true := by kernel_rfl) (hT : tm.setIfInBounds d v = T := by simp only [List.setIfInBounds_toArray, List.set_cons_succ, List.set_cons_zero] <;> rfl) : wpV P md ops Q W0 (n + 1) listed ⟨tm, df⟩ K := by
 unfold freeP at hf
 simp only [Bool.and_eq_true] at hf
 obtain ⟨h1, h2, h3, h4⟩ := hf
 refine wpV_first (v := v) hi (Region.noSelect_spec h1) n listed _ K (closed_of h4) (Region.free_spec hi h2) (by simpa using h3)
   (.inl fun K' => .inl ⟨hw, fun w hk => Oto.of_wp hd (Nat.le_of_ble_eq_true hlt) (hy w (hk.sub (fun _ h => by cases h)))⟩) ?_
 rw [hd]
 subst hT
 exact h
end
-- a statement that has the world of now as its base
end Tw
/- A package-level variable of plain data reads as its cells: structs, arrays, numbers, bools, strings. Over any program. -/
namespace Tw
open Go Go.RowKit Go.Proofs.Ytnbfljcilojllaa
section
variable {H : Type} {P : Program}
end
end Tw
/- What the layer ship says, in plain lists of columns and covers; how these lie in memory. -/
namespace Go.Proofs.Ytnbfljcilojllaa
open Go Go.RowKit Tw
structure Col where
 bay : Int
 row : Int
 deck : Bool
 tiers : Int
 height : Int
 k20 : Int
 k40 : Int
 lash : Int
 plugs : List Int
 pp : Option Addr
 pc : Nat
 x : Int
 y : Int
 z : Int
structure Cov where
 bay : Int
 rows : List Int
 rp : Option Addr
 rc : Nat
def inC (n : Int) : List Value := [.int .i64 n]
def colC (c : Col) : List Value := [.int .i64 c.bay, .int .i64 c.row, .bool c.deck, .int .i64 c.tiers, .int .i64 c.height, .int .i64 c.k20, .int .i64 c.k40, .int .i64 c.lash, .slice c.pp c.plugs.length c.pc, .int .i64 c.x, .int .i64 c.y, .int .i64 c.z]
def covC (c : Cov) : List Value := [.int .i64 c.bay, .slice c.rp c.rows.length c.rc]
theorem inC_len (n : Int) : (inC n).length = 1 := rfl
theorem colC_len (c : Col) : (colC c).length = 12 := rfl
theorem covC_len (c : Cov) : (covC c).length = 2 := rfl
theorem colC_one (c : Col) : ∀ v ∈ colC c, v.oneCell' = true := fun v hv => by
 unfold colC at hv
 simp only [List.mem_cons, List.not_mem_nil, or_false] at hv
 rcases hv with rfl | rfl | rfl | rfl | rfl | rfl | rfl | rfl | rfl | rfl | rfl | rfl <;> rfl
theorem covC_one (c : Cov) : ∀ v ∈ covC c, v.oneCell' = true := fun v hv => by
 unfold covC at hv
 simp only [List.mem_cons, List.not_mem_nil, or_false] at hv
 rcases hv with rfl | rfl <;> rfl
structure Tl where
 a0 : Value
 a1 : Value
 a2 : Value
 a3 : Value
 a4 : Value
 a5 : Value
 a6 : Value
 a7 : Value
 a8 : Value
 a9 : Value
 aA : Value
def shC (cv ov : Value) (t : Tl) : List Value := [cv, ov, t.a0, t.a1, t.a2, t.a3, t.a4, t.a5, t.a6, t.a7, t.a8, t.a9, t.aA]
def tl0 : Tl := ⟨.int .i64 0, .int .i64 0, .int .i64 0, .int .i64 0, .slice none 0 0, .slice none 0 0, .slice none 0 0, .int .i64 0, .int .i64 0, .int .i64 0, .int .i64 0⟩
def OneT (t : Tl) : Prop := t.a0.oneCell' = true ∧ t.a1.oneCell' = true ∧ t.a2.oneCell' = true ∧ t.a3.oneCell' = true ∧ t.a4.oneCell' = true ∧ t.a5.oneCell' = true ∧ t.a6.oneCell' = true ∧ t.a7.oneCell' = true ∧ t.a8.oneCell' = true ∧ t.a9.oneCell' = true ∧ t.aA.oneCell' = true
theorem tl0_one : OneT tl0 := ⟨rfl, rfl, rfl, rfl, rfl, rfl, rfl, rfl, rfl, rfl, rfl⟩
-- what the layer says
def isAt (bay row : Int) (deck : Bool) (c : Col) : Bool := decide (c.bay = bay) && (decide (c.row = row) && (c.deck == deck))
def fiN : Option Nat → Int
 | some k => ((k : Nat) : Int)
 | none => -1
def findN : Option Nat → Int
 | some k => ((k : Nat) : Int)
 | none => 0
def elB {α : Type} (l : List α) (n : Int) : Bool := !decide (n < 0) && decide (n < ((l.length : Nat) : Int))
def elC {α : Type} (d : α) (l : List α) (n : Int) : α := if n < 0 then d else (l[n.toNat]?).getD d
def col0 : Col := ⟨0, 0, false, 0, 0, 0, 0, 0, [], none, 0, 0, 0, 0⟩
theorem el_neg {α : Type} {d : α} {l : List α} {n : Int} (h : n < 0) : elB l n = false ∧ elC d l n = d := by simp [elB, elC, h]
theorem el_big {α : Type} {d : α} {l : List α} {n : Int} (h : ¬ n < 0) (h2 : ¬ n < ((l.length : Nat) : Int)) : elB l n = false ∧ elC d l n = d := by
 refine ⟨by simp [elB, h2], ?_⟩
 unfold elC
 rw [if_neg h, List.getElem?_eq_none Tw.om]
 rfl
theorem el_in {α : Type} {d : α} {l : List α} {n : Int} {y : α} (h : ¬ n < 0) (hy : l[n.toNat]? = some y) : elB l n = true ∧ elC d l n = y := by
 have hl := (List.getElem?_eq_some_iff.1 hy).1
 refine ⟨?_, by unfold elC; rw [if_neg h, hy]; rfl⟩
 unfold elB
 simp [h]; omega
theorem el_mem {α : Type} {d : α} {l : List α} {n : Int} (h : elB l n = true) : l[n.toNat]? = some (elC d l n) ∧ 0 ≤ n ∧ n < ((l.length : Nat) : Int) := by
 unfold elB at h
 simp at h
 have hy : l[n.toNat]? = some (l[n.toNat]'Tw.om) := List.getElem?_eq_getElem _
 exact ⟨by rw [(el_in (d := d) Tw.om hy).2]; exact hy, by omega, by omega⟩
def fstF {α : Type} (P : α → Bool) : Nat → List α → Option Nat
 | _, [] => none
 | i, x :: l => if P x = true then some i else fstF P (i + 1) l
def fst {α : Type} (P : α → Bool) (l : List α) : Option Nat := fstF P 0 l
theorem fstF_app {α : Type} (P : α → Bool) (l m : List α) : ∀ i, fstF P i l = none → fstF P i (l ++ m) = fstF P (i + l.length) m := by
 induction l with
 | nil => intro i _; simp
 | cons x l ih =>
   intro i h
   unfold fstF at h
   split at h
   · cases h
   · rename_i hx
     show (if P x = true then some i else fstF P (i + 1) (l ++ m)) = _
     rw [if_neg hx, ih _ h, List.length_cons]
     congr 1; omega
section
variable {α : Type} {P : α → Bool} {l : List α} {k : Nat} {x : α}
theorem fst_zero : fstF P 0 (l.take 0) = none := rfl
theorem fst_next (h : fstF P 0 (l.take k) = none) (hx : l[k]? = some x) (hp : P x = false) : fstF P 0 (l.take (k + 1)) = none := by
 obtain ⟨hk, rfl⟩ := List.getElem?_eq_some_iff.1 hx
 rw [List.take_succ_eq_append_getElem hk, fstF_app _ _ _ _ h]
 simp [fstF, hp]
theorem fst_here (h : fstF P 0 (l.take k) = none) (hx : l[k]? = some x) (hp : P x = true) : fst P l = some k := by
 obtain ⟨hk, rfl⟩ := List.getElem?_eq_some_iff.1 hx
 unfold fst
 conv => lhs; rw [← List.take_append_drop k l]
 rw [fstF_app _ _ _ _ h, List.drop_eq_getElem_cons hk]
 simp only [fstF, hp, if_true, List.length_take, Nat.zero_add]
 congr 1; omega
theorem fst_end (h : fstF P 0 (l.take k) = none) (hk : ¬ k < l.length) : fst P l = none := by
 rwa [List.take_of_length_le Tw.om] at h
theorem fst_none (h : fst P l = none) : ∀ x ∈ l, P x = false := by
 have key : ∀ (l : List α) i, fstF P i l = none → ∀ x ∈ l, P x = false := by
   intro l
   induction l with
   | nil => intro i _ x hx; cases hx
   | cons y l ih =>
     intro i h x hx
     unfold fstF at h
     split at h
     · cases h
     · rename_i hy
       rcases List.mem_cons.1 hx with rfl | hx
       · simpa using hy
       · exact ih _ h x hx
 exact key l 0 h
theorem fst_some (h : fst P l = some k) : ∃ x, l[k]? = some x ∧ P x = true ∧ ∀ j y, j < k → l[j]? = some y → P y = false := by
 have key : ∀ (l : List α) i k, fstF P i l = some k → i ≤ k ∧ ∃ x, l[k - i]? = some x ∧ P x = true ∧ ∀ j y, j < k - i → l[j]? = some y → P y = false := by
   intro l
   induction l with
   | nil => intro i k h; cases h
   | cons y l ih =>
     intro i k h
     unfold fstF at h
     split at h
     · rename_i hy
       cases h
       exact ⟨Nat.le_refl _, y, by simp, hy, fun j z hj => by omega⟩
     · rename_i hy
       obtain ⟨h1, x, h2, h3, h4⟩ := ih _ _ h
       refine ⟨by omega, x, ?_, h3, fun j z hj hz => ?_⟩
       · rw [show k - i = (k - (i + 1)) + 1 from by omega, List.getElem?_cons_succ]; exact h2
       · cases j with
         | zero => simp at hz; subst hz; simpa using hy
         | succ j => rw [List.getElem?_cons_succ] at hz; exact h4 j z Tw.om hz
 obtain ⟨_, x, h2, h3, h4⟩ := key l 0 k h
 exact ⟨x, h2, h3, h4⟩
theorem fst_is (hx : l[k]? = some x) (hp : P x = true) (hn : ∀ j y, j < k → l[j]? = some y → P y = false) : fst P l = some k := by
 cases h : fst P l with
 | none => have := fst_none h x (List.mem_of_getElem? hx); rw [this] at hp; cases hp
 | some j =>
   obtain ⟨y, h1, h2, h3⟩ := fst_some h
   rcases Nat.lt_trichotomy j k with hj | rfl | hj
   · have := hn j y hj h1; rw [this] at h2; cases h2
   · rfl
   · have := h3 k x hj hx; rw [this] at hp; cases hp
theorem fst_mem_none (h : ∀ x ∈ l, P x = false) : fst P l = none := by
 cases hf : fst P l with
 | none => rfl
 | some k =>
   obtain ⟨x, h1, h2, _⟩ := fst_some hf
   rw [h x (List.mem_of_getElem? h1)] at h2; cases h2
end
section
variable {α : Type} {P : α → Bool} {l : List α} {k : Nat} {x : α}
end
def incF (most : Int) : Int → List Int → Bool
 | _, [] => true
 | last, n :: l => decide (last < n) && (decide (n ≤ most) && incF most n l)
def incX (l : List Int) (most : Int) : Bool := incF most (-1) l
abbrev Rg := Int × Int × Int
def rgC (r : Rg) : List Value := [.int .i64 r.1, .int .i64 r.2.1, .int .i64 r.2.2]
theorem rgC_len (r : Rg) : (rgC r).length = 3 := rfl
def rgsX : List Rg → Bool
 | [] => true
 | r :: l => !decide (r.1 < r.2.1) && (!decide (r.2.2 < r.1) && rgsX l)
def rangesX (c : Col) : List Rg := [(c.bay, 0, 39), (c.row, 0, 30), (c.tiers, 1, 10), (c.height, 0, 40000), (c.k20, 0, 500000000), (c.k40, 0, 500000000), (c.lash, 0, 1000000000000), (c.x, -500000, 500000), (c.y, -500000, 500000), (c.z, -500000, 500000)]
def colX (c : Col) : Bool := rgsX (rangesX c) && incX c.plugs (IntKind.i64.wrap (c.tiers - 1))
def placeX (c : Col) : I3 := (c.bay, c.row, if c.deck = true then 1 else 0)
def colsF : List I3 → List Col → Bool
 | _, [] => true
 | L, c :: cs => colX c && (!decide (placeX c ∈ L) && colsF (L ++ [placeX c]) cs)
def colsX (cs : List Col) : Bool := !decide (cs.length = 0) && (!decide (200 < cs.length) && colsF [] cs)
def ovX (o : Cov) : Bool := decide (0 ≤ o.bay) && (decide (o.bay ≤ 39) && (decide (0 < o.rows.length) && incX o.rows 30))
def freshF (bay : Int) : List I2 → List Int → Bool
 | _, [] => true
 | L, r :: l => !decide ((bay, r) ∈ L) && freshF bay (L ++ [(bay, r)]) l
def ovsF : List I2 → List Cov → Bool
 | _, [] => true
 | L, o :: os => ovX o && (freshF o.bay L o.rows && ovsF (L ++ o.rows.map (fun r => (o.bay, r))) os)
def ovsX (os : List Cov) : Bool := !decide (40 < os.length) && ovsF [] os
def rightX (cs : List Col) (os : List Cov) : Bool := colsX cs && ovsX os
def PlR (W : World) (cs : List Col) : Prop := ∀ c ∈ cs, SLV W c.pp (c.plugs.flatMap inC)
def RwR (W : World) (os : List Cov) : Prop := ∀ o ∈ os, SLV W o.rp (o.rows.flatMap inC)
theorem PlR.keep {W W' : World} {cs : List Col} (h : PlR W cs) (hb : Below W.heap.size W W') : PlR W' cs := fun c hc => (h c hc).keep hb
theorem RwR.keep {W W' : World} {os : List Cov} (h : RwR W os) (hb : Below W.heap.size W W') : RwR W' os := fun c hc => (h c hc).keep hb
def CapR (W : World) (g : Nat) (cs : List Value) : Prop := g < W.heap.size ∧ ∀ (j : Nat) (v : Value), cs[j]? = some v → W.cell? ⟨g, 0 + j, none⟩ = some v
theorem CapR.keep {W W' : World} {g : Nat} {cs : List Value} (h : CapR W g cs) (hb : Below W.heap.size W W') : CapR W' g cs :=
 ⟨Nat.lt_of_lt_of_le h.1 hb.size, fun j v hv => by rw [hb.cell (p := ⟨g, 0 + j, none⟩) h.1]; exact h.2 j v hv⟩
theorem CapR.of {W0 : Base} {K : List (Nat × Obj)} {W : World} {g : Nat} {cs : List Value} {t : TypeId} {fr : Nat × Nat} (hW : KS W0 K W) (hm : (g, .cells cs.toArray t fr) ∈ K) : CapR W g cs :=
 ⟨lt_of_block (hW.2 _ hm), fun j v hv => by rw [cell_of_row W g (0 + j) cs.toArray t fr (hW.2 _ hm), Nat.zero_add]; simpa using hv⟩
theorem blk_slv {W0 : Base} {K : List (Nat × Obj)} {W : World} {g : Nat} {cs : List Value} {t : TypeId} {fr : Nat × Nat} (hW : KS W0 K W) (hm : (g, .cells cs.toArray t fr) ∈ K) : SLV W (some ⟨g, 0, none⟩) cs :=
 .inr ⟨g, 0, rfl, lt_of_block (hW.2 _ hm), fun j v hv => by rw [cell_of_row W g (0 + j) cs.toArray t fr (hW.2 _ hm), Nat.zero_add]; simpa using hv⟩
theorem bool_is {b c : Bool} (h : b = c) : Ending.returned (.bool b) = .returned (.bool c) := by rw [h]
theorem int_is {a b : Int} (h : a = b) : Ending.returned (.int .i64 a) = .returned (.int .i64 b) := by rw [h]
theorem inc_step {l : List Int} {k : Nat} {n last most : Int} (hy : l[k]? = some n) : incF most last (l.drop k) = (decide (last < n) && (decide (n ≤ most) && incF most n (l.drop (k + 1)))) := by
 obtain ⟨hk, rfl⟩ := List.getElem?_eq_some_iff.1 hy
 rw [List.drop_eq_getElem_cons hk]; rfl
theorem inc_end {l : List Int} {k : Nat} {last most : Int} (hk : ¬ k < l.length) : incF most last (l.drop k) = true := by
 rw [List.drop_eq_nil_of_le Tw.om]; rfl
theorem rgs_step {l : List Rg} {k : Nat} {r : Rg} (hy : l[k]? = some r) : rgsX (l.drop k) = (!decide (r.1 < r.2.1) && (!decide (r.2.2 < r.1) && rgsX (l.drop (k + 1)))) := by
 obtain ⟨hk, rfl⟩ := List.getElem?_eq_some_iff.1 hy
 rw [List.drop_eq_getElem_cons hk]; rfl
theorem rgs_end {l : List Rg} {k : Nat} (hk : ¬ k < l.length) : rgsX (l.drop k) = true := by
 rw [List.drop_eq_nil_of_le Tw.om]; rfl
theorem cols_step {l : List Col} {k : Nat} {c : Col} {L : List I3} (hy : l[k]? = some c) : colsF L (l.drop k) = (colX c && (!decide (placeX c ∈ L) && colsF (L ++ [placeX c]) (l.drop (k + 1)))) := by
 obtain ⟨hk, rfl⟩ := List.getElem?_eq_some_iff.1 hy
 rw [List.drop_eq_getElem_cons hk]; rfl
theorem cols_end {l : List Col} {k : Nat} {L : List I3} (hk : ¬ k < l.length) : colsF L (l.drop k) = true := by
 rw [List.drop_eq_nil_of_le Tw.om]; rfl
theorem ovs_step {l : List Cov} {k : Nat} {o : Cov} {L : List I2} (hy : l[k]? = some o) : ovsF L (l.drop k) = (ovX o && (freshF o.bay L o.rows && ovsF (L ++ o.rows.map (fun r => (o.bay, r))) (l.drop (k + 1)))) := by
 obtain ⟨hk, rfl⟩ := List.getElem?_eq_some_iff.1 hy
 rw [List.drop_eq_getElem_cons hk]; rfl
theorem ovs_end {l : List Cov} {k : Nat} {L : List I2} (hk : ¬ k < l.length) : ovsF L (l.drop k) = true := by
 rw [List.drop_eq_nil_of_le Tw.om]; rfl
theorem fresh_step {l : List Int} {k : Nat} {r bay : Int} {L : List I2} (hy : l[k]? = some r) : freshF bay L (l.drop k) = (!decide ((bay, r) ∈ L) && freshF bay (L ++ [(bay, r)]) (l.drop (k + 1))) := by
 obtain ⟨hk, rfl⟩ := List.getElem?_eq_some_iff.1 hy
 rw [List.drop_eq_getElem_cons hk]; rfl
theorem fresh_end {l : List Int} {k : Nat} {bay : Int} {L : List I2} (hk : ¬ k < l.length) : freshF bay L (l.drop k) = true := by
 rw [List.drop_eq_nil_of_le Tw.om]; rfl
theorem map_snoc {α β : Type} {l : List α} {k : Nat} {x : α} (f : α → β) (hy : l[k]? = some x) : (l.take (k + 1)).map f = (l.take k).map f ++ [f x] := by
 obtain ⟨hk, rfl⟩ := List.getElem?_eq_some_iff.1 hy
 rw [List.take_succ_eq_append_getElem hk, List.map_append]; rfl
theorem fi_ge (o : Option Nat) : (!decide (fiN o < 0)) = o.isSome := by
 cases o with
 | none => rfl
 | some k =>
   have h0 : ¬ (((k : Nat) : Int) < 0) := by omega
   show (!decide (((k : Nat) : Int) < 0)) = true
   rw [decide_eq_false h0]; rfl
def OutRL {α : Type} (cells : α → List Value) (W0 : Base) (K : List (Nat × Obj)) (l : List α) (v : Value) (K' : List (Nat × Obj)) : Prop :=
 ∃ p c Kl, v = .slice p l.length c ∧ l.length ≤ c ∧ RL cells W0 p l Kl ∧ (∀ p ∈ K, ∀ q ∈ Kl, q.1 ≠ p.1) ∧ K' = K ++ Kl
theorem OutRL.sub {α : Type} {cells : α → List Value} {W0 : Base} {K K' : List (Nat × Obj)} {l : List α} {v : Value} (h : OutRL cells W0 K l v K') : ∀ p ∈ K, p ∈ K' := by
 obtain ⟨_, _, _, _, _, _, _, rfl⟩ := h
 exact fun p hp => List.mem_append_left _ hp
def OutOL (W0 : Base) (K : List (Nat × Obj)) (E : TypeId) (sz n : Nat) (xs : List Value) (v : Value) (K' : List (Nat × Obj)) : Prop :=
 ∃ Kl, OwnL W0 E sz v n xs Kl ∧ (∀ p ∈ K, ∀ q ∈ Kl, q.1 ≠ p.1) ∧ K' = K ++ Kl
section
variable {P : Program} {W0 : Base} {K : List (Nat × Obj)} {W : World} {E : TypeId} {sz n : Nat} {f : FuncId} {args : Array Value}
theorem calls_r {α : Type} {cells : α → List Value} {l : List α} (hW : KS W0 K W) (h : Calls P f args W fun e w' => ∃ v, e = .returned v ∧ OutV W w' E sz v l.length (l.flatMap cells) ∧ Below W.heap.size W w') :
   Calls P f args W fun e w' => ∃ v K', e = .returned v ∧ KS W0 K' w' ∧ OutRL cells W0 K l v K' :=
 (calls_rl hW h).mono fun _ _ ⟨v, K', he, hk, p, c, Kl, hv, hn, hR, hd, hK⟩ => ⟨v, K', he, hk, p, c, Kl, hv, hn, hR, hd, hK⟩
theorem calls_o {xs : List Value} (hW : KS W0 K W) (h : Calls P f args W fun e w' => ∃ v, e = .returned v ∧ OutV W w' E sz v n xs ∧ Below W.heap.size W w') :
   Calls P f args W fun e w' => ∃ v K', e = .returned v ∧ KS W0 K' w' ∧ OutOL W0 K E sz n xs v K' :=
 h.mono fun e w' ⟨v, he, hO, hb⟩ => by
   obtain ⟨Kl, h1, h2, h3⟩ := hO.own hW hb
   exact ⟨v, _, he, h3, Kl, h1, h2, rfl⟩
end
theorem rgC_one (r : Rg) : ∀ v ∈ rgC r, v.oneCell' = true := fun v hv => by
 unfold rgC at hv
 simp only [List.mem_cons, List.not_mem_nil, or_false] at hv
 rcases hv with rfl | rfl | rfl <;> rfl
def exCs : List Col := [⟨0, 0, false, 2, 0, 0, 0, 0, [], none, 0, 0, 0, 0⟩, ⟨0, 1, false, 2, 0, 0, 0, 0, [], none, 0, 0, 0, 0⟩, ⟨0, 0, true, 3, 0, 0, 0, 0, [], none, 0, 0, 0, 0⟩, ⟨0, 1, true, 3, 0, 0, 0, 0, [], none, 0, 0, 0, 0⟩, ⟨1, 1, true, 4, 0, 0, 0, 0, [], none, 0, 0, 0, 0⟩]
theorem one_cov {os : List Cov} {b : Int} {l : List Int} (h : os.map (fun o => (o.bay, o.rows)) = [(b, l)]) : ∃ p c, os = [⟨b, l, p, c⟩] := by
 rcases os with _ | ⟨o, _ | ⟨o2, os⟩⟩
 · cases h
 · obtain ⟨a, r, p, c⟩ := o
   simp at h
   obtain ⟨rfl, rfl⟩ := h
   exact ⟨p, c, rfl⟩
 · simp at h
theorem plr_nil {W : World} {cs : List Col} (h : ∀ c ∈ cs, c.plugs = []) : PlR W cs := fun c hc => by rw [h c hc]; exact .inl rfl
theorem shC_one {p q : Option Addr} {n c m d : Nat} : ∀ v ∈ shC (.slice p n c) (.slice q m d) tl0, v.oneCell' = true := fun v hv => by
 unfold shC tl0 at hv
 simp only [List.mem_cons, List.not_mem_nil, or_false] at hv
 rcases hv with rfl | rfl | rfl | rfl | rfl | rfl | rfl | rfl | rfl | rfl | rfl | rfl | rfl <;> rfl
end Go.Proofs.Ytnbfljcilojllaa
namespace Go.Proofs.Ytnbfljcilojllaa
open Go Go.RowKit Tw
end Go.Proofs.Ytnbfljcilojllaa
namespace Go.Proofs.Ytnbfljcilojllaa
open Go Go.RowKit Tw
set_option maxRecDepth 100000 in
set_option maxHeartbeats 4000000 in
theorem Find1_any (c : Col) (bay row : Int) (deck : Bool) (g1 g2 g3 : Nat) (w : World) (h1 : CapR w g1 [.int .i64 bay]) (h2 : CapR w g2 [.int .i64 row]) (h3 : CapR w g3 [.bool deck]) : Calls Try.prog 81 #[.agg (colC c).toArray, .pointer (some ⟨g1, 0, none⟩), .pointer (some ⟨g2, 0, none⟩), .pointer (some ⟨g3, 0, none⟩)] w fun e w' => e = .returned (.bool (isAt bay row deck c)) ∧ Below w.heap.size w w' := by
 have H1 := Lib.hid h1
 clear h1
 have H2 := Lib.hid h2
 clear h2
 have H3 := Lib.hid h3
 clear h3
 go_enter Try.func81, Try.ntmps81
 refine wp_seq ?_
 refine wp_region_L [] (KS.start w) ?_
 refine wpL_new (fun g => .pointer (some ⟨g, 0, none⟩)) (obi := .cells (colC c).toArray 46 (0, 0)) rfl rfl Tw.kf Tw.pf fun g21 Bg21 Fg21 => ?_
 refine lm (v := .bool false) rfl rfl ?_
 refine wpL_done (fun W1 hW1 => ?_)
 change Code.wp ..
 refine wp_seq ?_
 refine wp_region_L _ hW1 ?_
 refine lm (v := .pointer (some ⟨g21, 0, none⟩)) rfl rfl ?_
 refine lv (v := .int .i64 c.bay) rfl rfl (yb_cell (off := 0) rfl Tw.kr Tw.m0 Try.underlying3 rfl Tw.kr) ?_
 refine lv (v := .int .i64 bay) rfl rfl (yb_rf (v := .int .i64 bay) rfl Tw.kr (fun W hW => ((H1.out).keep hW.1).2 0 _ rfl) Try.underlying3 rfl) ?_
 refine lp (v := .bool (decide (c.bay = bay))) rfl rfl (run_bin rfl (vx := (.int .i64 c.bay)) (vy := (.int .i64 bay)) Tw.kr Tw.kr fun w => bi_eql rfl w) ?_
 refine lm (v := .bool (decide (c.bay = bay))) rfl rfl ?_
 cases hd1 : (decide (c.bay = bay)) with
 | false =>
   have h1 : ¬ (c.bay = bay) := of_decide_eq_false hd1
   clear hd1
   refine ln rfl ?_
   refine ln rfl ?_
   refine ln rfl ?_
   refine ln rfl ?_
   refine lm (v := .bool false) rfl rfl ?_
   refine lm (v := .bool false) rfl rfl ?_
   refine ln rfl ?_
   refine ln rfl ?_
   refine ln rfl ?_
   refine ln rfl ?_
   refine lm (v := .bool false) rfl rfl ?_
   refine lm (v := .bool false) rfl rfl ?_
   refine wpL_done (fun W2 hW2 => ?_)
   change Code.wp ..
   refine wp_ret ?_
   try simp only [inBlock_ret, then_ret]
   refine bodyPost_ret (v := .bool false) ?_ rfl ?_
   · kernel_rfl
   · exact ⟨(bool_is (by unfold isAt; simp [*])), hW2.1⟩
 | true =>
   have h1 : c.bay = bay := of_decide_eq_true hd1
   clear hd1
   refine lm (v := .pointer (some ⟨g21, 1, none⟩)) rfl rfl ?_
   refine lv (v := .int .i64 c.row) rfl rfl (yb_cell (off := 1) rfl Tw.kr Tw.m0 Try.underlying3 rfl Tw.kr) ?_
   refine lv (v := .int .i64 row) rfl rfl (yb_rf (v := .int .i64 row) rfl Tw.kr (fun W hW => ((H2.out).keep hW.1).2 0 _ rfl) Try.underlying3 rfl) ?_
   refine lp (v := .bool (decide (c.row = row))) rfl rfl (run_bin rfl (vx := (.int .i64 c.row)) (vy := (.int .i64 row)) Tw.kr Tw.kr fun w => bi_eql rfl w) ?_
   refine lm (v := .bool (decide (c.row = row))) rfl rfl ?_
   refine lm (v := .bool (decide (c.row = row))) rfl rfl ?_
   cases hd2 : (decide (c.row = row)) with
   | false =>
     have h2 : ¬ (c.row = row) := of_decide_eq_false hd2
     clear hd2
     refine ln rfl ?_
     refine ln rfl ?_
     refine ln rfl ?_
     refine ln rfl ?_
     refine lm (v := .bool false) rfl rfl ?_
     refine lm (v := .bool false) rfl rfl ?_
     refine wpL_done (fun W3 hW3 => ?_)
     change Code.wp ..
     refine wp_ret ?_
     try simp only [inBlock_ret, then_ret]
     refine bodyPost_ret (v := .bool false) ?_ rfl ?_
     · kernel_rfl
     · exact ⟨(bool_is (by unfold isAt; simp [*])), hW3.1⟩
   | true =>
     have h2 : c.row = row := of_decide_eq_true hd2
     clear hd2
     refine lm (v := .pointer (some ⟨g21, 2, none⟩)) rfl rfl ?_
     refine lv (v := .bool c.deck) rfl rfl (yb_cell (off := 2) rfl Tw.kr Tw.m0 Try.underlying4 rfl Tw.kr) ?_
     refine lv (v := .bool deck) rfl rfl (yb_rf (v := .bool deck) rfl Tw.kr (fun W hW => ((H3.out).keep hW.1).2 0 _ rfl) Try.underlying4 rfl) ?_
     refine lp (v := .bool (c.deck == deck)) rfl rfl (run_bin rfl (vx := .bool c.deck) (vy := .bool deck) Tw.kr Tw.kr fun w => bn_bool_eql rfl Try.underlying4 w) ?_
     refine lm (v := .bool (c.deck == deck)) rfl rfl ?_
     refine lm (v := .bool (c.deck == deck)) rfl rfl ?_
     refine wpL_done (fun W4 hW4 => ?_)
     change Code.wp ..
     refine wp_ret ?_
     try simp only [inBlock_ret, then_ret]
     refine bodyPost_ret (v := .bool (c.deck == deck)) ?_ rfl ?_
     · kernel_rfl
     · exact ⟨(bool_is (by unfold isAt; simp [*])), hW4.1⟩
set_option maxRecDepth 100000 in
set_option maxHeartbeats 4000000 in
theorem IndexFunc_col (l : List Col) (p : Option Addr) (c : Nat) (hl : l.length ≤ 4000000000) (fv : FuncId) (caps : Array Value) (P : Col → Bool) (A : Col → Array Value) (hA : ∀ y, A y = #[.agg (colC y).toArray] ++ caps) (hcf : ∀ args w, (callFunc fv args).run Try.prog w = .ok (.enter fv args) w) (w : World) (hp : SLV w p (l.flatMap colC)) (hf : ∀ W, Below w.heap.size w W → ∀ y ∈ l, Calls Try.prog fv (A y) W fun e w' => e = .returned (.bool (P y)) ∧ Below W.heap.size W w') : Calls Try.prog 80 #[.slice p l.length c, .func (.func fv) #[] caps] w fun e w' => e = .returned (.int .i64 (fiN (fst P l))) ∧ Below w.heap.size w w' := by
 have HP := Lib.hid hp
 clear hp
 go_enter Try.func80, Try.ntmps80
 refine wp_seq ?_
 refine wp_region_L [] (KS.start w) ?_
 refine lm (v := .int .i64 0) rfl rfl ?_
 refine wpL_done (fun W1 hW1 => ?_)
 change Code.wp ..
 refine wp_seq ?_
 refine wp_seq ?_
 refine wp_region_L _ hW1 ?_
 refine lm (v := .slice p l.length c) rfl rfl ?_
 refine lp (v := .int .i64 ((l.length : Nat) : Int)) rfl rfl (run_lenL (p := p) (cap := c) (n := l.length) rfl Try.underlying22 Tw.kr) ?_
 refine lm (v := .int .i64 0) rfl rfl ?_
 refine wpL_done (fun W2 hW2 => ?_)
 change Code.wp ..
 refine wp_block ?_
 go_loopw [8] (fun u8 wr => ∃ (k : Nat), (k ≤ l.length) ∧ (fstF P 0 (l.take k) = none) ∧ u8 = .int .i64 ((k : Nat) : Int) ∧ KS w [] wr) (fun u8 _ => l.length - (intOf u8).toNat)
 case atStart => exact ⟨0, (Nat.zero_le _), fst_zero, rfl, (hW2.sub (fun p hp => by first | exact hp | (simp only [List.mem_cons, List.mem_append, List.nil_append, List.not_mem_nil, or_assoc, or_false, false_or] at hp ⊢ <;> grind)))⟩
 case round =>
   obtain ⟨k, hk, hF, rfl, hL3⟩ := hrel
   refine wp_seq ?_
   refine wp_region_L _ hL3 ?_
   refine lp (v := .bool (decide (k < l.length))) rfl rfl (run_bin rfl (vx := (.int .i64 ((k : Nat) : Int))) (vy := (.int .i64 ((l.length : Nat) : Int))) Tw.kr Tw.kr fun w => bn_lss rfl w) ?_
   refine wpL_done (fun W4 hW4 => ?_)
   change Code.wp ..
   refine wp_seq ?_
   cases hd1 : (decide (k < l.length)) with
   | false =>
     have h1 : ¬ (k < l.length) := of_decide_eq_false hd1
     clear hd1
     refine wp_cond_false rfl ?_
     refine wp_exit ?_
     change Code.wp ..
     refine wp_seq ?_
     refine wp_region_L _ hW4 ?_
     refine lm (v := .int .i64 (-1)) rfl rfl ?_
     refine wpL_done (fun W5 hW5 => ?_)
     change Code.wp ..
     refine wp_ret ?_
     try simp only [inBlock_ret, then_ret]
     refine bodyPost_ret (v := .int .i64 (-1)) ?_ rfl ?_
     · kernel_rfl
     · exact ⟨(int_is (by rw [fst_end hF h1]; rfl)), hW5.1⟩
   | true =>
     have h1 : k < l.length := of_decide_eq_true hd1
     clear hd1
     refine wp_cond_true rfl ?_
     refine wp_skip ?_
     change Code.wp ..
     refine wp_seq ?_
     refine wp_block ?_
     refine wp_seq ?_
     refine wp_region_L _ hW4 ?_
     refine lm (v := .int .i64 ((k : Nat) : Int)) rfl rfl ?_
     refine lm (v := .int .i64 ((k : Nat) : Int)) rfl rfl ?_
     refine wpL_done (fun W6 hW6 => ?_)
     change Code.wp ..
     refine wp_seq ?_
     refine wp_region_L _ hW6 ?_
     refine lm (v := .func (.func fv) #[] caps) rfl rfl ?_
     refine lm (v := .slice p l.length c) rfl rfl ?_
     refine lm (v := .int .i64 ((k : Nat) : Int)) rfl rfl ?_
     obtain ⟨y1, g1_, f1_, hy1, hp1, hc1⟩ := RL.at (RL.base HP.out) colC_len (by decide) (hW6.sub (fun _ h => by cases h)) (k := k) Tw.om
     refine lp (v := .pointer (some ⟨g1_, f1_ + k * 12, none⟩)) rfl rfl (run_idxQ (p := p) (cap := c) (n := l.length) (j := .i64) (k := k) (sz := 12) rfl Try.underlying22 Tw.kr Tw.kr hp1 Tw.kr Tw.om) ?_
     refine lv (v := .agg (colC y1).toArray) rfl rfl (yb_rs (off := f1_ + k * 12) (cs := colC y1) rfl Tw.kr (fun W hW => hc1 W (hW.sub (fun _ h => by cases h))) Try.underlying46 rfl Tw.kr) ?_
     refine lv (v := .bool (P y1)) rfl rfl (yb_call (f := fv) (args := A y1) (fun w => (run_callv rfl Tw.kr Tw.kr hcf w).trans (by rw [← hA])) fun W hW => hf W hW.1 y1 (List.mem_of_getElem? hy1)) ?_
     refine wpL_done (fun W7 hW7 => ?_)
     change Code.wp ..
     cases h2 : (P y1) with
     | false =>
       refine wp_cond_false rfl ?_
       refine wp_skip ?_
       change Code.wp ..
       refine wp_region_L _ hW7 ?_
       refine lp (v := .int .i64 (((k + 1) : Nat) : Int)) rfl rfl (run_bin rfl (vx := (.int .i64 ((k : Nat) : Int))) (vy := (.int .i64 ((1 : Nat) : Int))) Tw.kr Tw.kr fun w => bn_add (z := (k + 1)) rfl (wr_i64 Tw.om) w) ?_
       refine lm (v := .int .i64 (((k + 1) : Nat) : Int)) rfl rfl ?_
       refine wpL_done (fun W8 hW8 => ?_)
       go_roundw
       case rel =>
         repeat apply Exists.intro
         exact ⟨⟨k + 1, Tw.om, (fst_next hF hy1 h2), rfl, (hW8.sub (fun p hp => by first | exact hp | (simp only [List.mem_cons, List.mem_append, List.nil_append, List.not_mem_nil, or_assoc, or_false, false_or] at hp ⊢ <;> grind)))⟩, rfl⟩
       case measure => (show l.length - (intOf (.int .i64 (((k + 1) : Nat) : Int))).toNat < l.length - (intOf (.int .i64 ((k : Nat) : Int))).toNat); simp only [intOf]; omega
     | true =>
       refine wp_cond_true rfl ?_
       refine wp_seq ?_
       refine wp_region_L _ hW7 ?_
       refine lm (v := .int .i64 ((k : Nat) : Int)) rfl rfl ?_
       refine lm (v := .int .i64 ((k : Nat) : Int)) rfl rfl ?_
       refine wpL_done (fun W9 hW9 => ?_)
       change Code.wp ..
       refine wp_ret ?_
       try simp only [inBlock_ret, then_ret]
       refine bodyPost_ret (v := .int .i64 ((k : Nat) : Int)) ?_ rfl ?_
       · kernel_rfl
       · exact ⟨(int_is (by rw [fst_here hF hy1 h2]; rfl)), hW9.1⟩
theorem fi_none {o : Option Nat} (h : fiN o < 0) : o = none ∧ True := by
 cases o with
 | none => exact ⟨rfl, trivial⟩
 | some k => simp [fiN] at h; omega
theorem fi_some {o : Option Nat} (h : ¬ (fiN o < 0)) : findN o = fiN o ∧ o.isSome = true := by
 cases o with
 | none => simp [fiN] at h
 | some k => exact ⟨rfl, rfl⟩
set_option maxRecDepth 100000 in
set_option maxHeartbeats 4000000 in
theorem Find_any (cs : List Col) (pc : Option Addr) (cc : Nat) (lc : cs.length ≤ 4000000000) (os : List Cov) (po : Option Addr) (co : Nat) (lo : os.length ≤ 4000000000) (t : Tl) (bay row : Int) (deck : Bool) (w : World) (hc : SLV w pc (cs.flatMap colC)) (ho : SLV w po (os.flatMap covC)) : Calls Try.prog 56 #[.agg (shC (.slice pc cs.length cc) (.slice po os.length co) t).toArray, .int .i64 bay, .int .i64 row, .bool deck] w fun e w' => e = .returned (.tuple #[.int .i64 (findN (fst (isAt bay row deck) cs)), .bool (fst (isAt bay row deck) cs).isSome]) ∧ Below w.heap.size w w' := by
 have HC := Lib.hid hc
 clear hc
 have HO := Lib.hid ho
 clear ho
 go_enter Try.func56, Try.ntmps56
 refine wp_seq ?_
 refine wp_region_L [] (KS.start w) ?_
 refine wpL_new (fun g => .pointer (some ⟨g, 0, none⟩)) (obi := .cells (shC (.slice pc cs.length cc) (.slice po os.length co) t).toArray 32 (0, 0)) rfl rfl Tw.kf Tw.pf fun g1 Bg1 Fg1 => ?_
 refine wpL_new (fun g => .pointer (some ⟨g, 0, none⟩)) (obi := .cells #[.int .i64 bay] 3 (0, 0)) rfl rfl Tw.kf Tw.pf fun g2 Bg2 Fg2 => ?_
 obtain dj3_0 : g1 ≠ g2 := Tw.dkf Fg2
 refine wpL_new (fun g => .pointer (some ⟨g, 0, none⟩)) (obi := .cells #[.int .i64 row] 3 (0, 0)) rfl rfl Tw.kf Tw.pf fun g4 Bg4 Fg4 => ?_
 obtain ⟨dj5_0, dj5_1⟩ : g2 ≠ g4 ∧ g1 ≠ g4 := Tw.dkf Fg4
 refine wpL_new (fun g => .pointer (some ⟨g, 0, none⟩)) (obi := .cells #[.bool deck] 4 (0, 0)) rfl rfl Tw.kf Tw.pf fun g6 Bg6 Fg6 => ?_
 obtain ⟨dj7_0, dj7_1, dj7_2⟩ : g4 ≠ g6 ∧ g2 ≠ g6 ∧ g1 ≠ g6 := Tw.dkf Fg6
 refine lm (v := .int .i64 0) rfl rfl ?_
 refine lm (v := .bool false) rfl rfl ?_
 refine wpL_done (fun W1 hW1 => ?_)
 change Code.wp ..
 refine wp_seq ?_
 refine wp_region_L _ hW1 ?_
 refine lm (v := .pointer (some ⟨g1, 0, none⟩)) rfl rfl ?_
 refine lv (v := .slice pc cs.length cc) rfl rfl (yb_cell (off := 0) rfl Tw.kr Tw.m3 Try.underlying22 rfl Tw.kr) ?_
 refine lm (v := .func (.func 81) #[] #[.pointer (some ⟨g2, 0, none⟩), .pointer (some ⟨g4, 0, none⟩), .pointer (some ⟨g6, 0, none⟩)]) rfl rfl ?_
 refine lv (v := .int .i64 (fiN (fst (isAt bay row deck) cs))) rfl rfl (yb_call (f := 80) (args := #[.slice pc cs.length cc, .func (.func 81) #[] #[.pointer (some ⟨g2, 0, none⟩), .pointer (some ⟨g4, 0, none⟩), .pointer (some ⟨g6, 0, none⟩)]]) Tw.kf fun W hW => IndexFunc_col cs pc cc Tw.om 81 #[.pointer (some ⟨g2, 0, none⟩), .pointer (some ⟨g4, 0, none⟩), .pointer (some ⟨g6, 0, none⟩)] (isAt bay row deck) (fun y => #[.agg (colC y).toArray, .pointer (some ⟨g2, 0, none⟩), .pointer (some ⟨g4, 0, none⟩), .pointer (some ⟨g6, 0, none⟩)]) Tw.kf (fun _ _ => by kernel_rfl) W ((RL.base HC.out) _ (hW.sub (fun _ h => by cases h))) (fun W2 hb y hm => Find1_any y bay row deck g2 g4 g6 W2 ((CapR.of hW Tw.m2).keep hb) ((CapR.of hW Tw.m1).keep hb) ((CapR.of hW Tw.m0).keep hb))) ?_
 refine lm (v := .int .i64 (fiN (fst (isAt bay row deck) cs))) rfl rfl ?_
 refine wpL_done (fun W2 hW2 => ?_)
 change Code.wp ..
 refine wp_seq ?_
 refine wp_seq ?_
 refine wp_region_L _ hW2 ?_
 refine lm (v := .int .i64 (fiN (fst (isAt bay row deck) cs))) rfl rfl ?_
 refine lp (v := .bool (decide ((fiN (fst (isAt bay row deck) cs)) < 0))) rfl rfl (run_bin rfl (vx := (.int .i64 (fiN (fst (isAt bay row deck) cs)))) (vy := (.int .i64 0)) Tw.kr Tw.kr fun w => bi_lss rfl w) ?_
 refine wpL_done (fun W3 hW3 => ?_)
 change Code.wp ..
 cases hd1 : (decide ((fiN (fst (isAt bay row deck) cs)) < 0)) with
 | false =>
   have h1 : ¬ ((fiN (fst (isAt bay row deck) cs)) < 0) := of_decide_eq_false hd1
   clear hd1
   obtain ⟨h8, h9⟩ := fi_some h1
   refine wp_cond_false rfl ?_
   refine wp_skip ?_
   change Code.wp ..
   refine wp_seq ?_
   refine wp_region_L _ hW3 ?_
   refine lm (v := .int .i64 (fiN (fst (isAt bay row deck) cs))) rfl rfl ?_
   refine lm (v := .int .i64 (fiN (fst (isAt bay row deck) cs))) rfl rfl ?_
   refine lm (v := .bool true) rfl rfl ?_
   refine wpL_done (fun W4 hW4 => ?_)
   change Code.wp ..
   refine wp_ret ?_
   try simp only [inBlock_ret, then_ret]
   refine bodyPost_ret (v := .tuple #[.int .i64 (fiN (fst (isAt bay row deck) cs)), .bool true]) ?_ rfl ?_
   · kernel_rfl
   · exact ⟨(by rw [h8]; first | rfl | (rw [h9])), hW4.1⟩
 | true =>
   have h1 : (fiN (fst (isAt bay row deck) cs)) < 0 := of_decide_eq_true hd1
   clear hd1
   obtain ⟨h8, h9⟩ := fi_none h1
   refine wp_cond_true rfl ?_
   refine wp_seq ?_
   refine wp_region_L _ hW3 ?_
   refine lm (v := .int .i64 0) rfl rfl ?_
   refine lm (v := .bool false) rfl rfl ?_
   refine wpL_done (fun W5 hW5 => ?_)
   change Code.wp ..
   refine wp_ret ?_
   try simp only [inBlock_ret, then_ret]
   refine bodyPost_ret (v := .tuple #[.int .i64 0, .bool false]) ?_ rfl ?_
   · kernel_rfl
   · exact ⟨(by rw [h8]; first | rfl | (rw [h9])), hW5.1⟩
end Go.Proofs.Ytnbfljcilojllaa
namespace Go.Proofs.Ytnbfljcilojllaa
open Go Go.RowKit Tw
end Go.Proofs.Ytnbfljcilojllaa
namespace Go.Proofs.Ytnbfljcilojllaa
open Go Go.RowKit Tw
end Go.Proofs.Ytnbfljcilojllaa
