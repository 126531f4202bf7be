import Derived.OrdersHeld
import Derived.Below
import Derived.Laws.Rows
import Derived.WalkKit
import Derived.Laws.CopyRow
import Derived.Laws.CopyOwn
import Derived.RegionTactic
import Derived.Test.YtllmpemmknblaaaDoorProg
import Derived.WalkSpells
import Derived.WalkLawsBesides
import Derived.Handy
import Derived.Lib.Hide
import Derived.Deep.QuietTactic
import Derived.BigQuiet
import Derived.Deep.OwnRows
import Derived.Laws.BitsAllLaws
import Derived.Deep.RegionLaw
import Derived.Laws.AppendOwn
import Derived.Laws.BytesArg
import Derived.Laws.IdiomStrings
import Derived.Lib.FrozenHead
import Derived.Outline
import Derived.Deep.Cut
import Derived.Deep.Upon
import Derived.Carry
import Derived.MapKept
import Derived.ChangeMaps5
import Derived.Deep.AppendSrc
import Derived.Laws.RangeAny
import Derived.Lib.LaidTab
import Derived.LaidByText
import Derived.Handed
import Derived.ChangeArms
import Derived.ChangeShapes
import Derived.WideShapes
import Derived.DataReads
import Derived.ChangeOld
import Derived.SizedLaws
import Derived.ProofKit
import Derived.OpenShut
import Derived.LaidMore
import Derived.Shelf.Vars
import Derived.Stop.Joined
import Derived.Stop.LaidErr
import Derived.SevenTiedAt
import Derived.Laws.MakeOwn
import Derived.Laws.OwnMore
import Derived.Laws.Small
/- Part of the proof: Ng, Nb, Nv, Nl, Sa, Sb, Sn, Q1, Q2, Q3, HB, HC. -/
set_option linter.unusedVariables false
set_option linter.unusedSimpArgs false
set_option linter.unusedSectionVars false
namespace Tw
open Go Go.RowKit
theorem kr {p : Prop} (h : p := by kernel_rfl) : p := h
theorem om {p : Prop} (h : p := by omega) : p := h
theorem pu {p : Prop} (h : p := by simp only [List.setIfInBounds_toArray, List.set_cons_succ, List.set_cons_zero] <;> rfl) : p := h
theorem nee {p : Prop} (h : p := by first | assumption | exact Ne.symm (by assumption)) : p := h
theorem sb {T K : List (Nat × Obj)} (h : ∀ q ∈ T, q ∈ K := by intro q hq; first | exact hq | (simp only [List.mem_cons, List.mem_append, List.nil_append, List.not_mem_nil, or_assoc, or_false, false_or, List.cons_append, List.append_assoc] at hq ⊢ <;> grind)) : ∀ q ∈ T, q ∈ K := h
theorem kf {α : Type} {p : α → Prop} (h : ∀ x, p x := by intro _; kernel_rfl) : ∀ x, p x := h
theorem pf {α : Type} {p : α → Prop} (h : ∀ x, p x := by intro _; simp only [List.setIfInBounds_toArray, List.set_cons_succ, List.set_cons_zero] <;> rfl) : ∀ x, p x := h
theorem sc {T K : List (Nat × Obj)} (h : ∀ p ∈ T, p ∈ K := by intro p hp; simp only [List.mem_cons, List.mem_append, List.nil_append, List.not_mem_nil, or_assoc, or_false, false_or, hp, or_true, true_or]) : ∀ p ∈ T, p ∈ K := h
section
variable {α : Type} {a b c d e f g : α} {l : List α}
theorem m0 : a ∈ a :: l := .head _
theorem m1 : a ∈ b :: a :: l := .tail _ m0
theorem m2 : a ∈ b :: c :: a :: l := .tail _ m1
theorem m3 : a ∈ b :: c :: d :: a :: l := .tail _ m2
theorem m4 : a ∈ b :: c :: d :: e :: a :: l := .tail _ m3
theorem m5 : a ∈ b :: c :: d :: e :: f :: a :: l := .tail _ m4
end
end Tw
/- A statement whose order is left open, over worlds of which only some blocks are known: values (also of calls that make memory) are taken in the text's order, whatever order is drawn. Nothing of the program. -/
namespace Tw
open Go Go.RowKit

structure Base where
 w : World
 B : Nat
 le : B ≤ w.heap.size
instance : Coe World Base := ⟨fun w => ⟨w, w.heap.size, Nat.le_refl _⟩⟩
def KS (W0 : Base) (K : List (Nat × Obj)) (w : World) : Prop := Below W0.B W0.w w ∧ ∀ p ∈ K, w.heap[p.1]? = some p.2
theorem KS.size {W0 : Base} {K : List (Nat × Obj)} {w : World} (h : KS W0 K w) : W0.B ≤ w.heap.size := Nat.le_trans W0.le h.1.size

theorem KS.tail {W0 : Base} {p : Nat × Obj} {K : List (Nat × Obj)} {w : World} (h : KS W0 (p :: K) w) : KS W0 K w := ⟨h.1, fun q hq => h.2 q (List.mem_cons_of_mem _ hq)⟩
theorem KS.sub {W0 : Base} {K K' : List (Nat × Obj)} {w : World} (h : KS W0 K w) (hs : ∀ p ∈ K', p ∈ K) : KS W0 K' w := ⟨h.1, fun q hq => h.2 q (hs q hq)⟩
theorem lt_of_block {w : World} {g : Nat} {o : Obj} (h : w.heap[g]? = some o) : g < w.heap.size := (Array.getElem?_eq_some_iff.1 h).1
theorem KS.below {W0 : Base} {K : List (Nat × Obj)} {w w' : World} (h : KS W0 K w) (hb : Below w.heap.size w w') : KS W0 K w' :=
 ⟨h.1.trans (hb.mono h.size), fun p hp => (hb.block p.1 (lt_of_block (h.2 p hp))).trans (h.2 p hp)⟩
theorem KS.drew {W0 : Base} {K : List (Nat × Obj)} {w : World} (h : KS W0 K w) : KS W0 K w.drew := ⟨h.1.drew, h.2⟩
theorem KS.alloc {W0 : Base} {K : List (Nat × Obj)} {w : World} (h : KS W0 K w) (o : Obj) : KS W0 ((w.heap.size, o) :: K) (w.alloc o) :=
 ⟨h.1.alloc h.size _, fun p hp => by
   rcases List.mem_cons.1 hp with rfl | hp
   · exact heap_alloc_new w o
   · exact (Below.heap_alloc w o p.1 (lt_of_block (h.2 p hp))).trans (h.2 p hp)⟩
theorem KS.start (w : World) : KS w [] w := ⟨Below.refl _ _, fun _ h => by cases h⟩

section
variable {P : Program} {ops : Array Oper} {Q : Exit → Act → World → Prop} {md : Region.Mode} {W0 : Base}

def Oto (P : Program) (o : Oper) (ρ : Operand → Value) (w : World) (R : Value → World → Prop) : Prop :=
 match (execOp ρ o).run P w with
 | .ok (.value v) w' => R v w'
 | .ok .skip w' => R undef w'
 | .ok (.enter f args) w' => Calls P f args w' fun e w'' => ∃ v, e = .returned v ∧ R v w''
 | .ok (.row row args) w' => Rows P row args w' R
 | _ => False

theorem Oto.wp {o : Oper} {a : Act} {w : World} {R : Value → World → Prop} {K : Act → World → Prop} (h : Oto P o a.eval w R) (hk : ∀ v w', R v w' → K (a.put o.dst v) w') : o.wp P a w K Q := by
 unfold Oto at h
 unfold Oper.wp
 generalize (execOp a.eval o).run P w = r at *
 cases r with
 | ok n w' =>
   cases n <;> simp only [Oper.upon] at h ⊢
   · exact hk _ _ h
   · exact hk _ _ h
   · exact Calls.mono h fun e w'' ⟨v, he, hr⟩ => by subst he; exact hk _ _ hr
   · exact Rows.mono h fun _ _ hr => hk _ _ hr
 | halt x w' => exact h.elim

theorem Oto.of_wp {o : Oper} {a : Act} {w : World} {v : Value} {d : Nat} (hd : o.dst = some d) (hlt : d < a.tmps.size)
   (h : ∀ K : Act → World → Prop, (∀ w', Below w.heap.size w w' → K (a.put o.dst v) w') → o.wp P a w K (fun _ _ _ => False)) :
   Oto P o a.eval w (fun u w' => u = v ∧ Below w.heap.size w w') := by
 have h1 := h (fun x w' => x.defers = a.defers ∧ x.tmps[d]? = some v ∧ Below w.heap.size w w') (fun w' hb => by
   refine ⟨by simp [hd, Act.put], by simp [hd, Act.put, hlt], hb⟩)
 have put : ∀ u, (a.put o.dst u).tmps[d]? = some u := fun u => by simp [hd, Act.put, hlt]
 unfold Oper.wp at h1
 unfold Oto
 generalize (execOp a.eval o).run P w = r at *
 cases r with
 | ok n w' =>
   cases n <;> simp only [Oper.upon] at h1 ⊢
   · rename_i u
     rw [put u] at h1
     exact ⟨Option.some.inj h1.2.1, h1.2.2⟩
   · rw [put undef] at h1
     exact ⟨Option.some.inj h1.2.1, h1.2.2⟩
   · refine Calls.mono h1 fun e w'' he => ?_
     cases e with
     | returned u =>
       simp only [put u] at he
       exact ⟨u, rfl, Option.some.inj he.2.1, he.2.2⟩
     | panicked c => exact he.elim
     | outgrown => obtain ⟨_, _, hf⟩ := he; exact hf.elim
   · rename_i dd
     exfalso
     have := h1.1
     simp [hd, Act.put] at this
   · refine Rows.mono h1 fun u w'' he => ?_
     rw [put u] at he
     exact ⟨Option.some.inj he.2.1, he.2.2⟩
 | halt x w' => cases x <;> simp only [Oper.upon] at h1

def YB (P : Program) (ops : Array Oper) (W0 : Base) (K : List (Nat × Obj)) (o : Oper) (v : Value) (a : Act) : Prop :=
 (Region.wanted o (yielded ops a.tmps) = true ∧ ∀ w, KS W0 K w → Oto P o a.eval w (fun u w' => u = v ∧ Below w.heap.size w w')) ∨
 (Region.wanted o (yielded ops a.tmps) = false ∧ v = undef)
def AL (P : Program) (ops : Array Oper) (o : Oper) (obj : Obj) (a : Act) : Prop :=
 Region.wanted o (yielded ops a.tmps) = true ∧ ∀ w, (execOp a.eval o).run P w = .ok (.value (.pointer (some ⟨w.heap.size, 0, none⟩))) (w.alloc obj)
def isStore (o : Oper) : Bool := match o.op with | .store .. => true | .call c => (match c.callee with | .builtin .append => true | _ => false) | _ => false
def ST (P : Program) (ops : Array Oper) (W0 : Base) (K K' : List (Nat × Obj)) (o : Oper) (a : Act) : Prop :=
 Region.wanted o (yielded ops a.tmps) = true ∧ ∀ w, KS W0 K w → ∃ w', (execOp a.eval o).run P w = .ok .skip w' ∧ KS W0 K' w'

theorem YB.of_same {K : List (Nat × Obj)} {o : Oper} {v : Value} {a a' : Act} (hy : YB P ops W0 K o v a) (he : execOp a'.eval o = execOp a.eval o)
   (hw : Region.wanted o (yielded ops a'.tmps) = Region.wanted o (yielded ops a.tmps)) : YB P ops W0 K o v a' := by
 unfold YB Oto at *
 rw [he, hw]
 exact hy
theorem YB.more {K : List (Nat × Obj)} {p : Nat × Obj} {o : Oper} {v : Value} {a : Act} (hy : YB P ops W0 K o v a) : YB P ops W0 (p :: K) o v a :=
 hy.imp (fun h => ⟨h.1, fun w hw => h.2 w hw.tail⟩) id
theorem AL.of_same {o : Oper} {obj : Obj} {a a' : Act} (hy : AL P ops o obj a) (he : execOp a'.eval o = execOp a.eval o)
   (hw : Region.wanted o (yielded ops a'.tmps) = Region.wanted o (yielded ops a.tmps)) : AL P ops o obj a' := by
 unfold AL at *
 rw [he, hw]
 exact hy

def waits (md : Region.Mode) (ops : Array Oper) : Nat → Nat → Nat → Bool
 | 0, _, _ => false
 | n + 1, j, i => match ops[j]? with
   | none => false
   | some o => o.after.toList.any fun e => Region.binds md e && (e.on == i || waits md ops n e.on i)
def closedB (md : Region.Mode) (ops : Array Oper) (listed : Array Bool) : Bool :=
 (List.range ops.size).all fun k => !listed.getD k false || match ops[k]? with
   | none => true
   | some o => o.after.toList.all fun e => !Region.binds md e || listed.getD e.on false
def closed (md : Region.Mode) (ops : Array Oper) (listed : Array Bool) : Prop :=
 ∀ k o, ops[k]? = some o → listed.getD k false = true → ∀ e ∈ o.after, Region.binds md e = true → listed.getD e.on false = true
theorem closed_of {listed : Array Bool} (h : closedB md ops listed = true) : closed md ops listed := by
 intro k o ho hk e he hb
 unfold closedB at h
 rw [List.all_eq_true] at h
 have h1 := h k (List.mem_range.2 (Array.getElem?_eq_some_iff.1 ho).1)
 simp only [hk, ho, Bool.not_true, Bool.false_or, List.all_eq_true] at h1
 have h2 := h1 e (Array.mem_def.1 he)
 simpa [hb] using h2
theorem not_waits {listed : Array Bool} {i : Nat} (hc : closed md ops listed) (hi : listed.getD i false = false) : ∀ n j o, ops[j]? = some o → waits md ops n j i = true →
   (∀ e ∈ o.after, Region.binds md e = true → listed.getD e.on false = true) → False
 | 0, _, _, _, h, _ => by simp [waits] at h
 | n + 1, j, o, ho, h, hall => by
   simp only [waits, ho, List.any_eq_true, Bool.and_eq_true, Bool.or_eq_true, beq_iff_eq] at h
   obtain ⟨e, he, hb, h2⟩ := h
   have hl := hall e (Array.mem_def.2 he) hb
   rcases h2 with h2 | h2
   · rw [h2, hi] at hl; cases hl
   · cases hk : ops[e.on]? with
     | none =>
       cases n with
       | zero => simp [waits] at h2
       | succ n => simp [waits, hk] at h2
     | some ok => exact not_waits hc hi n e.on ok hk h2 (hc e.on ok hk hl)
theorem closed_set {listed : Array Bool} {j : Nat} (hc : closed md ops listed) (hj : j ∈ Region.ready md ops listed) : closed md ops (listed.setIfInBounds j true) := by
 obtain ⟨_, oj, hoj, hall⟩ := mem_ready.1 hj
 intro k o ho hk e he hb
 by_cases hkj : k = j
 · subst hkj
   rw [hoj] at ho
   cases ho
   exact getD_set_true (hall e he hb)
 · rw [getD_set_ne false (Ne.symm hkj)] at hk
   exact getD_set_true (hc k o ho hk e he hb)

theorem unlisted_false {listed : Array Bool} {i : Nat} (h : listed.getD i true = false) : listed.getD i false = false := by
 rcases Nat.lt_or_ge i listed.size with h' | h'
 · simp [h'] at h ⊢; exact h
 · simp [Array.getElem?_eq_none h'] at h

def storesWait (md : Region.Mode) (ops : Array Oper) (i : Nat) : Bool :=
 (List.range ops.size).all fun j => match ops[j]? with
   | some o => !isStore o || waits md ops 4 j i
   | none => true
theorem storesWait_spec {i : Nat} (h : storesWait md ops i = true) (j : Nat) (o : Oper) (ho : ops[j]? = some o) (hs : isStore o = true) : ∃ m, waits md ops m j i = true := by
 unfold storesWait at h
 rw [List.all_eq_true] at h
 have h1 := h j (List.mem_range.2 (Array.getElem?_eq_some_iff.1 ho).1)
 simp only [ho, hs, Bool.not_true, Bool.false_or] at h1
 exact ⟨4, h1⟩
def freeAll (md : Region.Mode) (ops : Array Oper) (listed : Array Bool) (i : Nat) : Bool :=
 Region.noSelect ops && (Region.free md ops listed i && ((Region.ready md ops listed).contains i && (closedB md ops listed && storesWait md ops i)))

theorem run_storeVar_mid {g off : Nat} {cs : Array Value} {t ty : TypeId} {v : Value} (w : World) (hg : w.heap[g]? = some (.cells cs t (0, 0))) (hi : (P.info? ty).map (·.size) = some v.cells.size)
   (hfit : off + v.cells.size ≤ cs.size) (h1 : ∀ x ∈ v.cells.toList, x.oneCell' = true) :
   (storeVar ty ⟨g, off, none⟩ v).run P w = .ok () (w.setRow g (cs.toList.take off ++ v.cells.toList ++ cs.toList.drop (off + v.cells.toList.length)).toArray) := by
 have hst := run_storeCells_at P g off t v.cells.toList 0 cs w hg (by simpa using hfit) h1
 cases hq : P.info? ty with
 | none => simp [hq] at hi
 | some i =>
   have hs : i.size = v.cells.size := by simpa [hq] using hi
   simp only [Nat.add_zero] at hst
   simp [storeVar, Sem.run_bind, Go.sizeOf, typeInfo, hq, hs, hst]
theorem KS.setRow {K K' : List (Nat × Obj)} {w : World} {g : Nat} {cs cs' : Array Value} {t : TypeId} (h : KS W0 K w) (hB : W0.B ≤ g) (hg : w.heap[g]? = some (.cells cs t (0, 0)))
   (hK : ∀ p ∈ K', p = (g, .cells cs' t (0, 0)) ∨ (p ∈ K ∧ p.1 ≠ g)) : KS W0 K' (w.setRow g cs') :=
 ⟨below_setRow h.1 hB _, fun p hp => by
   rcases hK p hp with rfl | ⟨hp, hne⟩
   · exact setRow_heap w g cs cs' t _ hg
   · rw [setRow_other w g p.1 cs' hne]; exact h.2 p hp⟩
theorem st_row {o : Oper} {a : Act} {K K' : List (Nat × Obj)} {ty t : TypeId} {x y : Operand} {g off : Nat} {cs cs' : Array Value} {v : Value} (ho : o.op = .store ty x y) (hx : a.eval x = .pointer (some ⟨g, off, none⟩)) (hv : a.eval y = v)
   (hm : (g, .cells cs t (0, 0)) ∈ K) (hB : W0.B ≤ g) (hi : (P.info? ty).map (·.size) = some v.cells.size)
   (hfit : off + v.cells.size ≤ cs.size) (h1 : ∀ x ∈ v.cells.toList, x.oneCell' = true)
   (hcs : cs' = (cs.toList.take off ++ v.cells.toList ++ cs.toList.drop (off + v.cells.toList.length)).toArray)
   (hK : ∀ p ∈ K', p = (g, .cells cs' t (0, 0)) ∨ (p ∈ K ∧ p.1 ≠ g)) : ∀ w, KS W0 K w → ∃ w', (execOp a.eval o).run P w = .ok .skip w' ∧ KS W0 K' w' := by
 intro w hw
 have hg := hw.2 _ hm
 subst hcs
 refine ⟨_, ?_, hw.setRow hB hg hK⟩
 have hr := run_storeVar_mid (P := P) (ty := ty) (v := v) w hg hi hfit h1
 simp only [execOp, ho, hx, hv, Instr.storeAt, Instr.sureAddr, Sem.run_bind, Sem.run_pure, Result.andThen_ok, hr]
def aggD (d : TypeDesc) : Bool := match d with | .struct _ | .array _ _ => true | _ => false
theorem run_loadVar_mid {g off n : Nat} {cs : Array Value} {t ty : TypeId} {d : TypeDesc} (w : World) (hg : w.heap[g]? = some (.cells cs t (0, 0)))
   (hu : P.underlying ty = some d) (hd : aggD d = true) (hi : (P.info? ty).map (·.size) = some n) (hfit : off + n ≤ cs.size) :
   (loadVar ty ⟨g, off, none⟩).run P w = .ok (.agg ((cs.toList.drop off).take n).toArray) w := by
 have hlen : ((cs.toList.drop off).take n).length = n := by simp; omega
 have hl : (loadCells ⟨g, off, none⟩ ((cs.toList.drop off).take n).length).run P w = .ok ((cs.toList.drop off).take n).toArray w :=
   run_loadCells_list (P := P) w ⟨g, off, none⟩ _ (fun j v hv => by
     have hadd : (⟨g, off, none⟩ : Addr).add j = ⟨g, off + j, none⟩ := by unfold Addr.add; split <;> simp_all
     rw [hadd, cell_of_row w g (off + j) cs t (0, 0) hg]
     obtain ⟨hj, hv⟩ := List.getElem?_eq_some_iff.1 hv
     rw [hlen] at hj
     rw [List.getElem_take, List.getElem_drop] at hv
     rw [Array.getElem?_eq_getElem Tw.om, ← hv]
     simp)
 rw [hlen] at hl
 cases hq : P.info? ty with
 | none => simp [hq] at hi
 | some i =>
   have hs : i.size = n := by simpa [hq] using hi
   have hagg : (isAgg ty).run P w = .ok true w := by
     unfold isAgg
     rw [Sem.run_bind, run_underlying hu w]
     unfold aggD at hd
     cases d <;> simp_all
   simp [loadVar, Sem.run_bind, hagg, Go.sizeOf, typeInfo, hq, hs, hl]
theorem yb_load {o : Oper} {a : Act} {K : List (Nat × Obj)} {ty t : TypeId} {x : Operand} {g off n : Nat} {cs vs : Array Value} {d : TypeDesc} (ho : o.op = .load ty x) (hx : a.eval x = .pointer (some ⟨g, off, none⟩))
   (hm : (g, .cells cs t (0, 0)) ∈ K) (hu : P.underlying ty = some d) (hd : aggD d = true) (hi : (P.info? ty).map (·.size) = some n) (hfit : off + n ≤ cs.size)
   (hvs : vs = ((cs.toList.drop off).take n).toArray) :
   ∀ w, KS W0 K w → ∀ K' : Act → World → Prop, (∀ w', Below w.heap.size w w' → K' (a.put o.dst (.agg vs)) w') → Oper.wp P o a w K' (fun _ _ _ => False) := by
 intro w hw K' hk
 have hr := run_loadVar_mid (P := P) (ty := ty) w (hw.2 _ hm) hu hd hi hfit
 unfold Oper.wp execOp
 simp only [ho, hx, Instr.loadAt, Instr.sureAddr, Sem.run_bind, Sem.run_pure, Result.andThen_ok, hr]
 subst hvs
 exact hk w (Below.refl _ _)

theorem run_loadVar_all {g : Nat} {cs : Array Value} {t ty : TypeId} {d : TypeDesc} (w : World) (hg : w.heap[g]? = some (.cells cs t (0, 0)))
   (hu : P.underlying ty = some d) (hd : aggD d = true) (hi : (P.info? ty).map (·.size) = some cs.size) : (loadVar ty ⟨g, 0, none⟩).run P w = .ok (.agg cs) w := by
 have h := run_loadVar_mid (P := P) (ty := ty) (off := 0) w hg hu hd hi Tw.om
 have e : ((cs.toList.drop 0).take cs.size).toArray = cs := by
   rw [List.drop_zero, List.take_of_length_le (by simp)]
 rw [e] at h
 exact h
theorem res_cell {fn : Func} {p : Tmp} {ty : TypeId} (h : fn.results = #[.cell p ty]) {tmps : Array Value} {w : World} {g : Nat} {t : TypeId} {cs : Array Value} {d : TypeDesc}
   (hp : tmps.getD p undef = .pointer (some ⟨g, 0, none⟩)) (hg : w.heap[g]? = some (.cells cs t (0, 0)))
   (hu : P.underlying ty = some d) (hd : aggD d = true) (hi : (P.info? ty).map (·.size) = some cs.size) :
   (results fn tmps).run P w = .ok (.agg cs) w := by
 have hp' : tmps[p]?.getD undef = .pointer (some ⟨g, 0, none⟩) := by simpa using hp
 simp [results, h, hp', asAddr, run_loadVar_all w hg hu hd hi]
theorem res_cell_tmp {fn : Func} {p q : Tmp} {ty : TypeId} (h : fn.results = #[.cell p ty, .tmp q]) {tmps : Array Value} {w : World} {g : Nat} {t : TypeId} {cs : Array Value} {d : TypeDesc}
   (hp : tmps.getD p undef = .pointer (some ⟨g, 0, none⟩)) (hg : w.heap[g]? = some (.cells cs t (0, 0)))
   (hu : P.underlying ty = some d) (hd : aggD d = true) (hi : (P.info? ty).map (·.size) = some cs.size) :
   (results fn tmps).run P w = .ok (.tuple #[.agg cs, tmps.getD q undef]) w := by
 have hp' : tmps[p]?.getD undef = .pointer (some ⟨g, 0, none⟩) := by simpa using hp
 simp [results, h, hp', asAddr, run_loadVar_all w hg hu hd hi]
theorem yb_pure {o : Oper} {a : Act} {K : List (Nat × Obj)} {v : Value} (h : ∀ w, (execOp a.eval o).run P w = .ok (.value v) w) :
   ∀ w, KS W0 K w → ∀ K' : Act → World → Prop, (∀ w', Below w.heap.size w w' → K' (a.put o.dst v) w') → Oper.wp P o a w K' (fun _ _ _ => False) := by
 intro w _ K' hk
 unfold Oper.wp
 rw [h w]
 exact hk w (Below.refl _ _)
theorem yb_call {o : Oper} {a : Act} {K : List (Nat × Obj)} {v : Value} {f : FuncId} {args : Array Value} (hf : ∀ w, (execOp a.eval o).run P w = .ok (.enter f args) w)
   (h : ∀ w, KS W0 K w → Calls P f args w fun e w' => e = .returned v ∧ Below w.heap.size w w') :
   ∀ w, KS W0 K w → ∀ K' : Act → World → Prop, (∀ w', Below w.heap.size w w' → K' (a.put o.dst v) w') → Oper.wp P o a w K' (fun _ _ _ => False) := by
 intro w hw K' hk
 unfold Oper.wp
 rw [hf w]
 refine (h w hw).mono fun e w' ⟨he, hb⟩ => ?_
 subst he
 exact hk w' hb
end
end Tw
namespace Go.Proofs.YtllmpemmknblaaaDoor
open Go.RowKit Tw
section
variable {P : Program} {W0 : Base}
variable {ops : Array Oper} {md : Region.Mode} {Q : Exit → Act → World → Prop}
theorem wanted_no {o : Oper} {y : Nat → Option Bool} (h : o.guard = none) : Region.wanted o y = true := by simp [Region.wanted, h]
def freeP (md : Region.Mode) (ops : Array Oper) (listed : Array Bool) (i : Nat) : Bool :=
 Region.noSelect ops && (Region.free md ops listed i && ((Region.ready md ops listed).contains i && closedB md ops listed))
theorem run_bin {o : Oper} {a : Act} {v vx vy : Value} {op : BinOp} {xT : TypeId} {x y : Operand} {d : TypeId}
   (ho : o.op = .binOp op xT x y d) (hx : a.eval x = vx) (hy : a.eval y = vy)
   (h : ∀ w, (do eqGuard op xT x y vx vy; binOp op xT vx vy : Sem Value).run P w = .ok v w) : ∀ w, (execOp a.eval o).run P w = .ok (.value v) w := by
 intro w
 have h0 := h w
 unfold execOp
 rw [ho]
 simp only [hx, hy]
 rw [Sem.run_bind, h0]
 rfl
end
end Go.Proofs.YtllmpemmknblaaaDoor
/- The law of regions over known blocks (Rg, Yb) once more, for values of new blocks other than pointers (slices of parts). Nothing of the program. -/
namespace Tw
open Go Go.RowKit Go.Proofs.YtllmpemmknblaaaDoor
section
variable {P : Program} {ops : Array Oper} {Q : Exit → Act → World → Prop} {md : Region.Mode} {W0 : Base}
def AV (P : Program) (ops : Array Oper) (o : Oper) (obj : Obj) (mk : Nat → Value) (a : Act) : Prop :=
 Region.wanted o (yielded ops a.tmps) = true ∧ ∀ w, (execOp a.eval o).run P w = .ok (.value (mk w.heap.size)) (w.alloc obj)

theorem AV.of_same {o : Oper} {obj : Obj} {mk : Nat → Value} {a a' : Act} (hy : AV P ops o obj mk a) (he : execOp a'.eval o = execOp a.eval o)
   (hw : Region.wanted o (yielded ops a'.tmps) = Region.wanted o (yielded ops a.tmps)) : AV P ops o obj mk a' := by
 unfold AV at *
 rw [he, hw]
 exact hy

def GV (P : Program) (ops : Array Oper) (W0 : Base) (K : List (Nat × Obj)) (G : Value → List (Nat × Obj) → Prop) (o : Oper) (a : Act) : Prop :=
 Region.wanted o (yielded ops a.tmps) = true ∧ ∀ w, KS W0 K w → Oto P o a.eval w (fun v w' => ∃ K', KS W0 K' w' ∧ G v K')
theorem oto_same {P : Program} {o : Oper} {ρ ρ' : Operand → Value} {w : World} {R : Value → World → Prop} (he : execOp ρ' o = execOp ρ o) (h : Oto P o ρ w R) : Oto P o ρ' w R := by
 unfold Oto at *
 rw [he]
 exact h
theorem YB.sub {K K' : List (Nat × Obj)} {o : Oper} {v : Value} {a : Act} (hy : YB P ops W0 K o v a) (hs : ∀ p ∈ K, p ∈ K') : YB P ops W0 K' o v a :=
 hy.imp (fun h => ⟨h.1, fun w hw => h.2 w (hw.sub hs)⟩) id
def lateB (md : Region.Mode) (ops : Array Oper) (i : Nat) : Bool := (List.range ops.size).all fun k => k == i || (waits md ops 8 i k || waits md ops 8 k i)
theorem lateB_spec {i : Nat} (h : lateB md ops i = true) (k : Nat) (hk : k < ops.size) (hne : k ≠ i) : ∃ m, waits md ops m i k = true ∨ waits md ops m k i = true := by
 unfold lateB at h
 rw [List.all_eq_true] at h
 have h1 := h k (List.mem_range.2 hk)
 simp only [Bool.or_eq_true, beq_iff_eq] at h1
 rcases h1 with h1 | h1
 · exact (hne h1).elim
 · exact ⟨8, h1⟩
def wpV (P : Program) (md : Region.Mode) (ops : Array Oper) (Q : Exit → Act → World → Prop) (W0 : Base) : Nat → Array Bool → Act → List (Nat × Obj) → Prop
 | 0, listed, a, K => Region.ready md ops listed = [] ∧ ∀ w, KS W0 K w → Q .normal a w
 | n + 1, listed, a, K =>
   (Region.ready md ops listed = [] → ∀ w, KS W0 K w → Q .normal a w) ∧
   ∀ i ∈ Region.ready md ops listed, ∃ o, ops[i]? = some o ∧
     ((∃ v, YB P ops W0 K o v a ∧ wpV P md ops Q W0 n (listed.setIfInBounds i true) (a.put o.dst v) K) ∨
      (∃ obj, ∃ mk : Nat → Value, AV P ops o obj mk a ∧ ∀ g, W0.B ≤ g → (∀ p ∈ K, p.1 ≠ g) → wpV P md ops Q W0 n (listed.setIfInBounds i true) (a.put o.dst (mk g)) ((g, obj) :: K)) ∨
      (isStore o = true ∧ ∃ K', ST P ops W0 K K' o a ∧ wpV P md ops Q W0 n (listed.setIfInBounds i true) (a.put o.dst undef) K') ∨
      (∃ G : Value → List (Nat × Obj) → Prop, (isStore o = true ∨ (∀ v K', G v K' → ∀ p ∈ K, p ∈ K') ∨ lateB md ops i = true) ∧ GV P ops W0 K G o a ∧ ∀ v K', G v K' → wpV P md ops Q W0 n (listed.setIfInBounds i true) (a.put o.dst v) K'))

theorem wpV_sound : ∀ (n : Nat) (listed : Array Bool) (a : Act) (K : List (Nat × Obj)), wpV P md ops Q W0 n listed a K → ∀ w, KS W0 K w → wpAny P md ops Q n listed a w
 | 0, _, _, _, h, w, hw => ⟨h.1, h.2 w hw⟩
 | n + 1, listed, a, K, h, w, hw => by
   refine ⟨fun hr => h.1 hr w hw, fun i hi => ?_⟩
   obtain ⟨o, ho, hc⟩ := h.2 i hi
   refine wpOp_step ho fun K' hK' => ?_
   rcases hc with ⟨v, hy, hu⟩ | ⟨obj, mk, hal, hu⟩ | ⟨_, K2, hst, hu⟩ | ⟨G, _, hgv, hu⟩
   · rcases hy with ⟨hwn, hto⟩ | ⟨hwn, rfl⟩
     · rw [if_pos hwn]
       exact (hto w hw).wp fun u w' ⟨hu', hb⟩ => by subst hu'; exact hK' _ _ (wpV_sound n _ _ _ hu w' (hw.below hb))
     · rw [if_neg (by rw [hwn]; decide)]
       exact hK' _ _ (wpV_sound n _ _ _ hu w hw)
   · rw [if_pos hal.1]
     unfold Oper.wp
     rw [hal.2 w]
     refine hK' _ _ (wpV_sound n _ _ _ (hu w.heap.size hw.size (fun p hp e => ?_)) _ (hw.alloc obj))
     have := lt_of_block (hw.2 p hp)
     omega
   · rw [if_pos hst.1]
     obtain ⟨w', hrun, hw'⟩ := hst.2 w hw
     unfold Oper.wp
     rw [hrun]
     exact hK' _ _ (wpV_sound n _ _ _ hu w' hw')
   · rw [if_pos hgv.1]
     exact (hgv.2 w hw).wp fun v w' ⟨K2, hw', hG⟩ => hK' _ _ (wpV_sound n _ _ _ (hu v K2 hG) w' hw')


theorem wpV_first {i : Nat} {oi : Oper} {v : Value} (hi : ops[i]? = some oi) (hsel : ∀ (j : Nat) (o : Oper) cs b, ops[j]? = some o → o.op ≠ .select cs b) :
   ∀ (n : Nat) (listed : Array Bool) (a : Act) (K : List (Nat × Obj)), closed md ops listed →
     (∀ j oj, ops[j]? = some oj → j ≠ i → listed.getD j true = false → (∀ e ∈ oj.after, Region.binds md e = true → e.on ≠ i) → oi.apart ops oj = true) →
     i ∈ Region.ready md ops listed → ((∀ K', YB P ops W0 K' oi v a) ∨ (YB P ops W0 K oi v a ∧ ∀ j o, ops[j]? = some o → isStore o = true → ∃ m, waits md ops m j i = true)) →
     wpV P md ops Q W0 n (listed.setIfInBounds i true) (a.put oi.dst v) K → wpV P md ops Q W0 (n + 1) listed a K := by
 intro n
 induction n with
 | zero =>
   intro listed a K _ _ hr hy H
   refine ⟨fun h => (by rw [h] at hr; cases hr), fun j hj => ?_⟩
   by_cases hji : j = i
   · subst hji
     exact ⟨oi, hi, .inl ⟨v, hy.elim (fun h => h K) (fun h => h.1), H⟩⟩
   · have := ready_mono hj hji
     rw [H.1] at this
     cases this
 | succ n ih =>
   intro listed a K hcl hfree hr hy H
   refine ⟨fun h => (by rw [h] at hr; cases hr), fun j hj => ?_⟩
   by_cases hji : j = i
   · subst hji
     exact ⟨oi, hi, .inl ⟨v, hy.elim (fun h => h K) (fun h => h.1), H⟩⟩
   · obtain ⟨oj, hoj, hc⟩ := H.2 j (ready_mono hj hji)
     obtain ⟨hjun, oj', hoj', hall⟩ := mem_ready.1 hj
     rw [hoj] at hoj'
     cases hoj'
     have hiun := (mem_ready.1 hr).1
     have hnot : ∀ e ∈ oj.after, Region.binds md e = true → e.on ≠ i := fun e he hb heq => by
       have h1 := hall e he hb
       rw [heq, unlisted_false hiun] at h1
       cases h1
     have hap := hfree j oj hoj hji hjun hnot
     obtain ⟨h1, h2, h3⟩ := Oper.apart_spec hap
     have hfree' : ∀ k ok, ops[k]? = some ok → k ≠ i → (listed.setIfInBounds j true).getD k true = false →
         (∀ e ∈ ok.after, Region.binds md e = true → e.on ≠ i) → oi.apart ops ok = true := fun k ok hk hki hun hno => by
       refine hfree k ok hk hki ?_ hno
       by_cases hjk : j = k
       · subst hjk; exact hjun
       · rw [getD_set_ne true hjk] at hun; exact hun
     have hsi : ∀ cs b, oi.op ≠ .select cs b := fun cs b => hsel i oi cs b hi
     have hsj : ∀ cs b, oj.op ≠ .select cs b := fun cs b => hsel j oj cs b hoj
     have keep : ∀ K' u, YB P ops W0 K' oi v a → YB P ops W0 K' oi v (a.put oj.dst u) := fun K' u h => h.of_same (execOp_put oi hsi a oj.dst u h3) (wanted_put oi a oj.dst u h3)
     have eqe : execOp (a.put oi.dst v).eval oj = execOp a.eval oj := execOp_put oj hsj a oi.dst v h1
     have eqw : Region.wanted oj (yielded ops (a.put oi.dst v).tmps) = Region.wanted oj (yielded ops a.tmps) := wanted_put oj a oi.dst v h1
     refine ⟨oj, hoj, ?_⟩
     rcases hc with ⟨u, hyj, hu⟩ | ⟨obj, mk, hal, hu⟩ | ⟨hs, K2, hst2, hu⟩ | ⟨G, hs, hg2, hu⟩
     · refine .inl ⟨u, hyj.of_same eqe.symm eqw.symm, ih _ _ _ (closed_set hcl hj) hfree' (ready_mono hr (Ne.symm hji)) (hy.imp (fun h K' => keep K' u (h K')) (fun h => ⟨keep K u h.1, h.2⟩)) ?_⟩
       rw [Array.setIfInBounds_comm _ _ hji, ← Act.put_comm a v u h2]
       exact hu
     · refine .inr (.inl ⟨obj, mk, hal.of_same eqe.symm eqw.symm, fun g hg hgk => ih _ _ _ (closed_set hcl hj) hfree' (ready_mono hr (Ne.symm hji)) (hy.imp (fun h K' => keep K' _ (h K')) (fun h => ⟨(keep K _ h.1).more, h.2⟩)) ?_⟩)
       rw [Array.setIfInBounds_comm _ _ hji, ← Act.put_comm a v _ h2]
       exact hu g hg hgk
     · rcases hy with hy | ⟨hy, hwait⟩
       · refine .inr (.inr (.inl ⟨hs, K2, ⟨by rw [← eqw]; exact hst2.1, fun w hw => by rw [← eqe]; exact hst2.2 w hw⟩, ih _ _ _ (closed_set hcl hj) hfree' (ready_mono hr (Ne.symm hji)) (.inl fun K' => keep K' _ (hy K')) ?_⟩))
         rw [Array.setIfInBounds_comm _ _ hji, ← Act.put_comm a v _ h2]
         exact hu
       · obtain ⟨m, hm⟩ := hwait j oj hoj hs
         exact (not_waits hcl (unlisted_false hiun) m j oj hoj hm hall).elim
     · rcases hy with hy | ⟨hy, hwait⟩
       · refine .inr (.inr (.inr ⟨G, hs, ⟨by rw [← eqw]; exact hg2.1, fun w hw => oto_same eqe.symm (hg2.2 w hw)⟩, fun u K2 hG => ih _ _ _ (closed_set hcl hj) hfree' (ready_mono hr (Ne.symm hji)) (.inl fun K' => keep K' _ (hy K')) ?_⟩))
         rw [Array.setIfInBounds_comm _ _ hji, ← Act.put_comm a v _ h2]
         exact hu u K2 hG
       · rcases hs with hs | hm | hl
         · obtain ⟨m, hm⟩ := hwait j oj hoj hs
           exact (not_waits hcl (unlisted_false hiun) m j oj hoj hm hall).elim
         · refine .inr (.inr (.inr ⟨G, .inr (.inl hm), ⟨by rw [← eqw]; exact hg2.1, fun w hw => oto_same eqe.symm (hg2.2 w hw)⟩, fun u K2 hG => ih _ _ _ (closed_set hcl hj) hfree' (ready_mono hr (Ne.symm hji)) (.inr ⟨keep K2 _ (hy.sub (hm u K2 hG)), hwait⟩) ?_⟩))
           rw [Array.setIfInBounds_comm _ _ hji, ← Act.put_comm a v _ h2]
           exact hu u K2 hG
         · obtain ⟨m, hm | hm⟩ := lateB_spec hl i (Array.getElem?_eq_some_iff.1 hi).1 (Ne.symm hji)
           · exact (not_waits hcl (unlisted_false hiun) m j oj hoj hm hall).elim
           · obtain ⟨_, oi2, hoi2, halli⟩ := mem_ready.1 hr
             rw [hi] at hoi2
             cases hoi2
             exact (not_waits hcl (unlisted_false hjun) m i oi hi hm halli).elim


theorem wpV_val {i : Nat} {oi : Oper} {v : Value} {d n : Nat} {listed : Array Bool} {a : Act} {K : List (Nat × Obj)} (hi : ops[i]? = some oi) (hd : oi.dst = some d) (hlt : Nat.blt d a.tmps.size = true)
   (hf : freeAll md ops listed i = true) (hw : Region.wanted oi (yielded ops a.tmps) = true)
   (hy : ∀ w, KS W0 K w → ∀ K' : Act → World → Prop, (∀ w', Below w.heap.size w w' → K' (a.put oi.dst v) w') → Oper.wp P oi a w K' (fun _ _ _ => False))
   (h : wpV P md ops Q W0 n (listed.setIfInBounds i true) (a.put oi.dst v) K) : wpV P md ops Q W0 (n + 1) listed a K := by
 unfold freeAll at hf
 simp only [Bool.and_eq_true] at hf
 obtain ⟨h1, h2, h3, h4, h5⟩ := hf
 exact wpV_first hi (Region.noSelect_spec h1) n listed a K (closed_of h4) (Region.free_spec hi h2) (by simpa using h3)
   (.inr ⟨.inl ⟨hw, fun w hk => Oto.of_wp hd (Nat.le_of_ble_eq_true hlt) (hy w hk)⟩, storesWait_spec h5⟩) h
theorem wpV_not {i : Nat} {oi : Oper} {n : Nat} {listed : Array Bool} {a : Act} {K : List (Nat × Obj)} (hi : ops[i]? = some oi)
   (hf : freeAll md ops listed i = true) (hw : Region.wanted oi (yielded ops a.tmps) = false)
   (h : wpV P md ops Q W0 n (listed.setIfInBounds i true) (a.put oi.dst undef) K) : wpV P md ops Q W0 (n + 1) listed a K := by
 unfold freeAll at hf
 simp only [Bool.and_eq_true] at hf
 obtain ⟨h1, h2, h3, h4, h5⟩ := hf
 exact wpV_first hi (Region.noSelect_spec h1) n listed a K (closed_of h4) (Region.free_spec hi h2) (by simpa using h3)
   (.inl fun _ => .inr ⟨hw, rfl⟩) h
theorem wpV_alloc {i : Nat} {oi : Oper} {obj : Obj} (mk : Nat → Value) {n : Nat} {listed : Array Bool} {a : Act} {K : List (Nat × Obj)} (hi : ops[i]? = some oi) (hr : Region.ready md ops listed = [i])
   (hw : Region.wanted oi (yielded ops a.tmps) = true) (hal : ∀ w, (execOp a.eval oi).run P w = .ok (.value (mk w.heap.size)) (w.alloc obj))
   (h : ∀ g, W0.B ≤ g → (∀ p ∈ K, p.1 ≠ g) → wpV P md ops Q W0 n (listed.setIfInBounds i true) (a.put oi.dst (mk g)) ((g, obj) :: K)) : wpV P md ops Q W0 (n + 1) listed a K :=
 ⟨fun h0 => (by rw [hr] at h0; cases h0), fun j hj => by
   rw [hr] at hj
   cases List.mem_singleton.1 hj
   exact ⟨oi, hi, .inr (.inl ⟨obj, mk, ⟨hw, hal⟩, h⟩)⟩⟩
theorem wpV_store {i : Nat} {oi : Oper} {n : Nat} {listed : Array Bool} {a : Act} {K K' : List (Nat × Obj)} (hi : ops[i]? = some oi) (hr : Region.ready md ops listed = [i])
   (hs : isStore oi = true) (hw : Region.wanted oi (yielded ops a.tmps) = true) (hst : ∀ w, KS W0 K w → ∃ w', (execOp a.eval oi).run P w = .ok .skip w' ∧ KS W0 K' w')
   (h : wpV P md ops Q W0 n (listed.setIfInBounds i true) (a.put oi.dst undef) K') : wpV P md ops Q W0 (n + 1) listed a K :=
 ⟨fun h0 => (by rw [hr] at h0; cases h0), fun j hj => by
   rw [hr] at hj
   cases List.mem_singleton.1 hj
   exact ⟨oi, hi, .inr (.inr (.inl ⟨hs, K', ⟨hw, hst⟩, h⟩))⟩⟩
def StepV (P : Program) (md : Region.Mode) (ops : Array Oper) (Q : Exit → Act → World → Prop) (W0 : Base) (n : Nat) (listed : Array Bool) (a : Act) (K : List (Nat × Obj)) (i : Nat) : Prop :=
 ∃ o, ops[i]? = some o ∧
     ((∃ v, YB P ops W0 K o v a ∧ wpV P md ops Q W0 n (listed.setIfInBounds i true) (a.put o.dst v) K) ∨
      (∃ obj, ∃ mk : Nat → Value, AV P ops o obj mk a ∧ ∀ g, W0.B ≤ g → (∀ p ∈ K, p.1 ≠ g) → wpV P md ops Q W0 n (listed.setIfInBounds i true) (a.put o.dst (mk g)) ((g, obj) :: K)) ∨
      (isStore o = true ∧ ∃ K', ST P ops W0 K K' o a ∧ wpV P md ops Q W0 n (listed.setIfInBounds i true) (a.put o.dst undef) K') ∨
      (∃ G : Value → List (Nat × Obj) → Prop, (isStore o = true ∨ (∀ v K', G v K' → ∀ p ∈ K, p ∈ K') ∨ lateB md ops i = true) ∧ GV P ops W0 K G o a ∧ ∀ v K', G v K' → wpV P md ops Q W0 n (listed.setIfInBounds i true) (a.put o.dst v) K'))
theorem stepV_alloc {i : Nat} {oi : Oper} {obj : Obj} (mk : Nat → Value) {n : Nat} {listed : Array Bool} {a : Act} {K : List (Nat × Obj)} (hi : ops[i]? = some oi)
   (hw : Region.wanted oi (yielded ops a.tmps) = true) (hal : ∀ w, (execOp a.eval oi).run P w = .ok (.value (mk w.heap.size)) (w.alloc obj))
   (h : ∀ g, W0.B ≤ g → (∀ p ∈ K, p.1 ≠ g) → wpV P md ops Q W0 n (listed.setIfInBounds i true) (a.put oi.dst (mk g)) ((g, obj) :: K)) : StepV P md ops Q W0 n listed a K i :=
 ⟨oi, hi, .inr (.inl ⟨obj, mk, ⟨hw, hal⟩, h⟩)⟩
theorem wpV_2 {i j n : Nat} {listed : Array Bool} {a : Act} {K : List (Nat × Obj)} (hr : Region.ready md ops listed = [i, j]) (h : StepV P md ops Q W0 n listed a K i) (h' : StepV P md ops Q W0 n listed a K j) : wpV P md ops Q W0 (n + 1) listed a K :=
 ⟨fun h0 => (by rw [hr] at h0; cases h0), fun k hk => by
   rw [hr] at hk
   rcases List.mem_cons.1 hk with rfl | hk
   · exact h
   · cases List.mem_singleton.1 hk
     exact h'⟩
theorem wpV_done {listed : Array Bool} {a : Act} {K : List (Nat × Obj)} (hr : Region.ready md ops listed = []) (h : ∀ w, KS W0 K w → Q .normal a w) : ∀ n, wpV P md ops Q W0 n listed a K
 | 0 => ⟨hr, h⟩
 | _ + 1 => ⟨fun _ => h, by rw [hr]; simp⟩
theorem wp_region_V {id : Nat} {a : Act} {w : World} (K : List (Nat × Obj)) (hm : P.follows .mixedOrders = true) (hK : KS W0 K w)
   (h : wpV P .any ops Q W0 ops.size (Array.replicate ops.size false) a K) : (Code.region id ops true).wp P Q a w :=
 wp_region_any hm (wpV_sound _ _ _ _ h _ hK.drew)

theorem wpV_v {md : Region.Mode} {ops : Array Oper} {Q : Exit → Act → World → Prop} {i : Nat} {oi : Oper} {v : Value} {d n : Nat} {listed : Array Bool} {tm : Array Value} {df : List Deferred} {K : List (Nat × Obj)} (hi : ops[i]? = some oi) (hd : oi.dst = some d) (hlt : Nat.blt d tm.size = true)
   (hf : freeAll md ops listed i = true) (hw : Region.wanted oi (yielded ops tm) = true)
   (hy : ∀ w, KS W0 K w → ∀ K' : Act → World → Prop, (∀ w', Below w.heap.size w w' → K' (Act.put ⟨tm, df⟩ oi.dst v) w') → Oper.wp P oi ⟨tm, df⟩ w K' (fun _ _ _ => False))
   {T : Array Value} (hT : tm.setIfInBounds d v = T)
   (h : wpV P md ops Q W0 n (listed.setIfInBounds i true) ⟨T, df⟩ K) : wpV P md ops Q W0 (n + 1) listed ⟨tm, df⟩ K := by
 refine wpV_val hi hd hlt hf hw hy ?_
 rw [hd]
 subst hT
 exact h
theorem wpV_s {i : Nat} {oi : Oper} {n : Nat} {listed : Array Bool} {tm : Array Value} {df : List Deferred} {K : List (Nat × Obj)} (K' : List (Nat × Obj)) (hi : ops[i]? = some oi) (hr : Region.ready md ops listed = [i]) (hd : oi.dst = none) (hg : oi.guard = none)
   (hs : isStore oi = true) (hst : ∀ w, KS W0 K w → ∃ w', (execOp (Act.eval ⟨tm, df⟩) oi).run P w = .ok .skip w' ∧ KS W0 K' w')
   (h : wpV P md ops Q W0 n (listed.setIfInBounds i true) ⟨tm, df⟩ K') : wpV P md ops Q W0 (n + 1) listed ⟨tm, df⟩ K := by
 refine wpV_store hi hr hs (wanted_no hg) hst ?_
 rw [hd]
 exact h
theorem wpV_p {i : Nat} {oi : Oper} {v : Value} {d n : Nat} {listed : Array Bool} {tm : Array Value} {df : List Deferred} {K : List (Nat × Obj)} (hi : ops[i]? = some oi) (hd : oi.dst = some d) (hlt : Nat.blt d tm.size = true)
   (hf : freeP md ops listed i = true) (hw : Region.wanted oi (yielded ops tm) = true)
   (hy : ∀ w, (execOp (Act.eval ⟨tm, df⟩) oi).run P w = .ok (.value v) w)
   {T : Array Value} (hT : tm.setIfInBounds d v = T)
   (h : wpV P md ops Q W0 n (listed.setIfInBounds i true) ⟨T, df⟩ K) : wpV P md ops Q W0 (n + 1) listed ⟨tm, df⟩ K := by
 unfold freeP at hf
 simp only [Bool.and_eq_true] at hf
 obtain ⟨h1, h2, h3, h4⟩ := hf
 refine wpV_first (v := v) hi (Region.noSelect_spec h1) n listed _ K (closed_of h4) (Region.free_spec hi h2) (by simpa using h3)
   (.inl fun K' => .inl ⟨hw, fun w hk => Oto.of_wp hd (Nat.le_of_ble_eq_true hlt) (yb_pure (K := K') hy w hk)⟩) ?_
 rw [hd]
 subst hT
 exact h
theorem wpV_n {i : Nat} {oi : Oper} {d n : Nat} {listed : Array Bool} {tm : Array Value} {df : List Deferred} {K : List (Nat × Obj)} (hi : ops[i]? = some oi) (hd : oi.dst = some d)
   (hf : freeAll md ops listed i = true) (hw : Region.wanted oi (yielded ops tm) = false)
   {T : Array Value} (hT : tm.setIfInBounds d undef = T)
   (h : wpV P md ops Q W0 n (listed.setIfInBounds i true) ⟨T, df⟩ K) : wpV P md ops Q W0 (n + 1) listed ⟨tm, df⟩ K := by
 refine wpV_not hi hf hw ?_
 rw [hd]
 subst hT
 exact h

theorem wpV_ns {i : Nat} {oi : Oper} {d : Nat} {obi : Obj} {n : Nat} {listed : Array Bool} {tm : Array Value} {df : List Deferred} {K : List (Nat × Obj)} {T : Nat → Array Value} (mk : Nat → Value)
   (hi : ops[i]? = some oi) (hdi : oi.dst = some d) (hgi : oi.guard = none)
   (hr : Region.ready md ops listed = [i])
   (hai : ∀ w, (execOp (Act.eval ⟨tm, df⟩) oi).run P w = .ok (.value (mk w.heap.size)) (w.alloc obi))
   (hT : ∀ g, (tm.setIfInBounds d (mk g)) = T g)
   (h : ∀ g, W0.B ≤ g → (∀ p ∈ K, p.1 ≠ g) → wpV P md ops Q W0 n (listed.setIfInBounds i true) ⟨T g, df⟩ ((g, obi) :: K)) :
   wpV P md ops Q W0 (n + 1) listed ⟨tm, df⟩ K := by
 refine wpV_alloc mk hi hr (wanted_no hgi) hai (fun g hg hf => ?_)
 rw [hdi]
 simp only [Act.put]
 rw [hT g]
 exact h g hg hf
theorem wpV_c {i : Nat} {oi : Oper} {d n : Nat} {listed : Array Bool} {tm : Array Value} {df : List Deferred} {K : List (Nat × Obj)} {T : Value → Array Value} {f : FuncId} {args : Array Value} (G : Value → List (Nat × Obj) → Prop)
   (hi : ops[i]? = some oi) (hdi : oi.dst = some d) (hr : Region.ready md ops listed = [i]) (hw : Region.wanted oi (yielded ops tm) = true)
   (hf : ∀ w, (execOp (Act.eval ⟨tm, df⟩) oi).run P w = .ok (.enter f args) w)
   (hc : ∀ w, KS W0 K w → Calls P f args w fun e w' => ∃ v K', e = .returned v ∧ KS W0 K' w' ∧ G v K') (hm : ∀ v K', G v K' → ∀ p ∈ K, p ∈ K')
   (hT : ∀ v, tm.setIfInBounds d v = T v)
   (h : ∀ v K', G v K' → wpV P md ops Q W0 n (listed.setIfInBounds i true) ⟨T v, df⟩ K') : wpV P md ops Q W0 (n + 1) listed ⟨tm, df⟩ K :=
 ⟨fun h0 => (by rw [hr] at h0; cases h0), fun j hj => by
   rw [hr] at hj
   cases List.mem_singleton.1 hj
   refine ⟨oi, hi, .inr (.inr (.inr ⟨G, .inr (.inl hm), ⟨hw, fun w hK => ?_⟩, fun v K' hG => ?_⟩))⟩
   · unfold Oto
     rw [hf w]
     exact (hc w hK).mono fun e w' ⟨v, K', he, hk, hG⟩ => ⟨v, he, K', hk, hG⟩
   · rw [hdi]
     simp only [Act.put]
     rw [hT v]
     exact h v K' hG⟩
theorem vv {i : Nat} {oi : Oper} {v : Value} {d n : Nat} {listed : Array Bool} {tm : Array Value} {df : List Deferred} {K : List (Nat × Obj)} {T : Array Value} (hi : ops[i]? = some oi) (hd : oi.dst = some d) (hw : Region.wanted oi (yielded ops tm) = true)
   (hy : ∀ w, KS W0 K w → ∀ K' : Act → World → Prop, (∀ w', Below w.heap.size w w' → K' (Act.put ⟨tm, df⟩ oi.dst v) w') → Oper.wp P oi ⟨tm, df⟩ w K' (fun _ _ _ => False))
   (h : wpV P md ops Q W0 n (listed.setIfInBounds i true) ⟨T, df⟩ K) (hlt : Nat.blt d tm.size = true := by kernel_rfl) (hf : freeAll md ops listed i = true := by kernel_rfl) (hT : tm.setIfInBounds d v = T := by simp only [List.setIfInBounds_toArray, List.set_cons_succ, List.set_cons_zero] <;> rfl) : wpV P md ops Q W0 (n + 1) listed ⟨tm, df⟩ K := wpV_v hi hd hlt hf hw hy hT h
theorem vp {i : Nat} {oi : Oper} {v : Value} {d n : Nat} {listed : Array Bool} {tm : Array Value} {df : List Deferred} {K : List (Nat × Obj)} {T : Array Value} (hi : ops[i]? = some oi) (hd : oi.dst = some d) (hw : Region.wanted oi (yielded ops tm) = true)
   (hy : ∀ w, (execOp (Act.eval ⟨tm, df⟩) oi).run P w = .ok (.value v) w)
   (h : wpV P md ops Q W0 n (listed.setIfInBounds i true) ⟨T, df⟩ K) (hlt : Nat.blt d tm.size = true := by kernel_rfl) (hf : freeP md ops listed i = true := by kernel_rfl) (hT : tm.setIfInBounds d v = T := by simp only [List.setIfInBounds_toArray, List.set_cons_succ, List.set_cons_zero] <;> rfl) : wpV P md ops Q W0 (n + 1) listed ⟨tm, df⟩ K := wpV_p hi hd hlt hf hw hy hT h
theorem vm {i : Nat} {oi : Oper} {v : Value} {d n : Nat} {listed : Array Bool} {tm : Array Value} {df : List Deferred} {K : List (Nat × Obj)} {T : Array Value} (hi : ops[i]? = some oi) (hd : oi.dst = some d) (hw : Region.wanted oi (yielded ops tm) = true)
   (h : wpV P md ops Q W0 n (listed.setIfInBounds i true) ⟨T, df⟩ K) (hy : ∀ w, (execOp (Act.eval ⟨tm, df⟩) oi).run P w = .ok (.value v) w := by intro _; kernel_rfl) (hlt : Nat.blt d tm.size = true := by kernel_rfl) (hf : freeP md ops listed i = true := by kernel_rfl) (hT : tm.setIfInBounds d v = T := by simp only [List.setIfInBounds_toArray, List.set_cons_succ, List.set_cons_zero] <;> rfl) : wpV P md ops Q W0 (n + 1) listed ⟨tm, df⟩ K := wpV_p hi hd hlt hf hw hy hT h
theorem vn {i : Nat} {oi : Oper} {d n : Nat} {listed : Array Bool} {tm : Array Value} {df : List Deferred} {K : List (Nat × Obj)} {T : Array Value} (hi : ops[i]? = some oi) (hd : oi.dst = some d)
   (h : wpV P md ops Q W0 n (listed.setIfInBounds i true) ⟨T, df⟩ K) (hf : freeAll md ops listed i = true := by kernel_rfl) (hw : Region.wanted oi (yielded ops tm) = false := by kernel_rfl) (hT : tm.setIfInBounds d undef = T := by simp only [List.setIfInBounds_toArray, List.set_cons_succ, List.set_cons_zero] <;> rfl) : wpV P md ops Q W0 (n + 1) listed ⟨tm, df⟩ K := wpV_n hi hd hf hw hT h
end
end Tw
/- The law of regions over known blocks for statements that do not draw their order. Nothing of the program. -/
namespace Tw
open Go Go.RowKit Go.Proofs.YtllmpemmknblaaaDoor
section
variable {P : Program} {ops : Array Oper} {Q : Exit → Act → World → Prop} {W0 : Base}
structure wpL (P : Program) (ops : Array Oper) (Q : Exit → Act → World → Prop) (W0 : Base) (rest : List Oper) (a : Act) (K : List (Nat × Obj)) : Prop where
 of : ∀ w, KS W0 K w → wpList P ops Q rest a w
theorem wp_region_L {id : Nat} {l : List Oper} {a : Act} {w : World} (K : List (Nat × Obj)) (hK : KS W0 K w) (h : wpL P l.toArray Q W0 l a K) : (Code.region id l.toArray false).wp P Q a w :=
 wp_region_lit (h.of w hK)
theorem wpL_v {rest : List Oper} {oi : Oper} {v : Value} {d : Nat} {tm : Array Value} {df : List Deferred} {K : List (Nat × Obj)} (hd : oi.dst = some d) (hlt : Nat.blt d tm.size = true) (hw : Region.wanted oi (yielded ops tm) = true)
   (hy : ∀ w, KS W0 K w → ∀ K' : Act → World → Prop, (∀ w', Below w.heap.size w w' → K' (Act.put ⟨tm, df⟩ oi.dst v) w') → Oper.wp P oi ⟨tm, df⟩ w K' (fun _ _ _ => False))
   {T : Array Value} (hT : tm.setIfInBounds d v = T) (h : wpL P ops Q W0 rest ⟨T, df⟩ K) : wpL P ops Q W0 (oi :: rest) ⟨tm, df⟩ K := by
 refine ⟨fun w hK => ?_⟩
 refine wpList_step fun K' hK' => ?_
 rw [if_pos hw]
 exact (Oto.of_wp (a := ⟨tm, df⟩) hd (Nat.le_of_ble_eq_true hlt) (hy w hK)).wp fun u w' ⟨hu, hb⟩ => by
   subst hu
   refine hK' _ _ ?_
   rw [hd]
   subst hT
   exact h.of w' (hK.below hb)
theorem wpL_p {rest : List Oper} {oi : Oper} {v : Value} {d : Nat} {tm : Array Value} {df : List Deferred} {K : List (Nat × Obj)} (hd : oi.dst = some d) (hlt : Nat.blt d tm.size = true) (hw : Region.wanted oi (yielded ops tm) = true)
   (hy : ∀ w, (execOp (Act.eval ⟨tm, df⟩) oi).run P w = .ok (.value v) w)
   {T : Array Value} (hT : tm.setIfInBounds d v = T) (h : wpL P ops Q W0 rest ⟨T, df⟩ K) : wpL P ops Q W0 (oi :: rest) ⟨tm, df⟩ K :=
 wpL_v hd hlt hw (yb_pure hy) hT h
theorem wpL_n {rest : List Oper} {oi : Oper} {d : Nat} {tm : Array Value} {df : List Deferred} {K : List (Nat × Obj)} (hd : oi.dst = some d) (hw : Region.wanted oi (yielded ops tm) = false)
   {T : Array Value} (hT : tm.setIfInBounds d undef = T) (h : wpL P ops Q W0 rest ⟨T, df⟩ K) : wpL P ops Q W0 (oi :: rest) ⟨tm, df⟩ K := by
 refine ⟨fun w hK => ?_⟩
 refine wpList_step fun K' hK' => ?_
 rw [if_neg (by rw [hw]; decide)]
 refine hK' _ _ ?_
 rw [hd]
 subst hT
 exact h.of w hK
theorem wpL_new {rest : List Oper} {oi : Oper} {d : Nat} {obi : Obj} {tm : Array Value} {df : List Deferred} {K : List (Nat × Obj)} {T : Nat → Array Value} (mk : Nat → Value)
   (hdi : oi.dst = some d) (hgi : oi.guard = none)
   (hai : ∀ w, (execOp (Act.eval ⟨tm, df⟩) oi).run P w = .ok (.value (mk w.heap.size)) (w.alloc obi))
   (hT : ∀ g, (tm.setIfInBounds d (mk g)) = T g)
   (h : ∀ g, W0.B ≤ g → (∀ p ∈ K, p.1 ≠ g) → wpL P ops Q W0 rest ⟨T g, df⟩ ((g, obi) :: K)) : wpL P ops Q W0 (oi :: rest) ⟨tm, df⟩ K := by
 refine ⟨fun w hK => ?_⟩
 refine wpList_step fun K' hK' => ?_
 rw [if_pos (wanted_no hgi)]
 unfold Oper.wp
 rw [hai w]
 refine hK' _ _ ?_
 rw [hdi]
 simp only [Act.put]
 rw [hT w.heap.size]
 exact (h w.heap.size hK.size (fun p hp => by have := lt_of_block (hK.2 p hp); omega)).of _ (hK.alloc obi)
theorem wpL_s {rest : List Oper} {oi : Oper} {tm : Array Value} {df : List Deferred} {K : List (Nat × Obj)} (K' : List (Nat × Obj)) (hd : oi.dst = none) (hg : oi.guard = none)
   (hst : ∀ w, KS W0 K w → ∃ w', (execOp (Act.eval ⟨tm, df⟩) oi).run P w = .ok .skip w' ∧ KS W0 K' w')
   (h : wpL P ops Q W0 rest ⟨tm, df⟩ K') : wpL P ops Q W0 (oi :: rest) ⟨tm, df⟩ K := by
 refine ⟨fun w hK => ?_⟩
 obtain ⟨w', hrun, hw'⟩ := hst w hK
 refine wpList_step fun K2 hK2 => ?_
 rw [if_pos (wanted_no hg)]
 unfold Oper.wp
 rw [hrun]
 refine hK2 _ _ ?_
 rw [hd]
 exact h.of w' hw'
theorem wpL_done {a : Act} {K : List (Nat × Obj)} (h : ∀ w, KS W0 K w → Q .normal a w) : wpL P ops Q W0 [] a K := ⟨fun w hK => wpList_nil (h w hK)⟩
theorem wpL_c {rest : List Oper} {oi : Oper} {d : Nat} {tm : Array Value} {df : List Deferred} {K : List (Nat × Obj)} {T : Value → Array Value} {f : FuncId} {args : Array Value} (G : Value → List (Nat × Obj) → Prop)
   (hdi : oi.dst = some d) (hw : Region.wanted oi (yielded ops tm) = true)
   (hf : ∀ w, (execOp (Act.eval ⟨tm, df⟩) oi).run P w = .ok (.enter f args) w)
   (hc : ∀ w, KS W0 K w → Calls P f args w fun e w' => ∃ v K', e = .returned v ∧ KS W0 K' w' ∧ G v K')
   (hT : ∀ v, tm.setIfInBounds d v = T v)
   (h : ∀ v K', G v K' → wpL P ops Q W0 rest ⟨T v, df⟩ K') : wpL P ops Q W0 (oi :: rest) ⟨tm, df⟩ K := by
 refine ⟨fun w hK => ?_⟩
 refine wpList_step fun K2 hK2 => ?_
 rw [if_pos hw]
 unfold Oper.wp
 rw [hf w]
 refine (hc w hK).mono fun e w' ⟨v, K', he, hk, hG⟩ => ?_
 subst he
 refine hK2 _ _ ?_
 rw [hdi]
 simp only [Act.put]
 rw [hT v]
 exact (h v K' hG).of w' hk
theorem lv {rest : List Oper} {oi : Oper} {v : Value} {d : Nat} {tm : Array Value} {df : List Deferred} {K : List (Nat × Obj)} {T : Array Value} (hd : oi.dst = some d) (hw : Region.wanted oi (yielded ops tm) = true)
   (hy : ∀ w, KS W0 K w → ∀ K' : Act → World → Prop, (∀ w', Below w.heap.size w w' → K' (Act.put ⟨tm, df⟩ oi.dst v) w') → Oper.wp P oi ⟨tm, df⟩ w K' (fun _ _ _ => False))
   (h : wpL P ops Q W0 rest ⟨T, df⟩ K) (hlt : Nat.blt d tm.size = true := by kernel_rfl) (hT : tm.setIfInBounds d v = T := by simp only [List.setIfInBounds_toArray, List.set_cons_succ, List.set_cons_zero] <;> rfl) : wpL P ops Q W0 (oi :: rest) ⟨tm, df⟩ K := wpL_v hd hlt hw hy hT h
theorem lp {rest : List Oper} {oi : Oper} {v : Value} {d : Nat} {tm : Array Value} {df : List Deferred} {K : List (Nat × Obj)} {T : Array Value} (hd : oi.dst = some d) (hw : Region.wanted oi (yielded ops tm) = true)
   (hy : ∀ w, (execOp (Act.eval ⟨tm, df⟩) oi).run P w = .ok (.value v) w)
   (h : wpL P ops Q W0 rest ⟨T, df⟩ K) (hlt : Nat.blt d tm.size = true := by kernel_rfl) (hT : tm.setIfInBounds d v = T := by simp only [List.setIfInBounds_toArray, List.set_cons_succ, List.set_cons_zero] <;> rfl) : wpL P ops Q W0 (oi :: rest) ⟨tm, df⟩ K := wpL_p hd hlt hw hy hT h
theorem lm {rest : List Oper} {oi : Oper} {v : Value} {d : Nat} {tm : Array Value} {df : List Deferred} {K : List (Nat × Obj)} {T : Array Value} (hd : oi.dst = some d) (hw : Region.wanted oi (yielded ops tm) = true)
   (h : wpL P ops Q W0 rest ⟨T, df⟩ K) (hy : ∀ w, (execOp (Act.eval ⟨tm, df⟩) oi).run P w = .ok (.value v) w := by intro _; kernel_rfl) (hlt : Nat.blt d tm.size = true := by kernel_rfl) (hT : tm.setIfInBounds d v = T := by simp only [List.setIfInBounds_toArray, List.set_cons_succ, List.set_cons_zero] <;> rfl) : wpL P ops Q W0 (oi :: rest) ⟨tm, df⟩ K := wpL_p hd hlt hw hy hT h
theorem ln {rest : List Oper} {oi : Oper} {d : Nat} {tm : Array Value} {df : List Deferred} {K : List (Nat × Obj)} {T : Array Value} (hd : oi.dst = some d)
   (h : wpL P ops Q W0 rest ⟨T, df⟩ K) (hw : Region.wanted oi (yielded ops tm) = false := by kernel_rfl) (hT : tm.setIfInBounds d undef = T := by simp only [List.setIfInBounds_toArray, List.set_cons_succ, List.set_cons_zero] <;> rfl) : wpL P ops Q W0 (oi :: rest) ⟨tm, df⟩ K := wpL_n hd hw hT h
theorem mm {rest : List Oper} {oi : Oper} {d : Nat} {tm : Array Value} {df : List Deferred} {K : List (Nat × Obj)} {T : Array Value} (v : Value) (h : wpL P ops Q W0 rest ⟨T, df⟩ K) (hd : oi.dst = some d := by exact rfl) (hw : Region.wanted oi (yielded ops tm) = true := by exact rfl) (hy : ∀ w, (execOp (Act.eval ⟨tm, df⟩) oi).run P w = .ok (.value v) w := by intro _; kernel_rfl) (hlt : Nat.blt d tm.size = true := by kernel_rfl) (hT : tm.setIfInBounds d v = T := by simp only [List.setIfInBounds_toArray, List.set_cons_succ, List.set_cons_zero] <;> rfl) : wpL P ops Q W0 (oi :: rest) ⟨tm, df⟩ K := lm hd hw h hy hlt hT
end
end Tw
/- Numbers of all kinds, strings, cells of known blocks: steps over any program. -/
namespace Tw
open Go Go.RowKit Go.Proofs.YtllmpemmknblaaaDoor
section
variable {P : Program} {W0 : Base} {T : TypeId} {px py : Operand}

theorem wr_i64 {z : Nat} (h : z ≤ 9223372036854775807) : IntKind.i64.wrap (z : Int) = (z : Int) := by
 unfold IntKind.wrap; simp [IntKind.bits, IntKind.signed]; omega
theorem wi_i64 {z : Int} (h : -9223372036854775808 ≤ z ∧ z ≤ 9223372036854775807) : IntKind.i64.wrap z = z := by
 unfold IntKind.wrap; simp [IntKind.bits, IntKind.signed]; omega
theorem wr_u8 {z : Nat} (h : z ≤ 255) : IntKind.u8.wrap (z : Int) = (z : Int) := by
 unfold IntKind.wrap; simp [IntKind.bits, IntKind.signed]; omega
theorem wr_u64 {z : Nat} (h : z ≤ 18446744073709551615) : IntKind.u64.wrap (z : Int) = (z : Int) := by
 unfold IntKind.wrap; simp [IntKind.bits, IntKind.signed]; omega
theorem bn_add {k : IntKind} {x y z : Nat} (h : x + y = z) (hw : k.wrap (z : Int) = (z : Int)) (w : World) : (do eqGuard .add T px py (.int k (x : Int)) (.int k (y : Int)); binOp .add T (.int k (x : Int)) (.int k (y : Int)) : Sem Value).run P w = .ok (.int k (z : Int)) w := by
 have e := (show (x : Int) + (y : Int) = (z : Int) by omega)
 simp [eqGuard, binOp, Op.intArith, e, hw]
theorem bi_add {k : IntKind} {x y z : Int} (h : x + y = z) (hw : k.wrap z = z) (w : World) : (do eqGuard .add T px py (.int k x) (.int k y); binOp .add T (.int k x) (.int k y) : Sem Value).run P w = .ok (.int k z) w := by
 simp [eqGuard, binOp, Op.intArith, h, hw]
theorem bw_add {k : IntKind} {x y z : Int} (h : k.wrap (x + y) = z) (w : World) : (do eqGuard .add T px py (.int k x) (.int k y); binOp .add T (.int k x) (.int k y) : Sem Value).run P w = .ok (.int k z) w := by
 simp [eqGuard, binOp, Op.intArith, h]
theorem bn_sub {k : IntKind} {x y z : Nat} (h : x - y = z) (hle : y ≤ x) (hw : k.wrap (z : Int) = (z : Int)) (w : World) : (do eqGuard .sub T px py (.int k (x : Int)) (.int k (y : Int)); binOp .sub T (.int k (x : Int)) (.int k (y : Int)) : Sem Value).run P w = .ok (.int k (z : Int)) w := by
 have e := (show (x : Int) - (y : Int) = (z : Int) by omega)
 simp [eqGuard, binOp, Op.intArith, e, hw]
theorem bi_sub {k : IntKind} {x y z : Int} (h : x - y = z) (hw : k.wrap z = z) (w : World) : (do eqGuard .sub T px py (.int k x) (.int k y); binOp .sub T (.int k x) (.int k y) : Sem Value).run P w = .ok (.int k z) w := by
 simp [eqGuard, binOp, Op.intArith, h, hw]
theorem bn_mul {k : IntKind} {x y z : Nat} (h : x * y = z) (hw : k.wrap (z : Int) = (z : Int)) (w : World) : (do eqGuard .mul T px py (.int k (x : Int)) (.int k (y : Int)); binOp .mul T (.int k (x : Int)) (.int k (y : Int)) : Sem Value).run P w = .ok (.int k (z : Int)) w := by
 have e := (show (x : Int) * (y : Int) = (z : Int) by rw [← h]; simp)
 simp [eqGuard, binOp, Op.intArith, e, hw]
theorem bn_quo {k : IntKind} {x y z : Nat} (h : x / y = z) (hy : 0 < y) (hw : k.wrap (z : Int) = (z : Int)) (w : World) : (do eqGuard .quo T px py (.int k (x : Int)) (.int k (y : Int)); binOp .quo T (.int k (x : Int)) (.int k (y : Int)) : Sem Value).run P w = .ok (.int k (z : Int)) w := by
 have e : Int.tdiv (x : Int) (y : Int) = (z : Int) := by rw [← h]; exact (Int.tdiv_eq_ediv_of_nonneg Tw.om).trans (by simp)
 have hy0 : ¬ y = 0 := by omega
 simp [eqGuard, binOp, Op.intDiv, e, hw, hy0]
theorem bn_rem {k : IntKind} {x y z : Nat} (h : x % y = z) (hy : 0 < y) (w : World) : (do eqGuard .rem T px py (.int k (x : Int)) (.int k (y : Int)); binOp .rem T (.int k (x : Int)) (.int k (y : Int)) : Sem Value).run P w = .ok (.int k (z : Int)) w := by
 have e : Int.tmod (x : Int) (y : Int) = (z : Int) := by rw [← h]; exact (Int.tmod_eq_emod_of_nonneg Tw.om).trans (by simp)
 have hy0 : ¬ y = 0 := by omega
 simp [eqGuard, binOp, Op.intDiv, e, hy0]
theorem bn_lss {k : IntKind} {x y : Nat} {b : Bool} (h : decide (x < y) = b) (w : World) : (do eqGuard .lss T px py (.int k (x : Int)) (.int k (y : Int)); binOp .lss T (.int k (x : Int)) (.int k (y : Int)) : Sem Value).run P w = .ok (.bool b) w := by
 subst h
 simp [eqGuard, binOp, Op.intCmp]
theorem bi_lss {k : IntKind} {x y : Int} {b : Bool} (h : decide (x < y) = b) (w : World) : (do eqGuard .lss T px py (.int k x) (.int k y); binOp .lss T (.int k x) (.int k y) : Sem Value).run P w = .ok (.bool b) w := by
 subst h
 simp [eqGuard, binOp, Op.intCmp]
theorem bn_gtr {k : IntKind} {x y : Nat} {b : Bool} (h : decide (y < x) = b) (w : World) : (do eqGuard .gtr T px py (.int k (x : Int)) (.int k (y : Int)); binOp .gtr T (.int k (x : Int)) (.int k (y : Int)) : Sem Value).run P w = .ok (.bool b) w := by
 subst h
 simp [eqGuard, binOp, Op.intCmp]
theorem bi_gtr {k : IntKind} {x y : Int} {b : Bool} (h : decide (y < x) = b) (w : World) : (do eqGuard .gtr T px py (.int k x) (.int k y); binOp .gtr T (.int k x) (.int k y) : Sem Value).run P w = .ok (.bool b) w := by
 subst h
 simp [eqGuard, binOp, Op.intCmp]
theorem bn_leq {k : IntKind} {x y : Nat} {b : Bool} (h : decide (y < x) = b) (w : World) : (do eqGuard .leq T px py (.int k (x : Int)) (.int k (y : Int)); binOp .leq T (.int k (x : Int)) (.int k (y : Int)) : Sem Value).run P w = .ok (.bool (!b)) w := by
 subst h
 simp only [eqGuard, binOp, Op.intCmp]
 simp [← Int.not_le, ← Nat.not_le]
theorem bi_leq {k : IntKind} {x y : Int} {b : Bool} (h : decide (y < x) = b) (w : World) : (do eqGuard .leq T px py (.int k x) (.int k y); binOp .leq T (.int k x) (.int k y) : Sem Value).run P w = .ok (.bool (!b)) w := by
 subst h
 simp only [eqGuard, binOp, Op.intCmp]
 simp [← Int.not_le, ← Nat.not_le]
theorem bn_geq {k : IntKind} {x y : Nat} {b : Bool} (h : decide (x < y) = b) (w : World) : (do eqGuard .geq T px py (.int k (x : Int)) (.int k (y : Int)); binOp .geq T (.int k (x : Int)) (.int k (y : Int)) : Sem Value).run P w = .ok (.bool (!b)) w := by
 subst h
 simp only [eqGuard, binOp, Op.intCmp]
 simp [← Int.not_le, ← Nat.not_le]
theorem bi_geq {k : IntKind} {x y : Int} {b : Bool} (h : decide (x < y) = b) (w : World) : (do eqGuard .geq T px py (.int k x) (.int k y); binOp .geq T (.int k x) (.int k y) : Sem Value).run P w = .ok (.bool (!b)) w := by
 subst h
 simp only [eqGuard, binOp, Op.intCmp]
 simp [← Int.not_le, ← Nat.not_le]
theorem bn_eql {k : IntKind} {x y : Nat} {b : Bool} (h : decide (x = y) = b) (w : World) : (do eqGuard .eql T px py (.int k (x : Int)) (.int k (y : Int)); binOp .eql T (.int k (x : Int)) (.int k (y : Int)) : Sem Value).run P w = .ok (.bool b) w := by
 subst h
 have e : ((x : Int) == (y : Int)) = decide (x = y) := by rw [Bool.eq_iff_iff]; simp; omega
 simp [eqGuard, binOp, Op.intCmp, e]
theorem bi_eql {k : IntKind} {x y : Int} {b : Bool} (h : decide (x = y) = b) (w : World) : (do eqGuard .eql T px py (.int k x) (.int k y); binOp .eql T (.int k x) (.int k y) : Sem Value).run P w = .ok (.bool b) w := by
 subst h
 have e : (x == y) = decide (x = y) := by rw [Bool.eq_iff_iff]; simp
 simp [eqGuard, binOp, Op.intCmp, e]
theorem bn_neq {k : IntKind} {x y : Nat} {b : Bool} (h : decide (x = y) = b) (w : World) : (do eqGuard .neq T px py (.int k (x : Int)) (.int k (y : Int)); binOp .neq T (.int k (x : Int)) (.int k (y : Int)) : Sem Value).run P w = .ok (.bool (!b)) w := by
 subst h
 have e : ((x : Int) == (y : Int)) = decide (x = y) := by rw [Bool.eq_iff_iff]; simp; omega
 simp [eqGuard, binOp, Op.intCmp, bne, e]
theorem bi_neq {k : IntKind} {x y : Int} {b : Bool} (h : decide (x = y) = b) (w : World) : (do eqGuard .neq T px py (.int k x) (.int k y); binOp .neq T (.int k x) (.int k y) : Sem Value).run P w = .ok (.bool (!b)) w := by
 subst h
 have e : (x == y) = decide (x = y) := by rw [Bool.eq_iff_iff]; simp
 simp [eqGuard, binOp, Op.intCmp, bne, e]
theorem bn_shl {k k' : IntKind} {x y z : Nat} (h : x * 2 ^ y = z) (hy : y ≤ k.bits) (hw : k.wrap (z : Int) = (z : Int)) (w : World) : (do eqGuard .shl T px py (.int k (x : Int)) (.int k' (y : Int)); binOp .shl T (.int k (x : Int)) (.int k' (y : Int)) : Sem Value).run P w = .ok (.int k (z : Int)) w := by
 have hm : min y k.bits = y := by omega
 have hn : ¬ ((y : Int) < 0) := by omega
 have e : (x : Int) * 2 ^ y = (z : Int) := by rw [← h]; simp
 simp [eqGuard, binOp, Op.shift, hn, hm, e, hw]
theorem bn_shr {k k' : IntKind} {x y z : Nat} (h : x / 2 ^ y = z) (hy : y ≤ k.bits) (w : World) : (do eqGuard .shr T px py (.int k (x : Int)) (.int k' (y : Int)); binOp .shr T (.int k (x : Int)) (.int k' (y : Int)) : Sem Value).run P w = .ok (.int k (z : Int)) w := by
 have hm : min y k.bits = y := by omega
 have hn : ¬ ((y : Int) < 0) := by omega
 have e : (x : Int).fdiv (2 ^ y) = (z : Int) := by rw [← h, Int.fdiv_eq_ediv_of_nonneg _ (by exact Int.le_of_lt (Int.pow_pos Tw.om))]; simp
 simp [eqGuard, binOp, Op.shift, hn, hm, e]
theorem bn_bool_eql {x y b : Bool} (h : (x == y) = b) (hT : P.underlying T = some .bool) (w : World) : (do eqGuard .eql T px py (.bool x) (.bool y); binOp .eql T (.bool x) (.bool y) : Sem Value).run P w = .ok (.bool b) w := by
 subst h
 simp [eqGuard, run_eql_bool w T x y hT]
theorem bn_bool_neq {x y b : Bool} (h : (x == y) = b) (hT : P.underlying T = some .bool) (w : World) : (do eqGuard .neq T px py (.bool x) (.bool y); binOp .neq T (.bool x) (.bool y) : Sem Value).run P w = .ok (.bool (!b)) w := by
 subst h
 have e := run_equal_bool w T x y hT
 simp [eqGuard, binOp, e]
theorem run_un {o : Oper} {a : Act} {v vx : Value} {op : UnOp} {xT : TypeId} {x : Operand}
   (ho : o.op = .unOp op xT x) (hx : a.eval x = vx)
   (h : ∀ w, (Op.unary op vx : Sem Value).run P w = .ok v w) : ∀ w, (execOp a.eval o).run P w = .ok (.value v) w := by
 intro w
 have h0 := h w
 unfold execOp
 rw [ho]
 simp only [hx]
 rw [Sem.run_bind, h0]
 rfl
theorem un_not {b : Bool} (w : World) : (Op.unary .not (.bool b) : Sem Value).run P w = .ok (.bool (!b)) w := by
 simp [Op.unary]
theorem run_conv {o : Oper} {a : Act} {v vx : Value} {sT dT : TypeId} {x : Operand}
   (ho : o.op = .convert sT dT x) (hx : a.eval x = vx)
   (h : ∀ w, (convert sT dT vx : Sem Value).run P w = .ok v w) : ∀ w, (execOp a.eval o).run P w = .ok (.value v) w := by
 intro w
 have h0 := h w
 unfold execOp
 rw [ho]
 simp only [hx]
 rw [Sem.run_bind, h0]
 rfl
theorem cv_int {s d : TypeId} {k j : IntKind} {ds : TypeDesc} {n z : Int} (hs : P.underlying s = some ds) (hd : P.underlying d = some (.int k)) (h : k.wrap n = z) (w : World) : (convert s d (.int j n) : Sem Value).run P w = .ok (.int k z) w := by
 subst h
 simp [convert, run_underlying hs, run_underlying hd, Conv.intToInt]

def strV (l : List UInt8) : Value := .string ⟨l.toArray⟩
theorem ba_size (l : List UInt8) : (⟨l.toArray⟩ : ByteArray).size = l.length := by
 simp [ByteArray.size]
theorem ba_toList (l : List UInt8) : (⟨l.toArray⟩ : ByteArray).toList = l := by
 rw [ByteArray.toList_eq]
theorem ba_app (a b : List UInt8) : (⟨a.toArray⟩ : ByteArray) ++ ⟨b.toArray⟩ = ⟨(a ++ b).toArray⟩ := by
 apply ByteArray.ext
 simp
theorem bs_add {a b c : List UInt8} (hc : a ++ b = c) (h : a.length + b.length ≤ 9223372036854775807) (w : World) : (do eqGuard .add T px py (strV a) (strV b); binOp .add T (strV a) (strV b) : Sem Value).run P w = .ok (strV c) w := by
 subst hc
 have h2 : ¬ (((((⟨a.toArray⟩ : ByteArray).size + (⟨b.toArray⟩ : ByteArray).size : Nat)) : Int) > IntKind.i64.max) := by
   rw [ba_size, ba_size]
   have : IntKind.i64.max = 9223372036854775807 := by decide
   omega
 unfold strV
 simp only [eqGuard, binOp, Op.stringOp]
 rw [if_neg h2, ba_app]
 simp
theorem bs_eql {a b : List UInt8} {c : Bool} (h : decide (a = b) = c) (w : World) : (do eqGuard .eql T px py (strV a) (strV b); binOp .eql T (strV a) (strV b) : Sem Value).run P w = .ok (.bool c) w := by
 subst h
 have e : (a == b) = decide (a = b) := by rw [Bool.eq_iff_iff]; simp
 unfold strV
 simp [eqGuard, binOp, Op.stringOp, ba_toList, e]
theorem bs_neq {a b : List UInt8} {c : Bool} (h : decide (a = b) = c) (w : World) : (do eqGuard .neq T px py (strV a) (strV b); binOp .neq T (strV a) (strV b) : Sem Value).run P w = .ok (.bool (!c)) w := by
 subst h
 have e : (a == b) = decide (a = b) := by rw [Bool.eq_iff_iff]; simp
 unfold strV
 simp [eqGuard, binOp, Op.stringOp, ba_toList, e]
theorem run_lenS {o : Oper} {a : Act} {l : List UInt8} {x : Operand} (ho : o.op = .call { callee := .builtin .len, args := #[x], argTypes := #[T] }) (hT : P.underlying T = some .string) (hx : a.eval x = strV l) (w : World) : (execOp a.eval o).run P w = .ok (.value (.int .i64 ((l.length : Nat) : Int))) w := by
 unfold execOp
 rw [ho]
 unfold strV at hx
 have h1 := ba_size l
 simp [resolve, invoke, builtin, Builtin.len_, hx, h1, goInt, run_underlying hT]
theorem run_lenL {o : Oper} {a : Act} {p : Option Addr} {n cap : Nat} {x : Operand} {E : TypeId} (ho : o.op = .call { callee := .builtin .len, args := #[x], argTypes := #[T] }) (hT : P.underlying T = some (.slice E)) (hx : a.eval x = .slice p n cap) (w : World) : (execOp a.eval o).run P w = .ok (.value (.int .i64 ((n : Nat) : Int))) w := by
 unfold execOp
 rw [ho]
 simp [resolve, invoke, builtin, Builtin.len_, hx, goInt, run_underlying hT]
theorem run_idxS {o : Oper} {a : Act} {l : List UInt8} {k : Nat} {b : UInt8} {x y : Operand} {j : IntKind} (ho : o.op = .index T x y) (hT : P.underlying T = some .string) (hx : a.eval x = strV l) (hy : a.eval y = .int j ((k : Nat) : Int)) (hb : l[k]? = some b) (w : World) : (execOp a.eval o).run P w = .ok (.value (.int .u8 ((b.toNat : Nat) : Int))) w := by
 unfold execOp
 rw [ho]
 unfold strV at hx
 obtain ⟨hk, hb2⟩ := List.getElem?_eq_some_iff.1 hb
 have hg : (⟨l.toArray⟩ : ByteArray)[k]? = some b := by
   rw [getElem?_pos _ _ (by rw [ba_size]; exact hk)]
   congr 1
 simp [Instr.index, asIntOf, hx, hy, run_underlying hT, hg]
theorem ba_extract (l : List UInt8) (i j : Nat) : (⟨l.toArray⟩ : ByteArray).extract i j = ⟨((l.take j).drop i).toArray⟩ := by
 apply ByteArray.ext
 rw [ByteArray.data_extract]
 apply Array.ext'
 simp [Array.toList_extract, List.extract_eq_drop_take']
theorem sl_bound {k : IntKind} {i y : Nat} {c : BoundsCode} (h : i ≤ y) (w : World) : (Instr.sliceBound (.int k ((i : Nat) : Int)) y c).run P w = .ok i w := by
 have h2 : (i : Int) ≤ (y : Int) := by omega
 simp [Instr.sliceBound, asIntOf, h2]
theorem run_slT {o : Oper} {a : Act} {l r : List UInt8} {i j : Nat} {x p1 p2 : Operand} {k1 k2 : IntKind} (ho : o.op = .slice T x (some p1) (some p2) none) (hT : P.underlying T = some .string) (hx : a.eval x = strV l) (h1 : a.eval p1 = .int k1 ((i : Nat) : Int)) (h2 : a.eval p2 = .int k2 ((j : Nat) : Int)) (hij : i ≤ j) (hl : j ≤ l.length) (hr : (l.take j).drop i = r) (w : World) : (execOp a.eval o).run P w = .ok (.value (strV r)) w := by
 subst hr
 unfold execOp
 rw [ho]
 have hs := ba_size l
 unfold strV at *
 have e1 := fun c => sl_bound (P := P) (k := k1) (c := c) hij w
 have e2 := fun c => sl_bound (P := P) (k := k2) (c := c) (show j ≤ (⟨l.toArray⟩ : ByteArray).size by rw [hs]; exact hl) w
 simp [Instr.sliceAt, Instr.slice, Instr.sliceBounds, hx, h1, h2, run_underlying hT, e1, e2, ba_extract]
theorem run_slH {o : Oper} {a : Act} {l r : List UInt8} {j : Nat} {x p2 : Operand} {k2 : IntKind} (ho : o.op = .slice T x none (some p2) none) (hT : P.underlying T = some .string) (hx : a.eval x = strV l) (h2 : a.eval p2 = .int k2 ((j : Nat) : Int)) (hl : j ≤ l.length) (hr : l.take j = r) (w : World) : (execOp a.eval o).run P w = .ok (.value (strV r)) w := by
 subst hr
 unfold execOp
 rw [ho]
 have hs := ba_size l
 unfold strV at *
 have e2 := fun c => sl_bound (P := P) (k := k2) (c := c) (show j ≤ (⟨l.toArray⟩ : ByteArray).size by rw [hs]; exact hl) w
 simp [Instr.sliceAt, Instr.slice, Instr.sliceBounds, hx, h2, run_underlying hT, e2, ba_extract]
theorem run_slL {o : Oper} {a : Act} {l r : List UInt8} {i : Nat} {x p1 : Operand} {k1 : IntKind} (ho : o.op = .slice T x (some p1) none none) (hT : P.underlying T = some .string) (hx : a.eval x = strV l) (h1 : a.eval p1 = .int k1 ((i : Nat) : Int)) (hl : i ≤ l.length) (hr : l.drop i = r) (w : World) : (execOp a.eval o).run P w = .ok (.value (strV r)) w := by
 subst hr
 unfold execOp
 rw [ho]
 have hs := ba_size l
 unfold strV at *
 have e1 := fun c => sl_bound (P := P) (k := k1) (c := c) hl w
 have e3 : List.drop i (List.take l.length l) = List.drop i l := by rw [List.take_length]
 simp [Instr.sliceAt, Instr.slice, Instr.sliceBounds, hx, h1, run_underlying hT, e1, ba_extract, hs]
theorem addr_add (b off j : Nat) : (⟨b, off, none⟩ : Addr).add j = ⟨b, off + j, none⟩ := by unfold Addr.add; split <;> simp_all
theorem run_idxL {o : Oper} {a : Act} {b off n cap k sz : Nat} {x y : Operand} {E : TypeId} {j : IntKind} (ho : o.op = .indexAddr T x y) (hT : P.underlying T = some (.slice E)) (hsz : (P.info? E).map (·.size) = some sz) (hx : a.eval x = .slice (some ⟨b, off, none⟩) n cap) (hy : a.eval y = .int j ((k : Nat) : Int)) (hk : k < n) (w : World) : (execOp a.eval o).run P w = .ok (.value (.pointer (some ⟨b, off + k * sz, none⟩))) w := by
 unfold execOp
 rw [ho]
 have h1 : (k : Int) < (n : Int) := by omega
 cases hq : P.info? E with
 | none => simp [hq] at hsz
 | some i =>
   have hs : i.size = sz := by simpa [hq] using hsz
   simp [Instr.indexAt, asIntOf, hx, hy, run_underlying hT, h1, Go.sizeOf, typeInfo, hq, hs, addr_add]
   intro; omega
theorem run_idxA {o : Oper} {a : Act} {b off n k sz : Nat} {x y : Operand} {E : TypeId} {j : IntKind} (ho : o.op = .indexAddr T x y) (hT : P.underlying T = some (.array n E)) (hsz : (P.info? E).map (·.size) = some sz) (hx : a.eval x = .pointer (some ⟨b, off, none⟩)) (hy : a.eval y = .int j ((k : Nat) : Int)) (hk : k < n) (w : World) : (execOp a.eval o).run P w = .ok (.value (.pointer (some ⟨b, off + k * sz, none⟩))) w := by
 unfold execOp
 rw [ho]
 have h1 : (k : Int) < (n : Int) := by omega
 cases hq : P.info? E with
 | none => simp [hq] at hsz
 | some i =>
   have hs : i.size = sz := by simpa [hq] using hsz
   simp [Instr.indexAt, Instr.sureAddr, asIntOf, hx, hy, run_underlying hT, h1, Go.sizeOf, typeInfo, hq, hs, addr_add]
   intro; omega
theorem yb_cell {o : Oper} {a : Act} {K : List (Nat × Obj)} {ty t : TypeId} {x : Operand} {g off : Nat} {cs : Array Value} {fr : Nat × Nat} {v : Value} {d : TypeDesc} (ho : o.op = .load ty x) (hx : a.eval x = .pointer (some ⟨g, off, none⟩))
   (hm : (g, .cells cs t fr) ∈ K) (hu : P.underlying ty = some d) (hd : aggD d = false) (hv : cs[off]? = some v) :
   ∀ w, KS W0 K w → ∀ K' : Act → World → Prop, (∀ w', Below w.heap.size w w' → K' (a.put o.dst v) w') → Oper.wp P o a w K' (fun _ _ _ => False) := by
 intro w hw K' hk
 have hc : w.cell? ⟨g, off, none⟩ = some v := by rw [cell_of_row w g off cs t fr (hw.2 _ hm)]; exact hv
 have hagg : (isAgg ty).run P w = .ok false w := by
   unfold isAgg
   rw [Sem.run_bind, run_underlying hu w]
   unfold aggD at hd
   cases d <;> simp_all
 have hr : (loadVar ty ⟨g, off, none⟩).run P w = .ok v w := by
   simp [loadVar, Sem.run_bind, hagg, hc]
 unfold Oper.wp execOp
 simp only [ho, hx, Instr.loadAt, Instr.sureAddr, Sem.run_bind, Sem.run_pure, Result.andThen_ok, hr]
 exact hk w (Below.refl _ _)
theorem yb_old {o : Oper} {a : Act} {K : List (Nat × Obj)} {ty : TypeId} {x : Operand} {g off : Nat} {v : Value} {d : TypeDesc} (ho : o.op = .load ty x) (hx : a.eval x = .pointer (some ⟨g, off, none⟩))
   (hc0 : W0.w.cell? ⟨g, off, none⟩ = some v) (hlt : g < W0.B) (hu : P.underlying ty = some d) (hd : aggD d = false) :
   ∀ w, KS W0 K w → ∀ K' : Act → World → Prop, (∀ w', Below w.heap.size w w' → K' (a.put o.dst v) w') → Oper.wp P o a w K' (fun _ _ _ => False) := by
 intro w hw K' hk
 have hc : w.cell? ⟨g, off, none⟩ = some v := by rw [hw.1.cell (p := ⟨g, off, none⟩) hlt]; exact hc0
 have hagg : (isAgg ty).run P w = .ok false w := by
   unfold isAgg
   rw [Sem.run_bind, run_underlying hu w]
   unfold aggD at hd
   cases d <;> simp_all
 have hr : (loadVar ty ⟨g, off, none⟩).run P w = .ok v w := by
   simp [loadVar, Sem.run_bind, hagg, hc]
 unfold Oper.wp execOp
 simp only [ho, hx, Instr.loadAt, Instr.sureAddr, Sem.run_bind, Sem.run_pure, Result.andThen_ok, hr]
 exact hk w (Below.refl _ _)
theorem run_loadVar_list {g off : Nat} {cs : List Value} {ty : TypeId} {d : TypeDesc} (w : World) (hc : ∀ (j : Nat) (v : Value), cs[j]? = some v → w.cell? ⟨g, off + j, none⟩ = some v)
   (hu : P.underlying ty = some d) (hd : aggD d = true) (hi : (P.info? ty).map (·.size) = some cs.length) : (loadVar ty ⟨g, off, none⟩).run P w = .ok (.agg cs.toArray) w := by
 have hl : (loadCells ⟨g, off, none⟩ cs.length).run P w = .ok cs.toArray w :=
   run_loadCells_list (P := P) w ⟨g, off, none⟩ _ (fun j v hv => by rw [addr_add]; exact hc j v hv)
 cases hq : P.info? ty with
 | none => simp [hq] at hi
 | some i =>
   have hs : i.size = cs.length := by simpa [hq] using hi
   have hagg : (isAgg ty).run P w = .ok true w := by
     unfold isAgg
     rw [Sem.run_bind, run_underlying hu w]
     unfold aggD at hd
     cases d <;> simp_all
   simp [loadVar, Sem.run_bind, hagg, Go.sizeOf, typeInfo, hq, hs, hl]
theorem yb_olds {o : Oper} {a : Act} {K : List (Nat × Obj)} {ty : TypeId} {x : Operand} {g off : Nat} {cs : List Value} {d : TypeDesc} (ho : o.op = .load ty x) (hx : a.eval x = .pointer (some ⟨g, off, none⟩))
   (hc0 : ∀ (j : Nat) (v : Value), cs[j]? = some v → W0.w.cell? ⟨g, off + j, none⟩ = some v) (hlt : g < W0.B) (hu : P.underlying ty = some d) (hd : aggD d = true) (hi : (P.info? ty).map (·.size) = some cs.length) :
   ∀ w, KS W0 K w → ∀ K' : Act → World → Prop, (∀ w', Below w.heap.size w w' → K' (a.put o.dst (.agg cs.toArray)) w') → Oper.wp P o a w K' (fun _ _ _ => False) := by
 intro w hw K' hk
 have hr := run_loadVar_list (P := P) (ty := ty) w (fun j v hj => by rw [hw.1.cell (p := ⟨g, off + j, none⟩) hlt]; exact hc0 j v hj) hu hd hi
 unfold Oper.wp execOp
 simp only [ho, hx, Instr.loadAt, Instr.sureAddr, Sem.run_bind, Sem.run_pure, Result.andThen_ok, hr]
 exact hk w (Below.refl _ _)
theorem yb_cells {o : Oper} {a : Act} {K : List (Nat × Obj)} {ty t : TypeId} {x : Operand} {g off : Nat} {cur : Array Value} {fr : Nat × Nat} {cs : List Value} {d : TypeDesc} (ho : o.op = .load ty x) (hx : a.eval x = .pointer (some ⟨g, off, none⟩))
   (hm : (g, .cells cur t fr) ∈ K) (hc0 : ∀ (j : Nat) (v : Value), cs[j]? = some v → cur[off + j]? = some v) (hu : P.underlying ty = some d) (hd : aggD d = true) (hi : (P.info? ty).map (·.size) = some cs.length) :
   ∀ w, KS W0 K w → ∀ K' : Act → World → Prop, (∀ w', Below w.heap.size w w' → K' (a.put o.dst (.agg cs.toArray)) w') → Oper.wp P o a w K' (fun _ _ _ => False) := by
 intro w hw K' hk
 have hr := run_loadVar_list (P := P) (ty := ty) w (fun j v hj => by rw [cell_of_row w g (off + j) cur t fr (hw.2 _ hm)]; exact hc0 j v hj) hu hd hi
 unfold Oper.wp execOp
 simp only [ho, hx, Instr.loadAt, Instr.sureAddr, Sem.run_bind, Sem.run_pure, Result.andThen_ok, hr]
 exact hk w (Below.refl _ _)
end
end Tw
/- Lists that a function makes by append, bytes of strings, lists that were there: steps over any program. -/
namespace Tw
open Go Go.RowKit Go.Proofs.YtllmpemmknblaaaDoor
section
variable {P : Program} {W0 : Base} {T E : TypeId}
theorem inBlock_ret (id : Nat) (Q : Exit → Act → World → Prop) (a : Act) (w : World) : Exit.inBlock id Q .ret a w = Q .ret a w := rfl
theorem then_ret (f : Act → World → Prop) (Q : Exit → Act → World → Prop) (a : Act) (w : World) : Exit.then f Q .ret a w = Q .ret a w := rfl
def RowN (sz : Nat) (cur : Array Value) (cap n : Nat) (xs : List Value) : Prop := cur.size = cap * sz ∧ cap ≤ maxLen ∧ n ≤ cap ∧ xs.length = n * sz ∧ cur.toList.take (n * sz) = xs
def OwnL (W0 : Base) (E : TypeId) (sz : Nat) (v : Value) (n : Nat) (xs : List Value) (K : List (Nat × Obj)) : Prop :=
 (n = 0 ∧ xs = [] ∧ v = .slice none 0 0 ∧ K = []) ∨ ∃ g cap cur, v = .slice (some ⟨g, 0, none⟩) n cap ∧ W0.B ≤ g ∧ RowN sz cur cap n xs ∧ K = [(g, .cells cur E (0, 0))]
theorem OwnL.nil (W0 : Base) (E : TypeId) (sz : Nat) : OwnL W0 E sz (.slice none 0 0) 0 [] [] := .inl ⟨rfl, rfl, rfl, rfl⟩
structure Elem (P : Program) (T E : TypeId) (sz bts : Nat) (z : Value) : Prop where
 und : P.underlying T = some (.slice E)
 info : ∃ i, P.info? E = some i ∧ i.zero = some z ∧ i.size = sz ∧ i.bytes = bts
 zsz : z.cells.size = sz
theorem Elem.mk' {sz bts : Nat} {z : Value} (h1 : P.underlying T = some (.slice E)) (h2 : (P.info? E).map (fun i => (i.zero, i.size, i.bytes)) = some (some z, sz, bts)) (h3 : z.cells.size = sz) : Elem P T E sz bts z := by
 refine ⟨h1, ?_, h3⟩
 cases hi : P.info? E with
 | none => rw [hi] at h2; cases h2
 | some i =>
   rw [hi] at h2
   simp only [Option.map_some, Option.some.injEq, Prod.mk.injEq] at h2
   exact ⟨i, rfl, h2.1, h2.2.1, h2.2.2⟩
def AppO (W0 : Base) (E : TypeId) (sz : Nat) (K0 : List (Nat × Obj)) (n : Nat) (ys : List Value) (v : Value) (K' : List (Nat × Obj)) : Prop :=
 ∃ Kl, OwnL W0 E sz v n ys Kl ∧ (∀ p ∈ K0, ∀ q ∈ Kl, q.1 ≠ p.1) ∧ K' = K0 ++ Kl
theorem blk_cells {w : World} {h : Nat} {news : List Value} {t : TypeId} {fr : Nat × Nat} (hh : w.heap[h]? = some (.cells news.toArray t fr)) : ∀ (j : Nat) (u : Value), news[j]? = some u → w.cell? ((⟨h, 0, none⟩ : Addr).add j) = some u := by
 intro j u hu
 rw [addr_add, Nat.zero_add, cell_of_row w h j news.toArray _ fr hh]
 simpa using hu
theorem rown_new {sz n m cap : Nat} {olds news : List Value} (z : Array Value) (hz : z.size = sz) (ho : olds.length = n * sz) (hn : news.length = m * sz) (hc : n + m ≤ cap) (hm : cap ≤ maxLen) : RowN sz (olds.toArray ++ news.toArray ++ Builtin.zeroCells z (cap - (n + m))) cap (n + m) (olds ++ news) := by
 refine ⟨?_, hm, hc, by simp [ho, hn, Nat.add_mul], ?_⟩
 · simp only [Array.size_append, List.size_toArray, size_zeroCells, hz, ho, hn]
   rw [← Nat.add_mul, ← Nat.add_mul]
   congr 1
   omega
 · simp only [Array.toList_append, List.append_assoc]
   rw [← List.append_assoc, show (n + m) * sz = (olds ++ news).length from by simp [ho, hn, Nat.add_mul]]
   exact List.take_left
theorem appo_end {w : World} {K K0 : List (Nat × Obj)} (hw : KS W0 K w) (hsub : ∀ p ∈ K0, p ∈ K) {sz : Nat} {cur : Array Value} {cap n : Nat} {ys : List Value} (hR : RowN sz cur cap n ys) :
   KS W0 (K0 ++ [(w.heap.size, .cells cur E (0, 0))]) (w.drew.alloc (.cells cur E)) ∧ AppO W0 E sz K0 n ys (.slice (some ⟨w.heap.size, 0, none⟩) n cap) (K0 ++ [(w.heap.size, .cells cur E (0, 0))]) := by
 have hd : KS W0 K0 w.drew := ⟨hw.drew.1, fun p hp => hw.2 p (hsub p hp)⟩
 refine ⟨(hd.alloc (.cells cur E)).sub (fun p hp => ?_), _, .inr ⟨_, _, _, rfl, hw.size, hR, rfl⟩, fun p hp q hq e => ?_, rfl⟩
 · rcases List.mem_append.1 hp with h | h
   · exact .tail _ h
   · cases List.mem_singleton.1 h; exact .head _
 · cases List.mem_singleton.1 hq
   have := lt_of_block (hw.2 p (hsub p hp))
   have e' : w.heap.size = p.1 := e
   omega
theorem run_appv {o : Oper} {a : Act} {s x : Operand} {u v y : Value} {w w' : World} (ho : o.op = .call { callee := .builtin .append, args := #[s, x], argTypes := #[T, T] })
   (hs : a.eval s = u) (hx : a.eval x = y) (hr : (Builtin.append_ #[T, T] o.type #[u, y]).run P w = .ok v w') : (execOp a.eval o).run P w = .ok (.value v) w' := by
 unfold execOp
 simp only [ho, resolve, invoke, builtin, Sem.run_bind, Sem.run_pure, Result.andThen_ok, List.map_toArray, List.map_cons, List.map_nil, hs, hx, hr]
theorem app_own {o : Oper} {a : Act} {K K0 Kl : List (Nat × Obj)} {s x : Operand} {h m c n sz bts : Nat} {z v : Value} {fr : Nat × Nat} {news xs : List Value} (hE : Elem P T E sz bts z)
   (ho : o.op = .call { callee := .builtin .append, args := #[s, x], argTypes := #[T, T] }) (hs : a.eval s = v) (hx : a.eval x = .slice (some ⟨h, 0, none⟩) m c) (hm : (h, .cells news.toArray E fr) ∈ K)
   (hO : OwnL W0 E sz v n xs Kl) (hsub : ∀ p ∈ Kl, p ∈ K) (hK0 : ∀ p ∈ K0, p ∈ K ∧ ∀ q ∈ Kl, q.1 ≠ p.1) (hl : news.length = m * sz) (h1 : ∀ u ∈ news, u.oneCell' = true) (hm0 : 0 < m) (hn : n + m ≤ 4000000000) (hb : bts ≤ 10000) :
   ∀ w, KS W0 K w → ∃ v' K' w', (execOp a.eval o).run P w = .ok (.value v') w' ∧ KS W0 K' w' ∧ AppO W0 E sz K0 (n + m) (xs ++ news) v' K' := by
 intro w hw
 obtain ⟨hu, ⟨i, hi, hz, hsz, hby⟩, hzs⟩ := hE
 have hh := hw.2 _ hm
 have hmax : n + m ≤ maxLen := by unfold maxLen; omega
 have hbt : (n + m) * i.bytes ≤ 140737488355328 := by
   rw [hby]
   exact Nat.le_trans (Nat.mul_le_mul hn hb) (by decide)
 rcases hO with ⟨rfl, rfl, rfl, rfl⟩ | ⟨g, cap, cur, rfl, hB, ⟨r1, r2, r3, r4, r5⟩, rfl⟩
 · have hr := run_append_nil (P := P) w T o.type E i z hu hi hz ⟨h, 0, none⟩ m c news (by rw [hsz]; exact hl) (blk_cells hh) hm0 Tw.om (by rw [Nat.zero_add] at hbt; omega)
   have hg := grownCap_ge w m 0 E
   have hg2 := grownCap_le_maxLen w m 0 E Tw.om
   have hR := rown_new (sz := sz) (n := 0) (m := m) (olds := []) (news := news) z.cells hzs (by simp) hl (show 0 + m ≤ grownCap w m 0 E by omega) hg2
   simp only [Nat.zero_add, List.nil_append, show (([] : List Value).toArray ++ news.toArray) = news.toArray from by simp] at hR ⊢
   obtain ⟨e1, e2⟩ := appo_end (E := E) hw (fun p hp => (hK0 p hp).1) hR
   exact ⟨_, _, _, run_appv ho hs hx hr, e1, e2⟩
 · have hgc := hw.2 _ (hsub _ Tw.m0)
   by_cases hroom : n + m ≤ cap
   · have hmul : n * sz + m * sz ≤ cap * sz := by rw [← Nat.add_mul]; exact Nat.mul_le_mul_right _ hroom
     have hr := run_append_room (P := P) w T o.type E i hu hi g n cap cur hgc ⟨h, 0, none⟩ m c news (by rw [hsz]; exact hl) (blk_cells hh) h1 hroom (by rw [hsz, r1, hl]; exact hmul)
     refine ⟨_, K0 ++ [(g, .cells (cur.toList.take (n * i.size) ++ news ++ cur.toList.drop (n * i.size + news.length)).toArray E (0, 0))], _, run_appv ho hs hx hr, hw.setRow hB hgc ?_, _, .inr ⟨g, cap, _, rfl, hB, ⟨?_, r2, hroom, by simp [r4, hl, Nat.add_mul], ?_⟩, rfl⟩, fun p hp q hq => ?_, rfl⟩
     · intro p hp
       rcases List.mem_append.1 hp with hp | hp
       · exact .inr ⟨(hK0 p hp).1, fun e => (hK0 p hp).2 _ Tw.m0 e.symm⟩
       · exact .inl (List.mem_singleton.1 hp)
     · rw [hsz]
       simp only [List.size_toArray, List.length_append, List.length_take, List.length_drop, Array.length_toList, r1, hl]
       omega
     · rw [hsz, r5, show (n + m) * sz = (xs ++ news).length from by simp [r4, hl, Nat.add_mul]]
       exact List.take_left
     · cases List.mem_singleton.1 hq
       exact (hK0 p hp).2 (g, .cells cur E (0, 0)) Tw.m0
   · have holds : ∀ j u, xs[j]? = some u → w.cell? ((⟨g, 0, none⟩ : Addr).add j) = some u := by
       intro j u hu
       rw [addr_add, Nat.zero_add, cell_of_row w g j cur _ (0, 0) hgc]
       rw [← r5, List.getElem?_take] at hu
       split at hu
       · simpa using hu
       · cases hu
     have hr := run_append_grow (P := P) w T o.type E i z hu hi hz ⟨g, 0, none⟩ n cap xs (by rw [hsz]; exact r4) holds ⟨h, 0, none⟩ m c news (by rw [hsz]; exact hl) (blk_cells hh) Tw.om Tw.om
       (growslice_fits Tw.om hbt)
     have hg1 := grownCap_ge w (n + m) cap E
     have hg2 := grownCap_le_maxLen w (n + m) cap E hmax
     obtain ⟨e1, e2⟩ := appo_end (E := E) hw (fun p hp => (hK0 p hp).1) (rown_new (sz := sz) (olds := xs) (news := news) z.cells hzs r4 hl hg1 hg2)
     exact ⟨_, _, _, run_appv ho hs hx hr, e1, e2⟩
theorem run_lenO {o : Oper} {a : Act} {x : Operand} {sz n : Nat} {v : Value} {xs : List Value} {Kl : List (Nat × Obj)} (ho : o.op = .call { callee := .builtin .len, args := #[x], argTypes := #[T] }) (hT : P.underlying T = some (.slice E)) (hx : a.eval x = v) (hO : OwnL W0 E sz v n xs Kl) (w : World) : (execOp a.eval o).run P w = .ok (.value (.int .i64 ((n : Nat) : Int))) w := by
 rcases hO with ⟨rfl, _, rfl, _⟩ | ⟨g, cap, cur, rfl, _, _, _⟩
 · exact run_lenL ho hT hx w
 · exact run_lenL ho hT hx w
theorem run_idxQ {o : Oper} {a : Act} {p : Option Addr} {b off n cap k sz : Nat} {x y : Operand} {j : IntKind} (ho : o.op = .indexAddr T x y) (hT : P.underlying T = some (.slice E)) (hsz : (P.info? E).map (·.size) = some sz) (hx : a.eval x = .slice p n cap) (hp : p = some ⟨b, off, none⟩) (hy : a.eval y = .int j ((k : Nat) : Int)) (hk : k < n) (w : World) : (execOp a.eval o).run P w = .ok (.value (.pointer (some ⟨b, off + k * sz, none⟩))) w := by
 subst hp
 exact run_idxL ho hT hsz hx hy hk w
theorem run_callv {o : Oper} {a : Act} {x y : Operand} {f : FuncId} {caps : Array Value} {u : Value} {tt : Array TypeId} (ho : o.op = .call { callee := .value x, args := #[y], argTypes := tt }) (hx : a.eval x = .func (.func f) #[] caps) (hy : a.eval y = u) (hf : ∀ args w, (callFunc f args).run P w = .ok (.enter f args) w) (w : World) : (execOp a.eval o).run P w = .ok (.enter f (#[u] ++ caps)) w := by
 unfold execOp
 simp [ho, resolve, Deferred.ofValue, hx, hy, invoke, hf]
def u8s (l : List UInt8) : List Value := l.map fun b => .int .u8 ((b.toNat : Nat) : Int)
theorem u8s_len (l : List UInt8) : (u8s l).length = l.length := by simp [u8s]
def RowB (cur : Array Value) (l : List UInt8) : Prop := cur.toList.take l.length = u8s l
theorem RowN.bytes {cur : Array Value} {cap n : Nat} {l : List UInt8} (h : RowN 1 cur cap n (u8s l)) : RowB cur l ∧ l.length = n := by
 obtain ⟨_, _, _, h4, h5⟩ := h
 rw [u8s_len, Nat.mul_one] at h4
 exact ⟨by unfold RowB; rw [h4, ← h5, Nat.mul_one], h4⟩
theorem st_at {o : Oper} {a : Act} {K K' : List (Nat × Obj)} {ty t : TypeId} {x y : Operand} {g off : Nat} {cs : Array Value} {fr : Nat × Nat} {v : Value} (ho : o.op = .store ty x y) (hx : a.eval x = .pointer (some ⟨g, off, none⟩)) (hv : a.eval y = v)
   (hm : (g, .cells cs t fr) ∈ K) (hB : W0.B ≤ g) (hi : (P.info? ty).map (·.size) = some 1) (hvc : v.cells = #[v]) (h1 : v.oneCell' = true) (hfit : off < cs.size) (hfr : cs.size ≤ fr.1 ∨ fr.2 = 0)
   (hK : ∀ p ∈ K', p = (g, .cells (cs.setIfInBounds off v) t fr) ∨ (p ∈ K ∧ p.1 ≠ g)) : ∀ w, KS W0 K w → ∃ w', (execOp a.eval o).run P w = .ok .skip w' ∧ KS W0 K' w' := by
 intro w hw
 have hg := hw.2 _ hm
 have hcell : w.cell? ⟨g, off, none⟩ = some cs[off] := by simp [World.cell?, hg, hfit]
 have hfro : w.frozen? ⟨g, off, none⟩ = false := by
   obtain ⟨lo, hi'⟩ := fr
   simp only [World.frozen?, hg, Bool.and_eq_false_iff, decide_eq_false_iff_not]
   simp only at hfr
   omega
 have hst : (store ((⟨g, off, none⟩ : Addr).add 0) v).run P w = .ok () (w.setRow g (cs.setIfInBounds off v)) := by
   rw [addr_add, Nat.add_zero, run_store P w _ v _ h1, hcell]
   simp [hfro, setCell_eq_setRow w g off cs t fr v hg]
 have hr : (storeVar ty ⟨g, off, none⟩ v).run P w = .ok () (w.setRow g (cs.setIfInBounds off v)) := by
   cases hq : P.info? ty with
   | none => simp [hq] at hi
   | some i =>
     have hs : i.size = 1 := by simpa [hq] using hi
     simp [storeVar, Sem.run_bind, Go.sizeOf, typeInfo, hq, hs, hvc, storeCells, hst]
 refine ⟨w.setRow g (cs.setIfInBounds off v), ?_, below_setRow hw.1 hB _, fun p hp => ?_⟩
 · simp only [execOp, ho, hx, hv, Instr.storeAt, Instr.sureAddr, Sem.run_bind, Sem.run_pure, Result.andThen_ok, hr]
 · rcases hK p hp with rfl | ⟨hp, hne⟩
   · exact setRow_heap w g cs _ t _ hg
   · rw [setRow_other w g p.1 _ hne]; exact hw.2 p hp
def Cel (W : World) (b off : Nat) (xs : List Value) : Prop := ∀ (i : Nat) (u : Value), xs[i]? = some u → W.cell? ⟨b, off + i, none⟩ = some u
def SLV (W : World) (p : Option Addr) (xs : List Value) : Prop := xs = [] ∨ ∃ b off, p = some ⟨b, off, none⟩ ∧ b < W.heap.size ∧ Cel W b off xs
theorem Cel.keep {W W' : World} {b off B : Nat} {xs : List Value} (h : Cel W b off xs) (hlt : b < B) (hB : Below B W W') : Cel W' b off xs := fun i u hu => by
 rw [hB.cell (p := ⟨b, off + i, none⟩) hlt]; exact h i u hu
theorem SLV.keep {W W' : World} {p : Option Addr} {xs : List Value} (h : SLV W p xs) (hB : Below W.heap.size W W') : SLV W' p xs := h.imp id fun ⟨b, off, hp, hlt, hc⟩ => ⟨b, off, hp, Nat.lt_of_lt_of_le hlt hB.size, hc.keep hlt hB⟩
def OutV (w w' : World) (E : TypeId) (sz : Nat) (v : Value) (n : Nat) (xs : List Value) : Prop :=
 (n = 0 ∧ xs = [] ∧ v = .slice none 0 0) ∨ ∃ g cap cur, v = .slice (some ⟨g, 0, none⟩) n cap ∧ w.heap.size ≤ g ∧ RowN sz cur cap n xs ∧ w'.heap[g]? = some (.cells cur E (0, 0))
theorem OwnL.out {w : World} {E : TypeId} {sz n : Nat} {v : Value} {xs : List Value} {K Kl : List (Nat × Obj)} {w' : World} (h : OwnL (w : Base) E sz v n xs Kl) (hs : ∀ p ∈ Kl, p ∈ K) (hK : KS w K w') : OutV w w' E sz v n xs := by
 rcases h with ⟨h1, h2, h3, h4⟩ | ⟨g, cap, cur, h1, h2, h3, rfl⟩
 · exact .inl ⟨h1, h2, h3⟩
 · exact .inr ⟨g, cap, cur, h1, h2, h3, hK.2 _ (hs _ Tw.m0)⟩
theorem RowN.get {sz cap n : Nat} {cur : Array Value} {xs : List Value} (h : RowN sz cur cap n xs) {i : Nat} {u : Value} (hi : xs[i]? = some u) : cur[i]? = some u := by
 rw [← h.2.2.2.2, List.getElem?_take] at hi
 split at hi
 · simpa using hi
 · cases hi
theorem RowN.cel {W : World} {g sz cap n : Nat} {cur : Array Value} {xs : List Value} {fr : Nat × Nat} (h : W.heap[g]? = some (.cells cur E fr)) (hR : RowN sz cur cap n xs) : Cel W g 0 xs := fun i u hu => by
 rw [Nat.zero_add, cell_of_row W g i cur _ fr h]; exact hR.get hu
theorem OutV.own {W : World} {W0 : Base} {E : TypeId} {sz n : Nat} {v : Value} {xs : List Value} {K : List (Nat × Obj)} {w' : World} (h : OutV W w' E sz v n xs) (hW : KS W0 K W) (hb : Below W.heap.size W w') : ∃ Kl, OwnL W0 E sz v n xs Kl ∧ (∀ p ∈ K, ∀ q ∈ Kl, q.1 ≠ p.1) ∧ KS W0 (K ++ Kl) w' := by
 have hK := hW.below hb
 rcases h with ⟨h1, h2, h3⟩ | ⟨g, cap, cur, h1, h2, h3, h4⟩
 · exact ⟨[], .inl ⟨h1, h2, h3, rfl⟩, (fun _ _ _ h => by cases h), by rw [List.append_nil]; exact hK⟩
 · refine ⟨[(g, .cells cur E (0, 0))], .inr ⟨g, cap, cur, h1, Nat.le_trans hW.size h2, h3, rfl⟩, fun p hp q hq e => ?_, hK.1, fun p hp => ?_⟩
   · cases List.mem_singleton.1 hq
     have := lt_of_block (hW.2 p hp)
     have e' : g = p.1 := e
     omega
   · rcases List.mem_append.1 hp with h | h
     · exact hK.2 p h
     · cases List.mem_singleton.1 h; exact h4
theorem OutV.slv {w w' : World} {E : TypeId} {sz n : Nat} {v : Value} {xs : List Value} (h : OutV w w' E sz v n xs) : ∃ p cap, v = .slice p n cap ∧ SLV w' p xs ∧ xs.length = n * sz := by
 rcases h with ⟨rfl, rfl, rfl⟩ | ⟨g, cap, cur, h1, h2, h3, h4⟩
 · exact ⟨none, 0, rfl, .inl rfl, by simp⟩
 · exact ⟨_, cap, h1, .inr ⟨g, 0, rfl, lt_of_block h4, h3.cel h4⟩, h3.2.2.2.1⟩
end
section
variable {P : Program} {ops : Array Oper} {Q : Exit → Act → World → Prop} {W0 : Base}
theorem wpL_g {rest : List Oper} {oi : Oper} {d : Nat} {tm : Array Value} {df : List Deferred} {K : List (Nat × Obj)} {T : Value → Array Value} (G : Value → List (Nat × Obj) → Prop)
   (hdi : oi.dst = some d) (hw : Region.wanted oi (yielded ops tm) = true)
   (hg : ∀ w, KS W0 K w → ∃ v K' w', (execOp (Act.eval ⟨tm, df⟩) oi).run P w = .ok (.value v) w' ∧ KS W0 K' w' ∧ G v K')
   (hT : ∀ v, tm.setIfInBounds d v = T v)
   (h : ∀ v K', G v K' → wpL P ops Q W0 rest ⟨T v, df⟩ K') : wpL P ops Q W0 (oi :: rest) ⟨tm, df⟩ K := by
 refine ⟨fun w hK => ?_⟩
 obtain ⟨v, K', w', hr, hk, hG⟩ := hg w hK
 refine wpList_step fun K2 hK2 => ?_
 rw [if_pos hw]
 unfold Oper.wp
 rw [hr]
 refine hK2 _ _ ?_
 rw [hdi]
 simp only [Act.put]
 rw [hT v]
 exact (h v K' hG).of w' hk
theorem wpV_nsg {md : Region.Mode} {i : Nat} {oi : Oper} {d : Nat} {obi : Obj} {n : Nat} {listed : Array Bool} {tm : Array Value} {df : List Deferred} {K : List (Nat × Obj)} {T : Nat → Array Value} (mk : Nat → Value)
   (hi : ops[i]? = some oi) (hdi : oi.dst = some d) (hw : Region.wanted oi (yielded ops tm) = true)
   (hr : Region.ready md ops listed = [i])
   (hai : ∀ w, (execOp (Act.eval ⟨tm, df⟩) oi).run P w = .ok (.value (mk w.heap.size)) (w.alloc obi))
   (hT : ∀ g, (tm.setIfInBounds d (mk g)) = T g)
   (h : ∀ g, W0.B ≤ g → (∀ p ∈ K, p.1 ≠ g) → wpV P md ops Q W0 n (listed.setIfInBounds i true) ⟨T g, df⟩ ((g, obi) :: K)) :
   wpV P md ops Q W0 (n + 1) listed ⟨tm, df⟩ K := by
 refine wpV_alloc mk hi hr hw hai (fun g hg hf => ?_)
 rw [hdi]
 simp only [Act.put]
 rw [hT g]
 exact h g hg hf
end
end Tw
/- Lists of lists that are read: each element of one cell. Over any program. -/
namespace Tw
open Go Go.RowKit Go.Proofs.YtllmpemmknblaaaDoor
def Keeps {α : Type} (R : World → Value → α → Prop) : Prop := ∀ (W W' : World) (v : Value) (y : α), R W v y → Below W.heap.size W W' → R W' v y
def LVp {α : Type} (R : World → Value → α → Prop) (W : World) (p : Option Addr) (l : List α) : Prop := ∃ vs : List Value, SLV W p vs ∧ vs.length = l.length ∧ ∀ (k : Nat) (x : Value) (y : α), vs[k]? = some x → l[k]? = some y → R W x y
def LV {α : Type} (R : World → Value → α → Prop) (W : World) (v : Value) (l : List α) : Prop := ∃ p cap, v = .slice p l.length cap ∧ LVp R W p l
theorem LVp.keep {α : Type} {R : World → Value → α → Prop} (hR : Keeps R) {W W' : World} {p : Option Addr} {l : List α} (h : LVp R W p l) (hB : Below W.heap.size W W') : LVp R W' p l := by
 obtain ⟨vs, h1, h2, h3⟩ := h
 exact ⟨vs, h1.keep hB, h2, fun k x y hx hy => hR _ _ _ _ (h3 k x y hx hy) hB⟩
theorem take_snoc_eq {α : Type} {A B : List α} {k : Nat} {x y : α} (hT : A.take k = B.take k) (hx : A[k]? = some x) (hy : B[k]? = some y) (he : x = y) : A.take (k + 1) = B.take (k + 1) := by
 obtain ⟨h1, rfl⟩ := List.getElem?_eq_some_iff.1 hx
 obtain ⟨h2, rfl⟩ := List.getElem?_eq_some_iff.1 hy
 rw [List.take_succ_eq_append_getElem h1, List.take_succ_eq_append_getElem h2, hT, he]
theorem ne_at {α : Type} {A B : List α} {k : Nat} {x y : α} (hx : A[k]? = some x) (hy : B[k]? = some y) (he : x ≠ y) : A ≠ B := by
 rintro rfl
 rw [hx] at hy
 exact he (Option.some.inj hy)
theorem eq_of_take {α : Type} {A B : List α} {k : Nat} (hT : A.take k = B.take k) (hA : ¬ k < A.length) (hl : A.length = B.length) : A = B := by
 rwa [List.take_of_length_le Tw.om, List.take_of_length_le Tw.om] at hT
theorem ne_len {α : Type} {A B : List α} (h : ¬ A.length = B.length) : A ≠ B := fun e => h (by rw [e])
-- lists of blocks that have nothing in common
def Dj (A B : List (Nat × Obj)) : Prop := ∀ p ∈ A, ∀ q ∈ B, q.1 ≠ p.1
def Dk (g : Nat) (B : List (Nat × Obj)) : Prop := ∀ q ∈ B, q.1 ≠ g
theorem Dj.symm {A B : List (Nat × Obj)} (h : Dj A B) : Dj B A := fun p hp q hq e => h q hq p hp e.symm
theorem dj_app_l {A B C : List (Nat × Obj)} : Dj (A ++ B) C ↔ Dj A C ∧ Dj B C := by
 unfold Dj
 simp only [List.mem_append]
 exact ⟨fun h => ⟨fun p hp => h p (.inl hp), fun p hp => h p (.inr hp)⟩, fun h p hp => hp.elim (h.1 p) (h.2 p)⟩
theorem dj_app_r {A B C : List (Nat × Obj)} : Dj C (A ++ B) ↔ Dj C A ∧ Dj C B := ⟨fun h => ⟨(dj_app_l.1 h.symm).1.symm, (dj_app_l.1 h.symm).2.symm⟩, fun h => (dj_app_l.2 ⟨h.1.symm, h.2.symm⟩).symm⟩
theorem dj_cons_l {g : Nat} {o : Obj} {A C : List (Nat × Obj)} : Dj ((g, o) :: A) C ↔ Dk g C ∧ Dj A C := by
 unfold Dj Dk
 simp only [List.forall_mem_cons]
theorem dj_cons_r {g : Nat} {o : Obj} {A C : List (Nat × Obj)} : Dj C ((g, o) :: A) ↔ Dk g C ∧ Dj C A := ⟨fun h => ⟨(dj_cons_l.1 h.symm).1, (dj_cons_l.1 h.symm).2.symm⟩, fun h => (dj_cons_l.2 ⟨h.1, h.2.symm⟩).symm⟩
theorem dj_nil_l {C : List (Nat × Obj)} : Dj [] C ↔ True := ⟨fun _ => trivial, fun _ _ h => by cases h⟩
theorem dj_nil_r {C : List (Nat × Obj)} : Dj C [] ↔ True := ⟨fun _ => trivial, fun _ _ _ _ h => by cases h⟩
theorem dk_app {g : Nat} {A B : List (Nat × Obj)} : Dk g (A ++ B) ↔ Dk g A ∧ Dk g B := by
 unfold Dk
 simp only [List.mem_append]
 exact ⟨fun h => ⟨fun p hp => h p (.inl hp), fun p hp => h p (.inr hp)⟩, fun h p hp => hp.elim (h.1 p) (h.2 p)⟩
theorem dk_cons {g h : Nat} {o : Obj} {A : List (Nat × Obj)} : Dk g ((h, o) :: A) ↔ h ≠ g ∧ Dk g A := by
 unfold Dk
 simp only [List.forall_mem_cons]
theorem dk_nil {g : Nat} : Dk g [] ↔ True := ⟨fun _ => trivial, fun _ _ h => by cases h⟩
-- lists of lists that are made
def MkE {α : Type} (R : World → Value → α → Prop) (W0 : Base) (xs : List Value) (l : List α) (T : List (Nat × Obj)) : Prop :=
 xs.length = l.length ∧ ∀ W, KS W0 T W → ∀ (k : Nat) (x : Value) (y : α), xs[k]? = some x → l[k]? = some y → R W x y
def MkV {α : Type} (R : World → Value → α → Prop) (W0 : Base) (v : Value) (y : α) (T : List (Nat × Obj)) : Prop := ∀ W, KS W0 T W → R W v y
theorem MkE.nil {α : Type} {R : World → Value → α → Prop} {W0 : Base} : MkE R W0 [] [] [] := ⟨rfl, fun _ _ k x y h => by simp at h⟩
theorem MkE.snoc {α : Type} {R : World → Value → α → Prop} {W0 : Base} {xs : List Value} {l : List α} {T T' : List (Nat × Obj)} {x : Value} {y : α} (h : MkE R W0 xs l T) (hx : MkV R W0 x y T') : MkE R W0 (xs ++ [x]) (l ++ [y]) (T ++ T') := by
 obtain ⟨h1, h2⟩ := h
 refine ⟨by simp [h1], fun W hW k u v hu hv => ?_⟩
 have hA := hW.sub (fun p hp => List.mem_append_left T' hp)
 have hB := hW.sub (fun p hp => List.mem_append_right T hp)
 rcases Nat.lt_trichotomy k xs.length with hk | rfl | hk
 · rw [List.getElem?_append_left hk] at hu
   rw [List.getElem?_append_left Tw.om] at hv
   exact h2 W hA k u v hu hv
 · rw [List.getElem?_append_right (Nat.le_refl _)] at hu
   rw [h1, List.getElem?_append_right (Nat.le_refl _)] at hv
   simp at hu hv
   subst hu hv
   exact hx W hB
 · rw [List.getElem?_eq_none (by simp; omega)] at hu
   cases hu
theorem MkE.mk {α : Type} {R : World → Value → α → Prop} {W0 : Base} {E : TypeId} {v : Value} {n : Nat} {xs : List Value} {l : List α} {K T : List (Nat × Obj)} (hO : OwnL W0 E 1 v n xs K) (hE : MkE R W0 xs l T) (hn : n = l.length) : MkV (LV R) W0 v l (T ++ K) := by
 obtain ⟨h1, h2⟩ := hE
 intro W hW
 have hA := h2 W (hW.sub (fun p hp => List.mem_append_left K hp))
 rcases hO with ⟨rfl, rfl, rfl, rfl⟩ | ⟨g, cap, cur, rfl, hB, hR, rfl⟩
 · exact ⟨none, 0, by rw [← hn], [], .inl rfl, h1, hA⟩
 · have hb := hW.2 _ (List.mem_append_right T Tw.m0)
   exact ⟨some ⟨g, 0, none⟩, cap, by rw [hn], xs, .inr ⟨g, 0, rfl, lt_of_block hb, hR.cel hb⟩, h1, hA⟩
section
variable {P : Program} {T E : TypeId}
end
section
variable {P : Program} {T U E : TypeId}
theorem run_appu {o : Oper} {a : Act} {s x : Operand} {u v y : Value} {w w' : World} (ho : o.op = .call { callee := .builtin .append, args := #[s, x], argTypes := #[T, U] })
   (hs : a.eval s = u) (hx : a.eval x = y) (hr : (Builtin.append_ #[T, U] o.type #[u, y]).run P w = .ok v w') : (execOp a.eval o).run P w = .ok (.value v) w' := by
 unfold execOp
 simp only [ho, resolve, invoke, builtin, Sem.run_bind, Sem.run_pure, Result.andThen_ok, List.map_toArray, List.map_cons, List.map_nil, hs, hx, hr]
theorem run_room_any (w : World) (ty : TypeId) (i : TypeInfo) (ht : P.underlying T = some (.slice E)) (hi : P.info? E = some i)
   (g sLen sCap : Nat) (cur : Array Value) (hg : w.heap[g]? = some (.cells cur E (0, 0))) (x : Value) (m : Nat) (news : List Value) (hs : Src P i.size U x m news w)
   (hroom : sLen + m ≤ sCap) (hfit : sLen * i.size + news.length ≤ cur.size) :
   (Builtin.append_ #[T, U] ty #[.slice (some ⟨g, 0, none⟩) sLen sCap, x]).run P w =
     .ok (.slice (some ⟨g, 0, none⟩) (sLen + m) sCap) (w.setRow g (cur.toList.take (sLen * i.size) ++ news ++ cur.toList.drop (sLen * i.size + news.length)).toArray) := by
 have hst := run_storeCells_at P g (sLen * i.size) E news 0 cur w hg (by simpa using hfit) hs.one
 simp only [Nat.add_zero] at hst
 rcases hs.kind with ⟨e', hk⟩ | hk <;> simp [Builtin.append_, run_underlying ht, run_underlying hk, Go.sizeOf, typeInfo, hi, hs.len, hroom, hs.cells, Addr.add_lit, hst]
theorem app_any {W0 : Base} {o : Oper} {a : Act} {K K0 Kl : List (Nat × Obj)} {s x : Operand} {m n sz bts : Nat} {z v y : Value} {news xs : List Value} (hE : Elem P T E sz bts z)
   (ho : o.op = .call { callee := .builtin .append, args := #[s, x], argTypes := #[T, U] }) (hs : a.eval s = v) (hx : a.eval x = y) (hsrc : ∀ w, KS W0 K w → Src P sz U y m news w)
   (hO : OwnL W0 E sz v n xs Kl) (hsub : ∀ p ∈ Kl, p ∈ K) (hK0 : ∀ p ∈ K0, p ∈ K ∧ ∀ q ∈ Kl, q.1 ≠ p.1) (hn : n + m ≤ 4000000000) (hb : bts ≤ 10000) :
   ∀ w, KS W0 K w → ∃ v' K' w', (execOp a.eval o).run P w = .ok (.value v') w' ∧ KS W0 K' w' ∧ AppO W0 E sz K0 (n + m) (xs ++ news) v' K' := by
 intro w hw
 obtain ⟨hu, ⟨i, hi, hz, hsz, hby⟩, hzs⟩ := hE
 have hS := hsrc w hw
 have hl := hS.newsLen
 have hmax : n + m ≤ maxLen := by unfold maxLen; omega
 have hbt : (n + m) * i.bytes ≤ 140737488355328 := by
   rw [hby]
   exact Nat.le_trans (Nat.mul_le_mul hn hb) (by decide)
 subst hsz
 rcases Nat.eq_zero_or_pos m with rfl | hm0
 · have hn0 : news = [] := List.eq_nil_of_length_eq_zero (by rw [hl]; simp)
   subst hn0
   rw [List.append_nil, Nat.add_zero]
   have hv : ∃ p cap, v = .slice p n cap ∧ n ≤ cap := by
     rcases hO with ⟨rfl, _, rfl, _⟩ | ⟨g, cap, cur, rfl, _, ⟨_, _, h3, _⟩, _⟩
     · exact ⟨_, _, rfl, Nat.le_refl _⟩
     · exact ⟨_, _, rfl, h3⟩
   obtain ⟨p, cap, rfl, hle⟩ := hv
   have hr := run_append_nothing (P := P) w T U o.type E i hu hi p n cap hle _ hS
   refine ⟨_, K0 ++ Kl, w, run_appu ho hs hx hr, hw.sub (fun q hq => ?_), Kl, hO, fun q hq => (hK0 q hq).2, rfl⟩
   rcases List.mem_append.1 hq with h | h
   · exact (hK0 q h).1
   · exact hsub q h
 · rcases hO with ⟨rfl, rfl, rfl, rfl⟩ | ⟨g, cap, cur, rfl, hB, ⟨r1, r2, r3, r4, r5⟩, rfl⟩
   · have hf0 : (Builtin.firstCells i.size 0 (.slice none 0 0)).run P w.drew = .ok (([] : List Value).toArray) w.drew := by
       simp [run_firstCells_none]
     have hr := run_append_grow_src (P := P) w T U o.type E i z hu hi hz none 0 0 [] hf0 y m news hS Tw.om Tw.om (growslice_fits Tw.om hbt)
     have hg1 := grownCap_ge w (0 + m) 0 E
     have hg2 := grownCap_le_maxLen w (0 + m) 0 E hmax
     have hR := rown_new (sz := i.size) (n := 0) (m := m) (olds := []) (news := news) z.cells hzs (by simp) hl hg1 hg2
     obtain ⟨e1, e2⟩ := appo_end (E := E) hw (fun p hp => (hK0 p hp).1) hR
     refine ⟨_, _, _, run_appu ho hs hx hr, ?_, e2⟩
     simpa using e1
   · have hgc := hw.2 _ (hsub _ Tw.m0)
     by_cases hroom : n + m ≤ cap
     · have hmul : n * i.size + m * i.size ≤ cap * i.size := by rw [← Nat.add_mul]; exact Nat.mul_le_mul_right _ hroom
       have hr := run_room_any (P := P) (U := U) w o.type i hu hi g n cap cur hgc y m news hS hroom (by rw [r1, hl]; exact hmul)
       refine ⟨_, K0 ++ [(g, .cells (cur.toList.take (n * i.size) ++ news ++ cur.toList.drop (n * i.size + news.length)).toArray E (0, 0))], _, run_appu ho hs hx hr, hw.setRow hB hgc ?_, _, .inr ⟨g, cap, _, rfl, hB, ⟨?_, r2, hroom, by simp [r4, hl, Nat.add_mul], ?_⟩, rfl⟩, fun p hp q hq => ?_, rfl⟩
       · intro p hp
         rcases List.mem_append.1 hp with hp | hp
         · exact .inr ⟨(hK0 p hp).1, fun e => (hK0 p hp).2 _ Tw.m0 e.symm⟩
         · exact .inl (List.mem_singleton.1 hp)
       · simp only [List.size_toArray, List.length_append, List.length_take, List.length_drop, Array.length_toList, r1, hl]
         omega
       · rw [r5, show (n + m) * i.size = (xs ++ news).length from by simp [r4, hl, Nat.add_mul]]
         exact List.take_left
       · cases List.mem_singleton.1 hq
         exact (hK0 p hp).2 (g, .cells cur E (0, 0)) Tw.m0
     · have hgd : w.drew.heap[g]? = some (.cells cur E (0, 0)) := hgc
       have holds : ∀ j u, xs[j]? = some u → w.drew.cell? ((⟨g, 0, none⟩ : Addr).add j) = some u := by
         intro j u hu
         rw [addr_add, Nat.zero_add, cell_of_row w.drew g j cur _ (0, 0) hgd]
         rw [← r5, List.getElem?_take] at hu
         split at hu
         · simpa using hu
         · cases hu
       have hf := run_firstCells_some (P := P) w.drew i.size n ⟨g, 0, none⟩ n cap xs r4 holds
       have hr := run_append_grow_src (P := P) w T U o.type E i z hu hi hz (some ⟨g, 0, none⟩) n cap xs hf y m news hS Tw.om Tw.om (growslice_fits Tw.om hbt)
       have hg1 := grownCap_ge w (n + m) cap E
       have hg2 := grownCap_le_maxLen w (n + m) cap E hmax
       obtain ⟨e1, e2⟩ := appo_end (E := E) hw (fun p hp => (hK0 p hp).1) (rown_new (sz := i.size) (olds := xs) (news := news) z.cells hzs r4 hl hg1 hg2)
       refine ⟨_, _, _, run_appu ho hs hx hr, ?_, e2⟩
       simpa using e1
end
end Tw
namespace Tw
open Go Go.RowKit
theorem djt {p : Prop} (h : p := by (try simp only [dj_app_l, dj_app_r, dj_cons_l, dj_cons_r, dj_nil_l, dj_nil_r, dk_app, dk_cons, dk_nil, and_true, true_and, and_assoc]); repeat' (first | trivial | assumption | exact Dj.symm (by assumption) | exact Ne.symm (by assumption) | apply And.intro)) : p := h
theorem dkf {q : Prop} {g : Nat} {K : List (Nat × Obj)} (h : ∀ p ∈ K, p.1 ≠ g) (e : Dk g K → q := by intro h; simpa only [dj_app_l, dj_app_r, dj_cons_l, dj_cons_r, dj_nil_l, dj_nil_r, dk_app, dk_cons, dk_nil, and_true, true_and, and_assoc] using h) : q := e h
theorem djf {q : Prop} {K T : List (Nat × Obj)} (h : Dj K T) (e : Dj K T → q := by intro h; simpa only [dj_app_l, dj_app_r, dj_cons_l, dj_cons_r, dj_nil_l, dj_nil_r, dk_app, dk_cons, dk_nil, and_true, true_and, and_assoc] using h) : q := e h
end Tw
/- What the layer iso says, in plain lists of bytes. Nothing of the program. -/
namespace Go.Proofs.YtllmpemmknblaaaDoor
open Go
def isDig (b : UInt8) : Bool := decide (48 ≤ b.toNat) && decide (b.toNat ≤ 57)
def isCap (b : UInt8) : Bool := decide (65 ≤ b.toNat) && decide (b.toNat ≤ 90)
def isCat (b : UInt8) : Bool := decide (b.toNat = 85) || decide (b.toNat = 74) || decide (b.toNat = 90)
def mayB (i : Nat) (b : UInt8) : Bool := if i < 3 then isCap b else if i = 3 then isCat b else isDig b
def vN (b : UInt8) : Nat := if isDig b = true then b.toNat - 48 else if isCap b = true then 10 + (b.toNat - 65) + (b.toNat - 65 + 9) / 10 else 0
def sumF : Nat → List UInt8 → Nat
 | _, [] => 0
 | i, b :: l => vN b * 2 ^ i + sumF (i + 1) l
def remL (l : List UInt8) : Nat := sumF 0 l % 11
def chkN (l : List UInt8) : Nat := 48 + remL l % 10
def fitF : Nat → List UInt8 → Bool
 | _, [] => true
 | i, b :: l => mayB i b && fitF (i + 1) l
def fitB (l : List UInt8) (n : Nat) : Bool := decide (l.length = n) && fitF 0 l
def agrB (l : List UInt8) : Bool := decide (chkN (l.take 10) = (l.getD 10 0).toNat)
def judgeN (l : List UInt8) : Nat := if fitB l 11 = true then (if agrB l = true then 0 else 31) else 30
def up (b : UInt8) : UInt8 := if 97 ≤ b.toNat ∧ b.toNat ≤ 122 then UInt8.ofNat (b.toNat - 32) else b
theorem vN_le (b : UInt8) : vN b ≤ 38 := by
 unfold vN isDig isCap
 simp only [Bool.and_eq_true, decide_eq_true_eq]
 repeat' split
 all_goals omega
theorem pow_le {k n : Nat} (h : k ≤ n) : 2 ^ k ≤ 2 ^ n := Nat.pow_le_pow_right Tw.om h
theorem vshl_le (b : UInt8) {k : Nat} (h : k ≤ 20) : vN b * 2 ^ k ≤ 39845888 := by
 have h1 := vN_le b
 have h2 := pow_le h
 have h3 := Nat.mul_le_mul h1 h2
 simpa using h3
theorem sumF_app (l m : List UInt8) : ∀ i, sumF i (l ++ m) = sumF i l + sumF (i + l.length) m := by
 induction l with
 | nil => intro i; simp [sumF]
 | cons b l ih => intro i; simp only [List.cons_append, sumF, ih, List.length_cons]; rw [show i + 1 + l.length = i + (l.length + 1) from by omega]; omega
theorem take_snoc {l : List UInt8} {k : Nat} {b : UInt8} (h : l[k]? = some b) : l.take (k + 1) = l.take k ++ [b] := by
 obtain ⟨hk, rfl⟩ := List.getElem?_eq_some_iff.1 h
 rw [List.take_succ_eq_append_getElem hk]
theorem sumF_snoc {l : List UInt8} {k : Nat} {b : UInt8} (h : l[k]? = some b) : sumF 0 (l.take (k + 1)) = sumF 0 (l.take k) + vN b * 2 ^ k := by
 have hk := (List.getElem?_eq_some_iff.1 h).1
 rw [take_snoc h, sumF_app]
 simp only [sumF, List.length_take, Nat.zero_add, Nat.add_zero, Nat.min_eq_left (Nat.le_of_lt hk)]
theorem sumF_le (l : List UInt8) : ∀ k, k ≤ l.length → k ≤ 20 → sumF 0 (l.take k) ≤ 39845888 * k := by
 intro k
 induction k with
 | zero => intro _ _; simp [sumF]
 | succ k ih =>
   intro h1 h2
   have hb : l[k]? = some l[k] := List.getElem?_eq_getElem Tw.om
   rw [sumF_snoc hb]
   have := vshl_le l[k] (k := k) Tw.om
   have := ih Tw.om Tw.om
   omega
theorem fitF_drop {l : List UInt8} {k : Nat} {b : UInt8} (h : l[k]? = some b) (i : Nat) : fitF i (l.drop k) = (mayB i b && fitF (i + 1) (l.drop (k + 1))) := by
 obtain ⟨hk, rfl⟩ := List.getElem?_eq_some_iff.1 h
 rw [List.drop_eq_getElem_cons hk]
 rfl
end Go.Proofs.YtllmpemmknblaaaDoor
namespace Go.Proofs.YtllmpemmknblaaaDoor
open Go Go.RowKit Tw
theorem val_is {b : UInt8} (n : Nat) (c : Bool) (h : n = vN b) (h2 : c = (isDig b || isCap b)) : Value.tuple #[.int .i64 ((n : Nat) : Int), .bool c] = .tuple #[.int .i64 ((vN b : Nat) : Int), .bool (isDig b || isCap b)] := by rw [h, h2]
theorem int_is {k : IntKind} {m n : Nat} (h : m = n) : Ending.returned (.int k ((m : Nat) : Int)) = .returned (.int k ((n : Nat) : Int)) := by rw [h]
theorem bool_is {b c : Bool} (h : b = c) : Ending.returned (.bool b) = .returned (.bool c) := by rw [h]
set_option maxRecDepth 100000 in
set_option maxHeartbeats 4000000 in
theorem Value_any (b : UInt8) (w : World) : Calls Tryd.prog 69 #[.int .u8 ((b.toNat : Nat) : Int)] w fun e w' => e = .returned (.tuple #[.int .i64 (((vN b) : Nat) : Int), .bool (isDig b || isCap b)]) ∧ Below w.heap.size w w' := by
 have lb := b.toNat_lt
 go_enter Tryd.func69, Tryd.ntmps69
 refine wp_seq ?_
 refine wp_region_L [] (KS.start w) ?_
 refine lm (v := .int .i64 0) rfl rfl ?_
 refine lm (v := .bool false) rfl rfl ?_
 refine wpL_done (fun W1 hW1 => ?_)
 change Code.wp ..
 refine wp_seq ?_
 refine wp_block ?_
 refine wp_seq ?_
 refine wp_region_L _ hW1 ?_
 refine lm (v := .int .u8 ((b.toNat : Nat) : Int)) rfl rfl ?_
 refine lp (v := .bool (!(decide (b.toNat < 48)))) rfl rfl (run_bin rfl (vx := (.int .u8 ((48 : Nat) : Int))) (vy := (.int .u8 ((b.toNat : Nat) : Int))) Tw.kr Tw.kr fun w => bn_leq rfl w) ?_
 refine lm (v := .bool (!(decide (b.toNat < 48)))) rfl rfl ?_
 cases hd1 : (decide (b.toNat < 48)) with
 | false =>
   have h1 : ¬ (b.toNat < 48) := of_decide_eq_false hd1
   clear hd1
   refine lm (v := .int .u8 ((b.toNat : Nat) : Int)) rfl rfl ?_
   refine lp (v := .bool (!(decide (57 < b.toNat)))) rfl rfl (run_bin rfl (vx := (.int .u8 ((b.toNat : Nat) : Int))) (vy := (.int .u8 ((57 : Nat) : Int))) Tw.kr Tw.kr fun w => bn_leq rfl w) ?_
   refine lm (v := .bool (!(decide (57 < b.toNat)))) rfl rfl ?_
   refine lm (v := .bool (!(decide (57 < b.toNat)))) rfl rfl ?_
   refine wpL_done (fun W2 hW2 => ?_)
   change Code.wp ..
   cases hd2 : (decide (57 < b.toNat)) with
   | false =>
     have h2 : ¬ (57 < b.toNat) := of_decide_eq_false hd2
     clear hd2
     refine wp_cond_true rfl ?_
     refine wp_seq ?_
     refine wp_region_L _ hW2 ?_
     refine lm (v := .int .u8 ((b.toNat : Nat) : Int)) rfl rfl ?_
     refine lp (v := .int .u8 (((b.toNat - 48) : Nat) : Int)) rfl rfl (run_bin rfl (vx := (.int .u8 ((b.toNat : Nat) : Int))) (vy := (.int .u8 ((48 : Nat) : Int))) Tw.kr Tw.kr fun w => bn_sub (z := (b.toNat - 48)) rfl Tw.om (wr_u8 Tw.om) w) ?_
     refine lp (v := .int .i64 (((b.toNat - 48) : Nat) : Int)) rfl rfl (run_conv rfl (vx := (.int .u8 (((b.toNat - 48) : Nat) : Int))) Tw.kr fun w => cv_int Tryd.underlying5 Tryd.underlying3 (wr_i64 Tw.om) w) ?_
     refine lm (v := .int .i64 (((b.toNat - 48) : Nat) : Int)) rfl rfl ?_
     refine lm (v := .bool true) rfl rfl ?_
     refine wpL_done (fun W3 hW3 => ?_)
     change Code.wp ..
     refine wp_ret ?_
     try simp only [inBlock_ret, then_ret]
     refine bodyPost_ret (v := .tuple #[.int .i64 (((b.toNat - 48) : Nat) : Int), .bool true]) ?_ rfl ?_
     · kernel_rfl
     · exact ⟨(congrArg Ending.returned (val_is (b.toNat - 48) true (by unfold vN isDig isCap; simp only [Bool.and_eq_true, decide_eq_true_eq]; (repeat' split) <;> omega) (by unfold isDig isCap; simp; omega))), hW3.1⟩
   | true =>
     have h2 : 57 < b.toNat := of_decide_eq_true hd2
     clear hd2
     refine wp_cond_false rfl ?_
     refine wp_seq ?_
     refine wp_region_L _ hW2 ?_
     refine lm (v := .int .u8 ((b.toNat : Nat) : Int)) rfl rfl ?_
     refine lp (v := .bool (!(decide (b.toNat < 65)))) rfl rfl (run_bin rfl (vx := (.int .u8 ((65 : Nat) : Int))) (vy := (.int .u8 ((b.toNat : Nat) : Int))) Tw.kr Tw.kr fun w => bn_leq rfl w) ?_
     refine lm (v := .bool (!(decide (b.toNat < 65)))) rfl rfl ?_
     cases hd3 : (decide (b.toNat < 65)) with
     | false =>
       have h3 : ¬ (b.toNat < 65) := of_decide_eq_false hd3
       clear hd3
       refine lm (v := .int .u8 ((b.toNat : Nat) : Int)) rfl rfl ?_
       refine lp (v := .bool (!(decide (90 < b.toNat)))) rfl rfl (run_bin rfl (vx := (.int .u8 ((b.toNat : Nat) : Int))) (vy := (.int .u8 ((90 : Nat) : Int))) Tw.kr Tw.kr fun w => bn_leq rfl w) ?_
       refine lm (v := .bool (!(decide (90 < b.toNat)))) rfl rfl ?_
       refine lm (v := .bool (!(decide (90 < b.toNat)))) rfl rfl ?_
       refine wpL_done (fun W4 hW4 => ?_)
       change Code.wp ..
       cases hd4 : (decide (90 < b.toNat)) with
       | false =>
         have h4 : ¬ (90 < b.toNat) := of_decide_eq_false hd4
         clear hd4
         refine wp_cond_true rfl ?_
         refine wp_seq ?_
         refine wp_region_L _ hW4 ?_
         refine lm (v := .int .u8 ((b.toNat : Nat) : Int)) rfl rfl ?_
         refine lp (v := .int .u8 (((b.toNat - 65) : Nat) : Int)) rfl rfl (run_bin rfl (vx := (.int .u8 ((b.toNat : Nat) : Int))) (vy := (.int .u8 ((65 : Nat) : Int))) Tw.kr Tw.kr fun w => bn_sub (z := (b.toNat - 65)) rfl Tw.om (wr_u8 Tw.om) w) ?_
         refine lp (v := .int .i64 (((b.toNat - 65) : Nat) : Int)) rfl rfl (run_conv rfl (vx := (.int .u8 (((b.toNat - 65) : Nat) : Int))) Tw.kr fun w => cv_int Tryd.underlying5 Tryd.underlying3 (wr_i64 Tw.om) w) ?_
         refine lm (v := .int .i64 (((b.toNat - 65) : Nat) : Int)) rfl rfl ?_
         refine wpL_done (fun W5 hW5 => ?_)
         change Code.wp ..
         refine wp_seq ?_
         refine wp_region_L _ hW5 ?_
         refine lm (v := .int .i64 (((b.toNat - 65) : Nat) : Int)) rfl rfl ?_
         refine lp (v := .int .i64 (((10 + (b.toNat - 65)) : Nat) : Int)) rfl rfl (run_bin rfl (vx := (.int .i64 ((10 : Nat) : Int))) (vy := (.int .i64 (((b.toNat - 65) : Nat) : Int))) Tw.kr Tw.kr fun w => bn_add (z := (10 + (b.toNat - 65))) rfl (wr_i64 Tw.om) w) ?_
         refine lm (v := .int .i64 (((b.toNat - 65) : Nat) : Int)) rfl rfl ?_
         refine lp (v := .int .i64 ((((b.toNat - 65) + 9) : Nat) : Int)) rfl rfl (run_bin rfl (vx := (.int .i64 (((b.toNat - 65) : Nat) : Int))) (vy := (.int .i64 ((9 : Nat) : Int))) Tw.kr Tw.kr fun w => bn_add (z := ((b.toNat - 65) + 9)) rfl (wr_i64 Tw.om) w) ?_
         refine lp (v := .int .i64 (((((b.toNat - 65) + 9) / 10) : Nat) : Int)) rfl rfl (run_bin rfl (vx := (.int .i64 ((((b.toNat - 65) + 9) : Nat) : Int))) (vy := (.int .i64 ((10 : Nat) : Int))) Tw.kr Tw.kr fun w => bn_quo (z := (((b.toNat - 65) + 9) / 10)) rfl Tw.om (wr_i64 Tw.om) w) ?_
         refine lp (v := .int .i64 ((((10 + (b.toNat - 65)) + (((b.toNat - 65) + 9) / 10)) : Nat) : Int)) rfl rfl (run_bin rfl (vx := (.int .i64 (((10 + (b.toNat - 65)) : Nat) : Int))) (vy := (.int .i64 (((((b.toNat - 65) + 9) / 10) : Nat) : Int))) Tw.kr Tw.kr fun w => bn_add (z := ((10 + (b.toNat - 65)) + (((b.toNat - 65) + 9) / 10))) rfl (wr_i64 Tw.om) w) ?_
         refine lm (v := .int .i64 ((((10 + (b.toNat - 65)) + (((b.toNat - 65) + 9) / 10)) : Nat) : Int)) rfl rfl ?_
         refine lm (v := .bool true) rfl rfl ?_
         refine wpL_done (fun W6 hW6 => ?_)
         change Code.wp ..
         refine wp_ret ?_
         try simp only [inBlock_ret, then_ret]
         refine bodyPost_ret (v := .tuple #[.int .i64 ((((10 + (b.toNat - 65)) + (((b.toNat - 65) + 9) / 10)) : Nat) : Int), .bool true]) ?_ rfl ?_
         · kernel_rfl
         · exact ⟨(congrArg Ending.returned (val_is ((10 + (b.toNat - 65)) + (((b.toNat - 65) + 9) / 10)) true (by unfold vN isDig isCap; simp only [Bool.and_eq_true, decide_eq_true_eq]; (repeat' split) <;> omega) (by unfold isDig isCap; simp; omega))), hW6.1⟩
       | true =>
         have h4 : 90 < b.toNat := of_decide_eq_true hd4
         clear hd4
         refine wp_cond_false rfl ?_
         refine wp_skip ?_
         change Code.wp ..
         refine wp_seq ?_
         refine wp_region_L _ hW4 ?_
         refine lm (v := .int .i64 0) rfl rfl ?_
         refine lm (v := .bool false) rfl rfl ?_
         refine wpL_done (fun W7 hW7 => ?_)
         change Code.wp ..
         refine wp_ret ?_
         try simp only [inBlock_ret, then_ret]
         refine bodyPost_ret (v := .tuple #[.int .i64 0, .bool false]) ?_ rfl ?_
         · kernel_rfl
         · exact ⟨(congrArg Ending.returned (val_is 0 false (by unfold vN isDig isCap; simp only [Bool.and_eq_true, decide_eq_true_eq]; (repeat' split) <;> omega) (by unfold isDig isCap; simp; omega))), hW7.1⟩
     | true =>
       have h3 : b.toNat < 65 := of_decide_eq_true hd3
       clear hd3
       refine ln rfl ?_
       refine ln rfl ?_
       refine lm (v := .bool false) rfl rfl ?_
       refine lm (v := .bool false) rfl rfl ?_
       refine wpL_done (fun W8 hW8 => ?_)
       change Code.wp ..
       refine wp_cond_false rfl ?_
       refine wp_skip ?_
       change Code.wp ..
       refine wp_seq ?_
       refine wp_region_L _ hW8 ?_
       refine lm (v := .int .i64 0) rfl rfl ?_
       refine lm (v := .bool false) rfl rfl ?_
       refine wpL_done (fun W9 hW9 => ?_)
       change Code.wp ..
       refine wp_ret ?_
       try simp only [inBlock_ret, then_ret]
       refine bodyPost_ret (v := .tuple #[.int .i64 0, .bool false]) ?_ rfl ?_
       · kernel_rfl
       · exact ⟨(congrArg Ending.returned (val_is 0 false (by unfold vN isDig isCap; simp only [Bool.and_eq_true, decide_eq_true_eq]; (repeat' split) <;> omega) (by unfold isDig isCap; simp; omega))), hW9.1⟩
 | true =>
   have h1 : b.toNat < 48 := of_decide_eq_true hd1
   clear hd1
   refine ln rfl ?_
   refine ln rfl ?_
   refine lm (v := .bool false) rfl rfl ?_
   refine lm (v := .bool false) rfl rfl ?_
   refine wpL_done (fun W10 hW10 => ?_)
   change Code.wp ..
   refine wp_cond_false rfl ?_
   refine wp_seq ?_
   refine wp_region_L _ hW10 ?_
   refine lm (v := .int .u8 ((b.toNat : Nat) : Int)) rfl rfl ?_
   refine lp (v := .bool (!(decide (b.toNat < 65)))) rfl rfl (run_bin rfl (vx := (.int .u8 ((65 : Nat) : Int))) (vy := (.int .u8 ((b.toNat : Nat) : Int))) Tw.kr Tw.kr fun w => bn_leq rfl w) ?_
   refine lm (v := .bool (!(decide (b.toNat < 65)))) rfl rfl ?_
   cases hd5 : (decide (b.toNat < 65)) with
   | false =>
     have h5 : ¬ (b.toNat < 65) := of_decide_eq_false hd5
     clear hd5
     refine lm (v := .int .u8 ((b.toNat : Nat) : Int)) rfl rfl ?_
     refine lp (v := .bool (!(decide (90 < b.toNat)))) rfl rfl (run_bin rfl (vx := (.int .u8 ((b.toNat : Nat) : Int))) (vy := (.int .u8 ((90 : Nat) : Int))) Tw.kr Tw.kr fun w => bn_leq rfl w) ?_
     refine lm (v := .bool (!(decide (90 < b.toNat)))) rfl rfl ?_
     refine lm (v := .bool (!(decide (90 < b.toNat)))) rfl rfl ?_
     refine wpL_done (fun W11 hW11 => ?_)
     change Code.wp ..
     cases hd6 : (decide (90 < b.toNat)) with
     | false =>
       have h6 : ¬ (90 < b.toNat) := of_decide_eq_false hd6
       clear hd6
       refine wp_cond_true rfl ?_
       refine wp_seq ?_
       refine wp_region_L _ hW11 ?_
       refine lm (v := .int .u8 ((b.toNat : Nat) : Int)) rfl rfl ?_
       refine lp (v := .int .u8 (((b.toNat - 65) : Nat) : Int)) rfl rfl (run_bin rfl (vx := (.int .u8 ((b.toNat : Nat) : Int))) (vy := (.int .u8 ((65 : Nat) : Int))) Tw.kr Tw.kr fun w => bn_sub (z := (b.toNat - 65)) rfl Tw.om (wr_u8 Tw.om) w) ?_
       refine lp (v := .int .i64 (((b.toNat - 65) : Nat) : Int)) rfl rfl (run_conv rfl (vx := (.int .u8 (((b.toNat - 65) : Nat) : Int))) Tw.kr fun w => cv_int Tryd.underlying5 Tryd.underlying3 (wr_i64 Tw.om) w) ?_
       refine lm (v := .int .i64 (((b.toNat - 65) : Nat) : Int)) rfl rfl ?_
       refine wpL_done (fun W12 hW12 => ?_)
       change Code.wp ..
       refine wp_seq ?_
       refine wp_region_L _ hW12 ?_
       refine lm (v := .int .i64 (((b.toNat - 65) : Nat) : Int)) rfl rfl ?_
       refine lp (v := .int .i64 (((10 + (b.toNat - 65)) : Nat) : Int)) rfl rfl (run_bin rfl (vx := (.int .i64 ((10 : Nat) : Int))) (vy := (.int .i64 (((b.toNat - 65) : Nat) : Int))) Tw.kr Tw.kr fun w => bn_add (z := (10 + (b.toNat - 65))) rfl (wr_i64 Tw.om) w) ?_
       refine lm (v := .int .i64 (((b.toNat - 65) : Nat) : Int)) rfl rfl ?_
       refine lp (v := .int .i64 ((((b.toNat - 65) + 9) : Nat) : Int)) rfl rfl (run_bin rfl (vx := (.int .i64 (((b.toNat - 65) : Nat) : Int))) (vy := (.int .i64 ((9 : Nat) : Int))) Tw.kr Tw.kr fun w => bn_add (z := ((b.toNat - 65) + 9)) rfl (wr_i64 Tw.om) w) ?_
       refine lp (v := .int .i64 (((((b.toNat - 65) + 9) / 10) : Nat) : Int)) rfl rfl (run_bin rfl (vx := (.int .i64 ((((b.toNat - 65) + 9) : Nat) : Int))) (vy := (.int .i64 ((10 : Nat) : Int))) Tw.kr Tw.kr fun w => bn_quo (z := (((b.toNat - 65) + 9) / 10)) rfl Tw.om (wr_i64 Tw.om) w) ?_
       refine lp (v := .int .i64 ((((10 + (b.toNat - 65)) + (((b.toNat - 65) + 9) / 10)) : Nat) : Int)) rfl rfl (run_bin rfl (vx := (.int .i64 (((10 + (b.toNat - 65)) : Nat) : Int))) (vy := (.int .i64 (((((b.toNat - 65) + 9) / 10) : Nat) : Int))) Tw.kr Tw.kr fun w => bn_add (z := ((10 + (b.toNat - 65)) + (((b.toNat - 65) + 9) / 10))) rfl (wr_i64 Tw.om) w) ?_
       refine lm (v := .int .i64 ((((10 + (b.toNat - 65)) + (((b.toNat - 65) + 9) / 10)) : Nat) : Int)) rfl rfl ?_
       refine lm (v := .bool true) rfl rfl ?_
       refine wpL_done (fun W13 hW13 => ?_)
       change Code.wp ..
       refine wp_ret ?_
       try simp only [inBlock_ret, then_ret]
       refine bodyPost_ret (v := .tuple #[.int .i64 ((((10 + (b.toNat - 65)) + (((b.toNat - 65) + 9) / 10)) : Nat) : Int), .bool true]) ?_ rfl ?_
       · kernel_rfl
       · exact ⟨(congrArg Ending.returned (val_is ((10 + (b.toNat - 65)) + (((b.toNat - 65) + 9) / 10)) true (by unfold vN isDig isCap; simp only [Bool.and_eq_true, decide_eq_true_eq]; (repeat' split) <;> omega) (by unfold isDig isCap; simp; omega))), hW13.1⟩
     | true =>
       have h6 : 90 < b.toNat := of_decide_eq_true hd6
       clear hd6
       refine wp_cond_false rfl ?_
       refine wp_skip ?_
       change Code.wp ..
       refine wp_seq ?_
       refine wp_region_L _ hW11 ?_
       refine lm (v := .int .i64 0) rfl rfl ?_
       refine lm (v := .bool false) rfl rfl ?_
       refine wpL_done (fun W14 hW14 => ?_)
       change Code.wp ..
       refine wp_ret ?_
       try simp only [inBlock_ret, then_ret]
       refine bodyPost_ret (v := .tuple #[.int .i64 0, .bool false]) ?_ rfl ?_
       · kernel_rfl
       · exact ⟨(congrArg Ending.returned (val_is 0 false (by unfold vN isDig isCap; simp only [Bool.and_eq_true, decide_eq_true_eq]; (repeat' split) <;> omega) (by unfold isDig isCap; simp; omega))), hW14.1⟩
   | true =>
     have h5 : b.toNat < 65 := of_decide_eq_true hd5
     clear hd5
     refine ln rfl ?_
     refine ln rfl ?_
     refine lm (v := .bool false) rfl rfl ?_
     refine lm (v := .bool false) rfl rfl ?_
     refine wpL_done (fun W15 hW15 => ?_)
     change Code.wp ..
     refine wp_cond_false rfl ?_
     refine wp_skip ?_
     change Code.wp ..
     refine wp_seq ?_
     refine wp_region_L _ hW15 ?_
     refine lm (v := .int .i64 0) rfl rfl ?_
     refine lm (v := .bool false) rfl rfl ?_
     refine wpL_done (fun W16 hW16 => ?_)
     change Code.wp ..
     refine wp_ret ?_
     try simp only [inBlock_ret, then_ret]
     refine bodyPost_ret (v := .tuple #[.int .i64 0, .bool false]) ?_ rfl ?_
     · kernel_rfl
     · exact ⟨(congrArg Ending.returned (val_is 0 false (by unfold vN isDig isCap; simp only [Bool.and_eq_true, decide_eq_true_eq]; (repeat' split) <;> omega) (by unfold isDig isCap; simp; omega))), hW16.1⟩
set_option maxRecDepth 100000 in
set_option maxHeartbeats 4000000 in
theorem checkDigit_any (l : List UInt8) (hl : l.length ≤ 20) (w : World) : Calls Tryd.prog 52 #[strV l] w fun e w' => e = .returned (.int .u8 (((chkN l) : Nat) : Int)) ∧ Below w.heap.size w w' := by
 go_enter Tryd.func52, Tryd.ntmps52
 refine wp_seq ?_
 refine wp_region_L [] (KS.start w) ?_
 refine lm (v := .int .u8 0) rfl rfl ?_
 refine wpL_done (fun W1 hW1 => ?_)
 change Code.wp ..
 refine wp_seq ?_
 refine wp_region_L _ hW1 ?_
 refine lm (v := .int .i64 0) rfl rfl ?_
 refine wpL_done (fun W2 hW2 => ?_)
 change Code.wp ..
 refine wp_seq ?_
 refine wp_seq ?_
 refine wp_region_L _ hW2 ?_
 refine lm (v := strV l) rfl rfl ?_
 refine lp (v := .int .i64 ((l.length : Nat) : Int)) rfl rfl (run_lenS (l := l) rfl Tryd.underlying9 Tw.kr) ?_
 refine lm (v := .int .i64 0) rfl rfl ?_
 refine wpL_done (fun W3 hW3 => ?_)
 change Code.wp ..
 refine wp_block ?_
 have hsl := sumF_le l
 go_loopw [3, 9] (fun u3 u9 wr => ∃ (k : Nat), (k ≤ l.length) ∧ u3 = .int .i64 (((sumF 0 (l.take k)) : Nat) : Int) ∧ u9 = .int .i64 ((k : Nat) : Int) ∧ KS w [] wr) (fun _ u9 _ => l.length - (intOf u9).toNat)
 case atStart => exact ⟨0, (Nat.zero_le _), rfl, rfl, hW3⟩
 case round =>
   obtain ⟨k, hk, rfl, rfl, hL4⟩ := hrel
   have hs1 := hsl k hk Tw.om
   refine wp_seq ?_
   refine wp_region_L _ hL4 ?_
   refine lp (v := .bool (decide (k < l.length))) rfl rfl (run_bin rfl (vx := (.int .i64 ((k : Nat) : Int))) (vy := (.int .i64 ((l.length : Nat) : Int))) Tw.kr Tw.kr fun w => bn_lss rfl w) ?_
   refine wpL_done (fun W5 hW5 => ?_)
   change Code.wp ..
   refine wp_seq ?_
   cases hd1 : (decide (k < l.length)) with
   | false =>
     have h1 : ¬ (k < l.length) := of_decide_eq_false hd1
     clear hd1
     have hlk : l.take k = l := List.take_of_length_le Tw.om
     refine wp_cond_false rfl ?_
     refine wp_exit ?_
     change Code.wp ..
     refine wp_seq ?_
     refine wp_region_L _ hW5 ?_
     refine lm (v := .int .i64 (((sumF 0 (l.take k)) : Nat) : Int)) rfl rfl ?_
     refine lp (v := .int .i64 ((((sumF 0 (l.take k)) % 11) : Nat) : Int)) rfl rfl (run_bin rfl (vx := (.int .i64 (((sumF 0 (l.take k)) : Nat) : Int))) (vy := (.int .i64 ((11 : Nat) : Int))) Tw.kr Tw.kr fun w => bn_rem (z := ((sumF 0 (l.take k)) % 11)) rfl Tw.om w) ?_
     refine lp (v := .int .i64 (((((sumF 0 (l.take k)) % 11) % 10) : Nat) : Int)) rfl rfl (run_bin rfl (vx := (.int .i64 ((((sumF 0 (l.take k)) % 11) : Nat) : Int))) (vy := (.int .i64 ((10 : Nat) : Int))) Tw.kr Tw.kr fun w => bn_rem (z := (((sumF 0 (l.take k)) % 11) % 10)) rfl Tw.om w) ?_
     refine lp (v := .int .u8 (((((sumF 0 (l.take k)) % 11) % 10) : Nat) : Int)) rfl rfl (run_conv rfl (vx := (.int .i64 (((((sumF 0 (l.take k)) % 11) % 10) : Nat) : Int))) Tw.kr fun w => cv_int Tryd.underlying3 Tryd.underlying5 (wr_u8 Tw.om) w) ?_
     refine lp (v := .int .u8 (((48 + (((sumF 0 (l.take k)) % 11) % 10)) : Nat) : Int)) rfl rfl (run_bin rfl (vx := (.int .u8 ((48 : Nat) : Int))) (vy := (.int .u8 (((((sumF 0 (l.take k)) % 11) % 10) : Nat) : Int))) Tw.kr Tw.kr fun w => bn_add (z := (48 + (((sumF 0 (l.take k)) % 11) % 10))) rfl (wr_u8 Tw.om) w) ?_
     refine lm (v := .int .u8 (((48 + (((sumF 0 (l.take k)) % 11) % 10)) : Nat) : Int)) rfl rfl ?_
     refine wpL_done (fun W6 hW6 => ?_)
     change Code.wp ..
     refine wp_ret ?_
     try simp only [inBlock_ret, then_ret]
     refine bodyPost_ret (v := .int .u8 (((48 + (((sumF 0 (l.take k)) % 11) % 10)) : Nat) : Int)) ?_ rfl ?_
     · kernel_rfl
     · exact ⟨(int_is (by unfold chkN remL; rw [hlk])), hW6.1⟩
   | true =>
     have h1 : k < l.length := of_decide_eq_true hd1
     clear hd1
     have hpw := vshl_le
     refine wp_cond_true rfl ?_
     refine wp_skip ?_
     change Code.wp ..
     refine wp_seq ?_
     refine wp_block ?_
     refine wp_seq ?_
     refine wp_region_L _ hW5 ?_
     refine lm (v := .int .i64 ((k : Nat) : Int)) rfl rfl ?_
     refine lm (v := .int .i64 ((k : Nat) : Int)) rfl rfl ?_
     refine wpL_done (fun W7 hW7 => ?_)
     change Code.wp ..
     refine wp_seq ?_
     refine wp_region_L _ hW7 ?_
     refine lm (v := strV l) rfl rfl ?_
     refine lm (v := .int .i64 ((k : Nat) : Int)) rfl rfl ?_
     obtain ⟨b1, hb1⟩ : ∃ b, l[k]? = some b := ⟨_, List.getElem?_eq_getElem Tw.om⟩
     have lb1 := b1.toNat_lt
     refine lp (v := .int .u8 ((b1.toNat : Nat) : Int)) rfl rfl (run_idxS (j := .i64) (l := l) (k := k) (b := b1) rfl Tryd.underlying9 Tw.kr Tw.kr hb1) ?_
     refine lv (v := .tuple #[.int .i64 (((vN b1) : Nat) : Int), .bool (isDig b1 || isCap b1)]) rfl rfl (yb_call (f := 69) (args := #[.int .u8 ((b1.toNat : Nat) : Int)]) Tw.kf fun W hW => Value_any b1 W) ?_
     refine lm (v := .tuple #[.int .i64 (((vN b1) : Nat) : Int), .bool (isDig b1 || isCap b1)]) rfl rfl ?_
     refine lm (v := .int .i64 (((vN b1) : Nat) : Int)) rfl rfl ?_
     refine lm (v := .bool (isDig b1 || isCap b1)) rfl rfl ?_
     refine lm (v := .int .i64 (((vN b1) : Nat) : Int)) rfl rfl ?_
     refine lm (v := .bool (isDig b1 || isCap b1)) rfl rfl ?_
     refine wpL_done (fun W8 hW8 => ?_)
     change Code.wp ..
     refine wp_region_L _ hW8 ?_
     refine lm (v := .int .i64 (((sumF 0 (l.take k)) : Nat) : Int)) rfl rfl ?_
     refine lm (v := .int .i64 (((vN b1) : Nat) : Int)) rfl rfl ?_
     refine lm (v := .int .i64 ((k : Nat) : Int)) rfl rfl ?_
     refine lp (v := .int .i64 ((((vN b1) * 2 ^ k) : Nat) : Int)) rfl rfl (run_bin rfl (vx := (.int .i64 (((vN b1) : Nat) : Int))) (vy := (.int .i64 ((k : Nat) : Int))) Tw.kr Tw.kr fun w => bn_shl (z := ((vN b1) * 2 ^ k)) rfl (by first | omega | decide | (simp only [IntKind.bits]; omega)) (wr_i64 (by have := vshl_le b1 (k := k) Tw.om; omega)) w) ?_
     have hvs := vshl_le b1 (k := k) Tw.om
     have hs2 := hsl (k + 1) Tw.om Tw.om
     refine lp (v := .int .i64 (((sumF 0 (l.take (k + 1))) : Nat) : Int)) rfl rfl (run_bin rfl (vx := (.int .i64 (((sumF 0 (l.take k)) : Nat) : Int))) (vy := (.int .i64 ((((vN b1) * 2 ^ k) : Nat) : Int))) Tw.kr Tw.kr fun w => bn_add (z := sumF 0 (l.take (k + 1))) (sumF_snoc hb1).symm (wr_i64 Tw.om) w) ?_
     refine lm (v := .int .i64 (((sumF 0 (l.take (k + 1))) : Nat) : Int)) rfl rfl ?_
     refine wpL_done (fun W9 hW9 => ?_)
     change Code.wp ..
     refine wp_region_L _ hW9 ?_
     refine lp (v := .int .i64 (((k + 1) : Nat) : Int)) rfl rfl (run_bin rfl (vx := (.int .i64 ((k : Nat) : Int))) (vy := (.int .i64 ((1 : Nat) : Int))) Tw.kr Tw.kr fun w => bn_add (z := (k + 1)) rfl (wr_i64 Tw.om) w) ?_
     refine lm (v := .int .i64 (((k + 1) : Nat) : Int)) rfl rfl ?_
     refine wpL_done (fun W10 hW10 => ?_)
     go_roundw
     case rel =>
       repeat apply Exists.intro
       exact ⟨⟨k + 1, Tw.om, rfl, rfl, hW10⟩, rfl⟩
     case measure => (show l.length - (intOf (.int .i64 (((k + 1) : Nat) : Int))).toNat < l.length - (intOf (.int .i64 ((k : Nat) : Int))).toNat); simp only [intOf]; omega
end Go.Proofs.YtllmpemmknblaaaDoor
namespace Go.Proofs.YtllmpemmknblaaaDoor
open Go Go.RowKit Tw
theorem fit_len {l : List UInt8} {n : Nat} (h : fitB l n = true) : l.length = n := by unfold fitB at h; simp at h; exact h.1
def rangeV (a b : Nat) : Value := .func (.func 75) #[] #[.pointer (some ⟨a, 0, none⟩), .pointer (some ⟨b, 0, none⟩)]
def catV : Value := .func (.func 76) #[] #[]
def placeAt (a b c d k : Nat) : Value := if k < 3 then rangeV a b else if k = 3 then catV else rangeV c d
def placesV (a b c d : Nat) : Array Value := #[rangeV a b, rangeV a b, rangeV a b, catV, rangeV c d, rangeV c d, rangeV c d, rangeV c d, rangeV c d, rangeV c d, rangeV c d]
theorem places_get {a b c d k : Nat} (h : k < 11) : (placesV a b c d)[0 + k * 1]? = some (placeAt a b c d k) := by
 rcases k with _ | _ | _ | _ | _ | _ | _ | _ | _ | _ | _ | k
 all_goals first | rfl | omega
def plK (a b c d : Nat) (K : List (Nat × Obj)) : List (Nat × Obj) := (d, .cells #[.int .u8 57] 5 (0, 0)) :: (c, .cells #[.int .u8 48] 5 (0, 0)) :: (b, .cells #[.int .u8 90] 5 (0, 0)) :: (a, .cells #[.int .u8 65] 5 (0, 0)) :: K
set_option maxRecDepth 100000 in
set_option maxHeartbeats 4000000 in
theorem between_in (b : UInt8) (x y : Nat) (p q : Nat) (w : World) (hp : w.cell? ⟨p, 0, none⟩ = some (.int .u8 ((x : Nat) : Int))) (hq : w.cell? ⟨q, 0, none⟩ = some (.int .u8 ((y : Nat) : Int))) :
   Calls Tryd.prog 75 #[.int .u8 ((b.toNat : Nat) : Int), .pointer (some ⟨p, 0, none⟩), .pointer (some ⟨q, 0, none⟩)] w fun e w' => e = .returned (.bool (decide (x ≤ b.toNat) && decide (b.toNat ≤ y))) ∧ Below w.heap.size w w' := by
 have HP := Lib.hid hp
 have HQ := Lib.hid hq
 have ltp := World.block_lt_of_cell? _ _ hp
 have ltq := World.block_lt_of_cell? _ _ hq
 clear hp hq
 go_enter Tryd.func75, Tryd.ntmps75
 refine wp_seq ?_
 refine wp_region_L [] (KS.start w) ?_
 refine lm (v := .bool false) rfl rfl ?_
 refine wpL_done (fun W1 hW1 => ?_)
 change Code.wp ..
 refine wp_seq ?_
 refine wp_region_L _ hW1 ?_
 refine lv (v := .int .u8 ((x : Nat) : Int)) rfl rfl (yb_old (off := 0) rfl Tw.kr HP.out ltp Tryd.underlying5 rfl) ?_
 refine lm (v := .int .u8 ((b.toNat : Nat) : Int)) rfl rfl ?_
 refine lp (v := .bool (!(decide (b.toNat < x)))) rfl rfl (run_bin rfl (vx := (.int .u8 ((x : Nat) : Int))) (vy := (.int .u8 ((b.toNat : Nat) : Int))) Tw.kr Tw.kr fun w => bn_leq rfl w) ?_
 refine lm (v := .bool (!(decide (b.toNat < x)))) rfl rfl ?_
 cases hd1 : (decide (b.toNat < x)) with
 | false =>
   have h1 : ¬ (b.toNat < x) := of_decide_eq_false hd1
   clear hd1
   refine lm (v := .int .u8 ((b.toNat : Nat) : Int)) rfl rfl ?_
   refine lv (v := .int .u8 ((y : Nat) : Int)) rfl rfl (yb_old (off := 0) rfl Tw.kr HQ.out ltq Tryd.underlying5 rfl) ?_
   refine lp (v := .bool (!(decide (y < b.toNat)))) rfl rfl (run_bin rfl (vx := (.int .u8 ((b.toNat : Nat) : Int))) (vy := (.int .u8 ((y : Nat) : Int))) Tw.kr Tw.kr fun w => bn_leq rfl w) ?_
   refine lm (v := .bool (!(decide (y < b.toNat)))) rfl rfl ?_
   refine lm (v := .bool (!(decide (y < b.toNat)))) rfl rfl ?_
   refine wpL_done (fun W2 hW2 => ?_)
   change Code.wp ..
   refine wp_ret ?_
   try simp only [inBlock_ret, then_ret]
   refine bodyPost_ret (v := .bool (!(decide (y < b.toNat)))) ?_ rfl ?_
   · kernel_rfl
   · exact ⟨(bool_is (by rw [Bool.eq_iff_iff]; simp <;> omega)), hW2.1⟩
 | true =>
   have h1 : b.toNat < x := of_decide_eq_true hd1
   clear hd1
   refine ln rfl ?_
   refine ln rfl ?_
   refine ln rfl ?_
   refine lm (v := .bool false) rfl rfl ?_
   refine lm (v := .bool false) rfl rfl ?_
   refine wpL_done (fun W3 hW3 => ?_)
   change Code.wp ..
   refine wp_ret ?_
   try simp only [inBlock_ret, then_ret]
   refine bodyPost_ret (v := .bool false) ?_ rfl ?_
   · kernel_rfl
   · exact ⟨(bool_is (by rw [Bool.eq_iff_iff]; simp <;> omega)), hW3.1⟩
set_option maxRecDepth 100000 in
set_option maxHeartbeats 4000000 in
theorem cat_any (b : UInt8) (w : World) : Calls Tryd.prog 76 #[.int .u8 ((b.toNat : Nat) : Int)] w fun e w' => e = .returned (.bool (isCat b)) ∧ Below w.heap.size w w' := by
 go_enter Tryd.func76, Tryd.ntmps76
 refine wp_seq ?_
 refine wp_region_L [] (KS.start w) ?_
 refine lm (v := .bool false) rfl rfl ?_
 refine wpL_done (fun W1 hW1 => ?_)
 change Code.wp ..
 refine wp_seq ?_
 refine wp_region_L _ hW1 ?_
 refine lm (v := .int .u8 ((b.toNat : Nat) : Int)) rfl rfl ?_
 refine lp (v := .bool (decide (b.toNat = 85))) rfl rfl (run_bin rfl (vx := (.int .u8 ((b.toNat : Nat) : Int))) (vy := (.int .u8 ((85 : Nat) : Int))) Tw.kr Tw.kr fun w => bn_eql rfl w) ?_
 refine lm (v := .bool (decide (b.toNat = 85))) rfl rfl ?_
 cases hd1 : (decide (b.toNat = 85)) with
 | false =>
   have h1 : ¬ (b.toNat = 85) := of_decide_eq_false hd1
   clear hd1
   refine lm (v := .int .u8 ((b.toNat : Nat) : Int)) rfl rfl ?_
   refine lp (v := .bool (decide (b.toNat = 74))) rfl rfl (run_bin rfl (vx := (.int .u8 ((b.toNat : Nat) : Int))) (vy := (.int .u8 ((74 : Nat) : Int))) Tw.kr Tw.kr fun w => bn_eql rfl w) ?_
   refine lm (v := .bool (decide (b.toNat = 74))) rfl rfl ?_
   refine lm (v := .bool (decide (b.toNat = 74))) rfl rfl ?_
   cases hd2 : (decide (b.toNat = 74)) with
   | false =>
     have h2 : ¬ (b.toNat = 74) := of_decide_eq_false hd2
     clear hd2
     refine lm (v := .int .u8 ((b.toNat : Nat) : Int)) rfl rfl ?_
     refine lp (v := .bool (decide (b.toNat = 90))) rfl rfl (run_bin rfl (vx := (.int .u8 ((b.toNat : Nat) : Int))) (vy := (.int .u8 ((90 : Nat) : Int))) Tw.kr Tw.kr fun w => bn_eql rfl w) ?_
     refine lm (v := .bool (decide (b.toNat = 90))) rfl rfl ?_
     refine lm (v := .bool (decide (b.toNat = 90))) rfl rfl ?_
     refine wpL_done (fun W2 hW2 => ?_)
     change Code.wp ..
     refine wp_ret ?_
     try simp only [inBlock_ret, then_ret]
     refine bodyPost_ret (v := .bool (decide (b.toNat = 90))) ?_ rfl ?_
     · kernel_rfl
     · exact ⟨(bool_is (by unfold isCat; simp [*])), hW2.1⟩
   | true =>
     have h2 : b.toNat = 74 := of_decide_eq_true hd2
     clear hd2
     refine ln rfl ?_
     refine ln rfl ?_
     refine lm (v := .bool true) rfl rfl ?_
     refine lm (v := .bool true) rfl rfl ?_
     refine wpL_done (fun W3 hW3 => ?_)
     change Code.wp ..
     refine wp_ret ?_
     try simp only [inBlock_ret, then_ret]
     refine bodyPost_ret (v := .bool true) ?_ rfl ?_
     · kernel_rfl
     · exact ⟨(bool_is (by unfold isCat; simp [*])), hW3.1⟩
 | true =>
   have h1 : b.toNat = 85 := of_decide_eq_true hd1
   clear hd1
   refine ln rfl ?_
   refine ln rfl ?_
   refine lm (v := .bool true) rfl rfl ?_
   refine lm (v := .bool true) rfl rfl ?_
   refine ln rfl ?_
   refine ln rfl ?_
   refine lm (v := .bool true) rfl rfl ?_
   refine lm (v := .bool true) rfl rfl ?_
   refine wpL_done (fun W4 hW4 => ?_)
   change Code.wp ..
   refine wp_ret ?_
   try simp only [inBlock_ret, then_ret]
   refine bodyPost_ret (v := .bool true) ?_ rfl ?_
   · kernel_rfl
   · exact ⟨(bool_is (by unfold isCat; simp [*])), hW4.1⟩
set_option maxRecDepth 100000 in
set_option maxHeartbeats 4000000 in
theorem between_any (x y : Int) (w : World) : Calls Tryd.prog 74 #[.int .u8 x, .int .u8 y] w fun e w' => ∃ a b, e = .returned (rangeV a b) ∧ w.heap.size ≤ a ∧ w.heap.size ≤ b ∧ w'.heap[a]? = some (.cells #[.int .u8 x] 5 (0, 0)) ∧ w'.heap[b]? = some (.cells #[.int .u8 y] 5 (0, 0)) ∧ Below w.heap.size w w' := by
 go_enter Tryd.func74, Tryd.ntmps74
 refine wp_seq ?_
 refine wp_region_L [] (KS.start w) ?_
 refine wpL_new (fun g => .pointer (some ⟨g, 0, none⟩)) (obi := .cells #[.int .u8 x] 5 (0, 0)) rfl rfl Tw.kf Tw.pf fun g1 Bg1 Fg1 => ?_
 refine wpL_new (fun g => .pointer (some ⟨g, 0, none⟩)) (obi := .cells #[.int .u8 y] 5 (0, 0)) rfl rfl Tw.kf Tw.pf fun g2 Bg2 Fg2 => ?_
 refine lm (v := .nilFunc) rfl rfl ?_
 refine wpL_done (fun W1 hW1 => ?_)
 change Code.wp ..
 refine wp_seq ?_
 refine wp_region_L _ hW1 ?_
 refine lm (v := .func (.func 75) #[] #[.pointer (some ⟨g1, 0, none⟩), .pointer (some ⟨g2, 0, none⟩)]) rfl rfl ?_
 refine lm (v := .func (.func 75) #[] #[.pointer (some ⟨g1, 0, none⟩), .pointer (some ⟨g2, 0, none⟩)]) rfl rfl ?_
 refine wpL_done (fun W2 hW2 => ?_)
 change Code.wp ..
 refine wp_ret ?_
 try simp only [inBlock_ret, then_ret]
 refine bodyPost_ret (v := .func (.func 75) #[] #[.pointer (some ⟨g1, 0, none⟩), .pointer (some ⟨g2, 0, none⟩)]) ?_ rfl ?_
 · kernel_rfl
 · exact ⟨g1, g2, rfl, Bg1, Bg2, hW2.2 _ Tw.m1, hW2.2 _ Tw.m0, hW2.1⟩
def GB (W0 : Base) (K : List (Nat × Obj)) (x y : Int) (v : Value) (K' : List (Nat × Obj)) : Prop := ∃ a b, v = rangeV a b ∧ W0.B ≤ a ∧ W0.B ≤ b ∧ (∀ p ∈ K, p.1 ≠ a) ∧ (∀ p ∈ K, p.1 ≠ b) ∧ K' = (b, .cells #[.int .u8 y] 5 (0, 0)) :: (a, .cells #[.int .u8 x] 5 (0, 0)) :: K
theorem calls_gb {W0 : Base} {W : World} {K : List (Nat × Obj)} (x y : Int) (hW : KS W0 K W) : Calls Tryd.prog 74 #[.int .u8 x, .int .u8 y] W fun e w' => ∃ v K', e = .returned v ∧ KS W0 K' w' ∧ GB W0 K x y v K' :=
 (between_any x y W).mono fun e w' ⟨a, b, he, ha, hb, h1, h2, hbel⟩ => by
   have hK := hW.below hbel
   refine ⟨_, _, he, ⟨hK.1, ?_⟩, a, b, rfl, Nat.le_trans hW.size ha, Nat.le_trans hW.size hb, fun p hp e => ?_, fun p hp e => ?_, rfl⟩
   · intro p hp
     rcases List.mem_cons.1 hp with rfl | hp
     · exact h2
     · rcases List.mem_cons.1 hp with rfl | hp
       · exact h1
       · exact hK.2 p hp
   · have := lt_of_block (hW.2 p hp); omega
   · have := lt_of_block (hW.2 p hp); omega
set_option maxRecDepth 100000 in
set_option maxHeartbeats 4000000 in
theorem places_any (w : World) : Calls Tryd.prog 68 #[] w fun e w' => ∃ a b c d, e = .returned (.agg (placesV a b c d)) ∧ w.heap.size ≤ a ∧ w.heap.size ≤ b ∧ w.heap.size ≤ c ∧ w.heap.size ≤ d ∧ (∀ p ∈ plK a b c d [], w'.heap[p.1]? = some p.2) ∧ Below w.heap.size w w' := by
 go_enter Tryd.func68, Tryd.ntmps68
 refine wp_seq ?_
 refine wp_region_L [] (KS.start w) ?_
 refine wpL_new (fun g => .pointer (some ⟨g, 0, none⟩)) (obi := .cells #[.nilFunc, .nilFunc, .nilFunc, .nilFunc, .nilFunc, .nilFunc, .nilFunc, .nilFunc, .nilFunc, .nilFunc, .nilFunc] 98 (0, 0)) rfl rfl Tw.kf Tw.pf fun g1 Bg1 Fg1 => ?_
 refine wpL_done (fun W1 hW1 => ?_)
 change Code.wp ..
 refine wp_seq ?_
 refine wp_region_L _ hW1 ?_
 refine lm (v := .func (.func 74) #[] #[]) rfl rfl ?_
 refine wpL_done (fun W2 hW2 => ?_)
 change Code.wp ..
 refine wp_seq ?_
 refine wp_region_L _ hW2 ?_
 refine lm (v := .func (.func 74) #[] #[]) rfl rfl ?_
 refine wpL_c (f := 74) (args := #[.int .u8 65, .int .u8 90]) (GB w [(g1, .cells #[.nilFunc, .nilFunc, .nilFunc, .nilFunc, .nilFunc, .nilFunc, .nilFunc, .nilFunc, .nilFunc, .nilFunc, .nilFunc] 98 (0, 0))] 65 90) rfl Tw.kr Tw.kf (fun W hW => calls_gb 65 90 hW) Tw.pf ?_
 rintro v K9 ⟨g2, g3, rfl, Bg2, Bg3, Fg2, Fg3, rfl⟩
 refine lm (v := .func (.func 74) #[] #[]) rfl rfl ?_
 refine wpL_c (f := 74) (args := #[.int .u8 48, .int .u8 57]) (GB w [(g3, .cells #[.int .u8 90] 5 (0, 0)), (g2, .cells #[.int .u8 65] 5 (0, 0)), (g1, .cells #[.nilFunc, .nilFunc, .nilFunc, .nilFunc, .nilFunc, .nilFunc, .nilFunc, .nilFunc, .nilFunc, .nilFunc, .nilFunc] 98 (0, 0))] 48 57) rfl Tw.kr Tw.kf (fun W hW => calls_gb 48 57 hW) Tw.pf ?_
 rintro v K9 ⟨g4, g5, rfl, Bg4, Bg5, Fg4, Fg5, rfl⟩
 refine lm (v := rangeV g2 g3) rfl rfl ?_
 refine lm (v := rangeV g4 g5) rfl rfl ?_
 refine wpL_done (fun W3 hW3 => ?_)
 change Code.wp ..
 refine wp_seq ?_
 refine wp_region_L _ hW3 ?_
 refine lm (v := catV) rfl rfl ?_
 refine wpL_done (fun W4 hW4 => ?_)
 change Code.wp ..
 refine wp_seq ?_
 refine wp_region_L _ hW4 ?_
 refine lm (v := rangeV g2 g3) rfl rfl ?_
 refine lm (v := rangeV g2 g3) rfl rfl ?_
 refine lm (v := rangeV g2 g3) rfl rfl ?_
 refine lm (v := catV) rfl rfl ?_
 refine lm (v := rangeV g4 g5) rfl rfl ?_
 refine lm (v := rangeV g4 g5) rfl rfl ?_
 refine lm (v := rangeV g4 g5) rfl rfl ?_
 refine lm (v := rangeV g4 g5) rfl rfl ?_
 refine lm (v := rangeV g4 g5) rfl rfl ?_
 refine lm (v := rangeV g4 g5) rfl rfl ?_
 refine lm (v := rangeV g4 g5) rfl rfl ?_
 refine lm (v := .agg #[rangeV g2 g3, rangeV g2 g3, rangeV g2 g3, catV, rangeV g4 g5, rangeV g4 g5, rangeV g4 g5, rangeV g4 g5, rangeV g4 g5, rangeV g4 g5, rangeV g4 g5]) rfl rfl ?_
 refine wpL_s [(g5, .cells #[.int .u8 57] 5 (0, 0)), (g4, .cells #[.int .u8 48] 5 (0, 0)), (g3, .cells #[.int .u8 90] 5 (0, 0)), (g2, .cells #[.int .u8 65] 5 (0, 0)), (g1, .cells #[rangeV g2 g3, rangeV g2 g3, rangeV g2 g3, catV, rangeV g4 g5, rangeV g4 g5, rangeV g4 g5, rangeV g4 g5, rangeV g4 g5, rangeV g4 g5, rangeV g4 g5] 98 (0, 0))] rfl rfl (st_row (off := 0) (v := .agg #[rangeV g2 g3, rangeV g2 g3, rangeV g2 g3, catV, rangeV g4 g5, rangeV g4 g5, rangeV g4 g5, rangeV g4 g5, rangeV g4 g5, rangeV g4 g5, rangeV g4 g5]) rfl Tw.kr Tw.kr Tw.m4 Bg1 Tw.kr (by simp [Value.cells]) (by intro v hv; simp [Value.cells] at hv; first | (subst hv; rfl) | (rcases hv with rfl | rfl | rfl | rfl | rfl | rfl | rfl | rfl | rfl | rfl | rfl <;> rfl)) Tw.kr (List.forall_mem_cons.2 ⟨.inr ⟨Tw.m0, (Ne.symm (Fg5 _ Tw.m2))⟩, (List.forall_mem_cons.2 ⟨.inr ⟨Tw.m1, (Ne.symm (Fg4 _ Tw.m2))⟩, (List.forall_mem_cons.2 ⟨.inr ⟨Tw.m2, (Ne.symm (Fg3 _ Tw.m0))⟩, (List.forall_mem_cons.2 ⟨.inr ⟨Tw.m3, (Ne.symm (Fg2 _ Tw.m0))⟩, (List.forall_mem_cons.2 ⟨.inl rfl, (List.forall_mem_nil _)⟩)⟩)⟩)⟩)⟩)) ?_
 refine wpL_done (fun W5 hW5 => ?_)
 change Code.wp ..
 refine wp_ret ?_
 try simp only [inBlock_ret, then_ret]
 refine bodyPost_ret (v := .agg #[rangeV g2 g3, rangeV g2 g3, rangeV g2 g3, catV, rangeV g4 g5, rangeV g4 g5, rangeV g4 g5, rangeV g4 g5, rangeV g4 g5, rangeV g4 g5, rangeV g4 g5]) ?_ rfl ?_
 · exact (res_cell rfl rfl (hW5.2 _ Tw.m4) Tryd.underlying98 rfl Tw.kr)
 · exact ⟨g2, g3, g4, g5, rfl, Bg2, Bg3, Bg4, Bg5, List.forall_mem_cons.2 ⟨hW5.2 _ Tw.m0, List.forall_mem_cons.2 ⟨hW5.2 _ Tw.m1, List.forall_mem_cons.2 ⟨hW5.2 _ Tw.m2, List.forall_mem_cons.2 ⟨hW5.2 _ Tw.m3, List.forall_mem_nil _⟩⟩⟩⟩, hW5.1⟩
def GPl (W0 : Base) (K : List (Nat × Obj)) (v : Value) (K' : List (Nat × Obj)) : Prop := ∃ a b c d, v = .agg (placesV a b c d) ∧ W0.B ≤ a ∧ W0.B ≤ b ∧ W0.B ≤ c ∧ W0.B ≤ d ∧ (∀ p ∈ K, p.1 ≠ a) ∧ (∀ p ∈ K, p.1 ≠ b) ∧ (∀ p ∈ K, p.1 ≠ c) ∧ (∀ p ∈ K, p.1 ≠ d) ∧ K' = plK a b c d K
theorem calls_pl {W0 : Base} {W : World} {K : List (Nat × Obj)} (hW : KS W0 K W) : Calls Tryd.prog 68 #[] W fun e w' => ∃ v K', e = .returned v ∧ KS W0 K' w' ∧ GPl W0 K v K' :=
 (places_any W).mono fun e w' ⟨a, b, c, d, he, ha, hb, hc, hd, h1, hbel⟩ => by
   have hK := hW.below hbel
   have hz := hW.size
   refine ⟨_, _, he, ⟨hK.1, ?_⟩, a, b, c, d, rfl, by omega, by omega, by omega, by omega, fun p hp e => ?_, fun p hp e => ?_, fun p hp e => ?_, fun p hp e => ?_, rfl⟩
   · intro p hp
     unfold plK at hp h1
     rcases List.mem_cons.1 hp with rfl | hp
     · exact h1 _ Tw.m0
     rcases List.mem_cons.1 hp with rfl | hp
     · exact h1 _ Tw.m1
     rcases List.mem_cons.1 hp with rfl | hp
     · exact h1 _ Tw.m2
     rcases List.mem_cons.1 hp with rfl | hp
     · exact h1 _ Tw.m3
     · exact hK.2 p hp
   all_goals (have := lt_of_block (hW.2 p hp); omega)
theorem yb_may {W0 : Base} {o : Oper} {a : Act} {K : List (Nat × Obj)} {x y : Operand} {tt : Array TypeId} {p q r s k : Nat} {b : UInt8} (ho : o.op = .call { callee := .value x, args := #[y], argTypes := tt }) (hx : a.eval x = placeAt p q r s k) (hy : a.eval y = .int .u8 ((b.toNat : Nat) : Int))
   (h1 : (p, .cells #[.int .u8 65] 5 (0, 0)) ∈ K) (h2 : (q, .cells #[.int .u8 90] 5 (0, 0)) ∈ K) (h3 : (r, .cells #[.int .u8 48] 5 (0, 0)) ∈ K) (h4 : (s, .cells #[.int .u8 57] 5 (0, 0)) ∈ K) :
   ∀ w, KS W0 K w → ∀ K' : Act → World → Prop, (∀ w', Below w.heap.size w w' → K' (a.put o.dst (.bool (mayB k b))) w') → Oper.wp Tryd.prog o a w K' (fun _ _ _ => False) := by
 have cell : ∀ (w : World), KS W0 K w → ∀ (g : Nat) (v : Value), (g, .cells #[v] 5 (0, 0)) ∈ K → w.cell? ⟨g, 0, none⟩ = some v := fun w hw g v hm => by rw [cell_of_row w g 0 _ _ (0, 0) (hw.2 _ hm)]; rfl
 unfold placeAt at hx
 split at hx
 · rename_i hk
   rw [show mayB k b = (decide (65 ≤ b.toNat) && decide (b.toNat ≤ 90)) from by unfold mayB; rw [if_pos hk]; rfl]
   exact yb_call (fun w => run_callv ho hx hy (fun _ _ => by kernel_rfl) w) fun w hw => between_in b 65 90 p q w (cell w hw _ _ h1) (cell w hw _ _ h2)
 · split at hx
   · rename_i hk hk2
     rw [show mayB k b = isCat b from by unfold mayB; rw [if_neg hk, if_pos hk2]]
     exact yb_call (fun w => run_callv ho hx hy (fun _ _ => by kernel_rfl) w) fun w hw => cat_any b w
   · rename_i hk hk2
     rw [show mayB k b = (decide (48 ≤ b.toNat) && decide (b.toNat ≤ 57)) from by unfold mayB; rw [if_neg hk, if_neg hk2]; rfl]
     exact yb_call (fun w => run_callv ho hx hy (fun _ _ => by kernel_rfl) w) fun w hw => between_in b 48 57 r s w (cell w hw _ _ h3) (cell w hw _ _ h4)
end Go.Proofs.YtllmpemmknblaaaDoor
namespace Go.Proofs.YtllmpemmknblaaaDoor
open Go Go.RowKit Tw
set_option maxRecDepth 100000 in
set_option maxHeartbeats 4000000 in
theorem fits_any (l : List UInt8) (n : Nat) (hn : n ≤ 11) (w : World) : Calls Tryd.prog 51 #[strV l, .int .i64 ((n : Nat) : Int)] w fun e w' => e = .returned (.bool (fitB l n)) ∧ Below w.heap.size w w' := by
 go_enter Tryd.func51, Tryd.ntmps51
 refine wp_seq ?_
 refine wp_region_L [] (KS.start w) ?_
 refine lm (v := .bool false) rfl rfl ?_
 refine wpL_done (fun W1 hW1 => ?_)
 change Code.wp ..
 refine wp_seq ?_
 refine wp_seq ?_
 refine wp_region_L _ hW1 ?_
 refine lm (v := strV l) rfl rfl ?_
 refine lp (v := .int .i64 ((l.length : Nat) : Int)) rfl rfl (run_lenS (l := l) rfl Tryd.underlying9 Tw.kr) ?_
 refine lm (v := .int .i64 ((n : Nat) : Int)) rfl rfl ?_
 refine lp (v := .bool (!(decide (l.length = n)))) rfl rfl (run_bin rfl (vx := (.int .i64 ((l.length : Nat) : Int))) (vy := (.int .i64 ((n : Nat) : Int))) Tw.kr Tw.kr fun w => bn_neq rfl w) ?_
 refine wpL_done (fun W2 hW2 => ?_)
 change Code.wp ..
 cases hd1 : (decide (l.length = n)) with
 | false =>
   have h1 : ¬ (l.length = n) := of_decide_eq_false hd1
   clear hd1
   refine wp_cond_true rfl ?_
   refine wp_seq ?_
   refine wp_region_L _ hW2 ?_
   refine lm (v := .bool false) rfl rfl ?_
   refine wpL_done (fun W3 hW3 => ?_)
   change Code.wp ..
   refine wp_ret ?_
   try simp only [inBlock_ret, then_ret]
   refine bodyPost_ret (v := .bool false) ?_ rfl ?_
   · kernel_rfl
   · exact ⟨(bool_is (by unfold fitB; simp [*])), hW3.1⟩
 | true =>
   have h1 : l.length = n := of_decide_eq_true hd1
   clear hd1
   refine wp_cond_false rfl ?_
   refine wp_skip ?_
   change Code.wp ..
   refine wp_seq ?_
   refine wp_region_L _ hW2 ?_
   refine wpL_c (f := 68) (args := #[]) (GPl w []) rfl Tw.kr Tw.kf (fun W hW => calls_pl hW) Tw.pf ?_
   rintro v K9 ⟨g1, g2, g3, g4, rfl, Bg1, Bg2, Bg3, Bg4, Fg1, Fg2, Fg3, Fg4, rfl⟩
   unfold plK
   refine wpL_new (fun g => .pointer (some ⟨g, 0, none⟩)) (obi := .cells #[.nilFunc, .nilFunc, .nilFunc, .nilFunc, .nilFunc, .nilFunc, .nilFunc, .nilFunc, .nilFunc, .nilFunc, .nilFunc] 98 (0, 0)) rfl rfl Tw.kf Tw.pf fun g5 Bg5 Fg5 => ?_
   refine wpL_s [(g5, .cells (placesV g1 g2 g3 g4) 98 (0, 0)), (g4, .cells #[.int .u8 57] 5 (0, 0)), (g3, .cells #[.int .u8 48] 5 (0, 0)), (g2, .cells #[.int .u8 90] 5 (0, 0)), (g1, .cells #[.int .u8 65] 5 (0, 0))] rfl rfl (st_row (off := 0) (v := .agg (placesV g1 g2 g3 g4)) rfl Tw.kr Tw.kr Tw.m0 Bg5 Tw.kr (by simp [Value.cells, placesV]) (by intro v hv; simp [Value.cells, placesV] at hv; rcases hv with rfl | rfl | rfl | rfl | rfl | rfl | rfl | rfl | rfl | rfl | rfl <;> rfl) Tw.kr (List.forall_mem_cons.2 ⟨.inl rfl, (List.forall_mem_cons.2 ⟨.inr ⟨Tw.m1, (Fg5 _ Tw.m0)⟩, (List.forall_mem_cons.2 ⟨.inr ⟨Tw.m2, (Fg5 _ Tw.m1)⟩, (List.forall_mem_cons.2 ⟨.inr ⟨Tw.m3, (Fg5 _ Tw.m2)⟩, (List.forall_mem_cons.2 ⟨.inr ⟨Tw.m4, (Fg5 _ Tw.m3)⟩, (List.forall_mem_nil _)⟩)⟩)⟩)⟩)⟩)) ?_
   refine wpL_done (fun W4 hW4 => ?_)
   change Code.wp ..
   refine wp_seq ?_
   refine wp_seq ?_
   refine wp_region_L _ hW4 ?_
   refine lm (v := .int .i64 ((n : Nat) : Int)) rfl rfl ?_
   refine lm (v := .int .i64 0) rfl rfl ?_
   refine wpL_done (fun W5 hW5 => ?_)
   change Code.wp ..
   refine wp_block ?_
   go_loopw [13] (fun u13 wr => ∃ (k : Nat), (k ≤ n) ∧ (fitF 0 l = fitF k (l.drop k)) ∧ u13 = .int .i64 ((k : Nat) : Int) ∧ KS w [(g5, .cells (placesV g1 g2 g3 g4) 98 (0, 0)), (g4, .cells #[.int .u8 57] 5 (0, 0)), (g3, .cells #[.int .u8 48] 5 (0, 0)), (g2, .cells #[.int .u8 90] 5 (0, 0)), (g1, .cells #[.int .u8 65] 5 (0, 0))] wr) (fun u13 _ => n - (intOf u13).toNat)
   case atStart => exact ⟨0, (Nat.zero_le _), rfl, rfl, hW5⟩
   case round =>
     obtain ⟨k, hk, hf, rfl, hL6⟩ := hrel
     refine wp_seq ?_
     refine wp_region_L _ hL6 ?_
     refine lp (v := .bool (decide (k < n))) rfl rfl (run_bin rfl (vx := (.int .i64 ((k : Nat) : Int))) (vy := (.int .i64 ((n : Nat) : Int))) Tw.kr Tw.kr fun w => bn_lss rfl w) ?_
     refine wpL_done (fun W7 hW7 => ?_)
     change Code.wp ..
     refine wp_seq ?_
     cases hd2 : (decide (k < n)) with
     | false =>
       have h2 : ¬ (k < n) := of_decide_eq_false hd2
       clear hd2
       have hff : fitF 0 l = true := by rw [hf, List.drop_eq_nil_of_le Tw.om]; rfl
       refine wp_cond_false rfl ?_
       refine wp_exit ?_
       change Code.wp ..
       refine wp_seq ?_
       refine wp_region_L _ hW7 ?_
       refine lm (v := .bool true) rfl rfl ?_
       refine wpL_done (fun W8 hW8 => ?_)
       change Code.wp ..
       refine wp_ret ?_
       try simp only [inBlock_ret, then_ret]
       refine bodyPost_ret (v := .bool true) ?_ rfl ?_
       · kernel_rfl
       · exact ⟨(bool_is (by unfold fitB; rw [hff]; simp [*])), hW8.1⟩
     | true =>
       have h2 : k < n := of_decide_eq_true hd2
       clear hd2
       refine wp_cond_true rfl ?_
       refine wp_skip ?_
       change Code.wp ..
       refine wp_seq ?_
       refine wp_block ?_
       refine wp_seq ?_
       refine wp_region_L _ hW7 ?_
       refine lm (v := .int .i64 ((k : Nat) : Int)) rfl rfl ?_
       refine lm (v := .int .i64 ((k : Nat) : Int)) rfl rfl ?_
       refine wpL_done (fun W9 hW9 => ?_)
       change Code.wp ..
       refine wp_seq ?_
       refine wp_region_V _ Tw.kr hW9 ?_
       refine vm (i := 0) (v := .int .i64 ((k : Nat) : Int)) rfl rfl rfl ?_
       refine vp (i := 1) (v := .pointer (some ⟨g5, 0 + k * 1, none⟩)) rfl rfl rfl (run_idxA (j := .i64) (b := g5) (off := 0) (k := k) (sz := 1) rfl Tryd.underlying98 Tw.kr Tw.kr Tw.kr Tw.om) ?_
       refine vv (i := 2) (v := placeAt g1 g2 g3 g4 k) rfl rfl rfl (yb_cell rfl Tw.kr Tw.m0 Tryd.underlying97 rfl (places_get Tw.om)) ?_
       refine vm (i := 3) (v := strV l) rfl rfl rfl ?_
       refine vm (i := 4) (v := .int .i64 ((k : Nat) : Int)) rfl rfl rfl ?_
       obtain ⟨b6, hb6⟩ : ∃ b, l[k]? = some b := ⟨_, List.getElem?_eq_getElem Tw.om⟩
       have lb6 := b6.toNat_lt
       refine vp (i := 5) (v := .int .u8 ((b6.toNat : Nat) : Int)) rfl rfl rfl (run_idxS (j := .i64) (l := l) (k := k) (b := b6) rfl Tryd.underlying9 Tw.kr Tw.kr hb6) ?_
       refine vv (i := 6) (v := .bool (mayB k b6)) rfl rfl rfl (yb_may (k := k) (b := b6) rfl Tw.kr Tw.kr Tw.m4 Tw.m3 Tw.m2 Tw.m1) ?_
       refine vp (i := 7) (v := .bool (!(mayB k b6))) rfl rfl rfl (run_un rfl Tw.kr fun w => un_not w) ?_
       refine wpV_done Tw.kr (fun W10 hW10 => ?_) _
       change Code.wp ..
       cases h3 : (mayB k b6) with
       | false =>
         have hff : fitF 0 l = false := by rw [hf, fitF_drop hb6, h3]; rfl
         refine wp_cond_true rfl ?_
         refine wp_seq ?_
         refine wp_region_L _ hW10 ?_
         refine lm (v := .bool false) rfl rfl ?_
         refine wpL_done (fun W11 hW11 => ?_)
         change Code.wp ..
         refine wp_ret ?_
         try simp only [inBlock_ret, then_ret]
         refine bodyPost_ret (v := .bool false) ?_ rfl ?_
         · kernel_rfl
         · exact ⟨(bool_is (by unfold fitB; rw [hff]; simp [*])), hW11.1⟩
       | true =>
         refine wp_cond_false rfl ?_
         refine wp_skip ?_
         change Code.wp ..
         refine wp_region_L _ hW10 ?_
         refine lp (v := .int .i64 (((k + 1) : Nat) : Int)) rfl rfl (run_bin rfl (vx := (.int .i64 ((k : Nat) : Int))) (vy := (.int .i64 ((1 : Nat) : Int))) Tw.kr Tw.kr fun w => bn_add (z := (k + 1)) rfl (wr_i64 Tw.om) w) ?_
         refine lm (v := .int .i64 (((k + 1) : Nat) : Int)) rfl rfl ?_
         refine wpL_done (fun W12 hW12 => ?_)
         go_roundw
         case rel =>
           repeat apply Exists.intro
           exact ⟨⟨k + 1, Tw.om, (by rw [hf, fitF_drop hb6, h3]; rfl), rfl, hW12⟩, rfl⟩
         case measure => (show n - (intOf (.int .i64 (((k + 1) : Nat) : Int))).toNat < n - (intOf (.int .i64 ((k : Nat) : Int))).toNat); simp only [intOf]; omega
set_option maxRecDepth 100000 in
set_option maxHeartbeats 4000000 in
theorem agrees_any (l : List UInt8) (hl : l.length = 11) (w : World) : Calls Tryd.prog 77 #[strV l] w fun e w' => e = .returned (.bool (agrB l)) ∧ Below w.heap.size w w' := by
 go_enter Tryd.func77, Tryd.ntmps77
 refine wp_seq ?_
 refine wp_region_L [] (KS.start w) ?_
 refine lm (v := .bool false) rfl rfl ?_
 refine wpL_done (fun W1 hW1 => ?_)
 change Code.wp ..
 refine wp_seq ?_
 refine wp_region_V _ Tw.kr hW1 ?_
 refine vm (i := 0) (v := strV l) rfl rfl rfl ?_
 refine vp (i := 1) (v := strV (l.take 10)) rfl rfl rfl (run_slH (k2 := .i64) (l := l) (r := (l.take 10)) (j := 10) rfl Tryd.underlying9 Tw.kr Tw.kr (by first | omega | (simp; omega)) rfl) ?_
 refine vv (i := 2) (v := .int .u8 (((chkN (l.take 10)) : Nat) : Int)) rfl rfl rfl (yb_call (f := 52) (args := #[strV (l.take 10)]) Tw.kf fun W hW => checkDigit_any (l.take 10) (by simp; omega) W) ?_
 refine vm (i := 3) (v := strV l) rfl rfl rfl ?_
 obtain ⟨b1, hb1⟩ : ∃ b, l[10]? = some b := ⟨_, List.getElem?_eq_getElem Tw.om⟩
 have lb1 := b1.toNat_lt
 refine vp (i := 4) (v := .int .u8 ((b1.toNat : Nat) : Int)) rfl rfl rfl (run_idxS (j := .i64) (l := l) (k := 10) (b := b1) rfl Tryd.underlying9 Tw.kr Tw.kr hb1) ?_
 refine vp (i := 5) (v := .bool (decide ((chkN (l.take 10)) = b1.toNat))) rfl rfl rfl (run_bin rfl (vx := (.int .u8 (((chkN (l.take 10)) : Nat) : Int))) (vy := (.int .u8 ((b1.toNat : Nat) : Int))) Tw.kr Tw.kr fun w => bn_eql rfl w) ?_
 refine vm (i := 6) (v := .bool (decide ((chkN (l.take 10)) = b1.toNat))) rfl rfl rfl ?_
 refine wpV_done Tw.kr (fun W2 hW2 => ?_) _
 change Code.wp ..
 refine wp_ret ?_
 try simp only [inBlock_ret, then_ret]
 refine bodyPost_ret (v := .bool (decide ((chkN (l.take 10)) = b1.toNat))) ?_ rfl ?_
 · kernel_rfl
 · exact ⟨(bool_is (by unfold agrB; rw [show l.getD 10 0 = b1 from by rw [List.getD_eq_getElem?_getD, hb1]; rfl])), hW2.1⟩
set_option maxRecDepth 100000 in
set_option maxHeartbeats 4000000 in
theorem judge_any (l : List UInt8) (w : World) : Calls Tryd.prog 70 #[strV l] w fun e w' => e = .returned (.int .i64 (((judgeN l) : Nat) : Int)) ∧ Below w.heap.size w w' := by
 go_enter Tryd.func70, Tryd.ntmps70
 refine wp_seq ?_
 refine wp_region_L [] (KS.start w) ?_
 refine lm (v := .int .i64 0) rfl rfl ?_
 refine wpL_done (fun W1 hW1 => ?_)
 change Code.wp ..
 refine wp_seq ?_
 refine wp_seq ?_
 refine wp_region_L _ hW1 ?_
 refine lm (v := strV l) rfl rfl ?_
 refine lv (v := .bool (fitB l 11)) rfl rfl (yb_call (f := 51) (args := #[strV l, .int .i64 11]) Tw.kf fun W hW => fits_any l 11 Tw.om W) ?_
 refine lp (v := .bool (!(fitB l 11))) rfl rfl (run_un rfl Tw.kr fun w => un_not w) ?_
 refine wpL_done (fun W2 hW2 => ?_)
 change Code.wp ..
 cases h1 : (fitB l 11) with
 | false =>
   refine wp_cond_true rfl ?_
   refine wp_seq ?_
   refine wp_region_L _ hW2 ?_
   refine lm (v := .int .i64 30) rfl rfl ?_
   refine wpL_done (fun W3 hW3 => ?_)
   change Code.wp ..
   refine wp_ret ?_
   try simp only [inBlock_ret, then_ret]
   refine bodyPost_ret (v := .int .i64 30) ?_ rfl ?_
   · kernel_rfl
   · exact ⟨(int_is (m := 30) (by unfold judgeN; simp [*])), hW3.1⟩
 | true =>
   have hlen := fit_len h1
   refine wp_cond_false rfl ?_
   refine wp_skip ?_
   change Code.wp ..
   refine wp_seq ?_
   refine wp_seq ?_
   refine wp_region_L _ hW2 ?_
   refine lm (v := strV l) rfl rfl ?_
   refine lv (v := .bool (agrB l)) rfl rfl (yb_call (f := 77) (args := #[strV l]) Tw.kf fun W hW => agrees_any l Tw.om W) ?_
   refine lp (v := .bool (!(agrB l))) rfl rfl (run_un rfl Tw.kr fun w => un_not w) ?_
   refine wpL_done (fun W4 hW4 => ?_)
   change Code.wp ..
   cases h2 : (agrB l) with
   | false =>
     refine wp_cond_true rfl ?_
     refine wp_seq ?_
     refine wp_region_L _ hW4 ?_
     refine lm (v := .int .i64 31) rfl rfl ?_
     refine wpL_done (fun W5 hW5 => ?_)
     change Code.wp ..
     refine wp_ret ?_
     try simp only [inBlock_ret, then_ret]
     refine bodyPost_ret (v := .int .i64 31) ?_ rfl ?_
     · kernel_rfl
     · exact ⟨(int_is (m := 31) (by unfold judgeN; simp [*])), hW5.1⟩
   | true =>
     refine wp_cond_false rfl ?_
     refine wp_skip ?_
     change Code.wp ..
     refine wp_seq ?_
     refine wp_region_L _ hW4 ?_
     refine lm (v := .int .i64 0) rfl rfl ?_
     refine wpL_done (fun W6 hW6 => ?_)
     change Code.wp ..
     refine wp_ret ?_
     try simp only [inBlock_ret, then_ret]
     refine bodyPost_ret (v := .int .i64 0) ?_ rfl ?_
     · kernel_rfl
     · exact ⟨(int_is (m := 0) (by unfold judgeN; simp [*])), hW6.1⟩
set_option maxRecDepth 100000 in
set_option maxHeartbeats 4000000 in
theorem Right_any (l : List UInt8) (w : World) : Calls Tryd.prog 57 #[strV l] w fun e w' => e = .returned (.bool (decide (judgeN l = 0))) ∧ Below w.heap.size w w' := by
 go_enter Tryd.func57, Tryd.ntmps57
 refine wp_seq ?_
 refine wp_region_L [] (KS.start w) ?_
 refine lm (v := .bool false) rfl rfl ?_
 refine wpL_done (fun W1 hW1 => ?_)
 change Code.wp ..
 refine wp_seq ?_
 refine wp_region_L _ hW1 ?_
 refine lm (v := strV l) rfl rfl ?_
 refine lv (v := .int .i64 (((judgeN l) : Nat) : Int)) rfl rfl (yb_call (f := 70) (args := #[strV l]) Tw.kf fun W hW => judge_any l W) ?_
 refine lp (v := .bool (decide ((judgeN l) = 0))) rfl rfl (run_bin rfl (vx := (.int .i64 (((judgeN l) : Nat) : Int))) (vy := (.int .i64 ((0 : Nat) : Int))) Tw.kr Tw.kr fun w => bn_eql rfl w) ?_
 refine lm (v := .bool (decide ((judgeN l) = 0))) rfl rfl ?_
 refine wpL_done (fun W2 hW2 => ?_)
 change Code.wp ..
 refine wp_ret ?_
 try simp only [inBlock_ret, then_ret]
 refine bodyPost_ret (v := .bool (decide ((judgeN l) = 0))) ?_ rfl ?_
 · kernel_rfl
 · exact ⟨rfl, hW2.1⟩
end Go.Proofs.YtllmpemmknblaaaDoor
namespace Go.Proofs.YtllmpemmknblaaaDoor
open Go Go.RowKit Tw
def kindsL : List Value := [strV [50, 50, 71, 49], .int .u8 20, .bool false, .bool false, strV [50, 50, 82, 49], .int .u8 20, .bool false, .bool true, strV [52, 50, 71, 49], .int .u8 40, .bool false, .bool false, strV [52, 50, 82, 49], .int .u8 40, .bool false, .bool true, strV [52, 53, 71, 49], .int .u8 40, .bool true, .bool false, strV [52, 53, 82, 49], .int .u8 40, .bool true, .bool true]
structure Env (w : World) : Prop where
 kinds : w.var? Tryd.prog "twistlock/iso.kinds" = some kindsL.toArray
theorem var_keep {P : Program} {w w' : World} {n : String} {cs : Array Value} (h : w.var? P n = some cs) (hb : Below w.heap.size w w') : w'.var? P n = some cs := by
 unfold World.var? at *
 cases hg : P.globalNamed n with
 | none => rw [hg] at h; cases h
 | some g =>
   rw [hg] at h
   simp only [Option.bind_some] at h ⊢
   cases hh : w.heap[g]? with
   | none => rw [hh] at h; cases h
   | some o => rw [hb.block g (lt_of_block hh)]; exact h
theorem Env.keep {w w' : World} (h : Env w) (hb : Below w.heap.size w w') : Env w' := ⟨var_keep h.kinds hb⟩
theorem gKinds : Tryd.prog.globalNamed "twistlock/iso.kinds" = some 0 := by kernel_rfl
theorem Env.cells {w : World} (h : Env w) : ∀ (j : Nat) (v : Value), kindsL[j]? = some v → w.cell? ⟨0, 0 + j, none⟩ = some v := fun j v hv => by
 rw [Nat.zero_add, World.var?_cell gKinds h.kinds j]
 simpa using hv
theorem Env.lt {w : World} (h : Env w) : 0 < w.heap.size := World.block_lt_of_cell? _ _ (h.cells 0 (strV [50, 50, 71, 49]) rfl)
def codeV (n : Nat) (h r : Bool) : Value := if 20 = n ∧ false = h ∧ false = r then .tuple #[strV [50, 50, 71, 49], .int .i64 0] else if 20 = n ∧ false = h ∧ true = r then .tuple #[strV [50, 50, 82, 49], .int .i64 0] else if 40 = n ∧ false = h ∧ false = r then .tuple #[strV [52, 50, 71, 49], .int .i64 0] else if 40 = n ∧ false = h ∧ true = r then .tuple #[strV [52, 50, 82, 49], .int .i64 0] else if 40 = n ∧ true = h ∧ false = r then .tuple #[strV [52, 53, 71, 49], .int .i64 0] else if 40 = n ∧ true = h ∧ true = r then .tuple #[strV [52, 53, 82, 49], .int .i64 0] else .tuple #[strV [], .int .i64 32]
theorem eq_kind {x y : Nat} {a b c d e : Bool} {px py : Operand} (h : decide (x = y ∧ a = c ∧ b = d) = e) (w : World) : (do eqGuard .eql 37 px py (.agg #[.int .u8 ((x : Nat) : Int), .bool a, .bool b]) (.agg #[.int .u8 ((y : Nat) : Int), .bool c, .bool d]); binOp .eql 37 (.agg #[.int .u8 ((x : Nat) : Int), .bool a, .bool b]) (.agg #[.int .u8 ((y : Nat) : Int), .bool c, .bool d]) : Sem Value).run Tryd.prog w = .ok (.bool e) w := by
 subst h
 go_simp
 have e1 : ((x : Int) = (y : Int)) = (x = y) := by apply propext; omega
 simp only [e1]
 by_cases h1 : x = y <;> by_cases h2 : a = c <;> by_cases h3 : b = d <;> simp [h1, h2, h3]
set_option maxRecDepth 100000 in
set_option maxHeartbeats 4000000 in
theorem Code_any (n : Nat) (h r : Bool) (w : World) (hE : Env w) : Calls Tryd.prog 43 #[.agg #[.int .u8 ((n : Nat) : Int), .bool h, .bool r]] w fun e w' => e = .returned (codeV n h r) ∧ Below w.heap.size w w' := by
 have HE := Lib.hid hE
 clear hE
 go_enter Tryd.func43, Tryd.ntmps43
 refine wp_seq ?_
 refine wp_region_L [] (KS.start w) ?_
 refine wpL_new (fun g => .pointer (some ⟨g, 0, none⟩)) (obi := .cells #[.int .u8 ((n : Nat) : Int), .bool h, .bool r] 37 (0, 0)) rfl rfl Tw.kf Tw.pf fun g1 Bg1 Fg1 => ?_
 refine lm (v := strV []) rfl rfl ?_
 refine lm (v := .int .i64 0) rfl rfl ?_
 refine wpL_done (fun W1 hW1 => ?_)
 change Code.wp ..
 refine wp_seq ?_
 refine wp_seq ?_
 refine wp_region_L _ hW1 ?_
 refine lv (v := .agg #[strV [50, 50, 71, 49], .int .u8 20, .bool false, .bool false, strV [50, 50, 82, 49], .int .u8 20, .bool false, .bool true, strV [52, 50, 71, 49], .int .u8 40, .bool false, .bool false, strV [52, 50, 82, 49], .int .u8 40, .bool false, .bool true, strV [52, 53, 71, 49], .int .u8 40, .bool true, .bool false, strV [52, 53, 82, 49], .int .u8 40, .bool true, .bool true]) rfl rfl (yb_olds (cs := kindsL) rfl Tw.kr HE.out.cells HE.out.lt Tryd.underlying78 rfl Tw.kr) ?_
 refine lm (v := .int .i64 0) rfl rfl ?_
 refine wpL_done (fun W2 hW2 => ?_)
 change Code.wp ..
 refine wp_block ?_
 refine wp_loop_rounds 7 ?_
 change Code.wp ..
 refine wp_seq ?_
 refine wp_region_L _ hW2 ?_
 refine lm (v := .bool true) rfl rfl ?_
 refine wpL_done (fun W3 hW3 => ?_)
 change Code.wp ..
 refine wp_seq ?_
 refine wp_cond_true rfl ?_
 refine wp_skip ?_
 change Code.wp ..
 refine wp_seq ?_
 refine wp_block ?_
 refine wp_seq ?_
 refine wp_region_L _ hW3 ?_
 refine lm (v := .agg #[strV [50, 50, 71, 49], .int .u8 20, .bool false, .bool false]) rfl rfl ?_
 refine wpL_new (fun g => .pointer (some ⟨g, 0, none⟩)) (obi := .cells #[strV [], .int .u8 0, .bool false, .bool false] 77 (0, 0)) rfl rfl Tw.kf Tw.pf fun g2 Bg2 Fg2 => ?_
 refine wpL_s [(g2, .cells #[strV [50, 50, 71, 49], .int .u8 20, .bool false, .bool false] 77 (0, 0)), (g1, .cells #[.int .u8 ((n : Nat) : Int), .bool h, .bool r] 37 (0, 0))] rfl rfl (st_row (off := 0) (v := .agg #[strV [50, 50, 71, 49], .int .u8 20, .bool false, .bool false]) rfl Tw.kr Tw.kr Tw.m0 Bg2 Tw.kr (by simp [Value.cells]) (by intro v hv; simp [Value.cells] at hv; first | (subst hv; rfl) | (rcases hv with rfl | rfl | rfl | rfl <;> rfl)) Tw.kr (List.forall_mem_cons.2 ⟨.inl rfl, (List.forall_mem_cons.2 ⟨.inr ⟨Tw.m1, (Fg2 _ Tw.m0)⟩, (List.forall_mem_nil _)⟩)⟩)) ?_
 refine wpL_done (fun W4 hW4 => ?_)
 change Code.wp ..
 refine wp_seq ?_
 refine wp_region_L _ hW4 ?_
 refine lm (v := .pointer (some ⟨g2, 1, none⟩)) rfl rfl ?_
 refine lv (v := .agg #[.int .u8 20, .bool false, .bool false]) rfl rfl (yb_load (n := 3) (off := 1) rfl Tw.kr Tw.m0 Tryd.underlying37 rfl Tw.kr (by simp) Tw.kr) ?_
 refine lv (v := .agg #[.int .u8 ((n : Nat) : Int), .bool h, .bool r]) rfl rfl (yb_load (n := 3) (off := 0) rfl Tw.kr Tw.m1 Tryd.underlying37 rfl Tw.kr (by simp) Tw.kr) ?_
 refine lp (v := .bool (decide (20 = n ∧ false = h ∧ false = r))) rfl rfl (run_bin rfl (vx := .agg #[.int .u8 ((20 : Nat) : Int), .bool false, .bool false]) (vy := .agg #[.int .u8 ((n : Nat) : Int), .bool h, .bool r]) Tw.kr Tw.kr fun w => eq_kind rfl w) ?_
 refine wpL_done (fun W5 hW5 => ?_)
 change Code.wp ..
 cases hd1 : (decide (20 = n ∧ false = h ∧ false = r)) with
 | false =>
   have h1 : ¬ (20 = n ∧ false = h ∧ false = r) := of_decide_eq_false hd1
   clear hd1
   refine wp_cond_false rfl ?_
   refine wp_skip ?_
   change Code.wp ..
   refine wp_region_L _ hW5 ?_
   refine lm (v := .int .i64 1) rfl rfl ?_
   refine lm (v := .int .i64 1) rfl rfl ?_
   refine wpL_done (fun W6 hW6 => ?_)
   change Code.wp ..
   refine wp_seq ?_
   refine wp_region_L _ hW6 ?_
   refine lm (v := .bool true) rfl rfl ?_
   refine wpL_done (fun W7 hW7 => ?_)
   change Code.wp ..
   refine wp_seq ?_
   refine wp_cond_true rfl ?_
   refine wp_skip ?_
   change Code.wp ..
   refine wp_seq ?_
   refine wp_block ?_
   refine wp_seq ?_
   refine wp_region_L _ hW7 ?_
   refine lm (v := .agg #[strV [50, 50, 82, 49], .int .u8 20, .bool false, .bool true]) rfl rfl ?_
   refine wpL_new (fun g => .pointer (some ⟨g, 0, none⟩)) (obi := .cells #[strV [], .int .u8 0, .bool false, .bool false] 77 (0, 0)) rfl rfl Tw.kf Tw.pf fun g3 Bg3 Fg3 => ?_
   refine wpL_s [(g3, .cells #[strV [50, 50, 82, 49], .int .u8 20, .bool false, .bool true] 77 (0, 0)), (g2, .cells #[strV [50, 50, 71, 49], .int .u8 20, .bool false, .bool false] 77 (0, 0)), (g1, .cells #[.int .u8 ((n : Nat) : Int), .bool h, .bool r] 37 (0, 0))] rfl rfl (st_row (off := 0) (v := .agg #[strV [50, 50, 82, 49], .int .u8 20, .bool false, .bool true]) rfl Tw.kr Tw.kr Tw.m0 Bg3 Tw.kr (by simp [Value.cells]) (by intro v hv; simp [Value.cells] at hv; first | (subst hv; rfl) | (rcases hv with rfl | rfl | rfl | rfl <;> rfl)) Tw.kr (List.forall_mem_cons.2 ⟨.inl rfl, (List.forall_mem_cons.2 ⟨.inr ⟨Tw.m1, (Fg3 _ Tw.m0)⟩, (List.forall_mem_cons.2 ⟨.inr ⟨Tw.m2, (Fg3 _ Tw.m1)⟩, (List.forall_mem_nil _)⟩)⟩)⟩)) ?_
   refine wpL_done (fun W8 hW8 => ?_)
   change Code.wp ..
   refine wp_seq ?_
   refine wp_region_L _ hW8 ?_
   refine lm (v := .pointer (some ⟨g3, 1, none⟩)) rfl rfl ?_
   refine lv (v := .agg #[.int .u8 20, .bool false, .bool true]) rfl rfl (yb_load (n := 3) (off := 1) rfl Tw.kr Tw.m0 Tryd.underlying37 rfl Tw.kr (by simp) Tw.kr) ?_
   refine lv (v := .agg #[.int .u8 ((n : Nat) : Int), .bool h, .bool r]) rfl rfl (yb_load (n := 3) (off := 0) rfl Tw.kr Tw.m2 Tryd.underlying37 rfl Tw.kr (by simp) Tw.kr) ?_
   refine lp (v := .bool (decide (20 = n ∧ false = h ∧ true = r))) rfl rfl (run_bin rfl (vx := .agg #[.int .u8 ((20 : Nat) : Int), .bool false, .bool true]) (vy := .agg #[.int .u8 ((n : Nat) : Int), .bool h, .bool r]) Tw.kr Tw.kr fun w => eq_kind rfl w) ?_
   refine wpL_done (fun W9 hW9 => ?_)
   change Code.wp ..
   cases hd2 : (decide (20 = n ∧ false = h ∧ true = r)) with
   | false =>
     have h2 : ¬ (20 = n ∧ false = h ∧ true = r) := of_decide_eq_false hd2
     clear hd2
     refine wp_cond_false rfl ?_
     refine wp_skip ?_
     change Code.wp ..
     refine wp_region_L _ hW9 ?_
     refine lm (v := .int .i64 2) rfl rfl ?_
     refine lm (v := .int .i64 2) rfl rfl ?_
     refine wpL_done (fun W10 hW10 => ?_)
     change Code.wp ..
     refine wp_seq ?_
     refine wp_region_L _ hW10 ?_
     refine lm (v := .bool true) rfl rfl ?_
     refine wpL_done (fun W11 hW11 => ?_)
     change Code.wp ..
     refine wp_seq ?_
     refine wp_cond_true rfl ?_
     refine wp_skip ?_
     change Code.wp ..
     refine wp_seq ?_
     refine wp_block ?_
     refine wp_seq ?_
     refine wp_region_L _ hW11 ?_
     refine lm (v := .agg #[strV [52, 50, 71, 49], .int .u8 40, .bool false, .bool false]) rfl rfl ?_
     refine wpL_new (fun g => .pointer (some ⟨g, 0, none⟩)) (obi := .cells #[strV [], .int .u8 0, .bool false, .bool false] 77 (0, 0)) rfl rfl Tw.kf Tw.pf fun g4 Bg4 Fg4 => ?_
     refine wpL_s [(g4, .cells #[strV [52, 50, 71, 49], .int .u8 40, .bool false, .bool false] 77 (0, 0)), (g3, .cells #[strV [50, 50, 82, 49], .int .u8 20, .bool false, .bool true] 77 (0, 0)), (g2, .cells #[strV [50, 50, 71, 49], .int .u8 20, .bool false, .bool false] 77 (0, 0)), (g1, .cells #[.int .u8 ((n : Nat) : Int), .bool h, .bool r] 37 (0, 0))] rfl rfl (st_row (off := 0) (v := .agg #[strV [52, 50, 71, 49], .int .u8 40, .bool false, .bool false]) rfl Tw.kr Tw.kr Tw.m0 Bg4 Tw.kr (by simp [Value.cells]) (by intro v hv; simp [Value.cells] at hv; first | (subst hv; rfl) | (rcases hv with rfl | rfl | rfl | rfl <;> rfl)) Tw.kr (List.forall_mem_cons.2 ⟨.inl rfl, (List.forall_mem_cons.2 ⟨.inr ⟨Tw.m1, (Fg4 _ Tw.m0)⟩, (List.forall_mem_cons.2 ⟨.inr ⟨Tw.m2, (Fg4 _ Tw.m1)⟩, (List.forall_mem_cons.2 ⟨.inr ⟨Tw.m3, (Fg4 _ Tw.m2)⟩, (List.forall_mem_nil _)⟩)⟩)⟩)⟩)) ?_
     refine wpL_done (fun W12 hW12 => ?_)
     change Code.wp ..
     refine wp_seq ?_
     refine wp_region_L _ hW12 ?_
     refine lm (v := .pointer (some ⟨g4, 1, none⟩)) rfl rfl ?_
     refine lv (v := .agg #[.int .u8 40, .bool false, .bool false]) rfl rfl (yb_load (n := 3) (off := 1) rfl Tw.kr Tw.m0 Tryd.underlying37 rfl Tw.kr (by simp) Tw.kr) ?_
     refine lv (v := .agg #[.int .u8 ((n : Nat) : Int), .bool h, .bool r]) rfl rfl (yb_load (n := 3) (off := 0) rfl Tw.kr Tw.m3 Tryd.underlying37 rfl Tw.kr (by simp) Tw.kr) ?_
     refine lp (v := .bool (decide (40 = n ∧ false = h ∧ false = r))) rfl rfl (run_bin rfl (vx := .agg #[.int .u8 ((40 : Nat) : Int), .bool false, .bool false]) (vy := .agg #[.int .u8 ((n : Nat) : Int), .bool h, .bool r]) Tw.kr Tw.kr fun w => eq_kind rfl w) ?_
     refine wpL_done (fun W13 hW13 => ?_)
     change Code.wp ..
     cases hd3 : (decide (40 = n ∧ false = h ∧ false = r)) with
     | false =>
       have h3 : ¬ (40 = n ∧ false = h ∧ false = r) := of_decide_eq_false hd3
       clear hd3
       refine wp_cond_false rfl ?_
       refine wp_skip ?_
       change Code.wp ..
       refine wp_region_L _ hW13 ?_
       refine lm (v := .int .i64 3) rfl rfl ?_
       refine lm (v := .int .i64 3) rfl rfl ?_
       refine wpL_done (fun W14 hW14 => ?_)
       change Code.wp ..
       refine wp_seq ?_
       refine wp_region_L _ hW14 ?_
       refine lm (v := .bool true) rfl rfl ?_
       refine wpL_done (fun W15 hW15 => ?_)
       change Code.wp ..
       refine wp_seq ?_
       refine wp_cond_true rfl ?_
       refine wp_skip ?_
       change Code.wp ..
       refine wp_seq ?_
       refine wp_block ?_
       refine wp_seq ?_
       refine wp_region_L _ hW15 ?_
       refine lm (v := .agg #[strV [52, 50, 82, 49], .int .u8 40, .bool false, .bool true]) rfl rfl ?_
       refine wpL_new (fun g => .pointer (some ⟨g, 0, none⟩)) (obi := .cells #[strV [], .int .u8 0, .bool false, .bool false] 77 (0, 0)) rfl rfl Tw.kf Tw.pf fun g5 Bg5 Fg5 => ?_
       refine wpL_s [(g5, .cells #[strV [52, 50, 82, 49], .int .u8 40, .bool false, .bool true] 77 (0, 0)), (g4, .cells #[strV [52, 50, 71, 49], .int .u8 40, .bool false, .bool false] 77 (0, 0)), (g3, .cells #[strV [50, 50, 82, 49], .int .u8 20, .bool false, .bool true] 77 (0, 0)), (g2, .cells #[strV [50, 50, 71, 49], .int .u8 20, .bool false, .bool false] 77 (0, 0)), (g1, .cells #[.int .u8 ((n : Nat) : Int), .bool h, .bool r] 37 (0, 0))] rfl rfl (st_row (off := 0) (v := .agg #[strV [52, 50, 82, 49], .int .u8 40, .bool false, .bool true]) rfl Tw.kr Tw.kr Tw.m0 Bg5 Tw.kr (by simp [Value.cells]) (by intro v hv; simp [Value.cells] at hv; first | (subst hv; rfl) | (rcases hv with rfl | rfl | rfl | rfl <;> rfl)) Tw.kr (List.forall_mem_cons.2 ⟨.inl rfl, (List.forall_mem_cons.2 ⟨.inr ⟨Tw.m1, (Fg5 _ Tw.m0)⟩, (List.forall_mem_cons.2 ⟨.inr ⟨Tw.m2, (Fg5 _ Tw.m1)⟩, (List.forall_mem_cons.2 ⟨.inr ⟨Tw.m3, (Fg5 _ Tw.m2)⟩, (List.forall_mem_cons.2 ⟨.inr ⟨Tw.m4, (Fg5 _ Tw.m3)⟩, (List.forall_mem_nil _)⟩)⟩)⟩)⟩)⟩)) ?_
       refine wpL_done (fun W16 hW16 => ?_)
       change Code.wp ..
       refine wp_seq ?_
       refine wp_region_L _ hW16 ?_
       refine lm (v := .pointer (some ⟨g5, 1, none⟩)) rfl rfl ?_
       refine lv (v := .agg #[.int .u8 40, .bool false, .bool true]) rfl rfl (yb_load (n := 3) (off := 1) rfl Tw.kr Tw.m0 Tryd.underlying37 rfl Tw.kr (by simp) Tw.kr) ?_
       refine lv (v := .agg #[.int .u8 ((n : Nat) : Int), .bool h, .bool r]) rfl rfl (yb_load (n := 3) (off := 0) rfl Tw.kr Tw.m4 Tryd.underlying37 rfl Tw.kr (by simp) Tw.kr) ?_
       refine lp (v := .bool (decide (40 = n ∧ false = h ∧ true = r))) rfl rfl (run_bin rfl (vx := .agg #[.int .u8 ((40 : Nat) : Int), .bool false, .bool true]) (vy := .agg #[.int .u8 ((n : Nat) : Int), .bool h, .bool r]) Tw.kr Tw.kr fun w => eq_kind rfl w) ?_
       refine wpL_done (fun W17 hW17 => ?_)
       change Code.wp ..
       cases hd4 : (decide (40 = n ∧ false = h ∧ true = r)) with
       | false =>
         have h4 : ¬ (40 = n ∧ false = h ∧ true = r) := of_decide_eq_false hd4
         clear hd4
         refine wp_cond_false rfl ?_
         refine wp_skip ?_
         change Code.wp ..
         refine wp_region_L _ hW17 ?_
         refine lm (v := .int .i64 4) rfl rfl ?_
         refine lm (v := .int .i64 4) rfl rfl ?_
         refine wpL_done (fun W18 hW18 => ?_)
         change Code.wp ..
         refine wp_seq ?_
         refine wp_region_L _ hW18 ?_
         refine lm (v := .bool true) rfl rfl ?_
         refine wpL_done (fun W19 hW19 => ?_)
         change Code.wp ..
         refine wp_seq ?_
         refine wp_cond_true rfl ?_
         refine wp_skip ?_
         change Code.wp ..
         refine wp_seq ?_
         refine wp_block ?_
         refine wp_seq ?_
         refine wp_region_L _ hW19 ?_
         refine lm (v := .agg #[strV [52, 53, 71, 49], .int .u8 40, .bool true, .bool false]) rfl rfl ?_
         refine wpL_new (fun g => .pointer (some ⟨g, 0, none⟩)) (obi := .cells #[strV [], .int .u8 0, .bool false, .bool false] 77 (0, 0)) rfl rfl Tw.kf Tw.pf fun g6 Bg6 Fg6 => ?_
         refine wpL_s [(g6, .cells #[strV [52, 53, 71, 49], .int .u8 40, .bool true, .bool false] 77 (0, 0)), (g5, .cells #[strV [52, 50, 82, 49], .int .u8 40, .bool false, .bool true] 77 (0, 0)), (g4, .cells #[strV [52, 50, 71, 49], .int .u8 40, .bool false, .bool false] 77 (0, 0)), (g3, .cells #[strV [50, 50, 82, 49], .int .u8 20, .bool false, .bool true] 77 (0, 0)), (g2, .cells #[strV [50, 50, 71, 49], .int .u8 20, .bool false, .bool false] 77 (0, 0)), (g1, .cells #[.int .u8 ((n : Nat) : Int), .bool h, .bool r] 37 (0, 0))] rfl rfl (st_row (off := 0) (v := .agg #[strV [52, 53, 71, 49], .int .u8 40, .bool true, .bool false]) rfl Tw.kr Tw.kr Tw.m0 Bg6 Tw.kr (by simp [Value.cells]) (by intro v hv; simp [Value.cells] at hv; first | (subst hv; rfl) | (rcases hv with rfl | rfl | rfl | rfl <;> rfl)) Tw.kr (List.forall_mem_cons.2 ⟨.inl rfl, (List.forall_mem_cons.2 ⟨.inr ⟨Tw.m1, (Fg6 _ Tw.m0)⟩, (List.forall_mem_cons.2 ⟨.inr ⟨Tw.m2, (Fg6 _ Tw.m1)⟩, (List.forall_mem_cons.2 ⟨.inr ⟨Tw.m3, (Fg6 _ Tw.m2)⟩, (List.forall_mem_cons.2 ⟨.inr ⟨Tw.m4, (Fg6 _ Tw.m3)⟩, (List.forall_mem_cons.2 ⟨.inr ⟨Tw.m5, (Fg6 _ Tw.m4)⟩, (List.forall_mem_nil _)⟩)⟩)⟩)⟩)⟩)⟩)) ?_
         refine wpL_done (fun W20 hW20 => ?_)
         change Code.wp ..
         refine wp_seq ?_
         refine wp_region_L _ hW20 ?_
         refine lm (v := .pointer (some ⟨g6, 1, none⟩)) rfl rfl ?_
         refine lv (v := .agg #[.int .u8 40, .bool true, .bool false]) rfl rfl (yb_load (n := 3) (off := 1) rfl Tw.kr Tw.m0 Tryd.underlying37 rfl Tw.kr (by simp) Tw.kr) ?_
         refine lv (v := .agg #[.int .u8 ((n : Nat) : Int), .bool h, .bool r]) rfl rfl (yb_load (n := 3) (off := 0) rfl Tw.kr Tw.m5 Tryd.underlying37 rfl Tw.kr (by simp) Tw.kr) ?_
         refine lp (v := .bool (decide (40 = n ∧ true = h ∧ false = r))) rfl rfl (run_bin rfl (vx := .agg #[.int .u8 ((40 : Nat) : Int), .bool true, .bool false]) (vy := .agg #[.int .u8 ((n : Nat) : Int), .bool h, .bool r]) Tw.kr Tw.kr fun w => eq_kind rfl w) ?_
         refine wpL_done (fun W21 hW21 => ?_)
         change Code.wp ..
         cases hd5 : (decide (40 = n ∧ true = h ∧ false = r)) with
         | false =>
           have h5 : ¬ (40 = n ∧ true = h ∧ false = r) := of_decide_eq_false hd5
           clear hd5
           refine wp_cond_false rfl ?_
           refine wp_skip ?_
           change Code.wp ..
           refine wp_region_L _ hW21 ?_
           refine lm (v := .int .i64 5) rfl rfl ?_
           refine lm (v := .int .i64 5) rfl rfl ?_
           refine wpL_done (fun W22 hW22 => ?_)
           change Code.wp ..
           refine wp_seq ?_
           refine wp_region_L _ hW22 ?_
           refine lm (v := .bool true) rfl rfl ?_
           refine wpL_done (fun W23 hW23 => ?_)
           change Code.wp ..
           refine wp_seq ?_
           refine wp_cond_true rfl ?_
           refine wp_skip ?_
           change Code.wp ..
           refine wp_seq ?_
           refine wp_block ?_
           refine wp_seq ?_
           refine wp_region_L _ hW23 ?_
           refine lm (v := .agg #[strV [52, 53, 82, 49], .int .u8 40, .bool true, .bool true]) rfl rfl ?_
           refine wpL_new (fun g => .pointer (some ⟨g, 0, none⟩)) (obi := .cells #[strV [], .int .u8 0, .bool false, .bool false] 77 (0, 0)) rfl rfl Tw.kf Tw.pf fun g7 Bg7 Fg7 => ?_
           refine wpL_s [(g7, .cells #[strV [52, 53, 82, 49], .int .u8 40, .bool true, .bool true] 77 (0, 0)), (g6, .cells #[strV [52, 53, 71, 49], .int .u8 40, .bool true, .bool false] 77 (0, 0)), (g5, .cells #[strV [52, 50, 82, 49], .int .u8 40, .bool false, .bool true] 77 (0, 0)), (g4, .cells #[strV [52, 50, 71, 49], .int .u8 40, .bool false, .bool false] 77 (0, 0)), (g3, .cells #[strV [50, 50, 82, 49], .int .u8 20, .bool false, .bool true] 77 (0, 0)), (g2, .cells #[strV [50, 50, 71, 49], .int .u8 20, .bool false, .bool false] 77 (0, 0)), (g1, .cells #[.int .u8 ((n : Nat) : Int), .bool h, .bool r] 37 (0, 0))] rfl rfl (st_row (off := 0) (v := .agg #[strV [52, 53, 82, 49], .int .u8 40, .bool true, .bool true]) rfl Tw.kr Tw.kr Tw.m0 Bg7 Tw.kr (by simp [Value.cells]) (by intro v hv; simp [Value.cells] at hv; first | (subst hv; rfl) | (rcases hv with rfl | rfl | rfl | rfl <;> rfl)) Tw.kr (List.forall_mem_cons.2 ⟨.inl rfl, (List.forall_mem_cons.2 ⟨.inr ⟨Tw.m1, (Fg7 _ Tw.m0)⟩, (List.forall_mem_cons.2 ⟨.inr ⟨Tw.m2, (Fg7 _ Tw.m1)⟩, (List.forall_mem_cons.2 ⟨.inr ⟨Tw.m3, (Fg7 _ Tw.m2)⟩, (List.forall_mem_cons.2 ⟨.inr ⟨Tw.m4, (Fg7 _ Tw.m3)⟩, (List.forall_mem_cons.2 ⟨.inr ⟨Tw.m5, (Fg7 _ Tw.m4)⟩, (List.forall_mem_cons.2 ⟨.inr ⟨(.tail _ Tw.m5), (Fg7 _ Tw.m5)⟩, (List.forall_mem_nil _)⟩)⟩)⟩)⟩)⟩)⟩)⟩)) ?_
           refine wpL_done (fun W24 hW24 => ?_)
           change Code.wp ..
           refine wp_seq ?_
           refine wp_region_L _ hW24 ?_
           refine lm (v := .pointer (some ⟨g7, 1, none⟩)) rfl rfl ?_
           refine lv (v := .agg #[.int .u8 40, .bool true, .bool true]) rfl rfl (yb_load (n := 3) (off := 1) rfl Tw.kr Tw.m0 Tryd.underlying37 rfl Tw.kr (by simp) Tw.kr) ?_
           refine lv (v := .agg #[.int .u8 ((n : Nat) : Int), .bool h, .bool r]) rfl rfl (yb_load (n := 3) (off := 0) rfl Tw.kr (.tail _ Tw.m5) Tryd.underlying37 rfl Tw.kr (by simp) Tw.kr) ?_
           refine lp (v := .bool (decide (40 = n ∧ true = h ∧ true = r))) rfl rfl (run_bin rfl (vx := .agg #[.int .u8 ((40 : Nat) : Int), .bool true, .bool true]) (vy := .agg #[.int .u8 ((n : Nat) : Int), .bool h, .bool r]) Tw.kr Tw.kr fun w => eq_kind rfl w) ?_
           refine wpL_done (fun W25 hW25 => ?_)
           change Code.wp ..
           cases hd6 : (decide (40 = n ∧ true = h ∧ true = r)) with
           | false =>
             have h6 : ¬ (40 = n ∧ true = h ∧ true = r) := of_decide_eq_false hd6
             clear hd6
             refine wp_cond_false rfl ?_
             refine wp_skip ?_
             change Code.wp ..
             refine wp_region_L _ hW25 ?_
             refine lm (v := .int .i64 6) rfl rfl ?_
             refine lm (v := .int .i64 6) rfl rfl ?_
             refine wpL_done (fun W26 hW26 => ?_)
             change Code.wp ..
             refine wp_seq ?_
             refine wp_region_L _ hW26 ?_
             refine lm (v := .bool false) rfl rfl ?_
             refine wpL_done (fun W27 hW27 => ?_)
             change Code.wp ..
             refine wp_seq ?_
             refine wp_cond_false rfl ?_
             refine wp_exit ?_
             change Code.wp ..
             refine wp_seq ?_
             refine wp_region_L _ hW27 ?_
             refine lm (v := strV []) rfl rfl ?_
             refine lm (v := .int .i64 32) rfl rfl ?_
             refine wpL_done (fun W28 hW28 => ?_)
             change Code.wp ..
             refine wp_ret ?_
             try simp only [inBlock_ret, then_ret]
             refine bodyPost_ret (v := .tuple #[strV [], .int .i64 32]) ?_ rfl ?_
             · kernel_rfl
             · exact ⟨(by unfold codeV; rw [if_neg h1, if_neg h2, if_neg h3, if_neg h4, if_neg h5, if_neg h6]), hW28.1⟩
           | true =>
             have h6 : 40 = n ∧ true = h ∧ true = r := of_decide_eq_true hd6
             clear hd6
             refine wp_cond_true rfl ?_
             refine wp_seq ?_
             refine wp_region_L _ hW25 ?_
             refine lm (v := .pointer (some ⟨g7, 0, none⟩)) rfl rfl ?_
             refine lv (v := strV [52, 53, 82, 49]) rfl rfl (yb_cell (off := 0) rfl Tw.kr Tw.m0 Tryd.underlying9 rfl Tw.kr) ?_
             refine lm (v := strV [52, 53, 82, 49]) rfl rfl ?_
             refine lm (v := .int .i64 0) rfl rfl ?_
             refine wpL_done (fun W29 hW29 => ?_)
             change Code.wp ..
             refine wp_ret ?_
             try simp only [inBlock_ret, then_ret]
             refine bodyPost_ret (v := .tuple #[strV [52, 53, 82, 49], .int .i64 0]) ?_ rfl ?_
             · kernel_rfl
             · exact ⟨(by unfold codeV; rw [if_neg h1, if_neg h2, if_neg h3, if_neg h4, if_neg h5, if_pos h6]), hW29.1⟩
         | true =>
           have h5 : 40 = n ∧ true = h ∧ false = r := of_decide_eq_true hd5
           clear hd5
           refine wp_cond_true rfl ?_
           refine wp_seq ?_
           refine wp_region_L _ hW21 ?_
           refine lm (v := .pointer (some ⟨g6, 0, none⟩)) rfl rfl ?_
           refine lv (v := strV [52, 53, 71, 49]) rfl rfl (yb_cell (off := 0) rfl Tw.kr Tw.m0 Tryd.underlying9 rfl Tw.kr) ?_
           refine lm (v := strV [52, 53, 71, 49]) rfl rfl ?_
           refine lm (v := .int .i64 0) rfl rfl ?_
           refine wpL_done (fun W30 hW30 => ?_)
           change Code.wp ..
           refine wp_ret ?_
           try simp only [inBlock_ret, then_ret]
           refine bodyPost_ret (v := .tuple #[strV [52, 53, 71, 49], .int .i64 0]) ?_ rfl ?_
           · kernel_rfl
           · exact ⟨(by unfold codeV; rw [if_neg h1, if_neg h2, if_neg h3, if_neg h4, if_pos h5]), hW30.1⟩
       | true =>
         have h4 : 40 = n ∧ false = h ∧ true = r := of_decide_eq_true hd4
         clear hd4
         refine wp_cond_true rfl ?_
         refine wp_seq ?_
         refine wp_region_L _ hW17 ?_
         refine lm (v := .pointer (some ⟨g5, 0, none⟩)) rfl rfl ?_
         refine lv (v := strV [52, 50, 82, 49]) rfl rfl (yb_cell (off := 0) rfl Tw.kr Tw.m0 Tryd.underlying9 rfl Tw.kr) ?_
         refine lm (v := strV [52, 50, 82, 49]) rfl rfl ?_
         refine lm (v := .int .i64 0) rfl rfl ?_
         refine wpL_done (fun W31 hW31 => ?_)
         change Code.wp ..
         refine wp_ret ?_
         try simp only [inBlock_ret, then_ret]
         refine bodyPost_ret (v := .tuple #[strV [52, 50, 82, 49], .int .i64 0]) ?_ rfl ?_
         · kernel_rfl
         · exact ⟨(by unfold codeV; rw [if_neg h1, if_neg h2, if_neg h3, if_pos h4]), hW31.1⟩
     | true =>
       have h3 : 40 = n ∧ false = h ∧ false = r := of_decide_eq_true hd3
       clear hd3
       refine wp_cond_true rfl ?_
       refine wp_seq ?_
       refine wp_region_L _ hW13 ?_
       refine lm (v := .pointer (some ⟨g4, 0, none⟩)) rfl rfl ?_
       refine lv (v := strV [52, 50, 71, 49]) rfl rfl (yb_cell (off := 0) rfl Tw.kr Tw.m0 Tryd.underlying9 rfl Tw.kr) ?_
       refine lm (v := strV [52, 50, 71, 49]) rfl rfl ?_
       refine lm (v := .int .i64 0) rfl rfl ?_
       refine wpL_done (fun W32 hW32 => ?_)
       change Code.wp ..
       refine wp_ret ?_
       try simp only [inBlock_ret, then_ret]
       refine bodyPost_ret (v := .tuple #[strV [52, 50, 71, 49], .int .i64 0]) ?_ rfl ?_
       · kernel_rfl
       · exact ⟨(by unfold codeV; rw [if_neg h1, if_neg h2, if_pos h3]), hW32.1⟩
   | true =>
     have h2 : 20 = n ∧ false = h ∧ true = r := of_decide_eq_true hd2
     clear hd2
     refine wp_cond_true rfl ?_
     refine wp_seq ?_
     refine wp_region_L _ hW9 ?_
     refine lm (v := .pointer (some ⟨g3, 0, none⟩)) rfl rfl ?_
     refine lv (v := strV [50, 50, 82, 49]) rfl rfl (yb_cell (off := 0) rfl Tw.kr Tw.m0 Tryd.underlying9 rfl Tw.kr) ?_
     refine lm (v := strV [50, 50, 82, 49]) rfl rfl ?_
     refine lm (v := .int .i64 0) rfl rfl ?_
     refine wpL_done (fun W33 hW33 => ?_)
     change Code.wp ..
     refine wp_ret ?_
     try simp only [inBlock_ret, then_ret]
     refine bodyPost_ret (v := .tuple #[strV [50, 50, 82, 49], .int .i64 0]) ?_ rfl ?_
     · kernel_rfl
     · exact ⟨(by unfold codeV; rw [if_neg h1, if_pos h2]), hW33.1⟩
 | true =>
   have h1 : 20 = n ∧ false = h ∧ false = r := of_decide_eq_true hd1
   clear hd1
   refine wp_cond_true rfl ?_
   refine wp_seq ?_
   refine wp_region_L _ hW5 ?_
   refine lm (v := .pointer (some ⟨g2, 0, none⟩)) rfl rfl ?_
   refine lv (v := strV [50, 50, 71, 49]) rfl rfl (yb_cell (off := 0) rfl Tw.kr Tw.m0 Tryd.underlying9 rfl Tw.kr) ?_
   refine lm (v := strV [50, 50, 71, 49]) rfl rfl ?_
   refine lm (v := .int .i64 0) rfl rfl ?_
   refine wpL_done (fun W34 hW34 => ?_)
   change Code.wp ..
   refine wp_ret ?_
   try simp only [inBlock_ret, then_ret]
   refine bodyPost_ret (v := .tuple #[strV [50, 50, 71, 49], .int .i64 0]) ?_ rfl ?_
   · kernel_rfl
   · exact ⟨(by unfold codeV; rw [if_pos h1]), hW34.1⟩
end Go.Proofs.YtllmpemmknblaaaDoor
