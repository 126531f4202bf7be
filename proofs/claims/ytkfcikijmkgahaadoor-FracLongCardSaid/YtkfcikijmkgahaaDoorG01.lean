import Derived.OrdersHeld
import Derived.Below
import Derived.Laws.Rows
import Derived.WalkKit
import Derived.Laws.CopyRow
import Derived.Laws.CopyOwn
import Derived.RegionTactic
/- Part of the proof: Rg. -/
set_option linter.unusedVariables false
set_option linter.unusedSimpArgs false
set_option linter.unusedSectionVars false
/- A statement whose order is left open, over worlds of which only some blocks are known: values (also of calls that make memory) are taken in the text's order, whatever order is drawn. Nothing of the program. -/
namespace Tw
open Go Go.RowKit

/-- What is known of a world: what was there in W0 is as it was, and some blocks. -/
def KS (W0 : World) (K : List (Nat × Obj)) (w : World) : Prop := Below W0.heap.size W0 w ∧ ∀ p ∈ K, w.heap[p.1]? = some p.2

theorem KS.tail {W0 : World} {p : Nat × Obj} {K : List (Nat × Obj)} {w : World} (h : KS W0 (p :: K) w) : KS W0 K w := ⟨h.1, fun q hq => h.2 q (List.mem_cons_of_mem _ hq)⟩
theorem KS.sub {W0 : World} {K K' : List (Nat × Obj)} {w : World} (h : KS W0 K w) (hs : ∀ p ∈ K', p ∈ K) : KS W0 K' w := ⟨h.1, fun q hq => h.2 q (hs q hq)⟩
theorem lt_of_block {w : World} {g : Nat} {o : Obj} (h : w.heap[g]? = some o) : g < w.heap.size := (Array.getElem?_eq_some_iff.1 h).1
theorem KS.below {W0 : World} {K : List (Nat × Obj)} {w w' : World} (h : KS W0 K w) (hb : Below w.heap.size w w') : KS W0 K w' :=
  ⟨h.1.trans (hb.mono h.1.size), fun p hp => (hb.block p.1 (lt_of_block (h.2 p hp))).trans (h.2 p hp)⟩
theorem KS.drew {W0 : World} {K : List (Nat × Obj)} {w : World} (h : KS W0 K w) : KS W0 K w.drew := ⟨h.1.drew, h.2⟩
theorem KS.alloc {W0 : World} {K : List (Nat × Obj)} {w : World} (h : KS W0 K w) (o : Obj) : KS W0 ((w.heap.size, o) :: K) (w.alloc o) :=
  ⟨h.1.alloc h.1.size _, fun p hp => by
    rcases List.mem_cons.1 hp with rfl | hp
    · exact heap_alloc_new w o
    · exact (Below.heap_alloc w o p.1 (lt_of_block (h.2 p hp))).trans (h.2 p hp)⟩
theorem KS.start (w : World) : KS w [] w := ⟨Below.refl _ _, fun _ h => by cases h⟩

section
variable {P : Program} {ops : Array Oper} {Q : Exit → Act → World → Prop} {md : Region.Mode} {W0 : World}

/-- What an operation leaves, whatever the frame: the value, and the world. -/
def Oto (P : Program) (o : Oper) (ρ : Operand → Value) (w : World) (R : Value → World → Prop) : Prop :=
  match (execOp ρ o).run P w with
  | .ok (.value v) w' => R v w'
  | .ok .skip w' => R undef w'
  | .ok (.enter f args) w' => Calls P f args w' fun e w'' => ∃ v, e = .returned v ∧ R v w''
  | .ok (.row row args) w' => Rows P row args w' R
  | _ => False

theorem Oto.wp {o : Oper} {a : Act} {w : World} {R : Value → World → Prop} {K : Act → World → Prop} (h : Oto P o a.eval w R) (hk : ∀ v w', R v w' → K (a.put o.dst v) w') : o.wp P a w K Q := by
  unfold Oto at h
  unfold Oper.wp
  generalize (execOp a.eval o).run P w = r at *
  cases r with
  | ok n w' =>
    cases n <;> simp only [Oper.upon] at h ⊢
    · exact hk _ _ h
    · exact hk _ _ h
    · exact Calls.mono h fun e w'' ⟨v, he, hr⟩ => by subst he; exact hk _ _ hr
    · exact Rows.mono h fun _ _ hr => hk _ _ hr
  | halt x w' => exact h.elim

/-- It can be told by a walk. -/
theorem Oto.of_wp {o : Oper} {a : Act} {w : World} {v : Value} {d : Nat} (hd : o.dst = some d) (hlt : d < a.tmps.size)
    (h : ∀ K : Act → World → Prop, (∀ w', Below w.heap.size w w' → K (a.put o.dst v) w') → o.wp P a w K (fun _ _ _ => False)) :
    Oto P o a.eval w (fun u w' => u = v ∧ Below w.heap.size w w') := by
  have h1 := h (fun x w' => x.defers = a.defers ∧ x.tmps[d]? = some v ∧ Below w.heap.size w w') (fun w' hb => by
    refine ⟨by simp [hd, Act.put], by simp [hd, Act.put, hlt], hb⟩)
  have put : ∀ u, (a.put o.dst u).tmps[d]? = some u := fun u => by simp [hd, Act.put, hlt]
  unfold Oper.wp at h1
  unfold Oto
  generalize (execOp a.eval o).run P w = r at *
  cases r with
  | ok n w' =>
    cases n <;> simp only [Oper.upon] at h1 ⊢
    · rename_i u
      rw [put u] at h1
      exact ⟨Option.some.inj h1.2.1, h1.2.2⟩
    · rw [put undef] at h1
      exact ⟨Option.some.inj h1.2.1, h1.2.2⟩
    · refine Calls.mono h1 fun e w'' he => ?_
      cases e with
      | returned u =>
        simp only [put u] at he
        exact ⟨u, rfl, Option.some.inj he.2.1, he.2.2⟩
      | panicked c => exact he.elim
      | outgrown => obtain ⟨_, _, hf⟩ := he; exact hf.elim
    · rename_i dd
      exfalso
      have := h1.1
      simp [hd, Act.put] at this
    · refine Rows.mono h1 fun u w'' he => ?_
      rw [put u] at he
      exact ⟨Option.some.inj he.2.1, he.2.2⟩
  | halt x w' => cases x <;> simp only [Oper.upon] at h1

/-- The operation yields v in every world of K, and leaves all that was there. -/
def YB (P : Program) (ops : Array Oper) (W0 : World) (K : List (Nat × Obj)) (o : Oper) (v : Value) (a : Act) : Prop :=
  (Region.wanted o (yielded ops a.tmps) = true ∧ ∀ w, KS W0 K w → Oto P o a.eval w (fun u w' => u = v ∧ Below w.heap.size w w')) ∨
  (Region.wanted o (yielded ops a.tmps) = false ∧ v = undef)
def AL (P : Program) (ops : Array Oper) (o : Oper) (obj : Obj) (a : Act) : Prop :=
  Region.wanted o (yielded ops a.tmps) = true ∧ ∀ w, (execOp a.eval o).run P w = .ok (.value (.pointer (some ⟨w.heap.size, 0, none⟩))) (w.alloc obj)
def isStore (o : Oper) : Bool := match o.op with | .store .. => true | _ => false
def ST (P : Program) (ops : Array Oper) (W0 : World) (K K' : List (Nat × Obj)) (o : Oper) (a : Act) : Prop :=
  Region.wanted o (yielded ops a.tmps) = true ∧ ∀ w, KS W0 K w → ∃ w', (execOp a.eval o).run P w = .ok .skip w' ∧ KS W0 K' w'

theorem YB.of_same {K : List (Nat × Obj)} {o : Oper} {v : Value} {a a' : Act} (hy : YB P ops W0 K o v a) (he : execOp a'.eval o = execOp a.eval o)
    (hw : Region.wanted o (yielded ops a'.tmps) = Region.wanted o (yielded ops a.tmps)) : YB P ops W0 K o v a' := by
  unfold YB Oto at *
  rw [he, hw]
  exact hy
theorem YB.more {K : List (Nat × Obj)} {p : Nat × Obj} {o : Oper} {v : Value} {a : Act} (hy : YB P ops W0 K o v a) : YB P ops W0 (p :: K) o v a :=
  hy.imp (fun h => ⟨h.1, fun w hw => h.2 w hw.tail⟩) id
theorem AL.of_same {o : Oper} {obj : Obj} {a a' : Act} (hy : AL P ops o obj a) (he : execOp a'.eval o = execOp a.eval o)
    (hw : Region.wanted o (yielded ops a'.tmps) = Region.wanted o (yielded ops a.tmps)) : AL P ops o obj a' := by
  unfold AL at *
  rw [he, hw]
  exact hy

/-- Whatever order is drawn, in every world of K. -/
def wpU (P : Program) (md : Region.Mode) (ops : Array Oper) (Q : Exit → Act → World → Prop) (W0 : World) : Nat → Array Bool → Act → List (Nat × Obj) → Prop
  | 0, listed, a, K => Region.ready md ops listed = [] ∧ ∀ w, KS W0 K w → Q .normal a w
  | n + 1, listed, a, K =>
    (Region.ready md ops listed = [] → ∀ w, KS W0 K w → Q .normal a w) ∧
    ∀ i ∈ Region.ready md ops listed, ∃ o, ops[i]? = some o ∧
      ((∃ v, YB P ops W0 K o v a ∧ wpU P md ops Q W0 n (listed.setIfInBounds i true) (a.put o.dst v) K) ∨
       (∃ obj, AL P ops o obj a ∧ ∀ g, W0.heap.size ≤ g → (∀ p ∈ K, p.1 ≠ g) → wpU P md ops Q W0 n (listed.setIfInBounds i true) (a.put o.dst (.pointer (some ⟨g, 0, none⟩))) ((g, obj) :: K)) ∨
       (isStore o = true ∧ ∃ K', ST P ops W0 K K' o a ∧ wpU P md ops Q W0 n (listed.setIfInBounds i true) (a.put o.dst undef) K'))

theorem wpU_sound : ∀ (n : Nat) (listed : Array Bool) (a : Act) (K : List (Nat × Obj)), wpU P md ops Q W0 n listed a K → ∀ w, KS W0 K w → wpAny P md ops Q n listed a w
  | 0, _, _, _, h, w, hw => ⟨h.1, h.2 w hw⟩
  | n + 1, listed, a, K, h, w, hw => by
    refine ⟨fun hr => h.1 hr w hw, fun i hi => ?_⟩
    obtain ⟨o, ho, hc⟩ := h.2 i hi
    refine wpOp_step ho fun K' hK' => ?_
    rcases hc with ⟨v, hy, hu⟩ | ⟨obj, hal, hu⟩ | ⟨_, K2, hst, hu⟩
    · rcases hy with ⟨hwn, hto⟩ | ⟨hwn, rfl⟩
      · rw [if_pos hwn]
        exact (hto w hw).wp fun u w' ⟨hu', hb⟩ => by subst hu'; exact hK' _ _ (wpU_sound n _ _ _ hu w' (hw.below hb))
      · rw [if_neg (by rw [hwn]; decide)]
        exact hK' _ _ (wpU_sound n _ _ _ hu w hw)
    · rw [if_pos hal.1]
      unfold Oper.wp
      rw [hal.2 w]
      refine hK' _ _ (wpU_sound n _ _ _ (hu w.heap.size hw.1.size (fun p hp e => ?_)) _ (hw.alloc obj))
      have := lt_of_block (hw.2 p hp)
      omega
    · rw [if_pos hst.1]
      obtain ⟨w', hrun, hw'⟩ := hst.2 w hw
      unfold Oper.wp
      rw [hrun]
      exact hK' _ _ (wpU_sound n _ _ _ hu w' hw')

/-- Does number j wait for number i, over at most n edges? -/
def waits (md : Region.Mode) (ops : Array Oper) : Nat → Nat → Nat → Bool
  | 0, _, _ => false
  | n + 1, j, i => match ops[j]? with
    | none => false
    | some o => o.after.toList.any fun e => Region.binds md e && (e.on == i || waits md ops n e.on i)
def closedB (md : Region.Mode) (ops : Array Oper) (listed : Array Bool) : Bool :=
  (List.range ops.size).all fun k => !listed.getD k false || match ops[k]? with
    | none => true
    | some o => o.after.toList.all fun e => !Region.binds md e || listed.getD e.on false
def closed (md : Region.Mode) (ops : Array Oper) (listed : Array Bool) : Prop :=
  ∀ k o, ops[k]? = some o → listed.getD k false = true → ∀ e ∈ o.after, Region.binds md e = true → listed.getD e.on false = true
theorem closed_of {listed : Array Bool} (h : closedB md ops listed = true) : closed md ops listed := by
  intro k o ho hk e he hb
  unfold closedB at h
  rw [List.all_eq_true] at h
  have h1 := h k (List.mem_range.2 (Array.getElem?_eq_some_iff.1 ho).1)
  simp only [hk, ho, Bool.not_true, Bool.false_or, List.all_eq_true] at h1
  have h2 := h1 e (Array.mem_def.1 he)
  simpa [hb] using h2
theorem not_waits {listed : Array Bool} {i : Nat} (hc : closed md ops listed) (hi : listed.getD i false = false) : ∀ n j o, ops[j]? = some o → waits md ops n j i = true →
    (∀ e ∈ o.after, Region.binds md e = true → listed.getD e.on false = true) → False
  | 0, _, _, _, h, _ => by simp [waits] at h
  | n + 1, j, o, ho, h, hall => by
    simp only [waits, ho, List.any_eq_true, Bool.and_eq_true, Bool.or_eq_true, beq_iff_eq] at h
    obtain ⟨e, he, hb, h2⟩ := h
    have hl := hall e (Array.mem_def.2 he) hb
    rcases h2 with h2 | h2
    · rw [h2, hi] at hl; cases hl
    · cases hk : ops[e.on]? with
      | none =>
        cases n with
        | zero => simp [waits] at h2
        | succ n => simp [waits, hk] at h2
      | some ok => exact not_waits hc hi n e.on ok hk h2 (hc e.on ok hk hl)
theorem closed_set {listed : Array Bool} {j : Nat} (hc : closed md ops listed) (hj : j ∈ Region.ready md ops listed) : closed md ops (listed.setIfInBounds j true) := by
  obtain ⟨_, oj, hoj, hall⟩ := mem_ready.1 hj
  intro k o ho hk e he hb
  by_cases hkj : k = j
  · subst hkj
    rw [hoj] at ho
    cases ho
    exact getD_set_true (hall e he hb)
  · rw [getD_set_ne false (Ne.symm hkj)] at hk
    exact getD_set_true (hc k o ho hk e he hb)

theorem unlisted_false {listed : Array Bool} {i : Nat} (h : listed.getD i true = false) : listed.getD i false = false := by
  rcases Nat.lt_or_ge i listed.size with h' | h'
  · simp [h'] at h ⊢; exact h
  · simp [Array.getElem?_eq_none h'] at h

/-- A value may be taken first. -/
theorem wpU_first {i : Nat} {oi : Oper} {v : Value} (hi : ops[i]? = some oi) (hsel : ∀ (j : Nat) (o : Oper) cs b, ops[j]? = some o → o.op ≠ .select cs b) :
    ∀ (n : Nat) (listed : Array Bool) (a : Act) (K : List (Nat × Obj)), closed md ops listed →
      (∀ j oj, ops[j]? = some oj → j ≠ i → listed.getD j true = false → (∀ e ∈ oj.after, Region.binds md e = true → e.on ≠ i) → oi.apart ops oj = true) →
      i ∈ Region.ready md ops listed → ((∀ K', YB P ops W0 K' oi v a) ∨ (YB P ops W0 K oi v a ∧ ∀ j o, ops[j]? = some o → isStore o = true → ∃ m, waits md ops m j i = true)) →
      wpU P md ops Q W0 n (listed.setIfInBounds i true) (a.put oi.dst v) K → wpU P md ops Q W0 (n + 1) listed a K := by
  intro n
  induction n with
  | zero =>
    intro listed a K _ _ hr hy H
    refine ⟨fun h => (by rw [h] at hr; cases hr), fun j hj => ?_⟩
    by_cases hji : j = i
    · subst hji
      exact ⟨oi, hi, .inl ⟨v, hy.elim (fun h => h K) (fun h => h.1), H⟩⟩
    · have := ready_mono hj hji
      rw [H.1] at this
      cases this
  | succ n ih =>
    intro listed a K hcl hfree hr hy H
    refine ⟨fun h => (by rw [h] at hr; cases hr), fun j hj => ?_⟩
    by_cases hji : j = i
    · subst hji
      exact ⟨oi, hi, .inl ⟨v, hy.elim (fun h => h K) (fun h => h.1), H⟩⟩
    · obtain ⟨oj, hoj, hc⟩ := H.2 j (ready_mono hj hji)
      obtain ⟨hjun, oj', hoj', hall⟩ := mem_ready.1 hj
      rw [hoj] at hoj'
      cases hoj'
      have hiun := (mem_ready.1 hr).1
      have hnot : ∀ e ∈ oj.after, Region.binds md e = true → e.on ≠ i := fun e he hb heq => by
        have h1 := hall e he hb
        rw [heq, unlisted_false hiun] at h1
        cases h1
      have hap := hfree j oj hoj hji hjun hnot
      obtain ⟨h1, h2, h3⟩ := Oper.apart_spec hap
      have hfree' : ∀ k ok, ops[k]? = some ok → k ≠ i → (listed.setIfInBounds j true).getD k true = false →
          (∀ e ∈ ok.after, Region.binds md e = true → e.on ≠ i) → oi.apart ops ok = true := fun k ok hk hki hun hno => by
        refine hfree k ok hk hki ?_ hno
        by_cases hjk : j = k
        · subst hjk; exact hjun
        · rw [getD_set_ne true hjk] at hun; exact hun
      have hsi : ∀ cs b, oi.op ≠ .select cs b := fun cs b => hsel i oi cs b hi
      have hsj : ∀ cs b, oj.op ≠ .select cs b := fun cs b => hsel j oj cs b hoj
      have keep : ∀ K' u, YB P ops W0 K' oi v a → YB P ops W0 K' oi v (a.put oj.dst u) := fun K' u h => h.of_same (execOp_put oi hsi a oj.dst u h3) (wanted_put oi a oj.dst u h3)
      have eqe : execOp (a.put oi.dst v).eval oj = execOp a.eval oj := execOp_put oj hsj a oi.dst v h1
      have eqw : Region.wanted oj (yielded ops (a.put oi.dst v).tmps) = Region.wanted oj (yielded ops a.tmps) := wanted_put oj a oi.dst v h1
      refine ⟨oj, hoj, ?_⟩
      rcases hc with ⟨u, hyj, hu⟩ | ⟨obj, hal, hu⟩ | ⟨hs, K2, hst2, hu⟩
      · refine .inl ⟨u, hyj.of_same eqe.symm eqw.symm, ih _ _ _ (closed_set hcl hj) hfree' (ready_mono hr (Ne.symm hji)) (hy.imp (fun h K' => keep K' u (h K')) (fun h => ⟨keep K u h.1, h.2⟩)) ?_⟩
        rw [Array.setIfInBounds_comm _ _ hji, ← Act.put_comm a v u h2]
        exact hu
      · refine .inr (.inl ⟨obj, hal.of_same eqe.symm eqw.symm, fun g hg hgk => ih _ _ _ (closed_set hcl hj) hfree' (ready_mono hr (Ne.symm hji)) (hy.imp (fun h K' => keep K' _ (h K')) (fun h => ⟨(keep K _ h.1).more, h.2⟩)) ?_⟩)
        rw [Array.setIfInBounds_comm _ _ hji, ← Act.put_comm a v _ h2]
        exact hu g hg hgk
      · rcases hy with hy | ⟨hy, hwait⟩
        · refine .inr (.inr ⟨hs, K2, ⟨by rw [← eqw]; exact hst2.1, fun w hw => by rw [← eqe]; exact hst2.2 w hw⟩, ih _ _ _ (closed_set hcl hj) hfree' (ready_mono hr (Ne.symm hji)) (.inl fun K' => keep K' _ (hy K')) ?_⟩)
          rw [Array.setIfInBounds_comm _ _ hji, ← Act.put_comm a v _ h2]
          exact hu
        · obtain ⟨m, hm⟩ := hwait j oj hoj hs
          exact (not_waits hcl (unlisted_false hiun) m j oj hoj hm hall).elim

def storesWait (md : Region.Mode) (ops : Array Oper) (i : Nat) : Bool :=
  (List.range ops.size).all fun j => match ops[j]? with
    | some o => !isStore o || waits md ops 4 j i
    | none => true
theorem storesWait_spec {i : Nat} (h : storesWait md ops i = true) (j : Nat) (o : Oper) (ho : ops[j]? = some o) (hs : isStore o = true) : ∃ m, waits md ops m j i = true := by
  unfold storesWait at h
  rw [List.all_eq_true] at h
  have h1 := h j (List.mem_range.2 (Array.getElem?_eq_some_iff.1 ho).1)
  simp only [ho, hs, Bool.not_true, Bool.false_or] at h1
  exact ⟨4, h1⟩
def freeAll (md : Region.Mode) (ops : Array Oper) (listed : Array Bool) (i : Nat) : Bool :=
  Region.noSelect ops && (Region.free md ops listed i && ((Region.ready md ops listed).contains i && (closedB md ops listed && storesWait md ops i)))

/-- THE STEP: a value (a call too), in the text's order. -/
theorem wpU_val {i : Nat} {oi : Oper} {v : Value} {d n : Nat} {listed : Array Bool} {a : Act} {K : List (Nat × Obj)} (hi : ops[i]? = some oi) (hd : oi.dst = some d) (hlt : Nat.blt d a.tmps.size = true)
    (hf : freeAll md ops listed i = true) (hw : Region.wanted oi (yielded ops a.tmps) = true)
    (hy : ∀ w, KS W0 K w → ∀ K' : Act → World → Prop, (∀ w', Below w.heap.size w w' → K' (a.put oi.dst v) w') → Oper.wp P oi a w K' (fun _ _ _ => False))
    (h : wpU P md ops Q W0 n (listed.setIfInBounds i true) (a.put oi.dst v) K) : wpU P md ops Q W0 (n + 1) listed a K := by
  unfold freeAll at hf
  simp only [Bool.and_eq_true] at hf
  obtain ⟨h1, h2, h3, h4, h5⟩ := hf
  exact wpU_first hi (Region.noSelect_spec h1) n listed a K (closed_of h4) (Region.free_spec hi h2) (by simpa using h3)
    (.inr ⟨.inl ⟨hw, fun w hk => Oto.of_wp hd (Nat.le_of_ble_eq_true hlt) (hy w hk)⟩, storesWait_spec h5⟩) h
/-- THE STEP: an operation whose guard says no. -/
theorem wpU_not {i : Nat} {oi : Oper} {n : Nat} {listed : Array Bool} {a : Act} {K : List (Nat × Obj)} (hi : ops[i]? = some oi)
    (hf : freeAll md ops listed i = true) (hw : Region.wanted oi (yielded ops a.tmps) = false)
    (h : wpU P md ops Q W0 n (listed.setIfInBounds i true) (a.put oi.dst undef) K) : wpU P md ops Q W0 (n + 1) listed a K := by
  unfold freeAll at hf
  simp only [Bool.and_eq_true] at hf
  obtain ⟨h1, h2, h3, h4, h5⟩ := hf
  exact wpU_first hi (Region.noSelect_spec h1) n listed a K (closed_of h4) (Region.free_spec hi h2) (by simpa using h3)
    (.inl fun _ => .inr ⟨hw, rfl⟩) h
/-- THE STEP: the one that is ready makes a variable. -/
theorem wpU_alloc {i : Nat} {oi : Oper} {obj : Obj} {n : Nat} {listed : Array Bool} {a : Act} {K : List (Nat × Obj)} (hi : ops[i]? = some oi) (hr : Region.ready md ops listed = [i])
    (hw : Region.wanted oi (yielded ops a.tmps) = true) (hal : ∀ w, (execOp a.eval oi).run P w = .ok (.value (.pointer (some ⟨w.heap.size, 0, none⟩))) (w.alloc obj))
    (h : ∀ g, W0.heap.size ≤ g → (∀ p ∈ K, p.1 ≠ g) → wpU P md ops Q W0 n (listed.setIfInBounds i true) (a.put oi.dst (.pointer (some ⟨g, 0, none⟩))) ((g, obj) :: K)) : wpU P md ops Q W0 (n + 1) listed a K :=
  ⟨fun h0 => (by rw [hr] at h0; cases h0), fun j hj => by
    rw [hr] at hj
    cases List.mem_singleton.1 hj
    exact ⟨oi, hi, .inr (.inl ⟨obj, ⟨hw, hal⟩, h⟩)⟩⟩
/-- THE STEP: two that make variables. -/
theorem wpU_alloc2 {i j : Nat} {oi oj : Oper} {obi obj : Obj} {n : Nat} {listed : Array Bool} {a : Act} {K : List (Nat × Obj)} (hi : ops[i]? = some oi) (hj : ops[j]? = some oj) (hr : Region.ready md ops listed = [i, j])
    (hwi : Region.wanted oi (yielded ops a.tmps) = true) (hwj : Region.wanted oj (yielded ops a.tmps) = true)
    (hai : ∀ w, (execOp a.eval oi).run P w = .ok (.value (.pointer (some ⟨w.heap.size, 0, none⟩))) (w.alloc obi))
    (haj : ∀ w, (execOp a.eval oj).run P w = .ok (.value (.pointer (some ⟨w.heap.size, 0, none⟩))) (w.alloc obj))
    (h1 : ∀ g, W0.heap.size ≤ g → (∀ p ∈ K, p.1 ≠ g) → wpU P md ops Q W0 n (listed.setIfInBounds i true) (a.put oi.dst (.pointer (some ⟨g, 0, none⟩))) ((g, obi) :: K))
    (h2 : ∀ g, W0.heap.size ≤ g → (∀ p ∈ K, p.1 ≠ g) → wpU P md ops Q W0 n (listed.setIfInBounds j true) (a.put oj.dst (.pointer (some ⟨g, 0, none⟩))) ((g, obj) :: K)) : wpU P md ops Q W0 (n + 1) listed a K :=
  ⟨fun h0 => (by rw [hr] at h0; cases h0), fun k hk => by
    rw [hr] at hk
    rcases List.mem_cons.1 hk with rfl | hk
    · exact ⟨oi, hi, .inr (.inl ⟨obi, ⟨hwi, hai⟩, h1⟩)⟩
    · cases List.mem_singleton.1 hk
      exact ⟨oj, hj, .inr (.inl ⟨obj, ⟨hwj, haj⟩, h2⟩)⟩⟩
/-- THE STEP: the one that is ready stores. -/
theorem wpU_store {i : Nat} {oi : Oper} {n : Nat} {listed : Array Bool} {a : Act} {K K' : List (Nat × Obj)} (hi : ops[i]? = some oi) (hr : Region.ready md ops listed = [i])
    (hs : isStore oi = true) (hw : Region.wanted oi (yielded ops a.tmps) = true) (hst : ∀ w, KS W0 K w → ∃ w', (execOp a.eval oi).run P w = .ok .skip w' ∧ KS W0 K' w')
    (h : wpU P md ops Q W0 n (listed.setIfInBounds i true) (a.put oi.dst undef) K') : wpU P md ops Q W0 (n + 1) listed a K :=
  ⟨fun h0 => (by rw [hr] at h0; cases h0), fun j hj => by
    rw [hr] at hj
    cases List.mem_singleton.1 hj
    exact ⟨oi, hi, .inr (.inr ⟨hs, K', ⟨hw, hst⟩, h⟩)⟩⟩
/-- one of those that are ready, whatever it is -/
def StepU (P : Program) (md : Region.Mode) (ops : Array Oper) (Q : Exit → Act → World → Prop) (W0 : World) (n : Nat) (listed : Array Bool) (a : Act) (K : List (Nat × Obj)) (i : Nat) : Prop :=
  ∃ o, ops[i]? = some o ∧
      ((∃ v, YB P ops W0 K o v a ∧ wpU P md ops Q W0 n (listed.setIfInBounds i true) (a.put o.dst v) K) ∨
       (∃ obj, AL P ops o obj a ∧ ∀ g, W0.heap.size ≤ g → (∀ p ∈ K, p.1 ≠ g) → wpU P md ops Q W0 n (listed.setIfInBounds i true) (a.put o.dst (.pointer (some ⟨g, 0, none⟩))) ((g, obj) :: K)) ∨
       (isStore o = true ∧ ∃ K', ST P ops W0 K K' o a ∧ wpU P md ops Q W0 n (listed.setIfInBounds i true) (a.put o.dst undef) K'))
theorem stepU_val {i : Nat} {oi : Oper} {v : Value} {d n : Nat} {listed : Array Bool} {a : Act} {K : List (Nat × Obj)} (hi : ops[i]? = some oi) (hd : oi.dst = some d) (hlt : Nat.blt d a.tmps.size = true)
    (hw : Region.wanted oi (yielded ops a.tmps) = true)
    (hy : ∀ w, KS W0 K w → ∀ K' : Act → World → Prop, (∀ w', Below w.heap.size w w' → K' (a.put oi.dst v) w') → Oper.wp P oi a w K' (fun _ _ _ => False))
    (h : wpU P md ops Q W0 n (listed.setIfInBounds i true) (a.put oi.dst v) K) : StepU P md ops Q W0 n listed a K i :=
  ⟨oi, hi, .inl ⟨v, .inl ⟨hw, fun w hk => Oto.of_wp hd (Nat.le_of_ble_eq_true hlt) (hy w hk)⟩, h⟩⟩
theorem stepU_store {i : Nat} {oi : Oper} {n : Nat} {listed : Array Bool} {a : Act} {K K' : List (Nat × Obj)} (hi : ops[i]? = some oi)
    (hs : isStore oi = true) (hw : Region.wanted oi (yielded ops a.tmps) = true) (hst : ∀ w, KS W0 K w → ∃ w', (execOp a.eval oi).run P w = .ok .skip w' ∧ KS W0 K' w')
    (h : wpU P md ops Q W0 n (listed.setIfInBounds i true) (a.put oi.dst undef) K') : StepU P md ops Q W0 n listed a K i :=
  ⟨oi, hi, .inr (.inr ⟨hs, K', ⟨hw, hst⟩, h⟩)⟩
theorem stepU_alloc {i : Nat} {oi : Oper} {obj : Obj} {n : Nat} {listed : Array Bool} {a : Act} {K : List (Nat × Obj)} (hi : ops[i]? = some oi)
    (hw : Region.wanted oi (yielded ops a.tmps) = true) (hal : ∀ w, (execOp a.eval oi).run P w = .ok (.value (.pointer (some ⟨w.heap.size, 0, none⟩))) (w.alloc obj))
    (h : ∀ g, W0.heap.size ≤ g → (∀ p ∈ K, p.1 ≠ g) → wpU P md ops Q W0 n (listed.setIfInBounds i true) (a.put oi.dst (.pointer (some ⟨g, 0, none⟩))) ((g, obj) :: K)) : StepU P md ops Q W0 n listed a K i :=
  ⟨oi, hi, .inr (.inl ⟨obj, ⟨hw, hal⟩, h⟩)⟩
/-- ONE IS READY; TWO ARE. -/
theorem wpU_1 {i n : Nat} {listed : Array Bool} {a : Act} {K : List (Nat × Obj)} (hr : Region.ready md ops listed = [i]) (h : StepU P md ops Q W0 n listed a K i) : wpU P md ops Q W0 (n + 1) listed a K :=
  ⟨fun h0 => (by rw [hr] at h0; cases h0), fun j hj => by
    rw [hr] at hj
    cases List.mem_singleton.1 hj
    exact h⟩
theorem wpU_2 {i j n : Nat} {listed : Array Bool} {a : Act} {K : List (Nat × Obj)} (hr : Region.ready md ops listed = [i, j]) (h : StepU P md ops Q W0 n listed a K i) (h' : StepU P md ops Q W0 n listed a K j) : wpU P md ops Q W0 (n + 1) listed a K :=
  ⟨fun h0 => (by rw [hr] at h0; cases h0), fun k hk => by
    rw [hr] at hk
    rcases List.mem_cons.1 hk with rfl | hk
    · exact h
    · cases List.mem_singleton.1 hk
      exact h'⟩
theorem wpU_done {listed : Array Bool} {a : Act} {K : List (Nat × Obj)} (hr : Region.ready md ops listed = []) (h : ∀ w, KS W0 K w → Q .normal a w) : ∀ n, wpU P md ops Q W0 n listed a K
  | 0 => ⟨hr, h⟩
  | _ + 1 => ⟨fun _ => h, by rw [hr]; simp⟩
/-- THE BEGINNING. -/
theorem wp_region_U {id : Nat} {a : Act} {w : World} (K : List (Nat × Obj)) (hm : P.follows .mixedOrders = true) (hK : KS W0 K w)
    (h : wpU P .any ops Q W0 ops.size (Array.replicate ops.size false) a K) : (Code.region id ops true).wp P Q a w :=
  wp_region_any hm (wpU_sound _ _ _ _ h _ hK.drew)

/-- A store of a whole variable, or of a part of one. -/
theorem run_storeVar_mid {g off : Nat} {cs : Array Value} {t ty : TypeId} {v : Value} (w : World) (hg : w.heap[g]? = some (.cells cs t (0, 0))) (hi : (P.info? ty).map (·.size) = some v.cells.size)
    (hfit : off + v.cells.size ≤ cs.size) (h1 : ∀ x ∈ v.cells.toList, x.oneCell' = true) :
    (storeVar ty ⟨g, off, none⟩ v).run P w = .ok () (w.setRow g (cs.toList.take off ++ v.cells.toList ++ cs.toList.drop (off + v.cells.toList.length)).toArray) := by
  have hst := run_storeCells_at P g off t v.cells.toList 0 cs w hg (by simpa using hfit) h1
  cases hq : P.info? ty with
  | none => simp [hq] at hi
  | some i =>
    have hs : i.size = v.cells.size := by simpa [hq] using hi
    simp only [Nat.add_zero] at hst
    simp [storeVar, Sem.run_bind, Go.sizeOf, typeInfo, hq, hs, hst]
theorem KS.setRow {K K' : List (Nat × Obj)} {w : World} {g : Nat} {cs cs' : Array Value} {t : TypeId} (h : KS W0 K w) (hB : W0.heap.size ≤ g) (hg : w.heap[g]? = some (.cells cs t (0, 0)))
    (hK : ∀ p ∈ K', p = (g, .cells cs' t (0, 0)) ∨ (p ∈ K ∧ p.1 ≠ g)) : KS W0 K' (w.setRow g cs') :=
  ⟨below_setRow h.1 hB _, fun p hp => by
    rcases hK p hp with rfl | ⟨hp, hne⟩
    · exact setRow_heap w g cs cs' t _ hg
    · rw [setRow_other w g p.1 cs' hne]; exact h.2 p hp⟩
theorem st_row {o : Oper} {a : Act} {K K' : List (Nat × Obj)} {ty t : TypeId} {x y : Operand} {g off : Nat} {cs cs' : Array Value} {v : Value} (ho : o.op = .store ty x y) (hx : a.eval x = .pointer (some ⟨g, off, none⟩)) (hv : a.eval y = v)
    (hm : (g, .cells cs t (0, 0)) ∈ K) (hB : W0.heap.size ≤ g) (hi : (P.info? ty).map (·.size) = some v.cells.size)
    (hfit : off + v.cells.size ≤ cs.size) (h1 : ∀ x ∈ v.cells.toList, x.oneCell' = true)
    (hcs : cs' = (cs.toList.take off ++ v.cells.toList ++ cs.toList.drop (off + v.cells.toList.length)).toArray)
    (hK : ∀ p ∈ K', p = (g, .cells cs' t (0, 0)) ∨ (p ∈ K ∧ p.1 ≠ g)) : ∀ w, KS W0 K w → ∃ w', (execOp a.eval o).run P w = .ok .skip w' ∧ KS W0 K' w' := by
  intro w hw
  have hg := hw.2 _ hm
  subst hcs
  refine ⟨_, ?_, hw.setRow hB hg hK⟩
  have hr := run_storeVar_mid (P := P) (ty := ty) (v := v) w hg hi hfit h1
  simp only [execOp, ho, hx, hv, Instr.storeAt, Instr.sureAddr, Sem.run_bind, Sem.run_pure, Result.andThen_ok, hr]
def aggD (d : TypeDesc) : Bool := match d with | .struct _ | .array _ _ => true | _ => false
/-- A load of a whole variable, or of a part of one. -/
theorem run_loadVar_mid {g off n : Nat} {cs : Array Value} {t ty : TypeId} {d : TypeDesc} (w : World) (hg : w.heap[g]? = some (.cells cs t (0, 0)))
    (hu : P.underlying ty = some d) (hd : aggD d = true) (hi : (P.info? ty).map (·.size) = some n) (hfit : off + n ≤ cs.size) :
    (loadVar ty ⟨g, off, none⟩).run P w = .ok (.agg ((cs.toList.drop off).take n).toArray) w := by
  have hlen : ((cs.toList.drop off).take n).length = n := by simp; omega
  have hl : (loadCells ⟨g, off, none⟩ ((cs.toList.drop off).take n).length).run P w = .ok ((cs.toList.drop off).take n).toArray w :=
    run_loadCells_list (P := P) w ⟨g, off, none⟩ _ (fun j v hv => by
      have hadd : (⟨g, off, none⟩ : Addr).add j = ⟨g, off + j, none⟩ := by unfold Addr.add; split <;> simp_all
      rw [hadd, cell_of_row w g (off + j) cs t (0, 0) hg]
      obtain ⟨hj, hv⟩ := List.getElem?_eq_some_iff.1 hv
      rw [hlen] at hj
      rw [List.getElem_take, List.getElem_drop] at hv
      rw [Array.getElem?_eq_getElem (by omega), ← hv]
      simp)
  rw [hlen] at hl
  cases hq : P.info? ty with
  | none => simp [hq] at hi
  | some i =>
    have hs : i.size = n := by simpa [hq] using hi
    have hagg : (isAgg ty).run P w = .ok true w := by
      unfold isAgg
      rw [Sem.run_bind, run_underlying hu w]
      unfold aggD at hd
      cases d <;> simp_all
    simp [loadVar, Sem.run_bind, hagg, Go.sizeOf, typeInfo, hq, hs, hl]
theorem yb_load {o : Oper} {a : Act} {K : List (Nat × Obj)} {ty t : TypeId} {x : Operand} {g off n : Nat} {cs vs : Array Value} {d : TypeDesc} (ho : o.op = .load ty x) (hx : a.eval x = .pointer (some ⟨g, off, none⟩))
    (hm : (g, .cells cs t (0, 0)) ∈ K) (hu : P.underlying ty = some d) (hd : aggD d = true) (hi : (P.info? ty).map (·.size) = some n) (hfit : off + n ≤ cs.size)
    (hvs : vs = ((cs.toList.drop off).take n).toArray) :
    ∀ w, KS W0 K w → ∀ K' : Act → World → Prop, (∀ w', Below w.heap.size w w' → K' (a.put o.dst (.agg vs)) w') → Oper.wp P o a w K' (fun _ _ _ => False) := by
  intro w hw K' hk
  have hr := run_loadVar_mid (P := P) (ty := ty) w (hw.2 _ hm) hu hd hi hfit
  unfold Oper.wp execOp
  simp only [ho, hx, Instr.loadAt, Instr.sureAddr, Sem.run_bind, Sem.run_pure, Result.andThen_ok, hr]
  subst hvs
  exact hk w (Below.refl _ _)

theorem wpList_ld {ops : Array Oper} {rest : List Oper} {o : Oper} {a : Act} {w : World} {Q : Exit → Act → World → Prop} (hgd : o.guard = none) {ty t : TypeId} {x : Operand} {g off n : Nat} {cs vs : Array Value} {d : TypeDesc} (ho : o.op = .load ty x)
    (hx : a.eval x = .pointer (some ⟨g, off, none⟩)) (hg : w.heap[g]? = some (.cells cs t (0, 0))) (hu : P.underlying ty = some d) (hd : aggD d = true)
    (hi : (P.info? ty).map (·.size) = some n) (hfit : off + n ≤ cs.size) (hvs : vs = ((cs.toList.drop off).take n).toArray)
    (h : wpList P ops Q rest (a.put o.dst (.agg vs)) w) : wpList P ops Q (o :: rest) a w :=
  wpList_plain hgd fun _ hK => by
    have hr := run_loadVar_mid (P := P) (ty := ty) w hg hu hd hi hfit
    unfold Oper.wp execOp
    simp only [ho, hx, Instr.loadAt, Instr.sureAddr, Sem.run_bind, Sem.run_pure, Result.andThen_ok, hr]
    subst hvs
    exact hK _ _ h
theorem wpList_stm {ops : Array Oper} {rest : List Oper} {o : Oper} {a : Act} {w : World} {Q : Exit → Act → World → Prop} (hgd : o.guard = none) {ty t : TypeId} {x y : Operand} {g off : Nat} {cs cs' : Array Value} {v : Value} (ho : o.op = .store ty x y)
    (hx : a.eval x = .pointer (some ⟨g, off, none⟩)) (hv : a.eval y = v) (hg : w.heap[g]? = some (.cells cs t (0, 0))) (hi : (P.info? ty).map (·.size) = some v.cells.size)
    (hfit : off + v.cells.size ≤ cs.size) (h1 : ∀ x ∈ v.cells.toList, x.oneCell' = true)
    (hcs : cs' = (cs.toList.take off ++ v.cells.toList ++ cs.toList.drop (off + v.cells.toList.length)).toArray)
    (h : wpList P ops Q rest (a.put o.dst undef) (w.setRow g cs')) : wpList P ops Q (o :: rest) a w :=
  wpList_plain hgd fun _ hK => by
    have hr := run_storeVar_mid (P := P) (ty := ty) (v := v) w hg hi hfit h1
    unfold Oper.wp execOp
    simp only [ho, hx, hv, Instr.storeAt, Instr.sureAddr, Sem.run_bind, Sem.run_pure, Result.andThen_ok, hr]
    subst hcs
    exact hK _ _ h

theorem run_loadVar_all {g : Nat} {cs : Array Value} {t ty : TypeId} {d : TypeDesc} (w : World) (hg : w.heap[g]? = some (.cells cs t (0, 0)))
    (hu : P.underlying ty = some d) (hd : aggD d = true) (hi : (P.info? ty).map (·.size) = some cs.size) : (loadVar ty ⟨g, 0, none⟩).run P w = .ok (.agg cs) w := by
  have h := run_loadVar_mid (P := P) (ty := ty) (off := 0) w hg hu hd hi (by omega)
  have e : ((cs.toList.drop 0).take cs.size).toArray = cs := by
    rw [List.drop_zero, List.take_of_length_le (by simp)]
  rw [e] at h
  exact h
theorem res_cell {fn : Func} {p : Tmp} {ty : TypeId} (h : fn.results = #[.cell p ty]) {tmps : Array Value} {w : World} {g : Nat} {t : TypeId} {cs : Array Value} {d : TypeDesc}
    (hp : tmps.getD p undef = .pointer (some ⟨g, 0, none⟩)) (hg : w.heap[g]? = some (.cells cs t (0, 0)))
    (hu : P.underlying ty = some d) (hd : aggD d = true) (hi : (P.info? ty).map (·.size) = some cs.size) :
    (results fn tmps).run P w = .ok (.agg cs) w := by
  have hp' : tmps[p]?.getD undef = .pointer (some ⟨g, 0, none⟩) := by simpa using hp
  simp [results, h, hp', asAddr, run_loadVar_all w hg hu hd hi]
theorem res_cell_tmp {fn : Func} {p q : Tmp} {ty : TypeId} (h : fn.results = #[.cell p ty, .tmp q]) {tmps : Array Value} {w : World} {g : Nat} {t : TypeId} {cs : Array Value} {d : TypeDesc}
    (hp : tmps.getD p undef = .pointer (some ⟨g, 0, none⟩)) (hg : w.heap[g]? = some (.cells cs t (0, 0)))
    (hu : P.underlying ty = some d) (hd : aggD d = true) (hi : (P.info? ty).map (·.size) = some cs.size) :
    (results fn tmps).run P w = .ok (.tuple #[.agg cs, tmps.getD q undef]) w := by
  have hp' : tmps[p]?.getD undef = .pointer (some ⟨g, 0, none⟩) := by simpa using hp
  simp [results, h, hp', asAddr, run_loadVar_all w hg hu hd hi]
theorem res_tmp_cell {fn : Func} {p q : Tmp} {ty : TypeId} (h : fn.results = #[.tmp q, .cell p ty]) {tmps : Array Value} {w : World} {g : Nat} {t : TypeId} {cs : Array Value} {d : TypeDesc}
    (hp : tmps.getD p undef = .pointer (some ⟨g, 0, none⟩)) (hg : w.heap[g]? = some (.cells cs t (0, 0)))
    (hu : P.underlying ty = some d) (hd : aggD d = true) (hi : (P.info? ty).map (·.size) = some cs.size) :
    (results fn tmps).run P w = .ok (.tuple #[tmps.getD q undef, .agg cs]) w := by
  have hp' : tmps[p]?.getD undef = .pointer (some ⟨g, 0, none⟩) := by simpa using hp
  simp [results, h, hp', asAddr, run_loadVar_all w hg hu hd hi]
theorem res_cell_cell {fn : Func} {p q : Tmp} {ty uy : TypeId} (h : fn.results = #[.cell p ty, .cell q uy]) {tmps : Array Value} {w : World} {g g' : Nat} {t t' : TypeId} {cs cs' : Array Value} {d d' : TypeDesc}
    (hp : tmps.getD p undef = .pointer (some ⟨g, 0, none⟩)) (hg : w.heap[g]? = some (.cells cs t (0, 0)))
    (hu : P.underlying ty = some d) (hd : aggD d = true) (hi : (P.info? ty).map (·.size) = some cs.size)
    (hq : tmps.getD q undef = .pointer (some ⟨g', 0, none⟩)) (hg' : w.heap[g']? = some (.cells cs' t' (0, 0)))
    (hu' : P.underlying uy = some d') (hd' : aggD d' = true) (hi' : (P.info? uy).map (·.size) = some cs'.size) :
    (results fn tmps).run P w = .ok (.tuple #[.agg cs, .agg cs']) w := by
  have hp' : tmps[p]?.getD undef = .pointer (some ⟨g, 0, none⟩) := by simpa using hp
  have hq' : tmps[q]?.getD undef = .pointer (some ⟨g', 0, none⟩) := by simpa using hq
  simp [results, h, hp', hq', asAddr, run_loadVar_all w hg hu hd hi, run_loadVar_all w hg' hu' hd' hi']

/-- 'copy' into a known row, as a step of a region that draws its order: the world written out. -/
theorem step_copy_at {o : Oper} {a : Act} {w : World} {K : Act → World → Prop} {E : Prop} (hgd : o.guard = none) (d s : Operand) (dT sT : TypeId)
    (ho : o.op = .call { callee := .builtin .copy, args := #[d, s], argTypes := #[dT, sT] }) (elem : TypeId) (hu : P.underlying dT = some (.slice elem)) (hsz : (P.info? elem).map (·.size) = some 1)
    (g off dLen dCap : Nat) (ad : Addr) (sLen sCap : Nat) (hd : a.eval d = .slice (some ⟨g, off, none⟩) dLen dCap) (hs : a.eval s = .slice (some ad) sLen sCap)
    (cur : Array Value) (t : TypeId) (hg : w.heap[g]? = some (.cells cur t (0, 0))) (cs : List Value) (hn : cs.length = Nat.min sLen dLen)
    (hsrc : ∀ j v, cs[j]? = some v → w.cell? (ad.add j) = some v) (hfit : off + cs.length ≤ cur.size) (h1 : ∀ v ∈ cs, v.oneCell' = true)
    (h : K (a.put o.dst (goInt cs.length)) (w.setRow g (splice cur.toList off cs).toArray)) :
    if Region.wanted o (yielded ops a.tmps) = true then Oper.wp P o a w K Q else E := by
  have hw : Region.wanted o (yielded ops a.tmps) = true := by simp [Region.wanted, hgd]
  rw [if_pos hw]
  have hrun := run_copy_row (P := P) w dT sT o.type elem g off dLen dCap ad sLen sCap cur t cs hu hsz hg hn hsrc hfit h1
  unfold Oper.wp
  simp [execOp, ho, resolve, invoke, builtin, hd, hs, hrun, Result.andThen]
  exact h

theorem yb_pure {o : Oper} {a : Act} {K : List (Nat × Obj)} {v : Value} (h : ∀ w, (execOp a.eval o).run P w = .ok (.value v) w) :
    ∀ w, KS W0 K w → ∀ K' : Act → World → Prop, (∀ w', Below w.heap.size w w' → K' (a.put o.dst v) w') → Oper.wp P o a w K' (fun _ _ _ => False) := by
  intro w _ K' hk
  unfold Oper.wp
  rw [h w]
  exact hk w (Below.refl _ _)
/-- a call of a function of the program, by its contract -/
theorem yb_call {o : Oper} {a : Act} {K : List (Nat × Obj)} {v : Value} {f : FuncId} {args : Array Value} (hf : ∀ w, (execOp a.eval o).run P w = .ok (.enter f args) w)
    (h : ∀ w, KS W0 K w → Calls P f args w fun e w' => e = .returned v ∧ Below w.heap.size w w') :
    ∀ w, KS W0 K w → ∀ K' : Act → World → Prop, (∀ w', Below w.heap.size w w' → K' (a.put o.dst v) w') → Oper.wp P o a w K' (fun _ _ _ => False) := by
  intro w hw K' hk
  unfold Oper.wp
  rw [hf w]
  refine (h w hw).mono fun e w' ⟨he, hb⟩ => ?_
  subst he
  exact hk w' hb
end
end Tw
