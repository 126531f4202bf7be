import Derived.Test.YtkfcikijmkgahaaDoorG03
/- Part of the proof: Rv, Al. -/
set_option linter.unusedVariables false
set_option linter.unusedSimpArgs false
set_option linter.unusedSectionVars false
/- The law of regions over known blocks (Rg, Yb) once more, for values of new blocks other than pointers (slices of parts). Nothing of the program. -/
namespace Tw
open Go Go.RowKit Go.Proofs.YtkfcikijmkgahaaDoor
section
variable {P : Program} {ops : Array Oper} {Q : Exit → Act → World → Prop} {md : Region.Mode} {W0 : World}
def AV (P : Program) (ops : Array Oper) (o : Oper) (obj : Obj) (mk : Nat → Value) (a : Act) : Prop :=
  Region.wanted o (yielded ops a.tmps) = true ∧ ∀ w, (execOp a.eval o).run P w = .ok (.value (mk w.heap.size)) (w.alloc obj)

theorem AV.of_same {o : Oper} {obj : Obj} {mk : Nat → Value} {a a' : Act} (hy : AV P ops o obj mk a) (he : execOp a'.eval o = execOp a.eval o)
    (hw : Region.wanted o (yielded ops a'.tmps) = Region.wanted o (yielded ops a.tmps)) : AV P ops o obj mk a' := by
  unfold AV at *
  rw [he, hw]
  exact hy

/-- Whatever order is drawn, in every world of K. -/
def wpV (P : Program) (md : Region.Mode) (ops : Array Oper) (Q : Exit → Act → World → Prop) (W0 : World) : Nat → Array Bool → Act → List (Nat × Obj) → Prop
  | 0, listed, a, K => Region.ready md ops listed = [] ∧ ∀ w, KS W0 K w → Q .normal a w
  | n + 1, listed, a, K =>
    (Region.ready md ops listed = [] → ∀ w, KS W0 K w → Q .normal a w) ∧
    ∀ i ∈ Region.ready md ops listed, ∃ o, ops[i]? = some o ∧
      ((∃ v, YB P ops W0 K o v a ∧ wpV P md ops Q W0 n (listed.setIfInBounds i true) (a.put o.dst v) K) ∨
       (∃ obj, ∃ mk : Nat → Value, AV P ops o obj mk a ∧ ∀ g, W0.heap.size ≤ g → (∀ p ∈ K, p.1 ≠ g) → wpV P md ops Q W0 n (listed.setIfInBounds i true) (a.put o.dst (mk g)) ((g, obj) :: K)) ∨
       (isStore o = true ∧ ∃ K', ST P ops W0 K K' o a ∧ wpV P md ops Q W0 n (listed.setIfInBounds i true) (a.put o.dst undef) K'))

theorem wpV_sound : ∀ (n : Nat) (listed : Array Bool) (a : Act) (K : List (Nat × Obj)), wpV P md ops Q W0 n listed a K → ∀ w, KS W0 K w → wpAny P md ops Q n listed a w
  | 0, _, _, _, h, w, hw => ⟨h.1, h.2 w hw⟩
  | n + 1, listed, a, K, h, w, hw => by
    refine ⟨fun hr => h.1 hr w hw, fun i hi => ?_⟩
    obtain ⟨o, ho, hc⟩ := h.2 i hi
    refine wpOp_step ho fun K' hK' => ?_
    rcases hc with ⟨v, hy, hu⟩ | ⟨obj, mk, hal, hu⟩ | ⟨_, K2, hst, hu⟩
    · rcases hy with ⟨hwn, hto⟩ | ⟨hwn, rfl⟩
      · rw [if_pos hwn]
        exact (hto w hw).wp fun u w' ⟨hu', hb⟩ => by subst hu'; exact hK' _ _ (wpV_sound n _ _ _ hu w' (hw.below hb))
      · rw [if_neg (by rw [hwn]; decide)]
        exact hK' _ _ (wpV_sound n _ _ _ hu w hw)
    · rw [if_pos hal.1]
      unfold Oper.wp
      rw [hal.2 w]
      refine hK' _ _ (wpV_sound n _ _ _ (hu w.heap.size hw.1.size (fun p hp e => ?_)) _ (hw.alloc obj))
      have := lt_of_block (hw.2 p hp)
      omega
    · rw [if_pos hst.1]
      obtain ⟨w', hrun, hw'⟩ := hst.2 w hw
      unfold Oper.wp
      rw [hrun]
      exact hK' _ _ (wpV_sound n _ _ _ hu w' hw')


/-- A value may be taken first. -/
theorem wpV_first {i : Nat} {oi : Oper} {v : Value} (hi : ops[i]? = some oi) (hsel : ∀ (j : Nat) (o : Oper) cs b, ops[j]? = some o → o.op ≠ .select cs b) :
    ∀ (n : Nat) (listed : Array Bool) (a : Act) (K : List (Nat × Obj)), closed md ops listed →
      (∀ j oj, ops[j]? = some oj → j ≠ i → listed.getD j true = false → (∀ e ∈ oj.after, Region.binds md e = true → e.on ≠ i) → oi.apart ops oj = true) →
      i ∈ Region.ready md ops listed → ((∀ K', YB P ops W0 K' oi v a) ∨ (YB P ops W0 K oi v a ∧ ∀ j o, ops[j]? = some o → isStore o = true → ∃ m, waits md ops m j i = true)) →
      wpV P md ops Q W0 n (listed.setIfInBounds i true) (a.put oi.dst v) K → wpV P md ops Q W0 (n + 1) listed a K := by
  intro n
  induction n with
  | zero =>
    intro listed a K _ _ hr hy H
    refine ⟨fun h => (by rw [h] at hr; cases hr), fun j hj => ?_⟩
    by_cases hji : j = i
    · subst hji
      exact ⟨oi, hi, .inl ⟨v, hy.elim (fun h => h K) (fun h => h.1), H⟩⟩
    · have := ready_mono hj hji
      rw [H.1] at this
      cases this
  | succ n ih =>
    intro listed a K hcl hfree hr hy H
    refine ⟨fun h => (by rw [h] at hr; cases hr), fun j hj => ?_⟩
    by_cases hji : j = i
    · subst hji
      exact ⟨oi, hi, .inl ⟨v, hy.elim (fun h => h K) (fun h => h.1), H⟩⟩
    · obtain ⟨oj, hoj, hc⟩ := H.2 j (ready_mono hj hji)
      obtain ⟨hjun, oj', hoj', hall⟩ := mem_ready.1 hj
      rw [hoj] at hoj'
      cases hoj'
      have hiun := (mem_ready.1 hr).1
      have hnot : ∀ e ∈ oj.after, Region.binds md e = true → e.on ≠ i := fun e he hb heq => by
        have h1 := hall e he hb
        rw [heq, unlisted_false hiun] at h1
        cases h1
      have hap := hfree j oj hoj hji hjun hnot
      obtain ⟨h1, h2, h3⟩ := Oper.apart_spec hap
      have hfree' : ∀ k ok, ops[k]? = some ok → k ≠ i → (listed.setIfInBounds j true).getD k true = false →
          (∀ e ∈ ok.after, Region.binds md e = true → e.on ≠ i) → oi.apart ops ok = true := fun k ok hk hki hun hno => by
        refine hfree k ok hk hki ?_ hno
        by_cases hjk : j = k
        · subst hjk; exact hjun
        · rw [getD_set_ne true hjk] at hun; exact hun
      have hsi : ∀ cs b, oi.op ≠ .select cs b := fun cs b => hsel i oi cs b hi
      have hsj : ∀ cs b, oj.op ≠ .select cs b := fun cs b => hsel j oj cs b hoj
      have keep : ∀ K' u, YB P ops W0 K' oi v a → YB P ops W0 K' oi v (a.put oj.dst u) := fun K' u h => h.of_same (execOp_put oi hsi a oj.dst u h3) (wanted_put oi a oj.dst u h3)
      have eqe : execOp (a.put oi.dst v).eval oj = execOp a.eval oj := execOp_put oj hsj a oi.dst v h1
      have eqw : Region.wanted oj (yielded ops (a.put oi.dst v).tmps) = Region.wanted oj (yielded ops a.tmps) := wanted_put oj a oi.dst v h1
      refine ⟨oj, hoj, ?_⟩
      rcases hc with ⟨u, hyj, hu⟩ | ⟨obj, mk, hal, hu⟩ | ⟨hs, K2, hst2, hu⟩
      · refine .inl ⟨u, hyj.of_same eqe.symm eqw.symm, ih _ _ _ (closed_set hcl hj) hfree' (ready_mono hr (Ne.symm hji)) (hy.imp (fun h K' => keep K' u (h K')) (fun h => ⟨keep K u h.1, h.2⟩)) ?_⟩
        rw [Array.setIfInBounds_comm _ _ hji, ← Act.put_comm a v u h2]
        exact hu
      · refine .inr (.inl ⟨obj, mk, hal.of_same eqe.symm eqw.symm, fun g hg hgk => ih _ _ _ (closed_set hcl hj) hfree' (ready_mono hr (Ne.symm hji)) (hy.imp (fun h K' => keep K' _ (h K')) (fun h => ⟨(keep K _ h.1).more, h.2⟩)) ?_⟩)
        rw [Array.setIfInBounds_comm _ _ hji, ← Act.put_comm a v _ h2]
        exact hu g hg hgk
      · rcases hy with hy | ⟨hy, hwait⟩
        · refine .inr (.inr ⟨hs, K2, ⟨by rw [← eqw]; exact hst2.1, fun w hw => by rw [← eqe]; exact hst2.2 w hw⟩, ih _ _ _ (closed_set hcl hj) hfree' (ready_mono hr (Ne.symm hji)) (.inl fun K' => keep K' _ (hy K')) ?_⟩)
          rw [Array.setIfInBounds_comm _ _ hji, ← Act.put_comm a v _ h2]
          exact hu
        · obtain ⟨m, hm⟩ := hwait j oj hoj hs
          exact (not_waits hcl (unlisted_false hiun) m j oj hoj hm hall).elim


/-- THE STEP: a value (a call too), in the text's order. -/
theorem wpV_val {i : Nat} {oi : Oper} {v : Value} {d n : Nat} {listed : Array Bool} {a : Act} {K : List (Nat × Obj)} (hi : ops[i]? = some oi) (hd : oi.dst = some d) (hlt : Nat.blt d a.tmps.size = true)
    (hf : freeAll md ops listed i = true) (hw : Region.wanted oi (yielded ops a.tmps) = true)
    (hy : ∀ w, KS W0 K w → ∀ K' : Act → World → Prop, (∀ w', Below w.heap.size w w' → K' (a.put oi.dst v) w') → Oper.wp P oi a w K' (fun _ _ _ => False))
    (h : wpV P md ops Q W0 n (listed.setIfInBounds i true) (a.put oi.dst v) K) : wpV P md ops Q W0 (n + 1) listed a K := by
  unfold freeAll at hf
  simp only [Bool.and_eq_true] at hf
  obtain ⟨h1, h2, h3, h4, h5⟩ := hf
  exact wpV_first hi (Region.noSelect_spec h1) n listed a K (closed_of h4) (Region.free_spec hi h2) (by simpa using h3)
    (.inr ⟨.inl ⟨hw, fun w hk => Oto.of_wp hd (Nat.le_of_ble_eq_true hlt) (hy w hk)⟩, storesWait_spec h5⟩) h
/-- THE STEP: an operation whose guard says no. -/
theorem wpV_not {i : Nat} {oi : Oper} {n : Nat} {listed : Array Bool} {a : Act} {K : List (Nat × Obj)} (hi : ops[i]? = some oi)
    (hf : freeAll md ops listed i = true) (hw : Region.wanted oi (yielded ops a.tmps) = false)
    (h : wpV P md ops Q W0 n (listed.setIfInBounds i true) (a.put oi.dst undef) K) : wpV P md ops Q W0 (n + 1) listed a K := by
  unfold freeAll at hf
  simp only [Bool.and_eq_true] at hf
  obtain ⟨h1, h2, h3, h4, h5⟩ := hf
  exact wpV_first hi (Region.noSelect_spec h1) n listed a K (closed_of h4) (Region.free_spec hi h2) (by simpa using h3)
    (.inl fun _ => .inr ⟨hw, rfl⟩) h
/-- THE STEP: the one that is ready makes a variable. -/
theorem wpV_alloc {i : Nat} {oi : Oper} {obj : Obj} (mk : Nat → Value) {n : Nat} {listed : Array Bool} {a : Act} {K : List (Nat × Obj)} (hi : ops[i]? = some oi) (hr : Region.ready md ops listed = [i])
    (hw : Region.wanted oi (yielded ops a.tmps) = true) (hal : ∀ w, (execOp a.eval oi).run P w = .ok (.value (mk w.heap.size)) (w.alloc obj))
    (h : ∀ g, W0.heap.size ≤ g → (∀ p ∈ K, p.1 ≠ g) → wpV P md ops Q W0 n (listed.setIfInBounds i true) (a.put oi.dst (mk g)) ((g, obj) :: K)) : wpV P md ops Q W0 (n + 1) listed a K :=
  ⟨fun h0 => (by rw [hr] at h0; cases h0), fun j hj => by
    rw [hr] at hj
    cases List.mem_singleton.1 hj
    exact ⟨oi, hi, .inr (.inl ⟨obj, mk, ⟨hw, hal⟩, h⟩)⟩⟩
/-- THE STEP: two that make variables. -/
theorem wpV_alloc2 {i j : Nat} {oi oj : Oper} {obi obj : Obj} (mki mkj : Nat → Value) {n : Nat} {listed : Array Bool} {a : Act} {K : List (Nat × Obj)} (hi : ops[i]? = some oi) (hj : ops[j]? = some oj) (hr : Region.ready md ops listed = [i, j])
    (hwi : Region.wanted oi (yielded ops a.tmps) = true) (hwj : Region.wanted oj (yielded ops a.tmps) = true)
    (hai : ∀ w, (execOp a.eval oi).run P w = .ok (.value (mki w.heap.size)) (w.alloc obi))
    (haj : ∀ w, (execOp a.eval oj).run P w = .ok (.value (mkj w.heap.size)) (w.alloc obj))
    (h1 : ∀ g, W0.heap.size ≤ g → (∀ p ∈ K, p.1 ≠ g) → wpV P md ops Q W0 n (listed.setIfInBounds i true) (a.put oi.dst (mki g)) ((g, obi) :: K))
    (h2 : ∀ g, W0.heap.size ≤ g → (∀ p ∈ K, p.1 ≠ g) → wpV P md ops Q W0 n (listed.setIfInBounds j true) (a.put oj.dst (mkj g)) ((g, obj) :: K)) : wpV P md ops Q W0 (n + 1) listed a K :=
  ⟨fun h0 => (by rw [hr] at h0; cases h0), fun k hk => by
    rw [hr] at hk
    rcases List.mem_cons.1 hk with rfl | hk
    · exact ⟨oi, hi, .inr (.inl ⟨obi, mki, ⟨hwi, hai⟩, h1⟩)⟩
    · cases List.mem_singleton.1 hk
      exact ⟨oj, hj, .inr (.inl ⟨obj, mkj, ⟨hwj, haj⟩, h2⟩)⟩⟩
/-- THE STEP: the one that is ready stores. -/
theorem wpV_store {i : Nat} {oi : Oper} {n : Nat} {listed : Array Bool} {a : Act} {K K' : List (Nat × Obj)} (hi : ops[i]? = some oi) (hr : Region.ready md ops listed = [i])
    (hs : isStore oi = true) (hw : Region.wanted oi (yielded ops a.tmps) = true) (hst : ∀ w, KS W0 K w → ∃ w', (execOp a.eval oi).run P w = .ok .skip w' ∧ KS W0 K' w')
    (h : wpV P md ops Q W0 n (listed.setIfInBounds i true) (a.put oi.dst undef) K') : wpV P md ops Q W0 (n + 1) listed a K :=
  ⟨fun h0 => (by rw [hr] at h0; cases h0), fun j hj => by
    rw [hr] at hj
    cases List.mem_singleton.1 hj
    exact ⟨oi, hi, .inr (.inr ⟨hs, K', ⟨hw, hst⟩, h⟩)⟩⟩
/-- one of those that are ready, whatever it is -/
def StepV (P : Program) (md : Region.Mode) (ops : Array Oper) (Q : Exit → Act → World → Prop) (W0 : World) (n : Nat) (listed : Array Bool) (a : Act) (K : List (Nat × Obj)) (i : Nat) : Prop :=
  ∃ o, ops[i]? = some o ∧
      ((∃ v, YB P ops W0 K o v a ∧ wpV P md ops Q W0 n (listed.setIfInBounds i true) (a.put o.dst v) K) ∨
       (∃ obj, ∃ mk : Nat → Value, AV P ops o obj mk a ∧ ∀ g, W0.heap.size ≤ g → (∀ p ∈ K, p.1 ≠ g) → wpV P md ops Q W0 n (listed.setIfInBounds i true) (a.put o.dst (mk g)) ((g, obj) :: K)) ∨
       (isStore o = true ∧ ∃ K', ST P ops W0 K K' o a ∧ wpV P md ops Q W0 n (listed.setIfInBounds i true) (a.put o.dst undef) K'))
theorem stepV_val {i : Nat} {oi : Oper} {v : Value} {d n : Nat} {listed : Array Bool} {a : Act} {K : List (Nat × Obj)} (hi : ops[i]? = some oi) (hd : oi.dst = some d) (hlt : Nat.blt d a.tmps.size = true)
    (hw : Region.wanted oi (yielded ops a.tmps) = true)
    (hy : ∀ w, KS W0 K w → ∀ K' : Act → World → Prop, (∀ w', Below w.heap.size w w' → K' (a.put oi.dst v) w') → Oper.wp P oi a w K' (fun _ _ _ => False))
    (h : wpV P md ops Q W0 n (listed.setIfInBounds i true) (a.put oi.dst v) K) : StepV P md ops Q W0 n listed a K i :=
  ⟨oi, hi, .inl ⟨v, .inl ⟨hw, fun w hk => Oto.of_wp hd (Nat.le_of_ble_eq_true hlt) (hy w hk)⟩, h⟩⟩
theorem stepV_store {i : Nat} {oi : Oper} {n : Nat} {listed : Array Bool} {a : Act} {K K' : List (Nat × Obj)} (hi : ops[i]? = some oi)
    (hs : isStore oi = true) (hw : Region.wanted oi (yielded ops a.tmps) = true) (hst : ∀ w, KS W0 K w → ∃ w', (execOp a.eval oi).run P w = .ok .skip w' ∧ KS W0 K' w')
    (h : wpV P md ops Q W0 n (listed.setIfInBounds i true) (a.put oi.dst undef) K') : StepV P md ops Q W0 n listed a K i :=
  ⟨oi, hi, .inr (.inr ⟨hs, K', ⟨hw, hst⟩, h⟩)⟩
theorem stepV_alloc {i : Nat} {oi : Oper} {obj : Obj} (mk : Nat → Value) {n : Nat} {listed : Array Bool} {a : Act} {K : List (Nat × Obj)} (hi : ops[i]? = some oi)
    (hw : Region.wanted oi (yielded ops a.tmps) = true) (hal : ∀ w, (execOp a.eval oi).run P w = .ok (.value (mk w.heap.size)) (w.alloc obj))
    (h : ∀ g, W0.heap.size ≤ g → (∀ p ∈ K, p.1 ≠ g) → wpV P md ops Q W0 n (listed.setIfInBounds i true) (a.put oi.dst (mk g)) ((g, obj) :: K)) : StepV P md ops Q W0 n listed a K i :=
  ⟨oi, hi, .inr (.inl ⟨obj, mk, ⟨hw, hal⟩, h⟩)⟩
/-- ONE IS READY; TWO ARE. -/
theorem wpV_1 {i n : Nat} {listed : Array Bool} {a : Act} {K : List (Nat × Obj)} (hr : Region.ready md ops listed = [i]) (h : StepV P md ops Q W0 n listed a K i) : wpV P md ops Q W0 (n + 1) listed a K :=
  ⟨fun h0 => (by rw [hr] at h0; cases h0), fun j hj => by
    rw [hr] at hj
    cases List.mem_singleton.1 hj
    exact h⟩
theorem wpV_2 {i j n : Nat} {listed : Array Bool} {a : Act} {K : List (Nat × Obj)} (hr : Region.ready md ops listed = [i, j]) (h : StepV P md ops Q W0 n listed a K i) (h' : StepV P md ops Q W0 n listed a K j) : wpV P md ops Q W0 (n + 1) listed a K :=
  ⟨fun h0 => (by rw [hr] at h0; cases h0), fun k hk => by
    rw [hr] at hk
    rcases List.mem_cons.1 hk with rfl | hk
    · exact h
    · cases List.mem_singleton.1 hk
      exact h'⟩
theorem wpV_done {listed : Array Bool} {a : Act} {K : List (Nat × Obj)} (hr : Region.ready md ops listed = []) (h : ∀ w, KS W0 K w → Q .normal a w) : ∀ n, wpV P md ops Q W0 n listed a K
  | 0 => ⟨hr, h⟩
  | _ + 1 => ⟨fun _ => h, by rw [hr]; simp⟩
/-- THE BEGINNING. -/
theorem wp_region_V {id : Nat} {a : Act} {w : World} (K : List (Nat × Obj)) (hm : P.follows .mixedOrders = true) (hK : KS W0 K w)
    (h : wpV P .any ops Q W0 ops.size (Array.replicate ops.size false) a K) : (Code.region id ops true).wp P Q a w :=
  wp_region_any hm (wpV_sound _ _ _ _ h _ hK.drew)

/-- A value's step, with the slots spelled out. -/
theorem wpV_v {md : Region.Mode} {ops : Array Oper} {Q : Exit → Act → World → Prop} {i : Nat} {oi : Oper} {v : Value} {d n : Nat} {listed : Array Bool} {tm : Array Value} {df : List Deferred} {K : List (Nat × Obj)} (hi : ops[i]? = some oi) (hd : oi.dst = some d) (hlt : Nat.blt d tm.size = true)
    (hf : freeAll md ops listed i = true) (hw : Region.wanted oi (yielded ops tm) = true)
    (hy : ∀ w, KS W0 K w → ∀ K' : Act → World → Prop, (∀ w', Below w.heap.size w w' → K' (Act.put ⟨tm, df⟩ oi.dst v) w') → Oper.wp P oi ⟨tm, df⟩ w K' (fun _ _ _ => False))
    {T : Array Value} (hT : tm.setIfInBounds d v = T)
    (h : wpV P md ops Q W0 n (listed.setIfInBounds i true) ⟨T, df⟩ K) : wpV P md ops Q W0 (n + 1) listed ⟨tm, df⟩ K := by
  refine wpV_val hi hd hlt hf hw hy ?_
  rw [hd]
  subst hT
  exact h
theorem wpV_mem : ∀ (n : Nat) (listed : Array Bool) (a : Act) (K K' : List (Nat × Obj)), (∀ p, p ∈ K ↔ p ∈ K') → wpV P md ops Q W0 n listed a K → wpV P md ops Q W0 n listed a K'
  | 0, _, _, _, _, hm, h => ⟨h.1, fun w hw => h.2 w (hw.sub fun p hp => (hm p).1 hp)⟩
  | n + 1, listed, a, K, K', hm, h => by
    have hs : ∀ w, KS W0 K' w → KS W0 K w := fun w hw => hw.sub fun p hp => (hm p).1 hp
    refine ⟨fun hr w hw => h.1 hr w (hs w hw), fun i hi => ?_⟩
    obtain ⟨o, ho, hc⟩ := h.2 i hi
    refine ⟨o, ho, ?_⟩
    rcases hc with ⟨v, hy, hu⟩ | ⟨obj, mk, hal, hu⟩ | ⟨hst, K2, hs2, hu⟩
    · refine .inl ⟨v, ?_, wpV_mem n _ _ K K' hm hu⟩
      rcases hy with ⟨h1, h2⟩ | h1
      · exact .inl ⟨h1, fun w hw => h2 w (hs w hw)⟩
      · exact .inr h1
    · exact .inr (.inl ⟨obj, mk, hal, fun g hg hf => wpV_mem n _ _ ((g, obj) :: K) ((g, obj) :: K') (fun p => by rw [List.mem_cons, List.mem_cons, hm p]) (hu g hg fun p hp => hf p ((hm p).1 hp))⟩)
    · exact .inr (.inr ⟨hst, K2, ⟨hs2.1, fun w hw => hs2.2 w (hs w hw)⟩, hu⟩)
/-- Two variables are made, in either order. -/
theorem wpV_two {i j : Nat} {oi oj : Oper} {d e : Nat} {obi obj : Obj} {n : Nat} {listed : Array Bool} {tm : Array Value} {df : List Deferred} {K : List (Nat × Obj)} {T : Nat → Nat → Array Value}
    (hi : ops[i]? = some oi) (hj : ops[j]? = some oj) (hdi : oi.dst = some d) (hdj : oj.dst = some e) (hgi : oi.guard = none) (hgj : oj.guard = none)
    (hr : Region.ready md ops listed = [i, j]) (hri : Region.ready md ops (listed.setIfInBounds i true) = [j]) (hrj : Region.ready md ops (listed.setIfInBounds j true) = [i])
    (hc : (listed.setIfInBounds j true).setIfInBounds i true = (listed.setIfInBounds i true).setIfInBounds j true)
    (hai : ∀ ρ w, (execOp ρ oi).run P w = .ok (.value (.pointer (some ⟨w.heap.size, 0, none⟩))) (w.alloc obi))
    (haj : ∀ ρ w, (execOp ρ oj).run P w = .ok (.value (.pointer (some ⟨w.heap.size, 0, none⟩))) (w.alloc obj))
    (hT : ∀ g h, (tm.setIfInBounds d (.pointer (some ⟨g, 0, none⟩))).setIfInBounds e (.pointer (some ⟨h, 0, none⟩)) = T g h)
    (hT' : ∀ g h, (tm.setIfInBounds e (.pointer (some ⟨h, 0, none⟩))).setIfInBounds d (.pointer (some ⟨g, 0, none⟩)) = T g h)
    (h : ∀ g h, W0.heap.size ≤ g → W0.heap.size ≤ h → g ≠ h → (∀ p ∈ K, p.1 ≠ g) → (∀ p ∈ K, p.1 ≠ h) → wpV P md ops Q W0 n ((listed.setIfInBounds i true).setIfInBounds j true) ⟨T g h, df⟩ ((g, obi) :: (h, obj) :: K)) :
    wpV P md ops Q W0 (n + 1 + 1) listed ⟨tm, df⟩ K := by
  refine wpV_alloc2 (fun g => .pointer (some ⟨g, 0, none⟩)) (fun g => .pointer (some ⟨g, 0, none⟩)) hi hj hr (wanted_no hgi) (wanted_no hgj) (hai _) (haj _) (fun g hg hf => ?_) (fun g hg hf => ?_)
  · refine wpV_alloc (fun g => .pointer (some ⟨g, 0, none⟩)) hj hri (wanted_no hgj) (haj _) (fun g' hg' hf' => ?_)
    rw [hdi, hdj]
    simp only [Act.put]
    rw [hT g g']
    refine wpV_mem n _ _ _ _ (fun p => ?_) (h g g' hg hg' (fun e => hf' _ (.head _) e) hf fun p hp => hf' p (.tail _ hp))
    simp only [List.mem_cons]; exact ⟨fun | .inl h => .inr (.inl h) | .inr (.inl h) => .inl h | .inr (.inr h) => .inr (.inr h), fun | .inl h => .inr (.inl h) | .inr (.inl h) => .inl h | .inr (.inr h) => .inr (.inr h)⟩
  · refine wpV_alloc (fun g => .pointer (some ⟨g, 0, none⟩)) hi hrj (wanted_no hgi) (hai _) (fun g' hg' hf' => ?_)
    rw [hdi, hdj, hc]
    simp only [Act.put]
    rw [hT' g' g]
    exact h g' g hg' hg (fun e => hf' _ (.head _) e.symm) (fun p hp => hf' p (.tail _ hp)) hf
theorem wpV_new {i : Nat} {oi : Oper} {d : Nat} {obi : Obj} {n : Nat} {listed : Array Bool} {tm : Array Value} {df : List Deferred} {K : List (Nat × Obj)} {T : Nat → Array Value} (mk : Nat → Value)
    (hi : ops[i]? = some oi) (hdi : oi.dst = some d) (hgi : oi.guard = none)
    (hr : Region.ready md ops listed = [i])
    (hai : ∀ ρ w, (execOp ρ oi).run P w = .ok (.value (mk w.heap.size)) (w.alloc obi))
    (hT : ∀ g, (tm.setIfInBounds d (mk g)) = T g)
    (h : ∀ g, W0.heap.size ≤ g → (∀ p ∈ K, p.1 ≠ g) → wpV P md ops Q W0 n (listed.setIfInBounds i true) ⟨T g, df⟩ ((g, obi) :: K)) :
    wpV P md ops Q W0 (n + 1) listed ⟨tm, df⟩ K := by
  refine wpV_alloc mk hi hr (wanted_no hgi) (hai _) (fun g hg hf => ?_)
  rw [hdi]
  simp only [Act.put]
  rw [hT g]
  exact h g hg hf
theorem wpV_s {i : Nat} {oi : Oper} {n : Nat} {listed : Array Bool} {tm : Array Value} {df : List Deferred} {K : List (Nat × Obj)} (K' : List (Nat × Obj)) (hi : ops[i]? = some oi) (hr : Region.ready md ops listed = [i]) (hd : oi.dst = none) (hg : oi.guard = none)
    (hs : isStore oi = true) (hst : ∀ w, KS W0 K w → ∃ w', (execOp (Act.eval ⟨tm, df⟩) oi).run P w = .ok .skip w' ∧ KS W0 K' w')
    (h : wpV P md ops Q W0 n (listed.setIfInBounds i true) ⟨tm, df⟩ K') : wpV P md ops Q W0 (n + 1) listed ⟨tm, df⟩ K := by
  refine wpV_store hi hr hs (wanted_no hg) hst ?_
  rw [hd]
  exact h
/-- A value that asks nothing of the world. -/
theorem wpV_p {i : Nat} {oi : Oper} {v : Value} {d n : Nat} {listed : Array Bool} {tm : Array Value} {df : List Deferred} {K : List (Nat × Obj)} (hi : ops[i]? = some oi) (hd : oi.dst = some d) (hlt : Nat.blt d tm.size = true)
    (hf : freeP md ops listed i = true) (hw : Region.wanted oi (yielded ops tm) = true)
    (hy : ∀ w, (execOp (Act.eval ⟨tm, df⟩) oi).run P w = .ok (.value v) w)
    {T : Array Value} (hT : tm.setIfInBounds d v = T)
    (h : wpV P md ops Q W0 n (listed.setIfInBounds i true) ⟨T, df⟩ K) : wpV P md ops Q W0 (n + 1) listed ⟨tm, df⟩ K := by
  unfold freeP at hf
  simp only [Bool.and_eq_true] at hf
  obtain ⟨h1, h2, h3, h4⟩ := hf
  refine wpV_first (v := v) hi (Region.noSelect_spec h1) n listed _ K (closed_of h4) (Region.free_spec hi h2) (by simpa using h3)
    (.inl fun K' => .inl ⟨hw, fun w hk => Oto.of_wp hd (Nat.le_of_ble_eq_true hlt) (yb_pure (K := K') hy w hk)⟩) ?_
  rw [hd]
  subst hT
  exact h
theorem stepV_v {i : Nat} {oi : Oper} {v : Value} {d n : Nat} {listed : Array Bool} {tm : Array Value} {df : List Deferred} {K : List (Nat × Obj)} (hi : ops[i]? = some oi) (hd : oi.dst = some d) (hlt : Nat.blt d tm.size = true) (hg : oi.guard = none)
    (hy : ∀ w, KS W0 K w → ∀ K' : Act → World → Prop, (∀ w', Below w.heap.size w w' → K' (Act.put ⟨tm, df⟩ oi.dst v) w') → Oper.wp P oi ⟨tm, df⟩ w K' (fun _ _ _ => False))
    {T : Array Value} (hT : tm.setIfInBounds d v = T)
    (h : wpV P md ops Q W0 n (listed.setIfInBounds i true) ⟨T, df⟩ K) : StepV P md ops Q W0 n listed ⟨tm, df⟩ K i := by
  refine stepV_val hi hd hlt (wanted_no hg) hy ?_
  rw [hd]
  subst hT
  exact h
theorem stepV_s {i : Nat} {oi : Oper} {n : Nat} {listed : Array Bool} {tm : Array Value} {df : List Deferred} {K : List (Nat × Obj)} (K' : List (Nat × Obj)) (hi : ops[i]? = some oi) (hd : oi.dst = none) (hg : oi.guard = none)
    (hs : isStore oi = true) (hst : ∀ w, KS W0 K w → ∃ w', (execOp (Act.eval ⟨tm, df⟩) oi).run P w = .ok .skip w' ∧ KS W0 K' w')
    (h : wpV P md ops Q W0 n (listed.setIfInBounds i true) ⟨tm, df⟩ K') : StepV P md ops Q W0 n listed ⟨tm, df⟩ K i := by
  refine stepV_store hi hs (wanted_no hg) hst ?_
  rw [hd]
  exact h
/-- An operation whose guard says no. -/
theorem wpV_n {i : Nat} {oi : Oper} {d n : Nat} {listed : Array Bool} {tm : Array Value} {df : List Deferred} {K : List (Nat × Obj)} (hi : ops[i]? = some oi) (hd : oi.dst = some d)
    (hf : freeAll md ops listed i = true) (hw : Region.wanted oi (yielded ops tm) = false)
    {T : Array Value} (hT : tm.setIfInBounds d undef = T)
    (h : wpV P md ops Q W0 n (listed.setIfInBounds i true) ⟨T, df⟩ K) : wpV P md ops Q W0 (n + 1) listed ⟨tm, df⟩ K := by
  refine wpV_not hi hf hw ?_
  rw [hd]
  subst hT
  exact h

/-- what is made of parts (a slice) -/
theorem wpV_ns {i : Nat} {oi : Oper} {d : Nat} {obi : Obj} {n : Nat} {listed : Array Bool} {tm : Array Value} {df : List Deferred} {K : List (Nat × Obj)} {T : Nat → Array Value} (mk : Nat → Value)
    (hi : ops[i]? = some oi) (hdi : oi.dst = some d) (hgi : oi.guard = none)
    (hr : Region.ready md ops listed = [i])
    (hai : ∀ w, (execOp (Act.eval ⟨tm, df⟩) oi).run P w = .ok (.value (mk w.heap.size)) (w.alloc obi))
    (hT : ∀ g, (tm.setIfInBounds d (mk g)) = T g)
    (h : ∀ g, W0.heap.size ≤ g → (∀ p ∈ K, p.1 ≠ g) → wpV P md ops Q W0 n (listed.setIfInBounds i true) ⟨T g, df⟩ ((g, obi) :: K)) :
    wpV P md ops Q W0 (n + 1) listed ⟨tm, df⟩ K := by
  refine wpV_alloc mk hi hr (wanted_no hgi) hai (fun g hg hf => ?_)
  rw [hdi]
  simp only [Act.put]
  rw [hT g]
  exact h g hg hf
end
end Tw
namespace Go.Proofs.YtkfcikijmkgahaaDoor
open Go.RowKit Tw
set_option maxRecDepth 100000 in
set_option maxHeartbeats 400000 in
theorem all_ok (b n c : Nat) (w : World) (hn : n ≤ 100) (hc : ∀ i, i < n → w.cell? ⟨b, i, none⟩ = some (.int .i64 0)) :
    Calls Tryd.prog 14 #[.slice (some ⟨b, 0, none⟩) n c] w fun e w' => e = .returned (.bool true) ∧ w = w' := by
  have HC := Lib.hid hc
  clear hc
  go_enter Tryd.func14, Tryd.ntmps14
  go_wp2
  go_loop [7] (fun i => ∃ k : Nat, k ≤ n ∧ i = .int .i64 k) (fun i => (n - intOf i).toNat)
  case atStart => exact ⟨0, by omega, rfl⟩
  case round =>
    obtain ⟨k, hk, rfl⟩ := hrel
    by_cases hkn : k < n
    · have h1 : (k : Int) < (n : Int) := by omega
      have h2 := HC.out k hkn
      have h2' : w.cell? ⟨b, 0 + k, none⟩ = some (.int .i64 0) := by rw [Nat.zero_add]; exact h2
      go_wp2
      go_round
      case rel => exact ⟨k + 1, by omega, rfl⟩
      case measure => simp only [intOf]; omega
    · have h1 : ¬ (k : Int) < (n : Int) := by omega
      go_wp2
      go_ret
      exact ⟨rfl, rfl⟩
end Go.Proofs.YtkfcikijmkgahaaDoor
