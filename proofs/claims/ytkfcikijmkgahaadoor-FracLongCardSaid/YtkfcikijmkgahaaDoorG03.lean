import Derived.Test.YtkfcikijmkgahaaDoorG02
/- Part of the proof: Yb. -/
set_option linter.unusedVariables false
set_option linter.unusedSimpArgs false
set_option linter.unusedSectionVars false
namespace Go.Proofs.YtkfcikijmkgahaaDoor
open Go.RowKit Tw
section
variable {P : Program} {W0 : World}
/-- A value's step, with the slots spelled out. -/
theorem wpU_v {md : Region.Mode} {ops : Array Oper} {Q : Exit → Act → World → Prop} {i : Nat} {oi : Oper} {v : Value} {d n : Nat} {listed : Array Bool} {tm : Array Value} {df : List Deferred} {K : List (Nat × Obj)} (hi : ops[i]? = some oi) (hd : oi.dst = some d) (hlt : Nat.blt d tm.size = true)
    (hf : freeAll md ops listed i = true) (hw : Region.wanted oi (yielded ops tm) = true)
    (hy : ∀ w, KS W0 K w → ∀ K' : Act → World → Prop, (∀ w', Below w.heap.size w w' → K' (Act.put ⟨tm, df⟩ oi.dst v) w') → Oper.wp P oi ⟨tm, df⟩ w K' (fun _ _ _ => False))
    {T : Array Value} (hT : tm.setIfInBounds d v = T)
    (h : wpU P md ops Q W0 n (listed.setIfInBounds i true) ⟨T, df⟩ K) : wpU P md ops Q W0 (n + 1) listed ⟨tm, df⟩ K := by
  refine wpU_val hi hd hlt hf hw hy ?_
  rw [hd]
  subst hT
  exact h
variable {ops : Array Oper} {md : Region.Mode} {Q : Exit → Act → World → Prop}
theorem wpU_mem : ∀ (n : Nat) (listed : Array Bool) (a : Act) (K K' : List (Nat × Obj)), (∀ p, p ∈ K ↔ p ∈ K') → wpU P md ops Q W0 n listed a K → wpU P md ops Q W0 n listed a K'
  | 0, _, _, _, _, hm, h => ⟨h.1, fun w hw => h.2 w (hw.sub fun p hp => (hm p).1 hp)⟩
  | n + 1, listed, a, K, K', hm, h => by
    have hs : ∀ w, KS W0 K' w → KS W0 K w := fun w hw => hw.sub fun p hp => (hm p).1 hp
    refine ⟨fun hr w hw => h.1 hr w (hs w hw), fun i hi => ?_⟩
    obtain ⟨o, ho, hc⟩ := h.2 i hi
    refine ⟨o, ho, ?_⟩
    rcases hc with ⟨v, hy, hu⟩ | ⟨obj, hal, hu⟩ | ⟨hst, K2, hs2, hu⟩
    · refine .inl ⟨v, ?_, wpU_mem n _ _ K K' hm hu⟩
      rcases hy with ⟨h1, h2⟩ | h1
      · exact .inl ⟨h1, fun w hw => h2 w (hs w hw)⟩
      · exact .inr h1
    · exact .inr (.inl ⟨obj, hal, fun g hg hf => wpU_mem n _ _ ((g, obj) :: K) ((g, obj) :: K') (fun p => by rw [List.mem_cons, List.mem_cons, hm p]) (hu g hg fun p hp => hf p ((hm p).1 hp))⟩)
    · exact .inr (.inr ⟨hst, K2, ⟨hs2.1, fun w hw => hs2.2 w (hs w hw)⟩, hu⟩)
theorem wanted_no {o : Oper} {y : Nat → Option Bool} (h : o.guard = none) : Region.wanted o y = true := by simp [Region.wanted, h]
/-- Two variables are made, in either order. -/
theorem wpU_two {i j : Nat} {oi oj : Oper} {d e : Nat} {obi obj : Obj} {n : Nat} {listed : Array Bool} {tm : Array Value} {df : List Deferred} {K : List (Nat × Obj)} {T : Nat → Nat → Array Value}
    (hi : ops[i]? = some oi) (hj : ops[j]? = some oj) (hdi : oi.dst = some d) (hdj : oj.dst = some e) (hgi : oi.guard = none) (hgj : oj.guard = none)
    (hr : Region.ready md ops listed = [i, j]) (hri : Region.ready md ops (listed.setIfInBounds i true) = [j]) (hrj : Region.ready md ops (listed.setIfInBounds j true) = [i])
    (hc : (listed.setIfInBounds j true).setIfInBounds i true = (listed.setIfInBounds i true).setIfInBounds j true)
    (hai : ∀ ρ w, (execOp ρ oi).run P w = .ok (.value (.pointer (some ⟨w.heap.size, 0, none⟩))) (w.alloc obi))
    (haj : ∀ ρ w, (execOp ρ oj).run P w = .ok (.value (.pointer (some ⟨w.heap.size, 0, none⟩))) (w.alloc obj))
    (hT : ∀ g h, (tm.setIfInBounds d (.pointer (some ⟨g, 0, none⟩))).setIfInBounds e (.pointer (some ⟨h, 0, none⟩)) = T g h)
    (hT' : ∀ g h, (tm.setIfInBounds e (.pointer (some ⟨h, 0, none⟩))).setIfInBounds d (.pointer (some ⟨g, 0, none⟩)) = T g h)
    (h : ∀ g h, W0.heap.size ≤ g → W0.heap.size ≤ h → g ≠ h → (∀ p ∈ K, p.1 ≠ g) → (∀ p ∈ K, p.1 ≠ h) → wpU P md ops Q W0 n ((listed.setIfInBounds i true).setIfInBounds j true) ⟨T g h, df⟩ ((g, obi) :: (h, obj) :: K)) :
    wpU P md ops Q W0 (n + 1 + 1) listed ⟨tm, df⟩ K := by
  refine wpU_alloc2 hi hj hr (wanted_no hgi) (wanted_no hgj) (hai _) (haj _) (fun g hg hf => ?_) (fun g hg hf => ?_)
  · refine wpU_alloc hj hri (wanted_no hgj) (haj _) (fun g' hg' hf' => ?_)
    rw [hdi, hdj]
    simp only [Act.put]
    rw [hT g g']
    refine wpU_mem n _ _ _ _ (fun p => ?_) (h g g' hg hg' (fun e => hf' _ (.head _) e) hf fun p hp => hf' p (.tail _ hp))
    simp only [List.mem_cons]; exact ⟨fun | .inl h => .inr (.inl h) | .inr (.inl h) => .inl h | .inr (.inr h) => .inr (.inr h), fun | .inl h => .inr (.inl h) | .inr (.inl h) => .inl h | .inr (.inr h) => .inr (.inr h)⟩
  · refine wpU_alloc hi hrj (wanted_no hgi) (hai _) (fun g' hg' hf' => ?_)
    rw [hdi, hdj, hc]
    simp only [Act.put]
    rw [hT' g' g]
    exact h g' g hg' hg (fun e => hf' _ (.head _) e.symm) (fun p hp => hf' p (.tail _ hp)) hf
theorem wpU_new {i : Nat} {oi : Oper} {d : Nat} {obi : Obj} {n : Nat} {listed : Array Bool} {tm : Array Value} {df : List Deferred} {K : List (Nat × Obj)} {T : Nat → Array Value}
    (hi : ops[i]? = some oi) (hdi : oi.dst = some d) (hgi : oi.guard = none)
    (hr : Region.ready md ops listed = [i])
    (hai : ∀ ρ w, (execOp ρ oi).run P w = .ok (.value (.pointer (some ⟨w.heap.size, 0, none⟩))) (w.alloc obi))
    (hT : ∀ g, (tm.setIfInBounds d (.pointer (some ⟨g, 0, none⟩))) = T g)
    (h : ∀ g, W0.heap.size ≤ g → (∀ p ∈ K, p.1 ≠ g) → wpU P md ops Q W0 n (listed.setIfInBounds i true) ⟨T g, df⟩ ((g, obi) :: K)) :
    wpU P md ops Q W0 (n + 1) listed ⟨tm, df⟩ K := by
  refine wpU_alloc hi hr (wanted_no hgi) (hai _) (fun g hg hf => ?_)
  rw [hdi]
  simp only [Act.put]
  rw [hT g]
  exact h g hg hf
theorem wpU_s {i : Nat} {oi : Oper} {n : Nat} {listed : Array Bool} {tm : Array Value} {df : List Deferred} {K : List (Nat × Obj)} (K' : List (Nat × Obj)) (hi : ops[i]? = some oi) (hr : Region.ready md ops listed = [i]) (hd : oi.dst = none) (hg : oi.guard = none)
    (hs : isStore oi = true) (hst : ∀ w, KS W0 K w → ∃ w', (execOp (Act.eval ⟨tm, df⟩) oi).run P w = .ok .skip w' ∧ KS W0 K' w')
    (h : wpU P md ops Q W0 n (listed.setIfInBounds i true) ⟨tm, df⟩ K') : wpU P md ops Q W0 (n + 1) listed ⟨tm, df⟩ K := by
  refine wpU_store hi hr hs (wanted_no hg) hst ?_
  rw [hd]
  exact h
def freeP (md : Region.Mode) (ops : Array Oper) (listed : Array Bool) (i : Nat) : Bool :=
  Region.noSelect ops && (Region.free md ops listed i && ((Region.ready md ops listed).contains i && closedB md ops listed))
/-- A value that asks nothing of the world. -/
theorem wpU_p {i : Nat} {oi : Oper} {v : Value} {d n : Nat} {listed : Array Bool} {tm : Array Value} {df : List Deferred} {K : List (Nat × Obj)} (hi : ops[i]? = some oi) (hd : oi.dst = some d) (hlt : Nat.blt d tm.size = true)
    (hf : freeP md ops listed i = true) (hw : Region.wanted oi (yielded ops tm) = true)
    (hy : ∀ w, (execOp (Act.eval ⟨tm, df⟩) oi).run P w = .ok (.value v) w)
    {T : Array Value} (hT : tm.setIfInBounds d v = T)
    (h : wpU P md ops Q W0 n (listed.setIfInBounds i true) ⟨T, df⟩ K) : wpU P md ops Q W0 (n + 1) listed ⟨tm, df⟩ K := by
  unfold freeP at hf
  simp only [Bool.and_eq_true] at hf
  obtain ⟨h1, h2, h3, h4⟩ := hf
  refine wpU_first (v := v) hi (Region.noSelect_spec h1) n listed _ K (closed_of h4) (Region.free_spec hi h2) (by simpa using h3)
    (.inl fun K' => .inl ⟨hw, fun w hk => Oto.of_wp hd (Nat.le_of_ble_eq_true hlt) (yb_pure (K := K') hy w hk)⟩) ?_
  rw [hd]
  subst hT
  exact h
theorem run_bin {o : Oper} {a : Act} {v vx vy : Value} {op : BinOp} {xT : TypeId} {x y : Operand} {d : TypeId}
    (ho : o.op = .binOp op xT x y d) (hx : a.eval x = vx) (hy : a.eval y = vy)
    (h : ∀ w, (do eqGuard op xT x y vx vy; binOp op xT vx vy : Sem Value).run P w = .ok v w) : ∀ w, (execOp a.eval o).run P w = .ok (.value v) w := by
  intro w
  have h0 := h w
  unfold execOp
  rw [ho]
  simp only [hx, hy]
  rw [Sem.run_bind, h0]
  rfl
theorem stepU_v {i : Nat} {oi : Oper} {v : Value} {d n : Nat} {listed : Array Bool} {tm : Array Value} {df : List Deferred} {K : List (Nat × Obj)} (hi : ops[i]? = some oi) (hd : oi.dst = some d) (hlt : Nat.blt d tm.size = true) (hg : oi.guard = none)
    (hy : ∀ w, KS W0 K w → ∀ K' : Act → World → Prop, (∀ w', Below w.heap.size w w' → K' (Act.put ⟨tm, df⟩ oi.dst v) w') → Oper.wp P oi ⟨tm, df⟩ w K' (fun _ _ _ => False))
    {T : Array Value} (hT : tm.setIfInBounds d v = T)
    (h : wpU P md ops Q W0 n (listed.setIfInBounds i true) ⟨T, df⟩ K) : StepU P md ops Q W0 n listed ⟨tm, df⟩ K i := by
  refine stepU_val hi hd hlt (wanted_no hg) hy ?_
  rw [hd]
  subst hT
  exact h
theorem stepU_s {i : Nat} {oi : Oper} {n : Nat} {listed : Array Bool} {tm : Array Value} {df : List Deferred} {K : List (Nat × Obj)} (K' : List (Nat × Obj)) (hi : ops[i]? = some oi) (hd : oi.dst = none) (hg : oi.guard = none)
    (hs : isStore oi = true) (hst : ∀ w, KS W0 K w → ∃ w', (execOp (Act.eval ⟨tm, df⟩) oi).run P w = .ok .skip w' ∧ KS W0 K' w')
    (h : wpU P md ops Q W0 n (listed.setIfInBounds i true) ⟨tm, df⟩ K') : StepU P md ops Q W0 n listed ⟨tm, df⟩ K i := by
  refine stepU_store hi hs (wanted_no hg) hst ?_
  rw [hd]
  exact h
/-- An operation whose guard says no. -/
theorem wpU_n {i : Nat} {oi : Oper} {d n : Nat} {listed : Array Bool} {tm : Array Value} {df : List Deferred} {K : List (Nat × Obj)} (hi : ops[i]? = some oi) (hd : oi.dst = some d)
    (hf : freeAll md ops listed i = true) (hw : Region.wanted oi (yielded ops tm) = false)
    {T : Array Value} (hT : tm.setIfInBounds d undef = T)
    (h : wpU P md ops Q W0 n (listed.setIfInBounds i true) ⟨T, df⟩ K) : wpU P md ops Q W0 (n + 1) listed ⟨tm, df⟩ K := by
  refine wpU_not hi hf hw ?_
  rw [hd]
  subst hT
  exact h
theorem yb_bin {o : Oper} {a : Act} {K : List (Nat × Obj)} {v vx vy : Value} {op : BinOp} {xT : TypeId} {x y : Operand} {d : TypeId}
    (ho : o.op = .binOp op xT x y d) (hx : a.eval x = vx) (hy : a.eval y = vy)
    (h : ∀ w, (do eqGuard op xT x y vx vy; binOp op xT vx vy : Sem Value).run P w = .ok v w) :
    ∀ w, KS W0 K w → ∀ K' : Act → World → Prop, (∀ w', Below w.heap.size w w' → K' (a.put o.dst v) w') → Oper.wp P o a w K' (fun _ _ _ => False) := by
  refine yb_pure fun w => ?_
  have h0 := h w
  unfold execOp
  rw [ho]
  simp only [hx, hy]
  rw [Sem.run_bind, h0]
  rfl
theorem yb_un {o : Oper} {a : Act} {K : List (Nat × Obj)} {v vx : Value} {op : UnOp} {xT : TypeId} {x : Operand}
    (ho : o.op = .unOp op xT x) (hx : a.eval x = vx)
    (h : ∀ w, (Op.unary op vx : Sem Value).run P w = .ok v w) :
    ∀ w, KS W0 K w → ∀ K' : Act → World → Prop, (∀ w', Below w.heap.size w w' → K' (a.put o.dst v) w') → Oper.wp P o a w K' (fun _ _ _ => False) := by
  refine yb_pure fun w => ?_
  have h0 := h w
  unfold execOp
  rw [ho]
  simp only [hx]
  rw [Sem.run_bind, h0]
  rfl
theorem yb_conv {o : Oper} {a : Act} {K : List (Nat × Obj)} {v vx : Value} {sT dT : TypeId} {x : Operand}
    (ho : o.op = .convert sT dT x) (hx : a.eval x = vx)
    (h : ∀ w, (convert sT dT vx : Sem Value).run P w = .ok v w) :
    ∀ w, KS W0 K w → ∀ K' : Act → World → Prop, (∀ w', Below w.heap.size w w' → K' (a.put o.dst v) w') → Oper.wp P o a w K' (fun _ _ _ => False) := by
  refine yb_pure fun w => ?_
  have h0 := h w
  unfold execOp
  rw [ho]
  simp only [hx]
  rw [Sem.run_bind, h0]
  rfl
end
end Go.Proofs.YtkfcikijmkgahaaDoor
