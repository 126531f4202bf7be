import Derived.Test.YtlinjngifacmoaaDoorSB01
import Derived.Test.YtlinjngifacmoaaDoorSB00
import Derived.RangeFuncFrom
import Derived.Laws.MakeOwn
/- Part of the proof: RF0, L8d, L8e, TE0, TN0, L8f, Dv, L8g, L8h, L8i, L8j. -/
set_option linter.unusedVariables false
set_option linter.unusedSimpArgs false
set_option linter.unusedSectionVars false
/- Loops over iterators: what a loop's body owns is told by known blocks, all other blocks stay. Over any program. -/
namespace Tw
open Go Go.RowKit Go.Proofs.YtlinjngifacmoaaDoor
theorem callsAnyX {P : Program} {r s : Option Nat} {n m : Nat} {f : FuncId} {args : Array Value} {w : World} {R : Ending → World → Prop} (h : CallsIn (FX r) n P f args w R) : CallsIn (FX s) m P f args w R := ⟨trivial, fun cs _ => h.2 cs (fun _ h => by cases h)⟩
def ownT (ts : List TypeId) : Obj → Bool
 | .cells _ t _ => decide (t ∈ ts)
 | _ => false
structure KpA (ts : List TypeId) (W W' : World) : Prop where
 size : W.heap.size ≤ W'.heap.size
 same : ∀ (k : Nat) (o : Obj), W.heap[k]? = some o → ownT ts o = false → W'.heap[k]? = some o
theorem KpA.trans {ts : List TypeId} {A B C : World} (h : KpA ts A B) (k : KpA ts B C) : KpA ts A C := ⟨Nat.le_trans h.size k.size, fun i o hi ho => k.same i o (h.same i o hi ho) ho⟩
structure KpT (ts : List TypeId) (n₀ : Nat) (W W' : World) : Prop where
 below : Below n₀ W W'
 same : ∀ (k : Nat) (o : Obj), W.heap[k]? = some o → o.isCells = true → ownT ts o = false → W'.heap[k]? = some o
theorem KpT.trans {ts : List TypeId} {n₀ : Nat} {A B C : World} (h : KpT ts n₀ A B) (k : KpT ts n₀ B C) : KpT ts n₀ A C := ⟨h.below.trans k.below, fun i o hi hc ho => k.same i o (h.same i o hi hc ho) hc ho⟩
theorem KpA.toT {ts : List TypeId} {n₀ : Nat} {W W' : World} (h : KpA ts W W') (hb : Below n₀ W W') : KpT ts n₀ W W' := ⟨hb, fun k o hk _ ho => h.same k o hk ho⟩
theorem below_put {n₀ : Nat} {W : World} {l : Nat} (o : Obj) (hl : n₀ ≤ l) : Below n₀ W (W.putObj l o) := ⟨rfl, rfl, rfl, by simp, fun k hk => World.putObj_heap_other Tw.om⟩
theorem kpT_put {ts : List TypeId} {n₀ : Nat} {W : World} {l : Nat} {o : Obj} (o' : Obj) (hl : n₀ ≤ l) (h : W.heap[l]? = some o) (hc : o.isCells = false) : KpT ts n₀ W (W.putObj l o') :=
 ⟨below_put o' hl, fun k ob hk hkc _ => by
   by_cases e : k = l
   · subst e; rw [h] at hk; cases hk; rw [hc] at hkc; cases hkc
   · exact (World.putObj_heap_other e).trans hk⟩
def restT (ts : List TypeId) (W : World) : List (Nat × Obj) := (List.range W.heap.size).filterMap fun k => match W.heap[k]? with | some o => if ownT ts o then none else some (k, o) | none => none
theorem restT_mem {ts : List TypeId} {W : World} {p : Nat × Obj} : p ∈ restT ts W ↔ W.heap[p.1]? = some p.2 ∧ ownT ts p.2 = false := by
 unfold restT
 rw [List.mem_filterMap]
 constructor
 · rintro ⟨k, hk, h⟩
   cases ho : W.heap[k]? with
   | none => rw [ho] at h; cases h
   | some o =>
     rw [ho] at h
     simp only at h
     split at h
     · cases h
     · rename_i hn
       cases h
       exact ⟨ho, by simpa using hn⟩
 · rintro ⟨h1, h2⟩
   exact ⟨p.1, List.mem_range.2 (lt_of_block h1), by rw [h1]; simp [h2]⟩
theorem restT_ne {ts : List TypeId} {W : World} {g : Nat} {o : Obj} (h : W.heap[g]? = some o) (hc : ownT ts o = true) : ∀ p ∈ restT ts W, p.1 ≠ g := fun p hp e => by
 obtain ⟨h1, h2⟩ := restT_mem.1 hp
 rw [e, h] at h1
 cases h1
 rw [hc] at h2
 cases h2
def atB (W0 : Base) (W : World) (h : W0.B ≤ W.heap.size) : Base := ⟨W, W0.B, h⟩
theorem at_start {W0 : Base} {W : World} {K : List (Nat × Obj)} (ts : List TypeId) (hn : W0.B ≤ W.heap.size) (h : KS W0 K W) : KS (atB W0 W hn) (K ++ restT ts W) W := ⟨Below.refl _ _, fun p hp => by
 rcases List.mem_append.1 hp with hp | hp
 · exact h.2 p hp
 · exact (restT_mem.1 hp).1⟩
theorem at_back {W0 : Base} {W W' : World} {K K' : List (Nat × Obj)} {hn : W0.B ≤ W.heap.size} (h : KS W0 K W) (h' : KS (atB W0 W hn) K' W') : KS W0 K' W' := ⟨h.1.trans h'.1, h'.2⟩
theorem at_kp {W0 : Base} {W W' : World} {K : List (Nat × Obj)} {ts : List TypeId} {hn : W0.B ≤ W.heap.size} (h : KS (atB W0 W hn) K W') (hs : ∀ p ∈ restT ts W, p ∈ K) : KpA ts W W' := ⟨h.1.size, fun k o hk ho => h.2 (k, o) (hs (k, o) (restT_mem.2 ⟨hk, ho⟩))⟩
theorem ks_grown {W0 : Base} {W W' : World} {K : List (Nat × Obj)} {row : Option Nat} (hK : KS W0 K W) (hc : ∀ p ∈ K, p.2.isCells = true) (hg : W.grownBy W' row) (hr : ∀ r, row = some r → W0.B ≤ r ∧ ∃ o : Obj, W.heap[r]? = some o ∧ o.isCells = false) : KS W0 K W' := by
 refine ⟨⟨hg.os.trans hK.1.os, hg.tape.trans hK.1.tape, hg.output.trans hK.1.output, Nat.le_trans hK.1.size hg.size, fun k hk => ?_⟩, fun p hp => ?_⟩
 · rw [hg.block k (Nat.lt_of_lt_of_le hk hK.size) (fun e => by have := (hr k e.symm).1; omega)]
   exact hK.1.block k hk
 · have h1 := hK.2 p hp
   rw [hg.block p.1 (lt_of_block h1) (fun e => by
     obtain ⟨_, o, ho, hn⟩ := hr p.1 e.symm
     rw [h1] at ho
     cases ho
     rw [hc p hp] at hn
     cases hn)]
   exact h1
theorem ks_putN {W0 : Base} {K : List (Nat × Obj)} {W : World} {L : Nat} {o : Obj} (o' : Obj) (h : KS W0 K W) (hc : ∀ p ∈ K, p.2.isCells = true) (hB : W0.B ≤ L) (hL : W.heap[L]? = some o) (ho : o.isCells = false) : KS W0 K (W.putObj L o') :=
 ⟨h.1.trans (below_put o' hB), fun p hp => (World.putObj_heap_other (fun e => by have h1 := h.2 p hp; rw [e, hL] at h1; cases h1; rw [hc p hp] at ho; cases ho)).trans (h.2 p hp)⟩
def roundK {α : Type} (ts : List TypeId) (W0 : Base) (I Ix : List α → List (Nat × Obj) → Prop) (ys : List α) (W : World) : Exit → Act → World → Prop
 | .normal, _, W' => KpA ts W W' ∧ Below W0.B W W' ∧ ∃ K, I ys K ∧ KS W0 K W'
 | .ret, _, W' => KpA ts W W' ∧ Below W0.B W W' ∧ ∃ K, Ix ys K ∧ KS W0 K W'
 | _, _, _ => False
theorem range_k {α : Type} {P : Program} {g : Operand} {ps : Array Tmp} {assign body : Code} {Q : Exit → Act → World → Prop} {a : Act} {w : World} {ts : List TypeId}
   {gf : Nat} {lb : Array Value} (hg : a.eval g = .func (.func gf) #[] lb) (eg : ∀ args w, (callFunc gf args).run P w = .ok (.enter gf args) w)
   {encs : α → Array Value} {S Sp : List α → Prop} {N : Nat} {w0 : World} (W0 : Base) (hseq : SeqStopsK (FX none) 0 P gf lb encs (KpT ts W0.B) S Sp N w0) (hb0 : Below w0.heap.size w0 w) (hps : ∀ x, (encs x).size = ps.size)
   (I Ix : List α → List (Nat × Obj) → Prop) (hI : ∀ ys K, I ys K → ∀ p ∈ K, p.2.isCells = true) (hIx : ∀ ys K, Ix ys K → ∀ p ∈ K, p.2.isCells = true) {K0 : List (Nat × Obj)} (h0 : I [] K0) (hK0 : KS W0 K0 w)
   (hround : ∀ (L : Nat) (pre : List α) (x : α) (K : List (Nat × Obj)) (W : World), I pre K → KS W0 K W → pre.length < N →
     assign.wpIn (FX (some L)) 0 P (Exit.then (fun a' W2 => KpA ts W W2 ∧ Below W0.B W W2 ∧ ∃ K2, (∀ p ∈ K2, p.2.isCells = true) ∧ KS W0 K2 W2 ∧ ∀ W3, KS W0 K2 W3 → body.wpIn (FX (some L)) 0 P (roundK ts W0 I Ix (pre ++ [x]) W3) a' W3) (fun _ _ _ => False))
       { tmps := (ps.zip (encs x)).foldl (fun t (p, v) => t.setIfInBounds p v) a.tmps, defers := [] } W)
   (hdone : ∀ (D : Nat) (xs : List α) (K : List (Nat × Obj)) (W : World), S xs → I xs K → KS W0 ((D, .deferred (some [])) :: K) W → w.heap.size ≤ D → Q .normal { a with defers := { target := .collected D, args := #[] } :: a.defers } W)
   (hstop : ∀ (D : Nat) (pre : List α) (K : List (Nat × Obj)) (W : World), Sp pre → Ix pre K → KS W0 ((D, .deferred (some [])) :: K) W → w.heap.size ≤ D → Code.ret.wpIn (FX none) 0 P Q { a with defers := { target := .collected D, args := #[] } :: a.defers } W) :
   (Code.rangeFunc g ps assign body).wpIn (FX none) 0 P Q a w := by
 refine wpIn_rangeFunc ?_
 intro fn _
 have hwB := hK0.size
 obtain ⟨rec, hrec⟩ : ∃ rec : LoopState → Option Code → Loop, rec = fun st pe => { state := st, pending := pe, fn, tmps := a.tmps, params := ps, assign, body, defers := w.heap.size } := ⟨_, rfl⟩
 obtain ⟨W1, hW1⟩ : ∃ W1, (w.alloc (.deferred (some []))).alloc (.loop (rec .ready none)) = W1 := ⟨_, rfl⟩
 have hz1 : W1.heap.size = w.heap.size + 2 := by rw [← hW1]; simp
 have hL1 : W1.heap[w.heap.size + 1]? = some (.loop (rec .ready none)) := by
   rw [← hW1]; have := World.alloc_heap_new (w.alloc (.deferred (some []))) (.loop (rec .ready none)); rwa [World.size_alloc] at this
 have hD1 : W1.heap[w.heap.size]? = some (.deferred (some [])) := by
   rw [← hW1]; exact (Below.heap_alloc _ _ _ (by simp)).trans (World.alloc_heap_new w _)
 have hw1 : Below w.heap.size w W1 := by rw [← hW1]; exact ((Below.refl _ w).alloc (Nat.le_refl _) _).alloc (by simp) _
 have hK1 : KS W0 K0 W1 := hK0.below hw1
 refine ⟨w.heap.size + 1, [{ target := .collected w.heap.size, args := #[] }], W1, { target := .fn (.func gf) lb, args := #[.func (.yield (w.heap.size + 1)) #[] #[]] }, W1, gf,
   #[.func (.yield (w.heap.size + 1)) #[] #[]] ++ lb, W1, ?_, ?_, fun _ _ => trivial, ?_, (fun h => by cases h), ?_⟩
 · rw [← hW1, hrec]; exact run_enterLoop_outer _ _ _ _ _
 · simp only [resolve, hg]
   simp [go_sem]
 · simp [invoke, go_sem, eg]
 · have stay : ∀ {A B : World} {row : Option Nat} {l : Nat} {o : Obj}, A.grownBy B row → (∀ r, row = some r → W1.heap.size ≤ r ∧ ∃ o : Obj, A.heap[r]? = some o ∧ o.isWalk = true) → A.heap[l]? = some o → o.isWalk = false → B.heap[l]? = some o := fun hg' hr hl ho => by
     refine (hg'.block _ (lt_of_block hl) (fun e => ?_)).trans hl
     obtain ⟨_, o', ho', hw'⟩ := hr _ e.symm
     rw [hl] at ho'; cases ho'; rw [ho] at hw'; cases hw'
   refine ((callsAnyX (hseq (w.heap.size + 1)
     (fun pre W => ∃ K, I pre K ∧ KS W0 K W ∧ W.heap[w.heap.size + 1]? = some (.loop (rec .ready none)) ∧ W.heap[w.heap.size]? = some (.deferred (some [])))
     (fun pre W => ∃ K, Ix pre K ∧ KS W0 K W ∧ W.heap[w.heap.size + 1]? = some (.loop (rec .done (some .ret))) ∧ W.heap[w.heap.size]? = some (.deferred (some [])))
     W1 (hb0.trans (hw1.mono hb0.size)) ?_ ?_ ?_ ⟨K0, h0, hK1, hL1, hD1⟩) : CallsIn (FX none) (0 - 1) P gf _ W1 _)).mono ?_
   · rintro s A B row ⟨K, h1, h2, h3, h4⟩ hg' hr
     exact ⟨K, h1, ks_grown h2 (hI _ _ h1) hg' (fun r e => by obtain ⟨hB, o, ho, hw⟩ := hr r e; exact ⟨by omega, o, ho, Obj.not_cells_of_walk hw⟩), stay hg' hr h3 rfl, stay hg' hr h4 rfl⟩
   · rintro s A B row ⟨K, h1, h2, h3, h4⟩ hg' hr
     exact ⟨K, h1, ks_grown h2 (hIx _ _ h1) hg' (fun r e => by obtain ⟨hB, o, ho, hw⟩ := hr r e; exact ⟨by omega, o, ho, Obj.not_cells_of_walk hw⟩), stay hg' hr h3 rfl, stay hg' hr h4 rfl⟩
   · rintro pre x W ⟨K, hi, hk, hl, hd⟩ hlen
     have hy := run_yield (P := P) (args := encs x) hl (by rw [hrec]; exact hps x)
     rw [hrec] at hy
     refine ⟨fn, _, assign, body, hy, roundIn_of_wpIn (F := FX none) trivial (wpIn_mono (hround _ pre x K W hi hk hlen) ?_)⟩
     clear hy
     rintro e a' W2 hq
     cases e with
     | normal =>
       obtain ⟨hkp, hbl, K2, hc2, hk2, hq⟩ := hq
       have hl2 := hkp.same _ _ hl rfl
       have hd2 := hkp.same _ _ hd rfl
       refine ⟨_, run_beginRound hl2 (by rw [hrec]), ?_⟩
       have hlt2 := lt_of_block hl2
       have hl3 : (W2.putObj (w.heap.size + 1) (.loop { rec .ready none with state := .busy })).heap[w.heap.size + 1]? = some (.loop { rec .ready none with state := .busy }) := World.putObj_heap_same hlt2
       have hd3 : (W2.putObj (w.heap.size + 1) (.loop { rec .ready none with state := .busy })).heap[w.heap.size]? = some (.deferred (some [])) := (World.putObj_heap_other Tw.om).trans hd2
       have hk3 : KS W0 K2 (W2.putObj (w.heap.size + 1) (.loop { rec .ready none with state := .busy })) := ks_putN _ hk2 hc2 Tw.om hl2 rfl
       refine wpIn_mono (hq _ hk3) ?_
       clear hq
       have fin : ∀ (jump : Option Code) (W4 : World), KpA ts (W2.putObj (w.heap.size + 1) (.loop { rec .ready none with state := .busy })) W4 →
           (Instr.endRound (w.heap.size + 1) jump).run P W4 = .ok (.bool jump.isNone) (W4.putObj (w.heap.size + 1) (.loop (rec (if jump.isNone then .ready else .done) jump))) ∧ W4.heap[w.heap.size + 1]? = some (.loop { rec .ready none with state := .busy }) ∧
           (W4.putObj (w.heap.size + 1) (.loop (rec (if jump.isNone then .ready else .done) jump))).heap[w.heap.size + 1]? = some (.loop (rec (if jump.isNone then .ready else .done) jump)) ∧ (W4.putObj (w.heap.size + 1) (.loop (rec (if jump.isNone then .ready else .done) jump))).heap[w.heap.size]? = some (.deferred (some [])) := fun jump W4 hk4 => by
         have hl4 := hk4.same _ _ hl3 rfl
         have hd4 := hk4.same _ _ hd3 rfl
         have hrun := run_endRound (P := P) jump hl4
         rw [hrec] at hrun hl4 ⊢
         exact ⟨hrun, hl4, World.putObj_heap_same (lt_of_block hl4), (World.putObj_heap_other Tw.om).trans hd4⟩
       rintro e a3 W4 hp
       cases e with
       | normal =>
         obtain ⟨hk4, hb4, K4, hi4, hks4⟩ := hp
         obtain ⟨h1, h2, h3, h4⟩ := fin none W4 hk4
         refine ⟨_, _, h1, .inl ⟨rfl, ⟨K4, hi4, ks_putN _ hks4 (hI _ _ hi4) Tw.om h2 rfl, h3, h4⟩, ?_⟩⟩
         exact (((hkp.toT hbl).trans (kpT_put _ Tw.om hl2 rfl)).trans (hk4.toT hb4)).trans (kpT_put _ Tw.om h2 rfl)
       | ret =>
         obtain ⟨hk4, hb4, K4, hi4, hks4⟩ := hp
         obtain ⟨h1, h2, h3, h4⟩ := fin (some .ret) W4 hk4
         exact ⟨_, _, h1, .inr ⟨rfl, K4, hi4, ks_putN _ hks4 (hIx _ _ hi4) Tw.om h2 rfl, h3, h4⟩⟩
       | exit id => exact hp.elim
       | goto t => exact hp.elim
       | panic ch => exact hp.elim
       | outgrown => exact hp.elim
     | ret => exact hq.elim
     | exit id => exact hq.elim
     | goto t => exact hq.elim
     | panic ch => exact hq.elim
     | outgrown => exact hq.elim
   · have last : ∀ {W2 : World} {K : List (Nat × Obj)} {o o' : Obj}, KS W0 K W2 → (∀ p ∈ K, p.2.isCells = true) → W2.heap[w.heap.size + 1]? = some o → o.isCells = false → W2.heap[w.heap.size]? = some (.deferred (some [])) → KS W0 ((w.heap.size, .deferred (some [])) :: K) (W2.putObj (w.heap.size + 1) o') := by
       intro W2 K o o' hk hc hl ho hd
       have hk' := ks_putN o' hk hc Tw.om hl ho
       refine ⟨hk'.1, fun p hp => ?_⟩
       rcases List.mem_cons.1 hp with rfl | hp
       · exact (World.putObj_heap_other (by simp only; omega)).trans hd
       · exact hk'.2 p hp
     rintro e W2 ⟨⟨v, rfl⟩, (⟨xs, hS, K, hi, hk, hl, hd⟩ | ⟨pre, hSp, K, hi, hk, hl, hd⟩)⟩
     · exact ⟨none, _, by have := run_endLoop (P := P) hl (by rw [hrec]; simp); rw [hrec] at this; exact this, hdone _ xs K _ hS hi (last hk (hI _ _ hi) hl rfl hd) (Nat.le_refl _)⟩
     · exact ⟨some .ret, _, by have := run_endLoop (P := P) hl (by rw [hrec]; simp); rw [hrec] at this; exact this, hstop _ pre K _ hSp hi (last hk (hIx _ _ hi) hl rfl hd) (Nat.le_refl _)⟩
theorem range_kg {α : Type} {P : Program} {g : Operand} {ps : Array Tmp} {assign body : Code} {Q : Exit → Act → World → Prop} {a : Act} {w : World} {ts : List TypeId}
   {gf : Nat} {lb : Array Value} (hg : a.eval g = .func (.func gf) #[] lb) (eg : ∀ args w, (callFunc gf args).run P w = .ok (.enter gf args) w)
   {encs : α → Array Value} {S Sp : List α → Prop} {N : Nat} {w0 : World} (W0 : Base) (Gd : World → Prop) (hseq : SeqStopsK (FX none) 0 P gf lb encs (fun A B => KpT ts W0.B A B ∧ (Gd A → Gd B)) S Sp N w0) (hb0 : Below w0.heap.size w0 w) (hps : ∀ x, (encs x).size = ps.size)
   (I Ix : List α → List (Nat × Obj) → Prop) (hI : ∀ ys K, I ys K → ∀ p ∈ K, p.2.isCells = true) (hIx : ∀ ys K, Ix ys K → ∀ p ∈ K, p.2.isCells = true) (hGI : ∀ ys K W, I ys K → KS W0 K W → Gd W) {K0 : List (Nat × Obj)} (h0 : I [] K0) (hK0 : KS W0 K0 w)
   (hround : ∀ (L : Nat) (pre : List α) (x : α) (K : List (Nat × Obj)) (W : World), I pre K → KS W0 K W → pre.length < N →
     assign.wpIn (FX (some L)) 0 P (Exit.then (fun a' W2 => KpA ts W W2 ∧ Below W0.B W W2 ∧ ∃ K2, (∀ p ∈ K2, p.2.isCells = true) ∧ KS W0 K2 W2 ∧ ∀ W3, KS W0 K2 W3 → body.wpIn (FX (some L)) 0 P (roundK ts W0 I Ix (pre ++ [x]) W3) a' W3) (fun _ _ _ => False))
       { tmps := (ps.zip (encs x)).foldl (fun t (p, v) => t.setIfInBounds p v) a.tmps, defers := [] } W)
   (hdone : ∀ (D : Nat) (xs : List α) (K : List (Nat × Obj)) (W : World), S xs → I xs K → KS W0 ((D, .deferred (some [])) :: K) W → w.heap.size ≤ D → Q .normal { a with defers := { target := .collected D, args := #[] } :: a.defers } W)
   (hstop : ∀ (D : Nat) (pre : List α) (K : List (Nat × Obj)) (W : World), Sp pre → Ix pre K → KS W0 ((D, .deferred (some [])) :: K) W → w.heap.size ≤ D → Code.ret.wpIn (FX none) 0 P Q { a with defers := { target := .collected D, args := #[] } :: a.defers } W) :
   (Code.rangeFunc g ps assign body).wpIn (FX none) 0 P Q a w := by
 refine wpIn_rangeFunc ?_
 intro fn _
 have hwB := hK0.size
 obtain ⟨rec, hrec⟩ : ∃ rec : LoopState → Option Code → Loop, rec = fun st pe => { state := st, pending := pe, fn, tmps := a.tmps, params := ps, assign, body, defers := w.heap.size } := ⟨_, rfl⟩
 obtain ⟨W1, hW1⟩ : ∃ W1, (w.alloc (.deferred (some []))).alloc (.loop (rec .ready none)) = W1 := ⟨_, rfl⟩
 have hz1 : W1.heap.size = w.heap.size + 2 := by rw [← hW1]; simp
 have hL1 : W1.heap[w.heap.size + 1]? = some (.loop (rec .ready none)) := by
   rw [← hW1]; have := World.alloc_heap_new (w.alloc (.deferred (some []))) (.loop (rec .ready none)); rwa [World.size_alloc] at this
 have hD1 : W1.heap[w.heap.size]? = some (.deferred (some [])) := by
   rw [← hW1]; exact (Below.heap_alloc _ _ _ (by simp)).trans (World.alloc_heap_new w _)
 have hw1 : Below w.heap.size w W1 := by rw [← hW1]; exact ((Below.refl _ w).alloc (Nat.le_refl _) _).alloc (by simp) _
 have hK1 : KS W0 K0 W1 := hK0.below hw1
 refine ⟨w.heap.size + 1, [{ target := .collected w.heap.size, args := #[] }], W1, { target := .fn (.func gf) lb, args := #[.func (.yield (w.heap.size + 1)) #[] #[]] }, W1, gf,
   #[.func (.yield (w.heap.size + 1)) #[] #[]] ++ lb, W1, ?_, ?_, fun _ _ => trivial, ?_, (fun h => by cases h), ?_⟩
 · rw [← hW1, hrec]; exact run_enterLoop_outer _ _ _ _ _
 · simp only [resolve, hg]
   simp [go_sem]
 · simp [invoke, go_sem, eg]
 · have stay : ∀ {A B : World} {row : Option Nat} {l : Nat} {o : Obj}, A.grownBy B row → (∀ r, row = some r → W1.heap.size ≤ r ∧ ∃ o : Obj, A.heap[r]? = some o ∧ o.isWalk = true) → A.heap[l]? = some o → o.isWalk = false → B.heap[l]? = some o := fun hg' hr hl ho => by
     refine (hg'.block _ (lt_of_block hl) (fun e => ?_)).trans hl
     obtain ⟨_, o', ho', hw'⟩ := hr _ e.symm
     rw [hl] at ho'; cases ho'; rw [ho] at hw'; cases hw'
   refine ((callsAnyX (hseq (w.heap.size + 1)
     (fun pre W => ∃ K, I pre K ∧ KS W0 K W ∧ W.heap[w.heap.size + 1]? = some (.loop (rec .ready none)) ∧ W.heap[w.heap.size]? = some (.deferred (some [])))
     (fun pre W => ∃ K, Ix pre K ∧ KS W0 K W ∧ W.heap[w.heap.size + 1]? = some (.loop (rec .done (some .ret))) ∧ W.heap[w.heap.size]? = some (.deferred (some [])))
     W1 (hb0.trans (hw1.mono hb0.size)) ?_ ?_ ?_ ⟨K0, h0, hK1, hL1, hD1⟩) : CallsIn (FX none) (0 - 1) P gf _ W1 _)).mono ?_
   · rintro s A B row ⟨K, h1, h2, h3, h4⟩ hg' hr
     exact ⟨K, h1, ks_grown h2 (hI _ _ h1) hg' (fun r e => by obtain ⟨hB, o, ho, hw⟩ := hr r e; exact ⟨by omega, o, ho, Obj.not_cells_of_walk hw⟩), stay hg' hr h3 rfl, stay hg' hr h4 rfl⟩
   · rintro s A B row ⟨K, h1, h2, h3, h4⟩ hg' hr
     exact ⟨K, h1, ks_grown h2 (hIx _ _ h1) hg' (fun r e => by obtain ⟨hB, o, ho, hw⟩ := hr r e; exact ⟨by omega, o, ho, Obj.not_cells_of_walk hw⟩), stay hg' hr h3 rfl, stay hg' hr h4 rfl⟩
   · rintro pre x W ⟨K, hi, hk, hl, hd⟩ hlen
     have hy := run_yield (P := P) (args := encs x) hl (by rw [hrec]; exact hps x)
     rw [hrec] at hy
     refine ⟨fn, _, assign, body, hy, roundIn_of_wpIn (F := FX none) trivial (wpIn_mono (hround _ pre x K W hi hk hlen) ?_)⟩
     clear hy
     rintro e a' W2 hq
     cases e with
     | normal =>
       obtain ⟨hkp, hbl, K2, hc2, hk2, hq⟩ := hq
       have hl2 := hkp.same _ _ hl rfl
       have hd2 := hkp.same _ _ hd rfl
       refine ⟨_, run_beginRound hl2 (by rw [hrec]), ?_⟩
       have hlt2 := lt_of_block hl2
       have hl3 : (W2.putObj (w.heap.size + 1) (.loop { rec .ready none with state := .busy })).heap[w.heap.size + 1]? = some (.loop { rec .ready none with state := .busy }) := World.putObj_heap_same hlt2
       have hd3 : (W2.putObj (w.heap.size + 1) (.loop { rec .ready none with state := .busy })).heap[w.heap.size]? = some (.deferred (some [])) := (World.putObj_heap_other Tw.om).trans hd2
       have hk3 : KS W0 K2 (W2.putObj (w.heap.size + 1) (.loop { rec .ready none with state := .busy })) := ks_putN _ hk2 hc2 Tw.om hl2 rfl
       refine wpIn_mono (hq _ hk3) ?_
       clear hq
       have fin : ∀ (jump : Option Code) (W4 : World), KpA ts (W2.putObj (w.heap.size + 1) (.loop { rec .ready none with state := .busy })) W4 →
           (Instr.endRound (w.heap.size + 1) jump).run P W4 = .ok (.bool jump.isNone) (W4.putObj (w.heap.size + 1) (.loop (rec (if jump.isNone then .ready else .done) jump))) ∧ W4.heap[w.heap.size + 1]? = some (.loop { rec .ready none with state := .busy }) ∧
           (W4.putObj (w.heap.size + 1) (.loop (rec (if jump.isNone then .ready else .done) jump))).heap[w.heap.size + 1]? = some (.loop (rec (if jump.isNone then .ready else .done) jump)) ∧ (W4.putObj (w.heap.size + 1) (.loop (rec (if jump.isNone then .ready else .done) jump))).heap[w.heap.size]? = some (.deferred (some [])) := fun jump W4 hk4 => by
         have hl4 := hk4.same _ _ hl3 rfl
         have hd4 := hk4.same _ _ hd3 rfl
         have hrun := run_endRound (P := P) jump hl4
         rw [hrec] at hrun hl4 ⊢
         exact ⟨hrun, hl4, World.putObj_heap_same (lt_of_block hl4), (World.putObj_heap_other Tw.om).trans hd4⟩
       rintro e a3 W4 hp
       cases e with
       | normal =>
         obtain ⟨hk4, hb4, K4, hi4, hks4⟩ := hp
         obtain ⟨h1, h2, h3, h4⟩ := fin none W4 hk4
         refine ⟨_, _, h1, .inl ⟨rfl, ⟨K4, hi4, ks_putN _ hks4 (hI _ _ hi4) Tw.om h2 rfl, h3, h4⟩, ?_⟩⟩
         exact ⟨(((hkp.toT hbl).trans (kpT_put _ Tw.om hl2 rfl)).trans (hk4.toT hb4)).trans (kpT_put _ Tw.om h2 rfl), fun _ => hGI _ _ _ hi4 (ks_putN _ hks4 (hI _ _ hi4) Tw.om h2 rfl)⟩
       | ret =>
         obtain ⟨hk4, hb4, K4, hi4, hks4⟩ := hp
         obtain ⟨h1, h2, h3, h4⟩ := fin (some .ret) W4 hk4
         exact ⟨_, _, h1, .inr ⟨rfl, K4, hi4, ks_putN _ hks4 (hIx _ _ hi4) Tw.om h2 rfl, h3, h4⟩⟩
       | exit id => exact hp.elim
       | goto t => exact hp.elim
       | panic ch => exact hp.elim
       | outgrown => exact hp.elim
     | ret => exact hq.elim
     | exit id => exact hq.elim
     | goto t => exact hq.elim
     | panic ch => exact hq.elim
     | outgrown => exact hq.elim
   · have last : ∀ {W2 : World} {K : List (Nat × Obj)} {o o' : Obj}, KS W0 K W2 → (∀ p ∈ K, p.2.isCells = true) → W2.heap[w.heap.size + 1]? = some o → o.isCells = false → W2.heap[w.heap.size]? = some (.deferred (some [])) → KS W0 ((w.heap.size, .deferred (some [])) :: K) (W2.putObj (w.heap.size + 1) o') := by
       intro W2 K o o' hk hc hl ho hd
       have hk' := ks_putN o' hk hc Tw.om hl ho
       refine ⟨hk'.1, fun p hp => ?_⟩
       rcases List.mem_cons.1 hp with rfl | hp
       · exact (World.putObj_heap_other (by simp only; omega)).trans hd
       · exact hk'.2 p hp
     rintro e W2 ⟨⟨v, rfl⟩, (⟨xs, hS, K, hi, hk, hl, hd⟩ | ⟨pre, hSp, K, hi, hk, hl, hd⟩)⟩
     · exact ⟨none, _, by have := run_endLoop (P := P) hl (by rw [hrec]; simp); rw [hrec] at this; exact this, hdone _ xs K _ hS hi (last hk (hI _ _ hi) hl rfl hd) (Nat.le_refl _)⟩
     · exact ⟨some .ret, _, by have := run_endLoop (P := P) hl (by rw [hrec]; simp); rw [hrec] at this; exact this, hstop _ pre K _ hSp hi (last hk (hIx _ _ hi) hl rfl hd) (Nat.le_refl _)⟩
theorem abideK {α : Type} {J : List α → World → Prop} {B : Nat} (hJ : AbidesFrom B J) {pre : List α} {W W' : World} {K : List (Nat × Obj)} (h0 : J pre W) (h : KS (W : Base) K W') : J pre W' :=
 hJ pre W W' none h0 ⟨h.1.os, h.1.tape, h.1.output, h.1.size, fun k hk _ => h.1.block k hk⟩ (fun r e => by cases e)
theorem inBlock_exitX (id : Nat) (Q : Exit → Act → World → Prop) (a : Act) (w : World) : Exit.inBlock id Q (.exit id) a w = Q .normal a w := by simp [Exit.inBlock]
theorem then_exitX (id : Nat) (f : Act → World → Prop) (Q : Exit → Act → World → Prop) (a : Act) (w : World) : Exit.then f Q (.exit id) a w = Q (.exit id) a w := rfl
section
variable {P : Program} {n : Nat} {r : Option Nat} {ops : Array Oper} {Q : Exit → Act → World → Prop}
theorem wpl_yield2 {o : Oper} {rest : List Oper} {a : Act} {w : World} {c x x2 : Operand} {tt t2 : TypeId} {l d : Nat} {v v2 : Value} {A B : World → Prop} {tm : Array Value} {df : List Deferred} {T1 T2 : Array Value} (ha : a = ⟨tm, df⟩) (ho : o.op = .call { callee := .value c, args := #[x, x2], argTypes := #[tt, t2] }) (hc : a.eval c = .func (.yield l) #[] #[]) (hx : a.eval x = v) (hx2 : a.eval x2 = v2)
   (hw : Region.wanted o (yielded ops a.tmps) = true) (hd : o.dst = some d) (hY : YieldAt (FX r) (n - 1) P l #[v, v2] w fun e W' => (e = .returned (.bool true) ∧ A W') ∨ (e = .returned (.bool false) ∧ B W'))
   (hT1 : tm.setIfInBounds d (.bool true) = T1) (hT2 : tm.setIfInBounds d (.bool false) = T2)
   (h1 : ∀ W', A W' → wpListIn (FX r) n P ops Q rest ⟨T1, df⟩ W') (h2 : ∀ W', B W' → wpListIn (FX r) n P ops Q rest ⟨T2, df⟩ W') : wpListIn (FX r) n P ops Q (o :: rest) a w := by
 subst ha
 obtain ⟨fn, tmps, assign, body, hy, hR⟩ := hY
 refine wpListIn_step fun K hK => ?_
 rw [if_pos hw]
 refine ⟨fun _ _ => trivial, ?_⟩
 rw [Oper.semAt_eq _ _ _ (fun c' e => by rw [ho] at e; cases e)]
 have hrun : (execOp (Act.eval ⟨tm, df⟩) o).run P w = .ok (.round l fn tmps assign body) w := by
   generalize Act.eval ⟨tm, df⟩ = ev at hc hx hx2
   simp [execOp, ho, resolve, invoke, hc, hx, hx2, hy, Deferred.ofValue]
 rw [hrun]
 refine ⟨(fun hh => by cases hh), hR.mono ?_⟩
 rintro e W' (⟨rfl, hA⟩ | ⟨rfl, hB⟩)
 · refine hK _ _ ?_
   rw [hd]
   simp only [Act.put]
   rw [hT1]
   exact h1 W' hA
 · refine hK _ _ ?_
   rw [hd]
   simp only [Act.put]
   rw [hT2]
   exact h2 W' hB
end
theorem run_slA {P : Program} {T E : TypeId} {n sz g : Nat} {o : Oper} {a : Act} {x : Operand} (ho : o.op = .slice T x none none none) (hT : P.underlying T = some (.array n E)) (hl : P.arrayLen T = n) (he : P.elem T = E) (hx : a.eval x = .pointer (some ⟨g, 0, none⟩)) (hs : (P.info? E).map (·.size) = some sz) (w : World) : (execOp a.eval o).run P w = .ok (.value (.slice (some ⟨g, 0, none⟩) n n)) w := by
 unfold execOp
 rw [ho]
 have h := run_sliceAt_array_all (P := P) w T ⟨g, 0, none⟩ (by rw [hl, he]; exact hT)
 rw [hl, he] at h
 obtain ⟨i, hi, hz⟩ := Option.map_eq_some_iff.1 hs
 have h2 : (Go.sizeOf E).run P w = .ok sz w := by simp [Go.sizeOf, typeInfo, hi, hz]
 rw [h2] at h
 simp only [Result.andThen_ok, slicedAt, Nat.zero_mul, Nat.sub_zero] at h
 have hadd : (⟨g, 0, none⟩ : Addr).add 0 = ⟨g, 0, none⟩ := by unfold Addr.add; split <;> simp_all
 rw [hadd] at h
 simp [hx, h]
end Tw
/- Slots of a ship, one after the other. -/
namespace Go.Proofs.YtlinjngifacmoaaDoor
open Go Go.RowKit Tw
def encSl (x : Slt) : Array Value := #[.agg (sltC x).toArray]
def colR (z k : Nat) : Nat → Nat → List Slt
 | 0, _ => []
 | r + 1, t => tierS z k t ++ colR z k r (t + 1)
theorem colR_app (z k : Nat) : ∀ (r t : Nat), colR z k r t = (List.range' t r).flatMap (tierS z k)
 | 0, t => by simp [colR]
 | r + 1, t => by simp [colR, colR_app z k r (t + 1), List.range'_succ]
theorem colSl_R (z k : Nat) (n : Int) : colSl z k n = colR z k n.toNat 0 := by
 rw [colR_app, colSl, List.range_eq_range']
theorem slotsF_drop {z : Nat} {cs : List Col} {k i : Nat} {c : Col} (h : cs[i]? = some c) : slotsF z k (cs.drop i) = colR z k c.tiers.toNat 0 ++ slotsF z (k + 1) (cs.drop (i + 1)) := by
 obtain ⟨hk, rfl⟩ := List.getElem?_eq_some_iff.1 h
 rw [List.drop_eq_getElem_cons hk]
 simp only [slotsF, colSl_R]
theorem slotsF_end {z : Nat} {cs : List Col} {k i : Nat} (h : ¬ i < cs.length) : slotsF z k (cs.drop i) = [] := by
 rw [List.drop_eq_nil_of_le Tw.om]; rfl
theorem tierS_drop {z k t j h : Nat} (hj : (hsX z)[j]? = some h) : ((hsX z).drop j).map (fun h => (⟨((k : Nat) : Int), ((t : Nat) : Int), h⟩ : Slt)) = ⟨((k : Nat) : Int), ((t : Nat) : Int), h⟩ :: ((hsX z).drop (j + 1)).map (fun h => (⟨((k : Nat) : Int), ((t : Nat) : Int), h⟩ : Slt)) := by
 obtain ⟨hk, rfl⟩ := List.getElem?_eq_some_iff.1 hj
 rw [List.drop_eq_getElem_cons hk]; rfl
theorem posT_step {cs : List Col} {i : Nat} {c : Col} (h : cs[i]? = some c) : posT (cs.take (i + 1)) = posT (cs.take i) + c.tiers.toNat := by
 have key : ∀ (a b : List Col), posT (a ++ b) = posT a + posT b := by
   intro a b
   induction a with
   | nil => simp [posT]
   | cons x a ih => simp only [List.cons_append, posT, ih]; omega
 obtain ⟨hk, rfl⟩ := List.getElem?_eq_some_iff.1 h
 rw [List.take_succ_eq_append_getElem hk, key]
 simp [posT]
theorem posT_all {cs : List Col} {i : Nat} (h : ¬ i < cs.length) : posT (cs.take i) = posT cs := by rw [List.take_of_length_le Tw.om]
theorem posT_take {cs : List Col} (m : Nat) (h : ∀ c ∈ cs, c.tiers ≤ ((m : Nat) : Int)) (i : Nat) : posT (cs.take i) ≤ i * m := by
 have h1 := posT_le (cs := cs.take i) (m := m) fun c hc => h c (List.mem_of_mem_take hc)
 have h2 : (cs.take i).length ≤ i := by rw [List.length_take]; omega
 exact Nat.le_trans h1 (Nat.mul_le_mul_right _ h2)
def HLx {α : Type} (cells : α → List Value) (p : Option Addr) (l : List α) (T : List (Nat × Obj)) : Prop := ∀ W : World, (∀ b ∈ T, W.heap[b.1]? = some b.2) → SLV W p (l.flatMap cells)
theorem HLx.rl {α : Type} {cells : α → List Value} {W0 : Base} {p : Option Addr} {l : List α} {T : List (Nat × Obj)} (h : HLx cells p l T) : RL cells W0 p l T := fun W hW => h W hW.2
def OutHL {α : Type} (cells : α → List Value) (E : TypeId) (K : List (Nat × Obj)) (l : List α) (v : Value) (K' : List (Nat × Obj)) : Prop := ∃ p c Kl, v = .slice p l.length c ∧ HLx cells p l Kl ∧ (∀ b ∈ Kl, ∃ cur, b.2 = .cells cur E (0, 0)) ∧ (∀ p ∈ K, ∀ q ∈ Kl, q.1 ≠ p.1) ∧ K' = K ++ Kl
theorem calls_hl {α : Type} {P : Program} {cells : α → List Value} {sz : Nat} {W0 : Base} {W : World} {K : List (Nat × Obj)} {E : TypeId} {l : List α} {f : FuncId} {args : Array Value} (hW : KS W0 K W) (h : Calls P f args W fun e w' => ∃ v, e = .returned v ∧ OutV W w' E sz v l.length (l.flatMap cells) ∧ Below W.heap.size W w') :
   Calls P f args W fun e w' => ∃ v K', e = .returned v ∧ KS W0 K' w' ∧ OutHL cells E K l v K' :=
 h.mono fun e w' ⟨v, he, hO, hb⟩ => by
   obtain ⟨Kl, h1, h2, h3⟩ := hO.own hW hb
   rcases h1 with ⟨h0, hx, rfl, rfl⟩ | ⟨g, cap, cur, rfl, hB, hR, rfl⟩
   · exact ⟨_, _, he, h3, none, 0, [], by rw [h0], fun _ _ => .inl hx, (fun _ h => by cases h), h2, rfl⟩
   · exact ⟨_, _, he, h3, some ⟨g, 0, none⟩, cap, _, rfl, fun W' hW' => .inr ⟨g, 0, rfl, lt_of_block (hW' _ Tw.m0), hR.cel (hW' _ Tw.m0)⟩, (fun b hb => by cases List.mem_singleton.1 hb; exact ⟨_, rfl⟩), h2, rfl⟩
theorem own_cells {W0 : Base} {E : TypeId} {sz n : Nat} {v : Value} {xs : List Value} {K : List (Nat × Obj)} (h : OwnL W0 E sz v n xs K) : ∀ p ∈ K, p.2.isCells = true := by
 rcases h with ⟨_, _, _, rfl⟩ | ⟨g, cap, cur, _, _, _, rfl⟩
 · exact fun _ h => by cases h
 · exact fun p hp => by cases List.mem_singleton.1 hp; rfl
theorem own_rest {W0 : Base} {E : TypeId} {sz n : Nat} {v : Value} {xs : List Value} {K K2 : List (Nat × Obj)} {W : World} {ts : List TypeId} (h : OwnL W0 E sz v n xs K) (hK : KS W0 K2 W) (hs : ∀ p ∈ K, p ∈ K2) (ht : E ∈ ts) : Dj K (restT ts W) := by
 rcases h with ⟨_, _, _, rfl⟩ | ⟨g, cap, cur, _, _, _, rfl⟩
 · exact fun _ h => by cases h
 · intro p hp q hq e
   cases List.mem_singleton.1 hp
   exact restT_ne (hK.2 _ (hs _ Tw.m0)) (by simp [ownT, ht]) q hq e
theorem own_low {W0 : Base} {K : List (Nat × Obj)} {W : World} {g : Nat} (hK : KS W0 K W) (hg : W.heap.size ≤ g) : Dk g K := fun p hp e => by
 have := lt_of_block (hK.2 p hp); omega
def ASI (W0 : Base) (g : Nat) (pre : List Slt) (K : List (Nat × Obj)) : Prop := ∃ v Kl, K = (g, .cells #[v] 35 (0, 0)) :: Kl ∧ OwnL W0 34 3 v pre.length (pre.flatMap sltC) Kl ∧ Dk g Kl
theorem asi_cells {W0 : Base} {g : Nat} (ys : List Slt) (K : List (Nat × Obj)) (h : ASI W0 g ys K) : ∀ p ∈ K, p.2.isCells = true := by
 obtain ⟨v, Kl, rfl, hO, _⟩ := h
 exact List.forall_mem_cons.2 ⟨rfl, own_cells hO⟩
end Go.Proofs.YtlinjngifacmoaaDoor
namespace Go.Proofs.YtlinjngifacmoaaDoor
open Go Go.RowKit Tw
set_option maxRecDepth 100000 in
set_option maxHeartbeats 4000000 in
theorem slots1_stops (n₀ b1 b2 : Nat) (cs : List Col) (pc : Option Addr) (cc : Nat) (ov : Value) (t : Tl) (z : Nat) (w0 : World) (hn0 : n₀ ≤ w0.heap.size) (hl : cs.length ≤ 1000000) (htm : ∀ c ∈ cs, c.tiers ≤ 1000000)
   (hb1 : w0.heap[b1]? = some (.cells (shC (.slice pc cs.length cc) ov t).toArray 32 (0, 0))) (hb2 : w0.heap[b2]? = some (.cells #[.int .u8 ((z : Nat) : Int)] 5 (0, 0))) (hc : ∀ W, Below n₀ w0 W → SLV W pc (cs.flatMap colC)) :
   SeqStopsK (FX none) 0 Tryd.prog 81 #[.pointer (some ⟨b1, 0, none⟩), .pointer (some ⟨b2, 0, none⟩)] encSl (KpT [34, 35] n₀) (fun ys => ys = slotsX cs z) (fun _ => True) (slotsX cs z).length w0 := by
 intro l J Jx W1 hB0 hJa hJxa hYd hJ0
 have hBw : Below n₀ w0 W1 := hB0.mono hn0
 have hh2 := hsX_len z
 have hR1 : KS (W1 : World) [(b1, .cells (shC (.slice pc cs.length cc) ov t).toArray 32 (0, 0)), (b2, .cells #[.int .u8 ((z : Nat) : Int)] 5 (0, 0))] W1 := ⟨Below.refl _ _, List.forall_mem_cons.2 ⟨(hB0.block b1 (lt_of_block hb1)).trans hb1, List.forall_mem_cons.2 ⟨(hB0.block b2 (lt_of_block hb2)).trans hb2, List.forall_mem_nil _⟩⟩⟩
 refine callsIn_of_wp Tryd.func81 rfl trivial ?_ rfl
 simp only [Tryd.ntmps81, List.size_toArray, List.length_cons, List.length_nil, Nat.reduceAdd, Nat.reduceSub, Array.replicate_succ, Array.replicate_zero, List.push_toArray, List.append_toArray, List.nil_append, List.cons_append]
 refine wpIn_seq ?_
 refine wp_region_LI (W0 := (W1 : World)) [(b1, .cells (shC (.slice pc cs.length cc) (ov) t).toArray 32 (0, 0)), (b2, .cells #[.int .u8 ((z : Nat) : Int)] 5 (0, 0))] Tw.kr (hR1) ?_
 refine lm (v := .pointer (some ⟨b1, 0, none⟩)) rfl rfl ?_
 refine lv (v := .slice pc cs.length cc) rfl rfl (yb_cell (off := 0) rfl Tw.kr Tw.m0 Tryd.underlying22 rfl Tw.kr) ?_
 refine lp (v := .int .i64 ((cs.length : Nat) : Int)) rfl rfl (run_lenL (p := pc) (cap := cc) (n := cs.length) rfl Tryd.underlying22 Tw.kr) ?_
 refine lm (v := .int .i64 0) rfl rfl ?_
 refine wpL_done (fun W2 hW2 => ?_)
 have hR2 : KS (W2 : World) [(b1, .cells (shC (.slice pc cs.length cc) (ov) t).toArray 32 (0, 0)), (b2, .cells #[.int .u8 ((z : Nat) : Int)] 5 (0, 0))] W2 := ⟨Below.refl _ _, hW2.2⟩
 have hJ2 := abideK hJa hJ0 hW2
 have hB2 := hBw.trans (hW2.1.mono (Nat.le_trans hn0 hBw.size))
 refine (show Code.wpIn _ _ _ _ _ _ _ from ?_)
 refine wpIn_block ?_
 gi_loopw [12] (fun u12 wr => ∃ (k : Nat) (pre1 : List Slt), (k ≤ cs.length) ∧ (slotsX cs z = pre1 ++ slotsF z k (cs.drop k)) ∧ (J pre1 wr) ∧ (Below n₀ w0 wr) ∧ u12 = .int .i64 ((k : Nat) : Int) ∧ KS (wr : World) [(b1, .cells (shC (.slice pc cs.length cc) (ov) t).toArray 32 (0, 0)), (b2, .cells #[.int .u8 ((z : Nat) : Int)] 5 (0, 0))] wr) (fun u12 _ => cs.length - (intOf u12).toNat)
 case atStart => exact ⟨0, [], (Nat.zero_le _), rfl, hJ2, hB2, rfl, (hR2.sub (fun p hp => by first | exact hp | (simp only [List.mem_cons, List.mem_append, List.nil_append, List.not_mem_nil, or_assoc, or_false, false_or] at hp ⊢ <;> grind)))⟩
 case round =>
   obtain ⟨k, pre1, hk, hx1, hJl2, hBl2, rfl, hL3⟩ := hrel
   have hRl2 := hL3
   refine wpIn_seq ?_
   refine wp_region_LI (W0 := (wr : World)) [(b1, .cells (shC (.slice pc cs.length cc) (ov) t).toArray 32 (0, 0)), (b2, .cells #[.int .u8 ((z : Nat) : Int)] 5 (0, 0))] Tw.kr (hRl2) ?_
   refine lp (v := .bool (decide (k < cs.length))) rfl rfl (run_bin rfl (vx := (.int .i64 ((k : Nat) : Int))) (vy := (.int .i64 ((cs.length : Nat) : Int))) Tw.kr Tw.kr fun w => bn_lss rfl w) ?_
   refine wpL_done (fun W4 hW4 => ?_)
   have hR4 : KS (W4 : World) [(b1, .cells (shC (.slice pc cs.length cc) (ov) t).toArray 32 (0, 0)), (b2, .cells #[.int .u8 ((z : Nat) : Int)] 5 (0, 0))] W4 := ⟨Below.refl _ _, hW4.2⟩
   have hJ4 := abideK hJa hJl2 hW4
   have hB4 := hBl2.trans (hW4.1.mono (Nat.le_trans hn0 hBl2.size))
   refine (show Code.wpIn _ _ _ _ _ _ _ from ?_)
   refine wpIn_seq ?_
   cases hd1 : (decide (k < cs.length)) with
   | false =>
     have h1 : ¬ (k < cs.length) := of_decide_eq_false hd1
     clear hd1
     rw [slotsF_end Tw.om, List.append_nil] at hx1
     refine wpIn_cond_false rfl ?_
     refine wpIn_exit ?_
     simp only [then_exitX, inBlock_exitX]
     refine bodyPost_end (results_none rfl _ _ _) rfl ?_
     exact ⟨⟨_, rfl⟩, .inl ⟨_, hx1.symm, hJ4⟩⟩
   | true =>
     have h1 : k < cs.length := of_decide_eq_true hd1
     clear hd1
     refine wpIn_cond_true rfl ?_
     refine wpIn_skip ?_
     refine (show Code.wpIn _ _ _ _ _ _ _ from ?_)
     refine wpIn_seq ?_
     refine wpIn_block ?_
     refine wpIn_seq ?_
     refine wp_region_LI (W0 := (W4 : World)) [(b1, .cells (shC (.slice pc cs.length cc) (ov) t).toArray 32 (0, 0)), (b2, .cells #[.int .u8 ((z : Nat) : Int)] 5 (0, 0))] Tw.kr (hR4) ?_
     refine lm (v := .int .i64 ((k : Nat) : Int)) rfl rfl ?_
     obtain ⟨y6, g6_, f6_, hy6, hp6, hc6⟩ := RL.at (RL.base (hc _ hB4)) colC_len (by decide) (hR4.sub (fun _ h => by cases h)) (k := k) Tw.om
     have hcol6 := hy6
     have hy6c := hy6
     refine lp (v := .pointer (some ⟨g6_, f6_ + k * 12, none⟩)) rfl rfl (run_idxQ (p := pc) (cap := cc) (n := cs.length) (j := .i64) (k := k) (sz := 12) rfl Tryd.underlying22 Tw.kr Tw.kr hp6 Tw.kr Tw.om) ?_
     refine lv (v := .agg (colC y6).toArray) rfl rfl (yb_rs (off := f6_ + k * 12) (cs := colC y6) rfl Tw.kr (fun W hW => hc6 W (hW.sub (fun _ h => by cases h))) Tryd.underlying65 rfl Tw.kr) ?_
     refine wpL_new (fun g => .pointer (some ⟨g, 0, none⟩)) (obi := .cells #[.int .i64 0, .int .i64 0, .bool false, .int .i64 0, .int .i64 0, .int .i64 0, .int .i64 0, .int .i64 0, .slice none 0 0, .int .i64 0, .int .i64 0, .int .i64 0] 65 (0, 0)) rfl rfl Tw.kf Tw.pf fun g7 Bg7 Fg7 => ?_
     obtain ⟨dj8_0, dj8_1⟩ : b1 ≠ g7 ∧ b2 ≠ g7 := Tw.dkf Fg7
     refine lm (v := .int .i64 ((k : Nat) : Int)) rfl rfl ?_
     refine wpL_s [(g7, .cells (colC y6).toArray 65 (0, 0)), (b1, .cells (shC (.slice pc cs.length cc) (ov) t).toArray 32 (0, 0)), (b2, .cells #[.int .u8 ((z : Nat) : Int)] 5 (0, 0))] rfl rfl (st_row (off := 0) (v := .agg (colC y6).toArray) rfl Tw.kr Tw.kr Tw.m0 Bg7 Tw.kr (by first | (simp [Value.cells]; done) | exact Nat.le_of_ble_eq_true rfl) (fun v hv => colC_one y6 v hv) Tw.kr (List.forall_mem_cons.2 ⟨.inl rfl, (List.forall_mem_cons.2 ⟨.inr ⟨Tw.m1, Tw.nee⟩, (List.forall_mem_cons.2 ⟨.inr ⟨Tw.m2, Tw.nee⟩, (List.forall_mem_nil _)⟩)⟩)⟩)) ?_
     refine wpL_done (fun W5 hW5 => ?_)
     have hR5 : KS (W5 : World) [(g7, .cells (colC y6).toArray 65 (0, 0)), (b1, .cells (shC (.slice pc cs.length cc) (ov) t).toArray 32 (0, 0)), (b2, .cells #[.int .u8 ((z : Nat) : Int)] 5 (0, 0))] W5 := ⟨Below.refl _ _, hW5.2⟩
     have hJ5 := abideK hJa hJ4 hW5
     have hB5 := hB4.trans (hW5.1.mono (Nat.le_trans hn0 hB4.size))
     refine (show Code.wpIn _ _ _ _ _ _ _ from ?_)
     refine wpIn_seq ?_
     refine wp_region_LI (W0 := (W5 : World)) [(g7, .cells (colC y6).toArray 65 (0, 0)), (b1, .cells (shC (.slice pc cs.length cc) (ov) t).toArray 32 (0, 0)), (b2, .cells #[.int .u8 ((z : Nat) : Int)] 5 (0, 0))] Tw.kr (hR5) ?_
     refine lm (v := .pointer (some ⟨g7, 3, none⟩)) rfl rfl ?_
     refine lv (v := .int .i64 y6.tiers) rfl rfl (yb_cell (off := 3) rfl Tw.kr Tw.m0 Tryd.underlying3 rfl Tw.kr) ?_
     refine lm (v := .int .i64 0) rfl rfl ?_
     refine wpL_done (fun W6 hW6 => ?_)
     have hR6 : KS (W6 : World) [(g7, .cells (colC y6).toArray 65 (0, 0)), (b1, .cells (shC (.slice pc cs.length cc) (ov) t).toArray 32 (0, 0)), (b2, .cells #[.int .u8 ((z : Nat) : Int)] 5 (0, 0))] W6 := ⟨Below.refl _ _, hW6.2⟩
     have hJ6 := abideK hJa hJ5 hW6
     have hB6 := hB5.trans (hW6.1.mono (Nat.le_trans hn0 hB5.size))
     refine (show Code.wpIn _ _ _ _ _ _ _ from ?_)
     refine wpIn_block ?_
     rw [slotsF_drop hy6] at hx1
     have htm1 := htm y6 (List.mem_of_getElem? hy6)
     obtain ⟨m, hm⟩ : ∃ m : Nat, y6.tiers.toNat = m := ⟨_, rfl⟩
     rw [hm] at hx1
     gi_loopw [19] (fun u19 wr => ∃ (t0 r0 : Nat) (pre2 : List Slt), (t0 + r0 = m) ∧ (slotsX cs z = pre2 ++ (colR z k r0 t0 ++ slotsF z (k + 1) (cs.drop (k + 1)))) ∧ (J pre2 wr) ∧ (Below n₀ w0 wr) ∧ u19 = .int .i64 ((t0 : Nat) : Int) ∧ KS (wr : World) [(b1, .cells (shC (.slice pc cs.length cc) (ov) t).toArray 32 (0, 0)), (b2, .cells #[.int .u8 ((z : Nat) : Int)] 5 (0, 0))] wr) (fun u19 _ => m - (intOf u19).toNat)
     case atStart => exact ⟨0, m, pre1, Tw.om, hx1, hJ6, hB6, rfl, (hR6.sub (fun p hp => by first | exact hp | (simp only [List.mem_cons, List.mem_append, List.nil_append, List.not_mem_nil, or_assoc, or_false, false_or] at hp ⊢ <;> grind)))⟩
     case round =>
       obtain ⟨t0, r0, pre2, ht, hx2, hJl6, hBl6, rfl, hL7⟩ := hrel
       have hRl6 := hL7
       refine wpIn_seq ?_
       refine wp_region_LI (W0 := (wr : World)) [(b1, .cells (shC (.slice pc cs.length cc) (ov) t).toArray 32 (0, 0)), (b2, .cells #[.int .u8 ((z : Nat) : Int)] 5 (0, 0))] Tw.kr (hRl6) ?_
       refine lp (v := .bool (decide (((t0 : Nat) : Int) < y6.tiers))) rfl rfl (run_bin rfl (vx := (.int .i64 ((t0 : Nat) : Int))) (vy := (.int .i64 y6.tiers)) Tw.kr Tw.kr fun w => bi_lss rfl w) ?_
       refine wpL_done (fun W8 hW8 => ?_)
       have hR8 : KS (W8 : World) [(b1, .cells (shC (.slice pc cs.length cc) (ov) t).toArray 32 (0, 0)), (b2, .cells #[.int .u8 ((z : Nat) : Int)] 5 (0, 0))] W8 := ⟨Below.refl _ _, hW8.2⟩
       have hJ8 := abideK hJa hJl6 hW8
       have hB8 := hBl6.trans (hW8.1.mono (Nat.le_trans hn0 hBl6.size))
       refine (show Code.wpIn _ _ _ _ _ _ _ from ?_)
       refine wpIn_seq ?_
       cases hd2 : (decide (((t0 : Nat) : Int) < y6.tiers)) with
       | false =>
         have h2 : ¬ (((t0 : Nat) : Int) < y6.tiers) := of_decide_eq_false hd2
         clear hd2
         obtain rfl : r0 = 0 := by omega
         refine wpIn_cond_false rfl ?_
         refine wpIn_exit ?_
         refine (show Code.wpIn _ _ _ _ _ _ _ from ?_)
         refine wp_region_LI (W0 := (W8 : World)) [(b1, .cells (shC (.slice pc cs.length cc) (ov) t).toArray 32 (0, 0)), (b2, .cells #[.int .u8 ((z : Nat) : Int)] 5 (0, 0))] Tw.kr (hR8) ?_
         refine lp (v := .int .i64 (((k + 1) : Nat) : Int)) rfl rfl (run_bin rfl (vx := (.int .i64 ((k : Nat) : Int))) (vy := (.int .i64 ((1 : Nat) : Int))) Tw.kr Tw.kr fun w => bn_add (z := (k + 1)) rfl (wr_i64 Tw.om) w) ?_
         refine lm (v := .int .i64 (((k + 1) : Nat) : Int)) rfl rfl ?_
         refine wpL_done (fun W9 hW9 => ?_)
         have hR9 : KS (W9 : World) [(b1, .cells (shC (.slice pc cs.length cc) (ov) t).toArray 32 (0, 0)), (b2, .cells #[.int .u8 ((z : Nat) : Int)] 5 (0, 0))] W9 := ⟨Below.refl _ _, hW9.2⟩
         have hJ9 := abideK hJa hJ8 hW9
         have hB9 := hB8.trans (hW9.1.mono (Nat.le_trans hn0 hB8.size))
         go_roundw
         case rel =>
           repeat apply Exists.intro
           exact ⟨⟨k + 1, pre2, Tw.om, (by rw [hx2, (show colR z k 0 t0 = [] from rfl), List.nil_append] <;> rfl), hJ9, hB9, rfl, (hR9.sub (fun p hp => by first | exact hp | (simp only [List.mem_cons, List.mem_append, List.nil_append, List.not_mem_nil, or_assoc, or_false, false_or] at hp ⊢ <;> grind)))⟩, rfl⟩
         case measure => (show cs.length - (intOf (.int .i64 (((k + 1) : Nat) : Int))).toNat < cs.length - (intOf (.int .i64 ((k : Nat) : Int))).toNat); simp only [intOf]; omega
       | true =>
         have h2 : ((t0 : Nat) : Int) < y6.tiers := of_decide_eq_true hd2
         clear hd2
         obtain ⟨r, rfl⟩ : ∃ r, r0 = r + 1 := ⟨r0 - 1, by omega⟩
         rw [show colR z k (r + 1) t0 = tierS z k t0 ++ colR z k r (t0 + 1) from rfl] at hx2
         refine wpIn_cond_true rfl ?_
         refine wpIn_skip ?_
         refine (show Code.wpIn _ _ _ _ _ _ _ from ?_)
         refine wpIn_seq ?_
         refine wpIn_block ?_
         refine wpIn_seq ?_
         refine wp_region_LI (W0 := (W8 : World)) [(b1, .cells (shC (.slice pc cs.length cc) (ov) t).toArray 32 (0, 0)), (b2, .cells #[.int .u8 ((z : Nat) : Int)] 5 (0, 0))] Tw.kr (hR8) ?_
         refine lm (v := .int .i64 ((t0 : Nat) : Int)) rfl rfl ?_
         refine lm (v := .int .i64 ((t0 : Nat) : Int)) rfl rfl ?_
         refine wpL_done (fun W10 hW10 => ?_)
         have hR10 : KS (W10 : World) [(b1, .cells (shC (.slice pc cs.length cc) (ov) t).toArray 32 (0, 0)), (b2, .cells #[.int .u8 ((z : Nat) : Int)] 5 (0, 0))] W10 := ⟨Below.refl _ _, hW10.2⟩
         have hJ10 := abideK hJa hJ8 hW10
         have hB10 := hB8.trans (hW10.1.mono (Nat.le_trans hn0 hB8.size))
         refine (show Code.wpIn _ _ _ _ _ _ _ from ?_)
         refine wpIn_seq ?_
         refine wp_region_LI (W0 := (W10 : World)) [(b1, .cells (shC (.slice pc cs.length cc) (ov) t).toArray 32 (0, 0)), (b2, .cells #[.int .u8 ((z : Nat) : Int)] 5 (0, 0))] Tw.kr (hR10) ?_
         refine lv (v := .int .u8 ((z : Nat) : Int)) rfl rfl (yb_cell (off := 0) rfl Tw.kr Tw.m1 Tryd.underlying5 rfl Tw.kr) ?_
         refine wpL_c (f := 47) (args := #[.int .u8 ((z : Nat) : Int)]) (OutHL u8C 5 [(b1, .cells (shC (.slice pc cs.length cc) (ov) t).toArray 32 (0, 0)), (b2, .cells #[.int .u8 ((z : Nat) : Int)] 5 (0, 0))] (hsX z)) rfl Tw.kr Tw.kf (fun W hW => calls_hl hW (halves_any z W)) Tw.pf ?_
         rintro _ _ ⟨ph, ch, Kh, rfl, hHL, hHT, hHN, rfl⟩
         have hTKh : ∀ p ∈ Kh, p.2.isCells = true ∧ ownT [34, 35] p.2 = false := fun p hp => by obtain ⟨cur, e⟩ := hHT p hp; rw [e]; exact ⟨rfl, rfl⟩
         obtain ⟨dj10_0, dj10_1⟩ : Dk b1 Kh ∧ Dk b2 Kh := Tw.djf hHN
         refine lp (v := .int .i64 ((((hsX z).length) : Nat) : Int)) rfl rfl (run_lenL (p := ph) (cap := ch) (n := (hsX z).length) rfl Tryd.underlying78 Tw.kr) ?_
         refine lm (v := .int .i64 0) rfl rfl ?_
         refine wpL_done (fun W11 hW11 => ?_)
         have hR11 : KS (W11 : World) ((b1, .cells (shC (.slice pc cs.length cc) (ov) t).toArray 32 (0, 0)) :: (b2, .cells #[.int .u8 ((z : Nat) : Int)] 5 (0, 0)) :: Kh) W11 := ⟨Below.refl _ _, hW11.2⟩
         have hJ11 := abideK hJa hJ10 hW11
         have hB11 := hB10.trans (hW11.1.mono (Nat.le_trans hn0 hB10.size))
         refine (show Code.wpIn _ _ _ _ _ _ _ from ?_)
         refine wpIn_block ?_
         gi_loopw [25] (fun u25 wr => ∃ (j : Nat) (pre3 : List Slt), (j ≤ (hsX z).length) ∧ (slotsX cs z = pre3 ++ (((hsX z).drop j).map (fun h => (⟨((k : Nat) : Int), ((t0 : Nat) : Int), h⟩ : Slt)) ++ (colR z k r (t0 + 1) ++ slotsF z (k + 1) (cs.drop (k + 1))))) ∧ (J pre3 wr) ∧ (Below n₀ w0 wr) ∧ u25 = .int .i64 ((j : Nat) : Int) ∧ KS (wr : World) ((b1, .cells (shC (.slice pc cs.length cc) (ov) t).toArray 32 (0, 0)) :: (b2, .cells #[.int .u8 ((z : Nat) : Int)] 5 (0, 0)) :: Kh) wr) (fun u25 _ => (hsX z).length - (intOf u25).toNat)
         case atStart => exact ⟨0, pre2, (Nat.zero_le _), (by rw [hx2, List.append_assoc]; rfl), hJ11, hB11, rfl, (hR11.sub (fun p hp => by first | exact hp | (simp only [List.mem_cons, List.mem_append, List.nil_append, List.not_mem_nil, or_assoc, or_false, false_or] at hp ⊢ <;> grind)))⟩
         case round =>
           obtain ⟨j, pre3, hj, hx3, hJl11, hBl11, rfl, hL12⟩ := hrel
           have hRl11 := hL12
           refine wpIn_seq ?_
           refine wp_region_LI (W0 := (wr : World)) ((b1, .cells (shC (.slice pc cs.length cc) (ov) t).toArray 32 (0, 0)) :: (b2, .cells #[.int .u8 ((z : Nat) : Int)] 5 (0, 0)) :: Kh) Tw.kr (hRl11) ?_
           refine lp (v := .bool (decide (j < ((hsX z).length)))) rfl rfl (run_bin rfl (vx := (.int .i64 ((j : Nat) : Int))) (vy := (.int .i64 ((((hsX z).length) : Nat) : Int))) Tw.kr Tw.kr fun w => bn_lss rfl w) ?_
           refine wpL_done (fun W13 hW13 => ?_)
           have hR13 : KS (W13 : World) ((b1, .cells (shC (.slice pc cs.length cc) (ov) t).toArray 32 (0, 0)) :: (b2, .cells #[.int .u8 ((z : Nat) : Int)] 5 (0, 0)) :: Kh) W13 := ⟨Below.refl _ _, hW13.2⟩
           have hJ13 := abideK hJa hJl11 hW13
           have hB13 := hBl11.trans (hW13.1.mono (Nat.le_trans hn0 hBl11.size))
           refine (show Code.wpIn _ _ _ _ _ _ _ from ?_)
           refine wpIn_seq ?_
           cases hd3 : (decide (j < ((hsX z).length))) with
           | false =>
             have h3 : ¬ (j < ((hsX z).length)) := of_decide_eq_false hd3
             clear hd3
             refine wpIn_cond_false rfl ?_
             refine wpIn_exit ?_
             refine (show Code.wpIn _ _ _ _ _ _ _ from ?_)
             refine wp_region_LI (W0 := (W13 : World)) ((b1, .cells (shC (.slice pc cs.length cc) (ov) t).toArray 32 (0, 0)) :: (b2, .cells #[.int .u8 ((z : Nat) : Int)] 5 (0, 0)) :: Kh) Tw.kr (hR13) ?_
             refine lp (v := .int .i64 (((t0 + 1) : Nat) : Int)) rfl rfl (run_bin rfl (vx := (.int .i64 ((t0 : Nat) : Int))) (vy := (.int .i64 ((1 : Nat) : Int))) Tw.kr Tw.kr fun w => bn_add (z := (t0 + 1)) rfl (wr_i64 Tw.om) w) ?_
             refine lm (v := .int .i64 (((t0 + 1) : Nat) : Int)) rfl rfl ?_
             refine wpL_done (fun W14 hW14 => ?_)
             have hR14 : KS (W14 : World) ((b1, .cells (shC (.slice pc cs.length cc) (ov) t).toArray 32 (0, 0)) :: (b2, .cells #[.int .u8 ((z : Nat) : Int)] 5 (0, 0)) :: Kh) W14 := ⟨Below.refl _ _, hW14.2⟩
             have hJ14 := abideK hJa hJ13 hW14
             have hB14 := hB13.trans (hW14.1.mono (Nat.le_trans hn0 hB13.size))
             go_roundw
             case rel =>
               repeat apply Exists.intro
               exact ⟨⟨t0 + 1, r, pre3, Tw.om, (by rw [hx3, (show ((hsX z).drop j).map (fun h => (⟨((k : Nat) : Int), ((t0 : Nat) : Int), h⟩ : Slt)) = [] from by rw [List.drop_eq_nil_of_le Tw.om]; rfl), List.nil_append] <;> rfl), hJ14, hB14, rfl, (hR14.sub (fun p hp => by first | exact hp | (simp only [List.mem_cons, List.mem_append, List.nil_append, List.not_mem_nil, or_assoc, or_false, false_or] at hp ⊢ <;> grind)))⟩, rfl⟩
             case measure => (show m - (intOf (.int .i64 (((t0 + 1) : Nat) : Int))).toNat < m - (intOf (.int .i64 ((t0 : Nat) : Int))).toNat); simp only [intOf]; omega
           | true =>
             have h3 : j < ((hsX z).length) := of_decide_eq_true hd3
             clear hd3
             refine wpIn_cond_true rfl ?_
             refine wpIn_skip ?_
             refine (show Code.wpIn _ _ _ _ _ _ _ from ?_)
             refine wpIn_seq ?_
             refine wpIn_block ?_
             refine wpIn_seq ?_
             refine wp_region_LI (W0 := (W13 : World)) ((b1, .cells (shC (.slice pc cs.length cc) (ov) t).toArray 32 (0, 0)) :: (b2, .cells #[.int .u8 ((z : Nat) : Int)] 5 (0, 0)) :: Kh) Tw.kr (hR13) ?_
             obtain ⟨y11, g11_, f11_, hy11, hp11, hc11⟩ := RL.at (HLx.rl hHL) u8C_len (by decide) (hR13.sub (fun p hp => by simp only [List.mem_cons, List.mem_append, List.nil_append, List.not_mem_nil, or_assoc, or_false, false_or, hp, true_or, or_true])) (k := j) Tw.om
             rw [tierS_drop hy11] at hx3
             refine lp (v := .pointer (some ⟨g11_, f11_ + j * 1, none⟩)) rfl rfl (run_idxQ (p := ph) (cap := ch) (n := (hsX z).length) (j := .i64) (k := j) (sz := 1) rfl Tryd.underlying78 Tw.kr Tw.kr hp11 Tw.kr Tw.om) ?_
             refine lv (v := .int .u8 ((y11 : Nat) : Int)) rfl rfl (yb_rf (v := .int .u8 ((y11 : Nat) : Int)) rfl Tw.kr (fun W hW => hc11 W (hW.sub (fun p hp => by simp only [List.mem_cons, List.mem_append, List.nil_append, List.not_mem_nil, or_assoc, or_false, false_or, hp, true_or, or_true])) 0 _ rfl) Tryd.underlying5 rfl) ?_
             refine lm (v := .int .u8 ((y11 : Nat) : Int)) rfl rfl ?_
             refine wpL_done (fun W15 hW15 => ?_)
             have hR15 : KS (W15 : World) ((b1, .cells (shC (.slice pc cs.length cc) (ov) t).toArray 32 (0, 0)) :: (b2, .cells #[.int .u8 ((z : Nat) : Int)] 5 (0, 0)) :: Kh) W15 := ⟨Below.refl _ _, hW15.2⟩
             have hJ15 := abideK hJa hJ13 hW15
             have hB15 := hB13.trans (hW15.1.mono (Nat.le_trans hn0 hB13.size))
             refine (show Code.wpIn _ _ _ _ _ _ _ from ?_)
             refine wpIn_seq ?_
             refine wp_region_S (W0 := (W15 : World)) (List.take 5 _) (List.drop 5 _) ((b1, .cells (shC (.slice pc cs.length cc) (ov) t).toArray 32 (0, 0)) :: (b2, .cells #[.int .u8 ((z : Nat) : Int)] 5 (0, 0)) :: Kh) (List.take_append_drop 5 _).symm Tw.kr (hR15) ?_
             simp only [List.take_succ_cons, List.take_zero, List.drop_succ_cons, List.drop_zero]
             refine lm (v := .func (.yield l) #[] #[]) rfl rfl ?_
             refine lm (v := .int .i64 ((k : Nat) : Int)) rfl rfl ?_
             refine lm (v := .int .i64 ((t0 : Nat) : Int)) rfl rfl ?_
             refine lm (v := .int .u8 ((y11 : Nat) : Int)) rfl rfl ?_
             refine lm (v := .agg #[.int .i64 ((k : Nat) : Int), .int .i64 ((t0 : Nat) : Int), .int .u8 ((y11 : Nat) : Int)]) rfl rfl ?_
             refine wpL_done (fun W16 hW16 => ?_)
             have hR16 : KS (W16 : World) ((b1, .cells (shC (.slice pc cs.length cc) (ov) t).toArray 32 (0, 0)) :: (b2, .cells #[.int .u8 ((z : Nat) : Int)] 5 (0, 0)) :: Kh) W16 := ⟨Below.refl _ _, hW16.2⟩
             have hJ16 := abideK hJa hJ15 hW16
             have hB16 := hB15.trans (hW16.1.mono (Nat.le_trans hn0 hB15.size))
             refine (show wpListIn _ _ _ _ _ _ _ _ from ?_)
             have hYY := hYd pre3 (⟨((k : Nat) : Int), ((t0 : Nat) : Int), y11⟩ : Slt) W16 hJ16 (by rw [hx3]; simp)
             refine wpl_yield rfl rfl Tw.kr Tw.kr Tw.kr rfl hYY Tw.pu Tw.pu (fun W17 hA17 => ?_) (fun W17 hX17 => ?_)
             · obtain ⟨hJy17, hKy17⟩ := hA17
               have hko17 : ∀ p ∈ (((b1, .cells (shC (.slice pc cs.length cc) (ov) t).toArray 32 (0, 0)) :: (b2, .cells #[.int .u8 ((z : Nat) : Int)] 5 (0, 0)) :: Kh) : List (Nat × Obj)), p.2.isCells = true ∧ ownT [34, 35] p.2 = false := (List.forall_mem_cons.2 ⟨⟨rfl, rfl⟩, (List.forall_mem_cons.2 ⟨⟨rfl, rfl⟩, hTKh⟩)⟩)
               have hR17 : KS (W17 : World) ((b1, .cells (shC (.slice pc cs.length cc) (ov) t).toArray 32 (0, 0)) :: (b2, .cells #[.int .u8 ((z : Nat) : Int)] 5 (0, 0)) :: Kh) W17 := ⟨Below.refl _ _, fun p hp => hKy17.same _ _ (hR16.2 p hp) (hko17 p hp).1 (hko17 p hp).2⟩
               have hB17 := hB16.trans hKy17.below
               refine wpl_rest (W0 := (W17 : World)) ((b1, .cells (shC (.slice pc cs.length cc) (ov) t).toArray 32 (0, 0)) :: (b2, .cells #[.int .u8 ((z : Nat) : Int)] 5 (0, 0)) :: Kh) Tw.kr (hR17) ?_
               refine lm (v := .bool false) rfl rfl ?_
               refine wpL_done (fun W18 hW18 => ?_)
               have hR18 : KS (W18 : World) ((b1, .cells (shC (.slice pc cs.length cc) (ov) t).toArray 32 (0, 0)) :: (b2, .cells #[.int .u8 ((z : Nat) : Int)] 5 (0, 0)) :: Kh) W18 := ⟨Below.refl _ _, hW18.2⟩
               have hJ18 := abideK hJa hJy17 hW18
               have hB18 := hB17.trans (hW18.1.mono (Nat.le_trans hn0 hB17.size))
               refine (show Code.wpIn _ _ _ _ _ _ _ from ?_)
               refine wpIn_cond_false rfl ?_
               refine wpIn_skip ?_
               refine (show Code.wpIn _ _ _ _ _ _ _ from ?_)
               refine wp_region_LI (W0 := (W18 : World)) ((b1, .cells (shC (.slice pc cs.length cc) (ov) t).toArray 32 (0, 0)) :: (b2, .cells #[.int .u8 ((z : Nat) : Int)] 5 (0, 0)) :: Kh) Tw.kr (hR18) ?_
               refine lp (v := .int .i64 (((j + 1) : Nat) : Int)) rfl rfl (run_bin rfl (vx := (.int .i64 ((j : Nat) : Int))) (vy := (.int .i64 ((1 : Nat) : Int))) Tw.kr Tw.kr fun w => bn_add (z := (j + 1)) rfl (wr_i64 Tw.om) w) ?_
               refine lm (v := .int .i64 (((j + 1) : Nat) : Int)) rfl rfl ?_
               refine wpL_done (fun W19 hW19 => ?_)
               have hR19 : KS (W19 : World) ((b1, .cells (shC (.slice pc cs.length cc) (ov) t).toArray 32 (0, 0)) :: (b2, .cells #[.int .u8 ((z : Nat) : Int)] 5 (0, 0)) :: Kh) W19 := ⟨Below.refl _ _, hW19.2⟩
               have hJ19 := abideK hJa hJ18 hW19
               have hB19 := hB18.trans (hW19.1.mono (Nat.le_trans hn0 hB18.size))
               go_roundw
               case rel =>
                 repeat apply Exists.intro
                 exact ⟨⟨j + 1, (pre3 ++ [(⟨((k : Nat) : Int), ((t0 : Nat) : Int), y11⟩ : Slt)]), Tw.om, (by rw [hx3]; simp), hJ19, hB19, rfl, (hR19.sub (fun p hp => by first | exact hp | (simp only [List.mem_cons, List.mem_append, List.nil_append, List.not_mem_nil, or_assoc, or_false, false_or] at hp ⊢ <;> grind)))⟩, rfl⟩
               case measure => (show (hsX z).length - (intOf (.int .i64 (((j + 1) : Nat) : Int))).toNat < (hsX z).length - (intOf (.int .i64 ((j : Nat) : Int))).toNat); simp only [intOf]; omega
             · refine wpl_rest (W0 := (W17 : World)) [] Tw.kr ((KS.start W17)) ?_
               refine lm (v := .bool true) rfl rfl ?_
               refine wpL_done (fun W20 hW20 => ?_)
               refine (show Code.wpIn _ _ _ _ _ _ _ from ?_)
               refine wpIn_cond_true rfl ?_
               refine wpIn_ret ?_
               try simp only [inBlock_ret, then_ret]
               refine bodyPost_ret (results_none rfl _ _ _) rfl ?_
               exact ⟨⟨_, rfl⟩, .inr ⟨_, trivial, abideK hJxa hX17 hW20⟩⟩
end Go.Proofs.YtlinjngifacmoaaDoor
/- Without a column, without a cover: plain facts; slices from a place on. -/
namespace Go.Proofs.YtlinjngifacmoaaDoor
open Go Go.RowKit Tw
section
variable {α : Type} {l : List α} {k : Nat} {x : α}
theorem er_split (h : l[k]? = some x) : l = l.take k ++ x :: l.drop (k + 1) := by
 obtain ⟨hk, rfl⟩ := List.getElem?_eq_some_iff.1 h
 conv => lhs; rw [← List.take_append_drop k l, List.drop_eq_getElem_cons hk]
end
section
variable {cs : List Col}
end
end Go.Proofs.YtlinjngifacmoaaDoor
/- Lists that are made empty, with room; the marks behind lists that are lent. -/
namespace Go.Proofs.YtlinjngifacmoaaDoor
open Go Go.RowKit Tw
theorem run_mk0 {P : Program} {T E : TypeId} {o : Oper} {a : Act} {c sz b : Nat} {z : Value} {x y : Operand} (ho : o.op = .makeSlice T x y) (hT : P.underlying T = some (.slice E)) (hi : (P.info? E).map (fun i => (i.zero, i.size, i.bytes)) = some (some z, sz, b)) (hb : b ≤ 10000)
   (hx : a.eval x = .int .i64 0) (hy : a.eval y = .int .i64 ((c : Nat) : Int)) (hn : c ≤ 8000000000) (w : World) : (execOp a.eval o).run P w = .ok (.value (.slice (some ⟨w.heap.size, 0, none⟩) 0 c)) (w.alloc (.cells (madeCells z.cells (c * sz)) E (0, 0))) := by
 unfold execOp
 rw [ho]
 have h1 : b * c ≤ 281474976710656 := Nat.le_trans (Nat.mul_le_mul hb hn) (by decide)
 obtain ⟨i, hi2, hzz⟩ := Option.map_eq_some_iff.1 hi
 simp only [Prod.mk.injEq] at hzz
 obtain ⟨hz, hs, hb2⟩ := hzz
 have hbb : (i.bytes : Int) * (c : Int) ≤ 281474976710656 := by
   rw [hb2]
   have h : ((b * c : Nat) : Int) ≤ 281474976710656 := by omega
   rwa [Int.natCast_mul] at h
 have h2 := run_make (P := P) w T E i z hT hi2 hz .i64 .i64 0 c (Int.le_refl _) Tw.om hbb Tw.om
 simp only [Int.toNat_natCast, hs] at h2
 simp [hx, hy, h2]
theorem own_made {α : Type} {cells : α → List Value} {sz c : Nat} {W0 : Base} {E : TypeId} {g : Nat} {z : Value} (hB : W0.B ≤ g) (hz : z.cells.size = sz) (hc : c ≤ 8000000000) : OwnL W0 E sz (.slice (some ⟨g, 0, none⟩) 0 c) 0 (([] : List α).flatMap cells) [(g, .cells (madeCells z.cells (c * sz)) E (0, 0))] := by
 refine .inr ⟨g, c, _, rfl, hB, ⟨?_, by unfold maxLen; omega, Nat.zero_le _, by simp, by simp⟩, rfl⟩
 simp [madeCells]
end Go.Proofs.YtlinjngifacmoaaDoor
namespace Go.Proofs.YtlinjngifacmoaaDoor
open Go Go.RowKit Tw
set_option maxRecDepth 100000 in
set_option maxHeartbeats 4000000 in
theorem AppendSeq_any {W0 : Base} (gf : Nat) (lb : Array Value) (xs : List Slt) (hN : xs.length ≤ 4000000) (v : Value) (Kv : List (Nat × Obj)) (hO : OwnL W0 34 3 v 0 (([] : List Slt).flatMap sltC) Kv) (w : World) (hw : KS W0 Kv w) (eg : ∀ args W, (callFunc gf args).run Tryd.prog W = .ok (.enter gf args) W)
   (hseq : SeqStopsK (FX none) 0 Tryd.prog gf lb encSl (KpT [34, 35] W0.B) (fun ys => ys = xs) (fun _ => True) xs.length w) :
   Calls Tryd.prog 49 #[v, .func (.func gf) #[] lb] w fun e w' => ∃ v' Kl, e = .returned v' ∧ KS W0 Kl w' ∧ OwnL W0 34 3 v' xs.length (xs.flatMap sltC) Kl := by
 obtain ⟨pv, cv, rfl⟩ := own_shape hO
 refine (callsIn_wide (n := 0)).1 ?_
 refine callsIn_of_wp_marks Tryd.func49 rfl trivial ?_
 simp only [Tryd.ntmps49, List.size_toArray, List.length_cons, List.length_nil, Nat.reduceAdd, Nat.reduceSub, Array.replicate_succ, Array.replicate_zero, List.push_toArray, List.append_toArray, List.nil_append, List.cons_append]
 refine wpIn_seq ?_
 refine wp_region_LI (W0 := (w : World)) [] Tw.kr ((KS.start w)) ?_
 refine wpL_new (fun g => .pointer (some ⟨g, 0, none⟩)) (obi := .cells #[.slice pv 0 cv] 35 (0, 0)) rfl rfl Tw.kf Tw.pf fun g1 Bg1 Fg1 => ?_
 refine lm (v := .slice none 0 0) rfl rfl ?_
 refine wpL_done (fun W1 hW1 => ?_)
 refine (show Code.wpIn _ _ _ _ _ _ _ from ?_)
 refine wpIn_seq ?_
 refine wpIn_seq ?_
 refine wp_region_LI (W0 := (w : World)) [(g1, .cells #[.slice pv 0 cv] 35 (0, 0))] Tw.kr (hW1) ?_
 refine lm (v := .func (.func gf) #[] lb) rfl rfl ?_
 refine wpL_done (fun W2 hW2 => ?_)
 refine (show Code.wpIn _ _ _ _ _ _ _ from ?_)
 refine wpIn_block ?_
 have hK0 : KS W0 ((g1, .cells #[.slice pv 0 cv] 35 (0, 0)) :: Kv) W2 := ⟨(hw.below hW2.1).1, List.forall_mem_cons.2 ⟨hW2.2 _ Tw.m0, (hw.below hW2.1).2⟩⟩
 refine range_k (α := Slt) (ts := [34, 35]) (gf := gf) (lb := lb) Tw.kr eg (encs := encSl) W0 hseq hW2.1 (fun _ => rfl) (ASI W0 g1) (fun _ _ => False) asi_cells (fun _ _ h => h.elim) ⟨_, Kv, rfl, hO, own_low hw (by assumption)⟩ hK0 ?round ?done ?stop
 case round =>
   rintro L pre x K W ⟨vo, Kl, rfl, hOl, hNl⟩ hK hlen
   have hn : W0.B ≤ W.heap.size := hK.size
   obtain ⟨Kr, hKr⟩ : ∃ Kr, Kr = restT [34, 35] W := ⟨_, rfl⟩
   have hS := at_start [34, 35] hn hK
   rw [← hKr] at hS
   have f1 : Dk g1 Kr := by rw [hKr]; exact restT_ne (hK.2 _ Tw.m0) rfl
   have f2 : Dj Kl Kr := by rw [hKr]; exact own_rest hOl hK (fun p hp => .tail _ hp) Tw.m0
   generalize hF : Array.foldl _ _ _ _ _ = F
   obtain rfl : F = #[.slice pv 0 cv, .func (.func gf) #[] lb, .pointer (some ⟨g1, 0, none⟩), undef, .slice none 0 0, undef, .func (.func gf) #[] lb, .agg (sltC x).toArray, undef, undef, undef, undef, undef] := hF.symm.trans Tw.kr
   clear hF
   obtain ⟨po, co, rfl⟩ := own_shape hOl
   have hOa : OwnL (atB W0 W hn) 34 3 (.slice po pre.length co) pre.length (pre.flatMap sltC) Kl := hOl
   have hg2B : W0.B ≤ g1 := Nat.le_trans hw.size (by assumption)
   refine wp_region_LI (W0 := (atB W0 W hn)) ((g1, .cells #[.slice po pre.length co] 35 (0, 0)) :: (Kl ++ Kr)) Tw.kr (hS) ?_
   refine wpL_new (fun g => .pointer (some ⟨g, 0, none⟩)) (obi := .cells #[.int .i64 0, .int .i64 0, .int .u8 0] 34 (0, 0)) rfl rfl Tw.kf Tw.pf fun g2 Bg2 Fg2 => ?_
   obtain ⟨dj3_0, dj3_1, dj3_2⟩ : g1 ≠ g2 ∧ Dk g2 Kl ∧ Dk g2 Kr := Tw.dkf Fg2
   refine wpL_s ((g2, .cells (sltC x).toArray 34 (0, 0)) :: (g1, .cells #[.slice po pre.length co] 35 (0, 0)) :: (Kl ++ Kr)) rfl rfl (st_row (off := 0) (v := .agg (sltC x).toArray) rfl Tw.kr Tw.kr Tw.m0 Bg2 Tw.kr (by first | (simp [Value.cells]; done) | exact Nat.le_of_ble_eq_true rfl) (fun v hv => sltC_one x v hv) Tw.kr (List.forall_mem_cons.2 ⟨.inl rfl, (List.forall_mem_cons.2 ⟨.inr ⟨Tw.m1, Tw.nee⟩, (fun p hp => .inr ⟨(.tail _ (.tail _ hp)), ((show Dk g2 (Kl ++ Kr) from Tw.djt) _ hp)⟩)⟩)⟩)) ?_
   refine wpL_done (fun W3 hW3 => ?_)
   refine (show (KpA [34, 35] W W3 ∧ Below W0.B W W3 ∧ ∃ K2, (∀ p ∈ K2, p.2.isCells = true) ∧ KS W0 K2 W3 ∧ ∀ W3, KS W0 K2 W3 → _) from ?_)
   refine ⟨at_kp hW3 (fun p hp => by rw [← hKr] at hp; simp only [List.mem_cons, List.mem_append, hp, or_true]), hW3.1, ((g2, .cells (sltC x).toArray 34 (0, 0)) :: (g1, .cells #[.slice po pre.length co] 35 (0, 0)) :: Kl), List.forall_mem_cons.2 ⟨rfl, List.forall_mem_cons.2 ⟨rfl, own_cells hOl⟩⟩, (at_back hK hW3).sub (fun p hp => by simp only [List.mem_cons, List.mem_append] at hp ⊢; grind), fun V3 hV3 => ?_⟩
   have hn3 : W0.B ≤ V3.heap.size := hV3.size
   obtain ⟨Kq, hKq⟩ : ∃ Kq, Kq = restT [34, 35] V3 := ⟨_, rfl⟩
   have hS3 := at_start [34, 35] hn3 hV3
   rw [← hKq] at hS3
   have f3 : Dk g1 Kq := by rw [hKq]; exact restT_ne (hV3.2 _ Tw.m1) rfl
   have f5 : Dk g2 Kq := by rw [hKq]; exact restT_ne (hV3.2 _ Tw.m0) rfl
   have f4 : Dj Kl Kq := by rw [hKq]; exact own_rest hOl hV3 (fun p hp => .tail _ (.tail _ hp)) Tw.m0
   have hOb : OwnL (atB W0 V3 hn3) 34 3 (.slice po pre.length co) pre.length (pre.flatMap sltC) Kl := hOl
   have hg5B : W0.B ≤ g2 := by assumption
   refine wpIn_block ?_
   refine wp_region_LI (W0 := (atB W0 V3 hn3)) ((g2, .cells (sltC x).toArray 34 (0, 0)) :: (g1, .cells #[.slice po pre.length co] 35 (0, 0)) :: (Kl ++ Kq)) Tw.kr (hS3) ?_
   refine lv (v := .slice po pre.length co) rfl rfl (yb_cell (off := 0) rfl Tw.kr Tw.m1 Tryd.underlying35 rfl Tw.kr) ?_
   refine lv (v := .agg (sltC x).toArray) rfl rfl (yb_load (n := 3) (off := 0) rfl Tw.kr Tw.m0 Tryd.underlying34 rfl Tw.kr (by first | (simp [Value.cells]; done) | exact Nat.le_of_ble_eq_true rfl) Tw.kr) ?_
   refine wpL_new (fun g => .slice (some ⟨g, 0, none⟩) 1 1) (obi := .cells (sltC x).toArray 34 (0, 0)) rfl rfl Tw.kf Tw.pf fun g4 Bg4 Fg4 => ?_
   obtain ⟨dj5_0, dj5_1, dj5_2, dj5_3⟩ : g2 ≠ g4 ∧ g1 ≠ g4 ∧ Dk g4 Kl ∧ Dk g4 Kq := Tw.dkf Fg4
   refine wpL_g (AppO (atB W0 V3 hn3) 34 3 ((g2, .cells (sltC x).toArray 34 (0, 0)) :: (g1, .cells #[.slice po pre.length co] 35 (0, 0)) :: Kq) (pre.length + 1) ((pre.flatMap sltC) ++ [.int .i64 x.col, .int .i64 x.tier, .int .u8 ((x.half : Nat) : Int)])) rfl rfl (app_own el_slt (m := 1) (c := 1) (news := [.int .i64 x.col, .int .i64 x.tier, .int .u8 ((x.half : Nat) : Int)]) rfl Tw.kr Tw.kr Tw.m0 hOb Tw.sc (fun p hp => ⟨by simp only [List.mem_cons, List.mem_append, List.nil_append, List.not_mem_nil, or_assoc, or_false, false_or] at hp ⊢ <;> grind, (show Dj ((g2, .cells (sltC x).toArray 34 (0, 0)) :: (g1, .cells #[.slice po pre.length co] 35 (0, 0)) :: Kq) Kl from Tw.djt) p hp⟩) rfl (by simp [strV, Value.oneCell']) Tw.om Tw.om Tw.om) Tw.pf ?_
   rintro v6 K9 ⟨Kl6, O6, N6, rfl⟩
   obtain ⟨dj7_0, dj7_1, dj7_2⟩ : Dk g2 Kl6 ∧ Dk g1 Kl6 ∧ Dj Kq Kl6 := Tw.djf N6
   obtain ⟨p8, c8, rfl⟩ := own_shape O6
   refine wpL_s ((g2, .cells (sltC x).toArray 34 (0, 0)) :: (g1, .cells #[.slice p8 (pre.length + 1) c8] 35 (0, 0)) :: (Kq ++ Kl6)) rfl rfl (st_row (off := 0) (v := .slice p8 (pre.length + 1) c8) rfl Tw.kr Tw.kr Tw.m1 (show W0.B ≤ _ from hg2B) Tw.kr (by first | (simp [Value.cells]; done) | exact Nat.le_of_ble_eq_true rfl) (by intro v hv; simp [Value.cells] at hv; first | (subst hv; rfl) | (rcases hv with rfl <;> rfl)) Tw.kr (List.forall_mem_cons.2 ⟨.inr ⟨Tw.m0, Tw.nee⟩, (List.forall_mem_cons.2 ⟨.inl rfl, (fun p hp => .inr ⟨(.tail _ (.tail _ hp)), ((show Dk g1 (Kq ++ Kl6) from Tw.djt) _ hp)⟩)⟩)⟩)) ?_
   refine wpL_done (fun W4 hW4 => ?_)
   refine (show (KpA [34, 35] V3 W4 ∧ Below W0.B V3 W4 ∧ ∃ K, ASI W0 g1 (pre ++ [x]) K ∧ KS W0 K W4) from ?_)
   exact ⟨at_kp hW4 (fun p hp => by rw [← hKq] at hp; simp only [List.mem_cons, List.mem_append, hp, or_true, true_or]), hW4.1, _, ⟨_, _, rfl, own_app O6 (by rw [List.flatMap_append]; rfl) (by rw [List.length_append]; rfl), (show Dk g1 Kl6 from Tw.djt)⟩, (at_back hV3 hW4).sub (fun p hp => by simp only [List.mem_cons, List.mem_append] at hp ⊢; grind)⟩
 case stop =>
   rintro D pre K W _ hf
   exact hf.elim
 case done =>
   rintro D ys K W rfl ⟨vd, Kd, rfl, hOd, hNd⟩ hK hD
   obtain ⟨pd, cd, rfl⟩ := own_shape hOd
   refine (show Code.wpIn _ _ _ _ _ _ _ from ?_)
   refine wpIn_seq ?_
   refine wp_region_LI (W0 := W0) ((D, .deferred (some [])) :: (g1, .cells #[.slice pd ys.length cd] 35 (0, 0)) :: Kd) Tw.kr (hK) ?_
   refine lv (v := .slice pd ys.length cd) rfl rfl (yb_cell (off := 0) rfl Tw.kr Tw.m1 Tryd.underlying35 rfl Tw.kr) ?_
   refine lm (v := .slice pd ys.length cd) rfl rfl ?_
   refine wpL_done (fun W5 hW5 => ?_)
   refine (show Code.wpIn _ _ _ _ _ _ _ from ?_)
   refine wpIn_ret ?_
   try simp only [inBlock_ret, then_ret]
   have hD4 := hW5.2 (D, _) Tw.m0
   refine ⟨by simp, .inl ⟨_, _, rfl, run_takeDeferred hD4, ?_⟩⟩
   exact ⟨.slice pd ys.length cd, Tw.kr, _, Kd, rfl, ks_putN _ (hW5.sub (fun p hp => .tail _ (.tail _ hp))) (own_cells hOd) (Nat.le_trans (Nat.le_trans hw.size hW2.1.size) hD) hD4 rfl, hOd⟩
end Go.Proofs.YtlinjngifacmoaaDoor
/- Several operations of a drawn region are ready. Over any program. -/
namespace Tw
open Go Go.RowKit Go.Proofs.YtlinjngifacmoaaDoor
section
variable {P : Program} {md : Region.Mode} {ops : Array Oper} {Q : Exit → Act → World → Prop} {W0 : Base}
theorem stepV_nsx {i : Nat} {oi : Oper} {d : Nat} {obi : Obj} {n : Nat} {listed : Array Bool} {tm : Array Value} {df : List Deferred} {K : List (Nat × Obj)} {T : Nat → Array Value} (mk : Nat → Value)
   (hi : ops[i]? = some oi) (hdi : oi.dst = some d) (hgi : oi.guard = none) (hai : ∀ w, (execOp (Act.eval ⟨tm, df⟩) oi).run P w = .ok (.value (mk w.heap.size)) (w.alloc obi))
   (hT : ∀ g, (tm.setIfInBounds d (mk g)) = T g)
   (h : ∀ g, W0.B ≤ g → (∀ p ∈ K, p.1 ≠ g) → wpV P md ops Q W0 n (listed.setIfInBounds i true) ⟨T g, df⟩ ((g, obi) :: K)) : StepV P md ops Q W0 n listed ⟨tm, df⟩ K i := by
 refine stepV_alloc mk hi (wanted_no hgi) hai fun g hg hf => ?_
 rw [hdi]
 simp only [Act.put]
 rw [hT g]
 exact h g hg hf
theorem stepV_cx {i : Nat} {oi : Oper} {d n : Nat} {listed : Array Bool} {tm : Array Value} {df : List Deferred} {K : List (Nat × Obj)} {T : Value → Array Value} {f : FuncId} {args : Array Value} (G : Value → List (Nat × Obj) → Prop)
   (hi : ops[i]? = some oi) (hdi : oi.dst = some d) (hw : Region.wanted oi (yielded ops tm) = true)
   (hf : ∀ w, (execOp (Act.eval ⟨tm, df⟩) oi).run P w = .ok (.enter f args) w)
   (hc : ∀ w, KS W0 K w → Calls P f args w fun e w' => ∃ v K', e = .returned v ∧ KS W0 K' w' ∧ G v K') (hm : ∀ v K', G v K' → ∀ p ∈ K, p ∈ K')
   (hT : ∀ v, tm.setIfInBounds d v = T v)
   (h : ∀ v K', G v K' → wpV P md ops Q W0 n (listed.setIfInBounds i true) ⟨T v, df⟩ K') : StepV P md ops Q W0 n listed ⟨tm, df⟩ K i := by
 refine ⟨oi, hi, .inr (.inr (.inr ⟨G, .inr (.inl hm), ⟨hw, fun w hK => ?_⟩, fun v K' hG => ?_⟩))⟩
 · unfold Oto
   rw [hf w]
   exact (hc w hK).mono fun e w' ⟨v, K', he, hk, hG⟩ => ⟨v, he, K', hk, hG⟩
 · rw [hdi]
   simp only [Act.put]
   rw [hT v]
   exact h v K' hG
end
end Tw
namespace Go.Proofs.YtlinjngifacmoaaDoor
open Go Go.RowKit Tw
set_option maxRecDepth 100000 in
set_option maxHeartbeats 4000000 in
theorem count_any (cs : List Col) (pc : Option Addr) (cc : Nat) (lc : cs.length ≤ 1000) (os : List Cov) (po : Option Addr) (co : Nat) (lo : os.length ≤ 4000000000) (t : Tl) (ht : ∀ c ∈ cs, c.tiers ≤ 1000) (z : Nat) (w : World) (hc : SLV w pc (cs.flatMap colC)) (ho : SLV w po (os.flatMap covC)) : Calls Tryd.prog 48 #[.agg (shC (.slice pc cs.length cc) (.slice po os.length co) t).toArray, .int .u8 ((z : Nat) : Int)] w fun e w' => e = .returned (.int .i64 ((posT cs * (hsX z).length : Nat) : Int)) ∧ Below w.heap.size w w' := by
 have HC := Lib.hid hc
 clear hc
 have HO := Lib.hid ho
 clear ho
 have hh2 := hsX_len z
 have hpt := posT_take 1000 ht
 go_enter Tryd.func48, Tryd.ntmps48
 refine wp_seq ?_
 refine wp_region_L [] (KS.start w) ?_
 refine wpL_new (fun g => .pointer (some ⟨g, 0, none⟩)) (obi := .cells (shC (.slice pc cs.length cc) (.slice po os.length co) t).toArray 32 (0, 0)) rfl rfl Tw.kf Tw.pf fun g1 Bg1 Fg1 => ?_
 refine lm (v := .int .i64 0) rfl rfl ?_
 refine wpL_done (fun W1 hW1 => ?_)
 change Code.wp ..
 refine wp_seq ?_
 refine wp_region_L _ hW1 ?_
 refine lm (v := .int .i64 0) rfl rfl ?_
 refine wpL_done (fun W2 hW2 => ?_)
 change Code.wp ..
 refine wp_seq ?_
 refine wp_seq ?_
 refine wp_region_L _ hW2 ?_
 refine lm (v := .pointer (some ⟨g1, 0, none⟩)) rfl rfl ?_
 refine lv (v := .slice pc cs.length cc) rfl rfl (yb_cell (off := 0) rfl Tw.kr Tw.m0 Tryd.underlying22 rfl Tw.kr) ?_
 refine lp (v := .int .i64 ((cs.length : Nat) : Int)) rfl rfl (run_lenL (p := pc) (cap := cc) (n := cs.length) rfl Tryd.underlying22 Tw.kr) ?_
 refine lm (v := .int .i64 0) rfl rfl ?_
 refine wpL_done (fun W3 hW3 => ?_)
 change Code.wp ..
 refine wp_block ?_
 go_loopw [11, 5] (fun u11 u5 wr => ∃ (k : Nat), (k ≤ cs.length) ∧ u11 = .int .i64 ((k : Nat) : Int) ∧ u5 = .int .i64 (((posT (cs.take k)) : Nat) : Int) ∧ KS w [(g1, .cells (shC (.slice pc cs.length cc) (.slice po os.length co) t).toArray 32 (0, 0))] wr) (fun u11 _ _ => cs.length - (intOf u11).toNat)
 case atStart => exact ⟨0, (Nat.zero_le _), rfl, rfl, (hW3.sub (fun p hp => by first | exact hp | (simp only [List.mem_cons, List.mem_append, List.nil_append, List.not_mem_nil, or_assoc, or_false, false_or] at hp ⊢ <;> grind)))⟩
 case round =>
   obtain ⟨k, hk, rfl, rfl, hL4⟩ := hrel
   have hpk := hpt k
   refine wp_seq ?_
   refine wp_region_L _ hL4 ?_
   refine lp (v := .bool (decide (k < cs.length))) rfl rfl (run_bin rfl (vx := (.int .i64 ((k : Nat) : Int))) (vy := (.int .i64 ((cs.length : Nat) : Int))) Tw.kr Tw.kr fun w => bn_lss rfl w) ?_
   refine wpL_done (fun W5 hW5 => ?_)
   change Code.wp ..
   refine wp_seq ?_
   cases hd1 : (decide (k < cs.length)) with
   | false =>
     have h1 : ¬ (k < cs.length) := of_decide_eq_false hd1
     clear hd1
     refine wp_cond_false rfl ?_
     refine wp_exit ?_
     change Code.wp ..
     refine wp_seq ?_
     refine wp_region_L _ hW5 ?_
     refine lm (v := .int .i64 (((posT (cs.take k)) : Nat) : Int)) rfl rfl ?_
     refine lm (v := .int .u8 ((z : Nat) : Int)) rfl rfl ?_
     refine wpL_c (f := 47) (args := #[.int .u8 ((z : Nat) : Int)]) (OutRL u8C w [(g1, .cells (shC (.slice pc cs.length cc) (.slice po os.length co) t).toArray 32 (0, 0))] (hsX z)) rfl Tw.kr Tw.kf (fun W hW => calls_r hW (halves_any z W)) Tw.pf ?_
     rintro _ _ ⟨p2, c2, Kl2, rfl, n2, R2, N2, rfl⟩
     obtain dj3_0 : Dk g1 Kl2 := Tw.djf N2
     refine lp (v := .int .i64 ((((hsX z).length) : Nat) : Int)) rfl rfl (run_lenL (p := p2) (cap := c2) (n := (hsX z).length) rfl Tryd.underlying78 Tw.kr) ?_
     refine lp (v := .int .i64 ((((posT (cs.take k)) * ((hsX z).length)) : Nat) : Int)) rfl rfl (run_bin rfl (vx := (.int .i64 (((posT (cs.take k)) : Nat) : Int))) (vy := (.int .i64 ((((hsX z).length) : Nat) : Int))) Tw.kr Tw.kr fun w => bn_mul (z := ((posT (cs.take k)) * ((hsX z).length))) rfl (wr_i64 (by have h3 := Nat.mul_le_mul hpk hh2; omega)) w) ?_
     refine lm (v := .int .i64 ((((posT (cs.take k)) * ((hsX z).length)) : Nat) : Int)) rfl rfl ?_
     refine wpL_done (fun W6 hW6 => ?_)
     change Code.wp ..
     refine wp_ret ?_
     try simp only [inBlock_ret, then_ret]
     refine bodyPost_ret (v := .int .i64 ((((posT (cs.take k)) * ((hsX z).length)) : Nat) : Int)) ?_ rfl ?_
     · kernel_rfl
     · exact ⟨(int_is (by rw [posT_all Tw.om])), hW6.1⟩
   | true =>
     have h1 : k < cs.length := of_decide_eq_true hd1
     clear hd1
     refine wp_cond_true rfl ?_
     refine wp_skip ?_
     change Code.wp ..
     refine wp_seq ?_
     refine wp_block ?_
     refine wp_seq ?_
     refine wp_region_L _ hW5 ?_
     obtain ⟨y4, g4_, f4_, hy4, hp4, hc4⟩ := RL.at (RL.base HC.out) colC_len (by decide) (hW5.sub (fun _ h => by cases h)) (k := k) Tw.om
     have hty4 := ht y4 (List.mem_of_getElem? hy4)
     have hpk1 := hpt (k + 1)
     refine lp (v := .pointer (some ⟨g4_, f4_ + k * 12, none⟩)) rfl rfl (run_idxQ (p := pc) (cap := cc) (n := cs.length) (j := .i64) (k := k) (sz := 12) rfl Tryd.underlying22 Tw.kr Tw.kr hp4 Tw.kr Tw.om) ?_
     refine lv (v := .agg (colC y4).toArray) rfl rfl (yb_rs (off := f4_ + k * 12) (cs := colC y4) rfl Tw.kr (fun W hW => hc4 W (hW.sub (fun _ h => by cases h))) Tryd.underlying65 rfl Tw.kr) ?_
     refine wpL_new (fun g => .pointer (some ⟨g, 0, none⟩)) (obi := .cells #[.int .i64 0, .int .i64 0, .bool false, .int .i64 0, .int .i64 0, .int .i64 0, .int .i64 0, .int .i64 0, .slice none 0 0, .int .i64 0, .int .i64 0, .int .i64 0] 65 (0, 0)) rfl rfl Tw.kf Tw.pf fun g5 Bg5 Fg5 => ?_
     obtain dj6_0 : g1 ≠ g5 := Tw.dkf Fg5
     refine wpL_s [(g5, .cells (colC y4).toArray 65 (0, 0)), (g1, .cells (shC (.slice pc cs.length cc) (.slice po os.length co) t).toArray 32 (0, 0))] rfl rfl (st_row (off := 0) (v := .agg (colC y4).toArray) rfl Tw.kr Tw.kr Tw.m0 Bg5 Tw.kr (by first | (simp [Value.cells]; done) | exact Nat.le_of_ble_eq_true rfl) (fun v hv => colC_one y4 v hv) Tw.kr (List.forall_mem_cons.2 ⟨.inl rfl, (List.forall_mem_cons.2 ⟨.inr ⟨Tw.m1, Tw.nee⟩, (List.forall_mem_nil _)⟩)⟩)) ?_
     refine wpL_done (fun W7 hW7 => ?_)
     change Code.wp ..
     refine wp_region_L _ hW7 ?_
     refine lm (v := .int .i64 (((posT (cs.take k)) : Nat) : Int)) rfl rfl ?_
     refine lm (v := .pointer (some ⟨g5, 3, none⟩)) rfl rfl ?_
     refine lv (v := .int .i64 y4.tiers) rfl rfl (yb_cell (off := 3) rfl Tw.kr Tw.m0 Tryd.underlying3 rfl Tw.kr) ?_
     refine lp (v := .int .i64 (((y4.tiers.toNat) : Nat) : Int)) rfl rfl (run_max2 (x := y4.tiers) (y := 0) (z := (((y4.tiers.toNat) : Nat) : Int)) rfl Tw.kr Tw.kr Tw.om) ?_
     refine lp (v := .int .i64 (((y4.tiers.toNat) : Nat) : Int)) rfl rfl (run_min2 (x := (((y4.tiers.toNat) : Nat) : Int)) (y := 89478486) (z := (((y4.tiers.toNat) : Nat) : Int)) rfl Tw.kr Tw.kr Tw.om) ?_
     refine lp (v := .int .i64 (((posT (cs.take (k + 1))) : Nat) : Int)) rfl rfl (run_bin rfl (vx := (.int .i64 (((posT (cs.take k)) : Nat) : Int))) (vy := (.int .i64 (((y4.tiers.toNat) : Nat) : Int))) Tw.kr Tw.kr fun w => bn_add (z := (posT (cs.take (k + 1)))) (posT_step hy4).symm (wr_i64 Tw.om) w) ?_
     refine lm (v := .int .i64 (((posT (cs.take (k + 1))) : Nat) : Int)) rfl rfl ?_
     refine wpL_done (fun W8 hW8 => ?_)
     change Code.wp ..
     refine wp_region_L _ hW8 ?_
     refine lp (v := .int .i64 (((k + 1) : Nat) : Int)) rfl rfl (run_bin rfl (vx := (.int .i64 ((k : Nat) : Int))) (vy := (.int .i64 ((1 : Nat) : Int))) Tw.kr Tw.kr fun w => bn_add (z := (k + 1)) rfl (wr_i64 Tw.om) w) ?_
     refine lm (v := .int .i64 (((k + 1) : Nat) : Int)) rfl rfl ?_
     refine wpL_done (fun W9 hW9 => ?_)
     go_roundw
     case rel =>
       repeat apply Exists.intro
       exact ⟨⟨k + 1, Tw.om, rfl, rfl, (hW9.sub (fun p hp => by first | exact hp | (simp only [List.mem_cons, List.mem_append, List.nil_append, List.not_mem_nil, or_assoc, or_false, false_or] at hp ⊢ <;> grind)))⟩, rfl⟩
     case measure => (show cs.length - (intOf (.int .i64 (((k + 1) : Nat) : Int))).toNat < cs.length - (intOf (.int .i64 ((k : Nat) : Int))).toNat); simp only [intOf]; omega
set_option maxRecDepth 100000 in
set_option maxHeartbeats 4000000 in
theorem slots_any {W0 : Base} {K : List (Nat × Obj)} (cs : List Col) (pc : Option Addr) (cc : Nat) (os : List Cov) (po : Option Addr) (co : Nat) (t : Tl) (z : Nat) (w : World) (hw : KS W0 K w) : Calls Tryd.prog 50 #[.agg (shC (.slice pc cs.length cc) (.slice po os.length co) t).toArray, .int .u8 ((z : Nat) : Int)] w fun e w' => ∃ v K', e = .returned v ∧ KS W0 K' w' ∧ (∃ b1 b2, v = .func (.func 81) #[] #[.pointer (some ⟨b1, 0, none⟩), .pointer (some ⟨b2, 0, none⟩)] ∧ K' = K ++ [(b2, .cells #[.int .u8 ((z : Nat) : Int)] 5 (0, 0)), (b1, .cells (shC (.slice pc cs.length cc) (.slice po os.length co) t).toArray 32 (0, 0))] ∧ (∀ p ∈ K, p.1 ≠ b1 ∧ p.1 ≠ b2) ∧ w.heap.size ≤ b1 ∧ w.heap.size ≤ b2 ∧ Below w.heap.size w w') := by
 go_enter Tryd.func50, Tryd.ntmps50
 refine wp_seq ?_
 refine wp_region_L [] (KS.start w) ?_
 refine wpL_new (fun g => .pointer (some ⟨g, 0, none⟩)) (obi := .cells (shC (.slice pc cs.length cc) (.slice po os.length co) t).toArray 32 (0, 0)) rfl rfl Tw.kf Tw.pf fun g1 Bg1 Fg1 => ?_
 refine wpL_new (fun g => .pointer (some ⟨g, 0, none⟩)) (obi := .cells #[.int .u8 ((z : Nat) : Int)] 5 (0, 0)) rfl rfl Tw.kf Tw.pf fun g2 Bg2 Fg2 => ?_
 obtain dj3_0 : g1 ≠ g2 := Tw.dkf Fg2
 refine lm (v := .nilFunc) rfl rfl ?_
 refine wpL_done (fun W1 hW1 => ?_)
 change Code.wp ..
 refine wp_seq ?_
 refine wp_region_L _ hW1 ?_
 refine lm (v := .func (.func 81) #[] #[.pointer (some ⟨g1, 0, none⟩), .pointer (some ⟨g2, 0, none⟩)]) rfl rfl ?_
 refine lm (v := .func (.func 81) #[] #[.pointer (some ⟨g1, 0, none⟩), .pointer (some ⟨g2, 0, none⟩)]) rfl rfl ?_
 refine wpL_done (fun W2 hW2 => ?_)
 change Code.wp ..
 refine wp_ret ?_
 try simp only [inBlock_ret, then_ret]
 refine bodyPost_ret (v := .func (.func 81) #[] #[.pointer (some ⟨g1, 0, none⟩), .pointer (some ⟨g2, 0, none⟩)]) ?_ rfl ?_
 · kernel_rfl
 · exact ⟨_, _, rfl, ⟨(hw.below hW2.1).1, fun p hp => by rcases List.mem_append.1 hp with hp | hp; exact (hw.below hW2.1).2 p hp; exact hW2.2 p hp⟩, g1, g2, rfl, rfl, (fun p hp => ⟨fun e => by have h8 := lt_of_block (hw.2 p hp); have h9 : w.heap.size ≤ g1 := (by assumption); omega, fun e => by have h8 := lt_of_block (hw.2 p hp); have h9 : w.heap.size ≤ g2 := (by assumption); omega⟩), by assumption, by assumption, hW2.1⟩
set_option maxRecDepth 100000 in
set_option maxHeartbeats 4000000 in
theorem All_any (cs : List Col) (pc : Option Addr) (cc : Nat) (lc : cs.length ≤ 1000) (os : List Cov) (po : Option Addr) (co : Nat) (lo : os.length ≤ 4000000000) (t : Tl) (ht : ∀ c ∈ cs, c.tiers ≤ 1000) (z : Nat) (w : World) (hc : SLV w pc (cs.flatMap colC)) (ho : SLV w po (os.flatMap covC)) : Calls Tryd.prog 17 #[.agg (shC (.slice pc cs.length cc) (.slice po os.length co) t).toArray, .int .u8 ((z : Nat) : Int)] w fun e w' => ∃ v, e = .returned v ∧ OutV w w' 34 3 v (slotsX cs z).length ((slotsX cs z).flatMap sltC) ∧ Below w.heap.size w w' := by
 have HC := Lib.hid hc
 clear hc
 have HO := Lib.hid ho
 clear ho
 have hh2 := hsX_len z
 have hpt : posT cs ≤ 1000000 := Nat.le_trans (posT_le (m := 1000) ht) Tw.om
 have hsl := slots_len cs z
 obtain ⟨n, hn⟩ : ∃ n, posT cs * (hsX z).length = n := ⟨_, rfl⟩
 have hnb : n ≤ 2000000 := by have h3 := Nat.mul_le_mul hpt hh2; omega
 rw [hn] at hsl
 go_enter Tryd.func17, Tryd.ntmps17
 refine wp_seq ?_
 refine wp_region_L [] (KS.start w) ?_
 refine wpL_new (fun g => .pointer (some ⟨g, 0, none⟩)) (obi := .cells (shC (.slice pc cs.length cc) (.slice po os.length co) t).toArray 32 (0, 0)) rfl rfl Tw.kf Tw.pf fun g1 Bg1 Fg1 => ?_
 refine lm (v := .slice none 0 0) rfl rfl ?_
 refine wpL_done (fun W1 hW1 => ?_)
 change Code.wp ..
 refine wp_seq ?_
 refine wp_region_L _ hW1 ?_
 refine lv (v := .agg (shC (.slice pc cs.length cc) (.slice po os.length co) t).toArray) rfl rfl (yb_load (n := 13) (off := 0) rfl Tw.kr Tw.m0 Tryd.underlying32 rfl Tw.kr (by first | (simp [Value.cells]; done) | exact Nat.le_of_ble_eq_true rfl) Tw.kr) ?_
 refine lm (v := .int .u8 ((z : Nat) : Int)) rfl rfl ?_
 refine lv (v := .int .i64 ((n : Nat) : Int)) rfl rfl (yb_call (f := 48) (args := #[.agg (shC (.slice pc cs.length cc) (.slice po os.length co) t).toArray, .int .u8 ((z : Nat) : Int)]) Tw.kf fun W hW => (by rw [← hn]; exact count_any cs pc cc lc os po co lo t ht z W (HC.out.keep hW.1) (HO.out.keep hW.1))) ?_
 refine lm (v := .int .i64 ((n : Nat) : Int)) rfl rfl ?_
 refine wpL_done (fun W2 hW2 => ?_)
 change Code.wp ..
 refine wp_seq ?_
 refine wp_seq ?_
 refine wp_region_L _ hW2 ?_
 refine lm (v := .int .i64 ((n : Nat) : Int)) rfl rfl ?_
 refine lp (v := .bool (decide (n = 0))) rfl rfl (run_bin rfl (vx := (.int .i64 ((n : Nat) : Int))) (vy := (.int .i64 ((0 : Nat) : Int))) Tw.kr Tw.kr fun w => bn_eql rfl w) ?_
 refine lm (v := .bool (decide (n = 0))) rfl rfl ?_
 cases hd1 : (decide (n = 0)) with
 | false =>
   have h1 : ¬ (n = 0) := of_decide_eq_false hd1
   clear hd1
   refine lm (v := .int .i64 ((n : Nat) : Int)) rfl rfl ?_
   refine lp (v := .bool false) rfl rfl (run_bin rfl (vx := (.int .i64 ((n : Nat) : Int))) (vy := (.int .i64 ((89478485 : Nat) : Int))) Tw.kr Tw.kr fun w => bn_gtr (decide_eq_false Tw.om) w) ?_
   refine lm (v := .bool false) rfl rfl ?_
   refine wpL_done (fun W3 hW3 => ?_)
   change Code.wp ..
   refine wp_cond_false rfl ?_
   refine wp_skip ?_
   change Code.wp ..
   refine wp_seq ?_
   refine wp_region_V _ Tw.kr hW3 ?_
   refine vm (i := 0) (v := .int .i64 ((n : Nat) : Int)) rfl rfl rfl ?_
   refine vv (i := 2) (v := .agg (shC (.slice pc cs.length cc) (.slice po os.length co) t).toArray) rfl rfl rfl (yb_load (n := 13) (off := 0) rfl Tw.kr Tw.m0 Tryd.underlying32 rfl Tw.kr (by first | (simp [Value.cells]; done) | exact Nat.le_of_ble_eq_true rfl) Tw.kr) ?_
   refine vm (i := 3) (v := .int .u8 ((z : Nat) : Int)) rfl rfl rfl ?_
   refine wpV_2 (i := 1) (j := 4) Tw.kr ?_ ?_
   · refine stepV_nsx (fun g => .slice (some ⟨g, 0, none⟩) 0 n) (i := 1) (obi := .cells (madeCells (Value.cells (.agg #[.int .i64 0, .int .i64 0, .int .u8 0])) (n * 3)) 34 (0, 0)) rfl rfl rfl (run_mk0 (c := n) (z := (.agg #[.int .i64 0, .int .i64 0, .int .u8 0])) (sz := 3) (b := 24) rfl Tryd.underlying35 Tw.kr (by decide) Tw.kr Tw.kr Tw.om) Tw.pf fun g2 Bg2 Fg2 => ?_
     obtain dj3_0 : g1 ≠ g2 := Tw.dkf Fg2
     refine wpV_c (i := 4) (fun v K9 => ∃ b1 b2, v = .func (.func 81) #[] #[.pointer (some ⟨b1, 0, none⟩), .pointer (some ⟨b2, 0, none⟩)] ∧ K9 = [(g2, .cells (madeCells (Value.cells (.agg #[.int .i64 0, .int .i64 0, .int .u8 0])) (n * 3)) 34 (0, 0)), (g1, .cells (shC (.slice pc cs.length cc) (.slice po os.length co) t).toArray 32 (0, 0))] ++ [(b2, Obj.cells #[Value.int .u8 ((z : Nat) : Int)] 5 (0, 0)), (b1, Obj.cells (shC (Value.slice pc cs.length cc) (Value.slice po os.length co) t).toArray 32 (0, 0))] ∧ (∀ p : Nat × Obj, p ∈ ([(g2, .cells (madeCells (Value.cells (.agg #[.int .i64 0, .int .i64 0, .int .u8 0])) (n * 3)) 34 (0, 0)), (g1, .cells (shC (.slice pc cs.length cc) (.slice po os.length co) t).toArray 32 (0, 0))] : List (Nat × Obj)) → p.1 ≠ b1 ∧ p.1 ≠ b2)) rfl rfl Tw.kr Tw.kr Tw.kf (fun W hW => ((slots_any cs pc cc os po co t z W hW).mono fun e w' ⟨v, K9, h1, h2, b1, b2, h3, h4, h5, _, _, _⟩ => ⟨v, K9, h1, h2, b1, b2, h3, h4, h5⟩)) (fun v K9 hG => by obtain ⟨_, _, _, rfl, _⟩ := hG; exact fun p hp => List.mem_append_left _ hp) Tw.pf ?_
     rintro _ _ ⟨b1, b2, rfl, rfl, hne⟩
     refine wpV_cl (i := 5) (fun v K9 => OwnL (w : Base) 34 3 v (slotsX cs z).length ((slotsX cs z).flatMap sltC) K9) rfl rfl Tw.kr Tw.kr Tw.kf (fun W hW => ((AppendSeq_any (W0 := (w : Base)) 81 #[.pointer (some ⟨b1, 0, none⟩), .pointer (some ⟨b2, 0, none⟩)] (slotsX cs z) Tw.om _ _ (own_made (cells := sltC) (c := n) (E := 34) (z := (.agg #[.int .i64 0, .int .i64 0, .int .u8 0])) Bg2 rfl Tw.om) W (hW.sub (fun p hp => by cases List.mem_singleton.1 hp; exact Tw.m0)) (fun _ _ => by kernel_rfl) (slots1_stops w.heap.size b1 b2 cs pc cc (.slice po os.length co) t z W hW.size Tw.om (fun c hc => by have := ht c hc; omega) (hW.2 _ Tw.m3) (hW.2 _ Tw.m2) (fun W9 h9 => HC.out.keep (hW.1.trans h9)))).mono fun e w' ⟨v, Kl, h1, h2, h3⟩ => ⟨v, Kl, h1, h2, h3⟩)) Tw.kr Tw.pf ?_
     rintro vq Kq hOq
     refine vm (i := 6) (v := vq) rfl rfl rfl ?_
     refine wpV_done Tw.kr (fun W4 hW4 => ?_) _
     change Code.wp ..
     refine wp_ret ?_
     try simp only [inBlock_ret, then_ret]
     refine bodyPost_ret (v := vq) ?_ rfl ?_
     · kernel_rfl
     · exact ⟨_, rfl, hOq.out (fun p hp => hp) hW4, hW4.1⟩
   · refine stepV_cx (i := 4) (fun v K9 => ∃ b1 b2, v = .func (.func 81) #[] #[.pointer (some ⟨b1, 0, none⟩), .pointer (some ⟨b2, 0, none⟩)] ∧ K9 = [(g1, .cells (shC (.slice pc cs.length cc) (.slice po os.length co) t).toArray 32 (0, 0))] ++ [(b2, Obj.cells #[Value.int .u8 ((z : Nat) : Int)] 5 (0, 0)), (b1, Obj.cells (shC (Value.slice pc cs.length cc) (Value.slice po os.length co) t).toArray 32 (0, 0))] ∧ (∀ p : Nat × Obj, p ∈ ([(g1, .cells (shC (.slice pc cs.length cc) (.slice po os.length co) t).toArray 32 (0, 0))] : List (Nat × Obj)) → p.1 ≠ b1 ∧ p.1 ≠ b2)) rfl rfl Tw.kr Tw.kf (fun W hW => ((slots_any cs pc cc os po co t z W hW).mono fun e w' ⟨v, K9, h1, h2, b1, b2, h3, h4, h5, _, _, _⟩ => ⟨v, K9, h1, h2, b1, b2, h3, h4, h5⟩)) (fun v K9 hG => by obtain ⟨_, _, _, rfl, _⟩ := hG; exact fun p hp => List.mem_append_left _ hp) Tw.pf ?_
     rintro _ _ ⟨b1, b2, rfl, rfl, hne⟩
     refine wpV_ns (fun g => .slice (some ⟨g, 0, none⟩) 0 n) (i := 1) (obi := .cells (madeCells (Value.cells (.agg #[.int .i64 0, .int .i64 0, .int .u8 0])) (n * 3)) 34 (0, 0)) rfl rfl rfl Tw.kr (run_mk0 (c := n) (z := (.agg #[.int .i64 0, .int .i64 0, .int .u8 0])) (sz := 3) (b := 24) rfl Tryd.underlying35 Tw.kr (by decide) Tw.kr Tw.kr Tw.om) Tw.pf fun g6 Bg6 Fg6 => ?_
     obtain ⟨dj7_0, dj7_1, dj7_2⟩ : g1 ≠ g6 ∧ b2 ≠ g6 ∧ b1 ≠ g6 := Tw.dkf Fg6
     refine wpV_cl (i := 5) (fun v K9 => OwnL (w : Base) 34 3 v (slotsX cs z).length ((slotsX cs z).flatMap sltC) K9) rfl rfl Tw.kr Tw.kr Tw.kf (fun W hW => ((AppendSeq_any (W0 := (w : Base)) 81 #[.pointer (some ⟨b1, 0, none⟩), .pointer (some ⟨b2, 0, none⟩)] (slotsX cs z) Tw.om _ _ (own_made (cells := sltC) (c := n) (E := 34) (z := (.agg #[.int .i64 0, .int .i64 0, .int .u8 0])) Bg6 rfl Tw.om) W (hW.sub (fun p hp => by cases List.mem_singleton.1 hp; exact Tw.m0)) (fun _ _ => by kernel_rfl) (slots1_stops w.heap.size b1 b2 cs pc cc (.slice po os.length co) t z W hW.size Tw.om (fun c hc => by have := ht c hc; omega) (hW.2 _ Tw.m3) (hW.2 _ Tw.m2) (fun W9 h9 => HC.out.keep (hW.1.trans h9)))).mono fun e w' ⟨v, Kl, h1, h2, h3⟩ => ⟨v, Kl, h1, h2, h3⟩)) Tw.kr Tw.pf ?_
     rintro vq Kq hOq
     refine vm (i := 6) (v := vq) rfl rfl rfl ?_
     refine wpV_done Tw.kr (fun W5 hW5 => ?_) _
     change Code.wp ..
     refine wp_ret ?_
     try simp only [inBlock_ret, then_ret]
     refine bodyPost_ret (v := vq) ?_ rfl ?_
     · kernel_rfl
     · exact ⟨_, rfl, hOq.out (fun p hp => hp) hW5, hW5.1⟩
 | true =>
   have h1 : n = 0 := of_decide_eq_true hd1
   clear hd1
   refine ln rfl ?_
   refine ln rfl ?_
   refine lm (v := .bool true) rfl rfl ?_
   refine wpL_done (fun W6 hW6 => ?_)
   change Code.wp ..
   refine wp_cond_true rfl ?_
   refine wp_seq ?_
   refine wp_region_L _ hW6 ?_
   refine lm (v := .slice none 0 0) rfl rfl ?_
   refine wpL_done (fun W7 hW7 => ?_)
   change Code.wp ..
   refine wp_ret ?_
   try simp only [inBlock_ret, then_ret]
   refine bodyPost_ret (v := .slice none 0 0) ?_ rfl ?_
   · kernel_rfl
   · exact ⟨_, rfl, .inl ⟨by omega, by rw [List.eq_nil_of_length_eq_zero (l := slotsX cs z) Tw.om]; rfl, rfl⟩, hW7.1⟩
end Go.Proofs.YtlinjngifacmoaaDoor
/- Names of slots: plain. -/
namespace Go.Proofs.YtlinjngifacmoaaDoor
open Go Go.RowKit Tw
-- the digits of a name
theorem digs_len {l : List UInt8} (h : digsOk l = true) : l.length = 7 := by
 unfold digsOk at h; simp at h; exact h.1
theorem digs_no {l : List UInt8} {k : Nat} {b : UInt8} (hb : l[k]? = some b) (h : isDg b = false) : digsOk l = false := by
 cases hd : digsOk l with
 | false => rfl
 | true =>
   unfold digsOk at hd
   simp only [Bool.and_eq_true, List.all_eq_true] at hd
   rw [hd.2 b (List.mem_of_getElem? hb)] at h
   cases h
theorem digs_nl {l : List UInt8} (h : ¬ l.length = 7) : digsOk l = false := by unfold digsOk; simp [h]
theorem dg_in {b : UInt8} (h : isDg b = true) : 48 ≤ b.toNat ∧ b.toNat ≤ 57 := by unfold isDg at h; simpa using h
theorem dg_of {b : UInt8} (h1 : ¬ b.toNat < 48) (h2 : ¬ 57 < b.toNat) : isDg b = true := by unfold isDg; simp; omega
theorem dg_lo {b : UInt8} (h1 : b.toNat < 48) : isDg b = false := by unfold isDg; simp; omega
theorem dg_hi {b : UInt8} (h1 : 57 < b.toNat) : isDg b = false := by unfold isDg; simp; omega
theorem digs_yes {l : List UInt8} {b0 b1 b2 b3 b4 b5 b6 : UInt8} (hl : l.length = 7) (h0 : l[0]? = some b0) (h1 : l[1]? = some b1) (h2 : l[2]? = some b2) (h3 : l[3]? = some b3) (h4 : l[4]? = some b4) (h5 : l[5]? = some b5) (h6 : l[6]? = some b6)
   (k : isDg b0 = true ∧ isDg b1 = true ∧ isDg b2 = true ∧ isDg b3 = true ∧ isDg b4 = true ∧ isDg b5 = true ∧ isDg b6 = true) : l = [b0, b1, b2, b3, b4, b5, b6] ∧ digsOk l = true := by
 rcases l with _ | ⟨a0, _ | ⟨a1, _ | ⟨a2, _ | ⟨a3, _ | ⟨a4, _ | ⟨a5, _ | ⟨a6, _ | ⟨a7, l⟩⟩⟩⟩⟩⟩⟩⟩ <;> simp at hl
 simp at h0 h1 h2 h3 h4 h5 h6
 subst h0 h1 h2 h3 h4 h5 h6
 refine ⟨rfl, ?_⟩
 unfold digsOk
 simp [k]
theorem digs_split {l : List UInt8} (h : digsOk l = true) : ∃ b0 b1 b2 b3 b4 b5 b6, l = [b0, b1, b2, b3, b4, b5, b6] ∧ (48 ≤ b0.toNat ∧ b0.toNat ≤ 57) ∧ (48 ≤ b1.toNat ∧ b1.toNat ≤ 57) ∧ (48 ≤ b2.toNat ∧ b2.toNat ≤ 57) ∧ (48 ≤ b3.toNat ∧ b3.toNat ≤ 57) ∧ (48 ≤ b4.toNat ∧ b4.toNat ≤ 57) ∧ (48 ≤ b5.toNat ∧ b5.toNat ≤ 57) ∧ (48 ≤ b6.toNat ∧ b6.toNat ≤ 57) := by
 have hl := digs_len h
 rcases l with _ | ⟨a0, _ | ⟨a1, _ | ⟨a2, _ | ⟨a3, _ | ⟨a4, _ | ⟨a5, _ | ⟨a6, _ | ⟨a7, l⟩⟩⟩⟩⟩⟩⟩⟩ <;> simp at hl
 unfold digsOk at h
 simp only [Bool.and_eq_true, List.all_eq_true] at h
 exact ⟨a0, a1, a2, a3, a4, a5, a6, rfl, dg_in (h.2 _ (by simp)), dg_in (h.2 _ (by simp)), dg_in (h.2 _ (by simp)), dg_in (h.2 _ (by simp)), dg_in (h.2 _ (by simp)), dg_in (h.2 _ (by simp)), dg_in (h.2 _ (by simp))⟩
-- the package's table
def codesL : List Value := [.int .i64 2, .int .i64 1, .int .i64 3]
structure Env (w : World) : Prop where
 codes : w.var? Tryd.prog "twistlock/slot.codes" = some codesL.toArray
theorem var_keep {P : Program} {w w' : World} {n : String} {cs : Array Value} (h : w.var? P n = some cs) (hb : Below w.heap.size w w') : w'.var? P n = some cs := by
 unfold World.var? at *
 cases hg : P.globalNamed n with
 | none => rw [hg] at h; cases h
 | some g =>
   rw [hg] at h
   simp only [Option.bind_some] at h ⊢
   cases hh : w.heap[g]? with
   | none => rw [hh] at h; cases h
   | some o => rw [hb.block g (lt_of_block hh)]; exact h
theorem Env.keep {w w' : World} (h : Env w) (hb : Below w.heap.size w w') : Env w' := ⟨var_keep h.codes hb⟩
theorem gCodes : Tryd.prog.globalNamed "twistlock/slot.codes" = some 0 := by kernel_rfl
theorem Env.cap {w : World} (h : Env w) : CapR w 0 codesL := by
 have hc : ∀ (j : Nat) (v : Value), codesL[j]? = some v → w.cell? ⟨0, 0 + j, none⟩ = some v := fun j v hv => by
   rw [Nat.zero_add, World.var?_cell gCodes h.codes j]
   simpa using hv
 exact ⟨World.block_lt_of_cell? _ _ (hc 0 (.int .i64 2) rfl), hc⟩
theorem codes_at {h : Nat} (hh : h ≤ 2) : codesL[h]? = some (.int .i64 ((codeN h : Nat) : Int)) := by
 rcases h with _ | _ | _ | h
 · rfl
 · rfl
 · rfl
 · omega
-- the digits as they are written, from the last one on
def stp (s : List Nat × Nat) (i : Fin 7) : List Nat × Nat := (s.1.set i.1 (48 + s.2 % 10), s.2 / 10)
def stpA (n : Nat) (l : List (Fin 7)) : List Nat × Nat := l.foldl stp ([0, 0, 0, 0, 0, 0, 0], n)
theorem stpA_snoc (n : Nat) (l : List (Fin 7)) (i : Fin 7) : stpA n (l ++ [i]) = stp (stpA n l) i := by unfold stpA; rw [List.foldl_append]; rfl
theorem stpA_len (n : Nat) (l : List (Fin 7)) : (stpA n l).1.length = 7 := by
 have key : ∀ (l : List (Fin 7)) (s : List Nat × Nat), s.1.length = 7 → (l.foldl stp s).1.length = 7 := by
   intro l
   induction l with
   | nil => intro s h; exact h
   | cons i l ih => intro s h; exact ih _ (by simp [stp, h])
 exact key l _ rfl
theorem stpA_lt (n : Nat) (l : List (Fin 7)) : (∀ x ∈ (stpA n l).1, x ≤ 57) ∧ (stpA n l).2 ≤ n := by
 have key : ∀ (l : List (Fin 7)) (s : List Nat × Nat), (∀ x ∈ s.1, x ≤ 57) → s.2 ≤ n → (∀ x ∈ (l.foldl stp s).1, x ≤ 57) ∧ (l.foldl stp s).2 ≤ n := by
   intro l
   induction l with
   | nil => intro s h h2; exact ⟨h, h2⟩
   | cons i l ih =>
     intro s h h2
     refine ih _ (fun x hx => ?_) (Nat.le_trans (Nat.div_le_self _ _) h2)
     rcases List.mem_or_eq_of_mem_set hx with hx | rfl
     · exact h x hx
     · omega
 exact key l _ (fun x hx => by simp at hx; omega) (Nat.le_refl _)
def allI : List (Fin 7) := [6, 5, 4, 3, 2, 1, 0]
theorem stp_all (n : Nat) : (stpA n allI).1 = [48 + n / 1000000 % 10, 48 + n / 100000 % 10, 48 + n / 10000 % 10, 48 + n / 1000 % 10, 48 + n / 100 % 10, 48 + n / 10 % 10, 48 + n % 10] := by
 show [48 + n / 10 / 10 / 10 / 10 / 10 / 10 % 10, 48 + n / 10 / 10 / 10 / 10 / 10 % 10, 48 + n / 10 / 10 / 10 / 10 % 10, 48 + n / 10 / 10 / 10 % 10, 48 + n / 10 / 10 % 10, 48 + n / 10 % 10, 48 + n % 10] = _
 simp only [Nat.div_div_eq_div_mul]
def Gd7 (g : Nat) (W : World) : Prop := ∃ l : List Nat, l.length = 7 ∧ (∀ x ∈ l, x ≤ 255) ∧ W.heap[g]? = some (.cells (l.flatMap u8C).toArray 143 (0, 0))
theorem gd7_keep {g : Nat} {W W' : World} {K : List (Nat × Obj)} (h : Gd7 g W) (hk : KS (W : Base) K W') : Gd7 g W' := by
 obtain ⟨l, h1, h2, h3⟩ := h
 exact ⟨l, h1, h2, (hk.1.block g (lt_of_block h3)).trans h3⟩
def encB (x : Fin 7 × Nat) : Array Value := #[.int .i64 ((x.1.1 : Nat) : Int), .int .u8 ((x.2 : Nat) : Int)]
def dnI : Nat → List (Fin 7)
 | 0 => []
 | m + 1 => if h : m < 7 then ⟨m, h⟩ :: dnI m else dnI m
theorem dnI_s {m : Nat} (h : m < 7) : dnI (m + 1) = ⟨m, h⟩ :: dnI m := by simp [dnI, h]
theorem dnI_len : ∀ {j : Nat}, j ≤ 7 → (dnI j).length = j
 | 0, _ => rfl
 | m + 1, h => by rw [dnI_s Tw.om, List.length_cons, dnI_len Tw.om]
theorem dn_room {pre : List (Fin 7 × Nat)} {m : Nat} (h : allI = pre.map (·.1) ++ dnI (m + 1)) (hm : m < 7) : pre.length < 7 := by
 have h1 := congrArg List.length h
 rw [List.length_append, dnI_len Tw.om, List.length_map] at h1
 have h2 : allI.length = 7 := rfl
 omega
theorem dn_next {pre : List (Fin 7 × Nat)} {m y : Nat} (h : allI = pre.map (·.1) ++ dnI (m + 1)) (hm : m < 7) : allI = (pre ++ [((⟨m, hm⟩ : Fin 7), y)]).map (·.1) ++ dnI m := by
 rw [h, dnI_s hm]; simp
theorem u8_set {l : List Nat} {k v : Nat} (hk : k < l.length) : (l.flatMap u8C).toArray.setIfInBounds (0 + k * 1) (.int .u8 ((v : Nat) : Int)) = ((l.set k v).flatMap u8C).toArray := by
 have e : ∀ l : List Nat, l.flatMap u8C = l.map fun n => Value.int .u8 ((n : Nat) : Int) := fun l => by
   induction l with
   | nil => rfl
   | cons a l ih => rw [List.flatMap_cons, ih]; rfl
 rw [e, e, List.setIfInBounds_toArray, List.map_set, Nat.zero_add, Nat.mul_one]
def TXI (N g3 g4 : Nat) (ys : List (Fin 7 × Nat)) (K : List (Nat × Obj)) : Prop := K = [(g4, .cells ((stpA N (ys.map (·.1))).1.flatMap u8C).toArray 143 (0, 0)), (g3, .cells #[.int .i64 (((stpA N (ys.map (·.1))).2 : Nat) : Int)] 3 (0, 0))] ∧ g3 ≠ g4
theorem txi_cells {N g3 g4 : Nat} (ys : List (Fin 7 × Nat)) (K : List (Nat × Obj)) (h : TXI N g3 g4 ys K) : ∀ p ∈ K, p.2.isCells = true := by
 obtain ⟨rfl, _⟩ := h
 exact List.forall_mem_cons.2 ⟨rfl, List.forall_mem_cons.2 ⟨rfl, List.forall_mem_nil _⟩⟩
theorem txi_gd {W0 : Base} {N g3 g4 : Nat} (ys : List (Fin 7 × Nat)) (K : List (Nat × Obj)) (W : World) (h : TXI N g3 g4 ys K) (hk : KS W0 K W) : Gd7 g4 W := by
 obtain ⟨rfl, _⟩ := h
 exact ⟨_, stpA_len _ _, fun x hx => by have := (stpA_lt N (ys.map (·.1))).1 x hx; omega, hk.2 _ Tw.m0⟩
theorem str_is {l m : List UInt8} (h : l = m) : Ending.returned (strV l) = .returned (strV m) := by rw [h]
theorem row_dg {M : Nat} : RowB ([48 + M / 1000000 % 10, 48 + M / 100000 % 10, 48 + M / 10000 % 10, 48 + M / 1000 % 10, 48 + M / 100 % 10, 48 + M / 10 % 10, 48 + M % 10].flatMap u8C).toArray (txtN M) := by
 show [Value.int .u8 ((48 + M / 1000000 % 10 : Nat) : Int), .int .u8 ((48 + M / 100000 % 10 : Nat) : Int), .int .u8 ((48 + M / 10000 % 10 : Nat) : Int), .int .u8 ((48 + M / 1000 % 10 : Nat) : Int), .int .u8 ((48 + M / 100 % 10 : Nat) : Int), .int .u8 ((48 + M / 10 % 10 : Nat) : Int), .int .u8 ((48 + M % 10 : Nat) : Int)] = u8s (txtN M)
 unfold u8s txtN
 simp only [List.map_cons, List.map_nil, dgB_nat]
end Go.Proofs.YtlinjngifacmoaaDoor
namespace Go.Proofs.YtlinjngifacmoaaDoor
open Go Go.RowKit Tw
set_option maxRecDepth 100000 in
set_option maxHeartbeats 4000000 in
theorem backward_stops (n₀ b1 g4 : Nat) (w0 : World) (hn0 : n₀ ≤ w0.heap.size) (hb1 : w0.heap[b1]? = some (.cells #[.slice (some ⟨g4, 0, none⟩) 7 7] 78 (0, 0))) (hG0 : Gd7 g4 w0) :
   SeqStopsK (FX none) 0 Tryd.prog 114 #[.pointer (some ⟨b1, 0, none⟩)] encB (fun A B => KpT [143, 3] n₀ A B ∧ (Gd7 g4 A → Gd7 g4 B)) (fun ys => ys.map (·.1) = allI) (fun _ => True) 7 w0 := by
 intro l J Jx W1 hB0 hJa hJxa hYd hJ0
 have hBw : Below n₀ w0 W1 := hB0.mono hn0
 have hG1 : Gd7 g4 W1 := gd7_keep (W := w0) (K := []) hG0 ⟨hB0, fun _ h => by cases h⟩
 have hR1 : KS (W1 : World) [(b1, .cells #[.slice (some ⟨g4, 0, none⟩) 7 7] 78 (0, 0))] W1 := ⟨Below.refl _ _, List.forall_mem_cons.2 ⟨(hB0.block b1 (lt_of_block hb1)).trans hb1, List.forall_mem_nil _⟩⟩
 refine callsIn_of_wp Tryd.func114 rfl trivial ?_ rfl
 simp only [Tryd.ntmps114, List.size_toArray, List.length_cons, List.length_nil, Nat.reduceAdd, Nat.reduceSub, Array.replicate_succ, Array.replicate_zero, List.push_toArray, List.append_toArray, List.nil_append, List.cons_append]
 refine wpIn_seq ?_
 refine wp_region_LI (W0 := (W1 : World)) [(b1, .cells #[.slice (some ⟨g4, 0, none⟩) 7 7] 78 (0, 0))] Tw.kr (hR1) ?_
 refine lv (v := .slice (some ⟨g4, 0, none⟩) 7 7) rfl rfl (yb_cell (off := 0) rfl Tw.kr Tw.m0 Tryd.underlying78 rfl Tw.kr) ?_
 refine lp (v := .int .i64 7) rfl rfl (run_lenL (p := (some ⟨g4, 0, none⟩)) (cap := 7) (n := 7) rfl Tryd.underlying78 Tw.kr) ?_
 refine lm (v := .int .i64 6) rfl rfl ?_
 refine lm (v := .int .i64 6) rfl rfl ?_
 refine wpL_done (fun W2 hW2 => ?_)
 have hR2 : KS (W2 : World) [(b1, .cells #[.slice (some ⟨g4, 0, none⟩) 7 7] 78 (0, 0))] W2 := ⟨Below.refl _ _, hW2.2⟩
 have hJ2 := abideK hJa hJ0 hW2
 have hB2 := hBw.trans (hW2.1.mono (Nat.le_trans hn0 hBw.size))
 have hG2 := gd7_keep hG1 hW2
 refine (show Code.wpIn _ _ _ _ _ _ _ from ?_)
 refine wpIn_block ?_
 gi_loopw [3] (fun u3 wr => ∃ (j : Nat) (pre : List (Fin 7 × Nat)), (j ≤ 7) ∧ (allI = pre.map (·.1) ++ dnI j) ∧ (J pre wr) ∧ (Below n₀ w0 wr) ∧ (Gd7 g4 wr) ∧ u3 = .int .i64 (((j : Nat) : Int) - 1) ∧ KS (wr : World) [(b1, .cells #[.slice (some ⟨g4, 0, none⟩) 7 7] 78 (0, 0))] wr) (fun u3 _ => (intOf u3 + 1).toNat)
 case atStart => exact ⟨7, [], Tw.om, rfl, hJ2, hB2, hG2, rfl, (hR2.sub (fun p hp => by first | exact hp | (simp only [List.mem_cons, List.mem_append, List.nil_append, List.not_mem_nil, or_assoc, or_false, false_or] at hp ⊢ <;> grind)))⟩
 case round =>
   obtain ⟨j, pre, hj, hxs, hJl2, hBl2, hGl2, rfl, hL3⟩ := hrel
   have hRl2 := hL3
   refine wpIn_seq ?_
   refine wpIn_seq ?_
   refine wp_region_LI (W0 := (wr : World)) [(b1, .cells #[.slice (some ⟨g4, 0, none⟩) 7 7] 78 (0, 0))] Tw.kr (hRl2) ?_
   refine lm (v := .int .i64 (((j : Nat) : Int) - 1)) rfl rfl ?_
   refine lp (v := .bool (!(decide ((((j : Nat) : Int) - 1) < 0)))) rfl rfl (run_bin rfl (vx := (.int .i64 (((j : Nat) : Int) - 1))) (vy := (.int .i64 0)) Tw.kr Tw.kr fun w => bi_geq rfl w) ?_
   refine wpL_done (fun W4 hW4 => ?_)
   have hR4 : KS (W4 : World) [(b1, .cells #[.slice (some ⟨g4, 0, none⟩) 7 7] 78 (0, 0))] W4 := ⟨Below.refl _ _, hW4.2⟩
   have hJ4 := abideK hJa hJl2 hW4
   have hB4 := hBl2.trans (hW4.1.mono (Nat.le_trans hn0 hBl2.size))
   have hG4 := gd7_keep hGl2 hW4
   refine (show Code.wpIn _ _ _ _ _ _ _ from ?_)
   cases hd1 : (decide ((((j : Nat) : Int) - 1) < 0)) with
   | false =>
     have h1 : ¬ ((((j : Nat) : Int) - 1) < 0) := of_decide_eq_false hd1
     clear hd1
     obtain ⟨m, rfl⟩ : ∃ m, j = m + 1 := ⟨j - 1, by omega⟩
     have hm7 : m < 7 := by omega
     rw [show (((m + 1 : Nat) : Int) - 1) = ((m : Nat) : Int) from by omega]
     refine wpIn_cond_true rfl ?_
     refine wpIn_skip ?_
     refine (show Code.wpIn _ _ _ _ _ _ _ from ?_)
     refine wpIn_seq ?_
     refine wpIn_block ?_
     refine wpIn_seq ?_
     have hGb := hG4
     obtain ⟨lb, hlb, hub, hgb⟩ := hGb
     have hRLb : RL u8C ((W4 : World) : Base) (some ⟨g4, 0, none⟩) lb [(g4, .cells (lb.flatMap u8C).toArray 143 (0, 0))] := fun W hW => blk_slv hW Tw.m0
     have hRb : KS (W4 : World) [(g4, .cells (lb.flatMap u8C).toArray 143 (0, 0)), (b1, .cells #[.slice (some ⟨g4, 0, none⟩) 7 7] 78 (0, 0))] _ := ⟨Below.refl _ _, List.forall_mem_cons.2 ⟨hgb, hR4.2⟩⟩
     refine wp_region_S (W0 := (W4 : World)) (List.take 6 _) (List.drop 6 _) [(g4, .cells (lb.flatMap u8C).toArray 143 (0, 0)), (b1, .cells #[.slice (some ⟨g4, 0, none⟩) 7 7] 78 (0, 0))] (List.take_append_drop 6 _).symm Tw.kr (hRb) ?_
     simp only [List.take_succ_cons, List.take_zero, List.drop_succ_cons, List.drop_zero]
     refine lm (v := .func (.yield l) #[] #[]) rfl rfl ?_
     refine lm (v := .int .i64 ((m : Nat) : Int)) rfl rfl ?_
     refine lv (v := .slice (some ⟨g4, 0, none⟩) 7 7) rfl rfl (yb_cell (off := 0) rfl Tw.kr Tw.m1 Tryd.underlying78 rfl Tw.kr) ?_
     refine lm (v := .int .i64 ((m : Nat) : Int)) rfl rfl ?_
     obtain ⟨y6, g6_, f6_, hy6, hp6, hc6⟩ := RL.at hRLb u8C_len (by decide) (hRb.sub (fun p hp => by cases List.mem_singleton.1 hp; exact .head _)) (k := m) Tw.om
     refine lp (v := .pointer (some ⟨g6_, f6_ + m * 1, none⟩)) rfl rfl (run_idxQ (p := (some ⟨g4, 0, none⟩)) (cap := 7) (n := 7) (j := .i64) (k := m) (sz := 1) rfl Tryd.underlying78 Tw.kr Tw.kr hp6 Tw.kr Tw.om) ?_
     refine lv (v := .int .u8 ((y6 : Nat) : Int)) rfl rfl (yb_rf (v := .int .u8 ((y6 : Nat) : Int)) rfl Tw.kr (fun W hW => hc6 W (hW.sub (fun p hp => by cases List.mem_singleton.1 hp; exact .head _)) 0 _ rfl) Tryd.underlying5 rfl) ?_
     refine wpL_done (fun W5 hW5 => ?_)
     have hR5 : KS (W5 : World) [(g4, .cells (lb.flatMap u8C).toArray 143 (0, 0)), (b1, .cells #[.slice (some ⟨g4, 0, none⟩) 7 7] 78 (0, 0))] W5 := ⟨Below.refl _ _, hW5.2⟩
     have hJ5 := abideK hJa hJ4 hW5
     have hB5 := hB4.trans (hW5.1.mono (Nat.le_trans hn0 hB4.size))
     have hG5 := gd7_keep hG4 hW5
     refine (show wpListIn _ _ _ _ _ _ _ _ from ?_)
     have hRd5 : KS (W5 : World) [(b1, .cells #[.slice (some ⟨g4, 0, none⟩) 7 7] 78 (0, 0))] W5 := hR5.sub (fun p hp => .tail _ hp)
     have hYY := hYd pre ((⟨m, hm7⟩ : Fin 7), y6) W5 hJ5 (dn_room hxs hm7)
     refine wpl_yield2 rfl rfl Tw.kr Tw.kr Tw.kr Tw.kr rfl hYY Tw.pu Tw.pu (fun W6 hA6 => ?_) (fun W6 hX6 => ?_)
     · obtain ⟨hJy6, hKy6, hGy6⟩ := hA6
       have hG6 := hGy6 hG5
       have hko6 : ∀ p ∈ ([(b1, .cells #[.slice (some ⟨g4, 0, none⟩) 7 7] 78 (0, 0))] : List (Nat × Obj)), p.2.isCells = true ∧ ownT [143, 3] p.2 = false := (List.forall_mem_cons.2 ⟨⟨rfl, rfl⟩, (List.forall_mem_nil _)⟩)
       have hR6 : KS (W6 : World) [(b1, .cells #[.slice (some ⟨g4, 0, none⟩) 7 7] 78 (0, 0))] W6 := ⟨Below.refl _ _, fun p hp => hKy6.same _ _ (hRd5.2 p hp) (hko6 p hp).1 (hko6 p hp).2⟩
       have hB6 := hB5.trans hKy6.below
       refine wpl_rest (W0 := (W6 : World)) [(b1, .cells #[.slice (some ⟨g4, 0, none⟩) 7 7] 78 (0, 0))] Tw.kr (hR6) ?_
       refine lm (v := .bool false) rfl rfl ?_
       refine wpL_done (fun W7 hW7 => ?_)
       have hR7 : KS (W7 : World) [(b1, .cells #[.slice (some ⟨g4, 0, none⟩) 7 7] 78 (0, 0))] W7 := ⟨Below.refl _ _, hW7.2⟩
       have hJ7 := abideK hJa hJy6 hW7
       have hB7 := hB6.trans (hW7.1.mono (Nat.le_trans hn0 hB6.size))
       have hG7 := gd7_keep hG6 hW7
       refine (show Code.wpIn _ _ _ _ _ _ _ from ?_)
       refine wpIn_cond_false rfl ?_
       refine wpIn_skip ?_
       refine (show Code.wpIn _ _ _ _ _ _ _ from ?_)
       refine wp_region_LI (W0 := (W7 : World)) [(b1, .cells #[.slice (some ⟨g4, 0, none⟩) 7 7] 78 (0, 0))] Tw.kr (hR7) ?_
       refine lm (v := .int .i64 ((m : Nat) : Int)) rfl rfl ?_
       refine lp (v := .int .i64 (((m : Nat) : Int) - 1)) rfl rfl (run_bin rfl (vx := (.int .i64 ((m : Nat) : Int))) (vy := (.int .i64 1)) Tw.kr Tw.kr fun w => bi_sub (z := (((m : Nat) : Int) - 1)) rfl (wi_i64 Tw.om) w) ?_
       refine lm (v := .int .i64 (((m : Nat) : Int) - 1)) rfl rfl ?_
       refine wpL_done (fun W8 hW8 => ?_)
       have hR8 : KS (W8 : World) [(b1, .cells #[.slice (some ⟨g4, 0, none⟩) 7 7] 78 (0, 0))] W8 := ⟨Below.refl _ _, hW8.2⟩
       have hJ8 := abideK hJa hJ7 hW8
       have hB8 := hB7.trans (hW8.1.mono (Nat.le_trans hn0 hB7.size))
       have hG8 := gd7_keep hG7 hW8
       go_roundw
       case rel =>
         repeat apply Exists.intro
         exact ⟨⟨m, (pre ++ [((⟨m, hm7⟩ : Fin 7), y6)]), Tw.om, (dn_next hxs hm7), hJ8, hB8, hG8, rfl, (hR8.sub (fun p hp => by first | exact hp | (simp only [List.mem_cons, List.mem_append, List.nil_append, List.not_mem_nil, or_assoc, or_false, false_or] at hp ⊢ <;> grind)))⟩, rfl⟩
       case measure => (show (intOf (.int .i64 (((m : Nat) : Int) - 1)) + 1).toNat < (intOf (.int .i64 ((m : Nat) : Int)) + 1).toNat); simp only [intOf]; omega
     · refine wpl_rest (W0 := (W6 : World)) [] Tw.kr ((KS.start W6)) ?_
       refine lm (v := .bool true) rfl rfl ?_
       refine wpL_done (fun W9 hW9 => ?_)
       refine (show Code.wpIn _ _ _ _ _ _ _ from ?_)
       refine wpIn_cond_true rfl ?_
       refine wpIn_ret ?_
       try simp only [inBlock_ret, then_ret]
       refine bodyPost_ret (results_none rfl _ _ _) rfl ?_
       exact ⟨⟨_, rfl⟩, .inr ⟨_, trivial, abideK hJxa hX6 hW9⟩⟩
   | true =>
     have h1 : (((j : Nat) : Int) - 1) < 0 := of_decide_eq_true hd1
     clear hd1
     obtain rfl : j = 0 := by omega
     refine wpIn_cond_false rfl ?_
     refine wpIn_exit ?_
     simp only [then_exitX, inBlock_exitX]
     refine bodyPost_end (results_none rfl _ _ _) rfl ?_
     exact ⟨⟨_, rfl⟩, .inl ⟨_, (hxs.trans (List.append_nil _)).symm, hJ4⟩⟩
end Go.Proofs.YtlinjngifacmoaaDoor
namespace Go.Proofs.YtlinjngifacmoaaDoor
open Go Go.RowKit Tw
set_option maxRecDepth 100000 in
set_option maxHeartbeats 4000000 in
theorem tierNumber_any (t : Nat) (d : Bool) (ht : t ≤ 100) (w : World) : Calls Tryd.prog 98 #[.int .i64 ((t : Nat) : Int), .bool d] w fun e w' => e = .returned (.int .i64 ((tierN t d : Nat) : Int)) ∧ Below w.heap.size w w' := by
 go_enter Tryd.func98, Tryd.ntmps98
 refine wp_seq ?_
 refine wp_region_L [] (KS.start w) ?_
 refine lm (v := .int .i64 0) rfl rfl ?_
 refine wpL_done (fun W1 hW1 => ?_)
 change Code.wp ..
 refine wp_seq ?_
 refine wp_region_L _ hW1 ?_
 refine lm (v := .int .i64 ((t : Nat) : Int)) rfl rfl ?_
 refine lp (v := .int .i64 (((t + 1) : Nat) : Int)) rfl rfl (run_bin rfl (vx := (.int .i64 ((t : Nat) : Int))) (vy := (.int .i64 ((1 : Nat) : Int))) Tw.kr Tw.kr fun w => bn_add (z := (t + 1)) rfl (wr_i64 Tw.om) w) ?_
 refine lp (v := .int .i64 (((2 * (t + 1)) : Nat) : Int)) rfl rfl (run_bin rfl (vx := (.int .i64 ((2 : Nat) : Int))) (vy := (.int .i64 (((t + 1) : Nat) : Int))) Tw.kr Tw.kr fun w => bn_mul (z := (2 * (t + 1))) rfl (wr_i64 Tw.om) w) ?_
 refine lm (v := .int .i64 (((2 * (t + 1)) : Nat) : Int)) rfl rfl ?_
 refine wpL_done (fun W2 hW2 => ?_)
 change Code.wp ..
 refine wp_seq ?_
 refine wp_seq ?_
 refine wp_region_L _ hW2 ?_
 refine lm (v := .bool d) rfl rfl ?_
 refine wpL_done (fun W3 hW3 => ?_)
 change Code.wp ..
 cases h1 : d with
 | false =>
   refine wp_cond_false rfl ?_
   refine wp_skip ?_
   change Code.wp ..
   refine wp_seq ?_
   refine wp_region_L _ hW3 ?_
   refine lm (v := .int .i64 (((2 * (t + 1)) : Nat) : Int)) rfl rfl ?_
   refine lp (v := .int .i64 ((((2 * (t + 1)) % 100) : Nat) : Int)) rfl rfl (run_bin rfl (vx := (.int .i64 (((2 * (t + 1)) : Nat) : Int))) (vy := (.int .i64 ((100 : Nat) : Int))) Tw.kr Tw.kr fun w => bn_rem (z := ((2 * (t + 1)) % 100)) rfl Tw.om w) ?_
   refine lm (v := .int .i64 ((((2 * (t + 1)) % 100) : Nat) : Int)) rfl rfl ?_
   refine wpL_done (fun W4 hW4 => ?_)
   change Code.wp ..
   refine wp_ret ?_
   try simp only [inBlock_ret, then_ret]
   refine bodyPost_ret (v := .int .i64 ((((2 * (t + 1)) % 100) : Nat) : Int)) ?_ rfl ?_
   · kernel_rfl
   · exact ⟨(int_is (by unfold tierN; rfl)), hW4.1⟩
 | true =>
   refine wp_cond_true rfl ?_
   refine wp_region_L _ hW3 ?_
   refine lm (v := .int .i64 (((2 * (t + 1)) : Nat) : Int)) rfl rfl ?_
   refine lp (v := .int .i64 ((((2 * (t + 1)) + 80) : Nat) : Int)) rfl rfl (run_bin rfl (vx := (.int .i64 (((2 * (t + 1)) : Nat) : Int))) (vy := (.int .i64 ((80 : Nat) : Int))) Tw.kr Tw.kr fun w => bn_add (z := ((2 * (t + 1)) + 80)) rfl (wr_i64 Tw.om) w) ?_
   refine lm (v := .int .i64 ((((2 * (t + 1)) + 80) : Nat) : Int)) rfl rfl ?_
   refine wpL_done (fun W5 hW5 => ?_)
   change Code.wp ..
   refine wp_seq ?_
   refine wp_region_L _ hW5 ?_
   refine lm (v := .int .i64 ((((2 * (t + 1)) + 80) : Nat) : Int)) rfl rfl ?_
   refine lp (v := .int .i64 (((((2 * (t + 1)) + 80) % 100) : Nat) : Int)) rfl rfl (run_bin rfl (vx := (.int .i64 ((((2 * (t + 1)) + 80) : Nat) : Int))) (vy := (.int .i64 ((100 : Nat) : Int))) Tw.kr Tw.kr fun w => bn_rem (z := (((2 * (t + 1)) + 80) % 100)) rfl Tw.om w) ?_
   refine lm (v := .int .i64 (((((2 * (t + 1)) + 80) % 100) : Nat) : Int)) rfl rfl ?_
   refine wpL_done (fun W6 hW6 => ?_)
   change Code.wp ..
   refine wp_ret ?_
   try simp only [inBlock_ret, then_ret]
   refine bodyPost_ret (v := .int .i64 (((((2 * (t + 1)) + 80) % 100) : Nat) : Int)) ?_ rfl ?_
   · kernel_rfl
   · exact ⟨(int_is (by unfold tierN; rfl)), hW6.1⟩
set_option maxRecDepth 100000 in
set_option maxHeartbeats 4000000 in
theorem Backward_any {W0 : Base} {K : List (Nat × Obj)} (p : Option Addr) (n c : Nat) (w : World) (hw : KS W0 K w) : Calls Tryd.prog 99 #[.slice p n c] w fun e w' => ∃ v K', e = .returned v ∧ KS W0 K' w' ∧ (∃ b1, v = .func (.func 114) #[] #[.pointer (some ⟨b1, 0, none⟩)] ∧ K' = K ++ [(b1, .cells #[.slice p n c] 78 (0, 0))] ∧ (∀ p ∈ K, p.1 ≠ b1) ∧ w.heap.size ≤ b1 ∧ Below w.heap.size w w') := by
 go_enter Tryd.func99, Tryd.ntmps99
 refine wp_seq ?_
 refine wp_region_L [] (KS.start w) ?_
 refine wpL_new (fun g => .pointer (some ⟨g, 0, none⟩)) (obi := .cells #[.slice p n c] 78 (0, 0)) rfl rfl Tw.kf Tw.pf fun g1 Bg1 Fg1 => ?_
 refine lm (v := .nilFunc) rfl rfl ?_
 refine wpL_done (fun W1 hW1 => ?_)
 change Code.wp ..
 refine wp_seq ?_
 refine wp_region_L _ hW1 ?_
 refine lm (v := .func (.func 114) #[] #[.pointer (some ⟨g1, 0, none⟩)]) rfl rfl ?_
 refine lm (v := .func (.func 114) #[] #[.pointer (some ⟨g1, 0, none⟩)]) rfl rfl ?_
 refine wpL_done (fun W2 hW2 => ?_)
 change Code.wp ..
 refine wp_ret ?_
 try simp only [inBlock_ret, then_ret]
 refine bodyPost_ret (v := .func (.func 114) #[] #[.pointer (some ⟨g1, 0, none⟩)]) ?_ rfl ?_
 · kernel_rfl
 · exact ⟨_, _, rfl, ⟨(hw.below hW2.1).1, fun p hp => by rcases List.mem_append.1 hp with hp | hp; exact (hw.below hW2.1).2 p hp; exact hW2.2 p hp⟩, g1, rfl, rfl, (fun p hp e => by have h8 := lt_of_block (hw.2 p hp); have h9 : w.heap.size ≤ g1 := (by assumption); omega), by assumption, hW2.1⟩
set_option maxRecDepth 100000 in
set_option maxHeartbeats 4000000 in
theorem text_nat (b r t h : Nat) (d : Bool) (hb : b ≤ 39) (hr : r ≤ 30) (ht : t ≤ 9) (hh : h ≤ 2) (w : World) (hE : Env w) : Calls Tryd.prog 67 #[.agg #[.int .i64 ((b : Nat) : Int), .int .i64 ((r : Nat) : Int), .int .i64 ((t : Nat) : Int), .bool d, .int .u8 ((h : Nat) : Int)]] w fun e w' => e = .returned (strV (txtN (numN b r t d h))) ∧ Below w.heap.size w w' := by
 have HE := Lib.hid hE
 clear hE
 have hcd := codeN_le h
 have htn := (tier_num (d := d) ht).2.2.2
 obtain ⟨M, hM⟩ : ∃ M, numN b r t d h = M := ⟨_, rfl⟩
 have hM2 : M ≤ 9999999 := by have := (numN_lt (h := h) (d := d) hb hr ht).1; omega
 rw [hM]
 refine (callsIn_wide (n := 0)).1 ?_
 refine callsIn_of_wp_marks Tryd.func67 rfl trivial ?_
 simp only [Tryd.ntmps67, List.size_toArray, List.length_cons, List.length_nil, Nat.reduceAdd, Nat.reduceSub, Array.replicate_succ, Array.replicate_zero, List.push_toArray, List.append_toArray, List.nil_append, List.cons_append]
 refine wpIn_seq ?_
 refine wp_region_LI (W0 := (w : World)) [] Tw.kr ((KS.start w)) ?_
 refine wpL_new (fun g => .pointer (some ⟨g, 0, none⟩)) (obi := .cells #[.int .i64 ((b : Nat) : Int), .int .i64 ((r : Nat) : Int), .int .i64 ((t : Nat) : Int), .bool d, .int .u8 ((h : Nat) : Int)] 111 (0, 0)) rfl rfl Tw.kf Tw.pf fun g1 Bg1 Fg1 => ?_
 refine lm (v := strV []) rfl rfl ?_
 refine wpL_done (fun W1 hW1 => ?_)
 refine (show Code.wpIn _ _ _ _ _ _ _ from ?_)
 refine wpIn_seq ?_
 refine wp_region_VI (W0 := (w : World)) [(g1, .cells #[.int .i64 ((b : Nat) : Int), .int .i64 ((r : Nat) : Int), .int .i64 ((t : Nat) : Int), .bool d, .int .u8 ((h : Nat) : Int)] 111 (0, 0))] Tw.kr Tw.kr (hW1) ?_
 refine vm (i := 0) (v := .pointer (some ⟨g1, 0, none⟩)) rfl rfl rfl ?_
 refine vv (i := 1) (v := .int .i64 ((b : Nat) : Int)) rfl rfl rfl (yb_cell (off := 0) rfl Tw.kr Tw.m0 Tryd.underlying3 rfl Tw.kr) ?_
 refine vp (i := 2) (v := .int .i64 (((4 * b) : Nat) : Int)) rfl rfl rfl (run_bin rfl (vx := (.int .i64 ((4 : Nat) : Int))) (vy := (.int .i64 ((b : Nat) : Int))) Tw.kr Tw.kr fun w => bn_mul (z := (4 * b)) rfl (wr_i64 Tw.om) w) ?_
 refine vm (i := 3) (v := .pointer (some ⟨g1, 4, none⟩)) rfl rfl rfl ?_
 refine vv (i := 4) (v := .int .u8 ((h : Nat) : Int)) rfl rfl rfl (yb_cell (off := 4) rfl Tw.kr Tw.m0 Tryd.underlying5 rfl Tw.kr) ?_
 refine vp (i := 5) (v := .pointer (some ⟨0, 0 + h * 1, none⟩)) rfl rfl rfl (run_idxA (j := .u8) (b := 0) (off := 0) (k := h) (sz := 1) rfl Tryd.underlying141 Tw.kr Tw.kr Tw.kr Tw.om) ?_
 refine vb (i := 6) (v := .int .i64 (((codeN h) : Nat) : Int)) rfl rfl rfl (yb_rf (v := .int .i64 (((codeN h) : Nat) : Int)) rfl Tw.kr (fun W hW => (show W.cell? ⟨0, 0 + h * 1, none⟩ = some _ from by rw [Nat.mul_one]; exact (HE.out.cap.keep hW.1).2 h _ (codes_at hh))) Tryd.underlying3 rfl) ?_
 refine vp (i := 7) (v := .int .i64 ((((4 * b) + (codeN h)) : Nat) : Int)) rfl rfl rfl (run_bin rfl (vx := (.int .i64 (((4 * b) : Nat) : Int))) (vy := (.int .i64 (((codeN h) : Nat) : Int))) Tw.kr Tw.kr fun w => bn_add (z := ((4 * b) + (codeN h))) rfl (wr_i64 Tw.om) w) ?_
 refine vp (i := 8) (v := .int .i64 (((((4 * b) + (codeN h)) * 10000) : Nat) : Int)) rfl rfl rfl (run_bin rfl (vx := (.int .i64 ((((4 * b) + (codeN h)) : Nat) : Int))) (vy := (.int .i64 ((10000 : Nat) : Int))) Tw.kr Tw.kr fun w => bn_mul (z := (((4 * b) + (codeN h)) * 10000)) rfl (wr_i64 Tw.om) w) ?_
 refine vm (i := 9) (v := .pointer (some ⟨g1, 1, none⟩)) rfl rfl rfl ?_
 refine vv (i := 10) (v := .int .i64 ((r : Nat) : Int)) rfl rfl rfl (yb_cell (off := 1) rfl Tw.kr Tw.m0 Tryd.underlying3 rfl Tw.kr) ?_
 refine vp (i := 11) (v := .int .i64 (((r * 100) : Nat) : Int)) rfl rfl rfl (run_bin rfl (vx := (.int .i64 ((r : Nat) : Int))) (vy := (.int .i64 ((100 : Nat) : Int))) Tw.kr Tw.kr fun w => bn_mul (z := (r * 100)) rfl (wr_i64 Tw.om) w) ?_
 refine vp (i := 12) (v := .int .i64 ((((((4 * b) + (codeN h)) * 10000) + (r * 100)) : Nat) : Int)) rfl rfl rfl (run_bin rfl (vx := (.int .i64 (((((4 * b) + (codeN h)) * 10000) : Nat) : Int))) (vy := (.int .i64 (((r * 100) : Nat) : Int))) Tw.kr Tw.kr fun w => bn_add (z := ((((4 * b) + (codeN h)) * 10000) + (r * 100))) rfl (wr_i64 Tw.om) w) ?_
 refine vm (i := 13) (v := .pointer (some ⟨g1, 2, none⟩)) rfl rfl rfl ?_
 refine vv (i := 14) (v := .int .i64 ((t : Nat) : Int)) rfl rfl rfl (yb_cell (off := 2) rfl Tw.kr Tw.m0 Tryd.underlying3 rfl Tw.kr) ?_
 refine vm (i := 15) (v := .pointer (some ⟨g1, 3, none⟩)) rfl rfl rfl ?_
 refine vv (i := 16) (v := .bool d) rfl rfl rfl (yb_cell (off := 3) rfl Tw.kr Tw.m0 Tryd.underlying4 rfl Tw.kr) ?_
 refine vv (i := 17) (v := .int .i64 (((tierN t d) : Nat) : Int)) rfl rfl rfl (yb_call (f := 98) (args := #[.int .i64 ((t : Nat) : Int), .bool d]) Tw.kf fun W hW => tierNumber_any t d Tw.om W) ?_
 refine vp (i := 18) (v := .int .i64 ((M : Nat) : Int)) rfl rfl rfl (run_bin rfl (vx := (.int .i64 ((((((4 * b) + (codeN h)) * 10000) + (r * 100)) : Nat) : Int))) (vy := (.int .i64 (((tierN t d) : Nat) : Int))) Tw.kr Tw.kr fun w => bn_add (z := M) (by rw [← hM]; unfold numN; rfl) (wr_i64 Tw.om) w) ?_
 refine wpV_ns (fun g => .pointer (some ⟨g, 0, none⟩)) (i := 19) (obi := .cells #[.int .i64 0] 3 (0, 0)) rfl rfl rfl Tw.kr Tw.kf Tw.pf fun g2 Bg2 Fg2 => ?_
 obtain dj3_0 : g1 ≠ g2 := Tw.dkf Fg2
 refine wpV_s [(g2, .cells #[.int .i64 ((M : Nat) : Int)] 3 (0, 0)), (g1, .cells #[.int .i64 ((b : Nat) : Int), .int .i64 ((r : Nat) : Int), .int .i64 ((t : Nat) : Int), .bool d, .int .u8 ((h : Nat) : Int)] 111 (0, 0))] (i := 20) rfl Tw.kr rfl rfl rfl (st_row (off := 0) (v := .int .i64 ((M : Nat) : Int)) rfl Tw.kr Tw.kr Tw.m0 Bg2 Tw.kr (by first | (simp [Value.cells]; done) | exact Nat.le_of_ble_eq_true rfl) (by intro v hv; simp [Value.cells] at hv; first | (subst hv; rfl) | (rcases hv with rfl <;> rfl)) Tw.kr (List.forall_mem_cons.2 ⟨.inl rfl, (List.forall_mem_cons.2 ⟨.inr ⟨Tw.m1, Tw.nee⟩, (List.forall_mem_nil _)⟩)⟩)) ?_
 refine wpV_done Tw.kr (fun W2 hW2 => ?_) _
 refine (show Code.wpIn _ _ _ _ _ _ _ from ?_)
 refine wpIn_seq ?_
 refine wp_region_LI (W0 := (w : World)) [(g2, .cells #[.int .i64 ((M : Nat) : Int)] 3 (0, 0)), (g1, .cells #[.int .i64 ((b : Nat) : Int), .int .i64 ((r : Nat) : Int), .int .i64 ((t : Nat) : Int), .bool d, .int .u8 ((h : Nat) : Int)] 111 (0, 0))] Tw.kr (hW2) ?_
 refine wpL_new (fun g => .pointer (some ⟨g, 0, none⟩)) (obi := .cells #[.int .u8 0, .int .u8 0, .int .u8 0, .int .u8 0, .int .u8 0, .int .u8 0, .int .u8 0] 143 (0, 0)) rfl rfl Tw.kf Tw.pf fun g4 Bg4 Fg4 => ?_
 obtain ⟨dj5_0, dj5_1⟩ : g2 ≠ g4 ∧ g1 ≠ g4 := Tw.dkf Fg4
 refine wpL_done (fun W3 hW3 => ?_)
 refine (show Code.wpIn _ _ _ _ _ _ _ from ?_)
 refine wpIn_seq ?_
 refine wpIn_seq ?_
 refine wp_region_LI (W0 := (w : World)) [(g4, .cells #[.int .u8 0, .int .u8 0, .int .u8 0, .int .u8 0, .int .u8 0, .int .u8 0, .int .u8 0] 143 (0, 0)), (g2, .cells #[.int .i64 ((M : Nat) : Int)] 3 (0, 0)), (g1, .cells #[.int .i64 ((b : Nat) : Int), .int .i64 ((r : Nat) : Int), .int .i64 ((t : Nat) : Int), .bool d, .int .u8 ((h : Nat) : Int)] 111 (0, 0))] Tw.kr (hW3) ?_
 refine lp (v := .slice (some ⟨g4, 0, none⟩) 7 7) rfl rfl (run_slA (n := 7) (sz := 1) rfl Tryd.underlying143 Tw.kr Tw.kr Tw.kr Tw.kr) ?_
 refine wpL_c (f := 99) (args := #[.slice (some ⟨g4, 0, none⟩) 7 7]) (fun v K9 => ∃ b1, v = .func (.func 114) #[] #[.pointer (some ⟨b1, 0, none⟩)] ∧ K9 = [(g4, .cells #[.int .u8 0, .int .u8 0, .int .u8 0, .int .u8 0, .int .u8 0, .int .u8 0, .int .u8 0] 143 (0, 0)), (g2, .cells #[.int .i64 ((M : Nat) : Int)] 3 (0, 0)), (g1, .cells #[.int .i64 ((b : Nat) : Int), .int .i64 ((r : Nat) : Int), .int .i64 ((t : Nat) : Int), .bool d, .int .u8 ((h : Nat) : Int)] 111 (0, 0))] ++ [(b1, Obj.cells #[.slice (some ⟨g4, 0, none⟩) 7 7] 78 (0, 0))] ∧ (∀ p : Nat × Obj, p ∈ ([(g4, .cells #[.int .u8 0, .int .u8 0, .int .u8 0, .int .u8 0, .int .u8 0, .int .u8 0, .int .u8 0] 143 (0, 0)), (g2, .cells #[.int .i64 ((M : Nat) : Int)] 3 (0, 0)), (g1, .cells #[.int .i64 ((b : Nat) : Int), .int .i64 ((r : Nat) : Int), .int .i64 ((t : Nat) : Int), .bool d, .int .u8 ((h : Nat) : Int)] 111 (0, 0))] : List (Nat × Obj)) → p.1 ≠ b1)) rfl Tw.kr Tw.kf (fun W hW => ((Backward_any (some ⟨g4, 0, none⟩) 7 7 W hW).mono fun e w' ⟨v, K9, h1, h2, b1, h3, h4, h5, _, _⟩ => ⟨v, K9, h1, h2, b1, h3, h4, h5⟩)) Tw.pf ?_
 rintro _ _ ⟨b6, rfl, rfl, hne6⟩
 refine wpL_done (fun W4 hW4 => ?_)
 refine (show Code.wpIn _ _ _ _ _ _ _ from ?_)
 refine wpIn_block ?_
 have hg43 : g2 ≠ g4 := Tw.nee
 have hK0 : KS (w : World) [(g4, .cells (([0, 0, 0, 0, 0, 0, 0] : List Nat).flatMap u8C).toArray 143 (0, 0)), (g2, .cells #[.int .i64 ((M : Nat) : Int)] 3 (0, 0))] W4 := hW4.sub (List.forall_mem_cons.2 ⟨Tw.m0, List.forall_mem_cons.2 ⟨Tw.m1, List.forall_mem_nil _⟩⟩)
 refine range_kg (α := Fin 7 × Nat) (ts := [143, 3]) (gf := 114) (lb := #[.pointer (some ⟨b6, 0, none⟩)]) Tw.kr (fun _ _ => by kernel_rfl) (encs := encB) (w : World) (Gd7 g4) (backward_stops w.heap.size b6 g4 W4 hW4.1.size (hW4.2 _ Tw.m3) (txi_gd (W0 := (w : Base)) (N := M) (g3 := g2) [] _ _ ⟨rfl, hg43⟩ hK0)) (Below.refl _ _) (fun _ => rfl) (TXI M g2 g4) (fun _ _ => False) txi_cells (fun _ _ h => h.elim) txi_gd ⟨rfl, hg43⟩ hK0 ?round ?done ?stop
 case round =>
   rintro L pre x K W ⟨rfl, _⟩ hK hlen
   have hxi := x.1.2
   obtain ⟨st, hst⟩ : ∃ st, st = stpA M (pre.map (·.1)) := ⟨_, rfl⟩
   rw [← hst] at hK
   have hsl : st.1.length = 7 := by rw [hst]; exact stpA_len _ _
   have hs2 : st.2 ≤ M := by rw [hst]; exact (stpA_lt _ _).2
   have hn : (w : Base).B ≤ W.heap.size := hK.size
   obtain ⟨Kr, hKr⟩ : ∃ Kr, Kr = restT [143, 3] W := ⟨_, rfl⟩
   have hS := at_start [143, 3] hn hK
   rw [← hKr] at hS
   have f1 : Dk g4 Kr := by rw [hKr]; exact restT_ne (hK.2 _ Tw.m0) rfl
   have f2 : Dk g2 Kr := by rw [hKr]; exact restT_ne (hK.2 _ Tw.m1) rfl
   generalize hF : Array.foldl _ _ _ _ _ = F
   obtain rfl : F = #[.agg #[.int .i64 ((b : Nat) : Int), .int .i64 ((r : Nat) : Int), .int .i64 ((t : Nat) : Int), .bool d, .int .u8 ((h : Nat) : Int)], .pointer (some ⟨g1, 0, none⟩), strV [], .pointer (some ⟨g2, 0, none⟩), .pointer (some ⟨g4, 0, none⟩), undef, .pointer (some ⟨g1, 0, none⟩), .int .i64 ((b : Nat) : Int), .int .i64 (((4 * b) : Nat) : Int), .pointer (some ⟨g1, 4, none⟩), .int .u8 ((h : Nat) : Int), .pointer (some ⟨0, 0 + h * 1, none⟩), .int .i64 (((codeN h) : Nat) : Int), .int .i64 ((((4 * b) + (codeN h)) : Nat) : Int), .int .i64 (((((4 * b) + (codeN h)) * 10000) : Nat) : Int), .pointer (some ⟨g1, 1, none⟩), .int .i64 ((r : Nat) : Int), .int .i64 (((r * 100) : Nat) : Int), .int .i64 ((((((4 * b) + (codeN h)) * 10000) + (r * 100)) : Nat) : Int), .pointer (some ⟨g1, 2, none⟩), .int .i64 ((t : Nat) : Int), .pointer (some ⟨g1, 3, none⟩), .bool d, .int .i64 (((tierN t d) : Nat) : Int), .int .i64 ((M : Nat) : Int), .slice (some ⟨g4, 0, none⟩) 7 7, .func (.func 114) #[] #[.pointer (some ⟨b6, 0, none⟩)], .int .i64 ((x.1.1 : Nat) : Int), .int .u8 ((x.2 : Nat) : Int), undef, undef, undef, undef, undef, undef, undef, undef, undef, undef] := hF.symm.trans Tw.kr
   clear hF
   have hgB4 : w.heap.size ≤ g4 := by assumption
   have hgB3 : w.heap.size ≤ g2 := by assumption
   refine wp_region_LI (W0 := (atB (w : Base) W hn)) ((g4, .cells (st.1.flatMap u8C).toArray 143 (0, 0)) :: (g2, .cells #[.int .i64 ((st.2 : Nat) : Int)] 3 (0, 0)) :: Kr) Tw.kr (hS) ?_
   refine lm (v := .int .i64 ((x.1.1 : Nat) : Int)) rfl rfl ?_
   refine wpL_done (fun W5 hW5 => ?_)
   refine (show (KpA [143, 3] W W5 ∧ Below (w : Base).B W W5 ∧ ∃ K2, (∀ p ∈ K2, p.2.isCells = true) ∧ KS (w : Base) K2 W5 ∧ ∀ W3, KS (w : Base) K2 W3 → _) from ?_)
   refine ⟨at_kp hW5 (fun p hp => by rw [← hKr] at hp; simp only [List.mem_cons, List.mem_append, hp, or_true]), hW5.1, [(g4, .cells (st.1.flatMap u8C).toArray 143 (0, 0)), (g2, .cells #[.int .i64 ((st.2 : Nat) : Int)] 3 (0, 0))], List.forall_mem_cons.2 ⟨rfl, List.forall_mem_cons.2 ⟨rfl, List.forall_mem_nil _⟩⟩, (at_back hK hW5).sub (fun p hp => by simp only [List.mem_cons, List.mem_append, List.not_mem_nil, or_false] at hp ⊢; grind), fun V3 hV3 => ?_⟩
   have hn3 : (w : Base).B ≤ V3.heap.size := hV3.size
   obtain ⟨Kq, hKq⟩ : ∃ Kq, Kq = restT [143, 3] V3 := ⟨_, rfl⟩
   have hS3 := at_start [143, 3] hn3 hV3
   rw [← hKq] at hS3
   have f3 : Dk g4 Kq := by rw [hKq]; exact restT_ne (hV3.2 _ Tw.m0) rfl
   have f4 : Dk g2 Kq := by rw [hKq]; exact restT_ne (hV3.2 _ Tw.m1) rfl
   refine wpIn_block ?_
   refine wpIn_seq ?_
   refine wp_region_LI (W0 := (atB (w : Base) V3 hn3)) ((g4, .cells (st.1.flatMap u8C).toArray 143 (0, 0)) :: (g2, .cells #[.int .i64 ((st.2 : Nat) : Int)] 3 (0, 0)) :: Kq) Tw.kr (hS3) ?_
   refine lm (v := .int .i64 ((x.1.1 : Nat) : Int)) rfl rfl ?_
   refine lv (v := .int .i64 ((st.2 : Nat) : Int)) rfl rfl (yb_cell (off := 0) rfl Tw.kr Tw.m1 Tryd.underlying3 rfl Tw.kr) ?_
   refine lp (v := .int .i64 (((st.2 % 10) : Nat) : Int)) rfl rfl (run_bin rfl (vx := (.int .i64 ((st.2 : Nat) : Int))) (vy := (.int .i64 ((10 : Nat) : Int))) Tw.kr Tw.kr fun w => bn_rem (z := (st.2 % 10)) rfl Tw.om w) ?_
   refine lp (v := .int .u8 (((st.2 % 10) : Nat) : Int)) rfl rfl (run_conv rfl (vx := (.int .i64 (((st.2 % 10) : Nat) : Int))) Tw.kr fun w => cv_int Tryd.underlying3 Tryd.underlying5 (wr_u8 Tw.om) w) ?_
   refine lp (v := .int .u8 (((48 + (st.2 % 10)) : Nat) : Int)) rfl rfl (run_bin rfl (vx := (.int .u8 ((48 : Nat) : Int))) (vy := (.int .u8 (((st.2 % 10) : Nat) : Int))) Tw.kr Tw.kr fun w => bn_add (z := (48 + (st.2 % 10))) rfl (wr_u8 Tw.om) w) ?_
   refine lp (v := .pointer (some ⟨g4, 0 + x.1.1 * 1, none⟩)) rfl rfl (run_idxA (j := .i64) (b := g4) (off := 0) (k := x.1.1) (sz := 1) rfl Tryd.underlying143 Tw.kr Tw.kr Tw.kr Tw.om) ?_
   refine wpL_s ((g4, .cells ((st.1.flatMap u8C).toArray.setIfInBounds (0 + x.1.1 * 1) (.int .u8 (((48 + (st.2 % 10)) : Nat) : Int))) 143 (0, 0)) :: (g2, .cells #[.int .i64 ((st.2 : Nat) : Int)] 3 (0, 0)) :: Kq) rfl rfl (st_at (off := 0 + x.1.1 * 1) (v := .int .u8 (((48 + (st.2 % 10)) : Nat) : Int)) rfl Tw.kr Tw.kr Tw.m0 (show w.heap.size ≤ _ from hgB4) Tw.kr rfl rfl (by rw [List.size_toArray, flat_len' u8C_len]; omega) (.inr rfl) (List.forall_mem_cons.2 ⟨.inl rfl, (List.forall_mem_cons.2 ⟨.inr ⟨Tw.m1, Tw.nee⟩, (fun p hp => .inr ⟨(.tail _ (.tail _ hp)), ((show Dk g4 Kq from Tw.djt) _ hp)⟩)⟩)⟩)) ?_
   refine wpL_done (fun W6 hW6 => ?_)
   refine (show Code.wpIn _ _ _ _ _ _ _ from ?_)
   refine wp_region_LI (W0 := (atB (w : Base) V3 hn3)) ((g4, .cells ((st.1.flatMap u8C).toArray.setIfInBounds (0 + x.1.1 * 1) (.int .u8 (((48 + (st.2 % 10)) : Nat) : Int))) 143 (0, 0)) :: (g2, .cells #[.int .i64 ((st.2 : Nat) : Int)] 3 (0, 0)) :: Kq) Tw.kr (hW6) ?_
   refine lv (v := .int .i64 ((st.2 : Nat) : Int)) rfl rfl (yb_cell (off := 0) rfl Tw.kr Tw.m1 Tryd.underlying3 rfl Tw.kr) ?_
   refine lp (v := .int .i64 (((st.2 / 10) : Nat) : Int)) rfl rfl (run_bin rfl (vx := (.int .i64 ((st.2 : Nat) : Int))) (vy := (.int .i64 ((10 : Nat) : Int))) Tw.kr Tw.kr fun w => bn_quo (z := (st.2 / 10)) rfl Tw.om (wr_i64 Tw.om) w) ?_
   refine wpL_s ((g4, .cells ((st.1.flatMap u8C).toArray.setIfInBounds (0 + x.1.1 * 1) (.int .u8 (((48 + (st.2 % 10)) : Nat) : Int))) 143 (0, 0)) :: (g2, .cells #[.int .i64 (((st.2 / 10) : Nat) : Int)] 3 (0, 0)) :: Kq) rfl rfl (st_row (off := 0) (v := .int .i64 (((st.2 / 10) : Nat) : Int)) rfl Tw.kr Tw.kr Tw.m1 (show w.heap.size ≤ _ from hgB3) Tw.kr (by first | (simp [Value.cells]; done) | exact Nat.le_of_ble_eq_true rfl) (by intro v hv; simp [Value.cells] at hv; first | (subst hv; rfl) | (rcases hv with rfl <;> rfl)) Tw.kr (List.forall_mem_cons.2 ⟨.inr ⟨Tw.m0, Tw.nee⟩, (List.forall_mem_cons.2 ⟨.inl rfl, (fun p hp => .inr ⟨(.tail _ (.tail _ hp)), ((show Dk g2 Kq from Tw.djt) _ hp)⟩)⟩)⟩)) ?_
   refine wpL_done (fun W7 hW7 => ?_)
   refine (show (KpA [143, 3] V3 W7 ∧ Below (w : Base).B V3 W7 ∧ ∃ K, TXI M g2 g4 (pre ++ [x]) K ∧ KS (w : Base) K W7) from ?_)
   refine ⟨at_kp hW7 (fun p hp => by rw [← hKq] at hp; simp only [List.mem_cons, List.mem_append, hp, or_true, true_or]), hW7.1, [(g4, .cells ((st.1.flatMap u8C).toArray.setIfInBounds (0 + x.1.1 * 1) (.int .u8 (((48 + (st.2 % 10)) : Nat) : Int))) 143 (0, 0)), (g2, .cells #[.int .i64 (((st.2 / 10) : Nat) : Int)] 3 (0, 0))], ⟨?_, hg43⟩, (at_back hV3 hW7).sub (fun p hp => by simp only [List.mem_cons, List.mem_append, List.not_mem_nil, or_false] at hp ⊢; grind)⟩
   rw [List.map_append, List.map_cons, List.map_nil, stpA_snoc, ← hst, u8_set Tw.om]
   rfl
 case stop =>
   rintro D pre K W _ hf
   exact hf.elim
 case done =>
   rintro D ys K W hys ⟨rfl, _⟩ hK hD
   rw [hys, stp_all] at hK
   refine (show Code.wpIn _ _ _ _ _ _ _ from ?_)
   refine wpIn_seq ?_
   refine wp_region_LI (W0 := (w : World)) [(D, .deferred (some [])), (g4, .cells ([(48 + M / 1000000 % 10), (48 + M / 100000 % 10), (48 + M / 10000 % 10), (48 + M / 1000 % 10), (48 + M / 100 % 10), (48 + M / 10 % 10), (48 + M % 10)].flatMap u8C).toArray 143 (0, 0)), (g2, .cells #[.int .i64 (((stpA M allI).2 : Nat) : Int)] 3 (0, 0))] Tw.kr (hK) ?_
   refine lp (v := .slice (some ⟨g4, 0, none⟩) 7 7) rfl rfl (run_slA (n := 7) (sz := 1) rfl Tryd.underlying143 Tw.kr Tw.kr Tw.kr Tw.kr) ?_
   refine lv (v := strV [UInt8.ofNat (48 + M / 1000000 % 10), UInt8.ofNat (48 + M / 100000 % 10), UInt8.ofNat (48 + M / 10000 % 10), UInt8.ofNat (48 + M / 1000 % 10), UInt8.ofNat (48 + M / 100 % 10), UInt8.ofNat (48 + M / 10 % 10), UInt8.ofNat (48 + M % 10)]) rfl rfl (yb_str (n := 7) (cap := 7) (l := [UInt8.ofNat (48 + M / 1000000 % 10), UInt8.ofNat (48 + M / 100000 % 10), UInt8.ofNat (48 + M / 10000 % 10), UInt8.ofNat (48 + M / 1000 % 10), UInt8.ofNat (48 + M / 100 % 10), UInt8.ofNat (48 + M / 10 % 10), UInt8.ofNat (48 + M % 10)]) rfl Tryd.underlying78 Tryd.underlying5 Tryd.underlying9 Tw.kr rfl Tw.m1 (row_dg (M := M))) ?_
   refine lm (v := strV [UInt8.ofNat (48 + M / 1000000 % 10), UInt8.ofNat (48 + M / 100000 % 10), UInt8.ofNat (48 + M / 10000 % 10), UInt8.ofNat (48 + M / 1000 % 10), UInt8.ofNat (48 + M / 100 % 10), UInt8.ofNat (48 + M / 10 % 10), UInt8.ofNat (48 + M % 10)]) rfl rfl ?_
   refine wpL_done (fun W8 hW8 => ?_)
   refine (show Code.wpIn _ _ _ _ _ _ _ from ?_)
   refine wpIn_ret ?_
   try simp only [inBlock_ret, then_ret]
   have hD4 := hW8.2 (D, _) Tw.m0
   refine ⟨by simp, .inl ⟨_, _, rfl, run_takeDeferred hD4, ?_⟩⟩
   exact ⟨strV [UInt8.ofNat (48 + M / 1000000 % 10), UInt8.ofNat (48 + M / 100000 % 10), UInt8.ofNat (48 + M / 10000 % 10), UInt8.ofNat (48 + M / 1000 % 10), UInt8.ofNat (48 + M / 100 % 10), UInt8.ofNat (48 + M / 10 % 10), UInt8.ofNat (48 + M % 10)], Tw.kr, (str_is (by rfl)), hW8.1.trans (below_put _ (Nat.le_trans hW4.1.size hD))⟩
end Go.Proofs.YtlinjngifacmoaaDoor
