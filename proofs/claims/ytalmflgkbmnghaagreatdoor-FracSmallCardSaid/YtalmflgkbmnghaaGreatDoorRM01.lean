import Derived.Test.YtalmflgkbmnghaaGreatDoorRM00
import Derived.ChangeKeysEq
import Derived.Laws.StructEq
import Derived.Lib.Repeat
import Derived.Lib.ItoaNum
import Derived.Deep.Cut
import Derived.Deep.RegionLaw
import Derived.Deep.QuietTactic
import Derived.RegionTactic
import Derived.WalkKit
import Derived.Lib.LaidTab
import Derived.Lib.IndexMore
import Derived.Lib.Strings
import Derived.WalkSpells
import Derived.Outline
/- Part of the proof: Rv, Wl, Fs, Eq, Ef, An, Ak, Dm, Ev, Ew, Wn, Ds, Tx, Tm, St, Gu, Sl, FSr, Hz. -/
set_option linter.unusedVariables false
set_option linter.unusedSimpArgs false
set_option linter.unusedSectionVars false
/- The law of regions over known blocks (Rg, Yb) once more, for values of new blocks other than pointers (slices of parts). Nothing of the program. -/
namespace Tf
open Go Go.RowKit Go.Proofs.YtalmflgkbmnghaaGreatDoor
section
variable {P : Program} {ops : Array Oper} {Q : Exit → Act → World → Prop} {md : Region.Mode} {W0 : World}
def AV (P : Program) (ops : Array Oper) (o : Oper) (obj : Obj) (mk : Nat → Value) (a : Act) : Prop :=
 Region.wanted o (yielded ops a.tmps) = true ∧ ∀ w, (execOp a.eval o).run P w = .ok (.value (mk w.heap.size)) (w.alloc obj)

theorem AV.of_same {o : Oper} {obj : Obj} {mk : Nat → Value} {a a' : Act} (hy : AV P ops o obj mk a) (he : execOp a'.eval o = execOp a.eval o)
   (hw : Region.wanted o (yielded ops a'.tmps) = Region.wanted o (yielded ops a.tmps)) : AV P ops o obj mk a' := by
 unfold AV at *
 rw [he, hw]
 exact hy

def wpV (P : Program) (md : Region.Mode) (ops : Array Oper) (Q : Exit → Act → World → Prop) (W0 : World) : Nat → Array Bool → Act → List (Nat × Obj) → Prop
 | 0, listed, a, K => Region.ready md ops listed = [] ∧ ∀ w, KS W0 K w → Q .normal a w
 | n + 1, listed, a, K =>
   (Region.ready md ops listed = [] → ∀ w, KS W0 K w → Q .normal a w) ∧
   ∀ i ∈ Region.ready md ops listed, ∃ o, ops[i]? = some o ∧
     ((∃ v, YB P ops W0 K o v a ∧ wpV P md ops Q W0 n (listed.setIfInBounds i true) (a.put o.dst v) K) ∨
      (∃ obj, ∃ mk : Nat → Value, AV P ops o obj mk a ∧ ∀ g, W0.heap.size ≤ g → (∀ p ∈ K, p.1 ≠ g) → wpV P md ops Q W0 n (listed.setIfInBounds i true) (a.put o.dst (mk g)) ((g, obj) :: K)) ∨
      (isStore o = true ∧ ∃ K', ST P ops W0 K K' o a ∧ wpV P md ops Q W0 n (listed.setIfInBounds i true) (a.put o.dst undef) K'))

theorem wpV_sound : ∀ (n : Nat) (listed : Array Bool) (a : Act) (K : List (Nat × Obj)), wpV P md ops Q W0 n listed a K → ∀ w, KS W0 K w → wpAny P md ops Q n listed a w
 | 0, _, _, _, h, w, hw => ⟨h.1, h.2 w hw⟩
 | n + 1, listed, a, K, h, w, hw => by
   refine ⟨fun hr => h.1 hr w hw, fun i hi => ?_⟩
   obtain ⟨o, ho, hc⟩ := h.2 i hi
   refine wpOp_step ho fun K' hK' => ?_
   rcases hc with ⟨v, hy, hu⟩ | ⟨obj, mk, hal, hu⟩ | ⟨_, K2, hst, hu⟩
   · rcases hy with ⟨hwn, hto⟩ | ⟨hwn, rfl⟩
     · rw [if_pos hwn]
       exact (hto w hw).wp fun u w' ⟨hu', hb⟩ => by subst hu'; exact hK' _ _ (wpV_sound n _ _ _ hu w' (hw.below hb))
     · rw [if_neg (by rw [hwn]; decide)]
       exact hK' _ _ (wpV_sound n _ _ _ hu w hw)
   · rw [if_pos hal.1]
     unfold Oper.wp
     rw [hal.2 w]
     refine hK' _ _ (wpV_sound n _ _ _ (hu w.heap.size hw.1.size (fun p hp e => ?_)) _ (hw.alloc obj))
     have := lt_of_block (hw.2 p hp)
     omega
   · rw [if_pos hst.1]
     obtain ⟨w', hrun, hw'⟩ := hst.2 w hw
     unfold Oper.wp
     rw [hrun]
     exact hK' _ _ (wpV_sound n _ _ _ hu w' hw')


theorem wpV_first {i : Nat} {oi : Oper} {v : Value} (hi : ops[i]? = some oi) (hsel : ∀ (j : Nat) (o : Oper) cs b, ops[j]? = some o → o.op ≠ .select cs b) :
   ∀ (n : Nat) (listed : Array Bool) (a : Act) (K : List (Nat × Obj)), closed md ops listed →
     (∀ j oj, ops[j]? = some oj → j ≠ i → listed.getD j true = false → (∀ e ∈ oj.after, Region.binds md e = true → e.on ≠ i) → oi.apart ops oj = true) →
     i ∈ Region.ready md ops listed → ((∀ K', YB P ops W0 K' oi v a) ∨ (YB P ops W0 K oi v a ∧ ∀ j o, ops[j]? = some o → isStore o = true → ∃ m, waits md ops m j i = true)) →
     wpV P md ops Q W0 n (listed.setIfInBounds i true) (a.put oi.dst v) K → wpV P md ops Q W0 (n + 1) listed a K := by
 intro n
 induction n with
 | zero =>
   intro listed a K _ _ hr hy H
   refine ⟨fun h => (by rw [h] at hr; cases hr), fun j hj => ?_⟩
   by_cases hji : j = i
   · subst hji
     exact ⟨oi, hi, .inl ⟨v, hy.elim (fun h => h K) (fun h => h.1), H⟩⟩
   · have := ready_mono hj hji
     rw [H.1] at this
     cases this
 | succ n ih =>
   intro listed a K hcl hfree hr hy H
   refine ⟨fun h => (by rw [h] at hr; cases hr), fun j hj => ?_⟩
   by_cases hji : j = i
   · subst hji
     exact ⟨oi, hi, .inl ⟨v, hy.elim (fun h => h K) (fun h => h.1), H⟩⟩
   · obtain ⟨oj, hoj, hc⟩ := H.2 j (ready_mono hj hji)
     obtain ⟨hjun, oj', hoj', hall⟩ := mem_ready.1 hj
     rw [hoj] at hoj'
     cases hoj'
     have hiun := (mem_ready.1 hr).1
     have hnot : ∀ e ∈ oj.after, Region.binds md e = true → e.on ≠ i := fun e he hb heq => by
       have h1 := hall e he hb
       rw [heq, unlisted_false hiun] at h1
       cases h1
     have hap := hfree j oj hoj hji hjun hnot
     obtain ⟨h1, h2, h3⟩ := Oper.apart_spec hap
     have hfree' : ∀ k ok, ops[k]? = some ok → k ≠ i → (listed.setIfInBounds j true).getD k true = false →
         (∀ e ∈ ok.after, Region.binds md e = true → e.on ≠ i) → oi.apart ops ok = true := fun k ok hk hki hun hno => by
       refine hfree k ok hk hki ?_ hno
       by_cases hjk : j = k
       · subst hjk; exact hjun
       · rw [getD_set_ne true hjk] at hun; exact hun
     have hsi : ∀ cs b, oi.op ≠ .select cs b := fun cs b => hsel i oi cs b hi
     have hsj : ∀ cs b, oj.op ≠ .select cs b := fun cs b => hsel j oj cs b hoj
     have keep : ∀ K' u, YB P ops W0 K' oi v a → YB P ops W0 K' oi v (a.put oj.dst u) := fun K' u h => h.of_same (execOp_put oi hsi a oj.dst u h3) (wanted_put oi a oj.dst u h3)
     have eqe : execOp (a.put oi.dst v).eval oj = execOp a.eval oj := execOp_put oj hsj a oi.dst v h1
     have eqw : Region.wanted oj (yielded ops (a.put oi.dst v).tmps) = Region.wanted oj (yielded ops a.tmps) := wanted_put oj a oi.dst v h1
     refine ⟨oj, hoj, ?_⟩
     rcases hc with ⟨u, hyj, hu⟩ | ⟨obj, mk, hal, hu⟩ | ⟨hs, K2, hst2, hu⟩
     · refine .inl ⟨u, hyj.of_same eqe.symm eqw.symm, ih _ _ _ (closed_set hcl hj) hfree' (ready_mono hr (Ne.symm hji)) (hy.imp (fun h K' => keep K' u (h K')) (fun h => ⟨keep K u h.1, h.2⟩)) ?_⟩
       rw [Array.setIfInBounds_comm _ _ hji, ← Act.put_comm a v u h2]
       exact hu
     · refine .inr (.inl ⟨obj, mk, hal.of_same eqe.symm eqw.symm, fun g hg hgk => ih _ _ _ (closed_set hcl hj) hfree' (ready_mono hr (Ne.symm hji)) (hy.imp (fun h K' => keep K' _ (h K')) (fun h => ⟨(keep K _ h.1).more, h.2⟩)) ?_⟩)
       rw [Array.setIfInBounds_comm _ _ hji, ← Act.put_comm a v _ h2]
       exact hu g hg hgk
     · rcases hy with hy | ⟨hy, hwait⟩
       · refine .inr (.inr ⟨hs, K2, ⟨by rw [← eqw]; exact hst2.1, fun w hw => by rw [← eqe]; exact hst2.2 w hw⟩, ih _ _ _ (closed_set hcl hj) hfree' (ready_mono hr (Ne.symm hji)) (.inl fun K' => keep K' _ (hy K')) ?_⟩)
         rw [Array.setIfInBounds_comm _ _ hji, ← Act.put_comm a v _ h2]
         exact hu
       · obtain ⟨m, hm⟩ := hwait j oj hoj hs
         exact (not_waits hcl (unlisted_false hiun) m j oj hoj hm hall).elim


theorem wpV_val {i : Nat} {oi : Oper} {v : Value} {d n : Nat} {listed : Array Bool} {a : Act} {K : List (Nat × Obj)} (hi : ops[i]? = some oi) (hd : oi.dst = some d) (hlt : Nat.blt d a.tmps.size = true)
   (hf : freeAll md ops listed i = true) (hw : Region.wanted oi (yielded ops a.tmps) = true)
   (hy : ∀ w, KS W0 K w → ∀ K' : Act → World → Prop, (∀ w', Below w.heap.size w w' → K' (a.put oi.dst v) w') → Oper.wp P oi a w K' (fun _ _ _ => False))
   (h : wpV P md ops Q W0 n (listed.setIfInBounds i true) (a.put oi.dst v) K) : wpV P md ops Q W0 (n + 1) listed a K := by
 unfold freeAll at hf
 simp only [Bool.and_eq_true] at hf
 obtain ⟨h1, h2, h3, h4, h5⟩ := hf
 exact wpV_first hi (Region.noSelect_spec h1) n listed a K (closed_of h4) (Region.free_spec hi h2) (by simpa using h3)
   (.inr ⟨.inl ⟨hw, fun w hk => Oto.of_wp hd (Nat.le_of_ble_eq_true hlt) (hy w hk)⟩, storesWait_spec h5⟩) h
theorem wpV_not {i : Nat} {oi : Oper} {n : Nat} {listed : Array Bool} {a : Act} {K : List (Nat × Obj)} (hi : ops[i]? = some oi)
   (hf : freeAll md ops listed i = true) (hw : Region.wanted oi (yielded ops a.tmps) = false)
   (h : wpV P md ops Q W0 n (listed.setIfInBounds i true) (a.put oi.dst undef) K) : wpV P md ops Q W0 (n + 1) listed a K := by
 unfold freeAll at hf
 simp only [Bool.and_eq_true] at hf
 obtain ⟨h1, h2, h3, h4, h5⟩ := hf
 exact wpV_first hi (Region.noSelect_spec h1) n listed a K (closed_of h4) (Region.free_spec hi h2) (by simpa using h3)
   (.inl fun _ => .inr ⟨hw, rfl⟩) h
theorem wpV_alloc {i : Nat} {oi : Oper} {obj : Obj} (mk : Nat → Value) {n : Nat} {listed : Array Bool} {a : Act} {K : List (Nat × Obj)} (hi : ops[i]? = some oi) (hr : Region.ready md ops listed = [i])
   (hw : Region.wanted oi (yielded ops a.tmps) = true) (hal : ∀ w, (execOp a.eval oi).run P w = .ok (.value (mk w.heap.size)) (w.alloc obj))
   (h : ∀ g, W0.heap.size ≤ g → (∀ p ∈ K, p.1 ≠ g) → wpV P md ops Q W0 n (listed.setIfInBounds i true) (a.put oi.dst (mk g)) ((g, obj) :: K)) : wpV P md ops Q W0 (n + 1) listed a K :=
 ⟨fun h0 => (by rw [hr] at h0; cases h0), fun j hj => by
   rw [hr] at hj
   cases List.mem_singleton.1 hj
   exact ⟨oi, hi, .inr (.inl ⟨obj, mk, ⟨hw, hal⟩, h⟩)⟩⟩
theorem wpV_store {i : Nat} {oi : Oper} {n : Nat} {listed : Array Bool} {a : Act} {K K' : List (Nat × Obj)} (hi : ops[i]? = some oi) (hr : Region.ready md ops listed = [i])
   (hs : isStore oi = true) (hw : Region.wanted oi (yielded ops a.tmps) = true) (hst : ∀ w, KS W0 K w → ∃ w', (execOp a.eval oi).run P w = .ok .skip w' ∧ KS W0 K' w')
   (h : wpV P md ops Q W0 n (listed.setIfInBounds i true) (a.put oi.dst undef) K') : wpV P md ops Q W0 (n + 1) listed a K :=
 ⟨fun h0 => (by rw [hr] at h0; cases h0), fun j hj => by
   rw [hr] at hj
   cases List.mem_singleton.1 hj
   exact ⟨oi, hi, .inr (.inr ⟨hs, K', ⟨hw, hst⟩, h⟩)⟩⟩
def StepV (P : Program) (md : Region.Mode) (ops : Array Oper) (Q : Exit → Act → World → Prop) (W0 : World) (n : Nat) (listed : Array Bool) (a : Act) (K : List (Nat × Obj)) (i : Nat) : Prop :=
 ∃ o, ops[i]? = some o ∧
     ((∃ v, YB P ops W0 K o v a ∧ wpV P md ops Q W0 n (listed.setIfInBounds i true) (a.put o.dst v) K) ∨
      (∃ obj, ∃ mk : Nat → Value, AV P ops o obj mk a ∧ ∀ g, W0.heap.size ≤ g → (∀ p ∈ K, p.1 ≠ g) → wpV P md ops Q W0 n (listed.setIfInBounds i true) (a.put o.dst (mk g)) ((g, obj) :: K)) ∨
      (isStore o = true ∧ ∃ K', ST P ops W0 K K' o a ∧ wpV P md ops Q W0 n (listed.setIfInBounds i true) (a.put o.dst undef) K'))
theorem stepV_val {i : Nat} {oi : Oper} {v : Value} {d n : Nat} {listed : Array Bool} {a : Act} {K : List (Nat × Obj)} (hi : ops[i]? = some oi) (hd : oi.dst = some d) (hlt : Nat.blt d a.tmps.size = true)
   (hw : Region.wanted oi (yielded ops a.tmps) = true)
   (hy : ∀ w, KS W0 K w → ∀ K' : Act → World → Prop, (∀ w', Below w.heap.size w w' → K' (a.put oi.dst v) w') → Oper.wp P oi a w K' (fun _ _ _ => False))
   (h : wpV P md ops Q W0 n (listed.setIfInBounds i true) (a.put oi.dst v) K) : StepV P md ops Q W0 n listed a K i :=
 ⟨oi, hi, .inl ⟨v, .inl ⟨hw, fun w hk => Oto.of_wp hd (Nat.le_of_ble_eq_true hlt) (hy w hk)⟩, h⟩⟩
theorem stepV_store {i : Nat} {oi : Oper} {n : Nat} {listed : Array Bool} {a : Act} {K K' : List (Nat × Obj)} (hi : ops[i]? = some oi)
   (hs : isStore oi = true) (hw : Region.wanted oi (yielded ops a.tmps) = true) (hst : ∀ w, KS W0 K w → ∃ w', (execOp a.eval oi).run P w = .ok .skip w' ∧ KS W0 K' w')
   (h : wpV P md ops Q W0 n (listed.setIfInBounds i true) (a.put oi.dst undef) K') : StepV P md ops Q W0 n listed a K i :=
 ⟨oi, hi, .inr (.inr ⟨hs, K', ⟨hw, hst⟩, h⟩)⟩
theorem stepV_alloc {i : Nat} {oi : Oper} {obj : Obj} (mk : Nat → Value) {n : Nat} {listed : Array Bool} {a : Act} {K : List (Nat × Obj)} (hi : ops[i]? = some oi)
   (hw : Region.wanted oi (yielded ops a.tmps) = true) (hal : ∀ w, (execOp a.eval oi).run P w = .ok (.value (mk w.heap.size)) (w.alloc obj))
   (h : ∀ g, W0.heap.size ≤ g → (∀ p ∈ K, p.1 ≠ g) → wpV P md ops Q W0 n (listed.setIfInBounds i true) (a.put oi.dst (mk g)) ((g, obj) :: K)) : StepV P md ops Q W0 n listed a K i :=
 ⟨oi, hi, .inr (.inl ⟨obj, mk, ⟨hw, hal⟩, h⟩)⟩
theorem wpV_2 {i j n : Nat} {listed : Array Bool} {a : Act} {K : List (Nat × Obj)} (hr : Region.ready md ops listed = [i, j]) (h : StepV P md ops Q W0 n listed a K i) (h' : StepV P md ops Q W0 n listed a K j) : wpV P md ops Q W0 (n + 1) listed a K :=
 ⟨fun h0 => (by rw [hr] at h0; cases h0), fun k hk => by
   rw [hr] at hk
   rcases List.mem_cons.1 hk with rfl | hk
   · exact h
   · cases List.mem_singleton.1 hk
     exact h'⟩
theorem wpV_done {listed : Array Bool} {a : Act} {K : List (Nat × Obj)} (hr : Region.ready md ops listed = []) (h : ∀ w, KS W0 K w → Q .normal a w) : ∀ n, wpV P md ops Q W0 n listed a K
 | 0 => ⟨hr, h⟩
 | _ + 1 => ⟨fun _ => h, by rw [hr]; simp⟩
theorem wp_region_V {id : Nat} {a : Act} {w : World} (K : List (Nat × Obj)) (hm : P.follows .mixedOrders = true) (hK : KS W0 K w)
   (h : wpV P .any ops Q W0 ops.size (Array.replicate ops.size false) a K) : (Code.region id ops true).wp P Q a w :=
 wp_region_any hm (wpV_sound _ _ _ _ h _ hK.drew)

theorem wpV_v {md : Region.Mode} {ops : Array Oper} {Q : Exit → Act → World → Prop} {i : Nat} {oi : Oper} {v : Value} {d n : Nat} {listed : Array Bool} {tm : Array Value} {df : List Deferred} {K : List (Nat × Obj)} (hi : ops[i]? = some oi) (hd : oi.dst = some d) (hlt : Nat.blt d tm.size = true)
   (hf : freeAll md ops listed i = true) (hw : Region.wanted oi (yielded ops tm) = true)
   (hy : ∀ w, KS W0 K w → ∀ K' : Act → World → Prop, (∀ w', Below w.heap.size w w' → K' (Act.put ⟨tm, df⟩ oi.dst v) w') → Oper.wp P oi ⟨tm, df⟩ w K' (fun _ _ _ => False))
   {T : Array Value} (hT : tm.setIfInBounds d v = T)
   (h : wpV P md ops Q W0 n (listed.setIfInBounds i true) ⟨T, df⟩ K) : wpV P md ops Q W0 (n + 1) listed ⟨tm, df⟩ K := by
 refine wpV_val hi hd hlt hf hw hy ?_
 rw [hd]
 subst hT
 exact h
theorem wpV_s {i : Nat} {oi : Oper} {n : Nat} {listed : Array Bool} {tm : Array Value} {df : List Deferred} {K : List (Nat × Obj)} (K' : List (Nat × Obj)) (hi : ops[i]? = some oi) (hr : Region.ready md ops listed = [i]) (hd : oi.dst = none) (hg : oi.guard = none)
   (hs : isStore oi = true) (hst : ∀ w, KS W0 K w → ∃ w', (execOp (Act.eval ⟨tm, df⟩) oi).run P w = .ok .skip w' ∧ KS W0 K' w')
   (h : wpV P md ops Q W0 n (listed.setIfInBounds i true) ⟨tm, df⟩ K') : wpV P md ops Q W0 (n + 1) listed ⟨tm, df⟩ K := by
 refine wpV_store hi hr hs (wanted_noY hg) hst ?_
 rw [hd]
 exact h
theorem wpV_p {i : Nat} {oi : Oper} {v : Value} {d n : Nat} {listed : Array Bool} {tm : Array Value} {df : List Deferred} {K : List (Nat × Obj)} (hi : ops[i]? = some oi) (hd : oi.dst = some d) (hlt : Nat.blt d tm.size = true)
   (hf : freePY md ops listed i = true) (hw : Region.wanted oi (yielded ops tm) = true)
   (hy : ∀ w, (execOp (Act.eval ⟨tm, df⟩) oi).run P w = .ok (.value v) w)
   {T : Array Value} (hT : tm.setIfInBounds d v = T)
   (h : wpV P md ops Q W0 n (listed.setIfInBounds i true) ⟨T, df⟩ K) : wpV P md ops Q W0 (n + 1) listed ⟨tm, df⟩ K := by
 unfold freePY at hf
 simp only [Bool.and_eq_true] at hf
 obtain ⟨h1, h2, h3, h4⟩ := hf
 refine wpV_first (v := v) hi (Region.noSelect_spec h1) n listed _ K (closed_of h4) (Region.free_spec hi h2) (by simpa using h3)
   (.inl fun K' => .inl ⟨hw, fun w hk => Oto.of_wp hd (Nat.le_of_ble_eq_true hlt) (yb_pure (K := K') hy w hk)⟩) ?_
 rw [hd]
 subst hT
 exact h
theorem stepV_v {i : Nat} {oi : Oper} {v : Value} {d n : Nat} {listed : Array Bool} {tm : Array Value} {df : List Deferred} {K : List (Nat × Obj)} (hi : ops[i]? = some oi) (hd : oi.dst = some d) (hlt : Nat.blt d tm.size = true) (hg : oi.guard = none)
   (hy : ∀ w, KS W0 K w → ∀ K' : Act → World → Prop, (∀ w', Below w.heap.size w w' → K' (Act.put ⟨tm, df⟩ oi.dst v) w') → Oper.wp P oi ⟨tm, df⟩ w K' (fun _ _ _ => False))
   {T : Array Value} (hT : tm.setIfInBounds d v = T)
   (h : wpV P md ops Q W0 n (listed.setIfInBounds i true) ⟨T, df⟩ K) : StepV P md ops Q W0 n listed ⟨tm, df⟩ K i := by
 refine stepV_val hi hd hlt (wanted_noY hg) hy ?_
 rw [hd]
 subst hT
 exact h
theorem stepV_s {i : Nat} {oi : Oper} {n : Nat} {listed : Array Bool} {tm : Array Value} {df : List Deferred} {K : List (Nat × Obj)} (K' : List (Nat × Obj)) (hi : ops[i]? = some oi) (hd : oi.dst = none) (hg : oi.guard = none)
   (hs : isStore oi = true) (hst : ∀ w, KS W0 K w → ∃ w', (execOp (Act.eval ⟨tm, df⟩) oi).run P w = .ok .skip w' ∧ KS W0 K' w')
   (h : wpV P md ops Q W0 n (listed.setIfInBounds i true) ⟨tm, df⟩ K') : StepV P md ops Q W0 n listed ⟨tm, df⟩ K i := by
 refine stepV_store hi hs (wanted_noY hg) hst ?_
 rw [hd]
 exact h
theorem wpV_n {i : Nat} {oi : Oper} {d n : Nat} {listed : Array Bool} {tm : Array Value} {df : List Deferred} {K : List (Nat × Obj)} (hi : ops[i]? = some oi) (hd : oi.dst = some d)
   (hf : freeAll md ops listed i = true) (hw : Region.wanted oi (yielded ops tm) = false)
   {T : Array Value} (hT : tm.setIfInBounds d undef = T)
   (h : wpV P md ops Q W0 n (listed.setIfInBounds i true) ⟨T, df⟩ K) : wpV P md ops Q W0 (n + 1) listed ⟨tm, df⟩ K := by
 refine wpV_not hi hf hw ?_
 rw [hd]
 subst hT
 exact h

theorem wpV_ns {i : Nat} {oi : Oper} {d : Nat} {obi : Obj} {n : Nat} {listed : Array Bool} {tm : Array Value} {df : List Deferred} {K : List (Nat × Obj)} {T : Nat → Array Value} (mk : Nat → Value)
   (hi : ops[i]? = some oi) (hdi : oi.dst = some d) (hgi : oi.guard = none)
   (hr : Region.ready md ops listed = [i])
   (hai : ∀ w, (execOp (Act.eval ⟨tm, df⟩) oi).run P w = .ok (.value (mk w.heap.size)) (w.alloc obi))
   (hT : ∀ g, (tm.setIfInBounds d (mk g)) = T g)
   (h : ∀ g, W0.heap.size ≤ g → (∀ p ∈ K, p.1 ≠ g) → wpV P md ops Q W0 n (listed.setIfInBounds i true) ⟨T g, df⟩ ((g, obi) :: K)) :
   wpV P md ops Q W0 (n + 1) listed ⟨tm, df⟩ K := by
 refine wpV_alloc mk hi hr (wanted_noY hgi) hai (fun g hg hf => ?_)
 rw [hdi]
 simp only [Act.put]
 rw [hT g]
 exact h g hg hf
end
end Tf
/- The law of regions over known blocks for statements that do not draw their order. Nothing of the program. -/
namespace Tf
open Go Go.RowKit Go.Proofs.YtalmflgkbmnghaaGreatDoor
section
variable {P : Program} {ops : Array Oper} {Q : Exit → Act → World → Prop} {W0 : World}
def wpL (P : Program) (ops : Array Oper) (Q : Exit → Act → World → Prop) (W0 : World) (rest : List Oper) (a : Act) (K : List (Nat × Obj)) : Prop := ∀ w, KS W0 K w → wpList P ops Q rest a w
theorem wp_region_L {id : Nat} {l : List Oper} {a : Act} {w : World} (K : List (Nat × Obj)) (hK : KS W0 K w) (h : wpL P l.toArray Q W0 l a K) : (Code.region id l.toArray false).wp P Q a w :=
 wp_region_lit (h w hK)
theorem wpL_v {rest : List Oper} {oi : Oper} {v : Value} {d : Nat} {tm : Array Value} {df : List Deferred} {K : List (Nat × Obj)} (hd : oi.dst = some d) (hlt : Nat.blt d tm.size = true) (hw : Region.wanted oi (yielded ops tm) = true)
   (hy : ∀ w, KS W0 K w → ∀ K' : Act → World → Prop, (∀ w', Below w.heap.size w w' → K' (Act.put ⟨tm, df⟩ oi.dst v) w') → Oper.wp P oi ⟨tm, df⟩ w K' (fun _ _ _ => False))
   {T : Array Value} (hT : tm.setIfInBounds d v = T) (h : wpL P ops Q W0 rest ⟨T, df⟩ K) : wpL P ops Q W0 (oi :: rest) ⟨tm, df⟩ K := by
 intro w hK
 refine wpList_step fun K' hK' => ?_
 rw [if_pos hw]
 exact (Oto.of_wp (a := ⟨tm, df⟩) hd (Nat.le_of_ble_eq_true hlt) (hy w hK)).wp fun u w' ⟨hu, hb⟩ => by
   subst hu
   refine hK' _ _ ?_
   rw [hd]
   subst hT
   exact h w' (hK.below hb)
theorem wpL_p {rest : List Oper} {oi : Oper} {v : Value} {d : Nat} {tm : Array Value} {df : List Deferred} {K : List (Nat × Obj)} (hd : oi.dst = some d) (hlt : Nat.blt d tm.size = true) (hw : Region.wanted oi (yielded ops tm) = true)
   (hy : ∀ w, (execOp (Act.eval ⟨tm, df⟩) oi).run P w = .ok (.value v) w)
   {T : Array Value} (hT : tm.setIfInBounds d v = T) (h : wpL P ops Q W0 rest ⟨T, df⟩ K) : wpL P ops Q W0 (oi :: rest) ⟨tm, df⟩ K :=
 wpL_v hd hlt hw (yb_pure hy) hT h
theorem wpL_n {rest : List Oper} {oi : Oper} {d : Nat} {tm : Array Value} {df : List Deferred} {K : List (Nat × Obj)} (hd : oi.dst = some d) (hw : Region.wanted oi (yielded ops tm) = false)
   {T : Array Value} (hT : tm.setIfInBounds d undef = T) (h : wpL P ops Q W0 rest ⟨T, df⟩ K) : wpL P ops Q W0 (oi :: rest) ⟨tm, df⟩ K := by
 intro w hK
 refine wpList_step fun K' hK' => ?_
 rw [if_neg (by rw [hw]; decide)]
 refine hK' _ _ ?_
 rw [hd]
 subst hT
 exact h w hK
theorem wpL_new {rest : List Oper} {oi : Oper} {d : Nat} {obi : Obj} {tm : Array Value} {df : List Deferred} {K : List (Nat × Obj)} {T : Nat → Array Value} (mk : Nat → Value)
   (hdi : oi.dst = some d) (hgi : oi.guard = none)
   (hai : ∀ w, (execOp (Act.eval ⟨tm, df⟩) oi).run P w = .ok (.value (mk w.heap.size)) (w.alloc obi))
   (hT : ∀ g, (tm.setIfInBounds d (mk g)) = T g)
   (h : ∀ g, W0.heap.size ≤ g → (∀ p ∈ K, p.1 ≠ g) → wpL P ops Q W0 rest ⟨T g, df⟩ ((g, obi) :: K)) : wpL P ops Q W0 (oi :: rest) ⟨tm, df⟩ K := by
 intro w hK
 refine wpList_step fun K' hK' => ?_
 rw [if_pos (wanted_noY hgi)]
 unfold Oper.wp
 rw [hai w]
 refine hK' _ _ ?_
 rw [hdi]
 simp only [Act.put]
 rw [hT w.heap.size]
 exact h w.heap.size hK.1.size (fun p hp => by have := lt_of_block (hK.2 p hp); omega) _ (hK.alloc obi)
theorem wpL_s {rest : List Oper} {oi : Oper} {tm : Array Value} {df : List Deferred} {K : List (Nat × Obj)} (K' : List (Nat × Obj)) (hd : oi.dst = none) (hg : oi.guard = none)
   (hst : ∀ w, KS W0 K w → ∃ w', (execOp (Act.eval ⟨tm, df⟩) oi).run P w = .ok .skip w' ∧ KS W0 K' w')
   (h : wpL P ops Q W0 rest ⟨tm, df⟩ K') : wpL P ops Q W0 (oi :: rest) ⟨tm, df⟩ K := by
 intro w hK
 obtain ⟨w', hrun, hw'⟩ := hst w hK
 refine wpList_step fun K2 hK2 => ?_
 rw [if_pos (wanted_noY hg)]
 unfold Oper.wp
 rw [hrun]
 refine hK2 _ _ ?_
 rw [hd]
 exact h w' hw'
theorem wpL_done {a : Act} {K : List (Nat × Obj)} (h : ∀ w, KS W0 K w → Q .normal a w) : wpL P ops Q W0 [] a K := fun w hK => wpList_nil (h w hK)
end
end Tf
namespace Go.Proofs.YtalmflgkbmnghaaGreatDoor
open Go.RowKit Tf

theorem dg_one (n : Nat) : dg n 1 = n / 4294967296 % 4294967296 := by
 have h := dg_div n 1 0
 rw [dg_zero, R_succ, R_zero, Nat.mul_one] at h
 exact h.symm
theorem fa_small (n : Nat) (hn : n < 18446744073709551616) : fa 8 (dg n) = #[.int .u32 ((n : Int) % 4294967296), .int .u32 ((n : Int) / 4294967296), .int .u32 0, .int .u32 0, .int .u32 0, .int .u32 0, .int .u32 0, .int .u32 0] := by
 have h0 : dg n 0 = n % 4294967296 := dg_zero n
 have h1 : dg n 1 = n / 4294967296 := by rw [dg_one, Nat.mod_eq_of_lt Tw.om]
 have hR : n < R 2 := by rw [R_succ, R_succ, R_zero]; omega
 have h2 : ∀ i, 2 ≤ i → dg n i = 0 := fun i hi => dg_of_lt' hR hi
 show #[Value.int .u32 (dg n 0 : Nat), .int .u32 (dg n 1 : Nat), .int .u32 (dg n 2 : Nat), .int .u32 (dg n 3 : Nat), .int .u32 (dg n 4 : Nat), .int .u32 (dg n 5 : Nat), .int .u32 (dg n 6 : Nat), .int .u32 (dg n 7 : Nat)] = _
 rw [h0, h1, h2 2 Tw.om, h2 3 Tw.om, h2 4 Tw.om, h2 5 Tw.om, h2 6 Tw.om, h2 7 Tw.om]
 rfl
set_option maxRecDepth 100000 in
set_option maxHeartbeats 400000 in
theorem fromSmall_any (n : Nat) (hn : n < 18446744073709551616) (w : World) :
   Calls Tryz.prog 77 #[.int .u64 n] w fun e w' => e = .returned (num n) ∧ Below w.heap.size w w' := by
 go_enter Tryz.func77, Tryz.ntmps77
 go_wp2
 obtain ⟨d, hu, hd⟩ := under25
 exact bodyPost_ret (res_cell rfl rfl (heap1 _ _) hu hd (by rw [size25]; rfl)) rfl ⟨by rw [num, fa_small n hn], below1 _ _⟩
end Go.Proofs.YtalmflgkbmnghaaGreatDoor
namespace Go.Proofs.YtalmflgkbmnghaaGreatDoor
open Go.RowKit Tf
theorem run_eqItems_fa {P : Program} {e : TypeId} (he : P.plainKey e = true) (hu : P.underlying e = some (.int .u32)) (d n : Nat) (f g : Nat → Nat) (w : World) : ∀ is : List Nat, (∀ i ∈ is, i < n) →
   (Op.eqItems (d + 1) e 1 (fa n f) (fa n g) is).run P w = .ok (is.all fun i => f i == g i) w
 | [], _ => by simp [Op.eqItems]
 | i :: is, h => by
   have hi := h i (by simp)
   have ih := run_eqItems_fa he hu d n f g w is (fun j hj => h j (List.mem_cons_of_mem _ hj))
   have p1 := run_part_plain w he (xs := fa n f) (off := i * 1) (by rw [Nat.mul_one]; exact fa_get _ hi)
   have p2 := run_part_plain w he (xs := fa n g) (off := i * 1) (by rw [Nat.mul_one]; exact fa_get _ hi)
   simp only [Op.eqItems, Sem.run_bind, p1, p2, Result.andThen_ok, run_equalIn_int w d e .u32 .u32 (f i) (g i) hu]
   rw [List.all_cons]
   rcases Nat.decEq (f i) (g i) with hne | heq
   · have h1 : (((f i : Nat) : Int) == ((g i : Nat) : Int)) = false := by simp; omega
     have h2 : (f i == g i) = false := by simp; omega
     rw [h1, h2]
     simp
   · rw [heq]
     simpa using ih
theorem eq25 {a b : Nat} (ha : a < R 8) (hb : b < R 8) (d D : Nat) (hD : D = d + 1 + 1) (w : World) :
   (Op.equalIn D 23 (.agg (fa 8 (dg a))) (.agg (fa 8 (dg b)))).run Tryz.prog w = .ok (decide (a = b)) w := by
 have hs : (Tryz.prog.info? 22).isSome = true := by kernel_rfl
 obtain ⟨i, hi⟩ := Option.isSome_iff_exists.1 hs
 have hu : Tryz.prog.underlying 23 = some (.array 8 22) := by kernel_rfl
 have h0 := run_equalIn_array w (d + 1) (fa 8 (dg a)) (fa 8 (dg b)) hu hi
 subst hD
 refine h0.trans ?_
 have hc : Tryz.prog.cellsOf 22 = 1 := by kernel_rfl
 rw [hc, run_eqItems_fa Tw.kr Tw.kr d 8 _ _ w _ (fun i hi => List.mem_range.1 hi)]
 refine congrArg (fun r => Result.ok r w) ?_
 rw [Bool.eq_iff_iff]
 simp only [List.all_eq_true, List.mem_range, beq_iff_eq, decide_eq_true_eq]
 exact ⟨fun h => eq_of_dg ha hb h, fun h i _ => by rw [h]⟩
theorem fa_one8 : fa 8 (dg 1) = #[.int .u32 1, .int .u32 0, .int .u32 0, .int .u32 0, .int .u32 0, .int .u32 0, .int .u32 0, .int .u32 0] := by
 rw [fa_small 1 Tw.om]; rfl
theorem fa_nil8 : fa 8 (dg 0) = #[.int .u32 0, .int .u32 0, .int .u32 0, .int .u32 0, .int .u32 0, .int .u32 0, .int .u32 0, .int .u32 0] := by
 rw [fa_small 0 Tw.om]; rfl
theorem one_lt8 : 1 < R 8 := by rw [R_succ]; have := R_pos 7; omega
@[go_sem] theorem eq25_one {a : Nat} (ha : a < R 8) (w : World) :
   (Op.equalIn 10000 23 (.agg (fa 8 (dg a))) (.agg #[.int .u32 1, .int .u32 0, .int .u32 0, .int .u32 0, .int .u32 0, .int .u32 0, .int .u32 0, .int .u32 0])).run Tryz.prog w = .ok (decide (a = 1)) w := by
 rw [← fa_one8]; exact eq25 ha one_lt8 9998 10000 rfl w
@[go_sem] theorem eq25_nil {a : Nat} (ha : a < R 8) (w : World) :
   (Op.equalIn 10000 23 (.agg (fa 8 (dg a))) (.agg #[.int .u32 0, .int .u32 0, .int .u32 0, .int .u32 0, .int .u32 0, .int .u32 0, .int .u32 0, .int .u32 0])).run Tryz.prog w = .ok (decide (a = 0)) w := by
 rw [← fa_nil8]; exact eq25 ha (R_pos 8) 9998 10000 rfl w
theorem run_neq25_nil {a : Nat} (ha : a < R 8) {x y : Operand} (w : World) : (do eqGuard .neq 23 x y (.agg (fa 8 (dg a))) (.agg #[.int .u32 0, .int .u32 0, .int .u32 0, .int .u32 0, .int .u32 0, .int .u32 0, .int .u32 0, .int .u32 0]); binOp .neq 23 (.agg (fa 8 (dg a))) (.agg #[.int .u32 0, .int .u32 0, .int .u32 0, .int .u32 0, .int .u32 0, .int .u32 0, .int .u32 0, .int .u32 0]) : Sem Value).run Tryz.prog w = .ok (.bool (!decide (a = 0))) w := by
 go_simp
theorem st_f {P : Program} {W0 : World} {o : Oper} {a : Act} {K K' : List (Nat × Obj)} {ty : TypeId} {x y : Operand} {g : Nat} {neg neg' : Bool} {n d n' d' : Nat} (ho : o.op = .store ty x y) (hx : a.eval x = .pointer (some ⟨g, 0, none⟩)) (hv : a.eval y = .agg (frcC neg n d))
   (hm : (g, .cells (frcC neg' n' d') ty (0, 0)) ∈ K) (hB : W0.heap.size ≤ g) (hi : (P.info? ty).map (·.size) = some 17)
   (hK : ∀ p ∈ K', p = (g, .cells (frcC neg n d) ty (0, 0)) ∨ (p ∈ K ∧ p.1 ≠ g)) : ∀ w, KS W0 K w → ∃ w', (execOp a.eval o).run P w = .ok .skip w' ∧ KS W0 K' w' :=
 st_row ho hx hv hm hB (by rw [hi]; simp [Value.cells]) (by simp [Value.cells]) (fun v hv => frc_one v hv) (frc_over neg neg' n d n' d') hK
theorem wpList_stf {P : Program} {ops : Array Oper} {rest : List Oper} {o : Oper} {a : Act} {w : World} {Q : Exit → Act → World → Prop} (hgd : o.guard = none) {ty t : TypeId} {x y : Operand} {g : Nat} {neg neg' : Bool} {n d n' d' : Nat} (ho : o.op = .store ty x y)
   (hx : a.eval x = .pointer (some ⟨g, 0, none⟩)) (hv : a.eval y = .agg (frcC neg n d)) (hg : w.heap[g]? = some (.cells (frcC neg' n' d') t (0, 0))) (hi : (P.info? ty).map (·.size) = some 17)
   (h : wpList P ops Q rest (a.put o.dst undef) (w.setRow g (frcC neg n d))) : wpList P ops Q (o :: rest) a w :=
 wpList_stm hgd ho hx hv hg (by rw [hi]; simp [Value.cells]) (by simp [Value.cells]) (fun v hv => frc_one v hv) (frc_over neg neg' n d n' d') h
theorem wpList_ldf {P : Program} {ops : Array Oper} {rest : List Oper} {o : Oper} {a : Act} {w : World} {Q : Exit → Act → World → Prop} (hgd : o.guard = none) {ty t : TypeId} {x : Operand} {g : Nat} {neg : Bool} {n d : Nat} {td : TypeDesc} (ho : o.op = .load ty x)
   (hx : a.eval x = .pointer (some ⟨g, 0, none⟩)) (hg : w.heap[g]? = some (.cells (frcC neg n d) t (0, 0))) (hu : P.underlying ty = some td) (hd : aggD td = true) (hi : (P.info? ty).map (·.size) = some 17)
   (h : wpList P ops Q rest (a.put o.dst (.agg (frcC neg n d))) w) : wpList P ops Q (o :: rest) a w :=
 wpList_ld hgd ho hx hg hu hd hi (by simp) (frc_whole _ _ _) h
theorem wpList_guard {P : Program} {ops : Array Oper} {rest : List Oper} {o : Oper} {a : Act} {w : World} {Q : Exit → Act → World → Prop} (hw : Region.wanted o (yielded ops a.tmps) = true)
   (h : wpList P ops Q ({ o with guard := none } :: rest) a w) : wpList P ops Q (o :: rest) a w := by
 unfold wpList at h ⊢
 rw [if_pos hw]
 rw [if_pos (wanted_noY rfl)] at h
 exact h
theorem wpList_ldn {P : Program} {ops : Array Oper} {rest : List Oper} {o : Oper} {a : Act} {w : World} {Q : Exit → Act → World → Prop} (hgd : o.guard = none) {ty t : TypeId} {x : Operand} {g : Nat} {neg : Bool} {n d : Nat} {td : TypeDesc} (ho : o.op = .load ty x)
   (hx : a.eval x = .pointer (some ⟨g, 1, none⟩)) (hg : w.heap[g]? = some (.cells (frcC neg n d) t (0, 0))) (hu : P.underlying ty = some td) (hd : aggD td = true) (hi : (P.info? ty).map (·.size) = some 8)
   (h : wpList P ops Q rest (a.put o.dst (.agg (fa 8 (dg n)))) w) : wpList P ops Q (o :: rest) a w :=
 wpList_ld hgd ho hx hg hu hd hi (by simp) (frc_num neg n d) h
theorem wpList_ldd {P : Program} {ops : Array Oper} {rest : List Oper} {o : Oper} {a : Act} {w : World} {Q : Exit → Act → World → Prop} (hgd : o.guard = none) {ty t : TypeId} {x : Operand} {g : Nat} {neg : Bool} {n d : Nat} {td : TypeDesc} (ho : o.op = .load ty x)
   (hx : a.eval x = .pointer (some ⟨g, 9, none⟩)) (hg : w.heap[g]? = some (.cells (frcC neg n d) t (0, 0))) (hu : P.underlying ty = some td) (hd : aggD td = true) (hi : (P.info? ty).map (·.size) = some 8)
   (h : wpList P ops Q rest (a.put o.dst (.agg (fa 8 (dg d)))) w) : wpList P ops Q (o :: rest) a w :=
 wpList_ld hgd ho hx hg hu hd hi (by simp) (frc_den neg n d) h
theorem wpList_ldw {P : Program} {ops : Array Oper} {rest : List Oper} {o : Oper} {a : Act} {w : World} {Q : Exit → Act → World → Prop} (hgd : o.guard = none) {ty t : TypeId} {x : Operand} {g : Nat} {neg : Bool} {n d : Nat} {td : TypeDesc} (ho : o.op = .load ty x)
   (hx : a.eval x = .pointer (some ⟨g, 0, none⟩)) (hg : w.heap[g]? = some (.cells (frcC neg n d) t (0, 0))) (hu : P.underlying ty = some td) (hd : aggD td = true) (hi : (P.info? ty).map (·.size) = some 17)
   (h : wpList P ops Q rest (a.put o.dst (.agg (frcC neg n d))) w) : wpList P ops Q (o :: rest) a w :=
 wpList_ldf hgd ho hx hg hu hd hi h
end Go.Proofs.YtalmflgkbmnghaaGreatDoor
namespace Go.Proofs.YtalmflgkbmnghaaGreatDoor
open Go.RowKit Tf
theorem part25 (cs : Array Value) (off : Nat) (w : World) : (part 23 cs off).run Tryz.prog w = .ok (.agg (cs.extract off (off + 8))) w := by kernel_rfl
theorem part4 (b : Bool) (cs : Array Value) (h : cs[0]? = some (.bool b)) (w : World) : (part 4 cs 0).run Tryz.prog w = .ok (.bool b) w := by
 have hp : Tryz.prog.plainKey 4 = true := by kernel_rfl
 exact run_part_plain w hp h
theorem frc_cut1 (neg : Bool) (n d : Nat) : (frcC neg n d).extract 1 (1 + 8) = fa 8 (dg n) := by
 rw [frc_num neg n d]
 apply Array.ext'
 simp
theorem frc_cut2 (neg : Bool) (n d : Nat) : (frcC neg n d).extract 9 (9 + 8) = fa 8 (dg d) := by
 rw [frc_den neg n d]
 apply Array.ext'
 simp
noncomputable def flds : List Field := (Tryz.prog.fieldsOf 25).toList
theorem flds_eq : flds = [flds[0]!, flds[1]!, flds[2]!] := by kernel_rfl
theorem flds_names : (flds[0]!.name == "_") = false ∧ (flds[1]!.name == "_") = false ∧ (flds[2]!.name == "_") = false := ⟨by kernel_rfl, by kernel_rfl, by kernel_rfl⟩
theorem flds_types : flds[0]!.type = 4 ∧ flds[1]!.type = 23 ∧ flds[2]!.type = 23 := ⟨by kernel_rfl, by kernel_rfl, by kernel_rfl⟩
theorem flds_offs : flds[0]!.offset = 0 ∧ flds[1]!.offset = 1 ∧ flds[2]!.offset = 9 := ⟨by kernel_rfl, by kernel_rfl, by kernel_rfl⟩
theorem eq27 {s s' : Bool} {n n' d d' : Nat} (hn : n < R 8) (hn' : n' < R 8) (hd : d < R 8) (hd' : d' < R 8) (D D' : Nat) (hD : D = D' + 1 + 1 + 1) (w : World) :
   (Op.equalIn D 25 (.agg (frcC s n d)) (.agg (frcC s' n' d'))).run Tryz.prog w = .ok (decide (s = s' ∧ n = n' ∧ d = d')) w := by
 subst hD
 have hu : Tryz.prog.underlying 25 = some (.struct (Tryz.prog.fieldsOf 25)) := by kernel_rfl
 have hs : Tryz.prog.stoodInHeld 25 = false := by kernel_rfl
 have hb : Tryz.prog.underlying 4 = some .bool := by kernel_rfl
 refine (run_equalIn_struct w (D' + 1 + 1) _ _ _ hu hs).trans ?_
 have h0 := flds_eq
 obtain ⟨m1, m2, m3⟩ := flds_names
 obtain ⟨t1, t2, t3⟩ := flds_types
 obtain ⟨o1, o2, o3⟩ := flds_offs
 rw [show (Tryz.prog.fieldsOf 25).toList = flds from rfl, h0]
 have n1 : flds[0]!.name ≠ "_" := by simpa using m1
 have n2 : flds[1]!.name ≠ "_" := by simpa using m2
 have n3 : flds[2]!.name ≠ "_" := by simpa using m3
 have e1 := eq25 hn hn' D' _ rfl w
 have e2 := eq25 hd hd' D' _ rfl w
 simp only [Op.eqFields, n1, n2, n3, ne_eq, not_false_eq_true, if_true, Sem.run_bind, t1, t2, t3, o1, o2, o3, part4 s _ (frc_neg s n d), part4 s' _ (frc_neg s' n' d'), Result.andThen_ok,
   run_equalIn_bool w (D' + 1) _ s s' hb]
 by_cases h1 : s = s'
 · subst h1
   simp only [beq_self_eq_true, Bool.not_true, Bool.false_eq_true, if_false, Sem.run_bind, part25, frc_cut1, Result.andThen_ok, e1]
   by_cases h2 : n = n'
   · subst h2
     simp only [decide_true, Bool.not_true, Bool.false_eq_true, if_false, Sem.run_bind, part25, frc_cut2, Result.andThen_ok, e2]
     by_cases h3 : d = d'
     · simp [h3]
     · simp [h3]
   · simp [h2]
 · have hb : (s == s') = false := by simp [h1]
   simp [hb, h1]
theorem frc_one1 : frcC false 0 1 = #[.bool false, .int .u32 0, .int .u32 0, .int .u32 0, .int .u32 0, .int .u32 0, .int .u32 0, .int .u32 0, .int .u32 0, .int .u32 1, .int .u32 0, .int .u32 0, .int .u32 0, .int .u32 0, .int .u32 0, .int .u32 0, .int .u32 0] := by
 unfold frcC; rw [fa_nil8, fa_one8]; rfl
@[go_sem high] theorem eq27_one {s : Bool} {n d : Nat} (hn : n < R 8) (hd : d < R 8) (w : World) :
   (Op.equalIn 10000 25 (.agg (frcC s n d)) (.agg #[.bool false, .int .u32 0, .int .u32 0, .int .u32 0, .int .u32 0, .int .u32 0, .int .u32 0, .int .u32 0, .int .u32 0, .int .u32 1, .int .u32 0, .int .u32 0, .int .u32 0, .int .u32 0, .int .u32 0, .int .u32 0, .int .u32 0])).run Tryz.prog w = .ok (decide (s = false ∧ n = 0 ∧ d = 1)) w := by
 rw [← frc_one1]; exact eq27 hn (R_pos 8) hd one_lt8 10000 9997 rfl w
@[go_sem high] theorem eq27_any {s s' : Bool} {n n' d d' : Nat} (hn : n < R 8) (hn' : n' < R 8) (hd : d < R 8) (hd' : d' < R 8) (w : World) :
   (Op.equalIn 10000 25 (.agg (frcC s n d)) (.agg (frcC s' n' d'))).run Tryz.prog w = .ok (decide (s = s' ∧ n = n' ∧ d = d')) w := eq27 hn hn' hd hd' 10000 9997 rfl w
end Go.Proofs.YtalmflgkbmnghaaGreatDoor
namespace Go.Proofs.YtalmflgkbmnghaaGreatDoor
open Go.RowKit Tf
theorem lt8 {n : Nat} (h : n < 4294967296) : n < R 8 := lt_R_of_le (j := 1) (by rw [R_succ, R_zero]; omega) Tw.om
theorem run_eql27s {s : Bool} {n d : Nat} (hn : n < R 8) (hd : d < R 8) {x y : Operand} (w : World) : (do eqGuard .eql 25 x y (.agg (frcC s n d)) (.agg (frcC s n d)); binOp .eql 25 (.agg (frcC s n d)) (.agg (frcC s n d)) : Sem Value).run Tryz.prog w = .ok (.bool true) w := by
 go_simp
theorem run_neq27s {s : Bool} {n d : Nat} (hn : n < R 8) (hd : d < R 8) {x y : Operand} (w : World) : (do eqGuard .neq 25 x y (.agg (frcC s n d)) (.agg (frcC s n d)); binOp .neq 25 (.agg (frcC s n d)) (.agg (frcC s n d)) : Sem Value).run Tryz.prog w = .ok (.bool false) w := by
 go_simp
end Go.Proofs.YtalmflgkbmnghaaGreatDoor
namespace Go.Proofs.YtalmflgkbmnghaaGreatDoor
open Go.RowKit Tf
def R78 : Value := .string ⟨(Lib.repeatL [48] 78).toArray⟩
def S79 : Value := .string ⟨(49 :: Lib.repeatL [48] 78).toArray⟩
def L8 : List (List UInt8 × Int) := [([51, 47, 45, 50], 10), ([48, 51], 10), ([49, 47, 48], 10), ([], 10), ([50, 47, 52], 11), ([52, 47, 49], 11), ([45, 48], 11), (49 :: Lib.repeatL [48] 78, 3)]
end Go.Proofs.YtalmflgkbmnghaaGreatDoor
/- Decimal digits: nine at a time, and back. Plain. -/
namespace Tf
open Go Go.Lib
def padL : Nat → Nat → List UInt8
 | 0, _ => []
 | k + 1, r => padL k (r / 10) ++ [UInt8.ofNat (48 + r % 10)]
theorem padL_length : ∀ k r, (padL k r).length = k
 | 0, _ => rfl
 | k + 1, r => by simp [padL, padL_length k]
theorem dec_small {x : Nat} (h : x < 10) : decDigits x = [UInt8.ofNat (48 + x)] := by rw [decDigits, dif_pos h]
theorem dec_big {x : Nat} (h : 10 ≤ x) : decDigits x = decDigits (x / 10) ++ [UInt8.ofNat (48 + x % 10)] := by rw [decDigits, dif_neg Tw.om]
theorem dec_split : ∀ (k q r : Nat), 0 < q → r < 10 ^ k → decDigits (q * 10 ^ k + r) = decDigits q ++ padL k r
 | 0, q, r, _, hr => by
   have : r = 0 := by simpa using hr
   subst this; simp [padL]
 | k + 1, q, r, hq, hr => by
   have hp : 0 < 10 ^ k := Nat.pow_pos Tw.om
   have e : q * 10 ^ (k + 1) + r = 10 * (q * 10 ^ k) + r := by rw [Nat.pow_succ, ← Nat.mul_assoc]; omega
   have hr' : r < 10 * 10 ^ k := by rw [Nat.pow_succ] at hr; omega
   have hq' : 0 < q * 10 ^ k := Nat.mul_pos hq hp
   rw [e, dec_big Tw.om, show (10 * (q * 10 ^ k) + r) / 10 = q * 10 ^ k + r / 10 from by omega, show (10 * (q * 10 ^ k) + r) % 10 = r % 10 from by omega, dec_split k q (r / 10) hq Tw.om, padL, List.append_assoc]
theorem dec_tail {low : Nat} (h : low < 1000000000) : (decDigits (1000000000 + low)).drop 1 = padL 9 low := by
 have h1 := dec_split 9 1 low Tw.om Tw.om
 rw [show 1 * 10 ^ 9 + low = 1000000000 + low from by omega, dec_small (x := 1) Tw.om] at h1
 rw [h1]; rfl
theorem dec_step {x : Nat} (h : x / 1000000000 ≠ 0) : decDigits x = decDigits (x / 1000000000) ++ padL 9 (x % 1000000000) := by
 have h1 := dec_split 9 (x / 1000000000) (x % 1000000000) Tw.om Tw.om
 rw [← h1, show x / 1000000000 * 10 ^ 9 + x % 1000000000 = x from by omega]
theorem dec_length : ∀ (k x : Nat), x < 10 ^ (k + 1) → (decDigits x).length ≤ k + 1
 | 0, x, h => by rw [dec_small Tw.om]; simp
 | k + 1, x, h => by
   by_cases hx : x < 10
   · rw [dec_small hx]; simp
   · rw [dec_big Tw.om]
     have := dec_length k (x / 10) (by rw [Nat.pow_succ] at h; omega)
     simp; exact this
theorem dec_pos (x : Nat) : 0 < (decDigits x).length := by
 by_cases hx : x < 10
 · rw [dec_small hx]; simp
 · rw [dec_big Tw.om]; simp
theorem digit_nat {r : Nat} (h : r < 10) : (UInt8.ofNat (48 + r)).toNat = 48 + r := by
 rw [UInt8.toNat_ofNat']; omega
theorem dec_dig (x : Nat) : ∀ b ∈ decDigits x, 48 ≤ b.toNat ∧ b.toNat ≤ 57 := by
 induction x using Nat.strongRecOn with
 | ind x ih =>
   by_cases hx : x < 10
   · rw [dec_small hx]
     intro b hb
     simp only [List.mem_cons, List.not_mem_nil, or_false] at hb
     subst hb
     rw [digit_nat hx]; omega
   · rw [dec_big Tw.om]
     intro b hb
     rcases List.mem_append.1 hb with hb | hb
     · exact ih (x / 10) Tw.om b hb
     · simp only [List.mem_cons, List.not_mem_nil, or_false] at hb
       subst hb
       rw [digit_nat Tw.om]; omega
theorem dec_head {x : Nat} (h : 0 < x) : ((decDigits x).headD 0).toNat ≠ 48 := by
 induction x using Nat.strongRecOn with
 | ind x ih =>
   by_cases hx : x < 10
   · rw [dec_small hx]
     show (UInt8.ofNat (48 + x)).toNat ≠ 48
     rw [digit_nat hx]; omega
   · rw [dec_big Tw.om]
     have h1 := ih (x / 10) Tw.om Tw.om
     have h2 := dec_pos (x / 10)
     cases hl : decDigits (x / 10) with
     | nil => rw [hl] at h2; simp at h2
     | cons b l => rw [hl] at h1; exact h1
theorem dec_value (x : Nat) : (decDigits x).foldl (fun a b => a * 10 + (b.toNat - 48)) 0 = x := by
 induction x using Nat.strongRecOn with
 | ind x ih =>
   by_cases hx : x < 10
   · rw [dec_small hx]
     simp only [List.foldl_cons, List.foldl_nil]
     rw [digit_nat hx]; omega
   · rw [dec_big Tw.om, List.foldl_append, ih (x / 10) Tw.om]
     simp only [List.foldl_cons, List.foldl_nil]
     rw [digit_nat Tw.om]; omega
end Tf
/- What the package-level variables that library functions read hold; the library's contracts in one form. -/
namespace Go.Proofs.YtalmflgkbmnghaaGreatDoor
open Go.RowKit Tf
def Env (w : World) : Prop := Lib.TabIs Tryz.prog w "internal/strconv.uint64pow10" .u64 Lib.pow10Tab ∧ ∃ m, w.cell? ⟨0, 0, none⟩ = some (.int .i64 m)
theorem var_keep {P : Program} {w w' : World} {n : String} {cs : Array Value} (h : w.var? P n = some cs) (hb : Below w.heap.size w w') : w'.var? P n = some cs := by
 unfold World.var? at *
 cases hg : P.globalNamed n with
 | none => rw [hg] at h; cases h
 | some g =>
   rw [hg] at h
   simp only [Option.bind_some] at h ⊢
   cases hh : w.heap[g]? with
   | none => rw [hh] at h; cases h
   | some o => rw [hb.block g (lt_of_block hh)]; exact h
theorem cell_keep {w w' : World} {g k : Nat} {v : Value} (h : w.cell? ⟨g, k, none⟩ = some v) (hb : Below w.heap.size w w') : w'.cell? ⟨g, k, none⟩ = some v := by
 have hlt : g < w.heap.size := World.block_lt_of_cell? _ _ h
 rw [hb.cell (p := ⟨g, k, none⟩) hlt]; exact h
theorem Env.keep {w w' : World} (h : Env w) (hb : Below w.heap.size w w') : Env w' := ⟨var_keep h.1 hb, h.2.elim fun m hm => ⟨m, cell_keep hm hb⟩⟩
theorem Env.drewN {w : World} (h : Env w) (n : Nat) : Env (w.drewN n) := h.keep ⟨rfl, rfl, rfl, Nat.le_refl _, fun _ _ => rfl⟩
class ShSt : Prop where
 itoa : ∀ (n : Nat), n ≤ 9223372036854775807 → ∀ w : World, Env w → Calls Tryz.prog 88 #[.int .i64 (n : Int)] w fun e w' => e = .returned (.string ⟨(Lib.decDigits n).toArray⟩) ∧ Below w.heap.size w w'
 cutPrefix : ∀ (l : List UInt8) (W : World), Calls Tryz.prog 70 #[.string ⟨l.toArray⟩, .string ⟨#[45]⟩] W fun e w' => e = .returned (.tuple #[.string ⟨(Lib.trimPrefix l [45]).toArray⟩, .bool (Lib.hasPrefix l [45])]) ∧ Below W.heap.size W w'
 cut : ∀ (l : List UInt8), l.length < 4294967281 → ∀ W : World, Env W → Calls Tryz.prog 71 #[.string ⟨l.toArray⟩, .string ⟨#[47]⟩] W fun e w' => e = .returned (.tuple #[.string ⟨(Lib.cut l [47]).1.toArray⟩, .string ⟨(Lib.cut l [47]).2.1.toArray⟩, .bool (Lib.cut l [47]).2.2]) ∧ Below W.heap.size W w'
theorem itoa_any [ShSt] (n : Nat) (h : n ≤ 9223372036854775807) (w : World) (hE : Env w) :
   Calls Tryz.prog 88 #[.int .i64 (n : Int)] w fun e w' => e = .returned (.string ⟨(Lib.decDigits n).toArray⟩) ∧ Below w.heap.size w w' := ShSt.itoa n h w hE
end Go.Proofs.YtalmflgkbmnghaaGreatDoor
namespace Go.Proofs.YtalmflgkbmnghaaGreatDoor
open Go.RowKit Tf
theorem eq65 {a b : Nat} (ha : a < R 18) (hb : b < R 18) (d D : Nat) (hD : D = d + 1 + 1) (w : World) :
   (Op.equalIn D 76 (.agg (fa 18 (dg a))) (.agg (fa 18 (dg b)))).run Tryz.prog w = .ok (decide (a = b)) w := by
 have hs : (Tryz.prog.info? 22).isSome = true := by kernel_rfl
 obtain ⟨i, hi⟩ := Option.isSome_iff_exists.1 hs
 have hu : Tryz.prog.underlying 76 = some (.array 18 22) := by kernel_rfl
 have h0 := run_equalIn_array w (d + 1) (fa 18 (dg a)) (fa 18 (dg b)) hu hi
 subst hD
 refine h0.trans ?_
 have hc : Tryz.prog.cellsOf 22 = 1 := by kernel_rfl
 rw [hc, run_eqItems_fa Tw.kr Tw.kr d 18 _ _ w _ (fun i hi => List.mem_range.1 hi)]
 refine congrArg (fun r => Result.ok r w) ?_
 rw [Bool.eq_iff_iff]
 simp only [List.all_eq_true, List.mem_range, beq_iff_eq, decide_eq_true_eq]
 exact ⟨fun h => eq_of_dg ha hb h, fun h i _ => by rw [h]⟩
theorem fa_nil18 : fa 18 (dg 0) = #[.int .u32 0, .int .u32 0, .int .u32 0, .int .u32 0, .int .u32 0, .int .u32 0, .int .u32 0, .int .u32 0, .int .u32 0, .int .u32 0, .int .u32 0, .int .u32 0, .int .u32 0, .int .u32 0, .int .u32 0, .int .u32 0, .int .u32 0, .int .u32 0] := by
 rw [← fa_zero18, fa_dg0]
@[go_sem] theorem eq65_nil {a : Nat} (ha : a < R 18) (w : World) :
   (Op.equalIn 10000 76 (.agg (fa 18 (dg a))) (.agg #[.int .u32 0, .int .u32 0, .int .u32 0, .int .u32 0, .int .u32 0, .int .u32 0, .int .u32 0, .int .u32 0, .int .u32 0, .int .u32 0, .int .u32 0, .int .u32 0, .int .u32 0, .int .u32 0, .int .u32 0, .int .u32 0, .int .u32 0, .int .u32 0])).run Tryz.prog w = .ok (decide (a = 0)) w := by
 rw [← fa_nil18]; exact eq65 ha (R_pos 18) 9998 10000 rfl w
theorem run_neq65_nil {a : Nat} {b : Bool} (ha : a < R 18) (hab : (!decide (a = 0)) = b) {x y : Operand} (w : World) : (do eqGuard .neq 76 x y (.agg (fa 18 (dg a))) (.agg #[.int .u32 0, .int .u32 0, .int .u32 0, .int .u32 0, .int .u32 0, .int .u32 0, .int .u32 0, .int .u32 0, .int .u32 0, .int .u32 0, .int .u32 0, .int .u32 0, .int .u32 0, .int .u32 0, .int .u32 0, .int .u32 0, .int .u32 0, .int .u32 0]); binOp .neq 76 (.agg (fa 18 (dg a))) (.agg #[.int .u32 0, .int .u32 0, .int .u32 0, .int .u32 0, .int .u32 0, .int .u32 0, .int .u32 0, .int .u32 0, .int .u32 0, .int .u32 0, .int .u32 0, .int .u32 0, .int .u32 0, .int .u32 0, .int .u32 0, .int .u32 0, .int .u32 0, .int .u32 0]) : Sem Value).run Tryz.prog w = .ok (.bool b) w := by
 subst hab
 go_simp
theorem wpList_bin {P : Program} {ops : Array Oper} {rest : List Oper} {o : Oper} {a : Act} {w : World} {Q : Exit → Act → World → Prop} (hgd : o.guard = none) {v vx vy : Value} {op : BinOp} {xT : TypeId} {x y : Operand} {d : TypeId}
   (ho : o.op = .binOp op xT x y d) (hx : a.eval x = vx) (hy : a.eval y = vy) (h0 : ∀ w, (do eqGuard op xT x y vx vy; binOp op xT vx vy : Sem Value).run P w = .ok v w)
   (h : wpList P ops Q rest (a.put o.dst v) w) : wpList P ops Q (o :: rest) a w :=
 wpList_plain hgd fun _ hK => by
   unfold Oper.wp
   rw [run_binY ho hx hy h0 w]
   exact hK _ _ h
end Go.Proofs.YtalmflgkbmnghaaGreatDoor
namespace Go.Proofs.YtalmflgkbmnghaaGreatDoor
open Go.RowKit Tf


theorem fa_src {n m : Nat} {f : Nat → Nat} {w : World} {g : Nat} {t : TypeId} (h : w.heap[g]? = some (.cells (fa n f) t (0, 0))) (hm : m ≤ n) : ∀ j v, (fa m f).toList[j]? = some v → w.cell? ((⟨g, 0, none⟩ : Addr).add j) = some v := by
 intro j v hv
 have hj : j < m := by
   have := (List.getElem?_eq_some_iff.1 hv).1
   simpa using this
 rw [Array.getElem?_toList, fa_get _ hj] at hv
 have hadd : (⟨g, 0, none⟩ : Addr).add j = ⟨g, j, none⟩ := by unfold Addr.add; split <;> simp_all
 rw [hadd, blk_cell h Tw.om, hv]

set_option maxRecDepth 100000 in
set_option maxHeartbeats 400000 in
theorem widen_any (a : Nat) (ha : a < R 8) (w : World) :
   Calls Tryz.prog 57 #[num a] w fun e w' => e = .returned (wid a) ∧ Below w.heap.size w w' := by
 unfold num wid
 go_enter Tryz.func57, Tryz.ntmps57
 go_wp2
 obtain ⟨W, hW⟩ : ∃ W, W = ((w.alloc (.cells (fa 8 (dg a)) 23)).alloc (.cells (fa 18 (fun _ => 0)) 76)).alloc (.cells (fa 18 (fun _ => 0)) 76) := ⟨_, rfl⟩
 have hh := heap3 w (.cells (fa 8 (dg a)) 23) (.cells (fa 18 (fun _ => 0)) 76) (.cells (fa 18 (fun _ => 0)) 76)
 have hB := below3 w (.cells (fa 8 (dg a)) 23) (.cells (fa 18 (fun _ => 0)) 76) (.cells (fa 18 (fun _ => 0)) 76)
 rw [fa_zero18] at hW
 rw [← hW]
 rw [fa_zero18, ← hW, ← fa_zero18] at hh
 rw [fa_zero18, ← hW] at hB
 clear hW
 obtain ⟨e0, e1, e2⟩ := hh
 have E0 := Lib.hid e0
 have E1 := Lib.hid e1
 have E2 := Lib.hid e2
 clear e0 e1 e2
 have hsp := splice_zero (n := 18) (m := 8) (f := dg a) (g := fun _ => 0) Tw.om (fun i _ hi => (dg_of_lt' ha hi).symm)
 have HSP := Lib.hid hsp
 clear hsp
 go_region_law (refine step_copy_at rfl (.tmp 4) (.tmp 5) 65 65 rfl 22 under74 size24 (w.heap.size + 1 + 1) 0 18 18 _ 8 8 rfl rfl (fa 18 (fun _ => 0)) 76 E2.out (fa 8 (dg a)).toList (by rw [Array.length_toList, fa_size]; rfl) (fa_src (w := W.drew) E0.out (Nat.le_refl 8)) (by simp) fa_one ?_)
 rw [HSP.out]
 have F2 : Hid ((W.drew.setRow (w.heap.size + 1 + 1) (fa 18 (dg a))).heap[w.heap.size + 1 + 1]? = some (.cells (fa 18 (dg a)) 76 (0, 0))) := setRow_heap W.drew _ _ _ _ _ E2.out
 have F1 : Hid ((W.drew.setRow (w.heap.size + 1 + 1) (fa 18 (dg a))).heap[w.heap.size + 1]? = some (.cells (fa 18 (fun _ => 0)) 76 (0, 0))) := by
   unfold Hid; rw [setRow_other _ _ _ _ Tw.om]; exact E1.out
 have hB2 : Below w.heap.size w (W.drew.setRow (w.heap.size + 1 + 1) (fa 18 (dg a))) := below_setRow hB.drew Tw.om _
 generalize W.drew.setRow (w.heap.size + 1 + 1) (fa 18 (dg a)) = W2 at *
 obtain ⟨d, hu, hd⟩ := under65
 go_wp2_with (first
   | (refine wpList_lda rfl rfl rfl F2.out hu hd size65 ?_)
   | (refine wpList_sta rfl rfl rfl rfl F1.out size65 ?_))
 exact bodyPost_ret (res_cell rfl rfl (setRow_heap _ _ _ _ _ _ F1.out) hu hd (by rw [size65, fa_size])) rfl ⟨rfl, below_setRow hB2 Tw.om _⟩

set_option maxRecDepth 100000 in
set_option maxHeartbeats 400000 in
theorem narrow_yes (a : Nat) (ha : a < R 8) (w : World) :
   Calls Tryz.prog 97 #[wid a] w fun e w' => e = .returned (.tuple #[num a, .bool true]) ∧ Below w.heap.size w w' := by
 unfold num wid
 have hz : ln (dg a) 18 ≤ 8 := by
   rcases Nat.lt_or_ge 8 (ln (dg a) 18) with h | h
   · exact absurd (dg_of_lt' ha (show 8 ≤ ln (dg a) 18 - 1 by omega)) (ln_ge Tw.om)
   · exact h
 go_enter Tryz.func97, Tryz.ntmps97
 go_wp2_with fail
 have hh := heap2 w (.cells (fa 18 (dg a)) 76) (.cells (fa 8 (fun _ => 0)) 23)
 have hB := below2 w (.cells (fa 18 (dg a)) 76) (.cells (fa 8 (fun _ => 0)) 23)
 obtain ⟨W, hW⟩ : ∃ W, W = (w.alloc (.cells (fa 18 (dg a)) 76)).alloc (.cells (fa 8 (fun _ => 0)) 23) := ⟨_, rfl⟩
 rw [fa_zero8] at hW
 rw [← hW]
 rw [fa_zero8, ← hW, ← fa_zero8] at hh
 rw [fa_zero8, ← hW] at hB
 clear hW
 obtain ⟨e0, e1⟩ := hh
 have E0 := Lib.hid e0
 have E1 := Lib.hid e1
 clear e0 e1
 refine (length_any _ 0 18 18 (dg a) _ Tw.om (fun i hi => by rw [Nat.zero_add]; exact blk_cell E0.out hi)).mono ?_
 rintro e w' ⟨rfl, rfl⟩
 generalize ln (dg a) 18 = m at *
 go_wp2
 have hB3 : Below w.heap.size w (W.alloc (.cells (fa 8 (fun _ => 0)) 23)) := hB.alloc hB.size _
 have hlt0 := lt_of_block E0.out
 have hlt1 := lt_of_block E1.out
 have F0 : Hid ((W.alloc (.cells (fa 8 (fun _ => 0)) 23)).heap[w.heap.size]? = some (.cells (fa 18 (dg a)) 76 (0, 0))) := (Below.heap_alloc _ _ _ hlt0).trans E0.out
 have F1 : Hid ((W.alloc (.cells (fa 8 (fun _ => 0)) 23)).heap[w.heap.size + 1]? = some (.cells (fa 8 (fun _ => 0)) 23 (0, 0))) := (Below.heap_alloc _ _ _ hlt1).trans E1.out
 have F2 : Hid ((W.alloc (.cells (fa 8 (fun _ => 0)) 23)).heap[W.heap.size]? = some (.cells (fa 8 (fun _ => 0)) 23 (0, 0))) := heap1 _ _
 have hg1 : w.heap.size + 1 < W.heap.size := hlt1
 generalize W.heap.size = g at *
 rw [← fa_zero8]
 generalize W.alloc (.cells (fa 8 (fun _ => 0)) 23) = W2 at *
 clear E0 E1 hB
 have hsp := splice_zero (n := 8) (m := 8) (f := dg a) (g := fun _ => 0) Tw.om (fun i _ hi => by omega)
 have HSP := Lib.hid hsp
 clear hsp
 go_region_law (refine step_copy_at rfl (.tmp 9) (.tmp 10) 65 65 rfl 22 under74 size24 g 0 8 8 _ 18 18 rfl rfl (fa 8 (fun _ => 0)) 23 F2.out (fa 8 (dg a)).toList (by rw [Array.length_toList, fa_size]; rfl) (fa_src (w := W2.drew) F0.out Tw.om) (by simp) fa_one ?_)
 rw [HSP.out]
 have G2 : Hid ((W2.drew.setRow g (fa 8 (dg a))).heap[g]? = some (.cells (fa 8 (dg a)) 23 (0, 0))) := setRow_heap W2.drew _ _ _ _ _ F2.out
 have G1 : Hid ((W2.drew.setRow g (fa 8 (dg a))).heap[w.heap.size + 1]? = some (.cells (fa 8 (fun _ => 0)) 23 (0, 0))) := by
   unfold Hid; rw [setRow_other _ _ _ _ Tw.om]; exact F1.out
 have hB2 : Below w.heap.size w (W2.drew.setRow g (fa 8 (dg a))) := below_setRow hB3.drew Tw.om _
 generalize W2.drew.setRow g (fa 8 (dg a)) = W3 at *
 obtain ⟨d, hu, hd⟩ := under25
 go_wp2_with (first
   | (refine wpList_lda rfl rfl rfl G2.out hu hd size25 ?_)
   | (refine wpList_sta rfl rfl rfl rfl G1.out size25 ?_))
 exact bodyPost_ret (res_cell_tmp rfl rfl (setRow_heap _ _ _ _ _ _ G1.out) hu hd (by rw [size25, fa_size])) rfl ⟨rfl, below_setRow hB2 Tw.om _⟩

set_option maxRecDepth 100000 in
set_option maxHeartbeats 400000 in
theorem narrow_no (a : Nat) (ha : a < R 18) (ha8 : R 8 ≤ a) (w : World) :
   Calls Tryz.prog 97 #[wid a] w fun e w' => e = .returned (.tuple #[num 0, .bool false]) ∧ Below w.heap.size w w' := by
 unfold num wid
 have hz : 8 < ln (dg a) 18 := by
   rcases Nat.lt_or_ge 8 (ln (dg a) 18) with h | h
   · exact h
   · exact absurd (Nat.lt_of_lt_of_le (ln_lt 18 ha) (R_le h)) Tw.om
 go_enter Tryz.func97, Tryz.ntmps97
 go_wp2_with fail
 have hh := heap2 w (.cells (fa 18 (dg a)) 76) (.cells (fa 8 (fun _ => 0)) 23)
 have hB := below2 w (.cells (fa 18 (dg a)) 76) (.cells (fa 8 (fun _ => 0)) 23)
 obtain ⟨W, hW⟩ : ∃ W, W = (w.alloc (.cells (fa 18 (dg a)) 76)).alloc (.cells (fa 8 (fun _ => 0)) 23) := ⟨_, rfl⟩
 rw [fa_zero8] at hW
 rw [← hW]
 rw [fa_zero8, ← hW, ← fa_zero8] at hh
 rw [fa_zero8, ← hW] at hB
 clear hW
 obtain ⟨e0, e1⟩ := hh
 have E0 := Lib.hid e0
 have E1 := Lib.hid e1
 clear e0 e1
 refine (length_any _ 0 18 18 (dg a) _ Tw.om (fun i hi => by rw [Nat.zero_add]; exact blk_cell E0.out hi)).mono ?_
 rintro e w' ⟨rfl, rfl⟩
 generalize ln (dg a) 18 = m at *
 obtain ⟨d, hu, hd⟩ := under25
 go_wp2_with (first
   | (refine wpList_stm rfl rfl rfl (v := .agg (fa 8 (fun _ => 0))) rfl E1.out size25 (by simp [Value.cells]) fa_one (fa_over _ _ _) ?_))
 refine bodyPost_ret (res_cell_tmp rfl rfl (setRow_heap _ _ _ _ _ _ E1.out) hu hd (by rw [size25, fa_size])) rfl ⟨?_, below_setRow hB Tw.om _⟩
 rw [← fa_dg0]; rfl
end Go.Proofs.YtalmflgkbmnghaaGreatDoor
namespace Go.Proofs.YtalmflgkbmnghaaGreatDoor
open Go.RowKit Tf

set_option maxRecDepth 100000 in
set_option maxHeartbeats 1000000 in
theorem divideShort_any (a b : Nat) (ha : a < R 18) (hb0 : 0 < b) (hb : b < 4294967296) (w : World) :
   Calls Tryz.prog 86 #[wid a, .int .u32 b] w fun e w' => e = .returned (.tuple #[wid (a / b), .int .u32 ((a % b : Nat) : Int)]) ∧ Below w.heap.size w w' := by
 unfold wid
 have m0 := ln_le (dg a) 18
 have HM := Lib.hid (ln_lt 18 ha)
 go_enter Tryz.func86, Tryz.ntmps86
 go_wp2_with fail
 have hh := heap2 w (.cells (fa 18 (dg a)) 76) (.cells (fa 18 (fun _ => 0)) 76)
 have hB := below2 w (.cells (fa 18 (dg a)) 76) (.cells (fa 18 (fun _ => 0)) 76)
 obtain ⟨W, hW⟩ : ∃ W, W = (w.alloc (.cells (fa 18 (dg a)) 76)).alloc (.cells (fa 18 (fun _ => 0)) 76) := ⟨_, rfl⟩
 rw [fa_zero18] at hW
 rw [← hW]
 rw [fa_zero18, ← hW, ← fa_zero18] at hh
 rw [fa_zero18, ← hW] at hB
 clear hW
 obtain ⟨e0, e1⟩ := hh
 have E0 := Lib.hid e0
 have E1 := Lib.hid e1
 clear e0 e1
 refine (length_any _ 0 18 18 (dg a) _ Tw.om (fun i hi => by rw [Nat.zero_add]; exact blk_cell E0.out hi)).mono ?_
 rintro e w' ⟨rfl, rfl⟩
 generalize ln (dg a) 18 = m at *
 go_wp2
 go_loopw [6, 7] (fun r i wr => ∃ k r0 P : Nat, k ≤ m ∧ r0 < b ∧ Hid (a = P / R k * R k * b + r0 * R k + a % R k) ∧ Hid (P % R k = a % R k) ∧ P < R 18 ∧ r = .int .u64 r0 ∧ i = .int .i64 ((k : Int) - 1) ∧ Below w.heap.size w wr ∧
     wr.heap[w.heap.size]? = some (.cells (fa 18 (dg P)) 76 (0, 0)) ∧ wr.heap[w.heap.size + 1]? = some (.cells (fa 18 (fun _ => 0)) 76 (0, 0)))
   (fun _ i _ => (intOf i + 1).toNat)
 case atStart =>
   refine ⟨m, 0, a, Nat.le_refl _, hb0, ?_, rfl, ha, rfl, rfl, hB, E0.out, E1.out⟩
   unfold Hid
   rw [Nat.div_eq_of_lt HM.out, Nat.mod_eq_of_lt HM.out]; omega
 case round =>
   obtain ⟨k, r0, P, hk, hr, he, hm, hP, rfl, rfl, hB, e0, e1⟩ := hrel
   rcases Nat.eq_zero_or_pos k with rfl | hpos
   · have hq : P = a / b ∧ r0 = a % b := by
       have h := he.out
       rw [R_zero, Nat.div_one, Nat.mod_one, Nat.mul_one, Nat.mul_one, Nat.add_zero] at h
       have h1 := Nat.div_add_mod a b
       have h2 : P = a / b := by
         rw [h, Nat.mul_comm P b, Nat.mul_add_div hb0, Nat.div_eq_of_lt hr, Nat.add_zero]
       refine ⟨h2, ?_⟩
       rw [h, Nat.mul_comm P b, Nat.mul_add_mod, Nat.mod_eq_of_lt hr]
     obtain ⟨h1, h2⟩ := hq
     have HR := Lib.hid h2
     clear h2 he hm
     subst h1
     obtain ⟨d, hu, hd⟩ := under65
     go_wp2_with (first
       | (refine wpList_lda rfl rfl rfl e0 hu hd size65 ?_)
       | (refine wpList_sta rfl rfl rfl rfl e1 size65 ?_))
     refine bodyPost_ret (res_cell_tmp rfl rfl (setRow_heap _ _ _ _ _ _ e1) hu hd (by rw [size65, fa_size])) rfl ⟨?_, below_setRow hB Tw.om _⟩
     rw [← HR.out]
     rfl
   · obtain ⟨j, rfl⟩ : ∃ j, k = j + 1 := ⟨k - 1, by omega⟩
     have ej : (((j + 1 : Nat) : Int) - 1) = j := by omega
     rw [ej]
     clear ej
     have hj18 : (j : Int) < 18 := by omega
     have h1 := blk_cell e0 (i := j) Tw.om
     have h3 : wr.frozen? ⟨w.heap.size, j, none⟩ = false := blk_free e0
     have b1 := dg_lt P j
     have hbz : ((b : Int) != 0) = true := by simp; omega
     have hb0' : (1 : Int) ≤ b := by omega
     have F0 := Lib.hid e0
     have F1 := Lib.hid e1
     clear e0 e1
     have hr32 : r0 < 4294967296 := by omega
     have hor := or64 b1 hr32
     obtain ⟨t, ht⟩ : ∃ t, t = r0 * 4294967296 + dg P j := ⟨_, rfl⟩
     rw [← ht] at hor
     have ht64 : t < 18446744073709551616 := by omega
     have htb : t < b * 4294967296 := by
       have : (r0 + 1) * 4294967296 ≤ b * 4294967296 := Nat.mul_le_mul_right _ hr
       omega
     have HT := Lib.hid ht
     clear ht
     go_wp2
     go_roundw
     case rel =>
       have hv : t / b < 4294967296 := by rw [Nat.div_lt_iff_lt_mul hb0, Nat.mul_comm]; exact htb
       have ev : ((t : Int) / (b : Int)) = ((t / b : Nat) : Int) := rfl
       have er : ((t : Int) % (b : Int)) = ((t % b : Nat) : Int) := rfl
       have hda : dg P j = dg a j := by
         rw [← dg_mod (x := P) (k := j + 1) Tw.om, hm.out, dg_mod Tw.om]
       have hst := short_step (v := t / b) (r' := t % b) he.out (by rw [← hda, ← HT.out, Nat.mul_comm]; exact Nat.div_add_mod t b) hv
       rw [ev, er, wrapmod hv]
       refine ⟨j, t % b, setd P j (t / b), by omega, Nat.mod_lt _ hb0, hst, ?_, setd_lt hP Tw.om hv, rfl, rfl, ?_, ?_, ?_⟩
       · unfold Hid; rw [setd_mod, ← Nat.mod_mod_of_dvd P (show R j ∣ R (j + 1) from ⟨4294967296, by rw [R_succ, Nat.mul_comm]⟩), hm.out, Nat.mod_mod_of_dvd _ (show R j ∣ R (j + 1) from ⟨4294967296, by rw [R_succ, Nat.mul_comm]⟩)]
       · exact hB.setCell (Nat.le_refl _) _
       · exact blk_set F0.out Tw.om hv
       · rw [heap_setCell_other _ _ _ _ (by simp)]; exact F1.out
     case measure => (simp [intOf] <;> omega)
end Go.Proofs.YtalmflgkbmnghaaGreatDoor
namespace Go.Proofs.YtalmflgkbmnghaaGreatDoor
open Go.RowKit Tf
def strLen : Value → Nat
 | .string s => s.size
 | _ => 0
theorem ba_app (a b : List UInt8) : (⟨a.toArray⟩ : ByteArray) ++ ⟨b.toArray⟩ = ⟨(a ++ b).toArray⟩ := by
 apply ByteArray.ext
 rw [ByteArray.data_append]
 simp
theorem ba_drop (l : List UInt8) (i : Nat) : (⟨l.toArray⟩ : ByteArray).extract i l.length = ⟨(l.drop i).toArray⟩ := by
 apply ByteArray.ext
 rw [ByteArray.data_extract]
 simp
 rw [List.take_of_length_le (by simp)]
theorem ba_size (l : List UInt8) : (⟨l.toArray⟩ : ByteArray).size = l.length := by
 show l.toArray.size = l.length
 simp
theorem ret_txt {a b : ByteArray} (h : a = b) : Ending.returned (.string a) = .returned (.string b) := by rw [h]
def txt (l : List UInt8) : Value := .string ⟨l.toArray⟩
variable [ShSt]

set_option maxRecDepth 100000 in
set_option maxHeartbeats 1000000 in
theorem decimal_any (n : Nat) (hn : n < R 8) (w : World) (hE : Env w) :
   Calls Tryz.prog 62 #[num n] w fun e w' => e = .returned (txt (Lib.decDigits n)) ∧ Below w.heap.size w w' := by
 have HE := Lib.hid hE
 clear hE
 have hn18 : n < R 18 := lt_R_of_le hn Tw.om
 have HX := Lib.hid (⟨hn, hn18⟩ : n < R 8 ∧ n < R 18)
 clear hn hn18
 unfold num txt
 go_enter Tryz.func62, Tryz.ntmps62
 go_upto_region 1 with (fail)
 have hK := KS.one w (.cells (fa 8 (dg n)) 23)
 obtain ⟨W, hW⟩ : ∃ W, W = w.alloc (.cells (fa 8 (dg n)) 23) := ⟨_, rfl⟩
 rw [← hW] at hK
 rw [← hW]
 clear hW
 have HK := Lib.hid hK
 clear hK
 go_upto_region 3 with (first
   | (refine wpList_lda rfl rfl rfl (HK.out.2 _ Tw.m0) Tryz.underlying23 rfl size25 ?_)
   | (go_at_call 57; refine (widen_any n HX.out.1 _).mono ?_; rintro e w1 ⟨rfl, hb1⟩; have HK1 := Lib.hid (HK.out.below hb1); clear hb1)
   | (go_at_call 86; refine (divideShort_any n 1000000000 HX.out.2 Tw.om Tw.om _).mono ?_; rintro e w2 ⟨rfl, hb2⟩; have HK2 := Lib.hid (HK1.out.below hb2); clear hb2; unfold wid)
   | (refine wpList_sta (f := dg (n / 1000000000)) (f' := fun _ => 0) rfl rfl rfl rfl (heap1 w2 _) size65 ?_))
 have HK3 := Lib.hid (HK2.out.newvar (cs := fa 18 (fun _ => 0)) (cs' := fa 18 (dg (n / 1000000000))) (t := 76))
 have f1 := HK2.out.fresh.1
 have f2 := HK2.out.fresh.2 _ Tw.m0
 rw [← fa_zero18]
 generalize (w2.alloc (.cells (fa 18 (fun _ => 0)) 76)).setRow w2.heap.size (fa 18 (dg (n / 1000000000))) = W2 at *
 generalize w2.heap.size = g at *
 simp only at f2
 clear HK HK1 HK2
 go_loopw [3, 5] (fun t l wr => ∃ x : Nat, ∃ ls : List UInt8, x < R 8 ∧ t = .string ⟨ls.toArray⟩ ∧ l = .int .u32 ((x : Int) % 1000000000) ∧ Hid (Lib.decDigits n = Lib.decDigits x ++ ls) ∧ Hid (KS w [(g, .cells (fa 18 (dg (x / 1000000000))) 76 (0, 0)), (w.heap.size, .cells (fa 8 (dg n)) 23 (0, 0))] wr))
   (fun t _ _ => 100 - strLen t)
 case atStart => exact ⟨n, [], HX.out.1, rfl, rfl, by unfold Hid; simp, HK3⟩
 case round =>
   clear HK3
   obtain ⟨x, ls, hx, rfl, rfl, HD, HK⟩ := hrel
   have hx18 : x / 1000000000 < R 18 := Nat.lt_of_le_of_lt (Nat.div_le_self _ _) (lt_R_of_le hx Tw.om)
   have HX2 := Lib.hid (⟨hx, hx18⟩ : x < R 8 ∧ x / 1000000000 < R 18)
   have hlen : (Lib.decDigits n).length ≤ 78 := dec_length 77 n (Nat.lt_of_lt_of_le HX.out.1 (by unfold R; decide))
   rw [HD.out, List.length_append] at hlen
   have hpos := dec_pos x
   clear hx hx18
   by_cases h0 : x / 1000000000 = 0
   · have hq : (!decide (x / 1000000000 = 0)) = false := by simp [h0]
     have HQ := Lib.hid hq
     have h1 : (x : Int) % 1000000000 = x := by omega
     have H0 := Lib.hid h0
     clear hq h0
     have hls : ¬ 9223372036854775807 < (Lib.decDigits x).length + ls.length := by omega
     go_wp2_with (first
       | (refine wpList_lda rfl rfl rfl (HK.out.2 _ Tw.m0) Tryz.underlying76 rfl size65 ?_)
       | (refine wpList_bin (v := .bool false) (vx := .agg (fa 18 (dg (x / 1000000000)))) rfl rfl rfl rfl (fun w => run_neq65_nil HX2.out.2 HQ.out w) ?_)
       | (go_at_call 88; refine (itoa_any x (by have := H0.out; omega) _ (HE.out.keep HK.out.1)).mono ?_; rintro e w3 ⟨rfl, hb3⟩; have HK4 := Lib.hid (HK.out.below hb3); clear hb3))
     go_ret
     refine ⟨ret_txt ?_, HK4.out.1⟩
     rw [HD.out, ← ba_app]
   · have hq : (!decide (x / 1000000000 = 0)) = true := by simp [h0]
     have HI : Hid (∀ W, Env W → Calls Tryz.prog 88 #[.int .i64 (1000000000 + (x : Int) % 1000000000)] W fun e w' => e = .returned (.string ⟨(Lib.decDigits (1000000000 + x % 1000000000)).toArray⟩) ∧ Below W.heap.size W w') := fun W hW => by
       have := itoa_any (1000000000 + x % 1000000000) Tw.om W hW
       rw [show ((1000000000 + x % 1000000000 : Nat) : Int) = 1000000000 + (x : Int) % 1000000000 from by omega] at this
       exact this
     have hz1 := dec_tail (low := x % 1000000000) Tw.om
     have hz2 := congrArg List.length hz1
     rw [padL_length, List.length_drop] at hz2
     have HS := Lib.hid (dec_step h0)
     rw [← hz1] at HS
     clear hz1
     generalize Lib.decDigits (1000000000 + x % 1000000000) = z at *
     have hz3 : 10 ≤ z.length := by omega
     have hz4 : z.length ≤ 10 := by omega
     clear hz2
     have hzi : (1 : Int) ≤ (z.length : Int) := by omega
     have hls : ¬ 9223372036854775807 < z.length - 1 + ls.length := by omega
     have HQ := Lib.hid hq
     have H0 := Lib.hid h0
     clear hq h0
     go_wp2_with (first
       | (refine wpList_lda rfl rfl rfl (HK.out.2 _ Tw.m0) Tryz.underlying76 rfl size65 ?_)
       | (refine wpList_bin (v := .bool true) (vx := .agg (fa 18 (dg (x / 1000000000)))) rfl rfl rfl rfl (fun w => run_neq65_nil HX2.out.2 HQ.out w) ?_)
       | (go_at_call 88; refine (HI.out _ (HE.out.keep HK.out.1)).mono ?_; rintro e w3 ⟨rfl, hb3⟩; have HK4 := Lib.hid (HK.out.below hb3); clear hb3)
       | (refine wpList_lda rfl rfl rfl (HK4.out.2 _ Tw.m0) Tryz.underlying76 rfl size65 ?_)
       | (go_at_call 86; refine (divideShort_any (x / 1000000000) 1000000000 HX2.out.2 Tw.om Tw.om _).mono ?_; rintro e w5 ⟨rfl, hb5⟩; have HK5 := Lib.hid (HK4.out.below hb5); clear hb5; unfold wid)
       | (refine wpList_sta (f := dg (x / 1000000000 / 1000000000)) (f' := dg (x / 1000000000)) rfl rfl rfl rfl (HK5.out.2 _ Tw.m0) size65 ?_))
     go_roundw
     case rel =>
       refine ⟨x / 1000000000, z.drop 1 ++ ls, Nat.lt_of_le_of_lt (Nat.div_le_self _ _) HX2.out.1, by rw [ba_drop, ba_app], rfl, ?_, ?_⟩
       · unfold Hid; rw [HD.out, HS.out, List.append_assoc]
       · exact HK5.out.put (K' := [(g, .cells (fa 18 (dg (x / 1000000000 / 1000000000))) 76 (0, 0)), (w.heap.size, .cells (fa 8 (dg n)) 23 (0, 0))]) Tw.om Tw.m0
           (by intro p hp; simp only [List.mem_cons, List.not_mem_nil, or_false] at hp; rcases hp with rfl | rfl; exact .inl rfl; exact .inr ⟨by simp, by simp only; omega⟩)
     case measure =>
       unfold strLen
       simp only [ba_drop, ba_app, ba_size, List.length_append, List.length_drop]
       omega
end Go.Proofs.YtalmflgkbmnghaaGreatDoor
namespace Go.Proofs.YtalmflgkbmnghaaGreatDoor
open Go.RowKit Tf

theorem times_last {P x y c i n : Nat} (hy : y < R n) (hP : P < R (i + n)) (inv : P + c * R (i + n) = x % R i * y + dg x i * (y % R n) * R i) : setd P (i + n) c = x % R (i + 1) * y := by
 have h1 := setd_eq P (i + n) c
 rw [dg_of_lt hP, Nat.zero_mul, Nat.add_zero, inv, Nat.mod_eq_of_lt hy] at h1
 rw [h1, mod_succ]
 grind
theorem mulbd {x y : Nat} (hx : x < 4294967296) (hy : y < 4294967296) : (0 : Int) ≤ (x : Int) * y ∧ (x : Int) * y ≤ 18446744065119617025 := by
 have h : x * y ≤ 4294967295 * 4294967295 := Nat.mul_le_mul Tw.om Tw.om
 have e : (x : Int) * y = ((x * y : Nat) : Int) := by simp
 rw [e]; omega

set_option maxRecDepth 100000 in
set_option maxHeartbeats 1000000 in
theorem times_any (a b : Nat) (ha : a < R 8) (hb : b < R 8) (w : World) :
   Calls Tryz.prog 55 #[num a, num b] w fun e w' => e = .returned (wid (a * b)) ∧ Below w.heap.size w w' := by
 unfold num wid
 go_enter Tryz.func55, Tryz.ntmps55
 go_wp2
 obtain ⟨W, hW⟩ : ∃ W, W = (((w.alloc (.cells (fa 8 (dg a)) 23)).alloc (.cells (fa 8 (dg b)) 23)).alloc (.cells (fa 18 (fun _ => 0)) 76)).alloc (.cells (fa 18 (fun _ => 0)) 76) := ⟨_, rfl⟩
 have hh := heap4 w (.cells (fa 8 (dg a)) 23) (.cells (fa 8 (dg b)) 23) (.cells (fa 18 (fun _ => 0)) 76) (.cells (fa 18 (fun _ => 0)) 76)
 have hB := below4 w (.cells (fa 8 (dg a)) 23) (.cells (fa 8 (dg b)) 23) (.cells (fa 18 (fun _ => 0)) 76) (.cells (fa 18 (fun _ => 0)) 76)
 rw [fa_zero18] at hW
 rw [← hW]
 rw [fa_zero18, ← hW, ← fa_zero18] at hh
 rw [fa_zero18, ← hW] at hB
 clear hW
 obtain ⟨e0, e1, e2, e3⟩ := hh
 have E0 := Lib.hid e0
 have E1 := Lib.hid e1
 have E2 := Lib.hid e2
 have E3 := Lib.hid e3
 clear e0 e1 e2 e3
 have m0 := ln_le (dg a) 8
 have n0 := ln_le (dg b) 8
 have HM := Lib.hid (ln_lt 8 ha)
 have HN := Lib.hid (ln_lt 8 hb)
 go_quiet ((go_at_call 60; exact quiet_left (length_any _ 0 8 8 (dg _) _ Tw.om (fun i hi => by rw [Nat.zero_add]; first | exact blk_cell E0.out hi | exact blk_cell E1.out hi))))
 generalize ln (dg a) 8 = m at *
 generalize ln (dg b) 8 = n at *
 go_wp2
 go_loopw [17] (fun i wr => ∃ k P : Nat, k ≤ m ∧ Hid (P = a % R k * b) ∧ P < R (k + n) ∧ i = .int .i64 k ∧ Below w.heap.size w wr ∧
     wr.heap[w.heap.size]? = some (.cells (fa 8 (dg a)) 23 (0, 0)) ∧ wr.heap[w.heap.size + 1]? = some (.cells (fa 8 (dg b)) 23 (0, 0)) ∧ wr.heap[w.heap.size + 1 + 1]? = some (.cells (fa 18 (fun _ => 0)) 76 (0, 0)) ∧
     wr.heap[w.heap.size + 1 + 1 + 1]? = some (.cells (fa 18 (dg P)) 76 (0, 0)))
   (fun i _ => m - (intOf i).toNat)
 case atStart =>
   exact ⟨0, 0, Nat.zero_le _, by unfold Hid; rw [R_zero, Nat.mod_one, Nat.zero_mul], R_pos _, rfl, belowN hB _, E0.out, E1.out, E2.out, by rw [← fa_dg0]; exact E3.out⟩
 case round =>
   obtain ⟨k, P, hk, he, hP, rfl, hB, e0, e1, e2, e3⟩ := hrel
   have E0 := Lib.hid e0
   have E1 := Lib.hid e1
   have E2 := Lib.hid e2
   have E3 := Lib.hid e3
   clear e0 e1 e2 e3
   by_cases hlt : k < m
   · have hk8 : (k : Int) < 8 := by omega
     go_wp2
     go_loopw [9, 21] (fun c j wr => ∃ q c0 P : Nat, q ≤ n ∧ c0 < 4294967296 ∧ Hid (P + c0 * R (k + q) = a % R k * b + dg a k * (b % R q) * R k) ∧ P < R (k + n) ∧ c = .int .u64 c0 ∧ j = .int .i64 q ∧ Below w.heap.size w wr ∧
         wr.heap[w.heap.size]? = some (.cells (fa 8 (dg a)) 23 (0, 0)) ∧ wr.heap[w.heap.size + 1]? = some (.cells (fa 8 (dg b)) 23 (0, 0)) ∧ wr.heap[w.heap.size + 1 + 1]? = some (.cells (fa 18 (fun _ => 0)) 76 (0, 0)) ∧
         wr.heap[w.heap.size + 1 + 1 + 1]? = some (.cells (fa 18 (dg P)) 76 (0, 0)))
       (fun _ j _ => n - (intOf j).toNat)
     case atStart =>
       exact ⟨0, 0, P, Nat.zero_le _, by omega, by unfold Hid; rw [R_zero, Nat.mod_one, Nat.mul_zero, Nat.zero_mul, Nat.zero_mul]; exact congrArg (· + 0) he.out, hP, rfl, rfl, hB, E0.out, E1.out, E2.out, E3.out⟩
     case round =>
       obtain ⟨q, c0, P', hq, hc, he', hP', rfl, rfl, hB', e0, e1, e2, e3⟩ := hrel
       by_cases hlq : q < n
       · have hq8 : (q : Int) < 8 := by omega
         have hkq : (k : Int) + q < 18 := by omega
         have h1 := blk_cell e0 (i := k) Tw.om
         have h2 := blk_cell e1 (i := q) Tw.om
         have h3 := blk_cell e3 (i := k + q) Tw.om
         have h4 : wr.frozen? ⟨w.heap.size + 1 + 1 + 1, k + q, none⟩ = false := blk_free e3
         have b1 := dg_lt a k
         have b2 := dg_lt b q
         have b3 := dg_lt P' (k + q)
         obtain ⟨b4, b5⟩ := mulbd b1 b2
         have F0 := Lib.hid e0
         have F1 := Lib.hid e1
         have F2 := Lib.hid e2
         have F3 := Lib.hid e3
         clear e0 e1 e2 e3
         go_wp2
         go_quiet (fail)
         go_wp2
         go_roundw
         case rel =>
           obtain ⟨t, ht⟩ : ∃ t, t = dg a k * dg b q + dg P' (k + q) + c0 := ⟨_, rfl⟩
           have e : (dg a k : Int) * dg b q + dg P' (k + q) + c0 = (t : Int) := by rw [ht]; simp
           have hb := fits64 b1 b2 b3 hc
           rw [← ht] at hb
           have hv : t % 4294967296 < 4294967296 := Nat.mod_lt _ Tw.om
           rw [e, show (t : Int) % 4294967296 = ((t % 4294967296 : Nat) : Int) from by omega]
           refine ⟨q + 1, t / 4294967296, setd P' (k + q) (t % 4294967296), by omega, by omega, ?_, setd_lt hP' Tw.om hv, ?_, by go_num, ?_, ?_, ?_, ?_, ?_⟩
           · exact times_step he'.out Tw.om
           · exact congrArg (Value.int .u64) Tw.om
           · exact (belowN hB' _).setCell (by simp; omega) _
           · rw [heap_setCell_other _ _ _ _ (by simp; omega)]; exact F0.out
           · rw [heap_setCell_other _ _ _ _ (by simp)]; exact F1.out
           · rw [heap_setCell_other _ _ _ _ (by simp)]; exact F2.out
           · exact blk_set (w := wr.drewN _) F3.out Tw.om hv
         case measure => (simp [intOf] <;> omega)
       · obtain rfl : q = n := by omega
         have hkq : (k : Int) + q < 18 := by omega
         have h3 := blk_cell e3 (i := k + q) Tw.om
         have h4 : wr.frozen? ⟨w.heap.size + 1 + 1 + 1, k + q, none⟩ = false := blk_free e3
         have F0 := Lib.hid e0
         have F1 := Lib.hid e1
         have F2 := Lib.hid e2
         have F3 := Lib.hid e3
         clear e0 e1 e2 e3
         go_wp2
         go_roundw
         case rel =>
           refine ⟨k + 1, setd P' (k + q) c0, by omega, times_last HN.out hP' he'.out, ?_, by go_num, ?_, ?_, ?_, ?_, ?_⟩
           · exact setd_lt (lt_R_of_le hP' Tw.om) Tw.om hc
           · exact hB'.setCell (by simp; omega) _
           · rw [heap_setCell_other _ _ _ _ (by simp; omega)]; exact F0.out
           · rw [heap_setCell_other _ _ _ _ (by simp)]; exact F1.out
           · rw [heap_setCell_other _ _ _ _ (by simp)]; exact F2.out
           · exact blk_set F3.out Tw.om hc
         case measure => (simp [intOf] <;> omega)
   · obtain rfl : k = m := by omega
     have hfin : P = a * b := by rw [he.out, Nat.mod_eq_of_lt HM.out]
     subst hfin
     obtain ⟨d, hu, hd⟩ := under65
     go_wp2_with (first
       | (refine wpList_lda rfl rfl rfl E3.out hu hd size65 ?_)
       | (refine wpList_sta rfl rfl rfl rfl E2.out size65 ?_))
     exact bodyPost_ret (res_cell rfl rfl (setRow_heap _ _ _ _ _ _ E2.out) hu hd (by rw [size65, fa_size])) rfl ⟨rfl, below_setRow hB Tw.om _⟩
end Go.Proofs.YtalmflgkbmnghaaGreatDoor
namespace Go.Proofs.YtalmflgkbmnghaaGreatDoor
open Go.RowKit Tf

theorem dg_part {X m j i : Nat} (hm : m < R j) : dg (X * R j + m) (j + i) = dg X i := by
 rw [← dg_div, Nat.mul_comm, Nat.mul_add_div (R_pos j), Nat.div_eq_of_lt hm, Nat.add_zero]
theorem setd_part {X m j i v : Nat} (hm : m < R j) : setd (X * R j + m) (j + i) v = setd X i v * R j + m := by
 have h1 := setd_eq (X * R j + m) (j + i) v
 have h2 := setd_eq X i v
 rw [dg_part hm, R_add] at h1
 have h3 : (setd X i v + dg X i * R i) * R j = (X + v * R i) * R j := by rw [h2]
 rw [Nat.add_mul, Nat.add_mul, Nat.mul_assoc, Nat.mul_assoc, Nat.mul_comm (R i) (R j)] at h3
 generalize dg X i * (R j * R i) = y at *
 generalize v * (R j * R i) = z at *
 generalize setd X i v * R j = u at *
 generalize X * R j = t at *
 omega
theorem sub_facts {x l d c b : Nat} (hx : x < 4294967296) (hl : l < 4294967296) (hd : d < 4294967296) (hc : c < 4294967296) (hb : b ≤ 1) :
   ∃ v q c' b' : Nat, v < 4294967296 ∧ q < 4294967296 ∧ c' < 4294967296 ∧ b' ≤ 1 ∧ q + c' * 4294967296 = l * d + c ∧ v + q + b = x + b' * 4294967296 ∧
     ((l : Int) * d + c) / 4294967296 = c' ∧ 
     bits .and .u64 ((l : Int) * d + c) 4294967295 = q ∧
     IntKind.u64.wrap (IntKind.u64.wrap ((x : Int) - q) - b) % 4294967296 = v ∧ IntKind.u64.wrap (IntKind.u64.wrap ((x : Int) - q) - b) / 9223372036854775808 = b' := by
 have hb64 := fits64 hl hd hc (show 0 < 4294967296 by omega)
 have e : (l : Int) * d + c = ((l * d + c : Nat) : Int) := by simp
 rw [e]
 rw [Nat.add_zero] at hb64
 generalize l * d + c = n at *
 have hq : n % 4294967296 < 4294967296 := Nat.mod_lt _ Tw.om
 obtain ⟨v, b', hv, hb', h1, h2, h3⟩ := sub_limb hx hq hb
 have hand := Nat.and_two_pow_sub_one_eq_mod n 32
 rw [show (2 : Nat) ^ 32 - 1 = 4294967295 from rfl, show (2 : Nat) ^ 32 = 4294967296 from rfl] at hand
 refine ⟨v, n % 4294967296, n / 4294967296, b', hv, hq, by omega, hb', by omega, h1, rfl, ?_, h2, h3⟩
 rw [show (4294967295 : Int) = ((4294967295 : Nat) : Int) from rfl, u64_and_nat _ _ Tw.om Tw.om, hand]

set_option maxRecDepth 100000 in
set_option maxHeartbeats 1000000 in
theorem subtractTimes_any (b j d n cap cap' A D l N T T' : Nat) (hn : 2 ≤ n) (hn8 : n ≤ 8) (hN : j + n < N) (hN18 : N ≤ 18) (hA : A < R (j + (n + 1))) (hD : D < R n) (hD0 : 0 < D) (hl : l < 4294967296)
   (hl1 : A / R j / D ≤ l) (hl2 : l ≤ A / R j / D + 1) (hbd : b ≠ d) (w : World)
   (h0 : w.heap[b]? = some (.cells (fa N (dg A)) T (0, 0))) (h1 : w.heap[d]? = some (.cells (fa 8 (dg D)) T' (0, 0))) :
   Calls Tryz.prog 101 #[.slice (some ⟨b, j, none⟩) (n + 1) cap, .slice (some ⟨d, 0, none⟩) n cap', .int .u64 l] w
     fun e w' => e = .returned (.int .u32 ((A / R j / D : Nat) : Int)) ∧ w'.heap[b]? = some (.cells (fa N (dg (A / R j % D * R j + A % R j))) T (0, 0)) ∧ w.grownBy w' (some b) := by
 obtain ⟨m, hm⟩ : ∃ m, m = A % R j := ⟨_, rfl⟩
 obtain ⟨p, hp⟩ : ∃ p, p = A / R j := ⟨_, rfl⟩
 have hmR : m < R j := by rw [hm]; exact mod_lt_R _ _
 have hpR : p < R (n + 1) := by
   rw [hp, Nat.div_lt_iff_lt_mul (R_pos j), ← R_add, Nat.add_comm]; exact hA
 have hAp : A = p * R j + m := by
   rw [hp, hm, Nat.mul_comm]; exact (Nat.div_add_mod A (R j)).symm
 rw [← hm, ← hp]
 rw [← hp] at hl1 hl2
 rw [hAp] at h0
 clear hm hp hAp hA
 have H0 := Lib.hid h0
 have H1 := Lib.hid h1
 have HL1 := Lib.hid hl1
 have HL2 := Lib.hid hl2
 clear h0 h1 hl1 hl2
 go_enter Tryz.func101, Tryz.ntmps101
 go_wp2
 go_loopw [8, 9, 22] (fun x y i wr => ∃ k c0 b0 X : Nat, k ≤ n ∧ c0 < 4294967296 ∧ b0 ≤ 1 ∧ Hid (X + l * (D % R k) = p + (c0 + b0) * R k) ∧ X < R (n + 1) ∧ x = .int .u64 c0 ∧ y = .int .u64 b0 ∧ i = .int .i64 k ∧ w.grownBy wr (some b) ∧
     wr.heap[b]? = some (.cells (fa N (dg (X * R j + m))) T (0, 0)) ∧ wr.heap[d]? = some (.cells (fa 8 (dg D)) T' (0, 0)))
   (fun _ _ i _ => n - (intOf i).toNat)
 case atStart =>
   refine ⟨0, 0, 0, p, Nat.zero_le _, by omega, by omega, ?_, hpR, rfl, rfl, rfl, World.grownBy.refl w _, H0.out, H1.out⟩
   unfold Hid; rw [R_zero, Nat.mod_one]; omega
 case round =>
   obtain ⟨k, c0, b0, X, hk, hc, hb, he, hX, rfl, rfl, rfl, hB, e0, e1⟩ := hrel
   by_cases hlt : k < n
   · have c1 := blk_cell e0 (i := j + k) Tw.om
     rw [dg_part hmR] at c1
     have c2 := blk_cell e1 (i := k) Tw.om
     have c3 : wr.frozen? ⟨b, j + k, none⟩ = false := blk_free e0
     have b1 := dg_lt X k
     have b2 := dg_lt D k
     obtain ⟨b4, b5⟩ := mulbd hl b2
     obtain ⟨v, q, c', b', hv, hq, hc', hb', g1, g2, g3, g4, g5, g6⟩ := sub_facts b1 hl b2 hc hb
     have G5 := Lib.hid g5
     have G6 := Lib.hid g6
     have G1 := Lib.hid g1
     have G2 := Lib.hid g2
     clear g1 g2 g5 g6
     have E0 := Lib.hid e0
     have E1 := Lib.hid e1
     clear e0 e1
     go_wp2
     go_roundw
     case rel =>
       rw [G5.out, G6.out]
       refine ⟨k + 1, c', b', setd X k v, by omega, hc', hb', sub_step he.out G1.out (by have := G2.out; omega), setd_lt hX Tw.om hv, rfl, rfl, by go_num, only_setCell hB _, ?_, ?_⟩
       · rw [blk_set E0.out Tw.om hv, setd_part hmR]
       · rw [heap_setCell_other _ _ _ _ (fun h => hbd h.symm)]; exact E1.out
     case measure => (simp [intOf] <;> omega)
   · obtain rfl : k = n := by omega
     have c1 := blk_cell e0 (i := j + k) Tw.om
     rw [dg_part hmR] at c1
     have c3 : wr.frozen? ⟨b, j + k, none⟩ = false := blk_free e0
     have b1 := dg_lt X k
     obtain ⟨v, b', hv, hb', g1, g2, g3⟩ := sub_limb b1 hc hb
     have hX2 : setd X k v < R (k + 1) := setd_lt hX Tw.om hv
     have HS : Hid (setd X k v + l * D = p + b' * R (k + 1)) := sub_last hD he.out Tw.om
     have F0 : Hid ((wr.setCell ⟨b, j + k, none⟩ (.int .u32 v)).heap[b]? = some (.cells (fa N (dg (setd X k v * R j + m))) T (0, 0))) := by
       unfold Hid; rw [blk_set e0 Tw.om hv, setd_part hmR]
     have F1 : Hid ((wr.setCell ⟨b, j + k, none⟩ (.int .u32 v)).heap[d]? = some (.cells (fa 8 (dg D)) T' (0, 0))) := by
       unfold Hid; rw [heap_setCell_other _ _ _ _ (fun h => hbd h.symm)]; exact e1
     have HB2 : Hid (w.grownBy (wr.setCell ⟨b, j + k, none⟩ (.int .u32 v)) (some b)) := only_setCell hB _
     have G2 := Lib.hid g2
     have G3 := Lib.hid g3
     clear g1 g2 g3 e0 e1 he
     rcases Nat.eq_zero_or_pos b' with hz | hz
     · have hfin := sub_right (X := setd X k v) (P := p) (D := D) (l := l) (by have := HS.out; rw [hz, Nat.zero_mul] at this; omega) HL1.out hD0
       obtain ⟨f1, f2⟩ := hfin
       have FF1 := Lib.hid f1
       have FF2 := Lib.hid f2
       have G3' : Hid (IntKind.u64.wrap (IntKind.u64.wrap ((dg X k : Int) - c0) - b0) / 9223372036854775808 = 0) := by unfold Hid; rw [G3.out, hz]; rfl
       have g3 := G3'.out
       have g2 := G2.out
       clear f1 f2 G3 hz HS
       go_wp2
       go_ret
       exact ⟨ret_int (by rw [← FF1.out]), by rw [← FF2.out]; exact F0.out, HB2.out⟩
     · obtain rfl : b' = 1 := by omega
       have g3 := G3.out
       have g2 := G2.out
       obtain ⟨X', hX'⟩ : ∃ X', X' = setd X k v := ⟨_, rfl⟩
       rw [← hX'] at hX2 HS F0
       clear G3 hX'
       have g3' : IntKind.u64.wrap (IntKind.u64.wrap ((dg X k : Int) - c0) - b0) / 9223372036854775808 = 1 := g3
       clear g3
       go_wp2
       generalize wr.setCell ⟨b, j + k, none⟩ (.int .u32 v) = W at *
       clear hB hc hb g3' b1
       go_loopw [8, 74] (fun x i wr => ∃ q c0 Y : Nat, q ≤ k ∧ c0 ≤ 1 ∧ Hid (Y + c0 * R q = X' + D % R q) ∧ Y < R (k + 1) ∧ x = .int .u64 c0 ∧ i = .int .i64 q ∧ w.grownBy wr (some b) ∧
           wr.heap[b]? = some (.cells (fa N (dg (Y * R j + m))) T (0, 0)) ∧ wr.heap[d]? = some (.cells (fa 8 (dg D)) T' (0, 0)))
         (fun _ i _ => k - (intOf i).toNat)
       case atStart =>
         refine ⟨0, 0, X', Nat.zero_le _, by omega, ?_, hX2, rfl, rfl, HB2.out, F0.out, F1.out⟩
         unfold Hid; rw [R_zero, Nat.mod_one, Nat.zero_mul]
       case round =>
         obtain ⟨q, cc, Y, hq, hc, he, hY, rfl, rfl, hB, e0, e1⟩ := hrel
         by_cases hlt : q < k
         · have d1 := blk_cell e0 (i := j + q) Tw.om
           rw [dg_part hmR] at d1
           have d2 := blk_cell e1 (i := q) Tw.om
           have d3 : wr.frozen? ⟨b, j + q, none⟩ = false := blk_free e0
           have b1 := dg_lt Y q
           have b2 := dg_lt D q
           have E0 := Lib.hid e0
           have E1 := Lib.hid e1
           clear e0 e1
           go_wp2
           go_roundw
           case rel =>
             obtain ⟨t, ht⟩ : ∃ t, t = dg Y q + dg D q + cc := ⟨_, rfl⟩
             have hv2 : t % 4294967296 < 4294967296 := Nat.mod_lt _ Tw.om
             have et : ((dg Y q : Int) + dg D q + cc) = (t : Int) := by omega
             rw [et, show (t : Int) % 4294967296 = ((t % 4294967296 : Nat) : Int) from rfl]
             refine ⟨q + 1, t / 4294967296, setd Y q (t % 4294967296), by omega, by omega, plus_step he.out Tw.om, setd_lt hY Tw.om hv2, ?_, by go_num, only_setCell hB _, ?_, ?_⟩
             · exact congrArg (Value.int .u64) Tw.om
             · rw [blk_set E0.out Tw.om hv2, setd_part hmR]
             · rw [heap_setCell_other _ _ _ _ (fun h => hbd h.symm)]; exact E1.out
           case measure => (simp [intOf] <;> omega)
         · obtain rfl : q = k := by omega
           have d1 := blk_cell e0 (i := j + q) Tw.om
           rw [dg_part hmR] at d1
           have d3 : wr.frozen? ⟨b, j + q, none⟩ = false := blk_free e0
           have b1 := dg_lt Y q
           have E0 := Lib.hid e0
           clear e0 e1
           have hl0 : 1 ≤ l := by
             rcases Nat.eq_zero_or_pos l with h | h
             · exfalso
               have h1 := HS.out
               rw [h, Nat.zero_mul, Nat.one_mul] at h1
               omega
             · exact h
           have HE := he
           go_wp2
           obtain ⟨t, ht⟩ : ∃ t, t = dg Y q + cc := ⟨_, rfl⟩
           have hv2 : t % 4294967296 < 4294967296 := Nat.mod_lt _ Tw.om
           have hst : setd Y q (t % 4294967296) + t / 4294967296 * R (q + 1) = X' + D := by
             have h := plus_step (v := t % 4294967296) (c' := t / 4294967296) HE.out (by rw [dg_of_lt hD]; omega)
             rwa [Nat.mod_eq_of_lt (lt_R_of_le hD Tw.om)] at h
           obtain ⟨f1, f2⟩ := sub_wrong hX2 HS.out HL2.out hD0 hD hst (setd_lt hY Tw.om hv2)
           go_ret
           refine ⟨ret_int ?_, ?_, only_setCell hB _⟩
           · generalize p / D = z at *
             omega
           · rw [show ((dg Y q : Int) + cc) % 4294967296 = ((t % 4294967296 : Nat) : Int) from by omega, blk_set E0.out Tw.om hv2, setd_part hmR, f2]
end Go.Proofs.YtalmflgkbmnghaaGreatDoor
namespace Go.Proofs.YtalmflgkbmnghaaGreatDoor
open Go.RowKit Tf

theorem guess_small {l f r t : Nat} (he : l * f + r = t) (hr : 4294967296 ≤ r) (ht : t ≤ f * 4294967296 + 4294967295) : l < 4294967296 := by
 rcases Nat.lt_or_ge l 4294967296 with h | h
 · exact h
 · have := Nat.mul_le_mul_right f h
   omega
theorem guess_over {l r sd u : Nat} (hl : l < 4294967296) (hs : sd < 4294967296) (hr : 4294967296 ≤ r) : ¬ r * 4294967296 + u < l * sd := by
 have : l * sd ≤ 4294967295 * 4294967295 := Nat.mul_le_mul Tw.om Tw.om
 omega
theorem guess_end {p D k l f r t sd u : Nat} (he : l * f + r = t) (hD : D / R k = f * 4294967296 + sd) (hP : p / R k = t * 4294967296 + u) (hf : 1 ≤ f) (hl : l < 4294967296) (hc : ¬ r * 4294967296 + u < l * sd) : l ≤ p / D + 1 :=
 guess_most hl (by rw [hD]; omega) (Nat.le_of_not_lt fun h => hc ((guess_cond he hD hP).2 h))
theorem guess_great {p D k l f r t sd u : Nat} (he : l * f + r = t) (hD : D / R k = f * 4294967296 + sd) (hP : p / R k = t * 4294967296 + u) (hc : r * 4294967296 + u < l * sd) : p / D < l :=
 guess_more ((guess_cond he hD hP).1 hc)
theorem guess_down {l f r t : Nat} (he : l * f + r = t) (hl : 0 < l) : (l - 1) * f + (r + f) = t := by
 obtain ⟨x, rfl⟩ : ∃ x, l = x + 1 := ⟨l - 1, by omega⟩
 rw [Nat.add_sub_cancel]
 rw [Nat.add_mul, Nat.one_mul] at he
 omega

def GuessIs (p D : Nat) (w : World) (e : Ending) (w' : World) : Prop := ∃ l : Nat, p / D ≤ l ∧ l ≤ p / D + 1 ∧ l < 4294967296 ∧ e = .returned (.int .u64 l) ∧ Below w.heap.size w w'

set_option maxRecDepth 20000 in
set_option maxHeartbeats 1000000 in
theorem guess_any (b j d n cap cap' p D : Nat) (hn : 2 ≤ n) (hn8 : n ≤ 8) (hp : p < R (n + 1)) (hD : D < R n) (hDh : 2147483648 * R (n - 1) ≤ D) (hpD : p < D * 4294967296) (w : World)
   (h0 : ∀ i, i ≤ n → w.cell? ⟨b, j + i, none⟩ = some (.int .u32 (dg p i))) (h1 : ∀ i, i < n → w.cell? ⟨d, i, none⟩ = some (.int .u32 (dg D i))) :
   Calls Tryz.prog 102 #[.slice (some ⟨b, j, none⟩) (n + 1) cap, .slice (some ⟨d, 0, none⟩) n cap'] w (GuessIs p D w) := by
 obtain ⟨k, rfl⟩ : ∃ k, n = k + 2 := ⟨n - 2, by omega⟩
 have c0 := h0 k Tw.om
 have c1 := h0 (k + 1) Tw.om
 have c2 := h0 (k + 2) Tw.om
 have d0 := h1 k Tw.om
 have d1 := h1 (k + 1) Tw.om
 clear h0 h1
 have p0 := dg_lt p k
 have p1 := dg_lt p (k + 1)
 have p2 := dg_lt p (k + 2)
 have q0 := dg_lt D k
 have q1 := dg_lt D (k + 1)
 have q2 : 2147483648 ≤ dg D (k + 1) := by
   have h := div_one (x := D) (k := k + 1) hD
   rw [← h, Nat.le_div_iff_mul_le (R_pos _)]
   exact hDh
 have hD0 : 0 < D := by
   have := Nat.mul_le_mul_left 2147483648 (R_pos (k + 1))
   have h2 : 2147483648 * R (k + 1) ≤ D := hDh
   omega
 have hqlt : p / D < 4294967296 := by rw [Nat.div_lt_iff_lt_mul hD0, Nat.mul_comm]; exact hpD
 have hf1 : D / R (k + 1) = dg D (k + 1) := div_one hD
 have hf2 : D / R k = dg D (k + 1) * 4294967296 + dg D k := div_two hD
 have ht1 : p / R (k + 1) = dg p (k + 2) * 4294967296 + dg p (k + 1) := div_two hp
 have ht2 : p / R k = (dg p (k + 2) * 4294967296 + dg p (k + 1)) * 4294967296 + dg p k := div_three hp
 have hp2 : dg p (k + 2) ≤ dg D (k + 1) := by
   have h1 : p / R (k + 2) = dg p (k + 2) := div_one hp
   rw [← h1, ← hf1]
   have h2 : D < (D / R (k + 1) + 1) * R (k + 1) := by
     have := Nat.lt_div_mul_add (a := D) (R_pos (k + 1))
     rw [Nat.add_mul, Nat.one_mul]; omega
   have h3 : p < (D / R (k + 1) + 1) * R (k + 2) := by
     have h4 : R (k + 2) = 4294967296 * R (k + 1) := R_succ (k + 1)
     have h5 : (D / R (k + 1) + 1) * R (k + 2) = (D / R (k + 1) + 1) * R (k + 1) * 4294967296 := by rw [h4]; grind
     have h6 : D * 4294967296 ≤ (D / R (k + 1) + 1) * R (k + 1) * 4294967296 := Nat.mul_le_mul_right _ (Nat.le_of_lt h2)
     omega
   have := (Nat.div_lt_iff_lt_mul (R_pos (k + 2))).2 h3
   omega
 have hfirst : p / D ≤ p / R (k + 1) / (D / R (k + 1)) := guess_first (by rw [hf1]; omega)
 rw [ht1, hf1] at hfirst
 have hor := or64 p1 p2
 obtain ⟨f, hf⟩ : ∃ f, f = dg D (k + 1) := ⟨_, rfl⟩
 obtain ⟨t, ht⟩ : ∃ t, t = dg p (k + 2) * 4294967296 + dg p (k + 1) := ⟨_, rfl⟩
 obtain ⟨sd, hsd⟩ : ∃ sd, sd = dg D k := ⟨_, rfl⟩
 have htb : t ≤ f * 4294967296 + 4294967295 := by omega
 have ht64 : t < 18446744073709551616 := by omega
 rw [← ht] at hor ht2 hfirst
 rw [← hf] at hf2 hfirst q2 q1 d1
 rw [← hsd] at hf2 d0 q0
 have hl0 : t / f ≤ 4294967297 := by
   have : t / f < 4294967298 := by rw [Nat.div_lt_iff_lt_mul Tw.om]; omega
   omega
 have HF2 := Lib.hid hf2
 have HT2 := Lib.hid ht2
 have HQ := Lib.hid hfirst
 have HQL := Lib.hid hqlt
 have HL0 := Lib.hid hl0
 have hf0 : ((f : Int) != 0) = true := by simp; omega
 clear hf2 ht2 hf ht hsd hfirst hqlt hf1 ht1 hl0
 go_enter Tryz.func102, Tryz.ntmps102
 go_wp2
 go_quiet (fail)
 go_wp2
 go_quiet (fail)
 go_wp2
 go_quiet (fail)
 go_wp2
 go_loopw [9, 10] (fun x y wr => ∃ l r : Nat, Hid (l * f + r = t) ∧ Hid (p / D ≤ l) ∧ l ≤ 4294967297 ∧ r < 4294967296 ∧ x = .int .u64 l ∧ y = .int .u64 r ∧ Below w.heap.size w wr) (fun x _ _ => (intOf x).toNat)
 case atStart =>
   have e1 : IntKind.u64.wrap ((t : Int) / (f : Int)) = ((t / f : Nat) : Int) := by
     rw [show (t : Int) / (f : Int) = ((t / f : Nat) : Int) from rfl]
     have := HL0.out
     generalize t / f = v at *
     simp only [IntKind.wrap_u64]; omega
   rw [e1]
   have h1 := Nat.div_add_mod t f
   rw [Nat.mul_comm] at h1
   have h2 := Nat.mod_lt t (show 0 < f by omega)
   exact ⟨t / f, t % f, h1, HQ, HL0.out, by omega, rfl, rfl, belowN (belowN (belowN (Below.refl _ _) _) _) _⟩
 case round =>
   obtain ⟨l, r, he, hql, hl, hr, rfl, rfl, hBw⟩ := hrel
   have cw := (hBw.cell (p := ⟨b, j + k, none⟩) (block_lt_of_cell c0)).trans c0
   clear c0 c1 c2 d0 d1
   have hor2 := or64 p0 hr
   obtain ⟨u, hu⟩ : ∃ u, u = r * 4294967296 + dg p k := ⟨_, rfl⟩
   rw [← hu] at hor2
   have HU := Lib.hid hu
   clear hu
   have hf1 : 1 ≤ f := by omega
   have HTB := Lib.hid htb
   have HF1 := Lib.hid hf1
   have HP0 := Lib.hid p0
   have hl' : (l : Int) ≤ 4294967297 := by omega
   have hsum : (r : Int) + f < 18446744073709551616 := by omega
   have HSUM : ∀ c : Bool, decide (4294967296 ≤ r + f) = c → Hid (decide ((4294967296 : Int) ≤ (r : Int) + f) = c) := by
     intro c hc; unfold Hid
     have : (4294967296 : Int) ≤ (r : Int) + f ↔ 4294967296 ≤ r + f := by omega
     simp only [this, hc]
   clear hor htb ht64 q2 p1 p2 hp2 hf1
   by_cases hB : 4294967296 ≤ l
   · have h1 : Hid (decide ((4294967296 : Int) ≤ l) = true) := by unfold Hid; simp; omega
     have HG : Hid (p / D ≤ l - 1) := Nat.le_sub_one_of_lt (Nat.lt_of_lt_of_le HQL.out hB)
     have HE : Hid ((l - 1) * f + (r + f) = t) := guess_down he.out Tw.om
     have hlp : (1 : Int) ≤ l := by omega
     have HL : Hid (l - 1 ≤ 4294967297) := by unfold Hid; omega
     clear hB hl hor2 HU
     by_cases hb : 4294967296 ≤ r + f
     · have h2 := HSUM true (by simpa using hb)
       have HBB := Lib.hid hb
       clear HSUM hb
       go_wp2_with (first | (refine wpList_geq rfl true rfl rfl rfl h1.out ?_) | (refine wpList_geq rfl true rfl rfl rfl h2.out ?_; go_simp))
       go_ret
       have hs := guess_small HE.out HBB.out HTB.out
       exact ⟨l - 1, HG.out, guess_end HE.out HF2.out HT2.out HF1.out hs (guess_over hs q0 HBB.out), hs, ret_int Tw.om, hBw⟩
     · have h2 := HSUM false (by simpa using hb)
       have HBB : Hid (r + f < 4294967296) := by unfold Hid; omega
       clear HSUM hb
       go_wp2_with (first | (refine wpList_geq rfl true rfl rfl rfl h1.out ?_) | (refine wpList_geq rfl false rfl rfl rfl h2.out ?_; go_simp))
       go_roundw
       case rel => first | exact ⟨l - 1, r + f, HE, HG, HL.out, HBB.out, congrArg (Value.int .u64) Tw.om, congrArg (Value.int .u64) Tw.om, hBw⟩ | ((repeat apply Exists.intro); exact ⟨⟨l - 1, r + f, HE, HG, HL.out, HBB.out, congrArg (Value.int .u64) Tw.om, congrArg (Value.int .u64) Tw.om, hBw⟩, rfl⟩)
       case measure => (simp [intOf] <;> omega)
   · have hl32 : l < 4294967296 := by omega
     have h1 : Hid (decide ((4294967296 : Int) ≤ l) = false) := by unfold Hid; simp; omega
     obtain ⟨b4, b5⟩ := mulbd hl32 q0
     have HL32 := Lib.hid hl32
     have HQ0 := Lib.hid q0
     clear hB hl hl32 q0
     by_cases hc : u < l * sd
     · have hc1 : ((u : Nat) : Int) < (l : Int) * sd := by
         rw [show (l : Int) * sd = ((l * sd : Nat) : Int) from by simp]; omega
       have hgr : p / D < l := guess_great he.out HF2.out HT2.out (by rw [← HU.out]; exact hc)
       have hl0 : 0 < l := Nat.lt_of_le_of_lt (Nat.zero_le _) hgr
       have HG : Hid (p / D ≤ l - 1) := Nat.le_sub_one_of_lt hgr
       have HE : Hid ((l - 1) * f + (r + f) = t) := guess_down he.out hl0
       have hlp : (1 : Int) ≤ l := by omega
       have HL : Hid (l - 1 ≤ 4294967297) := by unfold Hid; omega
       clear hc hgr hl0 HU
       by_cases hb : 4294967296 ≤ r + f
       · have h2 := HSUM true (by simpa using hb)
         have HBB := Lib.hid hb
         clear HSUM hb
         go_wp2_with (first | (refine wpList_geq rfl false rfl rfl rfl h1.out ?_) | (refine wpList_geq rfl true rfl rfl rfl h2.out ?_; go_simp))
         go_ret
         have hs := guess_small HE.out HBB.out HTB.out
         exact ⟨l - 1, HG.out, guess_end HE.out HF2.out HT2.out HF1.out hs (guess_over hs HQ0.out HBB.out), hs, ret_int Tw.om, hBw⟩
       · have h2 := HSUM false (by simpa using hb)
         have HBB : Hid (r + f < 4294967296) := by unfold Hid; omega
         clear HSUM hb
         go_wp2_with (first | (refine wpList_geq rfl false rfl rfl rfl h1.out ?_) | (refine wpList_geq rfl false rfl rfl rfl h2.out ?_; go_simp))
         go_roundw
         case rel => first | exact ⟨l - 1, r + f, HE, HG, HL.out, HBB.out, congrArg (Value.int .u64) Tw.om, congrArg (Value.int .u64) Tw.om, hBw⟩ | ((repeat apply Exists.intro); exact ⟨⟨l - 1, r + f, HE, HG, HL.out, HBB.out, congrArg (Value.int .u64) Tw.om, congrArg (Value.int .u64) Tw.om, hBw⟩, rfl⟩)
         case measure => (simp [intOf] <;> omega)
     · have hc1 : decide (((u : Nat) : Int) < (l : Int) * sd) = false := by
         rw [show (l : Int) * sd = ((l * sd : Nat) : Int) from by simp]; simp; omega
       have HN : Hid (¬ r * 4294967296 + dg p k < l * sd) := by unfold Hid; rw [← HU.out]; exact hc
       clear hc HSUM HU
       go_wp2_with (first | (refine wpList_geq rfl false rfl rfl rfl h1.out ?_))
       go_ret
       exact ⟨l, hql.out, guess_end he.out HF2.out HT2.out HF1.out HL32.out HN.out, HL32.out, rfl, hBw⟩
end Go.Proofs.YtalmflgkbmnghaaGreatDoor
namespace Go.Proofs.YtalmflgkbmnghaaGreatDoor
open Go.RowKit Tf

theorem two_split {s : Nat} (hs : s < 32) : 2 ^ s * 2 ^ (32 - s) = 4294967296 := by
 rw [← Nat.pow_add, show s + (32 - s) = 32 from by omega]
theorem shl_facts {x s c : Nat} (hs : s < 32) (hx : x < 4294967296) (hc : c < 2 ^ s) :
   bits .or .u32 ((x : Int) * 2 ^ s % 4294967296) (c : Int) = (((x * 2 ^ s + c) % 4294967296 : Nat) : Int) ∧
   IntKind.u64.wrap ((x : Int) * 2 ^ s) / 4294967296 % 4294967296 = (((x * 2 ^ s + c) / 4294967296 : Nat) : Int) ∧ (x * 2 ^ s + c) / 4294967296 < 2 ^ s := by
 have hzy := two_split hs
 have e : ((2 : Int) ^ s) = ((2 ^ s : Nat) : Int) := by simp
 have hor := fun a => Nat.two_pow_add_eq_or_of_lt (i := s) (b := c) hc a
 have hz : 0 < 2 ^ s := Nat.pow_pos Tw.om
 have hy : 0 < 2 ^ (32 - s) := Nat.pow_pos Tw.om
 rw [e]
 generalize 2 ^ s = z at *
 generalize 2 ^ (32 - s) = y at *
 have hxz : x * z % 4294967296 = z * (x % y) := by rw [← hzy, Nat.mul_comm x z, Nat.mul_mod_mul_left]
 have hr : x % y < y := Nat.mod_lt _ hy
 have hlt : z * (x % y) + c < 4294967296 := by
   have : z * (x % y + 1) ≤ z * y := Nat.mul_le_mul_left _ hr
   rw [Nat.mul_add, Nat.mul_one, hzy] at this
   omega
 have hdm := Nat.div_add_mod x y
 have hs : x * z + c = 4294967296 * (x / y) + (z * (x % y) + c) := by
   rw [← hzy]
   have : x * z = (y * (x / y) + x % y) * z := by rw [hdm]
   rw [this]; grind
 have h1 : (x * z + c) % 4294967296 = z * (x % y) + c := by rw [hs, Nat.mul_add_mod, Nat.mod_eq_of_lt hlt]
 have h2 : (x * z + c) / 4294967296 = x / y := by rw [hs, Nat.mul_add_div Tw.om, Nat.div_eq_of_lt hlt, Nat.add_zero]
 have h3 : x / y < z := by rw [Nat.div_lt_iff_lt_mul hy, hzy]; exact hx
 have h4 : x * z / 4294967296 = x / y := by
   rw [← hzy, Nat.mul_comm x z, Nat.mul_div_mul_left _ _ hz]
 have hzl : z ≤ 4294967296 := by
   have : z * 1 ≤ z * y := Nat.mul_le_mul_left _ hy
   omega
 have hxz2 : x * z < 18446744073709551616 := by
   have : x * z ≤ 4294967295 * 4294967296 := Nat.mul_le_mul Tw.om hzl
   omega
 refine ⟨?_, ?_, by rw [h2]; exact h3⟩
 · rw [show ((x : Int) * (z : Int)) % 4294967296 = ((x * z % 4294967296 : Nat) : Int) from by simp, hxz, u32_or_nat _ _ Tw.om Tw.om, h1, ← hor]
 · rw [h2, show ((x : Int) * (z : Int)) = ((x * z : Nat) : Int) from by simp]
   simp only [IntKind.wrap_u64]
   rw [← h4]
   omega

set_option maxRecDepth 100000 in
set_option maxHeartbeats 1000000 in
theorem shiftLeft_any (b n cap s P T : Nat) (hn : n ≤ 18) (hs : s < 32) (hP : P * 2 ^ s < R n) (w : World) (h0 : w.heap[b]? = some (.cells (fa n (dg P)) T (0, 0))) :
   Calls Tryz.prog 100 #[.slice (some ⟨b, 0, none⟩) n cap, .int .i64 s] w fun e w' => e = .returned (.tuple #[]) ∧ w'.heap[b]? = some (.cells (fa n (dg (P * 2 ^ s))) T (0, 0)) ∧ w.grownBy w' (some b) := by
 have hs32 : (s : Int) < 32 := by omega
 have hs0 : (0 : Int) ≤ s := by omega
 have H0 := Lib.hid h0
 clear h0
 go_enter Tryz.func100, Tryz.ntmps100
 go_wp2
 go_loopw [4, 9] (fun c i wr => ∃ k c0 P' : Nat, k ≤ n ∧ c0 < 2 ^ s ∧ Hid (P' + c0 * R k = (P % R k) * 2 ^ s + 0 + P / R k * R k) ∧ Hid (P' / R k = P / R k) ∧ P' < R n ∧ c = .int .u32 c0 ∧ i = .int .i64 k ∧ w.grownBy wr (some b) ∧
     wr.heap[b]? = some (.cells (fa n (dg P')) T (0, 0)))
   (fun _ i _ => n - (intOf i).toNat)
 case atStart =>
   have hz : 0 < 2 ^ s := Nat.pow_pos Tw.om
   refine ⟨0, 0, P, Nat.zero_le _, hz, ?_, rfl, ?_, rfl, rfl, World.grownBy.refl w _, H0.out⟩
   · unfold Hid; rw [R_zero, Nat.mod_one, Nat.zero_mul, Nat.div_one]; omega
   · have : P * 1 ≤ P * 2 ^ s := Nat.mul_le_mul_left _ hz
     omega
 case round =>
   obtain ⟨k, c0, P', hk, hc, he, hd, hP', rfl, rfl, hB, e0⟩ := hrel
   by_cases hlt : k < n
   · have h1 := blk_cell e0 hlt
     have h3 : wr.frozen? ⟨b, k, none⟩ = false := blk_free e0
     have b1 := dg_lt P' k
     have E0 := Lib.hid e0
     clear e0
     go_wp2
     go_roundw
     case rel =>
       obtain ⟨f1, f2, f3⟩ := shl_facts hs b1 hc
       rw [f1, f2]
       have hda : dg P' k = dg P k := by unfold dg; rw [hd.out]
       have hv : (dg P' k * 2 ^ s + c0) % 4294967296 < 4294967296 := Nat.mod_lt _ Tw.om
       refine ⟨k + 1, (dg P' k * 2 ^ s + c0) / 4294967296, setd P' k ((dg P' k * 2 ^ s + c0) % 4294967296), by omega, f3, ?_, ?_, setd_lt hP' hlt hv, rfl, by go_num, ?_, ?_⟩
       · exact scale_step he.out hda Tw.om
       · unfold Hid; rw [setd_div _ _ _ hv]
         have h1 := div_succ P' k
         have h2 := div_succ P k
         have h3 := hd.out
         omega
       · exact only_setCell hB _
       · exact blk_set E0.out hlt hv
     case measure => (simp [intOf] <;> omega)
   · obtain rfl : k = n := by omega
     have hfin : P' = P * 2 ^ s := by
       have h := he.out
       have hPk : P < R k := by
         have : P * 1 ≤ P * 2 ^ s := Nat.mul_le_mul_left _ (Nat.pow_pos Tw.om)
         omega
       rw [Nat.mod_eq_of_lt hPk, Nat.div_eq_of_lt hPk] at h
       have h0 := R_pos k
       rcases Nat.eq_zero_or_pos c0 with h1 | h1
       · subst h1; omega
       · have : 1 * R k ≤ c0 * R k := Nat.mul_le_mul_right _ h1
         omega
     have HF := Lib.hid hfin
     clear hfin
     have E0 := Lib.hid e0
     clear e0 he hd
     go_wp2
     go_end0
     exact ⟨rfl, by rw [← HF.out]; exact E0.out, hB⟩
end Go.Proofs.YtalmflgkbmnghaaGreatDoor
namespace Go.Proofs.YtalmflgkbmnghaaGreatDoor
open Go.RowKit Tf

theorem shr_facts {x s H : Nat} (hs : s < 32) (hx : x < 4294967296) :
   bits .or .u32 ((x : Int) / 2 ^ s) ((H % 2 ^ s * 2 ^ (32 - s) : Nat) : Int) = ((H % 2 ^ s * 2 ^ (32 - s) + x / 2 ^ s : Nat) : Int) ∧
   (x : Int) * 4294967296 / 2 ^ s % 4294967296 = ((x % 2 ^ s * 2 ^ (32 - s) : Nat) : Int) ∧ H % 2 ^ s * 2 ^ (32 - s) + x / 2 ^ s < 4294967296 ∧
   (H * 4294967296 + x) / 2 ^ s = H / 2 ^ s * 4294967296 + (H % 2 ^ s * 2 ^ (32 - s) + x / 2 ^ s) ∧ (H * 4294967296 + x) % 2 ^ s = x % 2 ^ s := by
 have hzy := two_split hs
 have e : ((2 : Int) ^ s) = ((2 ^ s : Nat) : Int) := by simp
 have hz : 0 < 2 ^ s := Nat.pow_pos Tw.om
 have hy : 0 < 2 ^ (32 - s) := Nat.pow_pos Tw.om
 have hxz : x / 2 ^ s < 2 ^ (32 - s) := by rw [Nat.div_lt_iff_lt_mul hz, Nat.mul_comm, hzy]; exact hx
 have hor := Nat.two_pow_add_eq_or_of_lt (i := 32 - s) (b := x / 2 ^ s) hxz (H % 2 ^ s)
 rw [e]
 generalize 2 ^ s = z at *
 generalize 2 ^ (32 - s) = y at *
 have hr : H % z < z := Nat.mod_lt _ hz
 have hlt : H % z * y + x / z < 4294967296 := by
   have : (H % z + 1) * y ≤ z * y := Nat.mul_le_mul_right _ hr
   rw [Nat.add_mul, Nat.one_mul, hzy] at this
   omega
 have hdm := Nat.div_add_mod H z
 have hE : H * 4294967296 + x = z * (H * y) + x := by rw [← hzy]; grind
 have hA : x / z < 4294967296 := Nat.lt_of_le_of_lt (Nat.le_add_left _ _) hlt
 have hC : H % z * y < 4294967296 := Nat.lt_of_le_of_lt (Nat.le_add_right _ _) hlt
 refine ⟨?_, ?_, hlt, ?_, ?_⟩
 · rw [show (x : Int) / (z : Int) = ((x / z : Nat) : Int) from rfl, u32_or_nat _ _ hA hC, Nat.or_comm, Nat.mul_comm (H % z) y, hor]
 · have h1 : x * 4294967296 / z % 4294967296 = x % z * y := by
     rw [← hzy, Nat.mul_comm x (z * y), Nat.mul_assoc, Nat.mul_div_cancel_left _ hz, Nat.mul_comm y x, Nat.mul_mod_mul_right]
   rw [← h1]; rfl
 · rw [hE, Nat.mul_add_div hz]
   have : H * y = (z * (H / z) + H % z) * y := by rw [hdm]
   rw [this, ← hzy]; grind
 · rw [hE, Nat.mul_add_mod]

set_option maxRecDepth 100000 in
set_option maxHeartbeats 1000000 in
theorem shiftRight_any (b n cap s P T : Nat) (hn : n ≤ 18) (hs : s < 32) (hP : P < R n) (w : World) (h0 : w.heap[b]? = some (.cells (fa n (dg P)) T (0, 0))) :
   Calls Tryz.prog 103 #[.slice (some ⟨b, 0, none⟩) n cap, .int .i64 s] w fun e w' => e = .returned (.tuple #[]) ∧ w'.heap[b]? = some (.cells (fa n (dg (P / 2 ^ s))) T (0, 0)) ∧ w.grownBy w' (some b) := by
 have hs32 : (s : Int) < 32 := by omega
 have hs0 : (0 : Int) ≤ s := by omega
 have H0 := Lib.hid h0
 clear h0
 go_enter Tryz.func103, Tryz.ntmps103
 go_wp2
 go_loopw [4, 5] (fun c i wr => ∃ k P' : Nat, k ≤ n ∧ Hid (P' = P / R k / 2 ^ s * R k + P % R k) ∧ P' < R n ∧ c = .int .u32 ((P / R k % 2 ^ s * 2 ^ (32 - s) : Nat) : Int) ∧ i = .int .i64 ((k : Int) - 1) ∧ w.grownBy wr (some b) ∧
     wr.heap[b]? = some (.cells (fa n (dg P')) T (0, 0)))
   (fun _ i _ => (intOf i + 1).toNat)
 case atStart =>
   refine ⟨n, P, Nat.le_refl _, ?_, hP, ?_, rfl, World.grownBy.refl w _, H0.out⟩
   · unfold Hid; rw [Nat.div_eq_of_lt hP, Nat.zero_div, Nat.zero_mul, Nat.mod_eq_of_lt hP, Nat.zero_add]
   · rw [Nat.div_eq_of_lt hP, Nat.zero_mod, Nat.zero_mul]; rfl
 case round =>
   obtain ⟨k, P', hk, he, hP', rfl, rfl, hB, e0⟩ := hrel
   rcases Nat.eq_zero_or_pos k with rfl | hpos
   · have hfin : P' = P / 2 ^ s := by
       have h := he.out
       rwa [R_zero, Nat.div_one, Nat.mod_one, Nat.mul_one, Nat.add_zero] at h
     have HF := Lib.hid hfin
     clear hfin he
     have E0 := Lib.hid e0
     clear e0
     go_wp2
     go_end0
     exact ⟨rfl, by rw [← HF.out]; exact E0.out, hB⟩
   · obtain ⟨j, rfl⟩ : ∃ j, k = j + 1 := ⟨k - 1, by omega⟩
     have ej : (((j + 1 : Nat) : Int) - 1) = j := by omega
     rw [ej]
     clear ej
     have h1 := blk_cell e0 (i := j) Tw.om
     have h3 : wr.frozen? ⟨b, j, none⟩ = false := blk_free e0
     have b1 := dg_lt P' j
     have hjn : (j : Int) < n := by omega
     obtain ⟨hi, hhi⟩ : ∃ hi, hi = P / R (j + 1) % 2 ^ s * 2 ^ (32 - s) := ⟨_, rfl⟩
     rw [← hhi]
     have HH := Lib.hid hhi
     clear hhi
     have E0 := Lib.hid e0
     clear e0
     go_wp2
     go_roundw
     case rel =>
       obtain ⟨f1, f2, f3, f4, f5⟩ := shr_facts (H := P / R (j + 1)) hs b1
       rw [← HH.out] at f1 f3 f4
       have hda : dg P' j = dg P j := by
         have hm : P' % R (j + 1) = P % R (j + 1) := by
           rw [he.out, Nat.mul_comm, Nat.mul_add_mod, Nat.mod_mod]
         rw [← dg_mod (x := P') (k := j + 1) Tw.om, hm, dg_mod Tw.om]
       rw [f1, f2]
       rw [hda] at f1 f2 f3 f4 f5 ⊢
       rw [← div_succ] at f4 f5
       refine ⟨j, setd P' j (hi + dg P j / 2 ^ s), by omega, ?_, setd_lt hP' Tw.om f3, by rw [f5], rfl, only_setCell hB _, blk_set E0.out Tw.om f3⟩
       unfold Hid
       have g1 := setd_eq P' j (hi + dg P j / 2 ^ s)
       have g2 := he.out
       have g3 := mod_succ P j
       rw [hda] at g1
       rw [f4]
       have g4 : (P / R (j + 1) / 2 ^ s * 4294967296 + (hi + dg P j / 2 ^ s)) * R j = P / R (j + 1) / 2 ^ s * R (j + 1) + (hi + dg P j / 2 ^ s) * R j := by
         rw [R_succ]; grind
       omega
     case measure => (simp [intOf] <;> omega)
end Go.Proofs.YtalmflgkbmnghaaGreatDoor
/- What the proofs ask of math/bits.LeadingZeros32; the shelf's contract gives it (Si). -/
namespace Go.Proofs.YtalmflgkbmnghaaGreatDoor
open Go.RowKit Tf
class ShLZ : Prop where
 lz : ∀ (x : Nat), x < 4294967296 → 0 < x → ∀ w : World, Calls Tryz.prog 99 #[.int .u32 x] w fun e w' => (∃ s : Nat, s < 32 ∧ e = .returned (.int .i64 s) ∧ x * 2 ^ s < 4294967296 ∧ 2147483648 ≤ x * 2 ^ s) ∧ w = w'
end Go.Proofs.YtalmflgkbmnghaaGreatDoor
