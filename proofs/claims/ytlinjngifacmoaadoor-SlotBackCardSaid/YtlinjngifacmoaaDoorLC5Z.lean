import Derived.Test.YtlinjngifacmoaaDoorSB03
import Derived.Test.YtlinjngifacmoaaDoorSB01
import Derived.Test.YtlinjngifacmoaaDoorSB02
import Derived.Test.YtlinjngifacmoaaDoorSB00
import Derived.Test.YtlinjngifacmoaaDoorSB04
import Derived.Carry
import Derived.MapKept
import Derived.ChangeMaps5
import Derived.Maps.Range
/- SlotBack: the law holds for every input; no condition but the row's own. -/
set_option linter.unusedVariables false
set_option linter.unusedSimpArgs false
set_option linter.unusedSectionVars false
/- Ships that are not right, slots that there are not, texts that are no names. -/
namespace Go.Proofs.YtlinjngifacmoaaDoor
open Go Go.RowKit Tw
section
variable {cs : List Col} {os : List Cov} {x : Slt} {l : List UInt8}
theorem name_some (hr : rightX cs os = true) (h : isSlot cs x = true) : nameR cs os x = (nameX cs x, 0) := by
 unfold nameR; rw [if_pos hr, if_pos h]
theorem posT_pos {c : Col} (hc : c ∈ cs) (h : 1 ≤ c.tiers) : 1 ≤ posT cs := by
 induction cs with
 | nil => cases hc
 | cons d cs ih =>
   simp only [posT]
   rcases List.mem_cons.1 hc with rfl | hc
   · omega
   · have := ih hc; omega
theorem slots_40 {c : Col} (hc : c ∈ cs) (h : 1 ≤ c.tiers) : 0 < (slotsX cs 40).length := by
 rw [slots_len]
 have h1 := posT_pos hc h
 have h2 : (hsX 40).length = 1 := rfl
 rw [h2]; omega
theorem nameX_len (cs : List Col) (x : Slt) : (nameX cs x).length = 7 := rfl
end
end Go.Proofs.YtlinjngifacmoaaDoor
/- Ships that are moved; all their slots, whose names differ. -/
namespace Go.Proofs.YtlinjngifacmoaaDoor
open Go Go.RowKit Tw
def mvC (d e : Int) (c : Col) : Col := { c with bay := c.bay + d, row := c.row + e }
def mvO (d e : Int) (o : Cov) : Cov := { o with bay := o.bay + d, rows := o.rows.map (· + e) }
def mvP (d e : Int) (o : Int × List Int) : Int × List Int := (o.1 + d, o.2.map (· + e))
theorem small_add {cs : List Col} {c : Col} (h : ∀ x ∈ cs, x.bay ≤ 4 ∧ x.row ≤ 4) (hc : c.bay ≤ 4 ∧ c.row ≤ 4) : ∀ x ∈ addC cs c, x.bay ≤ 4 ∧ x.row ≤ 4 := by
 unfold addC
 split
 · exact h
 · intro x hx
   rcases List.mem_append.1 hx with hx | hx
   · exact h x hx
   · cases List.mem_singleton.1 hx; exact hc
theorem bld_small (l : List Pl) : ∀ c ∈ bld l, c.bay ≤ 4 ∧ c.row ≤ 4 := by
 have key : ∀ (l : List Pl) (cs : List Col), (∀ x ∈ cs, x.bay ≤ 4 ∧ x.row ≤ 4) → ∀ c ∈ l.foldl (fun cs p => addC cs (colOf p)) cs, c.bay ≤ 4 ∧ c.row ≤ 4 := by
   intro l
   induction l with
   | nil => intro cs h; exact h
   | cons p l ih =>
     intro cs h
     refine ih _ (small_add h ?_)
     show ((p.bay % 5 : Nat) : Int) ≤ 4 ∧ ((p.row % 5 : Nat) : Int) ≤ 4
     omega
 exact key l [] fun c hc => by cases hc
theorem built_small (l : List Pl) : ∀ c ∈ builtC l, c.bay ≤ 4 ∧ c.row ≤ 4 := by
 unfold builtC
 split
 · intro c hc
   cases List.mem_singleton.1 hc
   decide
 · exact bld_small _
section
variable {d e : Int}
theorem colx_mv {c : Col} (h : colX c = true) (hb : c.bay ≤ 4 ∧ c.row ≤ 4) (hd : 0 ≤ d ∧ d ≤ 35) (he : 0 ≤ e ∧ e ≤ 26) : colX (mvC d e c) = true := by
 have h0 := colx_in h
 unfold colX rangesX at *
 simp only [rgsX, mvC, Bool.and_eq_true, Bool.not_eq_true', decide_eq_false_iff_not] at *
 refine ⟨?_, h.2⟩
 and_intros <;> first | exact decide_eq_false Tw.om | omega | trivial
theorem good_mv {cs : List Col} (hg : Good cs) (hs : ∀ c ∈ cs, c.bay ≤ 4 ∧ c.row ≤ 4) (hd : 0 ≤ d ∧ d ≤ 35) (he : 0 ≤ e ∧ e ≤ 26) : Good (cs.map (mvC d e)) := by
 refine ⟨fun c hc => ?_, ?_⟩
 · obtain ⟨b, hb, rfl⟩ := List.mem_map.1 hc
   exact ⟨colx_mv (hg.1 b hb).1 (hs b hb) hd he, (hg.1 b hb).2⟩
 · have h1 : (cs.map (mvC d e)).map placeX = (cs.map placeX).map (fun p => (p.1 + d, p.2.1 + e, p.2.2)) := by
     rw [List.map_map, List.map_map]; rfl
   rw [h1]
   refine List.pairwise_map.2 (hg.2.imp fun {a b} h q => h ?_)
   obtain ⟨a1, a2, a3⟩ := a
   obtain ⟨b1, b2, b3⟩ := b
   simp only [Prod.mk.injEq] at q ⊢
   omega
theorem ovp_mv {o : Int × List Int} (ho : o ∈ fullO) (hd : 0 ≤ d ∧ d ≤ 35) (he : 0 ≤ e ∧ e ≤ 26) : ovP (mvP d e o) = true := by
 simp only [fullO, List.mem_cons, List.not_mem_nil, or_false] at ho
 rcases ho with rfl | rfl | rfl | rfl | rfl | rfl | rfl | rfl | rfl | rfl <;>
 · simp only [ovP, mvP, incX, incF, List.map_cons, List.map_nil, List.length_cons, List.length_nil, Bool.and_eq_true, decide_eq_true_eq]
   and_intros <;> first | exact decide_eq_true Tw.om | omega | trivial
theorem keys_mv (ov : List (Int × List Int)) : keysO (ov.map (mvP d e)) = (keysO ov).map (fun p => (p.1 + d, p.2 + e)) := by
 induction ov with
 | nil => rfl
 | cons o ov ih =>
   unfold keysO at *
   rw [List.map_cons, List.flatMap_cons, List.flatMap_cons, List.map_append, ih]
   congr 1
   unfold mvP
   rw [List.map_map, List.map_map]
   rfl
theorem ovs_mv {os : List Cov} (ho : GoodO (os.map fun o => (o.bay, o.rows))) (hd : 0 ≤ d ∧ d ≤ 35) (he : 0 ≤ e ∧ e ≤ 26) : ovsX (os.map (mvO d e)) = true := by
 obtain ⟨_, h2, h3, _⟩ := goodO_in ho
 refine ovs_right (ov := (os.map fun o => (o.bay, o.rows)).map (mvP d e)) (by rw [List.map_map, List.map_map]; rfl) (fun o hm => ?_) ?_ (by rw [List.length_map]; omega)
 · obtain ⟨b, hb, rfl⟩ := List.mem_map.1 hm
   exact ovp_mv (ho.subset hb) hd he
 · rw [keys_mv]
   refine List.pairwise_map.2 (h2.imp fun {a b} h q => h ?_)
   obtain ⟨a1, a2⟩ := a
   obtain ⟨b1, b2⟩ := b
   simp only [Prod.mk.injEq] at q ⊢
   omega
theorem right_mv {cs : List Col} {os : List Cov} (hg : Good cs) (hs : ∀ c ∈ cs, c.bay ≤ 4 ∧ c.row ≤ 4) (h0 : 0 < cs.length) (h12 : cs.length ≤ 12) (ho : GoodO (os.map fun o => (o.bay, o.rows))) (hd : 0 ≤ d ∧ d ≤ 35) (he : 0 ≤ e ∧ e ≤ 26) : rightX (cs.map (mvC d e)) (os.map (mvO d e)) = true := by
 unfold rightX
 rw [cols_good (good_mv hg hs hd he) (by rw [List.length_map]; exact h0) (by rw [List.length_map]; omega), ovs_mv ho hd he]; rfl
end
theorem mix_set {α : Type} {l : List α} {k : Nat} {x : α} (f : α → α) (h : l[k]? = some x) : ((l.take k).map f ++ l.drop k).set k (f x) = (l.take (k + 1)).map f ++ l.drop (k + 1) := by
 obtain ⟨hk, rfl⟩ := List.getElem?_eq_some_iff.1 h
 have hl : ((l.take k).map f).length = k := by rw [List.length_map, List.length_take, Nat.min_eq_left Tw.om]
 rw [List.set_append_right _ _ Tw.om, hl, Nat.sub_self, List.drop_eq_getElem_cons hk, List.take_succ_eq_append_getElem hk, List.map_append, List.append_assoc]
 rfl
theorem mix_at {α : Type} {l : List α} {k : Nat} {x : α} (f : α → α) (h : l[k]? = some x) : ((l.take k).map f ++ l.drop k)[k]? = some x := by
 obtain ⟨hk, rfl⟩ := List.getElem?_eq_some_iff.1 h
 have hl : ((l.take k).map f).length = k := by rw [List.length_map, List.length_take, Nat.min_eq_left Tw.om]
 rw [List.getElem?_append_right Tw.om, hl, Nat.sub_self, List.drop_eq_getElem_cons hk]
 rfl
theorem mix_len {α : Type} (l : List α) (k : Nat) (f : α → α) : ((l.take k).map f ++ l.drop k).length = l.length := by
 rw [List.length_append, List.length_map, ← List.length_append, List.take_append_drop]
theorem mix_end {α : Type} {l : List α} {k : Nat} (f : α → α) (h : ¬ k < l.length) : (l.take k).map f ++ l.drop k = l.map f := by
 rw [List.take_of_length_le Tw.om, List.drop_eq_nil_of_le Tw.om, List.append_nil]
-- all slots of a ship
def everyX (cs : List Col) : List Slt := slotsX cs 20 ++ slotsX cs 40
theorem every_slot {cs : List Col} {k : Nat} {x : Slt} (hx : (everyX cs)[k]? = some x) : isSlot cs x = true := by
 unfold isSlot
 rcases List.mem_append.1 (List.mem_of_getElem? hx) with h | h
 · rw [slots_mem.1 h]; rfl
 · rw [slots_mem.1 h, Bool.or_true]
theorem ltS_ne {a b : Slt} (h : ltS a b) : a ≠ b := by
 rintro rfl
 unfold ltS at h
 omega
theorem every_nodup (cs : List Col) : (everyX cs).Nodup := by
 unfold everyX
 refine List.nodup_append.2 ⟨(slots_pw cs 20).imp ltS_ne, (slots_pw cs 40).imp ltS_ne, fun a ha b hb e => ?_⟩
 subst e
 have h1 := slots_mem.1 ha
 have h2 := slots_mem.1 hb
 unfold rightS at h1 h2
 rw [Bool.and_eq_true] at h1 h2
 have h3 := hasH_iff.1 h1.2
 have h4 := hasH_iff.1 h2.2
 rcases hsX_mem h3 with ⟨_, h⟩ | ⟨h, _⟩
 · rcases hsX_mem h4 with ⟨h5, _⟩ | ⟨_, h5⟩
   · cases h5
   · omega
 · cases h
theorem name_new {cs : List Col} {os : List Cov} {k : Nat} {x : Slt} (hr : rightX cs os = true) (hx : (everyX cs)[k]? = some x) : nameX cs x ∉ ((everyX cs).take k).map (nameX cs) := fun h => by
 obtain ⟨y, hy, he⟩ := List.mem_map.1 h
 obtain ⟨j, hj⟩ := List.getElem?_of_mem hy
 have hjk : j < k := by
   have := (List.getElem?_eq_some_iff.1 hj).1
   rw [List.length_take] at this
   omega
 rw [List.getElem?_take, if_pos hjk] at hj
 have h1 := find_name hr (every_slot hx)
 have h2 := find_name hr (every_slot hj)
 rw [he, h1] at h2
 have h3 : x = y := congrArg Prod.fst h2
 subst h3
 obtain ⟨q1, q2⟩ := List.getElem?_eq_some_iff.1 hj
 obtain ⟨q3, q4⟩ := List.getElem?_eq_some_iff.1 hx
 have := List.pairwise_iff_getElem.1 (every_nodup cs) j k q1 q3 hjk
 exact this (q2.trans q4.symm)
theorem every_len {cs : List Col} (hg : Good cs) (h12 : cs.length ≤ 12) : (everyX cs).length ≤ 8000 := by
 unfold everyX
 rw [List.length_append, slots_len, slots_len]
 have h3 := posT_le (cs := cs) (m := 10) fun c hc => by have := colx_in (hg.1 c hc).1; omega
 have h5 : posT cs * (hsX 20).length ≤ 120 * 2 := Nat.mul_le_mul Tw.om (hsX_len _)
 have h6 : posT cs * (hsX 40).length ≤ 120 * 2 := Nat.mul_le_mul Tw.om (hsX_len _)
 omega
theorem every_pos {cs : List Col} (hg : Good cs) (h0 : 0 < cs.length) : 0 < (everyX cs).length := by
 unfold everyX
 rw [List.length_append]
 have h := slots_40 (List.getElem_mem h0) (by have := colx_in (hg.1 _ (List.getElem_mem h0)).1; omega)
 omega
end Go.Proofs.YtlinjngifacmoaaDoor
/- Records in a block that are written; ships that are not right: plain facts. -/
namespace Go.Proofs.YtlinjngifacmoaaDoor
open Go Go.RowKit Tw
def RowR {α : Type} (cells : α → List Value) (cur : Array Value) (l : List α) : Prop := ∃ rest, cur.toList = l.flatMap cells ++ rest
section
variable {α : Type} {cells : α → List Value} {sz : Nat} {cur : Array Value} {l : List α} {k j : Nat} {c c' : α} {v : Value}
theorem RowR.get (h : RowR cells cur l) (hc : ∀ y, (cells y).length = sz) (hk : l[k]? = some c) : ∀ (j : Nat) (v : Value), (cells c)[j]? = some v → cur[0 + k * sz + j]? = some v := fun j v hv => by
 obtain ⟨rest, h⟩ := h
 have h1 := flat_get hc hk hv
 rw [← Array.getElem?_toList, h, Nat.zero_add, List.getElem?_append_left (List.getElem?_eq_some_iff.1 h1).1, h1]
theorem flat_set (hc : ∀ y, (cells y).length = sz) (hk : l[k]? = some c) (hj : j < sz) (he : cells c' = (cells c).set j v) : (l.flatMap cells).set (k * sz + j) v = (l.set k c').flatMap cells := by
 obtain ⟨hkl, hkc⟩ := List.getElem?_eq_some_iff.1 hk
 have e1 := er_split hk
 have hl : ((l.take k).flatMap cells).length = k * sz := by rw [flat_len hc, List.length_take, Nat.min_eq_left Tw.om]
 rw [show l.set k c' = l.take k ++ c' :: l.drop (k + 1) from by rw [List.set_eq_take_append_cons_drop, if_pos hkl], List.flatMap_append, List.flatMap_cons, he]
 conv => lhs; rw [e1, List.flatMap_append, List.flatMap_cons]
 rw [List.set_append_right _ _ (by rw [hl]; omega), hl, Nat.add_sub_cancel_left, List.set_append_left _ _ (by rw [hc]; exact hj)]
theorem RowR.set (h : RowR cells cur l) (hc : ∀ y, (cells y).length = sz) (hk : l[k]? = some c) (hj : j < sz) (he : cells c' = (cells c).set j v) : RowR cells (cur.setIfInBounds (0 + k * sz + j) v) (l.set k c') := by
 obtain ⟨rest, h⟩ := h
 refine ⟨rest, ?_⟩
 have hkl := (List.getElem?_eq_some_iff.1 hk).1
 have hlt : k * sz + j < (l.flatMap cells).length := by
   rw [flat_len hc]
   have : (k + 1) * sz ≤ l.length * sz := Nat.mul_le_mul_right _ hkl
   rw [Nat.succ_mul] at this; omega
 rw [Array.toList_setIfInBounds, h, Nat.zero_add, List.set_append_left _ _ hlt, flat_set hc hk hj he]
end
-- what is wrong
section
variable {cs : List Col} {os : List Cov}
end
end Go.Proofs.YtlinjngifacmoaaDoor
namespace Go.Proofs.YtlinjngifacmoaaDoor
open Go Go.RowKit Tw
end Go.Proofs.YtlinjngifacmoaaDoor
/- Maps whose keys are texts, among known blocks: what their entries are. Over any program. -/
namespace Tw
open Go Go.RowKit Go.Proofs.YtlinjngifacmoaaDoor
def MapS (es : Array MapEntry) (L : List (List UInt8 × Value)) : Prop := es.toList.map (fun e => (e.key, e.val)) = L.map fun x => (strV x.1, x.2)
def lkL (k : List UInt8) : List (List UInt8 × Value) → Nat → Option (Nat × Value)
 | [], _ => none
 | x :: L, i => if k = x.1 then some (i, x.2) else lkL k L (i + 1)
def mget (L : List (List UInt8 × Value)) (k : List UInt8) : Option Value := (lkL k L 0).map (·.2)
def mputL (L : List (List UInt8 × Value)) (k : List UInt8) (v : Value) : List (List UInt8 × Value) := match lkL k L 0 with
 | some x => L.set x.1 (k, v)
 | none => L ++ [(k, v)]
def mput (es : Array MapEntry) (cl : Nat) (k : List UInt8) (v : Value) : Array MapEntry × Nat := match Instr.findNow .string (strV k) es.toList 0 with
 | some (some x) => (es.modify x.1 fun e => { e with key := strV k, val := v }, cl)
 | _ => (es.push { key := strV k, val := v, born := cl }, cl + 1)
theorem same_str (a b : List UInt8) : Instr.sameNow .string (strV a) (strV b) = some (decide (a = b)) := by
 have : ((⟨a.toArray⟩ : ByteArray) == ⟨b.toArray⟩) = decide (a = b) := by
   show (a.toArray == b.toArray) = _
   rw [Bool.eq_iff_iff]; simp
 unfold strV Instr.sameNow
 simp only [this]
theorem find_str (k : List UInt8) : ∀ (es : List MapEntry) (L : List (List UInt8 × Value)) (i : Nat), es.map (fun e => (e.key, e.val)) = L.map (fun x => (strV x.1, x.2)) → Instr.findNow .string (strV k) es i = some (lkL k L i)
 | [], [], _, _ => rfl
 | [], _ :: _, _, h => by cases h
 | _ :: _, [], _, h => by cases h
 | e :: es, x :: L, i, h => by
   rw [List.map_cons, List.map_cons] at h
   obtain ⟨h1, h2⟩ := List.cons.inj h
   obtain ⟨hk, hv⟩ := Prod.mk.inj h1
   have ih := find_str k es L (i + 1) h2
   unfold Instr.findNow lkL
   rw [hk, same_str]
   by_cases hx : k = x.1
   · rw [if_pos hx, decide_eq_true hx, hv]
   · rw [if_neg hx, decide_eq_false hx]; exact ih
theorem lk_lt {k : List UInt8} : ∀ {L : List (List UInt8 × Value)} {i : Nat} {x : Nat × Value}, lkL k L i = some x → i ≤ x.1 ∧ x.1 < i + L.length
 | [], _, _, h => by cases h
 | y :: L, i, x, h => by
   unfold lkL at h
   split at h
   · cases h; simp
   · have := lk_lt h; simp only [List.length_cons]; omega
theorem lk_key {k : List UInt8} : ∀ {L : List (List UInt8 × Value)} {i : Nat} {x : Nat × Value} , lkL k L i = some x → ∀ {y : List UInt8 × Value}, L[x.1 - i]? = some y → k = y.1
 | [], _, _, h, _, _ => by cases h
 | z :: L, i, x, h, y, hy => by
   unfold lkL at h
   split at h
   · rename_i hz
     cases h
     simp at hy
     rw [← hy]; exact hz
   · have hl := lk_lt h
     rw [show x.1 - i = (x.1 - (i + 1)) + 1 from by omega, List.getElem?_cons_succ] at hy
     exact lk_key h hy
theorem lk_app {k k' : List UInt8} {v : Value} : ∀ (L : List (List UInt8 × Value)) (i : Nat), lkL k' L i = none → (lkL k (L ++ [(k', v)]) i).map (·.2) = if k = k' then some v else (lkL k L i).map (·.2)
 | [], i, _ => by simp only [List.nil_append, lkL]; split <;> rfl
 | y :: L, i, h => by
   have h0 := h
   unfold lkL at h
   split at h
   · cases h
   · rename_i hy
     simp only [List.cons_append, lkL]
     by_cases hk : k = y.1
     · rw [if_pos hk, if_neg (by rw [hk]; exact fun e => hy e.symm), if_pos hk]
     · rw [if_neg hk, if_neg hk]; exact lk_app L (i + 1) h
theorem lk_set {k k' : List UInt8} {v : Value} : ∀ (L : List (List UInt8 × Value)) (i : Nat) (x : Nat × Value), lkL k' L i = some x → (lkL k (L.set (x.1 - i) (k', v)) i).map (·.2) = if k = k' then some v else (lkL k L i).map (·.2)
 | [], _, _, h => by cases h
 | y :: L, i, x, h => by
   unfold lkL at h
   split at h
   · rename_i hy
     cases h
     simp only [Nat.sub_self, List.set_cons_zero, lkL]
     by_cases hk : k = k'
     · rw [if_pos hk, if_pos hk]; rfl
     · rw [if_neg hk, if_neg hk, if_neg (by rw [← hy]; exact hk)]
   · rename_i hy
     have hl := lk_lt h
     rw [show x.1 - i = (x.1 - (i + 1)) + 1 from by omega, List.set_cons_succ]
     simp only [lkL]
     by_cases hk : k = y.1
     · rw [if_pos hk, if_neg (by rw [hk]; exact fun e => hy e.symm), if_pos hk]
     · rw [if_neg hk, if_neg hk]; exact lk_set L (i + 1) x h
theorem mget_put (L : List (List UInt8 × Value)) (k k' : List UInt8) (v : Value) : mget (mputL L k' v) k = if k = k' then some v else mget L k := by
 unfold mget mputL
 cases h : lkL k' L 0 with
 | none => exact lk_app L 0 h
 | some x => exact lk_set L 0 x h
theorem MapS.nil : MapS #[] [] := rfl
theorem map_modify (l : List MapEntry) (f : MapEntry → MapEntry) (g : MapEntry → Value × Value) (y : Value × Value) (hf : ∀ e, g (f e) = y) : ∀ (i : Nat), i < l.length → (l.modify i f).map g = (l.map g).set i y := by
 induction l with
 | nil => intro i h; simp at h
 | cons e l ih =>
   intro i h
   cases i with
   | zero => simp [hf]
   | succ i => simp only [List.modify_succ_cons, List.map_cons, List.set_cons_succ]; rw [ih i (by simpa using h)]
theorem MapS.put {es : Array MapEntry} {L : List (List UInt8 × Value)} (h : MapS es L) (cl : Nat) (k : List UInt8) (v : Value) : MapS (mput es cl k v).1 (mputL L k v) := by
 have hf := find_str k _ _ 0 h
 have hlen : es.toList.length = L.length := by have := congrArg List.length h; simpa using this
 unfold MapS at h ⊢
 unfold mput mputL
 rw [hf]
 cases hl : lkL k L 0 with
 | none => simp only [Array.toList_push, List.map_append, h, List.map_cons, List.map_nil]
 | some x =>
   have := lk_lt hl
   simp only [Array.toList_modify]
   rw [map_modify es.toList (fun e => { e with key := strV k, val := v }) (fun e => (e.key, e.val)) (strV k, v) (fun _ => rfl) x.1 Tw.om, h, List.map_set]
section
variable {P : Program} {W0 : Base} {T kt et : TypeId}
theorem run_checkKey_str {b : Bool} {n : Nat} {v : Value} (hk : P.underlying kt = some .string) (w : World) : (Instr.checkKey b (n + 1) kt v).run P w = .ok () w := by
 unfold Instr.checkKey
 rw [Sem.run_bind, run_underlying hk w]
 simp
theorem run_findKey_str {es : Array MapEntry} {L : List (List UInt8 × Value)} (hk : P.underlying kt = some .string) (h : MapS es L) (k : List UInt8) (w : World) : (Instr.findKey kt (strV k) es.toList).run P w = .ok (lkL k L 0) w := by
 unfold Instr.findKey
 rw [Sem.run_bind, run_underlying hk w]
 simp only [Result.andThen_ok, find_str k _ _ 0 h, Sem.run_pure]
theorem run_lookup_str {es : Array MapEntry} {cl g : Nat} {L : List (List UInt8 × Value)} {z : Value} {w : World} (hg : w.heap[g]? = some (.map es cl)) (hT : P.underlying T = some (.map kt et)) (hk : P.underlying kt = some .string) (hz : ∀ w, (zeroValue et).run P w = .ok z w) (h : MapS es L) (k : List UInt8) :
   (Instr.lookup T (.map (some g)) (strV k) false).run P w = .ok ((mget L k).getD z) w := by
 unfold Instr.lookup
 simp only [Sem.run_bind, run_underlying hT w, Result.andThen_ok, Sem.run_pure, MapKept.run_getObj_map hg, run_checkKey_str hk w, run_findKey_str hk h k w]
 unfold mget
 cases hl : lkL k L 0 with
 | none => simp [hz w]
 | some x => simp
theorem yb_lookup {o : Oper} {a : Act} {K : List (Nat × Obj)} {x y : Operand} {g cl : Nat} {es : Array MapEntry} {L : List (List UInt8 × Value)} {k : List UInt8} {z v : Value} (ho : o.op = .lookup T x y false) (hx : a.eval x = .map (some g)) (hy : a.eval y = strV k)
   (hm : (g, .map es cl) ∈ K) (hT : P.underlying T = some (.map kt et)) (hk : P.underlying kt = some .string) (hz : ∀ w, (zeroValue et).run P w = .ok z w) (h : MapS es L) (hv : (mget L k).getD z = v) :
   ∀ w, KS W0 K w → ∀ K' : Act → World → Prop, (∀ w', Below w.heap.size w w' → K' (a.put o.dst v) w') → Oper.wp P o a w K' (fun _ _ _ => False) := by
 intro w hw K' hk'
 have hr := run_lookup_str (P := P) (hw.2 _ hm) hT hk hz h k
 unfold Oper.wp execOp
 simp only [ho, hx, hy, Sem.run_bind, hr, Result.andThen_ok, Sem.run_pure]
 rw [hv]
 exact hk' w (Below.refl _ _)
theorem run_keyStays (k : List UInt8) (w : World) : (Instr.keyThatStays (strV k) (strV k)).run P w = .ok (strV k) w := by
 have : ((⟨k.toArray⟩ : ByteArray) == ⟨k.toArray⟩) = true := by
   show (k.toArray == k.toArray) = _
   simp
 unfold Instr.keyThatStays strV
 simp [Instr.sameBits, this]
theorem run_mapUpdate_str {es : Array MapEntry} {cl g : Nat} {L : List (List UInt8 × Value)} {w : World} (hg : w.heap[g]? = some (.map es cl)) (hT : P.underlying T = some (.map kt et)) (hk : P.underlying kt = some .string) (h : MapS es L) (k : List UInt8) (v : Value) :
   (Instr.mapUpdate T (.map (some g)) (strV k) v).run P w = .ok () { w with heap := w.heap.setIfInBounds g (.map (mput es cl k v).1 (mput es cl k v).2) } := by
 have hf := find_str k _ _ 0 h
 have hlen : es.toList.length = L.length := by have := congrArg List.length h; simpa using this
 unfold Instr.mapUpdate
 simp only [Sem.run_bind, run_underlying hT w, Result.andThen_ok, MapKept.run_getObj_map hg, run_checkKey_str hk w, run_findKey_str hk h k w]
 unfold mput
 rw [hf]
 cases hl : lkL k L 0 with
 | none => simp only [MapKept.run_setObj_map _ hg]
 | some x =>
   have hlt := lk_lt hl
   have hx : x.1 < es.size := by simp at hlen; omega
   have hkey : ((es[x.1]?).map (·.key)).getD (strV k) = strV k := by
     have h1 := congrArg (fun l => l[x.1]?) h
     simp only [List.getElem?_map, Array.getElem?_toList] at h1
     have h2 : es[x.1]? = some es[x.1] := Array.getElem?_eq_getElem hx
     rw [h2] at h1 ⊢
     have h3 : L[x.1]? = some (L[x.1]'(by simp at hlen; omega)) := List.getElem?_eq_getElem _
     rw [h3] at h1
     simp only [Option.map_some, Option.some.injEq, Prod.mk.injEq] at h1
     simp only [Option.map_some, Option.getD_some, h1.1]
     congr 1
     exact (lk_key hl h3).symm
   simp only [hkey, run_keyStays, Sem.run_bind, Result.andThen_ok, MapKept.run_setObj_map _ hg]
theorem st_map {o : Oper} {a : Act} {K K' : List (Nat × Obj)} {x y u : Operand} {g cl : Nat} {es : Array MapEntry} {L : List (List UInt8 × Value)} {k : List UInt8} {v : Value} (ho : o.op = .mapUpdate T x y u) (hx : a.eval x = .map (some g)) (hy : a.eval y = strV k) (hu : a.eval u = v)
   (hm : (g, .map es cl) ∈ K) (hB : W0.B ≤ g) (hT : P.underlying T = some (.map kt et)) (hk : P.underlying kt = some .string) (h : MapS es L)
   (hK : ∀ p ∈ K', p = (g, .map (mput es cl k v).1 (mput es cl k v).2) ∨ (p ∈ K ∧ p.1 ≠ g)) : ∀ w, KS W0 K w → ∃ w', (execOp a.eval o).run P w = .ok .skip w' ∧ KS W0 K' w' := by
 intro w hw
 have hg := hw.2 _ hm
 have hr := run_mapUpdate_str (P := P) hg hT hk h k v
 refine ⟨ChangeMaps.setBlock w g (.map (mput es cl k v).1 (mput es cl k v).2), ?_, ⟨⟨hw.1.os, hw.1.tape, hw.1.output, ?_, fun j hj => ?_⟩, fun p hp => ?_⟩⟩
 · unfold execOp
   simp only [ho, hx, hy, hu, Sem.run_bind, hr, Result.andThen_ok, Sem.run_pure]
   rfl
 · simpa [ChangeMaps.setBlock] using hw.1.size
 · have hne : j ≠ g := by omega
   exact (ChangeMaps.heap_setBlock_other hg _ hne).trans (hw.1.block j hj)
 · rcases hK p hp with rfl | ⟨hp, hne⟩
   · exact ChangeMaps.heap_setBlock_same hg _
   · exact (ChangeMaps.heap_setBlock_other hg _ hne).trans (hw.2 _ hp)
end
end Tw
/- A map with small keys that is ranged over, among known blocks. Over any program. -/
namespace Tw
open Go Go.RowKit Go.Proofs.YtlinjngifacmoaaDoor
section
variable {P : Program} {W0 : Base} {T kt et : TypeId}
end
end Tw
/- Memory of ships that are moved. -/
namespace Go.Proofs.YtlinjngifacmoaaDoor
open Go Go.RowKit Tw
theorem dj_subr {A B C : List (Nat × Obj)} (h : Dj A B) (hs : ∀ p ∈ C, p ∈ B) : Dj A C := fun p hp q hq => h p hp q (hs q hq)
theorem dk_subr {g : Nat} {B C : List (Nat × Obj)} (h : Dk g B) (hs : ∀ p ∈ C, p ∈ B) : Dk g C := fun q hq => h q (hs q hq)
structure RB (W0 : Base) (T : List (Nat × Obj)) (os : List Cov) : Prop where
 ex : ∃ gs : List Nat, gs.length = os.length ∧ gs.Nodup ∧ (∀ g ∈ gs, W0.B ≤ g) ∧ ∀ (i g : Nat) (o : Cov), gs[i]? = some g → os[i]? = some o → o.rp = some ⟨g, 0, none⟩ ∧ (g, .cells (o.rows.flatMap inC).toArray 3 (0, 0)) ∈ T
section
variable {W0 : Base} {T : List (Nat × Obj)} {os : List Cov} {o : Cov} {g i : Nat}
theorem RB.nil : RB W0 [] [] := ⟨[], rfl, List.nodup_nil, (fun _ h => by cases h), (fun _ _ _ h => by cases h)⟩
theorem RB.snoc (h : RB W0 T os) (hp : o.rp = some ⟨g, 0, none⟩) (hg : Dk g T) (hB : W0.B ≤ g) : RB W0 ((g, .cells (o.rows.flatMap inC).toArray 3 (0, 0)) :: T) (os ++ [o]) := by
 obtain ⟨gs, h1, h2, h3, h4⟩ := h.ex
 have hn : g ∉ gs := fun hm => by
   obtain ⟨j, hj⟩ := List.getElem?_of_mem hm
   have hlt := (List.getElem?_eq_some_iff.1 hj).1
   have h5 := (h4 j g _ hj (List.getElem?_eq_getElem Tw.om)).2
   exact hg _ h5 rfl
 refine ⟨gs ++ [g], by simp [h1], List.nodup_append.2 ⟨h2, by simp, fun a ha b hb e => ?_⟩, fun x hx => ?_, fun j x y hx hy => ?_⟩
 · cases List.mem_singleton.1 hb; exact hn (e ▸ ha)
 · rcases List.mem_append.1 hx with hx | hx
   · exact h3 x hx
   · cases List.mem_singleton.1 hx; exact hB
 · rcases Nat.lt_or_ge j gs.length with hj | hj
   · rw [List.getElem?_append_left hj] at hx
     rw [List.getElem?_append_left Tw.om] at hy
     obtain ⟨q1, q2⟩ := h4 j x y hx hy
     exact ⟨q1, .tail _ q2⟩
   · rw [List.getElem?_append_right hj] at hx
     rw [List.getElem?_append_right Tw.om, ← h1] at hy
     have hj0 : j - gs.length = 0 := by
       have := (List.getElem?_eq_some_iff.1 hx).1
       simp at this
       omega
     rw [hj0] at hx hy
     simp at hx hy
     subst hx hy
     exact ⟨hp, .head _⟩
theorem RB.rw (h : RB W0 T os) : ∀ W, KS W0 T W → RwR W os := fun W hW o ho => by
 obtain ⟨gs, h1, h2, h3, h4⟩ := h.ex
 obtain ⟨j, hj⟩ := List.getElem?_of_mem ho
 have hlt := (List.getElem?_eq_some_iff.1 hj).1
 obtain ⟨q1, q2⟩ := h4 j _ o (List.getElem?_eq_getElem Tw.om) hj
 rw [q1]
 exact blk_slv hW q2
theorem RB.open (h : RB W0 T os) (hi : os[i]? = some o) : ∃ g Tf, o.rp = some ⟨g, 0, none⟩ ∧ W0.B ≤ g ∧ (∀ p ∈ (g, .cells (o.rows.flatMap inC).toArray 3 (0, 0)) :: Tf, p ∈ T) ∧ Dk g Tf ∧ ∀ o' : Cov, o'.rp = o.rp → RB W0 ((g, .cells (o'.rows.flatMap inC).toArray 3 (0, 0)) :: Tf) (os.set i o') := by
 obtain ⟨gs, h1, h2, h3, h4⟩ := h.ex
 have hlt := (List.getElem?_eq_some_iff.1 hi).1
 have hgi : gs[i]? = some gs[i] := List.getElem?_eq_getElem Tw.om
 obtain ⟨q1, q2⟩ := h4 i _ o hgi hi
 refine ⟨gs[i], T.filter (fun q => decide (q.1 ≠ gs[i])), q1, h3 _ (List.getElem_mem _), fun p hp => ?_, fun q hq => ?_, fun o' ho' => ⟨gs, by rw [List.length_set, h1], h2, h3, fun j x y hx hy => ?_⟩⟩
 · rcases List.mem_cons.1 hp with rfl | hp
   · exact q2
   · exact (List.mem_filter.1 hp).1
 · exact of_decide_eq_true (List.mem_filter.1 hq).2
 · by_cases e : j = i
   · subst e
     rw [hgi] at hx
     cases hx
     rw [List.getElem?_set_self hlt] at hy
     cases hy
     exact ⟨ho'.trans q1, .head _⟩
   · rw [List.getElem?_set_ne (fun h => e h.symm)] at hy
     obtain ⟨r1, r2⟩ := h4 j x y hx hy
     refine ⟨r1, .tail _ (List.mem_filter.2 ⟨r2, decide_eq_true fun hxe => e ?_⟩)⟩
     have hj := (List.getElem?_eq_some_iff.1 hx)
     exact (List.getElem?_inj hj.1 h2).1 (hx.trans (by rw [hgi]; exact congrArg some hxe))
end
section
variable {α : Type} {cells : α → List Value} {sz : Nat} {W0 : Base} {E : TypeId} {v u : Value} {n cap g k j : Nat} {m : List α} {b b' : α} {cur : Array Value} {Kl : List (Nat × Obj)}
theorem own_blkR (h : OwnL W0 E sz v n (m.flatMap cells) Kl) (hn : 0 < n) : ∃ g cap cur, v = .slice (some ⟨g, 0, none⟩) n cap ∧ W0.B ≤ g ∧ RowN sz cur cap n (m.flatMap cells) ∧ Kl = [(g, .cells cur E (0, 0))] := by
 rcases h with ⟨rfl, _⟩ | ⟨g, cap, cur, hv, hB, hR, hK⟩
 · omega
 · exact ⟨g, cap, cur, hv, hB, hR, hK⟩
theorem rown_row (h : RowN sz cur cap n (m.flatMap cells)) : RowR cells cur m := ⟨cur.toList.drop (n * sz), by rw [← h.2.2.2.2, List.take_append_drop]⟩
theorem rown_set (hR : RowN sz cur cap n (m.flatMap cells)) (hc : ∀ y, (cells y).length = sz) (hb : m[k]? = some b) (hj : j < sz) (he : cells b' = (cells b).set j u) : RowN sz (cur.setIfInBounds (0 + k * sz + j) u) cap n ((m.set k b').flatMap cells) := by
 obtain ⟨rest, hr⟩ := RowR.set (rown_row hR) hc hb hj he
 have hl : ((m.set k b').flatMap cells).length = n * sz := by
   rw [flat_len hc, List.length_set, ← flat_len hc m, hR.2.2.2.1]
 refine ⟨by simpa using hR.1, hR.2.1, hR.2.2.1, hl, ?_⟩
 rw [hr]
 exact List.take_left' hl
end
theorem rows_at {l : List Int} {m : Nat} {r : Int} (h : l[m]? = some r) : (l.flatMap inC).toArray[0 + m * 1]? = some (.int .i64 r) := by
 have h1 : (l.flatMap inC)[m * 1 + 0]? = some (.int .i64 r) := flat_get (cells := inC) (sz := 1) (fun _ => rfl) h rfl
 simpa using h1
theorem rows_set {l : List Int} {m : Nat} {r r' : Int} (h : l[m]? = some r) : (l.flatMap inC).toArray.setIfInBounds (0 + m * 1) (.int .i64 r') = ((l.set m r').flatMap inC).toArray := by
 have h1 : (l.flatMap inC).set (m * 1 + 0) (.int .i64 r') = (l.set m r').flatMap inC := flat_set (cells := inC) (sz := 1) (fun _ => rfl) h (by decide) rfl
 rw [List.setIfInBounds_toArray, ← h1]
 congr 2
 omega
theorem rows_size (l : List Int) : (l.flatMap inC).toArray.size = l.length := by
 rw [List.size_toArray, flat_len (cells := inC) (sz := 1) (fun _ => rfl), Nat.mul_one]
def ShipW (W0 : Base) (cs : List Col) (ov : List (Int × List Int)) (v : Value) (T : List (Nat × Obj)) : Prop :=
 ∃ pc cc os po co Kc Ko Tr, v = .agg (shC (.slice pc cs.length cc) (.slice po os.length co) tl0).toArray ∧ OwnL W0 65 12 (.slice pc cs.length cc) cs.length (cs.flatMap colC) Kc ∧ OwnL W0 67 2 (.slice po os.length co) os.length (os.flatMap covC) Ko ∧ RB W0 Tr os ∧ Dj Kc Ko ∧ Dj Kc Tr ∧ Dj Ko Tr ∧ os.map (fun o => (o.bay, o.rows)) = ov ∧ T = Kc ++ (Ko ++ Tr)
def McN (ML : List (List UInt8 × Value)) (ns : List (List UInt8)) : Prop := ∀ x, mget ML x = if x ∈ ns then some (.int .i64 1) else none
theorem McN.nil : McN [] [] := fun _ => rfl
theorem McN.put {ML : List (List UInt8 × Value)} {ns : List (List UInt8)} {y : List UInt8} (h : McN ML ns) : McN (mputL ML y (.int .i64 1)) (ns ++ [y]) := fun x => by
 rw [mget_put, h x]
 by_cases e : x = y
 · subst e; simp
 · simp [e]
theorem McN.no {ML : List (List UInt8 × Value)} {ns : List (List UInt8)} {y : List UInt8} (h : McN ML ns) (hn : y ∉ ns) : mget ML y = none := by rw [h y, if_neg hn]
theorem McN.yes {ML : List (List UInt8 × Value)} {ns : List (List UInt8)} {y : List UInt8} (h : McN ML (ns ++ [y])) : mget ML y = some (.int .i64 1) := by rw [h y, if_pos (by simp)]
theorem mput_len {ML : List (List UInt8 × Value)} {y : List UInt8} {v : Value} (h : mget ML y = none) : (mputL ML y v).length = ML.length + 1 := by
 unfold mget at h
 unfold mputL
 cases hl : lkL y ML 0 with
 | none => simp
 | some x => rw [hl] at h; cases h
theorem maps_size {es : Array MapEntry} {ML : List (List UInt8 × Value)} (h : MapS es ML) : es.size = ML.length := by
 have := congrArg List.length h
 simpa using this
theorem yb_lenM {P : Program} {W0 : Base} {o : Oper} {a : Act} {K : List (Nat × Obj)} {x : Operand} {g cl : Nat} {es : Array MapEntry} {T kt et : TypeId} (ho : o.op = .call { callee := .builtin .len, args := #[x], argTypes := #[T] }) (hT : P.underlying T = some (.map kt et)) (hx : a.eval x = .map (some g)) (hm : (g, .map es cl) ∈ K) :
   ∀ w, KS W0 K w → ∀ K' : Act → World → Prop, (∀ w', Below w.heap.size w w' → K' (a.put o.dst (.int .i64 ((es.size : Nat) : Int))) w') → Oper.wp P o a w K' (fun _ _ _ => False) := by
 intro w hw K' hk'
 have hg := hw.2 _ hm
 have hr : (execOp a.eval o).run P w = .ok (.value (.int .i64 ((es.size : Nat) : Int))) w := by
   unfold execOp
   rw [ho]
   simp [resolve, invoke, builtin, Builtin.len_, hx, goInt, run_underlying hT, MapKept.run_getObj_map hg]
 unfold Oper.wp
 rw [hr]
 exact hk' w (Below.refl _ _)
theorem own_slv {α : Type} {cells : α → List Value} {sz : Nat} {W0 : Base} {E : TypeId} {p : Option Addr} {n c : Nat} {l : List α} {T : List (Nat × Obj)} {W : World} (h : OwnL W0 E sz (.slice p n c) n (l.flatMap cells) T) (hW : KS W0 T W) : SLV W p (l.flatMap cells) := by
 obtain ⟨q, d, hv, _, hR⟩ := own_rl h
 cases hv
 exact hR W hW
theorem cov_small {os : List Cov} (ho : GoodO (os.map fun o => (o.bay, o.rows))) {o : Cov} (hm : o ∈ os) : (0 ≤ o.bay ∧ o.bay ≤ 4) ∧ o.rows.length ≤ 3 ∧ ∀ r ∈ o.rows, 0 ≤ r ∧ r ≤ 4 := by
 have h1 : (o.bay, o.rows) ∈ fullO := ho.subset (List.mem_map.2 ⟨o, hm, rfl⟩)
 have h2 : ∀ x ∈ fullO, (0 ≤ x.1 ∧ x.1 ≤ 4) ∧ x.2.length ≤ 3 ∧ ∀ r ∈ x.2, 0 ≤ r ∧ r ≤ 4 := by decide
 exact h2 _ h1
end Go.Proofs.YtlinjngifacmoaaDoor
namespace Go.Proofs.YtlinjngifacmoaaDoor
open Go Go.RowKit Tw
set_option maxRecDepth 100000 in
set_option maxHeartbeats 4000000 in
theorem Built_own {W0 : Base} (l : List Pl) (p : Option Addr) (c : Nat) (n : Nat) (hl : l.length ≤ 9223372036854775807) (hcap : l.length ≤ c) (hok : ∀ y ∈ l, plOk y) (hn : n ≤ 4294967295) (hp : RL plC W0 p l []) (w : World) (hw : KS W0 [] w) : Calls Tryd.prog 33 #[.slice p l.length c, .int .u32 ((n : Nat) : Int)] w fun e w' => ∃ v T, e = .returned v ∧ KS W0 T w' ∧ ShipW W0 (builtC l) (builtO n) v T := by
 obtain ⟨m, hm⟩ : ∃ m : Nat, m = min l.length 12 := ⟨_, rfl⟩
 go_enter Tryd.func33, Tryd.ntmps33
 refine wp_seq ?_
 refine wp_region_L (W0 := W0) [] (hw) ?_
 refine wpL_new (fun g => .pointer (some ⟨g, 0, none⟩)) (obi := .cells (shC (.slice none 0 0) (.slice none 0 0) tl0).toArray 32 (0, 0)) rfl rfl Tw.kf Tw.pf fun g1 Bg1 Fg1 => ?_
 refine wpL_done (fun W1 hW1 => ?_)
 change Code.wp ..
 refine wp_seq ?_
 refine wp_region_L (W0 := W0) [(g1, .cells (shC (.slice none 0 0) (.slice none 0 0) tl0).toArray 32 (0, 0))] (hW1) ?_
 refine wpL_new (fun g => .pointer (some ⟨g, 0, none⟩)) (obi := .cells (shC (.slice none 0 0) (.slice none 0 0) tl0).toArray 32 (0, 0)) rfl rfl Tw.kf Tw.pf fun g2 Bg2 Fg2 => ?_
 obtain dj3_0 : g1 ≠ g2 := Tw.dkf Fg2
 refine wpL_done (fun W2 hW2 => ?_)
 change Code.wp ..
 refine wp_seq ?_
 refine wp_seq ?_
 refine wp_region_L (W0 := W0) [(g2, .cells (shC (.slice none 0 0) (.slice none 0 0) tl0).toArray 32 (0, 0)), (g1, .cells (shC (.slice none 0 0) (.slice none 0 0) tl0).toArray 32 (0, 0))] (hW2) ?_
 refine lm (v := .slice p l.length c) rfl rfl ?_
 refine lm (v := .slice p l.length c) rfl rfl ?_
 refine lp (v := .int .i64 ((l.length : Nat) : Int)) rfl rfl (run_lenL (p := p) (cap := c) (n := l.length) rfl Tryd.underlying60 Tw.kr) ?_
 refine lp (v := .int .i64 ((m : Nat) : Int)) rfl rfl (run_min2 (x := ((l.length : Nat) : Int)) (y := 12) (z := ((m : Nat) : Int)) rfl Tw.kr Tw.kr Tw.om) ?_
 refine lp (v := .slice p m c) rfl rfl (run_slt (kd := .i64) (j := m) (n := l.length) (c := c) (sz := 4) rfl Tryd.underlying60 Tw.kr Tw.kr Tw.kr Tw.om) ?_
 refine lp (v := .int .i64 ((m : Nat) : Int)) rfl rfl (run_lenL (p := p) (cap := c) (n := m) rfl Tryd.underlying60 Tw.kr) ?_
 refine lm (v := .int .i64 0) rfl rfl ?_
 refine wpL_done (fun W3 hW3 => ?_)
 change Code.wp ..
 refine wp_block ?_
 go_loopw [18] (fun u18 wr => ∃ (k : Nat) (cs : List Col) (vc : Value) (Kc : List (Nat × Obj)), (k ≤ m) ∧ (cs = bld ((l.take m).take k)) ∧ (cs.length ≤ k) ∧ (OwnL W0 65 12 vc cs.length (cs.flatMap colC) Kc) ∧ (Dk g2 Kc) ∧ (Dk g1 Kc) ∧ u18 = .int .i64 ((k : Nat) : Int) ∧ KS W0 ((g2, .cells (shC (vc) (.slice none 0 0) tl0).toArray 32 (0, 0)) :: (g1, .cells (shC (.slice none 0 0) (.slice none 0 0) tl0).toArray 32 (0, 0)) :: Kc) wr) (fun u18 _ => m - (intOf u18).toNat)
 case atStart => exact ⟨0, [], (.slice none 0 0), [], (Nat.zero_le _), rfl, (Nat.le_refl _), (OwnL.nil _ _ _), (show Dk g2 [] from Tw.djt), (show Dk g1 [] from Tw.djt), rfl, (hW3.sub (fun p hp => by first | exact hp | (simp only [List.mem_cons, List.mem_append, List.nil_append, List.not_mem_nil, or_assoc, or_false, false_or] at hp ⊢ <;> grind)))⟩
 case round =>
   obtain ⟨k, cs, vc, Kc, hk, hcs, hlc, hOc, dh4_0, dh4_1, rfl, hL4⟩ := hrel
   obtain ⟨pc, cc, rfl, hcc, RC⟩ := own_rl hOc
   refine wp_seq ?_
   refine wp_region_L (W0 := W0) ((g2, .cells (shC (.slice pc cs.length cc) (.slice none 0 0) tl0).toArray 32 (0, 0)) :: (g1, .cells (shC (.slice none 0 0) (.slice none 0 0) tl0).toArray 32 (0, 0)) :: Kc) (hL4) ?_
   refine lp (v := .bool (decide (k < m))) rfl rfl (run_bin rfl (vx := (.int .i64 ((k : Nat) : Int))) (vy := (.int .i64 ((m : Nat) : Int))) Tw.kr Tw.kr fun w => bn_lss rfl w) ?_
   refine wpL_done (fun W5 hW5 => ?_)
   change Code.wp ..
   refine wp_seq ?_
   cases hd1 : (decide (k < m)) with
   | false =>
     have h1 : ¬ (k < m) := of_decide_eq_false hd1
     clear hd1
     refine wp_cond_false rfl ?_
     refine wp_exit ?_
     change Code.wp ..
     refine wp_seq ?_
     refine wp_seq ?_
     refine wp_region_L (W0 := W0) ((g2, .cells (shC (.slice pc cs.length cc) (.slice none 0 0) tl0).toArray 32 (0, 0)) :: (g1, .cells (shC (.slice none 0 0) (.slice none 0 0) tl0).toArray 32 (0, 0)) :: Kc) (hW5) ?_
     refine lm (v := .pointer (some ⟨g2, 0, none⟩)) rfl rfl ?_
     refine lv (v := .slice pc cs.length cc) rfl rfl (yb_cell (off := 0) rfl Tw.kr Tw.m0 Tryd.underlying22 rfl Tw.kr) ?_
     refine lp (v := .int .i64 ((cs.length : Nat) : Int)) rfl rfl (run_lenO (W0 := W0) rfl Tryd.underlying22 Tw.kr hOc) ?_
     refine lp (v := .bool (decide (cs.length = 0))) rfl rfl (run_bin rfl (vx := (.int .i64 ((cs.length : Nat) : Int))) (vy := (.int .i64 ((0 : Nat) : Int))) Tw.kr Tw.kr fun w => bn_eql rfl w) ?_
     refine wpL_done (fun W6 hW6 => ?_)
     change Code.wp ..
     cases hd2 : (decide (cs.length = 0)) with
     | false =>
       have h2 : ¬ (cs.length = 0) := of_decide_eq_false hd2
       clear hd2
       refine wp_cond_false rfl ?_
       refine wp_skip ?_
       change Code.wp ..
       refine wp_seq ?_
       refine wp_seq ?_
       refine wp_region_L (W0 := W0) ((g2, .cells (shC (.slice pc cs.length cc) (.slice none 0 0) tl0).toArray 32 (0, 0)) :: (g1, .cells (shC (.slice none 0 0) (.slice none 0 0) tl0).toArray 32 (0, 0)) :: Kc) (hW6) ?_
       refine lm (v := .int .i64 0) rfl rfl ?_
       refine wpL_done (fun W7 hW7 => ?_)
       change Code.wp ..
       refine wp_block ?_
       have hB : builtC l = cs := by unfold builtC; rw [← hm, ← show cs = bld (l.take m) from by rw [hcs, List.take_of_length_le (by rw [List.length_take]; omega)]]; exact if_neg h2
       go_loopw [11] (fun u11 wr => ∃ (i : Nat) (os : List Cov) (vo : Value) (Tr Ko : List (Nat × Obj)), (i ≤ 5) ∧ (os.map (fun o => (o.bay, o.rows)) = covTo n i) ∧ (os.length ≤ 2 * i) ∧ (OwnL W0 67 2 vo os.length (os.flatMap covC) Ko) ∧ (RB W0 Tr os) ∧ (Dk g2 Tr) ∧ (Dk g1 Tr) ∧ (Dj Kc Tr) ∧ (Dk g2 Ko) ∧ (Dk g1 Ko) ∧ (Dj Kc Ko) ∧ (Dj Tr Ko) ∧ u11 = .int .i64 ((i : Nat) : Int) ∧ KS W0 ((g2, .cells (shC (.slice pc cs.length cc) (vo) tl0).toArray 32 (0, 0)) :: (g1, .cells (shC (.slice none 0 0) (.slice none 0 0) tl0).toArray 32 (0, 0)) :: (Kc ++ (Tr ++ Ko))) wr) (fun u11 _ => 5 - (intOf u11).toNat)
       case atStart => exact ⟨0, [], (.slice none 0 0), [], [], (Nat.zero_le _), rfl, (Nat.le_refl _), (OwnL.nil _ _ _), RB.nil, (show Dk g2 [] from Tw.djt), (show Dk g1 [] from Tw.djt), (show Dj Kc [] from Tw.djt), (show Dk g2 [] from Tw.djt), (show Dk g1 [] from Tw.djt), (show Dj Kc [] from Tw.djt), (show Dj [] [] from Tw.djt), rfl, (hW7.sub (fun p hp => by first | exact hp | (simp only [List.mem_cons, List.mem_append, List.nil_append, List.not_mem_nil, or_assoc, or_false, false_or] at hp ⊢ <;> grind)))⟩
       case round =>
         obtain ⟨i, os, vo, Tr, Ko, hi, hos, hlo, hOo, hRo, dh5_0, dh5_1, dh5_2, dh5_3, dh5_4, dh5_5, dh5_6, rfl, hL8⟩ := hrel
         obtain ⟨po, co, rfl, hco, RO⟩ := own_rl hOo
         refine wp_seq ?_
         refine wp_seq ?_
         refine wp_region_L (W0 := W0) ((g2, .cells (shC (.slice pc cs.length cc) (.slice po os.length co) tl0).toArray 32 (0, 0)) :: (g1, .cells (shC (.slice none 0 0) (.slice none 0 0) tl0).toArray 32 (0, 0)) :: (Kc ++ (Tr ++ Ko))) (hL8) ?_
         refine lm (v := .int .i64 ((i : Nat) : Int)) rfl rfl ?_
         refine lp (v := .bool (decide (i < 5))) rfl rfl (run_bin rfl (vx := (.int .i64 ((i : Nat) : Int))) (vy := (.int .i64 ((5 : Nat) : Int))) Tw.kr Tw.kr fun w => bn_lss rfl w) ?_
         refine wpL_done (fun W9 hW9 => ?_)
         change Code.wp ..
         cases hd3 : (decide (i < 5)) with
         | false =>
           have h3 : ¬ (i < 5) := of_decide_eq_false hd3
           clear hd3
           refine wp_cond_false rfl ?_
           refine wp_exit ?_
           change Code.wp ..
           refine wp_seq ?_
           refine wp_region_L (W0 := W0) ((g2, .cells (shC (.slice pc cs.length cc) (.slice po os.length co) tl0).toArray 32 (0, 0)) :: (g1, .cells (shC (.slice none 0 0) (.slice none 0 0) tl0).toArray 32 (0, 0)) :: (Kc ++ (Tr ++ Ko))) (hW9) ?_
           refine lv (v := .agg (shC (.slice pc cs.length cc) (.slice po os.length co) tl0).toArray) rfl rfl (yb_load (n := 13) (off := 0) rfl Tw.kr Tw.m0 Tryd.underlying32 rfl Tw.kr (by first | (simp [Value.cells]; done) | exact Nat.le_of_ble_eq_true rfl) Tw.kr) ?_
           refine wpL_s ((g2, .cells (shC (.slice pc cs.length cc) (.slice po os.length co) tl0).toArray 32 (0, 0)) :: (g1, .cells (shC (.slice pc cs.length cc) (.slice po os.length co) tl0).toArray 32 (0, 0)) :: (Kc ++ (Tr ++ Ko))) rfl rfl (st_row (off := 0) (v := .agg (shC (.slice pc cs.length cc) (.slice po os.length co) tl0).toArray) rfl Tw.kr Tw.kr Tw.m1 Bg1 Tw.kr (by first | (simp [Value.cells]; done) | exact Nat.le_of_ble_eq_true rfl) (fun v hv => shC_one v hv) Tw.kr (List.forall_mem_cons.2 ⟨.inr ⟨Tw.m0, Tw.nee⟩, (List.forall_mem_cons.2 ⟨.inl rfl, (fun p hp => .inr ⟨(.tail _ (.tail _ hp)), ((show Dk g1 (Kc ++ (Tr ++ Ko)) from Tw.djt) _ hp)⟩)⟩)⟩)) ?_
           refine wpL_done (fun W10 hW10 => ?_)
           change Code.wp ..
           refine wp_ret ?_
           try simp only [inBlock_ret, then_ret]
           refine bodyPost_ret (v := .agg (shC (.slice pc cs.length cc) (.slice po os.length co) tl0).toArray) ?_ rfl ?_
           · exact (res_cell (p := 4) rfl rfl (hW10.2 _ Tw.m1) Tryd.underlying32 rfl Tw.kr)
           · exact ⟨_, Kc ++ (Ko ++ Tr), rfl, (hW10.sub (fun p hp => by simp only [List.mem_cons, List.mem_append] at hp ⊢; grind)), (by rw [hB]; exact ⟨pc, cc, os, po, co, Kc, Ko, Tr, rfl, hOc, hOo, hRo, (show Dj Kc Ko from Tw.djt), (show Dj Kc Tr from Tw.djt), (show Dj Ko Tr from Tw.djt), (by rw [hos, show i = 5 from by omega]; rfl), rfl⟩)⟩
         | true =>
           have h3 : i < 5 := of_decide_eq_true hd3
           clear hd3
           refine wp_cond_true rfl ?_
           refine wp_skip ?_
           change Code.wp ..
           refine wp_seq ?_
           refine wp_block ?_
           refine wp_seq ?_
           refine wp_seq ?_
           refine wp_region_L (W0 := W0) ((g2, .cells (shC (.slice pc cs.length cc) (.slice po os.length co) tl0).toArray 32 (0, 0)) :: (g1, .cells (shC (.slice none 0 0) (.slice none 0 0) tl0).toArray 32 (0, 0)) :: (Kc ++ (Tr ++ Ko))) (hW9) ?_
           refine lm (v := .int .u32 ((n : Nat) : Int)) rfl rfl ?_
           refine lm (v := .int .i64 ((i : Nat) : Int)) rfl rfl ?_
           refine lp (v := .int .i64 (((2 * i) : Nat) : Int)) rfl rfl (run_bin rfl (vx := (.int .i64 ((2 : Nat) : Int))) (vy := (.int .i64 ((i : Nat) : Int))) Tw.kr Tw.kr fun w => bn_mul (z := (2 * i)) rfl (wr_i64 Tw.om) w) ?_
           refine lp (v := .int .u32 (((n / 2 ^ (2 * i)) : Nat) : Int)) rfl rfl (run_bin rfl (vx := (.int .u32 ((n : Nat) : Int))) (vy := (.int .i64 (((2 * i) : Nat) : Int))) Tw.kr Tw.kr fun w => bn_shr (z := (n / 2 ^ (2 * i))) rfl (by first | omega | decide | (simp only [IntKind.bits]; omega)) w) ?_
           refine lp (v := .int .u32 ((((n / 2 ^ (2 * i)) % 2) : Nat) : Int)) rfl rfl (run_bin rfl (vx := (.int .u32 (((n / 2 ^ (2 * i)) : Nat) : Int))) (vy := (.int .u32 ((1 : Nat) : Int))) Tw.kr Tw.kr fun w => bn_and (z := ((n / 2 ^ (2 * i)) % 2)) (Nat.and_one_is_mod _) (by rw [show IntKind.u32.bits = 32 from rfl]; exact Nat.lt_of_le_of_lt (Nat.div_le_self _ _) Tw.om) (by decide) (wr_u32 Tw.om) w) ?_
           refine lp (v := .bool (decide (((n / 2 ^ (2 * i)) % 2) = 1))) rfl rfl (run_bin rfl (vx := (.int .u32 ((((n / 2 ^ (2 * i)) % 2) : Nat) : Int))) (vy := (.int .u32 ((1 : Nat) : Int))) Tw.kr Tw.kr fun w => bn_eql rfl w) ?_
           refine wpL_done (fun W11 hW11 => ?_)
           change Code.wp ..
           cases hd4 : (decide (((n / 2 ^ (2 * i)) % 2) = 1)) with
           | false =>
             have h4 : ¬ (((n / 2 ^ (2 * i)) % 2) = 1) := of_decide_eq_false hd4
             clear hd4
             refine wp_cond_false rfl ?_
             refine wp_skip ?_
             change Code.wp ..
             refine wp_seq ?_
             refine wp_region_L (W0 := W0) ((g2, .cells (shC (.slice pc cs.length cc) (.slice po os.length co) tl0).toArray 32 (0, 0)) :: (g1, .cells (shC (.slice none 0 0) (.slice none 0 0) tl0).toArray 32 (0, 0)) :: (Kc ++ (Tr ++ Ko))) (hW11) ?_
             refine lm (v := .int .u32 ((n : Nat) : Int)) rfl rfl ?_
             refine lm (v := .int .i64 ((i : Nat) : Int)) rfl rfl ?_
             refine lp (v := .int .i64 (((2 * i) : Nat) : Int)) rfl rfl (run_bin rfl (vx := (.int .i64 ((2 : Nat) : Int))) (vy := (.int .i64 ((i : Nat) : Int))) Tw.kr Tw.kr fun w => bn_mul (z := (2 * i)) rfl (wr_i64 Tw.om) w) ?_
             refine lp (v := .int .i64 ((((2 * i) + 1) : Nat) : Int)) rfl rfl (run_bin rfl (vx := (.int .i64 (((2 * i) : Nat) : Int))) (vy := (.int .i64 ((1 : Nat) : Int))) Tw.kr Tw.kr fun w => bn_add (z := ((2 * i) + 1)) rfl (wr_i64 Tw.om) w) ?_
             refine lp (v := .int .u32 (((n / 2 ^ ((2 * i) + 1)) : Nat) : Int)) rfl rfl (run_bin rfl (vx := (.int .u32 ((n : Nat) : Int))) (vy := (.int .i64 ((((2 * i) + 1) : Nat) : Int))) Tw.kr Tw.kr fun w => bn_shr (z := (n / 2 ^ ((2 * i) + 1))) rfl (by first | omega | decide | (simp only [IntKind.bits]; omega)) w) ?_
             refine lp (v := .int .u32 ((((n / 2 ^ ((2 * i) + 1)) % 2) : Nat) : Int)) rfl rfl (run_bin rfl (vx := (.int .u32 (((n / 2 ^ ((2 * i) + 1)) : Nat) : Int))) (vy := (.int .u32 ((1 : Nat) : Int))) Tw.kr Tw.kr fun w => bn_and (z := ((n / 2 ^ ((2 * i) + 1)) % 2)) (Nat.and_one_is_mod _) (by rw [show IntKind.u32.bits = 32 from rfl]; exact Nat.lt_of_le_of_lt (Nat.div_le_self _ _) Tw.om) (by decide) (wr_u32 Tw.om) w) ?_
             refine lp (v := .bool (decide (((n / 2 ^ ((2 * i) + 1)) % 2) = 1))) rfl rfl (run_bin rfl (vx := (.int .u32 ((((n / 2 ^ ((2 * i) + 1)) % 2) : Nat) : Int))) (vy := (.int .u32 ((1 : Nat) : Int))) Tw.kr Tw.kr fun w => bn_eql rfl w) ?_
             refine wpL_done (fun W12 hW12 => ?_)
             change Code.wp ..
             cases hd5 : (decide (((n / 2 ^ ((2 * i) + 1)) % 2) = 1)) with
             | false =>
               have h5 : ¬ (((n / 2 ^ ((2 * i) + 1)) % 2) = 1) := of_decide_eq_false hd5
               clear hd5
               refine wp_cond_false rfl ?_
               refine wp_skip ?_
               change Code.wp ..
               refine wp_region_L (W0 := W0) ((g2, .cells (shC (.slice pc cs.length cc) (.slice po os.length co) tl0).toArray 32 (0, 0)) :: (g1, .cells (shC (.slice none 0 0) (.slice none 0 0) tl0).toArray 32 (0, 0)) :: (Kc ++ (Tr ++ Ko))) (hW12) ?_
               refine lm (v := .int .i64 ((i : Nat) : Int)) rfl rfl ?_
               refine lp (v := .int .i64 (((i + 1) : Nat) : Int)) rfl rfl (run_bin rfl (vx := (.int .i64 ((i : Nat) : Int))) (vy := (.int .i64 ((1 : Nat) : Int))) Tw.kr Tw.kr fun w => bn_add (z := (i + 1)) rfl (wr_i64 Tw.om) w) ?_
               refine lm (v := .int .i64 (((i + 1) : Nat) : Int)) rfl rfl ?_
               refine wpL_done (fun W13 hW13 => ?_)
               go_roundw
               case rel =>
                 repeat apply Exists.intro
                 exact ⟨⟨i + 1, os, (.slice po os.length co), Tr, Ko, Tw.om, (by rw [cov_00 h4 h5, hos]), Tw.om, hOo, hRo, (show Dk g2 Tr from Tw.djt), (show Dk g1 Tr from Tw.djt), (show Dj Kc Tr from Tw.djt), (show Dk g2 Ko from Tw.djt), (show Dk g1 Ko from Tw.djt), (show Dj Kc Ko from Tw.djt), (show Dj Tr Ko from Tw.djt), rfl, (hW13.sub (fun p hp => by first | exact hp | (simp only [List.mem_cons, List.mem_append, List.nil_append, List.not_mem_nil, or_assoc, or_false, false_or] at hp ⊢ <;> grind)))⟩, rfl⟩
               case measure => (show 5 - (intOf (.int .i64 (((i + 1) : Nat) : Int))).toNat < 5 - (intOf (.int .i64 ((i : Nat) : Int))).toNat); simp only [intOf]; omega
             | true =>
               have h5 : ((n / 2 ^ ((2 * i) + 1)) % 2) = 1 := of_decide_eq_true hd5
               clear hd5
               refine wp_cond_true rfl ?_
               refine wp_region_L (W0 := W0) ((g2, .cells (shC (.slice pc cs.length cc) (.slice po os.length co) tl0).toArray 32 (0, 0)) :: (g1, .cells (shC (.slice none 0 0) (.slice none 0 0) tl0).toArray 32 (0, 0)) :: (Kc ++ (Tr ++ Ko))) (hW12) ?_
               refine lm (v := .pointer (some ⟨g2, 1, none⟩)) rfl rfl ?_
               refine lv (v := .slice po os.length co) rfl rfl (yb_cell (off := 1) rfl Tw.kr Tw.m0 Tryd.underlying23 rfl Tw.kr) ?_
               refine lm (v := .int .i64 ((i : Nat) : Int)) rfl rfl ?_
               refine wpL_new (fun g => .slice (some ⟨g, 0, none⟩) 3 3) (obi := .cells #[.int .i64 2, .int .i64 3, .int .i64 4] 3 (0, 0)) rfl rfl Tw.kf Tw.pf fun g6 Bg6 Fg6 => ?_
               obtain ⟨dj7_0, dj7_1, dj7_2, dj7_3, dj7_4⟩ : g2 ≠ g6 ∧ g1 ≠ g6 ∧ Dk g6 Kc ∧ Dk g6 Tr ∧ Dk g6 Ko := Tw.dkf Fg6
               refine lm (v := .agg #[.int .i64 ((i : Nat) : Int), .slice (some ⟨g6, 0, none⟩) 3 3]) rfl rfl ?_
               refine wpL_new (fun g => .slice (some ⟨g, 0, none⟩) 1 1) (obi := .cells #[.int .i64 ((i : Nat) : Int), .slice (some ⟨g6, 0, none⟩) 3 3] 67 (0, 0)) rfl rfl Tw.kf Tw.pf fun g8 Bg8 Fg8 => ?_
               obtain ⟨dj9_0, dj9_1, dj9_2, dj9_3, dj9_4, dj9_5⟩ : g6 ≠ g8 ∧ g2 ≠ g8 ∧ g1 ≠ g8 ∧ Dk g8 Kc ∧ Dk g8 Tr ∧ Dk g8 Ko := Tw.dkf Fg8
               refine wpL_g (AppO W0 67 2 ((g6, .cells #[.int .i64 2, .int .i64 3, .int .i64 4] 3 (0, 0)) :: (g2, .cells (shC (.slice pc cs.length cc) (.slice po os.length co) tl0).toArray 32 (0, 0)) :: (g1, .cells (shC (.slice none 0 0) (.slice none 0 0) tl0).toArray 32 (0, 0)) :: (Kc ++ Tr)) (os.length + 1) ((os.flatMap covC) ++ [.int .i64 ((i : Nat) : Int), .slice (some ⟨g6, 0, none⟩) 3 3])) rfl rfl (app_own el_cov (m := 1) (c := 1) (news := [.int .i64 ((i : Nat) : Int), .slice (some ⟨g6, 0, none⟩) 3 3]) rfl Tw.kr Tw.kr Tw.m0 hOo Tw.sc (fun p hp => ⟨by simp only [List.mem_cons, List.mem_append, List.nil_append, List.not_mem_nil, or_assoc, or_false, false_or] at hp ⊢ <;> grind, (show Dj ((g6, .cells #[.int .i64 2, .int .i64 3, .int .i64 4] 3 (0, 0)) :: (g2, .cells (shC (.slice pc cs.length cc) (.slice po os.length co) tl0).toArray 32 (0, 0)) :: (g1, .cells (shC (.slice none 0 0) (.slice none 0 0) tl0).toArray 32 (0, 0)) :: (Kc ++ Tr)) Ko from Tw.djt) p hp⟩) rfl (by simp [strV, Value.oneCell']) Tw.om Tw.om Tw.om) Tw.pf ?_
               rintro v10 K9 ⟨Kl10, O10, N10, rfl⟩
               obtain ⟨dj11_0, dj11_1, dj11_2, dj11_3, dj11_4⟩ : Dk g6 Kl10 ∧ Dk g2 Kl10 ∧ Dk g1 Kl10 ∧ Dj Kc Kl10 ∧ Dj Tr Kl10 := Tw.djf N10
               refine lm (v := .pointer (some ⟨g2, 1, none⟩)) rfl rfl ?_
               obtain ⟨p12, c12, rfl⟩ := own_shape O10
               refine wpL_s ((g6, .cells #[.int .i64 2, .int .i64 3, .int .i64 4] 3 (0, 0)) :: (g2, .cells (shC (.slice pc cs.length cc) (.slice p12 (os.length + 1) c12) tl0).toArray 32 (0, 0)) :: (g1, .cells (shC (.slice none 0 0) (.slice none 0 0) tl0).toArray 32 (0, 0)) :: ((Kc ++ Tr) ++ Kl10)) rfl rfl (st_row (off := 1) (v := .slice p12 (os.length + 1) c12) rfl Tw.kr Tw.kr Tw.m1 Bg2 Tw.kr (by first | (simp [Value.cells]; done) | exact Nat.le_of_ble_eq_true rfl) (by intro v hv; simp [Value.cells] at hv; first | (subst hv; rfl) | (rcases hv with rfl <;> rfl)) Tw.kr (List.forall_mem_cons.2 ⟨.inr ⟨Tw.m0, Tw.nee⟩, (List.forall_mem_cons.2 ⟨.inl rfl, (List.forall_mem_cons.2 ⟨.inr ⟨Tw.m2, Tw.nee⟩, (fun p hp => .inr ⟨(.tail _ (.tail _ (.tail _ hp))), ((show Dk g2 ((Kc ++ Tr) ++ Kl10) from Tw.djt) _ hp)⟩)⟩)⟩)⟩)) ?_
               refine wpL_done (fun W14 hW14 => ?_)
               change Code.wp ..
               refine wp_region_L (W0 := W0) ((g6, .cells #[.int .i64 2, .int .i64 3, .int .i64 4] 3 (0, 0)) :: (g2, .cells (shC (.slice pc cs.length cc) (.slice p12 (os.length + 1) c12) tl0).toArray 32 (0, 0)) :: (g1, .cells (shC (.slice none 0 0) (.slice none 0 0) tl0).toArray 32 (0, 0)) :: ((Kc ++ Tr) ++ Kl10)) (hW14) ?_
               refine lm (v := .int .i64 ((i : Nat) : Int)) rfl rfl ?_
               refine lp (v := .int .i64 (((i + 1) : Nat) : Int)) rfl rfl (run_bin rfl (vx := (.int .i64 ((i : Nat) : Int))) (vy := (.int .i64 ((1 : Nat) : Int))) Tw.kr Tw.kr fun w => bn_add (z := (i + 1)) rfl (wr_i64 Tw.om) w) ?_
               refine lm (v := .int .i64 (((i + 1) : Nat) : Int)) rfl rfl ?_
               refine wpL_done (fun W15 hW15 => ?_)
               go_roundw
               case rel =>
                 repeat apply Exists.intro
                 exact ⟨⟨i + 1, (os ++ [(⟨((i : Nat) : Int), [2, 3, 4], some ⟨g6, 0, none⟩, 3⟩ : Cov)]), .slice p12 (os.length + 1) c12, ((g6, .cells #[.int .i64 2, .int .i64 3, .int .i64 4] 3 (0, 0)) :: Tr), Kl10, Tw.om, (by rw [cov_01 h4 h5]; simp only [List.map_append, List.map_cons, List.map_nil, hos, List.append_assoc, List.cons_append, List.nil_append]), (by simp only [List.length_append, List.length_singleton, List.length_cons, List.length_nil]; omega), (own_app O10 (by simp only [List.flatMap_append, List.append_assoc]; rfl) (by simp only [List.length_append]; rfl)), (RB.snoc (o := ⟨((i : Nat) : Int), [2, 3, 4], some ⟨g6, 0, none⟩, 3⟩) hRo rfl (show Dk g6 Tr from Tw.djt) Bg6), (show Dk g2 ((g6, .cells #[.int .i64 2, .int .i64 3, .int .i64 4] 3 (0, 0)) :: Tr) from Tw.djt), (show Dk g1 ((g6, .cells #[.int .i64 2, .int .i64 3, .int .i64 4] 3 (0, 0)) :: Tr) from Tw.djt), (show Dj Kc ((g6, .cells #[.int .i64 2, .int .i64 3, .int .i64 4] 3 (0, 0)) :: Tr) from Tw.djt), (show Dk g2 Kl10 from Tw.djt), (show Dk g1 Kl10 from Tw.djt), (show Dj Kc Kl10 from Tw.djt), (show Dj ((g6, .cells #[.int .i64 2, .int .i64 3, .int .i64 4] 3 (0, 0)) :: Tr) Kl10 from Tw.djt), rfl, (hW15.sub (fun p hp => by first | exact hp | (simp only [List.mem_cons, List.mem_append, List.nil_append, List.not_mem_nil, or_assoc, or_false, false_or] at hp ⊢ <;> grind)))⟩, rfl⟩
               case measure => (show 5 - (intOf (.int .i64 (((i + 1) : Nat) : Int))).toNat < 5 - (intOf (.int .i64 ((i : Nat) : Int))).toNat); simp only [intOf]; omega
           | true =>
             have h4 : ((n / 2 ^ (2 * i)) % 2) = 1 := of_decide_eq_true hd4
             clear hd4
             refine wp_cond_true rfl ?_
             refine wp_region_L (W0 := W0) ((g2, .cells (shC (.slice pc cs.length cc) (.slice po os.length co) tl0).toArray 32 (0, 0)) :: (g1, .cells (shC (.slice none 0 0) (.slice none 0 0) tl0).toArray 32 (0, 0)) :: (Kc ++ (Tr ++ Ko))) (hW11) ?_
             refine lm (v := .pointer (some ⟨g2, 1, none⟩)) rfl rfl ?_
             refine lv (v := .slice po os.length co) rfl rfl (yb_cell (off := 1) rfl Tw.kr Tw.m0 Tryd.underlying23 rfl Tw.kr) ?_
             refine lm (v := .int .i64 ((i : Nat) : Int)) rfl rfl ?_
             refine wpL_new (fun g => .slice (some ⟨g, 0, none⟩) 2 2) (obi := .cells #[.int .i64 0, .int .i64 1] 3 (0, 0)) rfl rfl Tw.kf Tw.pf fun g13 Bg13 Fg13 => ?_
             obtain ⟨dj14_0, dj14_1, dj14_2, dj14_3, dj14_4⟩ : g2 ≠ g13 ∧ g1 ≠ g13 ∧ Dk g13 Kc ∧ Dk g13 Tr ∧ Dk g13 Ko := Tw.dkf Fg13
             refine lm (v := .agg #[.int .i64 ((i : Nat) : Int), .slice (some ⟨g13, 0, none⟩) 2 2]) rfl rfl ?_
             refine wpL_new (fun g => .slice (some ⟨g, 0, none⟩) 1 1) (obi := .cells #[.int .i64 ((i : Nat) : Int), .slice (some ⟨g13, 0, none⟩) 2 2] 67 (0, 0)) rfl rfl Tw.kf Tw.pf fun g15 Bg15 Fg15 => ?_
             obtain ⟨dj16_0, dj16_1, dj16_2, dj16_3, dj16_4, dj16_5⟩ : g13 ≠ g15 ∧ g2 ≠ g15 ∧ g1 ≠ g15 ∧ Dk g15 Kc ∧ Dk g15 Tr ∧ Dk g15 Ko := Tw.dkf Fg15
             refine wpL_g (AppO W0 67 2 ((g13, .cells #[.int .i64 0, .int .i64 1] 3 (0, 0)) :: (g2, .cells (shC (.slice pc cs.length cc) (.slice po os.length co) tl0).toArray 32 (0, 0)) :: (g1, .cells (shC (.slice none 0 0) (.slice none 0 0) tl0).toArray 32 (0, 0)) :: (Kc ++ Tr)) (os.length + 1) ((os.flatMap covC) ++ [.int .i64 ((i : Nat) : Int), .slice (some ⟨g13, 0, none⟩) 2 2])) rfl rfl (app_own el_cov (m := 1) (c := 1) (news := [.int .i64 ((i : Nat) : Int), .slice (some ⟨g13, 0, none⟩) 2 2]) rfl Tw.kr Tw.kr Tw.m0 hOo Tw.sc (fun p hp => ⟨by simp only [List.mem_cons, List.mem_append, List.nil_append, List.not_mem_nil, or_assoc, or_false, false_or] at hp ⊢ <;> grind, (show Dj ((g13, .cells #[.int .i64 0, .int .i64 1] 3 (0, 0)) :: (g2, .cells (shC (.slice pc cs.length cc) (.slice po os.length co) tl0).toArray 32 (0, 0)) :: (g1, .cells (shC (.slice none 0 0) (.slice none 0 0) tl0).toArray 32 (0, 0)) :: (Kc ++ Tr)) Ko from Tw.djt) p hp⟩) rfl (by simp [strV, Value.oneCell']) Tw.om Tw.om Tw.om) Tw.pf ?_
             rintro v17 K9 ⟨Kl17, O17, N17, rfl⟩
             obtain ⟨dj18_0, dj18_1, dj18_2, dj18_3, dj18_4⟩ : Dk g13 Kl17 ∧ Dk g2 Kl17 ∧ Dk g1 Kl17 ∧ Dj Kc Kl17 ∧ Dj Tr Kl17 := Tw.djf N17
             refine lm (v := .pointer (some ⟨g2, 1, none⟩)) rfl rfl ?_
             obtain ⟨p19, c19, rfl⟩ := own_shape O17
             refine wpL_s ((g13, .cells #[.int .i64 0, .int .i64 1] 3 (0, 0)) :: (g2, .cells (shC (.slice pc cs.length cc) (.slice p19 (os.length + 1) c19) tl0).toArray 32 (0, 0)) :: (g1, .cells (shC (.slice none 0 0) (.slice none 0 0) tl0).toArray 32 (0, 0)) :: ((Kc ++ Tr) ++ Kl17)) rfl rfl (st_row (off := 1) (v := .slice p19 (os.length + 1) c19) rfl Tw.kr Tw.kr Tw.m1 Bg2 Tw.kr (by first | (simp [Value.cells]; done) | exact Nat.le_of_ble_eq_true rfl) (by intro v hv; simp [Value.cells] at hv; first | (subst hv; rfl) | (rcases hv with rfl <;> rfl)) Tw.kr (List.forall_mem_cons.2 ⟨.inr ⟨Tw.m0, Tw.nee⟩, (List.forall_mem_cons.2 ⟨.inl rfl, (List.forall_mem_cons.2 ⟨.inr ⟨Tw.m2, Tw.nee⟩, (fun p hp => .inr ⟨(.tail _ (.tail _ (.tail _ hp))), ((show Dk g2 ((Kc ++ Tr) ++ Kl17) from Tw.djt) _ hp)⟩)⟩)⟩)⟩)) ?_
             refine wpL_done (fun W16 hW16 => ?_)
             change Code.wp ..
             refine wp_seq ?_
             refine wp_region_L (W0 := W0) ((g13, .cells #[.int .i64 0, .int .i64 1] 3 (0, 0)) :: (g2, .cells (shC (.slice pc cs.length cc) (.slice p19 (os.length + 1) c19) tl0).toArray 32 (0, 0)) :: (g1, .cells (shC (.slice none 0 0) (.slice none 0 0) tl0).toArray 32 (0, 0)) :: ((Kc ++ Tr) ++ Kl17)) (hW16) ?_
             refine lm (v := .int .u32 ((n : Nat) : Int)) rfl rfl ?_
             refine lm (v := .int .i64 ((i : Nat) : Int)) rfl rfl ?_
             refine lp (v := .int .i64 (((2 * i) : Nat) : Int)) rfl rfl (run_bin rfl (vx := (.int .i64 ((2 : Nat) : Int))) (vy := (.int .i64 ((i : Nat) : Int))) Tw.kr Tw.kr fun w => bn_mul (z := (2 * i)) rfl (wr_i64 Tw.om) w) ?_
             refine lp (v := .int .i64 ((((2 * i) + 1) : Nat) : Int)) rfl rfl (run_bin rfl (vx := (.int .i64 (((2 * i) : Nat) : Int))) (vy := (.int .i64 ((1 : Nat) : Int))) Tw.kr Tw.kr fun w => bn_add (z := ((2 * i) + 1)) rfl (wr_i64 Tw.om) w) ?_
             refine lp (v := .int .u32 (((n / 2 ^ ((2 * i) + 1)) : Nat) : Int)) rfl rfl (run_bin rfl (vx := (.int .u32 ((n : Nat) : Int))) (vy := (.int .i64 ((((2 * i) + 1) : Nat) : Int))) Tw.kr Tw.kr fun w => bn_shr (z := (n / 2 ^ ((2 * i) + 1))) rfl (by first | omega | decide | (simp only [IntKind.bits]; omega)) w) ?_
             refine lp (v := .int .u32 ((((n / 2 ^ ((2 * i) + 1)) % 2) : Nat) : Int)) rfl rfl (run_bin rfl (vx := (.int .u32 (((n / 2 ^ ((2 * i) + 1)) : Nat) : Int))) (vy := (.int .u32 ((1 : Nat) : Int))) Tw.kr Tw.kr fun w => bn_and (z := ((n / 2 ^ ((2 * i) + 1)) % 2)) (Nat.and_one_is_mod _) (by rw [show IntKind.u32.bits = 32 from rfl]; exact Nat.lt_of_le_of_lt (Nat.div_le_self _ _) Tw.om) (by decide) (wr_u32 Tw.om) w) ?_
             refine lp (v := .bool (decide (((n / 2 ^ ((2 * i) + 1)) % 2) = 1))) rfl rfl (run_bin rfl (vx := (.int .u32 ((((n / 2 ^ ((2 * i) + 1)) % 2) : Nat) : Int))) (vy := (.int .u32 ((1 : Nat) : Int))) Tw.kr Tw.kr fun w => bn_eql rfl w) ?_
             refine wpL_done (fun W17 hW17 => ?_)
             change Code.wp ..
             cases hd6 : (decide (((n / 2 ^ ((2 * i) + 1)) % 2) = 1)) with
             | false =>
               have h6 : ¬ (((n / 2 ^ ((2 * i) + 1)) % 2) = 1) := of_decide_eq_false hd6
               clear hd6
               refine wp_cond_false rfl ?_
               refine wp_skip ?_
               change Code.wp ..
               refine wp_region_L (W0 := W0) ((g13, .cells #[.int .i64 0, .int .i64 1] 3 (0, 0)) :: (g2, .cells (shC (.slice pc cs.length cc) (.slice p19 (os.length + 1) c19) tl0).toArray 32 (0, 0)) :: (g1, .cells (shC (.slice none 0 0) (.slice none 0 0) tl0).toArray 32 (0, 0)) :: ((Kc ++ Tr) ++ Kl17)) (hW17) ?_
               refine lm (v := .int .i64 ((i : Nat) : Int)) rfl rfl ?_
               refine lp (v := .int .i64 (((i + 1) : Nat) : Int)) rfl rfl (run_bin rfl (vx := (.int .i64 ((i : Nat) : Int))) (vy := (.int .i64 ((1 : Nat) : Int))) Tw.kr Tw.kr fun w => bn_add (z := (i + 1)) rfl (wr_i64 Tw.om) w) ?_
               refine lm (v := .int .i64 (((i + 1) : Nat) : Int)) rfl rfl ?_
               refine wpL_done (fun W18 hW18 => ?_)
               go_roundw
               case rel =>
                 repeat apply Exists.intro
                 exact ⟨⟨i + 1, (os ++ [(⟨((i : Nat) : Int), [0, 1], some ⟨g13, 0, none⟩, 2⟩ : Cov)]), .slice p19 (os.length + 1) c19, ((g13, .cells #[.int .i64 0, .int .i64 1] 3 (0, 0)) :: Tr), Kl17, Tw.om, (by rw [cov_10 h4 h6]; simp only [List.map_append, List.map_cons, List.map_nil, hos, List.append_assoc, List.cons_append, List.nil_append]), (by simp only [List.length_append, List.length_singleton, List.length_cons, List.length_nil]; omega), (own_app O17 (by simp only [List.flatMap_append, List.append_assoc]; rfl) (by simp only [List.length_append]; rfl)), (RB.snoc (o := ⟨((i : Nat) : Int), [0, 1], some ⟨g13, 0, none⟩, 2⟩) hRo rfl (show Dk g13 Tr from Tw.djt) Bg13), (show Dk g2 ((g13, .cells #[.int .i64 0, .int .i64 1] 3 (0, 0)) :: Tr) from Tw.djt), (show Dk g1 ((g13, .cells #[.int .i64 0, .int .i64 1] 3 (0, 0)) :: Tr) from Tw.djt), (show Dj Kc ((g13, .cells #[.int .i64 0, .int .i64 1] 3 (0, 0)) :: Tr) from Tw.djt), (show Dk g2 Kl17 from Tw.djt), (show Dk g1 Kl17 from Tw.djt), (show Dj Kc Kl17 from Tw.djt), (show Dj ((g13, .cells #[.int .i64 0, .int .i64 1] 3 (0, 0)) :: Tr) Kl17 from Tw.djt), rfl, (hW18.sub (fun p hp => by first | exact hp | (simp only [List.mem_cons, List.mem_append, List.nil_append, List.not_mem_nil, or_assoc, or_false, false_or] at hp ⊢ <;> grind)))⟩, rfl⟩
               case measure => (show 5 - (intOf (.int .i64 (((i + 1) : Nat) : Int))).toNat < 5 - (intOf (.int .i64 ((i : Nat) : Int))).toNat); simp only [intOf]; omega
             | true =>
               have h6 : ((n / 2 ^ ((2 * i) + 1)) % 2) = 1 := of_decide_eq_true hd6
               clear hd6
               refine wp_cond_true rfl ?_
               refine wp_region_L (W0 := W0) ((g13, .cells #[.int .i64 0, .int .i64 1] 3 (0, 0)) :: (g2, .cells (shC (.slice pc cs.length cc) (.slice p19 (os.length + 1) c19) tl0).toArray 32 (0, 0)) :: (g1, .cells (shC (.slice none 0 0) (.slice none 0 0) tl0).toArray 32 (0, 0)) :: ((Kc ++ Tr) ++ Kl17)) (hW17) ?_
               refine lm (v := .pointer (some ⟨g2, 1, none⟩)) rfl rfl ?_
               refine lv (v := .slice p19 (os.length + 1) c19) rfl rfl (yb_cell (off := 1) rfl Tw.kr Tw.m1 Tryd.underlying23 rfl Tw.kr) ?_
               refine lm (v := .int .i64 ((i : Nat) : Int)) rfl rfl ?_
               refine wpL_new (fun g => .slice (some ⟨g, 0, none⟩) 3 3) (obi := .cells #[.int .i64 2, .int .i64 3, .int .i64 4] 3 (0, 0)) rfl rfl Tw.kf Tw.pf fun g20 Bg20 Fg20 => ?_
               obtain ⟨dj21_0, dj21_1, dj21_2, dj21_3, dj21_4, dj21_5⟩ : g13 ≠ g20 ∧ g2 ≠ g20 ∧ g1 ≠ g20 ∧ Dk g20 Kc ∧ Dk g20 Tr ∧ Dk g20 Kl17 := Tw.dkf Fg20
               refine lm (v := .agg #[.int .i64 ((i : Nat) : Int), .slice (some ⟨g20, 0, none⟩) 3 3]) rfl rfl ?_
               refine wpL_new (fun g => .slice (some ⟨g, 0, none⟩) 1 1) (obi := .cells #[.int .i64 ((i : Nat) : Int), .slice (some ⟨g20, 0, none⟩) 3 3] 67 (0, 0)) rfl rfl Tw.kf Tw.pf fun g22 Bg22 Fg22 => ?_
               obtain ⟨dj23_0, dj23_1, dj23_2, dj23_3, dj23_4, dj23_5, dj23_6⟩ : g20 ≠ g22 ∧ g13 ≠ g22 ∧ g2 ≠ g22 ∧ g1 ≠ g22 ∧ Dk g22 Kc ∧ Dk g22 Tr ∧ Dk g22 Kl17 := Tw.dkf Fg22
               refine wpL_g (AppO W0 67 2 ((g20, .cells #[.int .i64 2, .int .i64 3, .int .i64 4] 3 (0, 0)) :: (g13, .cells #[.int .i64 0, .int .i64 1] 3 (0, 0)) :: (g2, .cells (shC (.slice pc cs.length cc) (.slice p19 (os.length + 1) c19) tl0).toArray 32 (0, 0)) :: (g1, .cells (shC (.slice none 0 0) (.slice none 0 0) tl0).toArray 32 (0, 0)) :: (Kc ++ Tr)) ((os.length + 1) + 1) (((os.flatMap covC) ++ [.int .i64 ((i : Nat) : Int), .slice (some ⟨g13, 0, none⟩) 2 2]) ++ [.int .i64 ((i : Nat) : Int), .slice (some ⟨g20, 0, none⟩) 3 3])) rfl rfl (app_own el_cov (m := 1) (c := 1) (news := [.int .i64 ((i : Nat) : Int), .slice (some ⟨g20, 0, none⟩) 3 3]) rfl Tw.kr Tw.kr Tw.m0 O17 Tw.sc (fun p hp => ⟨by simp only [List.mem_cons, List.mem_append, List.nil_append, List.not_mem_nil, or_assoc, or_false, false_or] at hp ⊢ <;> grind, (show Dj ((g20, .cells #[.int .i64 2, .int .i64 3, .int .i64 4] 3 (0, 0)) :: (g13, .cells #[.int .i64 0, .int .i64 1] 3 (0, 0)) :: (g2, .cells (shC (.slice pc cs.length cc) (.slice p19 (os.length + 1) c19) tl0).toArray 32 (0, 0)) :: (g1, .cells (shC (.slice none 0 0) (.slice none 0 0) tl0).toArray 32 (0, 0)) :: (Kc ++ Tr)) Kl17 from Tw.djt) p hp⟩) rfl (by simp [strV, Value.oneCell']) Tw.om Tw.om Tw.om) Tw.pf ?_
               rintro v24 K9 ⟨Kl24, O24, N24, rfl⟩
               obtain ⟨dj25_0, dj25_1, dj25_2, dj25_3, dj25_4, dj25_5⟩ : Dk g20 Kl24 ∧ Dk g13 Kl24 ∧ Dk g2 Kl24 ∧ Dk g1 Kl24 ∧ Dj Kc Kl24 ∧ Dj Tr Kl24 := Tw.djf N24
               refine lm (v := .pointer (some ⟨g2, 1, none⟩)) rfl rfl ?_
               obtain ⟨p26, c26, rfl⟩ := own_shape O24
               refine wpL_s ((g20, .cells #[.int .i64 2, .int .i64 3, .int .i64 4] 3 (0, 0)) :: (g13, .cells #[.int .i64 0, .int .i64 1] 3 (0, 0)) :: (g2, .cells (shC (.slice pc cs.length cc) (.slice p26 ((os.length + 1) + 1) c26) tl0).toArray 32 (0, 0)) :: (g1, .cells (shC (.slice none 0 0) (.slice none 0 0) tl0).toArray 32 (0, 0)) :: ((Kc ++ Tr) ++ Kl24)) rfl rfl (st_row (off := 1) (v := .slice p26 ((os.length + 1) + 1) c26) rfl Tw.kr Tw.kr Tw.m2 Bg2 Tw.kr (by first | (simp [Value.cells]; done) | exact Nat.le_of_ble_eq_true rfl) (by intro v hv; simp [Value.cells] at hv; first | (subst hv; rfl) | (rcases hv with rfl <;> rfl)) Tw.kr (List.forall_mem_cons.2 ⟨.inr ⟨Tw.m0, Tw.nee⟩, (List.forall_mem_cons.2 ⟨.inr ⟨Tw.m1, Tw.nee⟩, (List.forall_mem_cons.2 ⟨.inl rfl, (List.forall_mem_cons.2 ⟨.inr ⟨Tw.m3, Tw.nee⟩, (fun p hp => .inr ⟨(.tail _ (.tail _ (.tail _ (.tail _ hp)))), ((show Dk g2 ((Kc ++ Tr) ++ Kl24) from Tw.djt) _ hp)⟩)⟩)⟩)⟩)⟩)) ?_
               refine wpL_done (fun W19 hW19 => ?_)
               change Code.wp ..
               refine wp_region_L (W0 := W0) ((g20, .cells #[.int .i64 2, .int .i64 3, .int .i64 4] 3 (0, 0)) :: (g13, .cells #[.int .i64 0, .int .i64 1] 3 (0, 0)) :: (g2, .cells (shC (.slice pc cs.length cc) (.slice p26 ((os.length + 1) + 1) c26) tl0).toArray 32 (0, 0)) :: (g1, .cells (shC (.slice none 0 0) (.slice none 0 0) tl0).toArray 32 (0, 0)) :: ((Kc ++ Tr) ++ Kl24)) (hW19) ?_
               refine lm (v := .int .i64 ((i : Nat) : Int)) rfl rfl ?_
               refine lp (v := .int .i64 (((i + 1) : Nat) : Int)) rfl rfl (run_bin rfl (vx := (.int .i64 ((i : Nat) : Int))) (vy := (.int .i64 ((1 : Nat) : Int))) Tw.kr Tw.kr fun w => bn_add (z := (i + 1)) rfl (wr_i64 Tw.om) w) ?_
               refine lm (v := .int .i64 (((i + 1) : Nat) : Int)) rfl rfl ?_
               refine wpL_done (fun W20 hW20 => ?_)
               go_roundw
               case rel =>
                 repeat apply Exists.intro
                 exact ⟨⟨i + 1, ((os ++ [(⟨((i : Nat) : Int), [0, 1], some ⟨g13, 0, none⟩, 2⟩ : Cov)]) ++ [(⟨((i : Nat) : Int), [2, 3, 4], some ⟨g20, 0, none⟩, 3⟩ : Cov)]), .slice p26 ((os.length + 1) + 1) c26, ((g20, .cells #[.int .i64 2, .int .i64 3, .int .i64 4] 3 (0, 0)) :: ((g13, .cells #[.int .i64 0, .int .i64 1] 3 (0, 0)) :: Tr)), Kl24, Tw.om, (by rw [cov_11 h4 h6]; simp only [List.map_append, List.map_cons, List.map_nil, hos, List.append_assoc, List.cons_append, List.nil_append]), (by simp only [List.length_append, List.length_singleton, List.length_cons, List.length_nil]; omega), (own_app O24 (by simp only [List.flatMap_append, List.append_assoc]; rfl) (by simp only [List.length_append]; rfl)), (RB.snoc (o := ⟨((i : Nat) : Int), [2, 3, 4], some ⟨g20, 0, none⟩, 3⟩) (RB.snoc (o := ⟨((i : Nat) : Int), [0, 1], some ⟨g13, 0, none⟩, 2⟩) hRo rfl (show Dk g13 Tr from Tw.djt) Bg13) rfl (show Dk g20 ((g13, .cells #[.int .i64 0, .int .i64 1] 3 (0, 0)) :: Tr) from Tw.djt) Bg20), (show Dk g2 ((g20, .cells #[.int .i64 2, .int .i64 3, .int .i64 4] 3 (0, 0)) :: ((g13, .cells #[.int .i64 0, .int .i64 1] 3 (0, 0)) :: Tr)) from Tw.djt), (show Dk g1 ((g20, .cells #[.int .i64 2, .int .i64 3, .int .i64 4] 3 (0, 0)) :: ((g13, .cells #[.int .i64 0, .int .i64 1] 3 (0, 0)) :: Tr)) from Tw.djt), (show Dj Kc ((g20, .cells #[.int .i64 2, .int .i64 3, .int .i64 4] 3 (0, 0)) :: ((g13, .cells #[.int .i64 0, .int .i64 1] 3 (0, 0)) :: Tr)) from Tw.djt), (show Dk g2 Kl24 from Tw.djt), (show Dk g1 Kl24 from Tw.djt), (show Dj Kc Kl24 from Tw.djt), (show Dj ((g20, .cells #[.int .i64 2, .int .i64 3, .int .i64 4] 3 (0, 0)) :: ((g13, .cells #[.int .i64 0, .int .i64 1] 3 (0, 0)) :: Tr)) Kl24 from Tw.djt), rfl, (hW20.sub (fun p hp => by first | exact hp | (simp only [List.mem_cons, List.mem_append, List.nil_append, List.not_mem_nil, or_assoc, or_false, false_or] at hp ⊢ <;> grind)))⟩, rfl⟩
               case measure => (show 5 - (intOf (.int .i64 (((i + 1) : Nat) : Int))).toNat < 5 - (intOf (.int .i64 ((i : Nat) : Int))).toNat); simp only [intOf]; omega
     | true =>
       have h2 : cs.length = 0 := of_decide_eq_true hd2
       clear hd2
       refine wp_cond_true rfl ?_
       refine wp_region_L (W0 := W0) ((g2, .cells (shC (.slice pc cs.length cc) (.slice none 0 0) tl0).toArray 32 (0, 0)) :: (g1, .cells (shC (.slice none 0 0) (.slice none 0 0) tl0).toArray 32 (0, 0)) :: Kc) (hW6) ?_
       refine lm (v := .agg #[.int .i64 0, .int .i64 0, .bool false, .int .i64 3, .int .i64 0, .int .i64 500000000, .int .i64 500000000, .int .i64 0, .slice none 0 0, .int .i64 0, .int .i64 0, .int .i64 2000]) rfl rfl ?_
       refine wpL_new (fun g => .slice (some ⟨g, 0, none⟩) 1 1) (obi := .cells #[.int .i64 0, .int .i64 0, .bool false, .int .i64 3, .int .i64 0, .int .i64 500000000, .int .i64 500000000, .int .i64 0, .slice none 0 0, .int .i64 0, .int .i64 0, .int .i64 2000] 65 (0, 0)) rfl rfl Tw.kf Tw.pf fun g27 Bg27 Fg27 => ?_
       obtain ⟨dj28_0, dj28_1, dj28_2⟩ : g2 ≠ g27 ∧ g1 ≠ g27 ∧ Dk g27 Kc := Tw.dkf Fg27
       refine lm (v := .pointer (some ⟨g2, 0, none⟩)) rfl rfl ?_
       refine wpL_s ((g27, .cells #[.int .i64 0, .int .i64 0, .bool false, .int .i64 3, .int .i64 0, .int .i64 500000000, .int .i64 500000000, .int .i64 0, .slice none 0 0, .int .i64 0, .int .i64 0, .int .i64 2000] 65 (0, 0)) :: (g2, .cells (shC (.slice (some ⟨g27, 0, none⟩) 1 1) (.slice none 0 0) tl0).toArray 32 (0, 0)) :: (g1, .cells (shC (.slice none 0 0) (.slice none 0 0) tl0).toArray 32 (0, 0)) :: Kc) rfl rfl (st_row (off := 0) (v := .slice (some ⟨g27, 0, none⟩) 1 1) rfl Tw.kr Tw.kr Tw.m1 Bg2 Tw.kr (by first | (simp [Value.cells]; done) | exact Nat.le_of_ble_eq_true rfl) (by intro v hv; simp [Value.cells] at hv; first | (subst hv; rfl) | (rcases hv with rfl <;> rfl)) Tw.kr (List.forall_mem_cons.2 ⟨.inr ⟨Tw.m0, Tw.nee⟩, (List.forall_mem_cons.2 ⟨.inl rfl, (List.forall_mem_cons.2 ⟨.inr ⟨Tw.m2, Tw.nee⟩, (fun p hp => .inr ⟨(.tail _ (.tail _ (.tail _ hp))), ((show Dk g2 Kc from Tw.djt) _ hp)⟩)⟩)⟩)⟩)) ?_
       refine wpL_done (fun W21 hW21 => ?_)
       change Code.wp ..
       refine wp_seq ?_
       refine wp_seq ?_
       refine wp_region_L (W0 := W0) ((g27, .cells #[.int .i64 0, .int .i64 0, .bool false, .int .i64 3, .int .i64 0, .int .i64 500000000, .int .i64 500000000, .int .i64 0, .slice none 0 0, .int .i64 0, .int .i64 0, .int .i64 2000] 65 (0, 0)) :: (g2, .cells (shC (.slice (some ⟨g27, 0, none⟩) 1 1) (.slice none 0 0) tl0).toArray 32 (0, 0)) :: (g1, .cells (shC (.slice none 0 0) (.slice none 0 0) tl0).toArray 32 (0, 0)) :: Kc) (hW21) ?_
       refine lm (v := .int .i64 0) rfl rfl ?_
       refine wpL_done (fun W22 hW22 => ?_)
       change Code.wp ..
       refine wp_block ?_
       have hB : builtC l = [col1] := by unfold builtC; rw [← hm, ← show cs = bld (l.take m) from by rw [hcs, List.take_of_length_le (by rw [List.length_take]; omega)]]; exact if_pos h2
       go_loopw [11] (fun u11 wr => ∃ (i : Nat) (os : List Cov) (vo : Value) (Tr Ko : List (Nat × Obj)), (i ≤ 5) ∧ (os.map (fun o => (o.bay, o.rows)) = covTo n i) ∧ (os.length ≤ 2 * i) ∧ (OwnL W0 67 2 vo os.length (os.flatMap covC) Ko) ∧ (RB W0 Tr os) ∧ (Dk g27 Tr) ∧ (Dk g2 Tr) ∧ (Dk g1 Tr) ∧ (Dj Kc Tr) ∧ (Dk g27 Ko) ∧ (Dk g2 Ko) ∧ (Dk g1 Ko) ∧ (Dj Kc Ko) ∧ (Dj Tr Ko) ∧ u11 = .int .i64 ((i : Nat) : Int) ∧ KS W0 ((g27, .cells #[.int .i64 0, .int .i64 0, .bool false, .int .i64 3, .int .i64 0, .int .i64 500000000, .int .i64 500000000, .int .i64 0, .slice none 0 0, .int .i64 0, .int .i64 0, .int .i64 2000] 65 (0, 0)) :: (g2, .cells (shC (.slice (some ⟨g27, 0, none⟩) 1 1) (vo) tl0).toArray 32 (0, 0)) :: (g1, .cells (shC (.slice none 0 0) (.slice none 0 0) tl0).toArray 32 (0, 0)) :: (Kc ++ (Tr ++ Ko))) wr) (fun u11 _ => 5 - (intOf u11).toNat)
       case atStart => exact ⟨0, [], (.slice none 0 0), [], [], (Nat.zero_le _), rfl, (Nat.le_refl _), (OwnL.nil _ _ _), RB.nil, (show Dk g27 [] from Tw.djt), (show Dk g2 [] from Tw.djt), (show Dk g1 [] from Tw.djt), (show Dj Kc [] from Tw.djt), (show Dk g27 [] from Tw.djt), (show Dk g2 [] from Tw.djt), (show Dk g1 [] from Tw.djt), (show Dj Kc [] from Tw.djt), (show Dj [] [] from Tw.djt), rfl, (hW22.sub (fun p hp => by first | exact hp | (simp only [List.mem_cons, List.mem_append, List.nil_append, List.not_mem_nil, or_assoc, or_false, false_or] at hp ⊢ <;> grind)))⟩
       case round =>
         obtain ⟨i, os, vo, Tr, Ko, hi, hos, hlo, hOo, hRo, dh29_0, dh29_1, dh29_2, dh29_3, dh29_4, dh29_5, dh29_6, dh29_7, dh29_8, rfl, hL23⟩ := hrel
         obtain ⟨po, co, rfl, hco, RO⟩ := own_rl hOo
         refine wp_seq ?_
         refine wp_seq ?_
         refine wp_region_L (W0 := W0) ((g27, .cells #[.int .i64 0, .int .i64 0, .bool false, .int .i64 3, .int .i64 0, .int .i64 500000000, .int .i64 500000000, .int .i64 0, .slice none 0 0, .int .i64 0, .int .i64 0, .int .i64 2000] 65 (0, 0)) :: (g2, .cells (shC (.slice (some ⟨g27, 0, none⟩) 1 1) (.slice po os.length co) tl0).toArray 32 (0, 0)) :: (g1, .cells (shC (.slice none 0 0) (.slice none 0 0) tl0).toArray 32 (0, 0)) :: (Kc ++ (Tr ++ Ko))) (hL23) ?_
         refine lm (v := .int .i64 ((i : Nat) : Int)) rfl rfl ?_
         refine lp (v := .bool (decide (i < 5))) rfl rfl (run_bin rfl (vx := (.int .i64 ((i : Nat) : Int))) (vy := (.int .i64 ((5 : Nat) : Int))) Tw.kr Tw.kr fun w => bn_lss rfl w) ?_
         refine wpL_done (fun W24 hW24 => ?_)
         change Code.wp ..
         cases hd7 : (decide (i < 5)) with
         | false =>
           have h7 : ¬ (i < 5) := of_decide_eq_false hd7
           clear hd7
           refine wp_cond_false rfl ?_
           refine wp_exit ?_
           change Code.wp ..
           refine wp_seq ?_
           refine wp_region_L (W0 := W0) ((g27, .cells #[.int .i64 0, .int .i64 0, .bool false, .int .i64 3, .int .i64 0, .int .i64 500000000, .int .i64 500000000, .int .i64 0, .slice none 0 0, .int .i64 0, .int .i64 0, .int .i64 2000] 65 (0, 0)) :: (g2, .cells (shC (.slice (some ⟨g27, 0, none⟩) 1 1) (.slice po os.length co) tl0).toArray 32 (0, 0)) :: (g1, .cells (shC (.slice none 0 0) (.slice none 0 0) tl0).toArray 32 (0, 0)) :: (Kc ++ (Tr ++ Ko))) (hW24) ?_
           refine lv (v := .agg (shC (.slice (some ⟨g27, 0, none⟩) 1 1) (.slice po os.length co) tl0).toArray) rfl rfl (yb_load (n := 13) (off := 0) rfl Tw.kr Tw.m1 Tryd.underlying32 rfl Tw.kr (by first | (simp [Value.cells]; done) | exact Nat.le_of_ble_eq_true rfl) Tw.kr) ?_
           refine wpL_s ((g27, .cells #[.int .i64 0, .int .i64 0, .bool false, .int .i64 3, .int .i64 0, .int .i64 500000000, .int .i64 500000000, .int .i64 0, .slice none 0 0, .int .i64 0, .int .i64 0, .int .i64 2000] 65 (0, 0)) :: (g2, .cells (shC (.slice (some ⟨g27, 0, none⟩) 1 1) (.slice po os.length co) tl0).toArray 32 (0, 0)) :: (g1, .cells (shC (.slice (some ⟨g27, 0, none⟩) 1 1) (.slice po os.length co) tl0).toArray 32 (0, 0)) :: (Kc ++ (Tr ++ Ko))) rfl rfl (st_row (off := 0) (v := .agg (shC (.slice (some ⟨g27, 0, none⟩) 1 1) (.slice po os.length co) tl0).toArray) rfl Tw.kr Tw.kr Tw.m2 Bg1 Tw.kr (by first | (simp [Value.cells]; done) | exact Nat.le_of_ble_eq_true rfl) (fun v hv => shC_one v hv) Tw.kr (List.forall_mem_cons.2 ⟨.inr ⟨Tw.m0, Tw.nee⟩, (List.forall_mem_cons.2 ⟨.inr ⟨Tw.m1, Tw.nee⟩, (List.forall_mem_cons.2 ⟨.inl rfl, (fun p hp => .inr ⟨(.tail _ (.tail _ (.tail _ hp))), ((show Dk g1 (Kc ++ (Tr ++ Ko)) from Tw.djt) _ hp)⟩)⟩)⟩)⟩)) ?_
           refine wpL_done (fun W25 hW25 => ?_)
           change Code.wp ..
           refine wp_ret ?_
           try simp only [inBlock_ret, then_ret]
           refine bodyPost_ret (v := .agg (shC (.slice (some ⟨g27, 0, none⟩) 1 1) (.slice po os.length co) tl0).toArray) ?_ rfl ?_
           · exact (res_cell (p := 4) rfl rfl (hW25.2 _ Tw.m2) Tryd.underlying32 rfl Tw.kr)
           · exact ⟨_, [(g27, .cells #[.int .i64 0, .int .i64 0, .bool false, .int .i64 3, .int .i64 0, .int .i64 500000000, .int .i64 500000000, .int .i64 0, .slice none 0 0, .int .i64 0, .int .i64 0, .int .i64 2000] 65 (0, 0))] ++ (Ko ++ Tr), rfl, (hW25.sub (fun p hp => by simp only [List.mem_cons, List.mem_append, List.not_mem_nil, or_false] at hp ⊢; grind)), (by rw [hB]; exact ⟨some ⟨g27, 0, none⟩, 1, os, po, co, [(g27, .cells #[.int .i64 0, .int .i64 0, .bool false, .int .i64 3, .int .i64 0, .int .i64 500000000, .int .i64 500000000, .int .i64 0, .slice none 0 0, .int .i64 0, .int .i64 0, .int .i64 2000] 65 (0, 0))], Ko, Tr, rfl, (.inr ⟨g27, 1, _, rfl, Bg27, ⟨rfl, by unfold maxLen; omega, Nat.le_refl _, rfl, rfl⟩, rfl⟩), hOo, hRo, (show Dj [(g27, .cells #[.int .i64 0, .int .i64 0, .bool false, .int .i64 3, .int .i64 0, .int .i64 500000000, .int .i64 500000000, .int .i64 0, .slice none 0 0, .int .i64 0, .int .i64 0, .int .i64 2000] 65 (0, 0))] Ko from Tw.djt), (show Dj [(g27, .cells #[.int .i64 0, .int .i64 0, .bool false, .int .i64 3, .int .i64 0, .int .i64 500000000, .int .i64 500000000, .int .i64 0, .slice none 0 0, .int .i64 0, .int .i64 0, .int .i64 2000] 65 (0, 0))] Tr from Tw.djt), (show Dj Ko Tr from Tw.djt), (by rw [hos, show i = 5 from by omega]; rfl), rfl⟩)⟩
         | true =>
           have h7 : i < 5 := of_decide_eq_true hd7
           clear hd7
           refine wp_cond_true rfl ?_
           refine wp_skip ?_
           change Code.wp ..
           refine wp_seq ?_
           refine wp_block ?_
           refine wp_seq ?_
           refine wp_seq ?_
           refine wp_region_L (W0 := W0) ((g27, .cells #[.int .i64 0, .int .i64 0, .bool false, .int .i64 3, .int .i64 0, .int .i64 500000000, .int .i64 500000000, .int .i64 0, .slice none 0 0, .int .i64 0, .int .i64 0, .int .i64 2000] 65 (0, 0)) :: (g2, .cells (shC (.slice (some ⟨g27, 0, none⟩) 1 1) (.slice po os.length co) tl0).toArray 32 (0, 0)) :: (g1, .cells (shC (.slice none 0 0) (.slice none 0 0) tl0).toArray 32 (0, 0)) :: (Kc ++ (Tr ++ Ko))) (hW24) ?_
           refine lm (v := .int .u32 ((n : Nat) : Int)) rfl rfl ?_
           refine lm (v := .int .i64 ((i : Nat) : Int)) rfl rfl ?_
           refine lp (v := .int .i64 (((2 * i) : Nat) : Int)) rfl rfl (run_bin rfl (vx := (.int .i64 ((2 : Nat) : Int))) (vy := (.int .i64 ((i : Nat) : Int))) Tw.kr Tw.kr fun w => bn_mul (z := (2 * i)) rfl (wr_i64 Tw.om) w) ?_
           refine lp (v := .int .u32 (((n / 2 ^ (2 * i)) : Nat) : Int)) rfl rfl (run_bin rfl (vx := (.int .u32 ((n : Nat) : Int))) (vy := (.int .i64 (((2 * i) : Nat) : Int))) Tw.kr Tw.kr fun w => bn_shr (z := (n / 2 ^ (2 * i))) rfl (by first | omega | decide | (simp only [IntKind.bits]; omega)) w) ?_
           refine lp (v := .int .u32 ((((n / 2 ^ (2 * i)) % 2) : Nat) : Int)) rfl rfl (run_bin rfl (vx := (.int .u32 (((n / 2 ^ (2 * i)) : Nat) : Int))) (vy := (.int .u32 ((1 : Nat) : Int))) Tw.kr Tw.kr fun w => bn_and (z := ((n / 2 ^ (2 * i)) % 2)) (Nat.and_one_is_mod _) (by rw [show IntKind.u32.bits = 32 from rfl]; exact Nat.lt_of_le_of_lt (Nat.div_le_self _ _) Tw.om) (by decide) (wr_u32 Tw.om) w) ?_
           refine lp (v := .bool (decide (((n / 2 ^ (2 * i)) % 2) = 1))) rfl rfl (run_bin rfl (vx := (.int .u32 ((((n / 2 ^ (2 * i)) % 2) : Nat) : Int))) (vy := (.int .u32 ((1 : Nat) : Int))) Tw.kr Tw.kr fun w => bn_eql rfl w) ?_
           refine wpL_done (fun W26 hW26 => ?_)
           change Code.wp ..
           cases hd8 : (decide (((n / 2 ^ (2 * i)) % 2) = 1)) with
           | false =>
             have h8 : ¬ (((n / 2 ^ (2 * i)) % 2) = 1) := of_decide_eq_false hd8
             clear hd8
             refine wp_cond_false rfl ?_
             refine wp_skip ?_
             change Code.wp ..
             refine wp_seq ?_
             refine wp_region_L (W0 := W0) ((g27, .cells #[.int .i64 0, .int .i64 0, .bool false, .int .i64 3, .int .i64 0, .int .i64 500000000, .int .i64 500000000, .int .i64 0, .slice none 0 0, .int .i64 0, .int .i64 0, .int .i64 2000] 65 (0, 0)) :: (g2, .cells (shC (.slice (some ⟨g27, 0, none⟩) 1 1) (.slice po os.length co) tl0).toArray 32 (0, 0)) :: (g1, .cells (shC (.slice none 0 0) (.slice none 0 0) tl0).toArray 32 (0, 0)) :: (Kc ++ (Tr ++ Ko))) (hW26) ?_
             refine lm (v := .int .u32 ((n : Nat) : Int)) rfl rfl ?_
             refine lm (v := .int .i64 ((i : Nat) : Int)) rfl rfl ?_
             refine lp (v := .int .i64 (((2 * i) : Nat) : Int)) rfl rfl (run_bin rfl (vx := (.int .i64 ((2 : Nat) : Int))) (vy := (.int .i64 ((i : Nat) : Int))) Tw.kr Tw.kr fun w => bn_mul (z := (2 * i)) rfl (wr_i64 Tw.om) w) ?_
             refine lp (v := .int .i64 ((((2 * i) + 1) : Nat) : Int)) rfl rfl (run_bin rfl (vx := (.int .i64 (((2 * i) : Nat) : Int))) (vy := (.int .i64 ((1 : Nat) : Int))) Tw.kr Tw.kr fun w => bn_add (z := ((2 * i) + 1)) rfl (wr_i64 Tw.om) w) ?_
             refine lp (v := .int .u32 (((n / 2 ^ ((2 * i) + 1)) : Nat) : Int)) rfl rfl (run_bin rfl (vx := (.int .u32 ((n : Nat) : Int))) (vy := (.int .i64 ((((2 * i) + 1) : Nat) : Int))) Tw.kr Tw.kr fun w => bn_shr (z := (n / 2 ^ ((2 * i) + 1))) rfl (by first | omega | decide | (simp only [IntKind.bits]; omega)) w) ?_
             refine lp (v := .int .u32 ((((n / 2 ^ ((2 * i) + 1)) % 2) : Nat) : Int)) rfl rfl (run_bin rfl (vx := (.int .u32 (((n / 2 ^ ((2 * i) + 1)) : Nat) : Int))) (vy := (.int .u32 ((1 : Nat) : Int))) Tw.kr Tw.kr fun w => bn_and (z := ((n / 2 ^ ((2 * i) + 1)) % 2)) (Nat.and_one_is_mod _) (by rw [show IntKind.u32.bits = 32 from rfl]; exact Nat.lt_of_le_of_lt (Nat.div_le_self _ _) Tw.om) (by decide) (wr_u32 Tw.om) w) ?_
             refine lp (v := .bool (decide (((n / 2 ^ ((2 * i) + 1)) % 2) = 1))) rfl rfl (run_bin rfl (vx := (.int .u32 ((((n / 2 ^ ((2 * i) + 1)) % 2) : Nat) : Int))) (vy := (.int .u32 ((1 : Nat) : Int))) Tw.kr Tw.kr fun w => bn_eql rfl w) ?_
             refine wpL_done (fun W27 hW27 => ?_)
             change Code.wp ..
             cases hd9 : (decide (((n / 2 ^ ((2 * i) + 1)) % 2) = 1)) with
             | false =>
               have h9 : ¬ (((n / 2 ^ ((2 * i) + 1)) % 2) = 1) := of_decide_eq_false hd9
               clear hd9
               refine wp_cond_false rfl ?_
               refine wp_skip ?_
               change Code.wp ..
               refine wp_region_L (W0 := W0) ((g27, .cells #[.int .i64 0, .int .i64 0, .bool false, .int .i64 3, .int .i64 0, .int .i64 500000000, .int .i64 500000000, .int .i64 0, .slice none 0 0, .int .i64 0, .int .i64 0, .int .i64 2000] 65 (0, 0)) :: (g2, .cells (shC (.slice (some ⟨g27, 0, none⟩) 1 1) (.slice po os.length co) tl0).toArray 32 (0, 0)) :: (g1, .cells (shC (.slice none 0 0) (.slice none 0 0) tl0).toArray 32 (0, 0)) :: (Kc ++ (Tr ++ Ko))) (hW27) ?_
               refine lm (v := .int .i64 ((i : Nat) : Int)) rfl rfl ?_
               refine lp (v := .int .i64 (((i + 1) : Nat) : Int)) rfl rfl (run_bin rfl (vx := (.int .i64 ((i : Nat) : Int))) (vy := (.int .i64 ((1 : Nat) : Int))) Tw.kr Tw.kr fun w => bn_add (z := (i + 1)) rfl (wr_i64 Tw.om) w) ?_
               refine lm (v := .int .i64 (((i + 1) : Nat) : Int)) rfl rfl ?_
               refine wpL_done (fun W28 hW28 => ?_)
               go_roundw
               case rel =>
                 repeat apply Exists.intro
                 exact ⟨⟨i + 1, os, (.slice po os.length co), Tr, Ko, Tw.om, (by rw [cov_00 h8 h9, hos]), Tw.om, hOo, hRo, (show Dk g27 Tr from Tw.djt), (show Dk g2 Tr from Tw.djt), (show Dk g1 Tr from Tw.djt), (show Dj Kc Tr from Tw.djt), (show Dk g27 Ko from Tw.djt), (show Dk g2 Ko from Tw.djt), (show Dk g1 Ko from Tw.djt), (show Dj Kc Ko from Tw.djt), (show Dj Tr Ko from Tw.djt), rfl, (hW28.sub (fun p hp => by first | exact hp | (simp only [List.mem_cons, List.mem_append, List.nil_append, List.not_mem_nil, or_assoc, or_false, false_or] at hp ⊢ <;> grind)))⟩, rfl⟩
               case measure => (show 5 - (intOf (.int .i64 (((i + 1) : Nat) : Int))).toNat < 5 - (intOf (.int .i64 ((i : Nat) : Int))).toNat); simp only [intOf]; omega
             | true =>
               have h9 : ((n / 2 ^ ((2 * i) + 1)) % 2) = 1 := of_decide_eq_true hd9
               clear hd9
               refine wp_cond_true rfl ?_
               refine wp_region_L (W0 := W0) ((g27, .cells #[.int .i64 0, .int .i64 0, .bool false, .int .i64 3, .int .i64 0, .int .i64 500000000, .int .i64 500000000, .int .i64 0, .slice none 0 0, .int .i64 0, .int .i64 0, .int .i64 2000] 65 (0, 0)) :: (g2, .cells (shC (.slice (some ⟨g27, 0, none⟩) 1 1) (.slice po os.length co) tl0).toArray 32 (0, 0)) :: (g1, .cells (shC (.slice none 0 0) (.slice none 0 0) tl0).toArray 32 (0, 0)) :: (Kc ++ (Tr ++ Ko))) (hW27) ?_
               refine lm (v := .pointer (some ⟨g2, 1, none⟩)) rfl rfl ?_
               refine lv (v := .slice po os.length co) rfl rfl (yb_cell (off := 1) rfl Tw.kr Tw.m1 Tryd.underlying23 rfl Tw.kr) ?_
               refine lm (v := .int .i64 ((i : Nat) : Int)) rfl rfl ?_
               refine wpL_new (fun g => .slice (some ⟨g, 0, none⟩) 3 3) (obi := .cells #[.int .i64 2, .int .i64 3, .int .i64 4] 3 (0, 0)) rfl rfl Tw.kf Tw.pf fun g30 Bg30 Fg30 => ?_
               obtain ⟨dj31_0, dj31_1, dj31_2, dj31_3, dj31_4, dj31_5⟩ : g27 ≠ g30 ∧ g2 ≠ g30 ∧ g1 ≠ g30 ∧ Dk g30 Kc ∧ Dk g30 Tr ∧ Dk g30 Ko := Tw.dkf Fg30
               refine lm (v := .agg #[.int .i64 ((i : Nat) : Int), .slice (some ⟨g30, 0, none⟩) 3 3]) rfl rfl ?_
               refine wpL_new (fun g => .slice (some ⟨g, 0, none⟩) 1 1) (obi := .cells #[.int .i64 ((i : Nat) : Int), .slice (some ⟨g30, 0, none⟩) 3 3] 67 (0, 0)) rfl rfl Tw.kf Tw.pf fun g32 Bg32 Fg32 => ?_
               obtain ⟨dj33_0, dj33_1, dj33_2, dj33_3, dj33_4, dj33_5, dj33_6⟩ : g30 ≠ g32 ∧ g27 ≠ g32 ∧ g2 ≠ g32 ∧ g1 ≠ g32 ∧ Dk g32 Kc ∧ Dk g32 Tr ∧ Dk g32 Ko := Tw.dkf Fg32
               refine wpL_g (AppO W0 67 2 ((g30, .cells #[.int .i64 2, .int .i64 3, .int .i64 4] 3 (0, 0)) :: (g27, .cells #[.int .i64 0, .int .i64 0, .bool false, .int .i64 3, .int .i64 0, .int .i64 500000000, .int .i64 500000000, .int .i64 0, .slice none 0 0, .int .i64 0, .int .i64 0, .int .i64 2000] 65 (0, 0)) :: (g2, .cells (shC (.slice (some ⟨g27, 0, none⟩) 1 1) (.slice po os.length co) tl0).toArray 32 (0, 0)) :: (g1, .cells (shC (.slice none 0 0) (.slice none 0 0) tl0).toArray 32 (0, 0)) :: (Kc ++ Tr)) (os.length + 1) ((os.flatMap covC) ++ [.int .i64 ((i : Nat) : Int), .slice (some ⟨g30, 0, none⟩) 3 3])) rfl rfl (app_own el_cov (m := 1) (c := 1) (news := [.int .i64 ((i : Nat) : Int), .slice (some ⟨g30, 0, none⟩) 3 3]) rfl Tw.kr Tw.kr Tw.m0 hOo Tw.sc (fun p hp => ⟨by simp only [List.mem_cons, List.mem_append, List.nil_append, List.not_mem_nil, or_assoc, or_false, false_or] at hp ⊢ <;> grind, (show Dj ((g30, .cells #[.int .i64 2, .int .i64 3, .int .i64 4] 3 (0, 0)) :: (g27, .cells #[.int .i64 0, .int .i64 0, .bool false, .int .i64 3, .int .i64 0, .int .i64 500000000, .int .i64 500000000, .int .i64 0, .slice none 0 0, .int .i64 0, .int .i64 0, .int .i64 2000] 65 (0, 0)) :: (g2, .cells (shC (.slice (some ⟨g27, 0, none⟩) 1 1) (.slice po os.length co) tl0).toArray 32 (0, 0)) :: (g1, .cells (shC (.slice none 0 0) (.slice none 0 0) tl0).toArray 32 (0, 0)) :: (Kc ++ Tr)) Ko from Tw.djt) p hp⟩) rfl (by simp [strV, Value.oneCell']) Tw.om Tw.om Tw.om) Tw.pf ?_
               rintro v34 K9 ⟨Kl34, O34, N34, rfl⟩
               obtain ⟨dj35_0, dj35_1, dj35_2, dj35_3, dj35_4, dj35_5⟩ : Dk g30 Kl34 ∧ Dk g27 Kl34 ∧ Dk g2 Kl34 ∧ Dk g1 Kl34 ∧ Dj Kc Kl34 ∧ Dj Tr Kl34 := Tw.djf N34
               refine lm (v := .pointer (some ⟨g2, 1, none⟩)) rfl rfl ?_
               obtain ⟨p36, c36, rfl⟩ := own_shape O34
               refine wpL_s ((g30, .cells #[.int .i64 2, .int .i64 3, .int .i64 4] 3 (0, 0)) :: (g27, .cells #[.int .i64 0, .int .i64 0, .bool false, .int .i64 3, .int .i64 0, .int .i64 500000000, .int .i64 500000000, .int .i64 0, .slice none 0 0, .int .i64 0, .int .i64 0, .int .i64 2000] 65 (0, 0)) :: (g2, .cells (shC (.slice (some ⟨g27, 0, none⟩) 1 1) (.slice p36 (os.length + 1) c36) tl0).toArray 32 (0, 0)) :: (g1, .cells (shC (.slice none 0 0) (.slice none 0 0) tl0).toArray 32 (0, 0)) :: ((Kc ++ Tr) ++ Kl34)) rfl rfl (st_row (off := 1) (v := .slice p36 (os.length + 1) c36) rfl Tw.kr Tw.kr Tw.m2 Bg2 Tw.kr (by first | (simp [Value.cells]; done) | exact Nat.le_of_ble_eq_true rfl) (by intro v hv; simp [Value.cells] at hv; first | (subst hv; rfl) | (rcases hv with rfl <;> rfl)) Tw.kr (List.forall_mem_cons.2 ⟨.inr ⟨Tw.m0, Tw.nee⟩, (List.forall_mem_cons.2 ⟨.inr ⟨Tw.m1, Tw.nee⟩, (List.forall_mem_cons.2 ⟨.inl rfl, (List.forall_mem_cons.2 ⟨.inr ⟨Tw.m3, Tw.nee⟩, (fun p hp => .inr ⟨(.tail _ (.tail _ (.tail _ (.tail _ hp)))), ((show Dk g2 ((Kc ++ Tr) ++ Kl34) from Tw.djt) _ hp)⟩)⟩)⟩)⟩)⟩)) ?_
               refine wpL_done (fun W29 hW29 => ?_)
               change Code.wp ..
               refine wp_region_L (W0 := W0) ((g30, .cells #[.int .i64 2, .int .i64 3, .int .i64 4] 3 (0, 0)) :: (g27, .cells #[.int .i64 0, .int .i64 0, .bool false, .int .i64 3, .int .i64 0, .int .i64 500000000, .int .i64 500000000, .int .i64 0, .slice none 0 0, .int .i64 0, .int .i64 0, .int .i64 2000] 65 (0, 0)) :: (g2, .cells (shC (.slice (some ⟨g27, 0, none⟩) 1 1) (.slice p36 (os.length + 1) c36) tl0).toArray 32 (0, 0)) :: (g1, .cells (shC (.slice none 0 0) (.slice none 0 0) tl0).toArray 32 (0, 0)) :: ((Kc ++ Tr) ++ Kl34)) (hW29) ?_
               refine lm (v := .int .i64 ((i : Nat) : Int)) rfl rfl ?_
               refine lp (v := .int .i64 (((i + 1) : Nat) : Int)) rfl rfl (run_bin rfl (vx := (.int .i64 ((i : Nat) : Int))) (vy := (.int .i64 ((1 : Nat) : Int))) Tw.kr Tw.kr fun w => bn_add (z := (i + 1)) rfl (wr_i64 Tw.om) w) ?_
               refine lm (v := .int .i64 (((i + 1) : Nat) : Int)) rfl rfl ?_
               refine wpL_done (fun W30 hW30 => ?_)
               go_roundw
               case rel =>
                 repeat apply Exists.intro
                 exact ⟨⟨i + 1, (os ++ [(⟨((i : Nat) : Int), [2, 3, 4], some ⟨g30, 0, none⟩, 3⟩ : Cov)]), .slice p36 (os.length + 1) c36, ((g30, .cells #[.int .i64 2, .int .i64 3, .int .i64 4] 3 (0, 0)) :: Tr), Kl34, Tw.om, (by rw [cov_01 h8 h9]; simp only [List.map_append, List.map_cons, List.map_nil, hos, List.append_assoc, List.cons_append, List.nil_append]), (by simp only [List.length_append, List.length_singleton, List.length_cons, List.length_nil]; omega), (own_app O34 (by simp only [List.flatMap_append, List.append_assoc]; rfl) (by simp only [List.length_append]; rfl)), (RB.snoc (o := ⟨((i : Nat) : Int), [2, 3, 4], some ⟨g30, 0, none⟩, 3⟩) hRo rfl (show Dk g30 Tr from Tw.djt) Bg30), (show Dk g27 ((g30, .cells #[.int .i64 2, .int .i64 3, .int .i64 4] 3 (0, 0)) :: Tr) from Tw.djt), (show Dk g2 ((g30, .cells #[.int .i64 2, .int .i64 3, .int .i64 4] 3 (0, 0)) :: Tr) from Tw.djt), (show Dk g1 ((g30, .cells #[.int .i64 2, .int .i64 3, .int .i64 4] 3 (0, 0)) :: Tr) from Tw.djt), (show Dj Kc ((g30, .cells #[.int .i64 2, .int .i64 3, .int .i64 4] 3 (0, 0)) :: Tr) from Tw.djt), (show Dk g27 Kl34 from Tw.djt), (show Dk g2 Kl34 from Tw.djt), (show Dk g1 Kl34 from Tw.djt), (show Dj Kc Kl34 from Tw.djt), (show Dj ((g30, .cells #[.int .i64 2, .int .i64 3, .int .i64 4] 3 (0, 0)) :: Tr) Kl34 from Tw.djt), rfl, (hW30.sub (fun p hp => by first | exact hp | (simp only [List.mem_cons, List.mem_append, List.nil_append, List.not_mem_nil, or_assoc, or_false, false_or] at hp ⊢ <;> grind)))⟩, rfl⟩
               case measure => (show 5 - (intOf (.int .i64 (((i + 1) : Nat) : Int))).toNat < 5 - (intOf (.int .i64 ((i : Nat) : Int))).toNat); simp only [intOf]; omega
           | true =>
             have h8 : ((n / 2 ^ (2 * i)) % 2) = 1 := of_decide_eq_true hd8
             clear hd8
             refine wp_cond_true rfl ?_
             refine wp_region_L (W0 := W0) ((g27, .cells #[.int .i64 0, .int .i64 0, .bool false, .int .i64 3, .int .i64 0, .int .i64 500000000, .int .i64 500000000, .int .i64 0, .slice none 0 0, .int .i64 0, .int .i64 0, .int .i64 2000] 65 (0, 0)) :: (g2, .cells (shC (.slice (some ⟨g27, 0, none⟩) 1 1) (.slice po os.length co) tl0).toArray 32 (0, 0)) :: (g1, .cells (shC (.slice none 0 0) (.slice none 0 0) tl0).toArray 32 (0, 0)) :: (Kc ++ (Tr ++ Ko))) (hW26) ?_
             refine lm (v := .pointer (some ⟨g2, 1, none⟩)) rfl rfl ?_
             refine lv (v := .slice po os.length co) rfl rfl (yb_cell (off := 1) rfl Tw.kr Tw.m1 Tryd.underlying23 rfl Tw.kr) ?_
             refine lm (v := .int .i64 ((i : Nat) : Int)) rfl rfl ?_
             refine wpL_new (fun g => .slice (some ⟨g, 0, none⟩) 2 2) (obi := .cells #[.int .i64 0, .int .i64 1] 3 (0, 0)) rfl rfl Tw.kf Tw.pf fun g37 Bg37 Fg37 => ?_
             obtain ⟨dj38_0, dj38_1, dj38_2, dj38_3, dj38_4, dj38_5⟩ : g27 ≠ g37 ∧ g2 ≠ g37 ∧ g1 ≠ g37 ∧ Dk g37 Kc ∧ Dk g37 Tr ∧ Dk g37 Ko := Tw.dkf Fg37
             refine lm (v := .agg #[.int .i64 ((i : Nat) : Int), .slice (some ⟨g37, 0, none⟩) 2 2]) rfl rfl ?_
             refine wpL_new (fun g => .slice (some ⟨g, 0, none⟩) 1 1) (obi := .cells #[.int .i64 ((i : Nat) : Int), .slice (some ⟨g37, 0, none⟩) 2 2] 67 (0, 0)) rfl rfl Tw.kf Tw.pf fun g39 Bg39 Fg39 => ?_
             obtain ⟨dj40_0, dj40_1, dj40_2, dj40_3, dj40_4, dj40_5, dj40_6⟩ : g37 ≠ g39 ∧ g27 ≠ g39 ∧ g2 ≠ g39 ∧ g1 ≠ g39 ∧ Dk g39 Kc ∧ Dk g39 Tr ∧ Dk g39 Ko := Tw.dkf Fg39
             refine wpL_g (AppO W0 67 2 ((g37, .cells #[.int .i64 0, .int .i64 1] 3 (0, 0)) :: (g27, .cells #[.int .i64 0, .int .i64 0, .bool false, .int .i64 3, .int .i64 0, .int .i64 500000000, .int .i64 500000000, .int .i64 0, .slice none 0 0, .int .i64 0, .int .i64 0, .int .i64 2000] 65 (0, 0)) :: (g2, .cells (shC (.slice (some ⟨g27, 0, none⟩) 1 1) (.slice po os.length co) tl0).toArray 32 (0, 0)) :: (g1, .cells (shC (.slice none 0 0) (.slice none 0 0) tl0).toArray 32 (0, 0)) :: (Kc ++ Tr)) (os.length + 1) ((os.flatMap covC) ++ [.int .i64 ((i : Nat) : Int), .slice (some ⟨g37, 0, none⟩) 2 2])) rfl rfl (app_own el_cov (m := 1) (c := 1) (news := [.int .i64 ((i : Nat) : Int), .slice (some ⟨g37, 0, none⟩) 2 2]) rfl Tw.kr Tw.kr Tw.m0 hOo Tw.sc (fun p hp => ⟨by simp only [List.mem_cons, List.mem_append, List.nil_append, List.not_mem_nil, or_assoc, or_false, false_or] at hp ⊢ <;> grind, (show Dj ((g37, .cells #[.int .i64 0, .int .i64 1] 3 (0, 0)) :: (g27, .cells #[.int .i64 0, .int .i64 0, .bool false, .int .i64 3, .int .i64 0, .int .i64 500000000, .int .i64 500000000, .int .i64 0, .slice none 0 0, .int .i64 0, .int .i64 0, .int .i64 2000] 65 (0, 0)) :: (g2, .cells (shC (.slice (some ⟨g27, 0, none⟩) 1 1) (.slice po os.length co) tl0).toArray 32 (0, 0)) :: (g1, .cells (shC (.slice none 0 0) (.slice none 0 0) tl0).toArray 32 (0, 0)) :: (Kc ++ Tr)) Ko from Tw.djt) p hp⟩) rfl (by simp [strV, Value.oneCell']) Tw.om Tw.om Tw.om) Tw.pf ?_
             rintro v41 K9 ⟨Kl41, O41, N41, rfl⟩
             obtain ⟨dj42_0, dj42_1, dj42_2, dj42_3, dj42_4, dj42_5⟩ : Dk g37 Kl41 ∧ Dk g27 Kl41 ∧ Dk g2 Kl41 ∧ Dk g1 Kl41 ∧ Dj Kc Kl41 ∧ Dj Tr Kl41 := Tw.djf N41
             refine lm (v := .pointer (some ⟨g2, 1, none⟩)) rfl rfl ?_
             obtain ⟨p43, c43, rfl⟩ := own_shape O41
             refine wpL_s ((g37, .cells #[.int .i64 0, .int .i64 1] 3 (0, 0)) :: (g27, .cells #[.int .i64 0, .int .i64 0, .bool false, .int .i64 3, .int .i64 0, .int .i64 500000000, .int .i64 500000000, .int .i64 0, .slice none 0 0, .int .i64 0, .int .i64 0, .int .i64 2000] 65 (0, 0)) :: (g2, .cells (shC (.slice (some ⟨g27, 0, none⟩) 1 1) (.slice p43 (os.length + 1) c43) tl0).toArray 32 (0, 0)) :: (g1, .cells (shC (.slice none 0 0) (.slice none 0 0) tl0).toArray 32 (0, 0)) :: ((Kc ++ Tr) ++ Kl41)) rfl rfl (st_row (off := 1) (v := .slice p43 (os.length + 1) c43) rfl Tw.kr Tw.kr Tw.m2 Bg2 Tw.kr (by first | (simp [Value.cells]; done) | exact Nat.le_of_ble_eq_true rfl) (by intro v hv; simp [Value.cells] at hv; first | (subst hv; rfl) | (rcases hv with rfl <;> rfl)) Tw.kr (List.forall_mem_cons.2 ⟨.inr ⟨Tw.m0, Tw.nee⟩, (List.forall_mem_cons.2 ⟨.inr ⟨Tw.m1, Tw.nee⟩, (List.forall_mem_cons.2 ⟨.inl rfl, (List.forall_mem_cons.2 ⟨.inr ⟨Tw.m3, Tw.nee⟩, (fun p hp => .inr ⟨(.tail _ (.tail _ (.tail _ (.tail _ hp)))), ((show Dk g2 ((Kc ++ Tr) ++ Kl41) from Tw.djt) _ hp)⟩)⟩)⟩)⟩)⟩)) ?_
             refine wpL_done (fun W31 hW31 => ?_)
             change Code.wp ..
             refine wp_seq ?_
             refine wp_region_L (W0 := W0) ((g37, .cells #[.int .i64 0, .int .i64 1] 3 (0, 0)) :: (g27, .cells #[.int .i64 0, .int .i64 0, .bool false, .int .i64 3, .int .i64 0, .int .i64 500000000, .int .i64 500000000, .int .i64 0, .slice none 0 0, .int .i64 0, .int .i64 0, .int .i64 2000] 65 (0, 0)) :: (g2, .cells (shC (.slice (some ⟨g27, 0, none⟩) 1 1) (.slice p43 (os.length + 1) c43) tl0).toArray 32 (0, 0)) :: (g1, .cells (shC (.slice none 0 0) (.slice none 0 0) tl0).toArray 32 (0, 0)) :: ((Kc ++ Tr) ++ Kl41)) (hW31) ?_
             refine lm (v := .int .u32 ((n : Nat) : Int)) rfl rfl ?_
             refine lm (v := .int .i64 ((i : Nat) : Int)) rfl rfl ?_
             refine lp (v := .int .i64 (((2 * i) : Nat) : Int)) rfl rfl (run_bin rfl (vx := (.int .i64 ((2 : Nat) : Int))) (vy := (.int .i64 ((i : Nat) : Int))) Tw.kr Tw.kr fun w => bn_mul (z := (2 * i)) rfl (wr_i64 Tw.om) w) ?_
             refine lp (v := .int .i64 ((((2 * i) + 1) : Nat) : Int)) rfl rfl (run_bin rfl (vx := (.int .i64 (((2 * i) : Nat) : Int))) (vy := (.int .i64 ((1 : Nat) : Int))) Tw.kr Tw.kr fun w => bn_add (z := ((2 * i) + 1)) rfl (wr_i64 Tw.om) w) ?_
             refine lp (v := .int .u32 (((n / 2 ^ ((2 * i) + 1)) : Nat) : Int)) rfl rfl (run_bin rfl (vx := (.int .u32 ((n : Nat) : Int))) (vy := (.int .i64 ((((2 * i) + 1) : Nat) : Int))) Tw.kr Tw.kr fun w => bn_shr (z := (n / 2 ^ ((2 * i) + 1))) rfl (by first | omega | decide | (simp only [IntKind.bits]; omega)) w) ?_
             refine lp (v := .int .u32 ((((n / 2 ^ ((2 * i) + 1)) % 2) : Nat) : Int)) rfl rfl (run_bin rfl (vx := (.int .u32 (((n / 2 ^ ((2 * i) + 1)) : Nat) : Int))) (vy := (.int .u32 ((1 : Nat) : Int))) Tw.kr Tw.kr fun w => bn_and (z := ((n / 2 ^ ((2 * i) + 1)) % 2)) (Nat.and_one_is_mod _) (by rw [show IntKind.u32.bits = 32 from rfl]; exact Nat.lt_of_le_of_lt (Nat.div_le_self _ _) Tw.om) (by decide) (wr_u32 Tw.om) w) ?_
             refine lp (v := .bool (decide (((n / 2 ^ ((2 * i) + 1)) % 2) = 1))) rfl rfl (run_bin rfl (vx := (.int .u32 ((((n / 2 ^ ((2 * i) + 1)) % 2) : Nat) : Int))) (vy := (.int .u32 ((1 : Nat) : Int))) Tw.kr Tw.kr fun w => bn_eql rfl w) ?_
             refine wpL_done (fun W32 hW32 => ?_)
             change Code.wp ..
             cases hd10 : (decide (((n / 2 ^ ((2 * i) + 1)) % 2) = 1)) with
             | false =>
               have h10 : ¬ (((n / 2 ^ ((2 * i) + 1)) % 2) = 1) := of_decide_eq_false hd10
               clear hd10
               refine wp_cond_false rfl ?_
               refine wp_skip ?_
               change Code.wp ..
               refine wp_region_L (W0 := W0) ((g37, .cells #[.int .i64 0, .int .i64 1] 3 (0, 0)) :: (g27, .cells #[.int .i64 0, .int .i64 0, .bool false, .int .i64 3, .int .i64 0, .int .i64 500000000, .int .i64 500000000, .int .i64 0, .slice none 0 0, .int .i64 0, .int .i64 0, .int .i64 2000] 65 (0, 0)) :: (g2, .cells (shC (.slice (some ⟨g27, 0, none⟩) 1 1) (.slice p43 (os.length + 1) c43) tl0).toArray 32 (0, 0)) :: (g1, .cells (shC (.slice none 0 0) (.slice none 0 0) tl0).toArray 32 (0, 0)) :: ((Kc ++ Tr) ++ Kl41)) (hW32) ?_
               refine lm (v := .int .i64 ((i : Nat) : Int)) rfl rfl ?_
               refine lp (v := .int .i64 (((i + 1) : Nat) : Int)) rfl rfl (run_bin rfl (vx := (.int .i64 ((i : Nat) : Int))) (vy := (.int .i64 ((1 : Nat) : Int))) Tw.kr Tw.kr fun w => bn_add (z := (i + 1)) rfl (wr_i64 Tw.om) w) ?_
               refine lm (v := .int .i64 (((i + 1) : Nat) : Int)) rfl rfl ?_
               refine wpL_done (fun W33 hW33 => ?_)
               go_roundw
               case rel =>
                 repeat apply Exists.intro
                 exact ⟨⟨i + 1, (os ++ [(⟨((i : Nat) : Int), [0, 1], some ⟨g37, 0, none⟩, 2⟩ : Cov)]), .slice p43 (os.length + 1) c43, ((g37, .cells #[.int .i64 0, .int .i64 1] 3 (0, 0)) :: Tr), Kl41, Tw.om, (by rw [cov_10 h8 h10]; simp only [List.map_append, List.map_cons, List.map_nil, hos, List.append_assoc, List.cons_append, List.nil_append]), (by simp only [List.length_append, List.length_singleton, List.length_cons, List.length_nil]; omega), (own_app O41 (by simp only [List.flatMap_append, List.append_assoc]; rfl) (by simp only [List.length_append]; rfl)), (RB.snoc (o := ⟨((i : Nat) : Int), [0, 1], some ⟨g37, 0, none⟩, 2⟩) hRo rfl (show Dk g37 Tr from Tw.djt) Bg37), (show Dk g27 ((g37, .cells #[.int .i64 0, .int .i64 1] 3 (0, 0)) :: Tr) from Tw.djt), (show Dk g2 ((g37, .cells #[.int .i64 0, .int .i64 1] 3 (0, 0)) :: Tr) from Tw.djt), (show Dk g1 ((g37, .cells #[.int .i64 0, .int .i64 1] 3 (0, 0)) :: Tr) from Tw.djt), (show Dj Kc ((g37, .cells #[.int .i64 0, .int .i64 1] 3 (0, 0)) :: Tr) from Tw.djt), (show Dk g27 Kl41 from Tw.djt), (show Dk g2 Kl41 from Tw.djt), (show Dk g1 Kl41 from Tw.djt), (show Dj Kc Kl41 from Tw.djt), (show Dj ((g37, .cells #[.int .i64 0, .int .i64 1] 3 (0, 0)) :: Tr) Kl41 from Tw.djt), rfl, (hW33.sub (fun p hp => by first | exact hp | (simp only [List.mem_cons, List.mem_append, List.nil_append, List.not_mem_nil, or_assoc, or_false, false_or] at hp ⊢ <;> grind)))⟩, rfl⟩
               case measure => (show 5 - (intOf (.int .i64 (((i + 1) : Nat) : Int))).toNat < 5 - (intOf (.int .i64 ((i : Nat) : Int))).toNat); simp only [intOf]; omega
             | true =>
               have h10 : ((n / 2 ^ ((2 * i) + 1)) % 2) = 1 := of_decide_eq_true hd10
               clear hd10
               refine wp_cond_true rfl ?_
               refine wp_region_L (W0 := W0) ((g37, .cells #[.int .i64 0, .int .i64 1] 3 (0, 0)) :: (g27, .cells #[.int .i64 0, .int .i64 0, .bool false, .int .i64 3, .int .i64 0, .int .i64 500000000, .int .i64 500000000, .int .i64 0, .slice none 0 0, .int .i64 0, .int .i64 0, .int .i64 2000] 65 (0, 0)) :: (g2, .cells (shC (.slice (some ⟨g27, 0, none⟩) 1 1) (.slice p43 (os.length + 1) c43) tl0).toArray 32 (0, 0)) :: (g1, .cells (shC (.slice none 0 0) (.slice none 0 0) tl0).toArray 32 (0, 0)) :: ((Kc ++ Tr) ++ Kl41)) (hW32) ?_
               refine lm (v := .pointer (some ⟨g2, 1, none⟩)) rfl rfl ?_
               refine lv (v := .slice p43 (os.length + 1) c43) rfl rfl (yb_cell (off := 1) rfl Tw.kr Tw.m2 Tryd.underlying23 rfl Tw.kr) ?_
               refine lm (v := .int .i64 ((i : Nat) : Int)) rfl rfl ?_
               refine wpL_new (fun g => .slice (some ⟨g, 0, none⟩) 3 3) (obi := .cells #[.int .i64 2, .int .i64 3, .int .i64 4] 3 (0, 0)) rfl rfl Tw.kf Tw.pf fun g44 Bg44 Fg44 => ?_
               obtain ⟨dj45_0, dj45_1, dj45_2, dj45_3, dj45_4, dj45_5, dj45_6⟩ : g37 ≠ g44 ∧ g27 ≠ g44 ∧ g2 ≠ g44 ∧ g1 ≠ g44 ∧ Dk g44 Kc ∧ Dk g44 Tr ∧ Dk g44 Kl41 := Tw.dkf Fg44
               refine lm (v := .agg #[.int .i64 ((i : Nat) : Int), .slice (some ⟨g44, 0, none⟩) 3 3]) rfl rfl ?_
               refine wpL_new (fun g => .slice (some ⟨g, 0, none⟩) 1 1) (obi := .cells #[.int .i64 ((i : Nat) : Int), .slice (some ⟨g44, 0, none⟩) 3 3] 67 (0, 0)) rfl rfl Tw.kf Tw.pf fun g46 Bg46 Fg46 => ?_
               obtain ⟨dj47_0, dj47_1, dj47_2, dj47_3, dj47_4, dj47_5, dj47_6, dj47_7⟩ : g44 ≠ g46 ∧ g37 ≠ g46 ∧ g27 ≠ g46 ∧ g2 ≠ g46 ∧ g1 ≠ g46 ∧ Dk g46 Kc ∧ Dk g46 Tr ∧ Dk g46 Kl41 := Tw.dkf Fg46
               refine wpL_g (AppO W0 67 2 ((g44, .cells #[.int .i64 2, .int .i64 3, .int .i64 4] 3 (0, 0)) :: (g37, .cells #[.int .i64 0, .int .i64 1] 3 (0, 0)) :: (g27, .cells #[.int .i64 0, .int .i64 0, .bool false, .int .i64 3, .int .i64 0, .int .i64 500000000, .int .i64 500000000, .int .i64 0, .slice none 0 0, .int .i64 0, .int .i64 0, .int .i64 2000] 65 (0, 0)) :: (g2, .cells (shC (.slice (some ⟨g27, 0, none⟩) 1 1) (.slice p43 (os.length + 1) c43) tl0).toArray 32 (0, 0)) :: (g1, .cells (shC (.slice none 0 0) (.slice none 0 0) tl0).toArray 32 (0, 0)) :: (Kc ++ Tr)) ((os.length + 1) + 1) (((os.flatMap covC) ++ [.int .i64 ((i : Nat) : Int), .slice (some ⟨g37, 0, none⟩) 2 2]) ++ [.int .i64 ((i : Nat) : Int), .slice (some ⟨g44, 0, none⟩) 3 3])) rfl rfl (app_own el_cov (m := 1) (c := 1) (news := [.int .i64 ((i : Nat) : Int), .slice (some ⟨g44, 0, none⟩) 3 3]) rfl Tw.kr Tw.kr Tw.m0 O41 Tw.sc (fun p hp => ⟨by simp only [List.mem_cons, List.mem_append, List.nil_append, List.not_mem_nil, or_assoc, or_false, false_or] at hp ⊢ <;> grind, (show Dj ((g44, .cells #[.int .i64 2, .int .i64 3, .int .i64 4] 3 (0, 0)) :: (g37, .cells #[.int .i64 0, .int .i64 1] 3 (0, 0)) :: (g27, .cells #[.int .i64 0, .int .i64 0, .bool false, .int .i64 3, .int .i64 0, .int .i64 500000000, .int .i64 500000000, .int .i64 0, .slice none 0 0, .int .i64 0, .int .i64 0, .int .i64 2000] 65 (0, 0)) :: (g2, .cells (shC (.slice (some ⟨g27, 0, none⟩) 1 1) (.slice p43 (os.length + 1) c43) tl0).toArray 32 (0, 0)) :: (g1, .cells (shC (.slice none 0 0) (.slice none 0 0) tl0).toArray 32 (0, 0)) :: (Kc ++ Tr)) Kl41 from Tw.djt) p hp⟩) rfl (by simp [strV, Value.oneCell']) Tw.om Tw.om Tw.om) Tw.pf ?_
               rintro v48 K9 ⟨Kl48, O48, N48, rfl⟩
               obtain ⟨dj49_0, dj49_1, dj49_2, dj49_3, dj49_4, dj49_5, dj49_6⟩ : Dk g44 Kl48 ∧ Dk g37 Kl48 ∧ Dk g27 Kl48 ∧ Dk g2 Kl48 ∧ Dk g1 Kl48 ∧ Dj Kc Kl48 ∧ Dj Tr Kl48 := Tw.djf N48
               refine lm (v := .pointer (some ⟨g2, 1, none⟩)) rfl rfl ?_
               obtain ⟨p50, c50, rfl⟩ := own_shape O48
               refine wpL_s ((g44, .cells #[.int .i64 2, .int .i64 3, .int .i64 4] 3 (0, 0)) :: (g37, .cells #[.int .i64 0, .int .i64 1] 3 (0, 0)) :: (g27, .cells #[.int .i64 0, .int .i64 0, .bool false, .int .i64 3, .int .i64 0, .int .i64 500000000, .int .i64 500000000, .int .i64 0, .slice none 0 0, .int .i64 0, .int .i64 0, .int .i64 2000] 65 (0, 0)) :: (g2, .cells (shC (.slice (some ⟨g27, 0, none⟩) 1 1) (.slice p50 ((os.length + 1) + 1) c50) tl0).toArray 32 (0, 0)) :: (g1, .cells (shC (.slice none 0 0) (.slice none 0 0) tl0).toArray 32 (0, 0)) :: ((Kc ++ Tr) ++ Kl48)) rfl rfl (st_row (off := 1) (v := .slice p50 ((os.length + 1) + 1) c50) rfl Tw.kr Tw.kr Tw.m3 Bg2 Tw.kr (by first | (simp [Value.cells]; done) | exact Nat.le_of_ble_eq_true rfl) (by intro v hv; simp [Value.cells] at hv; first | (subst hv; rfl) | (rcases hv with rfl <;> rfl)) Tw.kr (List.forall_mem_cons.2 ⟨.inr ⟨Tw.m0, Tw.nee⟩, (List.forall_mem_cons.2 ⟨.inr ⟨Tw.m1, Tw.nee⟩, (List.forall_mem_cons.2 ⟨.inr ⟨Tw.m2, Tw.nee⟩, (List.forall_mem_cons.2 ⟨.inl rfl, (List.forall_mem_cons.2 ⟨.inr ⟨Tw.m4, Tw.nee⟩, (fun p hp => .inr ⟨(.tail _ (.tail _ (.tail _ (.tail _ (.tail _ hp))))), ((show Dk g2 ((Kc ++ Tr) ++ Kl48) from Tw.djt) _ hp)⟩)⟩)⟩)⟩)⟩)⟩)) ?_
               refine wpL_done (fun W34 hW34 => ?_)
               change Code.wp ..
               refine wp_region_L (W0 := W0) ((g44, .cells #[.int .i64 2, .int .i64 3, .int .i64 4] 3 (0, 0)) :: (g37, .cells #[.int .i64 0, .int .i64 1] 3 (0, 0)) :: (g27, .cells #[.int .i64 0, .int .i64 0, .bool false, .int .i64 3, .int .i64 0, .int .i64 500000000, .int .i64 500000000, .int .i64 0, .slice none 0 0, .int .i64 0, .int .i64 0, .int .i64 2000] 65 (0, 0)) :: (g2, .cells (shC (.slice (some ⟨g27, 0, none⟩) 1 1) (.slice p50 ((os.length + 1) + 1) c50) tl0).toArray 32 (0, 0)) :: (g1, .cells (shC (.slice none 0 0) (.slice none 0 0) tl0).toArray 32 (0, 0)) :: ((Kc ++ Tr) ++ Kl48)) (hW34) ?_
               refine lm (v := .int .i64 ((i : Nat) : Int)) rfl rfl ?_
               refine lp (v := .int .i64 (((i + 1) : Nat) : Int)) rfl rfl (run_bin rfl (vx := (.int .i64 ((i : Nat) : Int))) (vy := (.int .i64 ((1 : Nat) : Int))) Tw.kr Tw.kr fun w => bn_add (z := (i + 1)) rfl (wr_i64 Tw.om) w) ?_
               refine lm (v := .int .i64 (((i + 1) : Nat) : Int)) rfl rfl ?_
               refine wpL_done (fun W35 hW35 => ?_)
               go_roundw
               case rel =>
                 repeat apply Exists.intro
                 exact ⟨⟨i + 1, ((os ++ [(⟨((i : Nat) : Int), [0, 1], some ⟨g37, 0, none⟩, 2⟩ : Cov)]) ++ [(⟨((i : Nat) : Int), [2, 3, 4], some ⟨g44, 0, none⟩, 3⟩ : Cov)]), .slice p50 ((os.length + 1) + 1) c50, ((g44, .cells #[.int .i64 2, .int .i64 3, .int .i64 4] 3 (0, 0)) :: ((g37, .cells #[.int .i64 0, .int .i64 1] 3 (0, 0)) :: Tr)), Kl48, Tw.om, (by rw [cov_11 h8 h10]; simp only [List.map_append, List.map_cons, List.map_nil, hos, List.append_assoc, List.cons_append, List.nil_append]), (by simp only [List.length_append, List.length_singleton, List.length_cons, List.length_nil]; omega), (own_app O48 (by simp only [List.flatMap_append, List.append_assoc]; rfl) (by simp only [List.length_append]; rfl)), (RB.snoc (o := ⟨((i : Nat) : Int), [2, 3, 4], some ⟨g44, 0, none⟩, 3⟩) (RB.snoc (o := ⟨((i : Nat) : Int), [0, 1], some ⟨g37, 0, none⟩, 2⟩) hRo rfl (show Dk g37 Tr from Tw.djt) Bg37) rfl (show Dk g44 ((g37, .cells #[.int .i64 0, .int .i64 1] 3 (0, 0)) :: Tr) from Tw.djt) Bg44), (show Dk g27 ((g44, .cells #[.int .i64 2, .int .i64 3, .int .i64 4] 3 (0, 0)) :: ((g37, .cells #[.int .i64 0, .int .i64 1] 3 (0, 0)) :: Tr)) from Tw.djt), (show Dk g2 ((g44, .cells #[.int .i64 2, .int .i64 3, .int .i64 4] 3 (0, 0)) :: ((g37, .cells #[.int .i64 0, .int .i64 1] 3 (0, 0)) :: Tr)) from Tw.djt), (show Dk g1 ((g44, .cells #[.int .i64 2, .int .i64 3, .int .i64 4] 3 (0, 0)) :: ((g37, .cells #[.int .i64 0, .int .i64 1] 3 (0, 0)) :: Tr)) from Tw.djt), (show Dj Kc ((g44, .cells #[.int .i64 2, .int .i64 3, .int .i64 4] 3 (0, 0)) :: ((g37, .cells #[.int .i64 0, .int .i64 1] 3 (0, 0)) :: Tr)) from Tw.djt), (show Dk g27 Kl48 from Tw.djt), (show Dk g2 Kl48 from Tw.djt), (show Dk g1 Kl48 from Tw.djt), (show Dj Kc Kl48 from Tw.djt), (show Dj ((g44, .cells #[.int .i64 2, .int .i64 3, .int .i64 4] 3 (0, 0)) :: ((g37, .cells #[.int .i64 0, .int .i64 1] 3 (0, 0)) :: Tr)) Kl48 from Tw.djt), rfl, (hW35.sub (fun p hp => by first | exact hp | (simp only [List.mem_cons, List.mem_append, List.nil_append, List.not_mem_nil, or_assoc, or_false, false_or] at hp ⊢ <;> grind)))⟩, rfl⟩
               case measure => (show 5 - (intOf (.int .i64 (((i + 1) : Nat) : Int))).toNat < 5 - (intOf (.int .i64 ((i : Nat) : Int))).toNat); simp only [intOf]; omega
   | true =>
     have h1 : k < m := of_decide_eq_true hd1
     clear hd1
     refine wp_cond_true rfl ?_
     refine wp_skip ?_
     change Code.wp ..
     refine wp_seq ?_
     refine wp_block ?_
     refine wp_seq ?_
     refine wp_region_L (W0 := W0) ((g2, .cells (shC (.slice pc cs.length cc) (.slice none 0 0) tl0).toArray 32 (0, 0)) :: (g1, .cells (shC (.slice none 0 0) (.slice none 0 0) tl0).toArray 32 (0, 0)) :: Kc) (hW5) ?_
     obtain ⟨y51, g51_, f51_, hy51, hp51, hc51⟩ := RL.at (hp.take plC_len m) plC_len (by decide) (hW5.sub (fun _ h => by cases h)) (k := k) (by first | omega | (rw [List.length_take]; omega))
     have ok51 := hok y51 (List.mem_of_mem_take (List.mem_of_getElem? hy51))
     obtain ⟨ob51, or51, ot51⟩ := ok51
     refine lp (v := .pointer (some ⟨g51_, f51_ + k * 4, none⟩)) rfl rfl (run_idxQ (p := p) (cap := c) (n := m) (j := .i64) (k := k) (sz := 4) rfl Tryd.underlying60 Tw.kr Tw.kr hp51 Tw.kr (by first | omega | (rw [List.length_take]; omega))) ?_
     refine lv (v := .agg (plC y51).toArray) rfl rfl (yb_rs (off := f51_ + k * 4) (cs := plC y51) rfl Tw.kr (fun W hW => hc51 W (hW.sub (fun _ h => by cases h))) Tryd.underlying117 rfl Tw.kr) ?_
     refine wpL_new (fun g => .pointer (some ⟨g, 0, none⟩)) (obi := .cells #[.int .u8 0, .int .u8 0, .int .u8 0, .bool false] 117 (0, 0)) rfl rfl Tw.kf Tw.pf fun g52 Bg52 Fg52 => ?_
     obtain ⟨dj53_0, dj53_1, dj53_2⟩ : g2 ≠ g52 ∧ g1 ≠ g52 ∧ Dk g52 Kc := Tw.dkf Fg52
     refine wpL_s ((g52, .cells (plC y51).toArray 117 (0, 0)) :: (g2, .cells (shC (.slice pc cs.length cc) (.slice none 0 0) tl0).toArray 32 (0, 0)) :: (g1, .cells (shC (.slice none 0 0) (.slice none 0 0) tl0).toArray 32 (0, 0)) :: Kc) rfl rfl (st_row (off := 0) (v := .agg (plC y51).toArray) rfl Tw.kr Tw.kr Tw.m0 Bg52 Tw.kr (by first | (simp [Value.cells]; done) | exact Nat.le_of_ble_eq_true rfl) (fun v hv => plC_one y51 v hv) Tw.kr (List.forall_mem_cons.2 ⟨.inl rfl, (List.forall_mem_cons.2 ⟨.inr ⟨Tw.m1, Tw.nee⟩, (List.forall_mem_cons.2 ⟨.inr ⟨Tw.m2, Tw.nee⟩, (fun p hp => .inr ⟨(.tail _ (.tail _ (.tail _ hp))), ((show Dk g52 Kc from Tw.djt) _ hp)⟩)⟩)⟩)⟩)) ?_
     refine wpL_done (fun W36 hW36 => ?_)
     change Code.wp ..
     refine wp_seq ?_
     refine wp_region_L (W0 := W0) ((g52, .cells (plC y51).toArray 117 (0, 0)) :: (g2, .cells (shC (.slice pc cs.length cc) (.slice none 0 0) tl0).toArray 32 (0, 0)) :: (g1, .cells (shC (.slice none 0 0) (.slice none 0 0) tl0).toArray 32 (0, 0)) :: Kc) (hW36) ?_
     refine lm (v := .pointer (some ⟨g52, 0, none⟩)) rfl rfl ?_
     refine lv (v := .int .u8 ((y51.bay : Nat) : Int)) rfl rfl (yb_cell (off := 0) rfl Tw.kr Tw.m0 Tryd.underlying5 rfl Tw.kr) ?_
     refine lp (v := .int .i64 ((y51.bay : Nat) : Int)) rfl rfl (run_conv rfl (vx := (.int .u8 ((y51.bay : Nat) : Int))) Tw.kr fun w => cv_int Tryd.underlying5 Tryd.underlying3 (wr_i64 Tw.om) w) ?_
     refine lp (v := .int .i64 (((y51.bay % 5) : Nat) : Int)) rfl rfl (run_bin rfl (vx := (.int .i64 ((y51.bay : Nat) : Int))) (vy := (.int .i64 ((5 : Nat) : Int))) Tw.kr Tw.kr fun w => bn_rem (z := (y51.bay % 5)) rfl Tw.om w) ?_
     refine lm (v := .pointer (some ⟨g52, 1, none⟩)) rfl rfl ?_
     refine lv (v := .int .u8 ((y51.row : Nat) : Int)) rfl rfl (yb_cell (off := 1) rfl Tw.kr Tw.m0 Tryd.underlying5 rfl Tw.kr) ?_
     refine lp (v := .int .i64 ((y51.row : Nat) : Int)) rfl rfl (run_conv rfl (vx := (.int .u8 ((y51.row : Nat) : Int))) Tw.kr fun w => cv_int Tryd.underlying5 Tryd.underlying3 (wr_i64 Tw.om) w) ?_
     refine lp (v := .int .i64 (((y51.row % 5) : Nat) : Int)) rfl rfl (run_bin rfl (vx := (.int .i64 ((y51.row : Nat) : Int))) (vy := (.int .i64 ((5 : Nat) : Int))) Tw.kr Tw.kr fun w => bn_rem (z := (y51.row % 5)) rfl Tw.om w) ?_
     refine lm (v := .pointer (some ⟨g52, 3, none⟩)) rfl rfl ?_
     refine lv (v := .bool y51.deck) rfl rfl (yb_cell (off := 3) rfl Tw.kr Tw.m0 Tryd.underlying4 rfl Tw.kr) ?_
     refine lm (v := .pointer (some ⟨g52, 2, none⟩)) rfl rfl ?_
     refine lv (v := .int .u8 ((y51.tiers : Nat) : Int)) rfl rfl (yb_cell (off := 2) rfl Tw.kr Tw.m0 Tryd.underlying5 rfl Tw.kr) ?_
     refine lp (v := .int .i64 ((y51.tiers : Nat) : Int)) rfl rfl (run_conv rfl (vx := (.int .u8 ((y51.tiers : Nat) : Int))) Tw.kr fun w => cv_int Tryd.underlying5 Tryd.underlying3 (wr_i64 Tw.om) w) ?_
     refine lp (v := .int .i64 (((y51.tiers % 4) : Nat) : Int)) rfl rfl (run_bin rfl (vx := (.int .i64 ((y51.tiers : Nat) : Int))) (vy := (.int .i64 ((4 : Nat) : Int))) Tw.kr Tw.kr fun w => bn_rem (z := (y51.tiers % 4)) rfl Tw.om w) ?_
     refine lp (v := .int .i64 (((2 + (y51.tiers % 4)) : Nat) : Int)) rfl rfl (run_bin rfl (vx := (.int .i64 ((2 : Nat) : Int))) (vy := (.int .i64 (((y51.tiers % 4) : Nat) : Int))) Tw.kr Tw.kr fun w => bn_add (z := (2 + (y51.tiers % 4))) rfl (wr_i64 Tw.om) w) ?_
     refine lm (v := .agg #[.int .i64 (((y51.bay % 5) : Nat) : Int), .int .i64 (((y51.row % 5) : Nat) : Int), .bool y51.deck, .int .i64 (((2 + (y51.tiers % 4)) : Nat) : Int), .int .i64 0, .int .i64 500000000, .int .i64 500000000, .int .i64 0, .slice none 0 0, .int .i64 0, .int .i64 0, .int .i64 0]) rfl rfl ?_
     refine wpL_new (fun g => .pointer (some ⟨g, 0, none⟩)) (obi := .cells #[.int .i64 0, .int .i64 0, .bool false, .int .i64 0, .int .i64 0, .int .i64 0, .int .i64 0, .int .i64 0, .slice none 0 0, .int .i64 0, .int .i64 0, .int .i64 0] 65 (0, 0)) rfl rfl Tw.kf Tw.pf fun g54 Bg54 Fg54 => ?_
     obtain ⟨dj55_0, dj55_1, dj55_2, dj55_3⟩ : g52 ≠ g54 ∧ g2 ≠ g54 ∧ g1 ≠ g54 ∧ Dk g54 Kc := Tw.dkf Fg54
     refine wpL_s ((g54, .cells #[.int .i64 (((y51.bay % 5) : Nat) : Int), .int .i64 (((y51.row % 5) : Nat) : Int), .bool y51.deck, .int .i64 (((2 + (y51.tiers % 4)) : Nat) : Int), .int .i64 0, .int .i64 500000000, .int .i64 500000000, .int .i64 0, .slice none 0 0, .int .i64 0, .int .i64 0, .int .i64 0] 65 (0, 0)) :: (g52, .cells (plC y51).toArray 117 (0, 0)) :: (g2, .cells (shC (.slice pc cs.length cc) (.slice none 0 0) tl0).toArray 32 (0, 0)) :: (g1, .cells (shC (.slice none 0 0) (.slice none 0 0) tl0).toArray 32 (0, 0)) :: Kc) rfl rfl (st_row (off := 0) (v := .agg #[.int .i64 (((y51.bay % 5) : Nat) : Int), .int .i64 (((y51.row % 5) : Nat) : Int), .bool y51.deck, .int .i64 (((2 + (y51.tiers % 4)) : Nat) : Int), .int .i64 0, .int .i64 500000000, .int .i64 500000000, .int .i64 0, .slice none 0 0, .int .i64 0, .int .i64 0, .int .i64 0]) rfl Tw.kr Tw.kr Tw.m0 Bg54 Tw.kr (by first | (simp [Value.cells]; done) | exact Nat.le_of_ble_eq_true rfl) (by intro v hv; simp [Value.cells] at hv; first | (subst hv; rfl) | (rcases hv with rfl | rfl | rfl | rfl | rfl | rfl | rfl | rfl | rfl | rfl | rfl | rfl <;> rfl)) Tw.kr (List.forall_mem_cons.2 ⟨.inl rfl, (List.forall_mem_cons.2 ⟨.inr ⟨Tw.m1, Tw.nee⟩, (List.forall_mem_cons.2 ⟨.inr ⟨Tw.m2, Tw.nee⟩, (List.forall_mem_cons.2 ⟨.inr ⟨Tw.m3, Tw.nee⟩, (fun p hp => .inr ⟨(.tail _ (.tail _ (.tail _ (.tail _ hp)))), ((show Dk g54 Kc from Tw.djt) _ hp)⟩)⟩)⟩)⟩)⟩)) ?_
     refine wpL_done (fun W37 hW37 => ?_)
     change Code.wp ..
     refine wp_seq ?_
     refine wp_region_L (W0 := W0) ((g54, .cells #[.int .i64 (((y51.bay % 5) : Nat) : Int), .int .i64 (((y51.row % 5) : Nat) : Int), .bool y51.deck, .int .i64 (((2 + (y51.tiers % 4)) : Nat) : Int), .int .i64 0, .int .i64 500000000, .int .i64 500000000, .int .i64 0, .slice none 0 0, .int .i64 0, .int .i64 0, .int .i64 0] 65 (0, 0)) :: (g52, .cells (plC y51).toArray 117 (0, 0)) :: (g2, .cells (shC (.slice pc cs.length cc) (.slice none 0 0) tl0).toArray 32 (0, 0)) :: (g1, .cells (shC (.slice none 0 0) (.slice none 0 0) tl0).toArray 32 (0, 0)) :: Kc) (hW37) ?_
     refine lm (v := .pointer (some ⟨g54, 0, none⟩)) rfl rfl ?_
     refine lv (v := .int .i64 (((y51.bay % 5) : Nat) : Int)) rfl rfl (yb_cell (off := 0) rfl Tw.kr Tw.m0 Tryd.underlying3 rfl Tw.kr) ?_
     refine lp (v := .int .i64 (((13000 * (y51.bay % 5)) : Nat) : Int)) rfl rfl (run_bin rfl (vx := (.int .i64 ((13000 : Nat) : Int))) (vy := (.int .i64 (((y51.bay % 5) : Nat) : Int))) Tw.kr Tw.kr fun w => bn_mul (z := (13000 * (y51.bay % 5))) rfl (wr_i64 Tw.om) w) ?_
     refine lp (v := .int .i64 ((((13000 * (y51.bay % 5)) : Nat) : Int) - 26000)) rfl rfl (run_bin rfl (vx := (.int .i64 (((13000 * (y51.bay % 5)) : Nat) : Int))) (vy := (.int .i64 26000)) Tw.kr Tw.kr fun w => bi_sub (z := ((((13000 * (y51.bay % 5)) : Nat) : Int) - 26000)) rfl (wi_i64 Tw.om) w) ?_
     refine lm (v := .pointer (some ⟨g54, 1, none⟩)) rfl rfl ?_
     refine lv (v := .int .i64 (((y51.row % 5) : Nat) : Int)) rfl rfl (yb_cell (off := 1) rfl Tw.kr Tw.m0 Tryd.underlying3 rfl Tw.kr) ?_
     refine lp (v := .int .i64 (((2500 * (y51.row % 5)) : Nat) : Int)) rfl rfl (run_bin rfl (vx := (.int .i64 ((2500 : Nat) : Int))) (vy := (.int .i64 (((y51.row % 5) : Nat) : Int))) Tw.kr Tw.kr fun w => bn_mul (z := (2500 * (y51.row % 5))) rfl (wr_i64 Tw.om) w) ?_
     refine lp (v := .int .i64 ((((2500 * (y51.row % 5)) : Nat) : Int) - 5000)) rfl rfl (run_bin rfl (vx := (.int .i64 (((2500 * (y51.row % 5)) : Nat) : Int))) (vy := (.int .i64 5000)) Tw.kr Tw.kr fun w => bi_sub (z := ((((2500 * (y51.row % 5)) : Nat) : Int) - 5000)) rfl (wi_i64 Tw.om) w) ?_
     refine lm (v := .pointer (some ⟨g54, 9, none⟩)) rfl rfl ?_
     refine wpL_s ((g54, .cells #[.int .i64 (((y51.bay % 5) : Nat) : Int), .int .i64 (((y51.row % 5) : Nat) : Int), .bool y51.deck, .int .i64 (((2 + (y51.tiers % 4)) : Nat) : Int), .int .i64 0, .int .i64 500000000, .int .i64 500000000, .int .i64 0, .slice none 0 0, .int .i64 ((((13000 * (y51.bay % 5)) : Nat) : Int) - 26000), .int .i64 0, .int .i64 0] 65 (0, 0)) :: (g52, .cells (plC y51).toArray 117 (0, 0)) :: (g2, .cells (shC (.slice pc cs.length cc) (.slice none 0 0) tl0).toArray 32 (0, 0)) :: (g1, .cells (shC (.slice none 0 0) (.slice none 0 0) tl0).toArray 32 (0, 0)) :: Kc) rfl rfl (st_row (off := 9) (v := .int .i64 ((((13000 * (y51.bay % 5)) : Nat) : Int) - 26000)) rfl Tw.kr Tw.kr Tw.m0 Bg54 Tw.kr (by first | (simp [Value.cells]; done) | exact Nat.le_of_ble_eq_true rfl) (by intro v hv; simp [Value.cells] at hv; first | (subst hv; rfl) | (rcases hv with rfl <;> rfl)) Tw.kr (List.forall_mem_cons.2 ⟨.inl rfl, (List.forall_mem_cons.2 ⟨.inr ⟨Tw.m1, Tw.nee⟩, (List.forall_mem_cons.2 ⟨.inr ⟨Tw.m2, Tw.nee⟩, (List.forall_mem_cons.2 ⟨.inr ⟨Tw.m3, Tw.nee⟩, (fun p hp => .inr ⟨(.tail _ (.tail _ (.tail _ (.tail _ hp)))), ((show Dk g54 Kc from Tw.djt) _ hp)⟩)⟩)⟩)⟩)⟩)) ?_
     refine lm (v := .pointer (some ⟨g54, 10, none⟩)) rfl rfl ?_
     refine wpL_s ((g54, .cells #[.int .i64 (((y51.bay % 5) : Nat) : Int), .int .i64 (((y51.row % 5) : Nat) : Int), .bool y51.deck, .int .i64 (((2 + (y51.tiers % 4)) : Nat) : Int), .int .i64 0, .int .i64 500000000, .int .i64 500000000, .int .i64 0, .slice none 0 0, .int .i64 ((((13000 * (y51.bay % 5)) : Nat) : Int) - 26000), .int .i64 ((((2500 * (y51.row % 5)) : Nat) : Int) - 5000), .int .i64 0] 65 (0, 0)) :: (g52, .cells (plC y51).toArray 117 (0, 0)) :: (g2, .cells (shC (.slice pc cs.length cc) (.slice none 0 0) tl0).toArray 32 (0, 0)) :: (g1, .cells (shC (.slice none 0 0) (.slice none 0 0) tl0).toArray 32 (0, 0)) :: Kc) rfl rfl (st_row (off := 10) (v := .int .i64 ((((2500 * (y51.row % 5)) : Nat) : Int) - 5000)) rfl Tw.kr Tw.kr Tw.m0 Bg54 Tw.kr (by first | (simp [Value.cells]; done) | exact Nat.le_of_ble_eq_true rfl) (by intro v hv; simp [Value.cells] at hv; first | (subst hv; rfl) | (rcases hv with rfl <;> rfl)) Tw.kr (List.forall_mem_cons.2 ⟨.inl rfl, (List.forall_mem_cons.2 ⟨.inr ⟨Tw.m1, Tw.nee⟩, (List.forall_mem_cons.2 ⟨.inr ⟨Tw.m2, Tw.nee⟩, (List.forall_mem_cons.2 ⟨.inr ⟨Tw.m3, Tw.nee⟩, (fun p hp => .inr ⟨(.tail _ (.tail _ (.tail _ (.tail _ hp)))), ((show Dk g54 Kc from Tw.djt) _ hp)⟩)⟩)⟩)⟩)⟩)) ?_
     refine lm (v := .pointer (some ⟨g54, 11, none⟩)) rfl rfl ?_
     refine wpL_s ((g54, .cells #[.int .i64 (((y51.bay % 5) : Nat) : Int), .int .i64 (((y51.row % 5) : Nat) : Int), .bool y51.deck, .int .i64 (((2 + (y51.tiers % 4)) : Nat) : Int), .int .i64 0, .int .i64 500000000, .int .i64 500000000, .int .i64 0, .slice none 0 0, .int .i64 ((((13000 * (y51.bay % 5)) : Nat) : Int) - 26000), .int .i64 ((((2500 * (y51.row % 5)) : Nat) : Int) - 5000), .int .i64 2000] 65 (0, 0)) :: (g52, .cells (plC y51).toArray 117 (0, 0)) :: (g2, .cells (shC (.slice pc cs.length cc) (.slice none 0 0) tl0).toArray 32 (0, 0)) :: (g1, .cells (shC (.slice none 0 0) (.slice none 0 0) tl0).toArray 32 (0, 0)) :: Kc) rfl rfl (st_row (off := 11) (v := .int .i64 2000) rfl Tw.kr Tw.kr Tw.m0 Bg54 Tw.kr (by first | (simp [Value.cells]; done) | exact Nat.le_of_ble_eq_true rfl) (by intro v hv; simp [Value.cells] at hv; first | (subst hv; rfl) | (rcases hv with rfl <;> rfl)) Tw.kr (List.forall_mem_cons.2 ⟨.inl rfl, (List.forall_mem_cons.2 ⟨.inr ⟨Tw.m1, Tw.nee⟩, (List.forall_mem_cons.2 ⟨.inr ⟨Tw.m2, Tw.nee⟩, (List.forall_mem_cons.2 ⟨.inr ⟨Tw.m3, Tw.nee⟩, (fun p hp => .inr ⟨(.tail _ (.tail _ (.tail _ (.tail _ hp)))), ((show Dk g54 Kc from Tw.djt) _ hp)⟩)⟩)⟩)⟩)⟩)) ?_
     refine wpL_done (fun W38 hW38 => ?_)
     change Code.wp ..
     refine wp_seq ?_
     refine wp_seq ?_
     refine wp_region_L (W0 := W0) ((g54, .cells #[.int .i64 (((y51.bay % 5) : Nat) : Int), .int .i64 (((y51.row % 5) : Nat) : Int), .bool y51.deck, .int .i64 (((2 + (y51.tiers % 4)) : Nat) : Int), .int .i64 0, .int .i64 500000000, .int .i64 500000000, .int .i64 0, .slice none 0 0, .int .i64 ((((13000 * (y51.bay % 5)) : Nat) : Int) - 26000), .int .i64 ((((2500 * (y51.row % 5)) : Nat) : Int) - 5000), .int .i64 2000] 65 (0, 0)) :: (g52, .cells (plC y51).toArray 117 (0, 0)) :: (g2, .cells (shC (.slice pc cs.length cc) (.slice none 0 0) tl0).toArray 32 (0, 0)) :: (g1, .cells (shC (.slice none 0 0) (.slice none 0 0) tl0).toArray 32 (0, 0)) :: Kc) (hW38) ?_
     refine lm (v := .pointer (some ⟨g54, 2, none⟩)) rfl rfl ?_
     refine lv (v := .bool y51.deck) rfl rfl (yb_cell (off := 2) rfl Tw.kr Tw.m0 Tryd.underlying4 rfl Tw.kr) ?_
     refine wpL_done (fun W39 hW39 => ?_)
     change Code.wp ..
     cases h11 : y51.deck with
     | false =>
       rw [h11] at hW39
       refine wp_cond_false rfl ?_
       refine wp_skip ?_
       change Code.wp ..
       refine wp_seq ?_
       refine wp_region_L (W0 := W0) ((g54, .cells #[.int .i64 (((y51.bay % 5) : Nat) : Int), .int .i64 (((y51.row % 5) : Nat) : Int), .bool false, .int .i64 (((2 + (y51.tiers % 4)) : Nat) : Int), .int .i64 0, .int .i64 500000000, .int .i64 500000000, .int .i64 0, .slice none 0 0, .int .i64 ((((13000 * (y51.bay % 5)) : Nat) : Int) - 26000), .int .i64 ((((2500 * (y51.row % 5)) : Nat) : Int) - 5000), .int .i64 2000] 65 (0, 0)) :: (g52, .cells (plC y51).toArray 117 (0, 0)) :: (g2, .cells (shC (.slice pc cs.length cc) (.slice none 0 0) tl0).toArray 32 (0, 0)) :: (g1, .cells (shC (.slice none 0 0) (.slice none 0 0) tl0).toArray 32 (0, 0)) :: Kc) (hW39) ?_
       refine lv (v := .agg (shC (.slice pc cs.length cc) (.slice none 0 0) tl0).toArray) rfl rfl (yb_load (n := 13) (off := 0) rfl Tw.kr Tw.m2 Tryd.underlying32 rfl Tw.kr (by first | (simp [Value.cells]; done) | exact Nat.le_of_ble_eq_true rfl) Tw.kr) ?_
       refine lm (v := .pointer (some ⟨g54, 0, none⟩)) rfl rfl ?_
       refine lv (v := .int .i64 (((y51.bay % 5) : Nat) : Int)) rfl rfl (yb_cell (off := 0) rfl Tw.kr Tw.m0 Tryd.underlying3 rfl Tw.kr) ?_
       refine lm (v := .pointer (some ⟨g54, 1, none⟩)) rfl rfl ?_
       refine lv (v := .int .i64 (((y51.row % 5) : Nat) : Int)) rfl rfl (yb_cell (off := 1) rfl Tw.kr Tw.m0 Tryd.underlying3 rfl Tw.kr) ?_
       refine lm (v := .pointer (some ⟨g54, 2, none⟩)) rfl rfl ?_
       refine lv (v := .bool false) rfl rfl (yb_cell (off := 2) rfl Tw.kr Tw.m0 Tryd.underlying4 rfl Tw.kr) ?_
       refine lv (v := .tuple #[.int .i64 (findN (fst (isAt (((y51.bay % 5) : Nat) : Int) (((y51.row % 5) : Nat) : Int) false) cs)), .bool ((fst (isAt (((y51.bay % 5) : Nat) : Int) (((y51.row % 5) : Nat) : Int) false) cs).isSome)]) rfl rfl (yb_call (f := 70) (args := #[.agg (shC (.slice pc cs.length cc) (.slice none 0 0) tl0).toArray, .int .i64 (((y51.bay % 5) : Nat) : Int), .int .i64 (((y51.row % 5) : Nat) : Int), .bool false]) Tw.kf fun W hW => Find_any cs pc cc Tw.om ([] : List Cov) none 0 (Nat.zero_le _) tl0 (((y51.bay % 5) : Nat) : Int) (((y51.row % 5) : Nat) : Int) false W (RC _ (hW.sub (fun p hp => by simp only [List.mem_cons, List.mem_append, List.nil_append, List.not_mem_nil, or_assoc, or_false, false_or, hp, true_or, or_true]))) ((RL.nil (T := [])) _ (hW.sub (fun _ h => by cases h)))) ?_
       refine lm (v := .tuple #[.int .i64 (findN (fst (isAt (((y51.bay % 5) : Nat) : Int) (((y51.row % 5) : Nat) : Int) false) cs)), .bool ((fst (isAt (((y51.bay % 5) : Nat) : Int) (((y51.row % 5) : Nat) : Int) false) cs).isSome)]) rfl rfl ?_
       refine lm (v := .int .i64 (findN (fst (isAt (((y51.bay % 5) : Nat) : Int) (((y51.row % 5) : Nat) : Int) false) cs))) rfl rfl ?_
       refine lm (v := .bool ((fst (isAt (((y51.bay % 5) : Nat) : Int) (((y51.row % 5) : Nat) : Int) false) cs).isSome)) rfl rfl ?_
       refine lm (v := .int .i64 (findN (fst (isAt (((y51.bay % 5) : Nat) : Int) (((y51.row % 5) : Nat) : Int) false) cs))) rfl rfl ?_
       refine lm (v := .bool ((fst (isAt (((y51.bay % 5) : Nat) : Int) (((y51.row % 5) : Nat) : Int) false) cs).isSome)) rfl rfl ?_
       refine wpL_done (fun W40 hW40 => ?_)
       change Code.wp ..
       refine wp_seq ?_
       refine wp_region_L (W0 := W0) ((g54, .cells #[.int .i64 (((y51.bay % 5) : Nat) : Int), .int .i64 (((y51.row % 5) : Nat) : Int), .bool false, .int .i64 (((2 + (y51.tiers % 4)) : Nat) : Int), .int .i64 0, .int .i64 500000000, .int .i64 500000000, .int .i64 0, .slice none 0 0, .int .i64 ((((13000 * (y51.bay % 5)) : Nat) : Int) - 26000), .int .i64 ((((2500 * (y51.row % 5)) : Nat) : Int) - 5000), .int .i64 2000] 65 (0, 0)) :: (g52, .cells (plC y51).toArray 117 (0, 0)) :: (g2, .cells (shC (.slice pc cs.length cc) (.slice none 0 0) tl0).toArray 32 (0, 0)) :: (g1, .cells (shC (.slice none 0 0) (.slice none 0 0) tl0).toArray 32 (0, 0)) :: Kc) (hW40) ?_
       refine lm (v := .bool ((fst (isAt (((y51.bay % 5) : Nat) : Int) (((y51.row % 5) : Nat) : Int) false) cs).isSome)) rfl rfl ?_
       refine lp (v := .bool (!((fst (isAt (((y51.bay % 5) : Nat) : Int) (((y51.row % 5) : Nat) : Int) false) cs).isSome))) rfl rfl (run_un rfl Tw.kr fun w => un_not w) ?_
       refine wpL_done (fun W41 hW41 => ?_)
       change Code.wp ..
       cases h12 : ((fst (isAt (((y51.bay % 5) : Nat) : Int) (((y51.row % 5) : Nat) : Int) false) cs).isSome) with
       | false =>
         refine wp_cond_true rfl ?_
         refine wp_region_L (W0 := W0) ((g54, .cells #[.int .i64 (((y51.bay % 5) : Nat) : Int), .int .i64 (((y51.row % 5) : Nat) : Int), .bool false, .int .i64 (((2 + (y51.tiers % 4)) : Nat) : Int), .int .i64 0, .int .i64 500000000, .int .i64 500000000, .int .i64 0, .slice none 0 0, .int .i64 ((((13000 * (y51.bay % 5)) : Nat) : Int) - 26000), .int .i64 ((((2500 * (y51.row % 5)) : Nat) : Int) - 5000), .int .i64 2000] 65 (0, 0)) :: (g52, .cells (plC y51).toArray 117 (0, 0)) :: (g2, .cells (shC (.slice pc cs.length cc) (.slice none 0 0) tl0).toArray 32 (0, 0)) :: (g1, .cells (shC (.slice none 0 0) (.slice none 0 0) tl0).toArray 32 (0, 0)) :: Kc) (hW41) ?_
         refine lm (v := .pointer (some ⟨g2, 0, none⟩)) rfl rfl ?_
         refine lv (v := .slice pc cs.length cc) rfl rfl (yb_cell (off := 0) rfl Tw.kr Tw.m2 Tryd.underlying22 rfl Tw.kr) ?_
         refine lv (v := .agg #[.int .i64 (((y51.bay % 5) : Nat) : Int), .int .i64 (((y51.row % 5) : Nat) : Int), .bool false, .int .i64 (((2 + (y51.tiers % 4)) : Nat) : Int), .int .i64 0, .int .i64 500000000, .int .i64 500000000, .int .i64 0, .slice none 0 0, .int .i64 ((((13000 * (y51.bay % 5)) : Nat) : Int) - 26000), .int .i64 ((((2500 * (y51.row % 5)) : Nat) : Int) - 5000), .int .i64 2000]) rfl rfl (yb_load (n := 12) (off := 0) rfl Tw.kr Tw.m0 Tryd.underlying65 rfl Tw.kr (by first | (simp [Value.cells]; done) | exact Nat.le_of_ble_eq_true rfl) Tw.kr) ?_
         refine wpL_new (fun g => .slice (some ⟨g, 0, none⟩) 1 1) (obi := .cells #[.int .i64 (((y51.bay % 5) : Nat) : Int), .int .i64 (((y51.row % 5) : Nat) : Int), .bool false, .int .i64 (((2 + (y51.tiers % 4)) : Nat) : Int), .int .i64 0, .int .i64 500000000, .int .i64 500000000, .int .i64 0, .slice none 0 0, .int .i64 ((((13000 * (y51.bay % 5)) : Nat) : Int) - 26000), .int .i64 ((((2500 * (y51.row % 5)) : Nat) : Int) - 5000), .int .i64 2000] 65 (0, 0)) rfl rfl Tw.kf Tw.pf fun g56 Bg56 Fg56 => ?_
         obtain ⟨dj57_0, dj57_1, dj57_2, dj57_3, dj57_4⟩ : g54 ≠ g56 ∧ g52 ≠ g56 ∧ g2 ≠ g56 ∧ g1 ≠ g56 ∧ Dk g56 Kc := Tw.dkf Fg56
         refine wpL_g (AppO W0 65 12 [(g54, .cells #[.int .i64 (((y51.bay % 5) : Nat) : Int), .int .i64 (((y51.row % 5) : Nat) : Int), .bool false, .int .i64 (((2 + (y51.tiers % 4)) : Nat) : Int), .int .i64 0, .int .i64 500000000, .int .i64 500000000, .int .i64 0, .slice none 0 0, .int .i64 ((((13000 * (y51.bay % 5)) : Nat) : Int) - 26000), .int .i64 ((((2500 * (y51.row % 5)) : Nat) : Int) - 5000), .int .i64 2000] 65 (0, 0)), (g52, .cells (plC y51).toArray 117 (0, 0)), (g2, .cells (shC (.slice pc cs.length cc) (.slice none 0 0) tl0).toArray 32 (0, 0)), (g1, .cells (shC (.slice none 0 0) (.slice none 0 0) tl0).toArray 32 (0, 0))] (cs.length + 1) ((cs.flatMap colC) ++ [.int .i64 (((y51.bay % 5) : Nat) : Int), .int .i64 (((y51.row % 5) : Nat) : Int), .bool false, .int .i64 (((2 + (y51.tiers % 4)) : Nat) : Int), .int .i64 0, .int .i64 500000000, .int .i64 500000000, .int .i64 0, .slice none 0 0, .int .i64 ((((13000 * (y51.bay % 5)) : Nat) : Int) - 26000), .int .i64 ((((2500 * (y51.row % 5)) : Nat) : Int) - 5000), .int .i64 2000])) rfl rfl (app_own el_col (m := 1) (c := 1) (news := [.int .i64 (((y51.bay % 5) : Nat) : Int), .int .i64 (((y51.row % 5) : Nat) : Int), .bool false, .int .i64 (((2 + (y51.tiers % 4)) : Nat) : Int), .int .i64 0, .int .i64 500000000, .int .i64 500000000, .int .i64 0, .slice none 0 0, .int .i64 ((((13000 * (y51.bay % 5)) : Nat) : Int) - 26000), .int .i64 ((((2500 * (y51.row % 5)) : Nat) : Int) - 5000), .int .i64 2000]) rfl Tw.kr Tw.kr Tw.m0 hOc Tw.sc (fun p hp => ⟨by simp only [List.mem_cons, List.mem_append, List.nil_append, List.not_mem_nil, or_assoc, or_false, false_or] at hp ⊢ <;> grind, (show Dj [(g54, .cells #[.int .i64 (((y51.bay % 5) : Nat) : Int), .int .i64 (((y51.row % 5) : Nat) : Int), .bool false, .int .i64 (((2 + (y51.tiers % 4)) : Nat) : Int), .int .i64 0, .int .i64 500000000, .int .i64 500000000, .int .i64 0, .slice none 0 0, .int .i64 ((((13000 * (y51.bay % 5)) : Nat) : Int) - 26000), .int .i64 ((((2500 * (y51.row % 5)) : Nat) : Int) - 5000), .int .i64 2000] 65 (0, 0)), (g52, .cells (plC y51).toArray 117 (0, 0)), (g2, .cells (shC (.slice pc cs.length cc) (.slice none 0 0) tl0).toArray 32 (0, 0)), (g1, .cells (shC (.slice none 0 0) (.slice none 0 0) tl0).toArray 32 (0, 0))] Kc from Tw.djt) p hp⟩) rfl (by simp [strV, Value.oneCell']) Tw.om Tw.om Tw.om) Tw.pf ?_
         rintro v58 K9 ⟨Kl58, O58, N58, rfl⟩
         obtain ⟨dj59_0, dj59_1, dj59_2, dj59_3⟩ : Dk g54 Kl58 ∧ Dk g52 Kl58 ∧ Dk g2 Kl58 ∧ Dk g1 Kl58 := Tw.djf N58
         refine lm (v := .pointer (some ⟨g2, 0, none⟩)) rfl rfl ?_
         obtain ⟨p60, c60, rfl⟩ := own_shape O58
         refine wpL_s ((g54, .cells #[.int .i64 (((y51.bay % 5) : Nat) : Int), .int .i64 (((y51.row % 5) : Nat) : Int), .bool false, .int .i64 (((2 + (y51.tiers % 4)) : Nat) : Int), .int .i64 0, .int .i64 500000000, .int .i64 500000000, .int .i64 0, .slice none 0 0, .int .i64 ((((13000 * (y51.bay % 5)) : Nat) : Int) - 26000), .int .i64 ((((2500 * (y51.row % 5)) : Nat) : Int) - 5000), .int .i64 2000] 65 (0, 0)) :: (g52, .cells (plC y51).toArray 117 (0, 0)) :: (g2, .cells (shC (.slice p60 (cs.length + 1) c60) (.slice none 0 0) tl0).toArray 32 (0, 0)) :: (g1, .cells (shC (.slice none 0 0) (.slice none 0 0) tl0).toArray 32 (0, 0)) :: Kl58) rfl rfl (st_row (off := 0) (v := .slice p60 (cs.length + 1) c60) rfl Tw.kr Tw.kr Tw.m2 Bg2 Tw.kr (by first | (simp [Value.cells]; done) | exact Nat.le_of_ble_eq_true rfl) (by intro v hv; simp [Value.cells] at hv; first | (subst hv; rfl) | (rcases hv with rfl <;> rfl)) Tw.kr (List.forall_mem_cons.2 ⟨.inr ⟨Tw.m0, Tw.nee⟩, (List.forall_mem_cons.2 ⟨.inr ⟨Tw.m1, Tw.nee⟩, (List.forall_mem_cons.2 ⟨.inl rfl, (List.forall_mem_cons.2 ⟨.inr ⟨Tw.m3, Tw.nee⟩, (fun p hp => .inr ⟨(.tail _ (.tail _ (.tail _ (.tail _ hp)))), ((show Dk g2 Kl58 from Tw.djt) _ hp)⟩)⟩)⟩)⟩)⟩)) ?_
         refine wpL_done (fun W42 hW42 => ?_)
         change Code.wp ..
         refine wp_region_L (W0 := W0) ((g54, .cells #[.int .i64 (((y51.bay % 5) : Nat) : Int), .int .i64 (((y51.row % 5) : Nat) : Int), .bool false, .int .i64 (((2 + (y51.tiers % 4)) : Nat) : Int), .int .i64 0, .int .i64 500000000, .int .i64 500000000, .int .i64 0, .slice none 0 0, .int .i64 ((((13000 * (y51.bay % 5)) : Nat) : Int) - 26000), .int .i64 ((((2500 * (y51.row % 5)) : Nat) : Int) - 5000), .int .i64 2000] 65 (0, 0)) :: (g52, .cells (plC y51).toArray 117 (0, 0)) :: (g2, .cells (shC (.slice p60 (cs.length + 1) c60) (.slice none 0 0) tl0).toArray 32 (0, 0)) :: (g1, .cells (shC (.slice none 0 0) (.slice none 0 0) tl0).toArray 32 (0, 0)) :: Kl58) (hW42) ?_
         refine lp (v := .int .i64 (((k + 1) : Nat) : Int)) rfl rfl (run_bin rfl (vx := (.int .i64 ((k : Nat) : Int))) (vy := (.int .i64 ((1 : Nat) : Int))) Tw.kr Tw.kr fun w => bn_add (z := (k + 1)) rfl (wr_i64 Tw.om) w) ?_
         refine lm (v := .int .i64 (((k + 1) : Nat) : Int)) rfl rfl ?_
         refine wpL_done (fun W43 hW43 => ?_)
         go_roundw
         case rel =>
           repeat apply Exists.intro
           exact ⟨⟨k + 1, (cs ++ [colD y51 false]), .slice p60 (cs.length + 1) c60, Kl58, Tw.om, (by rw [bld_snoc hy51, ← hcs, add_no h11 h12]), (by rw [List.length_append, List.length_singleton]; omega), (own_app O58 (by rw [List.flatMap_append]; rfl) (by rw [List.length_append]; rfl)), (show Dk g2 Kl58 from Tw.djt), (show Dk g1 Kl58 from Tw.djt), rfl, (hW43.sub (fun p hp => by first | exact hp | (simp only [List.mem_cons, List.mem_append, List.nil_append, List.not_mem_nil, or_assoc, or_false, false_or] at hp ⊢ <;> grind)))⟩, rfl⟩
         case measure => (show m - (intOf (.int .i64 (((k + 1) : Nat) : Int))).toNat < m - (intOf (.int .i64 ((k : Nat) : Int))).toNat); simp only [intOf]; omega
       | true =>
         refine wp_cond_false rfl ?_
         refine wp_skip ?_
         change Code.wp ..
         refine wp_region_L (W0 := W0) ((g54, .cells #[.int .i64 (((y51.bay % 5) : Nat) : Int), .int .i64 (((y51.row % 5) : Nat) : Int), .bool false, .int .i64 (((2 + (y51.tiers % 4)) : Nat) : Int), .int .i64 0, .int .i64 500000000, .int .i64 500000000, .int .i64 0, .slice none 0 0, .int .i64 ((((13000 * (y51.bay % 5)) : Nat) : Int) - 26000), .int .i64 ((((2500 * (y51.row % 5)) : Nat) : Int) - 5000), .int .i64 2000] 65 (0, 0)) :: (g52, .cells (plC y51).toArray 117 (0, 0)) :: (g2, .cells (shC (.slice pc cs.length cc) (.slice none 0 0) tl0).toArray 32 (0, 0)) :: (g1, .cells (shC (.slice none 0 0) (.slice none 0 0) tl0).toArray 32 (0, 0)) :: Kc) (hW41) ?_
         refine lp (v := .int .i64 (((k + 1) : Nat) : Int)) rfl rfl (run_bin rfl (vx := (.int .i64 ((k : Nat) : Int))) (vy := (.int .i64 ((1 : Nat) : Int))) Tw.kr Tw.kr fun w => bn_add (z := (k + 1)) rfl (wr_i64 Tw.om) w) ?_
         refine lm (v := .int .i64 (((k + 1) : Nat) : Int)) rfl rfl ?_
         refine wpL_done (fun W44 hW44 => ?_)
         go_roundw
         case rel =>
           repeat apply Exists.intro
           exact ⟨⟨k + 1, cs, .slice pc cs.length cc, Kc, Tw.om, (by rw [bld_snoc hy51, ← hcs, add_yes h11 h12]), Tw.om, hOc, (show Dk g2 Kc from Tw.djt), (show Dk g1 Kc from Tw.djt), rfl, (hW44.sub (fun p hp => by first | exact hp | (simp only [List.mem_cons, List.mem_append, List.nil_append, List.not_mem_nil, or_assoc, or_false, false_or] at hp ⊢ <;> grind)))⟩, rfl⟩
         case measure => (show m - (intOf (.int .i64 (((k + 1) : Nat) : Int))).toNat < m - (intOf (.int .i64 ((k : Nat) : Int))).toNat); simp only [intOf]; omega
     | true =>
       rw [h11] at hW39
       refine wp_cond_true rfl ?_
       refine wp_region_L (W0 := W0) ((g54, .cells #[.int .i64 (((y51.bay % 5) : Nat) : Int), .int .i64 (((y51.row % 5) : Nat) : Int), .bool true, .int .i64 (((2 + (y51.tiers % 4)) : Nat) : Int), .int .i64 0, .int .i64 500000000, .int .i64 500000000, .int .i64 0, .slice none 0 0, .int .i64 ((((13000 * (y51.bay % 5)) : Nat) : Int) - 26000), .int .i64 ((((2500 * (y51.row % 5)) : Nat) : Int) - 5000), .int .i64 2000] 65 (0, 0)) :: (g52, .cells (plC y51).toArray 117 (0, 0)) :: (g2, .cells (shC (.slice pc cs.length cc) (.slice none 0 0) tl0).toArray 32 (0, 0)) :: (g1, .cells (shC (.slice none 0 0) (.slice none 0 0) tl0).toArray 32 (0, 0)) :: Kc) (hW39) ?_
       refine lm (v := .pointer (some ⟨g54, 11, none⟩)) rfl rfl ?_
       refine wpL_s ((g54, .cells #[.int .i64 (((y51.bay % 5) : Nat) : Int), .int .i64 (((y51.row % 5) : Nat) : Int), .bool true, .int .i64 (((2 + (y51.tiers % 4)) : Nat) : Int), .int .i64 0, .int .i64 500000000, .int .i64 500000000, .int .i64 0, .slice none 0 0, .int .i64 ((((13000 * (y51.bay % 5)) : Nat) : Int) - 26000), .int .i64 ((((2500 * (y51.row % 5)) : Nat) : Int) - 5000), .int .i64 20000] 65 (0, 0)) :: (g52, .cells (plC y51).toArray 117 (0, 0)) :: (g2, .cells (shC (.slice pc cs.length cc) (.slice none 0 0) tl0).toArray 32 (0, 0)) :: (g1, .cells (shC (.slice none 0 0) (.slice none 0 0) tl0).toArray 32 (0, 0)) :: Kc) rfl rfl (st_row (off := 11) (v := .int .i64 20000) rfl Tw.kr Tw.kr Tw.m0 Bg54 Tw.kr (by first | (simp [Value.cells]; done) | exact Nat.le_of_ble_eq_true rfl) (by intro v hv; simp [Value.cells] at hv; first | (subst hv; rfl) | (rcases hv with rfl <;> rfl)) Tw.kr (List.forall_mem_cons.2 ⟨.inl rfl, (List.forall_mem_cons.2 ⟨.inr ⟨Tw.m1, Tw.nee⟩, (List.forall_mem_cons.2 ⟨.inr ⟨Tw.m2, Tw.nee⟩, (List.forall_mem_cons.2 ⟨.inr ⟨Tw.m3, Tw.nee⟩, (fun p hp => .inr ⟨(.tail _ (.tail _ (.tail _ (.tail _ hp)))), ((show Dk g54 Kc from Tw.djt) _ hp)⟩)⟩)⟩)⟩)⟩)) ?_
       refine wpL_done (fun W45 hW45 => ?_)
       change Code.wp ..
       refine wp_seq ?_
       refine wp_region_L (W0 := W0) ((g54, .cells #[.int .i64 (((y51.bay % 5) : Nat) : Int), .int .i64 (((y51.row % 5) : Nat) : Int), .bool true, .int .i64 (((2 + (y51.tiers % 4)) : Nat) : Int), .int .i64 0, .int .i64 500000000, .int .i64 500000000, .int .i64 0, .slice none 0 0, .int .i64 ((((13000 * (y51.bay % 5)) : Nat) : Int) - 26000), .int .i64 ((((2500 * (y51.row % 5)) : Nat) : Int) - 5000), .int .i64 20000] 65 (0, 0)) :: (g52, .cells (plC y51).toArray 117 (0, 0)) :: (g2, .cells (shC (.slice pc cs.length cc) (.slice none 0 0) tl0).toArray 32 (0, 0)) :: (g1, .cells (shC (.slice none 0 0) (.slice none 0 0) tl0).toArray 32 (0, 0)) :: Kc) (hW45) ?_
       refine lv (v := .agg (shC (.slice pc cs.length cc) (.slice none 0 0) tl0).toArray) rfl rfl (yb_load (n := 13) (off := 0) rfl Tw.kr Tw.m2 Tryd.underlying32 rfl Tw.kr (by first | (simp [Value.cells]; done) | exact Nat.le_of_ble_eq_true rfl) Tw.kr) ?_
       refine lm (v := .pointer (some ⟨g54, 0, none⟩)) rfl rfl ?_
       refine lv (v := .int .i64 (((y51.bay % 5) : Nat) : Int)) rfl rfl (yb_cell (off := 0) rfl Tw.kr Tw.m0 Tryd.underlying3 rfl Tw.kr) ?_
       refine lm (v := .pointer (some ⟨g54, 1, none⟩)) rfl rfl ?_
       refine lv (v := .int .i64 (((y51.row % 5) : Nat) : Int)) rfl rfl (yb_cell (off := 1) rfl Tw.kr Tw.m0 Tryd.underlying3 rfl Tw.kr) ?_
       refine lm (v := .pointer (some ⟨g54, 2, none⟩)) rfl rfl ?_
       refine lv (v := .bool true) rfl rfl (yb_cell (off := 2) rfl Tw.kr Tw.m0 Tryd.underlying4 rfl Tw.kr) ?_
       refine lv (v := .tuple #[.int .i64 (findN (fst (isAt (((y51.bay % 5) : Nat) : Int) (((y51.row % 5) : Nat) : Int) true) cs)), .bool ((fst (isAt (((y51.bay % 5) : Nat) : Int) (((y51.row % 5) : Nat) : Int) true) cs).isSome)]) rfl rfl (yb_call (f := 70) (args := #[.agg (shC (.slice pc cs.length cc) (.slice none 0 0) tl0).toArray, .int .i64 (((y51.bay % 5) : Nat) : Int), .int .i64 (((y51.row % 5) : Nat) : Int), .bool true]) Tw.kf fun W hW => Find_any cs pc cc Tw.om ([] : List Cov) none 0 (Nat.zero_le _) tl0 (((y51.bay % 5) : Nat) : Int) (((y51.row % 5) : Nat) : Int) true W (RC _ (hW.sub (fun p hp => by simp only [List.mem_cons, List.mem_append, List.nil_append, List.not_mem_nil, or_assoc, or_false, false_or, hp, true_or, or_true]))) ((RL.nil (T := [])) _ (hW.sub (fun _ h => by cases h)))) ?_
       refine lm (v := .tuple #[.int .i64 (findN (fst (isAt (((y51.bay % 5) : Nat) : Int) (((y51.row % 5) : Nat) : Int) true) cs)), .bool ((fst (isAt (((y51.bay % 5) : Nat) : Int) (((y51.row % 5) : Nat) : Int) true) cs).isSome)]) rfl rfl ?_
       refine lm (v := .int .i64 (findN (fst (isAt (((y51.bay % 5) : Nat) : Int) (((y51.row % 5) : Nat) : Int) true) cs))) rfl rfl ?_
       refine lm (v := .bool ((fst (isAt (((y51.bay % 5) : Nat) : Int) (((y51.row % 5) : Nat) : Int) true) cs).isSome)) rfl rfl ?_
       refine lm (v := .int .i64 (findN (fst (isAt (((y51.bay % 5) : Nat) : Int) (((y51.row % 5) : Nat) : Int) true) cs))) rfl rfl ?_
       refine lm (v := .bool ((fst (isAt (((y51.bay % 5) : Nat) : Int) (((y51.row % 5) : Nat) : Int) true) cs).isSome)) rfl rfl ?_
       refine wpL_done (fun W46 hW46 => ?_)
       change Code.wp ..
       refine wp_seq ?_
       refine wp_region_L (W0 := W0) ((g54, .cells #[.int .i64 (((y51.bay % 5) : Nat) : Int), .int .i64 (((y51.row % 5) : Nat) : Int), .bool true, .int .i64 (((2 + (y51.tiers % 4)) : Nat) : Int), .int .i64 0, .int .i64 500000000, .int .i64 500000000, .int .i64 0, .slice none 0 0, .int .i64 ((((13000 * (y51.bay % 5)) : Nat) : Int) - 26000), .int .i64 ((((2500 * (y51.row % 5)) : Nat) : Int) - 5000), .int .i64 20000] 65 (0, 0)) :: (g52, .cells (plC y51).toArray 117 (0, 0)) :: (g2, .cells (shC (.slice pc cs.length cc) (.slice none 0 0) tl0).toArray 32 (0, 0)) :: (g1, .cells (shC (.slice none 0 0) (.slice none 0 0) tl0).toArray 32 (0, 0)) :: Kc) (hW46) ?_
       refine lm (v := .bool ((fst (isAt (((y51.bay % 5) : Nat) : Int) (((y51.row % 5) : Nat) : Int) true) cs).isSome)) rfl rfl ?_
       refine lp (v := .bool (!((fst (isAt (((y51.bay % 5) : Nat) : Int) (((y51.row % 5) : Nat) : Int) true) cs).isSome))) rfl rfl (run_un rfl Tw.kr fun w => un_not w) ?_
       refine wpL_done (fun W47 hW47 => ?_)
       change Code.wp ..
       cases h13 : ((fst (isAt (((y51.bay % 5) : Nat) : Int) (((y51.row % 5) : Nat) : Int) true) cs).isSome) with
       | false =>
         refine wp_cond_true rfl ?_
         refine wp_region_L (W0 := W0) ((g54, .cells #[.int .i64 (((y51.bay % 5) : Nat) : Int), .int .i64 (((y51.row % 5) : Nat) : Int), .bool true, .int .i64 (((2 + (y51.tiers % 4)) : Nat) : Int), .int .i64 0, .int .i64 500000000, .int .i64 500000000, .int .i64 0, .slice none 0 0, .int .i64 ((((13000 * (y51.bay % 5)) : Nat) : Int) - 26000), .int .i64 ((((2500 * (y51.row % 5)) : Nat) : Int) - 5000), .int .i64 20000] 65 (0, 0)) :: (g52, .cells (plC y51).toArray 117 (0, 0)) :: (g2, .cells (shC (.slice pc cs.length cc) (.slice none 0 0) tl0).toArray 32 (0, 0)) :: (g1, .cells (shC (.slice none 0 0) (.slice none 0 0) tl0).toArray 32 (0, 0)) :: Kc) (hW47) ?_
         refine lm (v := .pointer (some ⟨g2, 0, none⟩)) rfl rfl ?_
         refine lv (v := .slice pc cs.length cc) rfl rfl (yb_cell (off := 0) rfl Tw.kr Tw.m2 Tryd.underlying22 rfl Tw.kr) ?_
         refine lv (v := .agg #[.int .i64 (((y51.bay % 5) : Nat) : Int), .int .i64 (((y51.row % 5) : Nat) : Int), .bool true, .int .i64 (((2 + (y51.tiers % 4)) : Nat) : Int), .int .i64 0, .int .i64 500000000, .int .i64 500000000, .int .i64 0, .slice none 0 0, .int .i64 ((((13000 * (y51.bay % 5)) : Nat) : Int) - 26000), .int .i64 ((((2500 * (y51.row % 5)) : Nat) : Int) - 5000), .int .i64 20000]) rfl rfl (yb_load (n := 12) (off := 0) rfl Tw.kr Tw.m0 Tryd.underlying65 rfl Tw.kr (by first | (simp [Value.cells]; done) | exact Nat.le_of_ble_eq_true rfl) Tw.kr) ?_
         refine wpL_new (fun g => .slice (some ⟨g, 0, none⟩) 1 1) (obi := .cells #[.int .i64 (((y51.bay % 5) : Nat) : Int), .int .i64 (((y51.row % 5) : Nat) : Int), .bool true, .int .i64 (((2 + (y51.tiers % 4)) : Nat) : Int), .int .i64 0, .int .i64 500000000, .int .i64 500000000, .int .i64 0, .slice none 0 0, .int .i64 ((((13000 * (y51.bay % 5)) : Nat) : Int) - 26000), .int .i64 ((((2500 * (y51.row % 5)) : Nat) : Int) - 5000), .int .i64 20000] 65 (0, 0)) rfl rfl Tw.kf Tw.pf fun g61 Bg61 Fg61 => ?_
         obtain ⟨dj62_0, dj62_1, dj62_2, dj62_3, dj62_4⟩ : g54 ≠ g61 ∧ g52 ≠ g61 ∧ g2 ≠ g61 ∧ g1 ≠ g61 ∧ Dk g61 Kc := Tw.dkf Fg61
         refine wpL_g (AppO W0 65 12 [(g54, .cells #[.int .i64 (((y51.bay % 5) : Nat) : Int), .int .i64 (((y51.row % 5) : Nat) : Int), .bool true, .int .i64 (((2 + (y51.tiers % 4)) : Nat) : Int), .int .i64 0, .int .i64 500000000, .int .i64 500000000, .int .i64 0, .slice none 0 0, .int .i64 ((((13000 * (y51.bay % 5)) : Nat) : Int) - 26000), .int .i64 ((((2500 * (y51.row % 5)) : Nat) : Int) - 5000), .int .i64 20000] 65 (0, 0)), (g52, .cells (plC y51).toArray 117 (0, 0)), (g2, .cells (shC (.slice pc cs.length cc) (.slice none 0 0) tl0).toArray 32 (0, 0)), (g1, .cells (shC (.slice none 0 0) (.slice none 0 0) tl0).toArray 32 (0, 0))] (cs.length + 1) ((cs.flatMap colC) ++ [.int .i64 (((y51.bay % 5) : Nat) : Int), .int .i64 (((y51.row % 5) : Nat) : Int), .bool true, .int .i64 (((2 + (y51.tiers % 4)) : Nat) : Int), .int .i64 0, .int .i64 500000000, .int .i64 500000000, .int .i64 0, .slice none 0 0, .int .i64 ((((13000 * (y51.bay % 5)) : Nat) : Int) - 26000), .int .i64 ((((2500 * (y51.row % 5)) : Nat) : Int) - 5000), .int .i64 20000])) rfl rfl (app_own el_col (m := 1) (c := 1) (news := [.int .i64 (((y51.bay % 5) : Nat) : Int), .int .i64 (((y51.row % 5) : Nat) : Int), .bool true, .int .i64 (((2 + (y51.tiers % 4)) : Nat) : Int), .int .i64 0, .int .i64 500000000, .int .i64 500000000, .int .i64 0, .slice none 0 0, .int .i64 ((((13000 * (y51.bay % 5)) : Nat) : Int) - 26000), .int .i64 ((((2500 * (y51.row % 5)) : Nat) : Int) - 5000), .int .i64 20000]) rfl Tw.kr Tw.kr Tw.m0 hOc Tw.sc (fun p hp => ⟨by simp only [List.mem_cons, List.mem_append, List.nil_append, List.not_mem_nil, or_assoc, or_false, false_or] at hp ⊢ <;> grind, (show Dj [(g54, .cells #[.int .i64 (((y51.bay % 5) : Nat) : Int), .int .i64 (((y51.row % 5) : Nat) : Int), .bool true, .int .i64 (((2 + (y51.tiers % 4)) : Nat) : Int), .int .i64 0, .int .i64 500000000, .int .i64 500000000, .int .i64 0, .slice none 0 0, .int .i64 ((((13000 * (y51.bay % 5)) : Nat) : Int) - 26000), .int .i64 ((((2500 * (y51.row % 5)) : Nat) : Int) - 5000), .int .i64 20000] 65 (0, 0)), (g52, .cells (plC y51).toArray 117 (0, 0)), (g2, .cells (shC (.slice pc cs.length cc) (.slice none 0 0) tl0).toArray 32 (0, 0)), (g1, .cells (shC (.slice none 0 0) (.slice none 0 0) tl0).toArray 32 (0, 0))] Kc from Tw.djt) p hp⟩) rfl (by simp [strV, Value.oneCell']) Tw.om Tw.om Tw.om) Tw.pf ?_
         rintro v63 K9 ⟨Kl63, O63, N63, rfl⟩
         obtain ⟨dj64_0, dj64_1, dj64_2, dj64_3⟩ : Dk g54 Kl63 ∧ Dk g52 Kl63 ∧ Dk g2 Kl63 ∧ Dk g1 Kl63 := Tw.djf N63
         refine lm (v := .pointer (some ⟨g2, 0, none⟩)) rfl rfl ?_
         obtain ⟨p65, c65, rfl⟩ := own_shape O63
         refine wpL_s ((g54, .cells #[.int .i64 (((y51.bay % 5) : Nat) : Int), .int .i64 (((y51.row % 5) : Nat) : Int), .bool true, .int .i64 (((2 + (y51.tiers % 4)) : Nat) : Int), .int .i64 0, .int .i64 500000000, .int .i64 500000000, .int .i64 0, .slice none 0 0, .int .i64 ((((13000 * (y51.bay % 5)) : Nat) : Int) - 26000), .int .i64 ((((2500 * (y51.row % 5)) : Nat) : Int) - 5000), .int .i64 20000] 65 (0, 0)) :: (g52, .cells (plC y51).toArray 117 (0, 0)) :: (g2, .cells (shC (.slice p65 (cs.length + 1) c65) (.slice none 0 0) tl0).toArray 32 (0, 0)) :: (g1, .cells (shC (.slice none 0 0) (.slice none 0 0) tl0).toArray 32 (0, 0)) :: Kl63) rfl rfl (st_row (off := 0) (v := .slice p65 (cs.length + 1) c65) rfl Tw.kr Tw.kr Tw.m2 Bg2 Tw.kr (by first | (simp [Value.cells]; done) | exact Nat.le_of_ble_eq_true rfl) (by intro v hv; simp [Value.cells] at hv; first | (subst hv; rfl) | (rcases hv with rfl <;> rfl)) Tw.kr (List.forall_mem_cons.2 ⟨.inr ⟨Tw.m0, Tw.nee⟩, (List.forall_mem_cons.2 ⟨.inr ⟨Tw.m1, Tw.nee⟩, (List.forall_mem_cons.2 ⟨.inl rfl, (List.forall_mem_cons.2 ⟨.inr ⟨Tw.m3, Tw.nee⟩, (fun p hp => .inr ⟨(.tail _ (.tail _ (.tail _ (.tail _ hp)))), ((show Dk g2 Kl63 from Tw.djt) _ hp)⟩)⟩)⟩)⟩)⟩)) ?_
         refine wpL_done (fun W48 hW48 => ?_)
         change Code.wp ..
         refine wp_region_L (W0 := W0) ((g54, .cells #[.int .i64 (((y51.bay % 5) : Nat) : Int), .int .i64 (((y51.row % 5) : Nat) : Int), .bool true, .int .i64 (((2 + (y51.tiers % 4)) : Nat) : Int), .int .i64 0, .int .i64 500000000, .int .i64 500000000, .int .i64 0, .slice none 0 0, .int .i64 ((((13000 * (y51.bay % 5)) : Nat) : Int) - 26000), .int .i64 ((((2500 * (y51.row % 5)) : Nat) : Int) - 5000), .int .i64 20000] 65 (0, 0)) :: (g52, .cells (plC y51).toArray 117 (0, 0)) :: (g2, .cells (shC (.slice p65 (cs.length + 1) c65) (.slice none 0 0) tl0).toArray 32 (0, 0)) :: (g1, .cells (shC (.slice none 0 0) (.slice none 0 0) tl0).toArray 32 (0, 0)) :: Kl63) (hW48) ?_
         refine lp (v := .int .i64 (((k + 1) : Nat) : Int)) rfl rfl (run_bin rfl (vx := (.int .i64 ((k : Nat) : Int))) (vy := (.int .i64 ((1 : Nat) : Int))) Tw.kr Tw.kr fun w => bn_add (z := (k + 1)) rfl (wr_i64 Tw.om) w) ?_
         refine lm (v := .int .i64 (((k + 1) : Nat) : Int)) rfl rfl ?_
         refine wpL_done (fun W49 hW49 => ?_)
         go_roundw
         case rel =>
           repeat apply Exists.intro
           exact ⟨⟨k + 1, (cs ++ [colD y51 true]), .slice p65 (cs.length + 1) c65, Kl63, Tw.om, (by rw [bld_snoc hy51, ← hcs, add_no h11 h13]), (by rw [List.length_append, List.length_singleton]; omega), (own_app O63 (by rw [List.flatMap_append]; rfl) (by rw [List.length_append]; rfl)), (show Dk g2 Kl63 from Tw.djt), (show Dk g1 Kl63 from Tw.djt), rfl, (hW49.sub (fun p hp => by first | exact hp | (simp only [List.mem_cons, List.mem_append, List.nil_append, List.not_mem_nil, or_assoc, or_false, false_or] at hp ⊢ <;> grind)))⟩, rfl⟩
         case measure => (show m - (intOf (.int .i64 (((k + 1) : Nat) : Int))).toNat < m - (intOf (.int .i64 ((k : Nat) : Int))).toNat); simp only [intOf]; omega
       | true =>
         refine wp_cond_false rfl ?_
         refine wp_skip ?_
         change Code.wp ..
         refine wp_region_L (W0 := W0) ((g54, .cells #[.int .i64 (((y51.bay % 5) : Nat) : Int), .int .i64 (((y51.row % 5) : Nat) : Int), .bool true, .int .i64 (((2 + (y51.tiers % 4)) : Nat) : Int), .int .i64 0, .int .i64 500000000, .int .i64 500000000, .int .i64 0, .slice none 0 0, .int .i64 ((((13000 * (y51.bay % 5)) : Nat) : Int) - 26000), .int .i64 ((((2500 * (y51.row % 5)) : Nat) : Int) - 5000), .int .i64 20000] 65 (0, 0)) :: (g52, .cells (plC y51).toArray 117 (0, 0)) :: (g2, .cells (shC (.slice pc cs.length cc) (.slice none 0 0) tl0).toArray 32 (0, 0)) :: (g1, .cells (shC (.slice none 0 0) (.slice none 0 0) tl0).toArray 32 (0, 0)) :: Kc) (hW47) ?_
         refine lp (v := .int .i64 (((k + 1) : Nat) : Int)) rfl rfl (run_bin rfl (vx := (.int .i64 ((k : Nat) : Int))) (vy := (.int .i64 ((1 : Nat) : Int))) Tw.kr Tw.kr fun w => bn_add (z := (k + 1)) rfl (wr_i64 Tw.om) w) ?_
         refine lm (v := .int .i64 (((k + 1) : Nat) : Int)) rfl rfl ?_
         refine wpL_done (fun W50 hW50 => ?_)
         go_roundw
         case rel =>
           repeat apply Exists.intro
           exact ⟨⟨k + 1, cs, .slice pc cs.length cc, Kc, Tw.om, (by rw [bld_snoc hy51, ← hcs, add_yes h11 h13]), Tw.om, hOc, (show Dk g2 Kc from Tw.djt), (show Dk g1 Kc from Tw.djt), rfl, (hW50.sub (fun p hp => by first | exact hp | (simp only [List.mem_cons, List.mem_append, List.nil_append, List.not_mem_nil, or_assoc, or_false, false_or] at hp ⊢ <;> grind)))⟩, rfl⟩
         case measure => (show m - (intOf (.int .i64 (((k + 1) : Nat) : Int))).toNat < m - (intOf (.int .i64 ((k : Nat) : Int))).toNat); simp only [intOf]; omega
end Go.Proofs.YtlinjngifacmoaaDoor
/- The order of slots. -/
namespace Go.Proofs.YtlinjngifacmoaaDoor
open Go Go.RowKit Tw
structure Tri where
 a : Slt
 b : Slt
 c : Slt
end Go.Proofs.YtlinjngifacmoaaDoor
namespace Go.Proofs.YtlinjngifacmoaaDoor
open Go Go.RowKit Tw
end Go.Proofs.YtlinjngifacmoaaDoor
/- What holds a slot of a few. -/
namespace Go.Proofs.YtlinjngifacmoaaDoor
open Go Go.RowKit Tw
end Go.Proofs.YtlinjngifacmoaaDoor
namespace Go.Proofs.YtlinjngifacmoaaDoor
open Go Go.RowKit Tw
section
variable {P : Program} {md : Region.Mode} {ops : Array Oper} {Q : Exit → Act → World → Prop} {W0 : Base}
end
end Go.Proofs.YtlinjngifacmoaaDoor
namespace Go.Proofs.YtlinjngifacmoaaDoor
open Go Go.RowKit Tw
set_option maxRecDepth 100000 in
set_option maxHeartbeats 4000000 in
theorem every_any (cs : List Col) (pc : Option Addr) (cc : Nat) (lc : cs.length ≤ 1000) (os : List Cov) (po : Option Addr) (co : Nat) (lo : os.length ≤ 4000000000) (t : Tl) (ht : ∀ c ∈ cs, c.tiers ≤ 10) (hlev : (everyX cs).length ≤ 8000) (w : World) (hc : SLV w pc (cs.flatMap colC)) (ho : SLV w po (os.flatMap covC)) : Calls Tryd.prog 34 #[.agg (shC (.slice pc cs.length cc) (.slice po os.length co) t).toArray] w fun e w' => ∃ v, e = .returned v ∧ OutV w w' 34 3 v (everyX cs).length ((everyX cs).flatMap sltC) ∧ Below w.heap.size w w' := by
 have HC := Lib.hid hc
 clear hc
 have HO := Lib.hid ho
 clear ho
 have hl2 : (slotsX cs 20).length + (slotsX cs 40).length ≤ 8000 := by have h9 := hlev; unfold everyX at h9; rw [List.length_append] at h9; exact h9
 go_enter Tryd.func34, Tryd.ntmps34
 refine wp_seq ?_
 refine wp_region_L [] (KS.start w) ?_
 refine wpL_new (fun g => .pointer (some ⟨g, 0, none⟩)) (obi := .cells (shC (.slice pc cs.length cc) (.slice po os.length co) t).toArray 32 (0, 0)) rfl rfl Tw.kf Tw.pf fun g1 Bg1 Fg1 => ?_
 refine lm (v := .slice none 0 0) rfl rfl ?_
 refine wpL_done (fun W1 hW1 => ?_)
 change Code.wp ..
 refine wp_seq ?_
 refine wp_region_V _ Tw.kr hW1 ?_
 refine vv (i := 0) (v := .agg (shC (.slice pc cs.length cc) (.slice po os.length co) t).toArray) rfl rfl rfl (yb_load (n := 13) (off := 0) rfl Tw.kr Tw.m0 Tryd.underlying32 rfl Tw.kr (by first | (simp [Value.cells]; done) | exact Nat.le_of_ble_eq_true rfl) Tw.kr) ?_
 refine vv (i := 2) (v := .agg (shC (.slice pc cs.length cc) (.slice po os.length co) t).toArray) rfl rfl rfl (yb_load (n := 13) (off := 0) rfl Tw.kr Tw.m0 Tryd.underlying32 rfl Tw.kr (by first | (simp [Value.cells]; done) | exact Nat.le_of_ble_eq_true rfl) Tw.kr) ?_
 refine wpV_c (i := 1) (OutOL w [(g1, .cells (shC (.slice pc cs.length cc) (.slice po os.length co) t).toArray 32 (0, 0))] 34 3 (slotsX cs 20).length ((slotsX cs 20).flatMap sltC)) rfl rfl Tw.kr Tw.kr Tw.kf (fun W hW => calls_o hW ((All_any cs pc cc lc os po co lo t (fun c hc => by have := ht c hc; omega) 20 W (HC.out.keep hW.1) (HO.out.keep hW.1)))) (fun v K9 hG => by obtain ⟨_, _, _, rfl⟩ := hG; exact fun p hp => List.mem_append_left _ hp) Tw.pf ?_
 rintro v2 _ ⟨Kl2, O2, N2, rfl⟩
 obtain dj3_0 : Dk g1 Kl2 := Tw.djf N2
 refine wpV_c (i := 3) (OutRL sltC w ((g1, .cells (shC (.slice pc cs.length cc) (.slice po os.length co) t).toArray 32 (0, 0)) :: Kl2) (slotsX cs 40)) rfl rfl Tw.kr Tw.kr Tw.kf (fun W hW => calls_r hW ((All_any cs pc cc lc os po co lo t (fun c hc => by have := ht c hc; omega) 40 W (HC.out.keep hW.1) (HO.out.keep hW.1)))) (fun v K9 hG => hG.sub) Tw.pf ?_
 rintro _ _ ⟨p4, c4, Kl4, rfl, n4, R4, N4, rfl⟩
 obtain ⟨dj5_0, dj5_1⟩ : Dk g1 Kl4 ∧ Dj Kl2 Kl4 := Tw.djf N4
 refine wpV_g (AppO w 34 3 ((g1, .cells (shC (.slice pc cs.length cc) (.slice po os.length co) t).toArray 32 (0, 0)) :: Kl4) (((slotsX cs 20).length) + (slotsX cs 40).length) (((slotsX cs 20).flatMap sltC) ++ ((slotsX cs 40).flatMap sltC))) (i := 4) rfl rfl rfl Tw.kr rfl (app_any el_slt (m := (slotsX cs 40).length) (news := ((slotsX cs 40).flatMap sltC)) (y := .slice p4 ((slotsX cs 40).length) c4) rfl Tw.kr Tw.kr (src_rl (c := c4) Tryd.underlying35 sltC_len sltC_one (by decide) (R4.mono (fun p hp => by simp only [List.mem_cons, List.mem_append, List.nil_append, List.not_mem_nil, or_assoc, or_false, false_or, hp, true_or, or_true])) rfl) O2 Tw.sc (fun p hp => ⟨by simp only [List.mem_cons, List.mem_append, List.nil_append, List.not_mem_nil, or_assoc, or_false, false_or] at hp ⊢ <;> grind, (show Dj ((g1, .cells (shC (.slice pc cs.length cc) (.slice po os.length co) t).toArray 32 (0, 0)) :: Kl4) Kl2 from Tw.djt) p hp⟩) Tw.om Tw.om) Tw.pf ?_
 rintro v6 K9 ⟨Kl6, O6, N6, rfl⟩
 obtain ⟨dj7_0, dj7_1⟩ : Dk g1 Kl6 ∧ Dj Kl4 Kl6 := Tw.djf N6
 refine (show wpV _ _ _ _ _ _ _ _ ((g1, .cells (shC (.slice pc cs.length cc) (.slice po os.length co) t).toArray 32 (0, 0)) :: (Kl4 ++ Kl6)) from ?_)
 refine vm (i := 5) (v := v6) rfl rfl rfl ?_
 refine wpV_done Tw.kr (fun W2 hW2 => ?_) _
 change Code.wp ..
 refine wp_ret ?_
 try simp only [inBlock_ret, then_ret]
 refine bodyPost_ret (v := v6) ?_ rfl ?_
 · kernel_rfl
 · exact ⟨_, rfl, (by have h9 := O6; have e9 : slotsX cs 20 ++ slotsX cs 40 = everyX cs := rfl; rw [← List.flatMap_append, e9] at h9; have e8 : (slotsX cs 20).length + (slotsX cs 40).length = (everyX cs).length := (by unfold everyX; rw [List.length_append]); rw [e8] at h9; exact h9.out (fun p hp => by simp only [List.mem_cons, List.mem_append, List.nil_append, List.not_mem_nil, or_assoc, or_false, false_or, hp, true_or, or_true]) hW2), hW2.1⟩
end Go.Proofs.YtlinjngifacmoaaDoor
namespace Go.Proofs.YtlinjngifacmoaaDoor
open Go Go.RowKit Tw
set_option maxRecDepth 100000 in
set_option maxHeartbeats 40000000 in
theorem SlotBack_any (l : List Pl) (p : Option Addr) (c : Nat) (n : Nat) (hl : l.length ≤ 9223372036854775807) (hcap : l.length ≤ c) (hok : ∀ y ∈ l, plOk y) (hn : n ≤ 4294967295) (ba ro : Nat) (hba : ba ≤ 255) (hro : ro ≤ 255) (w : World) (hp : SLV w p (l.flatMap plC)) (hE : Env w) : Calls Tryd.prog 5 #[.slice p l.length c, .int .u32 ((n : Nat) : Int), .int .u8 ((ba : Nat) : Int), .int .u8 ((ro : Nat) : Int)] w fun e w' => e = .returned (.bool true) ∧ Below w.heap.size w w' := by
 have HE := Lib.hid hE
 clear hE
 have HP := Lib.hid hp
 clear hp
 obtain ⟨cs, hcs⟩ : ∃ cs, builtC l = cs := ⟨_, rfl⟩
 have hg : Good cs := hcs ▸ built_good l
 obtain ⟨h0, h12⟩ : 0 < cs.length ∧ cs.length ≤ 12 := hcs ▸ built_len l
 have hsm : ∀ c ∈ cs, c.bay ≤ 4 ∧ c.row ≤ 4 := hcs ▸ built_small l
 obtain ⟨dd, hdd⟩ : ∃ d, ba % 36 = d := ⟨_, rfl⟩
 obtain ⟨ee, hee⟩ : ∃ e, ro % 27 = e := ⟨_, rfl⟩
 have hd35 : dd ≤ 35 := by omega
 have he26 : ee ≤ 26 := by omega
 go_enter Tryd.func5, Tryd.ntmps5
 refine wp_seq ?_
 refine wp_region_L [] (KS.start w) ?_
 refine lm (v := .bool false) rfl rfl ?_
 refine wpL_done (fun W1 hW1 => ?_)
 change Code.wp ..
 refine wp_seq ?_
 refine wp_region_L _ hW1 ?_
 refine lm (v := .slice p l.length c) rfl rfl ?_
 refine lm (v := .int .u32 ((n : Nat) : Int)) rfl rfl ?_
 refine wpL_c (f := 33) (args := #[.slice p l.length c, .int .u32 ((n : Nat) : Int)]) (ShipW w cs (builtO n)) rfl Tw.kr Tw.kf (fun W hW => (by have h9 := Built_own l p c n hl hcap hok hn (RL.base HP.out) W hW; rw [hcs] at h9; exact h9)) Tw.pf ?_
 rintro _ _ ⟨pcS, ccS, osS, poS, coS, Kc, Ko, Tr, rfl, hOc, hOo, hRB, dj1, dj2, dj3, hMS, rfl⟩
 have hoS : GoodO (osS.map fun o => (o.bay, o.rows)) := by rw [hMS]; exact builtO_sub n
 have loS : osS.length ≤ 10 := by have h8 := congrArg List.length hMS; rw [List.length_map] at h8; have h9 := builtO_len n; omega
 refine wpL_new (fun g => .pointer (some ⟨g, 0, none⟩)) (obi := .cells (shC (.slice none 0 0) (.slice none 0 0) tl0).toArray 32 (0, 0)) rfl rfl Tw.kf Tw.pf fun g1 Bg1 Fg1 => ?_
 obtain ⟨dj2_0, dj2_1, dj2_2⟩ : Dk g1 Kc ∧ Dk g1 Ko ∧ Dk g1 Tr := Tw.dkf Fg1
 refine wpL_s ((g1, .cells (shC (.slice pcS cs.length ccS) (.slice poS osS.length coS) tl0).toArray 32 (0, 0)) :: (Kc ++ (Ko ++ Tr))) rfl rfl (st_row (off := 0) (v := .agg (shC (.slice pcS cs.length ccS) (.slice poS osS.length coS) tl0).toArray) rfl Tw.kr Tw.kr Tw.m0 Bg1 Tw.kr (by first | (simp [Value.cells]; done) | exact Nat.le_of_ble_eq_true rfl) (fun v hv => shC_one v hv) Tw.kr (List.forall_mem_cons.2 ⟨.inl rfl, (fun p hp => .inr ⟨(.tail _ hp), ((show Dk g1 (Kc ++ (Ko ++ Tr)) from Tw.djt) _ hp)⟩)⟩)) ?_
 refine wpL_done (fun W2 hW2 => ?_)
 change Code.wp ..
 refine wp_seq ?_
 refine wp_seq ?_
 refine wp_region_L _ hW2 ?_
 refine lm (v := .pointer (some ⟨g1, 0, none⟩)) rfl rfl ?_
 refine lv (v := .slice pcS cs.length ccS) rfl rfl (yb_cell (off := 0) rfl Tw.kr Tw.m0 Tryd.underlying22 rfl Tw.kr) ?_
 refine lp (v := .int .i64 ((cs.length : Nat) : Int)) rfl rfl (run_lenL (p := pcS) (cap := ccS) (n := cs.length) rfl Tryd.underlying22 Tw.kr) ?_
 refine lm (v := .int .i64 0) rfl rfl ?_
 refine wpL_done (fun W3 hW3 => ?_)
 change Code.wp ..
 refine wp_block ?_
 go_loopw [26] (fun u26 wr => ∃ (k : Nat) (Kx : List (Nat × Obj)), (k ≤ cs.length) ∧ (OwnL w 65 12 (.slice pcS cs.length ccS) cs.length (((cs.take k).map (mvC ((dd : Nat) : Int) ((ee : Nat) : Int)) ++ cs.drop k).flatMap colC) Kx) ∧ (Dk g1 Kx) ∧ (Dj Ko Kx) ∧ (Dj Tr Kx) ∧ u26 = .int .i64 ((k : Nat) : Int) ∧ KS w ((g1, .cells (shC (.slice pcS cs.length ccS) (.slice poS osS.length coS) tl0).toArray 32 (0, 0)) :: (Ko ++ (Tr ++ Kx))) wr) (fun u26 _ => cs.length - (intOf u26).toNat)
 case atStart => exact ⟨0, Kc, (Nat.zero_le _), hOc, (show Dk g1 Kc from Tw.djt), (show Dj Ko Kc from Tw.djt), (show Dj Tr Kc from Tw.djt), rfl, (hW3.sub (fun p hp => by first | exact hp | (simp only [List.mem_cons, List.mem_append, List.nil_append, List.not_mem_nil, or_assoc, or_false, false_or] at hp ⊢ <;> grind)))⟩
 case round =>
   obtain ⟨k, Kx, hk, hOx, dh3_0, dh3_1, dh3_2, rfl, hL4⟩ := hrel
   refine wp_seq ?_
   refine wp_region_L _ hL4 ?_
   refine lp (v := .bool (decide (k < cs.length))) rfl rfl (run_bin rfl (vx := (.int .i64 ((k : Nat) : Int))) (vy := (.int .i64 ((cs.length : Nat) : Int))) Tw.kr Tw.kr fun w => bn_lss rfl w) ?_
   refine wpL_done (fun W5 hW5 => ?_)
   change Code.wp ..
   refine wp_seq ?_
   cases hd1 : (decide (k < cs.length)) with
   | false =>
     have h1 : ¬ (k < cs.length) := of_decide_eq_false hd1
     clear hd1
     refine wp_cond_false rfl ?_
     refine wp_exit ?_
     change Code.wp ..
     refine wp_seq ?_
     refine wp_seq ?_
     refine wp_region_L _ hW5 ?_
     refine lm (v := .pointer (some ⟨g1, 1, none⟩)) rfl rfl ?_
     refine lv (v := .slice poS osS.length coS) rfl rfl (yb_cell (off := 1) rfl Tw.kr Tw.m0 Tryd.underlying23 rfl Tw.kr) ?_
     refine lp (v := .int .i64 ((osS.length : Nat) : Int)) rfl rfl (run_lenL (p := poS) (cap := coS) (n := osS.length) rfl Tryd.underlying23 Tw.kr) ?_
     refine lm (v := .int .i64 0) rfl rfl ?_
     refine wpL_done (fun W6 hW6 => ?_)
     change Code.wp ..
     refine wp_block ?_
     go_loopw [57] (fun u57 wr => ∃ (i : Nat) (Ky Tq : List (Nat × Obj)), (i ≤ osS.length) ∧ (OwnL w 67 2 (.slice poS osS.length coS) osS.length (((osS.take i).map (mvO ((dd : Nat) : Int) ((ee : Nat) : Int)) ++ osS.drop i).flatMap covC) Ky) ∧ (RB w Tq ((osS.take i).map (mvO ((dd : Nat) : Int) ((ee : Nat) : Int)) ++ osS.drop i)) ∧ (Dk g1 Ky) ∧ (Dj Kx Ky) ∧ (Dk g1 Tq) ∧ (Dj Kx Tq) ∧ (Dj Ky Tq) ∧ u57 = .int .i64 ((i : Nat) : Int) ∧ KS w ((g1, .cells (shC (.slice pcS cs.length ccS) (.slice poS osS.length coS) tl0).toArray 32 (0, 0)) :: (Kx ++ (Ky ++ Tq))) wr) (fun u57 _ => osS.length - (intOf u57).toNat)
     case atStart => exact ⟨0, Ko, Tr, (Nat.zero_le _), hOo, hRB, (show Dk g1 Ko from Tw.djt), (show Dj Kx Ko from Tw.djt), (show Dk g1 Tr from Tw.djt), (show Dj Kx Tr from Tw.djt), (show Dj Ko Tr from Tw.djt), rfl, (hW6.sub (fun p hp => by first | exact hp | (simp only [List.mem_cons, List.mem_append, List.nil_append, List.not_mem_nil, or_assoc, or_false, false_or] at hp ⊢ <;> grind)))⟩
     case round =>
       obtain ⟨i, Ky, Tq, hi, hOy, hRq, dh4_0, dh4_1, dh4_2, dh4_3, dh4_4, rfl, hL7⟩ := hrel
       refine wp_seq ?_
       refine wp_region_L _ hL7 ?_
       refine lp (v := .bool (decide (i < osS.length))) rfl rfl (run_bin rfl (vx := (.int .i64 ((i : Nat) : Int))) (vy := (.int .i64 ((osS.length : Nat) : Int))) Tw.kr Tw.kr fun w => bn_lss rfl w) ?_
       refine wpL_done (fun W8 hW8 => ?_)
       change Code.wp ..
       refine wp_seq ?_
       cases hd2 : (decide (i < osS.length)) with
       | false =>
         have h2 : ¬ (i < osS.length) := of_decide_eq_false hd2
         clear hd2
         refine wp_cond_false rfl ?_
         refine wp_exit ?_
         change Code.wp ..
         refine wp_seq ?_
         rw [mix_end (mvC ((dd : Nat) : Int) ((ee : Nat) : Int)) h1] at hOx
         rw [mix_end (mvO ((dd : Nat) : Int) ((ee : Nat) : Int)) h2] at hOy hRq
         have hgX := good_mv (d := ((dd : Nat) : Int)) (e := ((ee : Nat) : Int)) hg hsm Tw.om Tw.om
         have hrX := right_mv (d := ((dd : Nat) : Int)) (e := ((ee : Nat) : Int)) hg hsm h0 h12 hoS Tw.om Tw.om
         have hXl : (cs.map (mvC ((dd : Nat) : Int) ((ee : Nat) : Int))).length = cs.length := List.length_map _
         have hYl : (osS.map (mvO ((dd : Nat) : Int) ((ee : Nat) : Int))).length = osS.length := List.length_map _
         have hlX : ∀ o ∈ osS.map (mvO ((dd : Nat) : Int) ((ee : Nat) : Int)), o.rows.length ≤ 4000000000 := fun o ho => by
           obtain ⟨b, hb, rfl⟩ := List.mem_map.1 ho
           have h9 := (cov_small hoS hb).2.1
           show (b.rows.map _).length ≤ _
           rw [List.length_map]; omega
         obtain ⟨X, hX⟩ : ∃ X, cs.map (mvC ((dd : Nat) : Int) ((ee : Nat) : Int)) = X := ⟨_, rfl⟩
         obtain ⟨Y, hY⟩ : ∃ Y, osS.map (mvO ((dd : Nat) : Int) ((ee : Nat) : Int)) = Y := ⟨_, rfl⟩
         rw [hX] at hOx hgX hrX hXl
         rw [hY] at hOy hRq hrX hYl hlX
         have hbZ := hW8.1
         have HG9 := Lib.hid (show CapR W8 g1 (shC (.slice pcS X.length ccS) (.slice poS Y.length coS) tl0) from by rw [hXl, hYl]; exact CapR.of hW8 Tw.m0)
         have HCZ := Lib.hid (show SLV W8 pcS (X.flatMap colC) from own_slv hOx (hW8.sub (fun p hp => by simp only [List.mem_cons, List.mem_append, List.nil_append, List.not_mem_nil, or_assoc, or_false, false_or, hp, true_or, or_true])))
         have HOZ := Lib.hid (show SLV W8 poS (Y.flatMap covC) from own_slv hOy (hW8.sub (fun p hp => by simp only [List.mem_cons, List.mem_append, List.nil_append, List.not_mem_nil, or_assoc, or_false, false_or, hp, true_or, or_true])))
         have HRZ := Lib.hid (hRq.rw W8 (hW8.sub (fun p hp => by simp only [List.mem_cons, List.mem_append, List.nil_append, List.not_mem_nil, or_assoc, or_false, false_or, hp, true_or, or_true])))
         have hctX : ∀ c ∈ X, c.tiers ≤ 10 := fun c hc => by have := colx_in (hgX.1 c hc).1; omega
         have hle := every_len hgX Tw.om
         have hep := every_pos hgX Tw.om
         refine wp_region_L (W0 := W8) [] ((KS.start W8)) ?_
         refine wpL_new (fun g => .map (some g)) (obi := .map #[] 0) rfl rfl Tw.kf Tw.pf fun g5 Bg5 Fg5 => ?_
         refine lm (v := .map (some g5)) rfl rfl ?_
         refine wpL_done (fun W9 hW9 => ?_)
         change Code.wp ..
         refine wp_seq ?_
         refine wp_seq ?_
         refine wp_region_L (W0 := W8) [(g5, .map #[] 0)] (hW9) ?_
         refine lv (v := .agg (shC (.slice pcS X.length ccS) (.slice poS Y.length coS) tl0).toArray) rfl rfl (yb_rs (off := 0) (cs := _) rfl Tw.kr (fun W hW => ((HG9.out).keep hW.1).2) Tryd.underlying32 rfl Tw.kr) ?_
         refine wpL_c (f := 34) (args := #[.agg (shC (.slice pcS X.length ccS) (.slice poS Y.length coS) tl0).toArray]) (OutRL sltC W8 [(g5, .map #[] 0)] (everyX X)) rfl Tw.kr Tw.kf (fun W hW => calls_r hW ((every_any X pcS ccS Tw.om Y poS coS Tw.om tl0 hctX hle W ((RL.base HCZ.out) _ (hW.sub (fun _ h => by cases h))) ((RL.base HOZ.out) _ (hW.sub (fun _ h => by cases h)))))) Tw.pf ?_
         rintro _ _ ⟨p6, c6, Kl6, rfl, n6, R6, N6, rfl⟩
         obtain dj7_0 : Dk g5 Kl6 := Tw.djf N6
         refine lp (v := .int .i64 ((((everyX X).length) : Nat) : Int)) rfl rfl (run_lenL (p := p6) (cap := c6) (n := (everyX X).length) rfl Tryd.underlying35 Tw.kr) ?_
         refine lm (v := .int .i64 0) rfl rfl ?_
         refine wpL_done (fun W10 hW10 => ?_)
         change Code.wp ..
         refine wp_block ?_
         go_loopw [102] (fun u102 wr => ∃ (k3 : Nat) (es : Array MapEntry) (cl : Nat) (ML : List (List UInt8 × Value)), (k3 ≤ (everyX X).length) ∧ (MapS es ML) ∧ (McN ML (((everyX X).take k3).map (nameX X))) ∧ (ML.length = k3) ∧ u102 = .int .i64 ((k3 : Nat) : Int) ∧ KS W8 ((g5, .map es cl) :: Kl6) wr) (fun u102 _ => (everyX X).length - (intOf u102).toNat)
         case atStart => exact ⟨0, #[], 0, [], (Nat.zero_le _), MapS.nil, McN.nil, rfl, rfl, (hW10.sub (fun p hp => by first | exact hp | (simp only [List.mem_cons, List.mem_append, List.nil_append, List.not_mem_nil, or_assoc, or_false, false_or] at hp ⊢ <;> grind)))⟩
         case round =>
           obtain ⟨k3, es, cl, ML, hk3, hMs, hMc, hMl, rfl, hL11⟩ := hrel
           refine wp_seq ?_
           refine wp_region_L (W0 := W8) ((g5, .map es cl) :: Kl6) (hL11) ?_
           refine lp (v := .bool (decide (k3 < ((everyX X).length)))) rfl rfl (run_bin rfl (vx := (.int .i64 ((k3 : Nat) : Int))) (vy := (.int .i64 ((((everyX X).length) : Nat) : Int))) Tw.kr Tw.kr fun w => bn_lss rfl w) ?_
           refine wpL_done (fun W12 hW12 => ?_)
           change Code.wp ..
           refine wp_seq ?_
           cases hd3 : (decide (k3 < ((everyX X).length))) with
           | false =>
             have h3 : ¬ (k3 < ((everyX X).length)) := of_decide_eq_false hd3
             clear hd3
             refine wp_cond_false rfl ?_
             refine wp_exit ?_
             change Code.wp ..
             refine wp_seq ?_
             refine wp_region_L (W0 := W8) ((g5, .map es cl) :: Kl6) (hW12) ?_
             refine lm (v := .map (some g5)) rfl rfl ?_
             refine lv (v := .int .i64 ((es.size : Nat) : Int)) rfl rfl (yb_lenM rfl Tryd.underlying68 Tw.kr Tw.m0) ?_
             refine lp (v := .bool true) rfl rfl (run_bin rfl (vx := (.int .i64 ((es.size : Nat) : Int))) (vy := (.int .i64 ((0 : Nat) : Int))) Tw.kr Tw.kr fun w => bn_gtr (decide_eq_true (by have h9 := maps_size hMs; omega)) w) ?_
             refine lm (v := .bool true) rfl rfl ?_
             refine lv (v := .bool true) rfl rfl (yb_call (f := 11) (args := #[]) Tw.kf fun W hW => awake8_any W (HE.out.keep (hbZ.trans (hW.1.mono hbZ.size)))) ?_
             refine lm (v := .bool true) rfl rfl ?_
             refine lm (v := .bool true) rfl rfl ?_
             refine wpL_done (fun W13 hW13 => ?_)
             change Code.wp ..
             refine wp_ret ?_
             try simp only [inBlock_ret, then_ret]
             refine bodyPost_ret (v := .bool true) ?_ rfl ?_
             · kernel_rfl
             · exact ⟨rfl, (hbZ.trans (hW13.1.mono hbZ.size))⟩
           | true =>
             have h3 : k3 < ((everyX X).length) := of_decide_eq_true hd3
             clear hd3
             refine wp_cond_true rfl ?_
             refine wp_skip ?_
             change Code.wp ..
             refine wp_seq ?_
             refine wp_block ?_
             refine wp_seq ?_
             refine wp_region_L (W0 := W8) ((g5, .map es cl) :: Kl6) (hW12) ?_
             obtain ⟨y8, g8_, f8_, hy8, hp8, hc8⟩ := RL.at R6 sltC_len (by decide) (hW12.sub (fun p hp => by simp only [List.mem_cons, List.mem_append, List.nil_append, List.not_mem_nil, or_assoc, or_false, false_or, hp, true_or, or_true])) (k := k3) Tw.om
             have his := every_slot hy8
             obtain ⟨nm, hnm⟩ : ∃ nm, nameX X y8 = nm := ⟨_, rfl⟩
             have hnm7 : nm.length = 7 := by rw [← hnm]; exact nameX_len _ _
             have hnn : nameR X Y y8 = (nm, 0) := by rw [← hnm]; exact name_some hrX his
             have hff : findR X Y nm = (y8, 0) := by rw [← hnm]; exact find_name hrX his
             have hnew : nm ∉ ((everyX X).take k3).map (nameX X) := by rw [← hnm]; exact name_new hrX hy8
             have hnx := map_snoc (nameX X) hy8
             rw [hnm] at hnx
             have hMc2 := McN.put (y := nm) hMc
             refine lp (v := .pointer (some ⟨g8_, f8_ + k3 * 3, none⟩)) rfl rfl (run_idxQ (p := p6) (cap := c6) (n := (everyX X).length) (j := .i64) (k := k3) (sz := 3) rfl Tryd.underlying35 Tw.kr Tw.kr hp8 Tw.kr Tw.om) ?_
             refine lv (v := .agg (sltC y8).toArray) rfl rfl (yb_rs (off := f8_ + k3 * 3) (cs := sltC y8) rfl Tw.kr (fun W hW => hc8 W (hW.sub (fun p hp => by simp only [List.mem_cons, List.mem_append, List.nil_append, List.not_mem_nil, or_assoc, or_false, false_or, hp, true_or, or_true]))) Tryd.underlying34 rfl Tw.kr) ?_
             refine wpL_new (fun g => .pointer (some ⟨g, 0, none⟩)) (obi := .cells #[.int .i64 0, .int .i64 0, .int .u8 0] 34 (0, 0)) rfl rfl Tw.kf Tw.pf fun g9 Bg9 Fg9 => ?_
             obtain ⟨dj10_0, dj10_1⟩ : g5 ≠ g9 ∧ Dk g9 Kl6 := Tw.dkf Fg9
             refine wpL_s ((g9, .cells (sltC y8).toArray 34 (0, 0)) :: (g5, .map es cl) :: Kl6) rfl rfl (st_row (off := 0) (v := .agg (sltC y8).toArray) rfl Tw.kr Tw.kr Tw.m0 Bg9 Tw.kr (by first | (simp [Value.cells]; done) | exact Nat.le_of_ble_eq_true rfl) (fun v hv => sltC_one y8 v hv) Tw.kr (List.forall_mem_cons.2 ⟨.inl rfl, (List.forall_mem_cons.2 ⟨.inr ⟨Tw.m1, Tw.nee⟩, (fun p hp => .inr ⟨(.tail _ (.tail _ hp)), ((show Dk g9 Kl6 from Tw.djt) _ hp)⟩)⟩)⟩)) ?_
             refine wpL_done (fun W14 hW14 => ?_)
             change Code.wp ..
             refine wp_seq ?_
             refine wp_region_L (W0 := W8) ((g9, .cells (sltC y8).toArray 34 (0, 0)) :: (g5, .map es cl) :: Kl6) (hW14) ?_
             refine lv (v := .agg (shC (.slice pcS X.length ccS) (.slice poS Y.length coS) tl0).toArray) rfl rfl (yb_rs (off := 0) (cs := _) rfl Tw.kr (fun W hW => ((HG9.out).keep hW.1).2) Tryd.underlying32 rfl Tw.kr) ?_
             refine lv (v := .agg (sltC y8).toArray) rfl rfl (yb_load (n := 3) (off := 0) rfl Tw.kr Tw.m0 Tryd.underlying34 rfl Tw.kr (by first | (simp [Value.cells]; done) | exact Nat.le_of_ble_eq_true rfl) Tw.kr) ?_
             refine lv (v := .tuple #[strV nm, .int .i64 0]) rfl rfl (yb_call (f := 29) (args := #[.agg (shC (.slice pcS X.length ccS) (.slice poS Y.length coS) tl0).toArray, .agg (sltC y8).toArray]) Tw.kf fun W hW => (by have h9 := SName_any X pcS ccS Tw.om Y poS coS Tw.om tl0 y8.col y8.tier y8.half W ((RL.base HCZ.out) _ (hW.sub (fun _ h => by cases h))) ((RL.base HOZ.out) _ (hW.sub (fun _ h => by cases h))) (HRZ.out.keep hW.1) hlX ((good_plugs hgX).1 W) (good_plugs hgX).2 (HE.out.keep (hbZ.trans (hW.1.mono hbZ.size))); rw [hnn] at h9; exact h9)) ?_
             refine lm (v := .tuple #[strV nm, .int .i64 0]) rfl rfl ?_
             refine lm (v := strV nm) rfl rfl ?_
             refine lm (v := .int .i64 0) rfl rfl ?_
             refine lm (v := strV nm) rfl rfl ?_
             refine lm (v := .int .i64 0) rfl rfl ?_
             refine wpL_done (fun W15 hW15 => ?_)
             change Code.wp ..
             refine wp_seq ?_
             refine wp_region_L (W0 := W8) ((g9, .cells (sltC y8).toArray 34 (0, 0)) :: (g5, .map es cl) :: Kl6) (hW15) ?_
             refine lv (v := .agg (shC (.slice pcS X.length ccS) (.slice poS Y.length coS) tl0).toArray) rfl rfl (yb_rs (off := 0) (cs := _) rfl Tw.kr (fun W hW => ((HG9.out).keep hW.1).2) Tryd.underlying32 rfl Tw.kr) ?_
             refine lm (v := strV nm) rfl rfl ?_
             refine lv (v := .tuple #[.agg (sltC y8).toArray, .int .i64 0]) rfl rfl (yb_call (f := 31) (args := #[.agg (shC (.slice pcS X.length ccS) (.slice poS Y.length coS) tl0).toArray, strV nm]) Tw.kf fun W hW => (by have h9 := SFind_any X pcS ccS Tw.om Y poS coS Tw.om tl0 nm Tw.om W ((RL.base HCZ.out) _ (hW.sub (fun _ h => by cases h))) ((RL.base HOZ.out) _ (hW.sub (fun _ h => by cases h))) (HRZ.out.keep hW.1) hlX ((good_plugs hgX).1 W) (good_plugs hgX).2 (HE.out.keep (hbZ.trans (hW.1.mono hbZ.size))); rw [hff] at h9; exact h9)) ?_
             refine lm (v := .tuple #[.agg (sltC y8).toArray, .int .i64 0]) rfl rfl ?_
             refine lm (v := .agg (sltC y8).toArray) rfl rfl ?_
             refine lm (v := .int .i64 0) rfl rfl ?_
             refine wpL_new (fun g => .pointer (some ⟨g, 0, none⟩)) (obi := .cells #[.int .i64 0, .int .i64 0, .int .u8 0] 34 (0, 0)) rfl rfl Tw.kf Tw.pf fun g11 Bg11 Fg11 => ?_
             obtain ⟨dj12_0, dj12_1, dj12_2⟩ : g9 ≠ g11 ∧ g5 ≠ g11 ∧ Dk g11 Kl6 := Tw.dkf Fg11
             refine wpL_s ((g11, .cells (sltC y8).toArray 34 (0, 0)) :: (g9, .cells (sltC y8).toArray 34 (0, 0)) :: (g5, .map es cl) :: Kl6) rfl rfl (st_row (off := 0) (v := .agg (sltC y8).toArray) rfl Tw.kr Tw.kr Tw.m0 Bg11 Tw.kr (by first | (simp [Value.cells]; done) | exact Nat.le_of_ble_eq_true rfl) (fun v hv => sltC_one y8 v hv) Tw.kr (List.forall_mem_cons.2 ⟨.inl rfl, (List.forall_mem_cons.2 ⟨.inr ⟨Tw.m1, Tw.nee⟩, (List.forall_mem_cons.2 ⟨.inr ⟨Tw.m2, Tw.nee⟩, (fun p hp => .inr ⟨(.tail _ (.tail _ (.tail _ hp))), ((show Dk g11 Kl6 from Tw.djt) _ hp)⟩)⟩)⟩)⟩)) ?_
             refine lm (v := .int .i64 0) rfl rfl ?_
             refine wpL_done (fun W16 hW16 => ?_)
             change Code.wp ..
             refine wp_seq ?_
             refine wp_seq ?_
             refine wp_region_L (W0 := W8) ((g11, .cells (sltC y8).toArray 34 (0, 0)) :: (g9, .cells (sltC y8).toArray 34 (0, 0)) :: (g5, .map es cl) :: Kl6) (hW16) ?_
             refine lm (v := .int .i64 0) rfl rfl ?_
             refine lm (v := .bool false) rfl rfl ?_
             refine lm (v := .bool false) rfl rfl ?_
             refine lm (v := .int .i64 0) rfl rfl ?_
             refine lm (v := .bool false) rfl rfl ?_
             refine lm (v := .bool false) rfl rfl ?_
             refine lm (v := .bool false) rfl rfl ?_
             refine lv (v := .agg (sltC y8).toArray) rfl rfl (yb_load (n := 3) (off := 0) rfl Tw.kr Tw.m0 Tryd.underlying34 rfl Tw.kr (by first | (simp [Value.cells]; done) | exact Nat.le_of_ble_eq_true rfl) Tw.kr) ?_
             refine lv (v := .agg (sltC y8).toArray) rfl rfl (yb_load (n := 3) (off := 0) rfl Tw.kr Tw.m1 Tryd.underlying34 rfl Tw.kr (by first | (simp [Value.cells]; done) | exact Nat.le_of_ble_eq_true rfl) Tw.kr) ?_
             refine lp (v := .bool false) rfl rfl (run_bin rfl (vx := .agg (sltC y8).toArray) (vy := .agg (sltC y8).toArray) Tw.kr Tw.kr fun w => (ne_slt w).trans (by rw [eqS_refl]; rfl)) ?_
             refine lm (v := .bool false) rfl rfl ?_
             refine lm (v := .bool false) rfl rfl ?_
             refine lm (v := strV nm) rfl rfl ?_
             refine lp (v := .int .i64 7) rfl rfl (fun w => (run_lenS (l := nm) rfl Tryd.underlying9 Tw.kr w).trans (by rw [hnm7] <;> rfl)) ?_
             refine lm (v := .bool false) rfl rfl ?_
             refine lm (v := .bool false) rfl rfl ?_
             refine wpL_done (fun W17 hW17 => ?_)
             change Code.wp ..
             refine wp_cond_false rfl ?_
             refine wp_skip ?_
             change Code.wp ..
             refine wp_seq ?_
             refine wp_region_L (W0 := W8) ((g11, .cells (sltC y8).toArray 34 (0, 0)) :: (g9, .cells (sltC y8).toArray 34 (0, 0)) :: (g5, .map es cl) :: Kl6) (hW17) ?_
             refine lm (v := .map (some g5)) rfl rfl ?_
             refine lm (v := strV nm) rfl rfl ?_
             refine lv (v := .int .i64 0) rfl rfl (yb_lookup (k := nm) (z := .int .i64 0) (v := .int .i64 0) rfl Tw.kr Tw.kr Tw.m2 Tryd.underlying68 Tryd.underlying9 Tw.kf hMs (by rw [McN.no hMc hnew]; rfl)) ?_
             refine lm (v := .int .i64 1) rfl rfl ?_
             refine wpL_s ((g11, .cells (sltC y8).toArray 34 (0, 0)) :: (g9, .cells (sltC y8).toArray 34 (0, 0)) :: (g5, .map (mput es cl nm (.int .i64 1)).1 (mput es cl nm (.int .i64 1)).2) :: Kl6) rfl rfl (st_map (k := nm) (v := .int .i64 1) (L := ML) rfl Tw.kr Tw.kr Tw.kr Tw.m2 Bg5 Tryd.underlying68 Tryd.underlying9 hMs (List.forall_mem_cons.2 ⟨.inr ⟨Tw.m0, Tw.nee⟩, (List.forall_mem_cons.2 ⟨.inr ⟨Tw.m1, Tw.nee⟩, (List.forall_mem_cons.2 ⟨.inl rfl, (fun p hp => .inr ⟨(.tail _ (.tail _ (.tail _ hp))), ((show Dk g5 Kl6 from Tw.djt) _ hp)⟩)⟩)⟩)⟩)) ?_
             refine wpL_done (fun W18 hW18 => ?_)
             change Code.wp ..
             refine wp_seq ?_
             refine wp_region_L (W0 := W8) ((g11, .cells (sltC y8).toArray 34 (0, 0)) :: (g9, .cells (sltC y8).toArray 34 (0, 0)) :: (g5, .map (mput es cl nm (.int .i64 1)).1 (mput es cl nm (.int .i64 1)).2) :: Kl6) (hW18) ?_
             refine lm (v := .map (some g5)) rfl rfl ?_
             refine lm (v := strV nm) rfl rfl ?_
             refine lv (v := .int .i64 1) rfl rfl (yb_lookup (k := nm) (z := .int .i64 0) (v := .int .i64 1) rfl Tw.kr Tw.kr Tw.m2 Tryd.underlying68 Tryd.underlying9 Tw.kf (MapS.put hMs cl nm (.int .i64 1)) (by rw [McN.yes hMc2]; rfl)) ?_
             refine lm (v := .bool false) rfl rfl ?_
             refine wpL_done (fun W19 hW19 => ?_)
             change Code.wp ..
             refine wp_cond_false rfl ?_
             refine wp_skip ?_
             change Code.wp ..
             refine wp_region_L (W0 := W8) ((g11, .cells (sltC y8).toArray 34 (0, 0)) :: (g9, .cells (sltC y8).toArray 34 (0, 0)) :: (g5, .map (mput es cl nm (.int .i64 1)).1 (mput es cl nm (.int .i64 1)).2) :: Kl6) (hW19) ?_
             refine lp (v := .int .i64 (((k3 + 1) : Nat) : Int)) rfl rfl (run_bin rfl (vx := (.int .i64 ((k3 : Nat) : Int))) (vy := (.int .i64 ((1 : Nat) : Int))) Tw.kr Tw.kr fun w => bn_add (z := (k3 + 1)) rfl (wr_i64 Tw.om) w) ?_
             refine lm (v := .int .i64 (((k3 + 1) : Nat) : Int)) rfl rfl ?_
             refine wpL_done (fun W20 hW20 => ?_)
             go_roundw
             case rel =>
               repeat apply Exists.intro
               exact ⟨⟨k3 + 1, (mput es cl nm (.int .i64 1)).1, (mput es cl nm (.int .i64 1)).2, (mputL ML nm (.int .i64 1)), Tw.om, (MapS.put hMs cl nm (.int .i64 1)), (by rw [hnx]; exact hMc2), (by rw [mput_len (McN.no hMc hnew)]; omega), rfl, (hW20.sub (fun p hp => by first | exact hp | (simp only [List.mem_cons, List.mem_append, List.nil_append, List.not_mem_nil, or_assoc, or_false, false_or] at hp ⊢ <;> grind)))⟩, rfl⟩
             case measure => (show (everyX X).length - (intOf (.int .i64 (((k3 + 1) : Nat) : Int))).toNat < (everyX X).length - (intOf (.int .i64 ((k3 : Nat) : Int))).toNat); simp only [intOf]; omega
       | true =>
         have h2 : i < osS.length := of_decide_eq_true hd2
         clear hd2
         refine wp_cond_true rfl ?_
         refine wp_skip ?_
         change Code.wp ..
         refine wp_seq ?_
         refine wp_block ?_
         refine wp_seq ?_
         refine wp_region_L _ hW8 ?_
         refine lm (v := .int .i64 ((i : Nat) : Int)) rfl rfl ?_
         refine lm (v := .int .i64 ((i : Nat) : Int)) rfl rfl ?_
         refine wpL_done (fun W21 hW21 => ?_)
         change Code.wp ..
         refine wp_seq ?_
         obtain ⟨gO, capO, curO, hvO, hBO, hRO, rfl⟩ := own_blkR hOy Tw.om
         obtain ⟨hpO, _, hcO⟩ := Value.slice.inj hvO
         obtain ⟨yo, hyo⟩ : ∃ y, osS[i]? = some y := ⟨_, List.getElem?_eq_getElem Tw.om⟩
         have hxo := mix_at (mvO ((dd : Nat) : Int) ((ee : Nat) : Int)) hyo
         obtain ⟨⟨hb0, hb4⟩, hr3, hrr⟩ := cov_small hoS (List.mem_of_getElem? hyo)
         have gn13 : gO ≠ g1 := by simpa only [dk_cons, dk_nil, and_true] using (show Dk g1 [(gO, .cells curO 67 (0, 0))] from by assumption)
         have gn14 : Dk gO Kx := by simpa only [dj_cons_l, dj_nil_l, and_true] using (show Dj [(gO, .cells curO 67 (0, 0))] Kx from by first | assumption | exact Dj.symm (by assumption))
         have gn15 : Dk gO Tq := by simpa only [dj_cons_l, dj_nil_l, and_true] using (show Dj [(gO, .cells curO 67 (0, 0))] Tq from by first | assumption | exact Dj.symm (by assumption))
         have hKO := hW21.sub (K' := ((g1, .cells (shC (.slice pcS cs.length ccS) (.slice poS osS.length coS) tl0).toArray 32 (0, 0)) :: (gO, .cells curO 67 (0, 0)) :: (Kx ++ Tq))) (fun p hp => by simp only [List.mem_cons, List.mem_append, List.not_mem_nil, or_false] at hp ⊢; grind)
         refine wp_region_L ((g1, .cells (shC (.slice pcS cs.length ccS) (.slice poS osS.length coS) tl0).toArray 32 (0, 0)) :: (gO, .cells curO 67 (0, 0)) :: (Kx ++ Tq)) (hKO) ?_
         refine lm (v := .pointer (some ⟨g1, 1, none⟩)) rfl rfl ?_
         refine lv (v := .slice poS osS.length coS) rfl rfl (yb_cell (off := 1) rfl Tw.kr Tw.m0 Tryd.underlying23 rfl Tw.kr) ?_
         refine lm (v := .int .i64 ((i : Nat) : Int)) rfl rfl ?_
         refine lp (v := .pointer (some ⟨gO, 0 + i * 2, none⟩)) rfl rfl (run_idxL (j := .i64) (n := osS.length) (cap := coS) (b := gO) (off := 0) (k := i) (sz := 2) rfl Tryd.underlying23 Tw.kr ((show _ = Value.slice poS osS.length coS from by kernel_rfl).trans (by rw [hpO])) Tw.kr Tw.om) ?_
         refine lm (v := .pointer (some ⟨gO, 0 + i * 2, none⟩)) rfl rfl ?_
         refine lv (v := .int .i64 yo.bay) rfl rfl (yb_cell (off := 0 + i * 2 + 0) (v := .int .i64 yo.bay) rfl Tw.kr Tw.m1 Tryd.underlying3 rfl (RowR.get (rown_row hRO) covC_len hxo 0 _ rfl)) ?_
         refine lm (v := .int .u8 ((ba : Nat) : Int)) rfl rfl ?_
         refine lp (v := .int .i64 ((ba : Nat) : Int)) rfl rfl (run_conv rfl (vx := (.int .u8 ((ba : Nat) : Int))) Tw.kr fun w => cv_int Tryd.underlying5 Tryd.underlying3 (wr_i64 Tw.om) w) ?_
         refine lp (v := .int .i64 ((dd : Nat) : Int)) rfl rfl (run_bin rfl (vx := (.int .i64 ((ba : Nat) : Int))) (vy := (.int .i64 ((36 : Nat) : Int))) Tw.kr Tw.kr fun w => bn_rem (z := dd) hdd Tw.om w) ?_
         refine lp (v := .int .i64 (yo.bay + ((dd : Nat) : Int))) rfl rfl (run_bin rfl (vx := (.int .i64 yo.bay)) (vy := (.int .i64 ((dd : Nat) : Int))) Tw.kr Tw.kr fun w => bi_add (z := (yo.bay + ((dd : Nat) : Int))) rfl (wi_i64 Tw.om) w) ?_
         refine lp (v := .pointer (some ⟨gO, 0 + i * 2, none⟩)) rfl rfl (run_idxL (j := .i64) (n := osS.length) (cap := coS) (b := gO) (off := 0) (k := i) (sz := 2) rfl Tryd.underlying23 Tw.kr ((show _ = Value.slice poS osS.length coS from by kernel_rfl).trans (by rw [hpO])) Tw.kr Tw.om) ?_
         refine lm (v := .pointer (some ⟨gO, 0 + i * 2, none⟩)) rfl rfl ?_
         have hR16 := rown_set (b' := (mvO ((dd : Nat) : Int) ((ee : Nat) : Int) yo)) (j := 0) (u := .int .i64 (yo.bay + ((dd : Nat) : Int))) hRO covC_len hxo (by decide) (by simp [covC, mvO])
         have hx16 : (((osS.take i).map (mvO ((dd : Nat) : Int) ((ee : Nat) : Int)) ++ osS.drop i).set i (mvO ((dd : Nat) : Int) ((ee : Nat) : Int) yo))[i]? = some (mvO ((dd : Nat) : Int) ((ee : Nat) : Int) yo) := List.getElem?_set_self (by first | (rw [mix_len]; omega) | (rw [List.length_set, mix_len]; omega))
         refine wpL_s ((g1, .cells (shC (.slice pcS cs.length ccS) (.slice poS osS.length coS) tl0).toArray 32 (0, 0)) :: (gO, .cells (curO.setIfInBounds (0 + i * 2 + 0) (.int .i64 (yo.bay + ((dd : Nat) : Int)))) 67 (0, 0)) :: (Kx ++ Tq)) rfl rfl (st_at (off := 0 + i * 2 + 0) (v := .int .i64 (yo.bay + ((dd : Nat) : Int))) rfl Tw.kr Tw.kr Tw.m1 hBO Tw.kr rfl rfl (by rw [(hRO).1]; have h9 := (hRO).2.2.1; omega) (.inr rfl) (List.forall_mem_cons.2 ⟨.inr ⟨Tw.m0, Tw.nee⟩, (List.forall_mem_cons.2 ⟨.inl rfl, (fun p hp => .inr ⟨(.tail _ (.tail _ hp)), ((show Dk gO (Kx ++ Tq) from Tw.djt) _ hp)⟩)⟩)⟩)) ?_
         refine wpL_done (fun W22 hW22 => ?_)
         change Code.wp ..
         refine wp_seq ?_
         refine wp_region_L _ hW22 ?_
         refine lm (v := .pointer (some ⟨g1, 1, none⟩)) rfl rfl ?_
         refine lv (v := .slice poS osS.length coS) rfl rfl (yb_cell (off := 1) rfl Tw.kr Tw.m0 Tryd.underlying23 rfl Tw.kr) ?_
         refine lm (v := .int .i64 ((i : Nat) : Int)) rfl rfl ?_
         refine lp (v := .pointer (some ⟨gO, 0 + i * 2, none⟩)) rfl rfl (run_idxL (j := .i64) (n := osS.length) (cap := coS) (b := gO) (off := 0) (k := i) (sz := 2) rfl Tryd.underlying23 Tw.kr ((show _ = Value.slice poS osS.length coS from by kernel_rfl).trans (by rw [hpO])) Tw.kr Tw.om) ?_
         refine lm (v := .pointer (some ⟨gO, 0 + i * 2 + 1, none⟩)) rfl rfl ?_
         refine lv (v := .slice yo.rp yo.rows.length yo.rc) rfl rfl (yb_cell (off := 0 + i * 2 + 1) (v := .slice yo.rp yo.rows.length yo.rc) rfl Tw.kr Tw.m1 Tryd.underlying63 rfl (RowR.get (rown_row hR16) covC_len hx16 1 _ (by simp [covC, mvO]))) ?_
         refine lp (v := .int .i64 ((yo.rows.length : Nat) : Int)) rfl rfl (run_lenL (p := yo.rp) (cap := yo.rc) (n := yo.rows.length) rfl Tryd.underlying63 Tw.kr) ?_
         refine lm (v := .int .i64 0) rfl rfl ?_
         refine wpL_done (fun W23 hW23 => ?_)
         change Code.wp ..
         refine wp_block ?_
         obtain ⟨gR, Tf, hpR, hBR, hsR, hkR, hcR⟩ := hRq.open hxo
         rw [show yo.rows = ((yo.rows.take 0).map (fun x => x + ((ee : Nat) : Int)) ++ yo.rows.drop 0) from rfl] at hsR
         obtain ⟨gn17, tn17⟩ : gR ≠ g1 ∧ Dk g1 Tf := by simpa only [dk_cons] using dk_subr (show Dk g1 Tq from by assumption) hsR
         obtain ⟨gn18, tn18⟩ : gR ≠ gO ∧ Dk gO Tf := by simpa only [dk_cons] using dk_subr (show Dk gO Tq from by assumption) hsR
         obtain ⟨gn19, tn19⟩ : Dk gR Kx ∧ Dj Kx Tf := by simpa only [dj_cons_r] using dj_subr (show Dj Kx Tq from by first | assumption | exact Dj.symm (by assumption)) hsR
         have hKR := hW23.sub (K' := ((g1, .cells (shC (.slice pcS cs.length ccS) (.slice poS osS.length coS) tl0).toArray 32 (0, 0)) :: (gO, .cells (curO.setIfInBounds (0 + i * 2 + 0) (.int .i64 (yo.bay + ((dd : Nat) : Int)))) 67 (0, 0)) :: (gR, .cells (((yo.rows.take 0).map (fun x => x + ((ee : Nat) : Int)) ++ yo.rows.drop 0).flatMap inC).toArray 3 (0, 0)) :: (Kx ++ Tf))) (fun p hp => by have h9 := hsR p; simp only [List.mem_cons, List.mem_append] at hp h9 ⊢; grind)
         go_loopw [79] (fun u79 wr => ∃ (m : Nat), (m ≤ yo.rows.length) ∧ u79 = .int .i64 ((m : Nat) : Int) ∧ KS w ((g1, .cells (shC (.slice pcS cs.length ccS) (.slice poS osS.length coS) tl0).toArray 32 (0, 0)) :: (gO, .cells (curO.setIfInBounds (0 + i * 2 + 0) (.int .i64 (yo.bay + ((dd : Nat) : Int)))) 67 (0, 0)) :: (gR, .cells (((yo.rows.take m).map (fun x => x + ((ee : Nat) : Int)) ++ yo.rows.drop m).flatMap inC).toArray 3 (0, 0)) :: (Kx ++ Tf)) wr) (fun u79 _ => yo.rows.length - (intOf u79).toNat)
         case atStart => exact ⟨0, (Nat.zero_le _), rfl, (hKR.sub (fun p hp => by first | exact hp | (simp only [List.mem_cons, List.mem_append, List.nil_append, List.not_mem_nil, or_assoc, or_false, false_or] at hp ⊢ <;> grind)))⟩
         case round =>
           obtain ⟨m, hm, rfl, hL24⟩ := hrel
           refine wp_seq ?_
           refine wp_region_L _ hL24 ?_
           refine lp (v := .bool (decide (m < yo.rows.length))) rfl rfl (run_bin rfl (vx := (.int .i64 ((m : Nat) : Int))) (vy := (.int .i64 ((yo.rows.length : Nat) : Int))) Tw.kr Tw.kr fun w => bn_lss rfl w) ?_
           refine wpL_done (fun W25 hW25 => ?_)
           change Code.wp ..
           refine wp_seq ?_
           cases hd4 : (decide (m < yo.rows.length)) with
           | false =>
             have h4 : ¬ (m < yo.rows.length) := of_decide_eq_false hd4
             clear hd4
             refine wp_cond_false rfl ?_
             refine wp_exit ?_
             change Code.wp ..
             refine wp_region_L _ hW25 ?_
             refine lp (v := .int .i64 (((i + 1) : Nat) : Int)) rfl rfl (run_bin rfl (vx := (.int .i64 ((i : Nat) : Int))) (vy := (.int .i64 ((1 : Nat) : Int))) Tw.kr Tw.kr fun w => bn_add (z := (i + 1)) rfl (wr_i64 Tw.om) w) ?_
             refine lm (v := .int .i64 (((i + 1) : Nat) : Int)) rfl rfl ?_
             refine wpL_done (fun W26 hW26 => ?_)
             go_roundw
             case rel =>
               repeat apply Exists.intro
               exact ⟨⟨i + 1, [(gO, .cells (curO.setIfInBounds (0 + i * 2 + 0) (.int .i64 (yo.bay + ((dd : Nat) : Int)))) 67 (0, 0))], ((gR, .cells (((yo.rows.take m).map (fun x => x + ((ee : Nat) : Int)) ++ yo.rows.drop m).flatMap inC).toArray 3 (0, 0)) :: Tf), Tw.om, (by have h9 := hR16; rw [mix_set (mvO ((dd : Nat) : Int) ((ee : Nat) : Int)) hyo] at h9; exact .inr ⟨gO, capO, _, hvO, hBO, h9, rfl⟩), (by have h9 := hcR (mvO ((dd : Nat) : Int) ((ee : Nat) : Int) yo) rfl; rw [mix_set (mvO ((dd : Nat) : Int) ((ee : Nat) : Int)) hyo] at h9; rw [mix_end (fun x => x + ((ee : Nat) : Int)) h4]; exact h9), (show Dk g1 [(gO, .cells (curO.setIfInBounds (0 + i * 2 + 0) (.int .i64 (yo.bay + ((dd : Nat) : Int)))) 67 (0, 0))] from Tw.djt), (show Dj Kx [(gO, .cells (curO.setIfInBounds (0 + i * 2 + 0) (.int .i64 (yo.bay + ((dd : Nat) : Int)))) 67 (0, 0))] from Tw.djt), (show Dk g1 ((gR, .cells (((yo.rows.take m).map (fun x => x + ((ee : Nat) : Int)) ++ yo.rows.drop m).flatMap inC).toArray 3 (0, 0)) :: Tf) from Tw.djt), (show Dj Kx ((gR, .cells (((yo.rows.take m).map (fun x => x + ((ee : Nat) : Int)) ++ yo.rows.drop m).flatMap inC).toArray 3 (0, 0)) :: Tf) from Tw.djt), (show Dj [(gO, .cells (curO.setIfInBounds (0 + i * 2 + 0) (.int .i64 (yo.bay + ((dd : Nat) : Int)))) 67 (0, 0))] ((gR, .cells (((yo.rows.take m).map (fun x => x + ((ee : Nat) : Int)) ++ yo.rows.drop m).flatMap inC).toArray 3 (0, 0)) :: Tf) from Tw.djt), rfl, (hW26.sub (fun p hp => by first | exact hp | (simp only [List.mem_cons, List.mem_append, List.nil_append, List.not_mem_nil, or_assoc, or_false, false_or] at hp ⊢ <;> grind)))⟩, rfl⟩
             case measure => (show osS.length - (intOf (.int .i64 (((i + 1) : Nat) : Int))).toNat < osS.length - (intOf (.int .i64 ((i : Nat) : Int))).toNat); simp only [intOf]; omega
           | true =>
             have h4 : m < yo.rows.length := of_decide_eq_true hd4
             clear hd4
             refine wp_cond_true rfl ?_
             refine wp_skip ?_
             change Code.wp ..
             refine wp_seq ?_
             refine wp_block ?_
             refine wp_seq ?_
             refine wp_region_L _ hW25 ?_
             refine lm (v := .int .i64 ((m : Nat) : Int)) rfl rfl ?_
             refine lm (v := .int .i64 ((m : Nat) : Int)) rfl rfl ?_
             refine wpL_done (fun W27 hW27 => ?_)
             change Code.wp ..
             obtain ⟨ri, hri⟩ : ∃ r, yo.rows[m]? = some r := ⟨_, List.getElem?_eq_getElem Tw.om⟩
             have hrm := mix_at (fun x => x + ((ee : Nat) : Int)) hri
             have hrb := hrr ri (List.mem_of_getElem? hri)
             refine wp_region_L _ hW27 ?_
             refine lm (v := .pointer (some ⟨g1, 1, none⟩)) rfl rfl ?_
             refine lv (v := .slice poS osS.length coS) rfl rfl (yb_cell (off := 1) rfl Tw.kr Tw.m0 Tryd.underlying23 rfl Tw.kr) ?_
             refine lm (v := .int .i64 ((i : Nat) : Int)) rfl rfl ?_
             refine lp (v := .pointer (some ⟨gO, 0 + i * 2, none⟩)) rfl rfl (run_idxL (j := .i64) (n := osS.length) (cap := coS) (b := gO) (off := 0) (k := i) (sz := 2) rfl Tryd.underlying23 Tw.kr ((show _ = Value.slice poS osS.length coS from by kernel_rfl).trans (by rw [hpO])) Tw.kr Tw.om) ?_
             refine lm (v := .pointer (some ⟨gO, 0 + i * 2 + 1, none⟩)) rfl rfl ?_
             refine lv (v := .slice yo.rp yo.rows.length yo.rc) rfl rfl (yb_cell (off := 0 + i * 2 + 1) (v := .slice yo.rp yo.rows.length yo.rc) rfl Tw.kr Tw.m1 Tryd.underlying63 rfl (RowR.get (rown_row hR16) covC_len hx16 1 _ (by simp [covC, mvO]))) ?_
             refine lm (v := .int .i64 ((m : Nat) : Int)) rfl rfl ?_
             refine lp (v := .pointer (some ⟨gR, 0 + m * 1, none⟩)) rfl rfl (run_idxL (j := .i64) (n := yo.rows.length) (cap := yo.rc) (b := gR) (off := 0) (k := m) (sz := 1) rfl Tryd.underlying63 Tw.kr ((show _ = Value.slice yo.rp yo.rows.length yo.rc from by kernel_rfl).trans (by rw [hpR])) Tw.kr Tw.om) ?_
             refine lv (v := .int .i64 ri) rfl rfl (yb_cell (off := 0 + m * 1) (v := .int .i64 ri) rfl Tw.kr Tw.m2 Tryd.underlying3 rfl (rows_at hrm)) ?_
             refine lm (v := .int .u8 ((ro : Nat) : Int)) rfl rfl ?_
             refine lp (v := .int .i64 ((ro : Nat) : Int)) rfl rfl (run_conv rfl (vx := (.int .u8 ((ro : Nat) : Int))) Tw.kr fun w => cv_int Tryd.underlying5 Tryd.underlying3 (wr_i64 Tw.om) w) ?_
             refine lp (v := .int .i64 ((ee : Nat) : Int)) rfl rfl (run_bin rfl (vx := (.int .i64 ((ro : Nat) : Int))) (vy := (.int .i64 ((27 : Nat) : Int))) Tw.kr Tw.kr fun w => bn_rem (z := ee) hee Tw.om w) ?_
             refine lp (v := .int .i64 (ri + ((ee : Nat) : Int))) rfl rfl (run_bin rfl (vx := (.int .i64 ri)) (vy := (.int .i64 ((ee : Nat) : Int))) Tw.kr Tw.kr fun w => bi_add (z := (ri + ((ee : Nat) : Int))) rfl (wi_i64 Tw.om) w) ?_
             refine lp (v := .pointer (some ⟨gR, 0 + m * 1, none⟩)) rfl rfl (run_idxL (j := .i64) (n := yo.rows.length) (cap := yo.rc) (b := gR) (off := 0) (k := m) (sz := 1) rfl Tryd.underlying63 Tw.kr ((show _ = Value.slice yo.rp yo.rows.length yo.rc from by kernel_rfl).trans (by rw [hpR])) Tw.kr Tw.om) ?_
             have hupd : ((gR, Obj.cells (((yo.rows.take (m + 1)).map (fun x => x + ((ee : Nat) : Int)) ++ yo.rows.drop (m + 1)).flatMap inC).toArray 3 (0, 0)) : Nat × Obj) = (gR, Obj.cells ((((yo.rows.take m).map (fun x => x + ((ee : Nat) : Int)) ++ yo.rows.drop m).flatMap inC).toArray.setIfInBounds (0 + m * 1) (.int .i64 (ri + ((ee : Nat) : Int)))) 3 (0, 0)) := by rw [rows_set hrm, mix_set (fun x => x + ((ee : Nat) : Int)) hri]
             refine wpL_s ((g1, .cells (shC (.slice pcS cs.length ccS) (.slice poS osS.length coS) tl0).toArray 32 (0, 0)) :: (gO, .cells (curO.setIfInBounds (0 + i * 2 + 0) (.int .i64 (yo.bay + ((dd : Nat) : Int)))) 67 (0, 0)) :: (gR, .cells (((yo.rows.take (m + 1)).map (fun x => x + ((ee : Nat) : Int)) ++ yo.rows.drop (m + 1)).flatMap inC).toArray 3 (0, 0)) :: (Kx ++ Tf)) rfl rfl (st_at (off := 0 + m * 1) (v := .int .i64 (ri + ((ee : Nat) : Int))) rfl Tw.kr Tw.kr Tw.m2 hBR Tw.kr rfl rfl (by rw [rows_size, mix_len]; omega) (.inr rfl) (List.forall_mem_cons.2 ⟨.inr ⟨Tw.m0, Tw.nee⟩, (List.forall_mem_cons.2 ⟨.inr ⟨Tw.m1, Tw.nee⟩, (List.forall_mem_cons.2 ⟨.inl hupd, (fun p hp => .inr ⟨(.tail _ (.tail _ (.tail _ hp))), ((show Dk gR (Kx ++ Tf) from Tw.djt) _ hp)⟩)⟩)⟩)⟩)) ?_
             refine wpL_done (fun W28 hW28 => ?_)
             change Code.wp ..
             refine wp_region_L _ hW28 ?_
             refine lp (v := .int .i64 (((m + 1) : Nat) : Int)) rfl rfl (run_bin rfl (vx := (.int .i64 ((m : Nat) : Int))) (vy := (.int .i64 ((1 : Nat) : Int))) Tw.kr Tw.kr fun w => bn_add (z := (m + 1)) rfl (wr_i64 Tw.om) w) ?_
             refine lm (v := .int .i64 (((m + 1) : Nat) : Int)) rfl rfl ?_
             refine wpL_done (fun W29 hW29 => ?_)
             go_roundw
             case rel =>
               repeat apply Exists.intro
               exact ⟨⟨m + 1, Tw.om, rfl, (hW29.sub (fun p hp => by first | exact hp | (simp only [List.mem_cons, List.mem_append, List.nil_append, List.not_mem_nil, or_assoc, or_false, false_or] at hp ⊢ <;> grind)))⟩, rfl⟩
             case measure => (show yo.rows.length - (intOf (.int .i64 (((m + 1) : Nat) : Int))).toNat < yo.rows.length - (intOf (.int .i64 ((m : Nat) : Int))).toNat); simp only [intOf]; omega
   | true =>
     have h1 : k < cs.length := of_decide_eq_true hd1
     clear hd1
     refine wp_cond_true rfl ?_
     refine wp_skip ?_
     change Code.wp ..
     refine wp_seq ?_
     refine wp_block ?_
     refine wp_seq ?_
     refine wp_region_L _ hW5 ?_
     refine lm (v := .int .i64 ((k : Nat) : Int)) rfl rfl ?_
     refine lm (v := .int .i64 ((k : Nat) : Int)) rfl rfl ?_
     refine wpL_done (fun W30 hW30 => ?_)
     change Code.wp ..
     refine wp_seq ?_
     obtain ⟨gC, capC, curC, hvC, hBC, hRC, rfl⟩ := own_blkR hOx Tw.om
     obtain ⟨hpC, _, hcC⟩ := Value.slice.inj hvC
     obtain ⟨yc, hyc⟩ : ∃ y, cs[k]? = some y := ⟨_, List.getElem?_eq_getElem Tw.om⟩
     have hxc := mix_at (mvC ((dd : Nat) : Int) ((ee : Nat) : Int)) hyc
     have hsy := hsm yc (List.mem_of_getElem? hyc)
     have hcx := colx_in (hg.1 yc (List.mem_of_getElem? hyc)).1
     have gn20 : gC ≠ g1 := by simpa only [dk_cons, dk_nil, and_true] using (show Dk g1 [(gC, .cells curC 65 (0, 0))] from by assumption)
     have gn21 : Dk gC Ko := by simpa only [dj_cons_l, dj_nil_l, and_true] using (show Dj [(gC, .cells curC 65 (0, 0))] Ko from by first | assumption | exact Dj.symm (by assumption))
     have gn22 : Dk gC Tr := by simpa only [dj_cons_l, dj_nil_l, and_true] using (show Dj [(gC, .cells curC 65 (0, 0))] Tr from by first | assumption | exact Dj.symm (by assumption))
     have hKC := hW30.sub (K' := ((g1, .cells (shC (.slice pcS cs.length ccS) (.slice poS osS.length coS) tl0).toArray 32 (0, 0)) :: (gC, .cells curC 65 (0, 0)) :: (Ko ++ Tr))) (fun p hp => by simp only [List.mem_cons, List.mem_append, List.not_mem_nil, or_false] at hp ⊢; grind)
     refine wp_region_L ((g1, .cells (shC (.slice pcS cs.length ccS) (.slice poS osS.length coS) tl0).toArray 32 (0, 0)) :: (gC, .cells curC 65 (0, 0)) :: (Ko ++ Tr)) (hKC) ?_
     refine lm (v := .pointer (some ⟨g1, 0, none⟩)) rfl rfl ?_
     refine lv (v := .slice pcS cs.length ccS) rfl rfl (yb_cell (off := 0) rfl Tw.kr Tw.m0 Tryd.underlying22 rfl Tw.kr) ?_
     refine lm (v := .int .i64 ((k : Nat) : Int)) rfl rfl ?_
     refine lp (v := .pointer (some ⟨gC, 0 + k * 12, none⟩)) rfl rfl (run_idxL (j := .i64) (n := cs.length) (cap := ccS) (b := gC) (off := 0) (k := k) (sz := 12) rfl Tryd.underlying22 Tw.kr ((show _ = Value.slice pcS cs.length ccS from by kernel_rfl).trans (by rw [hpC])) Tw.kr Tw.om) ?_
     refine lm (v := .pointer (some ⟨gC, 0 + k * 12, none⟩)) rfl rfl ?_
     refine lv (v := .int .i64 yc.bay) rfl rfl (yb_cell (off := 0 + k * 12 + 0) (v := .int .i64 yc.bay) rfl Tw.kr Tw.m1 Tryd.underlying3 rfl (RowR.get (rown_row hRC) colC_len hxc 0 _ rfl)) ?_
     refine lm (v := .int .u8 ((ba : Nat) : Int)) rfl rfl ?_
     refine lp (v := .int .i64 ((ba : Nat) : Int)) rfl rfl (run_conv rfl (vx := (.int .u8 ((ba : Nat) : Int))) Tw.kr fun w => cv_int Tryd.underlying5 Tryd.underlying3 (wr_i64 Tw.om) w) ?_
     refine lp (v := .int .i64 ((dd : Nat) : Int)) rfl rfl (run_bin rfl (vx := (.int .i64 ((ba : Nat) : Int))) (vy := (.int .i64 ((36 : Nat) : Int))) Tw.kr Tw.kr fun w => bn_rem (z := dd) hdd Tw.om w) ?_
     refine lp (v := .int .i64 (yc.bay + ((dd : Nat) : Int))) rfl rfl (run_bin rfl (vx := (.int .i64 yc.bay)) (vy := (.int .i64 ((dd : Nat) : Int))) Tw.kr Tw.kr fun w => bi_add (z := (yc.bay + ((dd : Nat) : Int))) rfl (wi_i64 Tw.om) w) ?_
     refine lp (v := .pointer (some ⟨gC, 0 + k * 12, none⟩)) rfl rfl (run_idxL (j := .i64) (n := cs.length) (cap := ccS) (b := gC) (off := 0) (k := k) (sz := 12) rfl Tryd.underlying22 Tw.kr ((show _ = Value.slice pcS cs.length ccS from by kernel_rfl).trans (by rw [hpC])) Tw.kr Tw.om) ?_
     refine lm (v := .pointer (some ⟨gC, 0 + k * 12, none⟩)) rfl rfl ?_
     have hR23 := rown_set (b' := ({ yc with bay := (yc.bay + ((dd : Nat) : Int)) } : Col)) (j := 0) (u := .int .i64 (yc.bay + ((dd : Nat) : Int))) hRC colC_len hxc (by decide) rfl
     have hx23 : (((cs.take k).map (mvC ((dd : Nat) : Int) ((ee : Nat) : Int)) ++ cs.drop k).set k ({ yc with bay := (yc.bay + ((dd : Nat) : Int)) } : Col))[k]? = some ({ yc with bay := (yc.bay + ((dd : Nat) : Int)) } : Col) := List.getElem?_set_self (by first | (rw [mix_len]; omega) | (rw [List.length_set, mix_len]; omega))
     refine wpL_s ((g1, .cells (shC (.slice pcS cs.length ccS) (.slice poS osS.length coS) tl0).toArray 32 (0, 0)) :: (gC, .cells (curC.setIfInBounds (0 + k * 12 + 0) (.int .i64 (yc.bay + ((dd : Nat) : Int)))) 65 (0, 0)) :: (Ko ++ Tr)) rfl rfl (st_at (off := 0 + k * 12 + 0) (v := .int .i64 (yc.bay + ((dd : Nat) : Int))) rfl Tw.kr Tw.kr Tw.m1 hBC Tw.kr rfl rfl (by rw [(hRC).1]; have h9 := (hRC).2.2.1; omega) (.inr rfl) (List.forall_mem_cons.2 ⟨.inr ⟨Tw.m0, Tw.nee⟩, (List.forall_mem_cons.2 ⟨.inl rfl, (fun p hp => .inr ⟨(.tail _ (.tail _ hp)), ((show Dk gC (Ko ++ Tr) from Tw.djt) _ hp)⟩)⟩)⟩)) ?_
     refine wpL_done (fun W31 hW31 => ?_)
     change Code.wp ..
     refine wp_region_L _ hW31 ?_
     refine lm (v := .pointer (some ⟨g1, 0, none⟩)) rfl rfl ?_
     refine lv (v := .slice pcS cs.length ccS) rfl rfl (yb_cell (off := 0) rfl Tw.kr Tw.m0 Tryd.underlying22 rfl Tw.kr) ?_
     refine lm (v := .int .i64 ((k : Nat) : Int)) rfl rfl ?_
     refine lp (v := .pointer (some ⟨gC, 0 + k * 12, none⟩)) rfl rfl (run_idxL (j := .i64) (n := cs.length) (cap := ccS) (b := gC) (off := 0) (k := k) (sz := 12) rfl Tryd.underlying22 Tw.kr ((show _ = Value.slice pcS cs.length ccS from by kernel_rfl).trans (by rw [hpC])) Tw.kr Tw.om) ?_
     refine lm (v := .pointer (some ⟨gC, 0 + k * 12 + 1, none⟩)) rfl rfl ?_
     refine lv (v := .int .i64 yc.row) rfl rfl (yb_cell (off := 0 + k * 12 + 1) (v := .int .i64 yc.row) rfl Tw.kr Tw.m1 Tryd.underlying3 rfl (RowR.get (rown_row hR23) colC_len hx23 1 _ rfl)) ?_
     refine lm (v := .int .u8 ((ro : Nat) : Int)) rfl rfl ?_
     refine lp (v := .int .i64 ((ro : Nat) : Int)) rfl rfl (run_conv rfl (vx := (.int .u8 ((ro : Nat) : Int))) Tw.kr fun w => cv_int Tryd.underlying5 Tryd.underlying3 (wr_i64 Tw.om) w) ?_
     refine lp (v := .int .i64 ((ee : Nat) : Int)) rfl rfl (run_bin rfl (vx := (.int .i64 ((ro : Nat) : Int))) (vy := (.int .i64 ((27 : Nat) : Int))) Tw.kr Tw.kr fun w => bn_rem (z := ee) hee Tw.om w) ?_
     refine lp (v := .int .i64 (yc.row + ((ee : Nat) : Int))) rfl rfl (run_bin rfl (vx := (.int .i64 yc.row)) (vy := (.int .i64 ((ee : Nat) : Int))) Tw.kr Tw.kr fun w => bi_add (z := (yc.row + ((ee : Nat) : Int))) rfl (wi_i64 Tw.om) w) ?_
     refine lp (v := .pointer (some ⟨gC, 0 + k * 12, none⟩)) rfl rfl (run_idxL (j := .i64) (n := cs.length) (cap := ccS) (b := gC) (off := 0) (k := k) (sz := 12) rfl Tryd.underlying22 Tw.kr ((show _ = Value.slice pcS cs.length ccS from by kernel_rfl).trans (by rw [hpC])) Tw.kr Tw.om) ?_
     refine lm (v := .pointer (some ⟨gC, 0 + k * 12 + 1, none⟩)) rfl rfl ?_
     have hR24 := rown_set (b' := (mvC ((dd : Nat) : Int) ((ee : Nat) : Int) yc)) (j := 1) (u := .int .i64 (yc.row + ((ee : Nat) : Int))) hR23 colC_len hx23 (by decide) rfl
     have hx24 : ((((cs.take k).map (mvC ((dd : Nat) : Int) ((ee : Nat) : Int)) ++ cs.drop k).set k ({ yc with bay := (yc.bay + ((dd : Nat) : Int)) } : Col)).set k (mvC ((dd : Nat) : Int) ((ee : Nat) : Int) yc))[k]? = some (mvC ((dd : Nat) : Int) ((ee : Nat) : Int) yc) := List.getElem?_set_self (by first | (rw [mix_len]; omega) | (rw [List.length_set, mix_len]; omega))
     refine wpL_s ((g1, .cells (shC (.slice pcS cs.length ccS) (.slice poS osS.length coS) tl0).toArray 32 (0, 0)) :: (gC, .cells ((curC.setIfInBounds (0 + k * 12 + 0) (.int .i64 (yc.bay + ((dd : Nat) : Int)))).setIfInBounds (0 + k * 12 + 1) (.int .i64 (yc.row + ((ee : Nat) : Int)))) 65 (0, 0)) :: (Ko ++ Tr)) rfl rfl (st_at (off := 0 + k * 12 + 1) (v := .int .i64 (yc.row + ((ee : Nat) : Int))) rfl Tw.kr Tw.kr Tw.m1 hBC Tw.kr rfl rfl (by rw [(hR23).1]; have h9 := (hR23).2.2.1; omega) (.inr rfl) (List.forall_mem_cons.2 ⟨.inr ⟨Tw.m0, Tw.nee⟩, (List.forall_mem_cons.2 ⟨.inl rfl, (fun p hp => .inr ⟨(.tail _ (.tail _ hp)), ((show Dk gC (Ko ++ Tr) from Tw.djt) _ hp)⟩)⟩)⟩)) ?_
     refine wpL_done (fun W32 hW32 => ?_)
     change Code.wp ..
     refine wp_region_L _ hW32 ?_
     refine lp (v := .int .i64 (((k + 1) : Nat) : Int)) rfl rfl (run_bin rfl (vx := (.int .i64 ((k : Nat) : Int))) (vy := (.int .i64 ((1 : Nat) : Int))) Tw.kr Tw.kr fun w => bn_add (z := (k + 1)) rfl (wr_i64 Tw.om) w) ?_
     refine lm (v := .int .i64 (((k + 1) : Nat) : Int)) rfl rfl ?_
     refine wpL_done (fun W33 hW33 => ?_)
     go_roundw
     case rel =>
       repeat apply Exists.intro
       exact ⟨⟨k + 1, [(gC, .cells ((curC.setIfInBounds (0 + k * 12 + 0) (.int .i64 (yc.bay + ((dd : Nat) : Int)))).setIfInBounds (0 + k * 12 + 1) (.int .i64 (yc.row + ((ee : Nat) : Int)))) 65 (0, 0))], Tw.om, (by have h9 := hR24; rw [List.set_set, mix_set (mvC ((dd : Nat) : Int) ((ee : Nat) : Int)) hyc] at h9; exact .inr ⟨gC, capC, _, hvC, hBC, h9, rfl⟩), (show Dk g1 [(gC, .cells ((curC.setIfInBounds (0 + k * 12 + 0) (.int .i64 (yc.bay + ((dd : Nat) : Int)))).setIfInBounds (0 + k * 12 + 1) (.int .i64 (yc.row + ((ee : Nat) : Int)))) 65 (0, 0))] from Tw.djt), (show Dj Ko [(gC, .cells ((curC.setIfInBounds (0 + k * 12 + 0) (.int .i64 (yc.bay + ((dd : Nat) : Int)))).setIfInBounds (0 + k * 12 + 1) (.int .i64 (yc.row + ((ee : Nat) : Int)))) 65 (0, 0))] from Tw.djt), (show Dj Tr [(gC, .cells ((curC.setIfInBounds (0 + k * 12 + 0) (.int .i64 (yc.bay + ((dd : Nat) : Int)))).setIfInBounds (0 + k * 12 + 1) (.int .i64 (yc.row + ((ee : Nat) : Int)))) 65 (0, 0))] from Tw.djt), rfl, (hW33.sub (fun p hp => by first | exact hp | (simp only [List.mem_cons, List.mem_append, List.nil_append, List.not_mem_nil, or_assoc, or_false, false_or] at hp ⊢ <;> grind)))⟩, rfl⟩
     case measure => (show cs.length - (intOf (.int .i64 (((k + 1) : Nat) : Int))).toNat < cs.length - (intOf (.int .i64 ((k : Nat) : Int))).toNat); simp only [intOf]; omega
end Go.Proofs.YtlinjngifacmoaaDoor
/- Places that came in. -/
namespace Go.Proofs.YtlinjngifacmoaaDoor
open Go.ChangeShapes Go.WideShapes Go.ChangeAt Go.RowKit Tw
open Go
theorem opens_pl : OpensC Tryd.prog 117 plC plOk := by
 intro H enc w base sp held fuel cs x h
 obtain ⟨hl, hf⟩ := trod_fld Tryd.underlying117 h
 have c1 : Tryd.prog.cellsOf 5 = 1 := by kernel_rfl
 have c2 : Tryd.prog.cellsOf 4 = 1 := by kernel_rfl
 have c6 : Tryd.prog.cellsOf 117 = 4 := by kernel_rfl
 rw [c6] at hl
 obtain ⟨v0, v1, v2, v3, rfl⟩ : ∃ v0 v1 v2 v3, cs = [v0, v1, v2, v3] := by
   rcases cs with _ | ⟨v0, _ | ⟨v1, _ | ⟨v2, _ | ⟨v3, _ | ⟨v4, cs⟩⟩⟩⟩⟩ <;> simp at hl
   exact ⟨v0, v1, v2, v3, rfl⟩
 have key : ∀ (i : Nat) (f : Field) (v : Value), (#[v0, v1, v2, v3] : Array Value)[i]? = some v → f.type = 5 → f.offset = i → (∃ n y, DataW.trod enc Tryd.prog w base sp held n f.type ((([v0, v1, v2, v3] : List Value).drop f.offset).take (Tryd.prog.cellsOf f.type)) = some y) → ∃ n : Nat, v = .int .u8 ((n : Nat) : Int) ∧ n ≤ 255 := by
   intro i f v hv ht ho ⟨n, y, hy⟩
   rw [ht, c1, ho] at hy
   obtain ⟨z, hz, hz1, hz2⟩ := fld_int (P := Tryd.prog) Tryd.underlying5 hy
   have hv2 : ([v0, v1, v2, v3] : List Value)[i]? = some v := by simpa using hv
   obtain ⟨hi, hvi⟩ := List.getElem?_eq_some_iff.1 hv2
   rw [List.drop_eq_getElem_cons hi, hvi] at hz
   have hz0 : v = .int .u8 z := by simpa using hz
   have m1 : IntKind.u8.min = 0 := by decide
   have m2 : IntKind.u8.max = 255 := by decide
   rw [m1] at hz1; rw [m2] at hz2
   exact ⟨z.toNat, by rw [hz0, Int.toNat_of_nonneg hz1], by omega⟩
 obtain ⟨n0, rfl, b0⟩ := key 0 _ v0 rfl rfl rfl (hf 0 _ rfl)
 obtain ⟨n1, rfl, b1⟩ := key 1 _ v1 rfl rfl rfl (hf 1 _ rfl)
 obtain ⟨n2, rfl, b2⟩ := key 2 _ v2 rfl rfl rfl (hf 2 _ rfl)
 obtain ⟨n, y, hy⟩ := hf 3 _ rfl
 obtain ⟨d, hd⟩ := fld_bool (P := Tryd.prog) Tryd.underlying4 hy
 have hd0 : v3 = .bool d := by
   have e : Tryd.prog.cellsOf 4 = 1 := c2
   have hd2 : (([.int .u8 ((n0 : Nat) : Int), .int .u8 ((n1 : Nat) : Int), .int .u8 ((n2 : Nat) : Int), v3] : List Value).drop 3).take (Tryd.prog.cellsOf 4) = [.bool d] := hd
   rw [e] at hd2
   simpa using hd2
 subst hd0
 exact ⟨⟨n0, n1, n2, d⟩, rfl, b0, b1, b2⟩
end Go.Proofs.YtlinjngifacmoaaDoor
/- SlotBack holds for every input: the program's own answer is true, wherever the listed variables are as the program's text lays them; each argument reads afterwards as it read before. -/
namespace Go.Proofs.YtlinjngifacmoaaDoor
open Go.ChangeShapes Go.WideShapes Go.ChangeAt Go.RowKit Tw
set_option maxRecDepth 100000 in
theorem slotBack_lifted (os : Os) (started : os.Started) (H : Type) (enc : TypeId × Value → H) :
   ReturnsInHanded {} Tryd.checked os 5 .any (fun w args => (Rows.slotBackSpec.pre enc Tryd.prog Tryd.f5 Rows.slotBackRow.domain false w args ∧ laidMetH Tryd.prog laidN w) ∧ sizedMet enc Tryd.prog Tryd.f5 (OpenSpec.ofChange Rows.slotBackSpec) false w args) (Rows.slotBackSpec.post enc Tryd.prog Tryd.f5 false true false false) := by
 refine handed_and_sized (C := Tryd.checked) (X := fun w => laidMetH Tryd.prog laidN w) (fun _ _ hh h => h.of_heap hh) own started Tw.kr Tryd.func5
   (ChangeSpec.witness_shaped (enc := enc) (C := Tryd.checked) (os := os) (X := fun w _ => laidMetH Tryd.prog laidN w) false (World.doorLaid Tryd.prog 1000 os) #[.slice none 0 0, .int .u32 0, .int .u8 0, .int .u8 0] 8 rfl (World.shaped_of_RefB Tw.kr Tw.kr) Tw.kr Tw.kr Tw.kr (door_met os _)) ?_
 intro W base args ds gs before hval0 hW hL hsh hsz
 have hval : ∀ (j : Nat) t v, Tryd.f5.params[j]? = some t → args[j]? = some v → Value.okWide Tryd.prog W .any base t v := hval0
 have hW2 := hW
 obtain ⟨p, q, hA0, hV, rfl, hfz, hnd⟩ := hW2
 have hA : DataW.TrodAll enc Tryd.prog W 0 (fun _ => true) true Tryd.f5.params.toList args.toList ds p := hA0
 rw [Tryd.params5] at hA hval
 obtain ⟨v0, vs0, d0, ds0, p0, q0, hargs, rfl, rfl, h0, r0⟩ := trodAll_cons hA
 obtain ⟨v1, vs1, d1, ds1, p1, q1, rfl, rfl, rfl, h1, r1⟩ := trodAll_cons r0
 obtain ⟨v2, vs2, d2, ds2, p2, q2, rfl, rfl, rfl, h2, r2⟩ := trodAll_cons r1
 obtain ⟨v3, vs3, d3, ds3, p3, q3, rfl, rfl, rfl, h3, r3⟩ := trodAll_cons r2
 obtain ⟨rfl, rfl, rfl⟩ := trodAll_nil r3
 obtain rfl : args = #[v0, v1, v2, v3] := by cases args; simp_all
 obtain ⟨rfl, rfl⟩ := trodVars_none hV
 have k0 := h0
 have lt0 : ∀ x ∈ p0, x.block < W.heap.size := by obtain ⟨m, hm⟩ := k0; exact DataW.trod_lt m _ _ _ hm
 obtain ⟨p0_, c0, l0, rfl, ok0⟩ := open_recsS (sz := 4) (by_ := 4) Tryd.underlying60 (OpensS.of opens_pl) Tw.kr Tw.om (fun _ => rfl) Tw.kr (hval 0 60 v0 rfl rfl) h0 (sized_par (j := 0) (t := 60) hsz rfl rfl)
 obtain ⟨a1, rfl, rfl, rfl, w1⟩ := open_int Tryd.underlying61 (hval 1 61 v1 rfl rfl) h1
 have rr1 : 0 ≤ a1 ∧ a1 ≤ 4294967295 := of_wf w1
 obtain ⟨n1, rfl⟩ : ∃ n : Nat, a1 = (n : Int) := ⟨a1.toNat, by omega⟩
 obtain ⟨a2, rfl, rfl, rfl, w2⟩ := open_int Tryd.underlying5 (hval 2 5 v2 rfl rfl) h2
 have rr2 : 0 ≤ a2 ∧ a2 ≤ 255 := of_wf w2
 obtain ⟨n2, rfl⟩ : ∃ n : Nat, a2 = (n : Int) := ⟨a2.toNat, by omega⟩
 obtain ⟨a3, rfl, rfl, rfl, w3⟩ := open_int Tryd.underlying5 (hval 3 5 v3 rfl rfl) h3
 have rr3 : 0 ≤ a3 ∧ a3 ≤ 255 := of_wf w3
 obtain ⟨n3, rfl⟩ : ∃ n : Nat, a3 = (n : Int) := ⟨a3.toNat, by omega⟩
 clear hA0 hval0
 refine (SlotBack_any l0 p0_ c0 n1 (Nat.le_trans ok0.1.2.2.1 (by unfold maxLen; omega)) ok0.1.2.2.2 ok0.1.2.1 Tw.om n2 n3 Tw.om Tw.om W ok0.1.1 (env_of hL)).mono fun e W' ⟨he, bel⟩ => ?_
 subst he
 exact ⟨_, rfl, _, _, _, [], _, [], hW, (trodAll_cons_mk (shut_bool Tryd.underlying4 _) trodAll_mk0), (trodAll_cons_mk (Below.trod laidOut Tw.kr (of_decide_eq_true Tw.kr) k0 bel lt0) (trodAll_cons_mk (shut_int Tryd.underlying61 w1) (trodAll_cons_mk (shut_int Tryd.underlying5 w2) (trodAll_cons_mk (shut_int Tryd.underlying5 w3) trodAll_mk0)))), rfl, bel.frame _, fun h => by cases h⟩
theorem slotBack_said : Rows.SlotBackSaid :=
 OpenClaim.holds_of_wide 5 Tryd.f5 rfl rfl rfl rfl rfl rfl rfl ⟨rfl, rfl, rfl, rfl, rfl⟩ rfl rfl rfl rfl rfl Tw.kr Tryd.func5 Tw.kr
   (of_decide_eq_true Tw.kr) (by unfold Func.isWrapper; first | (rw [if_pos (by decide +kernel)]; kernel_rfl) | (rw [if_neg (by decide +kernel)]; exact ⟨rfl, rfl⟩))
   (fun os started H enc _ => slotBack_lifted os started H enc)
theorem slotBack_proved : Rows.SlotBackCardSaid :=
 Claim7.holds_tied_plain_at .later [] [.data] true Rows.slotBackCard.stood.harness Rows.slotBackCard.stood.looks
   slotBack_said (fun _ h => by cases h) Tw.kr (fun _ h => by cases h) slotBack_row_tie rfl ⟨rfl, rfl⟩ Tw.kr rfl
   (fun f fn hf hfn => by
     obtain rfl : f = 5 := Option.some.inj ((show Tryd.prog.funcNamed "twistlock/twistlocklaw08.SlotBack" = some 5 by kernel_rfl).symm.trans hf) |>.symm
     obtain rfl : fn = Tryd.f5 := (Option.some.inj (Tryd.func5.symm.trans hfn)).symm
     exact ⟨by kernel_rfl, fun j t ht => by
       rw [Tryd.params5] at ht
       have hm : t ∈ [60, 61, 5, 5] := by simpa using Array.mem_of_getElem? ht
       have hall : ([60, 61, 5, 5].all fun u => !Tryd.prog.wantsStandIn u) = true := by kernel_rfl
       exact (show Tryd.prog.wantsStandIn t = false by simpa using List.all_eq_true.1 hall t hm)⟩)
   Tw.kr
#print axioms slotBack_proved
end Go.Proofs.YtlinjngifacmoaaDoor
