import Derived.Test.YthpooalhibedpaaTQ03
import Derived.SizedLaws
import Derived.Test.YthpooalhibedpaaRows
import Derived.WalkKit
import Derived.ProofKit
import Derived.OpenShut
import Derived.ChangeOld
import Derived.ChangeMaps5
import Derived.Handed
/- Part of the proof: U8, UA. -/
set_option linter.unusedVariables false
set_option linter.unusedSimpArgs false
set_option linter.unusedSectionVars false
/- What came in, of what has its size. Over any program. -/
namespace Tw
open Go Go.RowKit Go.Proofs.Ythpooalhibedpaa Go.ChangeShapes Go.WideShapes
section
variable {P : Program} {α : Type}
def OpensS (P : Program) (t : TypeId) (cells : α → List Value) (ok : World → α → Prop) : Prop := ∀ (H : Type) (enc : TypeId × Value → H) (w : World) (base : Nat) (sp : Nat → Bool) (held : Bool) (fuel : Nat) (cs : List Value) (x : DataW H × List MemPlace),
  DataW.trod enc P w base sp held fuel t cs = some x → (∀ n ∈ x.1.weights P t, n ≤ reachBytes) → ∃ y : α, cs = cells y ∧ ok w y
def ListS (cells : α → List Value) (ok : World → α → Prop) (b : Nat) (w : World) (p : Option Addr) (c : Nat) (l : List α) : Prop := ListOk cells ok w p c l ∧ l.length * b ≤ reachBytes
theorem OpensS.of {t : TypeId} {cells : α → List Value} {ok : World → α → Prop} (h : OpensW P t cells ok) : OpensS P t cells ok := fun H enc w base sp held fuel cs x ht _ => h H enc w base sp held fuel cs x ht
theorem weights_all {H : Type} {e : TypeId} : ∀ {l : List (DataW H)} {d : DataW H}, d ∈ l → ∀ n ∈ d.weights P e, n ∈ DataW.weightsAll P e l
  | d0 :: l, d, hd, n, hn => by
    unfold DataW.weightsAll
    rcases List.mem_cons.1 hd with rfl | hd
    · exact List.mem_append_left _ hn
    · exact List.mem_append_right _ (weights_all hd n hn)
theorem opens_listS {H : Type} {enc : TypeId × Value → H} {w : World} {base : Nat} {a : Addr} {e : TypeId} {sz n : Nat} {cells : α → List Value} {ok : World → α → Prop} {sp : Nat → Bool} {held : Bool} {elems : List (DataW H × List MemPlace)} (hE : OpensS P e cells ok) (hsz : P.cellsOf e = sz) (hw : ∀ d ∈ elems, ∀ m ∈ d.1.weights P e, m ≤ reachBytes) :
    ∀ m, m ≤ elems.length → (∀ i, i < m → (w.cells? base (a.add (i * P.cellsOf e)) (P.cellsOf e)).bind (DataW.trod enc P w base sp held n e) = elems[i]?) → ∃ l : List α, l.length = m ∧ (∀ y ∈ l, ok w y) ∧ ∀ i y, l[i]? = some y → w.cells? base (a.add (i * sz)) sz = some (cells y)
  | 0, _, _ => ⟨[], rfl, (fun _ h => by cases h), fun i y h => by simp at h⟩
  | m + 1, hm, hel => by
    obtain ⟨l, h1, h2, h3⟩ := opens_listS hE hsz hw m (by omega) (fun i hi => hel i (by omega))
    have h0 := hel m (by omega)
    rw [List.getElem?_eq_getElem (by omega)] at h0
    obtain ⟨cs, hcs, ht⟩ := Option.bind_eq_some_iff.1 h0
    obtain ⟨y, rfl, hy⟩ := hE _ _ _ _ _ _ _ _ _ ht (hw _ (List.getElem_mem _))
    rw [hsz] at hcs
    refine ⟨l ++ [y], by simp [h1], fun z hz => ?_, fun i z hz => ?_⟩
    · rcases List.mem_append.1 hz with hz | hz
      · exact h2 z hz
      · cases List.mem_singleton.1 hz; exact hy
    · rcases Nat.lt_or_ge i m with hi | hi
      · rw [List.getElem?_append_left (by omega)] at hz
        exact h3 i z hz
      · obtain ⟨hlt, _⟩ := List.getElem?_eq_some_iff.1 hz
        have hi2 : i = m := by rw [List.length_append, h1, List.length_singleton] at hlt; omega
        subst hi2
        rw [List.getElem?_append_right (by omega), h1, Nat.sub_self] at hz
        cases hz
        exact hcs
theorem trod_recsS {H : Type} {enc : TypeId × Value → H} {w : World} {base : Nat} {sp : Nat → Bool} {held : Bool} {fuel : Nat} {cs : List Value} {x : DataW H × List MemPlace} {t e : TypeId} {sz by_ : Nat} {cells : α → List Value} {ok : World → α → Prop} (ht : P.underlying t = some (.slice e)) (hE : OpensS P e cells ok) (hsz : P.cellsOf e = sz) (hz : 0 < sz) (hc : ∀ y, (cells y).length = sz) (hb_ : P.bytesOf e = by_)
    (h : DataW.trod enc P w base sp held fuel t cs = some x) (hwt : ∀ n ∈ x.1.weights P t, n ≤ reachBytes) : ∃ (p : Option Addr) (cap : Nat) (l : List α), cs = [.slice p l.length cap] ∧ ListS cells ok by_ w p cap l := by
  rcases DataW.trod_slice ht h with ⟨rfl, _⟩ | ⟨a, len, cap, elems, rest, n, _, rfl, hx, hb, hl, hm, hlen, hel, _, _⟩
  · exact ⟨none, 0, [], rfl, ⟨.inl rfl, (fun _ h => by cases h), by simp, by simp⟩, by simp⟩
  · subst hx
    simp only [DataW.weights, ht, List.length_map, List.mem_cons, List.mem_append] at hwt
    have hw1 : ∀ d ∈ elems, ∀ m ∈ d.1.weights P e, m ≤ reachBytes := fun d hd m hm => hwt m (.inr (.inl (weights_all (List.mem_map_of_mem hd) m hm)))
    have hw2 := hwt _ (.inl rfl)
    obtain ⟨l, h1, h2, h3⟩ := opens_listS hE hsz hw1 len (by omega) hel
    refine ⟨some a, cap, l, by rw [h1], ⟨?_, h2, by omega, by omega⟩, ?_⟩
    · rcases Nat.eq_zero_or_pos len with h0 | h0
      · left; rw [List.length_eq_zero_iff.1 (h1.trans h0)]; rfl
      · obtain ⟨b, off, spot⟩ := a
        have hcell : ∀ i y, l[i]? = some y → ∀ j u, (cells y)[j]? = some u → w.cell? ((⟨b, off, spot⟩ : Addr).add (i * sz) |>.add j) = some u := by
          intro i y hy j u hu
          obtain ⟨_, h4, h5⟩ := World.cells?_some (h3 i y hy)
          obtain ⟨hj, _⟩ := List.getElem?_eq_some_iff.1 hu
          rw [hc] at hj
          rw [h5 j hj]; exact hu
        have h00 : l[0]? = some (l[0]'(by omega)) := List.getElem?_eq_getElem _
        have hspot : spot = none := by
          have hu : (cells (l[0]'(by omega)))[0]? = some ((cells (l[0]'(by omega)))[0]'(by rw [hc]; exact hz)) := List.getElem?_eq_getElem _
          have := World.cell?_spot (hcell 0 _ h00 0 _ hu)
          unfold Addr.add at this
          simp only at this
          split at this <;> simp_all
        subst hspot
        have hadd : ∀ (m j : Nat), ((⟨b, off, none⟩ : Addr).add m).add j = ⟨b, off + (m + j), none⟩ := fun m j => by rw [addr_add, addr_add, Nat.add_assoc]
        refine .inr ⟨b, off, rfl, ?_, fun i u hu => ?_⟩
        · have hu : (cells (l[0]'(by omega)))[0]? = some ((cells (l[0]'(by omega)))[0]'(by rw [hc]; exact hz)) := List.getElem?_eq_getElem _
          have := World.block_lt_of_cell? _ _ (hcell 0 _ h00 0 _ hu)
          rw [hadd] at this
          exact this
        · obtain ⟨y, hy1, hy2⟩ := flat_at hc hu
          have := hcell _ y hy1 _ u hy2
          rw [hadd, Nat.mul_comm, Nat.div_add_mod] at this
          exact this
    · rw [hb_, hlen] at hw2
      rw [h1]
      exact Nat.le_trans (Nat.mul_le_mul_right _ (Nat.le_add_right _ _)) hw2
theorem trod_fldS {H : Type} {enc : TypeId × Value → H} {w : World} {base : Nat} {sp : Nat → Bool} {held : Bool} {fuel : Nat} {t : TypeId} {cs : List Value} {x : DataW H × List MemPlace} {fs : Array Field} (ht : P.underlying t = some (.struct fs)) (h : DataW.trod enc P w base sp held fuel t cs = some x) (hwt : ∀ n ∈ x.1.weights P t, n ≤ reachBytes) :
    cs.length = P.cellsOf t ∧ ∀ (i : Nat) (f : Field), fs[i]? = some f → ∃ n y, DataW.trod enc P w base sp held n f.type ((cs.drop f.offset).take (P.cellsOf f.type)) = some y ∧ ∀ m ∈ y.1.weights P f.type, m ≤ reachBytes := by
  obtain ⟨xs, n, _, hxx, hl, hx, hg⟩ := DataW.trod_struct ht h
  subst hxx
  simp only [DataW.weights, ht] at hwt
  refine ⟨hl, fun i f hf => ?_⟩
  have h1 := hg i f hf
  have hi : i < xs.length := by rw [hx]; exact (Array.getElem?_eq_some_iff.1 hf).1
  rw [List.getElem?_eq_getElem hi] at h1
  refine ⟨n, _, h1, fun m hm => hwt m (DataW.weights_mem_each (j := i) (t := f.type) (d := (xs[i]).1) ?_ ?_ m hm)⟩
  · rw [List.getElem?_map, Array.getElem?_toList, hf]; rfl
  · rw [List.getElem?_map, List.getElem?_eq_getElem hi]; rfl
theorem open_recS {H : Type} {enc : TypeId × Value → H} {W : World} {t : TypeId} {fs : Array Field} {v : Value} {d : DataW H} {ps : List MemPlace} {base : Nat} {cells : α → List Value} {ok : World → α → Prop} (ht : P.underlying t = some (.struct fs)) (hE : OpensS P t cells ok)
    (hv : Value.okWide P W .any base t v) (h0 : DataW.Trod enc P W 0 (fun _ => true) true t v d ps) (hw : ∀ n ∈ d.weights P t, n ≤ reachBytes) : ∃ y : α, v = .agg (cells y).toArray ∧ ok W y := by
  obtain ⟨cs, rfl, _⟩ := okWide_struct ht hv
  obtain ⟨fuel, hf⟩ := h0
  obtain ⟨y, hy, hok⟩ := hE _ _ _ _ _ _ _ _ _ hf hw
  refine ⟨y, ?_, hok⟩
  rw [← hy]
  rfl
theorem sized_par {H : Type} {ts : List TypeId} {ds : List (DataW H)} (h : (DataW.weightsEach P ts ds).all (· ≤ reachBytes) = true) {j : Nat} {t : TypeId} {d : DataW H} (ht : ts[j]? = some t) (hd : ds[j]? = some d) : ∀ n ∈ d.weights P t, n ≤ reachBytes := fun n hn => by
  simpa using List.all_eq_true.1 h _ (DataW.weights_mem_each ht hd n hn)
end
end Tw
/- What came in. -/
namespace Go.Proofs.Ythpooalhibedpaa
open Go.ChangeShapes Go.WideShapes Go.ChangeAt Go.RowKit Tw
open Go
theorem own : ownKnob Try.prog.godebug = none := by kernel_rfl
theorem laidOut : laidOutB Try.prog = true := by kernel_rfl
theorem of_wf {k : IntKind} {n : Int} (h : (Lit.int k n).wf = true) : k.min ≤ n ∧ n ≤ k.max := by simpa [Lit.wf] using h
end Go.Proofs.Ythpooalhibedpaa
