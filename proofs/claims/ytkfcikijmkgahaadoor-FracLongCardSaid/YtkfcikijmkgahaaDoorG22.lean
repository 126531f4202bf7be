import Derived.Test.YtkfcikijmkgahaaDoorG01
import Derived.Test.YtkfcikijmkgahaaDoorG04
import Derived.Test.YtkfcikijmkgahaaDoorG05
import Derived.Test.YtkfcikijmkgahaaDoorG21
import Derived.Test.YtkfcikijmkgahaaDoorG03
import Derived.Maps.RangeWalk
import Derived.Deep.Cut
/- Part of the proof: Rj, Ax, Rk, Rl. -/
set_option linter.unusedVariables false
set_option linter.unusedSimpArgs false
set_option linter.unusedSectionVars false
/- A region whose operations keep one fact about the world, whatever order is drawn (entries put into a map, calls that make memory), up to one last operation. Nothing of the program. -/
namespace Tw
open Go Go.RowKit
section
variable {P : Program} {ops : Array Oper} {Q : Exit → Act → World → Prop} {md : Region.Mode} {I : Nat → World → Prop} {m last : Nat}
/-- The operation yields v (where it has a slot) and keeps the fact. -/
def CB (P : Program) (ops : Array Oper) (I : Nat → World → Prop) (o : Oper) (v : Value) (a : Act) : Prop :=
  Region.wanted o (yielded ops a.tmps) = true ∧ ∀ k w, I (k + 1) w → Oto P o a.eval w (fun u w' => (o.dst = none ∨ u = v) ∧ I k w')
theorem CB.of_same {o : Oper} {v : Value} {a a' : Act} (hy : CB P ops I o v a) (he : execOp a'.eval o = execOp a.eval o)
    (hw : Region.wanted o (yielded ops a'.tmps) = Region.wanted o (yielded ops a.tmps)) : CB P ops I o v a' := by
  unfold CB Oto at *
  rw [he, hw]
  exact hy
def wpC (P : Program) (md : Region.Mode) (ops : Array Oper) (Q : Exit → Act → World → Prop) (I : Nat → World → Prop) (m last : Nat) : Nat → Array Bool → Act → Prop
  | 0, listed, a => Region.ready md ops listed = [last] ∧ ∀ w, I 0 w → wpAny P md ops Q m listed a w
  | k + 1, listed, a => Region.ready md ops listed ≠ [] ∧ ∀ i ∈ Region.ready md ops listed, ∃ o v, ops[i]? = some o ∧ CB P ops I o v a ∧ wpC P md ops Q I m last k (listed.setIfInBounds i true) (a.put o.dst v)
theorem put_none {a : Act} {u v : Value} {d : Option Nat} (h : d = none ∨ u = v) : a.put d u = a.put d v := by
  rcases h with rfl | rfl
  · rfl
  · rfl
theorem wpC_sound : ∀ (k : Nat) (listed : Array Bool) (a : Act), wpC P md ops Q I m last k listed a → ∀ w, I k w → wpAny P md ops Q (m + k) listed a w
  | 0, _, _, h, w, hw => h.2 w hw
  | k + 1, listed, a, h, w, hw => by
    refine ⟨fun hr => absurd hr h.1, fun i hi => ?_⟩
    obtain ⟨o, v, ho, hc, hu⟩ := h.2 i hi
    refine wpOp_step ho fun K' hK' => ?_
    rw [if_pos hc.1]
    exact (hc.2 k w hw).wp fun u w' ⟨huv, hi'⟩ => hK' _ _ (by rw [put_none huv]; exact wpC_sound k _ _ hu w' hi')
/-- Any operation that may come up now may be taken first. -/
theorem wpC_first {i : Nat} {oi : Oper} {v : Value} (hi : ops[i]? = some oi) (hsel : ∀ (j : Nat) (o : Oper) cs b, ops[j]? = some o → o.op ≠ .select cs b) (hlast : ∃ q, waits md ops q last i = true) (hli : last ≠ i) :
    ∀ (k : Nat) (listed : Array Bool) (a : Act), closed md ops listed →
      (∀ j oj, ops[j]? = some oj → j ≠ i → listed.getD j true = false → (∀ e ∈ oj.after, Region.binds md e = true → e.on ≠ i) → oi.apart ops oj = true) →
      i ∈ Region.ready md ops listed → CB P ops I oi v a →
      wpC P md ops Q I m last k (listed.setIfInBounds i true) (a.put oi.dst v) → wpC P md ops Q I m last (k + 1) listed a := by
  intro k
  induction k with
  | zero =>
    intro listed a hcl _ hr hy H
    refine ⟨fun h => (by rw [h] at hr; cases hr), fun j hj => ?_⟩
    by_cases hji : j = i
    · subst hji
      exact ⟨oi, v, hi, hy, H⟩
    · have h1 := ready_mono hj hji
      rw [H.1] at h1
      cases List.mem_singleton.1 h1
      obtain ⟨q, hq⟩ := hlast
      obtain ⟨_, oj, hoj, hall⟩ := mem_ready.1 hj
      exact (not_waits hcl (unlisted_false (mem_ready.1 hr).1) q _ oj hoj hq hall).elim
  | succ k ih =>
    intro listed a hcl hfree hr hy H
    refine ⟨fun h => (by rw [h] at hr; cases hr), fun j hj => ?_⟩
    by_cases hji : j = i
    · subst hji
      exact ⟨oi, v, hi, hy, H⟩
    · obtain ⟨oj, u, hoj, hyj, hu⟩ := H.2 j (ready_mono hj hji)
      obtain ⟨hjun, oj', hoj', hall⟩ := mem_ready.1 hj
      rw [hoj] at hoj'
      cases hoj'
      have hiun := (mem_ready.1 hr).1
      have hnot : ∀ e ∈ oj.after, Region.binds md e = true → e.on ≠ i := fun e he hb heq => by
        have h1 := hall e he hb
        rw [heq, unlisted_false hiun] at h1
        cases h1
      have hap := hfree j oj hoj hji hjun hnot
      obtain ⟨h1, h2, h3⟩ := Oper.apart_spec hap
      have hfree' : ∀ k ok, ops[k]? = some ok → k ≠ i → (listed.setIfInBounds j true).getD k true = false →
          (∀ e ∈ ok.after, Region.binds md e = true → e.on ≠ i) → oi.apart ops ok = true := fun k ok hk hki hun hno => by
        refine hfree k ok hk hki ?_ hno
        by_cases hjk : j = k
        · subst hjk; exact hjun
        · rw [getD_set_ne true hjk] at hun; exact hun
      have hsi : ∀ cs b, oi.op ≠ .select cs b := fun cs b => hsel i oi cs b hi
      have hsj : ∀ cs b, oj.op ≠ .select cs b := fun cs b => hsel j oj cs b hoj
      have keep : CB P ops I oi v (a.put oj.dst u) := hy.of_same (execOp_put oi hsi a oj.dst u h3) (wanted_put oi a oj.dst u h3)
      have eqe : execOp (a.put oi.dst v).eval oj = execOp a.eval oj := execOp_put oj hsj a oi.dst v h1
      have eqw : Region.wanted oj (yielded ops (a.put oi.dst v).tmps) = Region.wanted oj (yielded ops a.tmps) := wanted_put oj a oi.dst v h1
      refine ⟨oj, u, hoj, hyj.of_same eqe.symm eqw.symm, ih _ _ (closed_set hcl hj) hfree' (ready_mono hr (Ne.symm hji)) keep ?_⟩
      rw [Array.setIfInBounds_comm _ _ hji, ← Act.put_comm a v u h2]
      exact hu
def freeC (md : Region.Mode) (ops : Array Oper) (listed : Array Bool) (last i : Nat) : Bool :=
  Region.noSelect ops && (Region.free md ops listed i && ((Region.ready md ops listed).contains i && (closedB md ops listed && (waits md ops 4 last i && last != i))))
/-- THE STEP, in the text's order. -/
theorem wpC_take {i k : Nat} {oi : Oper} {v : Value} {listed : Array Bool} {a : Act} (hi : ops[i]? = some oi) (hf : freeC md ops listed last i = true) (hy : CB P ops I oi v a)
    (h : wpC P md ops Q I m last k (listed.setIfInBounds i true) (a.put oi.dst v)) : wpC P md ops Q I m last (k + 1) listed a := by
  unfold freeC at hf
  simp only [Bool.and_eq_true, bne_iff_ne] at hf
  obtain ⟨h1, h2, h3, h4, h5, h6⟩ := hf
  exact wpC_first hi (Region.noSelect_spec h1) ⟨4, h5⟩ h6 k listed a (closed_of h4) (Region.free_spec hi h2) (by simpa using h3) hy h
/-- THE END: one operation is left. -/
theorem wpC_last {listed : Array Bool} {a : Act} (hr : Region.ready md ops listed = [last]) (h : ∀ w, I 0 w → wpAny P md ops Q m listed a w) : wpC P md ops Q I m last 0 listed a := ⟨hr, h⟩
end
end Tw
namespace Go.Proofs.YtkfcikijmkgahaaDoor
open Go.RowKit Tw
variable [ShLZ]
variable [ShSt]
/-- what awake's calls answer -/
theorem ax_ratio (a b : Int) (s : Bool) (n d : Nat) (h : qS a b = s ∧ qN a b = n ∧ qD a b = d) (a1 : -9223372036854775808 ≤ a ∧ a ≤ 9223372036854775807 ∧ -9223372036854775808 ≤ b ∧ b ≤ 9223372036854775807 ∧ b ≠ 0) :
    Hid (∀ W, Calls Tryd.prog 27 #[.int .i64 a, .int .i64 b] W fun e w' => e = .returned (.agg (frcC s n d)) ∧ Below W.heap.size W w') := by
  intro W
  have := ratioF_any a b a1.1 a1.2.1 a1.2.2.1 a1.2.2.2.1 a1.2.2.2.2 W
  rw [h.1, h.2.1, h.2.2] at this
  exact this
theorem pack_c {neg : Bool} {n d : Nat} (hn : n < 4294967296) (hd : d < 4294967296) : packV neg n d = .tuple #[frc (neg && decide (n ≠ 0)) n d, .int .i64 0] := packV_yes (lt8 hn) (lt8 hd)
theorem ax_add : Hid (∀ W, Calls Tryd.prog 12 #[.agg (frcC false 1 6), .agg (frcC false 1 10)] W fun e w' => e = .returned (.tuple #[.agg (frcC false 4 15), .int .i64 0]) ∧ Below W.heap.size W w') := by
  intro W
  have := Add_any false false 1 6 1 10 (lt8 (by omega)) (lt8 (by omega)) (lt8 (by omega)) (lt8 (by omega)) W
  rw [show addV false 1 6 false 1 10 = packV false 4 15 from rfl, pack_c (by omega) (by omega)] at this
  exact this
theorem ax_sub : Hid (∀ W, Calls Tryd.prog 13 #[.agg (frcC false 1 6), .agg (frcC false 1 10)] W fun e w' => e = .returned (.tuple #[.agg (frcC false 1 15), .int .i64 0]) ∧ Below W.heap.size W w') := by
  intro W
  have := Sub_any false false 1 6 1 10 (lt8 (by omega)) (lt8 (by omega)) (lt8 (by omega)) (lt8 (by omega)) W
  rw [show addV false 1 6 (!false) 1 10 = packV false 1 15 from rfl, pack_c (by omega) (by omega)] at this
  exact this
theorem ax_mul : Hid (∀ W, Calls Tryd.prog 15 #[.agg (frcC false 1 6), .agg (frcC false 1 10)] W fun e w' => e = .returned (.tuple #[.agg (frcC false 1 60), .int .i64 0]) ∧ Below W.heap.size W w') := by
  intro W
  have := Mul_any false false 1 6 1 10 (lt8 (by omega)) (lt8 (by omega)) (lt8 (by omega)) (lt8 (by omega)) W
  rw [show mulV false 1 6 false 1 10 = packV false 1 60 from rfl, pack_c (by omega) (by omega)] at this
  exact this
theorem ax_div : Hid (∀ W, Calls Tryd.prog 17 #[.agg (frcC false 1 6), .agg (frcC false 1 10)] W fun e w' => e = .returned (.tuple #[.agg (frcC false 5 3), .int .i64 0]) ∧ Below W.heap.size W w') := by
  intro W
  have := Div_any false false 1 6 1 10 (lt8 (by omega)) (lt8 (by omega)) (lt8 (by omega)) (lt8 (by omega)) W
  rw [show mulV false 1 6 false 10 1 = packV false 5 3 from rfl, pack_c (by omega) (by omega)] at this
  exact this
theorem ax_floor1 : Hid (∀ W, Calls Tryd.prog 19 #[.agg (frcC true 3 2)] W fun e w' => e = .returned (.tuple #[.int .i64 (-2), .int .i64 0]) ∧ Below W.heap.size W w') := by
  intro W
  exact floor_any true 3 2 (lt8 (by omega)) (lt8 (by omega)) W
theorem ax_floor2 : Hid (∀ W, Calls Tryd.prog 19 #[.agg (frcC false 3 2)] W fun e w' => e = .returned (.tuple #[.int .i64 1, .int .i64 0]) ∧ Below W.heap.size W w') := by
  intro W
  exact floor_any false 3 2 (lt8 (by omega)) (lt8 (by omega)) W
theorem text32 : textL true 3 2 = [45, 51, 47, 50] := by
  unfold textL
  rw [dec_small (by omega), dec_small (by omega)]
  rfl
theorem ax_text : Hid (∀ W, Env W → Calls Tryd.prog 20 #[.agg (frcC true 3 2)] W fun e w' => e = .returned (.tuple #[.string ⟨#[45, 51, 47, 50]⟩, .int .i64 0]) ∧ Below W.heap.size W w') := by
  intro W hW
  have := text_any true 3 2 (lt8 (by omega)) (lt8 (by omega)) W hW
  rw [if_pos (by rfl), text32] at this
  exact this


theorem readV_dig {l : List UInt8} (h : (digL (rCut l).1 && digL (rBelow l) && !(rBelow l == [48])) = false) : readV l = .tuple #[frc false 0 0, .int .i64 10] := by
  unfold readV
  rw [if_neg (fun hh => by rw [hh.1, hh.2.1, hh.2.2] at h; cases h)]
theorem readV_long {l : List UInt8} (h : (digL (rCut l).1 && digL (rBelow l) && !(rBelow l == [48])) = true) (h2 : (pOk (rCut l).1 && pOk (rBelow l)) = false) : readV l = .tuple #[frc false 0 0, .int .i64 3] := by
  simp only [Bool.and_eq_true, Bool.not_eq_true'] at h
  unfold readV
  rw [if_pos ⟨h.1.1, h.1.2, h.2⟩, if_neg (fun hh => by rw [hh.1, hh.2] at h2; cases h2)]
theorem readV_good {l : List UInt8} {neg : Bool} {x y : Nat} (h : (digL (rCut l).1 && digL (rBelow l) && !(rBelow l == [48])) = true) (h2 : (pOk (rCut l).1 && pOk (rBelow l)) = true) (h3 : rNeg l = neg ∧ pVal (rCut l).1 = x ∧ pVal (rBelow l) = y) :
    readV l = if rErr neg x y = 0 ∧ (rText neg x y == l) = true then .tuple #[frc neg x y, .int .i64 0] else .tuple #[frc false 0 0, .int .i64 11] := by
  simp only [Bool.and_eq_true, Bool.not_eq_true'] at h h2
  obtain ⟨rfl, rfl, rfl⟩ := h3
  unfold readV
  rw [if_pos ⟨h.1.1, h.1.2, h.2⟩, if_pos h2]
theorem read_err (l : List UInt8) (e : Int) (h : (l, e) ∈ L8) : readV l = .tuple #[frc false 0 0, .int .i64 e] := by
  unfold L8 at h
  simp only [List.mem_cons, Prod.mk.injEq, List.not_mem_nil, or_false] at h
  rcases h with ⟨rfl, rfl⟩ | ⟨rfl, rfl⟩ | ⟨rfl, rfl⟩ | ⟨rfl, rfl⟩ | ⟨rfl, rfl⟩ | ⟨rfl, rfl⟩ | ⟨rfl, rfl⟩ | ⟨rfl, rfl⟩
  · exact readV_dig (by decide +kernel)
  · exact readV_dig (by decide +kernel)
  · exact readV_dig (by decide +kernel)
  · exact readV_dig (by decide +kernel)
  · rw [readV_good (neg := false) (x := 2) (y := 4) (by decide +kernel) (by decide +kernel) (by decide +kernel), if_neg (fun h => absurd h.1 (by decide +kernel))]
  · rw [readV_good (neg := false) (x := 4) (y := 1) (by decide +kernel) (by decide +kernel) (by decide +kernel), if_neg]
    intro h
    have h2 := h.2
    unfold rText textL at h2
    rw [if_pos (by decide +kernel), dec_small (by omega)] at h2
    revert h2
    decide +kernel
  · rw [readV_good (neg := true) (x := 0) (y := 1) (by decide +kernel) (by decide +kernel) (by decide +kernel), if_neg (fun h => absurd h.1 (by decide +kernel))]
  · exact readV_long (by decide +kernel) (by decide +kernel)
theorem read_32 : readV [45, 51, 47, 50] = .tuple #[frc true 3 2, .int .i64 0] := by
  rw [readV_good (neg := true) (x := 3) (y := 2) (by decide +kernel) (by decide +kernel) (by decide +kernel), if_pos]
  refine ⟨by decide +kernel, ?_⟩
  unfold rText
  rw [if_pos (by decide +kernel), text32]
  rfl
end Go.Proofs.YtkfcikijmkgahaaDoor
/- A map of texts and numbers that is filled in a region, in whatever order: what it holds comes of a list. Nothing of the program. -/
namespace Tw
open Go Go.RowKit Go.Maps
section
variable {P : Program} {ops : Array Oper} {Q : Exit → Act → World → Prop} {md : Region.Mode} {m last : Nat} {w0 : World}
/-- whatever the map holds stands on the list -/
def SubD (L : List (List UInt8 × Int)) (D : DataW Unit) : Prop := ∀ kl, Maps.has D kl = true → ∃ p ∈ L, kl = .string p.1 ∧ ∀ zd, D.atKey kl zd = .lit (.int .i64 p.2)
theorem SubD.put {L : List (List UInt8 × Int)} {D : DataW Unit} (h : SubD L D) (hD : IsMap D) {l : List UInt8} {e : Int} (hm : (l, e) ∈ L) : SubD L (D.put (.string l) (.lit (.int .i64 e))) := by
  intro kl hk
  by_cases he : kl = .string l
  · subst he
    exact ⟨(l, e), hm, rfl, fun zd => atKey_put_same hD (show WideAt.IsKeyLit (.string l) from trivial) _ zd⟩
  · rw [has_put_other he] at hk
    obtain ⟨p, hp, h1, h2⟩ := h kl hk
    exact ⟨p, hp, h1, fun zd => by rw [atKey_put_other he]; exact h2 zd⟩
def MapI (P : Program) (kt et : TypeId) (L : List (List UInt8 × Int)) (w0 : World) (b : Nat) (k : Nat) (W : World) : Prop :=
  KS w0 [] W ∧ w0.heap.size ≤ b ∧ ∃ n D, n + k ≤ 100 ∧ W.ownsMap P kt (plainElem (H := Unit) P et) b n D ∧ SubD L D
variable {kt et t : TypeId} {L : List (List UInt8 × Int)} {b : Nat}
theorem grown_of_below {w w' : World} (h : Below w.heap.size w w') (row : Option Nat) : w.grownBy w' row := ⟨h.os, h.tape, h.output, h.size, fun k hk _ => h.block k hk⟩
theorem MapI.below {k : Nat} {W W' : World} (h : MapI P kt et L w0 b (k + 1) W) (hb : Below W.heap.size W W') : MapI P kt et L w0 b k W' := by
  obtain ⟨h1, h2, n, D, h3, h4, h5⟩ := h
  exact ⟨h1.below hb, h2, n, D, by omega, h4.kept (grown_of_below hb none) (by simp), h5⟩
theorem MapI.start {k : Nat} {W : World} (h : KS w0 [] W) (hk : k ≤ 100) : MapI P kt et L w0 W.heap.size k (W.alloc (.map #[] 0)) :=
  ⟨(h.alloc (.map #[] 0)).tail, h.1.size, 0, .map [], by omega, World.ownsMap_made W P kt _, fun kl hk => by simp [Maps.has] at hk⟩
theorem MapI.insert {k : Nat} {W : World} (h : MapI P kt et L w0 b (k + 1) W) (hkt : P.underlying kt = some .string) (het : P.underlying et = some (.int .i64)) (ht : P.underlying t = some (.map kt et)) {l : List UInt8} {e : Int} (hm : (l, e) ∈ L)
    (hl : l.length ≤ 1000) (he : (Lit.int .i64 e).wf = true) :
    ∃ W', (Instr.mapUpdate t (.map (some b)) (.string ⟨l.toArray⟩) (.int .i64 e)).run P W = .ok () W' ∧ MapI P kt et L w0 b k W' := by
  obtain ⟨h1, h2, n, D, h3, h4, h5⟩ := h
  have K := string_keyed hkt
  have hkey : keyOf P kt (.string ⟨l.toArray⟩) = some (.string l) := by
    have := WideMaps.keyOf_string_mk (P := P) (k := kt) (s := ⟨l.toArray⟩) hkt (by show l.toArray.size ≤ maxLen; simp; unfold maxLen; omega)
    simpa using this
  obtain ⟨W', hrun, ho, hg⟩ := h4.update K ht (by unfold maxLen; omega) hkey (plainElem_int het he)
  obtain ⟨es, hD, _⟩ := h4.entries K
  refine ⟨W', hrun, ⟨⟨h1.1.grown hg h1.1.size (fun j hj => by cases hj; exact h2), fun _ h => by cases h⟩, h2, n + 1, _, by omega, ho, h5.put ⟨es, hD⟩ hm⟩⟩
theorem Oto.of_run {o : Oper} {ρ : Operand → Value} {w w' : World} {v : Value} {R : Value → World → Prop} (h : (execOp ρ o).run P w = .ok (.value v) w') (hR : R v w') : Oto P o ρ w R := by
  unfold Oto; rw [h]; exact hR
theorem Oto.of_skip {o : Oper} {ρ : Operand → Value} {w w' : World} {R : Value → World → Prop} (h : (execOp ρ o).run P w = .ok .skip w') (hR : R undef w') : Oto P o ρ w R := by
  unfold Oto; rw [h]; exact hR
theorem Oto.of_call {o : Oper} {ρ : Operand → Value} {w : World} {f : FuncId} {args : Array Value} {R : Value → World → Prop} (h : (execOp ρ o).run P w = .ok (.enter f args) w) {v : Value}
    (hc : Calls P f args w fun e w' => e = .returned v ∧ Below w.heap.size w w') (hR : ∀ w', Below w.heap.size w w' → R v w') : Oto P o ρ w R := by
  unfold Oto; rw [h]
  exact hc.mono fun e w' ⟨he, hb⟩ => ⟨v, he, hR w' hb⟩
/-- the steps: an entry, a value, a call -/
theorem wpC_i {i k : Nat} {oi : Oper} {l : List UInt8} {e : Int} {mo ko xo : Operand} {listed : Array Bool} {tm : Array Value} {df : List Deferred}
    (hkt : P.underlying kt = some .string) (het : P.underlying et = some (.int .i64)) (ht : P.underlying t = some (.map kt et)) (hm : (l, e) ∈ L) (hl : l.length ≤ 1000) (he : (Lit.int .i64 e).wf = true)
    (hi : ops[i]? = some oi) (ho : oi.op = .insert t mo ko xo) (hd : oi.dst = none) (hf : freeC md ops listed last i = true) (hw : Region.wanted oi (yielded ops tm) = true)
    (hmo : Act.eval ⟨tm, df⟩ mo = .map (some b)) (hko : Act.eval ⟨tm, df⟩ ko = .string ⟨l.toArray⟩) (hxo : Act.eval ⟨tm, df⟩ xo = .int .i64 e)
    (h : wpC P md ops Q (MapI P kt et L w0 b) m last k (listed.setIfInBounds i true) ⟨tm, df⟩) : wpC P md ops Q (MapI P kt et L w0 b) m last (k + 1) listed ⟨tm, df⟩ := by
  refine wpC_take (v := undef) hi hf ⟨hw, fun j W hW => ?_⟩ ?_
  · obtain ⟨W', hrun, hI⟩ := hW.insert (t := t) hkt het ht hm hl he
    refine Oto.of_skip (w' := W') ?_ ⟨.inl hd, hI⟩
    unfold execOp
    rw [ho]
    simp only [hmo, hko, hxo]
    rw [Sem.run_bind, hrun]
    rfl
  · rw [hd]; exact h
theorem wpC_v {i k d : Nat} {oi : Oper} {v : Value} {listed : Array Bool} {tm T : Array Value} {df : List Deferred}
    (hi : ops[i]? = some oi) (hd : oi.dst = some d) (hf : freeC md ops listed last i = true) (hw : Region.wanted oi (yielded ops tm) = true)
    (hr : ∀ w, (execOp (Act.eval ⟨tm, df⟩) oi).run P w = .ok (.value v) w) (hT : tm.setIfInBounds d v = T)
    (h : wpC P md ops Q (MapI P kt et L w0 b) m last k (listed.setIfInBounds i true) ⟨T, df⟩) : wpC P md ops Q (MapI P kt et L w0 b) m last (k + 1) listed ⟨tm, df⟩ := by
  refine wpC_take (v := v) hi hf ⟨hw, fun j W hW => Oto.of_run (hr W) ⟨.inr rfl, hW.below (Below.refl _ _)⟩⟩ ?_
  rw [hd]; subst hT; exact h
theorem wpC_c {i k d : Nat} {oi : Oper} {v : Value} {f : FuncId} {args : Array Value} {listed : Array Bool} {tm T : Array Value} {df : List Deferred}
    (hi : ops[i]? = some oi) (hd : oi.dst = some d) (hf : freeC md ops listed last i = true) (hw : Region.wanted oi (yielded ops tm) = true)
    (hr : ∀ w, (execOp (Act.eval ⟨tm, df⟩) oi).run P w = .ok (.enter f args) w) (hc : ∀ w, Calls P f args w fun e w' => e = .returned v ∧ Below w.heap.size w w') (hT : tm.setIfInBounds d v = T)
    (h : wpC P md ops Q (MapI P kt et L w0 b) m last k (listed.setIfInBounds i true) ⟨T, df⟩) : wpC P md ops Q (MapI P kt et L w0 b) m last (k + 1) listed ⟨tm, df⟩ := by
  refine wpC_take (v := v) hi hf ⟨hw, fun j W hW => Oto.of_call (hr W) (hc W) fun w' hb => ⟨.inr rfl, hW.below hb⟩⟩ ?_
  rw [hd]; subst hT; exact h
theorem wpAny_all {rs : List Nat} {n : Nat} {listed : Array Bool} {a : Act} {w : World} (hr : Region.ready md ops listed = rs) (hne : rs ≠ [])
    (h : ∀ i ∈ rs, ∃ o, ops[i]? = some o ∧ Region.wanted o (yielded ops a.tmps) = true ∧ Oto P o a.eval w (fun u w' => wpAny P md ops Q n (listed.setIfInBounds i true) (a.put o.dst u) w')) : wpAny P md ops Q (n + 1) listed a w := by
  subst hr
  refine ⟨fun h0 => absurd h0 hne, fun i hi => ?_⟩
  obtain ⟨o, ho, hw, hc⟩ := h i hi
  refine wpOp_step ho fun K' hK' => ?_
  rw [if_pos hw]
  exact hc.wp fun u w' hu => hK' _ _ hu
/-- THE END: the range begins. -/
theorem wpC_r {d : Nat} {oi : Oper} {mo : Operand} {listed : Array Bool} {tm : Array Value} {df : List Deferred} (hkt : P.underlying kt = some .string) (ht : P.underlying t = some (.map kt et))
    (hi : ops[last]? = some oi) (ho : oi.op = .range t mo) (hd : oi.dst = some d) (hr : Region.ready md ops listed = [last]) (hr2 : Region.ready md ops (listed.setIfInBounds last true) = []) (hw : Region.wanted oi (yielded ops tm) = true)
    (hmo : Act.eval ⟨tm, df⟩ mo = .map (some b))
    (h : ∀ r n D cnt W, w0.heap.size ≤ r → KS w0 [] W → SubD L D → W.ranges P kt (plainElem (H := Unit) P et) b r n D (Maps.has D) cnt → Q .normal ⟨tm.setIfInBounds d (.pointer (some ⟨r, 0, none⟩)), df⟩ W) :
    wpC P md ops Q (MapI P kt et L w0 b) 1 last 0 listed ⟨tm, df⟩ := by
  refine wpC_last hr fun W hW => wpAny_all hr (by simp) fun i hi' => ?_
  cases List.mem_singleton.1 hi'
  refine ⟨oi, hi, hw, ?_⟩
  obtain ⟨h1, h2, n, D, h3, h4, h5⟩ := hW
  obtain ⟨W', hrun, hrg, hg, hs⟩ := h4.range (string_keyed hkt) ht
  refine Oto.of_run (w' := W') (v := .pointer (some ⟨W.heap.size, 0, none⟩)) ?_ ⟨hr2, ?_⟩
  · unfold execOp
    rw [ho]
    simp only [hmo]
    rw [Sem.run_bind, hrun]
    rfl
  · rw [hd]
    exact h W.heap.size n D _ W' h1.1.size ⟨h1.1.grown hg h1.1.size (fun j hj => by cases hj), fun _ h => by cases h⟩ h5 hrg
/-- the whole region, one end for all orders -/
theorem wp_region_fin {id : Nat} {a : Act} {w : World} {F : Nat → Nat → World → Prop} (vs : Nat → Nat → List (Nat × Value)) (hm : P.follows .mixedOrders = true)
    (h1 : ∀ Q' : Exit → Act → World → Prop, (∀ b r W, F b r W → Q' .normal ((vs b r).foldl (fun a p => a.put (some p.1) p.2) a) W) → wpAny P .any ops Q' ops.size (Array.replicate ops.size false) a w.drew)
    (h2 : ∀ b r W, F b r W → Q .normal ((vs b r).foldl (fun a p => a.put (some p.1) p.2) a) W) : (Code.region id ops true).wp P Q a w :=
  wp_region_any hm (h1 Q h2)
end
end Tw
/- A range over a map of texts and numbers: what comes stands on the list. Nothing of the program. -/
namespace Tw
open Go Go.RowKit Go.Maps
theorem keyOf_string_inv {P : Program} {k : TypeId} (hk : P.underlying k = some .string) {key : Value} {kl : Lit} (h : keyOf P k key = some kl) : ∃ l : List UInt8, key = .string ⟨l.toArray⟩ ∧ kl = .string l := by
  cases key <;> simp [keyOf, hk, mapKey] at h
  rename_i s
  obtain ⟨_, rfl⟩ := h
  refine ⟨s.data.toList, ?_, ?_⟩
  · cases s; simp
  · simp
def strV (l : List UInt8) : Value := .string ⟨l.toArray⟩
theorem strV_inj {l l' : List UInt8} (h : strV l = strV l') : l = l' := by
  unfold strV at h
  simpa using h
theorem next_item {P : Program} {kt et : TypeId} {L : List (List UInt8 × Int)} {D : DataW Unit} (hS : SubD L D) (hkt : P.underlying kt = some .string) (het : P.underlying et = some (.int .i64)) {l : List UInt8} {c : Int} {kl : Lit} {y : DataW Unit × List MemPlace}
    (hkey : keyOf P kt (strV l) = some kl) (hhas : Maps.has D kl = true) (hy : plainElem P et (.int .i64 c) = some y) (hat : ∀ zd, D.atKey kl zd = y.1) : (l, c) ∈ L := by
  obtain ⟨p, hp, h1, h2⟩ := hS kl hhas
  obtain ⟨l', e1, e2⟩ := keyOf_string_inv hkt hkey
  have e3 : l = l' := strV_inj e1
  subst e3
  rw [e2] at h1
  have e4 : l = p.1 := by simpa using h1
  obtain ⟨a, ha, hz, _⟩ := plainElem_int_inv het hy
  have e5 : c = a := by simpa using ha
  have h3 := hat (.lit (.int .i64 0))
  rw [h2, hz] at h3
  have e6 : p.2 = a := by simpa using h3
  have : p = (l, c) := Prod.ext e4.symm (e6.trans e5.symm)
  rw [← this]; exact hp
/-- the step of the range: at its end, or with an entry of the list -/
theorem wpList_next_L {P : Program} {ops : Array Oper} {rest : List Oper} {o : Oper} {a : Act} {Q : Exit → Act → World → Prop} (w : World) (hg : o.guard = none) (it : Operand) (hop : o.op = Op.next it false) {kt et : TypeId} (hkt : P.underlying kt = some .string) (het : P.underlying et = some (.int .i64))
    {L : List (List UInt8 × Int)} {b r n : Nat} {D : DataW Unit} {left : Lit → Bool} {cnt : Nat} (hS : SubD L D) (hit : a.eval it = .pointer (some ⟨r, 0, none⟩)) (h : w.ranges P kt (plainElem (H := Unit) P et) b r n D left cnt)
    (hl : ∀ kl, left kl = true → Maps.has D kl = true)
    (hDone : wpList P ops Q rest (a.put o.dst (.tuple #[.bool false])) w)
    (hMore : ∀ (l : List UInt8) (c : Int) (w' : World) (left' : Lit → Bool) (cnt' : Nat), (l, c) ∈ L → w'.ranges P kt (plainElem (H := Unit) P et) b r n D left' cnt' → (∀ kl, left' kl = true → Maps.has D kl = true) → cnt' < cnt →
      w.grownBy w' (some r) → w'.heap.size = w.heap.size → (Instr.entry (.pointer (some ⟨r, 0, none⟩))).run P w' = .ok (.tuple #[strV l, .int .i64 c]) w' → wpList P ops Q rest (a.put o.dst (.tuple #[.bool true, strV l, .int .i64 c])) w') :
    wpList P ops Q (o :: rest) a w := by
  refine wpList_next_ranges w hg it hop kt (string_keyed hkt) (plainElem P et) strV (Value.int .i64) (fun key kl hk => ?_) (fun v y hv => ?_) b r n D left cnt hit h (fun _ _ => hDone) ?_
  · obtain ⟨l, e, _⟩ := keyOf_string_inv hkt hk; exact ⟨l, e⟩
  · obtain ⟨c, e, _⟩ := plainElem_int_inv het hv; exact ⟨c, e⟩
  · intro l c kl y w' cnt' hkey hlk hy hat hrg hlt hgr hsz hen
    exact hMore l c w' _ cnt' (next_item hS hkt het hkey (hl kl hlk) hy hat) hrg (fun z hz => hl z (by simp only [Bool.and_eq_true] at hz; exact hz.1)) hlt hgr hsz hen
theorem wpAny_step2 {P : Program} {md : Region.Mode} {ops : Array Oper} {Q : Exit → Act → World → Prop} {rs : List Nat} {n : Nat} {listed : Array Bool} {tm : Array Value} {df : List Deferred} {w : World} (hr : Region.ready md ops listed = rs) (hne : rs ≠ [])
    (h : ∀ i ∈ rs, ∃ (o : Oper) (d : Nat), ops[i]? = some o ∧ o.dst = some d ∧ Region.wanted o (yielded ops tm) = true ∧ Oto P o (Act.eval ⟨tm, df⟩) w (fun u w' => wpAny P md ops Q n (listed.setIfInBounds i true) ⟨tm.setIfInBounds d u, df⟩ w')) :
    wpAny P md ops Q (n + 1) listed ⟨tm, df⟩ w := by
  refine Tw.wpAny_all hr hne fun i hi => ?_
  obtain ⟨o, d, h1, h2, h3, h4⟩ := h i hi
  refine ⟨o, h1, h3, ?_⟩
  rw [h2]
  exact h4
/-- the fact about the world that the loop carries -/
def RgL (P : Program) (kt et : TypeId) (D : DataW Unit) (b r n : Nat) (w0 wr : World) : Prop :=
  ∃ left cnt, wr.ranges P kt (plainElem (H := Unit) P et) b r n D left cnt ∧ (∀ kl, left kl = true → Maps.has D kl = true) ∧ KS w0 [] wr
end Tw
