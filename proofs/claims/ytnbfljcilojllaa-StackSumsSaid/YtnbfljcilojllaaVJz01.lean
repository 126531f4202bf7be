import Derived.Test.YtnbfljcilojllaaVJz00
import Derived.Test.YtnbfljcilojllaaSS00
import Derived.Test.YtnbfljcilojllaaSS01
import Derived.Carry
import Derived.MapKept
import Derived.ChangeMaps5
import Derived.Maps.Range
/- Part of the proof: WJ, WK, VA, V1, L8d, V3, L8e, L8f, Dv, L8g, L8h, L8i, L8j, L8k, L8l, L8m, L8n, L9f, LC0, Hm, LB0, LC1, VC, V5, V8p, VH, VJp, VE, WN, Nz. -/
set_option linter.unusedVariables false
set_option linter.unusedSimpArgs false
set_option linter.unusedSectionVars false
/- Stow: piles: plain, and their lists in memory. -/
namespace Go.Proofs.Ytnbfljcilojllaa
open Go Go.RowKit Tw
structure PilV where
 bv : Value
 lv : Value
 bs : List Bo
 l : List Sd
def pilC (p : PilV) : List Value := [p.bv, p.lv]
theorem pilC_len (p : PilV) : (pilC p).length = 2 := rfl
def pil0 : PilV := ⟨.slice none 0 0, .slice none 0 0, [], []⟩
structure PFam (W0 : Base) (T : List (Nat × Obj)) (ps : List PilV) : Prop where
 ex : ∃ Ts : List (List (Nat × Obj) × List (Nat × Obj)), Ts.length = ps.length ∧ (∀ (i : Nat) (A : List (Nat × Obj) × List (Nat × Obj)) (p : PilV), Ts[i]? = some A → ps[i]? = some p → OwnL W0 37 9 p.bv p.bs.length (p.bs.flatMap boC) A.1 ∧ OwnL W0 42 4 p.lv p.l.length (p.l.flatMap sdC) A.2 ∧ Dj A.1 A.2 ∧ ∀ x ∈ A.1 ++ A.2, x ∈ T) ∧ ∀ (i j : Nat) (A B : List (Nat × Obj) × List (Nat × Obj)), i ≠ j → Ts[i]? = some A → Ts[j]? = some B → Dj (A.1 ++ A.2) (B.1 ++ B.2)
section
variable {W0 : Base} {T : List (Nat × Obj)} {ps : List PilV} {p : PilV} {i : Nat}
theorem PFam.start (n : Nat) : PFam W0 [] (List.replicate n pil0) := ⟨List.replicate n ([], []), by simp, fun i A p hA hp => by
 have hA2 := List.eq_of_mem_replicate (List.mem_of_getElem? hA)
 have hp2 := List.eq_of_mem_replicate (List.mem_of_getElem? hp)
 subst hA2 hp2
 exact ⟨OwnL.nil _ _ _, OwnL.nil _ _ _, (fun _ h => by cases h), (fun _ h => by cases h)⟩, fun i j A B _ hA _ => by
 have hA2 := List.eq_of_mem_replicate (List.mem_of_getElem? hA)
 subst hA2
 exact fun _ h => by cases h⟩
theorem PFam.open (h : PFam W0 T ps) (hi : ps[i]? = some p) : ∃ Tb Tl Tr, OwnL W0 37 9 p.bv p.bs.length (p.bs.flatMap boC) Tb ∧ OwnL W0 42 4 p.lv p.l.length (p.l.flatMap sdC) Tl ∧ Dj Tb Tl ∧ Dj Tb Tr ∧ Dj Tl Tr ∧ (∀ x ∈ Tb ++ (Tl ++ Tr), x ∈ T) ∧ ∀ (p' : PilV) (Tb' Tl' : List (Nat × Obj)), OwnL W0 37 9 p'.bv p'.bs.length (p'.bs.flatMap boC) Tb' → OwnL W0 42 4 p'.lv p'.l.length (p'.l.flatMap sdC) Tl' → Dj Tb' Tl' → Dj Tb' Tr → Dj Tl' Tr → PFam W0 (Tb' ++ (Tl' ++ Tr)) (ps.set i p') := by
 obtain ⟨Ts, h1, h2, h3⟩ := h.ex
 have hlt := (List.getElem?_eq_some_iff.1 hi).1
 have hA : Ts[i]? = some Ts[i] := List.getElem?_eq_getElem Tw.om
 obtain ⟨A, hAe⟩ : ∃ A, Ts[i] = A := ⟨_, rfl⟩
 rw [hAe] at hA
 obtain ⟨q1, q2, q3, q4⟩ := h2 i A p hA hi
 have hTr : ∀ x, x ∈ T.filter (fun q => decide (∀ a ∈ A.1 ++ A.2, q.1 ≠ a.1)) ↔ x ∈ T ∧ ∀ a ∈ A.1 ++ A.2, x.1 ≠ a.1 := fun x => by rw [List.mem_filter, decide_eq_true_iff]
 refine ⟨A.1, A.2, T.filter (fun q => decide (∀ a ∈ A.1 ++ A.2, q.1 ≠ a.1)), q1, q2, q3, fun a ha q hq => ((hTr q).1 hq).2 a (List.mem_append_left _ ha), fun a ha q hq => ((hTr q).1 hq).2 a (List.mem_append_right _ ha), fun x hx => ?_, fun p' Tb' Tl' o1 o2 d1 d2 d3 => ⟨Ts.set i (Tb', Tl'), by rw [List.length_set, List.length_set, h1], fun j B p2 hB hp2 => ?_, fun j k B C hjk hB hC => ?_⟩⟩
 · rcases List.mem_append.1 hx with hx | hx
   · exact q4 x (List.mem_append_left _ hx)
   · rcases List.mem_append.1 hx with hx | hx
     · exact q4 x (List.mem_append_right _ hx)
     · exact ((hTr x).1 hx).1
 · by_cases e : j = i
   · subst e
     rw [List.getElem?_set_self Tw.om] at hB hp2
     cases hB; cases hp2
     exact ⟨o1, o2, d1, fun x hx => by rcases List.mem_append.1 hx with hx | hx; exact List.mem_append_left _ hx; exact List.mem_append_right _ (List.mem_append_left _ hx)⟩
   · rw [List.getElem?_set_ne (fun h => e h.symm)] at hB hp2
     obtain ⟨r1, r2, r3, r4⟩ := h2 j B p2 hB hp2
     exact ⟨r1, r2, r3, fun x hx => List.mem_append_right _ (List.mem_append_right _ ((hTr x).2 ⟨r4 x hx, fun a ha => h3 i j A B (fun h => e h.symm) hA hB a ha x hx⟩))⟩
 · have key : ∀ (j : Nat) (B : List (Nat × Obj) × List (Nat × Obj)), j ≠ i → Ts[j]? = some B → ∀ x ∈ B.1 ++ B.2, x ∈ T.filter (fun q => decide (∀ a ∈ A.1 ++ A.2, q.1 ≠ a.1)) := fun j B e hB x hx => by
     have hlt := (List.getElem?_eq_some_iff.1 hB).1
     exact (hTr x).2 ⟨(h2 j B _ hB (List.getElem?_eq_getElem Tw.om)).2.2.2 x hx, fun a ha => h3 i j A B (fun h => e h.symm) hA hB a ha x hx⟩
   by_cases ej : j = i
   · subst ej
     rw [List.getElem?_set_self Tw.om] at hB
     cases hB
     rw [List.getElem?_set_ne hjk] at hC
     intro a ha x hx
     have hx2 := key k C (fun h => hjk h.symm) hC x hx
     rcases List.mem_append.1 ha with ha | ha
     · exact d2 a ha x hx2
     · exact d3 a ha x hx2
   · rw [List.getElem?_set_ne (fun h => ej h.symm)] at hB
     by_cases ek : k = i
     · subst ek
       rw [List.getElem?_set_self Tw.om] at hC
       cases hC
       intro a ha x hx
       have ha2 := key j B ej hB a ha
       rcases List.mem_append.1 hx with hx | hx
       · exact fun e => d2 x hx a ha2 e.symm
       · exact fun e => d3 x hx a ha2 e.symm
     · rw [List.getElem?_set_ne (fun h => ek h.symm)] at hC
       exact h3 j k B C hjk hB hC
theorem PFam.read (h : PFam W0 T ps) (hi : ps[i]? = some p) : ∃ bp bc lq ld, p.bv = .slice bp p.bs.length bc ∧ p.lv = .slice lq p.l.length ld ∧ RL boC W0 bp p.bs T ∧ RL sdC W0 lq p.l T := by
 obtain ⟨Tb, Tl, Tr, o1, o2, _, _, _, hs, _⟩ := h.open hi
 obtain ⟨bp, bc, e1, _, R1⟩ := own_rl o1
 obtain ⟨lq, ld, e2, _, R2⟩ := own_rl o2
 exact ⟨bp, bc, lq, ld, e1, e2, fun W hW => R1 W (hW.sub fun x hx => hs x (List.mem_append_left _ hx)), fun W hW => R2 W (hW.sub fun x hx => hs x (List.mem_append_right _ (List.mem_append_left _ hx)))⟩
end
-- piles, plain
def pileL (l : List Sd) (c : Nat) : List Sd := l.filter fun x => decide (x.slot.col = ((c : Nat) : Int))
def boxesL (bs : List Bo) (l : List Sd) : List Bo := l.map fun x => boxOf bs x.box
theorem pileL_yes {l : List Sd} {k c : Nat} {y : Sd} (hy : l[k]? = some y) (h : y.slot.col = ((c : Nat) : Int)) : pileL (l.take (k + 1)) c = pileL (l.take k) c ++ [y] := by
 obtain ⟨hk, rfl⟩ := List.getElem?_eq_some_iff.1 hy
 unfold pileL
 rw [List.take_succ_eq_append_getElem hk, List.filter_append, List.filter_cons, if_pos (decide_eq_true h), List.filter_nil]
theorem pileL_no {l : List Sd} {k c : Nat} {y : Sd} (hy : l[k]? = some y) (h : ¬ y.slot.col = ((c : Nat) : Int)) : pileL (l.take (k + 1)) c = pileL (l.take k) c := by
 obtain ⟨hk, rfl⟩ := List.getElem?_eq_some_iff.1 hy
 unfold pileL
 rw [List.take_succ_eq_append_getElem hk, List.filter_append, List.filter_cons, if_neg (by simpa using h), List.filter_nil, List.append_nil]
def PAt (bs : List Bo) (l : List Sd) (k : Nat) (ps : List PilV) : Prop := ∀ (c : Nat) (p : PilV), ps[c]? = some p → p.l = pileL (l.take k) c ∧ p.bs = boxesL bs p.l
theorem pat_zero (bs : List Bo) (l : List Sd) (n : Nat) : PAt bs l 0 (List.replicate n pil0) := fun c p hp => by
 have hp2 := List.eq_of_mem_replicate (List.mem_of_getElem? hp)
 subst hp2
 exact ⟨rfl, rfl⟩
theorem pat_put {bs : List Bo} {l : List Sd} {k j : Nat} {ps : List PilV} {p : PilV} {y : Sd} {bv lv : Value} (h : PAt bs l k ps) (hp : ps[j]? = some p) (hy : l[k]? = some y) (hc : y.slot.col = ((j : Nat) : Int)) : PAt bs l (k + 1) (ps.set j ⟨bv, lv, p.bs ++ [boxOf bs y.box], p.l ++ [y]⟩) := fun c q hq => by
 have hlt := (List.getElem?_eq_some_iff.1 hp).1
 by_cases e : c = j
 · subst e
   rw [List.getElem?_set_self hlt] at hq
   cases hq
   obtain ⟨h1, h2⟩ := h c p hp
   exact ⟨by rw [pileL_yes hy hc, ← h1], by unfold boxesL; rw [List.map_append, h2]; rfl⟩
 · rw [List.getElem?_set_ne (fun h => e h.symm)] at hq
   obtain ⟨h1, h2⟩ := h c q hq
   exact ⟨by rw [pileL_no hy (fun e2 => e (by rw [hc] at e2; omega)), ← h1], h2⟩
def slotsOk (cs : List Col) (bs : List Bo) (l : List Sd) : Bool := l.all fun x => rightS cs x.slot (boxOf bs x.box).size
def pilesOk (bs : List Bo) (l : List Sd) : Nat → List Col → Bool
 | _, [] => true
 | k, c :: cs => standX (boxesL bs (pileL l k)) (pileL l k) c.height && pilesOk bs l (k + 1) cs
def loadX (cs : List Col) (os : List Cov) (bs : List Bo) (l : List Sd) : Bool := rightX cs os && (incS l && (slotsOk cs bs l && pilesOk bs l 0 cs))
end Go.Proofs.Ytnbfljcilojllaa
/- Stow: what named answers, and what load says, plain. -/
namespace Go.Proofs.Ytnbfljcilojllaa
open Go Go.RowKit Tw
theorem box_cons (b : Bo) (bs : List Bo) (n : Int) : boxOf (b :: bs) n = if b.id = n then b else boxOf bs n := by
 by_cases e : b.id = n
 · rw [if_pos e]
   have h : findB (b :: bs) n = some 0 := fst_is (x := b) rfl (decide_eq_true e) (fun j y hj => by omega)
   unfold boxOf
   rw [h]
   exact elc_at rfl
 · rw [if_neg e]
   have hf : isId n b = false := decide_eq_false e
   cases h : findB bs n with
   | none =>
     have h2 : findB (b :: bs) n = none := fst_mem_none fun x hx => by
       rcases List.mem_cons.1 hx with rfl | hx
       · exact hf
       · exact fst_none h x hx
     unfold boxOf
     rw [h, h2]
     rfl
   | some k =>
     obtain ⟨x, h1, h2, h3⟩ := fst_some h
     have h4 : findB (b :: bs) n = some (k + 1) := fst_is (x := x) h1 h2 (fun j y hj hy => by
       cases j with
       | zero => cases hy; exact hf
       | succ j => exact h3 j y Tw.om hy)
     unfold boxOf
     rw [h, h4]
     exact (elc_at (d := bo0) (show (b :: bs)[k + 1]? = some x from h1)).trans (elc_at h1).symm
theorem named_at {l : List Sd} (hi : incS l = true) {k : Nat} {y : Sd} (hy : l[k]? = some y) : ∀ bs : List Bo, (namedX bs l)[k]? = some (boxOf bs y.box)
 | [] => by
   have hk := (List.getElem?_eq_some_iff.1 hy).1
   show (List.replicate l.length bo0)[k]? = _
   rw [List.getElem?_replicate, if_pos hk]
   rfl
 | b :: bs => by
   have ih := named_at hi hy bs
   have hk := (List.getElem?_eq_some_iff.1 hy).1
   unfold namedX at ih ⊢
   rw [List.reverse_cons, namF_snoc, box_cons]
   by_cases e : b.id = y.box
   · have hx : hasX l b.id = true := hasX_yes hy e.symm
     have hf : fst (isBx b.id) l = some k := by
       have hx2 := hx
       unfold hasX at hx2
       obtain ⟨j, hj⟩ := Option.isSome_iff_exists.1 hx2
       obtain ⟨z, h1, h2, _⟩ := fst_some hj
       have hz : z.box = b.id := of_decide_eq_true h2
       rcases Nat.lt_trichotomy j k with h | h | h
       · have := inc_lt hi h h1 hy; omega
       · rw [← h]; exact hj
       · have := inc_lt hi h hy h1; omega
     rw [put_yes hx, low_has hi hf, List.getElem?_set_self (by rw [namF_len]; exact hk), if_pos e]
   · rw [if_neg e]
     cases hx : hasX l b.id with
     | false => rw [put_no hx]; exact ih
     | true =>
       have hx2 := hx
       unfold hasX at hx2
       obtain ⟨j, hj⟩ := Option.isSome_iff_exists.1 hx2
       obtain ⟨z, h1, h2, _⟩ := fst_some hj
       have hz : z.box = b.id := of_decide_eq_true h2
       have hne : j ≠ k := fun h => by
         subst h
         rw [hy] at h1
         cases h1
         exact e hz.symm
       rw [put_yes hx, low_has hi hj, List.getElem?_set_ne hne]
       exact ih
theorem named_is {bs : List Bo} {l : List Sd} (hi : incS l = true) : namedX bs l = boxesL bs l := by
 apply List.ext_getElem?
 intro k
 cases h : l[k]? with
 | none =>
   have hk := List.getElem?_eq_none_iff.1 h
   rw [List.getElem?_eq_none (by rw [named_len]; exact hk), List.getElem?_eq_none (by unfold boxesL; rw [List.length_map]; exact hk)]
 | some y =>
   rw [named_at hi h bs]
   unfold boxesL
   rw [List.getElem?_map, h]
   rfl
theorem boxes_len (bs : List Bo) (l : List Sd) : (boxesL bs l).length = l.length := List.length_map ..
theorem boxes_at {bs : List Bo} {l : List Sd} {k : Nat} {y : Sd} {b : Bo} (hy : l[k]? = some y) (hb : (boxesL bs l)[k]? = some b) : b = boxOf bs y.box := by
 unfold boxesL at hb
 rw [List.getElem?_map, hy] at hb
 cases hb
 rfl
section
variable {cs : List Col} {os : List Cov} {bs : List Bo} {l : List Sd}
theorem ok_step {k : Nat} {y : Sd} (hy : l[k]? = some y) : slotsOk cs bs (l.drop k) = (rightS cs y.slot (boxOf bs y.box).size && slotsOk cs bs (l.drop (k + 1))) := by
 obtain ⟨hk, rfl⟩ := List.getElem?_eq_some_iff.1 hy
 unfold slotsOk
 rw [List.drop_eq_getElem_cons hk, List.all_cons]
theorem ok_end {k : Nat} (hk : ¬ k < l.length) : slotsOk cs bs (l.drop k) = true := by rw [List.drop_eq_nil_of_le Tw.om]; rfl
theorem pil_step {k : Nat} {c : Col} (hy : cs[k]? = some c) : pilesOk bs l k (cs.drop k) = (standX (boxesL bs (pileL l k)) (pileL l k) c.height && pilesOk bs l (k + 1) (cs.drop (k + 1))) := by
 obtain ⟨hk, rfl⟩ := List.getElem?_eq_some_iff.1 hy
 rw [List.drop_eq_getElem_cons hk]
 rfl
theorem pil_end {k : Nat} (hk : ¬ k < cs.length) : pilesOk bs l k (cs.drop k) = true := by rw [List.drop_eq_nil_of_le Tw.om]; rfl
theorem load_no1 (h : rightX cs os = false) : loadX cs os bs l = false := by unfold loadX; rw [h]; rfl
theorem load_no2 (h : incS l = false) : loadX cs os bs l = false := by unfold loadX; rw [h]; simp
theorem load_no3 (h : slotsOk cs bs l = false) : loadX cs os bs l = false := by unfold loadX; rw [h]; simp
theorem load_no4 (h : pilesOk bs l 0 cs = false) : loadX cs os bs l = false := by unfold loadX; rw [h]; simp
theorem load_yes (h1 : rightX cs os = true) (h2 : incS l = true) (h3 : slotsOk cs bs l = true) (h4 : pilesOk bs l 0 cs = true) : loadX cs os bs l = true := by unfold loadX; rw [h1, h2, h3, h4]; rfl
theorem cols_tiers (h : rightX cs os = true) {c : Col} (hc : c ∈ cs) : c.tiers ≤ 10 := by
 unfold rightX colsX at h
 simp only [Bool.and_eq_true] at h
 have h1 := (cols_iff.1 h.1.2.2).1 c hc
 unfold colX at h1
 rw [Bool.and_eq_true] at h1
 have key : ∀ {L : List Rg} {r : Rg}, rgsX L = true → r ∈ L → r.1 ≤ r.2.2 := fun {L r} hL hr => by
   rcases Int.lt_or_le r.2.2 r.1 with h9 | h9
   · rw [rgs_f hr (.inr h9)] at hL; cases hL
   · exact h9
 exact key h1.1 (show (c.tiers, 1, 10) ∈ rangesX c by simp [rangesX])
theorem cols_len (h : rightX cs os = true) : cs.length ≤ 200 := by
 unfold rightX colsX at h
 simp only [Bool.and_eq_true, Bool.not_eq_true', decide_eq_false_iff_not] at h
 have := h.1.2.1
 omega
theorem right_at {x : Slt} {z : Nat} (h : rightS cs x z = true) : ∃ (j : Nat) (c : Col), cs[j]? = some c ∧ x.col = ((j : Nat) : Int) ∧ 0 ≤ x.tier ∧ x.tier < c.tiers := by
 unfold rightS at h
 rw [Bool.and_eq_true] at h
 exact exS_iff.1 h.1
end
theorem pil_sub {l : List Sd} {c : Nat} {x : Sd} (h : x ∈ pileL l c) : x ∈ l := (List.mem_filter.1 h).1
theorem pil_len (l : List Sd) (c : Nat) : (pileL l c).length ≤ l.length := List.length_filter_le _ _
theorem ok_tier {cs : List Col} {os : List Cov} {bs : List Bo} {l : List Sd} (h : rightX cs os = true) (h2 : slotsOk cs bs l = true) : ∀ x ∈ l, -9223372036854775808 ≤ x.slot.tier ∧ x.slot.tier ≤ 9223372036854775807 := fun x hx => by
 obtain ⟨j, c, h3, _, h4, h5⟩ := right_at (List.all_eq_true.1 h2 x hx)
 have h6 := cols_tiers h (List.mem_of_getElem? h3)
 omega
theorem dkS {g : Nat} {B C : List (Nat × Obj)} (h : Dk g B) (hs : ∀ p ∈ C, p ∈ B) : Dk g C := fun q hq => h q (hs q hq)
theorem djS {A B C : List (Nat × Obj)} (h : Dj A B) (hs : ∀ p ∈ C, p ∈ B) : Dj A C := fun p hp q hq => h p hp q (hs q hq)
theorem pil_set2 {ps : List PilV} {p : PilV} {j : Nat} {bv lv : Value} {bs : List Bo} {l : List Sd} (h : ps[j]? = some p) : ((ps.flatMap pilC).toArray.setIfInBounds (0 + j * 2) bv).setIfInBounds (0 + j * 2 + 1) lv = ((ps.set j ⟨bv, lv, bs, l⟩).flatMap pilC).toArray := by
 have hlt := (List.getElem?_eq_some_iff.1 h).1
 have h1 := flat_set (cells := pilC) (sz := 2) (c' := ⟨bv, p.lv, p.bs, p.l⟩) (v := bv) (j := 0) pilC_len h (by decide) rfl
 have h2 : (ps.set j ⟨bv, p.lv, p.bs, p.l⟩)[j]? = some ⟨bv, p.lv, p.bs, p.l⟩ := List.getElem?_set_self hlt
 have h3 := flat_set (cells := pilC) (sz := 2) (c' := ⟨bv, lv, bs, l⟩) (v := lv) (j := 1) pilC_len h2 (by decide) rfl
 rw [List.set_set] at h3
 rw [List.setIfInBounds_toArray, List.setIfInBounds_toArray, ← h3, ← h1, Nat.zero_add]
 rfl
theorem pil_size (ps : List PilV) : (ps.flatMap pilC).toArray.size = ps.length * 2 := by rw [List.size_toArray, flat_len (cells := pilC) pilC_len]
theorem pil_at {ps : List PilV} {p : PilV} {j : Nat} {bv lv : Value} (h : ps[j]? = some p) (h1 : p.bv = bv) (h2 : p.lv = lv) : ∀ (i : Nat) (v : Value), [bv, lv][i]? = some v → (ps.flatMap pilC).toArray[0 + j * 2 + i]? = some v := fun i v hv => RowR.get (rowx pilC ps) pilC_len h i v (by unfold pilC; rw [h1, h2]; exact hv)
def ldC (cv ov : Value) (t : Tl) (sv pv : Value) : List Value := shC cv ov t ++ [sv, pv]
def LoadO (W0 : Base) (cv ov : Value) (t : Tl) (n : Nat) (sv : Value) (bs : List Bo) (l : List Sd) (b : Bool) (v : Value) (K' : List (Nat × Obj)) : Prop :=
 (b = false ∧ v = .agg (ldC (.slice none 0 0) (.slice none 0 0) tl0 (.slice none 0 0) (.slice none 0 0)).toArray ∧ K' = []) ∨ (b = true ∧ ∃ gp ps T, v = .agg (ldC cv ov t sv (.slice (some ⟨gp, 0, none⟩) n n)).toArray ∧ K' = (gp, .cells (ps.flatMap pilC).toArray 153 (0, 0)) :: T ∧ ps.length = n ∧ PFam W0 T ps ∧ PAt bs l l.length ps ∧ Dk gp T ∧ W0.B ≤ gp)
end Go.Proofs.Ytnbfljcilojllaa
/- Law 09: boxes that are dropped into columns. -/
namespace Go.Proofs.Ytnbfljcilojllaa
open Go Go.RowKit Tw
structure Dp where
 col : Nat
 kil : Nat
 small : Bool
 high : Bool
def dpC (d : Dp) : List Value := [.int .u8 ((d.col : Nat) : Int), .int .u8 ((d.kil : Nat) : Int), .bool d.small, .bool d.high]
theorem dpC_len (y : Dp) : (dpC y).length = 4 := rfl
theorem dpC_one (y : Dp) : ∀ v ∈ dpC y, v.oneCell' = true := by
 intro v hv
 simp only [dpC, List.mem_cons, List.not_mem_nil, or_false] at hv
 rcases hv with rfl | rfl | rfl | rfl <;> rfl
def boxD (i : Nat) (d : Dp) : Bo := ⟨((5 * (i + 1) : Nat) : Int), [], if d.small = true then 20 else 40, if d.small = true then false else d.high, ((1000 + 100 * d.kil : Nat) : Int), 0, 1, 0, false⟩
theorem boxD_small {i : Nat} {d : Dp} (h : d.small = true) : boxD i d = ⟨((5 * (i + 1) : Nat) : Int), [], 20, false, ((1000 + 100 * d.kil : Nat) : Int), 0, 1, 0, false⟩ := by
 unfold boxD
 rw [if_pos h, if_pos h]
theorem boxD_big {i : Nat} {d : Dp} (h : d.small = false) : boxD i d = ⟨((5 * (i + 1) : Nat) : Int), [], 40, d.high, ((1000 + 100 * d.kil : Nat) : Int), 0, 1, 0, false⟩ := by
 unfold boxD
 rw [if_neg (by rw [h]; decide), if_neg (by rw [h]; decide)]
def tryS (cs : List Col) (os : List Cov) (bs : List Bo) (l : List Sd) (id cm : Int) : List Slt → List Sd
 | [] => l
 | x :: xs => if x.col = cm ∧ loadX cs os bs (l ++ [⟨id, x⟩]) = true then l ++ [⟨id, x⟩] else tryS cs os bs l id cm xs
def loadedF (cs : List Col) (os : List Cov) : Nat → List Bo → List Sd → List Dp → List Bo × List Sd
 | _, bs, l, [] => (bs, l)
 | k, bs, l, d :: ds => loadedF cs os (k + 1) (bs ++ [boxD k d]) (tryS cs os (bs ++ [boxD k d]) l (boxD k d).id ((d.col % cs.length : Nat) : Int) (slotsX cs (boxD k d).size)) ds
def loadedX (cs : List Col) (os : List Cov) (ds : List Dp) : List Bo × List Sd := loadedF cs os 0 [] [] (ds.take 9)
section
variable {cs : List Col} {os : List Cov} {bs : List Bo} {l : List Sd} {id cm : Int} {xs : List Slt} {j : Nat} {x : Slt}
theorem tryS_end (h : ¬ j < xs.length) : tryS cs os bs l id cm (xs.drop j) = l := by
 rw [List.drop_eq_nil_of_le Tw.om]; rfl
theorem tryS_yes (hx : xs[j]? = some x) (h1 : x.col = cm) (h2 : loadX cs os bs (l ++ [⟨id, x⟩]) = true) : tryS cs os bs l id cm (xs.drop j) = l ++ [⟨id, x⟩] := by
 obtain ⟨hk, rfl⟩ := List.getElem?_eq_some_iff.1 hx
 rw [List.drop_eq_getElem_cons hk]
 unfold tryS
 rw [if_pos ⟨h1, h2⟩]
theorem tryS_no1 (hx : xs[j]? = some x) (h1 : ¬ x.col = cm) : tryS cs os bs l id cm (xs.drop j) = tryS cs os bs l id cm (xs.drop (j + 1)) := by
 obtain ⟨hk, rfl⟩ := List.getElem?_eq_some_iff.1 hx
 rw [List.drop_eq_getElem_cons hk]
 conv => lhs; unfold tryS
 rw [if_neg (fun h => h1 h.1)]
theorem tryS_no2 (hx : xs[j]? = some x) (h2 : loadX cs os bs (l ++ [⟨id, x⟩]) = false) : tryS cs os bs l id cm (xs.drop j) = tryS cs os bs l id cm (xs.drop (j + 1)) := by
 obtain ⟨hk, rfl⟩ := List.getElem?_eq_some_iff.1 hx
 rw [List.drop_eq_getElem_cons hk]
 conv => lhs; unfold tryS
 rw [if_neg (fun h => by rw [h2] at h; cases h.2)]
end
theorem loadedF_step {cs : List Col} {os : List Cov} {ds : List Dp} {k i : Nat} {bs : List Bo} {l : List Sd} {d : Dp} (h : ds[i]? = some d) : loadedF cs os k bs l (ds.drop i) = loadedF cs os (k + 1) (bs ++ [boxD k d]) (tryS cs os (bs ++ [boxD k d]) l (boxD k d).id ((d.col % cs.length : Nat) : Int) (slotsX cs (boxD k d).size)) (ds.drop (i + 1)) := by
 obtain ⟨hk, rfl⟩ := List.getElem?_eq_some_iff.1 h
 rw [List.drop_eq_getElem_cons hk]
 rfl
theorem loadedF_end {cs : List Col} {os : List Cov} {ds : List Dp} {k i : Nat} {bs : List Bo} {l : List Sd} (h : ¬ i < ds.length) : loadedF cs os k bs l (ds.drop i) = (bs, l) := by
 rw [List.drop_eq_nil_of_le Tw.om]; rfl
end Go.Proofs.Ytnbfljcilojllaa
/- Stack: what the layer says, in plain lists. -/
namespace Go.Proofs.Ytnbfljcilojllaa
open Go Go.RowKit Tw
structure Lo where
 sd : Sd
 k : Int
def lo0 : Lo := ⟨sd0, 0⟩
def loC (y : Lo) : List Value := sdC y.sd ++ [.int .i64 y.k]
theorem loC_len (y : Lo) : (loC y).length = 5 := rfl
theorem loC_one (y : Lo) : ∀ v ∈ loC y, v.oneCell' = true := by
 intro v hv
 simp only [loC, sdC, List.mem_append, List.mem_cons, List.not_mem_nil, or_false, sltC, List.cons_append, List.nil_append] at hv
 rcases hv with rfl | rfl | rfl | rfl | rfl <;> rfl
def kiloX (bs : List Bo) (x : Sd) : Int := (boxOf bs x.box).kilos
def loOf (bs : List Bo) (x : Sd) : Lo := ⟨x, kiloX bs x⟩
def inCol (c : Int) (x : Sd) : Bool := decide (x.slot.col = c)
def pileK (bs : List Bo) (l : List Sd) (c : Int) : List Lo := (l.filter (inCol c)).map (loOf bs)
theorem pileK_yes {bs : List Bo} {l : List Sd} {k : Nat} {y : Sd} {c : Int} (hy : l[k]? = some y) (h : y.slot.col = c) : pileK bs (l.take (k + 1)) c = pileK bs (l.take k) c ++ [loOf bs y] := by
 obtain ⟨hk, rfl⟩ := List.getElem?_eq_some_iff.1 hy
 unfold pileK
 rw [List.take_succ_eq_append_getElem hk, List.filter_append, List.map_append, List.filter_cons, if_pos (by unfold inCol; exact decide_eq_true h)]
 rfl
theorem pileK_no {bs : List Bo} {l : List Sd} {k : Nat} {y : Sd} {c : Int} (hy : l[k]? = some y) (h : ¬ y.slot.col = c) : pileK bs (l.take (k + 1)) c = pileK bs (l.take k) c := by
 obtain ⟨hk, rfl⟩ := List.getElem?_eq_some_iff.1 hy
 unfold pileK
 rw [List.take_succ_eq_append_getElem hk, List.filter_append, List.map_append, List.filter_cons, if_neg (by unfold inCol; rw [decide_eq_false h]; decide)]
 simp
theorem pileK_len (bs : List Bo) (l : List Sd) (c : Int) : (pileK bs l c).length ≤ l.length := by
 unfold pileK
 rw [List.length_map]
 exact List.length_filter_le _ _
def kilA (P : Slt → Bool) (s : Int) (y : Lo) : Int := if P y.sd.slot = true then IntKind.i64.wrap (s + y.k) else s
def kilX (P : Slt → Bool) (l : List Lo) : Int := l.foldl (kilA P) 0
theorem kilX_yes {P : Slt → Bool} {l : List Lo} {k : Nat} {y : Lo} (hy : l[k]? = some y) (h : P y.sd.slot = true) : kilX P (l.take (k + 1)) = IntKind.i64.wrap (kilX P (l.take k) + y.k) := by
 obtain ⟨hk, rfl⟩ := List.getElem?_eq_some_iff.1 hy
 unfold kilX
 rw [List.take_succ_eq_append_getElem hk, List.foldl_append]
 show kilA P _ _ = _
 unfold kilA
 rw [if_pos h]
theorem kilX_no {P : Slt → Bool} {l : List Lo} {k : Nat} {y : Lo} (hy : l[k]? = some y) (h : P y.sd.slot = false) : kilX P (l.take (k + 1)) = kilX P (l.take k) := by
 obtain ⟨hk, rfl⟩ := List.getElem?_eq_some_iff.1 hy
 unfold kilX
 rw [List.take_succ_eq_append_getElem hk, List.foldl_append]
 show kilA P _ _ = _
 unfold kilA
 rw [if_neg (by rw [h]; decide)]
def halfP (h : Nat) (x : Slt) : Bool := decide (x.half = h)
def allP (_ : Slt) : Bool := true
def belowP (x y : Slt) : Bool := decide (y.tier < x.tier) && decide (y.tier = IntKind.i64.wrap (x.tier - 1)) && (decide (y.half = x.half) || decide (y.half = 0) || decide (x.half = 0))
def foreX (bs : List Bo) (l : List Sd) (c : Int) : Int := kilX (halfP 1) (pileK bs l c)
def aftX (bs : List Bo) (l : List Sd) (c : Int) : Int := kilX (halfP 2) (pileK bs l c)
def allX (bs : List Bo) (l : List Sd) (c : Int) : Int := kilX allP (pileK bs l c)
end Go.Proofs.Ytnbfljcilojllaa
/- Slots of a ship, one after the other. -/
namespace Go.Proofs.Ytnbfljcilojllaa
open Go Go.RowKit Tw
def encSl (x : Slt) : Array Value := #[.agg (sltC x).toArray]
def colR (z k : Nat) : Nat → Nat → List Slt
 | 0, _ => []
 | r + 1, t => tierS z k t ++ colR z k r (t + 1)
theorem colR_app (z k : Nat) : ∀ (r t : Nat), colR z k r t = (List.range' t r).flatMap (tierS z k)
 | 0, t => by simp [colR]
 | r + 1, t => by simp [colR, colR_app z k r (t + 1), List.range'_succ]
theorem colSl_R (z k : Nat) (n : Int) : colSl z k n = colR z k n.toNat 0 := by
 rw [colR_app, colSl, List.range_eq_range']
theorem slotsF_drop {z : Nat} {cs : List Col} {k i : Nat} {c : Col} (h : cs[i]? = some c) : slotsF z k (cs.drop i) = colR z k c.tiers.toNat 0 ++ slotsF z (k + 1) (cs.drop (i + 1)) := by
 obtain ⟨hk, rfl⟩ := List.getElem?_eq_some_iff.1 h
 rw [List.drop_eq_getElem_cons hk]
 simp only [slotsF, colSl_R]
theorem slotsF_end {z : Nat} {cs : List Col} {k i : Nat} (h : ¬ i < cs.length) : slotsF z k (cs.drop i) = [] := by
 rw [List.drop_eq_nil_of_le Tw.om]; rfl
theorem tierS_drop {z k t j h : Nat} (hj : (hsX z)[j]? = some h) : ((hsX z).drop j).map (fun h => (⟨((k : Nat) : Int), ((t : Nat) : Int), h⟩ : Slt)) = ⟨((k : Nat) : Int), ((t : Nat) : Int), h⟩ :: ((hsX z).drop (j + 1)).map (fun h => (⟨((k : Nat) : Int), ((t : Nat) : Int), h⟩ : Slt)) := by
 obtain ⟨hk, rfl⟩ := List.getElem?_eq_some_iff.1 hj
 rw [List.drop_eq_getElem_cons hk]; rfl
theorem posT_step {cs : List Col} {i : Nat} {c : Col} (h : cs[i]? = some c) : posT (cs.take (i + 1)) = posT (cs.take i) + c.tiers.toNat := by
 have key : ∀ (a b : List Col), posT (a ++ b) = posT a + posT b := by
   intro a b
   induction a with
   | nil => simp [posT]
   | cons x a ih => simp only [List.cons_append, posT, ih]; omega
 obtain ⟨hk, rfl⟩ := List.getElem?_eq_some_iff.1 h
 rw [List.take_succ_eq_append_getElem hk, key]
 simp [posT]
theorem posT_all {cs : List Col} {i : Nat} (h : ¬ i < cs.length) : posT (cs.take i) = posT cs := by rw [List.take_of_length_le Tw.om]
theorem posT_take {cs : List Col} (m : Nat) (h : ∀ c ∈ cs, c.tiers ≤ ((m : Nat) : Int)) (i : Nat) : posT (cs.take i) ≤ i * m := by
 have h1 := posT_le (cs := cs.take i) (m := m) fun c hc => h c (List.mem_of_mem_take hc)
 have h2 : (cs.take i).length ≤ i := by rw [List.length_take]; omega
 exact Nat.le_trans h1 (Nat.mul_le_mul_right _ h2)
def HLx {α : Type} (cells : α → List Value) (p : Option Addr) (l : List α) (T : List (Nat × Obj)) : Prop := ∀ W : World, (∀ b ∈ T, W.heap[b.1]? = some b.2) → SLV W p (l.flatMap cells)
theorem HLx.rl {α : Type} {cells : α → List Value} {W0 : Base} {p : Option Addr} {l : List α} {T : List (Nat × Obj)} (h : HLx cells p l T) : RL cells W0 p l T := fun W hW => h W hW.2
def OutHL {α : Type} (cells : α → List Value) (E : TypeId) (K : List (Nat × Obj)) (l : List α) (v : Value) (K' : List (Nat × Obj)) : Prop := ∃ p c Kl, v = .slice p l.length c ∧ HLx cells p l Kl ∧ (∀ b ∈ Kl, ∃ cur, b.2 = .cells cur E (0, 0)) ∧ (∀ p ∈ K, ∀ q ∈ Kl, q.1 ≠ p.1) ∧ K' = K ++ Kl
theorem calls_hl {α : Type} {P : Program} {cells : α → List Value} {sz : Nat} {W0 : Base} {W : World} {K : List (Nat × Obj)} {E : TypeId} {l : List α} {f : FuncId} {args : Array Value} (hW : KS W0 K W) (h : Calls P f args W fun e w' => ∃ v, e = .returned v ∧ OutV W w' E sz v l.length (l.flatMap cells) ∧ Below W.heap.size W w') :
   Calls P f args W fun e w' => ∃ v K', e = .returned v ∧ KS W0 K' w' ∧ OutHL cells E K l v K' :=
 h.mono fun e w' ⟨v, he, hO, hb⟩ => by
   obtain ⟨Kl, h1, h2, h3⟩ := hO.own hW hb
   rcases h1 with ⟨h0, hx, rfl, rfl⟩ | ⟨g, cap, cur, rfl, hB, hR, rfl⟩
   · exact ⟨_, _, he, h3, none, 0, [], by rw [h0], fun _ _ => .inl hx, (fun _ h => by cases h), h2, rfl⟩
   · exact ⟨_, _, he, h3, some ⟨g, 0, none⟩, cap, _, rfl, fun W' hW' => .inr ⟨g, 0, rfl, lt_of_block (hW' _ Tw.m0), hR.cel (hW' _ Tw.m0)⟩, (fun b hb => by cases List.mem_singleton.1 hb; exact ⟨_, rfl⟩), h2, rfl⟩
theorem own_cells {W0 : Base} {E : TypeId} {sz n : Nat} {v : Value} {xs : List Value} {K : List (Nat × Obj)} (h : OwnL W0 E sz v n xs K) : ∀ p ∈ K, p.2.isCells = true := by
 rcases h with ⟨_, _, _, rfl⟩ | ⟨g, cap, cur, _, _, _, rfl⟩
 · exact fun _ h => by cases h
 · exact fun p hp => by cases List.mem_singleton.1 hp; rfl
theorem own_rest {W0 : Base} {E : TypeId} {sz n : Nat} {v : Value} {xs : List Value} {K K2 : List (Nat × Obj)} {W : World} {ts : List TypeId} (h : OwnL W0 E sz v n xs K) (hK : KS W0 K2 W) (hs : ∀ p ∈ K, p ∈ K2) (ht : E ∈ ts) : Dj K (restT ts W) := by
 rcases h with ⟨_, _, _, rfl⟩ | ⟨g, cap, cur, _, _, _, rfl⟩
 · exact fun _ h => by cases h
 · intro p hp q hq e
   cases List.mem_singleton.1 hp
   exact restT_ne (hK.2 _ (hs _ Tw.m0)) (by simp [ownT, ht]) q hq e
theorem own_low {W0 : Base} {K : List (Nat × Obj)} {W : World} {g : Nat} (hK : KS W0 K W) (hg : W.heap.size ≤ g) : Dk g K := fun p hp e => by
 have := lt_of_block (hK.2 p hp); omega
def ASI (W0 : Base) (g : Nat) (pre : List Slt) (K : List (Nat × Obj)) : Prop := ∃ v Kl, K = (g, .cells #[v] 56 (0, 0)) :: Kl ∧ OwnL W0 40 3 v pre.length (pre.flatMap sltC) Kl ∧ Dk g Kl
theorem asi_cells {W0 : Base} {g : Nat} (ys : List Slt) (K : List (Nat × Obj)) (h : ASI W0 g ys K) : ∀ p ∈ K, p.2.isCells = true := by
 obtain ⟨v, Kl, rfl, hO, _⟩ := h
 exact List.forall_mem_cons.2 ⟨rfl, own_cells hO⟩
end Go.Proofs.Ytnbfljcilojllaa
/- Stack: columns with what stands in them, and room. -/
namespace Go.Proofs.Ytnbfljcilojllaa
open Go Go.RowKit Tw
def tlT (t : Tl) (tol : Int) : Tl := { t with a7 := .int .i64 tol }
theorem tlT_one {t : Tl} {tol : Int} (h : OneT t) : OneT (tlT t tol) := by
 obtain ⟨h0, h1, h2, h3, h4, h5, h6, h7, h8, h9, hA⟩ := h
 exact ⟨h0, h1, h2, h3, h4, h5, h6, rfl, h8, h9, hA⟩
def colAt (cs : List Col) (c : Int) : Option Col := if c < 0 then none else cs[c.toNat]?
def ldCol (cs : List Col) (c : Int) : Col := (colAt cs c).getD col0
def ldPile (bs : List Bo) (l : List Sd) (cs : List Col) (c : Int) : List Lo := if (colAt cs c).isSome = true then pileK bs l c else []
def ldTol (cs : List Col) (c tol : Int) : Int := if (colAt cs c).isSome = true then tol else 0
theorem colAt_some {cs : List Col} {m : Nat} {y : Col} (h : cs[m]? = some y) : colAt cs ((m : Nat) : Int) = some y := by
 unfold colAt
 rw [if_neg Tw.om, Int.toNat_natCast, h]
theorem colAt_neg {cs : List Col} {c : Int} (h : c < 0) : colAt cs c = none := by
 unfold colAt
 rw [if_pos h]
theorem colAt_big {cs : List Col} {c : Int} (h : ¬ c < ((cs.length : Nat) : Int)) : colAt cs c = none := by
 unfold colAt
 split
 · rfl
 · exact List.getElem?_eq_none Tw.om
theorem ld_col {cs : List Col} {m : Nat} {y : Col} (h : cs[m]? = some y) : ldCol cs ((m : Nat) : Int) = y := by
 unfold ldCol
 rw [colAt_some h]; rfl
theorem ld_pile {bs : List Bo} {l : List Sd} {cs : List Col} {m : Nat} {y : Col} (h : cs[m]? = some y) : ldPile bs l cs ((m : Nat) : Int) = pileK bs l ((m : Nat) : Int) := by
 unfold ldPile
 rw [colAt_some h]; rfl
theorem ld_tol {cs : List Col} {m : Nat} {y : Col} {tol : Int} (h : cs[m]? = some y) : ldTol cs ((m : Nat) : Int) tol = tol := by
 unfold ldTol
 rw [colAt_some h]; rfl
theorem ld_none {cs : List Col} {c : Int} (h : colAt cs c = none) (bs : List Bo) (l : List Sd) (tol : Int) : ldCol cs c = col0 ∧ ldPile bs l cs c = [] ∧ ldTol cs c tol = 0 := by
 unfold ldCol ldPile ldTol
 rw [h]
 exact ⟨rfl, rfl, rfl⟩
theorem ldPile_len (bs : List Bo) (l : List Sd) (cs : List Col) (c : Int) : (ldPile bs l cs c).length ≤ l.length := by
 unfold ldPile
 split
 · exact pileK_len _ _ _
 · exact Nat.zero_le _
def ldnC (c : Col) (v : Value) (tl : Int) : List Value := colC c ++ [v, .int .i64 tl]
def askB (cc : Col) (x : Slt) : Bool := cc.deck && decide (0 < x.tier)
def bearX (cc : Col) (p : List Lo) (tl : Int) (x : Slt) : Int := if askB cc x = true then IntKind.i64.wrap (kilX (belowP x) p + tl) else 0
def room0 (cc : Col) (p : List Lo) : Int := IntKind.i64.wrap (cc.k40 - kilX allP p)
def room1 (cc : Col) (p : List Lo) (x : Slt) : Int := if x.half = 1 then min (room0 cc p) (IntKind.i64.wrap (cc.k20 - kilX (halfP 1) p)) else if x.half = 2 then min (room0 cc p) (IntKind.i64.wrap (cc.k20 - kilX (halfP 2) p)) else room0 cc p
def room2 (cc : Col) (p : List Lo) (tl : Int) (x : Slt) : Int := if askB cc x = true then min (room1 cc p x) (bearX cc p tl x) else room1 cc p x
def roomX (cs : List Col) (bs : List Bo) (l : List Sd) (tol : Int) (x : Slt) : Int := max (room2 (ldCol cs x.col) (ldPile bs l cs x.col) (ldTol cs x.col tol) x) 0
theorem calls_ldn {P : Program} {W0 : Base} {W : World} {K : List (Nat × Obj)} {E : TypeId} {l : List Lo} {cc : Col} {tl : Int} {f : FuncId} {args : Array Value} (hW : KS W0 K W) (h : Calls P f args W fun e w' => ∃ v, e = .returned (.agg (ldnC cc v tl).toArray) ∧ OutV W w' E 5 v l.length (l.flatMap loC) ∧ Below W.heap.size W w') :
   Calls P f args W fun e w' => ∃ v K', e = .returned v ∧ KS W0 K' w' ∧ ∃ u, v = .agg (ldnC cc u tl).toArray ∧ OutHL loC E K l u K' :=
 h.mono fun e w' ⟨v, he, hO, hb⟩ => by
   obtain ⟨Kl, h1, h2, h3⟩ := hO.own hW hb
   rcases h1 with ⟨h0, hx, rfl, rfl⟩ | ⟨g, cap, cur, rfl, hB, hR, rfl⟩
   · exact ⟨_, _, he, h3, _, rfl, none, 0, [], by rw [h0], fun _ _ => .inl hx, (fun _ h => by cases h), h2, rfl⟩
   · exact ⟨_, _, he, h3, _, rfl, some ⟨g, 0, none⟩, cap, _, rfl, fun W' hW' => .inr ⟨g, 0, rfl, lt_of_block (hW' _ Tw.m0), hR.cel (hW' _ Tw.m0)⟩, (fun b hb => by cases List.mem_singleton.1 hb; exact ⟨_, rfl⟩), h2, rfl⟩
theorem ldnC_one (c : Col) {v : Value} (tl : Int) (h : v.oneCell' = true) : ∀ u ∈ ldnC c v tl, u.oneCell' = true := by
 intro u hu
 unfold ldnC at hu
 rcases List.mem_append.1 hu with hu | hu
 · exact colC_one c u hu
 · simp only [List.mem_cons, List.not_mem_nil, or_false] at hu
   rcases hu with rfl | rfl
   · exact h
   · rfl
end Go.Proofs.Ytnbfljcilojllaa
namespace Go.Proofs.Ytnbfljcilojllaa
open Go Go.RowKit Tw
set_option maxRecDepth 100000 in
set_option maxHeartbeats 4000000 in
theorem slots1_stops (n₀ b1 b2 : Nat) (cs : List Col) (pc : Option Addr) (cc : Nat) (ov : Value) (t : Tl) (z : Nat) (w0 : World) (hn0 : n₀ ≤ w0.heap.size) (hl : cs.length ≤ 1000000) (htm : ∀ c ∈ cs, c.tiers ≤ 1000000)
   (hb1 : w0.heap[b1]? = some (.cells (shC (.slice pc cs.length cc) ov t).toArray 32 (0, 0))) (hb2 : w0.heap[b2]? = some (.cells #[.int .u8 ((z : Nat) : Int)] 5 (0, 0))) (hc : ∀ W, Below n₀ w0 W → SLV W pc (cs.flatMap colC)) :
   SeqStopsK (FX none) 0 Try.prog 83 #[.pointer (some ⟨b1, 0, none⟩), .pointer (some ⟨b2, 0, none⟩)] encSl (KpT [40, 56] n₀) (fun ys => ys = slotsX cs z) (fun _ => True) (slotsX cs z).length w0 := by
 intro l J Jx W1 hB0 hJa hJxa hYd hJ0
 have hBw : Below n₀ w0 W1 := hB0.mono hn0
 have hh2 := hsX_len z
 have hR1 : KS (W1 : World) [(b1, .cells (shC (.slice pc cs.length cc) ov t).toArray 32 (0, 0)), (b2, .cells #[.int .u8 ((z : Nat) : Int)] 5 (0, 0))] W1 := ⟨Below.refl _ _, List.forall_mem_cons.2 ⟨(hB0.block b1 (lt_of_block hb1)).trans hb1, List.forall_mem_cons.2 ⟨(hB0.block b2 (lt_of_block hb2)).trans hb2, List.forall_mem_nil _⟩⟩⟩
 refine callsIn_of_wp Try.func83 rfl trivial ?_ rfl
 simp only [Try.ntmps83, List.size_toArray, List.length_cons, List.length_nil, Nat.reduceAdd, Nat.reduceSub, Array.replicate_succ, Array.replicate_zero, List.push_toArray, List.append_toArray, List.nil_append, List.cons_append]
 refine wpIn_seq ?_
 refine wp_region_LI (W0 := (W1 : World)) [(b1, .cells (shC (.slice pc cs.length cc) (ov) t).toArray 32 (0, 0)), (b2, .cells #[.int .u8 ((z : Nat) : Int)] 5 (0, 0))] Tw.kr (hR1) ?_
 refine lm (v := .pointer (some ⟨b1, 0, none⟩)) rfl rfl ?_
 refine lv (v := .slice pc cs.length cc) rfl rfl (yb_cell (off := 0) rfl Tw.kr Tw.m0 Try.underlying22 rfl Tw.kr) ?_
 refine lp (v := .int .i64 ((cs.length : Nat) : Int)) rfl rfl (run_lenL (p := pc) (cap := cc) (n := cs.length) rfl Try.underlying22 Tw.kr) ?_
 refine lm (v := .int .i64 0) rfl rfl ?_
 refine wpL_done (fun W2 hW2 => ?_)
 have hR2 : KS (W2 : World) [(b1, .cells (shC (.slice pc cs.length cc) (ov) t).toArray 32 (0, 0)), (b2, .cells #[.int .u8 ((z : Nat) : Int)] 5 (0, 0))] W2 := ⟨Below.refl _ _, hW2.2⟩
 have hJ2 := abideK hJa hJ0 hW2
 have hB2 := hBw.trans (hW2.1.mono (Nat.le_trans hn0 hBw.size))
 refine (show Code.wpIn _ _ _ _ _ _ _ from ?_)
 refine wpIn_block ?_
 gi_loopw [12] (fun u12 wr => ∃ (k : Nat) (pre1 : List Slt), (k ≤ cs.length) ∧ (slotsX cs z = pre1 ++ slotsF z k (cs.drop k)) ∧ (J pre1 wr) ∧ (Below n₀ w0 wr) ∧ u12 = .int .i64 ((k : Nat) : Int) ∧ KS (wr : World) [(b1, .cells (shC (.slice pc cs.length cc) (ov) t).toArray 32 (0, 0)), (b2, .cells #[.int .u8 ((z : Nat) : Int)] 5 (0, 0))] wr) (fun u12 _ => cs.length - (intOf u12).toNat)
 case atStart => exact ⟨0, [], (Nat.zero_le _), rfl, hJ2, hB2, rfl, (hR2.sub (fun p hp => by first | exact hp | (simp only [List.mem_cons, List.mem_append, List.nil_append, List.not_mem_nil, or_assoc, or_false, false_or] at hp ⊢ <;> grind)))⟩
 case round =>
   obtain ⟨k, pre1, hk, hx1, hJl2, hBl2, rfl, hL3⟩ := hrel
   have hRl2 := hL3
   refine wpIn_seq ?_
   refine wp_region_LI (W0 := (wr : World)) [(b1, .cells (shC (.slice pc cs.length cc) (ov) t).toArray 32 (0, 0)), (b2, .cells #[.int .u8 ((z : Nat) : Int)] 5 (0, 0))] Tw.kr (hRl2) ?_
   refine lp (v := .bool (decide (k < cs.length))) rfl rfl (run_bin rfl (vx := (.int .i64 ((k : Nat) : Int))) (vy := (.int .i64 ((cs.length : Nat) : Int))) Tw.kr Tw.kr fun w => bn_lss rfl w) ?_
   refine wpL_done (fun W4 hW4 => ?_)
   have hR4 : KS (W4 : World) [(b1, .cells (shC (.slice pc cs.length cc) (ov) t).toArray 32 (0, 0)), (b2, .cells #[.int .u8 ((z : Nat) : Int)] 5 (0, 0))] W4 := ⟨Below.refl _ _, hW4.2⟩
   have hJ4 := abideK hJa hJl2 hW4
   have hB4 := hBl2.trans (hW4.1.mono (Nat.le_trans hn0 hBl2.size))
   refine (show Code.wpIn _ _ _ _ _ _ _ from ?_)
   refine wpIn_seq ?_
   cases hd1 : (decide (k < cs.length)) with
   | false =>
     have h1 : ¬ (k < cs.length) := of_decide_eq_false hd1
     clear hd1
     rw [slotsF_end Tw.om, List.append_nil] at hx1
     refine wpIn_cond_false rfl ?_
     refine wpIn_exit ?_
     simp only [then_exitX, inBlock_exitX]
     refine bodyPost_end (results_none rfl _ _ _) rfl ?_
     exact ⟨⟨_, rfl⟩, .inl ⟨_, hx1.symm, hJ4⟩⟩
   | true =>
     have h1 : k < cs.length := of_decide_eq_true hd1
     clear hd1
     refine wpIn_cond_true rfl ?_
     refine wpIn_skip ?_
     refine (show Code.wpIn _ _ _ _ _ _ _ from ?_)
     refine wpIn_seq ?_
     refine wpIn_block ?_
     refine wpIn_seq ?_
     refine wp_region_LI (W0 := (W4 : World)) [(b1, .cells (shC (.slice pc cs.length cc) (ov) t).toArray 32 (0, 0)), (b2, .cells #[.int .u8 ((z : Nat) : Int)] 5 (0, 0))] Tw.kr (hR4) ?_
     refine lm (v := .int .i64 ((k : Nat) : Int)) rfl rfl ?_
     obtain ⟨y6, g6_, f6_, hy6, hp6, hc6⟩ := RL.at (RL.base (hc _ hB4)) colC_len (by decide) (hR4.sub (fun _ h => by cases h)) (k := k) Tw.om
     have hcol6 := hy6
     have hy6c := hy6
     refine lp (v := .pointer (some ⟨g6_, f6_ + k * 12, none⟩)) rfl rfl (run_idxQ (p := pc) (cap := cc) (n := cs.length) (j := .i64) (k := k) (sz := 12) rfl Try.underlying22 Tw.kr Tw.kr hp6 Tw.kr Tw.om) ?_
     refine lv (v := .agg (colC y6).toArray) rfl rfl (yb_rs (off := f6_ + k * 12) (cs := colC y6) rfl Tw.kr (fun W hW => hc6 W (hW.sub (fun _ h => by cases h))) Try.underlying46 rfl Tw.kr) ?_
     refine wpL_new (fun g => .pointer (some ⟨g, 0, none⟩)) (obi := .cells #[.int .i64 0, .int .i64 0, .bool false, .int .i64 0, .int .i64 0, .int .i64 0, .int .i64 0, .int .i64 0, .slice none 0 0, .int .i64 0, .int .i64 0, .int .i64 0] 46 (0, 0)) rfl rfl Tw.kf Tw.pf fun g7 Bg7 Fg7 => ?_
     obtain ⟨dj8_0, dj8_1⟩ : b1 ≠ g7 ∧ b2 ≠ g7 := Tw.dkf Fg7
     refine lm (v := .int .i64 ((k : Nat) : Int)) rfl rfl ?_
     refine wpL_s [(g7, .cells (colC y6).toArray 46 (0, 0)), (b1, .cells (shC (.slice pc cs.length cc) (ov) t).toArray 32 (0, 0)), (b2, .cells #[.int .u8 ((z : Nat) : Int)] 5 (0, 0))] rfl rfl (st_row (off := 0) (v := .agg (colC y6).toArray) rfl Tw.kr Tw.kr Tw.m0 Bg7 Tw.kr (by first | (simp [Value.cells]; done) | exact Nat.le_of_ble_eq_true rfl) (fun v hv => colC_one y6 v hv) Tw.kr (List.forall_mem_cons.2 ⟨.inl rfl, (List.forall_mem_cons.2 ⟨.inr ⟨Tw.m1, Tw.nee⟩, (List.forall_mem_cons.2 ⟨.inr ⟨Tw.m2, Tw.nee⟩, (List.forall_mem_nil _)⟩)⟩)⟩)) ?_
     refine wpL_done (fun W5 hW5 => ?_)
     have hR5 : KS (W5 : World) [(g7, .cells (colC y6).toArray 46 (0, 0)), (b1, .cells (shC (.slice pc cs.length cc) (ov) t).toArray 32 (0, 0)), (b2, .cells #[.int .u8 ((z : Nat) : Int)] 5 (0, 0))] W5 := ⟨Below.refl _ _, hW5.2⟩
     have hJ5 := abideK hJa hJ4 hW5
     have hB5 := hB4.trans (hW5.1.mono (Nat.le_trans hn0 hB4.size))
     refine (show Code.wpIn _ _ _ _ _ _ _ from ?_)
     refine wpIn_seq ?_
     refine wp_region_LI (W0 := (W5 : World)) [(g7, .cells (colC y6).toArray 46 (0, 0)), (b1, .cells (shC (.slice pc cs.length cc) (ov) t).toArray 32 (0, 0)), (b2, .cells #[.int .u8 ((z : Nat) : Int)] 5 (0, 0))] Tw.kr (hR5) ?_
     refine lm (v := .pointer (some ⟨g7, 3, none⟩)) rfl rfl ?_
     refine lv (v := .int .i64 y6.tiers) rfl rfl (yb_cell (off := 3) rfl Tw.kr Tw.m0 Try.underlying3 rfl Tw.kr) ?_
     refine lm (v := .int .i64 0) rfl rfl ?_
     refine wpL_done (fun W6 hW6 => ?_)
     have hR6 : KS (W6 : World) [(g7, .cells (colC y6).toArray 46 (0, 0)), (b1, .cells (shC (.slice pc cs.length cc) (ov) t).toArray 32 (0, 0)), (b2, .cells #[.int .u8 ((z : Nat) : Int)] 5 (0, 0))] W6 := ⟨Below.refl _ _, hW6.2⟩
     have hJ6 := abideK hJa hJ5 hW6
     have hB6 := hB5.trans (hW6.1.mono (Nat.le_trans hn0 hB5.size))
     refine (show Code.wpIn _ _ _ _ _ _ _ from ?_)
     refine wpIn_block ?_
     rw [slotsF_drop hy6] at hx1
     have htm1 := htm y6 (List.mem_of_getElem? hy6)
     obtain ⟨m, hm⟩ : ∃ m : Nat, y6.tiers.toNat = m := ⟨_, rfl⟩
     rw [hm] at hx1
     gi_loopw [19] (fun u19 wr => ∃ (t0 r0 : Nat) (pre2 : List Slt), (t0 + r0 = m) ∧ (slotsX cs z = pre2 ++ (colR z k r0 t0 ++ slotsF z (k + 1) (cs.drop (k + 1)))) ∧ (J pre2 wr) ∧ (Below n₀ w0 wr) ∧ u19 = .int .i64 ((t0 : Nat) : Int) ∧ KS (wr : World) [(b1, .cells (shC (.slice pc cs.length cc) (ov) t).toArray 32 (0, 0)), (b2, .cells #[.int .u8 ((z : Nat) : Int)] 5 (0, 0))] wr) (fun u19 _ => m - (intOf u19).toNat)
     case atStart => exact ⟨0, m, pre1, Tw.om, hx1, hJ6, hB6, rfl, (hR6.sub (fun p hp => by first | exact hp | (simp only [List.mem_cons, List.mem_append, List.nil_append, List.not_mem_nil, or_assoc, or_false, false_or] at hp ⊢ <;> grind)))⟩
     case round =>
       obtain ⟨t0, r0, pre2, ht, hx2, hJl6, hBl6, rfl, hL7⟩ := hrel
       have hRl6 := hL7
       refine wpIn_seq ?_
       refine wp_region_LI (W0 := (wr : World)) [(b1, .cells (shC (.slice pc cs.length cc) (ov) t).toArray 32 (0, 0)), (b2, .cells #[.int .u8 ((z : Nat) : Int)] 5 (0, 0))] Tw.kr (hRl6) ?_
       refine lp (v := .bool (decide (((t0 : Nat) : Int) < y6.tiers))) rfl rfl (run_bin rfl (vx := (.int .i64 ((t0 : Nat) : Int))) (vy := (.int .i64 y6.tiers)) Tw.kr Tw.kr fun w => bi_lss rfl w) ?_
       refine wpL_done (fun W8 hW8 => ?_)
       have hR8 : KS (W8 : World) [(b1, .cells (shC (.slice pc cs.length cc) (ov) t).toArray 32 (0, 0)), (b2, .cells #[.int .u8 ((z : Nat) : Int)] 5 (0, 0))] W8 := ⟨Below.refl _ _, hW8.2⟩
       have hJ8 := abideK hJa hJl6 hW8
       have hB8 := hBl6.trans (hW8.1.mono (Nat.le_trans hn0 hBl6.size))
       refine (show Code.wpIn _ _ _ _ _ _ _ from ?_)
       refine wpIn_seq ?_
       cases hd2 : (decide (((t0 : Nat) : Int) < y6.tiers)) with
       | false =>
         have h2 : ¬ (((t0 : Nat) : Int) < y6.tiers) := of_decide_eq_false hd2
         clear hd2
         obtain rfl : r0 = 0 := by omega
         refine wpIn_cond_false rfl ?_
         refine wpIn_exit ?_
         refine (show Code.wpIn _ _ _ _ _ _ _ from ?_)
         refine wp_region_LI (W0 := (W8 : World)) [(b1, .cells (shC (.slice pc cs.length cc) (ov) t).toArray 32 (0, 0)), (b2, .cells #[.int .u8 ((z : Nat) : Int)] 5 (0, 0))] Tw.kr (hR8) ?_
         refine lp (v := .int .i64 (((k + 1) : Nat) : Int)) rfl rfl (run_bin rfl (vx := (.int .i64 ((k : Nat) : Int))) (vy := (.int .i64 ((1 : Nat) : Int))) Tw.kr Tw.kr fun w => bn_add (z := (k + 1)) rfl (wr_i64 Tw.om) w) ?_
         refine lm (v := .int .i64 (((k + 1) : Nat) : Int)) rfl rfl ?_
         refine wpL_done (fun W9 hW9 => ?_)
         have hR9 : KS (W9 : World) [(b1, .cells (shC (.slice pc cs.length cc) (ov) t).toArray 32 (0, 0)), (b2, .cells #[.int .u8 ((z : Nat) : Int)] 5 (0, 0))] W9 := ⟨Below.refl _ _, hW9.2⟩
         have hJ9 := abideK hJa hJ8 hW9
         have hB9 := hB8.trans (hW9.1.mono (Nat.le_trans hn0 hB8.size))
         go_roundw
         case rel =>
           repeat apply Exists.intro
           exact ⟨⟨k + 1, pre2, Tw.om, (by rw [hx2, (show colR z k 0 t0 = [] from rfl), List.nil_append] <;> rfl), hJ9, hB9, rfl, (hR9.sub (fun p hp => by first | exact hp | (simp only [List.mem_cons, List.mem_append, List.nil_append, List.not_mem_nil, or_assoc, or_false, false_or] at hp ⊢ <;> grind)))⟩, rfl⟩
         case measure => (show cs.length - (intOf (.int .i64 (((k + 1) : Nat) : Int))).toNat < cs.length - (intOf (.int .i64 ((k : Nat) : Int))).toNat); simp only [intOf]; omega
       | true =>
         have h2 : ((t0 : Nat) : Int) < y6.tiers := of_decide_eq_true hd2
         clear hd2
         obtain ⟨r, rfl⟩ : ∃ r, r0 = r + 1 := ⟨r0 - 1, by omega⟩
         rw [show colR z k (r + 1) t0 = tierS z k t0 ++ colR z k r (t0 + 1) from rfl] at hx2
         refine wpIn_cond_true rfl ?_
         refine wpIn_skip ?_
         refine (show Code.wpIn _ _ _ _ _ _ _ from ?_)
         refine wpIn_seq ?_
         refine wpIn_block ?_
         refine wpIn_seq ?_
         refine wp_region_LI (W0 := (W8 : World)) [(b1, .cells (shC (.slice pc cs.length cc) (ov) t).toArray 32 (0, 0)), (b2, .cells #[.int .u8 ((z : Nat) : Int)] 5 (0, 0))] Tw.kr (hR8) ?_
         refine lm (v := .int .i64 ((t0 : Nat) : Int)) rfl rfl ?_
         refine lm (v := .int .i64 ((t0 : Nat) : Int)) rfl rfl ?_
         refine wpL_done (fun W10 hW10 => ?_)
         have hR10 : KS (W10 : World) [(b1, .cells (shC (.slice pc cs.length cc) (ov) t).toArray 32 (0, 0)), (b2, .cells #[.int .u8 ((z : Nat) : Int)] 5 (0, 0))] W10 := ⟨Below.refl _ _, hW10.2⟩
         have hJ10 := abideK hJa hJ8 hW10
         have hB10 := hB8.trans (hW10.1.mono (Nat.le_trans hn0 hB8.size))
         refine (show Code.wpIn _ _ _ _ _ _ _ from ?_)
         refine wpIn_seq ?_
         refine wp_region_LI (W0 := (W10 : World)) [(b1, .cells (shC (.slice pc cs.length cc) (ov) t).toArray 32 (0, 0)), (b2, .cells #[.int .u8 ((z : Nat) : Int)] 5 (0, 0))] Tw.kr (hR10) ?_
         refine lv (v := .int .u8 ((z : Nat) : Int)) rfl rfl (yb_cell (off := 0) rfl Tw.kr Tw.m1 Try.underlying5 rfl Tw.kr) ?_
         refine wpL_c (f := 82) (args := #[.int .u8 ((z : Nat) : Int)]) (OutHL u8C 5 [(b1, .cells (shC (.slice pc cs.length cc) (ov) t).toArray 32 (0, 0)), (b2, .cells #[.int .u8 ((z : Nat) : Int)] 5 (0, 0))] (hsX z)) rfl Tw.kr Tw.kf (fun W hW => calls_hl hW (halves_any z W)) Tw.pf ?_
         rintro _ _ ⟨ph, ch, Kh, rfl, hHL, hHT, hHN, rfl⟩
         have hTKh : ∀ p ∈ Kh, p.2.isCells = true ∧ ownT [40, 56] p.2 = false := fun p hp => by obtain ⟨cur, e⟩ := hHT p hp; rw [e]; exact ⟨rfl, rfl⟩
         obtain ⟨dj10_0, dj10_1⟩ : Dk b1 Kh ∧ Dk b2 Kh := Tw.djf hHN
         refine lp (v := .int .i64 ((((hsX z).length) : Nat) : Int)) rfl rfl (run_lenL (p := ph) (cap := ch) (n := (hsX z).length) rfl Try.underlying159 Tw.kr) ?_
         refine lm (v := .int .i64 0) rfl rfl ?_
         refine wpL_done (fun W11 hW11 => ?_)
         have hR11 : KS (W11 : World) ((b1, .cells (shC (.slice pc cs.length cc) (ov) t).toArray 32 (0, 0)) :: (b2, .cells #[.int .u8 ((z : Nat) : Int)] 5 (0, 0)) :: Kh) W11 := ⟨Below.refl _ _, hW11.2⟩
         have hJ11 := abideK hJa hJ10 hW11
         have hB11 := hB10.trans (hW11.1.mono (Nat.le_trans hn0 hB10.size))
         refine (show Code.wpIn _ _ _ _ _ _ _ from ?_)
         refine wpIn_block ?_
         gi_loopw [25] (fun u25 wr => ∃ (j : Nat) (pre3 : List Slt), (j ≤ (hsX z).length) ∧ (slotsX cs z = pre3 ++ (((hsX z).drop j).map (fun h => (⟨((k : Nat) : Int), ((t0 : Nat) : Int), h⟩ : Slt)) ++ (colR z k r (t0 + 1) ++ slotsF z (k + 1) (cs.drop (k + 1))))) ∧ (J pre3 wr) ∧ (Below n₀ w0 wr) ∧ u25 = .int .i64 ((j : Nat) : Int) ∧ KS (wr : World) ((b1, .cells (shC (.slice pc cs.length cc) (ov) t).toArray 32 (0, 0)) :: (b2, .cells #[.int .u8 ((z : Nat) : Int)] 5 (0, 0)) :: Kh) wr) (fun u25 _ => (hsX z).length - (intOf u25).toNat)
         case atStart => exact ⟨0, pre2, (Nat.zero_le _), (by rw [hx2, List.append_assoc]; rfl), hJ11, hB11, rfl, (hR11.sub (fun p hp => by first | exact hp | (simp only [List.mem_cons, List.mem_append, List.nil_append, List.not_mem_nil, or_assoc, or_false, false_or] at hp ⊢ <;> grind)))⟩
         case round =>
           obtain ⟨j, pre3, hj, hx3, hJl11, hBl11, rfl, hL12⟩ := hrel
           have hRl11 := hL12
           refine wpIn_seq ?_
           refine wp_region_LI (W0 := (wr : World)) ((b1, .cells (shC (.slice pc cs.length cc) (ov) t).toArray 32 (0, 0)) :: (b2, .cells #[.int .u8 ((z : Nat) : Int)] 5 (0, 0)) :: Kh) Tw.kr (hRl11) ?_
           refine lp (v := .bool (decide (j < ((hsX z).length)))) rfl rfl (run_bin rfl (vx := (.int .i64 ((j : Nat) : Int))) (vy := (.int .i64 ((((hsX z).length) : Nat) : Int))) Tw.kr Tw.kr fun w => bn_lss rfl w) ?_
           refine wpL_done (fun W13 hW13 => ?_)
           have hR13 : KS (W13 : World) ((b1, .cells (shC (.slice pc cs.length cc) (ov) t).toArray 32 (0, 0)) :: (b2, .cells #[.int .u8 ((z : Nat) : Int)] 5 (0, 0)) :: Kh) W13 := ⟨Below.refl _ _, hW13.2⟩
           have hJ13 := abideK hJa hJl11 hW13
           have hB13 := hBl11.trans (hW13.1.mono (Nat.le_trans hn0 hBl11.size))
           refine (show Code.wpIn _ _ _ _ _ _ _ from ?_)
           refine wpIn_seq ?_
           cases hd3 : (decide (j < ((hsX z).length))) with
           | false =>
             have h3 : ¬ (j < ((hsX z).length)) := of_decide_eq_false hd3
             clear hd3
             refine wpIn_cond_false rfl ?_
             refine wpIn_exit ?_
             refine (show Code.wpIn _ _ _ _ _ _ _ from ?_)
             refine wp_region_LI (W0 := (W13 : World)) ((b1, .cells (shC (.slice pc cs.length cc) (ov) t).toArray 32 (0, 0)) :: (b2, .cells #[.int .u8 ((z : Nat) : Int)] 5 (0, 0)) :: Kh) Tw.kr (hR13) ?_
             refine lp (v := .int .i64 (((t0 + 1) : Nat) : Int)) rfl rfl (run_bin rfl (vx := (.int .i64 ((t0 : Nat) : Int))) (vy := (.int .i64 ((1 : Nat) : Int))) Tw.kr Tw.kr fun w => bn_add (z := (t0 + 1)) rfl (wr_i64 Tw.om) w) ?_
             refine lm (v := .int .i64 (((t0 + 1) : Nat) : Int)) rfl rfl ?_
             refine wpL_done (fun W14 hW14 => ?_)
             have hR14 : KS (W14 : World) ((b1, .cells (shC (.slice pc cs.length cc) (ov) t).toArray 32 (0, 0)) :: (b2, .cells #[.int .u8 ((z : Nat) : Int)] 5 (0, 0)) :: Kh) W14 := ⟨Below.refl _ _, hW14.2⟩
             have hJ14 := abideK hJa hJ13 hW14
             have hB14 := hB13.trans (hW14.1.mono (Nat.le_trans hn0 hB13.size))
             go_roundw
             case rel =>
               repeat apply Exists.intro
               exact ⟨⟨t0 + 1, r, pre3, Tw.om, (by rw [hx3, (show ((hsX z).drop j).map (fun h => (⟨((k : Nat) : Int), ((t0 : Nat) : Int), h⟩ : Slt)) = [] from by rw [List.drop_eq_nil_of_le Tw.om]; rfl), List.nil_append] <;> rfl), hJ14, hB14, rfl, (hR14.sub (fun p hp => by first | exact hp | (simp only [List.mem_cons, List.mem_append, List.nil_append, List.not_mem_nil, or_assoc, or_false, false_or] at hp ⊢ <;> grind)))⟩, rfl⟩
             case measure => (show m - (intOf (.int .i64 (((t0 + 1) : Nat) : Int))).toNat < m - (intOf (.int .i64 ((t0 : Nat) : Int))).toNat); simp only [intOf]; omega
           | true =>
             have h3 : j < ((hsX z).length) := of_decide_eq_true hd3
             clear hd3
             refine wpIn_cond_true rfl ?_
             refine wpIn_skip ?_
             refine (show Code.wpIn _ _ _ _ _ _ _ from ?_)
             refine wpIn_seq ?_
             refine wpIn_block ?_
             refine wpIn_seq ?_
             refine wp_region_LI (W0 := (W13 : World)) ((b1, .cells (shC (.slice pc cs.length cc) (ov) t).toArray 32 (0, 0)) :: (b2, .cells #[.int .u8 ((z : Nat) : Int)] 5 (0, 0)) :: Kh) Tw.kr (hR13) ?_
             obtain ⟨y11, g11_, f11_, hy11, hp11, hc11⟩ := RL.at (HLx.rl hHL) u8C_len (by decide) (hR13.sub (fun p hp => by simp only [List.mem_cons, List.mem_append, List.nil_append, List.not_mem_nil, or_assoc, or_false, false_or, hp, true_or, or_true])) (k := j) Tw.om
             rw [tierS_drop hy11] at hx3
             refine lp (v := .pointer (some ⟨g11_, f11_ + j * 1, none⟩)) rfl rfl (run_idxQ (p := ph) (cap := ch) (n := (hsX z).length) (j := .i64) (k := j) (sz := 1) rfl Try.underlying159 Tw.kr Tw.kr hp11 Tw.kr Tw.om) ?_
             refine lv (v := .int .u8 ((y11 : Nat) : Int)) rfl rfl (yb_rf (v := .int .u8 ((y11 : Nat) : Int)) rfl Tw.kr (fun W hW => hc11 W (hW.sub (fun p hp => by simp only [List.mem_cons, List.mem_append, List.nil_append, List.not_mem_nil, or_assoc, or_false, false_or, hp, true_or, or_true])) 0 _ rfl) Try.underlying5 rfl) ?_
             refine lm (v := .int .u8 ((y11 : Nat) : Int)) rfl rfl ?_
             refine wpL_done (fun W15 hW15 => ?_)
             have hR15 : KS (W15 : World) ((b1, .cells (shC (.slice pc cs.length cc) (ov) t).toArray 32 (0, 0)) :: (b2, .cells #[.int .u8 ((z : Nat) : Int)] 5 (0, 0)) :: Kh) W15 := ⟨Below.refl _ _, hW15.2⟩
             have hJ15 := abideK hJa hJ13 hW15
             have hB15 := hB13.trans (hW15.1.mono (Nat.le_trans hn0 hB13.size))
             refine (show Code.wpIn _ _ _ _ _ _ _ from ?_)
             refine wpIn_seq ?_
             refine wp_region_S (W0 := (W15 : World)) (List.take 5 _) (List.drop 5 _) ((b1, .cells (shC (.slice pc cs.length cc) (ov) t).toArray 32 (0, 0)) :: (b2, .cells #[.int .u8 ((z : Nat) : Int)] 5 (0, 0)) :: Kh) (List.take_append_drop 5 _).symm Tw.kr (hR15) ?_
             simp only [List.take_succ_cons, List.take_zero, List.drop_succ_cons, List.drop_zero]
             refine lm (v := .func (.yield l) #[] #[]) rfl rfl ?_
             refine lm (v := .int .i64 ((k : Nat) : Int)) rfl rfl ?_
             refine lm (v := .int .i64 ((t0 : Nat) : Int)) rfl rfl ?_
             refine lm (v := .int .u8 ((y11 : Nat) : Int)) rfl rfl ?_
             refine lm (v := .agg #[.int .i64 ((k : Nat) : Int), .int .i64 ((t0 : Nat) : Int), .int .u8 ((y11 : Nat) : Int)]) rfl rfl ?_
             refine wpL_done (fun W16 hW16 => ?_)
             have hR16 : KS (W16 : World) ((b1, .cells (shC (.slice pc cs.length cc) (ov) t).toArray 32 (0, 0)) :: (b2, .cells #[.int .u8 ((z : Nat) : Int)] 5 (0, 0)) :: Kh) W16 := ⟨Below.refl _ _, hW16.2⟩
             have hJ16 := abideK hJa hJ15 hW16
             have hB16 := hB15.trans (hW16.1.mono (Nat.le_trans hn0 hB15.size))
             refine (show wpListIn _ _ _ _ _ _ _ _ from ?_)
             have hYY := hYd pre3 (⟨((k : Nat) : Int), ((t0 : Nat) : Int), y11⟩ : Slt) W16 hJ16 (by rw [hx3]; simp)
             refine wpl_yield rfl rfl Tw.kr Tw.kr Tw.kr rfl hYY Tw.pu Tw.pu (fun W17 hA17 => ?_) (fun W17 hX17 => ?_)
             · obtain ⟨hJy17, hKy17⟩ := hA17
               have hko17 : ∀ p ∈ (((b1, .cells (shC (.slice pc cs.length cc) (ov) t).toArray 32 (0, 0)) :: (b2, .cells #[.int .u8 ((z : Nat) : Int)] 5 (0, 0)) :: Kh) : List (Nat × Obj)), p.2.isCells = true ∧ ownT [40, 56] p.2 = false := (List.forall_mem_cons.2 ⟨⟨rfl, rfl⟩, (List.forall_mem_cons.2 ⟨⟨rfl, rfl⟩, hTKh⟩)⟩)
               have hR17 : KS (W17 : World) ((b1, .cells (shC (.slice pc cs.length cc) (ov) t).toArray 32 (0, 0)) :: (b2, .cells #[.int .u8 ((z : Nat) : Int)] 5 (0, 0)) :: Kh) W17 := ⟨Below.refl _ _, fun p hp => hKy17.same _ _ (hR16.2 p hp) (hko17 p hp).1 (hko17 p hp).2⟩
               have hB17 := hB16.trans hKy17.below
               refine wpl_rest (W0 := (W17 : World)) ((b1, .cells (shC (.slice pc cs.length cc) (ov) t).toArray 32 (0, 0)) :: (b2, .cells #[.int .u8 ((z : Nat) : Int)] 5 (0, 0)) :: Kh) Tw.kr (hR17) ?_
               refine lm (v := .bool false) rfl rfl ?_
               refine wpL_done (fun W18 hW18 => ?_)
               have hR18 : KS (W18 : World) ((b1, .cells (shC (.slice pc cs.length cc) (ov) t).toArray 32 (0, 0)) :: (b2, .cells #[.int .u8 ((z : Nat) : Int)] 5 (0, 0)) :: Kh) W18 := ⟨Below.refl _ _, hW18.2⟩
               have hJ18 := abideK hJa hJy17 hW18
               have hB18 := hB17.trans (hW18.1.mono (Nat.le_trans hn0 hB17.size))
               refine (show Code.wpIn _ _ _ _ _ _ _ from ?_)
               refine wpIn_cond_false rfl ?_
               refine wpIn_skip ?_
               refine (show Code.wpIn _ _ _ _ _ _ _ from ?_)
               refine wp_region_LI (W0 := (W18 : World)) ((b1, .cells (shC (.slice pc cs.length cc) (ov) t).toArray 32 (0, 0)) :: (b2, .cells #[.int .u8 ((z : Nat) : Int)] 5 (0, 0)) :: Kh) Tw.kr (hR18) ?_
               refine lp (v := .int .i64 (((j + 1) : Nat) : Int)) rfl rfl (run_bin rfl (vx := (.int .i64 ((j : Nat) : Int))) (vy := (.int .i64 ((1 : Nat) : Int))) Tw.kr Tw.kr fun w => bn_add (z := (j + 1)) rfl (wr_i64 Tw.om) w) ?_
               refine lm (v := .int .i64 (((j + 1) : Nat) : Int)) rfl rfl ?_
               refine wpL_done (fun W19 hW19 => ?_)
               have hR19 : KS (W19 : World) ((b1, .cells (shC (.slice pc cs.length cc) (ov) t).toArray 32 (0, 0)) :: (b2, .cells #[.int .u8 ((z : Nat) : Int)] 5 (0, 0)) :: Kh) W19 := ⟨Below.refl _ _, hW19.2⟩
               have hJ19 := abideK hJa hJ18 hW19
               have hB19 := hB18.trans (hW19.1.mono (Nat.le_trans hn0 hB18.size))
               go_roundw
               case rel =>
                 repeat apply Exists.intro
                 exact ⟨⟨j + 1, (pre3 ++ [(⟨((k : Nat) : Int), ((t0 : Nat) : Int), y11⟩ : Slt)]), Tw.om, (by rw [hx3]; simp), hJ19, hB19, rfl, (hR19.sub (fun p hp => by first | exact hp | (simp only [List.mem_cons, List.mem_append, List.nil_append, List.not_mem_nil, or_assoc, or_false, false_or] at hp ⊢ <;> grind)))⟩, rfl⟩
               case measure => (show (hsX z).length - (intOf (.int .i64 (((j + 1) : Nat) : Int))).toNat < (hsX z).length - (intOf (.int .i64 ((j : Nat) : Int))).toNat); simp only [intOf]; omega
             · refine wpl_rest (W0 := (W17 : World)) [] Tw.kr ((KS.start W17)) ?_
               refine lm (v := .bool true) rfl rfl ?_
               refine wpL_done (fun W20 hW20 => ?_)
               refine (show Code.wpIn _ _ _ _ _ _ _ from ?_)
               refine wpIn_cond_true rfl ?_
               refine wpIn_ret ?_
               try simp only [inBlock_ret, then_ret]
               refine bodyPost_ret (results_none rfl _ _ _) rfl ?_
               exact ⟨⟨_, rfl⟩, .inr ⟨_, trivial, abideK hJxa hX17 hW20⟩⟩
end Go.Proofs.Ytnbfljcilojllaa
namespace Go.Proofs.Ytnbfljcilojllaa
open Go Go.RowKit Tw
set_option maxRecDepth 100000 in
set_option maxHeartbeats 4000000 in
theorem AppendSeq_any {W0 : Base} (gf : Nat) (lb : Array Value) (xs : List Slt) (hN : xs.length ≤ 4000000) (v : Value) (Kv : List (Nat × Obj)) (hO : OwnL W0 40 3 v 0 (([] : List Slt).flatMap sltC) Kv) (w : World) (hw : KS W0 Kv w) (eg : ∀ args W, (callFunc gf args).run Try.prog W = .ok (.enter gf args) W)
   (hseq : SeqStopsK (FX none) 0 Try.prog gf lb encSl (KpT [40, 56] W0.B) (fun ys => ys = xs) (fun _ => True) xs.length w) :
   Calls Try.prog 58 #[v, .func (.func gf) #[] lb] w fun e w' => ∃ v' Kl, e = .returned v' ∧ KS W0 Kl w' ∧ OwnL W0 40 3 v' xs.length (xs.flatMap sltC) Kl := by
 obtain ⟨pv, cv, rfl⟩ := own_shape hO
 refine (callsIn_wide (n := 0)).1 ?_
 refine callsIn_of_wp_marks Try.func58 rfl trivial ?_
 simp only [Try.ntmps58, List.size_toArray, List.length_cons, List.length_nil, Nat.reduceAdd, Nat.reduceSub, Array.replicate_succ, Array.replicate_zero, List.push_toArray, List.append_toArray, List.nil_append, List.cons_append]
 refine wpIn_seq ?_
 refine wp_region_LI (W0 := (w : World)) [] Tw.kr ((KS.start w)) ?_
 refine wpL_new (fun g => .pointer (some ⟨g, 0, none⟩)) (obi := .cells #[.slice pv 0 cv] 56 (0, 0)) rfl rfl Tw.kf Tw.pf fun g1 Bg1 Fg1 => ?_
 refine lm (v := .slice none 0 0) rfl rfl ?_
 refine wpL_done (fun W1 hW1 => ?_)
 refine (show Code.wpIn _ _ _ _ _ _ _ from ?_)
 refine wpIn_seq ?_
 refine wpIn_seq ?_
 refine wp_region_LI (W0 := (w : World)) [(g1, .cells #[.slice pv 0 cv] 56 (0, 0))] Tw.kr (hW1) ?_
 refine lm (v := .func (.func gf) #[] lb) rfl rfl ?_
 refine wpL_done (fun W2 hW2 => ?_)
 refine (show Code.wpIn _ _ _ _ _ _ _ from ?_)
 refine wpIn_block ?_
 have hK0 : KS W0 ((g1, .cells #[.slice pv 0 cv] 56 (0, 0)) :: Kv) W2 := ⟨(hw.below hW2.1).1, List.forall_mem_cons.2 ⟨hW2.2 _ Tw.m0, (hw.below hW2.1).2⟩⟩
 refine range_k (α := Slt) (ts := [40, 56]) (gf := gf) (lb := lb) Tw.kr eg (encs := encSl) W0 hseq hW2.1 (fun _ => rfl) (ASI W0 g1) (fun _ _ => False) asi_cells (fun _ _ h => h.elim) ⟨_, Kv, rfl, hO, own_low hw (by assumption)⟩ hK0 ?round ?done ?stop
 case round =>
   rintro L pre x K W ⟨vo, Kl, rfl, hOl, hNl⟩ hK hlen
   have hn : W0.B ≤ W.heap.size := hK.size
   obtain ⟨Kr, hKr⟩ : ∃ Kr, Kr = restT [40, 56] W := ⟨_, rfl⟩
   have hS := at_start [40, 56] hn hK
   rw [← hKr] at hS
   have f1 : Dk g1 Kr := by rw [hKr]; exact restT_ne (hK.2 _ Tw.m0) rfl
   have f2 : Dj Kl Kr := by rw [hKr]; exact own_rest hOl hK (fun p hp => .tail _ hp) Tw.m0
   generalize hF : Array.foldl _ _ _ _ _ = F
   obtain rfl : F = #[.slice pv 0 cv, .func (.func gf) #[] lb, .pointer (some ⟨g1, 0, none⟩), undef, .slice none 0 0, undef, .func (.func gf) #[] lb, .agg (sltC x).toArray, undef, undef, undef, undef, undef] := hF.symm.trans Tw.kr
   clear hF
   obtain ⟨po, co, rfl⟩ := own_shape hOl
   have hOa : OwnL (atB W0 W hn) 40 3 (.slice po pre.length co) pre.length (pre.flatMap sltC) Kl := hOl
   have hg2B : W0.B ≤ g1 := Nat.le_trans hw.size (by assumption)
   refine wp_region_LI (W0 := (atB W0 W hn)) ((g1, .cells #[.slice po pre.length co] 56 (0, 0)) :: (Kl ++ Kr)) Tw.kr (hS) ?_
   refine wpL_new (fun g => .pointer (some ⟨g, 0, none⟩)) (obi := .cells #[.int .i64 0, .int .i64 0, .int .u8 0] 40 (0, 0)) rfl rfl Tw.kf Tw.pf fun g2 Bg2 Fg2 => ?_
   obtain ⟨dj3_0, dj3_1, dj3_2⟩ : g1 ≠ g2 ∧ Dk g2 Kl ∧ Dk g2 Kr := Tw.dkf Fg2
   refine wpL_s ((g2, .cells (sltC x).toArray 40 (0, 0)) :: (g1, .cells #[.slice po pre.length co] 56 (0, 0)) :: (Kl ++ Kr)) rfl rfl (st_row (off := 0) (v := .agg (sltC x).toArray) rfl Tw.kr Tw.kr Tw.m0 Bg2 Tw.kr (by first | (simp [Value.cells]; done) | exact Nat.le_of_ble_eq_true rfl) (fun v hv => sltC_one x v hv) Tw.kr (List.forall_mem_cons.2 ⟨.inl rfl, (List.forall_mem_cons.2 ⟨.inr ⟨Tw.m1, Tw.nee⟩, (fun p hp => .inr ⟨(.tail _ (.tail _ hp)), ((show Dk g2 (Kl ++ Kr) from Tw.djt) _ hp)⟩)⟩)⟩)) ?_
   refine wpL_done (fun W3 hW3 => ?_)
   refine (show (KpA [40, 56] W W3 ∧ Below W0.B W W3 ∧ ∃ K2, (∀ p ∈ K2, p.2.isCells = true) ∧ KS W0 K2 W3 ∧ ∀ W3, KS W0 K2 W3 → _) from ?_)
   refine ⟨at_kp hW3 (fun p hp => by rw [← hKr] at hp; simp only [List.mem_cons, List.mem_append, hp, or_true]), hW3.1, ((g2, .cells (sltC x).toArray 40 (0, 0)) :: (g1, .cells #[.slice po pre.length co] 56 (0, 0)) :: Kl), List.forall_mem_cons.2 ⟨rfl, List.forall_mem_cons.2 ⟨rfl, own_cells hOl⟩⟩, (at_back hK hW3).sub (fun p hp => by simp only [List.mem_cons, List.mem_append] at hp ⊢; grind), fun V3 hV3 => ?_⟩
   have hn3 : W0.B ≤ V3.heap.size := hV3.size
   obtain ⟨Kq, hKq⟩ : ∃ Kq, Kq = restT [40, 56] V3 := ⟨_, rfl⟩
   have hS3 := at_start [40, 56] hn3 hV3
   rw [← hKq] at hS3
   have f3 : Dk g1 Kq := by rw [hKq]; exact restT_ne (hV3.2 _ Tw.m1) rfl
   have f5 : Dk g2 Kq := by rw [hKq]; exact restT_ne (hV3.2 _ Tw.m0) rfl
   have f4 : Dj Kl Kq := by rw [hKq]; exact own_rest hOl hV3 (fun p hp => .tail _ (.tail _ hp)) Tw.m0
   have hOb : OwnL (atB W0 V3 hn3) 40 3 (.slice po pre.length co) pre.length (pre.flatMap sltC) Kl := hOl
   have hg5B : W0.B ≤ g2 := by assumption
   refine wpIn_block ?_
   refine wp_region_LI (W0 := (atB W0 V3 hn3)) ((g2, .cells (sltC x).toArray 40 (0, 0)) :: (g1, .cells #[.slice po pre.length co] 56 (0, 0)) :: (Kl ++ Kq)) Tw.kr (hS3) ?_
   refine lv (v := .slice po pre.length co) rfl rfl (yb_cell (off := 0) rfl Tw.kr Tw.m1 Try.underlying56 rfl Tw.kr) ?_
   refine lv (v := .agg (sltC x).toArray) rfl rfl (yb_load (n := 3) (off := 0) rfl Tw.kr Tw.m0 Try.underlying40 rfl Tw.kr (by first | (simp [Value.cells]; done) | exact Nat.le_of_ble_eq_true rfl) Tw.kr) ?_
   refine wpL_new (fun g => .slice (some ⟨g, 0, none⟩) 1 1) (obi := .cells (sltC x).toArray 40 (0, 0)) rfl rfl Tw.kf Tw.pf fun g4 Bg4 Fg4 => ?_
   obtain ⟨dj5_0, dj5_1, dj5_2, dj5_3⟩ : g2 ≠ g4 ∧ g1 ≠ g4 ∧ Dk g4 Kl ∧ Dk g4 Kq := Tw.dkf Fg4
   refine wpL_g (AppO (atB W0 V3 hn3) 40 3 ((g2, .cells (sltC x).toArray 40 (0, 0)) :: (g1, .cells #[.slice po pre.length co] 56 (0, 0)) :: Kq) (pre.length + 1) ((pre.flatMap sltC) ++ [.int .i64 x.col, .int .i64 x.tier, .int .u8 ((x.half : Nat) : Int)])) rfl rfl (app_own el_slt (m := 1) (c := 1) (news := [.int .i64 x.col, .int .i64 x.tier, .int .u8 ((x.half : Nat) : Int)]) rfl Tw.kr Tw.kr Tw.m0 hOb Tw.sc (fun p hp => ⟨by simp only [List.mem_cons, List.mem_append, List.nil_append, List.not_mem_nil, or_assoc, or_false, false_or] at hp ⊢ <;> grind, (show Dj ((g2, .cells (sltC x).toArray 40 (0, 0)) :: (g1, .cells #[.slice po pre.length co] 56 (0, 0)) :: Kq) Kl from Tw.djt) p hp⟩) rfl (by simp [strV, Value.oneCell']) Tw.om Tw.om Tw.om) Tw.pf ?_
   rintro v6 K9 ⟨Kl6, O6, N6, rfl⟩
   obtain ⟨dj7_0, dj7_1, dj7_2⟩ : Dk g2 Kl6 ∧ Dk g1 Kl6 ∧ Dj Kq Kl6 := Tw.djf N6
   obtain ⟨p8, c8, rfl⟩ := own_shape O6
   refine wpL_s ((g2, .cells (sltC x).toArray 40 (0, 0)) :: (g1, .cells #[.slice p8 (pre.length + 1) c8] 56 (0, 0)) :: (Kq ++ Kl6)) rfl rfl (st_row (off := 0) (v := .slice p8 (pre.length + 1) c8) rfl Tw.kr Tw.kr Tw.m1 (show W0.B ≤ _ from hg2B) Tw.kr (by first | (simp [Value.cells]; done) | exact Nat.le_of_ble_eq_true rfl) (by intro v hv; simp [Value.cells] at hv; first | (subst hv; rfl) | (rcases hv with rfl <;> rfl)) Tw.kr (List.forall_mem_cons.2 ⟨.inr ⟨Tw.m0, Tw.nee⟩, (List.forall_mem_cons.2 ⟨.inl rfl, (fun p hp => .inr ⟨(.tail _ (.tail _ hp)), ((show Dk g1 (Kq ++ Kl6) from Tw.djt) _ hp)⟩)⟩)⟩)) ?_
   refine wpL_done (fun W4 hW4 => ?_)
   refine (show (KpA [40, 56] V3 W4 ∧ Below W0.B V3 W4 ∧ ∃ K, ASI W0 g1 (pre ++ [x]) K ∧ KS W0 K W4) from ?_)
   exact ⟨at_kp hW4 (fun p hp => by rw [← hKq] at hp; simp only [List.mem_cons, List.mem_append, hp, or_true, true_or]), hW4.1, _, ⟨_, _, rfl, own_app O6 (by rw [List.flatMap_append]; rfl) (by rw [List.length_append]; rfl), (show Dk g1 Kl6 from Tw.djt)⟩, (at_back hV3 hW4).sub (fun p hp => by simp only [List.mem_cons, List.mem_append] at hp ⊢; grind)⟩
 case stop =>
   rintro D pre K W _ hf
   exact hf.elim
 case done =>
   rintro D ys K W rfl ⟨vd, Kd, rfl, hOd, hNd⟩ hK hD
   obtain ⟨pd, cd, rfl⟩ := own_shape hOd
   refine (show Code.wpIn _ _ _ _ _ _ _ from ?_)
   refine wpIn_seq ?_
   refine wp_region_LI (W0 := W0) ((D, .deferred (some [])) :: (g1, .cells #[.slice pd ys.length cd] 56 (0, 0)) :: Kd) Tw.kr (hK) ?_
   refine lv (v := .slice pd ys.length cd) rfl rfl (yb_cell (off := 0) rfl Tw.kr Tw.m1 Try.underlying56 rfl Tw.kr) ?_
   refine lm (v := .slice pd ys.length cd) rfl rfl ?_
   refine wpL_done (fun W5 hW5 => ?_)
   refine (show Code.wpIn _ _ _ _ _ _ _ from ?_)
   refine wpIn_ret ?_
   try simp only [inBlock_ret, then_ret]
   have hD4 := hW5.2 (D, _) Tw.m0
   refine ⟨by simp, .inl ⟨_, _, rfl, run_takeDeferred hD4, ?_⟩⟩
   exact ⟨.slice pd ys.length cd, Tw.kr, _, Kd, rfl, ks_putN _ (hW5.sub (fun p hp => .tail _ (.tail _ hp))) (own_cells hOd) (Nat.le_trans (Nat.le_trans hw.size hW2.1.size) hD) hD4 rfl, hOd⟩
end Go.Proofs.Ytnbfljcilojllaa
/- Several operations of a drawn region are ready. Over any program. -/
namespace Tw
open Go Go.RowKit Go.Proofs.Ytnbfljcilojllaa
section
variable {P : Program} {md : Region.Mode} {ops : Array Oper} {Q : Exit → Act → World → Prop} {W0 : Base}
theorem stepV_nsx {i : Nat} {oi : Oper} {d : Nat} {obi : Obj} {n : Nat} {listed : Array Bool} {tm : Array Value} {df : List Deferred} {K : List (Nat × Obj)} {T : Nat → Array Value} (mk : Nat → Value)
   (hi : ops[i]? = some oi) (hdi : oi.dst = some d) (hgi : oi.guard = none) (hai : ∀ w, (execOp (Act.eval ⟨tm, df⟩) oi).run P w = .ok (.value (mk w.heap.size)) (w.alloc obi))
   (hT : ∀ g, (tm.setIfInBounds d (mk g)) = T g)
   (h : ∀ g, W0.B ≤ g → (∀ p ∈ K, p.1 ≠ g) → wpV P md ops Q W0 n (listed.setIfInBounds i true) ⟨T g, df⟩ ((g, obi) :: K)) : StepV P md ops Q W0 n listed ⟨tm, df⟩ K i := by
 refine stepV_alloc mk hi (wanted_no hgi) hai fun g hg hf => ?_
 rw [hdi]
 simp only [Act.put]
 rw [hT g]
 exact h g hg hf
theorem stepV_cx {i : Nat} {oi : Oper} {d n : Nat} {listed : Array Bool} {tm : Array Value} {df : List Deferred} {K : List (Nat × Obj)} {T : Value → Array Value} {f : FuncId} {args : Array Value} (G : Value → List (Nat × Obj) → Prop)
   (hi : ops[i]? = some oi) (hdi : oi.dst = some d) (hw : Region.wanted oi (yielded ops tm) = true)
   (hf : ∀ w, (execOp (Act.eval ⟨tm, df⟩) oi).run P w = .ok (.enter f args) w)
   (hc : ∀ w, KS W0 K w → Calls P f args w fun e w' => ∃ v K', e = .returned v ∧ KS W0 K' w' ∧ G v K') (hm : ∀ v K', G v K' → ∀ p ∈ K, p ∈ K')
   (hT : ∀ v, tm.setIfInBounds d v = T v)
   (h : ∀ v K', G v K' → wpV P md ops Q W0 n (listed.setIfInBounds i true) ⟨T v, df⟩ K') : StepV P md ops Q W0 n listed ⟨tm, df⟩ K i := by
 refine ⟨oi, hi, .inr (.inr (.inr ⟨G, .inr (.inl hm), ⟨hw, fun w hK => ?_⟩, fun v K' hG => ?_⟩))⟩
 · unfold Oto
   rw [hf w]
   exact (hc w hK).mono fun e w' ⟨v, K', he, hk, hG⟩ => ⟨v, he, K', hk, hG⟩
 · rw [hdi]
   simp only [Act.put]
   rw [hT v]
   exact h v K' hG
end
end Tw
namespace Go.Proofs.Ytnbfljcilojllaa
open Go Go.RowKit Tw
set_option maxRecDepth 100000 in
set_option maxHeartbeats 4000000 in
theorem count_any (cs : List Col) (pc : Option Addr) (cc : Nat) (lc : cs.length ≤ 1000) (os : List Cov) (po : Option Addr) (co : Nat) (lo : os.length ≤ 4000000000) (t : Tl) (ht : ∀ c ∈ cs, c.tiers ≤ 1000) (z : Nat) (w : World) (hc : SLV w pc (cs.flatMap colC)) (ho : SLV w po (os.flatMap covC)) : Calls Try.prog 57 #[.agg (shC (.slice pc cs.length cc) (.slice po os.length co) t).toArray, .int .u8 ((z : Nat) : Int)] w fun e w' => e = .returned (.int .i64 ((posT cs * (hsX z).length : Nat) : Int)) ∧ Below w.heap.size w w' := by
 have HC := Lib.hid hc
 clear hc
 have HO := Lib.hid ho
 clear ho
 have hh2 := hsX_len z
 have hpt := posT_take 1000 ht
 go_enter Try.func57, Try.ntmps57
 refine wp_seq ?_
 refine wp_region_L [] (KS.start w) ?_
 refine wpL_new (fun g => .pointer (some ⟨g, 0, none⟩)) (obi := .cells (shC (.slice pc cs.length cc) (.slice po os.length co) t).toArray 32 (0, 0)) rfl rfl Tw.kf Tw.pf fun g1 Bg1 Fg1 => ?_
 refine lm (v := .int .i64 0) rfl rfl ?_
 refine wpL_done (fun W1 hW1 => ?_)
 change Code.wp ..
 refine wp_seq ?_
 refine wp_region_L _ hW1 ?_
 refine lm (v := .int .i64 0) rfl rfl ?_
 refine wpL_done (fun W2 hW2 => ?_)
 change Code.wp ..
 refine wp_seq ?_
 refine wp_seq ?_
 refine wp_region_L _ hW2 ?_
 refine lm (v := .pointer (some ⟨g1, 0, none⟩)) rfl rfl ?_
 refine lv (v := .slice pc cs.length cc) rfl rfl (yb_cell (off := 0) rfl Tw.kr Tw.m0 Try.underlying22 rfl Tw.kr) ?_
 refine lp (v := .int .i64 ((cs.length : Nat) : Int)) rfl rfl (run_lenL (p := pc) (cap := cc) (n := cs.length) rfl Try.underlying22 Tw.kr) ?_
 refine lm (v := .int .i64 0) rfl rfl ?_
 refine wpL_done (fun W3 hW3 => ?_)
 change Code.wp ..
 refine wp_block ?_
 go_loopw [11, 5] (fun u11 u5 wr => ∃ (k : Nat), (k ≤ cs.length) ∧ u11 = .int .i64 ((k : Nat) : Int) ∧ u5 = .int .i64 (((posT (cs.take k)) : Nat) : Int) ∧ KS w [(g1, .cells (shC (.slice pc cs.length cc) (.slice po os.length co) t).toArray 32 (0, 0))] wr) (fun u11 _ _ => cs.length - (intOf u11).toNat)
 case atStart => exact ⟨0, (Nat.zero_le _), rfl, rfl, (hW3.sub (fun p hp => by first | exact hp | (simp only [List.mem_cons, List.mem_append, List.nil_append, List.not_mem_nil, or_assoc, or_false, false_or] at hp ⊢ <;> grind)))⟩
 case round =>
   obtain ⟨k, hk, rfl, rfl, hL4⟩ := hrel
   have hpk := hpt k
   refine wp_seq ?_
   refine wp_region_L _ hL4 ?_
   refine lp (v := .bool (decide (k < cs.length))) rfl rfl (run_bin rfl (vx := (.int .i64 ((k : Nat) : Int))) (vy := (.int .i64 ((cs.length : Nat) : Int))) Tw.kr Tw.kr fun w => bn_lss rfl w) ?_
   refine wpL_done (fun W5 hW5 => ?_)
   change Code.wp ..
   refine wp_seq ?_
   cases hd1 : (decide (k < cs.length)) with
   | false =>
     have h1 : ¬ (k < cs.length) := of_decide_eq_false hd1
     clear hd1
     refine wp_cond_false rfl ?_
     refine wp_exit ?_
     change Code.wp ..
     refine wp_seq ?_
     refine wp_region_L _ hW5 ?_
     refine lm (v := .int .i64 (((posT (cs.take k)) : Nat) : Int)) rfl rfl ?_
     refine lm (v := .int .u8 ((z : Nat) : Int)) rfl rfl ?_
     refine wpL_c (f := 82) (args := #[.int .u8 ((z : Nat) : Int)]) (OutRL u8C w [(g1, .cells (shC (.slice pc cs.length cc) (.slice po os.length co) t).toArray 32 (0, 0))] (hsX z)) rfl Tw.kr Tw.kf (fun W hW => calls_r hW (halves_any z W)) Tw.pf ?_
     rintro _ _ ⟨p2, c2, Kl2, rfl, n2, R2, N2, rfl⟩
     obtain dj3_0 : Dk g1 Kl2 := Tw.djf N2
     refine lp (v := .int .i64 ((((hsX z).length) : Nat) : Int)) rfl rfl (run_lenL (p := p2) (cap := c2) (n := (hsX z).length) rfl Try.underlying159 Tw.kr) ?_
     refine lp (v := .int .i64 ((((posT (cs.take k)) * ((hsX z).length)) : Nat) : Int)) rfl rfl (run_bin rfl (vx := (.int .i64 (((posT (cs.take k)) : Nat) : Int))) (vy := (.int .i64 ((((hsX z).length) : Nat) : Int))) Tw.kr Tw.kr fun w => bn_mul (z := ((posT (cs.take k)) * ((hsX z).length))) rfl (wr_i64 (by have h3 := Nat.mul_le_mul hpk hh2; omega)) w) ?_
     refine lm (v := .int .i64 ((((posT (cs.take k)) * ((hsX z).length)) : Nat) : Int)) rfl rfl ?_
     refine wpL_done (fun W6 hW6 => ?_)
     change Code.wp ..
     refine wp_ret ?_
     try simp only [inBlock_ret, then_ret]
     refine bodyPost_ret (v := .int .i64 ((((posT (cs.take k)) * ((hsX z).length)) : Nat) : Int)) ?_ rfl ?_
     · kernel_rfl
     · exact ⟨(int_is (by rw [posT_all Tw.om])), hW6.1⟩
   | true =>
     have h1 : k < cs.length := of_decide_eq_true hd1
     clear hd1
     refine wp_cond_true rfl ?_
     refine wp_skip ?_
     change Code.wp ..
     refine wp_seq ?_
     refine wp_block ?_
     refine wp_seq ?_
     refine wp_region_L _ hW5 ?_
     obtain ⟨y4, g4_, f4_, hy4, hp4, hc4⟩ := RL.at (RL.base HC.out) colC_len (by decide) (hW5.sub (fun _ h => by cases h)) (k := k) Tw.om
     have hty4 := ht y4 (List.mem_of_getElem? hy4)
     have hpk1 := hpt (k + 1)
     refine lp (v := .pointer (some ⟨g4_, f4_ + k * 12, none⟩)) rfl rfl (run_idxQ (p := pc) (cap := cc) (n := cs.length) (j := .i64) (k := k) (sz := 12) rfl Try.underlying22 Tw.kr Tw.kr hp4 Tw.kr Tw.om) ?_
     refine lv (v := .agg (colC y4).toArray) rfl rfl (yb_rs (off := f4_ + k * 12) (cs := colC y4) rfl Tw.kr (fun W hW => hc4 W (hW.sub (fun _ h => by cases h))) Try.underlying46 rfl Tw.kr) ?_
     refine wpL_new (fun g => .pointer (some ⟨g, 0, none⟩)) (obi := .cells #[.int .i64 0, .int .i64 0, .bool false, .int .i64 0, .int .i64 0, .int .i64 0, .int .i64 0, .int .i64 0, .slice none 0 0, .int .i64 0, .int .i64 0, .int .i64 0] 46 (0, 0)) rfl rfl Tw.kf Tw.pf fun g5 Bg5 Fg5 => ?_
     obtain dj6_0 : g1 ≠ g5 := Tw.dkf Fg5
     refine wpL_s [(g5, .cells (colC y4).toArray 46 (0, 0)), (g1, .cells (shC (.slice pc cs.length cc) (.slice po os.length co) t).toArray 32 (0, 0))] rfl rfl (st_row (off := 0) (v := .agg (colC y4).toArray) rfl Tw.kr Tw.kr Tw.m0 Bg5 Tw.kr (by first | (simp [Value.cells]; done) | exact Nat.le_of_ble_eq_true rfl) (fun v hv => colC_one y4 v hv) Tw.kr (List.forall_mem_cons.2 ⟨.inl rfl, (List.forall_mem_cons.2 ⟨.inr ⟨Tw.m1, Tw.nee⟩, (List.forall_mem_nil _)⟩)⟩)) ?_
     refine wpL_done (fun W7 hW7 => ?_)
     change Code.wp ..
     refine wp_region_L _ hW7 ?_
     refine lm (v := .int .i64 (((posT (cs.take k)) : Nat) : Int)) rfl rfl ?_
     refine lm (v := .pointer (some ⟨g5, 3, none⟩)) rfl rfl ?_
     refine lv (v := .int .i64 y4.tiers) rfl rfl (yb_cell (off := 3) rfl Tw.kr Tw.m0 Try.underlying3 rfl Tw.kr) ?_
     refine lp (v := .int .i64 (((y4.tiers.toNat) : Nat) : Int)) rfl rfl (run_max2 (x := y4.tiers) (y := 0) (z := (((y4.tiers.toNat) : Nat) : Int)) rfl Tw.kr Tw.kr Tw.om) ?_
     refine lp (v := .int .i64 (((y4.tiers.toNat) : Nat) : Int)) rfl rfl (run_min2 (x := (((y4.tiers.toNat) : Nat) : Int)) (y := 89478486) (z := (((y4.tiers.toNat) : Nat) : Int)) rfl Tw.kr Tw.kr Tw.om) ?_
     refine lp (v := .int .i64 (((posT (cs.take (k + 1))) : Nat) : Int)) rfl rfl (run_bin rfl (vx := (.int .i64 (((posT (cs.take k)) : Nat) : Int))) (vy := (.int .i64 (((y4.tiers.toNat) : Nat) : Int))) Tw.kr Tw.kr fun w => bn_add (z := (posT (cs.take (k + 1)))) (posT_step hy4).symm (wr_i64 Tw.om) w) ?_
     refine lm (v := .int .i64 (((posT (cs.take (k + 1))) : Nat) : Int)) rfl rfl ?_
     refine wpL_done (fun W8 hW8 => ?_)
     change Code.wp ..
     refine wp_region_L _ hW8 ?_
     refine lp (v := .int .i64 (((k + 1) : Nat) : Int)) rfl rfl (run_bin rfl (vx := (.int .i64 ((k : Nat) : Int))) (vy := (.int .i64 ((1 : Nat) : Int))) Tw.kr Tw.kr fun w => bn_add (z := (k + 1)) rfl (wr_i64 Tw.om) w) ?_
     refine lm (v := .int .i64 (((k + 1) : Nat) : Int)) rfl rfl ?_
     refine wpL_done (fun W9 hW9 => ?_)
     go_roundw
     case rel =>
       repeat apply Exists.intro
       exact ⟨⟨k + 1, Tw.om, rfl, rfl, (hW9.sub (fun p hp => by first | exact hp | (simp only [List.mem_cons, List.mem_append, List.nil_append, List.not_mem_nil, or_assoc, or_false, false_or] at hp ⊢ <;> grind)))⟩, rfl⟩
     case measure => (show cs.length - (intOf (.int .i64 (((k + 1) : Nat) : Int))).toNat < cs.length - (intOf (.int .i64 ((k : Nat) : Int))).toNat); simp only [intOf]; omega
set_option maxRecDepth 100000 in
set_option maxHeartbeats 4000000 in
theorem slots_any {W0 : Base} {K : List (Nat × Obj)} (cs : List Col) (pc : Option Addr) (cc : Nat) (os : List Cov) (po : Option Addr) (co : Nat) (t : Tl) (z : Nat) (w : World) (hw : KS W0 K w) : Calls Try.prog 59 #[.agg (shC (.slice pc cs.length cc) (.slice po os.length co) t).toArray, .int .u8 ((z : Nat) : Int)] w fun e w' => ∃ v K', e = .returned v ∧ KS W0 K' w' ∧ (∃ b1 b2, v = .func (.func 83) #[] #[.pointer (some ⟨b1, 0, none⟩), .pointer (some ⟨b2, 0, none⟩)] ∧ K' = K ++ [(b2, .cells #[.int .u8 ((z : Nat) : Int)] 5 (0, 0)), (b1, .cells (shC (.slice pc cs.length cc) (.slice po os.length co) t).toArray 32 (0, 0))] ∧ (∀ p ∈ K, p.1 ≠ b1 ∧ p.1 ≠ b2) ∧ w.heap.size ≤ b1 ∧ w.heap.size ≤ b2 ∧ Below w.heap.size w w') := by
 go_enter Try.func59, Try.ntmps59
 refine wp_seq ?_
 refine wp_region_L [] (KS.start w) ?_
 refine wpL_new (fun g => .pointer (some ⟨g, 0, none⟩)) (obi := .cells (shC (.slice pc cs.length cc) (.slice po os.length co) t).toArray 32 (0, 0)) rfl rfl Tw.kf Tw.pf fun g1 Bg1 Fg1 => ?_
 refine wpL_new (fun g => .pointer (some ⟨g, 0, none⟩)) (obi := .cells #[.int .u8 ((z : Nat) : Int)] 5 (0, 0)) rfl rfl Tw.kf Tw.pf fun g2 Bg2 Fg2 => ?_
 obtain dj3_0 : g1 ≠ g2 := Tw.dkf Fg2
 refine lm (v := .nilFunc) rfl rfl ?_
 refine wpL_done (fun W1 hW1 => ?_)
 change Code.wp ..
 refine wp_seq ?_
 refine wp_region_L _ hW1 ?_
 refine lm (v := .func (.func 83) #[] #[.pointer (some ⟨g1, 0, none⟩), .pointer (some ⟨g2, 0, none⟩)]) rfl rfl ?_
 refine lm (v := .func (.func 83) #[] #[.pointer (some ⟨g1, 0, none⟩), .pointer (some ⟨g2, 0, none⟩)]) rfl rfl ?_
 refine wpL_done (fun W2 hW2 => ?_)
 change Code.wp ..
 refine wp_ret ?_
 try simp only [inBlock_ret, then_ret]
 refine bodyPost_ret (v := .func (.func 83) #[] #[.pointer (some ⟨g1, 0, none⟩), .pointer (some ⟨g2, 0, none⟩)]) ?_ rfl ?_
 · kernel_rfl
 · exact ⟨_, _, rfl, ⟨(hw.below hW2.1).1, fun p hp => by rcases List.mem_append.1 hp with hp | hp; exact (hw.below hW2.1).2 p hp; exact hW2.2 p hp⟩, g1, g2, rfl, rfl, (fun p hp => ⟨fun e => by have h8 := lt_of_block (hw.2 p hp); have h9 : w.heap.size ≤ g1 := (by assumption); omega, fun e => by have h8 := lt_of_block (hw.2 p hp); have h9 : w.heap.size ≤ g2 := (by assumption); omega⟩), by assumption, by assumption, hW2.1⟩
set_option maxRecDepth 100000 in
set_option maxHeartbeats 4000000 in
theorem All_any (cs : List Col) (pc : Option Addr) (cc : Nat) (lc : cs.length ≤ 1000) (os : List Cov) (po : Option Addr) (co : Nat) (lo : os.length ≤ 4000000000) (t : Tl) (ht : ∀ c ∈ cs, c.tiers ≤ 1000) (z : Nat) (w : World) (hc : SLV w pc (cs.flatMap colC)) (ho : SLV w po (os.flatMap covC)) : Calls Try.prog 36 #[.agg (shC (.slice pc cs.length cc) (.slice po os.length co) t).toArray, .int .u8 ((z : Nat) : Int)] w fun e w' => ∃ v, e = .returned v ∧ OutV w w' 40 3 v (slotsX cs z).length ((slotsX cs z).flatMap sltC) ∧ Below w.heap.size w w' := by
 have HC := Lib.hid hc
 clear hc
 have HO := Lib.hid ho
 clear ho
 have hh2 := hsX_len z
 have hpt : posT cs ≤ 1000000 := Nat.le_trans (posT_le (m := 1000) ht) Tw.om
 have hsl := slots_len cs z
 obtain ⟨n, hn⟩ : ∃ n, posT cs * (hsX z).length = n := ⟨_, rfl⟩
 have hnb : n ≤ 2000000 := by have h3 := Nat.mul_le_mul hpt hh2; omega
 rw [hn] at hsl
 go_enter Try.func36, Try.ntmps36
 refine wp_seq ?_
 refine wp_region_L [] (KS.start w) ?_
 refine wpL_new (fun g => .pointer (some ⟨g, 0, none⟩)) (obi := .cells (shC (.slice pc cs.length cc) (.slice po os.length co) t).toArray 32 (0, 0)) rfl rfl Tw.kf Tw.pf fun g1 Bg1 Fg1 => ?_
 refine lm (v := .slice none 0 0) rfl rfl ?_
 refine wpL_done (fun W1 hW1 => ?_)
 change Code.wp ..
 refine wp_seq ?_
 refine wp_region_L _ hW1 ?_
 refine lv (v := .agg (shC (.slice pc cs.length cc) (.slice po os.length co) t).toArray) rfl rfl (yb_load (n := 13) (off := 0) rfl Tw.kr Tw.m0 Try.underlying32 rfl Tw.kr (by first | (simp [Value.cells]; done) | exact Nat.le_of_ble_eq_true rfl) Tw.kr) ?_
 refine lm (v := .int .u8 ((z : Nat) : Int)) rfl rfl ?_
 refine lv (v := .int .i64 ((n : Nat) : Int)) rfl rfl (yb_call (f := 57) (args := #[.agg (shC (.slice pc cs.length cc) (.slice po os.length co) t).toArray, .int .u8 ((z : Nat) : Int)]) Tw.kf fun W hW => (by rw [← hn]; exact count_any cs pc cc lc os po co lo t ht z W (HC.out.keep hW.1) (HO.out.keep hW.1))) ?_
 refine lm (v := .int .i64 ((n : Nat) : Int)) rfl rfl ?_
 refine wpL_done (fun W2 hW2 => ?_)
 change Code.wp ..
 refine wp_seq ?_
 refine wp_seq ?_
 refine wp_region_L _ hW2 ?_
 refine lm (v := .int .i64 ((n : Nat) : Int)) rfl rfl ?_
 refine lp (v := .bool (decide (n = 0))) rfl rfl (run_bin rfl (vx := (.int .i64 ((n : Nat) : Int))) (vy := (.int .i64 ((0 : Nat) : Int))) Tw.kr Tw.kr fun w => bn_eql rfl w) ?_
 refine lm (v := .bool (decide (n = 0))) rfl rfl ?_
 cases hd1 : (decide (n = 0)) with
 | false =>
   have h1 : ¬ (n = 0) := of_decide_eq_false hd1
   clear hd1
   refine lm (v := .int .i64 ((n : Nat) : Int)) rfl rfl ?_
   refine lp (v := .bool false) rfl rfl (run_bin rfl (vx := (.int .i64 ((n : Nat) : Int))) (vy := (.int .i64 ((89478485 : Nat) : Int))) Tw.kr Tw.kr fun w => bn_gtr (decide_eq_false Tw.om) w) ?_
   refine lm (v := .bool false) rfl rfl ?_
   refine wpL_done (fun W3 hW3 => ?_)
   change Code.wp ..
   refine wp_cond_false rfl ?_
   refine wp_skip ?_
   change Code.wp ..
   refine wp_seq ?_
   refine wp_region_V _ Tw.kr hW3 ?_
   refine vm (i := 0) (v := .int .i64 ((n : Nat) : Int)) rfl rfl rfl ?_
   refine vv (i := 2) (v := .agg (shC (.slice pc cs.length cc) (.slice po os.length co) t).toArray) rfl rfl rfl (yb_load (n := 13) (off := 0) rfl Tw.kr Tw.m0 Try.underlying32 rfl Tw.kr (by first | (simp [Value.cells]; done) | exact Nat.le_of_ble_eq_true rfl) Tw.kr) ?_
   refine vm (i := 3) (v := .int .u8 ((z : Nat) : Int)) rfl rfl rfl ?_
   refine wpV_2 (i := 1) (j := 4) Tw.kr ?_ ?_
   · refine stepV_nsx (fun g => .slice (some ⟨g, 0, none⟩) 0 n) (i := 1) (obi := .cells (madeCells (Value.cells (.agg #[.int .i64 0, .int .i64 0, .int .u8 0])) (n * 3)) 40 (0, 0)) rfl rfl rfl (run_mk0 (c := n) (z := (.agg #[.int .i64 0, .int .i64 0, .int .u8 0])) (sz := 3) (b := 24) rfl Try.underlying56 Tw.kr (by decide) Tw.kr Tw.kr Tw.om) Tw.pf fun g2 Bg2 Fg2 => ?_
     obtain dj3_0 : g1 ≠ g2 := Tw.dkf Fg2
     refine wpV_c (i := 4) (fun v K9 => ∃ b1 b2, v = .func (.func 83) #[] #[.pointer (some ⟨b1, 0, none⟩), .pointer (some ⟨b2, 0, none⟩)] ∧ K9 = [(g2, .cells (madeCells (Value.cells (.agg #[.int .i64 0, .int .i64 0, .int .u8 0])) (n * 3)) 40 (0, 0)), (g1, .cells (shC (.slice pc cs.length cc) (.slice po os.length co) t).toArray 32 (0, 0))] ++ [(b2, Obj.cells #[Value.int .u8 ((z : Nat) : Int)] 5 (0, 0)), (b1, Obj.cells (shC (Value.slice pc cs.length cc) (Value.slice po os.length co) t).toArray 32 (0, 0))] ∧ (∀ p : Nat × Obj, p ∈ ([(g2, .cells (madeCells (Value.cells (.agg #[.int .i64 0, .int .i64 0, .int .u8 0])) (n * 3)) 40 (0, 0)), (g1, .cells (shC (.slice pc cs.length cc) (.slice po os.length co) t).toArray 32 (0, 0))] : List (Nat × Obj)) → p.1 ≠ b1 ∧ p.1 ≠ b2)) rfl rfl Tw.kr Tw.kr Tw.kf (fun W hW => ((slots_any cs pc cc os po co t z W hW).mono fun e w' ⟨v, K9, h1, h2, b1, b2, h3, h4, h5, _, _, _⟩ => ⟨v, K9, h1, h2, b1, b2, h3, h4, h5⟩)) (fun v K9 hG => by obtain ⟨_, _, _, rfl, _⟩ := hG; exact fun p hp => List.mem_append_left _ hp) Tw.pf ?_
     rintro _ _ ⟨b1, b2, rfl, rfl, hne⟩
     refine wpV_cl (i := 5) (fun v K9 => OwnL (w : Base) 40 3 v (slotsX cs z).length ((slotsX cs z).flatMap sltC) K9) rfl rfl Tw.kr Tw.kr Tw.kf (fun W hW => ((AppendSeq_any (W0 := (w : Base)) 83 #[.pointer (some ⟨b1, 0, none⟩), .pointer (some ⟨b2, 0, none⟩)] (slotsX cs z) Tw.om _ _ (own_made (cells := sltC) (c := n) (E := 40) (z := (.agg #[.int .i64 0, .int .i64 0, .int .u8 0])) Bg2 rfl Tw.om) W (hW.sub (fun p hp => by cases List.mem_singleton.1 hp; exact Tw.m0)) (fun _ _ => by kernel_rfl) (slots1_stops w.heap.size b1 b2 cs pc cc (.slice po os.length co) t z W hW.size Tw.om (fun c hc => by have := ht c hc; omega) (hW.2 _ Tw.m3) (hW.2 _ Tw.m2) (fun W9 h9 => HC.out.keep (hW.1.trans h9)))).mono fun e w' ⟨v, Kl, h1, h2, h3⟩ => ⟨v, Kl, h1, h2, h3⟩)) Tw.kr Tw.pf ?_
     rintro vq Kq hOq
     refine vm (i := 6) (v := vq) rfl rfl rfl ?_
     refine wpV_done Tw.kr (fun W4 hW4 => ?_) _
     change Code.wp ..
     refine wp_ret ?_
     try simp only [inBlock_ret, then_ret]
     refine bodyPost_ret (v := vq) ?_ rfl ?_
     · kernel_rfl
     · exact ⟨_, rfl, hOq.out (fun p hp => hp) hW4, hW4.1⟩
   · refine stepV_cx (i := 4) (fun v K9 => ∃ b1 b2, v = .func (.func 83) #[] #[.pointer (some ⟨b1, 0, none⟩), .pointer (some ⟨b2, 0, none⟩)] ∧ K9 = [(g1, .cells (shC (.slice pc cs.length cc) (.slice po os.length co) t).toArray 32 (0, 0))] ++ [(b2, Obj.cells #[Value.int .u8 ((z : Nat) : Int)] 5 (0, 0)), (b1, Obj.cells (shC (Value.slice pc cs.length cc) (Value.slice po os.length co) t).toArray 32 (0, 0))] ∧ (∀ p : Nat × Obj, p ∈ ([(g1, .cells (shC (.slice pc cs.length cc) (.slice po os.length co) t).toArray 32 (0, 0))] : List (Nat × Obj)) → p.1 ≠ b1 ∧ p.1 ≠ b2)) rfl rfl Tw.kr Tw.kf (fun W hW => ((slots_any cs pc cc os po co t z W hW).mono fun e w' ⟨v, K9, h1, h2, b1, b2, h3, h4, h5, _, _, _⟩ => ⟨v, K9, h1, h2, b1, b2, h3, h4, h5⟩)) (fun v K9 hG => by obtain ⟨_, _, _, rfl, _⟩ := hG; exact fun p hp => List.mem_append_left _ hp) Tw.pf ?_
     rintro _ _ ⟨b1, b2, rfl, rfl, hne⟩
     refine wpV_ns (fun g => .slice (some ⟨g, 0, none⟩) 0 n) (i := 1) (obi := .cells (madeCells (Value.cells (.agg #[.int .i64 0, .int .i64 0, .int .u8 0])) (n * 3)) 40 (0, 0)) rfl rfl rfl Tw.kr (run_mk0 (c := n) (z := (.agg #[.int .i64 0, .int .i64 0, .int .u8 0])) (sz := 3) (b := 24) rfl Try.underlying56 Tw.kr (by decide) Tw.kr Tw.kr Tw.om) Tw.pf fun g6 Bg6 Fg6 => ?_
     obtain ⟨dj7_0, dj7_1, dj7_2⟩ : g1 ≠ g6 ∧ b2 ≠ g6 ∧ b1 ≠ g6 := Tw.dkf Fg6
     refine wpV_cl (i := 5) (fun v K9 => OwnL (w : Base) 40 3 v (slotsX cs z).length ((slotsX cs z).flatMap sltC) K9) rfl rfl Tw.kr Tw.kr Tw.kf (fun W hW => ((AppendSeq_any (W0 := (w : Base)) 83 #[.pointer (some ⟨b1, 0, none⟩), .pointer (some ⟨b2, 0, none⟩)] (slotsX cs z) Tw.om _ _ (own_made (cells := sltC) (c := n) (E := 40) (z := (.agg #[.int .i64 0, .int .i64 0, .int .u8 0])) Bg6 rfl Tw.om) W (hW.sub (fun p hp => by cases List.mem_singleton.1 hp; exact Tw.m0)) (fun _ _ => by kernel_rfl) (slots1_stops w.heap.size b1 b2 cs pc cc (.slice po os.length co) t z W hW.size Tw.om (fun c hc => by have := ht c hc; omega) (hW.2 _ Tw.m3) (hW.2 _ Tw.m2) (fun W9 h9 => HC.out.keep (hW.1.trans h9)))).mono fun e w' ⟨v, Kl, h1, h2, h3⟩ => ⟨v, Kl, h1, h2, h3⟩)) Tw.kr Tw.pf ?_
     rintro vq Kq hOq
     refine vm (i := 6) (v := vq) rfl rfl rfl ?_
     refine wpV_done Tw.kr (fun W5 hW5 => ?_) _
     change Code.wp ..
     refine wp_ret ?_
     try simp only [inBlock_ret, then_ret]
     refine bodyPost_ret (v := vq) ?_ rfl ?_
     · kernel_rfl
     · exact ⟨_, rfl, hOq.out (fun p hp => hp) hW5, hW5.1⟩
 | true =>
   have h1 : n = 0 := of_decide_eq_true hd1
   clear hd1
   refine ln rfl ?_
   refine ln rfl ?_
   refine lm (v := .bool true) rfl rfl ?_
   refine wpL_done (fun W6 hW6 => ?_)
   change Code.wp ..
   refine wp_cond_true rfl ?_
   refine wp_seq ?_
   refine wp_region_L _ hW6 ?_
   refine lm (v := .slice none 0 0) rfl rfl ?_
   refine wpL_done (fun W7 hW7 => ?_)
   change Code.wp ..
   refine wp_ret ?_
   try simp only [inBlock_ret, then_ret]
   refine bodyPost_ret (v := .slice none 0 0) ?_ rfl ?_
   · kernel_rfl
   · exact ⟨_, rfl, .inl ⟨by omega, by rw [List.eq_nil_of_length_eq_zero (l := slotsX cs z) Tw.om]; rfl, rfl⟩, hW7.1⟩
end Go.Proofs.Ytnbfljcilojllaa
/- Names of slots: plain. -/
namespace Go.Proofs.Ytnbfljcilojllaa
open Go Go.RowKit Tw
-- the digits of a name
def codesL : List Value := [.int .i64 2, .int .i64 1, .int .i64 3]
structure Env (w : World) : Prop where
 codes : w.var? Try.prog "twistlock/slot.codes" = some codesL.toArray
theorem var_keep {P : Program} {w w' : World} {n : String} {cs : Array Value} (h : w.var? P n = some cs) (hb : Below w.heap.size w w') : w'.var? P n = some cs := by
 unfold World.var? at *
 cases hg : P.globalNamed n with
 | none => rw [hg] at h; cases h
 | some g =>
   rw [hg] at h
   simp only [Option.bind_some] at h ⊢
   cases hh : w.heap[g]? with
   | none => rw [hh] at h; cases h
   | some o => rw [hb.block g (lt_of_block hh)]; exact h
theorem Env.keep {w w' : World} (h : Env w) (hb : Below w.heap.size w w') : Env w' := ⟨var_keep h.codes hb⟩
end Go.Proofs.Ytnbfljcilojllaa
namespace Go.Proofs.Ytnbfljcilojllaa
open Go Go.RowKit Tw
end Go.Proofs.Ytnbfljcilojllaa
namespace Go.Proofs.Ytnbfljcilojllaa
open Go Go.RowKit Tw
end Go.Proofs.Ytnbfljcilojllaa
namespace Go.Proofs.Ytnbfljcilojllaa
open Go Go.RowKit Tw
end Go.Proofs.Ytnbfljcilojllaa
namespace Go.Proofs.Ytnbfljcilojllaa
open Go Go.RowKit Tw
end Go.Proofs.Ytnbfljcilojllaa
/- Names and slots belong to one another. -/
namespace Go.Proofs.Ytnbfljcilojllaa
open Go Go.RowKit Tw
end Go.Proofs.Ytnbfljcilojllaa
namespace Go.Proofs.Ytnbfljcilojllaa
open Go Go.RowKit Tw
end Go.Proofs.Ytnbfljcilojllaa
/- Ships that are not right, slots that there are not, texts that are no names. -/
namespace Go.Proofs.Ytnbfljcilojllaa
open Go Go.RowKit Tw
section
variable {cs : List Col} {os : List Cov} {x : Slt} {l : List UInt8}
end
end Go.Proofs.Ytnbfljcilojllaa
/- Ships that are moved; all their slots, whose names differ. -/
namespace Go.Proofs.Ytnbfljcilojllaa
open Go Go.RowKit Tw
section
variable {d e : Int}
end
theorem mix_set {α : Type} {l : List α} {k : Nat} {x : α} (f : α → α) (h : l[k]? = some x) : ((l.take k).map f ++ l.drop k).set k (f x) = (l.take (k + 1)).map f ++ l.drop (k + 1) := by
 obtain ⟨hk, rfl⟩ := List.getElem?_eq_some_iff.1 h
 have hl : ((l.take k).map f).length = k := by rw [List.length_map, List.length_take, Nat.min_eq_left Tw.om]
 rw [List.set_append_right _ _ Tw.om, hl, Nat.sub_self, List.drop_eq_getElem_cons hk, List.take_succ_eq_append_getElem hk, List.map_append, List.append_assoc]
 rfl
theorem mix_at {α : Type} {l : List α} {k : Nat} {x : α} (f : α → α) (h : l[k]? = some x) : ((l.take k).map f ++ l.drop k)[k]? = some x := by
 obtain ⟨hk, rfl⟩ := List.getElem?_eq_some_iff.1 h
 have hl : ((l.take k).map f).length = k := by rw [List.length_map, List.length_take, Nat.min_eq_left Tw.om]
 rw [List.getElem?_append_right Tw.om, hl, Nat.sub_self, List.drop_eq_getElem_cons hk]
 rfl
theorem mix_len {α : Type} (l : List α) (k : Nat) (f : α → α) : ((l.take k).map f ++ l.drop k).length = l.length := by
 rw [List.length_append, List.length_map, ← List.length_append, List.take_append_drop]
theorem mix_end {α : Type} {l : List α} {k : Nat} (f : α → α) (h : ¬ k < l.length) : (l.take k).map f ++ l.drop k = l.map f := by
 rw [List.take_of_length_le Tw.om, List.drop_eq_nil_of_le Tw.om, List.append_nil]
-- all slots of a ship
end Go.Proofs.Ytnbfljcilojllaa
/- Maps whose keys are texts, among known blocks: what their entries are. Over any program. -/
namespace Tw
open Go Go.RowKit Go.Proofs.Ytnbfljcilojllaa
def MapS (es : Array MapEntry) (L : List (List UInt8 × Value)) : Prop := es.toList.map (fun e => (e.key, e.val)) = L.map fun x => (strV x.1, x.2)
def lkL (k : List UInt8) : List (List UInt8 × Value) → Nat → Option (Nat × Value)
 | [], _ => none
 | x :: L, i => if k = x.1 then some (i, x.2) else lkL k L (i + 1)
def mget (L : List (List UInt8 × Value)) (k : List UInt8) : Option Value := (lkL k L 0).map (·.2)
def mputL (L : List (List UInt8 × Value)) (k : List UInt8) (v : Value) : List (List UInt8 × Value) := match lkL k L 0 with
 | some x => L.set x.1 (k, v)
 | none => L ++ [(k, v)]
def mput (es : Array MapEntry) (cl : Nat) (k : List UInt8) (v : Value) : Array MapEntry × Nat := match Instr.findNow .string (strV k) es.toList 0 with
 | some (some x) => (es.modify x.1 fun e => { e with key := strV k, val := v }, cl)
 | _ => (es.push { key := strV k, val := v, born := cl }, cl + 1)
theorem same_str (a b : List UInt8) : Instr.sameNow .string (strV a) (strV b) = some (decide (a = b)) := by
 have : ((⟨a.toArray⟩ : ByteArray) == ⟨b.toArray⟩) = decide (a = b) := by
   show (a.toArray == b.toArray) = _
   rw [Bool.eq_iff_iff]; simp
 unfold strV Instr.sameNow
 simp only [this]
theorem find_str (k : List UInt8) : ∀ (es : List MapEntry) (L : List (List UInt8 × Value)) (i : Nat), es.map (fun e => (e.key, e.val)) = L.map (fun x => (strV x.1, x.2)) → Instr.findNow .string (strV k) es i = some (lkL k L i)
 | [], [], _, _ => rfl
 | [], _ :: _, _, h => by cases h
 | _ :: _, [], _, h => by cases h
 | e :: es, x :: L, i, h => by
   rw [List.map_cons, List.map_cons] at h
   obtain ⟨h1, h2⟩ := List.cons.inj h
   obtain ⟨hk, hv⟩ := Prod.mk.inj h1
   have ih := find_str k es L (i + 1) h2
   unfold Instr.findNow lkL
   rw [hk, same_str]
   by_cases hx : k = x.1
   · rw [if_pos hx, decide_eq_true hx, hv]
   · rw [if_neg hx, decide_eq_false hx]; exact ih
theorem lk_lt {k : List UInt8} : ∀ {L : List (List UInt8 × Value)} {i : Nat} {x : Nat × Value}, lkL k L i = some x → i ≤ x.1 ∧ x.1 < i + L.length
 | [], _, _, h => by cases h
 | y :: L, i, x, h => by
   unfold lkL at h
   split at h
   · cases h; simp
   · have := lk_lt h; simp only [List.length_cons]; omega
theorem lk_app {k k' : List UInt8} {v : Value} : ∀ (L : List (List UInt8 × Value)) (i : Nat), lkL k' L i = none → (lkL k (L ++ [(k', v)]) i).map (·.2) = if k = k' then some v else (lkL k L i).map (·.2)
 | [], i, _ => by simp only [List.nil_append, lkL]; split <;> rfl
 | y :: L, i, h => by
   have h0 := h
   unfold lkL at h
   split at h
   · cases h
   · rename_i hy
     simp only [List.cons_append, lkL]
     by_cases hk : k = y.1
     · rw [if_pos hk, if_neg (by rw [hk]; exact fun e => hy e.symm), if_pos hk]
     · rw [if_neg hk, if_neg hk]; exact lk_app L (i + 1) h
theorem lk_set {k k' : List UInt8} {v : Value} : ∀ (L : List (List UInt8 × Value)) (i : Nat) (x : Nat × Value), lkL k' L i = some x → (lkL k (L.set (x.1 - i) (k', v)) i).map (·.2) = if k = k' then some v else (lkL k L i).map (·.2)
 | [], _, _, h => by cases h
 | y :: L, i, x, h => by
   unfold lkL at h
   split at h
   · rename_i hy
     cases h
     simp only [Nat.sub_self, List.set_cons_zero, lkL]
     by_cases hk : k = k'
     · rw [if_pos hk, if_pos hk]; rfl
     · rw [if_neg hk, if_neg hk, if_neg (by rw [← hy]; exact hk)]
   · rename_i hy
     have hl := lk_lt h
     rw [show x.1 - i = (x.1 - (i + 1)) + 1 from by omega, List.set_cons_succ]
     simp only [lkL]
     by_cases hk : k = y.1
     · rw [if_pos hk, if_neg (by rw [hk]; exact fun e => hy e.symm), if_pos hk]
     · rw [if_neg hk, if_neg hk]; exact lk_set L (i + 1) x h
theorem mget_put (L : List (List UInt8 × Value)) (k k' : List UInt8) (v : Value) : mget (mputL L k' v) k = if k = k' then some v else mget L k := by
 unfold mget mputL
 cases h : lkL k' L 0 with
 | none => exact lk_app L 0 h
 | some x => exact lk_set L 0 x h
theorem MapS.nil : MapS #[] [] := rfl
theorem map_modify (l : List MapEntry) (f : MapEntry → MapEntry) (g : MapEntry → Value × Value) (y : Value × Value) (hf : ∀ e, g (f e) = y) : ∀ (i : Nat), i < l.length → (l.modify i f).map g = (l.map g).set i y := by
 induction l with
 | nil => intro i h; simp at h
 | cons e l ih =>
   intro i h
   cases i with
   | zero => simp [hf]
   | succ i => simp only [List.modify_succ_cons, List.map_cons, List.set_cons_succ]; rw [ih i (by simpa using h)]
theorem MapS.put {es : Array MapEntry} {L : List (List UInt8 × Value)} (h : MapS es L) (cl : Nat) (k : List UInt8) (v : Value) : MapS (mput es cl k v).1 (mputL L k v) := by
 have hf := find_str k _ _ 0 h
 have hlen : es.toList.length = L.length := by have := congrArg List.length h; simpa using this
 unfold MapS at h ⊢
 unfold mput mputL
 rw [hf]
 cases hl : lkL k L 0 with
 | none => simp only [Array.toList_push, List.map_append, h, List.map_cons, List.map_nil]
 | some x =>
   have := lk_lt hl
   simp only [Array.toList_modify]
   rw [map_modify es.toList (fun e => { e with key := strV k, val := v }) (fun e => (e.key, e.val)) (strV k, v) (fun _ => rfl) x.1 Tw.om, h, List.map_set]
section
variable {P : Program} {W0 : Base} {T kt et : TypeId}
end
end Tw
/- A map with small keys that is ranged over, among known blocks. Over any program. -/
namespace Tw
open Go Go.RowKit Go.Proofs.Ytnbfljcilojllaa
section
variable {P : Program} {W0 : Base} {T kt et : TypeId}
end
end Tw
/- Memory of ships that are moved. -/
namespace Go.Proofs.Ytnbfljcilojllaa
open Go Go.RowKit Tw
structure RB (W0 : Base) (T : List (Nat × Obj)) (os : List Cov) : Prop where
 ex : ∃ gs : List Nat, gs.length = os.length ∧ gs.Nodup ∧ (∀ g ∈ gs, W0.B ≤ g) ∧ ∀ (i g : Nat) (o : Cov), gs[i]? = some g → os[i]? = some o → o.rp = some ⟨g, 0, none⟩ ∧ (g, .cells (o.rows.flatMap inC).toArray 3 (0, 0)) ∈ T
section
variable {W0 : Base} {T : List (Nat × Obj)} {os : List Cov} {o : Cov} {g i : Nat}
theorem RB.nil : RB W0 [] [] := ⟨[], rfl, List.nodup_nil, (fun _ h => by cases h), (fun _ _ _ h => by cases h)⟩
theorem RB.snoc (h : RB W0 T os) (hp : o.rp = some ⟨g, 0, none⟩) (hg : Dk g T) (hB : W0.B ≤ g) : RB W0 ((g, .cells (o.rows.flatMap inC).toArray 3 (0, 0)) :: T) (os ++ [o]) := by
 obtain ⟨gs, h1, h2, h3, h4⟩ := h.ex
 have hn : g ∉ gs := fun hm => by
   obtain ⟨j, hj⟩ := List.getElem?_of_mem hm
   have hlt := (List.getElem?_eq_some_iff.1 hj).1
   have h5 := (h4 j g _ hj (List.getElem?_eq_getElem Tw.om)).2
   exact hg _ h5 rfl
 refine ⟨gs ++ [g], by simp [h1], List.nodup_append.2 ⟨h2, by simp, fun a ha b hb e => ?_⟩, fun x hx => ?_, fun j x y hx hy => ?_⟩
 · cases List.mem_singleton.1 hb; exact hn (e ▸ ha)
 · rcases List.mem_append.1 hx with hx | hx
   · exact h3 x hx
   · cases List.mem_singleton.1 hx; exact hB
 · rcases Nat.lt_or_ge j gs.length with hj | hj
   · rw [List.getElem?_append_left hj] at hx
     rw [List.getElem?_append_left Tw.om] at hy
     obtain ⟨q1, q2⟩ := h4 j x y hx hy
     exact ⟨q1, .tail _ q2⟩
   · rw [List.getElem?_append_right hj] at hx
     rw [List.getElem?_append_right Tw.om, ← h1] at hy
     have hj0 : j - gs.length = 0 := by
       have := (List.getElem?_eq_some_iff.1 hx).1
       simp at this
       omega
     rw [hj0] at hx hy
     simp at hx hy
     subst hx hy
     exact ⟨hp, .head _⟩
theorem RB.rw (h : RB W0 T os) : ∀ W, KS W0 T W → RwR W os := fun W hW o ho => by
 obtain ⟨gs, h1, h2, h3, h4⟩ := h.ex
 obtain ⟨j, hj⟩ := List.getElem?_of_mem ho
 have hlt := (List.getElem?_eq_some_iff.1 hj).1
 obtain ⟨q1, q2⟩ := h4 j _ o (List.getElem?_eq_getElem Tw.om) hj
 rw [q1]
 exact blk_slv hW q2
theorem RB.open (h : RB W0 T os) (hi : os[i]? = some o) : ∃ g Tf, o.rp = some ⟨g, 0, none⟩ ∧ W0.B ≤ g ∧ (∀ p ∈ (g, .cells (o.rows.flatMap inC).toArray 3 (0, 0)) :: Tf, p ∈ T) ∧ Dk g Tf ∧ ∀ o' : Cov, o'.rp = o.rp → RB W0 ((g, .cells (o'.rows.flatMap inC).toArray 3 (0, 0)) :: Tf) (os.set i o') := by
 obtain ⟨gs, h1, h2, h3, h4⟩ := h.ex
 have hlt := (List.getElem?_eq_some_iff.1 hi).1
 have hgi : gs[i]? = some gs[i] := List.getElem?_eq_getElem Tw.om
 obtain ⟨q1, q2⟩ := h4 i _ o hgi hi
 refine ⟨gs[i], T.filter (fun q => decide (q.1 ≠ gs[i])), q1, h3 _ (List.getElem_mem _), fun p hp => ?_, fun q hq => ?_, fun o' ho' => ⟨gs, by rw [List.length_set, h1], h2, h3, fun j x y hx hy => ?_⟩⟩
 · rcases List.mem_cons.1 hp with rfl | hp
   · exact q2
   · exact (List.mem_filter.1 hp).1
 · exact of_decide_eq_true (List.mem_filter.1 hq).2
 · by_cases e : j = i
   · subst e
     rw [hgi] at hx
     cases hx
     rw [List.getElem?_set_self hlt] at hy
     cases hy
     exact ⟨ho'.trans q1, .head _⟩
   · rw [List.getElem?_set_ne (fun h => e h.symm)] at hy
     obtain ⟨r1, r2⟩ := h4 j x y hx hy
     refine ⟨r1, .tail _ (List.mem_filter.2 ⟨r2, decide_eq_true fun hxe => e ?_⟩)⟩
     have hj := (List.getElem?_eq_some_iff.1 hx)
     exact (List.getElem?_inj hj.1 h2).1 (hx.trans (by rw [hgi]; exact congrArg some hxe))
end
section
variable {α : Type} {cells : α → List Value} {sz : Nat} {W0 : Base} {E : TypeId} {v u : Value} {n cap g k j : Nat} {m : List α} {b b' : α} {cur : Array Value} {Kl : List (Nat × Obj)}
theorem own_blkR (h : OwnL W0 E sz v n (m.flatMap cells) Kl) (hn : 0 < n) : ∃ g cap cur, v = .slice (some ⟨g, 0, none⟩) n cap ∧ W0.B ≤ g ∧ RowN sz cur cap n (m.flatMap cells) ∧ Kl = [(g, .cells cur E (0, 0))] := by
 rcases h with ⟨rfl, _⟩ | ⟨g, cap, cur, hv, hB, hR, hK⟩
 · omega
 · exact ⟨g, cap, cur, hv, hB, hR, hK⟩
theorem rown_row (h : RowN sz cur cap n (m.flatMap cells)) : RowR cells cur m := ⟨cur.toList.drop (n * sz), by rw [← h.2.2.2.2, List.take_append_drop]⟩
theorem rown_set (hR : RowN sz cur cap n (m.flatMap cells)) (hc : ∀ y, (cells y).length = sz) (hb : m[k]? = some b) (hj : j < sz) (he : cells b' = (cells b).set j u) : RowN sz (cur.setIfInBounds (0 + k * sz + j) u) cap n ((m.set k b').flatMap cells) := by
 obtain ⟨rest, hr⟩ := RowR.set (rown_row hR) hc hb hj he
 have hl : ((m.set k b').flatMap cells).length = n * sz := by
   rw [flat_len hc, List.length_set, ← flat_len hc m, hR.2.2.2.1]
 refine ⟨by simpa using hR.1, hR.2.1, hR.2.2.1, hl, ?_⟩
 rw [hr]
 exact List.take_left' hl
end
def ShipW (W0 : Base) (cs : List Col) (ov : List (Int × List Int)) (v : Value) (T : List (Nat × Obj)) : Prop :=
 ∃ pc cc os po co Kc Ko Tr, v = .agg (shC (.slice pc cs.length cc) (.slice po os.length co) tl0).toArray ∧ OwnL W0 46 12 (.slice pc cs.length cc) cs.length (cs.flatMap colC) Kc ∧ OwnL W0 123 2 (.slice po os.length co) os.length (os.flatMap covC) Ko ∧ RB W0 Tr os ∧ Dj Kc Ko ∧ Dj Kc Tr ∧ Dj Ko Tr ∧ os.map (fun o => (o.bay, o.rows)) = ov ∧ T = Kc ++ (Ko ++ Tr)
def McN (ML : List (List UInt8 × Value)) (ns : List (List UInt8)) : Prop := ∀ x, mget ML x = if x ∈ ns then some (.int .i64 1) else none
theorem McN.nil : McN [] [] := fun _ => rfl
theorem McN.put {ML : List (List UInt8 × Value)} {ns : List (List UInt8)} {y : List UInt8} (h : McN ML ns) : McN (mputL ML y (.int .i64 1)) (ns ++ [y]) := fun x => by
 rw [mget_put, h x]
 by_cases e : x = y
 · subst e; simp
 · simp [e]
theorem McN.no {ML : List (List UInt8 × Value)} {ns : List (List UInt8)} {y : List UInt8} (h : McN ML ns) (hn : y ∉ ns) : mget ML y = none := by rw [h y, if_neg hn]
end Go.Proofs.Ytnbfljcilojllaa
/- Law 10: ships with limits. -/
namespace Go.Proofs.Ytnbfljcilojllaa
open Go Go.RowKit Tw
def limK (h a : Nat) (c : Col) : Col := { c with k20 := ((10000 + 200 * h : Nat) : Int), k40 := ((20000 + 500 * a : Nat) : Int) }
def limC (h a : Nat) (cs : List Col) : List Col := cs.map (limK h a)
theorem lim_len (h a : Nat) (cs : List Col) : (limC h a cs).length = cs.length := List.length_map _
theorem lim_mem {h a : Nat} {cs : List Col} {c : Col} (hc : c ∈ limC h a cs) : ∃ d ∈ cs, c = limK h a d := by
 obtain ⟨d, hd, e⟩ := List.mem_map.1 hc
 exact ⟨d, hd, e.symm⟩
theorem lim_plugs {h a : Nat} {cs : List Col} (hg : Good cs) : (∀ W, PlR W (limC h a cs)) ∧ ∀ c ∈ limC h a cs, c.plugs.length ≤ 4000000000 := by
 have h1 : ∀ c ∈ limC h a cs, c.plugs = [] := fun c hc => by
   obtain ⟨d, hd, rfl⟩ := lim_mem hc
   exact (hg.1 d hd).2
 exact ⟨fun W => plr_nil h1, fun c hc => by rw [h1 c hc]; exact Nat.zero_le _⟩
theorem lim_tiers {h a : Nat} {cs : List Col} (hg : Good cs) : ∀ c ∈ limC h a cs, 1 ≤ c.tiers ∧ c.tiers ≤ 10 := fun c hc => by
 obtain ⟨d, hd, rfl⟩ := lim_mem hc
 have := colx_in (hg.1 d hd).1
 exact ⟨this.2.2.2.2.1, this.2.2.2.2.2⟩
theorem own_up {W0 : Base} {W : World} {E : TypeId} {sz n : Nat} {v : Value} {xs : List Value} {K : List (Nat × Obj)} (hn : W0.B ≤ W.heap.size) (h : OwnL (W : Base) E sz v n xs K) : OwnL W0 E sz v n xs K := by
 rcases h with h | ⟨g, cap, cur, h1, h2, h3, h4⟩
 · exact .inl h
 · exact .inr ⟨g, cap, cur, h1, Nat.le_trans hn h2, h3, h4⟩
theorem rb_up {W0 : Base} {W : World} {T : List (Nat × Obj)} {os : List Cov} (hn : W0.B ≤ W.heap.size) (h : RB (W : Base) T os) : RB W0 (T.filter fun q => decide (W.heap.size ≤ q.1)) os := by
 obtain ⟨gs, h1, h2, h3, h4⟩ := h.ex
 refine ⟨gs, h1, h2, fun g hg => Nat.le_trans hn (h3 g hg), fun i g o hi ho => ?_⟩
 obtain ⟨q1, q2⟩ := h4 i g o hi ho
 exact ⟨q1, List.mem_filter.2 ⟨q2, decide_eq_true (h3 g (List.mem_of_getElem? hi))⟩⟩
theorem own_ne {W : World} {W0 : Base} {E : TypeId} {sz n : Nat} {v : Value} {xs : List Value} {K T : List (Nat × Obj)} (hK : KS W0 K W) (h : OwnL (W : Base) E sz v n xs T) : ∀ p ∈ K, ∀ q ∈ T, q.1 ≠ p.1 := by
 intro p hp q hq e
 have h1 := lt_of_block (hK.2 p hp)
 rcases h with ⟨_, _, _, rfl⟩ | ⟨g, cap, cur, _, h2, _, rfl⟩
 · cases hq
 · cases List.mem_singleton.1 hq
   have h2 : W.heap.size ≤ g := h2
   have e : g = p.1 := e
   omega
def ShipV (W0 : Base) (K : List (Nat × Obj)) (cs : List Col) (ov : List (Int × List Int)) (v : Value) (K' : List (Nat × Obj)) : Prop :=
 ∃ pc cc os po co Kc Ko Tr, v = .agg (shC (.slice pc cs.length cc) (.slice po os.length co) tl0).toArray ∧ OwnL W0 46 12 (.slice pc cs.length cc) cs.length (cs.flatMap colC) Kc ∧ OwnL W0 123 2 (.slice po os.length co) os.length (os.flatMap covC) Ko ∧ RB W0 Tr os ∧ Dj Kc Ko ∧ Dj Kc Tr ∧ Dj Ko Tr ∧ os.map (fun o => (o.bay, o.rows)) = ov ∧ (∀ p ∈ K, ∀ q ∈ Kc ++ (Ko ++ Tr), q.1 ≠ p.1) ∧ K' = K ++ (Kc ++ (Ko ++ Tr))
theorem calls_ship {P : Program} {W0 : Base} {W : World} {K : List (Nat × Obj)} {cs : List Col} {ov : List (Int × List Int)} {f : FuncId} {args : Array Value} (hW : KS W0 K W) (h : Calls P f args W fun e w' => ∃ v T, e = .returned v ∧ KS (W : Base) T w' ∧ ShipW (W : Base) cs ov v T) :
   Calls P f args W fun e w' => ∃ v K', e = .returned v ∧ KS W0 K' w' ∧ ShipV W0 K cs ov v K' :=
 h.mono fun e w' ⟨v, T, he, hk, pc, cc, os, po, co, Kc, Ko, Tr, hv, h1, h2, h3, d1, d2, d3, hm, hT⟩ => by
   have hn := hW.size
   have hs : ∀ q ∈ Tr.filter (fun q => decide (W.heap.size ≤ q.1)), q ∈ Tr := fun q hq => (List.mem_filter.1 hq).1
   refine ⟨v, _, he, ⟨(hW.below hk.1).1, fun p hp => ?_⟩, pc, cc, os, po, co, Kc, Ko, Tr.filter (fun q => decide (W.heap.size ≤ q.1)), hv, own_up hn h1, own_up hn h2, rb_up hn h3, d1, fun p hp q hq => d2 p hp q (hs q hq), fun p hp q hq => d3 p hp q (hs q hq), hm, fun p hp q hq => ?_, rfl⟩
   · rcases List.mem_append.1 hp with hp | hp
     · exact (hW.below hk.1).2 p hp
     · refine hk.2 p ?_
       rw [hT]
       rcases List.mem_append.1 hp with hp | hp
       · exact List.mem_append_left _ hp
       · rcases List.mem_append.1 hp with hp | hp
         · exact List.mem_append_right _ (List.mem_append_left _ hp)
         · exact List.mem_append_right _ (List.mem_append_right _ (hs p hp))
   · rcases List.mem_append.1 hq with hq | hq
     · exact own_ne hW h1 p hp q hq
     · rcases List.mem_append.1 hq with hq | hq
       · exact own_ne hW h2 p hp q hq
       · intro e
         have h5 := of_decide_eq_true (List.mem_filter.1 hq).2
         have h6 := lt_of_block (hW.2 p hp)
         omega
theorem calls_own2 {P : Program} {W0 : Base} {W : World} {K : List (Nat × Obj)} {E1 E2 : TypeId} {s1 s2 n1 n2 : Nat} {x1 x2 : List Value} {f : FuncId} {args : Array Value} (hW : KS W0 K W) (h : Calls P f args W fun e w' => ∃ v1 v2 Kb Ks, e = .returned (.tuple #[v1, v2]) ∧ KS (W : Base) (Kb ++ Ks) w' ∧ OwnL (W : Base) E1 s1 v1 n1 x1 Kb ∧ OwnL (W : Base) E2 s2 v2 n2 x2 Ks ∧ Dj Kb Ks) :
   Calls P f args W fun e w' => ∃ v K', e = .returned v ∧ KS W0 K' w' ∧ ∃ v1 v2 Kb Ks, v = .tuple #[v1, v2] ∧ OwnL W0 E1 s1 v1 n1 x1 Kb ∧ OwnL W0 E2 s2 v2 n2 x2 Ks ∧ Dj Kb Ks ∧ (∀ p ∈ K, ∀ q ∈ Kb ++ Ks, q.1 ≠ p.1) ∧ K' = K ++ (Kb ++ Ks) :=
 h.mono fun e w' ⟨v1, v2, Kb, Ks, he, hk, h1, h2, d⟩ => by
   have hn := hW.size
   refine ⟨_, _, he, ⟨(hW.below hk.1).1, fun p hp => ?_⟩, v1, v2, Kb, Ks, rfl, own_up hn h1, own_up hn h2, d, fun p hp q hq => ?_, rfl⟩
   · rcases List.mem_append.1 hp with hp | hp
     · exact (hW.below hk.1).2 p hp
     · exact hk.2 p hp
   · rcases List.mem_append.1 hq with hq | hq
     · exact own_ne hW h1 p hp q hq
     · exact own_ne hW h2 p hp q hq
def LimT (W0 : Base) (cs : List Col) (ov : List (Int × List Int)) (tol : Int) (ds : List Dp) (v : Value) (T : List (Nat × Obj)) : Prop :=
 ∃ pc cc os po co v1 v2 Kc Ko Tr Kb Ks, v = .tuple #[.agg (shC (.slice pc cs.length cc) (.slice po os.length co) (tlT tl0 tol)).toArray, v1, v2] ∧ OwnL W0 46 12 (.slice pc cs.length cc) cs.length (cs.flatMap colC) Kc ∧ OwnL W0 123 2 (.slice po os.length co) os.length (os.flatMap covC) Ko ∧ RB W0 Tr os ∧ os.map (fun o => (o.bay, o.rows)) = ov ∧ OwnL W0 37 9 v1 (loadedX cs os ds).1.length ((loadedX cs os ds).1.flatMap boC) Kb ∧ OwnL W0 42 4 v2 (loadedX cs os ds).2.length ((loadedX cs os ds).2.flatMap sdC) Ks ∧ Dj Kb Ks ∧ Dj Kb Kc ∧ Dj Kb Ko ∧ Dj Kb Tr ∧ T = Kc ++ (Ko ++ (Tr ++ (Kb ++ Ks)))
theorem shT_one {p q : Option Addr} {n c m d : Nat} {tol : Int} : ∀ v ∈ shC (.slice p n c) (.slice q m d) (tlT tl0 tol), v.oneCell' = true := fun v hv => by
 unfold shC tlT tl0 at hv
 simp only [List.mem_cons, List.not_mem_nil, or_false] at hv
 rcases hv with rfl | rfl | rfl | rfl | rfl | rfl | rfl | rfl | rfl | rfl | rfl | rfl | rfl <;> rfl
end Go.Proofs.Ytnbfljcilojllaa
/- Stack: faults of a column, one after the other. -/
namespace Go.Proofs.Ytnbfljcilojllaa
open Go Go.RowKit Tw
structure Ft where
 col : Int
 kind : Nat
 box : Int
def ft0 : Ft := ⟨0, 0, 0⟩
def ftC (x : Ft) : List Value := [.int .i64 x.col, .int .u8 ((x.kind : Nat) : Int), .int .i64 x.box]
theorem ftC_len (y : Ft) : (ftC y).length = 3 := rfl
theorem ftC_one (y : Ft) : ∀ v ∈ ftC y, v.oneCell' = true := by
 intro v hv
 simp only [ftC, List.mem_cons, List.not_mem_nil, or_false] at hv
 rcases hv with rfl | rfl | rfl <;> rfl
def encFt (x : Ft) : Array Value := #[.agg (ftC x).toArray]
def partV (cc : Col) (p : List Lo) : Nat → Int × Int
 | 0 => (kilX (halfP 1) p, cc.k20)
 | 1 => (kilX (halfP 2) p, cc.k20)
 | _ => (kilX allP p, cc.k40)
def heavy1 (cc : Col) (p : List Lo) (c : Int) (k : Nat) : List Ft := if (partV cc p k).2 < (partV cc p k).1 then [⟨c, k + 1, 0⟩] else []
def heavyF (cc : Col) (p : List Lo) (c : Int) : Nat → Nat → List Ft
 | 0, _ => []
 | r + 1, k => heavy1 cc p c k ++ heavyF cc p c r (k + 1)
def top1 (cc : Col) (p : List Lo) (tl c : Int) (y : Lo) : List Ft := if askB cc y.sd.slot = true ∧ bearX cc p tl y.sd.slot < y.k then [⟨c, 4, y.sd.box⟩] else []
def topF (cc : Col) (p : List Lo) (tl c : Int) (q : List Lo) : List Ft := q.flatMap (top1 cc p tl c)
def faultsL (cc : Col) (p : List Lo) (tl c : Int) : List Ft := heavyF cc p c 3 0 ++ topF cc p tl c p
def faultsX (cs : List Col) (bs : List Bo) (l : List Sd) (tol c : Int) : List Ft := faultsL (ldCol cs c) (ldPile bs l cs c) (ldTol cs c tol) c
theorem topF_drop {cc : Col} {p q : List Lo} {tl c : Int} {j : Nat} {y : Lo} (h : q[j]? = some y) : topF cc p tl c (q.drop j) = top1 cc p tl c y ++ topF cc p tl c (q.drop (j + 1)) := by
 obtain ⟨hk, rfl⟩ := List.getElem?_eq_some_iff.1 h
 unfold topF
 rw [List.drop_eq_getElem_cons hk, List.flatMap_cons]
theorem topF_end {cc : Col} {p q : List Lo} {tl c : Int} {j : Nat} (h : ¬ j < q.length) : topF cc p tl c (q.drop j) = [] := by
 rw [List.drop_eq_nil_of_le Tw.om]; rfl
theorem top1_yes {cc : Col} {p : List Lo} {tl c : Int} {y : Lo} (h1 : askB cc y.sd.slot = true) (h2 : bearX cc p tl y.sd.slot < y.k) : top1 cc p tl c y = [⟨c, 4, y.sd.box⟩] := by
 unfold top1
 rw [if_pos ⟨h1, h2⟩]
theorem top1_no1 {cc : Col} {p : List Lo} {tl c : Int} {y : Lo} (h1 : askB cc y.sd.slot = false) : top1 cc p tl c y = [] := by
 unfold top1
 rw [if_neg (by rw [h1]; rintro ⟨h, _⟩; cases h)]
theorem top1_no2 {cc : Col} {p : List Lo} {tl c : Int} {y : Lo} (h2 : ¬ bearX cc p tl y.sd.slot < y.k) : top1 cc p tl c y = [] := by
 unfold top1
 rw [if_neg (by rintro ⟨_, h⟩; exact h2 h)]
theorem heavy1_yes {cc : Col} {p : List Lo} {c : Int} {k : Nat} (h : (partV cc p k).2 < (partV cc p k).1) : heavy1 cc p c k = [⟨c, k + 1, 0⟩] := by
 unfold heavy1
 rw [if_pos h]
theorem heavy1_no {cc : Col} {p : List Lo} {c : Int} {k : Nat} (h : ¬ (partV cc p k).2 < (partV cc p k).1) : heavy1 cc p c k = [] := by
 unfold heavy1
 rw [if_neg h]
theorem heavyF_len (cc : Col) (p : List Lo) (c : Int) : ∀ (r k : Nat), (heavyF cc p c r k).length ≤ r
 | 0, _ => Nat.le_refl _
 | r + 1, k => by
   have h := heavyF_len cc p c r (k + 1)
   show (heavy1 cc p c k ++ heavyF cc p c r (k + 1)).length ≤ r + 1
   rw [List.length_append]
   have h1 : (heavy1 cc p c k).length ≤ 1 := by unfold heavy1; split <;> simp
   omega
theorem topF_len (cc : Col) (p : List Lo) (tl c : Int) : ∀ (q : List Lo), (topF cc p tl c q).length ≤ q.length
 | [] => Nat.le_refl _
 | y :: q => by
   have h := topF_len cc p tl c q
   show ((y :: q).flatMap (top1 cc p tl c)).length ≤ _
   rw [List.flatMap_cons, List.length_append, List.length_cons]
   have h1 : (top1 cc p tl c y).length ≤ 1 := by unfold top1; split <;> simp
   have h2 : (q.flatMap (top1 cc p tl c)).length ≤ q.length := h
   omega
theorem faults_len (cs : List Col) (bs : List Bo) (l : List Sd) (tol c : Int) : (faultsX cs bs l tol c).length ≤ 3 + l.length := by
 unfold faultsX faultsL
 rw [List.length_append]
 have h1 := heavyF_len (ldCol cs c) (ldPile bs l cs c) c 3 0
 have h2 := topF_len (ldCol cs c) (ldPile bs l cs c) (ldTol cs c tol) c (ldPile bs l cs c)
 have h3 := ldPile_len bs l cs c
 omega
end Go.Proofs.Ytnbfljcilojllaa
/- Stack: the faults of all columns. -/
namespace Go.Proofs.Ytnbfljcilojllaa
open Go Go.RowKit Tw
def faultsA (cs : List Col) (bs : List Bo) (l : List Sd) (tol : Int) (k : Nat) : List Ft := (List.range k).flatMap fun c => faultsX cs bs l tol ((c : Nat) : Int)
theorem faultsA_succ (cs : List Col) (bs : List Bo) (l : List Sd) (tol : Int) (k : Nat) : faultsA cs bs l tol (k + 1) = faultsA cs bs l tol k ++ faultsX cs bs l tol ((k : Nat) : Int) := by
 unfold faultsA
 rw [List.range_succ, List.flatMap_append]
 simp
theorem faultsA_len {cs : List Col} {bs : List Bo} {l : List Sd} {tol : Int} (h : l.length ≤ 1000000) : ∀ k, (faultsA cs bs l tol k).length ≤ k * 1000003
 | 0 => Nat.zero_le _
 | k + 1 => by
   have h1 := faultsA_len (cs := cs) (bs := bs) (tol := tol) h k
   have h2 := faults_len cs bs l tol ((k : Nat) : Int)
   rw [faultsA_succ, List.length_append]
   omega
def checkX (cs : List Col) (os : List Cov) (bs : List Bo) (l : List Sd) (tol : Int) : List Ft := if loadX cs os bs l = true then faultsA cs bs l tol cs.length else []
def checkE (cs : List Col) (os : List Cov) (bs : List Bo) (l : List Sd) : Int := if loadX cs os bs l = true then 0 else 2
theorem check_yes {cs : List Col} {os : List Cov} {bs : List Bo} {l : List Sd} (tol : Int) (h : loadX cs os bs l = true) : checkX cs os bs l tol = faultsA cs bs l tol cs.length ∧ checkE cs os bs l = 0 := by
 unfold checkX checkE
 rw [if_pos h, if_pos h]
 exact ⟨rfl, rfl⟩
theorem check_no {cs : List Col} {os : List Cov} {bs : List Bo} {l : List Sd} (tol : Int) (h : loadX cs os bs l = false) : checkX cs os bs l tol = [] ∧ checkE cs os bs l = 2 := by
 unfold checkX checkE
 rw [if_neg (by rw [h]; decide), if_neg (by rw [h]; decide)]
 exact ⟨rfl, rfl⟩
theorem outV_down {w w1 w' : World} {E : TypeId} {sz n : Nat} {v : Value} {xs : List Value} (h : OutV w1 w' E sz v n xs) (hle : w.heap.size ≤ w1.heap.size) : OutV w w' E sz v n xs := by
 rcases h with h | ⟨g, cap, cur, h1, h2, h3⟩
 · exact .inl h
 · exact .inr ⟨g, cap, cur, h1, Nat.le_trans hle h2, h3⟩
theorem calls_tur {α : Type} {cells : α → List Value} {P : Program} {W0 : Base} {W : World} {K : List (Nat × Obj)} {E : TypeId} {sz : Nat} {l : List α} {u : Value} {f : FuncId} {args : Array Value} (hW : KS W0 K W) (h : Calls P f args W fun e w' => ∃ v, e = .returned (.tuple #[v, u]) ∧ OutV W w' E sz v l.length (l.flatMap cells) ∧ Below W.heap.size W w') :
   Calls P f args W fun e w' => ∃ v K', e = .returned v ∧ KS W0 K' w' ∧ ∃ v1, v = .tuple #[v1, u] ∧ OutRL cells W0 K l v1 K' :=
 h.mono fun e w' ⟨v, he, hO, hb⟩ => by
   obtain ⟨Kl, h1, h2, h3⟩ := hO.own hW hb
   obtain ⟨p, c, rfl, h4, h5⟩ := own_rl h1
   exact ⟨_, _, he, h3, _, rfl, p, c, Kl, rfl, h4, h5, h2, rfl⟩
end Go.Proofs.Ytnbfljcilojllaa
/- Law 10: what is loaded; states that are not right. -/
namespace Go.Proofs.Ytnbfljcilojllaa
open Go Go.RowKit Tw
theorem elc_atp {α : Type} {d : α} {l : List α} {k : Nat} {y : α} (h : l[k]? = some y) : elC d l ((k : Nat) : Int) = y := (el_nat h).2
theorem boxOf_find (bs : List Bo) (n : Int) : boxOf bs n = (bs.find? (isId n)).getD bo0 := by
 unfold boxOf findB
 cases h : fst (isId n) bs with
 | none =>
   have h1 : bs.find? (isId n) = none := List.find?_eq_none.2 fun x hx => by rw [fst_none h x hx]; decide
   rw [h1]; rfl
 | some k =>
   obtain ⟨x, hx, hp, hq⟩ := fst_some h
   have hk := (List.getElem?_eq_some_iff.1 hx).1
   have e : bs = bs.take k ++ x :: bs.drop (k + 1) := by
     have := (List.getElem?_eq_some_iff.1 hx).2
     rw [← this, ← List.drop_eq_getElem_cons hk, List.take_append_drop]
   have h1 : (bs.take k).find? (isId n) = none := List.find?_eq_none.2 fun y hy => by
     obtain ⟨j, hj⟩ := List.getElem?_of_mem hy
     have hjl := (List.getElem?_eq_some_iff.1 hj).1
     rw [List.length_take] at hjl
     rw [List.getElem?_take, if_pos Tw.om] at hj
     rw [hq j y Tw.om hj]; decide
   have h2 : bs.find? (isId n) = some x := by
     rw [e, List.find?_append, h1, List.find?_cons, hp]; rfl
   rw [h2]
   show elC bo0 bs ((k : Nat) : Int) = x
   exact elc_atp hx
theorem boxOf_app_ne {bs : List Bo} {b : Bo} {n : Int} (h : b.id ≠ n) : boxOf (bs ++ [b]) n = boxOf bs n := by
 rw [boxOf_find, boxOf_find, List.find?_append]
 have h1 : [b].find? (isId n) = none := List.find?_eq_none.2 fun y hy => by
   cases List.mem_singleton.1 hy
   unfold isId
   rw [decide_eq_false h]; decide
 rw [h1, Option.or_none]
theorem load_congr {cs : List Col} {os : List Cov} {b1 b2 : List Bo} {l : List Sd} (h : ∀ x ∈ l, boxOf b1 x.box = boxOf b2 x.box) : loadX cs os b1 l = loadX cs os b2 l := by
 have hs : slotsOk cs b1 l = slotsOk cs b2 l := by
   unfold slotsOk
   rw [Bool.eq_iff_iff, List.all_eq_true, List.all_eq_true]
   exact ⟨fun h1 x hx => by rw [← h x hx]; exact h1 x hx, fun h1 x hx => by rw [h x hx]; exact h1 x hx⟩
 have hp : ∀ (ds : List Col) (k : Nat), pilesOk b1 l k ds = pilesOk b2 l k ds := by
   intro ds
   induction ds with
   | nil => intro k; rfl
   | cons c ds ih =>
     intro k
     have e : boxesL b1 (pileL l k) = boxesL b2 (pileL l k) := List.map_congr_left fun x hx => h x (pil_sub hx)
     show (standX (boxesL b1 (pileL l k)) (pileL l k) c.height && pilesOk b1 l (k + 1) ds) = (standX (boxesL b2 (pileL l k)) (pileL l k) c.height && pilesOk b2 l (k + 1) ds)
     rw [e, ih]
 unfold loadX
 rw [hs, hp]
theorem load_slots {cs : List Col} {os : List Cov} {bs : List Bo} {l : List Sd} (h : loadX cs os bs l = true) : rightX cs os = true ∧ incS l = true ∧ slotsOk cs bs l = true ∧ pilesOk bs l 0 cs = true := by
 unfold loadX at h
 simp only [Bool.and_eq_true] at h
 exact ⟨h.1, h.2.1, h.2.2.1, h.2.2.2⟩
structure LdOk (cs : List Col) (os : List Cov) (k : Nat) (bs : List Bo) (l : List Sd) : Prop where
 ids : ∀ b ∈ bs, ∃ i d, i < k ∧ b = boxD i d
 len : bs.length = k
 st : l.length ≤ k
 box : ∀ x ∈ l, x.box ≤ ((5 * k : Nat) : Int)
 ok : (l = [] ∨ rightX cs os = true) ∧ (rightX cs os = true → pilesOk [] [] 0 cs = true → loadX cs os bs l = true) ∧ (l = [] ∨ loadX cs os bs l = true)
theorem boxD_id (i : Nat) (d : Dp) : (boxD i d).id = ((5 * (i + 1) : Nat) : Int) := rfl
theorem ldok_nil (cs : List Col) (os : List Cov) : LdOk cs os 0 [] [] := ⟨(fun _ h => by cases h), rfl, Nat.le_refl _, (fun _ h => by cases h), .inl rfl, fun h1 h2 => (by unfold loadX; rw [h1]; show (slotsOk cs [] [] && pilesOk [] [] 0 cs) = true; rw [h2]; rfl), .inl rfl⟩
theorem tryS_cases (cs : List Col) (os : List Cov) (bs : List Bo) (l : List Sd) (id cm : Int) : ∀ xs : List Slt, tryS cs os bs l id cm xs = l ∨ ∃ x, tryS cs os bs l id cm xs = l ++ [⟨id, x⟩] ∧ loadX cs os bs (l ++ [⟨id, x⟩]) = true ∧ x.col = cm
 | [] => .inl rfl
 | x :: xs => by
   unfold tryS
   split
   · rename_i h
     exact .inr ⟨x, rfl, h.2, h.1⟩
   · exact tryS_cases cs os bs l id cm xs
theorem ldok_step {cs : List Col} {os : List Cov} {k : Nat} {bs : List Bo} {l : List Sd} (h : LdOk cs os k bs l) (d : Dp) (cm : Int) (xs : List Slt) : LdOk cs os (k + 1) (bs ++ [boxD k d]) (tryS cs os (bs ++ [boxD k d]) l (boxD k d).id cm xs) := by
 have hne : ∀ x ∈ l, boxOf (bs ++ [boxD k d]) x.box = boxOf bs x.box := fun x hx => boxOf_app_ne (by have := h.box x hx; rw [boxD_id]; omega)
 have hl : loadX cs os (bs ++ [boxD k d]) l = loadX cs os bs l := load_congr hne
 have hi : ∀ b ∈ bs ++ [boxD k d], ∃ i d, i < k + 1 ∧ b = boxD i d := fun b hb => by
   rcases List.mem_append.1 hb with hb | hb
   · obtain ⟨i, e, h1, h2⟩ := h.ids b hb
     exact ⟨i, e, by omega, h2⟩
   · exact ⟨k, d, by omega, List.mem_singleton.1 hb⟩
 have hn : (bs ++ [boxD k d]).length = k + 1 := by rw [List.length_append, h.len]; rfl
 rcases tryS_cases cs os (bs ++ [boxD k d]) l (boxD k d).id cm xs with e | ⟨x, e, e2, _⟩
 · rw [e]
   exact ⟨hi, hn, Nat.le_succ_of_le h.st, fun x hx => by have := h.box x hx; omega, h.ok.1, fun h1 h2 => by rw [hl]; exact h.ok.2.1 h1 h2, h.ok.2.2.imp id fun h3 => by rw [hl]; exact h3⟩
 · rw [e]
   refine ⟨hi, hn, by rw [List.length_append]; have := h.st; simp only [List.length_cons, List.length_nil]; omega, fun y hy => ?_, .inr (load_slots e2).1, fun _ _ => e2, .inr e2⟩
   rcases List.mem_append.1 hy with hy | hy
   · have := h.box y hy; omega
   · cases List.mem_singleton.1 hy
     show (boxD k d).id ≤ _
     rw [boxD_id]; omega
theorem loadedF_ok {cs : List Col} {os : List Cov} : ∀ (ds : List Dp) (k : Nat) (bs : List Bo) (l : List Sd), LdOk cs os k bs l → LdOk cs os (k + ds.length) (loadedF cs os k bs l ds).1 (loadedF cs os k bs l ds).2
 | [], _, _, _, h => h
 | d :: ds, k, bs, l, h => by
   have h1 := loadedF_ok ds (k + 1) _ _ (ldok_step h d ((d.col % cs.length : Nat) : Int) (slotsX cs (boxD k d).size))
   have e : k + (d :: ds).length = k + 1 + ds.length := by rw [List.length_cons]; omega
   rw [e]
   exact h1
theorem loaded_ok (cs : List Col) (os : List Cov) (ds : List Dp) : ∃ k, k ≤ 9 ∧ LdOk cs os k (loadedX cs os ds).1 (loadedX cs os ds).2 := by
 refine ⟨0 + (ds.take 9).length, by rw [List.length_take]; omega, ?_⟩
 unfold loadedX
 exact loadedF_ok _ _ _ _ (ldok_nil cs os)
theorem ld_cols {cs : List Col} {os : List Cov} {k : Nat} {bs : List Bo} {l : List Sd} (h : LdOk cs os k bs l) : ∀ x ∈ l, ∃ (j : Nat) (c : Col), cs[j]? = some c ∧ x.slot.col = ((j : Nat) : Int) ∧ 0 ≤ x.slot.tier ∧ x.slot.tier < c.tiers := fun x hx => by
 rcases h.ok.2.2 with e | e
 · rw [e] at hx; cases hx
 · exact right_at (List.all_eq_true.1 (load_slots e).2.2.1 x hx)
def LimF (W0 : Base) (K : List (Nat × Obj)) (cs : List Col) (ov : List (Int × List Int)) (tol : Int) (ds : List Dp) (v : Value) (K' : List (Nat × Obj)) : Prop :=
 ∃ pc cc os po co pb cb ps cd, v = .tuple #[.agg (shC (.slice pc cs.length cc) (.slice po os.length co) (tlT tl0 tol)).toArray, .slice pb (loadedX cs os ds).1.length cb, .slice ps (loadedX cs os ds).2.length cd] ∧ os.map (fun o => (o.bay, o.rows)) = ov ∧ (∀ p ∈ K, p ∈ K') ∧ ∀ W, KS W0 K' W → SLV W pc (cs.flatMap colC) ∧ SLV W po (os.flatMap covC) ∧ RwR W os ∧ SLV W pb ((loadedX cs os ds).1.flatMap boC) ∧ SLV W ps ((loadedX cs os ds).2.flatMap sdC)
theorem calls_lim {P : Program} {W0 : Base} {W : World} {K : List (Nat × Obj)} {cs : List Col} {ov : List (Int × List Int)} {tol : Int} {ds : List Dp} {f : FuncId} {args : Array Value} (hW : KS W0 K W) (h : Calls P f args W fun e w' => ∃ v T, e = .returned v ∧ KS (W : Base) T w' ∧ LimT (W : Base) cs ov tol ds v T) :
   Calls P f args W fun e w' => ∃ v K', e = .returned v ∧ KS W0 K' w' ∧ LimF W0 K cs ov tol ds v K' :=
 h.mono fun e w' ⟨v, T, he, hk, pc, cc, os, po, co, v1, v2, Kc, Ko, Tr, Kb, Ks, hv, h1, h2, h3, hm, h4, h5, _, _, _, _, hT⟩ => by
   have hn := hW.size
   obtain ⟨pb, cb, rfl, _, Rb⟩ := own_rl (own_up hn h4)
   obtain ⟨ps, cd, rfl, _, Rs⟩ := own_rl (own_up hn h5)
   obtain ⟨qc, dc, e1, _, Rc⟩ := own_rl (own_up hn h1)
   obtain ⟨rfl, _, rfl⟩ := Value.slice.inj e1
   obtain ⟨qo, do_, e2, _, Ro⟩ := own_rl (own_up hn h2)
   obtain ⟨rfl, _, rfl⟩ := Value.slice.inj e2
   have hr := (rb_up hn h3).rw
   refine ⟨v, K ++ T, he, ⟨(hW.below hk.1).1, fun p hp => ?_⟩, pc, cc, os, po, co, pb, cb, ps, cd, hv, hm, fun p hp => List.mem_append_left _ hp, fun V hV => ?_⟩
   · rcases List.mem_append.1 hp with hp | hp
     · exact (hW.below hk.1).2 p hp
     · exact hk.2 p hp
   · have sub : ∀ {X : List (Nat × Obj)}, (∀ p ∈ X, p ∈ T) → KS W0 X V := fun hx => hV.sub fun p hp => List.mem_append_right _ (hx p hp)
     subst hT
     exact ⟨Rc V (sub fun p hp => List.mem_append_left _ hp), Ro V (sub fun p hp => List.mem_append_right _ (List.mem_append_left _ hp)), hr V (sub fun p hp => List.mem_append_right _ (List.mem_append_right _ (List.mem_append_left _ (List.mem_filter.1 hp).1))), Rb V (sub fun p hp => List.mem_append_right _ (List.mem_append_right _ (List.mem_append_right _ (List.mem_append_left _ hp)))), Rs V (sub fun p hp => List.mem_append_right _ (List.mem_append_right _ (List.mem_append_right _ (List.mem_append_right _ hp))))⟩
end Go.Proofs.Ytnbfljcilojllaa
/- Law 10: sums of kilos. -/
namespace Go.Proofs.Ytnbfljcilojllaa
open Go Go.RowKit Tw
theorem kilX_app (P : Slt → Bool) (l : List Lo) (y : Lo) : kilX P (l ++ [y]) = kilA P (kilX P l) y := by
 unfold kilX
 rw [List.foldl_append]; rfl
def wholX (bs : List Bo) (l : List Sd) (c : Int) : Int := kilX (halfP 0) (pileK bs l c)
theorem whol_yes {bs : List Bo} {l : List Sd} {k : Nat} {y : Sd} {c : Int} (hy : l[k]? = some y) (h : y.slot.col = c) (h2 : y.slot.half = 0) : wholX bs (l.take (k + 1)) c = IntKind.i64.wrap (wholX bs (l.take k) c + (boxOf bs y.box).kilos) := by
 unfold wholX
 rw [pileK_yes hy h, kilX_app]
 unfold kilA
 rw [if_pos (by unfold halfP; exact decide_eq_true h2)]; rfl
theorem whol_no1 {bs : List Bo} {l : List Sd} {k : Nat} {y : Sd} {c : Int} (hy : l[k]? = some y) (h : ¬ y.slot.col = c) : wholX bs (l.take (k + 1)) c = wholX bs (l.take k) c := by
 unfold wholX
 rw [pileK_no hy h]
theorem whol_no2 {bs : List Bo} {l : List Sd} {k : Nat} {y : Sd} {c : Int} (hy : l[k]? = some y) (h : y.slot.col = c) (h2 : ¬ y.slot.half = 0) : wholX bs (l.take (k + 1)) c = wholX bs (l.take k) c := by
 unfold wholX
 rw [pileK_yes hy h, kilX_app]
 unfold kilA
 rw [if_neg (by unfold halfP; show ¬ decide (y.slot.half = 0) = true; rw [decide_eq_false h2]; decide)]
def everK (bs : List Bo) (l : List Sd) : Int := kilX allP (l.map (loOf bs))
def wantF (bs : List Bo) (l : List Sd) (c i : Nat) : Int := if c = 0 then everK bs (l.take i) else everK bs l
theorem want_yes {bs : List Bo} {l : List Sd} {c i : Nat} {y : Sd} (hy : l[i]? = some y) (h : c = 0) : wantF bs l c (i + 1) = IntKind.i64.wrap (wantF bs l c i + (boxOf bs y.box).kilos) := by
 obtain ⟨hk, rfl⟩ := List.getElem?_eq_some_iff.1 hy
 unfold wantF everK
 rw [if_pos h, if_pos h, List.take_succ_eq_append_getElem hk, List.map_append, List.map_singleton, kilX_app]; rfl
theorem want_no {bs : List Bo} {l : List Sd} {c i : Nat} (h : ¬ c = 0) : wantF bs l c (i + 1) = wantF bs l c i := by
 unfold wantF
 rw [if_neg h, if_neg h]
theorem want_end {bs : List Bo} {l : List Sd} {c i : Nat} (h : ¬ i < l.length) : wantF bs l c i = wantF bs l (c + 1) 0 := by
 unfold wantF
 rw [if_neg (show ¬ c + 1 = 0 by omega), List.take_of_length_le Tw.om]
 split <;> rfl
def totX (bs : List Bo) (l : List Sd) : Nat → Int
 | 0 => 0
 | c + 1 => IntKind.i64.wrap (totX bs l c + allX bs l ((c : Nat) : Int))
-- sums that don't wrap
def sumL : List Int → Int
 | [] => 0
 | x :: l => x + sumL l
theorem sumL_le {l : List Int} {B : Int} (hB : 0 ≤ B) (h : ∀ x ∈ l, 0 ≤ x ∧ x ≤ B) : 0 ≤ sumL l ∧ sumL l ≤ B * ((l.length : Nat) : Int) := by
 induction l with
 | nil => simp [sumL]
 | cons x l ih =>
   obtain ⟨h1, h2⟩ := ih fun y hy => h y (.tail _ hy)
   obtain ⟨h3, h4⟩ := h x Tw.m0
   have e : B * (((x :: l).length : Nat) : Int) = B * ((l.length : Nat) : Int) + B := by
     rw [List.length_cons, Int.natCast_add, Int.mul_add]; simp
   rw [e]
   simp only [sumL]
   omega
theorem wrap_small {z : Int} (h1 : 0 ≤ z) (h2 : z ≤ 9000000000) : IntKind.i64.wrap z = z := wi_i64 Tw.om
def pickK (P : Slt → Bool) (l : List Lo) : List Int := (l.filter fun y => P y.sd.slot).map (·.k)
theorem kil_sum {P : Slt → Bool} : ∀ (l : List Lo) (a : Int), 0 ≤ a → (∀ y ∈ l, 0 ≤ y.k) → a + sumL (pickK P l) ≤ 9000000000 → l.foldl (kilA P) a = a + sumL (pickK P l)
 | [], a, _, _, _ => by simp [pickK, sumL]
 | y :: l, a, ha, hk, hb => by
   have hy := hk y Tw.m0
   have hl : ∀ z ∈ l, 0 ≤ z.k := fun z hz => hk z (.tail _ hz)
   have hs : 0 ≤ sumL (pickK P l) := by
     have : ∀ (m : List Int), (∀ x ∈ m, 0 ≤ x) → 0 ≤ sumL m := by
       intro m hm
       induction m with
       | nil => exact Int.le_refl _
       | cons x m ih => have h1 := hm x Tw.m0; have h2 := ih fun z hz => hm z (.tail _ hz); simp only [sumL]; omega
     refine this _ fun x hx => ?_
     obtain ⟨z, hz, rfl⟩ := List.mem_map.1 hx
     exact hl z (List.mem_filter.1 hz).1
   rw [List.foldl_cons]
   by_cases h : P y.sd.slot = true
   · have e : pickK P (y :: l) = y.k :: pickK P l := by unfold pickK; rw [List.filter_cons, if_pos h]; rfl
     rw [e] at hb ⊢
     simp only [sumL] at hb ⊢
     have e2 : kilA P a y = a + y.k := by unfold kilA; rw [if_pos h]; exact wrap_small Tw.om Tw.om
     rw [e2, kil_sum l (a + y.k) Tw.om hl Tw.om]
     omega
   · have e : pickK P (y :: l) = pickK P l := by unfold pickK; rw [List.filter_cons, if_neg h]
     rw [e] at hb ⊢
     have e2 : kilA P a y = a := by unfold kilA; rw [if_neg h]
     rw [e2, kil_sum l a ha hl hb]
structure SmallK (l : List Lo) : Prop where
 len : l.length ≤ 9
 k : ∀ y ∈ l, 0 ≤ y.k ∧ y.k ≤ 26500
theorem pick_le {P : Slt → Bool} {l : List Lo} (h : SmallK l) : 0 ≤ sumL (pickK P l) ∧ sumL (pickK P l) ≤ 238500 := by
 have h1 := sumL_le (l := pickK P l) (B := 26500) (by decide) fun x hx => by
   obtain ⟨z, hz, rfl⟩ := List.mem_map.1 hx
   exact h.k z (List.mem_filter.1 hz).1
 have h2 : (pickK P l).length ≤ l.length := by unfold pickK; rw [List.length_map]; exact List.length_filter_le _ _
 have h3 := h.len
 refine ⟨h1.1, Int.le_trans h1.2 ?_⟩
 have : (((pickK P l).length : Nat) : Int) ≤ 9 := by omega
 omega
theorem kil_is {P : Slt → Bool} {l : List Lo} (h : SmallK l) : kilX P l = sumL (pickK P l) := by
 have h1 := pick_le (P := P) h
 have := kil_sum (P := P) l 0 (by decide) (fun y hy => (h.k y hy).1) Tw.om
 unfold kilX
 rw [this]; omega
theorem pick_three : ∀ (l : List Lo), (∀ y ∈ l, y.sd.slot.half ≤ 2) → sumL (pickK allP l) = sumL (pickK (halfP 1) l) + sumL (pickK (halfP 2) l) + sumL (pickK (halfP 0) l)
 | [], _ => rfl
 | y :: l, h => by
   have ih := pick_three l fun z hz => h z (.tail _ hz)
   have hy := h y Tw.m0
   have e : ∀ P : Slt → Bool, sumL (pickK P (y :: l)) = (if P y.sd.slot = true then y.k else 0) + sumL (pickK P l) := fun P => by
     unfold pickK
     rw [List.filter_cons]
     split
     · rfl
     · omega
   rw [e, e, e, e]
   have h1 : allP y.sd.slot = true := rfl
   rw [if_pos h1]
   have hP : ∀ n, (halfP n y.sd.slot = true) = (y.sd.slot.half = n) := fun n => by unfold halfP; simp
   simp only [hP]
   rcases (show y.sd.slot.half = 0 ∨ y.sd.slot.half = 1 ∨ y.sd.slot.half = 2 by omega) with h2 | h2 | h2 <;> rw [h2] <;> simp <;> omega
theorem sum_parts {bs : List Bo} {l : List Sd} {c : Int} (hs : SmallK (pileK bs l c)) (hh : ∀ x ∈ l, x.slot.half ≤ 2) : allX bs l c = IntKind.i64.wrap (IntKind.i64.wrap (foreX bs l c + aftX bs l c) + wholX bs l c) := by
 unfold allX foreX aftX wholX
 rw [kil_is hs, kil_is hs, kil_is hs, kil_is hs]
 have h1 := pick_le (P := halfP 1) hs
 have h2 := pick_le (P := halfP 2) hs
 have h0 := pick_le (P := halfP 0) hs
 rw [wrap_small (z := sumL (pickK (halfP 1) (pileK bs l c)) + sumL (pickK (halfP 2) (pileK bs l c))) Tw.om Tw.om, wrap_small Tw.om Tw.om]
 refine pick_three _ fun y hy => ?_
 unfold pileK at hy
 obtain ⟨x, hx, rfl⟩ := List.mem_map.1 hy
 exact hh x (List.mem_filter.1 hx).1
theorem pickA (bs : List Bo) (l : List Sd) : pickK allP (l.map (loOf bs)) = l.map (kiloX bs) := by
 unfold pickK
 rw [show (l.map (loOf bs)).filter (fun y => allP y.sd.slot) = l.map (loOf bs) from List.filter_eq_self.2 (fun _ _ => rfl), List.map_map]; rfl
theorem pickP (bs : List Bo) (l : List Sd) (c : Int) : pickK allP (pileK bs l c) = (l.filter (inCol c)).map (kiloX bs) := pickA bs _
def ltCol (c : Int) (x : Sd) : Bool := decide (x.slot.col < c)
theorem sum_split (f : Sd → Int) (c : Int) : ∀ l : List Sd, sumL ((l.filter (ltCol (c + 1))).map f) = sumL ((l.filter (ltCol c)).map f) + sumL ((l.filter (inCol c)).map f)
 | [] => rfl
 | x :: l => by
   have ih := sum_split f c l
   have e : ∀ P : Sd → Bool, sumL (((x :: l).filter P).map f) = (if P x = true then f x else 0) + sumL ((l.filter P).map f) := fun P => by
     rw [List.filter_cons]
     split
     · rfl
     · omega
   rw [e, e, e]
   have h1 : ∀ d, (ltCol d x = true) = (x.slot.col < d) := fun d => by unfold ltCol; simp
   have h2 : (inCol c x = true) = (x.slot.col = c) := by unfold inCol; simp
   simp only [h1, h2]
   rcases Int.lt_trichotomy x.slot.col c with h | h | h
   · rw [if_pos Tw.om, if_pos h, if_neg Tw.om]; omega
   · rw [if_pos Tw.om, if_neg Tw.om, if_pos h]; omega
   · rw [if_neg Tw.om, if_neg Tw.om, if_neg Tw.om]; omega
theorem small_sub {bs : List Bo} {l : List Sd} (h : SmallK (l.map (loOf bs))) (P : Sd → Bool) : SmallK ((l.filter P).map (loOf bs)) := by
 refine ⟨?_, fun y hy => ?_⟩
 · have h1 := h.len
   have h2 := List.length_filter_le P l
   rw [List.length_map] at h1 ⊢
   omega
 · obtain ⟨x, hx, rfl⟩ := List.mem_map.1 hy
   exact h.k _ (List.mem_map.2 ⟨x, (List.mem_filter.1 hx).1, rfl⟩)
theorem tot_is {bs : List Bo} {l : List Sd} (h : SmallK (l.map (loOf bs))) (h0 : ∀ x ∈ l, 0 ≤ x.slot.col) : ∀ c : Nat, totX bs l c = sumL ((l.filter (ltCol ((c : Nat) : Int))).map (kiloX bs))
 | 0 => by
   have e : l.filter (ltCol ((0 : Nat) : Int)) = [] := List.filter_eq_nil_iff.2 fun x hx => by
     unfold ltCol
     have := h0 x hx
     rw [decide_eq_false Tw.om]; decide
   rw [e]; rfl
 | c + 1 => by
   have ih := tot_is h h0 c
   have hs := small_sub h (inCol ((c : Nat) : Int))
   show IntKind.i64.wrap (totX bs l c + allX bs l ((c : Nat) : Int)) = _
   have e1 : allX bs l ((c : Nat) : Int) = sumL ((l.filter (inCol ((c : Nat) : Int))).map (kiloX bs)) := by
     unfold allX
     rw [kil_is (show SmallK (pileK bs l ((c : Nat) : Int)) from hs), pickP]
   have e2 := sum_split (kiloX bs) ((c : Nat) : Int) l
   have b := pick_le (P := allP) (small_sub h (ltCol (((c + 1 : Nat)) : Int)))
   rw [pickA] at b
   rw [show (((c + 1 : Nat)) : Int) = ((c : Nat) : Int) + 1 from by omega] at b ⊢
   rw [ih, e1, ← e2]
   exact wrap_small b.1 Tw.om
theorem tot_all {bs : List Bo} {l : List Sd} {n : Nat} (h : SmallK (l.map (loOf bs))) (h0 : ∀ x ∈ l, 0 ≤ x.slot.col ∧ x.slot.col < ((n : Nat) : Int)) : totX bs l n = everK bs l := by
 rw [tot_is h fun x hx => (h0 x hx).1]
 have e : l.filter (ltCol ((n : Nat) : Int)) = l := List.filter_eq_self.2 fun x hx => by unfold ltCol; exact decide_eq_true (h0 x hx).2
 unfold everK
 rw [e, kil_is h, pickA]
-- what is loaded
theorem loaded_from {cs : List Col} {os : List Cov} : ∀ (ds : List Dp) (k : Nat) (bs : List Bo) (l : List Sd), ∀ b ∈ (loadedF cs os k bs l ds).1, b ∈ bs ∨ ∃ i, ∃ d ∈ ds, b = boxD i d
 | [], _, _, _, _, hb => .inl hb
 | d :: ds, k, bs, l, b, hb => by
   rcases loaded_from ds (k + 1) (bs ++ [boxD k d]) (tryS cs os (bs ++ [boxD k d]) l (boxD k d).id ((d.col % cs.length : Nat) : Int) (slotsX cs (boxD k d).size)) b hb with h | ⟨i, e, he, rfl⟩
   · rcases List.mem_append.1 h with h | h
     · exact .inl h
     · exact .inr ⟨k, d, .head _, List.mem_singleton.1 h⟩
   · exact .inr ⟨i, e, .tail _ he, rfl⟩
theorem boxOf_mem (bs : List Bo) (n : Int) : boxOf bs n ∈ bs ∨ boxOf bs n = bo0 := by
 rw [boxOf_find]
 cases h : bs.find? (isId n) with
 | none => exact .inr rfl
 | some x => exact .inl (List.mem_of_find?_eq_some h)
theorem loaded_small {cs : List Col} {os : List Cov} {ds : List Dp} (hd : ∀ d ∈ ds, d.col ≤ 255 ∧ d.kil ≤ 255) {k : Nat} (hk : k ≤ 9) (h : LdOk cs os k (loadedX cs os ds).1 (loadedX cs os ds).2) : SmallK ((loadedX cs os ds).2.map (loOf (loadedX cs os ds).1)) := by
 refine ⟨by rw [List.length_map]; have := h.st; omega, fun y hy => ?_⟩
 obtain ⟨x, hx, rfl⟩ := List.mem_map.1 hy
 show 0 ≤ (boxOf _ x.box).kilos ∧ (boxOf _ x.box).kilos ≤ 26500
 rcases boxOf_mem (loadedX cs os ds).1 x.box with hm | hm
 · rcases loaded_from (ds.take 9) 0 [] [] _ hm with h1 | ⟨i, d, h1, h2⟩
   · cases h1
   · rw [h2]
     have h3 := (hd d (List.mem_of_mem_take h1)).2
     show 0 ≤ ((1000 + 100 * d.kil : Nat) : Int) ∧ ((1000 + 100 * d.kil : Nat) : Int) ≤ 26500
     omega
 · rw [hm]; decide
theorem has_half {z h : Nat} (e : hasH z h = true) : (z = 20 ∧ (h = 1 ∨ h = 2)) ∨ (z = 40 ∧ h = 0) := by
 unfold hasH at e
 obtain ⟨k, hk⟩ := Option.isSome_iff_exists.1 e
 obtain ⟨x, hx, hp, _⟩ := fst_some hk
 have hm := List.mem_of_getElem? hx
 have hp := of_decide_eq_true hp
 subst hp
 unfold hsX at hm
 split at hm
 · rename_i hz
   simp only [List.mem_cons, List.not_mem_nil, or_false] at hm
   exact .inl ⟨hz, hm⟩
 · split at hm
   · rename_i hz
     exact .inr ⟨hz, List.mem_singleton.1 hm⟩
   · cases hm
theorem find_ne {bs : List Bo} {n : Int} (h : boxOf bs n ≠ bo0) : (findB bs n).isSome = true := by
 cases e : findB bs n with
 | some k => rfl
 | none =>
   refine (h ?_).elim
   unfold boxOf
   rw [e]
   exact (el_neg (by decide)).2
theorem ld_halves {cs : List Col} {os : List Cov} {k : Nat} {bs : List Bo} {l : List Sd} (h : LdOk cs os k bs l) : ∀ x ∈ l, x.slot.half ≤ 2 ∧ (findB bs x.box).isSome = true := fun x hx => by
 rcases h.ok.2.2 with e | e
 · rw [e] at hx; cases hx
 · have h1 := List.all_eq_true.1 (load_slots e).2.2.1 x hx
   unfold rightS at h1
   rw [Bool.and_eq_true] at h1
   have h2 := has_half h1.2
   refine ⟨by omega, find_ne fun hb => ?_⟩
   rw [hb] at h2
   have : bo0.size = 0 := rfl
   omega
-- the faults of a column
def nk1 (f : Ft) : Nat := if f.kind = 4 then 0 else 1 * 2 ^ f.kind
def nkX : List Ft → Nat
 | [] => 0
 | f :: l => nk1 f + nkX l
theorem nkX_app (l m : List Ft) : nkX (l ++ m) = nkX l + nkX m := by
 induction l with
 | nil => simp [nkX]
 | cons f l ih => simp only [List.cons_append, nkX, ih]; omega
theorem nk_take {l : List Ft} {j : Nat} {f : Ft} (h : l[j]? = some f) : nkX (l.take (j + 1)) = nkX (l.take j) + nk1 f := by
 obtain ⟨hk, rfl⟩ := List.getElem?_eq_some_iff.1 h
 rw [List.take_succ_eq_append_getElem hk, nkX_app]; rfl
theorem heavy_mem {cc : Col} {p : List Lo} {c : Int} : ∀ (r k : Nat), k + r = 3 → ∀ f ∈ heavyF cc p c r k, f.col = c ∧ f.box = 0 ∧ 1 ≤ f.kind ∧ f.kind ≤ 3
 | 0, _, _, _, hf => by cases hf
 | r + 1, k, hk, f, hf => by
   rcases List.mem_append.1 (show f ∈ heavy1 cc p c k ++ heavyF cc p c r (k + 1) from hf) with h | h
   · unfold heavy1 at h
     split at h
     · cases List.mem_singleton.1 h
       exact ⟨rfl, rfl, by show 1 ≤ k + 1; omega, by show k + 1 ≤ 3; omega⟩
     · cases h
   · exact heavy_mem r (k + 1) Tw.om f h
theorem top_mem {cc : Col} {p q : List Lo} {tl c : Int} {f : Ft} (hf : f ∈ topF cc p tl c q) : f.col = c ∧ f.kind = 4 := by
 unfold topF at hf
 obtain ⟨y, _, hy⟩ := List.mem_flatMap.1 hf
 unfold top1 at hy
 split at hy
 · cases List.mem_singleton.1 hy
   exact ⟨rfl, rfl⟩
 · cases hy
theorem fx_mem {cs : List Col} {bs : List Bo} {l : List Sd} {tol c : Int} {f : Ft} (hf : f ∈ faultsX cs bs l tol c) : f.col = c ∧ (f.kind = 4 ∨ (f.box = 0 ∧ 1 ≤ f.kind ∧ f.kind ≤ 3)) := by
 unfold faultsX faultsL at hf
 rcases List.mem_append.1 hf with h | h
 · have h1 := heavy_mem 3 0 rfl f h
   exact ⟨h1.1, .inr h1.2⟩
 · have h1 := top_mem h
   exact ⟨h1.1, .inl h1.2⟩
theorem nk_top {cc : Col} {p : List Lo} {tl c : Int} : ∀ q : List Lo, nkX (topF cc p tl c q) = 0
 | [] => rfl
 | y :: q => by
   show nkX ((y :: q).flatMap (top1 cc p tl c)) = 0
   rw [List.flatMap_cons, nkX_app, show q.flatMap (top1 cc p tl c) = topF cc p tl c q from rfl, nk_top q]
   unfold top1
   split <;> rfl
theorem nk_h1 (cc : Col) (p : List Lo) (c : Int) (k : Nat) : nkX (heavy1 cc p c k) = if (partV cc p k).2 < (partV cc p k).1 then (if k + 1 = 4 then 0 else 1 * 2 ^ (k + 1)) else 0 := by
 unfold heavy1
 split <;> rfl
theorem nk_fx {cs : List Col} {bs : List Bo} {l : List Sd} {tol : Int} {c : Nat} {y : Col} (h : cs[c]? = some y) : nkX (faultsX cs bs l tol ((c : Nat) : Int)) = (if y.k20 < foreX bs l ((c : Nat) : Int) then 2 else 0) + ((if y.k20 < aftX bs l ((c : Nat) : Int) then 4 else 0) + (if y.k40 < allX bs l ((c : Nat) : Int) then 8 else 0)) := by
 unfold faultsX faultsL
 rw [nkX_app, nk_top, ld_col h, ld_pile h]
 show nkX (heavy1 y _ _ 0 ++ (heavy1 y _ _ 1 ++ (heavy1 y _ _ 2 ++ []))) + 0 = _
 rw [nkX_app, nkX_app, nkX_app, nk_h1, nk_h1, nk_h1]
 rfl
def blC (b : Bool) : List Value := [.bool b]
theorem blC_len (b : Bool) : (blC b).length = 1 := rfl
def wantB (L : List Bool) : Nat → Nat
 | 0 => 0
 | k + 1 => wantB L k + (if L[k]? = some true then 1 * 2 ^ k else 0)
theorem wantB_yes {L : List Bool} {k : Nat} {y : Bool} (hy : L[k]? = some y) (h : y = true) : wantB L (k + 1) = wantB L k + 1 * 2 ^ k := by
 show wantB L k + (if L[k]? = some true then 1 * 2 ^ k else 0) = _
 rw [if_pos (by rw [hy, h])]
theorem wantB_no {L : List Bool} {k : Nat} {y : Bool} (hy : L[k]? = some y) (h : y = false) : wantB L (k + 1) = wantB L k := by
 show wantB L k + (if L[k]? = some true then 1 * 2 ^ k else 0) = _
 rw [if_neg (by rw [hy, h]; decide)]; rfl
theorem pow_few {k : Nat} (h : k < 4) : 1 * 2 ^ k ≤ 8 := by
 rcases (show k = 0 ∨ k = 1 ∨ k = 2 ∨ k = 3 by omega) with h | h | h | h <;> rw [h] <;> decide
theorem nk_want (p q r : Prop) [Decidable p] [Decidable q] [Decidable r] : (if p then 2 else 0) + ((if q then 4 else 0) + (if r then 8 else 0)) = wantB [false, decide p, decide q, decide r] 4 := by
 by_cases h1 : p <;> by_cases h2 : q <;> by_cases h3 : r <;> simp [wantB, h1, h2, h3]
end Go.Proofs.Ytnbfljcilojllaa
/- Law 10: the example of the chapter. -/
namespace Go.Proofs.Ytnbfljcilojllaa
open Go Go.RowKit Tw
def exK (c : Col) : Col := { c with k20 := 30000, k40 := 50000 }
def exL : List Col := exCs.map exK
def exB (k : Int) : List Bo := [⟨1, [], 20, false, 15000, 0, 0, 0, false⟩, ⟨2, [], 20, false, 9000, 0, 0, 0, false⟩, ⟨3, [], 40, false, k, 0, 0, 0, false⟩, ⟨4, [], 20, false, 12000, 0, 0, 0, false⟩]
def exS1 : List Sd := [⟨1, ⟨2, 0, 1⟩⟩, ⟨2, ⟨2, 0, 2⟩⟩, ⟨3, ⟨2, 1, 0⟩⟩]
def exS2 : List Sd := [⟨1, ⟨2, 0, 1⟩⟩, ⟨2, ⟨2, 0, 2⟩⟩, ⟨4, ⟨2, 1, 2⟩⟩]
def exO (rp : Option Addr) (rc : Nat) : List Cov := [⟨0, [0, 1], rp, rc⟩]
section
variable (rp : Option Addr) (rc : Nat)
theorem ev_c1 : checkX exL (exO rp rc) (exB 26000) exS1 2000 = [] ∧ checkE exL (exO rp rc) (exB 26000) exS1 = 0 := ⟨by kernel_rfl, by kernel_rfl⟩
theorem ev_c2 : checkX exL (exO rp rc) (exB 26001) exS1 2000 = [⟨2, 3, 0⟩, ⟨2, 4, 3⟩] ∧ checkE exL (exO rp rc) (exB 26001) exS1 = 0 := ⟨by kernel_rfl, by kernel_rfl⟩
theorem ev_c3 : checkX exL (exO rp rc) (exB 26001) exS2 2000 = [⟨2, 4, 4⟩] ∧ checkE exL (exO rp rc) (exB 26001) exS2 = 0 := ⟨by kernel_rfl, by kernel_rfl⟩
end
theorem ev_w : foreX (exB 26000) exS1 2 = 15000 ∧ aftX (exB 26000) exS1 2 = 9000 ∧ allX (exB 26000) exS1 2 = 50000 := ⟨by kernel_rfl, by kernel_rfl, by kernel_rfl⟩
theorem ev_r1 : roomX exL (exB 26001) (exS2.take 2) 2000 ⟨2, 1, 2⟩ = 11000 := by kernel_rfl
theorem ev_r2 : roomX exL (exB 26001) (exS2.take 2) 2000 ⟨2, 1, 1⟩ = 15000 := by kernel_rfl
def eqF (x y : Ft) : Bool := decide (x.col = y.col ∧ x.kind = y.kind ∧ x.box = y.box)
def eqFs : List Ft → List Ft → Bool
 | [], [] => true
 | x :: l, y :: m => eqF x y && eqFs l m
 | _, _ => false
theorem eqFs_len {l m : List Ft} (h : l.length ≠ m.length) : eqFs l m = false := by
 induction l generalizing m with
 | nil => cases m with
   | nil => exact (h rfl).elim
   | cons _ _ => rfl
 | cons x l ih => cases m with
   | nil => rfl
   | cons y m =>
     show (eqF x y && eqFs l m) = false
     rw [ih (by simpa using h), Bool.and_false]
theorem eqFs_drop {l m : List Ft} {k : Nat} {x y : Ft} (hx : l[k]? = some x) (hy : m[k]? = some y) : eqFs (l.drop k) (m.drop k) = (eqF x y && eqFs (l.drop (k + 1)) (m.drop (k + 1))) := by
 obtain ⟨h1, rfl⟩ := List.getElem?_eq_some_iff.1 hx
 obtain ⟨h2, rfl⟩ := List.getElem?_eq_some_iff.1 hy
 rw [List.drop_eq_getElem_cons h1, List.drop_eq_getElem_cons h2]
 rfl
theorem eqFs_end {l m : List Ft} {k : Nat} (h : ¬ k < l.length) (he : l.length = m.length) : eqFs (l.drop k) (m.drop k) = true := by
 rw [List.drop_eq_nil_of_le Tw.om, List.drop_eq_nil_of_le Tw.om]; rfl
theorem exL_plugs : ∀ c ∈ exL, c.plugs = [] := by decide
def ExT (W0 : Base) (K : List (Nat × Obj)) (v : Value) (K' : List (Nat × Obj)) : Prop :=
 ∃ pc cc po co rp rc gb cb Kc Ko Tr, v = .tuple #[.agg (shC (.slice pc exL.length cc) (.slice po (exO rp rc).length co) (tlT tl0 2000)).toArray, .slice (some ⟨gb, 0, none⟩) 4 cb] ∧ OwnL W0 46 12 (.slice pc exL.length cc) exL.length (exL.flatMap colC) Kc ∧ OwnL W0 123 2 (.slice po (exO rp rc).length co) (exO rp rc).length ((exO rp rc).flatMap covC) Ko ∧ RB W0 Tr (exO rp rc) ∧ W0.B ≤ gb ∧ Dk gb Kc ∧ Dk gb Ko ∧ Dk gb Tr ∧ (∀ p ∈ K, ∀ q ∈ Kc ++ (Ko ++ (Tr ++ [(gb, Obj.cells ((exB 26000).flatMap boC).toArray 37 (0, 0))])), q.1 ≠ p.1) ∧ K' = K ++ (Kc ++ (Ko ++ (Tr ++ [(gb, Obj.cells ((exB 26000).flatMap boC).toArray 37 (0, 0))])))
end Go.Proofs.Ytnbfljcilojllaa
/- Appends that may come in any order (over any program). -/
namespace Go.Proofs.Ytnbfljcilojllaa
open Go Go.RowKit Tw
end Go.Proofs.Ytnbfljcilojllaa
/- The law of drawn regions once more: blocks S that every append keeps. Nothing of the program. -/
namespace Tw.Z
open Go Go.RowKit Go.Proofs.Ytnbfljcilojllaa
def isSt (o : Oper) : Bool := match o.op with | .store .. => true | _ => false
theorem isSt_store {o : Oper} (h : isSt o = true) : isStore o = true := by
 unfold isSt at h
 unfold isStore
 split at h
 · rename_i h1; rw [h1]
 · cases h
def stWait (md : Region.Mode) (ops : Array Oper) (i : Nat) : Bool :=
 (List.range ops.size).all fun j => match ops[j]? with
   | some o => !isSt o || waits md ops 8 j i
   | none => true
theorem stWait_spec {md : Region.Mode} {ops : Array Oper} {i : Nat} (h : stWait md ops i = true) (j : Nat) (o : Oper) (ho : ops[j]? = some o) (hs : isSt o = true) : ∃ m, waits md ops m j i = true := by
 unfold stWait at h
 rw [List.all_eq_true] at h
 have h1 := h j (List.mem_range.2 (Array.getElem?_eq_some_iff.1 ho).1)
 rw [ho] at h1
 simp only [hs, Bool.not_true, Bool.false_or] at h1
 exact ⟨8, h1⟩
section
variable {P : Program} {ops : Array Oper} {Q : Exit → Act → World → Prop} {md : Region.Mode} {W0 : Base} {S : List (Nat × Obj)} {b : Bool}
def wpV (P : Program) (md : Region.Mode) (ops : Array Oper) (Q : Exit → Act → World → Prop) (W0 : Base) (S : List (Nat × Obj)) (b : Bool) : Nat → Array Bool → Act → List (Nat × Obj) → Prop
 | 0, listed, a, K => Region.ready md ops listed = [] ∧ ∀ w, KS W0 K w → Q .normal a w
 | n + 1, listed, a, K =>
   (Region.ready md ops listed = [] → ∀ w, KS W0 K w → Q .normal a w) ∧
   ∀ i ∈ Region.ready md ops listed, ∃ o, ops[i]? = some o ∧
     ((∃ v, YB P ops W0 K o v a ∧ wpV P md ops Q W0 S b n (listed.setIfInBounds i true) (a.put o.dst v) K) ∨
      (∃ obj, ∃ mk : Nat → Value, AV P ops o obj mk a ∧ ∀ g, W0.B ≤ g → (∀ p ∈ K, p.1 ≠ g) → wpV P md ops Q W0 S b n (listed.setIfInBounds i true) (a.put o.dst (mk g)) ((g, obj) :: K)) ∨
      (isSt o = true ∧ ∃ K', ST P ops W0 K K' o a ∧ (b = true → ∀ p ∈ S, p ∈ K') ∧ wpV P md ops Q W0 S b n (listed.setIfInBounds i true) (a.put o.dst undef) K') ∨
      (∃ G : Value → List (Nat × Obj) → Prop, ((isSt o = true ∧ (b = true → ∀ v K', G v K' → ∀ p ∈ S, p ∈ K')) ∨ (∀ v K', G v K' → ∀ p ∈ K, p ∈ K') ∨ lateB md ops i = true ∨ (isStore o = true ∧ ∀ v K', G v K' → ∀ p ∈ S, p ∈ K')) ∧ GV P ops W0 K G o a ∧ ∀ v K', G v K' → wpV P md ops Q W0 S b n (listed.setIfInBounds i true) (a.put o.dst v) K'))

theorem wpV_sound : ∀ (n : Nat) (listed : Array Bool) (a : Act) (K : List (Nat × Obj)), wpV P md ops Q W0 S b n listed a K → ∀ w, KS W0 K w → wpAny P md ops Q n listed a w
 | 0, _, _, _, h, w, hw => ⟨h.1, h.2 w hw⟩
 | n + 1, listed, a, K, h, w, hw => by
   refine ⟨fun hr => h.1 hr w hw, fun i hi => ?_⟩
   obtain ⟨o, ho, hc⟩ := h.2 i hi
   refine wpOp_step ho fun K' hK' => ?_
   rcases hc with ⟨v, hy, hu⟩ | ⟨obj, mk, hal, hu⟩ | ⟨_, K2, hst, _, hu⟩ | ⟨G, _, hgv, hu⟩
   · rcases hy with ⟨hwn, hto⟩ | ⟨hwn, rfl⟩
     · rw [if_pos hwn]
       exact (hto w hw).wp fun u w' ⟨hu', hb⟩ => by subst hu'; exact hK' _ _ (wpV_sound n _ _ _ hu w' (hw.below hb))
     · rw [if_neg (by rw [hwn]; decide)]
       exact hK' _ _ (wpV_sound n _ _ _ hu w hw)
   · rw [if_pos hal.1]
     unfold Oper.wp
     rw [hal.2 w]
     refine hK' _ _ (wpV_sound n _ _ _ (hu w.heap.size hw.size (fun p hp e => ?_)) _ (hw.alloc obj))
     have := lt_of_block (hw.2 p hp)
     omega
   · rw [if_pos hst.1]
     obtain ⟨w', hrun, hw'⟩ := hst.2 w hw
     unfold Oper.wp
     rw [hrun]
     exact hK' _ _ (wpV_sound n _ _ _ hu w' hw')
   · rw [if_pos hgv.1]
     exact (hgv.2 w hw).wp fun v w' ⟨K2, hw', hG⟩ => hK' _ _ (wpV_sound n _ _ _ (hu v K2 hG) w' hw')


theorem wpV_first {i : Nat} {oi : Oper} {v : Value} (hi : ops[i]? = some oi) (hsel : ∀ (j : Nat) (o : Oper) cs b, ops[j]? = some o → o.op ≠ .select cs b) :
   ∀ (n : Nat) (listed : Array Bool) (a : Act) (K : List (Nat × Obj)), closed md ops listed →
     (∀ j oj, ops[j]? = some oj → j ≠ i → listed.getD j true = false → (∀ e ∈ oj.after, Region.binds md e = true → e.on ≠ i) → oi.apart ops oj = true) →
     i ∈ Region.ready md ops listed → ((∀ K', YB P ops W0 K' oi v a) ∨ (YB P ops W0 K oi v a ∧ ∀ j o, ops[j]? = some o → isStore o = true → ∃ m, waits md ops m j i = true) ∨ (((∀ p ∈ S, p ∈ K) ∧ YB P ops W0 S oi v a) ∧ (b = true ∨ ∀ j o, ops[j]? = some o → isSt o = true → ∃ m, waits md ops m j i = true))) →
     wpV P md ops Q W0 S b n (listed.setIfInBounds i true) (a.put oi.dst v) K → wpV P md ops Q W0 S b (n + 1) listed a K := by
 intro n
 induction n with
 | zero =>
   intro listed a K _ _ hr hy H
   refine ⟨fun h => (by rw [h] at hr; cases hr), fun j hj => ?_⟩
   by_cases hji : j = i
   · subst hji
     exact ⟨oi, hi, .inl ⟨v, hy.elim (fun h => h K) (fun h => h.elim (fun h => h.1) (fun h => h.1.2.sub h.1.1)), H⟩⟩
   · have := ready_mono hj hji
     rw [H.1] at this
     cases this
 | succ n ih =>
   intro listed a K hcl hfree hr hy H
   refine ⟨fun h => (by rw [h] at hr; cases hr), fun j hj => ?_⟩
   by_cases hji : j = i
   · subst hji
     exact ⟨oi, hi, .inl ⟨v, hy.elim (fun h => h K) (fun h => h.elim (fun h => h.1) (fun h => h.1.2.sub h.1.1)), H⟩⟩
   · obtain ⟨oj, hoj, hc⟩ := H.2 j (ready_mono hj hji)
     obtain ⟨hjun, oj', hoj', hall⟩ := mem_ready.1 hj
     rw [hoj] at hoj'
     cases hoj'
     have hiun := (mem_ready.1 hr).1
     have hnot : ∀ e ∈ oj.after, Region.binds md e = true → e.on ≠ i := fun e he hb heq => by
       have h1 := hall e he hb
       rw [heq, unlisted_false hiun] at h1
       cases h1
     have hap := hfree j oj hoj hji hjun hnot
     obtain ⟨h1, h2, h3⟩ := Oper.apart_spec hap
     have hfree' : ∀ k ok, ops[k]? = some ok → k ≠ i → (listed.setIfInBounds j true).getD k true = false →
         (∀ e ∈ ok.after, Region.binds md e = true → e.on ≠ i) → oi.apart ops ok = true := fun k ok hk hki hun hno => by
       refine hfree k ok hk hki ?_ hno
       by_cases hjk : j = k
       · subst hjk; exact hjun
       · rw [getD_set_ne true hjk] at hun; exact hun
     have hsi : ∀ cs b, oi.op ≠ .select cs b := fun cs b => hsel i oi cs b hi
     have hsj : ∀ cs b, oj.op ≠ .select cs b := fun cs b => hsel j oj cs b hoj
     have keep : ∀ K' u, YB P ops W0 K' oi v a → YB P ops W0 K' oi v (a.put oj.dst u) := fun K' u h => h.of_same (execOp_put oi hsi a oj.dst u h3) (wanted_put oi a oj.dst u h3)
     have eqe : execOp (a.put oi.dst v).eval oj = execOp a.eval oj := execOp_put oj hsj a oi.dst v h1
     have eqw : Region.wanted oj (yielded ops (a.put oi.dst v).tmps) = Region.wanted oj (yielded ops a.tmps) := wanted_put oj a oi.dst v h1
     refine ⟨oj, hoj, ?_⟩
     rcases hc with ⟨u, hyj, hu⟩ | ⟨obj, mk, hal, hu⟩ | ⟨hs, K2, hst2, hkp, hu⟩ | ⟨G, hs, hg2, hu⟩
     · refine .inl ⟨u, hyj.of_same eqe.symm eqw.symm, ih _ _ _ (closed_set hcl hj) hfree' (ready_mono hr (Ne.symm hji)) (hy.imp (fun h K' => keep K' u (h K')) (fun h => h.imp (fun h => ⟨keep K u h.1, h.2⟩) (fun h => ⟨⟨h.1.1, keep S u h.1.2⟩, h.2⟩))) ?_⟩
       rw [Array.setIfInBounds_comm _ _ hji, ← Act.put_comm a v u h2]
       exact hu
     · refine .inr (.inl ⟨obj, mk, hal.of_same eqe.symm eqw.symm, fun g hg hgk => ih _ _ _ (closed_set hcl hj) hfree' (ready_mono hr (Ne.symm hji)) (hy.imp (fun h K' => keep K' _ (h K')) (fun h => h.imp (fun h => ⟨(keep K _ h.1).more, h.2⟩) (fun h => ⟨⟨fun p hp => .tail _ (h.1.1 p hp), keep S _ h.1.2⟩, h.2⟩))) ?_⟩)
       rw [Array.setIfInBounds_comm _ _ hji, ← Act.put_comm a v _ h2]
       exact hu g hg hgk
     · rcases hy with hy | ⟨hy, hwait⟩ | ⟨hy, hwait⟩
       · refine .inr (.inr (.inl ⟨hs, K2, ⟨by rw [← eqw]; exact hst2.1, fun w hw => by rw [← eqe]; exact hst2.2 w hw⟩, hkp, ih _ _ _ (closed_set hcl hj) hfree' (ready_mono hr (Ne.symm hji)) (.inl fun K' => keep K' _ (hy K')) ?_⟩))
         rw [Array.setIfInBounds_comm _ _ hji, ← Act.put_comm a v _ h2]
         exact hu
       · obtain ⟨m, hm⟩ := hwait j oj hoj (isSt_store hs)
         exact (not_waits hcl (unlisted_false hiun) m j oj hoj hm hall).elim
       · rcases hwait with hb | hwait
         · refine .inr (.inr (.inl ⟨hs, K2, ⟨by rw [← eqw]; exact hst2.1, fun w hw => by rw [← eqe]; exact hst2.2 w hw⟩, hkp, ih _ _ _ (closed_set hcl hj) hfree' (ready_mono hr (Ne.symm hji)) (.inr (.inr ⟨⟨hkp hb, keep S _ hy.2⟩, .inl hb⟩)) ?_⟩))
           rw [Array.setIfInBounds_comm _ _ hji, ← Act.put_comm a v _ h2]
           exact hu
         · obtain ⟨m, hm⟩ := hwait j oj hoj hs
           exact (not_waits hcl (unlisted_false hiun) m j oj hoj hm hall).elim
     · rcases hy with hy | ⟨hy, hwait⟩ | ⟨hy, hwait⟩
       · refine .inr (.inr (.inr ⟨G, hs, ⟨by rw [← eqw]; exact hg2.1, fun w hw => oto_same eqe.symm (hg2.2 w hw)⟩, fun u K2 hG => ih _ _ _ (closed_set hcl hj) hfree' (ready_mono hr (Ne.symm hji)) (.inl fun K' => keep K' _ (hy K')) ?_⟩))
         rw [Array.setIfInBounds_comm _ _ hji, ← Act.put_comm a v _ h2]
         exact hu u K2 hG
       · rcases hs with hs | hm | hl | hk
         · obtain ⟨m, hm⟩ := hwait j oj hoj (isSt_store hs.1)
           exact (not_waits hcl (unlisted_false hiun) m j oj hoj hm hall).elim
         · refine .inr (.inr (.inr ⟨G, .inr (.inl hm), ⟨by rw [← eqw]; exact hg2.1, fun w hw => oto_same eqe.symm (hg2.2 w hw)⟩, fun u K2 hG => ih _ _ _ (closed_set hcl hj) hfree' (ready_mono hr (Ne.symm hji)) (.inr (.inl ⟨keep K2 _ (hy.sub (hm u K2 hG)), hwait⟩)) ?_⟩))
           rw [Array.setIfInBounds_comm _ _ hji, ← Act.put_comm a v _ h2]
           exact hu u K2 hG
         · obtain ⟨m, hm | hm⟩ := lateB_spec hl i (Array.getElem?_eq_some_iff.1 hi).1 (Ne.symm hji)
           · exact (not_waits hcl (unlisted_false hiun) m j oj hoj hm hall).elim
           · obtain ⟨_, oi2, hoi2, halli⟩ := mem_ready.1 hr
             rw [hi] at hoi2
             cases hoi2
             exact (not_waits hcl (unlisted_false hjun) m i oi hi hm halli).elim
         · obtain ⟨m, hm⟩ := hwait j oj hoj hk.1
           exact (not_waits hcl (unlisted_false hiun) m j oj hoj hm hall).elim
       · rcases hs with hs | hm | hl | hk
         · rcases hwait with hb | hwait
           · refine .inr (.inr (.inr ⟨G, .inl hs, ⟨by rw [← eqw]; exact hg2.1, fun w hw => oto_same eqe.symm (hg2.2 w hw)⟩, fun u K2 hG => ih _ _ _ (closed_set hcl hj) hfree' (ready_mono hr (Ne.symm hji)) (.inr (.inr ⟨⟨hs.2 hb u K2 hG, keep S _ hy.2⟩, .inl hb⟩)) ?_⟩))
             rw [Array.setIfInBounds_comm _ _ hji, ← Act.put_comm a v _ h2]
             exact hu u K2 hG
           · obtain ⟨m, hm⟩ := hwait j oj hoj hs.1
             exact (not_waits hcl (unlisted_false hiun) m j oj hoj hm hall).elim
         · refine .inr (.inr (.inr ⟨G, .inr (.inl hm), ⟨by rw [← eqw]; exact hg2.1, fun w hw => oto_same eqe.symm (hg2.2 w hw)⟩, fun u K2 hG => ih _ _ _ (closed_set hcl hj) hfree' (ready_mono hr (Ne.symm hji)) (.inr (.inr ⟨⟨fun p hp => hm u K2 hG p (hy.1 p hp), keep S _ hy.2⟩, hwait⟩)) ?_⟩))
           rw [Array.setIfInBounds_comm _ _ hji, ← Act.put_comm a v _ h2]
           exact hu u K2 hG
         · obtain ⟨m, hm | hm⟩ := lateB_spec hl i (Array.getElem?_eq_some_iff.1 hi).1 (Ne.symm hji)
           · exact (not_waits hcl (unlisted_false hiun) m j oj hoj hm hall).elim
           · obtain ⟨_, oi2, hoi2, halli⟩ := mem_ready.1 hr
             rw [hi] at hoi2
             cases hoi2
             exact (not_waits hcl (unlisted_false hjun) m i oi hi hm halli).elim
         · refine .inr (.inr (.inr ⟨G, .inr (.inr (.inr hk)), ⟨by rw [← eqw]; exact hg2.1, fun w hw => oto_same eqe.symm (hg2.2 w hw)⟩, fun u K2 hG => ih _ _ _ (closed_set hcl hj) hfree' (ready_mono hr (Ne.symm hji)) (.inr (.inr ⟨⟨hk.2 u K2 hG, keep S _ hy.2⟩, hwait⟩)) ?_⟩))
           rw [Array.setIfInBounds_comm _ _ hji, ← Act.put_comm a v _ h2]
           exact hu u K2 hG


theorem wpV_val {i : Nat} {oi : Oper} {v : Value} {d n : Nat} {listed : Array Bool} {a : Act} {K : List (Nat × Obj)} (hi : ops[i]? = some oi) (hd : oi.dst = some d) (hlt : Nat.blt d a.tmps.size = true)
   (hf : freeAll md ops listed i = true) (hw : Region.wanted oi (yielded ops a.tmps) = true)
   (hy : ∀ w, KS W0 K w → ∀ K' : Act → World → Prop, (∀ w', Below w.heap.size w w' → K' (a.put oi.dst v) w') → Oper.wp P oi a w K' (fun _ _ _ => False))
   (h : wpV P md ops Q W0 S b n (listed.setIfInBounds i true) (a.put oi.dst v) K) : wpV P md ops Q W0 S b (n + 1) listed a K := by
 unfold freeAll at hf
 simp only [Bool.and_eq_true] at hf
 obtain ⟨h1, h2, h3, h4, h5⟩ := hf
 exact wpV_first hi (Region.noSelect_spec h1) n listed a K (closed_of h4) (Region.free_spec hi h2) (by simpa using h3)
   (.inr (.inl ⟨.inl ⟨hw, fun w hk => Oto.of_wp hd (Nat.le_of_ble_eq_true hlt) (hy w hk)⟩, storesWait_spec h5⟩)) h
theorem wpV_not {i : Nat} {oi : Oper} {n : Nat} {listed : Array Bool} {a : Act} {K : List (Nat × Obj)} (hi : ops[i]? = some oi)
   (hf : freeAll md ops listed i = true) (hw : Region.wanted oi (yielded ops a.tmps) = false)
   (h : wpV P md ops Q W0 S b n (listed.setIfInBounds i true) (a.put oi.dst undef) K) : wpV P md ops Q W0 S b (n + 1) listed a K := by
 unfold freeAll at hf
 simp only [Bool.and_eq_true] at hf
 obtain ⟨h1, h2, h3, h4, h5⟩ := hf
 exact wpV_first hi (Region.noSelect_spec h1) n listed a K (closed_of h4) (Region.free_spec hi h2) (by simpa using h3)
   (.inl fun _ => .inr ⟨hw, rfl⟩) h
theorem wpV_alloc {i : Nat} {oi : Oper} {obj : Obj} (mk : Nat → Value) {n : Nat} {listed : Array Bool} {a : Act} {K : List (Nat × Obj)} (hi : ops[i]? = some oi) (hr : Region.ready md ops listed = [i])
   (hw : Region.wanted oi (yielded ops a.tmps) = true) (hal : ∀ w, (execOp a.eval oi).run P w = .ok (.value (mk w.heap.size)) (w.alloc obj))
   (h : ∀ g, W0.B ≤ g → (∀ p ∈ K, p.1 ≠ g) → wpV P md ops Q W0 S b n (listed.setIfInBounds i true) (a.put oi.dst (mk g)) ((g, obj) :: K)) : wpV P md ops Q W0 S b (n + 1) listed a K :=
 ⟨fun h0 => (by rw [hr] at h0; cases h0), fun j hj => by
   rw [hr] at hj
   cases List.mem_singleton.1 hj
   exact ⟨oi, hi, .inr (.inl ⟨obj, mk, ⟨hw, hal⟩, h⟩)⟩⟩
theorem wpV_store {i : Nat} {oi : Oper} {n : Nat} {listed : Array Bool} {a : Act} {K K' : List (Nat × Obj)} (hi : ops[i]? = some oi) (hr : Region.ready md ops listed = [i])
   (hs : isSt oi = true) (hw : Region.wanted oi (yielded ops a.tmps) = true) (hst : ∀ w, KS W0 K w → ∃ w', (execOp a.eval oi).run P w = .ok .skip w' ∧ KS W0 K' w') (hb : b = true → ∀ p ∈ S, p ∈ K')
   (h : wpV P md ops Q W0 S b n (listed.setIfInBounds i true) (a.put oi.dst undef) K') : wpV P md ops Q W0 S b (n + 1) listed a K :=
 ⟨fun h0 => (by rw [hr] at h0; cases h0), fun j hj => by
   rw [hr] at hj
   cases List.mem_singleton.1 hj
   exact ⟨oi, hi, .inr (.inr (.inl ⟨hs, K', ⟨hw, hst⟩, hb, h⟩))⟩⟩
def StepV (P : Program) (md : Region.Mode) (ops : Array Oper) (Q : Exit → Act → World → Prop) (W0 : Base) (S : List (Nat × Obj)) (b : Bool) (n : Nat) (listed : Array Bool) (a : Act) (K : List (Nat × Obj)) (i : Nat) : Prop :=
 ∃ o, ops[i]? = some o ∧
     ((∃ v, YB P ops W0 K o v a ∧ wpV P md ops Q W0 S b n (listed.setIfInBounds i true) (a.put o.dst v) K) ∨
      (∃ obj, ∃ mk : Nat → Value, AV P ops o obj mk a ∧ ∀ g, W0.B ≤ g → (∀ p ∈ K, p.1 ≠ g) → wpV P md ops Q W0 S b n (listed.setIfInBounds i true) (a.put o.dst (mk g)) ((g, obj) :: K)) ∨
      (isSt o = true ∧ ∃ K', ST P ops W0 K K' o a ∧ (b = true → ∀ p ∈ S, p ∈ K') ∧ wpV P md ops Q W0 S b n (listed.setIfInBounds i true) (a.put o.dst undef) K') ∨
      (∃ G : Value → List (Nat × Obj) → Prop, ((isSt o = true ∧ (b = true → ∀ v K', G v K' → ∀ p ∈ S, p ∈ K')) ∨ (∀ v K', G v K' → ∀ p ∈ K, p ∈ K') ∨ lateB md ops i = true ∨ (isStore o = true ∧ ∀ v K', G v K' → ∀ p ∈ S, p ∈ K')) ∧ GV P ops W0 K G o a ∧ ∀ v K', G v K' → wpV P md ops Q W0 S b n (listed.setIfInBounds i true) (a.put o.dst v) K'))
theorem stepV_alloc {i : Nat} {oi : Oper} {obj : Obj} (mk : Nat → Value) {n : Nat} {listed : Array Bool} {a : Act} {K : List (Nat × Obj)} (hi : ops[i]? = some oi)
   (hw : Region.wanted oi (yielded ops a.tmps) = true) (hal : ∀ w, (execOp a.eval oi).run P w = .ok (.value (mk w.heap.size)) (w.alloc obj))
   (h : ∀ g, W0.B ≤ g → (∀ p ∈ K, p.1 ≠ g) → wpV P md ops Q W0 S b n (listed.setIfInBounds i true) (a.put oi.dst (mk g)) ((g, obj) :: K)) : StepV P md ops Q W0 S b n listed a K i :=
 ⟨oi, hi, .inr (.inl ⟨obj, mk, ⟨hw, hal⟩, h⟩)⟩
theorem wpV_1 {i n : Nat} {listed : Array Bool} {a : Act} {K : List (Nat × Obj)} (hr : Region.ready md ops listed = [i]) (h : StepV P md ops Q W0 S b n listed a K i) : wpV P md ops Q W0 S b (n + 1) listed a K :=
 ⟨fun h0 => (by rw [hr] at h0; cases h0), fun j hj => by
   rw [hr] at hj
   cases List.mem_singleton.1 hj
   exact h⟩
theorem wpV_2 {i j n : Nat} {listed : Array Bool} {a : Act} {K : List (Nat × Obj)} (hr : Region.ready md ops listed = [i, j]) (h : StepV P md ops Q W0 S b n listed a K i) (h' : StepV P md ops Q W0 S b n listed a K j) : wpV P md ops Q W0 S b (n + 1) listed a K :=
 ⟨fun h0 => (by rw [hr] at h0; cases h0), fun k hk => by
   rw [hr] at hk
   rcases List.mem_cons.1 hk with rfl | hk
   · exact h
   · cases List.mem_singleton.1 hk
     exact h'⟩
theorem wpV_done {listed : Array Bool} {a : Act} {K : List (Nat × Obj)} (hr : Region.ready md ops listed = []) (h : ∀ w, KS W0 K w → Q .normal a w) : ∀ n, wpV P md ops Q W0 S b n listed a K
 | 0 => ⟨hr, h⟩
 | _ + 1 => ⟨fun _ => h, by rw [hr]; simp⟩
theorem wp_region_V {id : Nat} {a : Act} {w : World} (K : List (Nat × Obj)) (hm : P.follows .mixedOrders = true) (hK : KS W0 K w)
   (h : wpV P .any ops Q W0 S b ops.size (Array.replicate ops.size false) a K) : (Code.region id ops true).wp P Q a w :=
 wp_region_any hm (wpV_sound _ _ _ _ h _ hK.drew)

theorem wpV_v {md : Region.Mode} {ops : Array Oper} {Q : Exit → Act → World → Prop} {i : Nat} {oi : Oper} {v : Value} {d n : Nat} {listed : Array Bool} {tm : Array Value} {df : List Deferred} {K : List (Nat × Obj)} (hi : ops[i]? = some oi) (hd : oi.dst = some d) (hlt : Nat.blt d tm.size = true)
   (hf : freeAll md ops listed i = true) (hw : Region.wanted oi (yielded ops tm) = true)
   (hy : ∀ w, KS W0 K w → ∀ K' : Act → World → Prop, (∀ w', Below w.heap.size w w' → K' (Act.put ⟨tm, df⟩ oi.dst v) w') → Oper.wp P oi ⟨tm, df⟩ w K' (fun _ _ _ => False))
   {T : Array Value} (hT : tm.setIfInBounds d v = T)
   (h : wpV P md ops Q W0 S b n (listed.setIfInBounds i true) ⟨T, df⟩ K) : wpV P md ops Q W0 S b (n + 1) listed ⟨tm, df⟩ K := by
 refine wpV_val hi hd hlt hf hw hy ?_
 rw [hd]
 subst hT
 exact h
theorem wpV_mem : ∀ (n : Nat) (listed : Array Bool) (a : Act) (K K' : List (Nat × Obj)), (∀ p, p ∈ K ↔ p ∈ K') → wpV P md ops Q W0 S b n listed a K → wpV P md ops Q W0 S b n listed a K'
 | 0, _, _, _, _, hm, h => ⟨h.1, fun w hw => h.2 w (hw.sub fun p hp => (hm p).1 hp)⟩
 | n + 1, listed, a, K, K', hm, h => by
   have hs : ∀ w, KS W0 K' w → KS W0 K w := fun w hw => hw.sub fun p hp => (hm p).1 hp
   refine ⟨fun hr w hw => h.1 hr w (hs w hw), fun i hi => ?_⟩
   obtain ⟨o, ho, hc⟩ := h.2 i hi
   refine ⟨o, ho, ?_⟩
   rcases hc with ⟨v, hy, hu⟩ | ⟨obj, mk, hal, hu⟩ | ⟨hst, K2, hs2, hkp, hu⟩ | ⟨G, hst, hg2, hu⟩
   · refine .inl ⟨v, ?_, wpV_mem n _ _ K K' hm hu⟩
     rcases hy with ⟨h1, h2⟩ | h1
     · exact .inl ⟨h1, fun w hw => h2 w (hs w hw)⟩
     · exact .inr h1
   · exact .inr (.inl ⟨obj, mk, hal, fun g hg hf => wpV_mem n _ _ ((g, obj) :: K) ((g, obj) :: K') (fun p => by rw [List.mem_cons, List.mem_cons, hm p]) (hu g hg fun p hp => hf p ((hm p).1 hp))⟩)
   · exact .inr (.inr (.inl ⟨hst, K2, ⟨hs2.1, fun w hw => hs2.2 w (hs w hw)⟩, hkp, hu⟩))
   · exact .inr (.inr (.inr ⟨G, hst.imp id (fun h => h.imp (fun h v K2 hG p hp => h v K2 hG p ((hm p).2 hp)) id), ⟨hg2.1, fun w hw => hg2.2 w (hs w hw)⟩, hu⟩))
theorem wpV_s {i : Nat} {oi : Oper} {n : Nat} {listed : Array Bool} {tm : Array Value} {df : List Deferred} {K : List (Nat × Obj)} (K' : List (Nat × Obj)) (hi : ops[i]? = some oi) (hr : Region.ready md ops listed = [i]) (hd : oi.dst = none) (hg : oi.guard = none)
   (hs : isSt oi = true) (hst : ∀ w, KS W0 K w → ∃ w', (execOp (Act.eval ⟨tm, df⟩) oi).run P w = .ok .skip w' ∧ KS W0 K' w') (hb : b = true → ∀ p ∈ S, p ∈ K')
   (h : wpV P md ops Q W0 S b n (listed.setIfInBounds i true) ⟨tm, df⟩ K') : wpV P md ops Q W0 S b (n + 1) listed ⟨tm, df⟩ K := by
 refine wpV_store hi hr hs (wanted_no hg) hst hb ?_
 rw [hd]
 exact h
theorem wpV_p {i : Nat} {oi : Oper} {v : Value} {d n : Nat} {listed : Array Bool} {tm : Array Value} {df : List Deferred} {K : List (Nat × Obj)} (hi : ops[i]? = some oi) (hd : oi.dst = some d) (hlt : Nat.blt d tm.size = true)
   (hf : freeP md ops listed i = true) (hw : Region.wanted oi (yielded ops tm) = true)
   (hy : ∀ w, (execOp (Act.eval ⟨tm, df⟩) oi).run P w = .ok (.value v) w)
   {T : Array Value} (hT : tm.setIfInBounds d v = T)
   (h : wpV P md ops Q W0 S b n (listed.setIfInBounds i true) ⟨T, df⟩ K) : wpV P md ops Q W0 S b (n + 1) listed ⟨tm, df⟩ K := by
 unfold freeP at hf
 simp only [Bool.and_eq_true] at hf
 obtain ⟨h1, h2, h3, h4⟩ := hf
 refine wpV_first (v := v) hi (Region.noSelect_spec h1) n listed _ K (closed_of h4) (Region.free_spec hi h2) (by simpa using h3)
   (.inl fun K' => .inl ⟨hw, fun w hk => Oto.of_wp hd (Nat.le_of_ble_eq_true hlt) (yb_pure (K := K') hy w hk)⟩) ?_
 rw [hd]
 subst hT
 exact h
theorem wpV_n {i : Nat} {oi : Oper} {d n : Nat} {listed : Array Bool} {tm : Array Value} {df : List Deferred} {K : List (Nat × Obj)} (hi : ops[i]? = some oi) (hd : oi.dst = some d)
   (hf : freeAll md ops listed i = true) (hw : Region.wanted oi (yielded ops tm) = false)
   {T : Array Value} (hT : tm.setIfInBounds d undef = T)
   (h : wpV P md ops Q W0 S b n (listed.setIfInBounds i true) ⟨T, df⟩ K) : wpV P md ops Q W0 S b (n + 1) listed ⟨tm, df⟩ K := by
 refine wpV_not hi hf hw ?_
 rw [hd]
 subst hT
 exact h

theorem wpV_ns {i : Nat} {oi : Oper} {d : Nat} {obi : Obj} {n : Nat} {listed : Array Bool} {tm : Array Value} {df : List Deferred} {K : List (Nat × Obj)} {T : Nat → Array Value} (mk : Nat → Value)
   (hi : ops[i]? = some oi) (hdi : oi.dst = some d) (hgi : oi.guard = none)
   (hr : Region.ready md ops listed = [i])
   (hai : ∀ w, (execOp (Act.eval ⟨tm, df⟩) oi).run P w = .ok (.value (mk w.heap.size)) (w.alloc obi))
   (hT : ∀ g, (tm.setIfInBounds d (mk g)) = T g)
   (h : ∀ g, W0.B ≤ g → (∀ p ∈ K, p.1 ≠ g) → wpV P md ops Q W0 S b n (listed.setIfInBounds i true) ⟨T g, df⟩ ((g, obi) :: K)) :
   wpV P md ops Q W0 S b (n + 1) listed ⟨tm, df⟩ K := by
 refine wpV_alloc mk hi hr (wanted_no hgi) hai (fun g hg hf => ?_)
 rw [hdi]
 simp only [Act.put]
 rw [hT g]
 exact h g hg hf
theorem wpV_c {i : Nat} {oi : Oper} {d n : Nat} {listed : Array Bool} {tm : Array Value} {df : List Deferred} {K : List (Nat × Obj)} {T : Value → Array Value} {f : FuncId} {args : Array Value} (G : Value → List (Nat × Obj) → Prop)
   (hi : ops[i]? = some oi) (hdi : oi.dst = some d) (hr : Region.ready md ops listed = [i]) (hw : Region.wanted oi (yielded ops tm) = true)
   (hf : ∀ w, (execOp (Act.eval ⟨tm, df⟩) oi).run P w = .ok (.enter f args) w)
   (hc : ∀ w, KS W0 K w → Calls P f args w fun e w' => ∃ v K', e = .returned v ∧ KS W0 K' w' ∧ G v K') (hm : ∀ v K', G v K' → ∀ p ∈ K, p ∈ K')
   (hT : ∀ v, tm.setIfInBounds d v = T v)
   (h : ∀ v K', G v K' → wpV P md ops Q W0 S b n (listed.setIfInBounds i true) ⟨T v, df⟩ K') : wpV P md ops Q W0 S b (n + 1) listed ⟨tm, df⟩ K :=
 ⟨fun h0 => (by rw [hr] at h0; cases h0), fun j hj => by
   rw [hr] at hj
   cases List.mem_singleton.1 hj
   refine ⟨oi, hi, .inr (.inr (.inr ⟨G, .inr (.inl hm), ⟨hw, fun w hK => ?_⟩, fun v K' hG => ?_⟩))⟩
   · unfold Oto
     rw [hf w]
     exact (hc w hK).mono fun e w' ⟨v, K', he, hk, hG⟩ => ⟨v, he, K', hk, hG⟩
   · rw [hdi]
     simp only [Act.put]
     rw [hT v]
     exact h v K' hG⟩
theorem wpV_cl {i : Nat} {oi : Oper} {d n : Nat} {listed : Array Bool} {tm : Array Value} {df : List Deferred} {K : List (Nat × Obj)} {T : Value → Array Value} {f : FuncId} {args : Array Value} (G : Value → List (Nat × Obj) → Prop)
   (hi : ops[i]? = some oi) (hdi : oi.dst = some d) (hr : Region.ready md ops listed = [i]) (hw : Region.wanted oi (yielded ops tm) = true)
   (hf : ∀ w, (execOp (Act.eval ⟨tm, df⟩) oi).run P w = .ok (.enter f args) w)
   (hc : ∀ w, KS W0 K w → Calls P f args w fun e w' => ∃ v K', e = .returned v ∧ KS W0 K' w' ∧ G v K') (hm : lateB md ops i = true)
   (hT : ∀ v, tm.setIfInBounds d v = T v)
   (h : ∀ v K', G v K' → wpV P md ops Q W0 S b n (listed.setIfInBounds i true) ⟨T v, df⟩ K') : wpV P md ops Q W0 S b (n + 1) listed ⟨tm, df⟩ K :=
 ⟨fun h0 => (by rw [hr] at h0; cases h0), fun j hj => by
   rw [hr] at hj
   cases List.mem_singleton.1 hj
   refine ⟨oi, hi, .inr (.inr (.inr ⟨G, .inr (.inr (.inl hm)), ⟨hw, fun w hK => ?_⟩, fun v K' hG => ?_⟩))⟩
   · unfold Oto
     rw [hf w]
     exact (hc w hK).mono fun e w' ⟨v, K', he, hk, hG⟩ => ⟨v, he, K', hk, hG⟩
   · rw [hdi]
     simp only [Act.put]
     rw [hT v]
     exact h v K' hG⟩
theorem vv {i : Nat} {oi : Oper} {v : Value} {d n : Nat} {listed : Array Bool} {tm : Array Value} {df : List Deferred} {K : List (Nat × Obj)} {T : Array Value} (hi : ops[i]? = some oi) (hd : oi.dst = some d) (hw : Region.wanted oi (yielded ops tm) = true)
   (hy : ∀ w, KS W0 K w → ∀ K' : Act → World → Prop, (∀ w', Below w.heap.size w w' → K' (Act.put ⟨tm, df⟩ oi.dst v) w') → Oper.wp P oi ⟨tm, df⟩ w K' (fun _ _ _ => False))
   (h : wpV P md ops Q W0 S b n (listed.setIfInBounds i true) ⟨T, df⟩ K) (hlt : Nat.blt d tm.size = true := by kernel_rfl) (hf : freeAll md ops listed i = true := by kernel_rfl) (hT : tm.setIfInBounds d v = T := by simp only [List.setIfInBounds_toArray, List.set_cons_succ, List.set_cons_zero] <;> rfl) : wpV P md ops Q W0 S b (n + 1) listed ⟨tm, df⟩ K := wpV_v hi hd hlt hf hw hy hT h
theorem vp {i : Nat} {oi : Oper} {v : Value} {d n : Nat} {listed : Array Bool} {tm : Array Value} {df : List Deferred} {K : List (Nat × Obj)} {T : Array Value} (hi : ops[i]? = some oi) (hd : oi.dst = some d) (hw : Region.wanted oi (yielded ops tm) = true)
   (hy : ∀ w, (execOp (Act.eval ⟨tm, df⟩) oi).run P w = .ok (.value v) w)
   (h : wpV P md ops Q W0 S b n (listed.setIfInBounds i true) ⟨T, df⟩ K) (hlt : Nat.blt d tm.size = true := by kernel_rfl) (hf : freeP md ops listed i = true := by kernel_rfl) (hT : tm.setIfInBounds d v = T := by simp only [List.setIfInBounds_toArray, List.set_cons_succ, List.set_cons_zero] <;> rfl) : wpV P md ops Q W0 S b (n + 1) listed ⟨tm, df⟩ K := wpV_p hi hd hlt hf hw hy hT h
theorem vm {i : Nat} {oi : Oper} {v : Value} {d n : Nat} {listed : Array Bool} {tm : Array Value} {df : List Deferred} {K : List (Nat × Obj)} {T : Array Value} (hi : ops[i]? = some oi) (hd : oi.dst = some d) (hw : Region.wanted oi (yielded ops tm) = true)
   (h : wpV P md ops Q W0 S b n (listed.setIfInBounds i true) ⟨T, df⟩ K) (hy : ∀ w, (execOp (Act.eval ⟨tm, df⟩) oi).run P w = .ok (.value v) w := by intro _; kernel_rfl) (hlt : Nat.blt d tm.size = true := by kernel_rfl) (hf : freeP md ops listed i = true := by kernel_rfl) (hT : tm.setIfInBounds d v = T := by simp only [List.setIfInBounds_toArray, List.set_cons_succ, List.set_cons_zero] <;> rfl) : wpV P md ops Q W0 S b (n + 1) listed ⟨tm, df⟩ K := wpV_p hi hd hlt hf hw hy hT h
theorem vn {i : Nat} {oi : Oper} {d n : Nat} {listed : Array Bool} {tm : Array Value} {df : List Deferred} {K : List (Nat × Obj)} {T : Array Value} (hi : ops[i]? = some oi) (hd : oi.dst = some d)
   (h : wpV P md ops Q W0 S b n (listed.setIfInBounds i true) ⟨T, df⟩ K) (hf : freeAll md ops listed i = true := by kernel_rfl) (hw : Region.wanted oi (yielded ops tm) = false := by kernel_rfl) (hT : tm.setIfInBounds d undef = T := by simp only [List.setIfInBounds_toArray, List.set_cons_succ, List.set_cons_zero] <;> rfl) : wpV P md ops Q W0 S b (n + 1) listed ⟨tm, df⟩ K := wpV_n hi hd hf hw hT h

theorem stepV_nsx {i : Nat} {oi : Oper} {d : Nat} {obi : Obj} {n : Nat} {listed : Array Bool} {tm : Array Value} {df : List Deferred} {K : List (Nat × Obj)} {T : Nat → Array Value} (mk : Nat → Value)
   (hi : ops[i]? = some oi) (hdi : oi.dst = some d) (hgi : oi.guard = none) (hai : ∀ w, (execOp (Act.eval ⟨tm, df⟩) oi).run P w = .ok (.value (mk w.heap.size)) (w.alloc obi))
   (hT : ∀ g, (tm.setIfInBounds d (mk g)) = T g)
   (h : ∀ g, W0.B ≤ g → (∀ p ∈ K, p.1 ≠ g) → wpV P md ops Q W0 S b n (listed.setIfInBounds i true) ⟨T g, df⟩ ((g, obi) :: K)) : StepV P md ops Q W0 S b n listed ⟨tm, df⟩ K i := by
 refine stepV_alloc mk hi (wanted_no hgi) hai fun g hg hf => ?_
 rw [hdi]
 simp only [Act.put]
 rw [hT g]
 exact h g hg hf
theorem stepV_cx {i : Nat} {oi : Oper} {d n : Nat} {listed : Array Bool} {tm : Array Value} {df : List Deferred} {K : List (Nat × Obj)} {T : Value → Array Value} {f : FuncId} {args : Array Value} (G : Value → List (Nat × Obj) → Prop)
   (hi : ops[i]? = some oi) (hdi : oi.dst = some d) (hw : Region.wanted oi (yielded ops tm) = true)
   (hf : ∀ w, (execOp (Act.eval ⟨tm, df⟩) oi).run P w = .ok (.enter f args) w)
   (hc : ∀ w, KS W0 K w → Calls P f args w fun e w' => ∃ v K', e = .returned v ∧ KS W0 K' w' ∧ G v K') (hm : ∀ v K', G v K' → ∀ p ∈ K, p ∈ K')
   (hT : ∀ v, tm.setIfInBounds d v = T v)
   (h : ∀ v K', G v K' → wpV P md ops Q W0 S b n (listed.setIfInBounds i true) ⟨T v, df⟩ K') : StepV P md ops Q W0 S b n listed ⟨tm, df⟩ K i := by
 refine ⟨oi, hi, .inr (.inr (.inr ⟨G, .inr (.inl hm), ⟨hw, fun w hK => ?_⟩, fun v K' hG => ?_⟩))⟩
 · unfold Oto
   rw [hf w]
   exact (hc w hK).mono fun e w' ⟨v, K', he, hk, hG⟩ => ⟨v, he, K', hk, hG⟩
 · rw [hdi]
   simp only [Act.put]
   rw [hT v]
   exact h v K' hG
theorem vS {i : Nat} {oi : Oper} {v : Value} {d n : Nat} {listed : Array Bool} {tm : Array Value} {df : List Deferred} {K : List (Nat × Obj)} {T : Array Value} (hi : ops[i]? = some oi) (hd : oi.dst = some d) (hw : Region.wanted oi (yielded ops tm) = true)
   (hy : ∀ w, KS W0 S w → ∀ K' : Act → World → Prop, (∀ w', Below w.heap.size w w' → K' (Act.put ⟨tm, df⟩ oi.dst v) w') → Oper.wp P oi ⟨tm, df⟩ w K' (fun _ _ _ => False))
   (hS : ∀ p ∈ S, p ∈ K)
   (h : wpV P md ops Q W0 S b n (listed.setIfInBounds i true) ⟨T, df⟩ K) (hlt : Nat.blt d tm.size = true := by kernel_rfl) (hf : freeP md ops listed i = true := by kernel_rfl) (hs : stWait md ops i = true := by kernel_rfl) (hT : tm.setIfInBounds d v = T := by simp only [List.setIfInBounds_toArray, List.set_cons_succ, List.set_cons_zero] <;> rfl) : wpV P md ops Q W0 S b (n + 1) listed ⟨tm, df⟩ K := by
 unfold freeP at hf
 simp only [Bool.and_eq_true] at hf
 obtain ⟨h1, h2, h3, h4⟩ := hf
 refine wpV_first (v := v) hi (Region.noSelect_spec h1) n listed _ K (closed_of h4) (Region.free_spec hi h2) (by simpa using h3)
   (.inr (.inr ⟨⟨hS, .inl ⟨hw, fun w hk => Oto.of_wp hd (Nat.le_of_ble_eq_true hlt) (hy w hk)⟩⟩, .inr (stWait_spec hs)⟩)) ?_
 rw [hd]
 subst hT
 exact h
theorem vT {i : Nat} {oi : Oper} {v : Value} {d n : Nat} {listed : Array Bool} {tm : Array Value} {df : List Deferred} {K : List (Nat × Obj)} {T : Array Value} (hi : ops[i]? = some oi) (hd : oi.dst = some d) (hw : Region.wanted oi (yielded ops tm) = true)
   (hy : ∀ w, KS W0 S w → ∀ K' : Act → World → Prop, (∀ w', Below w.heap.size w w' → K' (Act.put ⟨tm, df⟩ oi.dst v) w') → Oper.wp P oi ⟨tm, df⟩ w K' (fun _ _ _ => False))
   (hS : ∀ p ∈ S, p ∈ K)
   (h : wpV P md ops Q W0 S true n (listed.setIfInBounds i true) ⟨T, df⟩ K) (hlt : Nat.blt d tm.size = true := by kernel_rfl) (hf : freeP md ops listed i = true := by kernel_rfl) (hT : tm.setIfInBounds d v = T := by simp only [List.setIfInBounds_toArray, List.set_cons_succ, List.set_cons_zero] <;> rfl) : wpV P md ops Q W0 S true (n + 1) listed ⟨tm, df⟩ K := by
 unfold freeP at hf
 simp only [Bool.and_eq_true] at hf
 obtain ⟨h1, h2, h3, h4⟩ := hf
 refine wpV_first (v := v) hi (Region.noSelect_spec h1) n listed _ K (closed_of h4) (Region.free_spec hi h2) (by simpa using h3)
   (.inr (.inr ⟨⟨hS, .inl ⟨hw, fun w hk => Oto.of_wp hd (Nat.le_of_ble_eq_true hlt) (hy w hk)⟩⟩, .inl rfl⟩)) ?_
 rw [hd]
 subst hT
 exact h
theorem vb {i : Nat} {oi : Oper} {v : Value} {d n : Nat} {listed : Array Bool} {tm : Array Value} {df : List Deferred} {K : List (Nat × Obj)} {T : Array Value} (hi : ops[i]? = some oi) (hd : oi.dst = some d) (hw : Region.wanted oi (yielded ops tm) = true)
   (hy : ∀ w, KS W0 [] w → ∀ K' : Act → World → Prop, (∀ w', Below w.heap.size w w' → K' (Act.put ⟨tm, df⟩ oi.dst v) w') → Oper.wp P oi ⟨tm, df⟩ w K' (fun _ _ _ => False))
   (h : wpV P md ops Q W0 S b n (listed.setIfInBounds i true) ⟨T, df⟩ K) (hlt : Nat.blt d tm.size = true := by kernel_rfl) (hf : freeP md ops listed i = true := by kernel_rfl) (hT : tm.setIfInBounds d v = T := by simp only [List.setIfInBounds_toArray, List.set_cons_succ, List.set_cons_zero] <;> rfl) : wpV P md ops Q W0 S b (n + 1) listed ⟨tm, df⟩ K := by
 unfold freeP at hf
 simp only [Bool.and_eq_true] at hf
 obtain ⟨h1, h2, h3, h4⟩ := hf
 refine wpV_first (v := v) hi (Region.noSelect_spec h1) n listed _ K (closed_of h4) (Region.free_spec hi h2) (by simpa using h3)
   (.inl fun K' => .inl ⟨hw, fun w hk => Oto.of_wp hd (Nat.le_of_ble_eq_true hlt) (hy w (hk.sub (fun _ h => by cases h)))⟩) ?_
 rw [hd]
 subst hT
 exact h
theorem stepV_gk {i : Nat} {oi : Oper} {d n : Nat} {listed : Array Bool} {tm : Array Value} {df : List Deferred} {K : List (Nat × Obj)} {T : Value → Array Value} (G : Value → List (Nat × Obj) → Prop)
   (hi : ops[i]? = some oi) (hdi : oi.dst = some d) (hs : isStore oi = true) (hw : Region.wanted oi (yielded ops tm) = true)
   (hg : ∀ w, KS W0 K w → ∃ v K' w', (execOp (Act.eval ⟨tm, df⟩) oi).run P w = .ok (.value v) w' ∧ KS W0 K' w' ∧ G v K')
   (hk : ∀ v K', G v K' → ∀ p ∈ S, p ∈ K')
   (hT : ∀ v, tm.setIfInBounds d v = T v)
   (h : ∀ v K', G v K' → wpV P md ops Q W0 S b n (listed.setIfInBounds i true) ⟨T v, df⟩ K') : StepV P md ops Q W0 S b n listed ⟨tm, df⟩ K i := by
 refine ⟨oi, hi, .inr (.inr (.inr ⟨G, .inr (.inr (.inr ⟨hs, hk⟩)), ⟨hw, fun w hK => (let ⟨_, K', _, h1, h2, h3⟩ := hg w hK; oto_of_run h1 ⟨K', h2, h3⟩)⟩, fun v K' hG => ?_⟩))⟩
 rw [hdi]
 simp only [Act.put]
 rw [hT v]
 exact h v K' hG
theorem wpV_gk {i : Nat} {oi : Oper} {d n : Nat} {listed : Array Bool} {tm : Array Value} {df : List Deferred} {K : List (Nat × Obj)} {T : Value → Array Value} (G : Value → List (Nat × Obj) → Prop)
   (hi : ops[i]? = some oi) (hdi : oi.dst = some d) (hs : isStore oi = true) (hr : Region.ready md ops listed = [i]) (hw : Region.wanted oi (yielded ops tm) = true)
   (hg : ∀ w, KS W0 K w → ∃ v K' w', (execOp (Act.eval ⟨tm, df⟩) oi).run P w = .ok (.value v) w' ∧ KS W0 K' w' ∧ G v K')
   (hk : ∀ v K', G v K' → ∀ p ∈ S, p ∈ K')
   (hT : ∀ v, tm.setIfInBounds d v = T v)
   (h : ∀ v K', G v K' → wpV P md ops Q W0 S b n (listed.setIfInBounds i true) ⟨T v, df⟩ K') : wpV P md ops Q W0 S b (n + 1) listed ⟨tm, df⟩ K :=
 wpV_1 hr (stepV_gk G hi hdi hs hw hg hk hT h)
theorem appO_keep {E : TypeId} {sz : Nat} {K0 : List (Nat × Obj)} {n : Nat} {ys : List Value} (hS : ∀ p ∈ S, p ∈ K0) : ∀ v K', AppO W0 E sz K0 n ys v K' → ∀ p ∈ S, p ∈ K' := by
 rintro v K' ⟨Kl, _, _, rfl⟩ p hp
 exact List.mem_append_left _ (hS p hp)
end
end Tw.Z
