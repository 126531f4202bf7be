import Derived.Test.YtldhjhjomokkgaaG03
import Derived.Test.YtldhjhjomokkgaaG00
import Derived.Test.YtldhjhjomokkgaaG01
import Derived.Laws.OwnMore
import Derived.Laws.Small
/- Part of the proof: TE0, TG0, Y1, TF0. -/
set_option linter.unusedVariables false
set_option linter.unusedSimpArgs false
set_option linter.unusedSectionVars false
/- Without a column, without a cover: plain facts; slices from a place on. -/
namespace Go.Proofs.Ytldhjhjomokkgaa
open Go Go.RowKit Tw
theorem own_rnone {α : Type} {cells : α → List Value} {sz : Nat} {W0 : Base} {E : TypeId} {g : Nat} (hB : W0.B ≤ g) : OwnL W0 E sz (.slice (some ⟨g, 0, none⟩) 0 0) 0 (([] : List α).flatMap cells) [(g, .cells #[] E (0, 0))] :=
  .inr ⟨g, 0, _, rfl, hB, ⟨by simp, by unfold maxLen; omega, Nat.le_refl _, by simp, by simp⟩, rfl⟩
theorem run_sll {P : Program} {T E : TypeId} {o : Oper} {a : Act} {p : Option Addr} {n c i sz : Nat} {x y : Operand} {k1 : IntKind} (ho : o.op = .slice T x (some y) none none) (hT : P.underlying T = some (.slice E)) (hsz : (P.info? E).map (·.size) = some sz) (hx : a.eval x = .slice p n c) (hy : a.eval y = .int k1 ((i : Nat) : Int)) (hi : i ≤ n) (hn : n ≤ c) (w : World) : (execOp a.eval o).run P w = .ok (.value (.slice (cutQ p c i sz) (n - i) (c - i))) w := by
  have e1 := fun q => sl_bound (P := P) (k := k1) (c := q) hi w
  have e2 := fun q => sl_bound (P := P) (k := .i64) (c := q) hn w
  unfold execOp cutQ
  cases hq : P.info? E with
  | none => simp [hq] at hsz
  | some q =>
    have hs : q.size = sz := by simpa [hq] using hsz
    simp [ho, hx, hy, Instr.sliceAt, Instr.slice, Instr.sliceBounds, run_underlying hT, e1, e2, Go.sizeOf, typeInfo, hq, hs]
-- without an element
section
variable {α : Type} {l : List α} {k : Nat} {x : α}
theorem er_sub (l : List α) (k : Nat) : (l.take k ++ l.drop (k + 1)).Sublist l := by
  rw [← List.eraseIdx_eq_take_drop_succ]; exact List.eraseIdx_sublist ..
theorem er_len (h : k < l.length) : (l.take k ++ l.drop (k + 1)).length = l.length - 1 := by
  rw [List.length_append, List.length_take, List.length_drop]; omega
theorem er_split (h : l[k]? = some x) : l = l.take k ++ x :: l.drop (k + 1) := by
  obtain ⟨hk, rfl⟩ := List.getElem?_eq_some_iff.1 h
  conv => lhs; rw [← List.take_append_drop k l, List.drop_eq_getElem_cons hk]
end
def sumT : List Col → Int
  | [] => 0
  | c :: cs => c.tiers + sumT cs
theorem sumT_app (a b : List Col) : sumT (a ++ b) = sumT a + sumT b := by
  induction a with
  | nil => simp [sumT]
  | cons c a ih => simp only [List.cons_append, sumT, ih]; omega
theorem tiers_sum {cs : List Col} : ∀ {m : Int}, (∀ c ∈ cs, 1 ≤ c.tiers ∧ c.tiers ≤ 10) → 0 ≤ m → m + 10 * ((cs.length : Nat) : Int) ≤ 1000000 → tiersF m cs = m + sumT cs ∧ 0 ≤ sumT cs ∧ sumT cs ≤ 10 * ((cs.length : Nat) : Int) := by
  induction cs with
  | nil => intro m _ _ _; exact ⟨by simp [tiersF, sumT], by simp [sumT], by simp [sumT]⟩
  | cons c cs ih =>
    intro m h h0 h1
    have hc := h c (.head _)
    rw [List.length_cons] at h1 ⊢
    have e : IntKind.i64.wrap (m + c.tiers) = m + c.tiers := wi_i64 (by omega)
    obtain ⟨i1, i2, i3⟩ := ih (m := m + c.tiers) (fun x hx => h x (.tail _ hx)) (by omega) (by omega)
    refine ⟨?_, ?_, ?_⟩
    · show tiersF (IntKind.i64.wrap (m + c.tiers)) cs = _
      rw [e, i1]; simp only [sumT]; omega
    · simp only [sumT]; omega
    · simp only [sumT]; omega
section
variable {cs : List Col}
theorem good_tiers (h : Good cs) : ∀ c ∈ cs, 1 ≤ c.tiers ∧ c.tiers ≤ 10 := fun c hc => by
  have := colx_in (h.1 c hc).1; omega
theorem places_is (h : Good cs) (h2 : cs.length ≤ 12) : placesX cs = 2 * sumT cs ∧ 0 ≤ sumT cs ∧ sumT cs ≤ 120 := by
  obtain ⟨h3, h4, h5⟩ := tiers_sum (m := 0) (good_tiers h) (by omega) (by omega)
  refine ⟨?_, h4, by omega⟩
  unfold placesX
  rw [h3, Int.zero_add]
  exact wi_i64 (by omega)
theorem less_good (h : Good cs) (k : Nat) : Good (cs.take k ++ cs.drop (k + 1)) := good_sub h (er_sub cs k)
theorem less_places (h : Good cs) (h2 : cs.length ≤ 12) {k : Nat} {c : Col} (hc : cs[k]? = some c) : placesX (cs.take k ++ cs.drop (k + 1)) = placesX cs - 2 * c.tiers := by
  have hk := (List.getElem?_eq_some_iff.1 hc).1
  obtain ⟨e1, _, _⟩ := places_is h h2
  obtain ⟨e2, _, _⟩ := places_is (less_good h k) (by rw [er_len hk]; omega)
  have e3 : sumT cs = sumT (cs.take k) + (c.tiers + sumT (cs.drop (k + 1))) := by
    conv => lhs; rw [er_split hc, sumT_app]
    rfl
  rw [e1, e2, sumT_app]; omega
theorem tallF_ge : ∀ (cs : List Col) (m : Int), m ≤ tallF m cs ∧ ∀ c ∈ cs, c.tiers ≤ tallF m cs
  | [], m => ⟨Int.le_refl _, fun _ h => by cases h⟩
  | c :: cs, m => by
    obtain ⟨h1, h2⟩ := tallF_ge cs (max m c.tiers)
    refine ⟨by show m ≤ tallF (max m c.tiers) cs; omega, fun x hx => ?_⟩
    show x.tiers ≤ tallF (max m c.tiers) cs
    rcases List.mem_cons.1 hx with rfl | hx
    · omega
    · exact h2 x hx
theorem tallF_in : ∀ (cs : List Col) (m : Int), tallF m cs = m ∨ ∃ c ∈ cs, tallF m cs = c.tiers
  | [], m => .inl rfl
  | c :: cs, m => by
    rcases tallF_in cs (max m c.tiers) with h | ⟨x, hx, h⟩
    · rcases Int.le_total m c.tiers with hm | hm
      · exact .inr ⟨c, .head _, by show tallF (max m c.tiers) cs = _; rw [h]; omega⟩
      · exact .inl (by show tallF (max m c.tiers) cs = _; rw [h]; omega)
    · exact .inr ⟨x, .tail _ hx, h⟩
theorem tall_ge {c : Col} (hc : c ∈ cs) : c.tiers ≤ tallX cs := by
  cases cs with
  | nil => cases hc
  | cons d cs =>
    obtain ⟨h1, h2⟩ := tallF_ge cs d.tiers
    rcases List.mem_cons.1 hc with rfl | hc
    · exact h1
    · exact h2 c hc
theorem tall_in : cs = [] ∨ ∃ c ∈ cs, tallX cs = c.tiers := by
  cases cs with
  | nil => exact .inl rfl
  | cons d cs =>
    rcases tallF_in cs d.tiers with h | ⟨x, hx, h⟩
    · exact .inr ⟨d, .head _, h⟩
    · exact .inr ⟨x, .tail _ hx, h⟩
theorem less_tall (h : Good cs) (h0 : 0 < cs.length) (k : Nat) : tallX (cs.take k ++ cs.drop (k + 1)) ≤ tallX cs := by
  rcases tall_in (cs := cs.take k ++ cs.drop (k + 1)) with e | ⟨c, hc, e⟩
  · rw [e]
    have hm : cs[0] ∈ cs := List.getElem_mem h0
    have h1 := tall_ge hm
    have h2 := good_tiers h _ hm
    show (0 : Int) ≤ _
    omega
  · rw [e]; exact tall_ge ((er_sub cs k).subset hc)
theorem less_right (h : Good cs) (h2 : cs.length ≤ 12) {k : Nat} (hk : k < cs.length) {os : List Cov} (ho : GoodO (os.map fun o => (o.bay, o.rows))) : rightX (cs.take k ++ cs.drop (k + 1)) os = decide (1 < cs.length) := by
  have hl := er_len hk
  by_cases h1 : 1 < cs.length
  · rw [decide_eq_true h1]
    exact good_right (less_good h k) (by omega) (by omega) ho
  · rw [decide_eq_false h1]
    have e : cs.take k ++ cs.drop (k + 1) = [] := List.eq_nil_of_length_eq_zero (by omega)
    rw [e]; rfl
theorem find_at (h : Good cs) {i : Nat} {c : Col} (hc : cs[i]? = some c) : fst (isAt c.bay c.row c.deck) cs = some i :=
  fst_is hc (isAt_place.2 rfl) fun j y hj hy => by
    cases e : isAt c.bay c.row c.deck y with
    | false => rfl
    | true =>
      have := good_inj h hy hc (isAt_place.1 e)
      omega
theorem less_find (h : Good cs) {i k : Nat} {c : Col} (hc : cs[i]? = some c) (hk : k < cs.length) : (fst (isAt c.bay c.row c.deck) (cs.take k ++ cs.drop (k + 1))).isSome = !decide (i = k) := by
  have hi := (List.getElem?_eq_some_iff.1 hc).1
  by_cases e : i = k
  · subst e
    rw [decide_eq_true rfl]
    have : fst (isAt c.bay c.row c.deck) (cs.take i ++ cs.drop (i + 1)) = none := fst_mem_none fun x hx => by
      cases e : isAt c.bay c.row c.deck x with
      | false => rfl
      | true =>
        exfalso
        have hp : placeX x = placeX c := isAt_place.1 e
        have hn := h.2
        rw [er_split hc, List.map_append, List.map_cons] at hn
        obtain ⟨_, n2, n3⟩ := List.nodup_append.1 hn
        rw [List.nodup_cons] at n2
        rcases List.mem_append.1 hx with hx | hx
        · exact n3 _ (List.mem_map.2 ⟨x, hx, rfl⟩) _ (.head _) hp
        · exact n2.1 (List.mem_map.2 ⟨x, hx, hp⟩)
    rw [this]; rfl
  · rw [decide_eq_false e]
    have hm : c ∈ cs.take k ++ cs.drop (k + 1) := by
      rw [List.mem_append]
      rcases Nat.lt_or_gt_of_ne e with e | e
      · left
        exact List.mem_of_getElem? (i := i) (by rw [List.getElem?_take, if_pos e]; exact hc)
      · right
        exact List.mem_of_getElem? (i := i - (k + 1)) (by rw [List.getElem?_drop, show k + 1 + (i - (k + 1)) = i from by omega]; exact hc)
    cases hf : fst (isAt c.bay c.row c.deck) (cs.take k ++ cs.drop (k + 1)) with
    | some j => rfl
    | none => have := fst_none hf c hm; rw [isAt_place.2 rfl] at this; cases this
end
theorem rw_sub {W : World} {os l : List Cov} (h : RwR W os) (hs : l.Sublist os) : RwR W l := fun o ho => h o (hs.subset ho)
theorem open_good {os : List Cov} (h : GoodO (os.map fun o => (o.bay, o.rows))) (k : Nat) : GoodO ((os.take k ++ os.drop (k + 1)).map fun o => (o.bay, o.rows)) := ((er_sub os k).map _).trans h
end Go.Proofs.Ytldhjhjomokkgaa
/- Records in a block that are written; ships that are not right: plain facts. -/
namespace Go.Proofs.Ytldhjhjomokkgaa
open Go Go.RowKit Tw
def RowR {α : Type} (cells : α → List Value) (cur : Array Value) (l : List α) : Prop := ∃ rest, cur.toList = l.flatMap cells ++ rest
section
variable {α : Type} {cells : α → List Value} {sz : Nat} {cur : Array Value} {l : List α} {k j : Nat} {c c' : α} {v : Value}
theorem RowR.get (h : RowR cells cur l) (hc : ∀ y, (cells y).length = sz) (hk : l[k]? = some c) : ∀ (j : Nat) (v : Value), (cells c)[j]? = some v → cur[0 + k * sz + j]? = some v := fun j v hv => by
  obtain ⟨rest, h⟩ := h
  have h1 := flat_get hc hk hv
  rw [← Array.getElem?_toList, h, Nat.zero_add, List.getElem?_append_left (List.getElem?_eq_some_iff.1 h1).1, h1]
theorem flat_set (hc : ∀ y, (cells y).length = sz) (hk : l[k]? = some c) (hj : j < sz) (he : cells c' = (cells c).set j v) : (l.flatMap cells).set (k * sz + j) v = (l.set k c').flatMap cells := by
  obtain ⟨hkl, hkc⟩ := List.getElem?_eq_some_iff.1 hk
  have e1 := er_split hk
  have hl : ((l.take k).flatMap cells).length = k * sz := by rw [flat_len hc, List.length_take, Nat.min_eq_left (by omega)]
  rw [show l.set k c' = l.take k ++ c' :: l.drop (k + 1) from by rw [List.set_eq_take_append_cons_drop, if_pos hkl], List.flatMap_append, List.flatMap_cons, he]
  conv => lhs; rw [e1, List.flatMap_append, List.flatMap_cons]
  rw [List.set_append_right _ _ (by rw [hl]; omega), hl, Nat.add_sub_cancel_left, List.set_append_left _ _ (by rw [hc]; exact hj)]
theorem RowR.set (h : RowR cells cur l) (hc : ∀ y, (cells y).length = sz) (hk : l[k]? = some c) (hj : j < sz) (he : cells c' = (cells c).set j v) : RowR cells (cur.setIfInBounds (0 + k * sz + j) v) (l.set k c') := by
  obtain ⟨rest, h⟩ := h
  refine ⟨rest, ?_⟩
  have hkl := (List.getElem?_eq_some_iff.1 hk).1
  have hlt : k * sz + j < (l.flatMap cells).length := by
    rw [flat_len hc]
    have : (k + 1) * sz ≤ l.length * sz := Nat.mul_le_mul_right _ hkl
    rw [Nat.succ_mul] at this; omega
  rw [Array.toList_setIfInBounds, h, Nat.zero_add, List.set_append_left _ _ hlt, flat_set hc hk hj he]
theorem own_open {W0 : Base} {E : TypeId} {n : Nat} {K : List (Nat × Obj)} (h : OwnL W0 E sz v n (l.flatMap cells) K) (hn : 0 < n) : ∃ g cap cur, v = .slice (some ⟨g, 0, none⟩) n cap ∧ n ≤ cap ∧ W0.B ≤ g ∧ RowR cells cur l ∧ cur.size = cap * sz ∧ K = [(g, .cells cur E (0, 0))] := by
  rcases h with ⟨rfl, _⟩ | ⟨g, cap, cur, hv, hB, hR, hK⟩
  · omega
  · exact ⟨g, cap, cur, hv, hR.2.2.1, hB, ⟨cur.toList.drop (n * sz), by rw [← hR.2.2.2.2, List.take_append_drop]⟩, hR.1, hK⟩
theorem rowr_slv {W0 : Base} {K : List (Nat × Obj)} {W : World} {g : Nat} {t : TypeId} {fr : Nat × Nat} (hW : KS W0 K W) (hm : (g, .cells cur t fr) ∈ K) (h : RowR cells cur l) : SLV W (some ⟨g, 0, none⟩) (l.flatMap cells) := by
  obtain ⟨rest, h⟩ := h
  refine .inr ⟨g, 0, rfl, lt_of_block (hW.2 _ hm), fun i u hu => ?_⟩
  rw [Nat.zero_add, cell_of_row W g i cur t fr (hW.2 _ hm), ← Array.getElem?_toList, h, List.getElem?_append_left (List.getElem?_eq_some_iff.1 hu).1, hu]
end
-- what is wrong
section
variable {cs : List Col} {os : List Cov}
theorem cols_f {c : Col} (hc : c ∈ cs) (hx : colX c = false) : colsX cs = false := by
  unfold colsX
  have : colsF [] cs = false := by
    cases h : colsF [] cs with
    | false => rfl
    | true => have := (cols_iff.1 h).1 c hc; rw [hx] at this; cases this
  rw [this]; simp
theorem cols_dup (h : ¬ (cs.map placeX).Nodup) : colsX cs = false := by
  unfold colsX
  have : colsF [] cs = false := by
    cases h2 : colsF [] cs with
    | false => rfl
    | true => exact absurd (cols_iff.1 h2).2.1 h
  rw [this]; simp
theorem right_c (h : colsX cs = false) : rightX cs os = false := by unfold rightX; rw [h]; rfl
theorem right_o (h : ovsX os = false) : rightX cs os = false := by unfold rightX; rw [h, Bool.and_false]
theorem set_bad {k : Nat} {c c' : Col} (hk : cs[k]? = some c) (hx : colX c' = false) : rightX (cs.set k c') os = false :=
  right_c (cols_f (List.mem_set (List.getElem?_eq_some_iff.1 hk).1 _) hx)
theorem rgs_f {l : List Rg} {r : Rg} (hr : r ∈ l) (h : r.1 < r.2.1 ∨ r.2.2 < r.1) : rgsX l = false := by
  induction l with
  | nil => cases hr
  | cons x l ih =>
    show (!decide (x.1 < x.2.1) && (!decide (x.2.2 < x.1) && rgsX l)) = false
    rcases List.mem_cons.1 hr with rfl | hr
    · rcases h with h | h
      · rw [decide_eq_true h]; rfl
      · rw [decide_eq_true h]; simp
    · rw [ih hr]; simp
theorem col_rg {c : Col} {r : Rg} (hr : r ∈ rangesX c) (h : r.1 < r.2.1 ∨ r.2.2 < r.1) : colX c = false := by unfold colX; rw [rgs_f hr h]; rfl
theorem col_inc {c : Col} (h : incX c.plugs (IntKind.i64.wrap (c.tiers - 1)) = false) : colX c = false := by unfold colX; rw [h, Bool.and_false]
theorem dup_bad {c : Col} (hc : c ∈ cs) : rightX (cs ++ [c]) os = false := right_c (cols_dup fun hn => by
  rw [List.map_append, List.nodup_append] at hn
  exact hn.2.2 (placeX c) (List.mem_map.2 ⟨c, hc, rfl⟩) (placeX c) (by simp) rfl)
theorem ovs_t {os : List Cov} : ∀ {L : List I2}, ovsF L os = true → (∀ o ∈ os, ovX o = true) ∧ (keysO (os.map fun o => (o.bay, o.rows))).Nodup ∧ ∀ k ∈ keysO (os.map fun o => (o.bay, o.rows)), k ∉ L := by
  induction os with
  | nil => intro L _; exact ⟨fun _ h => (by cases h), by simp [keysO], fun _ h => (by simp [keysO] at h)⟩
  | cons o os ih =>
    intro L h
    have h : (ovX o && (freshF o.bay L o.rows && ovsF (L ++ o.rows.map (fun r => (o.bay, r))) os)) = true := h
    simp only [Bool.and_eq_true] at h
    obtain ⟨h1, h2, h3⟩ := h
    obtain ⟨f1, f2⟩ := fresh_iff.1 h2
    obtain ⟨i1, i2, i3⟩ := ih h3
    have e : keysO ((o :: os).map fun o => (o.bay, o.rows)) = (o.rows.map fun r => (o.bay, r)) ++ keysO (os.map fun o => (o.bay, o.rows)) := rfl
    rw [e]
    refine ⟨fun x hx => ?_, ?_, fun k hk => ?_⟩
    · rcases List.mem_cons.1 hx with rfl | hx
      · exact h1
      · exact i1 x hx
    · rw [List.nodup_append]
      refine ⟨?_, i2, fun a ha b hb e => ?_⟩
      · rw [List.Nodup, List.pairwise_map]
        exact f1.imp fun {a b} hn e => hn (Prod.mk.inj e).2
      · subst e
        exact i3 a hb (List.mem_append_right _ ha)
    · rcases List.mem_append.1 hk with hk | hk
      · obtain ⟨r, hr, rfl⟩ := List.mem_map.1 hk
        exact f2 r hr
      · exact fun hL => i3 k hk (List.mem_append_left _ hL)
theorem ov_bad {o : Cov} (ho : o ∈ os) (h : ovX o = false) : rightX cs os = false := right_o (by
  unfold ovsX
  have : ovsF [] os = false := by
    cases h2 : ovsF [] os with
    | false => rfl
    | true => have := (ovs_t h2).1 o ho; rw [h] at this; cases this
  rw [this, Bool.and_false])
theorem ov_dup {a b : Cov} {r : Int} (h : a.bay = b.bay) (ha : r ∈ a.rows) (hb : r ∈ b.rows) : rightX cs (os ++ [a, b]) = false := right_o (by
  unfold ovsX
  have : ovsF [] (os ++ [a, b]) = false := by
    cases h2 : ovsF [] (os ++ [a, b]) with
    | false => rfl
    | true =>
      exfalso
      have hn := (ovs_t h2).2.1
      have e : keysO ((os ++ [a, b]).map fun o => (o.bay, o.rows)) = keysO (os.map fun o => (o.bay, o.rows)) ++ ((a.rows.map fun r => (a.bay, r)) ++ ((b.rows.map fun r => (b.bay, r)) ++ [])) := by
        unfold keysO
        rw [List.map_append, List.flatMap_append]; rfl
      rw [e, List.append_nil] at hn
      have h3 := (List.nodup_append.1 (List.nodup_append.1 hn).2.1).2.2
      exact h3 (a.bay, r) (List.mem_map.2 ⟨r, ha, rfl⟩) (b.bay, r) (List.mem_map.2 ⟨r, hb, rfl⟩) (by rw [h])
  rw [this, Bool.and_false])
-- indices that are none
theorem cov_low {n : Int} (h : n < 0) : fiN (covOf cs os n) = -1 := by
  unfold covOf
  rw [(el_neg (d := col0) h).1]; rfl
theorem al_low {n : Int} {d : Bool} (h : n < 0) : alongX cs os n d = [] := by
  unfold alongX
  rw [(el_neg (d := cov0) h).1]; rfl
theorem al_high {n : Int} {d : Bool} (h : ¬ n < 0) (h2 : ((os.length : Nat) : Int) ≤ n) : alongX cs os n d = [] := by
  unfold alongX
  rw [(el_big (d := cov0) h (by omega)).1]; rfl
theorem bes_low {n : Int} (h : n < 0) : besideX cs n = [] := by
  unfold besideX
  rw [(el_neg (d := col0) h).1]; rfl
theorem pl_set {W : World} {k : Nat} {c' : Col} (h : PlR W cs) (h2 : SLV W c'.pp (c'.plugs.flatMap inC)) : PlR W (cs.set k c') := fun c hc => by
  rcases List.mem_or_eq_of_mem_set hc with hc | rfl
  · exact h c hc
  · exact h2
theorem pll_set {k : Nat} {c' : Col} (h : ∀ c ∈ cs, c.plugs.length ≤ 4000000000) (h2 : c'.plugs.length ≤ 4000000000) : ∀ c ∈ cs.set k c', c.plugs.length ≤ 4000000000 := fun c hc => by
  rcases List.mem_or_eq_of_mem_set hc with hc | rfl
  · exact h c hc
  · exact h2
theorem rw_app {W : World} {l : List Cov} (h : RwR W os) (h2 : RwR W l) : RwR W (os ++ l) := fun o ho => by
  rcases List.mem_append.1 ho with ho | ho
  · exact h o ho
  · exact h2 o ho
theorem rw_cons {W : World} {o : Cov} (h : SLV W o.rp (o.rows.flatMap inC)) (h2 : RwR W os) : RwR W (o :: os) := fun x hx => by
  rcases List.mem_cons.1 hx with rfl | hx
  · exact h
  · exact h2 x hx
theorem rl_app {l : List Cov} (h : ∀ o ∈ os, o.rows.length ≤ 4000000000) (h2 : ∀ o ∈ l, o.rows.length ≤ 4000000000) : ∀ o ∈ os ++ l, o.rows.length ≤ 4000000000 := fun o ho => by
  rcases List.mem_append.1 ho with ho | ho
  · exact h o ho
  · exact h2 o ho
theorem good_snoc {c : Col} (h : Good cs) (hc : c ∈ cs) : ∀ x ∈ cs ++ [c], x.plugs = [] := fun x hx => by
  rcases List.mem_append.1 hx with hx | hx
  · exact (h.1 x hx).2
  · cases List.mem_singleton.1 hx; exact (h.1 _ hc).2
end
end Go.Proofs.Ytldhjhjomokkgaa
/- Lists of numbers that are read, cut and handed on: over any program. -/
namespace Tw
open Go Go.RowKit Go.Proofs.Ytldhjhjomokkgaa
def nums (l : List Nat) : List Value := l.map fun n => .int .i64 ((n : Nat) : Int)
theorem nums_len (l : List Nat) : (nums l).length = l.length := by simp [nums]
theorem nums_app (l m : List Nat) : nums (l ++ m) = nums l ++ nums m := by simp [nums]
theorem nums_get {l : List Nat} {k x : Nat} (h : l[k]? = some x) : (nums l)[k]? = some (.int .i64 ((x : Nat) : Int)) := by simp [nums, h]
theorem nums_take (l : List Nat) (k : Nat) : nums (l.take k) = (nums l).take k := by simp [nums, List.map_take]
theorem nums_drop (l : List Nat) (k : Nat) : nums (l.drop k) = (nums l).drop k := by simp [nums, List.map_drop]
theorem nums_one (l : List Nat) : ∀ u ∈ nums l, u.oneCell' = true := by
  intro u hu
  obtain ⟨n, _, rfl⟩ := List.mem_map.1 hu
  rfl
theorem slv_take {W : World} {p : Option Addr} {xs : List Value} (h : SLV W p xs) (k : Nat) : SLV W p (xs.take k) := by
  rcases h with rfl | ⟨b, off, rfl, hlt, hc⟩
  · exact .inl (by simp)
  · refine .inr ⟨b, off, rfl, hlt, fun i u hu => hc i u ?_⟩
    rw [List.getElem?_take] at hu
    split at hu
    · exact hu
    · cases hu
def NS (W0 : Base) (p : Option Addr) (l : List Nat) (T : List (Nat × Obj)) : Prop := ∀ W, KS W0 T W → SLV W p (nums l)
section
variable {W0 : Base} {p : Option Addr} {l : List Nat} {K T : List (Nat × Obj)}
theorem NS.mono (h : NS W0 p l T) (hs : ∀ q ∈ T, q ∈ K) : NS W0 p l K := fun W hW => h W (hW.sub hs)
theorem NS.take (h : NS W0 p l T) (k : Nat) : NS W0 p (l.take k) T := fun W hW => by rw [nums_take]; exact slv_take (h W hW) k
theorem NS.nil : NS W0 p [] T := fun _ _ => .inl rfl
theorem NS.base {W : World} (h : SLV W p (nums l)) : NS (W : Base) p l [] := fun _ hW => h.keep hW.1
theorem NS.at {W : World} {k : Nat} (h : NS W0 p l T) (hW : KS W0 T W) (hk : k < l.length) : ∃ b off, p = some ⟨b, off, none⟩ ∧ ∀ W, KS W0 T W → ∀ (i x : Nat), l[i]? = some x → W.cell? ⟨b, off + i * 1, none⟩ = some (.int .i64 ((x : Nat) : Int)) := by
  have hne : nums l ≠ [] := fun e => by have := nums_len l; rw [e] at this; simp at this; omega
  rcases h W hW with h0 | ⟨b, off, rfl, _, _⟩
  · exact absurd h0 hne
  · refine ⟨b, off, rfl, fun W2 hW2 i x hx => ?_⟩
    rcases h W2 hW2 with h0 | ⟨b', off', he, _, hc⟩
    · exact absurd h0 hne
    · cases he
      rw [Nat.mul_one]
      exact hc i _ (nums_get hx)
theorem NS.drop {W : World} {c k : Nat} (h : NS W0 p l T) (hW : KS W0 T W) (hc : l.length ≤ c) : NS W0 (if c = k then p else p.map (·.add (k * 1))) (l.drop k) T := by
  rcases Nat.lt_or_ge k l.length with h1 | h1
  · obtain ⟨b, off, rfl, h2⟩ := h.at hW h1
    rw [if_neg (by omega)]
    intro W2 hW2
    rcases h W2 hW2 with h0 | ⟨b', off', he, hlt, hc⟩
    · have := nums_len l; rw [h0] at this; simp at this; omega
    · cases he
      refine .inr ⟨b, off + k * 1, by simp [addr_add], hlt, fun i u hu => ?_⟩
      rw [nums_drop, List.getElem?_drop] at hu
      rw [Nat.mul_one, Nat.add_assoc]
      exact hc _ u hu
  · rw [List.drop_of_length_le h1]; exact NS.nil
theorem cell_same {w w2 : World} {b off : Nat} (h : w.heap[b]? = w2.heap[b]?) : w.cell? ⟨b, off, none⟩ = w2.cell? ⟨b, off, none⟩ := by
  unfold World.cell?; simp only [h]
theorem ns_of {W w2 : World} (hW : KS W0 K W) (hB : Below W.heap.size W w2) (hs : SLV w2 p (nums l)) : ∃ K2, KS W0 K2 w2 ∧ (∀ q ∈ K, q ∈ K2) ∧ NS W0 p l K2 := by
  have hK := hW.below hB
  rcases hs with h0 | ⟨b, off, rfl, hlt, hc⟩
  · exact ⟨K, hK, fun _ h => h, fun _ _ => .inl h0⟩
  · have hb : w2.heap[b]? = some (w2.heap[b]) := Array.getElem?_eq_getElem hlt
    refine ⟨(b, w2.heap[b]) :: K, ⟨hK.1, fun q hq => ?_⟩, fun q hq => .tail _ hq, fun W3 hW3 => .inr ⟨b, off, rfl, ?_, fun i u hu => ?_⟩⟩
    · rcases List.mem_cons.1 hq with rfl | h
      · exact hb
      · exact hK.2 q h
    · have := hW3.2 _ (.head _); exact lt_of_block this
    · rw [cell_same (w2 := w2) (by rw [hW3.2 _ (.head _)]; exact hb.symm)]; exact hc i u hu
def SLF (W w2 : World) (p : Option Addr) (xs : List Value) : Prop := xs = [] ∨ ∃ b off, p = some ⟨b, off, none⟩ ∧ W.heap.size ≤ b ∧ b < w2.heap.size ∧ Cel w2 b off xs
theorem SLF.slv {W w2 : World} {xs : List Value} (h : SLF W w2 p xs) : SLV w2 p xs := h.imp id fun ⟨b, off, h1, _, h2, h3⟩ => ⟨b, off, h1, h2, h3⟩
theorem SLF.back {V W w2 : World} {xs : List Value} (h : SLF W w2 p xs) (hs : V.heap.size ≤ W.heap.size) : SLF V w2 p xs := h.imp id fun ⟨b, off, h1, h2, h3⟩ => ⟨b, off, h1, by omega, h3⟩
theorem SLF.take {W w2 : World} {xs : List Value} (h : SLF W w2 p xs) (k : Nat) : SLF W w2 p (xs.take k) := by
  rcases h with rfl | ⟨b, off, rfl, h1, h2, hc⟩
  · exact .inl (by simp)
  · refine .inr ⟨b, off, rfl, h1, h2, fun i u hu => hc i u ?_⟩
    rw [List.getElem?_take] at hu
    split at hu
    · exact hu
    · cases hu
theorem ns_new {W w2 : World} (hW : KS W0 K W) (hB : Below W.heap.size W w2) (hs : SLF W w2 p (nums l)) : ∃ T, KS W0 (K ++ T) w2 ∧ Dj K T ∧ NS W0 p l T ∧ ∀ W3, KS W0 T W3 → W0.B = W0.w.heap.size → SLF W0.w W3 p (nums l) := by
  have hK := hW.below hB
  rcases hs with h0 | ⟨b, off, rfl, hge, hlt, hc⟩
  · exact ⟨[], by rw [List.append_nil]; exact hK, fun _ _ _ h => (by cases h), fun _ _ => .inl h0, fun _ _ _ => .inl h0⟩
  · have hb : w2.heap[b]? = some (w2.heap[b]) := Array.getElem?_eq_getElem hlt
    refine ⟨[(b, w2.heap[b])], ⟨hK.1, fun q hq => ?_⟩, fun q hq r hr e => ?_, fun W3 hW3 => .inr ⟨b, off, rfl, ?_, fun i u hu => ?_⟩, fun W3 hW3 e => .inr ⟨b, off, rfl, ?_, ?_, fun i u hu => ?_⟩⟩
    · rcases List.mem_append.1 hq with h | h
      · exact hK.2 q h
      · cases List.mem_singleton.1 h; exact hb
    · cases List.mem_singleton.1 hr
      have := lt_of_block (hW.2 q hq)
      have e' : b = q.1 := e
      omega
    · have := hW3.2 _ (.head _); exact lt_of_block this
    · rw [cell_same (w2 := w2) (by rw [hW3.2 _ (.head _)]; exact hb.symm)]; exact hc i u hu
    · have := hW.size; omega
    · have := hW3.2 _ (.head _); exact lt_of_block this
    · rw [cell_same (w2 := w2) (by rw [hW3.2 _ (.head _)]; exact hb.symm)]; exact hc i u hu
theorem own_ns {E : TypeId} {v : Value} {n : Nat} (h : OwnL W0 E 1 v n (nums l) T) : ∃ p c, v = .slice p n c ∧ n ≤ c ∧ NS W0 p l T ∧ ∀ W w2, KS W0 T W → W0.B = W0.w.heap.size → Below W.heap.size W w2 → SLF W0.w w2 p (nums l) := by
  rcases h with ⟨rfl, h2, rfl, rfl⟩ | ⟨g, cap, cur, rfl, hB, hR, rfl⟩
  · exact ⟨none, 0, rfl, Nat.le_refl _, fun _ _ => .inl h2, fun _ _ _ _ _ => .inl h2⟩
  · refine ⟨_, cap, rfl, hR.2.2.1, fun W hW => ?_, fun W w2 hW e hb => ?_⟩
    · have hb := hW.2 _ (.head _)
      exact .inr ⟨g, 0, rfl, lt_of_block hb, hR.cel hb⟩
    · have h1 := (hW.below hb).2 _ (.head _)
      exact .inr ⟨g, 0, rfl, by omega, lt_of_block h1, hR.cel h1⟩
theorem own_ncap {E : TypeId} {v : Value} {n : Nat} {xs : List Value} (h : OwnL W0 E 1 v n xs T) : xs.length = n := by
  rcases h with ⟨rfl, h2, rfl, rfl⟩ | ⟨g, cap, cur, rfl, hB, hR, rfl⟩
  · simp [h2]
  · have := hR.2.2.2.1; omega
theorem own_row {E : TypeId} {g n : Nat} {xs : List Value} (hB : W0.B ≤ g) (hl : xs.length = n) (hm : n ≤ 4000000000) : OwnL W0 E 1 (.slice (some ⟨g, 0, none⟩) n n) n xs [(g, .cells xs.toArray E (0, 0))] :=
  .inr ⟨g, n, _, rfl, hB, ⟨by simp [hl], by unfold maxLen; omega, Nat.le_refl _, by simp [hl], by simp [← hl]⟩, rfl⟩
end
section
variable {P : Program} {T E : TypeId} {W0 : Base}
theorem yb_ns {o : Oper} {a : Act} {K : List (Nat × Obj)} {ty : TypeId} {x : Operand} {g off : Nat} {v : Value} {d : TypeDesc} (ho : o.op = .load ty x) (hx : a.eval x = .pointer (some ⟨g, off, none⟩))
    (hc : ∀ W, KS W0 K W → W.cell? ⟨g, off, none⟩ = some v) (hu : P.underlying ty = some d) (hd : aggD d = false) :
    ∀ w, KS W0 K w → ∀ K' : Act → World → Prop, (∀ w', Below w.heap.size w w' → K' (a.put o.dst v) w') → Oper.wp P o a w K' (fun _ _ _ => False) := by
  intro w hw K' hk
  have hagg : (isAgg ty).run P w = .ok false w := by
    unfold isAgg
    rw [Sem.run_bind, run_underlying hu w]
    unfold aggD at hd
    cases d <;> simp_all
  have hr : (loadVar ty ⟨g, off, none⟩).run P w = .ok v w := by
    simp [loadVar, Sem.run_bind, hagg, hc w hw]
  unfold Oper.wp execOp
  simp only [ho, hx, Instr.loadAt, Instr.sureAddr, Sem.run_bind, Sem.run_pure, Result.andThen_ok, hr]
  exact hk w (Below.refl _ _)
theorem run_cutH {o : Oper} {a : Act} {p : Option Addr} {n c j sz : Nat} {x p2 : Operand} {k2 : IntKind} (ho : o.op = .slice T x none (some p2) none) (hT : P.underlying T = some (.slice E)) (hsz : (P.info? E).map (·.size) = some sz) (hx : a.eval x = .slice p n c) (h2 : a.eval p2 = .int k2 ((j : Nat) : Int)) (hl : j ≤ c) (w : World) : (execOp a.eval o).run P w = .ok (.value (.slice p j c)) w := by
  unfold execOp
  rw [ho]
  have e2 := fun q => sl_bound (P := P) (k := k2) (c := q) hl w
  cases hq : P.info? E with
  | none => simp [hq] at hsz
  | some i =>
    have hp : (if c = 0 then p else p.map (·.add (0 * i.size))) = p := by
      split
      · rfl
      · cases p with
        | none => rfl
        | some q => obtain ⟨b, off, s⟩ := q; simp [Addr.add]
    simp [Instr.sliceAt, Instr.slice, Instr.sliceBounds, hx, h2, run_underlying hT, e2, Go.sizeOf, typeInfo, hq]
    cases p with
    | none => simp
    | some q => obtain ⟨b, off, s⟩ := q; simp [Addr.add]
theorem run_cutL {o : Oper} {a : Act} {p : Option Addr} {n c i : Nat} {x p1 : Operand} {k1 : IntKind} (ho : o.op = .slice T x (some p1) none none) (hT : P.underlying T = some (.slice E)) (hsz : (P.info? E).map (·.size) = some 1) (hx : a.eval x = .slice p n c) (h1 : a.eval p1 = .int k1 ((i : Nat) : Int)) (hl : i ≤ n) (w : World) : (execOp a.eval o).run P w = .ok (.value (.slice (if c = i then p else p.map (·.add (i * 1))) (n - i) (c - i))) w := by
  unfold execOp
  rw [ho]
  have e1 := fun q => sl_bound (P := P) (k := k1) (c := q) hl w
  cases hq : P.info? E with
  | none => simp [hq] at hsz
  | some j =>
    have hs : j.size = 1 := by simpa [hq] using hsz
    simp [Instr.sliceAt, Instr.slice, Instr.sliceBounds, hx, h1, run_underlying hT, e1, Go.sizeOf, typeInfo, hq, hs]
theorem src_ns {K : List (Nat × Obj)} {U : TypeId} {p : Option Addr} {l : List Nat} {m c : Nat} (hU : P.underlying U = some (.slice E)) (h : NS W0 p l K) (hm : m = l.length) : ∀ w, KS W0 K w → Src P 1 U (.slice p m c) m (nums l) w := by
  intro w hw
  subst hm
  rcases h w hw with h0 | ⟨b, off, rfl, hlt, hc⟩
  · have hl : l = [] := by
      have := nums_len l; rw [h0] at this; exact List.eq_nil_of_length_eq_zero this.symm
    subst hl
    cases p with
    | none => exact Src.ofNil w hU c
    | some ad => exact Src.ofSlice w hU ad 0 c [] (by simp) (fun j u h => by simp at h) (fun u hu => by cases hu)
  · exact Src.ofSlice w hU ⟨b, off, none⟩ l.length c (nums l) (by simp [nums_len]) (fun j u hj => by rw [addr_add]; exact hc j u hj) (nums_one l)
theorem run_mk {o : Oper} {a : Act} {n : Nat} {x y : Operand} {b : Nat} (ho : o.op = .makeSlice T x y) (hT : P.underlying T = some (.slice E)) (hi : (P.info? E).map (fun i => (i.zero, i.size, i.bytes)) = some (some (.int .i64 0), 1, b)) (hb : b ≤ 10000)
    (hx : a.eval x = .int .i64 ((n : Nat) : Int)) (hy : a.eval y = .int .i64 ((n : Nat) : Int)) (hn : n ≤ 4000000000) (w : World) : (execOp a.eval o).run P w = .ok (.value (.slice (some ⟨w.heap.size, 0, none⟩) n n)) (w.alloc (.cells (nums (List.replicate n 0)).toArray E (0, 0))) := by
  unfold execOp
  rw [ho]
  have h1 : b * n ≤ 281474976710656 := Nat.le_trans (Nat.mul_le_mul hb hn) (by decide)
  have h2 := run_make_row' (P := P) T E (.int .i64 0) b hT hi rfl .i64 .i64 n h1 (by omega) w
  have h3 : madeCells #[.int .i64 0] n = (nums (List.replicate n 0)).toArray := by
    apply Array.ext'
    rw [toList_madeCells_one]
    simp [nums]
  rw [h3] at h2
  simp [hx, hy, h2]
end
def Ans (w : World) (l : List Nat) (e : Ending) (w' : World) : Prop := ∃ q d, e = .returned (.slice q l.length d) ∧ l.length ≤ d ∧ SLF w w' q (nums l) ∧ Below w.heap.size w w'
def AnsV (w : World) (l : List Nat) (e : Ending) (w' : World) : Prop := ∃ q d, e = .returned (.slice q l.length d) ∧ l.length ≤ d ∧ SLV w' q (nums l) ∧ Below w.heap.size w w'
def AnsG (W0 : Base) (K : List (Nat × Obj)) (l : List Nat) (v : Value) (K2 : List (Nat × Obj)) : Prop := ∃ q d T, v = .slice q l.length d ∧ l.length ≤ d ∧ NS W0 q l T ∧ (∀ W3, KS W0 T W3 → W0.B = W0.w.heap.size → SLF W0.w W3 q (nums l)) ∧ Dj K T ∧ K2 = K ++ T
def AnsW (W0 : Base) (K : List (Nat × Obj)) (l : List Nat) (v : Value) (K2 : List (Nat × Obj)) : Prop := ∃ q d T, v = .slice q l.length d ∧ l.length ≤ d ∧ NS W0 q l T ∧ K2 = K ++ T
def Ans2 (w : World) (l m : List Nat) (e : Ending) (w' : World) : Prop := ∃ q d q2 d2, e = .returned (.tuple #[.slice q l.length d, .slice q2 m.length d2]) ∧ l.length ≤ d ∧ m.length ≤ d2 ∧ SLV w' q (nums l) ∧ SLV w' q2 (nums m) ∧ Below w.heap.size w w'
def AnsW2 (W0 : Base) (K : List (Nat × Obj)) (l m : List Nat) (v : Value) (K2 : List (Nat × Obj)) : Prop := ∃ q d q2 d2 T, v = .tuple #[.slice q l.length d, .slice q2 m.length d2] ∧ l.length ≤ d ∧ m.length ≤ d2 ∧ NS W0 q l T ∧ NS W0 q2 m T ∧ K2 = K ++ T
section
variable {W0 : Base} {K : List (Nat × Obj)} {W w2 : World} {l m : List Nat} {e : Ending}
theorem Ans.v (h : Ans W l e w2) : AnsV W l e w2 := by
  obtain ⟨q, d, h1, h2, h3, h4⟩ := h
  exact ⟨q, d, h1, h2, h3.slv, h4⟩
theorem Ans.g (h : Ans W l e w2) (hW : KS W0 K W) : ∃ v K2, e = .returned v ∧ KS W0 K2 w2 ∧ AnsG W0 K l v K2 := by
  obtain ⟨q, d, h1, h2, h3, h4⟩ := h
  obtain ⟨T, a1, a2, a3, a4⟩ := ns_new hW h4 h3
  exact ⟨_, _, h1, a1, q, d, T, rfl, h2, a3, a4, a2, rfl⟩
theorem ns_of' {p : Option Addr} (hW : KS W0 K W) (hB : Below W.heap.size W w2) (hs : SLV w2 p (nums l)) : ∃ T, KS W0 (K ++ T) w2 ∧ NS W0 p l T := by
  have hK := hW.below hB
  rcases hs with h0 | ⟨b, off, rfl, hlt, hc⟩
  · exact ⟨[], by rw [List.append_nil]; exact hK, fun _ _ => .inl h0⟩
  · have hb : w2.heap[b]? = some (w2.heap[b]) := Array.getElem?_eq_getElem hlt
    refine ⟨[(b, w2.heap[b])], ⟨hK.1, fun q hq => ?_⟩, fun W3 hW3 => .inr ⟨b, off, rfl, ?_, fun i u hu => ?_⟩⟩
    · rcases List.mem_append.1 hq with h | h
      · exact hK.2 q h
      · cases List.mem_singleton.1 h; exact hb
    · have := hW3.2 _ (.head _); exact lt_of_block this
    · rw [cell_same (w2 := w2) (by rw [hW3.2 _ (.head _)]; exact hb.symm)]; exact hc i u hu
theorem AnsV.g (h : AnsV W l e w2) (hW : KS W0 K W) : ∃ v K2, e = .returned v ∧ KS W0 K2 w2 ∧ AnsW W0 K l v K2 := by
  obtain ⟨q, d, h1, h2, h3, h4⟩ := h
  obtain ⟨T, a1, a3⟩ := ns_of' hW h4 h3
  exact ⟨_, _, h1, a1, q, d, T, rfl, h2, a3, rfl⟩
theorem Ans2.g (h : Ans2 W l m e w2) (hW : KS W0 K W) : ∃ v K2, e = .returned v ∧ KS W0 K2 w2 ∧ AnsW2 W0 K l m v K2 := by
  obtain ⟨q, d, q2, d2, h1, h2, h3, h4, h5, h6⟩ := h
  obtain ⟨T, a1, a3⟩ := ns_of' hW h6 h4
  obtain ⟨U, b1, b3⟩ := ns_of' a1 (Below.refl _ _) h5
  refine ⟨_, _, h1, b1, q, d, q2, d2, T ++ U, rfl, h2, h3, a3.mono (fun q hq => List.mem_append_left _ hq), b3.mono (fun q hq => List.mem_append_right _ hq), by rw [List.append_assoc]⟩
theorem ns_blk {g : Nat} {E : TypeId} {fr : Nat × Nat} : NS W0 (some ⟨g, 0, none⟩) l [(g, .cells (nums l).toArray E fr)] := fun W hW => by
  have hb := hW.2 _ (.head _)
  refine .inr ⟨g, 0, rfl, lt_of_block hb, fun i u hu => ?_⟩
  rw [Nat.zero_add, cell_of_row W g i _ _ fr hb]
  simpa using hu
theorem own_snoc {E : TypeId} {v : Value} {n d : Nat} (h : OwnL W0 E 1 v n (nums l ++ [.int .i64 ((d : Nat) : Int)]) K) : OwnL W0 E 1 v n (nums (l ++ [d])) K := by
  rw [nums_app]; exact h
theorem own_snocZ {E : TypeId} {v : Value} {n : Nat} {z : Int} (h : OwnL W0 E 1 v n (nums l ++ [.int .i64 z]) K) (hz : 0 ≤ z) : OwnL W0 E 1 v n (nums (l ++ [z.toNat])) K := by
  rw [nums_app]
  have e : ((z.toNat : Nat) : Int) = z := Int.toNat_of_nonneg hz
  simp only [nums, List.map_cons, List.map_nil, e]
  exact h
theorem own_len {E : TypeId} {v : Value} {n : Nat} (h : OwnL W0 E 1 v n (nums l) K) : l.length = n := by rw [← nums_len]; exact own_ncap h
theorem ret_sl {p : Option Addr} {a b c : Nat} (h : a = b) : Ending.returned (.slice p a c) = Ending.returned (.slice p b c) := by rw [h]
end
section
variable {P : Program} {W0 : Base}
theorem st_to {o : Oper} {a : Act} {K K' : List (Nat × Obj)} {ty t : TypeId} {x y : Operand} {g off : Nat} {cs cs' : Array Value} {fr : Nat × Nat} {v : Value} (hc' : cs.setIfInBounds off v = cs') (ho : o.op = .store ty x y) (hx : a.eval x = .pointer (some ⟨g, off, none⟩)) (hv : a.eval y = v)
    (hm : (g, .cells cs t fr) ∈ K) (hB : W0.B ≤ g) (hi : (P.info? ty).map (·.size) = some 1) (hvc : v.cells = #[v]) (h1 : v.oneCell' = true) (hfit : off < cs.size) (hfr : cs.size ≤ fr.1 ∨ fr.2 = 0)
    (hK : ∀ p ∈ K', p = (g, .cells cs' t fr) ∨ (p ∈ K ∧ p.1 ≠ g)) : ∀ w, KS W0 K w → ∃ w', (execOp a.eval o).run P w = .ok .skip w' ∧ KS W0 K' w' := by
  subst hc'
  exact st_at ho hx hv hm hB hi hvc h1 hfit hfr hK
theorem st_all {o : Oper} {a : Act} {K K' : List (Nat × Obj)} {ty t : TypeId} {x y : Operand} {g : Nat} {cs cs' : Array Value} (hs : cs.size = cs'.size) (h1 : ∀ x ∈ cs'.toList, x.oneCell' = true) (ho : o.op = .store ty x y) (hx : a.eval x = .pointer (some ⟨g, 0, none⟩)) (hv : a.eval y = .agg cs')
    (hm : (g, .cells cs t (0, 0)) ∈ K) (hB : W0.B ≤ g) (hi : (P.info? ty).map (·.size) = some cs'.size)
    (hK : ∀ p ∈ K', p = (g, .cells cs' t (0, 0)) ∨ (p ∈ K ∧ p.1 ≠ g)) : ∀ w, KS W0 K w → ∃ w', (execOp a.eval o).run P w = .ok .skip w' ∧ KS W0 K' w' := by
  refine st_row ho hx hv hm hB hi (by show 0 + cs'.size ≤ cs.size; omega) h1 ?_ hK
  show cs' = (cs.toList.take 0 ++ cs'.toList ++ cs.toList.drop (0 + cs'.toList.length)).toArray
  rw [List.take_zero, List.nil_append, Nat.zero_add, List.drop_of_length_le (by simp; omega), List.append_nil]
theorem yb_all {o : Oper} {a : Act} {K : List (Nat × Obj)} {ty t : TypeId} {x : Operand} {g : Nat} {cur : Array Value} {fr : Nat × Nat} {d : TypeDesc} (ho : o.op = .load ty x) (hx : a.eval x = .pointer (some ⟨g, 0, none⟩))
    (hm : (g, .cells cur t fr) ∈ K) (hu : P.underlying ty = some d) (hd : aggD d = true) (hi : (P.info? ty).map (·.size) = some cur.size) :
    ∀ w, KS W0 K w → ∀ K' : Act → World → Prop, (∀ w', Below w.heap.size w w' → K' (a.put o.dst (.agg cur)) w') → Oper.wp P o a w K' (fun _ _ _ => False) :=
  yb_cells (cs := cur.toList) ho hx hm (fun j v hj => by rw [Nat.zero_add]; simpa using hj) hu hd (by simpa using hi)
theorem un_neg {k : IntKind} {x z : Int} (h : -x = z) (hw : k.wrap z = z) (w : World) : (Op.unary .neg (.int k x) : Sem Value).run P w = .ok (.int k z) w := by
  subst h
  simp [Op.unary, Op.intArith, Int.zero_sub, hw]
theorem run_minN {o : Oper} {a : Act} {x y : Nat} {px py : Operand} {k : IntKind} {tt : Array TypeId} (ho : o.op = .call { callee := .builtin .min, args := #[px, py], argTypes := tt }) (hx : a.eval px = .int k ((x : Nat) : Int)) (hy : a.eval py = .int k ((y : Nat) : Int)) (w : World) : (execOp a.eval o).run P w = .ok (.value (.int k ((min x y : Nat) : Int))) w := by
  unfold execOp
  rw [ho]
  have h := run_min_int2 (P := P) w tt o.type k k x y
  simp only [resolve, invoke, builtin, Sem.run_bind, Sem.run_pure, Result.andThen_ok, List.map_toArray, List.map_cons, List.map_nil, hx, hy, h]
  congr 2
  simp only [Nat.min_def]
  split <;> split <;> first | rfl | (exfalso; omega)
theorem nums_set (l : List Nat) (i x : Nat) : (nums l).toArray.setIfInBounds (0 + i * 1) (.int .i64 ((x : Nat) : Int)) = (nums (l.set i x)).toArray := by
  rw [Nat.zero_add, Nat.mul_one, List.setIfInBounds_toArray]
  simp [nums, List.map_set]
end
end Tw
/- Which columns have which cover; how often a column is met: plain facts. -/
namespace Go.Proofs.Ytldhjhjomokkgaa
open Go Go.RowKit Tw
section
variable {cs : List Col} {os : List Cov}
theorem keys_uni : ∀ {ov : List (Int × List Int)} {a b : Nat} {o1 o2 : Int × List Int} {r : Int}, (keysO ov).Nodup → ov[a]? = some o1 → ov[b]? = some o2 → r ∈ o1.2 → r ∈ o2.2 → o1.1 = o2.1 → a = b
  | [], _, _, _, _, _, _, h, _, _, _, _ => by simp at h
  | o :: ov, a, b, o1, o2, r, hn, h1, h2, r1, r2, e => by
    have hk : keysO (o :: ov) = (o.2.map fun r => (o.1, r)) ++ keysO ov := rfl
    rw [hk] at hn
    obtain ⟨n1, n2, n3⟩ := List.nodup_append.1 hn
    have hin : ∀ {j : Nat} {x : Int × List Int}, ov[j]? = some x → ∀ {r : Int}, r ∈ x.2 → (x.1, r) ∈ keysO ov := fun {j x} hx {r} hr => List.mem_flatMap.2 ⟨x, List.mem_of_getElem? hx, List.mem_map.2 ⟨r, hr, rfl⟩⟩
    cases a with
    | zero =>
      cases b with
      | zero => rfl
      | succ b =>
        simp at h1 h2
        subst h1
        exact absurd (by rw [e]) (n3 (o.1, r) (List.mem_map.2 ⟨r, r1, rfl⟩) (o2.1, r) (hin h2 r2))
    | succ a =>
      cases b with
      | zero =>
        simp at h1 h2
        subst h2
        exact absurd (by rw [e]) (n3 (o.1, r) (List.mem_map.2 ⟨r, r2, rfl⟩) (o1.1, r) (hin h1 r1))
      | succ b =>
        simp at h1 h2
        rw [keys_uni n2 h1 h2 r1 r2 e]
theorem bel_uni (ho : GoodO (os.map fun o => (o.bay, o.rows))) {a b : Nat} {o1 o2 : Cov} {y : Col} (h1 : os[a]? = some o1) (h2 : os[b]? = some o2) (b1 : belX y o1 = true) (b2 : belX y o2 = true) : a = b := by
  unfold belX hasN at b1 b2
  simp only [Bool.and_eq_true, decide_eq_true_eq] at b1 b2
  exact keys_uni (goodO_in ho).2.1 (o1 := (o1.bay, o1.rows)) (o2 := (o2.bay, o2.rows)) (by rw [List.getElem?_map, h1]; rfl) (by rw [List.getElem?_map, h2]; rfl) b1.2 b2.2 (b1.1.trans b2.1.symm)
theorem cov_is {j : Nat} {y : Col} (hy : cs[j]? = some y) : covOf cs os ((j : Nat) : Int) = fst (belX y) os := by
  obtain ⟨h1, h2⟩ := el_nat (d := col0) hy
  unfold covOf
  rw [h1, h2]; rfl
theorem cov_at (ho : GoodO (os.map fun o => (o.bay, o.rows))) {j k : Nat} {y : Col} {o : Cov} (hy : cs[j]? = some y) (hk : os[k]? = some o) : covOf cs os ((j : Nat) : Int) = some k ↔ belX y o = true := by
  rw [cov_is hy]
  constructor
  · intro h
    obtain ⟨x, h1, h2, _⟩ := fst_some h
    rw [hk] at h1; cases h1; exact h2
  · intro h
    refine fst_is hk h fun i z hi hz => ?_
    cases e : belX y z with
    | false => rfl
    | true => have := bel_uni ho hz hk e h; omega
theorem al_is {k : Nat} {o : Cov} {deck : Bool} (hk : os[k]? = some o) : alongX cs os ((k : Nat) : Int) deck = idx (partOf deck o) cs := by
  obtain ⟨h1, h2⟩ := el_nat (d := cov0) hk
  unfold alongX
  rw [h1, h2]; rfl
theorem al_mem {k j : Nat} {o : Cov} {y : Col} {deck : Bool} (hk : os[k]? = some o) (hy : cs[j]? = some y) : ((j : Nat) : Int) ∈ alongX cs os ((k : Nat) : Int) deck ↔ y.deck = deck ∧ belX y o = true := by
  rw [al_is hk, idx_mem]
  unfold partOf
  constructor
  · rintro ⟨i, z, h1, h2, h3⟩
    have : i = j := by omega
    subst this
    rw [hy] at h2; cases h2
    simpa using h3
  · rintro ⟨h1, h2⟩
    exact ⟨j, y, rfl, hy, by simp [h1, h2]⟩
theorem al_at (ho : GoodO (os.map fun o => (o.bay, o.rows))) {k m : Nat} {o : Cov} {deck : Bool} {x : Int} (hk : os[k]? = some o) (hx : (alongX cs os ((k : Nat) : Int) deck)[m]? = some x) :
    ∃ (j : Nat) (y : Col), x = ((j : Nat) : Int) ∧ j < cs.length ∧ cs[j]? = some y ∧ y.deck = deck ∧ y.bay = o.bay ∧ covOf cs os ((j : Nat) : Int) = some k ∧ x ∉ (alongX cs os ((k : Nat) : Int) deck).take m := by
  have hpw : (alongX cs os ((k : Nat) : Int) deck).Pairwise (· < ·) := by rw [al_is hk]; exact idxF_pw
  have hm := List.mem_of_getElem? hx
  obtain ⟨hml, hmx⟩ := List.getElem?_eq_some_iff.1 hx
  have hnot : x ∉ (alongX cs os ((k : Nat) : Int) deck).take m := by
    intro hin
    obtain ⟨i, hi⟩ := List.mem_iff_getElem?.1 hin
    rw [List.getElem?_take] at hi
    split at hi
    · rename_i him
      obtain ⟨hil, hix⟩ := List.getElem?_eq_some_iff.1 hi
      have := (List.pairwise_iff_getElem.1 hpw) i m hil hml him
      omega
    · cases hi
  rw [al_is hk, idx_mem] at hm
  obtain ⟨j, y, rfl, hy, hp⟩ := hm
  have hp2 : y.deck = deck ∧ belX y o = true := by simpa [partOf] using hp
  refine ⟨j, y, rfl, (List.getElem?_eq_some_iff.1 hy).1, hy, hp2.1, ?_, (cov_at ho hy hk).2 hp2.2, hnot⟩
  have := hp2.2
  unfold belX at this
  simp only [Bool.and_eq_true, decide_eq_true_eq] at this
  exact this.1.symm
-- what has been met
def baseN (cs : List Col) (os : List Cov) (k c : Nat) : Nat := match covOf cs os ((c : Nat) : Int) with
  | some j => if j < k then 1 else 0
  | none => 0
def inN (L : List Int) (m c : Nat) : Nat := if ((c : Nat) : Int) ∈ L.take m then 1 else 0
def MetI (n : Nat) (f : Nat → Nat) (sl : List Nat) : Prop := sl.length = n ∧ ∀ c x, sl[c]? = some x → x = f c
theorem base_le (k c : Nat) : baseN cs os k c ≤ 1 := by
  unfold baseN
  split
  · split <;> omega
  · omega
theorem inN_le (L : List Int) (m c : Nat) : inN L m c ≤ 1 := by unfold inN; split <;> omega
section
variable {n m k j x : Nat} {f : Nat → Nat} {sl : List Nat} {L : List Int}
theorem met_0 : MetI n (baseN cs os 0) (List.replicate n 0) := by
  refine ⟨List.length_replicate, fun c x h => ?_⟩
  rw [List.getElem?_replicate] at h
  split at h
  · cases h
    unfold baseN
    split
    · rw [if_neg (by omega)]
    · rfl
  · cases h
theorem met_start (L : List Int) (h : MetI n f sl) : MetI n (fun c => f c + inN L 0 c) sl := ⟨h.1, fun c x hx => by have := h.2 c x hx; simp [inN, this]⟩
theorem met_step (h : MetI n (fun c => f c + inN L m c) sl) (hx : L[m]? = some ((j : Nat) : Int)) (hn : ((j : Nat) : Int) ∉ L.take m) (hs : sl[j]? = some x) : MetI n (fun c => f c + inN L (m + 1) c) (sl.set j (x + 1)) := by
  obtain ⟨hm, hmx⟩ := List.getElem?_eq_some_iff.1 hx
  have hj := (List.getElem?_eq_some_iff.1 hs).1
  refine ⟨by rw [List.length_set]; exact h.1, fun c y hy => ?_⟩
  have e : inN L (m + 1) c = if c = j then 1 else inN L m c := by
    unfold inN
    rw [List.take_succ_eq_append_getElem hm, hmx]
    simp only [List.mem_append, List.mem_singleton]
    by_cases hc : c = j
    · subst hc; simp
    · have : ¬ ((c : Nat) : Int) = ((j : Nat) : Int) := by omega
      simp [hc, this]
  rw [List.getElem?_set] at hy
  split at hy
  · rename_i hc
    subst hc
    have h1 := h.2 _ _ hs
    have h2 : inN L m j = 0 := by unfold inN; rw [if_neg hn]
    try rw [if_pos hj] at hy
    cases hy
    show x + 1 = f j + inN L (m + 1) j
    rw [e, if_pos rfl]
    have h1 : x = f j + inN L m j := h1
    omega
  · rename_i hc
    have h1 : y = f c + inN L m c := h.2 _ _ hy
    show y = f c + inN L (m + 1) c
    rw [e, if_neg (fun e => hc e.symm)]; exact h1
theorem met_end (hm : ¬ m < L.length) (h : MetI n (fun c => f c + inN L m c) sl) : MetI n (fun c => f c + inN L L.length c) sl := ⟨h.1, fun c x hx => by
  have := h.2 c x hx
  have e : inN L m c = inN L L.length c := by unfold inN; rw [List.take_of_length_le (by omega), List.take_length]
  rw [this]
  show f c + inN L m c = f c + inN L L.length c
  rw [e]⟩
theorem met_next {o : Cov} (ho : GoodO (os.map fun o => (o.bay, o.rows))) (hk : os[k]? = some o) (h : MetI cs.length (fun c => baseN cs os k c + inN (alongX cs os ((k : Nat) : Int) false) (alongX cs os ((k : Nat) : Int) false).length c + inN (alongX cs os ((k : Nat) : Int) true) (alongX cs os ((k : Nat) : Int) true).length c) sl) : MetI cs.length (baseN cs os (k + 1)) sl := ⟨h.1, fun c x hx => by
  have hc : c < cs.length := by rw [← h.1]; exact (List.getElem?_eq_some_iff.1 hx).1
  have hy : cs[c]? = some cs[c] := List.getElem?_eq_getElem hc
  have e : x = _ := h.2 c x hx
  rw [e]
  have hcov := cov_at (cs := cs) ho hy hk
  have hU := al_mem (deck := false) hk hy
  have hV := al_mem (deck := true) hk hy
  show baseN cs os k c + inN _ _ c + inN _ _ c = baseN cs os (k + 1) c
  unfold inN
  rw [List.take_length, List.take_length]
  by_cases hb : belX cs[c] o = true
  · have e1 := hcov.2 hb
    unfold baseN
    rw [e1]
    simp only [Nat.lt_irrefl, if_false, Nat.lt_succ_self, if_true]
    cases hd : cs[c].deck with
    | false => rw [if_pos (hU.2 ⟨hd, hb⟩), if_neg (fun h => by have := (hV.1 h).1; rw [hd] at this; cases this)]
    | true => rw [if_neg (fun h => by have := (hU.1 h).1; rw [hd] at this; cases this), if_pos (hV.2 ⟨hd, hb⟩)]
  · rw [if_neg (fun h => hb (hU.1 h).2), if_neg (fun h => hb (hV.1 h).2)]
    have e1 : covOf cs os ((c : Nat) : Int) ≠ some k := fun e => hb (hcov.1 e)
    unfold baseN
    cases hcv : covOf cs os ((c : Nat) : Int) with
    | none => rfl
    | some j =>
      have : j ≠ k := fun e => e1 (by rw [hcv, e])
      simp only
      by_cases hjk : j < k
      · rw [if_pos hjk, if_pos (by omega)]
      · rw [if_neg hjk, if_neg (by omega)]⟩
theorem met_fin (h : MetI cs.length (baseN cs os os.length) sl) {c : Nat} (hx : sl[c]? = some x) : x ≤ 1 ∧ (x = 0 ↔ fiN (covOf cs os ((c : Nat) : Int)) = -1) := by
  have hc : c < cs.length := by rw [← h.1]; exact (List.getElem?_eq_some_iff.1 hx).1
  have hy : cs[c]? = some cs[c] := List.getElem?_eq_getElem hc
  have e := h.2 c x hx
  rw [e]
  refine ⟨base_le _ _, ?_⟩
  unfold baseN
  cases hcv : covOf cs os ((c : Nat) : Int) with
  | none => simp [fiN]
  | some j =>
    rw [cov_is hy] at hcv
    obtain ⟨o, h1, _, _⟩ := fst_some hcv
    have hj := (List.getElem?_eq_some_iff.1 h1).1
    simp only [fiN, if_pos hj]
    constructor
    · intro h; omega
    · intro h; omega
end
end
end Go.Proofs.Ytldhjhjomokkgaa
