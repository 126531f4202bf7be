import Derived.Test.YtldhjhjomokkgaaG03
/- ShipLess: the law holds for every input; no condition but the row's own. -/
set_option linter.unusedVariables false
set_option linter.unusedSimpArgs false
set_option linter.unusedSectionVars false
/- Without a column, without a cover: plain facts; slices from a place on. -/
namespace Go.Proofs.Ytldhjhjomokkgaa
open Go Go.RowKit Tw
theorem own_rnone {α : Type} {cells : α → List Value} {sz : Nat} {W0 : Base} {E : TypeId} {g : Nat} (hB : W0.B ≤ g) : OwnL W0 E sz (.slice (some ⟨g, 0, none⟩) 0 0) 0 (([] : List α).flatMap cells) [(g, .cells #[] E (0, 0))] :=
  .inr ⟨g, 0, _, rfl, hB, ⟨by simp, by unfold maxLen; omega, Nat.le_refl _, by simp, by simp⟩, rfl⟩
theorem run_sll {P : Program} {T E : TypeId} {o : Oper} {a : Act} {p : Option Addr} {n c i sz : Nat} {x y : Operand} {k1 : IntKind} (ho : o.op = .slice T x (some y) none none) (hT : P.underlying T = some (.slice E)) (hsz : (P.info? E).map (·.size) = some sz) (hx : a.eval x = .slice p n c) (hy : a.eval y = .int k1 ((i : Nat) : Int)) (hi : i ≤ n) (hn : n ≤ c) (w : World) : (execOp a.eval o).run P w = .ok (.value (.slice (cutQ p c i sz) (n - i) (c - i))) w := by
  have e1 := fun q => sl_bound (P := P) (k := k1) (c := q) hi w
  have e2 := fun q => sl_bound (P := P) (k := .i64) (c := q) hn w
  unfold execOp cutQ
  cases hq : P.info? E with
  | none => simp [hq] at hsz
  | some q =>
    have hs : q.size = sz := by simpa [hq] using hsz
    simp [ho, hx, hy, Instr.sliceAt, Instr.slice, Instr.sliceBounds, run_underlying hT, e1, e2, Go.sizeOf, typeInfo, hq, hs]
-- without an element
section
variable {α : Type} {l : List α} {k : Nat} {x : α}
theorem er_sub (l : List α) (k : Nat) : (l.take k ++ l.drop (k + 1)).Sublist l := by
  rw [← List.eraseIdx_eq_take_drop_succ]; exact List.eraseIdx_sublist ..
theorem er_len (h : k < l.length) : (l.take k ++ l.drop (k + 1)).length = l.length - 1 := by
  rw [List.length_append, List.length_take, List.length_drop]; omega
theorem er_split (h : l[k]? = some x) : l = l.take k ++ x :: l.drop (k + 1) := by
  obtain ⟨hk, rfl⟩ := List.getElem?_eq_some_iff.1 h
  conv => lhs; rw [← List.take_append_drop k l, List.drop_eq_getElem_cons hk]
end
def sumT : List Col → Int
  | [] => 0
  | c :: cs => c.tiers + sumT cs
theorem sumT_app (a b : List Col) : sumT (a ++ b) = sumT a + sumT b := by
  induction a with
  | nil => simp [sumT]
  | cons c a ih => simp only [List.cons_append, sumT, ih]; omega
theorem tiers_sum {cs : List Col} : ∀ {m : Int}, (∀ c ∈ cs, 1 ≤ c.tiers ∧ c.tiers ≤ 10) → 0 ≤ m → m + 10 * ((cs.length : Nat) : Int) ≤ 1000000 → tiersF m cs = m + sumT cs ∧ 0 ≤ sumT cs ∧ sumT cs ≤ 10 * ((cs.length : Nat) : Int) := by
  induction cs with
  | nil => intro m _ _ _; exact ⟨by simp [tiersF, sumT], by simp [sumT], by simp [sumT]⟩
  | cons c cs ih =>
    intro m h h0 h1
    have hc := h c (.head _)
    rw [List.length_cons] at h1 ⊢
    have e : IntKind.i64.wrap (m + c.tiers) = m + c.tiers := wi_i64 (by omega)
    obtain ⟨i1, i2, i3⟩ := ih (m := m + c.tiers) (fun x hx => h x (.tail _ hx)) (by omega) (by omega)
    refine ⟨?_, ?_, ?_⟩
    · show tiersF (IntKind.i64.wrap (m + c.tiers)) cs = _
      rw [e, i1]; simp only [sumT]; omega
    · simp only [sumT]; omega
    · simp only [sumT]; omega
section
variable {cs : List Col}
theorem good_tiers (h : Good cs) : ∀ c ∈ cs, 1 ≤ c.tiers ∧ c.tiers ≤ 10 := fun c hc => by
  have := colx_in (h.1 c hc).1; omega
theorem places_is (h : Good cs) (h2 : cs.length ≤ 12) : placesX cs = 2 * sumT cs ∧ 0 ≤ sumT cs ∧ sumT cs ≤ 120 := by
  obtain ⟨h3, h4, h5⟩ := tiers_sum (m := 0) (good_tiers h) (by omega) (by omega)
  refine ⟨?_, h4, by omega⟩
  unfold placesX
  rw [h3, Int.zero_add]
  exact wi_i64 (by omega)
theorem less_good (h : Good cs) (k : Nat) : Good (cs.take k ++ cs.drop (k + 1)) := good_sub h (er_sub cs k)
theorem less_places (h : Good cs) (h2 : cs.length ≤ 12) {k : Nat} {c : Col} (hc : cs[k]? = some c) : placesX (cs.take k ++ cs.drop (k + 1)) = placesX cs - 2 * c.tiers := by
  have hk := (List.getElem?_eq_some_iff.1 hc).1
  obtain ⟨e1, _, _⟩ := places_is h h2
  obtain ⟨e2, _, _⟩ := places_is (less_good h k) (by rw [er_len hk]; omega)
  have e3 : sumT cs = sumT (cs.take k) + (c.tiers + sumT (cs.drop (k + 1))) := by
    conv => lhs; rw [er_split hc, sumT_app]
    rfl
  rw [e1, e2, sumT_app]; omega
theorem tallF_ge : ∀ (cs : List Col) (m : Int), m ≤ tallF m cs ∧ ∀ c ∈ cs, c.tiers ≤ tallF m cs
  | [], m => ⟨Int.le_refl _, fun _ h => by cases h⟩
  | c :: cs, m => by
    obtain ⟨h1, h2⟩ := tallF_ge cs (max m c.tiers)
    refine ⟨by show m ≤ tallF (max m c.tiers) cs; omega, fun x hx => ?_⟩
    show x.tiers ≤ tallF (max m c.tiers) cs
    rcases List.mem_cons.1 hx with rfl | hx
    · omega
    · exact h2 x hx
theorem tallF_in : ∀ (cs : List Col) (m : Int), tallF m cs = m ∨ ∃ c ∈ cs, tallF m cs = c.tiers
  | [], m => .inl rfl
  | c :: cs, m => by
    rcases tallF_in cs (max m c.tiers) with h | ⟨x, hx, h⟩
    · rcases Int.le_total m c.tiers with hm | hm
      · exact .inr ⟨c, .head _, by show tallF (max m c.tiers) cs = _; rw [h]; omega⟩
      · exact .inl (by show tallF (max m c.tiers) cs = _; rw [h]; omega)
    · exact .inr ⟨x, .tail _ hx, h⟩
theorem tall_ge {c : Col} (hc : c ∈ cs) : c.tiers ≤ tallX cs := by
  cases cs with
  | nil => cases hc
  | cons d cs =>
    obtain ⟨h1, h2⟩ := tallF_ge cs d.tiers
    rcases List.mem_cons.1 hc with rfl | hc
    · exact h1
    · exact h2 c hc
theorem tall_in : cs = [] ∨ ∃ c ∈ cs, tallX cs = c.tiers := by
  cases cs with
  | nil => exact .inl rfl
  | cons d cs =>
    rcases tallF_in cs d.tiers with h | ⟨x, hx, h⟩
    · exact .inr ⟨d, .head _, h⟩
    · exact .inr ⟨x, .tail _ hx, h⟩
theorem less_tall (h : Good cs) (h0 : 0 < cs.length) (k : Nat) : tallX (cs.take k ++ cs.drop (k + 1)) ≤ tallX cs := by
  rcases tall_in (cs := cs.take k ++ cs.drop (k + 1)) with e | ⟨c, hc, e⟩
  · rw [e]
    have hm : cs[0] ∈ cs := List.getElem_mem h0
    have h1 := tall_ge hm
    have h2 := good_tiers h _ hm
    show (0 : Int) ≤ _
    omega
  · rw [e]; exact tall_ge ((er_sub cs k).subset hc)
theorem less_right (h : Good cs) (h2 : cs.length ≤ 12) {k : Nat} (hk : k < cs.length) {os : List Cov} (ho : GoodO (os.map fun o => (o.bay, o.rows))) : rightX (cs.take k ++ cs.drop (k + 1)) os = decide (1 < cs.length) := by
  have hl := er_len hk
  by_cases h1 : 1 < cs.length
  · rw [decide_eq_true h1]
    exact good_right (less_good h k) (by omega) (by omega) ho
  · rw [decide_eq_false h1]
    have e : cs.take k ++ cs.drop (k + 1) = [] := List.eq_nil_of_length_eq_zero (by omega)
    rw [e]; rfl
theorem find_at (h : Good cs) {i : Nat} {c : Col} (hc : cs[i]? = some c) : fst (isAt c.bay c.row c.deck) cs = some i :=
  fst_is hc (isAt_place.2 rfl) fun j y hj hy => by
    cases e : isAt c.bay c.row c.deck y with
    | false => rfl
    | true =>
      have := good_inj h hy hc (isAt_place.1 e)
      omega
theorem less_find (h : Good cs) {i k : Nat} {c : Col} (hc : cs[i]? = some c) (hk : k < cs.length) : (fst (isAt c.bay c.row c.deck) (cs.take k ++ cs.drop (k + 1))).isSome = !decide (i = k) := by
  have hi := (List.getElem?_eq_some_iff.1 hc).1
  by_cases e : i = k
  · subst e
    rw [decide_eq_true rfl]
    have : fst (isAt c.bay c.row c.deck) (cs.take i ++ cs.drop (i + 1)) = none := fst_mem_none fun x hx => by
      cases e : isAt c.bay c.row c.deck x with
      | false => rfl
      | true =>
        exfalso
        have hp : placeX x = placeX c := isAt_place.1 e
        have hn := h.2
        rw [er_split hc, List.map_append, List.map_cons] at hn
        obtain ⟨_, n2, n3⟩ := List.nodup_append.1 hn
        rw [List.nodup_cons] at n2
        rcases List.mem_append.1 hx with hx | hx
        · exact n3 _ (List.mem_map.2 ⟨x, hx, rfl⟩) _ (.head _) hp
        · exact n2.1 (List.mem_map.2 ⟨x, hx, hp⟩)
    rw [this]; rfl
  · rw [decide_eq_false e]
    have hm : c ∈ cs.take k ++ cs.drop (k + 1) := by
      rw [List.mem_append]
      rcases Nat.lt_or_gt_of_ne e with e | e
      · left
        exact List.mem_of_getElem? (i := i) (by rw [List.getElem?_take, if_pos e]; exact hc)
      · right
        exact List.mem_of_getElem? (i := i - (k + 1)) (by rw [List.getElem?_drop, show k + 1 + (i - (k + 1)) = i from by omega]; exact hc)
    cases hf : fst (isAt c.bay c.row c.deck) (cs.take k ++ cs.drop (k + 1)) with
    | some j => rfl
    | none => have := fst_none hf c hm; rw [isAt_place.2 rfl] at this; cases this
end
theorem rw_sub {W : World} {os l : List Cov} (h : RwR W os) (hs : l.Sublist os) : RwR W l := fun o ho => h o (hs.subset ho)
theorem open_good {os : List Cov} (h : GoodO (os.map fun o => (o.bay, o.rows))) (k : Nat) : GoodO ((os.take k ++ os.drop (k + 1)).map fun o => (o.bay, o.rows)) := ((er_sub os k).map _).trans h
end Go.Proofs.Ytldhjhjomokkgaa
namespace Go.Proofs.Ytldhjhjomokkgaa
open Go Go.RowKit Tw
set_option maxRecDepth 100000 in
set_option maxHeartbeats 4000000 in
theorem ShipLess_law (l : List Pl) (p : Option Addr) (c : Nat) (n : Nat) (hl : l.length ≤ 9223372036854775807) (hcap : l.length ≤ c) (hok : ∀ y ∈ l, plOk y) (hn : n ≤ 4294967295) (a : Nat) (ha : a ≤ 255) (w : World) (hp : SLV w p (l.flatMap plC)) : Calls Try.prog 7 #[.slice p l.length c, .int .u32 ((n : Nat) : Int), .int .u8 ((a : Nat) : Int)] w fun e w' => e = .returned (.bool true) ∧ Below w.heap.size w w' := by
  have HP := Lib.hid hp
  clear hp
  obtain ⟨cs, hcs⟩ : ∃ cs, builtC l = cs := ⟨_, rfl⟩
  have hg : Good cs := hcs ▸ built_good l
  obtain ⟨h0, h12⟩ : 0 < cs.length ∧ cs.length ≤ 12 := hcs ▸ built_len l
  obtain ⟨k, hk⟩ : ∃ k, a % cs.length = k := ⟨_, rfl⟩
  have hkl : k < cs.length := by rw [← hk]; exact Nat.mod_lt _ h0
  obtain ⟨ck, hck, hxk⟩ := good_at hg hkl
  have hzk := colx_in hxk
  obtain ⟨L, hL⟩ : ∃ L, ((cs.take k) ++ (cs.drop (k + 1))) = L := ⟨_, rfl⟩
  have hgL : Good L := hL ▸ less_good hg k
  have hLl : L.length = cs.length - 1 := hL ▸ er_len hkl
  have hLp : placesX L = placesX cs - 2 * ck.tiers := hL ▸ less_places hg h12 hck
  have hLt : tallX L ≤ tallX cs := hL ▸ less_tall hg h0 k
  obtain ⟨hP1, hP2, hP3⟩ := places_is hg h12
  go_enter Try.func7, Try.ntmps7
  refine wp_seq ?_
  refine wp_region_L (W0 := w) [] (KS.start w) ?_
  refine lm (v := .bool false) rfl rfl ?_
  refine wpL_done (fun W1 hW1 => ?_)
  refine (show Code.wp _ _ _ _ _ from ?_)
  refine wp_seq ?_
  refine wp_region_L (W0 := w) [] (hW1) ?_
  refine lm (v := .slice p l.length c) rfl rfl ?_
  refine lm (v := .int .u32 ((n : Nat) : Int)) rfl rfl ?_
  refine wpL_c (f := 31) (args := #[.slice p l.length c, .int .u32 ((n : Nat) : Int)]) (ShipT w cs (builtO n)) rfl (by kernel_rfl) (fun _ => (by kernel_rfl)) (fun W hW => (by have h9 := Built_any l p c n hl hcap hok hn (RL.base HP.out) W hW; rw [hcs] at h9; exact h9)) (fun _ => by simp only [List.setIfInBounds_toArray, List.set_cons_succ, List.set_cons_zero] <;> rfl) ?_
  rintro _ TS ⟨pcS, ccS, osS, poS, coS, rfl, hccS, hcoS, hCS, hOS, hRS, hMS⟩
  refine wpL_rebase fun WB hWB => ?_
  have HCS := Lib.hid (hCS WB hWB)
  have HOS := Lib.hid (hOS WB hWB)
  have HRS := Lib.hid (hRS WB hWB)
  clear hCS hOS hRS
  have hoS : GoodO (osS.map fun o => (o.bay, o.rows)) := by rw [hMS]; exact builtO_sub n
  have lrS := goodO_rows hoS
  have HPS := Lib.hid ((good_plugs hg).1 WB)
  have lpS := (good_plugs hg).2
  have loS : osS.length ≤ 10 := by have h8 := congrArg List.length hMS; rw [List.length_map] at h8; have h9 := builtO_len n; omega
  refine wpL_new (fun g => .pointer (some ⟨g, 0, none⟩)) (obi := .cells (shC (.slice none 0 0) (.slice none 0 0) tl0).toArray 32 (0, 0)) rfl rfl (fun _ => by kernel_rfl) (fun _ => by simp only [List.setIfInBounds_toArray, List.set_cons_succ, List.set_cons_zero] <;> rfl) fun g1 Bg1 Fg1 => ?_
  refine wpL_s [(g1, .cells (shC (.slice pcS cs.length ccS) (.slice poS osS.length coS) tl0).toArray 32 (0, 0))] rfl rfl (st_row (off := 0) (v := .agg (shC (.slice pcS cs.length ccS) (.slice poS osS.length coS) tl0).toArray) rfl (by kernel_rfl) (by kernel_rfl) (.head _) Bg1 (by kernel_rfl) (by first | (simp [Value.cells]; done) | exact Nat.le_of_ble_eq_true rfl) (fun v hv => shC_one v hv) (by kernel_rfl) (List.forall_mem_cons.2 ⟨.inl rfl, (List.forall_mem_nil _)⟩)) ?_
  refine wpL_done (fun W2 hW2 => ?_)
  refine (show Code.wp _ _ _ _ _ from ?_)
  refine wp_seq ?_
  have hbZ := hWB.1.trans (hW2.1.mono hWB.1.size)
  have HCZ := Lib.hid (HCS.out.keep hW2.1)
  have HOZ := Lib.hid (HOS.out.keep hW2.1)
  have HRZ := Lib.hid (HRS.out.keep hW2.1)
  have HGZ := Lib.hid (CapR.of (cs := (shC (.slice pcS cs.length ccS) (.slice poS osS.length coS) tl0)) hW2 (.head _))
  clear HCS HOS HRS HPS
  refine wp_region_L (W0 := W2) [] ((KS.start W2)) ?_
  refine lm (v := .int .u8 ((a : Nat) : Int)) rfl rfl ?_
  refine lp (v := .int .i64 ((a : Nat) : Int)) rfl rfl (run_conv rfl (vx := (.int .u8 ((a : Nat) : Int))) (by kernel_rfl) fun w => cv_int Try.underlying5 Try.underlying3 (wr_i64 (by omega)) w) ?_
  refine lm (v := .pointer (some ⟨g1, 0, none⟩)) rfl rfl ?_
  refine lv (v := .slice pcS cs.length ccS) rfl rfl (yb_rf (v := .slice pcS cs.length ccS) rfl (by kernel_rfl) (fun W hW => ((HGZ.out).keep hW.1).2 0 _ rfl) Try.underlying22 rfl) ?_
  refine lp (v := .int .i64 ((cs.length : Nat) : Int)) rfl rfl (run_lenL (p := pcS) (cap := ccS) (n := cs.length) rfl Try.underlying22 (by kernel_rfl)) ?_
  refine lp (v := .int .i64 ((k : Nat) : Int)) rfl rfl (run_bin rfl (vx := (.int .i64 ((a : Nat) : Int))) (vy := (.int .i64 ((cs.length : Nat) : Int))) (by kernel_rfl) (by kernel_rfl) fun w => bn_rem (z := k) hk (by omega) w) ?_
  refine lm (v := .int .i64 ((k : Nat) : Int)) rfl rfl ?_
  refine wpL_done (fun W3 hW3 => ?_)
  refine (show Code.wp _ _ _ _ _ from ?_)
  refine wp_seq ?_
  refine wp_region_L (W0 := W2) [] (hW3) ?_
  refine lv (v := .agg (shC (.slice pcS cs.length ccS) (.slice poS osS.length coS) tl0).toArray) rfl rfl (yb_rs (off := 0) (cs := _) rfl (by kernel_rfl) (fun W hW => ((HGZ.out).keep hW.1).2) Try.underlying32 rfl (by kernel_rfl)) ?_
  refine wpL_new (fun g => .pointer (some ⟨g, 0, none⟩)) (obi := .cells (shC (.slice none 0 0) (.slice none 0 0) tl0).toArray 32 (0, 0)) rfl rfl (fun _ => by kernel_rfl) (fun _ => by simp only [List.setIfInBounds_toArray, List.set_cons_succ, List.set_cons_zero] <;> rfl) fun g2 Bg2 Fg2 => ?_
  refine wpL_s [(g2, .cells (shC (.slice pcS cs.length ccS) (.slice poS osS.length coS) tl0).toArray 32 (0, 0))] rfl rfl (st_row (off := 0) (v := .agg (shC (.slice pcS cs.length ccS) (.slice poS osS.length coS) tl0).toArray) rfl (by kernel_rfl) (by kernel_rfl) (.head _) Bg2 (by kernel_rfl) (by first | (simp [Value.cells]; done) | exact Nat.le_of_ble_eq_true rfl) (fun v hv => shC_one v hv) (by kernel_rfl) (List.forall_mem_cons.2 ⟨.inl rfl, (List.forall_mem_nil _)⟩)) ?_
  refine wpL_done (fun W4 hW4 => ?_)
  refine (show Code.wp _ _ _ _ _ from ?_)
  refine wp_seq ?_
  refine wp_region_V (W0 := W2) [(g2, .cells (shC (.slice pcS cs.length ccS) (.slice poS osS.length coS) tl0).toArray 32 (0, 0))] (by kernel_rfl) (hW4) ?_
  refine vm (i := 1) (v := .pointer (some ⟨g1, 0, none⟩)) rfl rfl rfl ?_
  refine vb (i := 2) (v := .slice pcS cs.length ccS) rfl rfl rfl (yb_rf (v := .slice pcS cs.length ccS) rfl (by kernel_rfl) (fun W hW => ((HGZ.out).keep hW.1).2 0 _ rfl) Try.underlying22 rfl) ?_
  refine vm (i := 3) (v := .int .i64 ((k : Nat) : Int)) rfl rfl rfl ?_
  refine vp (i := 4) (v := .slice pcS k ccS) rfl rfl rfl (run_slt (kd := .i64) (j := k) (n := cs.length) (c := ccS) (sz := 12) rfl Try.underlying22 (by kernel_rfl) (by kernel_rfl) (by kernel_rfl) (by omega)) ?_
  refine vm (i := 6) (v := .pointer (some ⟨g1, 0, none⟩)) rfl rfl rfl ?_
  refine vb (i := 7) (v := .slice pcS cs.length ccS) rfl rfl rfl (yb_rf (v := .slice pcS cs.length ccS) rfl (by kernel_rfl) (fun W hW => ((HGZ.out).keep hW.1).2 0 _ rfl) Try.underlying22 rfl) ?_
  refine vm (i := 8) (v := .int .i64 ((k : Nat) : Int)) rfl rfl rfl ?_
  refine vp (i := 9) (v := .int .i64 (((k + 1) : Nat) : Int)) rfl rfl rfl (run_bin rfl (vx := (.int .i64 ((k : Nat) : Int))) (vy := (.int .i64 ((1 : Nat) : Int))) (by kernel_rfl) (by kernel_rfl) fun w => bn_add (z := (k + 1)) rfl (wr_i64 (by omega)) w) ?_
  refine vp (i := 10) (v := .slice (cutQ pcS ccS (k + 1) 12) (cs.length - (k + 1)) (ccS - (k + 1))) rfl rfl rfl (run_sll (k1 := .i64) (i := (k + 1)) (n := cs.length) (c := ccS) (sz := 12) rfl Try.underlying22 (by kernel_rfl) (by kernel_rfl) (by kernel_rfl) (by omega) hccS) ?_
  refine wpV_ns (fun g => .slice (some ⟨g, 0, none⟩) 0 0) (i := 0) (obi := .cells #[] 53 (0, 0)) rfl rfl rfl (by kernel_rfl) (fun _ => by kernel_rfl) (fun _ => by simp only [List.setIfInBounds_toArray, List.set_cons_succ, List.set_cons_zero] <;> rfl) fun g3 Bg3 Fg3 => ?_
  obtain dj4_0 : g2 ≠ g3 := by simpa only [dj_app_l, dj_app_r, dj_cons_l, dj_cons_r, dj_nil_l, dj_nil_r, dk_app, dk_cons, dk_nil, and_true, true_and, and_assoc] using (show Dk g3 [(g2, .cells (shC (.slice pcS cs.length ccS) (.slice poS osS.length coS) tl0).toArray 32 (0, 0))] from Fg3)
  refine wpV_g (AppO W2 53 12 [(g2, .cells (shC (.slice pcS cs.length ccS) (.slice poS osS.length coS) tl0).toArray 32 (0, 0))] (0 + k) ((([] : List Col).flatMap colC) ++ ((cs.take k).flatMap colC))) (i := 5) rfl rfl rfl (by kernel_rfl) rfl (app_any el_col (m := k) (news := ((cs.take k).flatMap colC)) (y := .slice pcS k ccS) rfl (by kernel_rfl) (by kernel_rfl) (src_rl (c := ccS) Try.underlying22 colC_len colC_one (by decide) (((RL.base HCZ.out).take colC_len k).mono (fun _ h => by cases h)) (by first | (simp only [List.length_append, List.length_take, List.length_drop, List.length_nil, List.length_cons]; done) | (simp only [List.length_append, List.length_take, List.length_drop, List.length_nil, List.length_cons]; omega))) (own_rnone (cells := colC) Bg3) (fun p hp => by cases List.mem_singleton.1 hp; exact (.head _)) (fun p hp => ⟨by simp only [List.mem_cons, List.mem_append, List.nil_append, List.not_mem_nil, or_assoc, or_false, false_or] at hp ⊢ <;> grind, (show Dj [(g2, .cells (shC (.slice pcS cs.length ccS) (.slice poS osS.length coS) tl0).toArray 32 (0, 0))] [(g3, .cells #[] 53 (0, 0))] from (by (try simp only [dj_app_l, dj_app_r, dj_cons_l, dj_cons_r, dj_nil_l, dj_nil_r, dk_app, dk_cons, dk_nil, and_true, true_and, and_assoc]); repeat' (first | trivial | assumption | exact Dj.symm (by assumption) | exact Ne.symm (by assumption) | apply And.intro))) p hp⟩) (by omega) (by omega)) (fun _ => by simp only [List.setIfInBounds_toArray, List.set_cons_succ, List.set_cons_zero] <;> rfl) ?_
  rintro v5 K9 ⟨Kl5, O5, N5, rfl⟩
  obtain dj6_0 : Dk g2 Kl5 := by simpa only [dj_app_l, dj_app_r, dj_cons_l, dj_cons_r, dj_nil_l, dj_nil_r, dk_app, dk_cons, dk_nil, and_true, true_and, and_assoc] using (show Dj [(g2, .cells (shC (.slice pcS cs.length ccS) (.slice poS osS.length coS) tl0).toArray 32 (0, 0))] Kl5 from N5)
  refine wpV_g (AppO W2 53 12 [(g2, .cells (shC (.slice pcS cs.length ccS) (.slice poS osS.length coS) tl0).toArray 32 (0, 0))] ((0 + k) + (cs.length - (k + 1))) (((([] : List Col).flatMap colC) ++ ((cs.take k).flatMap colC)) ++ ((cs.drop (k + 1)).flatMap colC))) (i := 11) rfl rfl rfl (by kernel_rfl) rfl (app_any el_col (m := (cs.length - (k + 1))) (news := ((cs.drop (k + 1)).flatMap colC)) (y := .slice (cutQ pcS ccS (k + 1) 12) (cs.length - (k + 1)) (ccS - (k + 1))) rfl (by kernel_rfl) (by kernel_rfl) (src_rl (c := (ccS - (k + 1))) Try.underlying22 colC_len colC_one (by decide) (((RL.base HCZ.out).cut colC_len ccS (k + 1) hccS).mono (fun _ h => by cases h)) (by first | (simp only [List.length_append, List.length_take, List.length_drop, List.length_nil, List.length_cons]; done) | (simp only [List.length_append, List.length_take, List.length_drop, List.length_nil, List.length_cons]; omega))) O5 (fun p hp => by simp only [List.mem_cons, List.mem_append, List.nil_append, List.not_mem_nil, or_assoc, or_false, false_or, hp, or_true, true_or]) (fun p hp => ⟨by simp only [List.mem_cons, List.mem_append, List.nil_append, List.not_mem_nil, or_assoc, or_false, false_or] at hp ⊢ <;> grind, (show Dj [(g2, .cells (shC (.slice pcS cs.length ccS) (.slice poS osS.length coS) tl0).toArray 32 (0, 0))] Kl5 from (by (try simp only [dj_app_l, dj_app_r, dj_cons_l, dj_cons_r, dj_nil_l, dj_nil_r, dk_app, dk_cons, dk_nil, and_true, true_and, and_assoc]); repeat' (first | trivial | assumption | exact Dj.symm (by assumption) | exact Ne.symm (by assumption) | apply And.intro))) p hp⟩) (by omega) (by omega)) (fun _ => by simp only [List.setIfInBounds_toArray, List.set_cons_succ, List.set_cons_zero] <;> rfl) ?_
  rintro v7 K9 ⟨Kl7, O7, N7, rfl⟩
  obtain dj8_0 : Dk g2 Kl7 := by simpa only [dj_app_l, dj_app_r, dj_cons_l, dj_cons_r, dj_nil_l, dj_nil_r, dk_app, dk_cons, dk_nil, and_true, true_and, and_assoc] using (show Dj [(g2, .cells (shC (.slice pcS cs.length ccS) (.slice poS osS.length coS) tl0).toArray 32 (0, 0))] Kl7 from N7)
  refine vm (i := 12) (v := .pointer (some ⟨g2, 0, none⟩)) rfl rfl rfl ?_
  have eLv7 := hL
  replace O7 := own_app (cells := colC) (l' := ((cs.take k) ++ (cs.drop (k + 1)))) O7 (by simp only [List.flatMap_append, List.flatMap_nil, List.nil_append]) (by first | (simp only [List.length_append, List.length_take, List.length_drop, List.length_nil, List.length_cons]; done) | (simp only [List.length_append, List.length_take, List.length_drop, List.length_nil, List.length_cons]; omega))
  rw [hL] at O7
  obtain ⟨p9, c9, rfl, n9, R9⟩ := own_rl O7
  refine wpV_s ((g2, .cells (shC (.slice p9 L.length c9) (.slice poS osS.length coS) tl0).toArray 32 (0, 0)) :: Kl7) (i := 13) rfl (by kernel_rfl) rfl rfl rfl (st_row (off := 0) (v := .slice p9 L.length c9) rfl (by kernel_rfl) (by kernel_rfl) (.head _) Bg2 (by kernel_rfl) (by first | (simp [Value.cells]; done) | exact Nat.le_of_ble_eq_true rfl) (by intro v hv; simp [Value.cells] at hv; first | (subst hv; rfl) | (rcases hv with rfl <;> rfl)) (by kernel_rfl) (List.forall_mem_cons.2 ⟨.inl rfl, (fun p hp => .inr ⟨(.tail _ hp), ((show Dk g2 Kl7 from (by (try simp only [dj_app_l, dj_app_r, dj_cons_l, dj_cons_r, dj_nil_l, dj_nil_r, dk_app, dk_cons, dk_nil, and_true, true_and, and_assoc]); repeat' (first | trivial | assumption | exact Dj.symm (by assumption) | exact Ne.symm (by assumption) | apply And.intro))) _ hp)⟩)⟩)) ?_
  refine wpV_done (by kernel_rfl) (fun W5 hW5 => ?_) _
  refine (show Code.wp _ _ _ _ _ from ?_)
  refine wp_seq ?_
  refine wp_seq ?_
  refine wp_region_V (W0 := W2) ((g2, .cells (shC (.slice p9 L.length c9) (.slice poS osS.length coS) tl0).toArray 32 (0, 0)) :: Kl7) (by kernel_rfl) (hW5) ?_
  refine vv (i := 0) (v := .agg (shC (.slice p9 L.length c9) (.slice poS osS.length coS) tl0).toArray) rfl rfl rfl (yb_load (n := 13) (off := 0) rfl (by kernel_rfl) (.head _) Try.underlying32 rfl (by kernel_rfl) (by first | (simp [Value.cells]; done) | exact Nat.le_of_ble_eq_true rfl) (by kernel_rfl)) ?_
  refine vv (i := 1) (v := .bool (rightX L osS)) rfl rfl rfl (yb_call (f := 14) (args := #[.agg (shC (.slice p9 L.length c9) (.slice poS osS.length coS) tl0).toArray]) (fun _ => by kernel_rfl) fun W hW => Right_any L p9 c9 (by omega) osS poS coS (by omega) tl0 W (R9 _ (hW.sub (fun p hp => by simp only [List.mem_cons, List.mem_append, List.nil_append, List.not_mem_nil, or_assoc, or_false, false_or, hp, true_or, or_true]))) ((RL.base HOZ.out) _ (hW.sub (fun _ h => by cases h))) (HRZ.out.keep hW.1) lrS (((good_plugs hgL).1 W2).keep hW.1) (good_plugs hgL).2) ?_
  refine vm (i := 2) (v := .pointer (some ⟨g1, 0, none⟩)) rfl rfl rfl ?_
  refine vb (i := 3) (v := .slice pcS cs.length ccS) rfl rfl rfl (yb_rf (v := .slice pcS cs.length ccS) rfl (by kernel_rfl) (fun W hW => ((HGZ.out).keep hW.1).2 0 _ rfl) Try.underlying22 rfl) ?_
  refine vp (i := 4) (v := .int .i64 ((cs.length : Nat) : Int)) rfl rfl rfl (run_lenL (p := pcS) (cap := ccS) (n := cs.length) rfl Try.underlying22 (by kernel_rfl)) ?_
  refine vp (i := 5) (v := .bool (decide (1 < cs.length))) rfl rfl rfl (run_bin rfl (vx := (.int .i64 ((cs.length : Nat) : Int))) (vy := (.int .i64 ((1 : Nat) : Int))) (by kernel_rfl) (by kernel_rfl) fun w => bn_gtr rfl w) ?_
  refine vp (i := 6) (v := .bool (!((rightX L osS) == (decide (1 < cs.length))))) rfl rfl rfl (run_bin rfl (vx := .bool (rightX L osS)) (vy := .bool (decide (1 < cs.length))) (by kernel_rfl) (by kernel_rfl) fun w => bn_bool_neq rfl Try.underlying4 w) ?_
  refine vm (i := 7) (v := .bool (!((rightX L osS) == (decide (1 < cs.length))))) rfl rfl rfl ?_
  cases h1 : ((rightX L osS) == (decide (1 < cs.length))) with
  | false =>
    exact absurd (show ((rightX L osS) == (decide (1 < cs.length))) = true by rw [← hL, less_right hg h12 hkl hoS]; exact beq_self_eq_true _) (by rw [h1]; decide)
  | true =>
    refine vv (i := 8) (v := .agg (shC (.slice p9 L.length c9) (.slice poS osS.length coS) tl0).toArray) rfl rfl rfl (yb_load (n := 13) (off := 0) rfl (by kernel_rfl) (.head _) Try.underlying32 rfl (by kernel_rfl) (by first | (simp [Value.cells]; done) | exact Nat.le_of_ble_eq_true rfl) (by kernel_rfl)) ?_
    refine vv (i := 9) (v := .int .i64 (placesX L)) rfl rfl rfl (yb_call (f := 24) (args := #[.agg (shC (.slice p9 L.length c9) (.slice poS osS.length coS) tl0).toArray]) (fun _ => by kernel_rfl) fun W hW => Places_any L p9 c9 (by omega) osS poS coS (by omega) tl0 W (R9 _ (hW.sub (fun p hp => by simp only [List.mem_cons, List.mem_append, List.nil_append, List.not_mem_nil, or_assoc, or_false, false_or, hp, true_or, or_true]))) ((RL.base HOZ.out) _ (hW.sub (fun _ h => by cases h)))) ?_
    refine vb (i := 10) (v := .agg (shC (.slice pcS cs.length ccS) (.slice poS osS.length coS) tl0).toArray) rfl rfl rfl (yb_rs (off := 0) (cs := _) rfl (by kernel_rfl) (fun W hW => ((HGZ.out).keep hW.1).2) Try.underlying32 rfl (by kernel_rfl)) ?_
    refine vv (i := 11) (v := .int .i64 (placesX cs)) rfl rfl rfl (yb_call (f := 24) (args := #[.agg (shC (.slice pcS cs.length ccS) (.slice poS osS.length coS) tl0).toArray]) (fun _ => by kernel_rfl) fun W hW => Places_any cs pcS ccS (by omega) osS poS coS (by omega) tl0 W ((RL.base HCZ.out) _ (hW.sub (fun _ h => by cases h))) ((RL.base HOZ.out) _ (hW.sub (fun _ h => by cases h)))) ?_
    refine vm (i := 12) (v := .pointer (some ⟨g1, 0, none⟩)) rfl rfl rfl ?_
    refine vb (i := 13) (v := .slice pcS cs.length ccS) rfl rfl rfl (yb_rf (v := .slice pcS cs.length ccS) rfl (by kernel_rfl) (fun W hW => ((HGZ.out).keep hW.1).2 0 _ rfl) Try.underlying22 rfl) ?_
    refine vm (i := 14) (v := .int .i64 ((k : Nat) : Int)) rfl rfl rfl ?_
    obtain ⟨y10, g10_, f10_, hy10, hp10, hc10⟩ := RL.at (RL.base HCZ.out) colC_len (by decide) (hW5.sub (fun _ h => by cases h)) (k := k) (by omega)
    have ey10 : y10 = ck := by rw [hck] at hy10; exact (Option.some.inj hy10).symm
    subst ey10
    refine vp (i := 15) (v := .pointer (some ⟨g10_, f10_ + k * 12, none⟩)) rfl rfl rfl (run_idxQ (p := pcS) (cap := ccS) (n := cs.length) (j := .i64) (k := k) (sz := 12) rfl Try.underlying22 (by kernel_rfl) (by kernel_rfl) hp10 (by kernel_rfl) (by omega)) ?_
    refine vm (i := 16) (v := .pointer (some ⟨g10_, f10_ + k * 12 + 3, none⟩)) rfl rfl rfl ?_
    refine vb (i := 17) (v := .int .i64 y10.tiers) rfl rfl rfl (yb_rf (v := .int .i64 y10.tiers) rfl (by kernel_rfl) (fun W hW => hc10 W (hW.sub (fun _ h => by cases h)) 3 _ rfl) Try.underlying3 rfl) ?_
    refine vp (i := 18) (v := .int .i64 (2 * y10.tiers)) rfl rfl rfl (run_bin rfl (vx := (.int .i64 2)) (vy := (.int .i64 y10.tiers)) (by kernel_rfl) (by kernel_rfl) fun w => bi_mul (z := (2 * y10.tiers)) rfl (wi_i64 (by omega)) w) ?_
    refine vp (i := 19) (v := .int .i64 ((placesX cs) - (2 * y10.tiers))) rfl rfl rfl (run_bin rfl (vx := (.int .i64 (placesX cs))) (vy := (.int .i64 (2 * y10.tiers))) (by kernel_rfl) (by kernel_rfl) fun w => bi_sub (z := ((placesX cs) - (2 * y10.tiers))) rfl (wi_i64 (by omega)) w) ?_
    refine vp (i := 20) (v := .bool (!(decide ((placesX L) = ((placesX cs) - (2 * y10.tiers)))))) rfl rfl rfl (run_bin rfl (vx := (.int .i64 (placesX L))) (vy := (.int .i64 ((placesX cs) - (2 * y10.tiers)))) (by kernel_rfl) (by kernel_rfl) fun w => bi_neq rfl w) ?_
    refine vm (i := 21) (v := .bool (!(decide ((placesX L) = ((placesX cs) - (2 * y10.tiers)))))) rfl rfl rfl ?_
    refine vm (i := 22) (v := .bool (!(decide ((placesX L) = ((placesX cs) - (2 * y10.tiers)))))) rfl rfl rfl ?_
    cases hd2 : (decide ((placesX L) = ((placesX cs) - (2 * y10.tiers)))) with
    | false =>
      have h2 : ¬ ((placesX L) = ((placesX cs) - (2 * y10.tiers))) := of_decide_eq_false hd2
      clear hd2
      exact absurd (show (placesX L) = ((placesX cs) - (2 * y10.tiers)) by omega) h2
    | true =>
      have h2 : (placesX L) = ((placesX cs) - (2 * y10.tiers)) := of_decide_eq_true hd2
      clear hd2
      refine vv (i := 23) (v := .agg (shC (.slice p9 L.length c9) (.slice poS osS.length coS) tl0).toArray) rfl rfl rfl (yb_load (n := 13) (off := 0) rfl (by kernel_rfl) (.head _) Try.underlying32 rfl (by kernel_rfl) (by first | (simp [Value.cells]; done) | exact Nat.le_of_ble_eq_true rfl) (by kernel_rfl)) ?_
      refine vv (i := 24) (v := .int .i64 (tallX L)) rfl rfl rfl (yb_call (f := 22) (args := #[.agg (shC (.slice p9 L.length c9) (.slice poS osS.length coS) tl0).toArray]) (fun _ => by kernel_rfl) fun W hW => Tallest_any L p9 c9 (by omega) osS poS coS (by omega) tl0 W (R9 _ (hW.sub (fun p hp => by simp only [List.mem_cons, List.mem_append, List.nil_append, List.not_mem_nil, or_assoc, or_false, false_or, hp, true_or, or_true]))) ((RL.base HOZ.out) _ (hW.sub (fun _ h => by cases h)))) ?_
      refine vb (i := 25) (v := .agg (shC (.slice pcS cs.length ccS) (.slice poS osS.length coS) tl0).toArray) rfl rfl rfl (yb_rs (off := 0) (cs := _) rfl (by kernel_rfl) (fun W hW => ((HGZ.out).keep hW.1).2) Try.underlying32 rfl (by kernel_rfl)) ?_
      refine vv (i := 26) (v := .int .i64 (tallX cs)) rfl rfl rfl (yb_call (f := 22) (args := #[.agg (shC (.slice pcS cs.length ccS) (.slice poS osS.length coS) tl0).toArray]) (fun _ => by kernel_rfl) fun W hW => Tallest_any cs pcS ccS (by omega) osS poS coS (by omega) tl0 W ((RL.base HCZ.out) _ (hW.sub (fun _ h => by cases h))) ((RL.base HOZ.out) _ (hW.sub (fun _ h => by cases h)))) ?_
      refine vp (i := 27) (v := .bool (decide ((tallX cs) < (tallX L)))) rfl rfl rfl (run_bin rfl (vx := (.int .i64 (tallX L))) (vy := (.int .i64 (tallX cs))) (by kernel_rfl) (by kernel_rfl) fun w => bi_gtr rfl w) ?_
      refine vm (i := 28) (v := .bool (decide ((tallX cs) < (tallX L)))) rfl rfl rfl ?_
      refine wpV_done (by kernel_rfl) (fun W6 hW6 => ?_) _
      refine (show Code.wp _ _ _ _ _ from ?_)
      cases hd3 : (decide ((tallX cs) < (tallX L))) with
      | false =>
        have h3 : ¬ ((tallX cs) < (tallX L)) := of_decide_eq_false hd3
        clear hd3
        refine wp_cond_false rfl ?_
        refine wp_skip ?_
        refine (show Code.wp _ _ _ _ _ from ?_)
        refine wp_seq ?_
        refine wp_seq ?_
        refine wp_region_L (W0 := W2) ((g2, .cells (shC (.slice p9 L.length c9) (.slice poS osS.length coS) tl0).toArray 32 (0, 0)) :: Kl7) (hW6) ?_
        refine lm (v := .pointer (some ⟨g1, 1, none⟩)) rfl rfl ?_
        refine lv (v := .slice poS osS.length coS) rfl rfl (yb_rf (v := .slice poS osS.length coS) rfl (by kernel_rfl) (fun W hW => ((HGZ.out).keep hW.1).2 1 _ rfl) Try.underlying23 rfl) ?_
        refine lp (v := .int .i64 ((osS.length : Nat) : Int)) rfl rfl (run_lenL (p := poS) (cap := coS) (n := osS.length) rfl Try.underlying23 (by kernel_rfl)) ?_
        refine lm (v := .int .i64 0) rfl rfl ?_
        refine wpL_done (fun W7 hW7 => ?_)
        refine (show Code.wp _ _ _ _ _ from ?_)
        refine wp_block ?_
        go_loopw [73] (fun u73 wr => ∃ (i : Nat), (i ≤ osS.length) ∧ u73 = .int .i64 ((i : Nat) : Int) ∧ KS W2 ((g2, .cells (shC (.slice p9 L.length c9) (.slice poS osS.length coS) tl0).toArray 32 (0, 0)) :: Kl7) wr) (fun u73 _ => osS.length - (intOf u73).toNat)
        case atStart => exact ⟨0, (Nat.zero_le _), rfl, (hW7.sub (fun p hp => by first | exact hp | (simp only [List.mem_cons, List.mem_append, List.nil_append, List.not_mem_nil, or_assoc, or_false, false_or] at hp ⊢ <;> grind)))⟩
        case round =>
          obtain ⟨i, hi, rfl, hL8⟩ := hrel
          refine wp_seq ?_
          refine wp_region_L (W0 := W2) ((g2, .cells (shC (.slice p9 L.length c9) (.slice poS osS.length coS) tl0).toArray 32 (0, 0)) :: Kl7) (hL8) ?_
          refine lp (v := .bool (decide (i < osS.length))) rfl rfl (run_bin rfl (vx := (.int .i64 ((i : Nat) : Int))) (vy := (.int .i64 ((osS.length : Nat) : Int))) (by kernel_rfl) (by kernel_rfl) fun w => bn_lss rfl w) ?_
          refine wpL_done (fun W9 hW9 => ?_)
          refine (show Code.wp _ _ _ _ _ from ?_)
          refine wp_seq ?_
          cases hd4 : (decide (i < osS.length)) with
          | false =>
            have h4 : ¬ (i < osS.length) := of_decide_eq_false hd4
            clear hd4
            refine wp_cond_false rfl ?_
            refine wp_exit ?_
            refine (show Code.wp _ _ _ _ _ from ?_)
            refine wp_seq ?_
            refine wp_seq ?_
            refine wp_region_L (W0 := W2) ((g2, .cells (shC (.slice p9 L.length c9) (.slice poS osS.length coS) tl0).toArray 32 (0, 0)) :: Kl7) (hW9) ?_
            refine lm (v := .pointer (some ⟨g1, 0, none⟩)) rfl rfl ?_
            refine lv (v := .slice pcS cs.length ccS) rfl rfl (yb_rf (v := .slice pcS cs.length ccS) rfl (by kernel_rfl) (fun W hW => ((HGZ.out).keep hW.1).2 0 _ rfl) Try.underlying22 rfl) ?_
            refine lp (v := .int .i64 ((cs.length : Nat) : Int)) rfl rfl (run_lenL (p := pcS) (cap := ccS) (n := cs.length) rfl Try.underlying22 (by kernel_rfl)) ?_
            refine lm (v := .int .i64 0) rfl rfl ?_
            refine wpL_done (fun W10 hW10 => ?_)
            refine (show Code.wp _ _ _ _ _ from ?_)
            refine wp_block ?_
            go_loopw [97] (fun u97 wr => ∃ (m : Nat), (m ≤ cs.length) ∧ u97 = .int .i64 ((m : Nat) : Int) ∧ KS W2 ((g2, .cells (shC (.slice p9 L.length c9) (.slice poS osS.length coS) tl0).toArray 32 (0, 0)) :: Kl7) wr) (fun u97 _ => cs.length - (intOf u97).toNat)
            case atStart => exact ⟨0, (Nat.zero_le _), rfl, (hW10.sub (fun p hp => by first | exact hp | (simp only [List.mem_cons, List.mem_append, List.nil_append, List.not_mem_nil, or_assoc, or_false, false_or] at hp ⊢ <;> grind)))⟩
            case round =>
              obtain ⟨m, hm, rfl, hL11⟩ := hrel
              refine wp_seq ?_
              refine wp_region_L (W0 := W2) ((g2, .cells (shC (.slice p9 L.length c9) (.slice poS osS.length coS) tl0).toArray 32 (0, 0)) :: Kl7) (hL11) ?_
              refine lp (v := .bool (decide (m < cs.length))) rfl rfl (run_bin rfl (vx := (.int .i64 ((m : Nat) : Int))) (vy := (.int .i64 ((cs.length : Nat) : Int))) (by kernel_rfl) (by kernel_rfl) fun w => bn_lss rfl w) ?_
              refine wpL_done (fun W12 hW12 => ?_)
              refine (show Code.wp _ _ _ _ _ from ?_)
              refine wp_seq ?_
              cases hd5 : (decide (m < cs.length)) with
              | false =>
                have h5 : ¬ (m < cs.length) := of_decide_eq_false hd5
                clear hd5
                refine wp_cond_false rfl ?_
                refine wp_exit ?_
                refine (show Code.wp _ _ _ _ _ from ?_)
                refine wp_seq ?_
                refine wp_region_L (W0 := W2) ((g2, .cells (shC (.slice p9 L.length c9) (.slice poS osS.length coS) tl0).toArray 32 (0, 0)) :: Kl7) (hW12) ?_
                refine lv (v := .bool true) rfl rfl (yb_call (f := 10) (args := #[]) (fun _ => by kernel_rfl) fun W hW => awake_any W) ?_
                refine lm (v := .bool true) rfl rfl ?_
                refine wpL_done (fun W13 hW13 => ?_)
                refine (show Code.wp _ _ _ _ _ from ?_)
                refine wp_ret ?_
                try simp only [inBlock_ret, then_ret]
                refine bodyPost_ret (v := .bool true) ?_ rfl ?_
                · kernel_rfl
                · exact ⟨rfl, (hbZ.trans (hW13.1.mono hbZ.size))⟩
              | true =>
                have h5 : m < cs.length := of_decide_eq_true hd5
                clear hd5
                refine wp_cond_true rfl ?_
                refine wp_skip ?_
                refine (show Code.wp _ _ _ _ _ from ?_)
                refine wp_seq ?_
                refine wp_block ?_
                refine wp_seq ?_
                refine wp_region_L (W0 := W2) ((g2, .cells (shC (.slice p9 L.length c9) (.slice poS osS.length coS) tl0).toArray 32 (0, 0)) :: Kl7) (hW12) ?_
                refine lm (v := .int .i64 ((m : Nat) : Int)) rfl rfl ?_
                obtain ⟨y11, g11_, f11_, hy11, hp11, hc11⟩ := RL.at (RL.base HCZ.out) colC_len (by decide) (hW12.sub (fun _ h => by cases h)) (k := m) (by omega)
                refine lp (v := .pointer (some ⟨g11_, f11_ + m * 12, none⟩)) rfl rfl (run_idxQ (p := pcS) (cap := ccS) (n := cs.length) (j := .i64) (k := m) (sz := 12) rfl Try.underlying22 (by kernel_rfl) (by kernel_rfl) hp11 (by kernel_rfl) (by omega)) ?_
                refine lv (v := .agg (colC y11).toArray) rfl rfl (yb_rs (off := f11_ + m * 12) (cs := colC y11) rfl (by kernel_rfl) (fun W hW => hc11 W (hW.sub (fun _ h => by cases h))) Try.underlying53 rfl (by kernel_rfl)) ?_
                refine wpL_new (fun g => .pointer (some ⟨g, 0, none⟩)) (obi := .cells #[.int .i64 0, .int .i64 0, .bool false, .int .i64 0, .int .i64 0, .int .i64 0, .int .i64 0, .int .i64 0, .slice none 0 0, .int .i64 0, .int .i64 0, .int .i64 0] 53 (0, 0)) rfl rfl (fun _ => by kernel_rfl) (fun _ => by simp only [List.setIfInBounds_toArray, List.set_cons_succ, List.set_cons_zero] <;> rfl) fun g12 Bg12 Fg12 => ?_
                obtain ⟨dj13_0, dj13_1⟩ : g2 ≠ g12 ∧ Dk g12 Kl7 := by simpa only [dj_app_l, dj_app_r, dj_cons_l, dj_cons_r, dj_nil_l, dj_nil_r, dk_app, dk_cons, dk_nil, and_true, true_and, and_assoc] using (show Dk g12 ((g2, .cells (shC (.slice p9 L.length c9) (.slice poS osS.length coS) tl0).toArray 32 (0, 0)) :: Kl7) from Fg12)
                refine lm (v := .int .i64 ((m : Nat) : Int)) rfl rfl ?_
                refine wpL_s ((g12, .cells (colC y11).toArray 53 (0, 0)) :: (g2, .cells (shC (.slice p9 L.length c9) (.slice poS osS.length coS) tl0).toArray 32 (0, 0)) :: Kl7) rfl rfl (st_row (off := 0) (v := .agg (colC y11).toArray) rfl (by kernel_rfl) (by kernel_rfl) (.head _) Bg12 (by kernel_rfl) (by first | (simp [Value.cells]; done) | exact Nat.le_of_ble_eq_true rfl) (fun v hv => colC_one y11 v hv) (by kernel_rfl) (List.forall_mem_cons.2 ⟨.inl rfl, (List.forall_mem_cons.2 ⟨.inr ⟨(.tail _ (.head _)), (by first | assumption | exact Ne.symm (by assumption))⟩, (fun p hp => .inr ⟨(.tail _ (.tail _ hp)), ((show Dk g12 Kl7 from (by (try simp only [dj_app_l, dj_app_r, dj_cons_l, dj_cons_r, dj_nil_l, dj_nil_r, dk_app, dk_cons, dk_nil, and_true, true_and, and_assoc]); repeat' (first | trivial | assumption | exact Dj.symm (by assumption) | exact Ne.symm (by assumption) | apply And.intro))) _ hp)⟩)⟩)⟩)) ?_
                refine wpL_done (fun W14 hW14 => ?_)
                refine (show Code.wp _ _ _ _ _ from ?_)
                refine wp_seq ?_
                refine wp_region_L (W0 := W2) ((g12, .cells (colC y11).toArray 53 (0, 0)) :: (g2, .cells (shC (.slice p9 L.length c9) (.slice poS osS.length coS) tl0).toArray 32 (0, 0)) :: Kl7) (hW14) ?_
                refine lv (v := .agg (shC (.slice pcS cs.length ccS) (.slice poS osS.length coS) tl0).toArray) rfl rfl (yb_rs (off := 0) (cs := _) rfl (by kernel_rfl) (fun W hW => ((HGZ.out).keep hW.1).2) Try.underlying32 rfl (by kernel_rfl)) ?_
                refine lm (v := .pointer (some ⟨g12, 0, none⟩)) rfl rfl ?_
                refine lv (v := .int .i64 y11.bay) rfl rfl (yb_cell (off := 0) rfl (by kernel_rfl) (.head _) Try.underlying3 rfl (by kernel_rfl)) ?_
                refine lm (v := .pointer (some ⟨g12, 1, none⟩)) rfl rfl ?_
                refine lv (v := .int .i64 y11.row) rfl rfl (yb_cell (off := 1) rfl (by kernel_rfl) (.head _) Try.underlying3 rfl (by kernel_rfl)) ?_
                refine lm (v := .pointer (some ⟨g12, 2, none⟩)) rfl rfl ?_
                refine lv (v := .bool y11.deck) rfl rfl (yb_cell (off := 2) rfl (by kernel_rfl) (.head _) Try.underlying4 rfl (by kernel_rfl)) ?_
                refine lv (v := .tuple #[.int .i64 (findN (fst (isAt y11.bay y11.row y11.deck) cs)), .bool ((fst (isAt y11.bay y11.row y11.deck) cs).isSome)]) rfl rfl (yb_call (f := 12) (args := #[.agg (shC (.slice pcS cs.length ccS) (.slice poS osS.length coS) tl0).toArray, .int .i64 y11.bay, .int .i64 y11.row, .bool y11.deck]) (fun _ => by kernel_rfl) fun W hW => Find_any cs pcS ccS (by omega) osS poS coS (by omega) tl0 y11.bay y11.row y11.deck W ((RL.base HCZ.out) _ (hW.sub (fun _ h => by cases h))) ((RL.base HOZ.out) _ (hW.sub (fun _ h => by cases h)))) ?_
                refine lm (v := .tuple #[.int .i64 (findN (fst (isAt y11.bay y11.row y11.deck) cs)), .bool ((fst (isAt y11.bay y11.row y11.deck) cs).isSome)]) rfl rfl ?_
                refine lm (v := .int .i64 (findN (fst (isAt y11.bay y11.row y11.deck) cs))) rfl rfl ?_
                refine lm (v := .bool ((fst (isAt y11.bay y11.row y11.deck) cs).isSome)) rfl rfl ?_
                refine lm (v := .int .i64 (findN (fst (isAt y11.bay y11.row y11.deck) cs))) rfl rfl ?_
                refine lm (v := .bool ((fst (isAt y11.bay y11.row y11.deck) cs).isSome)) rfl rfl ?_
                refine wpL_done (fun W15 hW15 => ?_)
                refine (show Code.wp _ _ _ _ _ from ?_)
                refine wp_seq ?_
                refine wp_seq ?_
                refine wp_region_L (W0 := W2) ((g12, .cells (colC y11).toArray 53 (0, 0)) :: (g2, .cells (shC (.slice p9 L.length c9) (.slice poS osS.length coS) tl0).toArray 32 (0, 0)) :: Kl7) (hW15) ?_
                refine lm (v := .int .i64 (findN (fst (isAt y11.bay y11.row y11.deck) cs))) rfl rfl ?_
                refine lm (v := .int .i64 ((m : Nat) : Int)) rfl rfl ?_
                refine lp (v := .bool (!(decide ((findN (fst (isAt y11.bay y11.row y11.deck) cs)) = ((m : Nat) : Int))))) rfl rfl (run_bin rfl (vx := (.int .i64 (findN (fst (isAt y11.bay y11.row y11.deck) cs)))) (vy := (.int .i64 ((m : Nat) : Int))) (by kernel_rfl) (by kernel_rfl) fun w => bi_neq rfl w) ?_
                refine lm (v := .bool (!(decide ((findN (fst (isAt y11.bay y11.row y11.deck) cs)) = ((m : Nat) : Int))))) rfl rfl ?_
                cases hd6 : (decide ((findN (fst (isAt y11.bay y11.row y11.deck) cs)) = ((m : Nat) : Int))) with
                | false =>
                  have h6 : ¬ ((findN (fst (isAt y11.bay y11.row y11.deck) cs)) = ((m : Nat) : Int)) := of_decide_eq_false hd6
                  clear hd6
                  exact absurd (show (findN (fst (isAt y11.bay y11.row y11.deck) cs)) = ((m : Nat) : Int) by rw [find_at hg hy11]; rfl) h6
                | true =>
                  have h6 : (findN (fst (isAt y11.bay y11.row y11.deck) cs)) = ((m : Nat) : Int) := of_decide_eq_true hd6
                  clear hd6
                  refine lm (v := .bool ((fst (isAt y11.bay y11.row y11.deck) cs).isSome)) rfl rfl ?_
                  refine lp (v := .bool (!((fst (isAt y11.bay y11.row y11.deck) cs).isSome))) rfl rfl (run_un rfl (by kernel_rfl) fun w => un_not w) ?_
                  refine lm (v := .bool (!((fst (isAt y11.bay y11.row y11.deck) cs).isSome))) rfl rfl ?_
                  refine wpL_done (fun W16 hW16 => ?_)
                  refine (show Code.wp _ _ _ _ _ from ?_)
                  cases h7 : ((fst (isAt y11.bay y11.row y11.deck) cs).isSome) with
                  | false =>
                    exact absurd (show ((fst (isAt y11.bay y11.row y11.deck) cs).isSome) = true by rw [find_at hg hy11]; rfl) (by rw [h7]; decide)
                  | true =>
                    refine wp_cond_false rfl ?_
                    refine wp_skip ?_
                    refine (show Code.wp _ _ _ _ _ from ?_)
                    refine wp_seq ?_
                    refine wp_region_L (W0 := W2) ((g12, .cells (colC y11).toArray 53 (0, 0)) :: (g2, .cells (shC (.slice p9 L.length c9) (.slice poS osS.length coS) tl0).toArray 32 (0, 0)) :: Kl7) (hW16) ?_
                    refine lv (v := .agg (shC (.slice p9 L.length c9) (.slice poS osS.length coS) tl0).toArray) rfl rfl (yb_load (n := 13) (off := 0) rfl (by kernel_rfl) (.tail _ (.head _)) Try.underlying32 rfl (by kernel_rfl) (by first | (simp [Value.cells]; done) | exact Nat.le_of_ble_eq_true rfl) (by kernel_rfl)) ?_
                    refine lm (v := .pointer (some ⟨g12, 0, none⟩)) rfl rfl ?_
                    refine lv (v := .int .i64 y11.bay) rfl rfl (yb_cell (off := 0) rfl (by kernel_rfl) (.head _) Try.underlying3 rfl (by kernel_rfl)) ?_
                    refine lm (v := .pointer (some ⟨g12, 1, none⟩)) rfl rfl ?_
                    refine lv (v := .int .i64 y11.row) rfl rfl (yb_cell (off := 1) rfl (by kernel_rfl) (.head _) Try.underlying3 rfl (by kernel_rfl)) ?_
                    refine lm (v := .pointer (some ⟨g12, 2, none⟩)) rfl rfl ?_
                    refine lv (v := .bool y11.deck) rfl rfl (yb_cell (off := 2) rfl (by kernel_rfl) (.head _) Try.underlying4 rfl (by kernel_rfl)) ?_
                    refine lv (v := .tuple #[.int .i64 (findN (fst (isAt y11.bay y11.row y11.deck) L)), .bool ((fst (isAt y11.bay y11.row y11.deck) L).isSome)]) rfl rfl (yb_call (f := 12) (args := #[.agg (shC (.slice p9 L.length c9) (.slice poS osS.length coS) tl0).toArray, .int .i64 y11.bay, .int .i64 y11.row, .bool y11.deck]) (fun _ => by kernel_rfl) fun W hW => Find_any L p9 c9 (by omega) osS poS coS (by omega) tl0 y11.bay y11.row y11.deck W (R9 _ (hW.sub (fun p hp => by simp only [List.mem_cons, List.mem_append, List.nil_append, List.not_mem_nil, or_assoc, or_false, false_or, hp, true_or, or_true]))) ((RL.base HOZ.out) _ (hW.sub (fun _ h => by cases h)))) ?_
                    refine lm (v := .tuple #[.int .i64 (findN (fst (isAt y11.bay y11.row y11.deck) L)), .bool ((fst (isAt y11.bay y11.row y11.deck) L).isSome)]) rfl rfl ?_
                    refine lm (v := .int .i64 (findN (fst (isAt y11.bay y11.row y11.deck) L))) rfl rfl ?_
                    refine lm (v := .bool ((fst (isAt y11.bay y11.row y11.deck) L).isSome)) rfl rfl ?_
                    refine lm (v := .int .i64 (findN (fst (isAt y11.bay y11.row y11.deck) L))) rfl rfl ?_
                    refine lm (v := .bool ((fst (isAt y11.bay y11.row y11.deck) L).isSome)) rfl rfl ?_
                    refine wpL_done (fun W17 hW17 => ?_)
                    refine (show Code.wp _ _ _ _ _ from ?_)
                    refine wp_seq ?_
                    refine wp_region_L (W0 := W2) ((g12, .cells (colC y11).toArray 53 (0, 0)) :: (g2, .cells (shC (.slice p9 L.length c9) (.slice poS osS.length coS) tl0).toArray 32 (0, 0)) :: Kl7) (hW17) ?_
                    refine lm (v := .bool ((fst (isAt y11.bay y11.row y11.deck) L).isSome)) rfl rfl ?_
                    refine lm (v := .int .i64 ((m : Nat) : Int)) rfl rfl ?_
                    refine lm (v := .int .i64 ((k : Nat) : Int)) rfl rfl ?_
                    refine lp (v := .bool (!(decide (m = k)))) rfl rfl (run_bin rfl (vx := (.int .i64 ((m : Nat) : Int))) (vy := (.int .i64 ((k : Nat) : Int))) (by kernel_rfl) (by kernel_rfl) fun w => bn_neq rfl w) ?_
                    refine lp (v := .bool (!(((fst (isAt y11.bay y11.row y11.deck) L).isSome) == (!(decide (m = k)))))) rfl rfl (run_bin rfl (vx := .bool ((fst (isAt y11.bay y11.row y11.deck) L).isSome)) (vy := .bool (!(decide (m = k)))) (by kernel_rfl) (by kernel_rfl) fun w => bn_bool_neq rfl Try.underlying4 w) ?_
                    refine wpL_done (fun W18 hW18 => ?_)
                    refine (show Code.wp _ _ _ _ _ from ?_)
                    cases h8 : (((fst (isAt y11.bay y11.row y11.deck) L).isSome) == (!(decide (m = k)))) with
                    | false =>
                      exact absurd (show (((fst (isAt y11.bay y11.row y11.deck) L).isSome) == (!(decide (m = k)))) = true by rw [← hL, less_find hg hy11 hkl]; exact beq_self_eq_true _) (by rw [h8]; decide)
                    | true =>
                      refine wp_cond_false rfl ?_
                      refine wp_skip ?_
                      refine (show Code.wp _ _ _ _ _ from ?_)
                      refine wp_region_L (W0 := W2) ((g12, .cells (colC y11).toArray 53 (0, 0)) :: (g2, .cells (shC (.slice p9 L.length c9) (.slice poS osS.length coS) tl0).toArray 32 (0, 0)) :: Kl7) (hW18) ?_
                      refine lp (v := .int .i64 (((m + 1) : Nat) : Int)) rfl rfl (run_bin rfl (vx := (.int .i64 ((m : Nat) : Int))) (vy := (.int .i64 ((1 : Nat) : Int))) (by kernel_rfl) (by kernel_rfl) fun w => bn_add (z := (m + 1)) rfl (wr_i64 (by omega)) w) ?_
                      refine lm (v := .int .i64 (((m + 1) : Nat) : Int)) rfl rfl ?_
                      refine wpL_done (fun W19 hW19 => ?_)
                      go_roundw
                      case rel =>
                        repeat apply Exists.intro
                        exact ⟨⟨m + 1, (by omega), rfl, (hW19.sub (fun p hp => by first | exact hp | (simp only [List.mem_cons, List.mem_append, List.nil_append, List.not_mem_nil, or_assoc, or_false, false_or] at hp ⊢ <;> grind)))⟩, rfl⟩
                      case measure => (show cs.length - (intOf (.int .i64 (((m + 1) : Nat) : Int))).toNat < cs.length - (intOf (.int .i64 ((m : Nat) : Int))).toNat); simp only [intOf]; omega
          | true =>
            have h4 : i < osS.length := of_decide_eq_true hd4
            clear hd4
            refine wp_cond_true rfl ?_
            refine wp_skip ?_
            refine (show Code.wp _ _ _ _ _ from ?_)
            refine wp_seq ?_
            refine wp_block ?_
            refine wp_seq ?_
            refine wp_region_L (W0 := W2) ((g2, .cells (shC (.slice p9 L.length c9) (.slice poS osS.length coS) tl0).toArray 32 (0, 0)) :: Kl7) (hW9) ?_
            refine lm (v := .int .i64 ((i : Nat) : Int)) rfl rfl ?_
            refine lm (v := .int .i64 ((i : Nat) : Int)) rfl rfl ?_
            refine wpL_done (fun W20 hW20 => ?_)
            refine (show Code.wp _ _ _ _ _ from ?_)
            refine wp_seq ?_
            refine wp_region_L (W0 := W2) ((g2, .cells (shC (.slice p9 L.length c9) (.slice poS osS.length coS) tl0).toArray 32 (0, 0)) :: Kl7) (hW20) ?_
            refine lv (v := .agg (shC (.slice pcS cs.length ccS) (.slice poS osS.length coS) tl0).toArray) rfl rfl (yb_rs (off := 0) (cs := _) rfl (by kernel_rfl) (fun W hW => ((HGZ.out).keep hW.1).2) Try.underlying32 rfl (by kernel_rfl)) ?_
            refine wpL_new (fun g => .pointer (some ⟨g, 0, none⟩)) (obi := .cells (shC (.slice none 0 0) (.slice none 0 0) tl0).toArray 32 (0, 0)) rfl rfl (fun _ => by kernel_rfl) (fun _ => by simp only [List.setIfInBounds_toArray, List.set_cons_succ, List.set_cons_zero] <;> rfl) fun g14 Bg14 Fg14 => ?_
            obtain ⟨dj15_0, dj15_1⟩ : g2 ≠ g14 ∧ Dk g14 Kl7 := by simpa only [dj_app_l, dj_app_r, dj_cons_l, dj_cons_r, dj_nil_l, dj_nil_r, dk_app, dk_cons, dk_nil, and_true, true_and, and_assoc] using (show Dk g14 ((g2, .cells (shC (.slice p9 L.length c9) (.slice poS osS.length coS) tl0).toArray 32 (0, 0)) :: Kl7) from Fg14)
            refine wpL_s ((g14, .cells (shC (.slice pcS cs.length ccS) (.slice poS osS.length coS) tl0).toArray 32 (0, 0)) :: (g2, .cells (shC (.slice p9 L.length c9) (.slice poS osS.length coS) tl0).toArray 32 (0, 0)) :: Kl7) rfl rfl (st_row (off := 0) (v := .agg (shC (.slice pcS cs.length ccS) (.slice poS osS.length coS) tl0).toArray) rfl (by kernel_rfl) (by kernel_rfl) (.head _) Bg14 (by kernel_rfl) (by first | (simp [Value.cells]; done) | exact Nat.le_of_ble_eq_true rfl) (fun v hv => shC_one v hv) (by kernel_rfl) (List.forall_mem_cons.2 ⟨.inl rfl, (List.forall_mem_cons.2 ⟨.inr ⟨(.tail _ (.head _)), (by first | assumption | exact Ne.symm (by assumption))⟩, (fun p hp => .inr ⟨(.tail _ (.tail _ hp)), ((show Dk g14 Kl7 from (by (try simp only [dj_app_l, dj_app_r, dj_cons_l, dj_cons_r, dj_nil_l, dj_nil_r, dk_app, dk_cons, dk_nil, and_true, true_and, and_assoc]); repeat' (first | trivial | assumption | exact Dj.symm (by assumption) | exact Ne.symm (by assumption) | apply And.intro))) _ hp)⟩)⟩)⟩)) ?_
            refine wpL_done (fun W21 hW21 => ?_)
            refine (show Code.wp _ _ _ _ _ from ?_)
            refine wp_seq ?_
            refine wp_region_V (W0 := W2) ((g14, .cells (shC (.slice pcS cs.length ccS) (.slice poS osS.length coS) tl0).toArray 32 (0, 0)) :: (g2, .cells (shC (.slice p9 L.length c9) (.slice poS osS.length coS) tl0).toArray 32 (0, 0)) :: Kl7) (by kernel_rfl) (hW21) ?_
            refine vm (i := 1) (v := .pointer (some ⟨g1, 1, none⟩)) rfl rfl rfl ?_
            refine vb (i := 2) (v := .slice poS osS.length coS) rfl rfl rfl (yb_rf (v := .slice poS osS.length coS) rfl (by kernel_rfl) (fun W hW => ((HGZ.out).keep hW.1).2 1 _ rfl) Try.underlying23 rfl) ?_
            refine vm (i := 3) (v := .int .i64 ((i : Nat) : Int)) rfl rfl rfl ?_
            refine vp (i := 4) (v := .slice poS i coS) rfl rfl rfl (run_slt (kd := .i64) (j := i) (n := osS.length) (c := coS) (sz := 2) rfl Try.underlying23 (by kernel_rfl) (by kernel_rfl) (by kernel_rfl) (by omega)) ?_
            refine vm (i := 6) (v := .pointer (some ⟨g1, 1, none⟩)) rfl rfl rfl ?_
            refine vb (i := 7) (v := .slice poS osS.length coS) rfl rfl rfl (yb_rf (v := .slice poS osS.length coS) rfl (by kernel_rfl) (fun W hW => ((HGZ.out).keep hW.1).2 1 _ rfl) Try.underlying23 rfl) ?_
            refine vm (i := 8) (v := .int .i64 ((i : Nat) : Int)) rfl rfl rfl ?_
            refine vp (i := 9) (v := .int .i64 (((i + 1) : Nat) : Int)) rfl rfl rfl (run_bin rfl (vx := (.int .i64 ((i : Nat) : Int))) (vy := (.int .i64 ((1 : Nat) : Int))) (by kernel_rfl) (by kernel_rfl) fun w => bn_add (z := (i + 1)) rfl (wr_i64 (by omega)) w) ?_
            refine vp (i := 10) (v := .slice (cutQ poS coS (i + 1) 2) (osS.length - (i + 1)) (coS - (i + 1))) rfl rfl rfl (run_sll (k1 := .i64) (i := (i + 1)) (n := osS.length) (c := coS) (sz := 2) rfl Try.underlying23 (by kernel_rfl) (by kernel_rfl) (by kernel_rfl) (by omega) hcoS) ?_
            refine wpV_ns (fun g => .slice (some ⟨g, 0, none⟩) 0 0) (i := 0) (obi := .cells #[] 55 (0, 0)) rfl rfl rfl (by kernel_rfl) (fun _ => by kernel_rfl) (fun _ => by simp only [List.setIfInBounds_toArray, List.set_cons_succ, List.set_cons_zero] <;> rfl) fun g16 Bg16 Fg16 => ?_
            obtain ⟨dj17_0, dj17_1, dj17_2⟩ : g14 ≠ g16 ∧ g2 ≠ g16 ∧ Dk g16 Kl7 := by simpa only [dj_app_l, dj_app_r, dj_cons_l, dj_cons_r, dj_nil_l, dj_nil_r, dk_app, dk_cons, dk_nil, and_true, true_and, and_assoc] using (show Dk g16 ((g14, .cells (shC (.slice pcS cs.length ccS) (.slice poS osS.length coS) tl0).toArray 32 (0, 0)) :: (g2, .cells (shC (.slice p9 L.length c9) (.slice poS osS.length coS) tl0).toArray 32 (0, 0)) :: Kl7) from Fg16)
            refine wpV_g (AppO W2 55 2 ((g14, .cells (shC (.slice pcS cs.length ccS) (.slice poS osS.length coS) tl0).toArray 32 (0, 0)) :: (g2, .cells (shC (.slice p9 L.length c9) (.slice poS osS.length coS) tl0).toArray 32 (0, 0)) :: Kl7) (0 + i) ((([] : List Cov).flatMap covC) ++ ((osS.take i).flatMap covC))) (i := 5) rfl rfl rfl (by kernel_rfl) rfl (app_any el_cov (m := i) (news := ((osS.take i).flatMap covC)) (y := .slice poS i coS) rfl (by kernel_rfl) (by kernel_rfl) (src_rl (c := coS) Try.underlying23 covC_len covC_one (by decide) (((RL.base HOZ.out).take covC_len i).mono (fun _ h => by cases h)) (by first | (simp only [List.length_append, List.length_take, List.length_drop, List.length_nil, List.length_cons]; done) | (simp only [List.length_append, List.length_take, List.length_drop, List.length_nil, List.length_cons]; omega))) (own_rnone (cells := covC) Bg16) (fun p hp => by cases List.mem_singleton.1 hp; exact (.head _)) (fun p hp => ⟨by simp only [List.mem_cons, List.mem_append, List.nil_append, List.not_mem_nil, or_assoc, or_false, false_or] at hp ⊢ <;> grind, (show Dj ((g14, .cells (shC (.slice pcS cs.length ccS) (.slice poS osS.length coS) tl0).toArray 32 (0, 0)) :: (g2, .cells (shC (.slice p9 L.length c9) (.slice poS osS.length coS) tl0).toArray 32 (0, 0)) :: Kl7) [(g16, .cells #[] 55 (0, 0))] from (by (try simp only [dj_app_l, dj_app_r, dj_cons_l, dj_cons_r, dj_nil_l, dj_nil_r, dk_app, dk_cons, dk_nil, and_true, true_and, and_assoc]); repeat' (first | trivial | assumption | exact Dj.symm (by assumption) | exact Ne.symm (by assumption) | apply And.intro))) p hp⟩) (by omega) (by omega)) (fun _ => by simp only [List.setIfInBounds_toArray, List.set_cons_succ, List.set_cons_zero] <;> rfl) ?_
            rintro v18 K9 ⟨Kl18, O18, N18, rfl⟩
            obtain ⟨dj19_0, dj19_1, dj19_2⟩ : Dk g14 Kl18 ∧ Dk g2 Kl18 ∧ Dj Kl7 Kl18 := by simpa only [dj_app_l, dj_app_r, dj_cons_l, dj_cons_r, dj_nil_l, dj_nil_r, dk_app, dk_cons, dk_nil, and_true, true_and, and_assoc] using (show Dj ((g14, .cells (shC (.slice pcS cs.length ccS) (.slice poS osS.length coS) tl0).toArray 32 (0, 0)) :: (g2, .cells (shC (.slice p9 L.length c9) (.slice poS osS.length coS) tl0).toArray 32 (0, 0)) :: Kl7) Kl18 from N18)
            refine wpV_g (AppO W2 55 2 ((g14, .cells (shC (.slice pcS cs.length ccS) (.slice poS osS.length coS) tl0).toArray 32 (0, 0)) :: (g2, .cells (shC (.slice p9 L.length c9) (.slice poS osS.length coS) tl0).toArray 32 (0, 0)) :: Kl7) ((0 + i) + (osS.length - (i + 1))) (((([] : List Cov).flatMap covC) ++ ((osS.take i).flatMap covC)) ++ ((osS.drop (i + 1)).flatMap covC))) (i := 11) rfl rfl rfl (by kernel_rfl) rfl (app_any el_cov (m := (osS.length - (i + 1))) (news := ((osS.drop (i + 1)).flatMap covC)) (y := .slice (cutQ poS coS (i + 1) 2) (osS.length - (i + 1)) (coS - (i + 1))) rfl (by kernel_rfl) (by kernel_rfl) (src_rl (c := (coS - (i + 1))) Try.underlying23 covC_len covC_one (by decide) (((RL.base HOZ.out).cut covC_len coS (i + 1) hcoS).mono (fun _ h => by cases h)) (by first | (simp only [List.length_append, List.length_take, List.length_drop, List.length_nil, List.length_cons]; done) | (simp only [List.length_append, List.length_take, List.length_drop, List.length_nil, List.length_cons]; omega))) O18 (fun p hp => by simp only [List.mem_cons, List.mem_append, List.nil_append, List.not_mem_nil, or_assoc, or_false, false_or, hp, or_true, true_or]) (fun p hp => ⟨by simp only [List.mem_cons, List.mem_append, List.nil_append, List.not_mem_nil, or_assoc, or_false, false_or] at hp ⊢ <;> grind, (show Dj ((g14, .cells (shC (.slice pcS cs.length ccS) (.slice poS osS.length coS) tl0).toArray 32 (0, 0)) :: (g2, .cells (shC (.slice p9 L.length c9) (.slice poS osS.length coS) tl0).toArray 32 (0, 0)) :: Kl7) Kl18 from (by (try simp only [dj_app_l, dj_app_r, dj_cons_l, dj_cons_r, dj_nil_l, dj_nil_r, dk_app, dk_cons, dk_nil, and_true, true_and, and_assoc]); repeat' (first | trivial | assumption | exact Dj.symm (by assumption) | exact Ne.symm (by assumption) | apply And.intro))) p hp⟩) (by omega) (by omega)) (fun _ => by simp only [List.setIfInBounds_toArray, List.set_cons_succ, List.set_cons_zero] <;> rfl) ?_
            rintro v20 K9 ⟨Kl20, O20, N20, rfl⟩
            obtain ⟨dj21_0, dj21_1, dj21_2⟩ : Dk g14 Kl20 ∧ Dk g2 Kl20 ∧ Dj Kl7 Kl20 := by simpa only [dj_app_l, dj_app_r, dj_cons_l, dj_cons_r, dj_nil_l, dj_nil_r, dk_app, dk_cons, dk_nil, and_true, true_and, and_assoc] using (show Dj ((g14, .cells (shC (.slice pcS cs.length ccS) (.slice poS osS.length coS) tl0).toArray 32 (0, 0)) :: (g2, .cells (shC (.slice p9 L.length c9) (.slice poS osS.length coS) tl0).toArray 32 (0, 0)) :: Kl7) Kl20 from N20)
            refine vm (i := 12) (v := .pointer (some ⟨g14, 1, none⟩)) rfl rfl rfl ?_
            replace O20 := own_app (cells := covC) (l' := ((osS.take i) ++ (osS.drop (i + 1)))) O20 (by simp only [List.flatMap_append, List.flatMap_nil, List.nil_append]) (by first | (simp only [List.length_append, List.length_take, List.length_drop, List.length_nil, List.length_cons]; done) | (simp only [List.length_append, List.length_take, List.length_drop, List.length_nil, List.length_cons]; omega))
            obtain ⟨p22, c22, rfl, n22, R22⟩ := own_rl O20
            refine wpV_s ((g14, .cells (shC (.slice pcS cs.length ccS) (.slice p22 (((osS.take i) ++ (osS.drop (i + 1))).length) c22) tl0).toArray 32 (0, 0)) :: (g2, .cells (shC (.slice p9 L.length c9) (.slice poS osS.length coS) tl0).toArray 32 (0, 0)) :: (Kl7 ++ Kl20)) (i := 13) rfl (by kernel_rfl) rfl rfl rfl (st_row (off := 1) (v := .slice p22 (((osS.take i) ++ (osS.drop (i + 1))).length) c22) rfl (by kernel_rfl) (by kernel_rfl) (.head _) Bg14 (by kernel_rfl) (by first | (simp [Value.cells]; done) | exact Nat.le_of_ble_eq_true rfl) (by intro v hv; simp [Value.cells] at hv; first | (subst hv; rfl) | (rcases hv with rfl <;> rfl)) (by kernel_rfl) (List.forall_mem_cons.2 ⟨.inl rfl, (List.forall_mem_cons.2 ⟨.inr ⟨(.tail _ (.head _)), (by first | assumption | exact Ne.symm (by assumption))⟩, (fun p hp => .inr ⟨(.tail _ (.tail _ hp)), ((show Dk g14 (Kl7 ++ Kl20) from (by (try simp only [dj_app_l, dj_app_r, dj_cons_l, dj_cons_r, dj_nil_l, dj_nil_r, dk_app, dk_cons, dk_nil, and_true, true_and, and_assoc]); repeat' (first | trivial | assumption | exact Dj.symm (by assumption) | exact Ne.symm (by assumption) | apply And.intro))) _ hp)⟩)⟩)⟩)) ?_
            refine wpV_done (by kernel_rfl) (fun W22 hW22 => ?_) _
            refine (show Code.wp _ _ _ _ _ from ?_)
            refine wp_seq ?_
            refine wp_region_L (W0 := W2) ((g14, .cells (shC (.slice pcS cs.length ccS) (.slice p22 (((osS.take i) ++ (osS.drop (i + 1))).length) c22) tl0).toArray 32 (0, 0)) :: (g2, .cells (shC (.slice p9 L.length c9) (.slice poS osS.length coS) tl0).toArray 32 (0, 0)) :: (Kl7 ++ Kl20)) (hW22) ?_
            refine lv (v := .agg (shC (.slice pcS cs.length ccS) (.slice p22 (((osS.take i) ++ (osS.drop (i + 1))).length) c22) tl0).toArray) rfl rfl (yb_load (n := 13) (off := 0) rfl (by kernel_rfl) (.head _) Try.underlying32 rfl (by kernel_rfl) (by first | (simp [Value.cells]; done) | exact Nat.le_of_ble_eq_true rfl) (by kernel_rfl)) ?_
            refine lv (v := .bool (rightX cs ((osS.take i) ++ (osS.drop (i + 1))))) rfl rfl (yb_call (f := 14) (args := #[.agg (shC (.slice pcS cs.length ccS) (.slice p22 (((osS.take i) ++ (osS.drop (i + 1))).length) c22) tl0).toArray]) (fun _ => by kernel_rfl) fun W hW => Right_any cs pcS ccS (by omega) ((osS.take i) ++ (osS.drop (i + 1))) p22 c22 (by rw [List.length_append, List.length_take, List.length_drop]; omega) tl0 W ((RL.base HCZ.out) _ (hW.sub (fun _ h => by cases h))) (R22 _ (hW.sub (fun p hp => by simp only [List.mem_cons, List.mem_append, List.nil_append, List.not_mem_nil, or_assoc, or_false, false_or, hp, true_or, or_true]))) ((rw_sub HRZ.out (er_sub osS i)).keep hW.1) (fun o ho => lrS o ((er_sub osS i).subset ho)) (((good_plugs hg).1 W2).keep hW.1) (good_plugs hg).2) ?_
            refine lp (v := .bool (!(rightX cs ((osS.take i) ++ (osS.drop (i + 1)))))) rfl rfl (run_un rfl (by kernel_rfl) fun w => un_not w) ?_
            refine wpL_done (fun W23 hW23 => ?_)
            refine (show Code.wp _ _ _ _ _ from ?_)
            cases h9 : (rightX cs ((osS.take i) ++ (osS.drop (i + 1)))) with
            | false =>
              exact absurd (show (rightX cs ((osS.take i) ++ (osS.drop (i + 1)))) = true from good_right hg h0 h12 (open_good hoS i)) (by rw [h9]; decide)
            | true =>
              refine wp_cond_false rfl ?_
              refine wp_skip ?_
              refine (show Code.wp _ _ _ _ _ from ?_)
              refine wp_region_L (W0 := W2) ((g14, .cells (shC (.slice pcS cs.length ccS) (.slice p22 (((osS.take i) ++ (osS.drop (i + 1))).length) c22) tl0).toArray 32 (0, 0)) :: (g2, .cells (shC (.slice p9 L.length c9) (.slice poS osS.length coS) tl0).toArray 32 (0, 0)) :: (Kl7 ++ Kl20)) (hW23) ?_
              refine lp (v := .int .i64 (((i + 1) : Nat) : Int)) rfl rfl (run_bin rfl (vx := (.int .i64 ((i : Nat) : Int))) (vy := (.int .i64 ((1 : Nat) : Int))) (by kernel_rfl) (by kernel_rfl) fun w => bn_add (z := (i + 1)) rfl (wr_i64 (by omega)) w) ?_
              refine lm (v := .int .i64 (((i + 1) : Nat) : Int)) rfl rfl ?_
              refine wpL_done (fun W24 hW24 => ?_)
              go_roundw
              case rel =>
                repeat apply Exists.intro
                exact ⟨⟨i + 1, (by omega), rfl, (hW24.sub (fun p hp => by first | exact hp | (simp only [List.mem_cons, List.mem_append, List.nil_append, List.not_mem_nil, or_assoc, or_false, false_or] at hp ⊢ <;> grind)))⟩, rfl⟩
              case measure => (show osS.length - (intOf (.int .i64 (((i + 1) : Nat) : Int))).toNat < osS.length - (intOf (.int .i64 ((i : Nat) : Int))).toNat); simp only [intOf]; omega
      | true =>
        have h3 : (tallX cs) < (tallX L) := of_decide_eq_true hd3
        clear hd3
        exact absurd h3 (by omega)
end Go.Proofs.Ytldhjhjomokkgaa
/- ShipLess holds for every input: the program's own answer is true; each argument reads afterwards as it read before. -/
namespace Go.Proofs.Ytldhjhjomokkgaa
open Go.ChangeShapes Go.WideShapes Go.ChangeAt Go.RowKit Tw
set_option maxRecDepth 100000 in
theorem shipLess_lifted (os : Os) (started : os.Started) (H : Type) (enc : TypeId × Value → H) :
    ReturnsInHanded {} Try.checked os 7 .any (Rows.shipLessSpec.pre6 enc Try.prog Try.f7 Rows.shipLessRow.domain false) (Rows.shipLessSpec.post enc Try.prog Try.f7 false true false false) := by
  refine returnsInHanded_of_change (C := Try.checked) own started (by kernel_rfl) Try.func7
    (ChangeSpec.witness6 (enc := enc) (C := Try.checked) false ⟨#[], #[.slice none 0 0, .int .u32 0, .int .u8 0], []⟩ 8 (by kernel_rfl) (by kernel_rfl) (by kernel_rfl) (by kernel_rfl)) ?_
  intro W base args ds gs before hval0 hW _ _
  have hval : ∀ (j : Nat) t v, Try.f7.params[j]? = some t → args[j]? = some v → Value.okWide Try.prog W .any base t v := hval0
  have hW2 := hW
  obtain ⟨p, q, hA0, hV, rfl, hfz, hnd⟩ := hW2
  have hA : DataW.TrodAll enc Try.prog W 0 (fun _ => true) true Try.f7.params.toList args.toList ds p := hA0
  rw [Try.params7] at hA hval
  obtain ⟨v0, vs0, d0, ds0, p0, q0, hargs, rfl, rfl, h0, r0⟩ := trodAll_cons hA
  obtain ⟨v1, vs1, d1, ds1, p1, q1, rfl, rfl, rfl, h1, r1⟩ := trodAll_cons r0
  obtain ⟨v2, vs2, d2, ds2, p2, q2, rfl, rfl, rfl, h2, r2⟩ := trodAll_cons r1
  obtain ⟨rfl, rfl, rfl⟩ := trodAll_nil r2
  obtain rfl : args = #[v0, v1, v2] := by cases args; simp_all
  obtain ⟨rfl, rfl⟩ := trodVars_none hV
  have k0 := h0
  have lt0 : ∀ x ∈ p0, x.block < W.heap.size := by obtain ⟨m, hm⟩ := k0; exact DataW.trod_lt m _ _ _ hm
  obtain ⟨p0_, c0, l0, rfl, hb0, hok0, hl0, hc0⟩ := open_recs (sz := 4) Try.underlying48 opens_pl (by kernel_rfl) (by omega) (fun _ => rfl) (hval 0 48 v0 rfl rfl) h0
  obtain ⟨a1, rfl, rfl, rfl, w1⟩ := open_int Try.underlying49 (hval 1 49 v1 rfl rfl) h1
  have rr1 : 0 ≤ a1 ∧ a1 ≤ 4294967295 := of_wf w1
  obtain ⟨n1, rfl⟩ : ∃ n : Nat, a1 = (n : Int) := ⟨a1.toNat, by omega⟩
  obtain ⟨a2, rfl, rfl, rfl, w2⟩ := open_int Try.underlying5 (hval 2 5 v2 rfl rfl) h2
  have rr2 : 0 ≤ a2 ∧ a2 ≤ 255 := of_wf w2
  obtain ⟨n2, rfl⟩ : ∃ n : Nat, a2 = (n : Int) := ⟨a2.toNat, by omega⟩
  clear hA0 hval0
  refine (ShipLess_law l0 p0_ c0 n1 (Nat.le_trans hl0 (by unfold maxLen; omega)) hc0 hok0 (by omega) n2 (by omega) W hb0).mono fun e W' ⟨he, bel⟩ => ?_
  subst he
  exact ⟨_, rfl, _, _, _, [], _, [], hW, (trodAll_cons_mk (shut_bool Try.underlying4 _) trodAll_mk0), (trodAll_cons_mk (Below.trod laidOut (by kernel_rfl) (of_decide_eq_true (by kernel_rfl)) k0 bel lt0) (trodAll_cons_mk (shut_int Try.underlying49 w1) (trodAll_cons_mk (shut_int Try.underlying5 w2) trodAll_mk0))), rfl, bel.frame _, fun h => by cases h⟩
theorem shipLess_proved : Rows.ShipLessSaid :=
  OpenClaim.holds_of_wide 7 Try.f7 rfl rfl rfl rfl rfl rfl rfl ⟨rfl, rfl, rfl, rfl, rfl⟩ rfl rfl rfl rfl rfl (by kernel_rfl) Try.func7 (by kernel_rfl)
    (of_decide_eq_true (by kernel_rfl)) (by unfold Func.isWrapper; first | (rw [if_pos (by decide +kernel)]; kernel_rfl) | (rw [if_neg (by decide +kernel)]; exact ⟨rfl, rfl⟩))
    (fun os started H enc _ => shipLess_lifted os started H enc)
#print axioms shipLess_proved
end Go.Proofs.Ytldhjhjomokkgaa
