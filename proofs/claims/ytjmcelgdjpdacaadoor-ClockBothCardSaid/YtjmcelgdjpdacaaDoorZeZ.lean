import Derived.Test.YtjmcelgdjpdacaaDoorG06
import Derived.Test.YtjmcelgdjpdacaaDoorG07
/- ClockBoth: the law holds for every input; no condition but the row's own. -/
set_option linter.unusedVariables false
set_option linter.unusedSimpArgs false
set_option linter.unusedSectionVars false
/- When work begins and ends in spans that are apart. Plain. -/
namespace Go.Proofs.YtjmcelgdjpdacaaDoor
open Go.RowKit Tw
open Go
theorem ap_cons {bef : Int} {s : Int × Int} {l : List (Int × Int)} (h : apFrom bef (s :: l) = true) : bef < s.1 ∧ s.1 < s.2 ∧ s.2 ≤ 100000000 ∧ apFrom s.2 l = true := by
  simp only [apFrom, Bool.and_eq_true, decide_eq_true_eq] at h
  exact ⟨h.1.1.1, h.1.1.2, h.1.2, h.2⟩
theorem ap_mono : ∀ {l : List (Int × Int)} {b b' : Int}, b' ≤ b → apFrom b l = true → apFrom b' l = true
  | [], _, _, _, _ => rfl
  | s :: l, b, b', hb, h => by
    obtain ⟨h1, h2, h3, h4⟩ := ap_cons h
    simp only [apFrom, Bool.and_eq_true, decide_eq_true_eq]
    exact ⟨⟨⟨by omega, h2⟩, h3⟩, h4⟩
theorem fin_pos : ∀ {l : List (Int × Int)} {bef x m b : Int}, apFrom bef l = true → 1 ≤ m → finS x m l = some b → bef < b ∧ x < b ∧ b ≤ 100000000
  | [], _, _, _, _, _, _, h => by simp [finS] at h
  | s :: l, bef, x, m, b, ha, hm, h => by
    obtain ⟨h1, h2, h3, h4⟩ := ap_cons ha
    simp only [finS] at h
    split at h
    · cases h; omega
    · have := fin_pos h4 (by omega) h
      omega
theorem fin_same : ∀ {l : List (Int × Int)} {bef x y m : Int}, apFrom bef l = true → x ≤ bef + 1 → y ≤ bef + 1 → finS x m l = finS y m l
  | [], _, _, _, _, _, _, _ => rfl
  | s :: l, bef, x, y, m, ha, hx, hy => by
    obtain ⟨h1, h2, h3, h4⟩ := ap_cons ha
    simp only [finS]
    rw [show max s.1 x = s.1 from by omega, show max s.1 y = s.1 from by omega, fin_same (x := x) (y := y) h4 (by omega) (by omega)]
theorem fin_more : ∀ {l : List (Int × Int)} {bef x m k b : Int}, apFrom bef l = true → 1 ≤ m → 1 ≤ k → finS x (m + k) l = some b → ∃ a, finS x m l = some a ∧ a < b
  | [], _, _, _, _, _, _, _, _, h => by simp [finS] at h
  | s :: l, bef, x, m, k, b, ha, hm, hk, h => by
    obtain ⟨h1, h2, h3, h4⟩ := ap_cons ha
    simp only [finS] at h ⊢
    split at h
    · rw [if_pos (by omega)]
      cases h
      exact ⟨_, rfl, by omega⟩
    · by_cases hc : m ≤ s.2 - max s.1 x
      · rw [if_pos hc]
        have := fin_pos h4 (by omega) h
        exact ⟨_, rfl, by omega⟩
      · rw [if_neg hc]
        refine fin_more h4 (by omega) hk ?_
        rw [← h]
        congr 1
        omega
theorem fin_later : ∀ {l : List (Int × Int)} {bef x y m m' c : Int}, apFrom bef l = true → 1 ≤ m' → m' ≤ m → x ≤ y → finS y m l = some c → ∃ a, finS x m' l = some a ∧ a ≤ c
  | [], _, _, _, _, _, _, _, _, _, _, h => by simp [finS] at h
  | s :: l, bef, x, y, m, m', c, ha, hm, hmm, hxy, h => by
    obtain ⟨h1, h2, h3, h4⟩ := ap_cons ha
    simp only [finS] at h ⊢
    split at h
    · rw [if_pos (by omega)]
      cases h
      exact ⟨_, rfl, by omega⟩
    · by_cases hc : m' ≤ s.2 - max s.1 x
      · rw [if_pos hc]
        have := fin_pos h4 (by omega) h
        exact ⟨_, rfl, by omega⟩
      · rw [if_neg hc]
        exact fin_later h4 (by omega) (by omega) hxy h
theorem fin_parts : ∀ {l : List (Int × Int)} {bef x m k a : Int}, apFrom bef l = true → 1 ≤ m → 1 ≤ k → finS x m l = some a → finS a k l = finS x (m + k) l
  | [], _, _, _, _, _, _, _, _, h => by simp [finS] at h
  | s :: l, bef, x, m, k, a, ha, hm, hk, h => by
    obtain ⟨h1, h2, h3, h4⟩ := ap_cons ha
    simp only [finS] at h ⊢
    split at h
    · rename_i hc
      cases h
      rw [show max s.1 (max s.1 x + m) = max s.1 x + m from by omega]
      by_cases hk2 : k ≤ s.2 - (max s.1 x + m)
      · rw [if_pos hk2, if_pos (by omega), Int.add_assoc]
      · rw [if_neg hk2, if_neg (by omega), show k - max 0 (s.2 - (max s.1 x + m)) = m + k - max 0 (s.2 - max s.1 x) from by omega]
        exact fin_same h4 (by omega) (by omega)
    · rename_i hc
      have hp := fin_pos h4 (by omega) h
      rw [if_neg (by omega), if_neg (by omega), show max 0 (s.2 - max s.1 a) = 0 from by omega, Int.sub_zero, fin_parts h4 (by omega) hk h]
      congr 1
      omega
theorem fit_pos : ∀ {l : List (Int × Int)} {bef x m b : Int}, apFrom bef l = true → 1 ≤ m → fitS x m l = some b → bef < b ∧ x ≤ b ∧ b + m ≤ 100000000
  | [], _, _, _, _, _, _, h => by simp [fitS] at h
  | s :: l, bef, x, m, b, ha, hm, h => by
    obtain ⟨h1, h2, h3, h4⟩ := ap_cons ha
    simp only [fitS] at h
    split at h
    · cases h; omega
    · have := fit_pos h4 hm h
      omega
theorem fit_later : ∀ {l : List (Int × Int)} {bef x y m m' c : Int}, apFrom bef l = true → 1 ≤ m' → m' ≤ m → x ≤ y → fitS y m l = some c → ∃ a, fitS x m' l = some a ∧ a ≤ c
  | [], _, _, _, _, _, _, _, _, _, _, h => by simp [fitS] at h
  | s :: l, bef, x, y, m, m', c, ha, hm, hmm, hxy, h => by
    obtain ⟨h1, h2, h3, h4⟩ := ap_cons ha
    simp only [fitS] at h ⊢
    split at h
    · rw [if_pos (by omega)]
      cases h
      exact ⟨_, rfl, by omega⟩
    · by_cases hc : m' ≤ s.2 - max s.1 x
      · rw [if_pos hc]
        have := fit_pos h4 (by omega) h
        exact ⟨_, rfl, by omega⟩
      · rw [if_neg hc]
        exact fit_later h4 hm hmm hxy h
theorem made_from_apart : ∀ (n : Nat) (at_ : Int) (l : List Int), (∀ x ∈ l, 0 ≤ x ∧ x ≤ 255) → 0 ≤ at_ → at_ + 512 * n ≤ 100000000 → apFrom (at_ - 1) (madeFrom at_ n l) = true
  | 0, _, _, _, _, _ => rfl
  | n + 1, _, [], _, _, _ => rfl
  | n + 1, _, [_], _, _, _ => rfl
  | n + 1, at_, x :: y :: l, h, h0, h1 => by
    have hx := h x (List.mem_cons_self ..)
    have hy := h y (List.mem_cons_of_mem _ (List.mem_cons_self ..))
    have := made_from_apart n (at_ + x + 1 + y + 1) l (fun z hz => h z (List.mem_cons_of_mem _ (List.mem_cons_of_mem _ hz))) (by omega) (by omega)
    rw [show at_ + x + 1 + y + 1 - 1 = at_ + x + 1 + y from by omega] at this
    simp only [madeFrom, apFrom, Bool.and_eq_true, decide_eq_true_eq]
    exact ⟨⟨⟨by omega, by omega⟩, by omega⟩, this⟩
theorem made_apFrom {l : List Int} (h : ∀ x ∈ l, 0 ≤ x ∧ x ≤ 255) : apFrom (-1) (madeL l) = true := made_from_apart 40 0 l h (by omega) (by omega)
theorem made_length (l : List Int) : (madeL l).length ≤ 40 := made_len 40 0 l
theorem made_apart {l : List Int} (h : ∀ x ∈ l, 0 ≤ x ∧ x ≤ 255) : apart (madeL l) = true := by
  unfold apart
  rw [made_apFrom h, Bool.and_true, decide_eq_true_eq]
  have := made_length l
  omega
theorem finish_is {l : List (Int × Int)} {p : Option Addr} {cap : Nat} {W : World} (h : SL W p l) (ha : apart l = true) {x m : Int} (hx : 0 ≤ x ∧ x ≤ 100000000) (hm : 1 ≤ m ∧ m ≤ 100000000) {r : Option Int} (hr : finS x m l = r) :
    Calls Tryd.prog 20 #[.slice p l.length cap, .int .i64 x, .int .i64 m] W fun e w' => e = .returned (endV r) ∧ Below W.heap.size W w' := by
  have hl := apart_len ha
  have := Finish_any p cap l W h (by omega) x m
  rw [if_pos ⟨ha, by simp [isT]; omega, hm⟩, hr] at this
  exact this
theorem fit_is {l : List (Int × Int)} {p : Option Addr} {cap : Nat} {W : World} (h : SL W p l) (ha : apart l = true) {x m : Int} (hx : 0 ≤ x ∧ x ≤ 100000000) (hm : 1 ≤ m ∧ m ≤ 100000000) {r : Option Int} (hr : fitS x m l = r) :
    Calls Tryd.prog 22 #[.slice p l.length cap, .int .i64 x, .int .i64 m] W fun e w' => e = .returned (endV r) ∧ Below W.heap.size W w' := by
  have hl := apart_len ha
  have := Fit_any p cap l W h (by omega) x m
  rw [if_pos ⟨ha, by simp [isT]; omega, hm⟩, hr] at this
  exact this
theorem between_is {l : List (Int × Int)} {p : Option Addr} {cap : Nat} {W : World} (h : SL W p l) (ha : apart l = true) {x y : Int} (hx : 0 ≤ x) (hxy : x ≤ y) (hy : y ≤ 100000000) :
    Calls Tryd.prog 21 #[.slice p l.length cap, .int .i64 x, .int .i64 y] W fun e w' => e = .returned (.tuple #[.int .i64 (btw x y l), .int .i64 0]) ∧ Below W.heap.size W w' := by
  have hl := apart_len ha
  have := Between_any p cap l W h (by omega) x y
  rw [if_pos ⟨ha, by simp [isT]; omega, by simp [isT]; omega, hxy⟩] at this
  exact this
end Go.Proofs.YtjmcelgdjpdacaaDoor
/- What is worked in which time. Plain; and a list put behind one span. -/
namespace Go.Proofs.YtjmcelgdjpdacaaDoor
open Go.RowKit Tw
open Go
theorem btw_nonneg : ∀ (l : List (Int × Int)) (x y : Int), 0 ≤ btw x y l
  | [], _, _ => Int.le_refl _
  | s :: l, x, y => by
    have := btw_nonneg l x y
    simp only [btw]
    omega
theorem btw_after : ∀ {l : List (Int × Int)} {bef x y : Int}, apFrom bef l = true → y ≤ bef + 1 → btw x y l = 0
  | [], _, _, _, _, _ => rfl
  | s :: l, bef, x, y, ha, hy => by
    obtain ⟨h1, h2, h3, h4⟩ := ap_cons ha
    simp only [btw]
    rw [btw_after h4 (by omega)]
    omega
theorem btw_mono : ∀ (l : List (Int × Int)) {x y y' : Int}, y ≤ y' → btw x y l ≤ btw x y' l
  | [], _, _, _, _ => Int.le_refl _
  | s :: l, x, y, y', h => by
    have := btw_mono l (x := x) h
    simp only [btw]
    omega
theorem btw_le : ∀ {l : List (Int × Int)} {bef x y : Int}, apFrom bef l = true → btw x y l ≤ max 0 (y - max x (bef + 1))
  | [], _, _, _, _ => by simp only [btw]; omega
  | s :: l, bef, x, y, ha => by
    obtain ⟨h1, h2, h3, h4⟩ := ap_cons ha
    have := btw_le (x := x) (y := y) h4
    simp only [btw]
    omega
theorem in_cons (s : Int × Int) (l : List (Int × Int)) (x : Int) : inL (s :: l) x = ((decide (s.1 ≤ x) && decide (x < s.2)) || inL l x) := rfl
theorem fin_done : ∀ {l : List (Int × Int)} {bef x m e : Int}, apFrom bef l = true → 1 ≤ m → finS x m l = some e → btw x e l = m ∧ inL l (e - 1) = true
  | [], _, _, _, _, _, _, h => by simp [finS] at h
  | s :: l, bef, x, m, e, ha, hm, h => by
    obtain ⟨h1, h2, h3, h4⟩ := ap_cons ha
    simp only [finS] at h
    rw [in_cons]
    simp only [btw]
    split at h
    · cases h
      rw [btw_after h4 (by omega)]
      refine ⟨by omega, ?_⟩
      rw [Bool.or_eq_true]
      refine .inl ?_
      rw [Bool.and_eq_true, decide_eq_true_eq, decide_eq_true_eq]
      omega
    · have hp := fin_pos h4 (by omega) h
      obtain ⟨i1, i2⟩ := fin_done h4 (by omega) h
      rw [i1, i2, Bool.or_true]
      exact ⟨by omega, rfl⟩
theorem fin_few : ∀ {l : List (Int × Int)} {bef x m : Int}, apFrom bef l = true → 1 ≤ m → finS x m l = none → btw x 100000000 l < m
  | [], _, _, _, _, hm, _ => by simp only [btw]; omega
  | s :: l, bef, x, m, ha, hm, h => by
    obtain ⟨h1, h2, h3, h4⟩ := ap_cons ha
    simp only [finS] at h
    split at h
    · cases h
    · have := fin_few h4 (by omega) h
      simp only [btw]
      omega
theorem fin_enough {l : List (Int × Int)} {bef x m e : Int} (ha : apFrom bef l = true) (hm : 1 ≤ m) (h : finS x m l = some e) : m ≤ btw x 100000000 l := by
  have h1 := fin_done ha hm h
  have h2 := fin_pos ha hm h
  have := btw_mono l (x := x) h2.2.2
  omega
theorem fit_done : ∀ {l : List (Int × Int)} {bef x m b : Int}, apFrom bef l = true → 1 ≤ m → fitS x m l = some b → btw b (b + m) l = m
  | [], _, _, _, _, _, _, h => by simp [fitS] at h
  | s :: l, bef, x, m, b, ha, hm, h => by
    obtain ⟨h1, h2, h3, h4⟩ := ap_cons ha
    simp only [fitS] at h
    simp only [btw]
    split at h
    · cases h
      rw [btw_after h4 (by omega)]
      omega
    · have hp := fit_pos h4 hm h
      rw [fit_done h4 hm h]
      omega
theorem fit_fin : ∀ {l : List (Int × Int)} {bef x m m' b : Int}, apFrom bef l = true → 1 ≤ m' → m' ≤ m → fitS x m l = some b → ∃ e, finS x m' l = some e ∧ e ≤ b + m
  | [], _, _, _, _, _, _, _, _, h => by simp [fitS] at h
  | s :: l, bef, x, m, m', b, ha, hm, hmm, h => by
    obtain ⟨h1, h2, h3, h4⟩ := ap_cons ha
    simp only [fitS] at h
    simp only [finS]
    split at h
    · cases h
      rw [if_pos (by omega)]
      exact ⟨_, rfl, by omega⟩
    · have hp := fit_pos h4 (by omega) h
      by_cases hc : m' ≤ s.2 - max s.1 x
      · rw [if_pos hc]; exact ⟨_, rfl, by omega⟩
      · rw [if_neg hc]; exact fit_fin h4 (by omega) (by omega) h
theorem fit_none : ∀ {l : List (Int × Int)} {x m : Int}, fitS x m l = none → ∀ s ∈ l, ¬ m ≤ s.2 - max s.1 x
  | [], _, _, _, _, hs => by cases hs
  | s :: l, x, m, h, s', hs => by
    simp only [fitS] at h
    split at h
    · cases h
    · rename_i hc
      rcases List.mem_cons.1 hs with rfl | hs
      · exact hc
      · exact fit_none h s' hs
theorem ap_mem : ∀ {l : List (Int × Int)} {bef : Int} {s : Int × Int}, apFrom bef l = true → s ∈ l → bef < s.1 ∧ s.1 < s.2 ∧ s.2 ≤ 100000000
  | [], _, _, _, hs => by cases hs
  | a :: l, bef, s, ha, hs => by
    obtain ⟨h1, h2, h3, h4⟩ := ap_cons ha
    rcases List.mem_cons.1 hs with rfl | hs
    · exact ⟨h1, h2, h3⟩
    · have := ap_mem h4 hs; omega
theorem fit_least : ∀ {l : List (Int × Int)} {bef x m b : Int} {s : Int × Int}, apFrom bef l = true → fitS x m l = some b → s ∈ l → m ≤ s.2 - max s.1 x → b ≤ max s.1 x
  | [], _, _, _, _, _, _, h, _, _ => by simp [fitS] at h
  | a :: l, bef, x, m, b, s, ha, h, hs, hm => by
    obtain ⟨h1, h2, h3, h4⟩ := ap_cons ha
    simp only [fitS] at h
    split at h
    · cases h
      rcases List.mem_cons.1 hs with rfl | hs
      · omega
      · have := ap_mem h4 hs; omega
    · rename_i hc
      rcases List.mem_cons.1 hs with rfl | hs
      · exact (hc hm).elim
      · exact fit_least h4 h hs hm
theorem btw_one : ∀ {l : List (Int × Int)} {bef f n : Int}, apFrom bef l = true → 1 ≤ n → btw f (f + n) l = n → ∃ s ∈ l, s.1 ≤ f ∧ f + n ≤ s.2
  | [], _, _, _, _, hn, h => by simp only [btw] at h; omega
  | s :: l, bef, f, n, ha, hn, h => by
    obtain ⟨h1, h2, h3, h4⟩ := ap_cons ha
    have hb := btw_le (x := f) (y := f + n) h4
    have h0 := btw_nonneg l f (f + n)
    simp only [btw] at h
    by_cases hc : s.1 ≤ f ∧ f + n ≤ s.2
    · exact ⟨s, List.mem_cons_self .., hc⟩
    · by_cases hd : s.2 ≤ f
      · obtain ⟨s', hs, h'⟩ := btw_one h4 hn (f := f) (by omega)
        exact ⟨s', List.mem_cons_of_mem _ hs, h'⟩
      · exfalso
        omega
theorem fit_early {l : List (Int × Int)} {bef x n b f : Int} (ha : apFrom bef l = true) (hn : 1 ≤ n) (h : fitS x n l = some b) (hx : x ≤ f) (hf : f < b) : btw f (f + n) l ≠ n := fun e => by
  obtain ⟨s, hs, h1, h2⟩ := btw_one ha hn e
  have := fit_least ha h hs (by omega)
  omega
set_option maxRecDepth 100000 in
theorem app_one {w : World} {o : Oper} {a : Act} {K : List (Nat × Obj)} {s x : Operand} {h : Nat} {f t : Int} {m : List (Int × Int)} {p : Option Addr} {cap : Nat} (ho : o.op = .call { callee := .builtin .append, args := #[s, x], argTypes := #[22, 22] })
    (hs : a.eval s = .slice (some ⟨h, 0, none⟩) 1 1) (hx : a.eval x = .slice p m.length cap) (hm : (h, .cells #[.int .i64 f, .int .i64 t] 41 (0, 0)) ∈ K) (hB : w.heap.size ≤ h) (hL : HasL w K m p cap) (hlen : m.length ≤ 1000) :
    ∀ W, KS w K W → ∃ v K' w', (execOp a.eval o).run Tryd.prog W = .ok (.value v) w' ∧ KS w K' w' ∧ GL w K ((f, t) :: m) v K' := by
  intro W hW
  obtain ⟨i, hi, hz, hsz, hby⟩ := span_info
  have hh := hW.2 _ hm
  have run : ∀ {v : Value} {w' : World}, (Builtin.append_ #[22, 22] o.type #[.slice (some ⟨h, 0, none⟩) 1 1, .slice p m.length cap]).run Tryd.prog W = .ok v w' → (execOp a.eval o).run Tryd.prog W = .ok (.value v) w' := fun hr => by
    unfold execOp
    simp only [ho, resolve, invoke, builtin, Sem.run_bind, Sem.run_pure, Result.andThen_ok, List.map_toArray, List.map_cons, List.map_nil, hs, hx, hr]
  have hav := hL W hW
  by_cases h0 : m = []
  · subst h0
    have same : KS w K (W.setRow h #[.int .i64 f, .int .i64 t]) := hW.setRow hB hh (fun q hq => by
      by_cases e : q.1 = h
      · refine .inl ?_
        have h1 := hW.2 q hq
        rw [e, hh] at h1
        injection h1 with h1
        obtain ⟨q1, q2⟩ := q
        simp only at e h1
        rw [e, ← h1]
      · exact .inr ⟨hq, e⟩)
    have hg : GL w K ((f, t) :: []) (.slice (some ⟨h, 0, none⟩) 1 1) K := ⟨_, 1, rfl, fun W2 h2 => lit_av (m := [(f, t)]) (h2.2 _ hm) (by simp), fun _ hq => hq⟩
    cases p with
    | none =>
      refine ⟨_, K, W, run ?_, hW, hg⟩
      simp [Builtin.append_, run_underlying Tryd.underlying22, sizeOf, typeInfo, hi, Builtin.lenOf, Builtin.firstCells, storeCells]
    | some ad =>
      have hr := run_append_room (P := Tryd.prog) W 22 o.type 41 i Tryd.underlying22 hi h 1 1 _ hh ad 0 cap [] (by simp) (by intro j u hu; simp at hu) (by simp) (by omega) (by rw [hsz]; simp)
      rw [hsz] at hr
      exact ⟨_, K, _, run hr, same, hg⟩
  · obtain ⟨b, off, rfl, hb, hc⟩ := hav.2.resolve_left h0
    have hpos : 0 < m.length := Nat.pos_of_ne_zero (fun e => h0 (List.length_eq_zero_iff.1 e))
    have src : ∀ (j : Nat) (u : Value), (flat m)[j]? = some u → W.cell? ((⟨b, off, none⟩ : Addr).add j) = some u := fun j u hu => by
      have hadd : (⟨b, off, none⟩ : Addr).add j = ⟨b, off + j, none⟩ := by unfold Addr.add; split <;> simp_all
      rw [hadd]
      have hjl := (List.getElem?_eq_some_iff.1 hu).1
      rw [flat_length] at hjl
      obtain ⟨sp, hsp⟩ : ∃ s, m[j / 2]? = some s := ⟨_, List.getElem?_eq_getElem (by omega)⟩
      obtain ⟨q1, q2⟩ := flat_get m (j / 2) sp hsp
      obtain ⟨r1, r2⟩ := hc (j / 2) sp hsp
      rcases Nat.mod_two_eq_zero_or_one j with e | e
      · rw [show off + j = off + 2 * (j / 2) from by omega, r1]
        rw [show 2 * (j / 2) = j from by omega, hu] at q1
        exact q1.symm
      · rw [show off + j = off + 2 * (j / 2) + 1 from by omega, r2]
        rw [show 2 * (j / 2) + 1 = j from by omega, hu] at q2
        exact q2.symm
    have hr := run_append_grow (P := Tryd.prog) W 22 o.type 41 i _ Tryd.underlying22 hi hz ⟨h, 0, none⟩ 1 1 [.int .i64 f, .int .i64 t] (by rw [hsz]; rfl) (new_cells hh) ⟨b, off, none⟩ m.length cap (flat m) (by rw [hsz]; exact flat_length m) src (by omega) (by omega)
      (growslice_fits (by omega) (by rw [hby]; omega))
    have hg1 := grownCap_ge W (1 + m.length) 1 41
    have hg2 := grownCap_le_maxLen W (1 + m.length) 1 41 (by unfold maxLen; omega)
    refine ⟨_, _, _, run hr, hW.drew.alloc _, some ⟨W.heap.size, 0, none⟩, grownCap W (1 + m.length) 1 41, (by have e : ((f, t) :: m : List (Int × Int)).length = 1 + m.length := Nat.add_comm ..; rw [e]), fun W2 h2 => AV.of_row (h2.2 _ (.head _)) ?_, fun _ hq => .tail _ hq⟩
    refine ⟨?_, hg2, by rw [List.length_cons, Nat.add_comm]; exact hg1, flat_length _, ?_⟩
    · simp only [Array.size_append, List.size_toArray, size_zeroCells, flat_length, List.length_cons, List.length_nil]
      have : (Value.agg #[Value.int .i64 0, Value.int .i64 0]).cells.size = 2 := rfl
      rw [this]
      omega
    · simp only [Array.toList_append, List.append_assoc]
      rw [← List.append_assoc, show (((f, t) :: m : List (Int × Int)).length) * 2 = ([Value.int .i64 f, Value.int .i64 t] ++ flat m).length from by simp only [List.length_append, List.length_cons, List.length_nil, flat_length]; omega]
      exact List.take_left
end Go.Proofs.YtjmcelgdjpdacaaDoor
/- Paths of a walk that come together again; numbers of 16 bits. -/
namespace Tw
open Go Go.RowKit Go.Proofs.YtjmcelgdjpdacaaDoor
def normQ (R : Act → World → Prop) : Exit → Act → World → Prop
  | .normal, a, w => R a w
  | _, _, _ => False
def preW (P : Program) (R : Act → World → Prop) : Nat → Code → Act → World → Prop
  | 0, _, a, w => R a w
  | n + 1, .seq x y, a, w => x.wp P (normQ (preW P R n y)) a w
  | _ + 1, _, _, _ => False
def cutT : Nat → Code → Code
  | n + 1, .seq _ b => cutT n b
  | _, c => c
theorem wp_joins {P : Program} {Q : Exit → Act → World → Prop} (R : Act → World → Prop) : ∀ (n : Nat) {c : Code} {a : Act} {w : World}, preW P R n c a w → (∀ a' w', R a' w' → (cutT n c).wp P Q a' w') → c.wp P Q a w
  | 0, c, a, w, h1, h2 => by
    have := h2 a w h1
    cases c <;> exact this
  | n + 1, c, a, w, h1, h2 => by
    cases c with
    | seq x y =>
      refine wp_seq (wp_mono h1 ?_)
      rintro e a' w' hq
      cases e with
      | normal => exact wp_joins R n hq h2
      | _ => exact hq.elim
    | _ => exact h1.elim
def JoinR (F : (Nat → Value) → Array Value) (W0 : Base) (K : List (Nat × Obj)) (a : Act) (w : World) : Prop := (∃ z, a = { tmps := F z, defers := [] }) ∧ KS W0 K w
theorem join_mk {F : (Nat → Value) → Array Value} {W0 : Base} {K : List (Nat × Obj)} {T : Array Value} {w : World} (h : F (fun i => T.getD i undef) = T) (hK : KS W0 K w) : JoinR F W0 K { tmps := T, defers := [] } w := ⟨⟨_, by rw [h]⟩, hK⟩
end Tw
namespace Go.Proofs.YtjmcelgdjpdacaaDoor
open Go.RowKit Tw
open Go
theorem run_min16 {o : Oper} {a : Act} {x y z : Int} {px py : Operand} {tx ty : TypeId} {w : World} (ho : o.op = .call { callee := .builtin .min, args := #[px, py], argTypes := #[tx, ty] }) (hp : #[px, py].map a.eval = #[.int .u16 x, .int .u16 y]) (hm : min x y = z) : (execOp a.eval o).run Tryd.prog w = .ok (.value (.int .u16 z)) w := by
  subst hm
  go_simp
theorem run_max16 {o : Oper} {a : Act} {x y z : Int} {px py : Operand} {tx ty : TypeId} {w : World} (ho : o.op = .call { callee := .builtin .max, args := #[px, py], argTypes := #[tx, ty] }) (hp : #[px, py].map a.eval = #[.int .u16 x, .int .u16 y]) (hm : max x y = z) : (execOp a.eval o).run Tryd.prog w = .ok (.value (.int .u16 z)) w := by
  subst hm
  go_simp
theorem run_shr16 {x z : Int} {px py : Operand} (h : x / 2 = z) (hx : 0 ≤ x) (hx2 : x ≤ 65535) (w : World) : (do eqGuard .shr 33 px py (.int .u16 x) (.int .u64 1); binOp .shr 33 (.int .u16 x) (.int .u64 1) : Sem Value).run Tryd.prog w = .ok (.int .u16 z) w := by
  subst h
  go_simp
end Go.Proofs.YtjmcelgdjpdacaaDoor
namespace Go.Proofs.YtjmcelgdjpdacaaDoor
open Go.RowKit Tw
open Go
theorem between_r {l : List (Int × Int)} {p : Option Addr} {cap : Nat} {W : World} (h : SL W p l) (ha : apart l = true) {x y r : Int} (hx : 0 ≤ x) (hxy : x ≤ y) (hy : y ≤ 100000000) (hr : btw x y l = r) :
    Calls Tryd.prog 21 #[.slice p l.length cap, .int .i64 x, .int .i64 y] W fun e w' => e = .returned (.tuple #[.int .i64 r, .int .i64 0]) ∧ Below W.heap.size W w' := hr ▸ between_is h ha hx hxy hy
theorem in_r {l : List (Int × Int)} {p : Option Addr} {cap : Nat} {W : World} (h : SL W p l) (ha : apart l = true) {x : Int} {r : Bool} (hr : inL l x = r) :
    Calls Tryd.prog 23 #[.slice p l.length cap, .int .i64 x] W fun e w' => e = .returned (.bool r) ∧ Below W.heap.size W w' := by
  have hl := apart_len ha
  exact hr ▸ in_any p cap l W h (by omega) x
theorem app_one' {w : World} {o : Oper} {a : Act} {K : List (Nat × Obj)} {s x : Operand} {h : Nat} {f t : Int} {m : List (Int × Int)} {p : Option Addr} {cap : Nat} (ho : o.op = .call { callee := .builtin .append, args := #[s, x], argTypes := #[22, 22] })
    (hs : a.eval s = .slice (some ⟨h, 0, none⟩) 1 1) (hx : a.eval x = .slice p m.length cap) (hm : (h, .cells #[.int .i64 f, .int .i64 t] 41 (0, 0)) ∈ K) (hB : w.heap.size ≤ h) (hL : HasL w K m p cap) (hlen : m.length ≤ 1000) :
    ∀ W, KS w K W → ∃ v K' w', (execOp a.eval o).run Tryd.prog W = .ok (.value v) w' ∧ KS w K' w' ∧ ∃ L, (f, t) :: m = L ∧ GL w K L v K' := fun W hW =>
  let ⟨v, K', w', h1, h2, h3⟩ := app_one ho hs hx hm hB hL hlen W hW
  ⟨v, K', w', h1, h2, _, rfl, h3⟩
set_option maxRecDepth 100000 in
set_option maxHeartbeats 20000000 in
theorem ClockWorks_law (w : World) (hE : Env w) (l0 : List Int) (p0 : Option Addr) (c0 : Nat) (hb0 : BL w p0 l0) (a1 : Int) (r1 : 0 ≤ a1 ∧ a1 ≤ 65535) (a2 : Int) (r2 : 0 ≤ a2 ∧ a2 ≤ 65535) :
    Calls Tryd.prog 7 #[.slice p0 l0.length c0, .int .u16 a1, .int .u16 a2] w fun e w' => e = .returned (.bool true) ∧ Below w.heap.size w w' := by
  have HE := Lib.hid hE
  have HB0 := Lib.hid hb0
  obtain ⟨m, hm⟩ : ∃ m, madeL l0 = m := ⟨_, rfl⟩
  have hap := made_apart hb0.1
  have hfr := made_apFrom hb0.1
  have hml := made_length l0
  have HM := fun W h => Made_any l0 p0 c0 W h
  rw [hm] at hap hfr hml HM
  clear hE hb0
  obtain ⟨at_, hat⟩ : ∃ v, a1 / 2 = v := ⟨_, rfl⟩
  obtain ⟨n, hn⟩ : ∃ v, 1 + a2 % 3000 = v := ⟨_, rfl⟩
  obtain ⟨lf, hlf⟩ : ∃ v, btw at_ 100000000 m = v := ⟨_, rfl⟩
  have b1 : 0 ≤ at_ ∧ at_ ≤ 32767 := by omega
  have b2 : 1 ≤ n ∧ n ≤ 3000 := by omega
  go_enter Tryd.func7, Tryd.ntmps7
  refine wp_seq ?_
  refine wp_region_L (W0 := w) [] (KS.start w) ?_
  refine lm (v := .bool false) rfl rfl ?_
  refine wpL_done (fun W1 hW1 => ?_)
  refine (show Code.wp _ _ _ _ _ from ?_)
  refine wp_seq ?_
  refine wp_seq ?_
  refine wp_region_L (W0 := w) [] (hW1) ?_
  refine lv (v := .bool true) rfl rfl (yb_call (f := 15) (args := #[]) (fun _ => by kernel_rfl) fun W hW => awake_any W (HE.out.keep hW.1)) ?_
  refine lm (v := .bool false) rfl rfl ?_
  refine wpL_done (fun W2 hW2 => ?_)
  clear hW1
  refine (show Code.wp _ _ _ _ _ from ?_)
  refine wp_cond_false rfl ?_
  refine wp_skip ?_
  refine (show Code.wp _ _ _ _ _ from ?_)
  refine wp_seq ?_
  refine wp_region_L (W0 := w) [] (hW2) ?_
  refine lm (v := .slice p0 l0.length c0) rfl rfl ?_
  refine wpL_c (GL w [] m) rfl (by kernel_rfl) (fun _ => (by kernel_rfl)) (fun W hW => calls_gl hW (HM W (bl_keep HB0.out hW.1))) (fun _ => by simp only [List.setIfInBounds_toArray, List.set_cons_succ, List.set_cons_zero] <;> rfl) ?_
  rintro v Kz1 ⟨pm, cm, rfl, hasM, hs1⟩
  refine lm (v := .int .u16 a1) rfl rfl ?_
  refine lp (v := .int .u16 at_) rfl rfl (run_bin rfl (vx := .int .u16 a1) (vy := .int .u64 1) (by kernel_rfl) (by kernel_rfl) fun w => run_shr16 (z := at_) hat (by omega) (by omega) w) ?_
  refine lp (v := .int .i64 at_) rfl rfl (run_cvh rfl (by kernel_rfl) (by omega)) ?_
  refine lm (v := .int .u16 a2) rfl rfl ?_
  refine lp (v := .int .i64 a2) rfl rfl (run_cvh rfl (by kernel_rfl) (by omega)) ?_
  refine lp (v := .int .i64 (a2 % 3000)) rfl rfl (run_bin rfl (vx := .int .i64 a2) (vy := .int .i64 3000) (by kernel_rfl) (by kernel_rfl) fun w => run_remI (z := (a2 % 3000)) rfl (by omega) (by omega) (by omega) w) ?_
  refine lp (v := .int .i64 n) rfl rfl (run_bin rfl (vx := .int .i64 1) (vy := .int .i64 (a2 % 3000)) (by kernel_rfl) (by kernel_rfl) fun w => run_addI (z := n) hn (by omega) w) ?_
  refine lm (v := .slice pm m.length cm) rfl rfl ?_
  refine lm (v := .int .i64 at_) rfl rfl ?_
  refine lm (v := .int .i64 n) rfl rfl ?_
  refine wpL_done (fun W3 hW3 => ?_)
  clear hW2
  refine (show Code.wp _ _ _ _ _ from ?_)
  cases hA : finS at_ n m with
  | none =>
    have hlt := fin_few hfr b2.1 hA
    have hB : fitS at_ n m = none := by cases h : fitS at_ n m with | none => rfl | some b => obtain ⟨a, h1, _⟩ := fit_fin hfr b2.1 (Int.le_refl n) h; rw [hA] at h1; cases h1
    refine wp_seq ?_
    refine wp_region_L (W0 := w) Kz1 (hW3) ?_
    refine lm (v := .slice pm m.length cm) rfl rfl ?_
    refine lm (v := .int .i64 at_) rfl rfl ?_
    refine lm (v := .int .i64 n) rfl rfl ?_
    refine lv (v := .tuple #[.int .i64 0, .int .i64 6]) rfl rfl (yb_call (f := 20) (args := #[.slice pm m.length cm, .int .i64 at_, .int .i64 n]) (fun _ => by kernel_rfl) fun W hW => finish_is (hasM W (hW.sub (fun q h => h))).sl hap (by omega) (by omega) hA) ?_
    refine lm (v := .tuple #[.int .i64 0, .int .i64 6]) rfl rfl ?_
    refine lm (v := .int .i64 0) rfl rfl ?_
    refine lm (v := .int .i64 6) rfl rfl ?_
    refine lm (v := .int .i64 0) rfl rfl ?_
    refine lm (v := .int .i64 6) rfl rfl ?_
    refine wpL_done (fun W4 hW4 => ?_)
    clear hW3
    refine (show Code.wp _ _ _ _ _ from ?_)
    refine wp_seq ?_
    refine wp_region_L (W0 := w) Kz1 (hW4) ?_
    refine lm (v := .slice pm m.length cm) rfl rfl ?_
    refine lm (v := .int .i64 at_) rfl rfl ?_
    refine lv (v := .tuple #[.int .i64 lf, .int .i64 0]) rfl rfl (yb_call (f := 21) (args := #[.slice pm m.length cm, .int .i64 at_, .int .i64 100000000]) (fun _ => by kernel_rfl) fun W hW => between_r (hasM W (hW.sub (fun q h => h))).sl hap (by omega) (by omega) (by omega) hlf) ?_
    refine lm (v := .tuple #[.int .i64 lf, .int .i64 0]) rfl rfl ?_
    refine lm (v := .int .i64 lf) rfl rfl ?_
    refine lm (v := .int .i64 0) rfl rfl ?_
    refine lm (v := .int .i64 lf) rfl rfl ?_
    refine lm (v := .int .i64 0) rfl rfl ?_
    refine wpL_done (fun W5 hW5 => ?_)
    clear hW4
    refine (show Code.wp _ _ _ _ _ from ?_)
    refine wp_seq ?_
    refine wp_region_L (W0 := w) Kz1 (hW5) ?_
    refine lm (v := .slice pm m.length cm) rfl rfl ?_
    refine lm (v := .int .i64 at_) rfl rfl ?_
    refine lm (v := .int .i64 n) rfl rfl ?_
    refine lv (v := .tuple #[.int .i64 0, .int .i64 6]) rfl rfl (yb_call (f := 22) (args := #[.slice pm m.length cm, .int .i64 at_, .int .i64 n]) (fun _ => by kernel_rfl) fun W hW => fit_is (hasM W (hW.sub (fun q h => h))).sl hap (by omega) (by omega) hB) ?_
    refine lm (v := .tuple #[.int .i64 0, .int .i64 6]) rfl rfl ?_
    refine lm (v := .int .i64 0) rfl rfl ?_
    refine lm (v := .int .i64 6) rfl rfl ?_
    refine lm (v := .int .i64 0) rfl rfl ?_
    refine lm (v := .int .i64 6) rfl rfl ?_
    refine wpL_done (fun W6 hW6 => ?_)
    clear hW5
    refine (show Code.wp _ _ _ _ _ from ?_)
    refine wp_seq ?_
    refine wp_seq ?_
    refine wp_region_L (W0 := w) Kz1 (hW6) ?_
    refine lm (v := .int .i64 0) rfl rfl ?_
    refine lm (v := .bool false) rfl rfl ?_
    refine lm (v := .bool false) rfl rfl ?_
    refine lm (v := .int .i64 6) rfl rfl ?_
    refine lm (v := .bool true) rfl rfl ?_
    refine lm (v := .int .i64 lf) rfl rfl ?_
    refine lm (v := .int .i64 n) rfl rfl ?_
    refine lp (v := .bool true) rfl rfl (run_bin rfl (vx := .int .i64 lf) (vy := .int .i64 n) (by kernel_rfl) (by kernel_rfl) fun w => run_lssI (decide_eq_true (by omega)) w) ?_
    refine lm (v := .bool false) rfl rfl ?_
    refine lm (v := .bool false) rfl rfl ?_
    refine lm (v := .bool false) rfl rfl ?_
    refine lm (v := .int .i64 6) rfl rfl ?_
    refine lm (v := .bool true) rfl rfl ?_
    refine lm (v := .bool true) rfl rfl ?_
    refine lm (v := .int .i64 6) rfl rfl ?_
    refine lm (v := .bool false) rfl rfl ?_
    refine lm (v := .bool false) rfl rfl ?_
    refine lm (v := .bool false) rfl rfl ?_
    refine lm (v := .bool false) rfl rfl ?_
    refine lm (v := .int .i64 6) rfl rfl ?_
    refine lm (v := .bool true) rfl rfl ?_
    refine lm (v := .bool true) rfl rfl ?_
    refine lm (v := .int .i64 6) rfl rfl ?_
    refine lm (v := .bool false) rfl rfl ?_
    refine lm (v := .bool false) rfl rfl ?_
    refine lm (v := .bool false) rfl rfl ?_
    refine lm (v := .bool false) rfl rfl ?_
    refine lm (v := .int .i64 6) rfl rfl ?_
    refine lm (v := .bool false) rfl rfl ?_
    refine lm (v := .bool false) rfl rfl ?_
    refine ln rfl ?_
    refine ln rfl ?_
    refine lm (v := .bool false) rfl rfl ?_
    refine lm (v := .bool false) rfl rfl ?_
    refine wpL_done (fun W7 hW7 => ?_)
    clear hW6
    refine (show Code.wp _ _ _ _ _ from ?_)
    refine wp_cond_false rfl ?_
    refine wp_skip ?_
    refine (show Code.wp _ _ _ _ _ from ?_)
    refine wp_seq ?_
    refine wp_seq ?_
    refine wp_region_L (W0 := w) Kz1 (hW7) ?_
    refine lm (v := .int .i64 6) rfl rfl ?_
    refine lm (v := .bool false) rfl rfl ?_
    refine wpL_done (fun W8 hW8 => ?_)
    clear hW7
    refine (show Code.wp _ _ _ _ _ from ?_)
    refine wp_cond_false rfl ?_
    refine wp_skip ?_
    refine (show Code.wp _ _ _ _ _ from ?_)
    refine wp_seq ?_
    refine wp_seq ?_
    refine wp_region_L (W0 := w) Kz1 (hW8) ?_
    refine lm (v := .int .i64 6) rfl rfl ?_
    refine lm (v := .bool false) rfl rfl ?_
    refine wpL_done (fun W9 hW9 => ?_)
    clear hW8
    refine (show Code.wp _ _ _ _ _ from ?_)
    refine wp_cond_false rfl ?_
    refine wp_skip ?_
    refine (show Code.wp _ _ _ _ _ from ?_)
    refine wp_seq ?_
    refine wp_seq ?_
    refine wp_region_L (W0 := w) Kz1 (hW9) ?_
    refine lm (v := .slice pm m.length cm) rfl rfl ?_
    refine lm (v := .int .i64 (m.length : Int)) rfl rfl ?_
    refine lm (v := .int .i64 0) rfl rfl ?_
    refine wpL_done (fun W10 hW10 => ?_)
    clear hW9
    refine (show Code.wp _ _ _ _ _ from ?_)
    refine wp_block ?_
    have Hm := Lib.hid (AV.sl (hasM W10 (hW10.sub (fun q h => h))))
    have hbw := hW10.1
    have hWx := KS.start W10
    go_loopw [185] (fun u wr => ∃ (k : Nat), k ≤ m.length ∧ u = .int .i64 (k : Int) ∧ KS W10 [] wr) (fun u _ => (m.length - intOf u).toNat)
    case atStart => exact ⟨0, by omega, rfl, ks_none (hWx)⟩
    case round =>
      obtain ⟨k, hk, rfl, hKS⟩ := hrel
      by_cases hkn : k < m.length
      · obtain ⟨⟨f, t⟩, hget⟩ : ∃ s, m[k]? = some s := ⟨_, List.getElem?_eq_getElem hkn⟩
        obtain ⟨b, off, hp, hcell⟩ := Hm.out.resolve_left (fun e => by rw [e] at hkn; simp at hkn)
        have hme := ap_mem hfr (List.mem_of_getElem? hget)
        have hfn := fit_none hB (f, t) (List.mem_of_getElem? hget)
        simp only at hme hfn
        refine wp_seq ?_
        refine wp_region_L (W0 := W10) [] (hKS) ?_
        refine lp (v := .bool true) rfl rfl (run_bin rfl (vx := .int .i64 (k : Int)) (vy := .int .i64 (m.length : Int)) (by kernel_rfl) (by kernel_rfl) fun w => run_lssI (decide_eq_true (by omega)) w) ?_
        refine wpL_done (fun W11 hW11 => ?_)
        refine (show Code.wp _ _ _ _ _ from ?_)
        refine wp_seq ?_
        refine wp_cond_true rfl ?_
        refine wp_skip ?_
        refine (show Code.wp _ _ _ _ _ from ?_)
        refine wp_seq ?_
        refine wp_block ?_
        refine wp_seq ?_
        refine wp_region_L (W0 := W10) [] (hW11) ?_
        refine lp (v := .pointer (some ⟨b, off + 2 * k, none⟩)) rfl rfl (run_idxp (b := b) (off := off) (n := m.length) (cap := cm) (k := k) rfl (by kernel_rfl) hp (by kernel_rfl) hkn) ?_
        refine lv (v := .agg #[.int .i64 f, .int .i64 t]) rfl rfl (yb_load2 rfl (by kernel_rfl) (hcell k (f, t) hget).1 (hcell k (f, t) hget).2 (World.block_lt_of_cell? _ _ (hcell k (f, t) hget).1)) ?_
        refine wpL_new (fun g => .pointer (some ⟨g, 0, none⟩)) (obi := .cells #[.int .i64 0, .int .i64 0] 41 (0, 0)) rfl rfl (fun _ => by kernel_rfl) (fun _ => by simp only [List.setIfInBounds_toArray, List.set_cons_succ, List.set_cons_zero] <;> rfl) fun g1 Bg1 Fg1 => ?_
        try simp only [List.forall_mem_cons] at Fg1
        refine wpL_s [(g1, .cells #[.int .i64 f, .int .i64 t] 41 (0, 0))] rfl rfl (st_span rfl (by kernel_rfl) (by kernel_rfl) (.head _) (by omega) (List.forall_mem_cons.2 ⟨.inl rfl, (List.forall_mem_nil _)⟩)) ?_
        refine wpL_done (fun W12 hW12 => ?_)
        clear hW11
        refine (show Code.wp _ _ _ _ _ from ?_)
        refine wp_seq ?_
        refine wp_region_L (W0 := W10) [(g1, .cells #[.int .i64 f, .int .i64 t] 41 (0, 0))] (hW12) ?_
        refine lm (v := .pointer (some ⟨g1, 1, none⟩)) rfl rfl ?_
        refine lv (v := .int .i64 t) rfl rfl (yb_loadc (off := 1) rfl (by kernel_rfl) (.head _) Tryd.underlying3 rfl (by kernel_rfl)) ?_
        refine lm (v := .pointer (some ⟨g1, 0, none⟩)) rfl rfl ?_
        refine lv (v := .int .i64 f) rfl rfl (yb_loadc (off := 0) rfl (by kernel_rfl) (.head _) Tryd.underlying3 rfl (by kernel_rfl)) ?_
        refine lm (v := .int .i64 at_) rfl rfl ?_
        refine lp (v := .int .i64 (max f at_)) rfl rfl (fun _ => run_maxI rfl (by kernel_rfl) rfl) ?_
        refine lp (v := .int .i64 (t - max f at_)) rfl rfl (run_bin rfl (vx := .int .i64 t) (vy := .int .i64 (max f at_)) (by kernel_rfl) (by kernel_rfl) fun w => run_subI (z := (t - max f at_)) rfl (by omega) w) ?_
        refine lm (v := .int .i64 n) rfl rfl ?_
        refine lp (v := .bool false) rfl rfl (run_bin rfl (vx := .int .i64 (t - max f at_)) (vy := .int .i64 n) (by kernel_rfl) (by kernel_rfl) fun w => run_geqI (decide_eq_false hfn) w) ?_
        refine wpL_done (fun W13 hW13 => ?_)
        clear hW12
        refine (show Code.wp _ _ _ _ _ from ?_)
        refine wp_cond_false rfl ?_
        refine wp_skip ?_
        refine (show Code.wp _ _ _ _ _ from ?_)
        refine wp_region_L (W0 := W10) [(g1, .cells #[.int .i64 f, .int .i64 t] 41 (0, 0))] (hW13) ?_
        refine lp (v := .int .i64 ((k + 1 : Nat) : Int)) rfl rfl (run_bin rfl (vx := .int .i64 (k : Int)) (vy := .int .i64 1) (by kernel_rfl) (by kernel_rfl) fun w => run_addI (z := ((k + 1 : Nat) : Int)) rfl (by omega) w) ?_
        refine lm (v := .int .i64 ((k + 1 : Nat) : Int)) rfl rfl ?_
        refine wpL_done (fun W14 hW14 => ?_)
        clear hW13
        go_roundw
        case rel =>
          repeat apply Exists.intro
          exact ⟨⟨k + 1, by omega, rfl, ks_none hW14⟩, rfl⟩
        case measure => (show (m.length - intOf (.int .i64 ((k + 1 : Nat) : Int))).toNat < (m.length - intOf (.int .i64 (k : Int))).toNat); simp only [intOf]; omega
      · refine wp_seq ?_
        refine wp_region_L (W0 := W10) [] (hKS) ?_
        refine lp (v := .bool false) rfl rfl (run_bin rfl (vx := .int .i64 (k : Int)) (vy := .int .i64 (m.length : Int)) (by kernel_rfl) (by kernel_rfl) fun w => run_lssI (decide_eq_false (by omega)) w) ?_
        refine wpL_done (fun W11 hW11 => ?_)
        refine (show Code.wp _ _ _ _ _ from ?_)
        refine wp_seq ?_
        refine wp_cond_false rfl ?_
        refine wp_exit ?_
        refine (show Code.wp _ _ _ _ _ from ?_)
        refine wp_seq ?_
        refine wp_region_L (W0 := W10) [] (hW11) ?_
        refine lm (v := .bool true) rfl rfl ?_
        refine wpL_done (fun W12 hW12 => ?_)
        clear hW11
        refine (show Code.wp _ _ _ _ _ from ?_)
        refine wp_ret ?_
        try simp only [inBlock_ret, then_ret]
        go_ret
        exact ⟨rfl, Below.trans hbw (Below.mono hW12.1 hbw.size)⟩
  | some en =>
    have hge := fin_enough hfr b2.1 hA
    have hpe := fin_pos hfr b2.1 hA
    have hfd := fin_done hfr b2.1 hA
    cases hB : fitS at_ n m with
    | none =>
      refine wp_seq ?_
      refine wp_region_L (W0 := w) Kz1 (hW3) ?_
      refine lm (v := .slice pm m.length cm) rfl rfl ?_
      refine lm (v := .int .i64 at_) rfl rfl ?_
      refine lm (v := .int .i64 n) rfl rfl ?_
      refine lv (v := .tuple #[.int .i64 en, .int .i64 0]) rfl rfl (yb_call (f := 20) (args := #[.slice pm m.length cm, .int .i64 at_, .int .i64 n]) (fun _ => by kernel_rfl) fun W hW => finish_is (hasM W (hW.sub (fun q h => h))).sl hap (by omega) (by omega) hA) ?_
      refine lm (v := .tuple #[.int .i64 en, .int .i64 0]) rfl rfl ?_
      refine lm (v := .int .i64 en) rfl rfl ?_
      refine lm (v := .int .i64 0) rfl rfl ?_
      refine lm (v := .int .i64 en) rfl rfl ?_
      refine lm (v := .int .i64 0) rfl rfl ?_
      refine wpL_done (fun W4 hW4 => ?_)
      clear hW3
      refine (show Code.wp _ _ _ _ _ from ?_)
      refine wp_seq ?_
      refine wp_region_L (W0 := w) Kz1 (hW4) ?_
      refine lm (v := .slice pm m.length cm) rfl rfl ?_
      refine lm (v := .int .i64 at_) rfl rfl ?_
      refine lv (v := .tuple #[.int .i64 lf, .int .i64 0]) rfl rfl (yb_call (f := 21) (args := #[.slice pm m.length cm, .int .i64 at_, .int .i64 100000000]) (fun _ => by kernel_rfl) fun W hW => between_r (hasM W (hW.sub (fun q h => h))).sl hap (by omega) (by omega) (by omega) hlf) ?_
      refine lm (v := .tuple #[.int .i64 lf, .int .i64 0]) rfl rfl ?_
      refine lm (v := .int .i64 lf) rfl rfl ?_
      refine lm (v := .int .i64 0) rfl rfl ?_
      refine lm (v := .int .i64 lf) rfl rfl ?_
      refine lm (v := .int .i64 0) rfl rfl ?_
      refine wpL_done (fun W5 hW5 => ?_)
      clear hW4
      refine (show Code.wp _ _ _ _ _ from ?_)
      refine wp_seq ?_
      refine wp_region_L (W0 := w) Kz1 (hW5) ?_
      refine lm (v := .slice pm m.length cm) rfl rfl ?_
      refine lm (v := .int .i64 at_) rfl rfl ?_
      refine lm (v := .int .i64 n) rfl rfl ?_
      refine lv (v := .tuple #[.int .i64 0, .int .i64 6]) rfl rfl (yb_call (f := 22) (args := #[.slice pm m.length cm, .int .i64 at_, .int .i64 n]) (fun _ => by kernel_rfl) fun W hW => fit_is (hasM W (hW.sub (fun q h => h))).sl hap (by omega) (by omega) hB) ?_
      refine lm (v := .tuple #[.int .i64 0, .int .i64 6]) rfl rfl ?_
      refine lm (v := .int .i64 0) rfl rfl ?_
      refine lm (v := .int .i64 6) rfl rfl ?_
      refine lm (v := .int .i64 0) rfl rfl ?_
      refine lm (v := .int .i64 6) rfl rfl ?_
      refine wpL_done (fun W6 hW6 => ?_)
      clear hW5
      refine (show Code.wp _ _ _ _ _ from ?_)
      refine wp_seq ?_
      refine wp_seq ?_
      refine wp_region_L (W0 := w) Kz1 (hW6) ?_
      refine lm (v := .int .i64 0) rfl rfl ?_
      refine lm (v := .bool false) rfl rfl ?_
      refine lm (v := .bool false) rfl rfl ?_
      refine lm (v := .int .i64 0) rfl rfl ?_
      refine lm (v := .bool false) rfl rfl ?_
      refine lm (v := .int .i64 lf) rfl rfl ?_
      refine lm (v := .int .i64 n) rfl rfl ?_
      refine lp (v := .bool false) rfl rfl (run_bin rfl (vx := .int .i64 lf) (vy := .int .i64 n) (by kernel_rfl) (by kernel_rfl) fun w => run_lssI (decide_eq_false (by omega)) w) ?_
      refine lm (v := .bool false) rfl rfl ?_
      refine lm (v := .bool false) rfl rfl ?_
      refine lm (v := .bool false) rfl rfl ?_
      refine lm (v := .int .i64 0) rfl rfl ?_
      refine lm (v := .bool false) rfl rfl ?_
      refine lm (v := .bool false) rfl rfl ?_
      refine ln rfl ?_
      refine ln rfl ?_
      refine lm (v := .bool false) rfl rfl ?_
      refine lm (v := .bool false) rfl rfl ?_
      refine lm (v := .bool false) rfl rfl ?_
      refine lm (v := .int .i64 6) rfl rfl ?_
      refine lm (v := .bool true) rfl rfl ?_
      refine lm (v := .bool true) rfl rfl ?_
      refine lm (v := .int .i64 6) rfl rfl ?_
      refine lm (v := .bool false) rfl rfl ?_
      refine lm (v := .bool false) rfl rfl ?_
      refine lm (v := .bool false) rfl rfl ?_
      refine lm (v := .bool false) rfl rfl ?_
      refine lm (v := .int .i64 6) rfl rfl ?_
      refine lm (v := .bool false) rfl rfl ?_
      refine lm (v := .bool false) rfl rfl ?_
      refine ln rfl ?_
      refine ln rfl ?_
      refine lm (v := .bool false) rfl rfl ?_
      refine lm (v := .bool false) rfl rfl ?_
      refine wpL_done (fun W7 hW7 => ?_)
      clear hW6
      refine (show Code.wp _ _ _ _ _ from ?_)
      refine wp_cond_false rfl ?_
      refine wp_skip ?_
      refine (show Code.wp _ _ _ _ _ from ?_)
      refine wp_seq ?_
      refine wp_seq ?_
      refine wp_region_L (W0 := w) Kz1 (hW7) ?_
      refine lm (v := .int .i64 0) rfl rfl ?_
      refine lm (v := .bool true) rfl rfl ?_
      refine wpL_done (fun W8 hW8 => ?_)
      clear hW7
      refine (show Code.wp _ _ _ _ _ from ?_)
      refine wp_cond_true rfl ?_
      refine wp_seq ?_
      refine wp_region_L (W0 := w) Kz1 (hW8) ?_
      refine lm (v := .slice pm m.length cm) rfl rfl ?_
      refine lm (v := .int .i64 at_) rfl rfl ?_
      refine lm (v := .int .i64 en) rfl rfl ?_
      refine lv (v := .tuple #[.int .i64 n, .int .i64 0]) rfl rfl (yb_call (f := 21) (args := #[.slice pm m.length cm, .int .i64 at_, .int .i64 en]) (fun _ => by kernel_rfl) fun W hW => between_r (hasM W (hW.sub (fun q h => h))).sl hap (by omega) (by omega) (by omega) hfd.1) ?_
      refine lm (v := .tuple #[.int .i64 n, .int .i64 0]) rfl rfl ?_
      refine lm (v := .int .i64 n) rfl rfl ?_
      refine lm (v := .int .i64 0) rfl rfl ?_
      refine lm (v := .int .i64 n) rfl rfl ?_
      refine lm (v := .int .i64 0) rfl rfl ?_
      refine wpL_done (fun W9 hW9 => ?_)
      clear hW8
      refine (show Code.wp _ _ _ _ _ from ?_)
      refine wp_seq ?_
      refine wp_region_L (W0 := w) Kz1 (hW9) ?_
      refine lm (v := .int .i64 0) rfl rfl ?_
      refine lm (v := .bool false) rfl rfl ?_
      refine lm (v := .bool false) rfl rfl ?_
      refine lm (v := .int .i64 n) rfl rfl ?_
      refine lm (v := .int .i64 n) rfl rfl ?_
      refine lp (v := .bool false) rfl rfl (run_bin rfl (vx := .int .i64 n) (vy := .int .i64 n) (by kernel_rfl) (by kernel_rfl) fun w => run_neqI (decide_eq_true rfl) w) ?_
      refine lm (v := .bool false) rfl rfl ?_
      refine lm (v := .bool false) rfl rfl ?_
      refine lm (v := .slice pm m.length cm) rfl rfl ?_
      refine lm (v := .int .i64 en) rfl rfl ?_
      refine lp (v := .int .i64 (en - 1)) rfl rfl (run_bin rfl (vx := .int .i64 en) (vy := .int .i64 1) (by kernel_rfl) (by kernel_rfl) fun w => run_subI (z := (en - 1)) rfl (by omega) w) ?_
      refine lv (v := .bool true) rfl rfl (yb_call (f := 23) (args := #[.slice pm m.length cm, .int .i64 (en - 1)]) (fun _ => by kernel_rfl) fun W hW => in_r (hasM W (hW.sub (fun q h => h))).sl hap hfd.2) ?_
      refine lm (v := .bool false) rfl rfl ?_
      refine lm (v := .bool false) rfl rfl ?_
      refine wpL_done (fun W10 hW10 => ?_)
      clear hW9
      refine (show Code.wp _ _ _ _ _ from ?_)
      refine wp_cond_false rfl ?_
      refine wp_skip ?_
      refine (show Code.wp _ _ _ _ _ from ?_)
      refine wp_seq ?_
      refine wp_seq ?_
      refine wp_region_L (W0 := w) Kz1 (hW10) ?_
      refine lm (v := .int .i64 6) rfl rfl ?_
      refine lm (v := .bool false) rfl rfl ?_
      refine wpL_done (fun W11 hW11 => ?_)
      clear hW10
      refine (show Code.wp _ _ _ _ _ from ?_)
      refine wp_cond_false rfl ?_
      refine wp_skip ?_
      refine (show Code.wp _ _ _ _ _ from ?_)
      refine wp_seq ?_
      refine wp_seq ?_
      refine wp_region_L (W0 := w) Kz1 (hW11) ?_
      refine lm (v := .slice pm m.length cm) rfl rfl ?_
      refine lm (v := .int .i64 (m.length : Int)) rfl rfl ?_
      refine lm (v := .int .i64 0) rfl rfl ?_
      refine wpL_done (fun W12 hW12 => ?_)
      clear hW11
      refine (show Code.wp _ _ _ _ _ from ?_)
      refine wp_block ?_
      have Hm := Lib.hid (AV.sl (hasM W12 (hW12.sub (fun q h => h))))
      have hbw := hW12.1
      have hWx := KS.start W12
      go_loopw [185] (fun u wr => ∃ (k : Nat), k ≤ m.length ∧ u = .int .i64 (k : Int) ∧ KS W12 [] wr) (fun u _ => (m.length - intOf u).toNat)
      case atStart => exact ⟨0, by omega, rfl, ks_none (hWx)⟩
      case round =>
        obtain ⟨k, hk, rfl, hKS⟩ := hrel
        by_cases hkn : k < m.length
        · obtain ⟨⟨f, t⟩, hget⟩ : ∃ s, m[k]? = some s := ⟨_, List.getElem?_eq_getElem hkn⟩
          obtain ⟨b, off, hp, hcell⟩ := Hm.out.resolve_left (fun e => by rw [e] at hkn; simp at hkn)
          have hme := ap_mem hfr (List.mem_of_getElem? hget)
          have hfn := fit_none hB (f, t) (List.mem_of_getElem? hget)
          simp only at hme hfn
          refine wp_seq ?_
          refine wp_region_L (W0 := W12) [] (hKS) ?_
          refine lp (v := .bool true) rfl rfl (run_bin rfl (vx := .int .i64 (k : Int)) (vy := .int .i64 (m.length : Int)) (by kernel_rfl) (by kernel_rfl) fun w => run_lssI (decide_eq_true (by omega)) w) ?_
          refine wpL_done (fun W13 hW13 => ?_)
          refine (show Code.wp _ _ _ _ _ from ?_)
          refine wp_seq ?_
          refine wp_cond_true rfl ?_
          refine wp_skip ?_
          refine (show Code.wp _ _ _ _ _ from ?_)
          refine wp_seq ?_
          refine wp_block ?_
          refine wp_seq ?_
          refine wp_region_L (W0 := W12) [] (hW13) ?_
          refine lp (v := .pointer (some ⟨b, off + 2 * k, none⟩)) rfl rfl (run_idxp (b := b) (off := off) (n := m.length) (cap := cm) (k := k) rfl (by kernel_rfl) hp (by kernel_rfl) hkn) ?_
          refine lv (v := .agg #[.int .i64 f, .int .i64 t]) rfl rfl (yb_load2 rfl (by kernel_rfl) (hcell k (f, t) hget).1 (hcell k (f, t) hget).2 (World.block_lt_of_cell? _ _ (hcell k (f, t) hget).1)) ?_
          refine wpL_new (fun g => .pointer (some ⟨g, 0, none⟩)) (obi := .cells #[.int .i64 0, .int .i64 0] 41 (0, 0)) rfl rfl (fun _ => by kernel_rfl) (fun _ => by simp only [List.setIfInBounds_toArray, List.set_cons_succ, List.set_cons_zero] <;> rfl) fun g1 Bg1 Fg1 => ?_
          try simp only [List.forall_mem_cons] at Fg1
          refine wpL_s [(g1, .cells #[.int .i64 f, .int .i64 t] 41 (0, 0))] rfl rfl (st_span rfl (by kernel_rfl) (by kernel_rfl) (.head _) (by omega) (List.forall_mem_cons.2 ⟨.inl rfl, (List.forall_mem_nil _)⟩)) ?_
          refine wpL_done (fun W14 hW14 => ?_)
          clear hW13
          refine (show Code.wp _ _ _ _ _ from ?_)
          refine wp_seq ?_
          refine wp_region_L (W0 := W12) [(g1, .cells #[.int .i64 f, .int .i64 t] 41 (0, 0))] (hW14) ?_
          refine lm (v := .pointer (some ⟨g1, 1, none⟩)) rfl rfl ?_
          refine lv (v := .int .i64 t) rfl rfl (yb_loadc (off := 1) rfl (by kernel_rfl) (.head _) Tryd.underlying3 rfl (by kernel_rfl)) ?_
          refine lm (v := .pointer (some ⟨g1, 0, none⟩)) rfl rfl ?_
          refine lv (v := .int .i64 f) rfl rfl (yb_loadc (off := 0) rfl (by kernel_rfl) (.head _) Tryd.underlying3 rfl (by kernel_rfl)) ?_
          refine lm (v := .int .i64 at_) rfl rfl ?_
          refine lp (v := .int .i64 (max f at_)) rfl rfl (fun _ => run_maxI rfl (by kernel_rfl) rfl) ?_
          refine lp (v := .int .i64 (t - max f at_)) rfl rfl (run_bin rfl (vx := .int .i64 t) (vy := .int .i64 (max f at_)) (by kernel_rfl) (by kernel_rfl) fun w => run_subI (z := (t - max f at_)) rfl (by omega) w) ?_
          refine lm (v := .int .i64 n) rfl rfl ?_
          refine lp (v := .bool false) rfl rfl (run_bin rfl (vx := .int .i64 (t - max f at_)) (vy := .int .i64 n) (by kernel_rfl) (by kernel_rfl) fun w => run_geqI (decide_eq_false hfn) w) ?_
          refine wpL_done (fun W15 hW15 => ?_)
          clear hW14
          refine (show Code.wp _ _ _ _ _ from ?_)
          refine wp_cond_false rfl ?_
          refine wp_skip ?_
          refine (show Code.wp _ _ _ _ _ from ?_)
          refine wp_region_L (W0 := W12) [(g1, .cells #[.int .i64 f, .int .i64 t] 41 (0, 0))] (hW15) ?_
          refine lp (v := .int .i64 ((k + 1 : Nat) : Int)) rfl rfl (run_bin rfl (vx := .int .i64 (k : Int)) (vy := .int .i64 1) (by kernel_rfl) (by kernel_rfl) fun w => run_addI (z := ((k + 1 : Nat) : Int)) rfl (by omega) w) ?_
          refine lm (v := .int .i64 ((k + 1 : Nat) : Int)) rfl rfl ?_
          refine wpL_done (fun W16 hW16 => ?_)
          clear hW15
          go_roundw
          case rel =>
            repeat apply Exists.intro
            exact ⟨⟨k + 1, by omega, rfl, ks_none hW16⟩, rfl⟩
          case measure => (show (m.length - intOf (.int .i64 ((k + 1 : Nat) : Int))).toNat < (m.length - intOf (.int .i64 (k : Int))).toNat); simp only [intOf]; omega
        · refine wp_seq ?_
          refine wp_region_L (W0 := W12) [] (hKS) ?_
          refine lp (v := .bool false) rfl rfl (run_bin rfl (vx := .int .i64 (k : Int)) (vy := .int .i64 (m.length : Int)) (by kernel_rfl) (by kernel_rfl) fun w => run_lssI (decide_eq_false (by omega)) w) ?_
          refine wpL_done (fun W13 hW13 => ?_)
          refine (show Code.wp _ _ _ _ _ from ?_)
          refine wp_seq ?_
          refine wp_cond_false rfl ?_
          refine wp_exit ?_
          refine (show Code.wp _ _ _ _ _ from ?_)
          refine wp_seq ?_
          refine wp_region_L (W0 := W12) [] (hW13) ?_
          refine lm (v := .bool true) rfl rfl ?_
          refine wpL_done (fun W14 hW14 => ?_)
          clear hW13
          refine (show Code.wp _ _ _ _ _ from ?_)
          refine wp_ret ?_
          try simp only [inBlock_ret, then_ret]
          go_ret
          exact ⟨rfl, Below.trans hbw (Below.mono hW14.1 hbw.size)⟩
    | some bs =>
      have hpb := fit_pos hfr b2.1 hB
      have hff : en ≤ bs + n := by obtain ⟨a, h1, h2⟩ := fit_fin hfr b2.1 (Int.le_refl n) hB; rw [hA] at h1; cases h1; exact h2
      refine wp_seq ?_
      refine wp_region_L (W0 := w) Kz1 (hW3) ?_
      refine lm (v := .slice pm m.length cm) rfl rfl ?_
      refine lm (v := .int .i64 at_) rfl rfl ?_
      refine lm (v := .int .i64 n) rfl rfl ?_
      refine lv (v := .tuple #[.int .i64 en, .int .i64 0]) rfl rfl (yb_call (f := 20) (args := #[.slice pm m.length cm, .int .i64 at_, .int .i64 n]) (fun _ => by kernel_rfl) fun W hW => finish_is (hasM W (hW.sub (fun q h => h))).sl hap (by omega) (by omega) hA) ?_
      refine lm (v := .tuple #[.int .i64 en, .int .i64 0]) rfl rfl ?_
      refine lm (v := .int .i64 en) rfl rfl ?_
      refine lm (v := .int .i64 0) rfl rfl ?_
      refine lm (v := .int .i64 en) rfl rfl ?_
      refine lm (v := .int .i64 0) rfl rfl ?_
      refine wpL_done (fun W4 hW4 => ?_)
      clear hW3
      refine (show Code.wp _ _ _ _ _ from ?_)
      refine wp_seq ?_
      refine wp_region_L (W0 := w) Kz1 (hW4) ?_
      refine lm (v := .slice pm m.length cm) rfl rfl ?_
      refine lm (v := .int .i64 at_) rfl rfl ?_
      refine lv (v := .tuple #[.int .i64 lf, .int .i64 0]) rfl rfl (yb_call (f := 21) (args := #[.slice pm m.length cm, .int .i64 at_, .int .i64 100000000]) (fun _ => by kernel_rfl) fun W hW => between_r (hasM W (hW.sub (fun q h => h))).sl hap (by omega) (by omega) (by omega) hlf) ?_
      refine lm (v := .tuple #[.int .i64 lf, .int .i64 0]) rfl rfl ?_
      refine lm (v := .int .i64 lf) rfl rfl ?_
      refine lm (v := .int .i64 0) rfl rfl ?_
      refine lm (v := .int .i64 lf) rfl rfl ?_
      refine lm (v := .int .i64 0) rfl rfl ?_
      refine wpL_done (fun W5 hW5 => ?_)
      clear hW4
      refine (show Code.wp _ _ _ _ _ from ?_)
      refine wp_seq ?_
      refine wp_region_L (W0 := w) Kz1 (hW5) ?_
      refine lm (v := .slice pm m.length cm) rfl rfl ?_
      refine lm (v := .int .i64 at_) rfl rfl ?_
      refine lm (v := .int .i64 n) rfl rfl ?_
      refine lv (v := .tuple #[.int .i64 bs, .int .i64 0]) rfl rfl (yb_call (f := 22) (args := #[.slice pm m.length cm, .int .i64 at_, .int .i64 n]) (fun _ => by kernel_rfl) fun W hW => fit_is (hasM W (hW.sub (fun q h => h))).sl hap (by omega) (by omega) hB) ?_
      refine lm (v := .tuple #[.int .i64 bs, .int .i64 0]) rfl rfl ?_
      refine lm (v := .int .i64 bs) rfl rfl ?_
      refine lm (v := .int .i64 0) rfl rfl ?_
      refine lm (v := .int .i64 bs) rfl rfl ?_
      refine lm (v := .int .i64 0) rfl rfl ?_
      refine wpL_done (fun W6 hW6 => ?_)
      clear hW5
      refine (show Code.wp _ _ _ _ _ from ?_)
      refine wp_seq ?_
      refine wp_seq ?_
      refine wp_region_L (W0 := w) Kz1 (hW6) ?_
      refine lm (v := .int .i64 0) rfl rfl ?_
      refine lm (v := .bool false) rfl rfl ?_
      refine lm (v := .bool false) rfl rfl ?_
      refine lm (v := .int .i64 0) rfl rfl ?_
      refine lm (v := .bool false) rfl rfl ?_
      refine lm (v := .int .i64 lf) rfl rfl ?_
      refine lm (v := .int .i64 n) rfl rfl ?_
      refine lp (v := .bool false) rfl rfl (run_bin rfl (vx := .int .i64 lf) (vy := .int .i64 n) (by kernel_rfl) (by kernel_rfl) fun w => run_lssI (decide_eq_false (by omega)) w) ?_
      refine lm (v := .bool false) rfl rfl ?_
      refine lm (v := .bool false) rfl rfl ?_
      refine lm (v := .bool false) rfl rfl ?_
      refine lm (v := .int .i64 0) rfl rfl ?_
      refine lm (v := .bool false) rfl rfl ?_
      refine lm (v := .bool false) rfl rfl ?_
      refine ln rfl ?_
      refine ln rfl ?_
      refine lm (v := .bool false) rfl rfl ?_
      refine lm (v := .bool false) rfl rfl ?_
      refine lm (v := .bool false) rfl rfl ?_
      refine lm (v := .int .i64 0) rfl rfl ?_
      refine lm (v := .bool false) rfl rfl ?_
      refine lm (v := .bool false) rfl rfl ?_
      refine ln rfl ?_
      refine ln rfl ?_
      refine lm (v := .bool false) rfl rfl ?_
      refine lm (v := .bool false) rfl rfl ?_
      refine lm (v := .bool false) rfl rfl ?_
      refine lm (v := .int .i64 0) rfl rfl ?_
      refine lm (v := .bool true) rfl rfl ?_
      refine lm (v := .bool true) rfl rfl ?_
      refine lm (v := .int .i64 0) rfl rfl ?_
      refine lm (v := .bool false) rfl rfl ?_
      refine lm (v := .bool false) rfl rfl ?_
      refine lm (v := .bool false) rfl rfl ?_
      refine wpL_done (fun W7 hW7 => ?_)
      clear hW6
      refine (show Code.wp _ _ _ _ _ from ?_)
      refine wp_cond_false rfl ?_
      refine wp_skip ?_
      refine (show Code.wp _ _ _ _ _ from ?_)
      refine wp_seq ?_
      refine wp_seq ?_
      refine wp_region_L (W0 := w) Kz1 (hW7) ?_
      refine lm (v := .int .i64 0) rfl rfl ?_
      refine lm (v := .bool true) rfl rfl ?_
      refine wpL_done (fun W8 hW8 => ?_)
      clear hW7
      refine (show Code.wp _ _ _ _ _ from ?_)
      refine wp_cond_true rfl ?_
      refine wp_seq ?_
      refine wp_region_L (W0 := w) Kz1 (hW8) ?_
      refine lm (v := .slice pm m.length cm) rfl rfl ?_
      refine lm (v := .int .i64 at_) rfl rfl ?_
      refine lm (v := .int .i64 en) rfl rfl ?_
      refine lv (v := .tuple #[.int .i64 n, .int .i64 0]) rfl rfl (yb_call (f := 21) (args := #[.slice pm m.length cm, .int .i64 at_, .int .i64 en]) (fun _ => by kernel_rfl) fun W hW => between_r (hasM W (hW.sub (fun q h => h))).sl hap (by omega) (by omega) (by omega) hfd.1) ?_
      refine lm (v := .tuple #[.int .i64 n, .int .i64 0]) rfl rfl ?_
      refine lm (v := .int .i64 n) rfl rfl ?_
      refine lm (v := .int .i64 0) rfl rfl ?_
      refine lm (v := .int .i64 n) rfl rfl ?_
      refine lm (v := .int .i64 0) rfl rfl ?_
      refine wpL_done (fun W9 hW9 => ?_)
      clear hW8
      refine (show Code.wp _ _ _ _ _ from ?_)
      refine wp_seq ?_
      refine wp_region_L (W0 := w) Kz1 (hW9) ?_
      refine lm (v := .int .i64 0) rfl rfl ?_
      refine lm (v := .bool false) rfl rfl ?_
      refine lm (v := .bool false) rfl rfl ?_
      refine lm (v := .int .i64 n) rfl rfl ?_
      refine lm (v := .int .i64 n) rfl rfl ?_
      refine lp (v := .bool false) rfl rfl (run_bin rfl (vx := .int .i64 n) (vy := .int .i64 n) (by kernel_rfl) (by kernel_rfl) fun w => run_neqI (decide_eq_true rfl) w) ?_
      refine lm (v := .bool false) rfl rfl ?_
      refine lm (v := .bool false) rfl rfl ?_
      refine lm (v := .slice pm m.length cm) rfl rfl ?_
      refine lm (v := .int .i64 en) rfl rfl ?_
      refine lp (v := .int .i64 (en - 1)) rfl rfl (run_bin rfl (vx := .int .i64 en) (vy := .int .i64 1) (by kernel_rfl) (by kernel_rfl) fun w => run_subI (z := (en - 1)) rfl (by omega) w) ?_
      refine lv (v := .bool true) rfl rfl (yb_call (f := 23) (args := #[.slice pm m.length cm, .int .i64 (en - 1)]) (fun _ => by kernel_rfl) fun W hW => in_r (hasM W (hW.sub (fun q h => h))).sl hap hfd.2) ?_
      refine lm (v := .bool false) rfl rfl ?_
      refine lm (v := .bool false) rfl rfl ?_
      refine wpL_done (fun W10 hW10 => ?_)
      clear hW9
      refine (show Code.wp _ _ _ _ _ from ?_)
      refine wp_cond_false rfl ?_
      refine wp_skip ?_
      refine (show Code.wp _ _ _ _ _ from ?_)
      refine wp_seq ?_
      refine wp_seq ?_
      refine wp_region_L (W0 := w) Kz1 (hW10) ?_
      refine lm (v := .int .i64 0) rfl rfl ?_
      refine lm (v := .bool true) rfl rfl ?_
      refine wpL_done (fun W11 hW11 => ?_)
      clear hW10
      refine (show Code.wp _ _ _ _ _ from ?_)
      refine wp_cond_true rfl ?_
      refine wp_seq ?_
      refine wp_region_L (W0 := w) Kz1 (hW11) ?_
      refine lm (v := .slice pm m.length cm) rfl rfl ?_
      refine lm (v := .int .i64 bs) rfl rfl ?_
      refine lm (v := .int .i64 bs) rfl rfl ?_
      refine lm (v := .int .i64 n) rfl rfl ?_
      refine lp (v := .int .i64 (bs + n)) rfl rfl (run_bin rfl (vx := .int .i64 bs) (vy := .int .i64 n) (by kernel_rfl) (by kernel_rfl) fun w => run_addI (z := (bs + n)) rfl (by omega) w) ?_
      refine lv (v := .tuple #[.int .i64 n, .int .i64 0]) rfl rfl (yb_call (f := 21) (args := #[.slice pm m.length cm, .int .i64 bs, .int .i64 (bs + n)]) (fun _ => by kernel_rfl) fun W hW => between_r (hasM W (hW.sub (fun q h => h))).sl hap (by omega) (by omega) (by omega) (fit_done hfr b2.1 hB)) ?_
      refine lm (v := .tuple #[.int .i64 n, .int .i64 0]) rfl rfl ?_
      refine lm (v := .int .i64 n) rfl rfl ?_
      refine lm (v := .int .i64 0) rfl rfl ?_
      refine lm (v := .int .i64 n) rfl rfl ?_
      refine lm (v := .int .i64 0) rfl rfl ?_
      refine wpL_done (fun W12 hW12 => ?_)
      clear hW11
      refine (show Code.wp _ _ _ _ _ from ?_)
      refine wp_seq ?_
      refine wp_seq ?_
      refine wp_region_L (W0 := w) Kz1 (hW12) ?_
      refine lm (v := .int .i64 at_) rfl rfl ?_
      refine lm (v := .agg #[.int .i64 at_, .int .i64 0]) rfl rfl ?_
      refine wpL_new (fun g => .slice (some ⟨g, 0, none⟩) 1 1) (obi := .cells #[.int .i64 at_, .int .i64 0] 41 (0, 0)) rfl rfl (fun _ => by kernel_rfl) (fun _ => by simp only [List.setIfInBounds_toArray, List.set_cons_succ, List.set_cons_zero] <;> rfl) fun g1 Bg1 Fg1 => ?_
      try simp only [List.forall_mem_cons] at Fg1
      refine lm (v := .slice pm m.length cm) rfl rfl ?_
      refine wpL_g (fun v K' => ∃ L, (at_, 0) :: m = L ∧ GL w ((g1, .cells #[.int .i64 at_, .int .i64 0] 41 (0, 0)) :: Kz1) L v K') rfl (by kernel_rfl) (app_one' rfl (by kernel_rfl) (by kernel_rfl) (.head _) (by omega) (hasM.more (fun q h => (.tail _ h))) (by omega)) (fun _ => by simp only [List.setIfInBounds_toArray, List.set_cons_succ, List.set_cons_zero] <;> rfl) ?_
      rintro v Kz2 ⟨L, hLe, pa, ca, rfl, hasA, hs2⟩
      refine lm (v := .int .i64 (L.length : Int)) rfl rfl ?_
      refine lm (v := .int .i64 0) rfl rfl ?_
      refine wpL_done (fun W13 hW13 => ?_)
      clear hW12
      refine (show Code.wp _ _ _ _ _ from ?_)
      refine wp_block ?_
      have HL := Lib.hid (AV.sl (hasA W13 (hW13.sub (fun q h => h))))
      have Hm := Lib.hid (AV.sl (hasM W13 (hW13.sub (fun q h => (hs2 _ (.tail _ h))))))
      have hbw := hW13.1
      have hWx := KS.start W13
      have hLl : L.length ≤ 1000 := by rw [← hLe, List.length_cons]; omega
      go_loopw [131] (fun u wr => ∃ (k : Nat), k ≤ L.length ∧ u = .int .i64 (k : Int) ∧ KS W13 [] wr) (fun u _ => (L.length - intOf u).toNat)
      case atStart => exact ⟨0, by omega, rfl, ks_none (hWx)⟩
      case round =>
        obtain ⟨k, hk, rfl, hKS⟩ := hrel
        by_cases hkn : k < L.length
        · obtain ⟨⟨f, t⟩, hget⟩ : ∃ s, L[k]? = some s := ⟨_, List.getElem?_eq_getElem hkn⟩
          obtain ⟨b, off, hp, hcell⟩ := HL.out.resolve_left (fun e => by rw [e] at hkn; simp at hkn)
          by_cases h1 : at_ ≤ f
          · by_cases h2 : f < bs
            · obtain ⟨z, hz⟩ : ∃ v, btw f (f + n) m = v := ⟨_, rfl⟩
              have hze := fit_early hfr b2.1 hB h1 h2
              rw [hz] at hze
              refine wp_seq ?_
              refine wp_region_L (W0 := W13) [] (hKS) ?_
              refine lp (v := .bool true) rfl rfl (run_bin rfl (vx := .int .i64 (k : Int)) (vy := .int .i64 (L.length : Int)) (by kernel_rfl) (by kernel_rfl) fun w => run_lssI (decide_eq_true (by omega)) w) ?_
              refine wpL_done (fun W14 hW14 => ?_)
              refine (show Code.wp _ _ _ _ _ from ?_)
              refine wp_seq ?_
              refine wp_cond_true rfl ?_
              refine wp_skip ?_
              refine (show Code.wp _ _ _ _ _ from ?_)
              refine wp_seq ?_
              refine wp_block ?_
              refine wp_seq ?_
              refine wp_region_L (W0 := W13) [] (hW14) ?_
              refine lp (v := .pointer (some ⟨b, off + 2 * k, none⟩)) rfl rfl (run_idxp (b := b) (off := off) (n := L.length) (cap := ca) (k := k) rfl (by kernel_rfl) hp (by kernel_rfl) hkn) ?_
              refine lv (v := .agg #[.int .i64 f, .int .i64 t]) rfl rfl (yb_load2 rfl (by kernel_rfl) (hcell k (f, t) hget).1 (hcell k (f, t) hget).2 (World.block_lt_of_cell? _ _ (hcell k (f, t) hget).1)) ?_
              refine wpL_new (fun g => .pointer (some ⟨g, 0, none⟩)) (obi := .cells #[.int .i64 0, .int .i64 0] 41 (0, 0)) rfl rfl (fun _ => by kernel_rfl) (fun _ => by simp only [List.setIfInBounds_toArray, List.set_cons_succ, List.set_cons_zero] <;> rfl) fun g2 Bg2 Fg2 => ?_
              try simp only [List.forall_mem_cons] at Fg2
              refine wpL_s [(g2, .cells #[.int .i64 f, .int .i64 t] 41 (0, 0))] rfl rfl (st_span rfl (by kernel_rfl) (by kernel_rfl) (.head _) (by omega) (List.forall_mem_cons.2 ⟨.inl rfl, (List.forall_mem_nil _)⟩)) ?_
              refine wpL_done (fun W15 hW15 => ?_)
              clear hW14
              refine (show Code.wp _ _ _ _ _ from ?_)
              refine wp_seq ?_
              refine wp_region_L (W0 := W13) [(g2, .cells #[.int .i64 f, .int .i64 t] 41 (0, 0))] (hW15) ?_
              refine lm (v := .pointer (some ⟨g2, 0, none⟩)) rfl rfl ?_
              refine lv (v := .int .i64 f) rfl rfl (yb_loadc (off := 0) rfl (by kernel_rfl) (.head _) Tryd.underlying3 rfl (by kernel_rfl)) ?_
              refine lm (v := .int .i64 at_) rfl rfl ?_
              refine lp (v := .bool true) rfl rfl (run_bin rfl (vx := .int .i64 f) (vy := .int .i64 at_) (by kernel_rfl) (by kernel_rfl) fun w => run_geqI (decide_eq_true h1) w) ?_
              refine lm (v := .bool true) rfl rfl ?_
              refine lm (v := .pointer (some ⟨g2, 0, none⟩)) rfl rfl ?_
              refine lv (v := .int .i64 f) rfl rfl (yb_loadc (off := 0) rfl (by kernel_rfl) (.head _) Tryd.underlying3 rfl (by kernel_rfl)) ?_
              refine lm (v := .int .i64 bs) rfl rfl ?_
              refine lp (v := .bool true) rfl rfl (run_bin rfl (vx := .int .i64 f) (vy := .int .i64 bs) (by kernel_rfl) (by kernel_rfl) fun w => run_lssI (decide_eq_true h2) w) ?_
              refine lm (v := .bool true) rfl rfl ?_
              refine wpL_done (fun W16 hW16 => ?_)
              clear hW15
              refine (show Code.wp _ _ _ _ _ from ?_)
              refine wp_cond_true rfl ?_
              refine wp_seq ?_
              refine wp_region_L (W0 := W13) [(g2, .cells #[.int .i64 f, .int .i64 t] 41 (0, 0))] (hW16) ?_
              refine lm (v := .slice pm m.length cm) rfl rfl ?_
              refine lm (v := .pointer (some ⟨g2, 0, none⟩)) rfl rfl ?_
              refine lv (v := .int .i64 f) rfl rfl (yb_loadc (off := 0) rfl (by kernel_rfl) (.head _) Tryd.underlying3 rfl (by kernel_rfl)) ?_
              refine lm (v := .pointer (some ⟨g2, 0, none⟩)) rfl rfl ?_
              refine lv (v := .int .i64 f) rfl rfl (yb_loadc (off := 0) rfl (by kernel_rfl) (.head _) Tryd.underlying3 rfl (by kernel_rfl)) ?_
              refine lm (v := .int .i64 n) rfl rfl ?_
              refine lp (v := .int .i64 (f + n)) rfl rfl (run_bin rfl (vx := .int .i64 f) (vy := .int .i64 n) (by kernel_rfl) (by kernel_rfl) fun w => run_addI (z := (f + n)) rfl (by omega) w) ?_
              refine lv (v := .tuple #[.int .i64 z, .int .i64 0]) rfl rfl (yb_call (f := 21) (args := #[.slice pm m.length cm, .int .i64 f, .int .i64 (f + n)]) (fun _ => by kernel_rfl) fun W hW => between_r (sl_keep Hm.out hW.1) hap (by omega) (by omega) (by omega) hz) ?_
              refine lm (v := .tuple #[.int .i64 z, .int .i64 0]) rfl rfl ?_
              refine lm (v := .int .i64 z) rfl rfl ?_
              refine lm (v := .int .i64 0) rfl rfl ?_
              refine lm (v := .int .i64 z) rfl rfl ?_
              refine lm (v := .int .i64 0) rfl rfl ?_
              refine wpL_done (fun W17 hW17 => ?_)
              clear hW16
              refine (show Code.wp _ _ _ _ _ from ?_)
              refine wp_seq ?_
              refine wp_region_L (W0 := W13) [(g2, .cells #[.int .i64 f, .int .i64 t] 41 (0, 0))] (hW17) ?_
              refine lm (v := .int .i64 0) rfl rfl ?_
              refine lm (v := .bool false) rfl rfl ?_
              refine lm (v := .bool false) rfl rfl ?_
              refine lm (v := .int .i64 z) rfl rfl ?_
              refine lm (v := .int .i64 n) rfl rfl ?_
              refine lp (v := .bool false) rfl rfl (run_bin rfl (vx := .int .i64 z) (vy := .int .i64 n) (by kernel_rfl) (by kernel_rfl) fun w => run_eqlI (decide_eq_false hze) w) ?_
              refine lm (v := .bool false) rfl rfl ?_
              refine wpL_done (fun W18 hW18 => ?_)
              clear hW17
              refine (show Code.wp _ _ _ _ _ from ?_)
              refine wp_cond_false rfl ?_
              refine wp_skip ?_
              refine (show Code.wp _ _ _ _ _ from ?_)
              refine wp_region_L (W0 := W13) [(g2, .cells #[.int .i64 f, .int .i64 t] 41 (0, 0))] (hW18) ?_
              refine lp (v := .int .i64 ((k + 1 : Nat) : Int)) rfl rfl (run_bin rfl (vx := .int .i64 (k : Int)) (vy := .int .i64 1) (by kernel_rfl) (by kernel_rfl) fun w => run_addI (z := ((k + 1 : Nat) : Int)) rfl (by omega) w) ?_
              refine lm (v := .int .i64 ((k + 1 : Nat) : Int)) rfl rfl ?_
              refine wpL_done (fun W19 hW19 => ?_)
              clear hW18
              go_roundw
              case rel =>
                repeat apply Exists.intro
                exact ⟨⟨k + 1, by omega, rfl, ks_none hW19⟩, rfl⟩
              case measure => (show (L.length - intOf (.int .i64 ((k + 1 : Nat) : Int))).toNat < (L.length - intOf (.int .i64 (k : Int))).toNat); simp only [intOf]; omega
            · refine wp_seq ?_
              refine wp_region_L (W0 := W13) [] (hKS) ?_
              refine lp (v := .bool true) rfl rfl (run_bin rfl (vx := .int .i64 (k : Int)) (vy := .int .i64 (L.length : Int)) (by kernel_rfl) (by kernel_rfl) fun w => run_lssI (decide_eq_true (by omega)) w) ?_
              refine wpL_done (fun W14 hW14 => ?_)
              refine (show Code.wp _ _ _ _ _ from ?_)
              refine wp_seq ?_
              refine wp_cond_true rfl ?_
              refine wp_skip ?_
              refine (show Code.wp _ _ _ _ _ from ?_)
              refine wp_seq ?_
              refine wp_block ?_
              refine wp_seq ?_
              refine wp_region_L (W0 := W13) [] (hW14) ?_
              refine lp (v := .pointer (some ⟨b, off + 2 * k, none⟩)) rfl rfl (run_idxp (b := b) (off := off) (n := L.length) (cap := ca) (k := k) rfl (by kernel_rfl) hp (by kernel_rfl) hkn) ?_
              refine lv (v := .agg #[.int .i64 f, .int .i64 t]) rfl rfl (yb_load2 rfl (by kernel_rfl) (hcell k (f, t) hget).1 (hcell k (f, t) hget).2 (World.block_lt_of_cell? _ _ (hcell k (f, t) hget).1)) ?_
              refine wpL_new (fun g => .pointer (some ⟨g, 0, none⟩)) (obi := .cells #[.int .i64 0, .int .i64 0] 41 (0, 0)) rfl rfl (fun _ => by kernel_rfl) (fun _ => by simp only [List.setIfInBounds_toArray, List.set_cons_succ, List.set_cons_zero] <;> rfl) fun g2 Bg2 Fg2 => ?_
              try simp only [List.forall_mem_cons] at Fg2
              refine wpL_s [(g2, .cells #[.int .i64 f, .int .i64 t] 41 (0, 0))] rfl rfl (st_span rfl (by kernel_rfl) (by kernel_rfl) (.head _) (by omega) (List.forall_mem_cons.2 ⟨.inl rfl, (List.forall_mem_nil _)⟩)) ?_
              refine wpL_done (fun W15 hW15 => ?_)
              clear hW14
              refine (show Code.wp _ _ _ _ _ from ?_)
              refine wp_seq ?_
              refine wp_region_L (W0 := W13) [(g2, .cells #[.int .i64 f, .int .i64 t] 41 (0, 0))] (hW15) ?_
              refine lm (v := .pointer (some ⟨g2, 0, none⟩)) rfl rfl ?_
              refine lv (v := .int .i64 f) rfl rfl (yb_loadc (off := 0) rfl (by kernel_rfl) (.head _) Tryd.underlying3 rfl (by kernel_rfl)) ?_
              refine lm (v := .int .i64 at_) rfl rfl ?_
              refine lp (v := .bool true) rfl rfl (run_bin rfl (vx := .int .i64 f) (vy := .int .i64 at_) (by kernel_rfl) (by kernel_rfl) fun w => run_geqI (decide_eq_true h1) w) ?_
              refine lm (v := .bool true) rfl rfl ?_
              refine lm (v := .pointer (some ⟨g2, 0, none⟩)) rfl rfl ?_
              refine lv (v := .int .i64 f) rfl rfl (yb_loadc (off := 0) rfl (by kernel_rfl) (.head _) Tryd.underlying3 rfl (by kernel_rfl)) ?_
              refine lm (v := .int .i64 bs) rfl rfl ?_
              refine lp (v := .bool false) rfl rfl (run_bin rfl (vx := .int .i64 f) (vy := .int .i64 bs) (by kernel_rfl) (by kernel_rfl) fun w => run_lssI (decide_eq_false h2) w) ?_
              refine lm (v := .bool false) rfl rfl ?_
              refine wpL_done (fun W16 hW16 => ?_)
              clear hW15
              refine (show Code.wp _ _ _ _ _ from ?_)
              refine wp_cond_false rfl ?_
              refine wp_skip ?_
              refine (show Code.wp _ _ _ _ _ from ?_)
              refine wp_region_L (W0 := W13) [(g2, .cells #[.int .i64 f, .int .i64 t] 41 (0, 0))] (hW16) ?_
              refine lp (v := .int .i64 ((k + 1 : Nat) : Int)) rfl rfl (run_bin rfl (vx := .int .i64 (k : Int)) (vy := .int .i64 1) (by kernel_rfl) (by kernel_rfl) fun w => run_addI (z := ((k + 1 : Nat) : Int)) rfl (by omega) w) ?_
              refine lm (v := .int .i64 ((k + 1 : Nat) : Int)) rfl rfl ?_
              refine wpL_done (fun W17 hW17 => ?_)
              clear hW16
              go_roundw
              case rel =>
                repeat apply Exists.intro
                exact ⟨⟨k + 1, by omega, rfl, ks_none hW17⟩, rfl⟩
              case measure => (show (L.length - intOf (.int .i64 ((k + 1 : Nat) : Int))).toNat < (L.length - intOf (.int .i64 (k : Int))).toNat); simp only [intOf]; omega
          · refine wp_seq ?_
            refine wp_region_L (W0 := W13) [] (hKS) ?_
            refine lp (v := .bool true) rfl rfl (run_bin rfl (vx := .int .i64 (k : Int)) (vy := .int .i64 (L.length : Int)) (by kernel_rfl) (by kernel_rfl) fun w => run_lssI (decide_eq_true (by omega)) w) ?_
            refine wpL_done (fun W14 hW14 => ?_)
            refine (show Code.wp _ _ _ _ _ from ?_)
            refine wp_seq ?_
            refine wp_cond_true rfl ?_
            refine wp_skip ?_
            refine (show Code.wp _ _ _ _ _ from ?_)
            refine wp_seq ?_
            refine wp_block ?_
            refine wp_seq ?_
            refine wp_region_L (W0 := W13) [] (hW14) ?_
            refine lp (v := .pointer (some ⟨b, off + 2 * k, none⟩)) rfl rfl (run_idxp (b := b) (off := off) (n := L.length) (cap := ca) (k := k) rfl (by kernel_rfl) hp (by kernel_rfl) hkn) ?_
            refine lv (v := .agg #[.int .i64 f, .int .i64 t]) rfl rfl (yb_load2 rfl (by kernel_rfl) (hcell k (f, t) hget).1 (hcell k (f, t) hget).2 (World.block_lt_of_cell? _ _ (hcell k (f, t) hget).1)) ?_
            refine wpL_new (fun g => .pointer (some ⟨g, 0, none⟩)) (obi := .cells #[.int .i64 0, .int .i64 0] 41 (0, 0)) rfl rfl (fun _ => by kernel_rfl) (fun _ => by simp only [List.setIfInBounds_toArray, List.set_cons_succ, List.set_cons_zero] <;> rfl) fun g2 Bg2 Fg2 => ?_
            try simp only [List.forall_mem_cons] at Fg2
            refine wpL_s [(g2, .cells #[.int .i64 f, .int .i64 t] 41 (0, 0))] rfl rfl (st_span rfl (by kernel_rfl) (by kernel_rfl) (.head _) (by omega) (List.forall_mem_cons.2 ⟨.inl rfl, (List.forall_mem_nil _)⟩)) ?_
            refine wpL_done (fun W15 hW15 => ?_)
            clear hW14
            refine (show Code.wp _ _ _ _ _ from ?_)
            refine wp_seq ?_
            refine wp_region_L (W0 := W13) [(g2, .cells #[.int .i64 f, .int .i64 t] 41 (0, 0))] (hW15) ?_
            refine lm (v := .pointer (some ⟨g2, 0, none⟩)) rfl rfl ?_
            refine lv (v := .int .i64 f) rfl rfl (yb_loadc (off := 0) rfl (by kernel_rfl) (.head _) Tryd.underlying3 rfl (by kernel_rfl)) ?_
            refine lm (v := .int .i64 at_) rfl rfl ?_
            refine lp (v := .bool false) rfl rfl (run_bin rfl (vx := .int .i64 f) (vy := .int .i64 at_) (by kernel_rfl) (by kernel_rfl) fun w => run_geqI (decide_eq_false h1) w) ?_
            refine lm (v := .bool false) rfl rfl ?_
            refine ln rfl ?_
            refine ln rfl ?_
            refine ln rfl ?_
            refine ln rfl ?_
            refine lm (v := .bool false) rfl rfl ?_
            refine wpL_done (fun W16 hW16 => ?_)
            clear hW15
            refine (show Code.wp _ _ _ _ _ from ?_)
            refine wp_cond_false rfl ?_
            refine wp_skip ?_
            refine (show Code.wp _ _ _ _ _ from ?_)
            refine wp_region_L (W0 := W13) [(g2, .cells #[.int .i64 f, .int .i64 t] 41 (0, 0))] (hW16) ?_
            refine lp (v := .int .i64 ((k + 1 : Nat) : Int)) rfl rfl (run_bin rfl (vx := .int .i64 (k : Int)) (vy := .int .i64 1) (by kernel_rfl) (by kernel_rfl) fun w => run_addI (z := ((k + 1 : Nat) : Int)) rfl (by omega) w) ?_
            refine lm (v := .int .i64 ((k + 1 : Nat) : Int)) rfl rfl ?_
            refine wpL_done (fun W17 hW17 => ?_)
            clear hW16
            go_roundw
            case rel =>
              repeat apply Exists.intro
              exact ⟨⟨k + 1, by omega, rfl, ks_none hW17⟩, rfl⟩
            case measure => (show (L.length - intOf (.int .i64 ((k + 1 : Nat) : Int))).toNat < (L.length - intOf (.int .i64 (k : Int))).toNat); simp only [intOf]; omega
        · refine wp_seq ?_
          refine wp_region_L (W0 := W13) [] (hKS) ?_
          refine lp (v := .bool false) rfl rfl (run_bin rfl (vx := .int .i64 (k : Int)) (vy := .int .i64 (L.length : Int)) (by kernel_rfl) (by kernel_rfl) fun w => run_lssI (decide_eq_false (by omega)) w) ?_
          refine wpL_done (fun W14 hW14 => ?_)
          refine (show Code.wp _ _ _ _ _ from ?_)
          refine wp_seq ?_
          refine wp_cond_false rfl ?_
          refine wp_exit ?_
          refine (show Code.wp _ _ _ _ _ from ?_)
          refine wp_seq ?_
          refine wp_region_L (W0 := W13) [] (hW14) ?_
          refine lm (v := .int .i64 0) rfl rfl ?_
          refine lm (v := .bool true) rfl rfl ?_
          refine lm (v := .bool true) rfl rfl ?_
          refine lm (v := .int .i64 n) rfl rfl ?_
          refine lm (v := .int .i64 n) rfl rfl ?_
          refine lp (v := .bool true) rfl rfl (run_bin rfl (vx := .int .i64 n) (vy := .int .i64 n) (by kernel_rfl) (by kernel_rfl) fun w => run_eqlI (decide_eq_true rfl) w) ?_
          refine lm (v := .bool true) rfl rfl ?_
          refine lm (v := .bool true) rfl rfl ?_
          refine lm (v := .int .i64 bs) rfl rfl ?_
          refine lm (v := .int .i64 at_) rfl rfl ?_
          refine lp (v := .bool true) rfl rfl (run_bin rfl (vx := .int .i64 bs) (vy := .int .i64 at_) (by kernel_rfl) (by kernel_rfl) fun w => run_geqI (decide_eq_true (by omega)) w) ?_
          refine lm (v := .bool true) rfl rfl ?_
          refine lm (v := .bool true) rfl rfl ?_
          refine lm (v := .int .i64 bs) rfl rfl ?_
          refine lm (v := .int .i64 n) rfl rfl ?_
          refine lp (v := .int .i64 (bs + n)) rfl rfl (run_bin rfl (vx := .int .i64 bs) (vy := .int .i64 n) (by kernel_rfl) (by kernel_rfl) fun w => run_addI (z := (bs + n)) rfl (by omega) w) ?_
          refine lm (v := .int .i64 en) rfl rfl ?_
          refine lp (v := .bool true) rfl rfl (run_bin rfl (vx := .int .i64 (bs + n)) (vy := .int .i64 en) (by kernel_rfl) (by kernel_rfl) fun w => run_geqI (decide_eq_true (by omega)) w) ?_
          refine lm (v := .bool true) rfl rfl ?_
          refine lm (v := .bool true) rfl rfl ?_
          refine wpL_done (fun W15 hW15 => ?_)
          clear hW14
          refine (show Code.wp _ _ _ _ _ from ?_)
          refine wp_ret ?_
          try simp only [inBlock_ret, then_ret]
          go_ret
          exact ⟨rfl, Below.trans hbw (Below.mono hW15.1 hbw.size)⟩
end Go.Proofs.YtjmcelgdjpdacaaDoor
/- What two lists that are apart have in common, as a list that is apart. Plain. -/
namespace Go.Proofs.YtjmcelgdjpdacaaDoor
open Go.RowKit Tw
open Go
theorem in_nil (x : Int) : inL [] x = false := rfl
theorem in_before : ∀ {l : List (Int × Int)} {b x : Int}, apFrom b l = true → x ≤ b → inL l x = false
  | [], _, _, _, _ => rfl
  | s :: l, b, x, h, hx => by
    obtain ⟨h1, h2, h3, h4⟩ := ap_cons h
    rw [in_cons, in_before h4 (by omega), Bool.or_false, Bool.and_eq_false_iff]
    exact .inl (decide_eq_false (by omega))
theorem in_head {s : Int × Int} {x : Int} : (decide (s.1 ≤ x) && decide (x < s.2)) = true ↔ s.1 ≤ x ∧ x < s.2 := by
  rw [Bool.and_eq_true, decide_eq_true_eq, decide_eq_true_eq]
theorem in_head_no {s : Int × Int} {x : Int} (h : ¬ (s.1 ≤ x ∧ x < s.2)) : (decide (s.1 ≤ x) && decide (x < s.2)) = false := by
  cases hb : (decide (s.1 ≤ x) && decide (x < s.2)) with
  | false => rfl
  | true => exact (h (in_head.1 hb)).elim
theorem btw_succ : ∀ {l : List (Int × Int)} {b x y : Int}, apFrom b l = true → x ≤ y → btw x (y + 1) l = btw x y l + (if inL l y = true then 1 else 0)
  | [], _, _, _, _, _ => by simp [btw, in_nil]
  | s :: l, b, x, y, h, hx => by
    obtain ⟨h1, h2, h3, h4⟩ := ap_cons h
    simp only [btw]
    rw [btw_succ h4 hx, in_cons]
    by_cases hc : s.1 ≤ y ∧ y < s.2
    · rw [in_head.2 hc, in_before h4 (by omega)]
      simp only [Bool.true_or, if_true, Bool.false_eq_true, if_false]
      omega
    · rw [in_head_no hc, Bool.false_or]
      omega
theorem btw_self (l : List (Int × Int)) (x : Int) : btw x x l = 0 := by
  induction l with
  | nil => rfl
  | cons s l ih =>
    simp only [btw]
    rw [ih]
    omega
theorem btw_add : ∀ {l : List (Int × Int)} {b x y z : Int}, apFrom b l = true → x ≤ y → y ≤ z → btw x y l + btw y z l = btw x z l
  | [], _, _, _, _, _, _, _ => by simp [btw]
  | s :: l, b, x, y, z, h, hx, hy => by
    obtain ⟨h1, h2, h3, h4⟩ := ap_cons h
    have := btw_add h4 hx hy
    simp only [btw]
    omega
theorem com_in : ∀ (n : Nat) {l m : List (Int × Int)} {b b' : Int} (x : Int), apFrom b l = true → apFrom b' m = true → l.length + m.length ≤ n → inL (commonL n l m) x = (inL l x && inL m x)
  | 0, l, m, _, _, x, _, _, hn => by
    rw [List.length_eq_zero_iff.1 (show l.length = 0 by omega)]
    rfl
  | n + 1, [], m, _, _, x, _, _, _ => rfl
  | n + 1, a :: l, [], _, _, x, _, _, _ => by rw [in_nil, Bool.and_false]; rfl
  | n + 1, s :: l, t :: m, b, b', x, h, h', hn => by
    obtain ⟨h1, h2, h3, h4⟩ := ap_cons h
    obtain ⟨k1, k2, k3, k4⟩ := ap_cons h'
    simp only [List.length_cons] at hn
    have happ : ∀ (u v : List (Int × Int)), inL (u ++ v) x = (inL u x || inL v x) := fun u v => List.any_append
    have hov : inL (if min s.2 t.2 ≤ max s.1 t.1 then [] else [(max s.1 t.1, min s.2 t.2)]) x = ((decide (s.1 ≤ x) && decide (x < s.2)) && (decide (t.1 ≤ x) && decide (x < t.2))) := by
      by_cases hc : (s.1 ≤ x ∧ x < s.2) ∧ (t.1 ≤ x ∧ x < t.2)
      · rw [if_neg (by omega), in_cons, in_head.2 hc.1, in_head.2 hc.2, in_nil, Bool.or_false]
        exact in_head.2 (by omega)
      · have hr : ((decide (s.1 ≤ x) && decide (x < s.2)) && (decide (t.1 ≤ x) && decide (x < t.2))) = false := by
          by_cases hs : s.1 ≤ x ∧ x < s.2
          · rw [in_head_no (s := t) (fun ht => hc ⟨hs, ht⟩), Bool.and_false]
          · rw [in_head_no hs, Bool.false_and]
        rw [hr]
        split
        · rfl
        · rw [in_cons, in_nil, Bool.or_false]
          exact in_head_no (fun hx => hc (by simp only at hx; omega))
    simp only [commonL]
    rw [happ, hov]
    by_cases hlt : s.2 < t.2
    · rw [if_pos hlt, com_in n x h4 h' (by simp only [List.length_cons]; omega), in_cons s l, in_cons t m]
      by_cases hs : s.1 ≤ x ∧ x < s.2
      · rw [in_head.2 hs, in_before k4 (show x ≤ t.2 by omega), in_before h4 (show x ≤ s.2 by omega)]
        simp
      · rw [in_head_no hs]
        simp
    · rw [if_neg hlt, com_in n x h k4 (by simp only [List.length_cons]; omega), in_cons s l, in_cons t m]
      by_cases ht : t.1 ≤ x ∧ x < t.2
      · rw [in_head.2 ht, in_before h4 (show x ≤ s.2 by omega), in_before k4 (show x ≤ t.2 by omega)]
        simp
      · rw [in_head_no ht]
        simp
theorem com_ap : ∀ (n : Nat) {l m : List (Int × Int)} {b b' : Int}, apFrom b l = true → apFrom b' m = true → apFrom (max b b') (commonL n l m) = true
  | 0, _, _, _, _, _, _ => rfl
  | n + 1, [], _, _, _, _, _ => rfl
  | n + 1, _ :: _, [], _, _, _, _ => rfl
  | n + 1, s :: l, t :: m, b, b', h, h' => by
    obtain ⟨h1, h2, h3, h4⟩ := ap_cons h
    obtain ⟨k1, k2, k3, k4⟩ := ap_cons h'
    have ht : apFrom (min s.2 t.2) (if s.2 < t.2 then commonL n l (t :: m) else commonL n (s :: l) m) = true := by
      by_cases hlt : s.2 < t.2
      · rw [if_pos hlt]
        exact ap_mono (by omega) (com_ap n h4 h')
      · rw [if_neg hlt]
        exact ap_mono (by omega) (com_ap n h k4)
    have ht2 : apFrom (max b b') (if s.2 < t.2 then commonL n l (t :: m) else commonL n (s :: l) m) = true := by
      by_cases hlt : s.2 < t.2
      · rw [if_pos hlt]
        exact ap_mono (by omega) (com_ap n h4 h')
      · rw [if_neg hlt]
        exact ap_mono (by omega) (com_ap n h k4)
    simp only [commonL]
    by_cases hc : min s.2 t.2 ≤ max s.1 t.1
    · rw [if_pos hc]
      exact ht2
    · rw [if_neg hc]
      simp only [List.cons_append, List.nil_append, apFrom, Bool.and_eq_true, decide_eq_true_eq]
      exact ⟨⟨⟨by omega, by omega⟩, by omega⟩, ht⟩
theorem com_len : ∀ (n : Nat) (l m : List (Int × Int)), (commonL n l m).length ≤ n
  | 0, _, _ => Nat.le_refl _
  | n + 1, [], _ => Nat.zero_le _
  | n + 1, _ :: _, [] => Nat.zero_le _
  | n + 1, s :: l, t :: m => by
    have h1 := com_len n l (t :: m)
    have h2 := com_len n (s :: l) m
    simp only [commonL, List.length_append]
    split <;> split <;> simp only [List.length_nil, List.length_cons] <;> omega
theorem ap_ext : ∀ {l m : List (Int × Int)} {b b' : Int}, apFrom b l = true → apFrom b' m = true → (∀ x, inL l x = inL m x) → l = m
  | [], [], _, _, _, _, _ => rfl
  | [], t :: m, _, _, _, h', he => by
    obtain ⟨k1, k2, k3, k4⟩ := ap_cons h'
    have := he t.1
    rw [in_cons, in_head.2 ⟨Int.le_refl _, k2⟩] at this
    simp [in_nil] at this
  | s :: l, [], _, _, h, _, he => by
    obtain ⟨k1, k2, k3, k4⟩ := ap_cons h
    have := he s.1
    rw [in_cons, in_head.2 ⟨Int.le_refl _, k2⟩] at this
    simp [in_nil] at this
  | s :: l, t :: m, b, b', h, h', he => by
    obtain ⟨h1, h2, h3, h4⟩ := ap_cons h
    obtain ⟨k1, k2, k3, k4⟩ := ap_cons h'
    have e1 : s.1 = t.1 := by
      rcases Int.lt_trichotomy s.1 t.1 with hlt | heq | hgt
      · have := he s.1
        rw [in_cons, in_cons, in_head.2 ⟨Int.le_refl _, h2⟩, in_head_no (s := t) (by omega), in_before k4 (by omega)] at this
        simp at this
      · exact heq
      · have := he t.1
        rw [in_cons, in_cons, in_head.2 ⟨Int.le_refl _, k2⟩, in_head_no (s := s) (by omega), in_before h4 (by omega)] at this
        simp at this
    have e2 : s.2 = t.2 := by
      rcases Int.lt_trichotomy s.2 t.2 with hlt | heq | hgt
      · have := he s.2
        rw [in_cons, in_cons, (in_head (s := t)).2 ⟨by omega, hlt⟩, in_head_no (s := s) (by omega), in_before h4 (Int.le_refl _)] at this
        simp at this
      · exact heq
      · have := he t.2
        rw [in_cons, in_cons, (in_head (s := s)).2 ⟨by omega, hgt⟩, in_head_no (s := t) (by omega), in_before k4 (Int.le_refl _)] at this
        simp at this
    have e3 : l = m := ap_ext h4 k4 (fun x => by
      by_cases hx : x ≤ s.2
      · rw [in_before h4 hx, in_before k4 (by omega)]
      · have := he x
        rw [in_cons, in_cons, in_head_no (s := s) (by omega), in_head_no (s := t) (by omega)] at this
        simpa using this)
    rw [e3, show s = t from Prod.ext e1 e2]
theorem merge_ap : ∀ {l : List (Int × Int)} {b : Int} {acc : List (Int × Int)}, apFrom b l = true → (∀ m0 x y, acc = m0 ++ [(x, y)] → y ≤ b) → l.foldl addM acc = acc ++ l
  | [], _, acc, _, _ => by simp
  | s :: l, b, acc, h, hacc => by
    obtain ⟨h1, h2, h3, h4⟩ := ap_cons h
    have e : addM acc s = acc ++ [s] := by
      rcases List.eq_nil_or_concat acc with rfl | ⟨m0, ⟨x, y⟩, rfl⟩
      · exact addM_nil s
      · rw [List.concat_eq_append] at hacc ⊢
        have := hacc m0 x y rfl
        exact addM_apart m0 x y s (by omega)
    rw [List.foldl_cons, e, merge_ap h4 (fun m0 x y hm => by
      have := (List.append_inj' hm rfl).2
      rw [List.cons.injEq] at this
      rw [this.1]
      exact Int.le_refl _)]
    simp
def comL (l m : List (Int × Int)) : List (Int × Int) := commonL (l.length + m.length) l m
section
variable {l m : List (Int × Int)} (hl : apFrom (-1) l = true) (hm : apFrom (-1) m = true)
include hl hm
theorem comL_in (x : Int) : inL (comL l m) x = (inL l x && inL m x) := com_in _ x hl hm (Nat.le_refl _)
theorem comL_ap : apFrom (-1) (comL l m) = true := com_ap (l.length + m.length) hl hm
theorem comL_merge : mergeL (comL l m) = comL l m := by
  unfold mergeL
  rw [merge_ap (comL_ap hl hm) (fun m0 x y h => by simp at h)]
  rfl
theorem comL_turn : comL m l = comL l m := ap_ext (comL_ap hm hl) (comL_ap hl hm) (fun x => by rw [comL_in hm hl, comL_in hl hm, Bool.and_comm])
theorem comL_less {x y : Int} (n : Nat) (h : y - x = n) : btw x y (comL l m) ≤ btw x y l ∧ btw x y (comL l m) ≤ btw x y m ∧ btw x y l + btw x y m - btw x y (comL l m) ≤ n := by
  induction n generalizing y with
  | zero =>
    obtain rfl : y = x := by omega
    simp only [btw_self]
    omega
  | succ n ih =>
    have i := ih (y := y - 1) (by omega)
    have e1 := btw_succ (x := x) (y := y - 1) hl (by omega)
    have e2 := btw_succ (x := x) (y := y - 1) hm (by omega)
    have e3 := btw_succ (x := x) (y := y - 1) (comL_ap hl hm) (by omega)
    rw [show y - 1 + 1 = y from by omega] at e1 e2 e3
    rw [comL_in hl hm] at e3
    cases hA : inL l (y - 1) <;> cases hB : inL m (y - 1) <;> rw [hA] at e1 e3 <;> rw [hB] at e2 e3 <;> simp at e1 e2 e3 <;> omega
end
theorem comL_self {l : List (Int × Int)} (hl : apFrom (-1) l = true) : comL l l = l := ap_ext (comL_ap hl hl) hl (fun x => by rw [comL_in hl hl, Bool.and_self])
theorem comL_len (l m : List (Int × Int)) : (comL l m).length ≤ l.length + m.length := com_len _ l m
theorem both_r {l m r : List (Int × Int)} {p q : Option Addr} {c d : Nat} {w W : World} {K : List (Nat × Obj)} (h1 : AV W W.heap.size l p c) (h2 : AV W W.heap.size m q d) (hl : apart l = true) (hm : apart m = true) (hk : l.length + m.length ≤ 1000) (hr : comL l m = r) (hW : KS w K W) :
    Calls Tryd.prog 32 #[.slice p l.length c, .slice q m.length d] W fun e w' => ∃ v K', e = .returned v ∧ KS w K' w' ∧ GT w K r v K' := by
  have hlf : apFrom (-1) l = true := by unfold apart at hl; rw [Bool.and_eq_true] at hl; exact hl.2
  have hmf : apFrom (-1) m = true := by unfold apart at hm; rw [Bool.and_eq_true] at hm; exact hm.2
  have h := Both_ok l m p q c d W h1 h2 hl hm (Nat.le_trans (com_len _ l m) hk)
  rw [show commonL (l.length + m.length) l m = comL l m from rfl, comL_merge hlf hmf, hr] at h
  exact calls_gt hW h
theorem apart_r {l : List (Int × Int)} {p : Option Addr} {cap : Nat} {W : World} (h : SL W p l) (hl : l.length ≤ 1000) (ha : apart l = true) : Calls Tryd.prog 27 #[.slice p l.length cap] W fun e w' => e = .returned (.bool true) ∧ Below W.heap.size W w' :=
  ha ▸ Apart_any p cap l W h (by omega)
theorem run_min163 {o : Oper} {a : Act} {x y u z : Int} {px py pu : Operand} {tx ty tu : TypeId} {w : World} (ho : o.op = .call { callee := .builtin .min, args := #[px, py, pu], argTypes := #[tx, ty, tu] }) (hp : #[px, py, pu].map a.eval = #[.int .u16 x, .int .u16 y, .int .u16 u]) (hm : min (min x y) u = z) : (execOp a.eval o).run Tryd.prog w = .ok (.value (.int .u16 z)) w := by
  subst hm
  go_simp
  split <;> split <;> omega
theorem run_max163 {o : Oper} {a : Act} {x y u z : Int} {px py pu : Operand} {tx ty tu : TypeId} {w : World} (ho : o.op = .call { callee := .builtin .max, args := #[px, py, pu], argTypes := #[tx, ty, tu] }) (hp : #[px, py, pu].map a.eval = #[.int .u16 x, .int .u16 y, .int .u16 u]) (hm : max (max x y) u = z) : (execOp a.eval o).run Tryd.prog w = .ok (.value (.int .u16 z)) w := by
  subst hm
  go_simp
  split <;> split <;> omega
end Go.Proofs.YtjmcelgdjpdacaaDoor
namespace Go.Proofs.YtjmcelgdjpdacaaDoor
open Go.RowKit Tw
open Go
set_option maxRecDepth 100000 in
set_option maxHeartbeats 20000000 in
theorem ClockBoth_law (w : World) (hE : Env w) (l0 : List Int) (p0 : Option Addr) (c0 : Nat) (hb0 : BL w p0 l0) (l1 : List Int) (p1 : Option Addr) (c1 : Nat) (hb1 : BL w p1 l1) (a2 : Int) (r2 : 0 ≤ a2 ∧ a2 ≤ 65535) (a3 : Int) (r3 : 0 ≤ a3 ∧ a3 ≤ 65535) (a4 : Int) (r4 : 0 ≤ a4 ∧ a4 ≤ 65535) :
    Calls Tryd.prog 10 #[.slice p0 l0.length c0, .slice p1 l1.length c1, .int .u16 a2, .int .u16 a3, .int .u16 a4] w fun e w' => e = .returned (.bool true) ∧ Below w.heap.size w w' := by
  have HE := Lib.hid hE
  have HB0 := Lib.hid hb0
  have HB1 := Lib.hid hb1
  have f0 := made_apFrom hb0.1
  have f1 := made_apFrom hb1.1
  have ha0 := made_apart hb0.1
  have ha1 := made_apart hb1.1
  have n0 := made_length l0
  have n1 := made_length l1
  have HM0 := fun W h => Made_any l0 p0 c0 W h
  have HM1 := fun W h => Made_any l1 p1 c1 W h
  obtain ⟨m0, e0⟩ : ∃ m, madeL l0 = m := ⟨_, rfl⟩
  obtain ⟨m1, e1⟩ : ∃ m, madeL l1 = m := ⟨_, rfl⟩
  rw [e0] at f0 ha0 n0 HM0
  rw [e1] at f1 ha1 n1 HM1
  clear hE hb0 hb1
  obtain ⟨c, hc⟩ : ∃ c, comL m0 m1 = c := ⟨_, rfl⟩
  have hc2 : comL m1 m0 = c := (comL_turn f0 f1).trans hc
  have hc3 := comL_self f0
  have fc := comL_ap f0 f1
  have nc := comL_len m0 m1
  have hin := comL_in f0 f1
  obtain ⟨lo, hlo⟩ : ∃ v, min (min a2 a3) a4 = v := ⟨_, rfl⟩
  obtain ⟨hi, hhi⟩ : ∃ v, max (max a2 a3) a4 = v := ⟨_, rfl⟩
  obtain ⟨mid, hmid⟩ : ∃ v, a2 + a3 + a4 - lo - hi = v := ⟨_, rfl⟩
  have b1 : 0 ≤ lo ∧ lo ≤ mid ∧ mid ≤ hi ∧ hi ≤ 65535 := by omega
  have hadd := btw_add f0 b1.2.1 b1.2.2.1
  have hle := comL_less f0 f1 (x := lo) (y := hi) (hi - lo).toNat (by omega)
  rw [hc] at fc nc hin hle
  have hac : apart c = true := by unfold apart; rw [fc, Bool.and_true, decide_eq_true_eq]; omega
  obtain ⟨b01, hb01⟩ : ∃ v, btw lo mid m0 = v := ⟨_, rfl⟩
  obtain ⟨b12, hb12⟩ : ∃ v, btw mid hi m0 = v := ⟨_, rfl⟩
  obtain ⟨b02, hb02⟩ : ∃ v, btw lo hi m0 = v := ⟨_, rfl⟩
  obtain ⟨bo, hbo⟩ : ∃ v, btw lo hi m1 = v := ⟨_, rfl⟩
  obtain ⟨bc, hbc⟩ : ∃ v, btw lo hi c = v := ⟨_, rfl⟩
  rw [hb01, hb12, hb02] at hadd
  rw [hb02, hbo, hbc] at hle
  have g1 := btw_nonneg m0 lo mid
  have g2 := btw_nonneg m0 mid hi
  have g3 := btw_nonneg m1 lo hi
  have g4 := btw_nonneg c lo hi
  have g5 := btw_le (x := lo) (y := hi) f0
  have g6 := btw_le (x := lo) (y := hi) f1
  rw [hb01] at g1
  rw [hb12] at g2
  rw [hbo] at g3 g6
  rw [hbc] at g4
  rw [hb02] at g5
  go_enter Tryd.func10, Tryd.ntmps10
  refine wp_seq ?_
  refine wp_region_L (W0 := w) [] (KS.start w) ?_
  refine lm (v := .bool false) rfl rfl ?_
  refine wpL_done (fun W1 hW1 => ?_)
  refine (show Code.wp _ _ _ _ _ from ?_)
  refine wp_seq ?_
  refine wp_seq ?_
  refine wp_region_L (W0 := w) [] (hW1) ?_
  refine lv (v := .bool true) rfl rfl (yb_call (f := 15) (args := #[]) (fun _ => by kernel_rfl) fun W hW => awake_any W (HE.out.keep hW.1)) ?_
  refine lm (v := .bool false) rfl rfl ?_
  refine wpL_done (fun W2 hW2 => ?_)
  clear hW1
  refine (show Code.wp _ _ _ _ _ from ?_)
  refine wp_cond_false rfl ?_
  refine wp_skip ?_
  refine (show Code.wp _ _ _ _ _ from ?_)
  refine wp_seq ?_
  refine wp_region_L (W0 := w) [] (hW2) ?_
  refine lm (v := .slice p0 l0.length c0) rfl rfl ?_
  refine wpL_c (GL w [] m0) rfl (by kernel_rfl) (fun _ => (by kernel_rfl)) (fun W hW => calls_gl hW (HM0 W (bl_keep HB0.out hW.1))) (fun _ => by simp only [List.setIfInBounds_toArray, List.set_cons_succ, List.set_cons_zero] <;> rfl) ?_
  rintro v Kz1 ⟨pm0, cm0, rfl, hasM0, hs1⟩
  refine lm (v := .slice p1 l1.length c1) rfl rfl ?_
  refine wpL_c (GL w Kz1 m1) rfl (by kernel_rfl) (fun _ => (by kernel_rfl)) (fun W hW => calls_gl hW (HM1 W (bl_keep HB1.out hW.1))) (fun _ => by simp only [List.setIfInBounds_toArray, List.set_cons_succ, List.set_cons_zero] <;> rfl) ?_
  rintro v Kz2 ⟨pm1, cm1, rfl, hasM1, hs2⟩
  refine lm (v := .slice pm0 m0.length cm0) rfl rfl ?_
  refine lm (v := .slice pm1 m1.length cm1) rfl rfl ?_
  refine wpL_done (fun W3 hW3 => ?_)
  clear hW2
  refine (show Code.wp _ _ _ _ _ from ?_)
  refine wp_seq ?_
  refine wp_region_L (W0 := w) Kz2 (hW3) ?_
  refine lm (v := .slice pm0 m0.length cm0) rfl rfl ?_
  refine lm (v := .slice pm1 m1.length cm1) rfl rfl ?_
  refine wpL_c (GT w Kz2 c) rfl (by kernel_rfl) (fun _ => (by kernel_rfl)) (fun W hW => both_r (hasM0 W (hW.sub (fun q h => (hs2 _ h)))) (hasM1 W (hW.sub (fun q h => h))) ha0 ha1 (by omega) hc hW) (fun _ => by simp only [List.setIfInBounds_toArray, List.set_cons_succ, List.set_cons_zero] <;> rfl) ?_
  rintro v Kz3 ⟨pb1, cb1, rfl, hasB1, hs3⟩
  refine lm (v := .tuple #[.slice pb1 c.length cb1, .int .i64 0]) rfl rfl ?_
  refine lm (v := .slice pb1 c.length cb1) rfl rfl ?_
  refine lm (v := .int .i64 0) rfl rfl ?_
  refine lm (v := .slice pb1 c.length cb1) rfl rfl ?_
  refine lm (v := .int .i64 0) rfl rfl ?_
  refine wpL_done (fun W4 hW4 => ?_)
  clear hW3
  refine (show Code.wp _ _ _ _ _ from ?_)
  refine wp_seq ?_
  refine wp_region_L (W0 := w) Kz3 (hW4) ?_
  refine lm (v := .slice pm1 m1.length cm1) rfl rfl ?_
  refine lm (v := .slice pm0 m0.length cm0) rfl rfl ?_
  refine wpL_c (GT w Kz3 c) rfl (by kernel_rfl) (fun _ => (by kernel_rfl)) (fun W hW => both_r (hasM1 W (hW.sub (fun q h => (hs3 _ h)))) (hasM0 W (hW.sub (fun q h => (hs3 _ (hs2 _ h))))) ha1 ha0 (by omega) hc2 hW) (fun _ => by simp only [List.setIfInBounds_toArray, List.set_cons_succ, List.set_cons_zero] <;> rfl) ?_
  rintro v Kz4 ⟨pb2, cb2, rfl, hasB2, hs4⟩
  refine lm (v := .tuple #[.slice pb2 c.length cb2, .int .i64 0]) rfl rfl ?_
  refine lm (v := .slice pb2 c.length cb2) rfl rfl ?_
  refine lm (v := .int .i64 0) rfl rfl ?_
  refine lm (v := .slice pb2 c.length cb2) rfl rfl ?_
  refine lm (v := .int .i64 0) rfl rfl ?_
  refine wpL_done (fun W5 hW5 => ?_)
  clear hW4
  refine (show Code.wp _ _ _ _ _ from ?_)
  refine wp_seq ?_
  refine wp_region_L (W0 := w) Kz4 (hW5) ?_
  refine lm (v := .slice pm0 m0.length cm0) rfl rfl ?_
  refine lm (v := .slice pm0 m0.length cm0) rfl rfl ?_
  refine wpL_c (GT w Kz4 m0) rfl (by kernel_rfl) (fun _ => (by kernel_rfl)) (fun W hW => both_r (hasM0 W (hW.sub (fun q h => (hs4 _ (hs3 _ (hs2 _ h)))))) (hasM0 W (hW.sub (fun q h => (hs4 _ (hs3 _ (hs2 _ h)))))) ha0 ha0 (by omega) hc3 hW) (fun _ => by simp only [List.setIfInBounds_toArray, List.set_cons_succ, List.set_cons_zero] <;> rfl) ?_
  rintro v Kz5 ⟨pb3, cb3, rfl, hasB3, hs5⟩
  refine lm (v := .tuple #[.slice pb3 m0.length cb3, .int .i64 0]) rfl rfl ?_
  refine lm (v := .slice pb3 m0.length cb3) rfl rfl ?_
  refine lm (v := .int .i64 0) rfl rfl ?_
  refine lm (v := .slice pb3 m0.length cb3) rfl rfl ?_
  refine lm (v := .int .i64 0) rfl rfl ?_
  refine wpL_done (fun W6 hW6 => ?_)
  clear hW5
  refine (show Code.wp _ _ _ _ _ from ?_)
  refine wp_seq ?_
  refine wp_seq ?_
  refine wp_region_L (W0 := w) Kz5 (hW6) ?_
  refine lm (v := .int .i64 0) rfl rfl ?_
  refine lm (v := .int .i64 0) rfl rfl ?_
  refine lm (v := .int .i64 0) rfl rfl ?_
  refine lm (v := .int .i64 0) rfl rfl ?_
  refine lm (v := .int .i64 0) rfl rfl ?_
  refine lm (v := .bool false) rfl rfl ?_
  refine lm (v := .bool false) rfl rfl ?_
  refine lm (v := .slice pb1 c.length cb1) rfl rfl ?_
  refine lm (v := .slice pb2 c.length cb2) rfl rfl ?_
  refine lv (v := .bool true) rfl rfl (yb_call (f := 33) (args := #[.slice pb1 c.length cb1, .slice pb2 c.length cb2]) (fun _ => by kernel_rfl) fun W hW => same_true c _ _ _ _ W (hasB1 W (hW.sub (fun q h => (hs5 _ (hs4 _ h))))).sl (hasB2 W (hW.sub (fun q h => (hs5 _ h)))).sl (by omega)) ?_
  refine lm (v := .bool false) rfl rfl ?_
  refine lm (v := .bool false) rfl rfl ?_
  refine lm (v := .bool false) rfl rfl ?_
  refine lm (v := .slice pb3 m0.length cb3) rfl rfl ?_
  refine lm (v := .slice pm0 m0.length cm0) rfl rfl ?_
  refine lv (v := .bool true) rfl rfl (yb_call (f := 33) (args := #[.slice pb3 m0.length cb3, .slice pm0 m0.length cm0]) (fun _ => by kernel_rfl) fun W hW => same_true m0 _ _ _ _ W (hasB3 W (hW.sub (fun q h => h))).sl (hasM0 W (hW.sub (fun q h => (hs5 _ (hs4 _ (hs3 _ (hs2 _ h))))))).sl (by omega)) ?_
  refine lm (v := .bool false) rfl rfl ?_
  refine lm (v := .bool false) rfl rfl ?_
  refine lm (v := .bool false) rfl rfl ?_
  refine lm (v := .slice pb1 c.length cb1) rfl rfl ?_
  refine lv (v := .bool true) rfl rfl (yb_call (f := 27) (args := #[.slice pb1 c.length cb1]) (fun _ => by kernel_rfl) fun W hW => apart_r (hasB1 W (hW.sub (fun q h => (hs5 _ (hs4 _ h))))).sl (by omega) hac) ?_
  refine lm (v := .bool false) rfl rfl ?_
  refine lm (v := .bool false) rfl rfl ?_
  refine wpL_done (fun W7 hW7 => ?_)
  clear hW6
  refine (show Code.wp _ _ _ _ _ from ?_)
  refine wp_cond_false rfl ?_
  refine wp_skip ?_
  refine (show Code.wp _ _ _ _ _ from ?_)
  refine wp_seq ?_
  refine wp_region_L (W0 := w) Kz5 (hW7) ?_
  refine lm (v := .int .u16 a2) rfl rfl ?_
  refine lm (v := .int .u16 a3) rfl rfl ?_
  refine lm (v := .int .u16 a4) rfl rfl ?_
  refine lp (v := .int .u16 lo) rfl rfl (fun _ => run_min163 rfl (by kernel_rfl) hlo) ?_
  refine lp (v := .int .i64 lo) rfl rfl (run_cvh rfl (by kernel_rfl) (by omega)) ?_
  refine lm (v := .int .u16 a2) rfl rfl ?_
  refine lm (v := .int .u16 a3) rfl rfl ?_
  refine lm (v := .int .u16 a4) rfl rfl ?_
  refine lp (v := .int .u16 hi) rfl rfl (fun _ => run_max163 rfl (by kernel_rfl) hhi) ?_
  refine lp (v := .int .i64 hi) rfl rfl (run_cvh rfl (by kernel_rfl) (by omega)) ?_
  refine lm (v := .int .i64 lo) rfl rfl ?_
  refine lm (v := .int .i64 0) rfl rfl ?_
  refine lm (v := .int .i64 hi) rfl rfl ?_
  refine wpL_done (fun W8 hW8 => ?_)
  clear hW7
  refine (show Code.wp _ _ _ _ _ from ?_)
  refine wp_seq ?_
  refine wp_region_L (W0 := w) Kz5 (hW8) ?_
  refine lm (v := .int .u16 a2) rfl rfl ?_
  refine lp (v := .int .i64 a2) rfl rfl (run_cvh rfl (by kernel_rfl) (by omega)) ?_
  refine lm (v := .int .u16 a3) rfl rfl ?_
  refine lp (v := .int .i64 a3) rfl rfl (run_cvh rfl (by kernel_rfl) (by omega)) ?_
  refine lp (v := .int .i64 (a2 + a3)) rfl rfl (run_bin rfl (vx := .int .i64 a2) (vy := .int .i64 a3) (by kernel_rfl) (by kernel_rfl) fun w => run_addI (z := (a2 + a3)) rfl (by omega) w) ?_
  refine lm (v := .int .u16 a4) rfl rfl ?_
  refine lp (v := .int .i64 a4) rfl rfl (run_cvh rfl (by kernel_rfl) (by omega)) ?_
  refine lp (v := .int .i64 (a2 + a3 + a4)) rfl rfl (run_bin rfl (vx := .int .i64 (a2 + a3)) (vy := .int .i64 a4) (by kernel_rfl) (by kernel_rfl) fun w => run_addI (z := (a2 + a3 + a4)) rfl (by omega) w) ?_
  refine lm (v := .int .i64 lo) rfl rfl ?_
  refine lp (v := .int .i64 (a2 + a3 + a4 - lo)) rfl rfl (run_bin rfl (vx := .int .i64 (a2 + a3 + a4)) (vy := .int .i64 lo) (by kernel_rfl) (by kernel_rfl) fun w => run_subI (z := (a2 + a3 + a4 - lo)) rfl (by omega) w) ?_
  refine lm (v := .int .i64 hi) rfl rfl ?_
  refine lp (v := .int .i64 mid) rfl rfl (run_bin rfl (vx := .int .i64 (a2 + a3 + a4 - lo)) (vy := .int .i64 hi) (by kernel_rfl) (by kernel_rfl) fun w => run_subI (z := mid) hmid (by omega) w) ?_
  refine lm (v := .int .i64 mid) rfl rfl ?_
  refine wpL_done (fun W9 hW9 => ?_)
  clear hW8
  refine (show Code.wp _ _ _ _ _ from ?_)
  refine wp_seq ?_
  refine wp_region_L (W0 := w) Kz5 (hW9) ?_
  refine lm (v := .slice pm0 m0.length cm0) rfl rfl ?_
  refine lm (v := .int .i64 lo) rfl rfl ?_
  refine lm (v := .int .i64 mid) rfl rfl ?_
  refine lv (v := .tuple #[.int .i64 b01, .int .i64 0]) rfl rfl (yb_call (f := 21) (args := #[.slice pm0 m0.length cm0, .int .i64 lo, .int .i64 mid]) (fun _ => by kernel_rfl) fun W hW => between_r (hasM0 W (hW.sub (fun q h => (hs5 _ (hs4 _ (hs3 _ (hs2 _ h))))))).sl ha0 (by omega) (by omega) (by omega) hb01) ?_
  refine lm (v := .tuple #[.int .i64 b01, .int .i64 0]) rfl rfl ?_
  refine lm (v := .int .i64 b01) rfl rfl ?_
  refine lm (v := .int .i64 0) rfl rfl ?_
  refine lm (v := .int .i64 b01) rfl rfl ?_
  refine lm (v := .int .i64 0) rfl rfl ?_
  refine wpL_done (fun W10 hW10 => ?_)
  clear hW9
  refine (show Code.wp _ _ _ _ _ from ?_)
  refine wp_seq ?_
  refine wp_region_L (W0 := w) Kz5 (hW10) ?_
  refine lm (v := .slice pm0 m0.length cm0) rfl rfl ?_
  refine lm (v := .int .i64 mid) rfl rfl ?_
  refine lm (v := .int .i64 hi) rfl rfl ?_
  refine lv (v := .tuple #[.int .i64 b12, .int .i64 0]) rfl rfl (yb_call (f := 21) (args := #[.slice pm0 m0.length cm0, .int .i64 mid, .int .i64 hi]) (fun _ => by kernel_rfl) fun W hW => between_r (hasM0 W (hW.sub (fun q h => (hs5 _ (hs4 _ (hs3 _ (hs2 _ h))))))).sl ha0 (by omega) (by omega) (by omega) hb12) ?_
  refine lm (v := .tuple #[.int .i64 b12, .int .i64 0]) rfl rfl ?_
  refine lm (v := .int .i64 b12) rfl rfl ?_
  refine lm (v := .int .i64 0) rfl rfl ?_
  refine lm (v := .int .i64 b12) rfl rfl ?_
  refine lm (v := .int .i64 0) rfl rfl ?_
  refine wpL_done (fun W11 hW11 => ?_)
  clear hW10
  refine (show Code.wp _ _ _ _ _ from ?_)
  refine wp_seq ?_
  refine wp_region_L (W0 := w) Kz5 (hW11) ?_
  refine lm (v := .slice pm0 m0.length cm0) rfl rfl ?_
  refine lm (v := .int .i64 lo) rfl rfl ?_
  refine lm (v := .int .i64 hi) rfl rfl ?_
  refine lv (v := .tuple #[.int .i64 b02, .int .i64 0]) rfl rfl (yb_call (f := 21) (args := #[.slice pm0 m0.length cm0, .int .i64 lo, .int .i64 hi]) (fun _ => by kernel_rfl) fun W hW => between_r (hasM0 W (hW.sub (fun q h => (hs5 _ (hs4 _ (hs3 _ (hs2 _ h))))))).sl ha0 (by omega) (by omega) (by omega) hb02) ?_
  refine lm (v := .tuple #[.int .i64 b02, .int .i64 0]) rfl rfl ?_
  refine lm (v := .int .i64 b02) rfl rfl ?_
  refine lm (v := .int .i64 0) rfl rfl ?_
  refine lm (v := .int .i64 b02) rfl rfl ?_
  refine lm (v := .int .i64 0) rfl rfl ?_
  refine wpL_done (fun W12 hW12 => ?_)
  clear hW11
  refine (show Code.wp _ _ _ _ _ from ?_)
  refine wp_seq ?_
  refine wp_region_L (W0 := w) Kz5 (hW12) ?_
  refine lm (v := .slice pm1 m1.length cm1) rfl rfl ?_
  refine lm (v := .int .i64 lo) rfl rfl ?_
  refine lm (v := .int .i64 hi) rfl rfl ?_
  refine lv (v := .tuple #[.int .i64 bo, .int .i64 0]) rfl rfl (yb_call (f := 21) (args := #[.slice pm1 m1.length cm1, .int .i64 lo, .int .i64 hi]) (fun _ => by kernel_rfl) fun W hW => between_r (hasM1 W (hW.sub (fun q h => (hs5 _ (hs4 _ (hs3 _ h)))))).sl ha1 (by omega) (by omega) (by omega) hbo) ?_
  refine lm (v := .tuple #[.int .i64 bo, .int .i64 0]) rfl rfl ?_
  refine lm (v := .int .i64 bo) rfl rfl ?_
  refine lm (v := .int .i64 0) rfl rfl ?_
  refine lm (v := .int .i64 bo) rfl rfl ?_
  refine lm (v := .int .i64 0) rfl rfl ?_
  refine wpL_done (fun W13 hW13 => ?_)
  clear hW12
  refine (show Code.wp _ _ _ _ _ from ?_)
  refine wp_seq ?_
  refine wp_region_L (W0 := w) Kz5 (hW13) ?_
  refine lm (v := .slice pb1 c.length cb1) rfl rfl ?_
  refine lm (v := .int .i64 lo) rfl rfl ?_
  refine lm (v := .int .i64 hi) rfl rfl ?_
  refine lv (v := .tuple #[.int .i64 bc, .int .i64 0]) rfl rfl (yb_call (f := 21) (args := #[.slice pb1 c.length cb1, .int .i64 lo, .int .i64 hi]) (fun _ => by kernel_rfl) fun W hW => between_r (hasB1 W (hW.sub (fun q h => (hs5 _ (hs4 _ h))))).sl hac (by omega) (by omega) (by omega) hbc) ?_
  refine lm (v := .tuple #[.int .i64 bc, .int .i64 0]) rfl rfl ?_
  refine lm (v := .int .i64 bc) rfl rfl ?_
  refine lm (v := .int .i64 0) rfl rfl ?_
  refine lm (v := .int .i64 bc) rfl rfl ?_
  refine lm (v := .int .i64 0) rfl rfl ?_
  refine wpL_done (fun W14 hW14 => ?_)
  clear hW13
  refine (show Code.wp _ _ _ _ _ from ?_)
  refine wp_seq ?_
  refine wp_seq ?_
  refine wp_region_L (W0 := w) Kz5 (hW14) ?_
  refine lm (v := .int .i64 0) rfl rfl ?_
  refine lm (v := .int .i64 0) rfl rfl ?_
  refine lm (v := .int .i64 0) rfl rfl ?_
  refine lm (v := .int .i64 0) rfl rfl ?_
  refine lm (v := .int .i64 0) rfl rfl ?_
  refine lm (v := .int .i64 0) rfl rfl ?_
  refine lm (v := .int .i64 0) rfl rfl ?_
  refine lm (v := .int .i64 0) rfl rfl ?_
  refine lm (v := .int .i64 0) rfl rfl ?_
  refine lm (v := .bool false) rfl rfl ?_
  refine lm (v := .bool false) rfl rfl ?_
  refine lm (v := .int .i64 b01) rfl rfl ?_
  refine lm (v := .int .i64 b12) rfl rfl ?_
  refine lp (v := .int .i64 b02) rfl rfl (run_bin rfl (vx := .int .i64 b01) (vy := .int .i64 b12) (by kernel_rfl) (by kernel_rfl) fun w => run_addI (z := b02) hadd (by omega) w) ?_
  refine lm (v := .int .i64 b02) rfl rfl ?_
  refine lp (v := .bool false) rfl rfl (run_bin rfl (vx := .int .i64 b02) (vy := .int .i64 b02) (by kernel_rfl) (by kernel_rfl) fun w => run_neqI (decide_eq_true rfl) w) ?_
  refine lm (v := .bool false) rfl rfl ?_
  refine lm (v := .bool false) rfl rfl ?_
  refine lm (v := .int .i64 bc) rfl rfl ?_
  refine lm (v := .int .i64 b02) rfl rfl ?_
  refine lm (v := .int .i64 bo) rfl rfl ?_
  refine lp (v := .int .i64 (min b02 bo)) rfl rfl (fun _ => run_minI rfl (by kernel_rfl) rfl) ?_
  refine lp (v := .bool false) rfl rfl (run_bin rfl (vx := .int .i64 bc) (vy := .int .i64 (min b02 bo)) (by kernel_rfl) (by kernel_rfl) fun w => run_gtrI (decide_eq_false (by omega)) w) ?_
  refine lm (v := .bool false) rfl rfl ?_
  refine lm (v := .bool false) rfl rfl ?_
  refine lm (v := .int .i64 b02) rfl rfl ?_
  refine lm (v := .int .i64 bo) rfl rfl ?_
  refine lp (v := .int .i64 (b02 + bo)) rfl rfl (run_bin rfl (vx := .int .i64 b02) (vy := .int .i64 bo) (by kernel_rfl) (by kernel_rfl) fun w => run_addI (z := (b02 + bo)) rfl (by omega) w) ?_
  refine lm (v := .int .i64 bc) rfl rfl ?_
  refine lp (v := .int .i64 (b02 + bo - bc)) rfl rfl (run_bin rfl (vx := .int .i64 (b02 + bo)) (vy := .int .i64 bc) (by kernel_rfl) (by kernel_rfl) fun w => run_subI (z := (b02 + bo - bc)) rfl (by omega) w) ?_
  refine lm (v := .int .i64 hi) rfl rfl ?_
  refine lm (v := .int .i64 lo) rfl rfl ?_
  refine lp (v := .int .i64 (hi - lo)) rfl rfl (run_bin rfl (vx := .int .i64 hi) (vy := .int .i64 lo) (by kernel_rfl) (by kernel_rfl) fun w => run_subI (z := (hi - lo)) rfl (by omega) w) ?_
  refine lp (v := .bool false) rfl rfl (run_bin rfl (vx := .int .i64 (b02 + bo - bc)) (vy := .int .i64 (hi - lo)) (by kernel_rfl) (by kernel_rfl) fun w => run_gtrI (decide_eq_false (by omega)) w) ?_
  refine lm (v := .bool false) rfl rfl ?_
  refine wpL_done (fun W15 hW15 => ?_)
  clear hW14
  refine (show Code.wp _ _ _ _ _ from ?_)
  refine wp_cond_false rfl ?_
  refine wp_skip ?_
  refine (show Code.wp _ _ _ _ _ from ?_)
  have hmi := hin mid
  cases hp : inL m0 mid <;> cases hq : inL m1 mid <;> rw [hp, hq] at hmi
  · refine wp_seq ?_
    refine wp_region_L (W0 := w) Kz5 (hW15) ?_
    refine lm (v := .slice pb1 c.length cb1) rfl rfl ?_
    refine lm (v := .int .i64 mid) rfl rfl ?_
    refine lv (v := .bool false) rfl rfl (yb_call (f := 23) (args := #[.slice pb1 c.length cb1, .int .i64 mid]) (fun _ => by kernel_rfl) fun W hW => in_r (hasB1 W (hW.sub (fun q h => (hs5 _ (hs4 _ h))))).sl hac hmi) ?_
    refine lm (v := .slice pm0 m0.length cm0) rfl rfl ?_
    refine lm (v := .int .i64 mid) rfl rfl ?_
    refine lv (v := .bool false) rfl rfl (yb_call (f := 23) (args := #[.slice pm0 m0.length cm0, .int .i64 mid]) (fun _ => by kernel_rfl) fun W hW => in_r (hasM0 W (hW.sub (fun q h => (hs5 _ (hs4 _ (hs3 _ (hs2 _ h))))))).sl ha0 hp) ?_
    refine lm (v := .bool false) rfl rfl ?_
    refine ln rfl ?_
    refine ln rfl ?_
    refine ln rfl ?_
    refine lm (v := .bool false) rfl rfl ?_
    refine lm (v := .bool true) rfl rfl ?_
    refine lm (v := .bool true) rfl rfl ?_
    refine wpL_done (fun W16 hW16 => ?_)
    clear hW15
    refine (show Code.wp _ _ _ _ _ from ?_)
    refine wp_ret ?_
    try simp only [inBlock_ret, then_ret]
    go_ret
    exact ⟨rfl, hW16.1⟩
  · refine wp_seq ?_
    refine wp_region_L (W0 := w) Kz5 (hW15) ?_
    refine lm (v := .slice pb1 c.length cb1) rfl rfl ?_
    refine lm (v := .int .i64 mid) rfl rfl ?_
    refine lv (v := .bool false) rfl rfl (yb_call (f := 23) (args := #[.slice pb1 c.length cb1, .int .i64 mid]) (fun _ => by kernel_rfl) fun W hW => in_r (hasB1 W (hW.sub (fun q h => (hs5 _ (hs4 _ h))))).sl hac hmi) ?_
    refine lm (v := .slice pm0 m0.length cm0) rfl rfl ?_
    refine lm (v := .int .i64 mid) rfl rfl ?_
    refine lv (v := .bool false) rfl rfl (yb_call (f := 23) (args := #[.slice pm0 m0.length cm0, .int .i64 mid]) (fun _ => by kernel_rfl) fun W hW => in_r (hasM0 W (hW.sub (fun q h => (hs5 _ (hs4 _ (hs3 _ (hs2 _ h))))))).sl ha0 hp) ?_
    refine lm (v := .bool false) rfl rfl ?_
    refine ln rfl ?_
    refine ln rfl ?_
    refine ln rfl ?_
    refine lm (v := .bool false) rfl rfl ?_
    refine lm (v := .bool true) rfl rfl ?_
    refine lm (v := .bool true) rfl rfl ?_
    refine wpL_done (fun W16 hW16 => ?_)
    clear hW15
    refine (show Code.wp _ _ _ _ _ from ?_)
    refine wp_ret ?_
    try simp only [inBlock_ret, then_ret]
    go_ret
    exact ⟨rfl, hW16.1⟩
  · refine wp_seq ?_
    refine wp_region_L (W0 := w) Kz5 (hW15) ?_
    refine lm (v := .slice pb1 c.length cb1) rfl rfl ?_
    refine lm (v := .int .i64 mid) rfl rfl ?_
    refine lv (v := .bool false) rfl rfl (yb_call (f := 23) (args := #[.slice pb1 c.length cb1, .int .i64 mid]) (fun _ => by kernel_rfl) fun W hW => in_r (hasB1 W (hW.sub (fun q h => (hs5 _ (hs4 _ h))))).sl hac hmi) ?_
    refine lm (v := .slice pm0 m0.length cm0) rfl rfl ?_
    refine lm (v := .int .i64 mid) rfl rfl ?_
    refine lv (v := .bool true) rfl rfl (yb_call (f := 23) (args := #[.slice pm0 m0.length cm0, .int .i64 mid]) (fun _ => by kernel_rfl) fun W hW => in_r (hasM0 W (hW.sub (fun q h => (hs5 _ (hs4 _ (hs3 _ (hs2 _ h))))))).sl ha0 hp) ?_
    refine lm (v := .bool true) rfl rfl ?_
    refine lm (v := .slice pm1 m1.length cm1) rfl rfl ?_
    refine lm (v := .int .i64 mid) rfl rfl ?_
    refine lv (v := .bool false) rfl rfl (yb_call (f := 23) (args := #[.slice pm1 m1.length cm1, .int .i64 mid]) (fun _ => by kernel_rfl) fun W hW => in_r (hasM1 W (hW.sub (fun q h => (hs5 _ (hs4 _ (hs3 _ h)))))).sl ha1 hq) ?_
    refine lm (v := .bool false) rfl rfl ?_
    refine lm (v := .bool true) rfl rfl ?_
    refine lm (v := .bool true) rfl rfl ?_
    refine wpL_done (fun W16 hW16 => ?_)
    clear hW15
    refine (show Code.wp _ _ _ _ _ from ?_)
    refine wp_ret ?_
    try simp only [inBlock_ret, then_ret]
    go_ret
    exact ⟨rfl, hW16.1⟩
  · refine wp_seq ?_
    refine wp_region_L (W0 := w) Kz5 (hW15) ?_
    refine lm (v := .slice pb1 c.length cb1) rfl rfl ?_
    refine lm (v := .int .i64 mid) rfl rfl ?_
    refine lv (v := .bool true) rfl rfl (yb_call (f := 23) (args := #[.slice pb1 c.length cb1, .int .i64 mid]) (fun _ => by kernel_rfl) fun W hW => in_r (hasB1 W (hW.sub (fun q h => (hs5 _ (hs4 _ h))))).sl hac hmi) ?_
    refine lm (v := .slice pm0 m0.length cm0) rfl rfl ?_
    refine lm (v := .int .i64 mid) rfl rfl ?_
    refine lv (v := .bool true) rfl rfl (yb_call (f := 23) (args := #[.slice pm0 m0.length cm0, .int .i64 mid]) (fun _ => by kernel_rfl) fun W hW => in_r (hasM0 W (hW.sub (fun q h => (hs5 _ (hs4 _ (hs3 _ (hs2 _ h))))))).sl ha0 hp) ?_
    refine lm (v := .bool true) rfl rfl ?_
    refine lm (v := .slice pm1 m1.length cm1) rfl rfl ?_
    refine lm (v := .int .i64 mid) rfl rfl ?_
    refine lv (v := .bool true) rfl rfl (yb_call (f := 23) (args := #[.slice pm1 m1.length cm1, .int .i64 mid]) (fun _ => by kernel_rfl) fun W hW => in_r (hasM1 W (hW.sub (fun q h => (hs5 _ (hs4 _ (hs3 _ h)))))).sl ha1 hq) ?_
    refine lm (v := .bool true) rfl rfl ?_
    refine lm (v := .bool true) rfl rfl ?_
    refine lm (v := .bool true) rfl rfl ?_
    refine wpL_done (fun W16 hW16 => ?_)
    clear hW15
    refine (show Code.wp _ _ _ _ _ from ?_)
    refine wp_ret ?_
    try simp only [inBlock_ret, then_ret]
    go_ret
    exact ⟨rfl, hW16.1⟩
end Go.Proofs.YtjmcelgdjpdacaaDoor
/- ClockBoth holds for every input: the program's own answer is true, wherever the listed variables are as the program's text lays them; each argument reads afterwards as it read before. -/
namespace Go.Proofs.YtjmcelgdjpdacaaDoor
open Go.ChangeShapes Go.WideShapes Go.ChangeAt Go.RowKit Tw
set_option maxRecDepth 100000 in
theorem clockBoth_lifted (os : Os) (started : os.Started) (H : Type) (enc : TypeId × Value → H) :
    ReturnsInHanded {} Tryd.checked os 10 .any (fun w args => (Rows.clockBothSpec.pre enc Tryd.prog Tryd.f10 Rows.clockBothRow.domain false w args ∧ laidMetH Tryd.prog laid6 w) ∧ sizedMet enc Tryd.prog Tryd.f10 (OpenSpec.ofChange Rows.clockBothSpec) false w args) (Rows.clockBothSpec.post enc Tryd.prog Tryd.f10 false true false false) := by
  refine handed_and_shaped (C := Tryd.checked) (X := fun w => laidMetH Tryd.prog laid6 w) (fun _ _ hh h => h.of_heap hh) own started (by kernel_rfl) Tryd.func10
    (ChangeSpec.witness_shaped (enc := enc) (C := Tryd.checked) (os := os) (X := fun w _ => laidMetH Tryd.prog laid6 w) false (World.doorLaid Tryd.prog 1000 os) #[.slice none 0 0, .slice none 0 0, .int .u16 0, .int .u16 0, .int .u16 0] 8 rfl (World.shaped_of_RefB (by kernel_rfl) (by kernel_rfl)) (by kernel_rfl) (by kernel_rfl) (by kernel_rfl) (door_met os _)) ?_
  intro W base args ds gs before hval0 hW hL hsh
  have hval : ∀ (j : Nat) t v, Tryd.f10.params[j]? = some t → args[j]? = some v → Value.okWide Tryd.prog W .any base t v := hval0
  have hW' := hW
  obtain ⟨p, q, hA0, hV, rfl, hfz, hnd⟩ := hW
  have hA : DataW.TrodAll enc Tryd.prog W 0 (fun _ => true) true Tryd.f10.params.toList args.toList ds p := hA0
  rw [Tryd.params10] at hA hval
  obtain ⟨v0, vs0, d0, ds0, p0, q0, hargs, rfl, rfl, h0, r0⟩ := trodAll_cons hA
  obtain ⟨v1, vs1, d1, ds1, p1, q1, rfl, rfl, rfl, h1, r1⟩ := trodAll_cons r0
  obtain ⟨v2, vs2, d2, ds2, p2, q2, rfl, rfl, rfl, h2, r2⟩ := trodAll_cons r1
  obtain ⟨v3, vs3, d3, ds3, p3, q3, rfl, rfl, rfl, h3, r3⟩ := trodAll_cons r2
  obtain ⟨v4, vs4, d4, ds4, p4, q4, rfl, rfl, rfl, h4, r4⟩ := trodAll_cons r3
  obtain ⟨rfl, rfl, rfl⟩ := trodAll_nil r4
  obtain rfl : args = #[v0, v1, v2, v3, v4] := by cases args; simp_all
  obtain ⟨rfl, rfl⟩ := trodVars_none hV
  have k0 := h0
  have lt0 : ∀ x ∈ p0, x.block < W.heap.size := by obtain ⟨m, hm⟩ := k0; exact DataW.trod_lt m _ _ _ hm
  obtain ⟨p0_, c0, l0, rfl, hb0⟩ := open_bytes (hval 0 32 v0 rfl rfl) h0
  have k1 := h1
  have lt1 : ∀ x ∈ p1, x.block < W.heap.size := by obtain ⟨m, hm⟩ := k1; exact DataW.trod_lt m _ _ _ hm
  obtain ⟨p1_, c1, l1, rfl, hb1⟩ := open_bytes (hval 1 32 v1 rfl rfl) h1
  obtain ⟨a2, rfl, rfl, rfl, w2⟩ := open_int Tryd.underlying33 (hval 2 33 v2 rfl rfl) h2
  have rr2 : 0 ≤ a2 ∧ a2 ≤ 65535 := of_wf w2
  obtain ⟨a3, rfl, rfl, rfl, w3⟩ := open_int Tryd.underlying33 (hval 3 33 v3 rfl rfl) h3
  have rr3 : 0 ≤ a3 ∧ a3 ≤ 65535 := of_wf w3
  obtain ⟨a4, rfl, rfl, rfl, w4⟩ := open_int Tryd.underlying33 (hval 4 33 v4 rfl rfl) h4
  have rr4 : 0 ≤ a4 ∧ a4 ≤ 65535 := of_wf w4
  clear hA0 hval0
  refine (ClockBoth_law W (env_of hL hsh) l0 p0_ c0 hb0 l1 p1_ c1 hb1 a2 rr2 a3 rr3 a4 rr4).mono fun e W' ⟨he, bel⟩ => ?_
  subst he
  exact ⟨_, rfl, _, _, _, [], _, [], hW', (trodAll_cons_mk (shut_bool Tryd.underlying4 _) trodAll_mk0), (trodAll_cons_mk (Below.trod laidOut (by kernel_rfl) (of_decide_eq_true (by kernel_rfl)) k0 bel lt0) (trodAll_cons_mk (Below.trod laidOut (by kernel_rfl) (of_decide_eq_true (by kernel_rfl)) k1 bel lt1) (trodAll_cons_mk (shut_int Tryd.underlying33 w2) (trodAll_cons_mk (shut_int Tryd.underlying33 w3) (trodAll_cons_mk (shut_int Tryd.underlying33 w4) trodAll_mk0))))), rfl, bel.frame _, fun h => by cases h⟩
theorem clockBoth_said : Rows.ClockBothSaid :=
  OpenClaim.holds_of_wide 10 Tryd.f10 rfl rfl rfl rfl rfl rfl rfl ⟨rfl, rfl, rfl, rfl, rfl⟩ rfl rfl rfl rfl rfl (by kernel_rfl) Tryd.func10 (by kernel_rfl)
    (of_decide_eq_true (by kernel_rfl)) (by unfold Func.isWrapper; first | (rw [if_pos (by decide +kernel)]; kernel_rfl) | (rw [if_neg (by decide +kernel)]; exact ⟨rfl, rfl⟩))
    (fun os started H enc _ => clockBoth_lifted os started H enc)
theorem clockBoth_proved : Rows.ClockBothCardSaid :=
  Claim7.holds_tied_plain_at .later [] [.data, .data, .data, .sentinel, .sentinel, .data] true Rows.clockBothCard.stood.harness true
    clockBoth_said (fun _ h => by cases h) (by kernel_rfl) (fun _ h => by cases h) clockBoth_row_tie rfl ⟨rfl, rfl⟩ (by kernel_rfl) rfl
    (fun f fn hf hfn => by
      obtain rfl : f = 10 := Option.some.inj ((show Tryd.prog.funcNamed "twistlock/twistlocklaw02.ClockBoth" = some 10 by kernel_rfl).symm.trans hf) |>.symm
      obtain rfl : fn = Tryd.f10 := (Option.some.inj (Tryd.func10.symm.trans hfn)).symm
      exact ⟨by kernel_rfl, fun j t ht => by
        rw [Tryd.params10] at ht
        have hm : t ∈ [32, 32, 33, 33, 33] := by simpa using Array.mem_of_getElem? ht
        have hall : ([32, 32, 33, 33, 33].all fun u => !Tryd.prog.wantsStandIn u) = true := by kernel_rfl
        exact (show Tryd.prog.wantsStandIn t = false by simpa using List.all_eq_true.1 hall t hm)⟩)
    (by kernel_rfl)
#print axioms clockBoth_proved
end Go.Proofs.YtjmcelgdjpdacaaDoor
