import Derived.Test.YtjmcelgdjpdacaaDoorG06
import Derived.Test.YtjmcelgdjpdacaaDoorG07
import Derived.Test.YtjmcelgdjpdacaaDoorG04
import Derived.Test.YtjmcelgdjpdacaaDoorG03
/- ClockWrong: the law holds for every input; no condition but the row's own. -/
set_option linter.unusedVariables false
set_option linter.unusedSimpArgs false
set_option linter.unusedSectionVars false
/- When work begins and ends in spans that are apart. Plain. -/
namespace Go.Proofs.YtjmcelgdjpdacaaDoor
open Go.RowKit Tw
open Go
theorem ap_cons {bef : Int} {s : Int × Int} {l : List (Int × Int)} (h : apFrom bef (s :: l) = true) : bef < s.1 ∧ s.1 < s.2 ∧ s.2 ≤ 100000000 ∧ apFrom s.2 l = true := by
  simp only [apFrom, Bool.and_eq_true, decide_eq_true_eq] at h
  exact ⟨h.1.1.1, h.1.1.2, h.1.2, h.2⟩
theorem ap_mono : ∀ {l : List (Int × Int)} {b b' : Int}, b' ≤ b → apFrom b l = true → apFrom b' l = true
  | [], _, _, _, _ => rfl
  | s :: l, b, b', hb, h => by
    obtain ⟨h1, h2, h3, h4⟩ := ap_cons h
    simp only [apFrom, Bool.and_eq_true, decide_eq_true_eq]
    exact ⟨⟨⟨by omega, h2⟩, h3⟩, h4⟩
theorem fin_pos : ∀ {l : List (Int × Int)} {bef x m b : Int}, apFrom bef l = true → 1 ≤ m → finS x m l = some b → bef < b ∧ x < b ∧ b ≤ 100000000
  | [], _, _, _, _, _, _, h => by simp [finS] at h
  | s :: l, bef, x, m, b, ha, hm, h => by
    obtain ⟨h1, h2, h3, h4⟩ := ap_cons ha
    simp only [finS] at h
    split at h
    · cases h; omega
    · have := fin_pos h4 (by omega) h
      omega
theorem fin_same : ∀ {l : List (Int × Int)} {bef x y m : Int}, apFrom bef l = true → x ≤ bef + 1 → y ≤ bef + 1 → finS x m l = finS y m l
  | [], _, _, _, _, _, _, _ => rfl
  | s :: l, bef, x, y, m, ha, hx, hy => by
    obtain ⟨h1, h2, h3, h4⟩ := ap_cons ha
    simp only [finS]
    rw [show max s.1 x = s.1 from by omega, show max s.1 y = s.1 from by omega, fin_same (x := x) (y := y) h4 (by omega) (by omega)]
theorem fin_more : ∀ {l : List (Int × Int)} {bef x m k b : Int}, apFrom bef l = true → 1 ≤ m → 1 ≤ k → finS x (m + k) l = some b → ∃ a, finS x m l = some a ∧ a < b
  | [], _, _, _, _, _, _, _, _, h => by simp [finS] at h
  | s :: l, bef, x, m, k, b, ha, hm, hk, h => by
    obtain ⟨h1, h2, h3, h4⟩ := ap_cons ha
    simp only [finS] at h ⊢
    split at h
    · rw [if_pos (by omega)]
      cases h
      exact ⟨_, rfl, by omega⟩
    · by_cases hc : m ≤ s.2 - max s.1 x
      · rw [if_pos hc]
        have := fin_pos h4 (by omega) h
        exact ⟨_, rfl, by omega⟩
      · rw [if_neg hc]
        refine fin_more h4 (by omega) hk ?_
        rw [← h]
        congr 1
        omega
theorem fin_later : ∀ {l : List (Int × Int)} {bef x y m m' c : Int}, apFrom bef l = true → 1 ≤ m' → m' ≤ m → x ≤ y → finS y m l = some c → ∃ a, finS x m' l = some a ∧ a ≤ c
  | [], _, _, _, _, _, _, _, _, _, _, h => by simp [finS] at h
  | s :: l, bef, x, y, m, m', c, ha, hm, hmm, hxy, h => by
    obtain ⟨h1, h2, h3, h4⟩ := ap_cons ha
    simp only [finS] at h ⊢
    split at h
    · rw [if_pos (by omega)]
      cases h
      exact ⟨_, rfl, by omega⟩
    · by_cases hc : m' ≤ s.2 - max s.1 x
      · rw [if_pos hc]
        have := fin_pos h4 (by omega) h
        exact ⟨_, rfl, by omega⟩
      · rw [if_neg hc]
        exact fin_later h4 (by omega) (by omega) hxy h
theorem fin_parts : ∀ {l : List (Int × Int)} {bef x m k a : Int}, apFrom bef l = true → 1 ≤ m → 1 ≤ k → finS x m l = some a → finS a k l = finS x (m + k) l
  | [], _, _, _, _, _, _, _, _, h => by simp [finS] at h
  | s :: l, bef, x, m, k, a, ha, hm, hk, h => by
    obtain ⟨h1, h2, h3, h4⟩ := ap_cons ha
    simp only [finS] at h ⊢
    split at h
    · rename_i hc
      cases h
      rw [show max s.1 (max s.1 x + m) = max s.1 x + m from by omega]
      by_cases hk2 : k ≤ s.2 - (max s.1 x + m)
      · rw [if_pos hk2, if_pos (by omega), Int.add_assoc]
      · rw [if_neg hk2, if_neg (by omega), show k - max 0 (s.2 - (max s.1 x + m)) = m + k - max 0 (s.2 - max s.1 x) from by omega]
        exact fin_same h4 (by omega) (by omega)
    · rename_i hc
      have hp := fin_pos h4 (by omega) h
      rw [if_neg (by omega), if_neg (by omega), show max 0 (s.2 - max s.1 a) = 0 from by omega, Int.sub_zero, fin_parts h4 (by omega) hk h]
      congr 1
      omega
theorem fit_pos : ∀ {l : List (Int × Int)} {bef x m b : Int}, apFrom bef l = true → 1 ≤ m → fitS x m l = some b → bef < b ∧ x ≤ b ∧ b + m ≤ 100000000
  | [], _, _, _, _, _, _, h => by simp [fitS] at h
  | s :: l, bef, x, m, b, ha, hm, h => by
    obtain ⟨h1, h2, h3, h4⟩ := ap_cons ha
    simp only [fitS] at h
    split at h
    · cases h; omega
    · have := fit_pos h4 hm h
      omega
theorem fit_later : ∀ {l : List (Int × Int)} {bef x y m m' c : Int}, apFrom bef l = true → 1 ≤ m' → m' ≤ m → x ≤ y → fitS y m l = some c → ∃ a, fitS x m' l = some a ∧ a ≤ c
  | [], _, _, _, _, _, _, _, _, _, _, h => by simp [fitS] at h
  | s :: l, bef, x, y, m, m', c, ha, hm, hmm, hxy, h => by
    obtain ⟨h1, h2, h3, h4⟩ := ap_cons ha
    simp only [fitS] at h ⊢
    split at h
    · rw [if_pos (by omega)]
      cases h
      exact ⟨_, rfl, by omega⟩
    · by_cases hc : m' ≤ s.2 - max s.1 x
      · rw [if_pos hc]
        have := fit_pos h4 (by omega) h
        exact ⟨_, rfl, by omega⟩
      · rw [if_neg hc]
        exact fit_later h4 hm hmm hxy h
theorem made_from_apart : ∀ (n : Nat) (at_ : Int) (l : List Int), (∀ x ∈ l, 0 ≤ x ∧ x ≤ 255) → 0 ≤ at_ → at_ + 512 * n ≤ 100000000 → apFrom (at_ - 1) (madeFrom at_ n l) = true
  | 0, _, _, _, _, _ => rfl
  | n + 1, _, [], _, _, _ => rfl
  | n + 1, _, [_], _, _, _ => rfl
  | n + 1, at_, x :: y :: l, h, h0, h1 => by
    have hx := h x (List.mem_cons_self ..)
    have hy := h y (List.mem_cons_of_mem _ (List.mem_cons_self ..))
    have := made_from_apart n (at_ + x + 1 + y + 1) l (fun z hz => h z (List.mem_cons_of_mem _ (List.mem_cons_of_mem _ hz))) (by omega) (by omega)
    rw [show at_ + x + 1 + y + 1 - 1 = at_ + x + 1 + y from by omega] at this
    simp only [madeFrom, apFrom, Bool.and_eq_true, decide_eq_true_eq]
    exact ⟨⟨⟨by omega, by omega⟩, by omega⟩, this⟩
theorem made_apFrom {l : List Int} (h : ∀ x ∈ l, 0 ≤ x ∧ x ≤ 255) : apFrom (-1) (madeL l) = true := made_from_apart 40 0 l h (by omega) (by omega)
theorem made_length (l : List Int) : (madeL l).length ≤ 40 := made_len 40 0 l
theorem made_apart {l : List Int} (h : ∀ x ∈ l, 0 ≤ x ∧ x ≤ 255) : apart (madeL l) = true := by
  unfold apart
  rw [made_apFrom h, Bool.and_true, decide_eq_true_eq]
  have := made_length l
  omega
theorem finish_is {l : List (Int × Int)} {p : Option Addr} {cap : Nat} {W : World} (h : SL W p l) (ha : apart l = true) {x m : Int} (hx : 0 ≤ x ∧ x ≤ 100000000) (hm : 1 ≤ m ∧ m ≤ 100000000) {r : Option Int} (hr : finS x m l = r) :
    Calls Tryd.prog 20 #[.slice p l.length cap, .int .i64 x, .int .i64 m] W fun e w' => e = .returned (endV r) ∧ Below W.heap.size W w' := by
  have hl := apart_len ha
  have := Finish_any p cap l W h (by omega) x m
  rw [if_pos ⟨ha, by simp [isT]; omega, hm⟩, hr] at this
  exact this
theorem fit_is {l : List (Int × Int)} {p : Option Addr} {cap : Nat} {W : World} (h : SL W p l) (ha : apart l = true) {x m : Int} (hx : 0 ≤ x ∧ x ≤ 100000000) (hm : 1 ≤ m ∧ m ≤ 100000000) {r : Option Int} (hr : fitS x m l = r) :
    Calls Tryd.prog 22 #[.slice p l.length cap, .int .i64 x, .int .i64 m] W fun e w' => e = .returned (endV r) ∧ Below W.heap.size W w' := by
  have hl := apart_len ha
  have := Fit_any p cap l W h (by omega) x m
  rw [if_pos ⟨ha, by simp [isT]; omega, hm⟩, hr] at this
  exact this
theorem between_is {l : List (Int × Int)} {p : Option Addr} {cap : Nat} {W : World} (h : SL W p l) (ha : apart l = true) {x y : Int} (hx : 0 ≤ x) (hxy : x ≤ y) (hy : y ≤ 100000000) :
    Calls Tryd.prog 21 #[.slice p l.length cap, .int .i64 x, .int .i64 y] W fun e w' => e = .returned (.tuple #[.int .i64 (btw x y l), .int .i64 0]) ∧ Below W.heap.size W w' := by
  have hl := apart_len ha
  have := Between_any p cap l W h (by omega) x y
  rw [if_pos ⟨ha, by simp [isT]; omega, by simp [isT]; omega, hxy⟩] at this
  exact this
end Go.Proofs.YtjmcelgdjpdacaaDoor
/- What is worked in which time. Plain; and a list put behind one span. -/
namespace Go.Proofs.YtjmcelgdjpdacaaDoor
open Go.RowKit Tw
open Go
theorem btw_nonneg : ∀ (l : List (Int × Int)) (x y : Int), 0 ≤ btw x y l
  | [], _, _ => Int.le_refl _
  | s :: l, x, y => by
    have := btw_nonneg l x y
    simp only [btw]
    omega
theorem btw_after : ∀ {l : List (Int × Int)} {bef x y : Int}, apFrom bef l = true → y ≤ bef + 1 → btw x y l = 0
  | [], _, _, _, _, _ => rfl
  | s :: l, bef, x, y, ha, hy => by
    obtain ⟨h1, h2, h3, h4⟩ := ap_cons ha
    simp only [btw]
    rw [btw_after h4 (by omega)]
    omega
theorem btw_mono : ∀ (l : List (Int × Int)) {x y y' : Int}, y ≤ y' → btw x y l ≤ btw x y' l
  | [], _, _, _, _ => Int.le_refl _
  | s :: l, x, y, y', h => by
    have := btw_mono l (x := x) h
    simp only [btw]
    omega
theorem btw_le : ∀ {l : List (Int × Int)} {bef x y : Int}, apFrom bef l = true → btw x y l ≤ max 0 (y - max x (bef + 1))
  | [], _, _, _, _ => by simp only [btw]; omega
  | s :: l, bef, x, y, ha => by
    obtain ⟨h1, h2, h3, h4⟩ := ap_cons ha
    have := btw_le (x := x) (y := y) h4
    simp only [btw]
    omega
theorem in_cons (s : Int × Int) (l : List (Int × Int)) (x : Int) : inL (s :: l) x = ((decide (s.1 ≤ x) && decide (x < s.2)) || inL l x) := rfl
theorem fin_done : ∀ {l : List (Int × Int)} {bef x m e : Int}, apFrom bef l = true → 1 ≤ m → finS x m l = some e → btw x e l = m ∧ inL l (e - 1) = true
  | [], _, _, _, _, _, _, h => by simp [finS] at h
  | s :: l, bef, x, m, e, ha, hm, h => by
    obtain ⟨h1, h2, h3, h4⟩ := ap_cons ha
    simp only [finS] at h
    rw [in_cons]
    simp only [btw]
    split at h
    · cases h
      rw [btw_after h4 (by omega)]
      refine ⟨by omega, ?_⟩
      rw [Bool.or_eq_true]
      refine .inl ?_
      rw [Bool.and_eq_true, decide_eq_true_eq, decide_eq_true_eq]
      omega
    · have hp := fin_pos h4 (by omega) h
      obtain ⟨i1, i2⟩ := fin_done h4 (by omega) h
      rw [i1, i2, Bool.or_true]
      exact ⟨by omega, rfl⟩
theorem fin_few : ∀ {l : List (Int × Int)} {bef x m : Int}, apFrom bef l = true → 1 ≤ m → finS x m l = none → btw x 100000000 l < m
  | [], _, _, _, _, hm, _ => by simp only [btw]; omega
  | s :: l, bef, x, m, ha, hm, h => by
    obtain ⟨h1, h2, h3, h4⟩ := ap_cons ha
    simp only [finS] at h
    split at h
    · cases h
    · have := fin_few h4 (by omega) h
      simp only [btw]
      omega
theorem fin_enough {l : List (Int × Int)} {bef x m e : Int} (ha : apFrom bef l = true) (hm : 1 ≤ m) (h : finS x m l = some e) : m ≤ btw x 100000000 l := by
  have h1 := fin_done ha hm h
  have h2 := fin_pos ha hm h
  have := btw_mono l (x := x) h2.2.2
  omega
theorem fit_done : ∀ {l : List (Int × Int)} {bef x m b : Int}, apFrom bef l = true → 1 ≤ m → fitS x m l = some b → btw b (b + m) l = m
  | [], _, _, _, _, _, _, h => by simp [fitS] at h
  | s :: l, bef, x, m, b, ha, hm, h => by
    obtain ⟨h1, h2, h3, h4⟩ := ap_cons ha
    simp only [fitS] at h
    simp only [btw]
    split at h
    · cases h
      rw [btw_after h4 (by omega)]
      omega
    · have hp := fit_pos h4 hm h
      rw [fit_done h4 hm h]
      omega
theorem fit_fin : ∀ {l : List (Int × Int)} {bef x m m' b : Int}, apFrom bef l = true → 1 ≤ m' → m' ≤ m → fitS x m l = some b → ∃ e, finS x m' l = some e ∧ e ≤ b + m
  | [], _, _, _, _, _, _, _, _, h => by simp [fitS] at h
  | s :: l, bef, x, m, m', b, ha, hm, hmm, h => by
    obtain ⟨h1, h2, h3, h4⟩ := ap_cons ha
    simp only [fitS] at h
    simp only [finS]
    split at h
    · cases h
      rw [if_pos (by omega)]
      exact ⟨_, rfl, by omega⟩
    · have hp := fit_pos h4 (by omega) h
      by_cases hc : m' ≤ s.2 - max s.1 x
      · rw [if_pos hc]; exact ⟨_, rfl, by omega⟩
      · rw [if_neg hc]; exact fit_fin h4 (by omega) (by omega) h
theorem fit_none : ∀ {l : List (Int × Int)} {x m : Int}, fitS x m l = none → ∀ s ∈ l, ¬ m ≤ s.2 - max s.1 x
  | [], _, _, _, _, hs => by cases hs
  | s :: l, x, m, h, s', hs => by
    simp only [fitS] at h
    split at h
    · cases h
    · rename_i hc
      rcases List.mem_cons.1 hs with rfl | hs
      · exact hc
      · exact fit_none h s' hs
theorem ap_mem : ∀ {l : List (Int × Int)} {bef : Int} {s : Int × Int}, apFrom bef l = true → s ∈ l → bef < s.1 ∧ s.1 < s.2 ∧ s.2 ≤ 100000000
  | [], _, _, _, hs => by cases hs
  | a :: l, bef, s, ha, hs => by
    obtain ⟨h1, h2, h3, h4⟩ := ap_cons ha
    rcases List.mem_cons.1 hs with rfl | hs
    · exact ⟨h1, h2, h3⟩
    · have := ap_mem h4 hs; omega
theorem fit_least : ∀ {l : List (Int × Int)} {bef x m b : Int} {s : Int × Int}, apFrom bef l = true → fitS x m l = some b → s ∈ l → m ≤ s.2 - max s.1 x → b ≤ max s.1 x
  | [], _, _, _, _, _, _, h, _, _ => by simp [fitS] at h
  | a :: l, bef, x, m, b, s, ha, h, hs, hm => by
    obtain ⟨h1, h2, h3, h4⟩ := ap_cons ha
    simp only [fitS] at h
    split at h
    · cases h
      rcases List.mem_cons.1 hs with rfl | hs
      · omega
      · have := ap_mem h4 hs; omega
    · rename_i hc
      rcases List.mem_cons.1 hs with rfl | hs
      · exact (hc hm).elim
      · exact fit_least h4 h hs hm
theorem btw_one : ∀ {l : List (Int × Int)} {bef f n : Int}, apFrom bef l = true → 1 ≤ n → btw f (f + n) l = n → ∃ s ∈ l, s.1 ≤ f ∧ f + n ≤ s.2
  | [], _, _, _, _, hn, h => by simp only [btw] at h; omega
  | s :: l, bef, f, n, ha, hn, h => by
    obtain ⟨h1, h2, h3, h4⟩ := ap_cons ha
    have hb := btw_le (x := f) (y := f + n) h4
    have h0 := btw_nonneg l f (f + n)
    simp only [btw] at h
    by_cases hc : s.1 ≤ f ∧ f + n ≤ s.2
    · exact ⟨s, List.mem_cons_self .., hc⟩
    · by_cases hd : s.2 ≤ f
      · obtain ⟨s', hs, h'⟩ := btw_one h4 hn (f := f) (by omega)
        exact ⟨s', List.mem_cons_of_mem _ hs, h'⟩
      · exfalso
        omega
theorem fit_early {l : List (Int × Int)} {bef x n b f : Int} (ha : apFrom bef l = true) (hn : 1 ≤ n) (h : fitS x n l = some b) (hx : x ≤ f) (hf : f < b) : btw f (f + n) l ≠ n := fun e => by
  obtain ⟨s, hs, h1, h2⟩ := btw_one ha hn e
  have := fit_least ha h hs (by omega)
  omega
set_option maxRecDepth 100000 in
theorem app_one {w : World} {o : Oper} {a : Act} {K : List (Nat × Obj)} {s x : Operand} {h : Nat} {f t : Int} {m : List (Int × Int)} {p : Option Addr} {cap : Nat} (ho : o.op = .call { callee := .builtin .append, args := #[s, x], argTypes := #[22, 22] })
    (hs : a.eval s = .slice (some ⟨h, 0, none⟩) 1 1) (hx : a.eval x = .slice p m.length cap) (hm : (h, .cells #[.int .i64 f, .int .i64 t] 41 (0, 0)) ∈ K) (hB : w.heap.size ≤ h) (hL : HasL w K m p cap) (hlen : m.length ≤ 1000) :
    ∀ W, KS w K W → ∃ v K' w', (execOp a.eval o).run Tryd.prog W = .ok (.value v) w' ∧ KS w K' w' ∧ GL w K ((f, t) :: m) v K' := by
  intro W hW
  obtain ⟨i, hi, hz, hsz, hby⟩ := span_info
  have hh := hW.2 _ hm
  have run : ∀ {v : Value} {w' : World}, (Builtin.append_ #[22, 22] o.type #[.slice (some ⟨h, 0, none⟩) 1 1, .slice p m.length cap]).run Tryd.prog W = .ok v w' → (execOp a.eval o).run Tryd.prog W = .ok (.value v) w' := fun hr => by
    unfold execOp
    simp only [ho, resolve, invoke, builtin, Sem.run_bind, Sem.run_pure, Result.andThen_ok, List.map_toArray, List.map_cons, List.map_nil, hs, hx, hr]
  have hav := hL W hW
  by_cases h0 : m = []
  · subst h0
    have same : KS w K (W.setRow h #[.int .i64 f, .int .i64 t]) := hW.setRow hB hh (fun q hq => by
      by_cases e : q.1 = h
      · refine .inl ?_
        have h1 := hW.2 q hq
        rw [e, hh] at h1
        injection h1 with h1
        obtain ⟨q1, q2⟩ := q
        simp only at e h1
        rw [e, ← h1]
      · exact .inr ⟨hq, e⟩)
    have hg : GL w K ((f, t) :: []) (.slice (some ⟨h, 0, none⟩) 1 1) K := ⟨_, 1, rfl, fun W2 h2 => lit_av (m := [(f, t)]) (h2.2 _ hm) (by simp), fun _ hq => hq⟩
    cases p with
    | none =>
      refine ⟨_, K, W, run ?_, hW, hg⟩
      simp [Builtin.append_, run_underlying Tryd.underlying22, sizeOf, typeInfo, hi, Builtin.lenOf, Builtin.firstCells, storeCells]
    | some ad =>
      have hr := run_append_room (P := Tryd.prog) W 22 o.type 41 i Tryd.underlying22 hi h 1 1 _ hh ad 0 cap [] (by simp) (by intro j u hu; simp at hu) (by simp) (by omega) (by rw [hsz]; simp)
      rw [hsz] at hr
      exact ⟨_, K, _, run hr, same, hg⟩
  · obtain ⟨b, off, rfl, hb, hc⟩ := hav.2.resolve_left h0
    have hpos : 0 < m.length := Nat.pos_of_ne_zero (fun e => h0 (List.length_eq_zero_iff.1 e))
    have src : ∀ (j : Nat) (u : Value), (flat m)[j]? = some u → W.cell? ((⟨b, off, none⟩ : Addr).add j) = some u := fun j u hu => by
      have hadd : (⟨b, off, none⟩ : Addr).add j = ⟨b, off + j, none⟩ := by unfold Addr.add; split <;> simp_all
      rw [hadd]
      have hjl := (List.getElem?_eq_some_iff.1 hu).1
      rw [flat_length] at hjl
      obtain ⟨sp, hsp⟩ : ∃ s, m[j / 2]? = some s := ⟨_, List.getElem?_eq_getElem (by omega)⟩
      obtain ⟨q1, q2⟩ := flat_get m (j / 2) sp hsp
      obtain ⟨r1, r2⟩ := hc (j / 2) sp hsp
      rcases Nat.mod_two_eq_zero_or_one j with e | e
      · rw [show off + j = off + 2 * (j / 2) from by omega, r1]
        rw [show 2 * (j / 2) = j from by omega, hu] at q1
        exact q1.symm
      · rw [show off + j = off + 2 * (j / 2) + 1 from by omega, r2]
        rw [show 2 * (j / 2) + 1 = j from by omega, hu] at q2
        exact q2.symm
    have hr := run_append_grow (P := Tryd.prog) W 22 o.type 41 i _ Tryd.underlying22 hi hz ⟨h, 0, none⟩ 1 1 [.int .i64 f, .int .i64 t] (by rw [hsz]; rfl) (new_cells hh) ⟨b, off, none⟩ m.length cap (flat m) (by rw [hsz]; exact flat_length m) src (by omega) (by omega)
      (growslice_fits (by omega) (by rw [hby]; omega))
    have hg1 := grownCap_ge W (1 + m.length) 1 41
    have hg2 := grownCap_le_maxLen W (1 + m.length) 1 41 (by unfold maxLen; omega)
    refine ⟨_, _, _, run hr, hW.drew.alloc _, some ⟨W.heap.size, 0, none⟩, grownCap W (1 + m.length) 1 41, (by have e : ((f, t) :: m : List (Int × Int)).length = 1 + m.length := Nat.add_comm ..; rw [e]), fun W2 h2 => AV.of_row (h2.2 _ (.head _)) ?_, fun _ hq => .tail _ hq⟩
    refine ⟨?_, hg2, by rw [List.length_cons, Nat.add_comm]; exact hg1, flat_length _, ?_⟩
    · simp only [Array.size_append, List.size_toArray, size_zeroCells, flat_length, List.length_cons, List.length_nil]
      have : (Value.agg #[Value.int .i64 0, Value.int .i64 0]).cells.size = 2 := rfl
      rw [this]
      omega
    · simp only [Array.toList_append, List.append_assoc]
      rw [← List.append_assoc, show (((f, t) :: m : List (Int × Int)).length) * 2 = ([Value.int .i64 f, Value.int .i64 t] ++ flat m).length from by simp only [List.length_append, List.length_cons, List.length_nil, flat_length]; omega]
      exact List.take_left
end Go.Proofs.YtjmcelgdjpdacaaDoor
namespace Go.Proofs.YtjmcelgdjpdacaaDoor
open Go.RowKit Tw
open Go
set_option maxRecDepth 100000 in
set_option maxHeartbeats 2000000 in
theorem Both_err (l m : List (Int × Int)) (p q : Option Addr) (cap cp : Nat) (w : World) (h1 : SL w p l) (h2 : SL w q m) (hl : (l.length : Int) ≤ 9223372036854775806) (hm : (m.length : Int) ≤ 9223372036854775806) (he : (apart l && apart m) = false) : Calls Tryd.prog 32 #[.slice p l.length cap, .slice q m.length cp] w fun e w' => e = .returned (.tuple #[.slice none 0 0, .int .i64 2]) ∧ Below w.heap.size w w' := by
  have hap := fun (W : World) (hc : SL W p l) => Apart_any p cap l W hc hl
  have hbp := fun (W : World) (hc : SL W q m) => Apart_any q cp m W hc hm
  have HC := Lib.hid (And.intro h1 h2)
  clear h1 h2
  by_cases ha : apart l = true
  · rw [ha, Bool.true_and] at he
    simp only [ha] at hap
    simp only [he] at hbp
    go_enter Tryd.func32, Tryd.ntmps32
    refine wp_seq ?_
    refine wp_region_L (W0 := w) [] (KS.start w) ?_
    refine lm (v := .slice none 0 0) rfl rfl ?_
    refine lm (v := .int .i64 0) rfl rfl ?_
    refine wpL_done (fun W1 hW1 => ?_)
    refine (show Code.wp _ _ _ _ _ from ?_)
    refine wp_seq ?_
    refine wp_seq ?_
    refine wp_region_L (W0 := w) [] (hW1) ?_
    refine lm (v := .slice p l.length cap) rfl rfl ?_
    refine lv (v := .bool true) rfl rfl (yb_call (f := 27) (args := #[.slice p l.length cap]) (fun _ => by kernel_rfl) fun W hW => hap W (sl_keep HC.out.1 hW.1)) ?_
    refine lm (v := .bool false) rfl rfl ?_
    refine lm (v := .bool false) rfl rfl ?_
    refine lm (v := .slice q m.length cp) rfl rfl ?_
    refine lv (v := .bool false) rfl rfl (yb_call (f := 27) (args := #[.slice q m.length cp]) (fun _ => by kernel_rfl) fun W hW => hbp W (sl_keep HC.out.2 hW.1)) ?_
    refine lm (v := .bool true) rfl rfl ?_
    refine lm (v := .bool true) rfl rfl ?_
    refine wpL_done (fun W2 hW2 => ?_)
    clear hW1
    refine (show Code.wp _ _ _ _ _ from ?_)
    refine wp_cond_true rfl ?_
    refine wp_seq ?_
    refine wp_region_L (W0 := w) [] (hW2) ?_
    refine lm (v := .slice none 0 0) rfl rfl ?_
    refine lm (v := .int .i64 2) rfl rfl ?_
    refine wpL_done (fun W3 hW3 => ?_)
    clear hW2
    refine (show Code.wp _ _ _ _ _ from ?_)
    refine wp_ret ?_
    try simp only [inBlock_ret, then_ret]
    exact bodyPost_ret (results_tmp2 rfl _ _ _) rfl ⟨by first | rfl, hW3.1⟩
  · simp only [(Bool.not_eq_true _).mp ha] at hap
    go_enter Tryd.func32, Tryd.ntmps32
    refine wp_seq ?_
    refine wp_region_L (W0 := w) [] (KS.start w) ?_
    refine lm (v := .slice none 0 0) rfl rfl ?_
    refine lm (v := .int .i64 0) rfl rfl ?_
    refine wpL_done (fun W1 hW1 => ?_)
    refine (show Code.wp _ _ _ _ _ from ?_)
    refine wp_seq ?_
    refine wp_seq ?_
    refine wp_region_L (W0 := w) [] (hW1) ?_
    refine lm (v := .slice p l.length cap) rfl rfl ?_
    refine lv (v := .bool false) rfl rfl (yb_call (f := 27) (args := #[.slice p l.length cap]) (fun _ => by kernel_rfl) fun W hW => hap W (sl_keep HC.out.1 hW.1)) ?_
    refine lm (v := .bool true) rfl rfl ?_
    refine lm (v := .bool true) rfl rfl ?_
    refine ln rfl ?_
    refine ln rfl ?_
    refine ln rfl ?_
    refine lm (v := .bool true) rfl rfl ?_
    refine wpL_done (fun W2 hW2 => ?_)
    clear hW1
    refine (show Code.wp _ _ _ _ _ from ?_)
    refine wp_cond_true rfl ?_
    refine wp_seq ?_
    refine wp_region_L (W0 := w) [] (hW2) ?_
    refine lm (v := .slice none 0 0) rfl rfl ?_
    refine lm (v := .int .i64 2) rfl rfl ?_
    refine wpL_done (fun W3 hW3 => ?_)
    clear hW2
    refine (show Code.wp _ _ _ _ _ from ?_)
    refine wp_ret ?_
    try simp only [inBlock_ret, then_ret]
    exact bodyPost_ret (results_tmp2 rfl _ _ _) rfl ⟨by first | rfl, hW3.1⟩
set_option maxRecDepth 100000 in
set_option maxHeartbeats 2000000 in
theorem Spans_err (week closed : List (Int × Int)) (p1 p2 : Option Addr) (c1 c2 : Nat) (x y : Int) (w : World) (h1 : SL w p1 week) (h2 : SL w p2 closed) (hr : rightS week closed = false) : Calls Tryd.prog 25 #[.agg #[.slice p1 week.length c1, .slice p2 closed.length c2], .int .i64 x, .int .i64 y] w fun e w' => e = .returned (.tuple #[.slice none 0 0, .int .i64 2]) ∧ Below w.heap.size w w' := by
  have hri := fun (W : World) (h1 : SL W p1 week) (h2 : SL W p2 closed) => Right_any week closed p1 p2 c1 c2 W h1 h2
  simp only [hr] at hri
  have HC := Lib.hid (And.intro h1 h2)
  clear h1 h2
  go_enter Tryd.func25, Tryd.ntmps25
  refine wp_seq ?_
  refine wp_region_L (W0 := w) [] (KS.start w) ?_
  refine wpL_new (fun g => .pointer (some ⟨g, 0, none⟩)) (obi := .cells #[.slice p1 week.length c1, .slice p2 closed.length c2] 24 (0, 0)) rfl rfl (fun _ => by kernel_rfl) (fun _ => by simp only [List.setIfInBounds_toArray, List.set_cons_succ, List.set_cons_zero] <;> rfl) fun g1 Bg1 Fg1 => ?_
  try simp only [List.forall_mem_cons] at Fg1
  refine lm (v := .slice none 0 0) rfl rfl ?_
  refine lm (v := .int .i64 0) rfl rfl ?_
  refine wpL_done (fun W1 hW1 => ?_)
  refine (show Code.wp _ _ _ _ _ from ?_)
  refine wp_seq ?_
  refine wp_seq ?_
  refine wp_region_L (W0 := w) [(g1, .cells #[.slice p1 week.length c1, .slice p2 closed.length c2] 24 (0, 0))] (hW1) ?_
  refine lv (v := .agg #[.slice p1 week.length c1, .slice p2 closed.length c2]) rfl rfl (yb_load (n := 2) (off := 0) rfl (by kernel_rfl) (.head _) Tryd.underlying24 rfl size_cal (by simp) (by kernel_rfl)) ?_
  refine lv (v := .bool false) rfl rfl (yb_call (f := 26) (args := #[.agg #[.slice p1 week.length c1, .slice p2 closed.length c2]]) (fun _ => by kernel_rfl) fun W hW => hri W (sl_keep HC.out.1 hW.1) (sl_keep HC.out.2 hW.1)) ?_
  refine lm (v := .bool true) rfl rfl ?_
  refine lm (v := .bool true) rfl rfl ?_
  refine ln rfl ?_
  refine ln rfl ?_
  refine ln rfl ?_
  refine ln rfl ?_
  refine lm (v := .bool true) rfl rfl ?_
  refine wpL_done (fun W2 hW2 => ?_)
  clear hW1
  refine (show Code.wp _ _ _ _ _ from ?_)
  refine wp_cond_true rfl ?_
  refine wp_seq ?_
  refine wp_region_L (W0 := w) [(g1, .cells #[.slice p1 week.length c1, .slice p2 closed.length c2] 24 (0, 0))] (hW2) ?_
  refine lm (v := .slice none 0 0) rfl rfl ?_
  refine lm (v := .int .i64 2) rfl rfl ?_
  refine wpL_done (fun W3 hW3 => ?_)
  clear hW2
  refine (show Code.wp _ _ _ _ _ from ?_)
  refine wp_ret ?_
  try simp only [inBlock_ret, then_ret]
  exact bodyPost_ret (results_tmp2 rfl _ _ _) rfl ⟨by first | rfl, hW3.1⟩
set_option maxRecDepth 100000 in
set_option maxHeartbeats 2000000 in
theorem Windows_err (F N D B A : Int) (hN' : -9223372036854775808 ≤ N ∧ N ≤ 9223372036854775807) (ht : tidal F N D B A = false) (x y : Int) (w : World) : Calls Tryd.prog 30 #[.agg #[.int .i64 F, .int .i64 N, .int .i64 D, .int .i64 B, .int .i64 A], .int .i64 x, .int .i64 y] w fun e w' => e = .returned (.tuple #[.slice none 0 0, .int .i64 2]) ∧ Below w.heap.size w w' := by
  have htd := fun W => Tidal_any F N D B A hN' W
  simp only [ht] at htd
  go_enter Tryd.func30, Tryd.ntmps30
  refine wp_seq ?_
  refine wp_region_L (W0 := w) [] (KS.start w) ?_
  refine wpL_new (fun g => .pointer (some ⟨g, 0, none⟩)) (obi := .cells #[.int .i64 F, .int .i64 N, .int .i64 D, .int .i64 B, .int .i64 A] 28 (0, 0)) rfl rfl (fun _ => by kernel_rfl) (fun _ => by simp only [List.setIfInBounds_toArray, List.set_cons_succ, List.set_cons_zero] <;> rfl) fun g1 Bg1 Fg1 => ?_
  try simp only [List.forall_mem_cons] at Fg1
  refine lm (v := .slice none 0 0) rfl rfl ?_
  refine lm (v := .int .i64 0) rfl rfl ?_
  refine wpL_done (fun W1 hW1 => ?_)
  refine (show Code.wp _ _ _ _ _ from ?_)
  refine wp_seq ?_
  refine wp_seq ?_
  refine wp_region_L (W0 := w) [(g1, .cells #[.int .i64 F, .int .i64 N, .int .i64 D, .int .i64 B, .int .i64 A] 28 (0, 0))] (hW1) ?_
  refine lv (v := .agg #[.int .i64 F, .int .i64 N, .int .i64 D, .int .i64 B, .int .i64 A]) rfl rfl (yb_load (n := 5) (off := 0) rfl (by kernel_rfl) (.head _) Tryd.underlying28 rfl size_tide (by simp) (by kernel_rfl)) ?_
  refine lv (v := .bool false) rfl rfl (yb_call (f := 31) (args := #[.agg #[.int .i64 F, .int .i64 N, .int .i64 D, .int .i64 B, .int .i64 A]]) (fun _ => by kernel_rfl) fun W hW => htd W) ?_
  refine lm (v := .bool true) rfl rfl ?_
  refine lm (v := .bool true) rfl rfl ?_
  refine ln rfl ?_
  refine ln rfl ?_
  refine ln rfl ?_
  refine ln rfl ?_
  refine lm (v := .bool true) rfl rfl ?_
  refine wpL_done (fun W2 hW2 => ?_)
  clear hW1
  refine (show Code.wp _ _ _ _ _ from ?_)
  refine wp_cond_true rfl ?_
  refine wp_seq ?_
  refine wp_region_L (W0 := w) [(g1, .cells #[.int .i64 F, .int .i64 N, .int .i64 D, .int .i64 B, .int .i64 A] 28 (0, 0))] (hW2) ?_
  refine lm (v := .slice none 0 0) rfl rfl ?_
  refine lm (v := .int .i64 2) rfl rfl ?_
  refine wpL_done (fun W3 hW3 => ?_)
  clear hW2
  refine (show Code.wp _ _ _ _ _ from ?_)
  refine wp_ret ?_
  try simp only [inBlock_ret, then_ret]
  exact bodyPost_ret (results_tmp2 rfl _ _ _) rfl ⟨by first | rfl, hW3.1⟩
end Go.Proofs.YtjmcelgdjpdacaaDoor
namespace Go.Proofs.YtjmcelgdjpdacaaDoor
open Go.RowKit Tw
open Go
set_option maxRecDepth 100000 in
set_option maxHeartbeats 2000000 in
theorem Open_any (week closed : List (Int × Int)) (p1 p2 : Option Addr) (c1 c2 : Nat) (x : Int) (w : World) (h1 : SL w p1 week) (h2 : SL w p2 closed) (hl1 : (week.length : Int) ≤ 9223372036854775806) (hl2 : (closed.length : Int) ≤ 9223372036854775806) : Calls Tryd.prog 28 #[.agg #[.slice p1 week.length c1, .slice p2 closed.length c2], .int .i64 x] w fun e w' => e = .returned (if rightS week closed = true ∧ isT x = true then .tuple #[.bool (inL week (x % 10080) && !inL closed x), .int .i64 0] else .tuple #[.bool false, .int .i64 2]) ∧ Below w.heap.size w w' := by
  by_cases hr : rightS week closed = true
  · by_cases ht : isT x = true
    · by_cases ha : inL week (x % 10080) = true
      · by_cases hb : inL closed x = true
        · have hri := fun (W : World) (h1 : SL W p1 week) (h2 : SL W p2 closed) => Right_any week closed p1 p2 c1 c2 W h1 h2
          rw [hr] at hri
          have hit := fun W => isTime_any x W
          rw [ht] at hit
          have hxr := isT_range ht
          have hcw := fun (W : World) (h : SL W p1 week) => contains_any p1 c1 week W h hl1 (x % 10080)
          rw [ha] at hcw
          have hcc := fun (W : World) (h : SL W p2 closed) => contains_any p2 c2 closed W h hl2 x
          rw [hb] at hcc
          rw [if_pos ⟨hr, ht⟩]
          simp only [ha, hb, Bool.false_and, Bool.true_and, Bool.not_true, Bool.not_false]
          have HC := Lib.hid (And.intro h1 h2)
          clear h1 h2
          go_enter Tryd.func28, Tryd.ntmps28
          refine wp_seq ?_
          refine wp_region_L (W0 := w) [] (KS.start w) ?_
          refine wpL_new (fun g => .pointer (some ⟨g, 0, none⟩)) (obi := .cells #[.slice p1 week.length c1, .slice p2 closed.length c2] 24 (0, 0)) rfl rfl (fun _ => by kernel_rfl) (fun _ => by simp only [List.setIfInBounds_toArray, List.set_cons_succ, List.set_cons_zero] <;> rfl) fun g1 Bg1 Fg1 => ?_
          try simp only [List.forall_mem_cons] at Fg1
          refine lm (v := .bool false) rfl rfl ?_
          refine lm (v := .int .i64 0) rfl rfl ?_
          refine wpL_done (fun W1 hW1 => ?_)
          refine (show Code.wp _ _ _ _ _ from ?_)
          refine wp_seq ?_
          refine wp_seq ?_
          refine wp_region_L (W0 := w) [(g1, .cells #[.slice p1 week.length c1, .slice p2 closed.length c2] 24 (0, 0))] (hW1) ?_
          refine lv (v := .agg #[.slice p1 week.length c1, .slice p2 closed.length c2]) rfl rfl (yb_load (n := 2) (off := 0) rfl (by kernel_rfl) (.head _) Tryd.underlying24 rfl size_cal (by simp) (by kernel_rfl)) ?_
          refine lv (v := .bool true) rfl rfl (yb_call (f := 26) (args := #[.agg #[.slice p1 week.length c1, .slice p2 closed.length c2]]) (fun _ => by kernel_rfl) fun W hW => hri W (sl_keep HC.out.1 hW.1) (sl_keep HC.out.2 hW.1)) ?_
          refine lm (v := .bool false) rfl rfl ?_
          refine lm (v := .bool false) rfl rfl ?_
          refine lm (v := .int .i64 x) rfl rfl ?_
          refine lv (v := .bool true) rfl rfl (yb_call (f := 64) (args := #[.int .i64 x]) (fun _ => by kernel_rfl) fun W hW => hit W) ?_
          refine lm (v := .bool false) rfl rfl ?_
          refine lm (v := .bool false) rfl rfl ?_
          refine wpL_done (fun W2 hW2 => ?_)
          clear hW1
          refine (show Code.wp _ _ _ _ _ from ?_)
          refine wp_cond_false rfl ?_
          refine wp_skip ?_
          refine (show Code.wp _ _ _ _ _ from ?_)
          refine wp_seq ?_
          refine wp_region_L (W0 := w) [(g1, .cells #[.slice p1 week.length c1, .slice p2 closed.length c2] 24 (0, 0))] (hW2) ?_
          refine lm (v := .pointer (some ⟨g1, 0, none⟩)) rfl rfl ?_
          refine lv (v := .slice p1 week.length c1) rfl rfl (yb_loadc (off := 0) rfl (by kernel_rfl) (.head _) Tryd.underlying22 rfl (by kernel_rfl)) ?_
          refine lm (v := .int .i64 x) rfl rfl ?_
          refine lp (v := .int .i64 (x % 10080)) rfl rfl (run_bin rfl (vx := .int .i64 x) (vy := .int .i64 10080) (by kernel_rfl) (by kernel_rfl) fun w => run_remI rfl (by omega) (by omega) (by omega) w) ?_
          refine lv (v := .bool true) rfl rfl (yb_call (f := 65) (args := #[.slice p1 week.length c1, .int .i64 (x % 10080)]) (fun _ => by kernel_rfl) fun W hW => hcw W (sl_keep HC.out.1 hW.1)) ?_
          refine lm (v := .bool true) rfl rfl ?_
          refine lm (v := .pointer (some ⟨g1, 1, none⟩)) rfl rfl ?_
          refine lv (v := .slice p2 closed.length c2) rfl rfl (yb_loadc (off := 1) rfl (by kernel_rfl) (.head _) Tryd.underlying22 rfl (by kernel_rfl)) ?_
          refine lm (v := .int .i64 x) rfl rfl ?_
          refine lv (v := .bool true) rfl rfl (yb_call (f := 65) (args := #[.slice p2 closed.length c2, .int .i64 x]) (fun _ => by kernel_rfl) fun W hW => hcc W (sl_keep HC.out.2 hW.1)) ?_
          refine lm (v := .bool false) rfl rfl ?_
          refine lm (v := .bool false) rfl rfl ?_
          refine lm (v := .bool false) rfl rfl ?_
          refine lm (v := .int .i64 0) rfl rfl ?_
          refine wpL_done (fun W3 hW3 => ?_)
          clear hW2
          refine (show Code.wp _ _ _ _ _ from ?_)
          refine wp_ret ?_
          try simp only [inBlock_ret, then_ret]
          exact bodyPost_ret (results_tmp2 rfl _ _ _) rfl ⟨by first | rfl, hW3.1⟩
        · have hri := fun (W : World) (h1 : SL W p1 week) (h2 : SL W p2 closed) => Right_any week closed p1 p2 c1 c2 W h1 h2
          rw [hr] at hri
          have hit := fun W => isTime_any x W
          rw [ht] at hit
          have hxr := isT_range ht
          have hcw := fun (W : World) (h : SL W p1 week) => contains_any p1 c1 week W h hl1 (x % 10080)
          rw [ha] at hcw
          have hcc := fun (W : World) (h : SL W p2 closed) => contains_any p2 c2 closed W h hl2 x
          rw [(Bool.not_eq_true _).mp hb] at hcc
          rw [if_pos ⟨hr, ht⟩]
          simp only [ha, (Bool.not_eq_true _).mp hb, Bool.false_and, Bool.true_and, Bool.not_true, Bool.not_false]
          have HC := Lib.hid (And.intro h1 h2)
          clear h1 h2
          go_enter Tryd.func28, Tryd.ntmps28
          refine wp_seq ?_
          refine wp_region_L (W0 := w) [] (KS.start w) ?_
          refine wpL_new (fun g => .pointer (some ⟨g, 0, none⟩)) (obi := .cells #[.slice p1 week.length c1, .slice p2 closed.length c2] 24 (0, 0)) rfl rfl (fun _ => by kernel_rfl) (fun _ => by simp only [List.setIfInBounds_toArray, List.set_cons_succ, List.set_cons_zero] <;> rfl) fun g1 Bg1 Fg1 => ?_
          try simp only [List.forall_mem_cons] at Fg1
          refine lm (v := .bool false) rfl rfl ?_
          refine lm (v := .int .i64 0) rfl rfl ?_
          refine wpL_done (fun W1 hW1 => ?_)
          refine (show Code.wp _ _ _ _ _ from ?_)
          refine wp_seq ?_
          refine wp_seq ?_
          refine wp_region_L (W0 := w) [(g1, .cells #[.slice p1 week.length c1, .slice p2 closed.length c2] 24 (0, 0))] (hW1) ?_
          refine lv (v := .agg #[.slice p1 week.length c1, .slice p2 closed.length c2]) rfl rfl (yb_load (n := 2) (off := 0) rfl (by kernel_rfl) (.head _) Tryd.underlying24 rfl size_cal (by simp) (by kernel_rfl)) ?_
          refine lv (v := .bool true) rfl rfl (yb_call (f := 26) (args := #[.agg #[.slice p1 week.length c1, .slice p2 closed.length c2]]) (fun _ => by kernel_rfl) fun W hW => hri W (sl_keep HC.out.1 hW.1) (sl_keep HC.out.2 hW.1)) ?_
          refine lm (v := .bool false) rfl rfl ?_
          refine lm (v := .bool false) rfl rfl ?_
          refine lm (v := .int .i64 x) rfl rfl ?_
          refine lv (v := .bool true) rfl rfl (yb_call (f := 64) (args := #[.int .i64 x]) (fun _ => by kernel_rfl) fun W hW => hit W) ?_
          refine lm (v := .bool false) rfl rfl ?_
          refine lm (v := .bool false) rfl rfl ?_
          refine wpL_done (fun W2 hW2 => ?_)
          clear hW1
          refine (show Code.wp _ _ _ _ _ from ?_)
          refine wp_cond_false rfl ?_
          refine wp_skip ?_
          refine (show Code.wp _ _ _ _ _ from ?_)
          refine wp_seq ?_
          refine wp_region_L (W0 := w) [(g1, .cells #[.slice p1 week.length c1, .slice p2 closed.length c2] 24 (0, 0))] (hW2) ?_
          refine lm (v := .pointer (some ⟨g1, 0, none⟩)) rfl rfl ?_
          refine lv (v := .slice p1 week.length c1) rfl rfl (yb_loadc (off := 0) rfl (by kernel_rfl) (.head _) Tryd.underlying22 rfl (by kernel_rfl)) ?_
          refine lm (v := .int .i64 x) rfl rfl ?_
          refine lp (v := .int .i64 (x % 10080)) rfl rfl (run_bin rfl (vx := .int .i64 x) (vy := .int .i64 10080) (by kernel_rfl) (by kernel_rfl) fun w => run_remI rfl (by omega) (by omega) (by omega) w) ?_
          refine lv (v := .bool true) rfl rfl (yb_call (f := 65) (args := #[.slice p1 week.length c1, .int .i64 (x % 10080)]) (fun _ => by kernel_rfl) fun W hW => hcw W (sl_keep HC.out.1 hW.1)) ?_
          refine lm (v := .bool true) rfl rfl ?_
          refine lm (v := .pointer (some ⟨g1, 1, none⟩)) rfl rfl ?_
          refine lv (v := .slice p2 closed.length c2) rfl rfl (yb_loadc (off := 1) rfl (by kernel_rfl) (.head _) Tryd.underlying22 rfl (by kernel_rfl)) ?_
          refine lm (v := .int .i64 x) rfl rfl ?_
          refine lv (v := .bool false) rfl rfl (yb_call (f := 65) (args := #[.slice p2 closed.length c2, .int .i64 x]) (fun _ => by kernel_rfl) fun W hW => hcc W (sl_keep HC.out.2 hW.1)) ?_
          refine lm (v := .bool true) rfl rfl ?_
          refine lm (v := .bool true) rfl rfl ?_
          refine lm (v := .bool true) rfl rfl ?_
          refine lm (v := .int .i64 0) rfl rfl ?_
          refine wpL_done (fun W3 hW3 => ?_)
          clear hW2
          refine (show Code.wp _ _ _ _ _ from ?_)
          refine wp_ret ?_
          try simp only [inBlock_ret, then_ret]
          exact bodyPost_ret (results_tmp2 rfl _ _ _) rfl ⟨by first | rfl, hW3.1⟩
      · have hri := fun (W : World) (h1 : SL W p1 week) (h2 : SL W p2 closed) => Right_any week closed p1 p2 c1 c2 W h1 h2
        rw [hr] at hri
        have hit := fun W => isTime_any x W
        rw [ht] at hit
        have hxr := isT_range ht
        have hcw := fun (W : World) (h : SL W p1 week) => contains_any p1 c1 week W h hl1 (x % 10080)
        rw [(Bool.not_eq_true _).mp ha] at hcw
        rw [if_pos ⟨hr, ht⟩]
        simp only [(Bool.not_eq_true _).mp ha, Bool.false_and, Bool.true_and, Bool.not_true, Bool.not_false]
        have HC := Lib.hid (And.intro h1 h2)
        clear h1 h2
        go_enter Tryd.func28, Tryd.ntmps28
        refine wp_seq ?_
        refine wp_region_L (W0 := w) [] (KS.start w) ?_
        refine wpL_new (fun g => .pointer (some ⟨g, 0, none⟩)) (obi := .cells #[.slice p1 week.length c1, .slice p2 closed.length c2] 24 (0, 0)) rfl rfl (fun _ => by kernel_rfl) (fun _ => by simp only [List.setIfInBounds_toArray, List.set_cons_succ, List.set_cons_zero] <;> rfl) fun g1 Bg1 Fg1 => ?_
        try simp only [List.forall_mem_cons] at Fg1
        refine lm (v := .bool false) rfl rfl ?_
        refine lm (v := .int .i64 0) rfl rfl ?_
        refine wpL_done (fun W1 hW1 => ?_)
        refine (show Code.wp _ _ _ _ _ from ?_)
        refine wp_seq ?_
        refine wp_seq ?_
        refine wp_region_L (W0 := w) [(g1, .cells #[.slice p1 week.length c1, .slice p2 closed.length c2] 24 (0, 0))] (hW1) ?_
        refine lv (v := .agg #[.slice p1 week.length c1, .slice p2 closed.length c2]) rfl rfl (yb_load (n := 2) (off := 0) rfl (by kernel_rfl) (.head _) Tryd.underlying24 rfl size_cal (by simp) (by kernel_rfl)) ?_
        refine lv (v := .bool true) rfl rfl (yb_call (f := 26) (args := #[.agg #[.slice p1 week.length c1, .slice p2 closed.length c2]]) (fun _ => by kernel_rfl) fun W hW => hri W (sl_keep HC.out.1 hW.1) (sl_keep HC.out.2 hW.1)) ?_
        refine lm (v := .bool false) rfl rfl ?_
        refine lm (v := .bool false) rfl rfl ?_
        refine lm (v := .int .i64 x) rfl rfl ?_
        refine lv (v := .bool true) rfl rfl (yb_call (f := 64) (args := #[.int .i64 x]) (fun _ => by kernel_rfl) fun W hW => hit W) ?_
        refine lm (v := .bool false) rfl rfl ?_
        refine lm (v := .bool false) rfl rfl ?_
        refine wpL_done (fun W2 hW2 => ?_)
        clear hW1
        refine (show Code.wp _ _ _ _ _ from ?_)
        refine wp_cond_false rfl ?_
        refine wp_skip ?_
        refine (show Code.wp _ _ _ _ _ from ?_)
        refine wp_seq ?_
        refine wp_region_L (W0 := w) [(g1, .cells #[.slice p1 week.length c1, .slice p2 closed.length c2] 24 (0, 0))] (hW2) ?_
        refine lm (v := .pointer (some ⟨g1, 0, none⟩)) rfl rfl ?_
        refine lv (v := .slice p1 week.length c1) rfl rfl (yb_loadc (off := 0) rfl (by kernel_rfl) (.head _) Tryd.underlying22 rfl (by kernel_rfl)) ?_
        refine lm (v := .int .i64 x) rfl rfl ?_
        refine lp (v := .int .i64 (x % 10080)) rfl rfl (run_bin rfl (vx := .int .i64 x) (vy := .int .i64 10080) (by kernel_rfl) (by kernel_rfl) fun w => run_remI rfl (by omega) (by omega) (by omega) w) ?_
        refine lv (v := .bool false) rfl rfl (yb_call (f := 65) (args := #[.slice p1 week.length c1, .int .i64 (x % 10080)]) (fun _ => by kernel_rfl) fun W hW => hcw W (sl_keep HC.out.1 hW.1)) ?_
        refine lm (v := .bool false) rfl rfl ?_
        refine ln rfl ?_
        refine ln rfl ?_
        refine ln rfl ?_
        refine ln rfl ?_
        refine ln rfl ?_
        refine lm (v := .bool false) rfl rfl ?_
        refine lm (v := .bool false) rfl rfl ?_
        refine lm (v := .int .i64 0) rfl rfl ?_
        refine wpL_done (fun W3 hW3 => ?_)
        clear hW2
        refine (show Code.wp _ _ _ _ _ from ?_)
        refine wp_ret ?_
        try simp only [inBlock_ret, then_ret]
        exact bodyPost_ret (results_tmp2 rfl _ _ _) rfl ⟨by first | rfl, hW3.1⟩
    · have hri := fun (W : World) (h1 : SL W p1 week) (h2 : SL W p2 closed) => Right_any week closed p1 p2 c1 c2 W h1 h2
      rw [hr] at hri
      have hit := fun W => isTime_any x W
      rw [(Bool.not_eq_true _).mp ht] at hit
      rw [if_neg (fun h => ht h.2)]
      have HC := Lib.hid (And.intro h1 h2)
      clear h1 h2
      go_enter Tryd.func28, Tryd.ntmps28
      refine wp_seq ?_
      refine wp_region_L (W0 := w) [] (KS.start w) ?_
      refine wpL_new (fun g => .pointer (some ⟨g, 0, none⟩)) (obi := .cells #[.slice p1 week.length c1, .slice p2 closed.length c2] 24 (0, 0)) rfl rfl (fun _ => by kernel_rfl) (fun _ => by simp only [List.setIfInBounds_toArray, List.set_cons_succ, List.set_cons_zero] <;> rfl) fun g1 Bg1 Fg1 => ?_
      try simp only [List.forall_mem_cons] at Fg1
      refine lm (v := .bool false) rfl rfl ?_
      refine lm (v := .int .i64 0) rfl rfl ?_
      refine wpL_done (fun W1 hW1 => ?_)
      refine (show Code.wp _ _ _ _ _ from ?_)
      refine wp_seq ?_
      refine wp_seq ?_
      refine wp_region_L (W0 := w) [(g1, .cells #[.slice p1 week.length c1, .slice p2 closed.length c2] 24 (0, 0))] (hW1) ?_
      refine lv (v := .agg #[.slice p1 week.length c1, .slice p2 closed.length c2]) rfl rfl (yb_load (n := 2) (off := 0) rfl (by kernel_rfl) (.head _) Tryd.underlying24 rfl size_cal (by simp) (by kernel_rfl)) ?_
      refine lv (v := .bool true) rfl rfl (yb_call (f := 26) (args := #[.agg #[.slice p1 week.length c1, .slice p2 closed.length c2]]) (fun _ => by kernel_rfl) fun W hW => hri W (sl_keep HC.out.1 hW.1) (sl_keep HC.out.2 hW.1)) ?_
      refine lm (v := .bool false) rfl rfl ?_
      refine lm (v := .bool false) rfl rfl ?_
      refine lm (v := .int .i64 x) rfl rfl ?_
      refine lv (v := .bool false) rfl rfl (yb_call (f := 64) (args := #[.int .i64 x]) (fun _ => by kernel_rfl) fun W hW => hit W) ?_
      refine lm (v := .bool true) rfl rfl ?_
      refine lm (v := .bool true) rfl rfl ?_
      refine wpL_done (fun W2 hW2 => ?_)
      clear hW1
      refine (show Code.wp _ _ _ _ _ from ?_)
      refine wp_cond_true rfl ?_
      refine wp_seq ?_
      refine wp_region_L (W0 := w) [(g1, .cells #[.slice p1 week.length c1, .slice p2 closed.length c2] 24 (0, 0))] (hW2) ?_
      refine lm (v := .bool false) rfl rfl ?_
      refine lm (v := .int .i64 2) rfl rfl ?_
      refine wpL_done (fun W3 hW3 => ?_)
      clear hW2
      refine (show Code.wp _ _ _ _ _ from ?_)
      refine wp_ret ?_
      try simp only [inBlock_ret, then_ret]
      exact bodyPost_ret (results_tmp2 rfl _ _ _) rfl ⟨by first | rfl, hW3.1⟩
  · have hri := fun (W : World) (h1 : SL W p1 week) (h2 : SL W p2 closed) => Right_any week closed p1 p2 c1 c2 W h1 h2
    rw [(Bool.not_eq_true _).mp hr] at hri
    rw [if_neg (fun h => hr h.1)]
    have HC := Lib.hid (And.intro h1 h2)
    clear h1 h2
    go_enter Tryd.func28, Tryd.ntmps28
    refine wp_seq ?_
    refine wp_region_L (W0 := w) [] (KS.start w) ?_
    refine wpL_new (fun g => .pointer (some ⟨g, 0, none⟩)) (obi := .cells #[.slice p1 week.length c1, .slice p2 closed.length c2] 24 (0, 0)) rfl rfl (fun _ => by kernel_rfl) (fun _ => by simp only [List.setIfInBounds_toArray, List.set_cons_succ, List.set_cons_zero] <;> rfl) fun g1 Bg1 Fg1 => ?_
    try simp only [List.forall_mem_cons] at Fg1
    refine lm (v := .bool false) rfl rfl ?_
    refine lm (v := .int .i64 0) rfl rfl ?_
    refine wpL_done (fun W1 hW1 => ?_)
    refine (show Code.wp _ _ _ _ _ from ?_)
    refine wp_seq ?_
    refine wp_seq ?_
    refine wp_region_L (W0 := w) [(g1, .cells #[.slice p1 week.length c1, .slice p2 closed.length c2] 24 (0, 0))] (hW1) ?_
    refine lv (v := .agg #[.slice p1 week.length c1, .slice p2 closed.length c2]) rfl rfl (yb_load (n := 2) (off := 0) rfl (by kernel_rfl) (.head _) Tryd.underlying24 rfl size_cal (by simp) (by kernel_rfl)) ?_
    refine lv (v := .bool false) rfl rfl (yb_call (f := 26) (args := #[.agg #[.slice p1 week.length c1, .slice p2 closed.length c2]]) (fun _ => by kernel_rfl) fun W hW => hri W (sl_keep HC.out.1 hW.1) (sl_keep HC.out.2 hW.1)) ?_
    refine lm (v := .bool true) rfl rfl ?_
    refine lm (v := .bool true) rfl rfl ?_
    refine ln rfl ?_
    refine ln rfl ?_
    refine ln rfl ?_
    refine lm (v := .bool true) rfl rfl ?_
    refine wpL_done (fun W2 hW2 => ?_)
    clear hW1
    refine (show Code.wp _ _ _ _ _ from ?_)
    refine wp_cond_true rfl ?_
    refine wp_seq ?_
    refine wp_region_L (W0 := w) [(g1, .cells #[.slice p1 week.length c1, .slice p2 closed.length c2] 24 (0, 0))] (hW2) ?_
    refine lm (v := .bool false) rfl rfl ?_
    refine lm (v := .int .i64 2) rfl rfl ?_
    refine wpL_done (fun W3 hW3 => ?_)
    clear hW2
    refine (show Code.wp _ _ _ _ _ from ?_)
    refine wp_ret ?_
    try simp only [inBlock_ret, then_ret]
    exact bodyPost_ret (results_tmp2 rfl _ _ _) rfl ⟨by first | rfl, hW3.1⟩
end Go.Proofs.YtjmcelgdjpdacaaDoor
/- Rows that a walk owns: appended to, stored in; lists that are not apart. -/
namespace Go.Proofs.YtjmcelgdjpdacaaDoor
open Go.RowKit Tw
open Go
def GRow (W0 : Base) (l : List (Int × Int)) (v : Value) (K' : List (Nat × Obj)) : Prop := ∃ g cap cur, v = .slice (some ⟨g, 0, none⟩) l.length cap ∧ W0.B ≤ g ∧ Row cur cap l.length (flat l) ∧ K' = [(g, .cells cur 41 (0, 0))]
theorem app_out {w : World} {o : Oper} {a : Act} {Kz : List (Nat × Obj)} {s x : Operand} {u : Value} {h : Nat} {f t : Int} {m : List (Int × Int)} (ho : o.op = .call { callee := .builtin .append, args := #[s, x], argTypes := #[22, 22] })
    (hs : a.eval s = u) (hx : a.eval x = .slice (some ⟨h, 0, none⟩) 1 1) (hO : OutK w [] m u Kz) (hlen : m.length ≤ 1000) :
    ∀ W, KS w ((h, .cells #[.int .i64 f, .int .i64 t] 41 (0, 0)) :: Kz) W → ∃ v K' w', (execOp a.eval o).run Tryd.prog W = .ok (.value v) w' ∧ KS w K' w' ∧ GRow w (m ++ [(f, t)]) v K' := by
  intro W hW
  have hl : (m ++ [(f, t)]).length = m.length + 1 := by simp
  rcases hO with ⟨rfl, rfl, rfl⟩ | ⟨g, cap, cur, rfl, hR, hB, _, rfl⟩
  · obtain ⟨v, K', w', h1, h2, g, cap, cur, rfl, hB, _, hR, rfl⟩ := app_nil ho hs hx (.head _) W hW
    exact ⟨_, _, w', h1, h2.sub (fun _ hp => by rw [List.mem_singleton.1 hp]; exact .head _), g, cap, cur, rfl, hB, hR, rfl⟩
  · obtain ⟨v, K', w', h1, h2, g', cap', cur', rfl, hB', _, hR', rfl⟩ := app_row (K0 := []) ho hs hx (.head _) (.tail _ (.head _)) hB hR (by omega) ⟨rfl, rfl⟩ (fun _ hp => by cases hp) W hW
    refine ⟨_, _, w', h1, h2, g', cap', cur', by rw [hl], hB', ?_, rfl⟩
    rw [hl, flat_append]
    exact hR'
theorem app_own {w : World} {o : Oper} {a : Act} {K : List (Nat × Obj)} {s x : Operand} {h g cap : Nat} {cur : Array Value} {f t : Int} {m : List (Int × Int)} (ho : o.op = .call { callee := .builtin .append, args := #[s, x], argTypes := #[22, 22] })
    (hs : a.eval s = .slice (some ⟨g, 0, none⟩) m.length cap) (hx : a.eval x = .slice (some ⟨h, 0, none⟩) 1 1) (hm : (h, .cells #[.int .i64 f, .int .i64 t] 41 (0, 0)) ∈ K) (hg : (g, .cells cur 41 (0, 0)) ∈ K) (hB : w.heap.size ≤ g) (hR : Row cur cap m.length (flat m)) (hlen : m.length ≤ 1000) :
    ∀ W, KS w K W → ∃ v K' w', (execOp a.eval o).run Tryd.prog W = .ok (.value v) w' ∧ KS w K' w' ∧ GRow w (m ++ [(f, t)]) v K' := by
  intro W hW
  have hl : (m ++ [(f, t)]).length = m.length + 1 := by simp
  obtain ⟨v, K', w', h1, h2, g', cap', cur', rfl, hB', _, hR', rfl⟩ := app_row (K0 := []) ho hs hx hm hg hB hR (by omega) ⟨rfl, rfl⟩ (fun _ hp => by cases hp) W hW
  refine ⟨_, _, w', h1, h2, g', cap', cur', by rw [hl], hB', ?_, rfl⟩
  rw [hl, flat_append]
  exact hR'
theorem row_store {cur : Array Value} {cap n j : Nat} {xs : List Value} {c : Value} (h : Row cur cap n xs) : Row (cur.toList.set j c).toArray cap n (xs.set j c) := by
  obtain ⟨h1, h2, h3, h4, h5⟩ := h
  refine ⟨by simpa using h1, h2, h3, by simpa using h4, ?_⟩
  rw [List.toList_toArray, List.take_set, h5]
theorem flat_set2 : ∀ (l : List (Int × Int)) (i : Nat) (s : Int × Int) (c : Int), l[i]? = some s → (flat l).set (2 * i + 1) (.int .i64 c) = flat (l.set i (s.1, c))
  | [], _, _, _, h => by simp at h
  | x :: l, 0, s, c, h => by
    simp only [List.getElem?_cons_zero, Option.some.injEq] at h
    subst h
    rfl
  | x :: l, i + 1, s, c, h => by
    rw [show 2 * (i + 1) + 1 = (2 * i + 1) + 1 + 1 from by omega]
    simp only [flat, List.set_cons_succ]
    rw [flat_set2 l i s c (by simpa using h)]
theorem flat_set1 : ∀ (l : List (Int × Int)) (i : Nat) (s : Int × Int) (c : Int), l[i]? = some s → (flat l).set (2 * i) (.int .i64 c) = flat (l.set i (c, s.2))
  | [], _, _, _, h => by simp at h
  | x :: l, 0, s, c, h => by
    simp only [List.getElem?_cons_zero, Option.some.injEq] at h
    subst h
    rfl
  | x :: l, i + 1, s, c, h => by
    rw [show 2 * (i + 1) = (2 * i) + 1 + 1 from by omega]
    simp only [flat, List.set_cons_succ]
    rw [flat_set1 l i s c (by simpa using h)]
theorem row_to {cur : Array Value} {cap i : Nat} {l : List (Int × Int)} {s : Int × Int} {c : Int} (h : Row cur cap l.length (flat l)) (hi : l[i]? = some s) : Row (cur.toList.set (2 * i + 1) (.int .i64 c)).toArray cap (l.set i (s.1, c)).length (flat (l.set i (s.1, c))) := by
  rw [← flat_set2 l i s c hi, List.length_set]
  exact row_store h
theorem row_from {cur : Array Value} {cap i : Nat} {l : List (Int × Int)} {s : Int × Int} {c : Int} (h : Row cur cap l.length (flat l)) (hi : l[i]? = some s) : Row (cur.toList.set (2 * i) (.int .i64 c)).toArray cap (l.set i (c, s.2)).length (flat (l.set i (c, s.2))) := by
  rw [← flat_set1 l i s c hi, List.length_set]
  exact row_store h
theorem st_in {W0 : Base} {o : Oper} {a : Act} {K K' : List (Nat × Obj)} {x y : Operand} {g j : Nat} {c : Int} {cur : Array Value} (ho : o.op = .store 3 x y) (hx : a.eval x = .pointer (some ⟨g, j, none⟩)) (hv : a.eval y = .int .i64 c)
    (hm : (g, .cells cur 41 (0, 0)) ∈ K) (hB : W0.B ≤ g) (hj : j < cur.size) (hK : ∀ p ∈ K', p = (g, .cells (cur.toList.set j (.int .i64 c)).toArray 41 (0, 0)) ∨ (p ∈ K ∧ p.1 ≠ g)) : ∀ w, KS W0 K w → ∃ w', (execOp a.eval o).run Tryd.prog w = .ok .skip w' ∧ KS W0 K' w' :=
  st_row ho hx hv hm hB (by kernel_rfl) (by simp [Value.cells]; omega) (by intro v hv; simp [Value.cells] at hv; subst hv; rfl) (by
    rw [List.set_eq_take_append_cons_drop, if_pos (by simpa using hj)]
    simp [Value.cells]) hK
theorem not_apart {l : List (Int × Int)} {i : Nat} {s : Int × Int} (hi : l[i]? = some s) (h : s.1 < 0 ∨ s.2 ≤ s.1 ∨ 100000000 < s.2) : apart l = false := by
  cases ha : apart l with
  | false => rfl
  | true => have := apart_get ha hi; omega
theorem ap_suffix : ∀ {m r : List (Int × Int)} {b : Int}, apFrom b (m ++ r) = true → ∃ b', apFrom b' r = true
  | [], _, _, h => ⟨_, h⟩
  | _ :: _, _, _, h => ap_suffix (ap_cons h).2.2.2
theorem ap_last : ∀ {l : List (Int × Int)} {b : Int} {s : Int × Int}, apFrom b (l ++ [s]) = true → ∀ x ∈ l, x.2 < s.1
  | [], _, _, _, _, hx => by cases hx
  | a :: l, b, s, h, x, hx => by
    obtain ⟨h1, h2, h3, h4⟩ := ap_cons h
    rcases List.mem_cons.1 hx with rfl | hx
    · have := ap_mem h4 (List.mem_append_right _ (List.mem_singleton.2 rfl))
      omega
    · exact ap_last h4 x hx
theorem touch_not (m : List (Int × Int)) : apart (m ++ [(30000, 30001)] ++ [(30001, 30002)]) = false := by
  cases ha : apart (m ++ [(30000, 30001)] ++ [(30001, 30002)]) with
  | false => rfl
  | true =>
    unfold apart at ha
    rw [Bool.and_eq_true] at ha
    have := ap_last ha.2 (30000, 30001) (by simp)
    simp at this
theorem twice_not {l : List (Int × Int)} {i : Nat} {s : Int × Int} (hi : l[i]? = some s) : apart (l ++ [s]) = false := by
  cases ha : apart (l ++ [s]) with
  | false => rfl
  | true =>
    have h1 := apart_get ha (k := i) (f := s.1) (t := s.2) (by rw [List.getElem?_append_left (List.getElem?_eq_some_iff.1 hi).1]; exact hi)
    unfold apart at ha
    rw [Bool.and_eq_true] at ha
    have := ap_last ha.2 s (List.mem_of_getElem? hi)
    omega
theorem set_get {l : List (Int × Int)} {i : Nat} {s x : Int × Int} (hi : l[i]? = some s) : (l.set i x)[i]? = some x := List.getElem?_set_self (List.getElem?_eq_some_iff.1 hi).1
theorem closed_wrong {l : List (Int × Int)} (h : apart l = false) : rightS [] l = false := by
  unfold rightS
  rw [h]
  simp
theorem run_rem5 {x z : Int} (h : x % 5 = z) (h0 : 0 ≤ x) (hx : x ≤ 255) {px py : Operand} (w : World) : (do eqGuard .rem 5 px py (.int .u8 x) (.int .u8 5); binOp .rem 5 (.int .u8 x) (.int .u8 5) : Sem Value).run Tryd.prog w = .ok (.int .u8 z) w := by
  subst h
  go_simp
  rw [Int.tmod_eq_emod_of_nonneg h0]
section
variable {l : List (Int × Int)} {p : Option Addr} {cap : Nat} {W : World}
theorem both_w1 (h : SL W p l) (ha : apart l = false) (hl : l.length ≤ 1000) : Calls Tryd.prog 32 #[.slice p l.length cap, .slice none 0 0] W fun e w' => e = .returned (.tuple #[.slice none 0 0, .int .i64 2]) ∧ Below W.heap.size W w' :=
  Both_err l [] p none cap 0 W h (.inl rfl) (by omega) (by decide) (by rw [ha]; rfl)
theorem both_w2 (h : SL W p l) (ha : apart l = false) (hl : l.length ≤ 1000) : Calls Tryd.prog 32 #[.slice none 0 0, .slice p l.length cap] W fun e w' => e = .returned (.tuple #[.slice none 0 0, .int .i64 2]) ∧ Below W.heap.size W w' :=
  Both_err [] l none p 0 cap W (.inl rfl) h (by decide) (by omega) (by rw [ha]; rfl)
theorem between_w (h : SL W p l) (ha : apart l = false) (hl : l.length ≤ 1000) (x y : Int) : Calls Tryd.prog 21 #[.slice p l.length cap, .int .i64 x, .int .i64 y] W fun e w' => e = .returned (.tuple #[.int .i64 0, .int .i64 2]) ∧ Below W.heap.size W w' := by
  have := Between_any p cap l W h (by omega) x y
  rw [if_neg (by rw [ha]; simp)] at this
  exact this
theorem fit_w (h : SL W p l) (ha : apart l = false) (hl : l.length ≤ 1000) (x y : Int) : Calls Tryd.prog 22 #[.slice p l.length cap, .int .i64 x, .int .i64 y] W fun e w' => e = .returned (.tuple #[.int .i64 0, .int .i64 2]) ∧ Below W.heap.size W w' := by
  have := Fit_any p cap l W h (by omega) x y
  rw [if_neg (by rw [ha]; simp)] at this
  exact this
theorem finish_w (h : SL W p l) (ha : apart l = false) (hl : l.length ≤ 1000) (x y : Int) : Calls Tryd.prog 20 #[.slice p l.length cap, .int .i64 x, .int .i64 y] W fun e w' => e = .returned (.tuple #[.int .i64 0, .int .i64 2]) ∧ Below W.heap.size W w' := by
  have := Finish_any p cap l W h (by omega) x y
  rw [if_neg (by rw [ha]; simp)] at this
  exact this
theorem spans_w (h : SL W p l) (ha : apart l = false) (x y : Int) : Calls Tryd.prog 25 #[.agg #[.slice none 0 0, .slice p l.length cap], .int .i64 x, .int .i64 y] W fun e w' => e = .returned (.tuple #[.slice none 0 0, .int .i64 2]) ∧ Below W.heap.size W w' :=
  Spans_err [] l none p 0 cap x y W (.inl rfl) h (closed_wrong ha)
theorem open_w (h : SL W p l) (ha : apart l = false) (hl : l.length ≤ 1000) (x : Int) : Calls Tryd.prog 28 #[.agg #[.slice none 0 0, .slice p l.length cap], .int .i64 x] W fun e w' => e = .returned (.tuple #[.bool false, .int .i64 2]) ∧ Below W.heap.size W w' := by
  have := Open_any [] l none p 0 cap x W (.inl rfl) h (by decide) (by omega)
  rw [if_neg (by rw [closed_wrong ha]; simp)] at this
  exact this
end
section
variable {F N D B A : Int} (W : World)
theorem high_w (hN : -9223372036854775808 ≤ N ∧ N ≤ 9223372036854775807) (ht : tidal F N D B A = false) (k : Int) : Calls Tryd.prog 29 #[.agg #[.int .i64 F, .int .i64 N, .int .i64 D, .int .i64 B, .int .i64 A], .int .i64 k] W fun e w' => e = .returned (.tuple #[.int .i64 0, .int .i64 2]) ∧ Below W.heap.size W w' := by
  have := High_any F N D B A hN k W
  rw [if_neg (by rw [ht]; simp)] at this
  exact this
theorem high_neg : Calls Tryd.prog 29 #[.agg #[.int .i64 5, .int .i64 100, .int .i64 2, .int .i64 20, .int .i64 20], .int .i64 (-1)] W fun e w' => e = .returned (.tuple #[.int .i64 0, .int .i64 2]) ∧ Below W.heap.size W w' := by
  have := High_any 5 100 2 20 20 (by omega) (-1) W
  rw [if_neg (by simp)] at this
  exact this
theorem high_long : Calls Tryd.prog 29 #[.agg #[.int .i64 5, .int .i64 100, .int .i64 2, .int .i64 20, .int .i64 20], .int .i64 100000000] W fun e w' => e = .returned (.tuple #[.int .i64 0, .int .i64 3]) ∧ Below W.heap.size W w' := by
  have := High_any 5 100 2 20 20 (by omega) 100000000 W
  rw [if_pos ⟨by decide +kernel, by omega⟩, if_pos (by decide +kernel)] at this
  exact this
theorem tidal_r (hN : -9223372036854775808 ≤ N ∧ N ≤ 9223372036854775807) {r : Bool} (ht : tidal F N D B A = r) : Calls Tryd.prog 31 #[.agg #[.int .i64 F, .int .i64 N, .int .i64 D, .int .i64 B, .int .i64 A]] W fun e w' => e = .returned (.bool r) ∧ Below W.heap.size W w' := ht ▸ Tidal_any F N D B A hN W
end
def JoinRow (F : (Nat → Value) → Value → Array Value) (W0 : Base) (a : Act) (w : World) : Prop :=
  ∃ z l g cap cur, a = { tmps := F z (.slice (some ⟨g, 0, none⟩) l.length cap), defers := [] } ∧ apart l = false ∧ l.length ≤ 60 ∧ Row cur cap l.length (flat l) ∧ KS W0 [(g, .cells cur 41 (0, 0))] w
theorem joinRow_mk {F : (Nat → Value) → Value → Array Value} {W0 : Base} {T : Array Value} {w : World} {l : List (Int × Int)} {g cap : Nat} {cur : Array Value} {n : Nat} (hR : Row cur cap l.length (flat l)) (ha : apart l = false) (hl : l.length ≤ 60)
    (hK : KS W0 [(g, .cells cur 41 (0, 0))] w) (hn : l.length = n) (h : F (fun i => T.getD i undef) (.slice (some ⟨g, 0, none⟩) n cap) = T) : JoinRow F W0 { tmps := T, defers := [] } w := by
  subst hn
  exact ⟨_, l, g, cap, cur, by rw [h], ha, hl, hR, hK⟩
def JoinTide (F : (Nat → Value) → Nat → Array Value) (W0 : Base) (K : List (Nat × Obj)) (a : Act) (w : World) : Prop :=
  ∃ z g f n d b e, a = { tmps := F z g, defers := [] } ∧ tidal f n d b e = false ∧ (-9223372036854775808 ≤ n ∧ n ≤ 9223372036854775807) ∧ KS W0 ((g, .cells #[.int .i64 f, .int .i64 n, .int .i64 d, .int .i64 b, .int .i64 e] 28 (0, 0)) :: K) w
theorem joinTide_mk {F : (Nat → Value) → Nat → Array Value} {W0 : Base} {K : List (Nat × Obj)} {T : Array Value} {w : World} {g : Nat} {f n d b e : Int} (ht : tidal f n d b e = false) (hn : -9223372036854775808 ≤ n ∧ n ≤ 9223372036854775807)
    (hK : KS W0 ((g, .cells #[.int .i64 f, .int .i64 n, .int .i64 d, .int .i64 b, .int .i64 e] 28 (0, 0)) :: K) w) (h : F (fun i => T.getD i undef) g = T) : JoinTide F W0 K { tmps := T, defers := [] } w := ⟨_, g, f, n, d, b, e, by rw [h], ht, hn, hK⟩
end Go.Proofs.YtjmcelgdjpdacaaDoor
/- Paths of a walk that come together again; numbers of 16 bits. -/
namespace Tw
open Go Go.RowKit Go.Proofs.YtjmcelgdjpdacaaDoor
def normQ (R : Act → World → Prop) : Exit → Act → World → Prop
  | .normal, a, w => R a w
  | _, _, _ => False
def preW (P : Program) (R : Act → World → Prop) : Nat → Code → Act → World → Prop
  | 0, _, a, w => R a w
  | n + 1, .seq x y, a, w => x.wp P (normQ (preW P R n y)) a w
  | _ + 1, _, _, _ => False
def cutT : Nat → Code → Code
  | n + 1, .seq _ b => cutT n b
  | _, c => c
theorem wp_joins {P : Program} {Q : Exit → Act → World → Prop} (R : Act → World → Prop) : ∀ (n : Nat) {c : Code} {a : Act} {w : World}, preW P R n c a w → (∀ a' w', R a' w' → (cutT n c).wp P Q a' w') → c.wp P Q a w
  | 0, c, a, w, h1, h2 => by
    have := h2 a w h1
    cases c <;> exact this
  | n + 1, c, a, w, h1, h2 => by
    cases c with
    | seq x y =>
      refine wp_seq (wp_mono h1 ?_)
      rintro e a' w' hq
      cases e with
      | normal => exact wp_joins R n hq h2
      | _ => exact hq.elim
    | _ => exact h1.elim
def JoinR (F : (Nat → Value) → Array Value) (W0 : Base) (K : List (Nat × Obj)) (a : Act) (w : World) : Prop := (∃ z, a = { tmps := F z, defers := [] }) ∧ KS W0 K w
theorem join_mk {F : (Nat → Value) → Array Value} {W0 : Base} {K : List (Nat × Obj)} {T : Array Value} {w : World} (h : F (fun i => T.getD i undef) = T) (hK : KS W0 K w) : JoinR F W0 K { tmps := T, defers := [] } w := ⟨⟨_, by rw [h]⟩, hK⟩
end Tw
namespace Go.Proofs.YtjmcelgdjpdacaaDoor
open Go.RowKit Tw
open Go
theorem run_min16 {o : Oper} {a : Act} {x y z : Int} {px py : Operand} {tx ty : TypeId} {w : World} (ho : o.op = .call { callee := .builtin .min, args := #[px, py], argTypes := #[tx, ty] }) (hp : #[px, py].map a.eval = #[.int .u16 x, .int .u16 y]) (hm : min x y = z) : (execOp a.eval o).run Tryd.prog w = .ok (.value (.int .u16 z)) w := by
  subst hm
  go_simp
theorem run_max16 {o : Oper} {a : Act} {x y z : Int} {px py : Operand} {tx ty : TypeId} {w : World} (ho : o.op = .call { callee := .builtin .max, args := #[px, py], argTypes := #[tx, ty] }) (hp : #[px, py].map a.eval = #[.int .u16 x, .int .u16 y]) (hm : max x y = z) : (execOp a.eval o).run Tryd.prog w = .ok (.value (.int .u16 z)) w := by
  subst hm
  go_simp
theorem run_shr16 {x z : Int} {px py : Operand} (h : x / 2 = z) (hx : 0 ≤ x) (hx2 : x ≤ 65535) (w : World) : (do eqGuard .shr 33 px py (.int .u16 x) (.int .u64 1); binOp .shr 33 (.int .u16 x) (.int .u64 1) : Sem Value).run Tryd.prog w = .ok (.int .u16 z) w := by
  subst h
  go_simp
end Go.Proofs.YtjmcelgdjpdacaaDoor
namespace Go.Proofs.YtjmcelgdjpdacaaDoor
open Go.RowKit Tw
open Go
theorem yb_load2r {W0 : Base} {o : Oper} {a : Act} {K : List (Nat × Obj)} {x : Operand} {g k : Nat} {f t : Value} {cur : Array Value} (ho : o.op = .load 41 x) (hx : a.eval x = .pointer (some ⟨g, 0 + 2 * k, none⟩)) (hm : (g, .cells cur 41 (0, 0)) ∈ K)
    (hf : cur[2 * k]? = some f) (ht : cur[2 * k + 1]? = some t) :
    ∀ w, KS W0 K w → ∀ K' : Act → World → Prop, (∀ w', Below w.heap.size w w' → K' (a.put o.dst (.agg #[f, t])) w') → Oper.wp Tryd.prog o a w K' (fun _ _ _ => False) := by
  intro w hw K' hk
  have hh := hw.2 _ hm
  exact yb_load2 (W0 := (w : Base)) (K := []) ho hx (by rw [cell_of_row w g _ cur _ (0, 0) hh, Nat.zero_add]; exact hf) (by rw [cell_of_row w g _ cur _ (0, 0) hh, Nat.zero_add]; exact ht) (lt_of_block hh) w (KS.start w) K' hk
set_option maxRecDepth 100000 in
set_option maxHeartbeats 20000000 in
theorem ClockWrong_law (w : World) (hE : Env w) (l0 : List Int) (p0 : Option Addr) (c0 : Nat) (hb0 : BL w p0 l0) (a1 : Int) (r1 : 0 ≤ a1 ∧ a1 ≤ 255) (a2 : Int) (r2 : 0 ≤ a2 ∧ a2 ≤ 255) :
    Calls Tryd.prog 13 #[.slice p0 l0.length c0, .int .u8 a1, .int .u8 a2] w fun e w' => e = .returned (.bool true) ∧ Below w.heap.size w w' := by
  have HE := Lib.hid hE
  have HB0 := Lib.hid hb0
  obtain ⟨m, hm⟩ : ∃ m, madeL l0 = m := ⟨_, rfl⟩
  have hml := made_length l0
  have HM := fun W h => Made_any l0 p0 c0 W h
  rw [hm] at hml HM
  clear hE hb0
  go_enter Tryd.func13, Tryd.ntmps13
  refine wp_seq ?_
  refine wp_region_L (W0 := w) [] (KS.start w) ?_
  refine lm (v := .bool false) rfl rfl ?_
  refine wpL_done (fun W1 hW1 => ?_)
  refine (show Code.wp _ _ _ _ _ from ?_)
  refine wp_seq ?_
  refine wp_seq ?_
  refine wp_region_L (W0 := w) [] (hW1) ?_
  refine lv (v := .bool true) rfl rfl (yb_call (f := 15) (args := #[]) (fun _ => by kernel_rfl) fun W hW => awake_any W (HE.out.keep hW.1)) ?_
  refine lm (v := .bool false) rfl rfl ?_
  refine wpL_done (fun W2 hW2 => ?_)
  clear hW1
  refine (show Code.wp _ _ _ _ _ from ?_)
  refine wp_cond_false rfl ?_
  refine wp_skip ?_
  refine (show Code.wp _ _ _ _ _ from ?_)
  refine wp_seq ?_
  refine wp_region_L (W0 := w) [] (hW2) ?_
  refine lm (v := .slice p0 l0.length c0) rfl rfl ?_
  refine wpL_c (fun u Kz => OutK (w : World) [] m u Kz) rfl (by kernel_rfl) (fun _ => (by kernel_rfl)) (fun W hW => (Calls.mono (HM W (bl_keep HB0.out hW.1)) fun e w' ⟨v, he, hO, hb⟩ => (let ⟨K', h1, h2⟩ := hO.known hW hb; ⟨v, K', he, h1, h2⟩))) (fun _ => by simp only [List.setIfInBounds_toArray, List.set_cons_succ, List.set_cons_zero] <;> rfl) ?_
  rintro u Kz1 hOm
  refine lm (v := .agg #[.int .i64 30000, .int .i64 30001]) rfl rfl ?_
  refine wpL_new (fun g => .slice (some ⟨g, 0, none⟩) 1 1) (obi := .cells #[.int .i64 30000, .int .i64 30001] 41 (0, 0)) rfl rfl (fun _ => by kernel_rfl) (fun _ => by simp only [List.setIfInBounds_toArray, List.set_cons_succ, List.set_cons_zero] <;> rfl) fun g1 Bg1 Fg1 => ?_
  try simp only [List.forall_mem_cons] at Fg1
  refine wpL_g (GRow w (m ++ [(30000, 30001)])) rfl (by kernel_rfl) (app_out rfl (by kernel_rfl) (by kernel_rfl) hOm (by omega)) (fun _ => by simp only [List.setIfInBounds_toArray, List.set_cons_succ, List.set_cons_zero] <;> rfl) ?_
  rintro v K9 ⟨gr1, capr1, curr1, rfl, Br1, Rr1, rfl⟩
  obtain ⟨l, hl⟩ : ∃ l, m ++ [((30000 : Int), (30001 : Int))] = l := ⟨_, rfl⟩
  have hll : l.length = m.length + 1 := by rw [← hl]; simp
  have hlast : l[m.length]? = some (30000, 30001) := by rw [← hl]; simp
  rw [hl] at Rr1
  rw [hl]
  obtain ⟨k, hk, hkl⟩ : ∃ k : Nat, (k : Int) = a1 % (l.length : Int) ∧ k < l.length := ⟨(a1 % (l.length : Int)).toNat, by rw [Int.toNat_of_nonneg (Int.emod_nonneg _ (by omega))], by have := Int.emod_lt_of_pos a1 (show (0 : Int) < l.length by omega); have := Int.emod_nonneg a1 (show (l.length : Int) ≠ 0 by omega); omega⟩
  obtain ⟨⟨f, t⟩, hkg⟩ : ∃ s, l[k]? = some s := ⟨_, List.getElem?_eq_getElem hkl⟩
  obtain ⟨⟨f0, t0⟩, h0g⟩ : ∃ s, l[0]? = some s := ⟨_, List.getElem?_eq_getElem (by omega)⟩
  refine lm (v := .slice (some ⟨gr1, 0, none⟩) l.length capr1) rfl rfl ?_
  refine wpL_done (fun W3 hW3 => ?_)
  clear hW2
  refine (show Code.wp _ _ _ _ _ from ?_)
  refine wp_seq ?_
  refine wp_region_L (W0 := w) [(gr1, .cells curr1 41 (0, 0))] (hW3) ?_
  refine lm (v := .int .u8 a1) rfl rfl ?_
  refine lp (v := .int .i64 a1) rfl rfl (run_cvb rfl (by kernel_rfl) r1) ?_
  refine lm (v := .slice (some ⟨gr1, 0, none⟩) l.length capr1) rfl rfl ?_
  refine lm (v := .int .i64 (l.length : Int)) rfl rfl ?_
  refine lp (v := .int .i64 (k : Int)) rfl rfl (run_bin rfl (vx := .int .i64 a1) (vy := .int .i64 (l.length : Int)) (by kernel_rfl) (by kernel_rfl) fun w => run_remI (z := (k : Int)) hk.symm (by omega) (by omega) (by omega) w) ?_
  refine lm (v := .int .i64 (k : Int)) rfl rfl ?_
  refine wpL_done (fun W4 hW4 => ?_)
  clear hW3
  refine (show Code.wp _ _ _ _ _ from ?_)
  refine wp_joins (JoinRow (fun z v => List.toArray (z 0 :: (.int .u8 a1) :: z 2 :: z 3 :: z 4 :: z 5 :: z 6 :: v :: z 8 :: z 9 :: z 10 :: z 11 :: z 12 :: z 13 :: z 14 :: z 15 :: z 16 :: z 17 :: z 18 :: z 19 :: z 20 :: z 21 :: z 22 :: z 23 :: z 24 :: z 25 :: z 26 :: z 27 :: z 28 :: z 29 :: z 30 :: z 31 :: z 32 :: z 33 :: z 34 :: z 35 :: z 36 :: z 37 :: z 38 :: z 39 :: z 40 :: z 41 :: z 42 :: z 43 :: z 44 :: z 45 :: z 46 :: z 47 :: z 48 :: z 49 :: z 50 :: z 51 :: z 52 :: z 53 :: z 54 :: z 55 :: z 56 :: z 57 :: z 58 :: z 59 :: z 60 :: z 61 :: z 62 :: z 63 :: z 64 :: z 65 :: z 66 :: z 67 :: z 68 :: z 69 :: z 70 :: z 71 :: z 72 :: z 73 :: z 74 :: z 75 :: z 76 :: z 77 :: z 78 :: z 79 :: z 80 :: z 81 :: z 82 :: z 83 :: z 84 :: z 85 :: z 86 :: z 87 :: z 88 :: z 89 :: z 90 :: z 91 :: z 92 :: z 93 :: z 94 :: z 95 :: z 96 :: z 97 :: z 98 :: z 99 :: z 100 :: z 101 :: z 102 :: z 103 :: z 104 :: z 105 :: z 106 :: z 107 :: z 108 :: z 109 :: z 110 :: z 111 :: z 112 :: z 113 :: z 114 :: z 115 :: z 116 :: z 117 :: z 118 :: z 119 :: z 120 :: z 121 :: z 122 :: z 123 :: z 124 :: z 125 :: z 126 :: z 127 :: z 128 :: z 129 :: z 130 :: z 131 :: z 132 :: z 133 :: z 134 :: z 135 :: z 136 :: z 137 :: z 138 :: z 139 :: z 140 :: z 141 :: z 142 :: z 143 :: z 144 :: z 145 :: z 146 :: z 147 :: z 148 :: z 149 :: z 150 :: z 151 :: z 152 :: z 153 :: z 154 :: z 155 :: z 156 :: z 157 :: z 158 :: z 159 :: z 160 :: z 161 :: z 162 :: z 163 :: z 164 :: z 165 :: z 166 :: z 167 :: z 168 :: z 169 :: z 170 :: z 171 :: z 172 :: z 173 :: z 174 :: z 175 :: z 176 :: z 177 :: z 178 :: z 179 :: z 180 :: z 181 :: z 182 :: z 183 :: z 184 :: z 185 :: z 186 :: z 187 :: z 188 :: z 189 :: z 190 :: z 191 :: z 192 :: z 193 :: z 194 :: z 195 :: z 196 :: z 197 :: z 198 :: z 199 :: z 200 :: z 201 :: z 202 :: z 203 :: z 204 :: z 205 :: z 206 :: z 207 :: [])) w) 1 ?_ ?_
  · refine (show Code.wp _ _ _ _ _ from ?_)
    refine wp_seq ?_
    refine wp_region_L (W0 := w) [(gr1, .cells curr1 41 (0, 0))] (hW4) ?_
    refine lm (v := .int .u8 a2) rfl rfl ?_
    refine lp (v := .int .u8 (a2 % 5)) rfl rfl (run_bin rfl (vx := .int .u8 a2) (vy := .int .u8 5) (by kernel_rfl) (by kernel_rfl) fun w => run_rem5 rfl (by omega) (by omega) w) ?_
    refine wpL_done (fun W5 hW5 => ?_)
    clear hW4
    refine (show Code.wp _ _ _ _ _ from ?_)
    rcases (show a2 % 5 = 0 ∨ a2 % 5 = 1 ∨ a2 % 5 = 2 ∨ a2 % 5 = 3 ∨ a2 % 5 = 4 by omega) with h5 | h5 | h5 | h5 | h5
    · rw [h5]
      refine (show Code.wp _ _ _ _ _ from ?_)
      refine wp_block ?_
      refine wp_seq ?_
      refine wp_region_L (W0 := w) [(gr1, .cells curr1 41 (0, 0))] (hW5) ?_
      refine lm (v := .bool true) rfl rfl ?_
      refine lm (v := .bool true) rfl rfl ?_
      refine wpL_done (fun W6 hW6 => ?_)
      clear hW5
      refine (show Code.wp _ _ _ _ _ from ?_)
      refine wp_cond_true rfl ?_
      refine wp_region_L (W0 := w) [(gr1, .cells curr1 41 (0, 0))] (hW6) ?_
      refine lm (v := .slice (some ⟨gr1, 0, none⟩) l.length capr1) rfl rfl ?_
      refine lm (v := .int .i64 (k : Int)) rfl rfl ?_
      refine lm (v := .slice (some ⟨gr1, 0, none⟩) l.length capr1) rfl rfl ?_
      refine lm (v := .int .i64 (k : Int)) rfl rfl ?_
      refine lp (v := .pointer (some ⟨gr1, 0 + 2 * k, none⟩)) rfl rfl (run_idx (b := gr1) (off := 0) (n := l.length) (cap := capr1) (k := k) rfl (by kernel_rfl) (by kernel_rfl) (by omega)) ?_
      refine lm (v := .pointer (some ⟨gr1, 0 + 2 * k + 0, none⟩)) rfl rfl ?_
      refine lv (v := .int .i64 f) rfl rfl (yb_loadc (off := 0 + 2 * k + 0) rfl (by kernel_rfl) (.head _) Tryd.underlying3 rfl (by first | (rw [Nat.zero_add]; exact (row_get Rr1 hkg).1) | (rw [Nat.zero_add]; exact (row_get Rr1 hkg).2))) ?_
      refine lp (v := .pointer (some ⟨gr1, 0 + 2 * k, none⟩)) rfl rfl (run_idx (b := gr1) (off := 0) (n := l.length) (cap := capr1) (k := k) rfl (by kernel_rfl) (by kernel_rfl) (by omega)) ?_
      refine lm (v := .pointer (some ⟨gr1, 0 + 2 * k + 1, none⟩)) rfl rfl ?_
      refine wpL_s [(gr1, .cells (curr1.toList.set (0 + 2 * k + 1) (.int .i64 f)).toArray 41 (0, 0))] rfl rfl (st_in (c := f) rfl (by kernel_rfl) (by kernel_rfl) (.head _) (by omega) (by have := Rr1.1; have := Rr1.2.2.1; omega) (List.forall_mem_cons.2 ⟨.inl rfl, (List.forall_mem_nil _)⟩)) ?_
      refine wpL_done (fun W7 hW7 => ?_)
      clear hW6
      simp only [Exit.inBlock, normQ, preW]
      exact joinRow_mk (show Row (curr1.toList.set (0 + 2 * k + 1) (.int .i64 f)).toArray capr1 (l.set k (f, f)).length (flat (l.set k (f, f))) from by have h := row_to (c := f) Rr1 hkg; simpa only [Nat.zero_add] using h) (not_apart (set_get hkg) (.inr (.inl (Int.le_refl _)))) (by rw [List.length_set]; omega) (hW7.sub (fun _ hp => by rw [List.mem_singleton.1 hp]; exact (.head _))) List.length_set (by kernel_rfl)
    · rw [h5]
      refine (show Code.wp _ _ _ _ _ from ?_)
      refine wp_block ?_
      refine wp_seq ?_
      refine wp_region_L (W0 := w) [(gr1, .cells curr1 41 (0, 0))] (hW5) ?_
      refine lm (v := .bool false) rfl rfl ?_
      refine lm (v := .bool false) rfl rfl ?_
      refine wpL_done (fun W6 hW6 => ?_)
      clear hW5
      refine (show Code.wp _ _ _ _ _ from ?_)
      refine wp_cond_false rfl ?_
      refine wp_seq ?_
      refine wp_region_L (W0 := w) [(gr1, .cells curr1 41 (0, 0))] (hW6) ?_
      refine lm (v := .bool true) rfl rfl ?_
      refine lm (v := .bool true) rfl rfl ?_
      refine wpL_done (fun W7 hW7 => ?_)
      clear hW6
      refine (show Code.wp _ _ _ _ _ from ?_)
      refine wp_cond_true rfl ?_
      refine wp_region_V (W0 := w) [(gr1, .cells curr1 41 (0, 0))] (by kernel_rfl) (hW7) ?_
      refine vm (i := 0) (v := .slice (some ⟨gr1, 0, none⟩) l.length capr1) rfl rfl rfl ?_
      refine vm (i := 1) (v := .slice (some ⟨gr1, 0, none⟩) l.length capr1) rfl rfl rfl ?_
      refine vm (i := 2) (v := .slice (some ⟨gr1, 0, none⟩) l.length capr1) rfl rfl rfl ?_
      refine vm (i := 3) (v := .int .i64 (l.length : Int)) rfl rfl rfl ?_
      refine vp (i := 4) (v := .int .i64 (m.length : Int)) rfl rfl rfl (run_bin rfl (vx := .int .i64 (l.length : Int)) (vy := .int .i64 1) (by kernel_rfl) (by kernel_rfl) fun w => run_subI (z := (m.length : Int)) (by omega) (by omega) w) ?_
      refine vp (i := 5) (v := .pointer (some ⟨gr1, 0 + 2 * m.length, none⟩)) rfl rfl rfl (run_idx (b := gr1) (off := 0) (n := l.length) (cap := capr1) (k := m.length) rfl (by kernel_rfl) (by kernel_rfl) (by omega)) ?_
      refine vm (i := 6) (v := .pointer (some ⟨gr1, 0 + 2 * m.length + 1, none⟩)) rfl rfl rfl ?_
      refine vv (i := 7) (v := .int .i64 30001) rfl rfl rfl (yb_loadc (off := 0 + 2 * m.length + 1) rfl (by kernel_rfl) (.head _) Tryd.underlying3 rfl (by first | (rw [Nat.zero_add]; exact (row_get Rr1 hlast).1) | (rw [Nat.zero_add]; exact (row_get Rr1 hlast).2))) ?_
      refine vm (i := 8) (v := .slice (some ⟨gr1, 0, none⟩) l.length capr1) rfl rfl rfl ?_
      refine vm (i := 9) (v := .slice (some ⟨gr1, 0, none⟩) l.length capr1) rfl rfl rfl ?_
      refine vm (i := 10) (v := .int .i64 (l.length : Int)) rfl rfl rfl ?_
      refine vp (i := 11) (v := .int .i64 (m.length : Int)) rfl rfl rfl (run_bin rfl (vx := .int .i64 (l.length : Int)) (vy := .int .i64 1) (by kernel_rfl) (by kernel_rfl) fun w => run_subI (z := (m.length : Int)) (by omega) (by omega) w) ?_
      refine vp (i := 12) (v := .pointer (some ⟨gr1, 0 + 2 * m.length, none⟩)) rfl rfl rfl (run_idx (b := gr1) (off := 0) (n := l.length) (cap := capr1) (k := m.length) rfl (by kernel_rfl) (by kernel_rfl) (by omega)) ?_
      refine vm (i := 13) (v := .pointer (some ⟨gr1, 0 + 2 * m.length + 1, none⟩)) rfl rfl rfl ?_
      refine vv (i := 14) (v := .int .i64 30001) rfl rfl rfl (yb_loadc (off := 0 + 2 * m.length + 1) rfl (by kernel_rfl) (.head _) Tryd.underlying3 rfl (by first | (rw [Nat.zero_add]; exact (row_get Rr1 hlast).1) | (rw [Nat.zero_add]; exact (row_get Rr1 hlast).2))) ?_
      refine vm (i := 15) (v := .int .i64 30002) rfl rfl rfl ?_
      refine vm (i := 16) (v := .agg #[.int .i64 30001, .int .i64 30002]) rfl rfl rfl ?_
      refine wpV_ns (fun g => .slice (some ⟨g, 0, none⟩) 1 1) (i := 17) (obi := .cells #[.int .i64 30001, .int .i64 30002] 41 (0, 0)) rfl rfl rfl (by kernel_rfl) (fun _ => by kernel_rfl) (fun _ => by simp only [List.setIfInBounds_toArray, List.set_cons_succ, List.set_cons_zero] <;> rfl) fun g2 Bg2 Fg2 => ?_
      try simp only [List.forall_mem_cons] at Fg2
      refine wpV_g (i := 18) (GRow w (l ++ [(30001, 30002)])) rfl rfl (by kernel_rfl) (by kernel_rfl) (by kernel_rfl) (app_own rfl (by kernel_rfl) (by kernel_rfl) (.head _) (.tail _ (.head _)) Br1 Rr1 (by omega)) (fun _ => by simp only [List.setIfInBounds_toArray, List.set_cons_succ, List.set_cons_zero] <;> rfl) ?_
      rintro v K9 ⟨gr2, capr2, curr2, rfl, Br2, Rr2, rfl⟩
      refine vm (i := 19) (v := .slice (some ⟨gr2, 0, none⟩) (l ++ [(30001, 30002)]).length capr2) rfl rfl rfl ?_
      refine wpV_done (by kernel_rfl) (fun W8 hW8 => ?_) _
      clear hW7
      simp only [Exit.inBlock, normQ, preW]
      exact joinRow_mk Rr2 (hl ▸ touch_not m) (by simp; omega) (hW8.sub (fun _ hp => by rw [List.mem_singleton.1 hp]; exact (.head _))) rfl (by kernel_rfl)
    · rw [h5]
      refine (show Code.wp _ _ _ _ _ from ?_)
      refine wp_block ?_
      refine wp_seq ?_
      refine wp_region_L (W0 := w) [(gr1, .cells curr1 41 (0, 0))] (hW5) ?_
      refine lm (v := .bool false) rfl rfl ?_
      refine lm (v := .bool false) rfl rfl ?_
      refine wpL_done (fun W6 hW6 => ?_)
      clear hW5
      refine (show Code.wp _ _ _ _ _ from ?_)
      refine wp_cond_false rfl ?_
      refine wp_seq ?_
      refine wp_region_L (W0 := w) [(gr1, .cells curr1 41 (0, 0))] (hW6) ?_
      refine lm (v := .bool false) rfl rfl ?_
      refine lm (v := .bool false) rfl rfl ?_
      refine wpL_done (fun W7 hW7 => ?_)
      clear hW6
      refine (show Code.wp _ _ _ _ _ from ?_)
      refine wp_cond_false rfl ?_
      refine wp_seq ?_
      refine wp_region_L (W0 := w) [(gr1, .cells curr1 41 (0, 0))] (hW7) ?_
      refine lm (v := .bool true) rfl rfl ?_
      refine lm (v := .bool true) rfl rfl ?_
      refine wpL_done (fun W8 hW8 => ?_)
      clear hW7
      refine (show Code.wp _ _ _ _ _ from ?_)
      refine wp_cond_true rfl ?_
      refine wp_region_L (W0 := w) [(gr1, .cells curr1 41 (0, 0))] (hW8) ?_
      refine lm (v := .slice (some ⟨gr1, 0, none⟩) l.length capr1) rfl rfl ?_
      refine lm (v := .slice (some ⟨gr1, 0, none⟩) l.length capr1) rfl rfl ?_
      refine lm (v := .int .i64 (l.length : Int)) rfl rfl ?_
      refine lp (v := .int .i64 (m.length : Int)) rfl rfl (run_bin rfl (vx := .int .i64 (l.length : Int)) (vy := .int .i64 1) (by kernel_rfl) (by kernel_rfl) fun w => run_subI (z := (m.length : Int)) (by omega) (by omega) w) ?_
      refine lp (v := .pointer (some ⟨gr1, 0 + 2 * m.length, none⟩)) rfl rfl (run_idx (b := gr1) (off := 0) (n := l.length) (cap := capr1) (k := m.length) rfl (by kernel_rfl) (by kernel_rfl) (by omega)) ?_
      refine lm (v := .pointer (some ⟨gr1, 0 + 2 * m.length + 1, none⟩)) rfl rfl ?_
      refine wpL_s [(gr1, .cells (curr1.toList.set (0 + 2 * m.length + 1) (.int .i64 100000001)).toArray 41 (0, 0))] rfl rfl (st_in (c := 100000001) rfl (by kernel_rfl) (by kernel_rfl) (.head _) (by omega) (by have := Rr1.1; have := Rr1.2.2.1; omega) (List.forall_mem_cons.2 ⟨.inl rfl, (List.forall_mem_nil _)⟩)) ?_
      refine wpL_done (fun W9 hW9 => ?_)
      clear hW8
      simp only [Exit.inBlock, normQ, preW]
      exact joinRow_mk (show Row (curr1.toList.set (0 + 2 * m.length + 1) (.int .i64 100000001)).toArray capr1 (l.set m.length (30000, 100000001)).length (flat (l.set m.length (30000, 100000001))) from by have h := row_to (c := 100000001) Rr1 hlast; simpa only [Nat.zero_add] using h) (not_apart (set_get hlast) (.inr (.inr (show (100000000 : Int) < 100000001 from by decide)))) (by rw [List.length_set]; omega) (hW9.sub (fun _ hp => by rw [List.mem_singleton.1 hp]; exact (.head _))) List.length_set (by kernel_rfl)
    · rw [h5]
      refine (show Code.wp _ _ _ _ _ from ?_)
      refine wp_block ?_
      refine wp_seq ?_
      refine wp_region_L (W0 := w) [(gr1, .cells curr1 41 (0, 0))] (hW5) ?_
      refine lm (v := .bool false) rfl rfl ?_
      refine lm (v := .bool false) rfl rfl ?_
      refine wpL_done (fun W6 hW6 => ?_)
      clear hW5
      refine (show Code.wp _ _ _ _ _ from ?_)
      refine wp_cond_false rfl ?_
      refine wp_seq ?_
      refine wp_region_L (W0 := w) [(gr1, .cells curr1 41 (0, 0))] (hW6) ?_
      refine lm (v := .bool false) rfl rfl ?_
      refine lm (v := .bool false) rfl rfl ?_
      refine wpL_done (fun W7 hW7 => ?_)
      clear hW6
      refine (show Code.wp _ _ _ _ _ from ?_)
      refine wp_cond_false rfl ?_
      refine wp_seq ?_
      refine wp_region_L (W0 := w) [(gr1, .cells curr1 41 (0, 0))] (hW7) ?_
      refine lm (v := .bool false) rfl rfl ?_
      refine lm (v := .bool false) rfl rfl ?_
      refine wpL_done (fun W8 hW8 => ?_)
      clear hW7
      refine (show Code.wp _ _ _ _ _ from ?_)
      refine wp_cond_false rfl ?_
      refine wp_seq ?_
      refine wp_region_L (W0 := w) [(gr1, .cells curr1 41 (0, 0))] (hW8) ?_
      refine lm (v := .bool true) rfl rfl ?_
      refine lm (v := .bool true) rfl rfl ?_
      refine wpL_done (fun W9 hW9 => ?_)
      clear hW8
      refine (show Code.wp _ _ _ _ _ from ?_)
      refine wp_cond_true rfl ?_
      refine wp_region_L (W0 := w) [(gr1, .cells curr1 41 (0, 0))] (hW9) ?_
      refine lm (v := .slice (some ⟨gr1, 0, none⟩) l.length capr1) rfl rfl ?_
      refine lp (v := .pointer (some ⟨gr1, 0 + 2 * 0, none⟩)) rfl rfl (run_idx (b := gr1) (off := 0) (n := l.length) (cap := capr1) (k := 0) rfl (by kernel_rfl) (by kernel_rfl) (by omega)) ?_
      refine lm (v := .pointer (some ⟨gr1, 0 + 2 * 0 + 0, none⟩)) rfl rfl ?_
      refine wpL_s [(gr1, .cells (curr1.toList.set (0 + 2 * 0 + 0) (.int .i64 (-1))).toArray 41 (0, 0))] rfl rfl (st_in (c := (-1)) rfl (by kernel_rfl) (by kernel_rfl) (.head _) (by omega) (by have := Rr1.1; have := Rr1.2.2.1; omega) (List.forall_mem_cons.2 ⟨.inl rfl, (List.forall_mem_nil _)⟩)) ?_
      refine wpL_done (fun W10 hW10 => ?_)
      clear hW9
      simp only [Exit.inBlock, normQ, preW]
      exact joinRow_mk (show Row (curr1.toList.set (0 + 2 * 0 + 0) (.int .i64 (-1))).toArray capr1 (l.set 0 ((-1), t0)).length (flat (l.set 0 ((-1), t0))) from by have h := row_from (c := (-1)) Rr1 h0g; simpa only [Nat.zero_add] using h) (not_apart (set_get h0g) (.inl (show (-1 : Int) < 0 from by decide))) (by rw [List.length_set]; omega) (hW10.sub (fun _ hp => by rw [List.mem_singleton.1 hp]; exact (.head _))) List.length_set (by kernel_rfl)
    · rw [h5]
      refine (show Code.wp _ _ _ _ _ from ?_)
      refine wp_block ?_
      refine wp_seq ?_
      refine wp_region_L (W0 := w) [(gr1, .cells curr1 41 (0, 0))] (hW5) ?_
      refine lm (v := .bool false) rfl rfl ?_
      refine lm (v := .bool false) rfl rfl ?_
      refine wpL_done (fun W6 hW6 => ?_)
      clear hW5
      refine (show Code.wp _ _ _ _ _ from ?_)
      refine wp_cond_false rfl ?_
      refine wp_seq ?_
      refine wp_region_L (W0 := w) [(gr1, .cells curr1 41 (0, 0))] (hW6) ?_
      refine lm (v := .bool false) rfl rfl ?_
      refine lm (v := .bool false) rfl rfl ?_
      refine wpL_done (fun W7 hW7 => ?_)
      clear hW6
      refine (show Code.wp _ _ _ _ _ from ?_)
      refine wp_cond_false rfl ?_
      refine wp_seq ?_
      refine wp_region_L (W0 := w) [(gr1, .cells curr1 41 (0, 0))] (hW7) ?_
      refine lm (v := .bool false) rfl rfl ?_
      refine lm (v := .bool false) rfl rfl ?_
      refine wpL_done (fun W8 hW8 => ?_)
      clear hW7
      refine (show Code.wp _ _ _ _ _ from ?_)
      refine wp_cond_false rfl ?_
      refine wp_seq ?_
      refine wp_region_L (W0 := w) [(gr1, .cells curr1 41 (0, 0))] (hW8) ?_
      refine lm (v := .bool false) rfl rfl ?_
      refine lm (v := .bool false) rfl rfl ?_
      refine wpL_done (fun W9 hW9 => ?_)
      clear hW8
      refine (show Code.wp _ _ _ _ _ from ?_)
      refine wp_cond_false rfl ?_
      refine wp_region_L (W0 := w) [(gr1, .cells curr1 41 (0, 0))] (hW9) ?_
      refine lm (v := .slice (some ⟨gr1, 0, none⟩) l.length capr1) rfl rfl ?_
      refine lm (v := .slice (some ⟨gr1, 0, none⟩) l.length capr1) rfl rfl ?_
      refine lm (v := .int .i64 (k : Int)) rfl rfl ?_
      refine lp (v := .pointer (some ⟨gr1, 0 + 2 * k, none⟩)) rfl rfl (run_idx (b := gr1) (off := 0) (n := l.length) (cap := capr1) (k := k) rfl (by kernel_rfl) (by kernel_rfl) (by omega)) ?_
      refine lv (v := .agg #[.int .i64 f, .int .i64 t]) rfl rfl (yb_load2r rfl (by kernel_rfl) (.head _) (row_get Rr1 hkg).1 (row_get Rr1 hkg).2) ?_
      refine wpL_new (fun g => .slice (some ⟨g, 0, none⟩) 1 1) (obi := .cells #[.int .i64 f, .int .i64 t] 41 (0, 0)) rfl rfl (fun _ => by kernel_rfl) (fun _ => by simp only [List.setIfInBounds_toArray, List.set_cons_succ, List.set_cons_zero] <;> rfl) fun g2 Bg2 Fg2 => ?_
      try simp only [List.forall_mem_cons] at Fg2
      refine wpL_g (GRow w (l ++ [(f, t)])) rfl (by kernel_rfl) (app_own rfl (by kernel_rfl) (by kernel_rfl) (.head _) (.tail _ (.head _)) Br1 Rr1 (by omega)) (fun _ => by simp only [List.setIfInBounds_toArray, List.set_cons_succ, List.set_cons_zero] <;> rfl) ?_
      rintro v K9 ⟨gr2, capr2, curr2, rfl, Br2, Rr2, rfl⟩
      refine lm (v := .slice (some ⟨gr2, 0, none⟩) (l ++ [(f, t)]).length capr2) rfl rfl ?_
      refine wpL_done (fun W10 hW10 => ?_)
      clear hW9
      simp only [Exit.inBlock, normQ, preW]
      exact joinRow_mk Rr2 (twice_not hkg) (by simp; omega) (hW10.sub (fun _ hp => by rw [List.mem_singleton.1 hp]; exact (.head _))) rfl (by kernel_rfl)
  · rintro a1j Wj ⟨z, L, gL, capL, curL, rfl, hna, hLl, hRL, hWj⟩
    dsimp only [cutT]
    have HL := Lib.hid (AV.sl (AV.of_row (hWj.2 _ (.head _)) hRL))
    have hbw := hWj.1
    have hWx := KS.start Wj
    clear hRL
    refine wp_seq ?_
    refine wp_region_L (W0 := Wj) [] (hWx) ?_
    refine lm (v := .slice (some ⟨gL, 0, none⟩) L.length capL) rfl rfl ?_
    refine lv (v := .tuple #[.slice none 0 0, .int .i64 2]) rfl rfl (yb_call (f := 32) (args := #[.slice (some ⟨gL, 0, none⟩) L.length capL, .slice none 0 0]) (fun _ => by kernel_rfl) fun W hW => both_w1 (sl_keep HL.out hW.1) hna (by omega)) ?_
    refine lm (v := .tuple #[.slice none 0 0, .int .i64 2]) rfl rfl ?_
    refine lm (v := .slice none 0 0) rfl rfl ?_
    refine lm (v := .int .i64 2) rfl rfl ?_
    refine lm (v := .slice none 0 0) rfl rfl ?_
    refine lm (v := .int .i64 2) rfl rfl ?_
    refine wpL_done (fun W5 hW5 => ?_)
    clear hWx
    refine (show Code.wp _ _ _ _ _ from ?_)
    refine wp_seq ?_
    refine wp_region_L (W0 := Wj) [] (hW5) ?_
    refine lm (v := .slice (some ⟨gL, 0, none⟩) L.length capL) rfl rfl ?_
    refine lv (v := .tuple #[.slice none 0 0, .int .i64 2]) rfl rfl (yb_call (f := 32) (args := #[.slice none 0 0, .slice (some ⟨gL, 0, none⟩) L.length capL]) (fun _ => by kernel_rfl) fun W hW => both_w2 (sl_keep HL.out hW.1) hna (by omega)) ?_
    refine lm (v := .tuple #[.slice none 0 0, .int .i64 2]) rfl rfl ?_
    refine lm (v := .slice none 0 0) rfl rfl ?_
    refine lm (v := .int .i64 2) rfl rfl ?_
    refine lm (v := .slice none 0 0) rfl rfl ?_
    refine lm (v := .int .i64 2) rfl rfl ?_
    refine wpL_done (fun W6 hW6 => ?_)
    clear hW5
    refine (show Code.wp _ _ _ _ _ from ?_)
    refine wp_seq ?_
    refine wp_region_L (W0 := Wj) [] (hW6) ?_
    refine lm (v := .slice (some ⟨gL, 0, none⟩) L.length capL) rfl rfl ?_
    refine lv (v := .tuple #[.int .i64 0, .int .i64 2]) rfl rfl (yb_call (f := 21) (args := #[.slice (some ⟨gL, 0, none⟩) L.length capL, .int .i64 0, .int .i64 5]) (fun _ => by kernel_rfl) fun W hW => between_w (sl_keep HL.out hW.1) hna (by omega) 0 5) ?_
    refine lm (v := .tuple #[.int .i64 0, .int .i64 2]) rfl rfl ?_
    refine lm (v := .int .i64 0) rfl rfl ?_
    refine lm (v := .int .i64 2) rfl rfl ?_
    refine lm (v := .int .i64 0) rfl rfl ?_
    refine lm (v := .int .i64 2) rfl rfl ?_
    refine wpL_done (fun W7 hW7 => ?_)
    clear hW6
    refine (show Code.wp _ _ _ _ _ from ?_)
    refine wp_seq ?_
    refine wp_region_L (W0 := Wj) [] (hW7) ?_
    refine lm (v := .slice (some ⟨gL, 0, none⟩) L.length capL) rfl rfl ?_
    refine lv (v := .tuple #[.int .i64 0, .int .i64 2]) rfl rfl (yb_call (f := 22) (args := #[.slice (some ⟨gL, 0, none⟩) L.length capL, .int .i64 0, .int .i64 1]) (fun _ => by kernel_rfl) fun W hW => fit_w (sl_keep HL.out hW.1) hna (by omega) 0 1) ?_
    refine lm (v := .tuple #[.int .i64 0, .int .i64 2]) rfl rfl ?_
    refine lm (v := .int .i64 0) rfl rfl ?_
    refine lm (v := .int .i64 2) rfl rfl ?_
    refine lm (v := .int .i64 0) rfl rfl ?_
    refine lm (v := .int .i64 2) rfl rfl ?_
    refine wpL_done (fun W8 hW8 => ?_)
    clear hW7
    refine (show Code.wp _ _ _ _ _ from ?_)
    refine wp_seq ?_
    refine wp_region_L (W0 := Wj) [] (hW8) ?_
    refine lm (v := .slice (some ⟨gL, 0, none⟩) L.length capL) rfl rfl ?_
    refine lv (v := .tuple #[.int .i64 0, .int .i64 2]) rfl rfl (yb_call (f := 20) (args := #[.slice (some ⟨gL, 0, none⟩) L.length capL, .int .i64 0, .int .i64 1]) (fun _ => by kernel_rfl) fun W hW => finish_w (sl_keep HL.out hW.1) hna (by omega) 0 1) ?_
    refine lm (v := .tuple #[.int .i64 0, .int .i64 2]) rfl rfl ?_
    refine lm (v := .int .i64 0) rfl rfl ?_
    refine lm (v := .int .i64 2) rfl rfl ?_
    refine lm (v := .int .i64 0) rfl rfl ?_
    refine lm (v := .int .i64 2) rfl rfl ?_
    refine wpL_done (fun W9 hW9 => ?_)
    clear hW8
    refine (show Code.wp _ _ _ _ _ from ?_)
    refine wp_seq ?_
    refine wp_region_L (W0 := Wj) [] (hW9) ?_
    refine lm (v := .slice (some ⟨gL, 0, none⟩) L.length capL) rfl rfl ?_
    refine lm (v := .agg #[.slice none 0 0, .slice (some ⟨gL, 0, none⟩) L.length capL]) rfl rfl ?_
    refine lv (v := .tuple #[.slice none 0 0, .int .i64 2]) rfl rfl (yb_call (f := 25) (args := #[.agg #[.slice none 0 0, .slice (some ⟨gL, 0, none⟩) L.length capL], .int .i64 0, .int .i64 9]) (fun _ => by kernel_rfl) fun W hW => spans_w (sl_keep HL.out hW.1) hna 0 9) ?_
    refine lm (v := .tuple #[.slice none 0 0, .int .i64 2]) rfl rfl ?_
    refine lm (v := .slice none 0 0) rfl rfl ?_
    refine lm (v := .int .i64 2) rfl rfl ?_
    refine lm (v := .slice none 0 0) rfl rfl ?_
    refine lm (v := .int .i64 2) rfl rfl ?_
    refine wpL_done (fun W10 hW10 => ?_)
    clear hW9
    refine (show Code.wp _ _ _ _ _ from ?_)
    refine wp_seq ?_
    refine wp_region_L (W0 := Wj) [] (hW10) ?_
    refine lm (v := .slice (some ⟨gL, 0, none⟩) L.length capL) rfl rfl ?_
    refine lm (v := .agg #[.slice none 0 0, .slice (some ⟨gL, 0, none⟩) L.length capL]) rfl rfl ?_
    refine lv (v := .tuple #[.bool false, .int .i64 2]) rfl rfl (yb_call (f := 28) (args := #[.agg #[.slice none 0 0, .slice (some ⟨gL, 0, none⟩) L.length capL], .int .i64 0]) (fun _ => by kernel_rfl) fun W hW => open_w (sl_keep HL.out hW.1) hna (by omega) 0) ?_
    refine lm (v := .tuple #[.bool false, .int .i64 2]) rfl rfl ?_
    refine lm (v := .bool false) rfl rfl ?_
    refine lm (v := .int .i64 2) rfl rfl ?_
    refine lm (v := .bool false) rfl rfl ?_
    refine lm (v := .int .i64 2) rfl rfl ?_
    refine wpL_done (fun W11 hW11 => ?_)
    clear hW10
    refine (show Code.wp _ _ _ _ _ from ?_)
    refine wp_seq ?_
    refine wp_seq ?_
    refine wp_region_L (W0 := Wj) [] (hW11) ?_
    refine lm (v := .int .i64 2) rfl rfl ?_
    refine lm (v := .int .i64 2) rfl rfl ?_
    refine lm (v := .int .i64 2) rfl rfl ?_
    refine lm (v := .int .i64 2) rfl rfl ?_
    refine lm (v := .int .i64 2) rfl rfl ?_
    refine lm (v := .int .i64 2) rfl rfl ?_
    refine lm (v := .int .i64 2) rfl rfl ?_
    refine wpL_new (fun g => .slice (some ⟨g, 0, none⟩) 7 7) (obi := .cells #[.int .i64 2, .int .i64 2, .int .i64 2, .int .i64 2, .int .i64 2, .int .i64 2, .int .i64 2] 36 (0, 0)) rfl rfl (fun _ => by kernel_rfl) (fun _ => by simp only [List.setIfInBounds_toArray, List.set_cons_succ, List.set_cons_zero] <;> rfl) fun g2 Bg2 Fg2 => ?_
    try simp only [List.forall_mem_cons] at Fg2
    refine lm (v := .int .i64 7) rfl rfl ?_
    refine lm (v := .int .i64 0) rfl rfl ?_
    refine wpL_done (fun W12 hW12 => ?_)
    clear hW11
    refine (show Code.wp _ _ _ _ _ from ?_)
    refine wp_block ?_
    refine wp_loop_rounds 10 ?_
    refine (show Code.wp _ _ _ _ _ from ?_)
    refine wp_seq ?_
    refine wp_region_L (W0 := Wj) [(g2, .cells #[.int .i64 2, .int .i64 2, .int .i64 2, .int .i64 2, .int .i64 2, .int .i64 2, .int .i64 2] 36 (0, 0))] (hW12) ?_
    refine lm (v := .bool true) rfl rfl ?_
    refine wpL_done (fun W13 hW13 => ?_)
    clear hW12
    refine (show Code.wp _ _ _ _ _ from ?_)
    refine wp_seq ?_
    refine wp_cond_true rfl ?_
    refine wp_skip ?_
    refine (show Code.wp _ _ _ _ _ from ?_)
    refine wp_seq ?_
    refine wp_block ?_
    refine wp_seq ?_
    refine wp_region_L (W0 := Wj) [(g2, .cells #[.int .i64 2, .int .i64 2, .int .i64 2, .int .i64 2, .int .i64 2, .int .i64 2, .int .i64 2] 36 (0, 0))] (hW13) ?_
    refine lm (v := .pointer (some ⟨g2, 0, none⟩)) rfl rfl ?_
    refine lv (v := .int .i64 2) rfl rfl (yb_loadc (off := 0) rfl (by kernel_rfl) (.head _) Tryd.underlying36 rfl (by kernel_rfl)) ?_
    refine lm (v := .int .i64 2) rfl rfl ?_
    refine wpL_done (fun W14 hW14 => ?_)
    clear hW13
    refine (show Code.wp _ _ _ _ _ from ?_)
    refine wp_seq ?_
    refine wp_region_L (W0 := Wj) [(g2, .cells #[.int .i64 2, .int .i64 2, .int .i64 2, .int .i64 2, .int .i64 2, .int .i64 2, .int .i64 2] 36 (0, 0))] (hW14) ?_
    refine lm (v := .int .i64 2) rfl rfl ?_
    refine lm (v := .bool false) rfl rfl ?_
    refine wpL_done (fun W15 hW15 => ?_)
    clear hW14
    refine (show Code.wp _ _ _ _ _ from ?_)
    refine wp_cond_false rfl ?_
    refine wp_skip ?_
    refine (show Code.wp _ _ _ _ _ from ?_)
    refine wp_region_L (W0 := Wj) [(g2, .cells #[.int .i64 2, .int .i64 2, .int .i64 2, .int .i64 2, .int .i64 2, .int .i64 2, .int .i64 2] 36 (0, 0))] (hW15) ?_
    refine lm (v := .int .i64 1) rfl rfl ?_
    refine lm (v := .int .i64 1) rfl rfl ?_
    refine wpL_done (fun W16 hW16 => ?_)
    clear hW15
    refine (show Code.wp _ _ _ _ _ from ?_)
    refine wp_seq ?_
    refine wp_region_L (W0 := Wj) [(g2, .cells #[.int .i64 2, .int .i64 2, .int .i64 2, .int .i64 2, .int .i64 2, .int .i64 2, .int .i64 2] 36 (0, 0))] (hW16) ?_
    refine lm (v := .bool true) rfl rfl ?_
    refine wpL_done (fun W17 hW17 => ?_)
    clear hW16
    refine (show Code.wp _ _ _ _ _ from ?_)
    refine wp_seq ?_
    refine wp_cond_true rfl ?_
    refine wp_skip ?_
    refine (show Code.wp _ _ _ _ _ from ?_)
    refine wp_seq ?_
    refine wp_block ?_
    refine wp_seq ?_
    refine wp_region_L (W0 := Wj) [(g2, .cells #[.int .i64 2, .int .i64 2, .int .i64 2, .int .i64 2, .int .i64 2, .int .i64 2, .int .i64 2] 36 (0, 0))] (hW17) ?_
    refine lm (v := .pointer (some ⟨g2, 1, none⟩)) rfl rfl ?_
    refine lv (v := .int .i64 2) rfl rfl (yb_loadc (off := 1) rfl (by kernel_rfl) (.head _) Tryd.underlying36 rfl (by kernel_rfl)) ?_
    refine lm (v := .int .i64 2) rfl rfl ?_
    refine wpL_done (fun W18 hW18 => ?_)
    clear hW17
    refine (show Code.wp _ _ _ _ _ from ?_)
    refine wp_seq ?_
    refine wp_region_L (W0 := Wj) [(g2, .cells #[.int .i64 2, .int .i64 2, .int .i64 2, .int .i64 2, .int .i64 2, .int .i64 2, .int .i64 2] 36 (0, 0))] (hW18) ?_
    refine lm (v := .int .i64 2) rfl rfl ?_
    refine lm (v := .bool false) rfl rfl ?_
    refine wpL_done (fun W19 hW19 => ?_)
    clear hW18
    refine (show Code.wp _ _ _ _ _ from ?_)
    refine wp_cond_false rfl ?_
    refine wp_skip ?_
    refine (show Code.wp _ _ _ _ _ from ?_)
    refine wp_region_L (W0 := Wj) [(g2, .cells #[.int .i64 2, .int .i64 2, .int .i64 2, .int .i64 2, .int .i64 2, .int .i64 2, .int .i64 2] 36 (0, 0))] (hW19) ?_
    refine lm (v := .int .i64 2) rfl rfl ?_
    refine lm (v := .int .i64 2) rfl rfl ?_
    refine wpL_done (fun W20 hW20 => ?_)
    clear hW19
    refine (show Code.wp _ _ _ _ _ from ?_)
    refine wp_seq ?_
    refine wp_region_L (W0 := Wj) [(g2, .cells #[.int .i64 2, .int .i64 2, .int .i64 2, .int .i64 2, .int .i64 2, .int .i64 2, .int .i64 2] 36 (0, 0))] (hW20) ?_
    refine lm (v := .bool true) rfl rfl ?_
    refine wpL_done (fun W21 hW21 => ?_)
    clear hW20
    refine (show Code.wp _ _ _ _ _ from ?_)
    refine wp_seq ?_
    refine wp_cond_true rfl ?_
    refine wp_skip ?_
    refine (show Code.wp _ _ _ _ _ from ?_)
    refine wp_seq ?_
    refine wp_block ?_
    refine wp_seq ?_
    refine wp_region_L (W0 := Wj) [(g2, .cells #[.int .i64 2, .int .i64 2, .int .i64 2, .int .i64 2, .int .i64 2, .int .i64 2, .int .i64 2] 36 (0, 0))] (hW21) ?_
    refine lm (v := .pointer (some ⟨g2, 2, none⟩)) rfl rfl ?_
    refine lv (v := .int .i64 2) rfl rfl (yb_loadc (off := 2) rfl (by kernel_rfl) (.head _) Tryd.underlying36 rfl (by kernel_rfl)) ?_
    refine lm (v := .int .i64 2) rfl rfl ?_
    refine wpL_done (fun W22 hW22 => ?_)
    clear hW21
    refine (show Code.wp _ _ _ _ _ from ?_)
    refine wp_seq ?_
    refine wp_region_L (W0 := Wj) [(g2, .cells #[.int .i64 2, .int .i64 2, .int .i64 2, .int .i64 2, .int .i64 2, .int .i64 2, .int .i64 2] 36 (0, 0))] (hW22) ?_
    refine lm (v := .int .i64 2) rfl rfl ?_
    refine lm (v := .bool false) rfl rfl ?_
    refine wpL_done (fun W23 hW23 => ?_)
    clear hW22
    refine (show Code.wp _ _ _ _ _ from ?_)
    refine wp_cond_false rfl ?_
    refine wp_skip ?_
    refine (show Code.wp _ _ _ _ _ from ?_)
    refine wp_region_L (W0 := Wj) [(g2, .cells #[.int .i64 2, .int .i64 2, .int .i64 2, .int .i64 2, .int .i64 2, .int .i64 2, .int .i64 2] 36 (0, 0))] (hW23) ?_
    refine lm (v := .int .i64 3) rfl rfl ?_
    refine lm (v := .int .i64 3) rfl rfl ?_
    refine wpL_done (fun W24 hW24 => ?_)
    clear hW23
    refine (show Code.wp _ _ _ _ _ from ?_)
    refine wp_seq ?_
    refine wp_region_L (W0 := Wj) [(g2, .cells #[.int .i64 2, .int .i64 2, .int .i64 2, .int .i64 2, .int .i64 2, .int .i64 2, .int .i64 2] 36 (0, 0))] (hW24) ?_
    refine lm (v := .bool true) rfl rfl ?_
    refine wpL_done (fun W25 hW25 => ?_)
    clear hW24
    refine (show Code.wp _ _ _ _ _ from ?_)
    refine wp_seq ?_
    refine wp_cond_true rfl ?_
    refine wp_skip ?_
    refine (show Code.wp _ _ _ _ _ from ?_)
    refine wp_seq ?_
    refine wp_block ?_
    refine wp_seq ?_
    refine wp_region_L (W0 := Wj) [(g2, .cells #[.int .i64 2, .int .i64 2, .int .i64 2, .int .i64 2, .int .i64 2, .int .i64 2, .int .i64 2] 36 (0, 0))] (hW25) ?_
    refine lm (v := .pointer (some ⟨g2, 3, none⟩)) rfl rfl ?_
    refine lv (v := .int .i64 2) rfl rfl (yb_loadc (off := 3) rfl (by kernel_rfl) (.head _) Tryd.underlying36 rfl (by kernel_rfl)) ?_
    refine lm (v := .int .i64 2) rfl rfl ?_
    refine wpL_done (fun W26 hW26 => ?_)
    clear hW25
    refine (show Code.wp _ _ _ _ _ from ?_)
    refine wp_seq ?_
    refine wp_region_L (W0 := Wj) [(g2, .cells #[.int .i64 2, .int .i64 2, .int .i64 2, .int .i64 2, .int .i64 2, .int .i64 2, .int .i64 2] 36 (0, 0))] (hW26) ?_
    refine lm (v := .int .i64 2) rfl rfl ?_
    refine lm (v := .bool false) rfl rfl ?_
    refine wpL_done (fun W27 hW27 => ?_)
    clear hW26
    refine (show Code.wp _ _ _ _ _ from ?_)
    refine wp_cond_false rfl ?_
    refine wp_skip ?_
    refine (show Code.wp _ _ _ _ _ from ?_)
    refine wp_region_L (W0 := Wj) [(g2, .cells #[.int .i64 2, .int .i64 2, .int .i64 2, .int .i64 2, .int .i64 2, .int .i64 2, .int .i64 2] 36 (0, 0))] (hW27) ?_
    refine lm (v := .int .i64 4) rfl rfl ?_
    refine lm (v := .int .i64 4) rfl rfl ?_
    refine wpL_done (fun W28 hW28 => ?_)
    clear hW27
    refine (show Code.wp _ _ _ _ _ from ?_)
    refine wp_seq ?_
    refine wp_region_L (W0 := Wj) [(g2, .cells #[.int .i64 2, .int .i64 2, .int .i64 2, .int .i64 2, .int .i64 2, .int .i64 2, .int .i64 2] 36 (0, 0))] (hW28) ?_
    refine lm (v := .bool true) rfl rfl ?_
    refine wpL_done (fun W29 hW29 => ?_)
    clear hW28
    refine (show Code.wp _ _ _ _ _ from ?_)
    refine wp_seq ?_
    refine wp_cond_true rfl ?_
    refine wp_skip ?_
    refine (show Code.wp _ _ _ _ _ from ?_)
    refine wp_seq ?_
    refine wp_block ?_
    refine wp_seq ?_
    refine wp_region_L (W0 := Wj) [(g2, .cells #[.int .i64 2, .int .i64 2, .int .i64 2, .int .i64 2, .int .i64 2, .int .i64 2, .int .i64 2] 36 (0, 0))] (hW29) ?_
    refine lm (v := .pointer (some ⟨g2, 4, none⟩)) rfl rfl ?_
    refine lv (v := .int .i64 2) rfl rfl (yb_loadc (off := 4) rfl (by kernel_rfl) (.head _) Tryd.underlying36 rfl (by kernel_rfl)) ?_
    refine lm (v := .int .i64 2) rfl rfl ?_
    refine wpL_done (fun W30 hW30 => ?_)
    clear hW29
    refine (show Code.wp _ _ _ _ _ from ?_)
    refine wp_seq ?_
    refine wp_region_L (W0 := Wj) [(g2, .cells #[.int .i64 2, .int .i64 2, .int .i64 2, .int .i64 2, .int .i64 2, .int .i64 2, .int .i64 2] 36 (0, 0))] (hW30) ?_
    refine lm (v := .int .i64 2) rfl rfl ?_
    refine lm (v := .bool false) rfl rfl ?_
    refine wpL_done (fun W31 hW31 => ?_)
    clear hW30
    refine (show Code.wp _ _ _ _ _ from ?_)
    refine wp_cond_false rfl ?_
    refine wp_skip ?_
    refine (show Code.wp _ _ _ _ _ from ?_)
    refine wp_region_L (W0 := Wj) [(g2, .cells #[.int .i64 2, .int .i64 2, .int .i64 2, .int .i64 2, .int .i64 2, .int .i64 2, .int .i64 2] 36 (0, 0))] (hW31) ?_
    refine lm (v := .int .i64 5) rfl rfl ?_
    refine lm (v := .int .i64 5) rfl rfl ?_
    refine wpL_done (fun W32 hW32 => ?_)
    clear hW31
    refine (show Code.wp _ _ _ _ _ from ?_)
    refine wp_seq ?_
    refine wp_region_L (W0 := Wj) [(g2, .cells #[.int .i64 2, .int .i64 2, .int .i64 2, .int .i64 2, .int .i64 2, .int .i64 2, .int .i64 2] 36 (0, 0))] (hW32) ?_
    refine lm (v := .bool true) rfl rfl ?_
    refine wpL_done (fun W33 hW33 => ?_)
    clear hW32
    refine (show Code.wp _ _ _ _ _ from ?_)
    refine wp_seq ?_
    refine wp_cond_true rfl ?_
    refine wp_skip ?_
    refine (show Code.wp _ _ _ _ _ from ?_)
    refine wp_seq ?_
    refine wp_block ?_
    refine wp_seq ?_
    refine wp_region_L (W0 := Wj) [(g2, .cells #[.int .i64 2, .int .i64 2, .int .i64 2, .int .i64 2, .int .i64 2, .int .i64 2, .int .i64 2] 36 (0, 0))] (hW33) ?_
    refine lm (v := .pointer (some ⟨g2, 5, none⟩)) rfl rfl ?_
    refine lv (v := .int .i64 2) rfl rfl (yb_loadc (off := 5) rfl (by kernel_rfl) (.head _) Tryd.underlying36 rfl (by kernel_rfl)) ?_
    refine lm (v := .int .i64 2) rfl rfl ?_
    refine wpL_done (fun W34 hW34 => ?_)
    clear hW33
    refine (show Code.wp _ _ _ _ _ from ?_)
    refine wp_seq ?_
    refine wp_region_L (W0 := Wj) [(g2, .cells #[.int .i64 2, .int .i64 2, .int .i64 2, .int .i64 2, .int .i64 2, .int .i64 2, .int .i64 2] 36 (0, 0))] (hW34) ?_
    refine lm (v := .int .i64 2) rfl rfl ?_
    refine lm (v := .bool false) rfl rfl ?_
    refine wpL_done (fun W35 hW35 => ?_)
    clear hW34
    refine (show Code.wp _ _ _ _ _ from ?_)
    refine wp_cond_false rfl ?_
    refine wp_skip ?_
    refine (show Code.wp _ _ _ _ _ from ?_)
    refine wp_region_L (W0 := Wj) [(g2, .cells #[.int .i64 2, .int .i64 2, .int .i64 2, .int .i64 2, .int .i64 2, .int .i64 2, .int .i64 2] 36 (0, 0))] (hW35) ?_
    refine lm (v := .int .i64 6) rfl rfl ?_
    refine lm (v := .int .i64 6) rfl rfl ?_
    refine wpL_done (fun W36 hW36 => ?_)
    clear hW35
    refine (show Code.wp _ _ _ _ _ from ?_)
    refine wp_seq ?_
    refine wp_region_L (W0 := Wj) [(g2, .cells #[.int .i64 2, .int .i64 2, .int .i64 2, .int .i64 2, .int .i64 2, .int .i64 2, .int .i64 2] 36 (0, 0))] (hW36) ?_
    refine lm (v := .bool true) rfl rfl ?_
    refine wpL_done (fun W37 hW37 => ?_)
    clear hW36
    refine (show Code.wp _ _ _ _ _ from ?_)
    refine wp_seq ?_
    refine wp_cond_true rfl ?_
    refine wp_skip ?_
    refine (show Code.wp _ _ _ _ _ from ?_)
    refine wp_seq ?_
    refine wp_block ?_
    refine wp_seq ?_
    refine wp_region_L (W0 := Wj) [(g2, .cells #[.int .i64 2, .int .i64 2, .int .i64 2, .int .i64 2, .int .i64 2, .int .i64 2, .int .i64 2] 36 (0, 0))] (hW37) ?_
    refine lm (v := .pointer (some ⟨g2, 6, none⟩)) rfl rfl ?_
    refine lv (v := .int .i64 2) rfl rfl (yb_loadc (off := 6) rfl (by kernel_rfl) (.head _) Tryd.underlying36 rfl (by kernel_rfl)) ?_
    refine lm (v := .int .i64 2) rfl rfl ?_
    refine wpL_done (fun W38 hW38 => ?_)
    clear hW37
    refine (show Code.wp _ _ _ _ _ from ?_)
    refine wp_seq ?_
    refine wp_region_L (W0 := Wj) [(g2, .cells #[.int .i64 2, .int .i64 2, .int .i64 2, .int .i64 2, .int .i64 2, .int .i64 2, .int .i64 2] 36 (0, 0))] (hW38) ?_
    refine lm (v := .int .i64 2) rfl rfl ?_
    refine lm (v := .bool false) rfl rfl ?_
    refine wpL_done (fun W39 hW39 => ?_)
    clear hW38
    refine (show Code.wp _ _ _ _ _ from ?_)
    refine wp_cond_false rfl ?_
    refine wp_skip ?_
    refine (show Code.wp _ _ _ _ _ from ?_)
    refine wp_region_L (W0 := Wj) [(g2, .cells #[.int .i64 2, .int .i64 2, .int .i64 2, .int .i64 2, .int .i64 2, .int .i64 2, .int .i64 2] 36 (0, 0))] (hW39) ?_
    refine lm (v := .int .i64 7) rfl rfl ?_
    refine lm (v := .int .i64 7) rfl rfl ?_
    refine wpL_done (fun W40 hW40 => ?_)
    clear hW39
    refine (show Code.wp _ _ _ _ _ from ?_)
    refine wp_seq ?_
    refine wp_region_L (W0 := Wj) [(g2, .cells #[.int .i64 2, .int .i64 2, .int .i64 2, .int .i64 2, .int .i64 2, .int .i64 2, .int .i64 2] 36 (0, 0))] (hW40) ?_
    refine lm (v := .bool false) rfl rfl ?_
    refine wpL_done (fun W41 hW41 => ?_)
    clear hW40
    refine (show Code.wp _ _ _ _ _ from ?_)
    refine wp_seq ?_
    refine wp_cond_false rfl ?_
    refine wp_exit ?_
    refine (show Code.wp _ _ _ _ _ from ?_)
    refine wp_seq ?_
    refine wp_region_L (W0 := Wj) [(g2, .cells #[.int .i64 2, .int .i64 2, .int .i64 2, .int .i64 2, .int .i64 2, .int .i64 2, .int .i64 2] 36 (0, 0))] (hW41) ?_
    refine lm (v := .agg #[.int .i64 5, .int .i64 100, .int .i64 2, .int .i64 20, .int .i64 20]) rfl rfl ?_
    refine wpL_new (fun g => .pointer (some ⟨g, 0, none⟩)) (obi := .cells #[.int .i64 0, .int .i64 0, .int .i64 0, .int .i64 0, .int .i64 0] 28 (0, 0)) rfl rfl (fun _ => by kernel_rfl) (fun _ => by simp only [List.setIfInBounds_toArray, List.set_cons_succ, List.set_cons_zero] <;> rfl) fun g3 Bg3 Fg3 => ?_
    try simp only [List.forall_mem_cons] at Fg3
    refine wpL_s [(g3, .cells #[.int .i64 5, .int .i64 100, .int .i64 2, .int .i64 20, .int .i64 20] 28 (0, 0)), (g2, .cells #[.int .i64 2, .int .i64 2, .int .i64 2, .int .i64 2, .int .i64 2, .int .i64 2, .int .i64 2] 36 (0, 0))] rfl rfl (st_row (v := .agg #[.int .i64 5, .int .i64 100, .int .i64 2, .int .i64 20, .int .i64 20]) (off := 0) rfl (by kernel_rfl) (by kernel_rfl) (.head _) (by omega) (by rw [size_tide]; rfl) (by simp [Value.cells]) (List.all_eq_true.1 (by kernel_rfl)) rfl (List.forall_mem_cons.2 ⟨.inl rfl, (List.forall_mem_cons.2 ⟨.inr ⟨(.tail _ (.head _)), Fg3.1⟩, (List.forall_mem_nil _)⟩)⟩)) ?_
    refine wpL_done (fun W42 hW42 => ?_)
    clear hW41
    refine (show Code.wp _ _ _ _ _ from ?_)
    refine wp_seq ?_
    refine wp_region_L (W0 := Wj) [(g3, .cells #[.int .i64 5, .int .i64 100, .int .i64 2, .int .i64 20, .int .i64 20] 28 (0, 0)), (g2, .cells #[.int .i64 2, .int .i64 2, .int .i64 2, .int .i64 2, .int .i64 2, .int .i64 2, .int .i64 2] 36 (0, 0))] (hW42) ?_
    refine lm (v := .agg #[.int .i64 (-1), .int .i64 100, .int .i64 2, .int .i64 1, .int .i64 0]) rfl rfl ?_
    refine lm (v := .agg #[.int .i64 5, .int .i64 100, .int .i64 0, .int .i64 1, .int .i64 0]) rfl rfl ?_
    refine lm (v := .agg #[.int .i64 5, .int .i64 100, .int .i64 1001, .int .i64 1, .int .i64 0]) rfl rfl ?_
    refine lm (v := .agg #[.int .i64 0, .int .i64 100, .int .i64 2, .int .i64 0, .int .i64 0]) rfl rfl ?_
    refine lm (v := .agg #[.int .i64 0, .int .i64 100, .int .i64 2, .int .i64 25, .int .i64 25]) rfl rfl ?_
    refine lm (v := .agg #[.int .i64 0, .int .i64 100, .int .i64 2, .int .i64 (-1), .int .i64 9]) rfl rfl ?_
    refine lm (v := .agg #[.int .i64 0, .int .i64 40321, .int .i64 2, .int .i64 0, .int .i64 3]) rfl rfl ?_
    refine lm (v := .agg #[.int .i64 100000001, .int .i64 100, .int .i64 2, .int .i64 0, .int .i64 3]) rfl rfl ?_
    refine wpL_new (fun g => .slice (some ⟨g, 0, none⟩) 8 8) (obi := .cells #[.int .i64 (-1), .int .i64 100, .int .i64 2, .int .i64 1, .int .i64 0, .int .i64 5, .int .i64 100, .int .i64 0, .int .i64 1, .int .i64 0, .int .i64 5, .int .i64 100, .int .i64 1001, .int .i64 1, .int .i64 0, .int .i64 0, .int .i64 100, .int .i64 2, .int .i64 0, .int .i64 0, .int .i64 0, .int .i64 100, .int .i64 2, .int .i64 25, .int .i64 25, .int .i64 0, .int .i64 100, .int .i64 2, .int .i64 (-1), .int .i64 9, .int .i64 0, .int .i64 40321, .int .i64 2, .int .i64 0, .int .i64 3, .int .i64 100000001, .int .i64 100, .int .i64 2, .int .i64 0, .int .i64 3] 28 (0, 0)) rfl rfl (fun _ => by kernel_rfl) (fun _ => by simp only [List.setIfInBounds_toArray, List.set_cons_succ, List.set_cons_zero] <;> rfl) fun g4 Bg4 Fg4 => ?_
    try simp only [List.forall_mem_cons] at Fg4
    refine lm (v := .slice (some ⟨g4, 0, none⟩) 8 8) rfl rfl ?_
    refine wpL_done (fun W43 hW43 => ?_)
    clear hW42
    refine (show Code.wp _ _ _ _ _ from ?_)
    refine wp_joins (JoinTide (fun z g => List.toArray (z 0 :: z 1 :: z 2 :: z 3 :: z 4 :: z 5 :: z 6 :: z 7 :: z 8 :: z 9 :: z 10 :: z 11 :: z 12 :: z 13 :: z 14 :: z 15 :: z 16 :: z 17 :: z 18 :: z 19 :: z 20 :: z 21 :: z 22 :: z 23 :: z 24 :: (.pointer (some ⟨g3, 0, none⟩)) :: z 26 :: .pointer (some ⟨g, 0, none⟩) :: z 28 :: z 29 :: z 30 :: z 31 :: z 32 :: z 33 :: z 34 :: z 35 :: z 36 :: z 37 :: z 38 :: z 39 :: z 40 :: z 41 :: z 42 :: z 43 :: z 44 :: z 45 :: z 46 :: z 47 :: z 48 :: z 49 :: z 50 :: z 51 :: z 52 :: z 53 :: z 54 :: z 55 :: z 56 :: z 57 :: z 58 :: z 59 :: z 60 :: z 61 :: z 62 :: z 63 :: z 64 :: z 65 :: z 66 :: z 67 :: z 68 :: z 69 :: z 70 :: z 71 :: z 72 :: z 73 :: z 74 :: z 75 :: z 76 :: z 77 :: z 78 :: z 79 :: z 80 :: z 81 :: z 82 :: z 83 :: z 84 :: z 85 :: z 86 :: z 87 :: z 88 :: z 89 :: z 90 :: z 91 :: z 92 :: z 93 :: z 94 :: z 95 :: z 96 :: z 97 :: z 98 :: z 99 :: z 100 :: z 101 :: z 102 :: z 103 :: z 104 :: z 105 :: z 106 :: z 107 :: z 108 :: z 109 :: z 110 :: z 111 :: z 112 :: z 113 :: z 114 :: z 115 :: z 116 :: z 117 :: z 118 :: z 119 :: z 120 :: z 121 :: z 122 :: z 123 :: z 124 :: z 125 :: z 126 :: z 127 :: z 128 :: z 129 :: z 130 :: z 131 :: z 132 :: z 133 :: z 134 :: z 135 :: z 136 :: z 137 :: z 138 :: z 139 :: z 140 :: z 141 :: z 142 :: z 143 :: z 144 :: z 145 :: z 146 :: z 147 :: z 148 :: z 149 :: z 150 :: z 151 :: z 152 :: z 153 :: z 154 :: z 155 :: z 156 :: z 157 :: z 158 :: z 159 :: z 160 :: z 161 :: z 162 :: z 163 :: z 164 :: z 165 :: z 166 :: z 167 :: z 168 :: z 169 :: z 170 :: z 171 :: z 172 :: z 173 :: z 174 :: z 175 :: z 176 :: z 177 :: z 178 :: z 179 :: z 180 :: z 181 :: z 182 :: z 183 :: z 184 :: z 185 :: z 186 :: z 187 :: z 188 :: z 189 :: z 190 :: z 191 :: z 192 :: z 193 :: z 194 :: z 195 :: z 196 :: z 197 :: z 198 :: z 199 :: z 200 :: z 201 :: z 202 :: z 203 :: z 204 :: z 205 :: z 206 :: z 207 :: [])) Wj [(g3, .cells #[.int .i64 5, .int .i64 100, .int .i64 2, .int .i64 20, .int .i64 20] 28 (0, 0))]) 1 ?_ ?_
    · rcases (show a1 % 8 = 0 ∨ a1 % 8 = 1 ∨ a1 % 8 = 2 ∨ a1 % 8 = 3 ∨ a1 % 8 = 4 ∨ a1 % 8 = 5 ∨ a1 % 8 = 6 ∨ a1 % 8 = 7 by omega) with h8 | h8 | h8 | h8 | h8 | h8 | h8 | h8
      · refine (show Code.wp _ _ _ _ _ from ?_)
        refine wp_region_L (W0 := Wj) [(g4, .cells #[.int .i64 (-1), .int .i64 100, .int .i64 2, .int .i64 1, .int .i64 0, .int .i64 5, .int .i64 100, .int .i64 0, .int .i64 1, .int .i64 0, .int .i64 5, .int .i64 100, .int .i64 1001, .int .i64 1, .int .i64 0, .int .i64 0, .int .i64 100, .int .i64 2, .int .i64 0, .int .i64 0, .int .i64 0, .int .i64 100, .int .i64 2, .int .i64 25, .int .i64 25, .int .i64 0, .int .i64 100, .int .i64 2, .int .i64 (-1), .int .i64 9, .int .i64 0, .int .i64 40321, .int .i64 2, .int .i64 0, .int .i64 3, .int .i64 100000001, .int .i64 100, .int .i64 2, .int .i64 0, .int .i64 3] 28 (0, 0)), (g3, .cells #[.int .i64 5, .int .i64 100, .int .i64 2, .int .i64 20, .int .i64 20] 28 (0, 0)), (g2, .cells #[.int .i64 2, .int .i64 2, .int .i64 2, .int .i64 2, .int .i64 2, .int .i64 2, .int .i64 2] 36 (0, 0))] (hW43) ?_
        refine lm (v := .slice (some ⟨g4, 0, none⟩) 8 8) rfl rfl ?_
        refine lm (v := .int .u8 a1) rfl rfl ?_
        refine lp (v := .int .i64 a1) rfl rfl (run_cvb rfl (by kernel_rfl) r1) ?_
        refine lm (v := .slice (some ⟨g4, 0, none⟩) 8 8) rfl rfl ?_
        refine lm (v := .int .i64 8) rfl rfl ?_
        refine lp (v := .int .i64 0) rfl rfl (run_bin rfl (vx := .int .i64 a1) (vy := .int .i64 8) (by kernel_rfl) (by kernel_rfl) fun w => run_remI (z := 0) h8 (by omega) (by omega) (by omega) w) ?_
        refine lm (v := .pointer (some ⟨g4, 0, none⟩)) rfl rfl ?_
        refine lv (v := .agg #[.int .i64 (-1), .int .i64 100, .int .i64 2, .int .i64 1, .int .i64 0]) rfl rfl (yb_load (n := 5) (off := 0) rfl (by kernel_rfl) (.head _) Tryd.underlying28 rfl size_tide (by simp) (by kernel_rfl)) ?_
        refine wpL_new (fun g => .pointer (some ⟨g, 0, none⟩)) (obi := .cells #[.int .i64 0, .int .i64 0, .int .i64 0, .int .i64 0, .int .i64 0] 28 (0, 0)) rfl rfl (fun _ => by kernel_rfl) (fun _ => by simp only [List.setIfInBounds_toArray, List.set_cons_succ, List.set_cons_zero] <;> rfl) fun g5 Bg5 Fg5 => ?_
        try simp only [List.forall_mem_cons] at Fg5
        refine wpL_s [(g5, .cells #[.int .i64 (-1), .int .i64 100, .int .i64 2, .int .i64 1, .int .i64 0] 28 (0, 0)), (g4, .cells #[.int .i64 (-1), .int .i64 100, .int .i64 2, .int .i64 1, .int .i64 0, .int .i64 5, .int .i64 100, .int .i64 0, .int .i64 1, .int .i64 0, .int .i64 5, .int .i64 100, .int .i64 1001, .int .i64 1, .int .i64 0, .int .i64 0, .int .i64 100, .int .i64 2, .int .i64 0, .int .i64 0, .int .i64 0, .int .i64 100, .int .i64 2, .int .i64 25, .int .i64 25, .int .i64 0, .int .i64 100, .int .i64 2, .int .i64 (-1), .int .i64 9, .int .i64 0, .int .i64 40321, .int .i64 2, .int .i64 0, .int .i64 3, .int .i64 100000001, .int .i64 100, .int .i64 2, .int .i64 0, .int .i64 3] 28 (0, 0)), (g3, .cells #[.int .i64 5, .int .i64 100, .int .i64 2, .int .i64 20, .int .i64 20] 28 (0, 0)), (g2, .cells #[.int .i64 2, .int .i64 2, .int .i64 2, .int .i64 2, .int .i64 2, .int .i64 2, .int .i64 2] 36 (0, 0))] rfl rfl (st_row (v := .agg #[.int .i64 (-1), .int .i64 100, .int .i64 2, .int .i64 1, .int .i64 0]) (off := 0) rfl (by kernel_rfl) (by kernel_rfl) (.head _) (by omega) (by rw [size_tide]; rfl) (by simp [Value.cells]) (List.all_eq_true.1 (by kernel_rfl)) rfl (List.forall_mem_cons.2 ⟨.inl rfl, (List.forall_mem_cons.2 ⟨.inr ⟨(.tail _ (.head _)), Fg5.1⟩, (List.forall_mem_cons.2 ⟨.inr ⟨(.tail _ (.tail _ (.head _))), Fg5.2.1⟩, (List.forall_mem_cons.2 ⟨.inr ⟨(.tail _ (.tail _ (.tail _ (.head _)))), Fg5.2.2.1⟩, (List.forall_mem_nil _)⟩)⟩)⟩)⟩)) ?_
        refine wpL_done (fun W44 hW44 => ?_)
        clear hW43
        exact joinTide_mk (g := g5) (f := -1) (n := 100) (d := 2) (b := 1) (e := 0) (by decide +kernel) (by omega) (hW44.sub (fun _ hp => (by rcases List.mem_cons.1 hp with rfl | hp; exact (.head _); rw [List.mem_singleton.1 hp]; exact (.tail _ (.tail _ (.head _)))))) (by kernel_rfl)
      · refine (show Code.wp _ _ _ _ _ from ?_)
        refine wp_region_L (W0 := Wj) [(g4, .cells #[.int .i64 (-1), .int .i64 100, .int .i64 2, .int .i64 1, .int .i64 0, .int .i64 5, .int .i64 100, .int .i64 0, .int .i64 1, .int .i64 0, .int .i64 5, .int .i64 100, .int .i64 1001, .int .i64 1, .int .i64 0, .int .i64 0, .int .i64 100, .int .i64 2, .int .i64 0, .int .i64 0, .int .i64 0, .int .i64 100, .int .i64 2, .int .i64 25, .int .i64 25, .int .i64 0, .int .i64 100, .int .i64 2, .int .i64 (-1), .int .i64 9, .int .i64 0, .int .i64 40321, .int .i64 2, .int .i64 0, .int .i64 3, .int .i64 100000001, .int .i64 100, .int .i64 2, .int .i64 0, .int .i64 3] 28 (0, 0)), (g3, .cells #[.int .i64 5, .int .i64 100, .int .i64 2, .int .i64 20, .int .i64 20] 28 (0, 0)), (g2, .cells #[.int .i64 2, .int .i64 2, .int .i64 2, .int .i64 2, .int .i64 2, .int .i64 2, .int .i64 2] 36 (0, 0))] (hW43) ?_
        refine lm (v := .slice (some ⟨g4, 0, none⟩) 8 8) rfl rfl ?_
        refine lm (v := .int .u8 a1) rfl rfl ?_
        refine lp (v := .int .i64 a1) rfl rfl (run_cvb rfl (by kernel_rfl) r1) ?_
        refine lm (v := .slice (some ⟨g4, 0, none⟩) 8 8) rfl rfl ?_
        refine lm (v := .int .i64 8) rfl rfl ?_
        refine lp (v := .int .i64 1) rfl rfl (run_bin rfl (vx := .int .i64 a1) (vy := .int .i64 8) (by kernel_rfl) (by kernel_rfl) fun w => run_remI (z := 1) h8 (by omega) (by omega) (by omega) w) ?_
        refine lm (v := .pointer (some ⟨g4, 5, none⟩)) rfl rfl ?_
        refine lv (v := .agg #[.int .i64 5, .int .i64 100, .int .i64 0, .int .i64 1, .int .i64 0]) rfl rfl (yb_load (n := 5) (off := 5) rfl (by kernel_rfl) (.head _) Tryd.underlying28 rfl size_tide (by simp) (by kernel_rfl)) ?_
        refine wpL_new (fun g => .pointer (some ⟨g, 0, none⟩)) (obi := .cells #[.int .i64 0, .int .i64 0, .int .i64 0, .int .i64 0, .int .i64 0] 28 (0, 0)) rfl rfl (fun _ => by kernel_rfl) (fun _ => by simp only [List.setIfInBounds_toArray, List.set_cons_succ, List.set_cons_zero] <;> rfl) fun g5 Bg5 Fg5 => ?_
        try simp only [List.forall_mem_cons] at Fg5
        refine wpL_s [(g5, .cells #[.int .i64 5, .int .i64 100, .int .i64 0, .int .i64 1, .int .i64 0] 28 (0, 0)), (g4, .cells #[.int .i64 (-1), .int .i64 100, .int .i64 2, .int .i64 1, .int .i64 0, .int .i64 5, .int .i64 100, .int .i64 0, .int .i64 1, .int .i64 0, .int .i64 5, .int .i64 100, .int .i64 1001, .int .i64 1, .int .i64 0, .int .i64 0, .int .i64 100, .int .i64 2, .int .i64 0, .int .i64 0, .int .i64 0, .int .i64 100, .int .i64 2, .int .i64 25, .int .i64 25, .int .i64 0, .int .i64 100, .int .i64 2, .int .i64 (-1), .int .i64 9, .int .i64 0, .int .i64 40321, .int .i64 2, .int .i64 0, .int .i64 3, .int .i64 100000001, .int .i64 100, .int .i64 2, .int .i64 0, .int .i64 3] 28 (0, 0)), (g3, .cells #[.int .i64 5, .int .i64 100, .int .i64 2, .int .i64 20, .int .i64 20] 28 (0, 0)), (g2, .cells #[.int .i64 2, .int .i64 2, .int .i64 2, .int .i64 2, .int .i64 2, .int .i64 2, .int .i64 2] 36 (0, 0))] rfl rfl (st_row (v := .agg #[.int .i64 5, .int .i64 100, .int .i64 0, .int .i64 1, .int .i64 0]) (off := 0) rfl (by kernel_rfl) (by kernel_rfl) (.head _) (by omega) (by rw [size_tide]; rfl) (by simp [Value.cells]) (List.all_eq_true.1 (by kernel_rfl)) rfl (List.forall_mem_cons.2 ⟨.inl rfl, (List.forall_mem_cons.2 ⟨.inr ⟨(.tail _ (.head _)), Fg5.1⟩, (List.forall_mem_cons.2 ⟨.inr ⟨(.tail _ (.tail _ (.head _))), Fg5.2.1⟩, (List.forall_mem_cons.2 ⟨.inr ⟨(.tail _ (.tail _ (.tail _ (.head _)))), Fg5.2.2.1⟩, (List.forall_mem_nil _)⟩)⟩)⟩)⟩)) ?_
        refine wpL_done (fun W44 hW44 => ?_)
        clear hW43
        exact joinTide_mk (g := g5) (f := 5) (n := 100) (d := 0) (b := 1) (e := 0) (by decide +kernel) (by omega) (hW44.sub (fun _ hp => (by rcases List.mem_cons.1 hp with rfl | hp; exact (.head _); rw [List.mem_singleton.1 hp]; exact (.tail _ (.tail _ (.head _)))))) (by kernel_rfl)
      · refine (show Code.wp _ _ _ _ _ from ?_)
        refine wp_region_L (W0 := Wj) [(g4, .cells #[.int .i64 (-1), .int .i64 100, .int .i64 2, .int .i64 1, .int .i64 0, .int .i64 5, .int .i64 100, .int .i64 0, .int .i64 1, .int .i64 0, .int .i64 5, .int .i64 100, .int .i64 1001, .int .i64 1, .int .i64 0, .int .i64 0, .int .i64 100, .int .i64 2, .int .i64 0, .int .i64 0, .int .i64 0, .int .i64 100, .int .i64 2, .int .i64 25, .int .i64 25, .int .i64 0, .int .i64 100, .int .i64 2, .int .i64 (-1), .int .i64 9, .int .i64 0, .int .i64 40321, .int .i64 2, .int .i64 0, .int .i64 3, .int .i64 100000001, .int .i64 100, .int .i64 2, .int .i64 0, .int .i64 3] 28 (0, 0)), (g3, .cells #[.int .i64 5, .int .i64 100, .int .i64 2, .int .i64 20, .int .i64 20] 28 (0, 0)), (g2, .cells #[.int .i64 2, .int .i64 2, .int .i64 2, .int .i64 2, .int .i64 2, .int .i64 2, .int .i64 2] 36 (0, 0))] (hW43) ?_
        refine lm (v := .slice (some ⟨g4, 0, none⟩) 8 8) rfl rfl ?_
        refine lm (v := .int .u8 a1) rfl rfl ?_
        refine lp (v := .int .i64 a1) rfl rfl (run_cvb rfl (by kernel_rfl) r1) ?_
        refine lm (v := .slice (some ⟨g4, 0, none⟩) 8 8) rfl rfl ?_
        refine lm (v := .int .i64 8) rfl rfl ?_
        refine lp (v := .int .i64 2) rfl rfl (run_bin rfl (vx := .int .i64 a1) (vy := .int .i64 8) (by kernel_rfl) (by kernel_rfl) fun w => run_remI (z := 2) h8 (by omega) (by omega) (by omega) w) ?_
        refine lm (v := .pointer (some ⟨g4, 10, none⟩)) rfl rfl ?_
        refine lv (v := .agg #[.int .i64 5, .int .i64 100, .int .i64 1001, .int .i64 1, .int .i64 0]) rfl rfl (yb_load (n := 5) (off := 10) rfl (by kernel_rfl) (.head _) Tryd.underlying28 rfl size_tide (by simp) (by kernel_rfl)) ?_
        refine wpL_new (fun g => .pointer (some ⟨g, 0, none⟩)) (obi := .cells #[.int .i64 0, .int .i64 0, .int .i64 0, .int .i64 0, .int .i64 0] 28 (0, 0)) rfl rfl (fun _ => by kernel_rfl) (fun _ => by simp only [List.setIfInBounds_toArray, List.set_cons_succ, List.set_cons_zero] <;> rfl) fun g5 Bg5 Fg5 => ?_
        try simp only [List.forall_mem_cons] at Fg5
        refine wpL_s [(g5, .cells #[.int .i64 5, .int .i64 100, .int .i64 1001, .int .i64 1, .int .i64 0] 28 (0, 0)), (g4, .cells #[.int .i64 (-1), .int .i64 100, .int .i64 2, .int .i64 1, .int .i64 0, .int .i64 5, .int .i64 100, .int .i64 0, .int .i64 1, .int .i64 0, .int .i64 5, .int .i64 100, .int .i64 1001, .int .i64 1, .int .i64 0, .int .i64 0, .int .i64 100, .int .i64 2, .int .i64 0, .int .i64 0, .int .i64 0, .int .i64 100, .int .i64 2, .int .i64 25, .int .i64 25, .int .i64 0, .int .i64 100, .int .i64 2, .int .i64 (-1), .int .i64 9, .int .i64 0, .int .i64 40321, .int .i64 2, .int .i64 0, .int .i64 3, .int .i64 100000001, .int .i64 100, .int .i64 2, .int .i64 0, .int .i64 3] 28 (0, 0)), (g3, .cells #[.int .i64 5, .int .i64 100, .int .i64 2, .int .i64 20, .int .i64 20] 28 (0, 0)), (g2, .cells #[.int .i64 2, .int .i64 2, .int .i64 2, .int .i64 2, .int .i64 2, .int .i64 2, .int .i64 2] 36 (0, 0))] rfl rfl (st_row (v := .agg #[.int .i64 5, .int .i64 100, .int .i64 1001, .int .i64 1, .int .i64 0]) (off := 0) rfl (by kernel_rfl) (by kernel_rfl) (.head _) (by omega) (by rw [size_tide]; rfl) (by simp [Value.cells]) (List.all_eq_true.1 (by kernel_rfl)) rfl (List.forall_mem_cons.2 ⟨.inl rfl, (List.forall_mem_cons.2 ⟨.inr ⟨(.tail _ (.head _)), Fg5.1⟩, (List.forall_mem_cons.2 ⟨.inr ⟨(.tail _ (.tail _ (.head _))), Fg5.2.1⟩, (List.forall_mem_cons.2 ⟨.inr ⟨(.tail _ (.tail _ (.tail _ (.head _)))), Fg5.2.2.1⟩, (List.forall_mem_nil _)⟩)⟩)⟩)⟩)) ?_
        refine wpL_done (fun W44 hW44 => ?_)
        clear hW43
        exact joinTide_mk (g := g5) (f := 5) (n := 100) (d := 1001) (b := 1) (e := 0) (by decide +kernel) (by omega) (hW44.sub (fun _ hp => (by rcases List.mem_cons.1 hp with rfl | hp; exact (.head _); rw [List.mem_singleton.1 hp]; exact (.tail _ (.tail _ (.head _)))))) (by kernel_rfl)
      · refine (show Code.wp _ _ _ _ _ from ?_)
        refine wp_region_L (W0 := Wj) [(g4, .cells #[.int .i64 (-1), .int .i64 100, .int .i64 2, .int .i64 1, .int .i64 0, .int .i64 5, .int .i64 100, .int .i64 0, .int .i64 1, .int .i64 0, .int .i64 5, .int .i64 100, .int .i64 1001, .int .i64 1, .int .i64 0, .int .i64 0, .int .i64 100, .int .i64 2, .int .i64 0, .int .i64 0, .int .i64 0, .int .i64 100, .int .i64 2, .int .i64 25, .int .i64 25, .int .i64 0, .int .i64 100, .int .i64 2, .int .i64 (-1), .int .i64 9, .int .i64 0, .int .i64 40321, .int .i64 2, .int .i64 0, .int .i64 3, .int .i64 100000001, .int .i64 100, .int .i64 2, .int .i64 0, .int .i64 3] 28 (0, 0)), (g3, .cells #[.int .i64 5, .int .i64 100, .int .i64 2, .int .i64 20, .int .i64 20] 28 (0, 0)), (g2, .cells #[.int .i64 2, .int .i64 2, .int .i64 2, .int .i64 2, .int .i64 2, .int .i64 2, .int .i64 2] 36 (0, 0))] (hW43) ?_
        refine lm (v := .slice (some ⟨g4, 0, none⟩) 8 8) rfl rfl ?_
        refine lm (v := .int .u8 a1) rfl rfl ?_
        refine lp (v := .int .i64 a1) rfl rfl (run_cvb rfl (by kernel_rfl) r1) ?_
        refine lm (v := .slice (some ⟨g4, 0, none⟩) 8 8) rfl rfl ?_
        refine lm (v := .int .i64 8) rfl rfl ?_
        refine lp (v := .int .i64 3) rfl rfl (run_bin rfl (vx := .int .i64 a1) (vy := .int .i64 8) (by kernel_rfl) (by kernel_rfl) fun w => run_remI (z := 3) h8 (by omega) (by omega) (by omega) w) ?_
        refine lm (v := .pointer (some ⟨g4, 15, none⟩)) rfl rfl ?_
        refine lv (v := .agg #[.int .i64 0, .int .i64 100, .int .i64 2, .int .i64 0, .int .i64 0]) rfl rfl (yb_load (n := 5) (off := 15) rfl (by kernel_rfl) (.head _) Tryd.underlying28 rfl size_tide (by simp) (by kernel_rfl)) ?_
        refine wpL_new (fun g => .pointer (some ⟨g, 0, none⟩)) (obi := .cells #[.int .i64 0, .int .i64 0, .int .i64 0, .int .i64 0, .int .i64 0] 28 (0, 0)) rfl rfl (fun _ => by kernel_rfl) (fun _ => by simp only [List.setIfInBounds_toArray, List.set_cons_succ, List.set_cons_zero] <;> rfl) fun g5 Bg5 Fg5 => ?_
        try simp only [List.forall_mem_cons] at Fg5
        refine wpL_s [(g5, .cells #[.int .i64 0, .int .i64 100, .int .i64 2, .int .i64 0, .int .i64 0] 28 (0, 0)), (g4, .cells #[.int .i64 (-1), .int .i64 100, .int .i64 2, .int .i64 1, .int .i64 0, .int .i64 5, .int .i64 100, .int .i64 0, .int .i64 1, .int .i64 0, .int .i64 5, .int .i64 100, .int .i64 1001, .int .i64 1, .int .i64 0, .int .i64 0, .int .i64 100, .int .i64 2, .int .i64 0, .int .i64 0, .int .i64 0, .int .i64 100, .int .i64 2, .int .i64 25, .int .i64 25, .int .i64 0, .int .i64 100, .int .i64 2, .int .i64 (-1), .int .i64 9, .int .i64 0, .int .i64 40321, .int .i64 2, .int .i64 0, .int .i64 3, .int .i64 100000001, .int .i64 100, .int .i64 2, .int .i64 0, .int .i64 3] 28 (0, 0)), (g3, .cells #[.int .i64 5, .int .i64 100, .int .i64 2, .int .i64 20, .int .i64 20] 28 (0, 0)), (g2, .cells #[.int .i64 2, .int .i64 2, .int .i64 2, .int .i64 2, .int .i64 2, .int .i64 2, .int .i64 2] 36 (0, 0))] rfl rfl (st_row (v := .agg #[.int .i64 0, .int .i64 100, .int .i64 2, .int .i64 0, .int .i64 0]) (off := 0) rfl (by kernel_rfl) (by kernel_rfl) (.head _) (by omega) (by rw [size_tide]; rfl) (by simp [Value.cells]) (List.all_eq_true.1 (by kernel_rfl)) rfl (List.forall_mem_cons.2 ⟨.inl rfl, (List.forall_mem_cons.2 ⟨.inr ⟨(.tail _ (.head _)), Fg5.1⟩, (List.forall_mem_cons.2 ⟨.inr ⟨(.tail _ (.tail _ (.head _))), Fg5.2.1⟩, (List.forall_mem_cons.2 ⟨.inr ⟨(.tail _ (.tail _ (.tail _ (.head _)))), Fg5.2.2.1⟩, (List.forall_mem_nil _)⟩)⟩)⟩)⟩)) ?_
        refine wpL_done (fun W44 hW44 => ?_)
        clear hW43
        exact joinTide_mk (g := g5) (f := 0) (n := 100) (d := 2) (b := 0) (e := 0) (by decide +kernel) (by omega) (hW44.sub (fun _ hp => (by rcases List.mem_cons.1 hp with rfl | hp; exact (.head _); rw [List.mem_singleton.1 hp]; exact (.tail _ (.tail _ (.head _)))))) (by kernel_rfl)
      · refine (show Code.wp _ _ _ _ _ from ?_)
        refine wp_region_L (W0 := Wj) [(g4, .cells #[.int .i64 (-1), .int .i64 100, .int .i64 2, .int .i64 1, .int .i64 0, .int .i64 5, .int .i64 100, .int .i64 0, .int .i64 1, .int .i64 0, .int .i64 5, .int .i64 100, .int .i64 1001, .int .i64 1, .int .i64 0, .int .i64 0, .int .i64 100, .int .i64 2, .int .i64 0, .int .i64 0, .int .i64 0, .int .i64 100, .int .i64 2, .int .i64 25, .int .i64 25, .int .i64 0, .int .i64 100, .int .i64 2, .int .i64 (-1), .int .i64 9, .int .i64 0, .int .i64 40321, .int .i64 2, .int .i64 0, .int .i64 3, .int .i64 100000001, .int .i64 100, .int .i64 2, .int .i64 0, .int .i64 3] 28 (0, 0)), (g3, .cells #[.int .i64 5, .int .i64 100, .int .i64 2, .int .i64 20, .int .i64 20] 28 (0, 0)), (g2, .cells #[.int .i64 2, .int .i64 2, .int .i64 2, .int .i64 2, .int .i64 2, .int .i64 2, .int .i64 2] 36 (0, 0))] (hW43) ?_
        refine lm (v := .slice (some ⟨g4, 0, none⟩) 8 8) rfl rfl ?_
        refine lm (v := .int .u8 a1) rfl rfl ?_
        refine lp (v := .int .i64 a1) rfl rfl (run_cvb rfl (by kernel_rfl) r1) ?_
        refine lm (v := .slice (some ⟨g4, 0, none⟩) 8 8) rfl rfl ?_
        refine lm (v := .int .i64 8) rfl rfl ?_
        refine lp (v := .int .i64 4) rfl rfl (run_bin rfl (vx := .int .i64 a1) (vy := .int .i64 8) (by kernel_rfl) (by kernel_rfl) fun w => run_remI (z := 4) h8 (by omega) (by omega) (by omega) w) ?_
        refine lm (v := .pointer (some ⟨g4, 20, none⟩)) rfl rfl ?_
        refine lv (v := .agg #[.int .i64 0, .int .i64 100, .int .i64 2, .int .i64 25, .int .i64 25]) rfl rfl (yb_load (n := 5) (off := 20) rfl (by kernel_rfl) (.head _) Tryd.underlying28 rfl size_tide (by simp) (by kernel_rfl)) ?_
        refine wpL_new (fun g => .pointer (some ⟨g, 0, none⟩)) (obi := .cells #[.int .i64 0, .int .i64 0, .int .i64 0, .int .i64 0, .int .i64 0] 28 (0, 0)) rfl rfl (fun _ => by kernel_rfl) (fun _ => by simp only [List.setIfInBounds_toArray, List.set_cons_succ, List.set_cons_zero] <;> rfl) fun g5 Bg5 Fg5 => ?_
        try simp only [List.forall_mem_cons] at Fg5
        refine wpL_s [(g5, .cells #[.int .i64 0, .int .i64 100, .int .i64 2, .int .i64 25, .int .i64 25] 28 (0, 0)), (g4, .cells #[.int .i64 (-1), .int .i64 100, .int .i64 2, .int .i64 1, .int .i64 0, .int .i64 5, .int .i64 100, .int .i64 0, .int .i64 1, .int .i64 0, .int .i64 5, .int .i64 100, .int .i64 1001, .int .i64 1, .int .i64 0, .int .i64 0, .int .i64 100, .int .i64 2, .int .i64 0, .int .i64 0, .int .i64 0, .int .i64 100, .int .i64 2, .int .i64 25, .int .i64 25, .int .i64 0, .int .i64 100, .int .i64 2, .int .i64 (-1), .int .i64 9, .int .i64 0, .int .i64 40321, .int .i64 2, .int .i64 0, .int .i64 3, .int .i64 100000001, .int .i64 100, .int .i64 2, .int .i64 0, .int .i64 3] 28 (0, 0)), (g3, .cells #[.int .i64 5, .int .i64 100, .int .i64 2, .int .i64 20, .int .i64 20] 28 (0, 0)), (g2, .cells #[.int .i64 2, .int .i64 2, .int .i64 2, .int .i64 2, .int .i64 2, .int .i64 2, .int .i64 2] 36 (0, 0))] rfl rfl (st_row (v := .agg #[.int .i64 0, .int .i64 100, .int .i64 2, .int .i64 25, .int .i64 25]) (off := 0) rfl (by kernel_rfl) (by kernel_rfl) (.head _) (by omega) (by rw [size_tide]; rfl) (by simp [Value.cells]) (List.all_eq_true.1 (by kernel_rfl)) rfl (List.forall_mem_cons.2 ⟨.inl rfl, (List.forall_mem_cons.2 ⟨.inr ⟨(.tail _ (.head _)), Fg5.1⟩, (List.forall_mem_cons.2 ⟨.inr ⟨(.tail _ (.tail _ (.head _))), Fg5.2.1⟩, (List.forall_mem_cons.2 ⟨.inr ⟨(.tail _ (.tail _ (.tail _ (.head _)))), Fg5.2.2.1⟩, (List.forall_mem_nil _)⟩)⟩)⟩)⟩)) ?_
        refine wpL_done (fun W44 hW44 => ?_)
        clear hW43
        exact joinTide_mk (g := g5) (f := 0) (n := 100) (d := 2) (b := 25) (e := 25) (by decide +kernel) (by omega) (hW44.sub (fun _ hp => (by rcases List.mem_cons.1 hp with rfl | hp; exact (.head _); rw [List.mem_singleton.1 hp]; exact (.tail _ (.tail _ (.head _)))))) (by kernel_rfl)
      · refine (show Code.wp _ _ _ _ _ from ?_)
        refine wp_region_L (W0 := Wj) [(g4, .cells #[.int .i64 (-1), .int .i64 100, .int .i64 2, .int .i64 1, .int .i64 0, .int .i64 5, .int .i64 100, .int .i64 0, .int .i64 1, .int .i64 0, .int .i64 5, .int .i64 100, .int .i64 1001, .int .i64 1, .int .i64 0, .int .i64 0, .int .i64 100, .int .i64 2, .int .i64 0, .int .i64 0, .int .i64 0, .int .i64 100, .int .i64 2, .int .i64 25, .int .i64 25, .int .i64 0, .int .i64 100, .int .i64 2, .int .i64 (-1), .int .i64 9, .int .i64 0, .int .i64 40321, .int .i64 2, .int .i64 0, .int .i64 3, .int .i64 100000001, .int .i64 100, .int .i64 2, .int .i64 0, .int .i64 3] 28 (0, 0)), (g3, .cells #[.int .i64 5, .int .i64 100, .int .i64 2, .int .i64 20, .int .i64 20] 28 (0, 0)), (g2, .cells #[.int .i64 2, .int .i64 2, .int .i64 2, .int .i64 2, .int .i64 2, .int .i64 2, .int .i64 2] 36 (0, 0))] (hW43) ?_
        refine lm (v := .slice (some ⟨g4, 0, none⟩) 8 8) rfl rfl ?_
        refine lm (v := .int .u8 a1) rfl rfl ?_
        refine lp (v := .int .i64 a1) rfl rfl (run_cvb rfl (by kernel_rfl) r1) ?_
        refine lm (v := .slice (some ⟨g4, 0, none⟩) 8 8) rfl rfl ?_
        refine lm (v := .int .i64 8) rfl rfl ?_
        refine lp (v := .int .i64 5) rfl rfl (run_bin rfl (vx := .int .i64 a1) (vy := .int .i64 8) (by kernel_rfl) (by kernel_rfl) fun w => run_remI (z := 5) h8 (by omega) (by omega) (by omega) w) ?_
        refine lm (v := .pointer (some ⟨g4, 25, none⟩)) rfl rfl ?_
        refine lv (v := .agg #[.int .i64 0, .int .i64 100, .int .i64 2, .int .i64 (-1), .int .i64 9]) rfl rfl (yb_load (n := 5) (off := 25) rfl (by kernel_rfl) (.head _) Tryd.underlying28 rfl size_tide (by simp) (by kernel_rfl)) ?_
        refine wpL_new (fun g => .pointer (some ⟨g, 0, none⟩)) (obi := .cells #[.int .i64 0, .int .i64 0, .int .i64 0, .int .i64 0, .int .i64 0] 28 (0, 0)) rfl rfl (fun _ => by kernel_rfl) (fun _ => by simp only [List.setIfInBounds_toArray, List.set_cons_succ, List.set_cons_zero] <;> rfl) fun g5 Bg5 Fg5 => ?_
        try simp only [List.forall_mem_cons] at Fg5
        refine wpL_s [(g5, .cells #[.int .i64 0, .int .i64 100, .int .i64 2, .int .i64 (-1), .int .i64 9] 28 (0, 0)), (g4, .cells #[.int .i64 (-1), .int .i64 100, .int .i64 2, .int .i64 1, .int .i64 0, .int .i64 5, .int .i64 100, .int .i64 0, .int .i64 1, .int .i64 0, .int .i64 5, .int .i64 100, .int .i64 1001, .int .i64 1, .int .i64 0, .int .i64 0, .int .i64 100, .int .i64 2, .int .i64 0, .int .i64 0, .int .i64 0, .int .i64 100, .int .i64 2, .int .i64 25, .int .i64 25, .int .i64 0, .int .i64 100, .int .i64 2, .int .i64 (-1), .int .i64 9, .int .i64 0, .int .i64 40321, .int .i64 2, .int .i64 0, .int .i64 3, .int .i64 100000001, .int .i64 100, .int .i64 2, .int .i64 0, .int .i64 3] 28 (0, 0)), (g3, .cells #[.int .i64 5, .int .i64 100, .int .i64 2, .int .i64 20, .int .i64 20] 28 (0, 0)), (g2, .cells #[.int .i64 2, .int .i64 2, .int .i64 2, .int .i64 2, .int .i64 2, .int .i64 2, .int .i64 2] 36 (0, 0))] rfl rfl (st_row (v := .agg #[.int .i64 0, .int .i64 100, .int .i64 2, .int .i64 (-1), .int .i64 9]) (off := 0) rfl (by kernel_rfl) (by kernel_rfl) (.head _) (by omega) (by rw [size_tide]; rfl) (by simp [Value.cells]) (List.all_eq_true.1 (by kernel_rfl)) rfl (List.forall_mem_cons.2 ⟨.inl rfl, (List.forall_mem_cons.2 ⟨.inr ⟨(.tail _ (.head _)), Fg5.1⟩, (List.forall_mem_cons.2 ⟨.inr ⟨(.tail _ (.tail _ (.head _))), Fg5.2.1⟩, (List.forall_mem_cons.2 ⟨.inr ⟨(.tail _ (.tail _ (.tail _ (.head _)))), Fg5.2.2.1⟩, (List.forall_mem_nil _)⟩)⟩)⟩)⟩)) ?_
        refine wpL_done (fun W44 hW44 => ?_)
        clear hW43
        exact joinTide_mk (g := g5) (f := 0) (n := 100) (d := 2) (b := -1) (e := 9) (by decide +kernel) (by omega) (hW44.sub (fun _ hp => (by rcases List.mem_cons.1 hp with rfl | hp; exact (.head _); rw [List.mem_singleton.1 hp]; exact (.tail _ (.tail _ (.head _)))))) (by kernel_rfl)
      · refine (show Code.wp _ _ _ _ _ from ?_)
        refine wp_region_L (W0 := Wj) [(g4, .cells #[.int .i64 (-1), .int .i64 100, .int .i64 2, .int .i64 1, .int .i64 0, .int .i64 5, .int .i64 100, .int .i64 0, .int .i64 1, .int .i64 0, .int .i64 5, .int .i64 100, .int .i64 1001, .int .i64 1, .int .i64 0, .int .i64 0, .int .i64 100, .int .i64 2, .int .i64 0, .int .i64 0, .int .i64 0, .int .i64 100, .int .i64 2, .int .i64 25, .int .i64 25, .int .i64 0, .int .i64 100, .int .i64 2, .int .i64 (-1), .int .i64 9, .int .i64 0, .int .i64 40321, .int .i64 2, .int .i64 0, .int .i64 3, .int .i64 100000001, .int .i64 100, .int .i64 2, .int .i64 0, .int .i64 3] 28 (0, 0)), (g3, .cells #[.int .i64 5, .int .i64 100, .int .i64 2, .int .i64 20, .int .i64 20] 28 (0, 0)), (g2, .cells #[.int .i64 2, .int .i64 2, .int .i64 2, .int .i64 2, .int .i64 2, .int .i64 2, .int .i64 2] 36 (0, 0))] (hW43) ?_
        refine lm (v := .slice (some ⟨g4, 0, none⟩) 8 8) rfl rfl ?_
        refine lm (v := .int .u8 a1) rfl rfl ?_
        refine lp (v := .int .i64 a1) rfl rfl (run_cvb rfl (by kernel_rfl) r1) ?_
        refine lm (v := .slice (some ⟨g4, 0, none⟩) 8 8) rfl rfl ?_
        refine lm (v := .int .i64 8) rfl rfl ?_
        refine lp (v := .int .i64 6) rfl rfl (run_bin rfl (vx := .int .i64 a1) (vy := .int .i64 8) (by kernel_rfl) (by kernel_rfl) fun w => run_remI (z := 6) h8 (by omega) (by omega) (by omega) w) ?_
        refine lm (v := .pointer (some ⟨g4, 30, none⟩)) rfl rfl ?_
        refine lv (v := .agg #[.int .i64 0, .int .i64 40321, .int .i64 2, .int .i64 0, .int .i64 3]) rfl rfl (yb_load (n := 5) (off := 30) rfl (by kernel_rfl) (.head _) Tryd.underlying28 rfl size_tide (by simp) (by kernel_rfl)) ?_
        refine wpL_new (fun g => .pointer (some ⟨g, 0, none⟩)) (obi := .cells #[.int .i64 0, .int .i64 0, .int .i64 0, .int .i64 0, .int .i64 0] 28 (0, 0)) rfl rfl (fun _ => by kernel_rfl) (fun _ => by simp only [List.setIfInBounds_toArray, List.set_cons_succ, List.set_cons_zero] <;> rfl) fun g5 Bg5 Fg5 => ?_
        try simp only [List.forall_mem_cons] at Fg5
        refine wpL_s [(g5, .cells #[.int .i64 0, .int .i64 40321, .int .i64 2, .int .i64 0, .int .i64 3] 28 (0, 0)), (g4, .cells #[.int .i64 (-1), .int .i64 100, .int .i64 2, .int .i64 1, .int .i64 0, .int .i64 5, .int .i64 100, .int .i64 0, .int .i64 1, .int .i64 0, .int .i64 5, .int .i64 100, .int .i64 1001, .int .i64 1, .int .i64 0, .int .i64 0, .int .i64 100, .int .i64 2, .int .i64 0, .int .i64 0, .int .i64 0, .int .i64 100, .int .i64 2, .int .i64 25, .int .i64 25, .int .i64 0, .int .i64 100, .int .i64 2, .int .i64 (-1), .int .i64 9, .int .i64 0, .int .i64 40321, .int .i64 2, .int .i64 0, .int .i64 3, .int .i64 100000001, .int .i64 100, .int .i64 2, .int .i64 0, .int .i64 3] 28 (0, 0)), (g3, .cells #[.int .i64 5, .int .i64 100, .int .i64 2, .int .i64 20, .int .i64 20] 28 (0, 0)), (g2, .cells #[.int .i64 2, .int .i64 2, .int .i64 2, .int .i64 2, .int .i64 2, .int .i64 2, .int .i64 2] 36 (0, 0))] rfl rfl (st_row (v := .agg #[.int .i64 0, .int .i64 40321, .int .i64 2, .int .i64 0, .int .i64 3]) (off := 0) rfl (by kernel_rfl) (by kernel_rfl) (.head _) (by omega) (by rw [size_tide]; rfl) (by simp [Value.cells]) (List.all_eq_true.1 (by kernel_rfl)) rfl (List.forall_mem_cons.2 ⟨.inl rfl, (List.forall_mem_cons.2 ⟨.inr ⟨(.tail _ (.head _)), Fg5.1⟩, (List.forall_mem_cons.2 ⟨.inr ⟨(.tail _ (.tail _ (.head _))), Fg5.2.1⟩, (List.forall_mem_cons.2 ⟨.inr ⟨(.tail _ (.tail _ (.tail _ (.head _)))), Fg5.2.2.1⟩, (List.forall_mem_nil _)⟩)⟩)⟩)⟩)) ?_
        refine wpL_done (fun W44 hW44 => ?_)
        clear hW43
        exact joinTide_mk (g := g5) (f := 0) (n := 40321) (d := 2) (b := 0) (e := 3) (by decide +kernel) (by omega) (hW44.sub (fun _ hp => (by rcases List.mem_cons.1 hp with rfl | hp; exact (.head _); rw [List.mem_singleton.1 hp]; exact (.tail _ (.tail _ (.head _)))))) (by kernel_rfl)
      · refine (show Code.wp _ _ _ _ _ from ?_)
        refine wp_region_L (W0 := Wj) [(g4, .cells #[.int .i64 (-1), .int .i64 100, .int .i64 2, .int .i64 1, .int .i64 0, .int .i64 5, .int .i64 100, .int .i64 0, .int .i64 1, .int .i64 0, .int .i64 5, .int .i64 100, .int .i64 1001, .int .i64 1, .int .i64 0, .int .i64 0, .int .i64 100, .int .i64 2, .int .i64 0, .int .i64 0, .int .i64 0, .int .i64 100, .int .i64 2, .int .i64 25, .int .i64 25, .int .i64 0, .int .i64 100, .int .i64 2, .int .i64 (-1), .int .i64 9, .int .i64 0, .int .i64 40321, .int .i64 2, .int .i64 0, .int .i64 3, .int .i64 100000001, .int .i64 100, .int .i64 2, .int .i64 0, .int .i64 3] 28 (0, 0)), (g3, .cells #[.int .i64 5, .int .i64 100, .int .i64 2, .int .i64 20, .int .i64 20] 28 (0, 0)), (g2, .cells #[.int .i64 2, .int .i64 2, .int .i64 2, .int .i64 2, .int .i64 2, .int .i64 2, .int .i64 2] 36 (0, 0))] (hW43) ?_
        refine lm (v := .slice (some ⟨g4, 0, none⟩) 8 8) rfl rfl ?_
        refine lm (v := .int .u8 a1) rfl rfl ?_
        refine lp (v := .int .i64 a1) rfl rfl (run_cvb rfl (by kernel_rfl) r1) ?_
        refine lm (v := .slice (some ⟨g4, 0, none⟩) 8 8) rfl rfl ?_
        refine lm (v := .int .i64 8) rfl rfl ?_
        refine lp (v := .int .i64 7) rfl rfl (run_bin rfl (vx := .int .i64 a1) (vy := .int .i64 8) (by kernel_rfl) (by kernel_rfl) fun w => run_remI (z := 7) h8 (by omega) (by omega) (by omega) w) ?_
        refine lm (v := .pointer (some ⟨g4, 35, none⟩)) rfl rfl ?_
        refine lv (v := .agg #[.int .i64 100000001, .int .i64 100, .int .i64 2, .int .i64 0, .int .i64 3]) rfl rfl (yb_load (n := 5) (off := 35) rfl (by kernel_rfl) (.head _) Tryd.underlying28 rfl size_tide (by simp) (by kernel_rfl)) ?_
        refine wpL_new (fun g => .pointer (some ⟨g, 0, none⟩)) (obi := .cells #[.int .i64 0, .int .i64 0, .int .i64 0, .int .i64 0, .int .i64 0] 28 (0, 0)) rfl rfl (fun _ => by kernel_rfl) (fun _ => by simp only [List.setIfInBounds_toArray, List.set_cons_succ, List.set_cons_zero] <;> rfl) fun g5 Bg5 Fg5 => ?_
        try simp only [List.forall_mem_cons] at Fg5
        refine wpL_s [(g5, .cells #[.int .i64 100000001, .int .i64 100, .int .i64 2, .int .i64 0, .int .i64 3] 28 (0, 0)), (g4, .cells #[.int .i64 (-1), .int .i64 100, .int .i64 2, .int .i64 1, .int .i64 0, .int .i64 5, .int .i64 100, .int .i64 0, .int .i64 1, .int .i64 0, .int .i64 5, .int .i64 100, .int .i64 1001, .int .i64 1, .int .i64 0, .int .i64 0, .int .i64 100, .int .i64 2, .int .i64 0, .int .i64 0, .int .i64 0, .int .i64 100, .int .i64 2, .int .i64 25, .int .i64 25, .int .i64 0, .int .i64 100, .int .i64 2, .int .i64 (-1), .int .i64 9, .int .i64 0, .int .i64 40321, .int .i64 2, .int .i64 0, .int .i64 3, .int .i64 100000001, .int .i64 100, .int .i64 2, .int .i64 0, .int .i64 3] 28 (0, 0)), (g3, .cells #[.int .i64 5, .int .i64 100, .int .i64 2, .int .i64 20, .int .i64 20] 28 (0, 0)), (g2, .cells #[.int .i64 2, .int .i64 2, .int .i64 2, .int .i64 2, .int .i64 2, .int .i64 2, .int .i64 2] 36 (0, 0))] rfl rfl (st_row (v := .agg #[.int .i64 100000001, .int .i64 100, .int .i64 2, .int .i64 0, .int .i64 3]) (off := 0) rfl (by kernel_rfl) (by kernel_rfl) (.head _) (by omega) (by rw [size_tide]; rfl) (by simp [Value.cells]) (List.all_eq_true.1 (by kernel_rfl)) rfl (List.forall_mem_cons.2 ⟨.inl rfl, (List.forall_mem_cons.2 ⟨.inr ⟨(.tail _ (.head _)), Fg5.1⟩, (List.forall_mem_cons.2 ⟨.inr ⟨(.tail _ (.tail _ (.head _))), Fg5.2.1⟩, (List.forall_mem_cons.2 ⟨.inr ⟨(.tail _ (.tail _ (.tail _ (.head _)))), Fg5.2.2.1⟩, (List.forall_mem_nil _)⟩)⟩)⟩)⟩)) ?_
        refine wpL_done (fun W44 hW44 => ?_)
        clear hW43
        exact joinTide_mk (g := g5) (f := 100000001) (n := 100) (d := 2) (b := 0) (e := 3) (by decide +kernel) (by omega) (hW44.sub (fun _ hp => (by rcases List.mem_cons.1 hp with rfl | hp; exact (.head _); rw [List.mem_singleton.1 hp]; exact (.tail _ (.tail _ (.head _)))))) (by kernel_rfl)
    · rintro a2j W2j ⟨z2, gx, tf, tn, td, tb, te, rfl, htw, htn, hW2j⟩
      dsimp only [cutT]
      refine wp_seq ?_
      refine wp_region_L (W0 := Wj) [(gx, .cells #[.int .i64 tf, .int .i64 tn, .int .i64 td, .int .i64 tb, .int .i64 te] 28 (0, 0)), (g3, .cells #[.int .i64 5, .int .i64 100, .int .i64 2, .int .i64 20, .int .i64 20] 28 (0, 0))] (hW2j) ?_
      refine lv (v := .agg #[.int .i64 tf, .int .i64 tn, .int .i64 td, .int .i64 tb, .int .i64 te]) rfl rfl (yb_load (n := 5) (off := 0) rfl (by kernel_rfl) (.head _) Tryd.underlying28 rfl size_tide (by simp) (by kernel_rfl)) ?_
      refine lv (v := .tuple #[.int .i64 0, .int .i64 2]) rfl rfl (yb_call (f := 29) (args := #[.agg #[.int .i64 tf, .int .i64 tn, .int .i64 td, .int .i64 tb, .int .i64 te], .int .i64 0]) (fun _ => by kernel_rfl) fun W hW => high_w W htn htw 0) ?_
      refine lm (v := .tuple #[.int .i64 0, .int .i64 2]) rfl rfl ?_
      refine lm (v := .int .i64 0) rfl rfl ?_
      refine lm (v := .int .i64 2) rfl rfl ?_
      refine lm (v := .int .i64 2) rfl rfl ?_
      refine wpL_done (fun W44 hW44 => ?_)
      clear hW2j
      refine (show Code.wp _ _ _ _ _ from ?_)
      refine wp_seq ?_
      refine wp_region_L (W0 := Wj) [(gx, .cells #[.int .i64 tf, .int .i64 tn, .int .i64 td, .int .i64 tb, .int .i64 te] 28 (0, 0)), (g3, .cells #[.int .i64 5, .int .i64 100, .int .i64 2, .int .i64 20, .int .i64 20] 28 (0, 0))] (hW44) ?_
      refine lv (v := .agg #[.int .i64 tf, .int .i64 tn, .int .i64 td, .int .i64 tb, .int .i64 te]) rfl rfl (yb_load (n := 5) (off := 0) rfl (by kernel_rfl) (.head _) Tryd.underlying28 rfl size_tide (by simp) (by kernel_rfl)) ?_
      refine lv (v := .tuple #[.slice none 0 0, .int .i64 2]) rfl rfl (yb_call (f := 30) (args := #[.agg #[.int .i64 tf, .int .i64 tn, .int .i64 td, .int .i64 tb, .int .i64 te], .int .i64 0, .int .i64 9]) (fun _ => by kernel_rfl) fun W hW => Windows_err tf tn td tb te htn htw 0 9 W) ?_
      refine lm (v := .tuple #[.slice none 0 0, .int .i64 2]) rfl rfl ?_
      refine lm (v := .slice none 0 0) rfl rfl ?_
      refine lm (v := .int .i64 2) rfl rfl ?_
      refine lm (v := .int .i64 2) rfl rfl ?_
      refine wpL_done (fun W45 hW45 => ?_)
      clear hW44
      refine (show Code.wp _ _ _ _ _ from ?_)
      refine wp_seq ?_
      refine wp_region_L (W0 := Wj) [(gx, .cells #[.int .i64 tf, .int .i64 tn, .int .i64 td, .int .i64 tb, .int .i64 te] 28 (0, 0)), (g3, .cells #[.int .i64 5, .int .i64 100, .int .i64 2, .int .i64 20, .int .i64 20] 28 (0, 0))] (hW45) ?_
      refine lv (v := .agg #[.int .i64 5, .int .i64 100, .int .i64 2, .int .i64 20, .int .i64 20]) rfl rfl (yb_load (n := 5) (off := 0) rfl (by kernel_rfl) (.tail _ (.head _)) Tryd.underlying28 rfl size_tide (by simp) (by kernel_rfl)) ?_
      refine lv (v := .tuple #[.int .i64 0, .int .i64 2]) rfl rfl (yb_call (f := 29) (args := #[.agg #[.int .i64 5, .int .i64 100, .int .i64 2, .int .i64 20, .int .i64 20], .int .i64 (-1)]) (fun _ => by kernel_rfl) fun W hW => high_neg W) ?_
      refine lm (v := .tuple #[.int .i64 0, .int .i64 2]) rfl rfl ?_
      refine lm (v := .int .i64 0) rfl rfl ?_
      refine lm (v := .int .i64 2) rfl rfl ?_
      refine lm (v := .int .i64 2) rfl rfl ?_
      refine wpL_done (fun W46 hW46 => ?_)
      clear hW45
      refine (show Code.wp _ _ _ _ _ from ?_)
      refine wp_seq ?_
      refine wp_region_L (W0 := Wj) [(gx, .cells #[.int .i64 tf, .int .i64 tn, .int .i64 td, .int .i64 tb, .int .i64 te] 28 (0, 0)), (g3, .cells #[.int .i64 5, .int .i64 100, .int .i64 2, .int .i64 20, .int .i64 20] 28 (0, 0))] (hW46) ?_
      refine lv (v := .agg #[.int .i64 5, .int .i64 100, .int .i64 2, .int .i64 20, .int .i64 20]) rfl rfl (yb_load (n := 5) (off := 0) rfl (by kernel_rfl) (.tail _ (.head _)) Tryd.underlying28 rfl size_tide (by simp) (by kernel_rfl)) ?_
      refine lv (v := .tuple #[.int .i64 0, .int .i64 3]) rfl rfl (yb_call (f := 29) (args := #[.agg #[.int .i64 5, .int .i64 100, .int .i64 2, .int .i64 20, .int .i64 20], .int .i64 100000000]) (fun _ => by kernel_rfl) fun W hW => high_long W) ?_
      refine lm (v := .tuple #[.int .i64 0, .int .i64 3]) rfl rfl ?_
      refine lm (v := .int .i64 0) rfl rfl ?_
      refine lm (v := .int .i64 3) rfl rfl ?_
      refine lm (v := .int .i64 3) rfl rfl ?_
      refine wpL_done (fun W47 hW47 => ?_)
      clear hW46
      refine (show Code.wp _ _ _ _ _ from ?_)
      refine wp_seq ?_
      refine wp_region_L (W0 := Wj) [(gx, .cells #[.int .i64 tf, .int .i64 tn, .int .i64 td, .int .i64 tb, .int .i64 te] 28 (0, 0)), (g3, .cells #[.int .i64 5, .int .i64 100, .int .i64 2, .int .i64 20, .int .i64 20] 28 (0, 0))] (hW47) ?_
      refine lm (v := .int .i64 2) rfl rfl ?_
      refine lm (v := .bool true) rfl rfl ?_
      refine lm (v := .bool true) rfl rfl ?_
      refine lm (v := .int .i64 2) rfl rfl ?_
      refine lm (v := .bool true) rfl rfl ?_
      refine lm (v := .bool true) rfl rfl ?_
      refine lm (v := .bool true) rfl rfl ?_
      refine lm (v := .int .i64 2) rfl rfl ?_
      refine lm (v := .bool true) rfl rfl ?_
      refine lm (v := .bool true) rfl rfl ?_
      refine lm (v := .bool true) rfl rfl ?_
      refine lm (v := .int .i64 3) rfl rfl ?_
      refine lm (v := .bool true) rfl rfl ?_
      refine lm (v := .bool true) rfl rfl ?_
      refine lm (v := .bool true) rfl rfl ?_
      refine lv (v := .agg #[.int .i64 5, .int .i64 100, .int .i64 2, .int .i64 20, .int .i64 20]) rfl rfl (yb_load (n := 5) (off := 0) rfl (by kernel_rfl) (.tail _ (.head _)) Tryd.underlying28 rfl size_tide (by simp) (by kernel_rfl)) ?_
      refine lv (v := .bool true) rfl rfl (yb_call (f := 31) (args := #[.agg #[.int .i64 5, .int .i64 100, .int .i64 2, .int .i64 20, .int .i64 20]]) (fun _ => by kernel_rfl) fun W hW => tidal_r W (by omega) (by decide +kernel)) ?_
      refine lm (v := .bool true) rfl rfl ?_
      refine lm (v := .bool true) rfl rfl ?_
      refine lv (v := .agg #[.int .i64 tf, .int .i64 tn, .int .i64 td, .int .i64 tb, .int .i64 te]) rfl rfl (yb_load (n := 5) (off := 0) rfl (by kernel_rfl) (.head _) Tryd.underlying28 rfl size_tide (by simp) (by kernel_rfl)) ?_
      refine lv (v := .bool false) rfl rfl (yb_call (f := 31) (args := #[.agg #[.int .i64 tf, .int .i64 tn, .int .i64 td, .int .i64 tb, .int .i64 te]]) (fun _ => by kernel_rfl) fun W hW => tidal_r W htn htw) ?_
      refine lm (v := .bool true) rfl rfl ?_
      refine lm (v := .bool true) rfl rfl ?_
      refine lm (v := .bool true) rfl rfl ?_
      refine wpL_done (fun W48 hW48 => ?_)
      clear hW47
      refine (show Code.wp _ _ _ _ _ from ?_)
      refine wp_ret ?_
      try simp only [inBlock_ret, then_ret]
      go_ret
      exact ⟨rfl, Below.trans hbw (Below.mono hW48.1 hbw.size)⟩
end Go.Proofs.YtjmcelgdjpdacaaDoor
/- ClockWrong holds for every input: the program's own answer is true, wherever the listed variables are as the program's text lays them; each argument reads afterwards as it read before. -/
namespace Go.Proofs.YtjmcelgdjpdacaaDoor
open Go.ChangeShapes Go.WideShapes Go.ChangeAt Go.RowKit Tw
set_option maxRecDepth 100000 in
theorem clockWrong_lifted (os : Os) (started : os.Started) (H : Type) (enc : TypeId × Value → H) :
    ReturnsInHanded {} Tryd.checked os 13 .any (fun w args => (Rows.clockWrongSpec.pre enc Tryd.prog Tryd.f13 Rows.clockWrongRow.domain false w args ∧ laidMetH Tryd.prog laid6 w) ∧ sizedMet enc Tryd.prog Tryd.f13 (OpenSpec.ofChange Rows.clockWrongSpec) false w args) (Rows.clockWrongSpec.post enc Tryd.prog Tryd.f13 false true false false) := by
  refine handed_and_shaped (C := Tryd.checked) (X := fun w => laidMetH Tryd.prog laid6 w) (fun _ _ hh h => h.of_heap hh) own started (by kernel_rfl) Tryd.func13
    (ChangeSpec.witness_shaped (enc := enc) (C := Tryd.checked) (os := os) (X := fun w _ => laidMetH Tryd.prog laid6 w) false (World.doorLaid Tryd.prog 1000 os) #[.slice none 0 0, .int .u8 0, .int .u8 0] 8 rfl (World.shaped_of_RefB (by kernel_rfl) (by kernel_rfl)) (by kernel_rfl) (by kernel_rfl) (by kernel_rfl) (door_met os _)) ?_
  intro W base args ds gs before hval0 hW hL hsh
  have hval : ∀ (j : Nat) t v, Tryd.f13.params[j]? = some t → args[j]? = some v → Value.okWide Tryd.prog W .any base t v := hval0
  have hW' := hW
  obtain ⟨p, q, hA0, hV, rfl, hfz, hnd⟩ := hW
  have hA : DataW.TrodAll enc Tryd.prog W 0 (fun _ => true) true Tryd.f13.params.toList args.toList ds p := hA0
  rw [Tryd.params13] at hA hval
  obtain ⟨v0, vs0, d0, ds0, p0, q0, hargs, rfl, rfl, h0, r0⟩ := trodAll_cons hA
  obtain ⟨v1, vs1, d1, ds1, p1, q1, rfl, rfl, rfl, h1, r1⟩ := trodAll_cons r0
  obtain ⟨v2, vs2, d2, ds2, p2, q2, rfl, rfl, rfl, h2, r2⟩ := trodAll_cons r1
  obtain ⟨rfl, rfl, rfl⟩ := trodAll_nil r2
  obtain rfl : args = #[v0, v1, v2] := by cases args; simp_all
  obtain ⟨rfl, rfl⟩ := trodVars_none hV
  have k0 := h0
  have lt0 : ∀ x ∈ p0, x.block < W.heap.size := by obtain ⟨m, hm⟩ := k0; exact DataW.trod_lt m _ _ _ hm
  obtain ⟨p0_, c0, l0, rfl, hb0⟩ := open_bytes (hval 0 32 v0 rfl rfl) h0
  obtain ⟨a1, rfl, rfl, rfl, w1⟩ := open_int Tryd.underlying5 (hval 1 5 v1 rfl rfl) h1
  have rr1 : 0 ≤ a1 ∧ a1 ≤ 255 := of_wf w1
  obtain ⟨a2, rfl, rfl, rfl, w2⟩ := open_int Tryd.underlying5 (hval 2 5 v2 rfl rfl) h2
  have rr2 : 0 ≤ a2 ∧ a2 ≤ 255 := of_wf w2
  clear hA0 hval0
  refine (ClockWrong_law W (env_of hL hsh) l0 p0_ c0 hb0 a1 rr1 a2 rr2).mono fun e W' ⟨he, bel⟩ => ?_
  subst he
  exact ⟨_, rfl, _, _, _, [], _, [], hW', (trodAll_cons_mk (shut_bool Tryd.underlying4 _) trodAll_mk0), (trodAll_cons_mk (Below.trod laidOut (by kernel_rfl) (of_decide_eq_true (by kernel_rfl)) k0 bel lt0) (trodAll_cons_mk (shut_int Tryd.underlying5 w1) (trodAll_cons_mk (shut_int Tryd.underlying5 w2) trodAll_mk0))), rfl, bel.frame _, fun h => by cases h⟩
theorem clockWrong_said : Rows.ClockWrongSaid :=
  OpenClaim.holds_of_wide 13 Tryd.f13 rfl rfl rfl rfl rfl rfl rfl ⟨rfl, rfl, rfl, rfl, rfl⟩ rfl rfl rfl rfl rfl (by kernel_rfl) Tryd.func13 (by kernel_rfl)
    (of_decide_eq_true (by kernel_rfl)) (by unfold Func.isWrapper; first | (rw [if_pos (by decide +kernel)]; kernel_rfl) | (rw [if_neg (by decide +kernel)]; exact ⟨rfl, rfl⟩))
    (fun os started H enc _ => clockWrong_lifted os started H enc)
theorem clockWrong_proved : Rows.ClockWrongCardSaid :=
  Claim7.holds_tied_plain_at .later [] [.data, .data, .data, .sentinel, .sentinel, .data] true Rows.clockWrongCard.stood.harness true
    clockWrong_said (fun _ h => by cases h) (by kernel_rfl) (fun _ h => by cases h) clockWrong_row_tie rfl ⟨rfl, rfl⟩ (by kernel_rfl) rfl
    (fun f fn hf hfn => by
      obtain rfl : f = 13 := Option.some.inj ((show Tryd.prog.funcNamed "twistlock/twistlocklaw02.ClockWrong" = some 13 by kernel_rfl).symm.trans hf) |>.symm
      obtain rfl : fn = Tryd.f13 := (Option.some.inj (Tryd.func13.symm.trans hfn)).symm
      exact ⟨by kernel_rfl, fun j t ht => by
        rw [Tryd.params13] at ht
        have hm : t ∈ [32, 5, 5] := by simpa using Array.mem_of_getElem? ht
        have hall : ([32, 5, 5].all fun u => !Tryd.prog.wantsStandIn u) = true := by kernel_rfl
        exact (show Tryd.prog.wantsStandIn t = false by simpa using List.all_eq_true.1 hall t hm)⟩)
    (by kernel_rfl)
#print axioms clockWrong_proved
end Go.Proofs.YtjmcelgdjpdacaaDoor
