import Derived.Test.YtjmcelgdjpdacaaDoorG06
import Derived.Test.YtjmcelgdjpdacaaDoorG07
/- ClockLater: the law holds for every input; no condition but the row's own. -/
set_option linter.unusedVariables false
set_option linter.unusedSimpArgs false
set_option linter.unusedSectionVars false
/- When work begins and ends in spans that are apart. Plain. -/
namespace Go.Proofs.YtjmcelgdjpdacaaDoor
open Go.RowKit Tw
open Go
theorem ap_cons {bef : Int} {s : Int × Int} {l : List (Int × Int)} (h : apFrom bef (s :: l) = true) : bef < s.1 ∧ s.1 < s.2 ∧ s.2 ≤ 100000000 ∧ apFrom s.2 l = true := by
  simp only [apFrom, Bool.and_eq_true, decide_eq_true_eq] at h
  exact ⟨h.1.1.1, h.1.1.2, h.1.2, h.2⟩
theorem ap_mono : ∀ {l : List (Int × Int)} {b b' : Int}, b' ≤ b → apFrom b l = true → apFrom b' l = true
  | [], _, _, _, _ => rfl
  | s :: l, b, b', hb, h => by
    obtain ⟨h1, h2, h3, h4⟩ := ap_cons h
    simp only [apFrom, Bool.and_eq_true, decide_eq_true_eq]
    exact ⟨⟨⟨by omega, h2⟩, h3⟩, h4⟩
theorem fin_pos : ∀ {l : List (Int × Int)} {bef x m b : Int}, apFrom bef l = true → 1 ≤ m → finS x m l = some b → bef < b ∧ x < b ∧ b ≤ 100000000
  | [], _, _, _, _, _, _, h => by simp [finS] at h
  | s :: l, bef, x, m, b, ha, hm, h => by
    obtain ⟨h1, h2, h3, h4⟩ := ap_cons ha
    simp only [finS] at h
    split at h
    · cases h; omega
    · have := fin_pos h4 (by omega) h
      omega
theorem fin_same : ∀ {l : List (Int × Int)} {bef x y m : Int}, apFrom bef l = true → x ≤ bef + 1 → y ≤ bef + 1 → finS x m l = finS y m l
  | [], _, _, _, _, _, _, _ => rfl
  | s :: l, bef, x, y, m, ha, hx, hy => by
    obtain ⟨h1, h2, h3, h4⟩ := ap_cons ha
    simp only [finS]
    rw [show max s.1 x = s.1 from by omega, show max s.1 y = s.1 from by omega, fin_same (x := x) (y := y) h4 (by omega) (by omega)]
theorem fin_more : ∀ {l : List (Int × Int)} {bef x m k b : Int}, apFrom bef l = true → 1 ≤ m → 1 ≤ k → finS x (m + k) l = some b → ∃ a, finS x m l = some a ∧ a < b
  | [], _, _, _, _, _, _, _, _, h => by simp [finS] at h
  | s :: l, bef, x, m, k, b, ha, hm, hk, h => by
    obtain ⟨h1, h2, h3, h4⟩ := ap_cons ha
    simp only [finS] at h ⊢
    split at h
    · rw [if_pos (by omega)]
      cases h
      exact ⟨_, rfl, by omega⟩
    · by_cases hc : m ≤ s.2 - max s.1 x
      · rw [if_pos hc]
        have := fin_pos h4 (by omega) h
        exact ⟨_, rfl, by omega⟩
      · rw [if_neg hc]
        refine fin_more h4 (by omega) hk ?_
        rw [← h]
        congr 1
        omega
theorem fin_later : ∀ {l : List (Int × Int)} {bef x y m m' c : Int}, apFrom bef l = true → 1 ≤ m' → m' ≤ m → x ≤ y → finS y m l = some c → ∃ a, finS x m' l = some a ∧ a ≤ c
  | [], _, _, _, _, _, _, _, _, _, _, h => by simp [finS] at h
  | s :: l, bef, x, y, m, m', c, ha, hm, hmm, hxy, h => by
    obtain ⟨h1, h2, h3, h4⟩ := ap_cons ha
    simp only [finS] at h ⊢
    split at h
    · rw [if_pos (by omega)]
      cases h
      exact ⟨_, rfl, by omega⟩
    · by_cases hc : m' ≤ s.2 - max s.1 x
      · rw [if_pos hc]
        have := fin_pos h4 (by omega) h
        exact ⟨_, rfl, by omega⟩
      · rw [if_neg hc]
        exact fin_later h4 (by omega) (by omega) hxy h
theorem fin_parts : ∀ {l : List (Int × Int)} {bef x m k a : Int}, apFrom bef l = true → 1 ≤ m → 1 ≤ k → finS x m l = some a → finS a k l = finS x (m + k) l
  | [], _, _, _, _, _, _, _, _, h => by simp [finS] at h
  | s :: l, bef, x, m, k, a, ha, hm, hk, h => by
    obtain ⟨h1, h2, h3, h4⟩ := ap_cons ha
    simp only [finS] at h ⊢
    split at h
    · rename_i hc
      cases h
      rw [show max s.1 (max s.1 x + m) = max s.1 x + m from by omega]
      by_cases hk2 : k ≤ s.2 - (max s.1 x + m)
      · rw [if_pos hk2, if_pos (by omega), Int.add_assoc]
      · rw [if_neg hk2, if_neg (by omega), show k - max 0 (s.2 - (max s.1 x + m)) = m + k - max 0 (s.2 - max s.1 x) from by omega]
        exact fin_same h4 (by omega) (by omega)
    · rename_i hc
      have hp := fin_pos h4 (by omega) h
      rw [if_neg (by omega), if_neg (by omega), show max 0 (s.2 - max s.1 a) = 0 from by omega, Int.sub_zero, fin_parts h4 (by omega) hk h]
      congr 1
      omega
theorem fit_pos : ∀ {l : List (Int × Int)} {bef x m b : Int}, apFrom bef l = true → 1 ≤ m → fitS x m l = some b → bef < b ∧ x ≤ b ∧ b + m ≤ 100000000
  | [], _, _, _, _, _, _, h => by simp [fitS] at h
  | s :: l, bef, x, m, b, ha, hm, h => by
    obtain ⟨h1, h2, h3, h4⟩ := ap_cons ha
    simp only [fitS] at h
    split at h
    · cases h; omega
    · have := fit_pos h4 hm h
      omega
theorem fit_later : ∀ {l : List (Int × Int)} {bef x y m m' c : Int}, apFrom bef l = true → 1 ≤ m' → m' ≤ m → x ≤ y → fitS y m l = some c → ∃ a, fitS x m' l = some a ∧ a ≤ c
  | [], _, _, _, _, _, _, _, _, _, _, h => by simp [fitS] at h
  | s :: l, bef, x, y, m, m', c, ha, hm, hmm, hxy, h => by
    obtain ⟨h1, h2, h3, h4⟩ := ap_cons ha
    simp only [fitS] at h ⊢
    split at h
    · rw [if_pos (by omega)]
      cases h
      exact ⟨_, rfl, by omega⟩
    · by_cases hc : m' ≤ s.2 - max s.1 x
      · rw [if_pos hc]
        have := fit_pos h4 (by omega) h
        exact ⟨_, rfl, by omega⟩
      · rw [if_neg hc]
        exact fit_later h4 hm hmm hxy h
theorem made_from_apart : ∀ (n : Nat) (at_ : Int) (l : List Int), (∀ x ∈ l, 0 ≤ x ∧ x ≤ 255) → 0 ≤ at_ → at_ + 512 * n ≤ 100000000 → apFrom (at_ - 1) (madeFrom at_ n l) = true
  | 0, _, _, _, _, _ => rfl
  | n + 1, _, [], _, _, _ => rfl
  | n + 1, _, [_], _, _, _ => rfl
  | n + 1, at_, x :: y :: l, h, h0, h1 => by
    have hx := h x (List.mem_cons_self ..)
    have hy := h y (List.mem_cons_of_mem _ (List.mem_cons_self ..))
    have := made_from_apart n (at_ + x + 1 + y + 1) l (fun z hz => h z (List.mem_cons_of_mem _ (List.mem_cons_of_mem _ hz))) (by omega) (by omega)
    rw [show at_ + x + 1 + y + 1 - 1 = at_ + x + 1 + y from by omega] at this
    simp only [madeFrom, apFrom, Bool.and_eq_true, decide_eq_true_eq]
    exact ⟨⟨⟨by omega, by omega⟩, by omega⟩, this⟩
theorem made_apFrom {l : List Int} (h : ∀ x ∈ l, 0 ≤ x ∧ x ≤ 255) : apFrom (-1) (madeL l) = true := made_from_apart 40 0 l h (by omega) (by omega)
theorem made_length (l : List Int) : (madeL l).length ≤ 40 := made_len 40 0 l
theorem made_apart {l : List Int} (h : ∀ x ∈ l, 0 ≤ x ∧ x ≤ 255) : apart (madeL l) = true := by
  unfold apart
  rw [made_apFrom h, Bool.and_true, decide_eq_true_eq]
  have := made_length l
  omega
theorem finish_is {l : List (Int × Int)} {p : Option Addr} {cap : Nat} {W : World} (h : SL W p l) (ha : apart l = true) {x m : Int} (hx : 0 ≤ x ∧ x ≤ 100000000) (hm : 1 ≤ m ∧ m ≤ 100000000) {r : Option Int} (hr : finS x m l = r) :
    Calls Tryd.prog 20 #[.slice p l.length cap, .int .i64 x, .int .i64 m] W fun e w' => e = .returned (endV r) ∧ Below W.heap.size W w' := by
  have hl := apart_len ha
  have := Finish_any p cap l W h (by omega) x m
  rw [if_pos ⟨ha, by simp [isT]; omega, hm⟩, hr] at this
  exact this
theorem fit_is {l : List (Int × Int)} {p : Option Addr} {cap : Nat} {W : World} (h : SL W p l) (ha : apart l = true) {x m : Int} (hx : 0 ≤ x ∧ x ≤ 100000000) (hm : 1 ≤ m ∧ m ≤ 100000000) {r : Option Int} (hr : fitS x m l = r) :
    Calls Tryd.prog 22 #[.slice p l.length cap, .int .i64 x, .int .i64 m] W fun e w' => e = .returned (endV r) ∧ Below W.heap.size W w' := by
  have hl := apart_len ha
  have := Fit_any p cap l W h (by omega) x m
  rw [if_pos ⟨ha, by simp [isT]; omega, hm⟩, hr] at this
  exact this
theorem between_is {l : List (Int × Int)} {p : Option Addr} {cap : Nat} {W : World} (h : SL W p l) (ha : apart l = true) {x y : Int} (hx : 0 ≤ x) (hxy : x ≤ y) (hy : y ≤ 100000000) :
    Calls Tryd.prog 21 #[.slice p l.length cap, .int .i64 x, .int .i64 y] W fun e w' => e = .returned (.tuple #[.int .i64 (btw x y l), .int .i64 0]) ∧ Below W.heap.size W w' := by
  have hl := apart_len ha
  have := Between_any p cap l W h (by omega) x y
  rw [if_pos ⟨ha, by simp [isT]; omega, by simp [isT]; omega, hxy⟩] at this
  exact this
end Go.Proofs.YtjmcelgdjpdacaaDoor
/- Paths of a walk that come together again; numbers of 16 bits. -/
namespace Tw
open Go Go.RowKit Go.Proofs.YtjmcelgdjpdacaaDoor
def normQ (R : Act → World → Prop) : Exit → Act → World → Prop
  | .normal, a, w => R a w
  | _, _, _ => False
/-- the first n statements come to R -/
def preW (P : Program) (R : Act → World → Prop) : Nat → Code → Act → World → Prop
  | 0, _, a, w => R a w
  | n + 1, .seq x y, a, w => x.wp P (normQ (preW P R n y)) a w
  | _ + 1, _, _, _ => False
def cutT : Nat → Code → Code
  | n + 1, .seq _ b => cutT n b
  | _, c => c
theorem wp_joins {P : Program} {Q : Exit → Act → World → Prop} (R : Act → World → Prop) : ∀ (n : Nat) {c : Code} {a : Act} {w : World}, preW P R n c a w → (∀ a' w', R a' w' → (cutT n c).wp P Q a' w') → c.wp P Q a w
  | 0, c, a, w, h1, h2 => by
    have := h2 a w h1
    cases c <;> exact this
  | n + 1, c, a, w, h1, h2 => by
    cases c with
    | seq x y =>
      refine wp_seq (wp_mono h1 ?_)
      rintro e a' w' hq
      cases e with
      | normal => exact wp_joins R n hq h2
      | _ => exact hq.elim
    | _ => exact h1.elim
/-- slots that are known, and others -/
def JoinR (F : (Nat → Value) → Array Value) (W0 : Base) (K : List (Nat × Obj)) (a : Act) (w : World) : Prop := (∃ z, a = { tmps := F z, defers := [] }) ∧ KS W0 K w
theorem join_mk {F : (Nat → Value) → Array Value} {W0 : Base} {K : List (Nat × Obj)} {T : Array Value} {w : World} (h : F (fun i => T.getD i undef) = T) (hK : KS W0 K w) : JoinR F W0 K { tmps := T, defers := [] } w := ⟨⟨_, by rw [h]⟩, hK⟩
end Tw
namespace Go.Proofs.YtjmcelgdjpdacaaDoor
open Go.RowKit Tw
open Go
theorem run_min16 {o : Oper} {a : Act} {x y z : Int} {px py : Operand} {tx ty : TypeId} {w : World} (ho : o.op = .call { callee := .builtin .min, args := #[px, py], argTypes := #[tx, ty] }) (hp : #[px, py].map a.eval = #[.int .u16 x, .int .u16 y]) (hm : min x y = z) : (execOp a.eval o).run Tryd.prog w = .ok (.value (.int .u16 z)) w := by
  subst hm
  go_simp
theorem run_max16 {o : Oper} {a : Act} {x y z : Int} {px py : Operand} {tx ty : TypeId} {w : World} (ho : o.op = .call { callee := .builtin .max, args := #[px, py], argTypes := #[tx, ty] }) (hp : #[px, py].map a.eval = #[.int .u16 x, .int .u16 y]) (hm : max x y = z) : (execOp a.eval o).run Tryd.prog w = .ok (.value (.int .u16 z)) w := by
  subst hm
  go_simp
theorem run_shr16 {x z : Int} {px py : Operand} (h : x / 2 = z) (hx : 0 ≤ x) (hx2 : x ≤ 65535) (w : World) : (do eqGuard .shr 33 px py (.int .u16 x) (.int .u64 1); binOp .shr 33 (.int .u16 x) (.int .u64 1) : Sem Value).run Tryd.prog w = .ok (.int .u16 z) w := by
  subst h
  go_simp
end Go.Proofs.YtjmcelgdjpdacaaDoor
namespace Go.Proofs.YtjmcelgdjpdacaaDoor
open Go.RowKit Tw
open Go
set_option maxRecDepth 100000 in
set_option maxHeartbeats 20000000 in
theorem ClockLater_law (w : World) (hE : Env w) (l0 : List Int) (p0 : Option Addr) (c0 : Nat) (hb0 : BL w p0 l0) (a1 : Int) (r1 : 0 ≤ a1 ∧ a1 ≤ 65535) (a2 : Int) (r2 : 0 ≤ a2 ∧ a2 ≤ 65535) (a3 : Int) (r3 : 0 ≤ a3 ∧ a3 ≤ 65535) (a4 : Int) (r4 : 0 ≤ a4 ∧ a4 ≤ 65535) :
    Calls Tryd.prog 11 #[.slice p0 l0.length c0, .int .u16 a1, .int .u16 a2, .int .u16 a3, .int .u16 a4] w fun e w' => e = .returned (.bool true) ∧ Below w.heap.size w w' := by
  have HE := Lib.hid hE
  have HB0 := Lib.hid hb0
  have hap := made_apart hb0.1
  have hfr := made_apFrom hb0.1
  clear hE hb0
  obtain ⟨at_, hat⟩ : ∃ v, min a1 a2 / 2 = v := ⟨_, rfl⟩
  obtain ⟨th, hth⟩ : ∃ v, max a1 a2 / 2 = v := ⟨_, rfl⟩
  obtain ⟨n, hn⟩ : ∃ v, 1 + a3 % 500 = v := ⟨_, rfl⟩
  obtain ⟨k, hk⟩ : ∃ v, 1 + a4 % 500 = v := ⟨_, rfl⟩
  have b1 : 0 ≤ at_ ∧ at_ ≤ th ∧ th ≤ 32767 := by omega
  have b2 : 1 ≤ n ∧ n ≤ 500 := by omega
  have b3 : 1 ≤ k ∧ k ≤ 500 := by omega
  go_enter Tryd.func11, Tryd.ntmps11
  refine wp_seq ?_
  refine wp_region_L (W0 := w) [] (KS.start w) ?_
  refine lm (v := .bool false) rfl rfl ?_
  refine wpL_done (fun W1 hW1 => ?_)
  refine (show Code.wp _ _ _ _ _ from ?_)
  refine wp_seq ?_
  refine wp_seq ?_
  refine wp_region_L (W0 := w) [] (hW1) ?_
  refine lv (v := .bool true) rfl rfl (yb_call (f := 15) (args := #[]) (fun _ => by kernel_rfl) fun W hW => awake_any W (HE.out.keep hW.1)) ?_
  refine lm (v := .bool false) rfl rfl ?_
  refine wpL_done (fun W2 hW2 => ?_)
  clear hW1
  refine (show Code.wp _ _ _ _ _ from ?_)
  refine wp_cond_false rfl ?_
  refine wp_skip ?_
  refine (show Code.wp _ _ _ _ _ from ?_)
  refine wp_seq ?_
  refine wp_region_L (W0 := w) [] (hW2) ?_
  refine lm (v := .slice p0 l0.length c0) rfl rfl ?_
  refine wpL_c (GL w [] (madeL l0)) rfl (by kernel_rfl) (fun _ => (by kernel_rfl)) (fun W hW => calls_gl hW (Made_any l0 p0 c0 W (bl_keep HB0.out hW.1))) (fun _ => by simp only [List.setIfInBounds_toArray, List.set_cons_succ, List.set_cons_zero] <;> rfl) ?_
  rintro v Kz1 ⟨pm0, cm0, rfl, hasM0, hs1⟩
  refine lm (v := .slice pm0 (madeL l0).length cm0) rfl rfl ?_
  refine wpL_done (fun W3 hW3 => ?_)
  clear hW2
  refine (show Code.wp _ _ _ _ _ from ?_)
  refine wp_seq ?_
  refine wp_region_L (W0 := w) Kz1 (hW3) ?_
  refine lm (v := .int .u16 a1) rfl rfl ?_
  refine lm (v := .int .u16 a2) rfl rfl ?_
  refine lp (v := .int .u16 (min a1 a2)) rfl rfl (fun _ => run_min16 rfl (by kernel_rfl) rfl) ?_
  refine lp (v := .int .u16 at_) rfl rfl (run_bin rfl (vx := .int .u16 (min a1 a2)) (vy := .int .u64 1) (by kernel_rfl) (by kernel_rfl) fun w => run_shr16 (z := at_) hat (by omega) (by omega) w) ?_
  refine lp (v := .int .i64 at_) rfl rfl (run_cvh rfl (by kernel_rfl) (by omega)) ?_
  refine lm (v := .int .u16 a1) rfl rfl ?_
  refine lm (v := .int .u16 a2) rfl rfl ?_
  refine lp (v := .int .u16 (max a1 a2)) rfl rfl (fun _ => run_max16 rfl (by kernel_rfl) rfl) ?_
  refine lp (v := .int .u16 th) rfl rfl (run_bin rfl (vx := .int .u16 (max a1 a2)) (vy := .int .u64 1) (by kernel_rfl) (by kernel_rfl) fun w => run_shr16 (z := th) hth (by omega) (by omega) w) ?_
  refine lp (v := .int .i64 th) rfl rfl (run_cvh rfl (by kernel_rfl) (by omega)) ?_
  refine lm (v := .int .i64 at_) rfl rfl ?_
  refine lm (v := .int .i64 th) rfl rfl ?_
  refine wpL_done (fun W4 hW4 => ?_)
  clear hW3
  refine (show Code.wp _ _ _ _ _ from ?_)
  refine wp_seq ?_
  refine wp_region_L (W0 := w) Kz1 (hW4) ?_
  refine lm (v := .int .u16 a3) rfl rfl ?_
  refine lp (v := .int .i64 a3) rfl rfl (run_cvh rfl (by kernel_rfl) (by omega)) ?_
  refine lp (v := .int .i64 (a3 % 500)) rfl rfl (run_bin rfl (vx := .int .i64 a3) (vy := .int .i64 500) (by kernel_rfl) (by kernel_rfl) fun w => run_remI (z := (a3 % 500)) rfl (by omega) (by omega) (by omega) w) ?_
  refine lp (v := .int .i64 n) rfl rfl (run_bin rfl (vx := .int .i64 1) (vy := .int .i64 (a3 % 500)) (by kernel_rfl) (by kernel_rfl) fun w => run_addI (z := n) hn (by omega) w) ?_
  refine lm (v := .int .u16 a4) rfl rfl ?_
  refine lp (v := .int .i64 a4) rfl rfl (run_cvh rfl (by kernel_rfl) (by omega)) ?_
  refine lp (v := .int .i64 (a4 % 500)) rfl rfl (run_bin rfl (vx := .int .i64 a4) (vy := .int .i64 500) (by kernel_rfl) (by kernel_rfl) fun w => run_remI (z := (a4 % 500)) rfl (by omega) (by omega) (by omega) w) ?_
  refine lp (v := .int .i64 k) rfl rfl (run_bin rfl (vx := .int .i64 1) (vy := .int .i64 (a4 % 500)) (by kernel_rfl) (by kernel_rfl) fun w => run_addI (z := k) hk (by omega) w) ?_
  refine lm (v := .int .i64 n) rfl rfl ?_
  refine lm (v := .int .i64 k) rfl rfl ?_
  refine wpL_done (fun W5 hW5 => ?_)
  clear hW4
  refine (show Code.wp _ _ _ _ _ from ?_)
  refine wp_joins (JoinR (fun z => List.toArray (z 0 :: z 1 :: z 2 :: z 3 :: z 4 :: z 5 :: z 6 :: z 7 :: z 8 :: z 9 :: z 10 :: (.slice pm0 (madeL l0).length cm0) :: (.int .i64 at_) :: (.int .i64 th) :: (.int .i64 n) :: (.int .i64 k) :: z 16 :: z 17 :: z 18 :: z 19 :: z 20 :: z 21 :: z 22 :: z 23 :: z 24 :: z 25 :: z 26 :: z 27 :: z 28 :: z 29 :: z 30 :: z 31 :: z 32 :: z 33 :: z 34 :: z 35 :: z 36 :: z 37 :: z 38 :: z 39 :: z 40 :: z 41 :: z 42 :: z 43 :: z 44 :: z 45 :: z 46 :: z 47 :: z 48 :: z 49 :: z 50 :: z 51 :: z 52 :: z 53 :: z 54 :: z 55 :: z 56 :: z 57 :: z 58 :: z 59 :: z 60 :: z 61 :: z 62 :: z 63 :: z 64 :: z 65 :: z 66 :: z 67 :: z 68 :: z 69 :: z 70 :: z 71 :: z 72 :: z 73 :: z 74 :: z 75 :: z 76 :: z 77 :: z 78 :: z 79 :: z 80 :: z 81 :: z 82 :: z 83 :: z 84 :: z 85 :: z 86 :: z 87 :: z 88 :: z 89 :: z 90 :: z 91 :: z 92 :: z 93 :: z 94 :: z 95 :: z 96 :: z 97 :: z 98 :: z 99 :: z 100 :: z 101 :: z 102 :: z 103 :: z 104 :: z 105 :: z 106 :: z 107 :: z 108 :: z 109 :: z 110 :: z 111 :: z 112 :: z 113 :: z 114 :: z 115 :: z 116 :: z 117 :: z 118 :: z 119 :: z 120 :: z 121 :: z 122 :: z 123 :: z 124 :: z 125 :: z 126 :: z 127 :: z 128 :: z 129 :: z 130 :: z 131 :: z 132 :: z 133 :: z 134 :: z 135 :: z 136 :: z 137 :: z 138 :: z 139 :: z 140 :: z 141 :: z 142 :: z 143 :: z 144 :: z 145 :: z 146 :: z 147 :: z 148 :: z 149 :: z 150 :: z 151 :: z 152 :: z 153 :: z 154 :: z 155 :: z 156 :: z 157 :: z 158 :: z 159 :: [])) w Kz1) 5 ?_ ?_
  · cases hA : finS at_ n (madeL l0) with
    | none =>
      have hB : finS at_ (n + k) (madeL l0) = none := by cases h : finS at_ (n + k) (madeL l0) with | none => rfl | some b => obtain ⟨a, h1, _⟩ := fin_more hfr b2.1 b3.1 h; rw [hA] at h1; cases h1
      have hC : finS th n (madeL l0) = none := by cases h : finS th n (madeL l0) with | none => rfl | some b => obtain ⟨a, h1, _⟩ := fin_later hfr b2.1 (Int.le_refl n) b1.2.1 h; rw [hA] at h1; cases h1
      refine (show Code.wp _ _ _ _ _ from ?_)
      refine wp_region_L (W0 := w) Kz1 (hW5) ?_
      refine lm (v := .slice pm0 (madeL l0).length cm0) rfl rfl ?_
      refine lm (v := .int .i64 at_) rfl rfl ?_
      refine lm (v := .int .i64 n) rfl rfl ?_
      refine lv (v := .tuple #[.int .i64 0, .int .i64 6]) rfl rfl (yb_call (f := 20) (args := #[.slice pm0 (madeL l0).length cm0, .int .i64 at_, .int .i64 n]) (fun _ => by kernel_rfl) fun W hW => finish_is (hasM0 W (hW.sub (fun q h => h))).sl hap (by omega) (by omega) hA) ?_
      refine lm (v := .tuple #[.int .i64 0, .int .i64 6]) rfl rfl ?_
      refine lm (v := .int .i64 0) rfl rfl ?_
      refine lm (v := .int .i64 6) rfl rfl ?_
      refine lm (v := .int .i64 0) rfl rfl ?_
      refine lm (v := .int .i64 6) rfl rfl ?_
      refine wpL_done (fun W6 hW6 => ?_)
      clear hW5
      refine (show Code.wp _ _ _ _ _ from ?_)
      refine wp_region_L (W0 := w) Kz1 (hW6) ?_
      refine lm (v := .slice pm0 (madeL l0).length cm0) rfl rfl ?_
      refine lm (v := .int .i64 at_) rfl rfl ?_
      refine lm (v := .int .i64 n) rfl rfl ?_
      refine lm (v := .int .i64 k) rfl rfl ?_
      refine lp (v := .int .i64 (n + k)) rfl rfl (run_bin rfl (vx := .int .i64 n) (vy := .int .i64 k) (by kernel_rfl) (by kernel_rfl) fun w => run_addI (z := (n + k)) rfl (by omega) w) ?_
      refine lv (v := .tuple #[.int .i64 0, .int .i64 6]) rfl rfl (yb_call (f := 20) (args := #[.slice pm0 (madeL l0).length cm0, .int .i64 at_, .int .i64 (n + k)]) (fun _ => by kernel_rfl) fun W hW => finish_is (hasM0 W (hW.sub (fun q h => h))).sl hap (by omega) (by omega) hB) ?_
      refine lm (v := .tuple #[.int .i64 0, .int .i64 6]) rfl rfl ?_
      refine lm (v := .int .i64 0) rfl rfl ?_
      refine lm (v := .int .i64 6) rfl rfl ?_
      refine lm (v := .int .i64 0) rfl rfl ?_
      refine lm (v := .int .i64 6) rfl rfl ?_
      refine wpL_done (fun W7 hW7 => ?_)
      clear hW6
      refine (show Code.wp _ _ _ _ _ from ?_)
      refine wp_region_L (W0 := w) Kz1 (hW7) ?_
      refine lm (v := .slice pm0 (madeL l0).length cm0) rfl rfl ?_
      refine lm (v := .int .i64 th) rfl rfl ?_
      refine lm (v := .int .i64 n) rfl rfl ?_
      refine lv (v := .tuple #[.int .i64 0, .int .i64 6]) rfl rfl (yb_call (f := 20) (args := #[.slice pm0 (madeL l0).length cm0, .int .i64 th, .int .i64 n]) (fun _ => by kernel_rfl) fun W hW => finish_is (hasM0 W (hW.sub (fun q h => h))).sl hap (by omega) (by omega) hC) ?_
      refine lm (v := .tuple #[.int .i64 0, .int .i64 6]) rfl rfl ?_
      refine lm (v := .int .i64 0) rfl rfl ?_
      refine lm (v := .int .i64 6) rfl rfl ?_
      refine lm (v := .int .i64 0) rfl rfl ?_
      refine lm (v := .int .i64 6) rfl rfl ?_
      refine wpL_done (fun W8 hW8 => ?_)
      clear hW7
      refine (show Code.wp _ _ _ _ _ from ?_)
      refine wp_seq ?_
      refine wp_region_L (W0 := w) Kz1 (hW8) ?_
      refine lm (v := .int .i64 6) rfl rfl ?_
      refine lm (v := .bool false) rfl rfl ?_
      refine lm (v := .bool false) rfl rfl ?_
      refine ln rfl ?_
      refine ln rfl ?_
      refine ln rfl ?_
      refine ln rfl ?_
      refine ln rfl ?_
      refine ln rfl ?_
      refine ln rfl ?_
      refine lm (v := .bool false) rfl rfl ?_
      refine lm (v := .bool false) rfl rfl ?_
      refine lm (v := .int .i64 6) rfl rfl ?_
      refine lm (v := .bool false) rfl rfl ?_
      refine lm (v := .bool false) rfl rfl ?_
      refine ln rfl ?_
      refine ln rfl ?_
      refine ln rfl ?_
      refine ln rfl ?_
      refine ln rfl ?_
      refine ln rfl ?_
      refine ln rfl ?_
      refine lm (v := .bool false) rfl rfl ?_
      refine lm (v := .bool false) rfl rfl ?_
      refine wpL_done (fun W9 hW9 => ?_)
      clear hW8
      refine (show Code.wp _ _ _ _ _ from ?_)
      refine wp_cond_false rfl ?_
      refine wp_skip ?_
      refine (show Code.wp _ _ _ _ _ from ?_)
      refine wp_seq ?_
      refine wp_region_L (W0 := w) Kz1 (hW9) ?_
      refine lm (v := .int .i64 6) rfl rfl ?_
      refine lm (v := .bool false) rfl rfl ?_
      refine wpL_done (fun W10 hW10 => ?_)
      clear hW9
      refine (show Code.wp _ _ _ _ _ from ?_)
      refine wp_cond_false rfl ?_
      refine wp_skip ?_
      exact join_mk (by kernel_rfl) hW10
    | some a =>
      have hpa := fin_pos hfr b2.1 hA
      have hD := fin_parts hfr b2.1 b3.1 hA
      cases hB : finS at_ (n + k) (madeL l0) with
      | none =>
        rw [hB] at hD
        cases hC : finS th n (madeL l0) with
        | none =>
          refine (show Code.wp _ _ _ _ _ from ?_)
          refine wp_region_L (W0 := w) Kz1 (hW5) ?_
          refine lm (v := .slice pm0 (madeL l0).length cm0) rfl rfl ?_
          refine lm (v := .int .i64 at_) rfl rfl ?_
          refine lm (v := .int .i64 n) rfl rfl ?_
          refine lv (v := .tuple #[.int .i64 a, .int .i64 0]) rfl rfl (yb_call (f := 20) (args := #[.slice pm0 (madeL l0).length cm0, .int .i64 at_, .int .i64 n]) (fun _ => by kernel_rfl) fun W hW => finish_is (hasM0 W (hW.sub (fun q h => h))).sl hap (by omega) (by omega) hA) ?_
          refine lm (v := .tuple #[.int .i64 a, .int .i64 0]) rfl rfl ?_
          refine lm (v := .int .i64 a) rfl rfl ?_
          refine lm (v := .int .i64 0) rfl rfl ?_
          refine lm (v := .int .i64 a) rfl rfl ?_
          refine lm (v := .int .i64 0) rfl rfl ?_
          refine wpL_done (fun W6 hW6 => ?_)
          clear hW5
          refine (show Code.wp _ _ _ _ _ from ?_)
          refine wp_region_L (W0 := w) Kz1 (hW6) ?_
          refine lm (v := .slice pm0 (madeL l0).length cm0) rfl rfl ?_
          refine lm (v := .int .i64 at_) rfl rfl ?_
          refine lm (v := .int .i64 n) rfl rfl ?_
          refine lm (v := .int .i64 k) rfl rfl ?_
          refine lp (v := .int .i64 (n + k)) rfl rfl (run_bin rfl (vx := .int .i64 n) (vy := .int .i64 k) (by kernel_rfl) (by kernel_rfl) fun w => run_addI (z := (n + k)) rfl (by omega) w) ?_
          refine lv (v := .tuple #[.int .i64 0, .int .i64 6]) rfl rfl (yb_call (f := 20) (args := #[.slice pm0 (madeL l0).length cm0, .int .i64 at_, .int .i64 (n + k)]) (fun _ => by kernel_rfl) fun W hW => finish_is (hasM0 W (hW.sub (fun q h => h))).sl hap (by omega) (by omega) hB) ?_
          refine lm (v := .tuple #[.int .i64 0, .int .i64 6]) rfl rfl ?_
          refine lm (v := .int .i64 0) rfl rfl ?_
          refine lm (v := .int .i64 6) rfl rfl ?_
          refine lm (v := .int .i64 0) rfl rfl ?_
          refine lm (v := .int .i64 6) rfl rfl ?_
          refine wpL_done (fun W7 hW7 => ?_)
          clear hW6
          refine (show Code.wp _ _ _ _ _ from ?_)
          refine wp_region_L (W0 := w) Kz1 (hW7) ?_
          refine lm (v := .slice pm0 (madeL l0).length cm0) rfl rfl ?_
          refine lm (v := .int .i64 th) rfl rfl ?_
          refine lm (v := .int .i64 n) rfl rfl ?_
          refine lv (v := .tuple #[.int .i64 0, .int .i64 6]) rfl rfl (yb_call (f := 20) (args := #[.slice pm0 (madeL l0).length cm0, .int .i64 th, .int .i64 n]) (fun _ => by kernel_rfl) fun W hW => finish_is (hasM0 W (hW.sub (fun q h => h))).sl hap (by omega) (by omega) hC) ?_
          refine lm (v := .tuple #[.int .i64 0, .int .i64 6]) rfl rfl ?_
          refine lm (v := .int .i64 0) rfl rfl ?_
          refine lm (v := .int .i64 6) rfl rfl ?_
          refine lm (v := .int .i64 0) rfl rfl ?_
          refine lm (v := .int .i64 6) rfl rfl ?_
          refine wpL_done (fun W8 hW8 => ?_)
          clear hW7
          refine (show Code.wp _ _ _ _ _ from ?_)
          refine wp_seq ?_
          refine wp_region_L (W0 := w) Kz1 (hW8) ?_
          refine lm (v := .int .i64 6) rfl rfl ?_
          refine lm (v := .bool false) rfl rfl ?_
          refine lm (v := .bool false) rfl rfl ?_
          refine ln rfl ?_
          refine ln rfl ?_
          refine ln rfl ?_
          refine ln rfl ?_
          refine ln rfl ?_
          refine ln rfl ?_
          refine ln rfl ?_
          refine lm (v := .bool false) rfl rfl ?_
          refine lm (v := .bool false) rfl rfl ?_
          refine lm (v := .int .i64 6) rfl rfl ?_
          refine lm (v := .bool false) rfl rfl ?_
          refine lm (v := .bool false) rfl rfl ?_
          refine ln rfl ?_
          refine ln rfl ?_
          refine ln rfl ?_
          refine ln rfl ?_
          refine ln rfl ?_
          refine ln rfl ?_
          refine ln rfl ?_
          refine lm (v := .bool false) rfl rfl ?_
          refine lm (v := .bool false) rfl rfl ?_
          refine wpL_done (fun W9 hW9 => ?_)
          clear hW8
          refine (show Code.wp _ _ _ _ _ from ?_)
          refine wp_cond_false rfl ?_
          refine wp_skip ?_
          refine (show Code.wp _ _ _ _ _ from ?_)
          refine wp_seq ?_
          refine wp_region_L (W0 := w) Kz1 (hW9) ?_
          refine lm (v := .int .i64 0) rfl rfl ?_
          refine lm (v := .bool true) rfl rfl ?_
          refine wpL_done (fun W10 hW10 => ?_)
          clear hW9
          refine (show Code.wp _ _ _ _ _ from ?_)
          refine wp_cond_true rfl ?_
          refine wp_seq ?_
          refine wp_region_L (W0 := w) Kz1 (hW10) ?_
          refine lm (v := .slice pm0 (madeL l0).length cm0) rfl rfl ?_
          refine lm (v := .int .i64 a) rfl rfl ?_
          refine lm (v := .int .i64 k) rfl rfl ?_
          refine lv (v := .tuple #[.int .i64 0, .int .i64 6]) rfl rfl (yb_call (f := 20) (args := #[.slice pm0 (madeL l0).length cm0, .int .i64 a, .int .i64 k]) (fun _ => by kernel_rfl) fun W hW => finish_is (hasM0 W (hW.sub (fun q h => h))).sl hap (by omega) (by omega) hD) ?_
          refine lm (v := .tuple #[.int .i64 0, .int .i64 6]) rfl rfl ?_
          refine lm (v := .int .i64 0) rfl rfl ?_
          refine lm (v := .int .i64 6) rfl rfl ?_
          refine lm (v := .int .i64 0) rfl rfl ?_
          refine lm (v := .int .i64 6) rfl rfl ?_
          refine wpL_done (fun W11 hW11 => ?_)
          clear hW10
          refine (show Code.wp _ _ _ _ _ from ?_)
          refine wp_seq ?_
          refine wp_region_L (W0 := w) Kz1 (hW11) ?_
          refine lm (v := .int .i64 6) rfl rfl ?_
          refine lm (v := .int .i64 6) rfl rfl ?_
          refine lm (v := .bool false) rfl rfl ?_
          refine lm (v := .bool false) rfl rfl ?_
          refine lm (v := .int .i64 0) rfl rfl ?_
          refine lm (v := .int .i64 0) rfl rfl ?_
          refine lm (v := .bool false) rfl rfl ?_
          refine lm (v := .bool false) rfl rfl ?_
          refine wpL_done (fun W12 hW12 => ?_)
          clear hW11
          refine (show Code.wp _ _ _ _ _ from ?_)
          refine wp_cond_false rfl ?_
          refine wp_skip ?_
          exact join_mk (by kernel_rfl) hW12
        | some c =>
          have hac : a ≤ c := by obtain ⟨a2, h1, h2⟩ := fin_later hfr b2.1 (Int.le_refl n) b1.2.1 hC; rw [hA] at h1; cases h1; exact h2
          refine (show Code.wp _ _ _ _ _ from ?_)
          refine wp_region_L (W0 := w) Kz1 (hW5) ?_
          refine lm (v := .slice pm0 (madeL l0).length cm0) rfl rfl ?_
          refine lm (v := .int .i64 at_) rfl rfl ?_
          refine lm (v := .int .i64 n) rfl rfl ?_
          refine lv (v := .tuple #[.int .i64 a, .int .i64 0]) rfl rfl (yb_call (f := 20) (args := #[.slice pm0 (madeL l0).length cm0, .int .i64 at_, .int .i64 n]) (fun _ => by kernel_rfl) fun W hW => finish_is (hasM0 W (hW.sub (fun q h => h))).sl hap (by omega) (by omega) hA) ?_
          refine lm (v := .tuple #[.int .i64 a, .int .i64 0]) rfl rfl ?_
          refine lm (v := .int .i64 a) rfl rfl ?_
          refine lm (v := .int .i64 0) rfl rfl ?_
          refine lm (v := .int .i64 a) rfl rfl ?_
          refine lm (v := .int .i64 0) rfl rfl ?_
          refine wpL_done (fun W6 hW6 => ?_)
          clear hW5
          refine (show Code.wp _ _ _ _ _ from ?_)
          refine wp_region_L (W0 := w) Kz1 (hW6) ?_
          refine lm (v := .slice pm0 (madeL l0).length cm0) rfl rfl ?_
          refine lm (v := .int .i64 at_) rfl rfl ?_
          refine lm (v := .int .i64 n) rfl rfl ?_
          refine lm (v := .int .i64 k) rfl rfl ?_
          refine lp (v := .int .i64 (n + k)) rfl rfl (run_bin rfl (vx := .int .i64 n) (vy := .int .i64 k) (by kernel_rfl) (by kernel_rfl) fun w => run_addI (z := (n + k)) rfl (by omega) w) ?_
          refine lv (v := .tuple #[.int .i64 0, .int .i64 6]) rfl rfl (yb_call (f := 20) (args := #[.slice pm0 (madeL l0).length cm0, .int .i64 at_, .int .i64 (n + k)]) (fun _ => by kernel_rfl) fun W hW => finish_is (hasM0 W (hW.sub (fun q h => h))).sl hap (by omega) (by omega) hB) ?_
          refine lm (v := .tuple #[.int .i64 0, .int .i64 6]) rfl rfl ?_
          refine lm (v := .int .i64 0) rfl rfl ?_
          refine lm (v := .int .i64 6) rfl rfl ?_
          refine lm (v := .int .i64 0) rfl rfl ?_
          refine lm (v := .int .i64 6) rfl rfl ?_
          refine wpL_done (fun W7 hW7 => ?_)
          clear hW6
          refine (show Code.wp _ _ _ _ _ from ?_)
          refine wp_region_L (W0 := w) Kz1 (hW7) ?_
          refine lm (v := .slice pm0 (madeL l0).length cm0) rfl rfl ?_
          refine lm (v := .int .i64 th) rfl rfl ?_
          refine lm (v := .int .i64 n) rfl rfl ?_
          refine lv (v := .tuple #[.int .i64 c, .int .i64 0]) rfl rfl (yb_call (f := 20) (args := #[.slice pm0 (madeL l0).length cm0, .int .i64 th, .int .i64 n]) (fun _ => by kernel_rfl) fun W hW => finish_is (hasM0 W (hW.sub (fun q h => h))).sl hap (by omega) (by omega) hC) ?_
          refine lm (v := .tuple #[.int .i64 c, .int .i64 0]) rfl rfl ?_
          refine lm (v := .int .i64 c) rfl rfl ?_
          refine lm (v := .int .i64 0) rfl rfl ?_
          refine lm (v := .int .i64 c) rfl rfl ?_
          refine lm (v := .int .i64 0) rfl rfl ?_
          refine wpL_done (fun W8 hW8 => ?_)
          clear hW7
          refine (show Code.wp _ _ _ _ _ from ?_)
          refine wp_seq ?_
          refine wp_region_L (W0 := w) Kz1 (hW8) ?_
          refine lm (v := .int .i64 6) rfl rfl ?_
          refine lm (v := .bool false) rfl rfl ?_
          refine lm (v := .bool false) rfl rfl ?_
          refine ln rfl ?_
          refine ln rfl ?_
          refine ln rfl ?_
          refine ln rfl ?_
          refine ln rfl ?_
          refine ln rfl ?_
          refine ln rfl ?_
          refine lm (v := .bool false) rfl rfl ?_
          refine lm (v := .bool false) rfl rfl ?_
          refine lm (v := .int .i64 0) rfl rfl ?_
          refine lm (v := .bool true) rfl rfl ?_
          refine lm (v := .bool true) rfl rfl ?_
          refine lm (v := .int .i64 0) rfl rfl ?_
          refine lm (v := .bool false) rfl rfl ?_
          refine lm (v := .bool false) rfl rfl ?_
          refine lm (v := .int .i64 c) rfl rfl ?_
          refine lm (v := .int .i64 a) rfl rfl ?_
          refine lp (v := .bool false) rfl rfl (run_bin rfl (vx := .int .i64 c) (vy := .int .i64 a) (by kernel_rfl) (by kernel_rfl) fun w => run_lssI (decide_eq_false (by omega)) w) ?_
          refine lm (v := .bool false) rfl rfl ?_
          refine lm (v := .bool false) rfl rfl ?_
          refine lm (v := .bool false) rfl rfl ?_
          refine wpL_done (fun W9 hW9 => ?_)
          clear hW8
          refine (show Code.wp _ _ _ _ _ from ?_)
          refine wp_cond_false rfl ?_
          refine wp_skip ?_
          refine (show Code.wp _ _ _ _ _ from ?_)
          refine wp_seq ?_
          refine wp_region_L (W0 := w) Kz1 (hW9) ?_
          refine lm (v := .int .i64 0) rfl rfl ?_
          refine lm (v := .bool true) rfl rfl ?_
          refine wpL_done (fun W10 hW10 => ?_)
          clear hW9
          refine (show Code.wp _ _ _ _ _ from ?_)
          refine wp_cond_true rfl ?_
          refine wp_seq ?_
          refine wp_region_L (W0 := w) Kz1 (hW10) ?_
          refine lm (v := .slice pm0 (madeL l0).length cm0) rfl rfl ?_
          refine lm (v := .int .i64 a) rfl rfl ?_
          refine lm (v := .int .i64 k) rfl rfl ?_
          refine lv (v := .tuple #[.int .i64 0, .int .i64 6]) rfl rfl (yb_call (f := 20) (args := #[.slice pm0 (madeL l0).length cm0, .int .i64 a, .int .i64 k]) (fun _ => by kernel_rfl) fun W hW => finish_is (hasM0 W (hW.sub (fun q h => h))).sl hap (by omega) (by omega) hD) ?_
          refine lm (v := .tuple #[.int .i64 0, .int .i64 6]) rfl rfl ?_
          refine lm (v := .int .i64 0) rfl rfl ?_
          refine lm (v := .int .i64 6) rfl rfl ?_
          refine lm (v := .int .i64 0) rfl rfl ?_
          refine lm (v := .int .i64 6) rfl rfl ?_
          refine wpL_done (fun W11 hW11 => ?_)
          clear hW10
          refine (show Code.wp _ _ _ _ _ from ?_)
          refine wp_seq ?_
          refine wp_region_L (W0 := w) Kz1 (hW11) ?_
          refine lm (v := .int .i64 6) rfl rfl ?_
          refine lm (v := .int .i64 6) rfl rfl ?_
          refine lm (v := .bool false) rfl rfl ?_
          refine lm (v := .bool false) rfl rfl ?_
          refine lm (v := .int .i64 0) rfl rfl ?_
          refine lm (v := .int .i64 0) rfl rfl ?_
          refine lm (v := .bool false) rfl rfl ?_
          refine lm (v := .bool false) rfl rfl ?_
          refine wpL_done (fun W12 hW12 => ?_)
          clear hW11
          refine (show Code.wp _ _ _ _ _ from ?_)
          refine wp_cond_false rfl ?_
          refine wp_skip ?_
          exact join_mk (by kernel_rfl) hW12
      | some b =>
        rw [hB] at hD
        have hab : a < b := by obtain ⟨a2, h1, h2⟩ := fin_more hfr b2.1 b3.1 hB; rw [hA] at h1; cases h1; exact h2
        cases hC : finS th n (madeL l0) with
        | none =>
          refine (show Code.wp _ _ _ _ _ from ?_)
          refine wp_region_L (W0 := w) Kz1 (hW5) ?_
          refine lm (v := .slice pm0 (madeL l0).length cm0) rfl rfl ?_
          refine lm (v := .int .i64 at_) rfl rfl ?_
          refine lm (v := .int .i64 n) rfl rfl ?_
          refine lv (v := .tuple #[.int .i64 a, .int .i64 0]) rfl rfl (yb_call (f := 20) (args := #[.slice pm0 (madeL l0).length cm0, .int .i64 at_, .int .i64 n]) (fun _ => by kernel_rfl) fun W hW => finish_is (hasM0 W (hW.sub (fun q h => h))).sl hap (by omega) (by omega) hA) ?_
          refine lm (v := .tuple #[.int .i64 a, .int .i64 0]) rfl rfl ?_
          refine lm (v := .int .i64 a) rfl rfl ?_
          refine lm (v := .int .i64 0) rfl rfl ?_
          refine lm (v := .int .i64 a) rfl rfl ?_
          refine lm (v := .int .i64 0) rfl rfl ?_
          refine wpL_done (fun W6 hW6 => ?_)
          clear hW5
          refine (show Code.wp _ _ _ _ _ from ?_)
          refine wp_region_L (W0 := w) Kz1 (hW6) ?_
          refine lm (v := .slice pm0 (madeL l0).length cm0) rfl rfl ?_
          refine lm (v := .int .i64 at_) rfl rfl ?_
          refine lm (v := .int .i64 n) rfl rfl ?_
          refine lm (v := .int .i64 k) rfl rfl ?_
          refine lp (v := .int .i64 (n + k)) rfl rfl (run_bin rfl (vx := .int .i64 n) (vy := .int .i64 k) (by kernel_rfl) (by kernel_rfl) fun w => run_addI (z := (n + k)) rfl (by omega) w) ?_
          refine lv (v := .tuple #[.int .i64 b, .int .i64 0]) rfl rfl (yb_call (f := 20) (args := #[.slice pm0 (madeL l0).length cm0, .int .i64 at_, .int .i64 (n + k)]) (fun _ => by kernel_rfl) fun W hW => finish_is (hasM0 W (hW.sub (fun q h => h))).sl hap (by omega) (by omega) hB) ?_
          refine lm (v := .tuple #[.int .i64 b, .int .i64 0]) rfl rfl ?_
          refine lm (v := .int .i64 b) rfl rfl ?_
          refine lm (v := .int .i64 0) rfl rfl ?_
          refine lm (v := .int .i64 b) rfl rfl ?_
          refine lm (v := .int .i64 0) rfl rfl ?_
          refine wpL_done (fun W7 hW7 => ?_)
          clear hW6
          refine (show Code.wp _ _ _ _ _ from ?_)
          refine wp_region_L (W0 := w) Kz1 (hW7) ?_
          refine lm (v := .slice pm0 (madeL l0).length cm0) rfl rfl ?_
          refine lm (v := .int .i64 th) rfl rfl ?_
          refine lm (v := .int .i64 n) rfl rfl ?_
          refine lv (v := .tuple #[.int .i64 0, .int .i64 6]) rfl rfl (yb_call (f := 20) (args := #[.slice pm0 (madeL l0).length cm0, .int .i64 th, .int .i64 n]) (fun _ => by kernel_rfl) fun W hW => finish_is (hasM0 W (hW.sub (fun q h => h))).sl hap (by omega) (by omega) hC) ?_
          refine lm (v := .tuple #[.int .i64 0, .int .i64 6]) rfl rfl ?_
          refine lm (v := .int .i64 0) rfl rfl ?_
          refine lm (v := .int .i64 6) rfl rfl ?_
          refine lm (v := .int .i64 0) rfl rfl ?_
          refine lm (v := .int .i64 6) rfl rfl ?_
          refine wpL_done (fun W8 hW8 => ?_)
          clear hW7
          refine (show Code.wp _ _ _ _ _ from ?_)
          refine wp_seq ?_
          refine wp_region_L (W0 := w) Kz1 (hW8) ?_
          refine lm (v := .int .i64 0) rfl rfl ?_
          refine lm (v := .bool true) rfl rfl ?_
          refine lm (v := .bool true) rfl rfl ?_
          refine lm (v := .int .i64 0) rfl rfl ?_
          refine lm (v := .bool false) rfl rfl ?_
          refine lm (v := .bool false) rfl rfl ?_
          refine lm (v := .int .i64 b) rfl rfl ?_
          refine lm (v := .int .i64 a) rfl rfl ?_
          refine lp (v := .bool false) rfl rfl (run_bin rfl (vx := .int .i64 b) (vy := .int .i64 a) (by kernel_rfl) (by kernel_rfl) fun w => run_leqI (decide_eq_false (by omega)) w) ?_
          refine lm (v := .bool false) rfl rfl ?_
          refine lm (v := .bool false) rfl rfl ?_
          refine lm (v := .bool false) rfl rfl ?_
          refine lm (v := .int .i64 6) rfl rfl ?_
          refine lm (v := .bool false) rfl rfl ?_
          refine lm (v := .bool false) rfl rfl ?_
          refine ln rfl ?_
          refine ln rfl ?_
          refine ln rfl ?_
          refine ln rfl ?_
          refine ln rfl ?_
          refine ln rfl ?_
          refine ln rfl ?_
          refine lm (v := .bool false) rfl rfl ?_
          refine lm (v := .bool false) rfl rfl ?_
          refine wpL_done (fun W9 hW9 => ?_)
          clear hW8
          refine (show Code.wp _ _ _ _ _ from ?_)
          refine wp_cond_false rfl ?_
          refine wp_skip ?_
          refine (show Code.wp _ _ _ _ _ from ?_)
          refine wp_seq ?_
          refine wp_region_L (W0 := w) Kz1 (hW9) ?_
          refine lm (v := .int .i64 0) rfl rfl ?_
          refine lm (v := .bool true) rfl rfl ?_
          refine wpL_done (fun W10 hW10 => ?_)
          clear hW9
          refine (show Code.wp _ _ _ _ _ from ?_)
          refine wp_cond_true rfl ?_
          refine wp_seq ?_
          refine wp_region_L (W0 := w) Kz1 (hW10) ?_
          refine lm (v := .slice pm0 (madeL l0).length cm0) rfl rfl ?_
          refine lm (v := .int .i64 a) rfl rfl ?_
          refine lm (v := .int .i64 k) rfl rfl ?_
          refine lv (v := .tuple #[.int .i64 b, .int .i64 0]) rfl rfl (yb_call (f := 20) (args := #[.slice pm0 (madeL l0).length cm0, .int .i64 a, .int .i64 k]) (fun _ => by kernel_rfl) fun W hW => finish_is (hasM0 W (hW.sub (fun q h => h))).sl hap (by omega) (by omega) hD) ?_
          refine lm (v := .tuple #[.int .i64 b, .int .i64 0]) rfl rfl ?_
          refine lm (v := .int .i64 b) rfl rfl ?_
          refine lm (v := .int .i64 0) rfl rfl ?_
          refine lm (v := .int .i64 b) rfl rfl ?_
          refine lm (v := .int .i64 0) rfl rfl ?_
          refine wpL_done (fun W11 hW11 => ?_)
          clear hW10
          refine (show Code.wp _ _ _ _ _ from ?_)
          refine wp_seq ?_
          refine wp_region_L (W0 := w) Kz1 (hW11) ?_
          refine lm (v := .int .i64 0) rfl rfl ?_
          refine lm (v := .int .i64 0) rfl rfl ?_
          refine lm (v := .bool false) rfl rfl ?_
          refine lm (v := .bool false) rfl rfl ?_
          refine lm (v := .int .i64 b) rfl rfl ?_
          refine lm (v := .int .i64 b) rfl rfl ?_
          refine lp (v := .bool false) rfl rfl (run_bin rfl (vx := .int .i64 b) (vy := .int .i64 b) (by kernel_rfl) (by kernel_rfl) fun w => run_neqI (decide_eq_true rfl) w) ?_
          refine lm (v := .bool false) rfl rfl ?_
          refine wpL_done (fun W12 hW12 => ?_)
          clear hW11
          refine (show Code.wp _ _ _ _ _ from ?_)
          refine wp_cond_false rfl ?_
          refine wp_skip ?_
          exact join_mk (by kernel_rfl) hW12
        | some c =>
          have hac : a ≤ c := by obtain ⟨a2, h1, h2⟩ := fin_later hfr b2.1 (Int.le_refl n) b1.2.1 hC; rw [hA] at h1; cases h1; exact h2
          refine (show Code.wp _ _ _ _ _ from ?_)
          refine wp_region_L (W0 := w) Kz1 (hW5) ?_
          refine lm (v := .slice pm0 (madeL l0).length cm0) rfl rfl ?_
          refine lm (v := .int .i64 at_) rfl rfl ?_
          refine lm (v := .int .i64 n) rfl rfl ?_
          refine lv (v := .tuple #[.int .i64 a, .int .i64 0]) rfl rfl (yb_call (f := 20) (args := #[.slice pm0 (madeL l0).length cm0, .int .i64 at_, .int .i64 n]) (fun _ => by kernel_rfl) fun W hW => finish_is (hasM0 W (hW.sub (fun q h => h))).sl hap (by omega) (by omega) hA) ?_
          refine lm (v := .tuple #[.int .i64 a, .int .i64 0]) rfl rfl ?_
          refine lm (v := .int .i64 a) rfl rfl ?_
          refine lm (v := .int .i64 0) rfl rfl ?_
          refine lm (v := .int .i64 a) rfl rfl ?_
          refine lm (v := .int .i64 0) rfl rfl ?_
          refine wpL_done (fun W6 hW6 => ?_)
          clear hW5
          refine (show Code.wp _ _ _ _ _ from ?_)
          refine wp_region_L (W0 := w) Kz1 (hW6) ?_
          refine lm (v := .slice pm0 (madeL l0).length cm0) rfl rfl ?_
          refine lm (v := .int .i64 at_) rfl rfl ?_
          refine lm (v := .int .i64 n) rfl rfl ?_
          refine lm (v := .int .i64 k) rfl rfl ?_
          refine lp (v := .int .i64 (n + k)) rfl rfl (run_bin rfl (vx := .int .i64 n) (vy := .int .i64 k) (by kernel_rfl) (by kernel_rfl) fun w => run_addI (z := (n + k)) rfl (by omega) w) ?_
          refine lv (v := .tuple #[.int .i64 b, .int .i64 0]) rfl rfl (yb_call (f := 20) (args := #[.slice pm0 (madeL l0).length cm0, .int .i64 at_, .int .i64 (n + k)]) (fun _ => by kernel_rfl) fun W hW => finish_is (hasM0 W (hW.sub (fun q h => h))).sl hap (by omega) (by omega) hB) ?_
          refine lm (v := .tuple #[.int .i64 b, .int .i64 0]) rfl rfl ?_
          refine lm (v := .int .i64 b) rfl rfl ?_
          refine lm (v := .int .i64 0) rfl rfl ?_
          refine lm (v := .int .i64 b) rfl rfl ?_
          refine lm (v := .int .i64 0) rfl rfl ?_
          refine wpL_done (fun W7 hW7 => ?_)
          clear hW6
          refine (show Code.wp _ _ _ _ _ from ?_)
          refine wp_region_L (W0 := w) Kz1 (hW7) ?_
          refine lm (v := .slice pm0 (madeL l0).length cm0) rfl rfl ?_
          refine lm (v := .int .i64 th) rfl rfl ?_
          refine lm (v := .int .i64 n) rfl rfl ?_
          refine lv (v := .tuple #[.int .i64 c, .int .i64 0]) rfl rfl (yb_call (f := 20) (args := #[.slice pm0 (madeL l0).length cm0, .int .i64 th, .int .i64 n]) (fun _ => by kernel_rfl) fun W hW => finish_is (hasM0 W (hW.sub (fun q h => h))).sl hap (by omega) (by omega) hC) ?_
          refine lm (v := .tuple #[.int .i64 c, .int .i64 0]) rfl rfl ?_
          refine lm (v := .int .i64 c) rfl rfl ?_
          refine lm (v := .int .i64 0) rfl rfl ?_
          refine lm (v := .int .i64 c) rfl rfl ?_
          refine lm (v := .int .i64 0) rfl rfl ?_
          refine wpL_done (fun W8 hW8 => ?_)
          clear hW7
          refine (show Code.wp _ _ _ _ _ from ?_)
          refine wp_seq ?_
          refine wp_region_L (W0 := w) Kz1 (hW8) ?_
          refine lm (v := .int .i64 0) rfl rfl ?_
          refine lm (v := .bool true) rfl rfl ?_
          refine lm (v := .bool true) rfl rfl ?_
          refine lm (v := .int .i64 0) rfl rfl ?_
          refine lm (v := .bool false) rfl rfl ?_
          refine lm (v := .bool false) rfl rfl ?_
          refine lm (v := .int .i64 b) rfl rfl ?_
          refine lm (v := .int .i64 a) rfl rfl ?_
          refine lp (v := .bool false) rfl rfl (run_bin rfl (vx := .int .i64 b) (vy := .int .i64 a) (by kernel_rfl) (by kernel_rfl) fun w => run_leqI (decide_eq_false (by omega)) w) ?_
          refine lm (v := .bool false) rfl rfl ?_
          refine lm (v := .bool false) rfl rfl ?_
          refine lm (v := .bool false) rfl rfl ?_
          refine lm (v := .int .i64 0) rfl rfl ?_
          refine lm (v := .bool true) rfl rfl ?_
          refine lm (v := .bool true) rfl rfl ?_
          refine lm (v := .int .i64 0) rfl rfl ?_
          refine lm (v := .bool false) rfl rfl ?_
          refine lm (v := .bool false) rfl rfl ?_
          refine lm (v := .int .i64 c) rfl rfl ?_
          refine lm (v := .int .i64 a) rfl rfl ?_
          refine lp (v := .bool false) rfl rfl (run_bin rfl (vx := .int .i64 c) (vy := .int .i64 a) (by kernel_rfl) (by kernel_rfl) fun w => run_lssI (decide_eq_false (by omega)) w) ?_
          refine lm (v := .bool false) rfl rfl ?_
          refine lm (v := .bool false) rfl rfl ?_
          refine lm (v := .bool false) rfl rfl ?_
          refine wpL_done (fun W9 hW9 => ?_)
          clear hW8
          refine (show Code.wp _ _ _ _ _ from ?_)
          refine wp_cond_false rfl ?_
          refine wp_skip ?_
          refine (show Code.wp _ _ _ _ _ from ?_)
          refine wp_seq ?_
          refine wp_region_L (W0 := w) Kz1 (hW9) ?_
          refine lm (v := .int .i64 0) rfl rfl ?_
          refine lm (v := .bool true) rfl rfl ?_
          refine wpL_done (fun W10 hW10 => ?_)
          clear hW9
          refine (show Code.wp _ _ _ _ _ from ?_)
          refine wp_cond_true rfl ?_
          refine wp_seq ?_
          refine wp_region_L (W0 := w) Kz1 (hW10) ?_
          refine lm (v := .slice pm0 (madeL l0).length cm0) rfl rfl ?_
          refine lm (v := .int .i64 a) rfl rfl ?_
          refine lm (v := .int .i64 k) rfl rfl ?_
          refine lv (v := .tuple #[.int .i64 b, .int .i64 0]) rfl rfl (yb_call (f := 20) (args := #[.slice pm0 (madeL l0).length cm0, .int .i64 a, .int .i64 k]) (fun _ => by kernel_rfl) fun W hW => finish_is (hasM0 W (hW.sub (fun q h => h))).sl hap (by omega) (by omega) hD) ?_
          refine lm (v := .tuple #[.int .i64 b, .int .i64 0]) rfl rfl ?_
          refine lm (v := .int .i64 b) rfl rfl ?_
          refine lm (v := .int .i64 0) rfl rfl ?_
          refine lm (v := .int .i64 b) rfl rfl ?_
          refine lm (v := .int .i64 0) rfl rfl ?_
          refine wpL_done (fun W11 hW11 => ?_)
          clear hW10
          refine (show Code.wp _ _ _ _ _ from ?_)
          refine wp_seq ?_
          refine wp_region_L (W0 := w) Kz1 (hW11) ?_
          refine lm (v := .int .i64 0) rfl rfl ?_
          refine lm (v := .int .i64 0) rfl rfl ?_
          refine lm (v := .bool false) rfl rfl ?_
          refine lm (v := .bool false) rfl rfl ?_
          refine lm (v := .int .i64 b) rfl rfl ?_
          refine lm (v := .int .i64 b) rfl rfl ?_
          refine lp (v := .bool false) rfl rfl (run_bin rfl (vx := .int .i64 b) (vy := .int .i64 b) (by kernel_rfl) (by kernel_rfl) fun w => run_neqI (decide_eq_true rfl) w) ?_
          refine lm (v := .bool false) rfl rfl ?_
          refine wpL_done (fun W12 hW12 => ?_)
          clear hW11
          refine (show Code.wp _ _ _ _ _ from ?_)
          refine wp_cond_false rfl ?_
          refine wp_skip ?_
          exact join_mk (by kernel_rfl) hW12
  · rintro a1 W1j ⟨⟨z, rfl⟩, hW1j⟩
    dsimp only [cutT]
    cases hA : fitS at_ n (madeL l0) with
    | none =>
      have hB : fitS at_ (n + k) (madeL l0) = none := by cases h : fitS at_ (n + k) (madeL l0) with | none => rfl | some b => obtain ⟨a, h1, _⟩ := fit_later hfr b2.1 (show n ≤ n + k by omega) (Int.le_refl at_) h; rw [hA] at h1; cases h1
      have hC : fitS th n (madeL l0) = none := by cases h : fitS th n (madeL l0) with | none => rfl | some b => obtain ⟨a, h1, _⟩ := fit_later hfr b2.1 (Int.le_refl n) b1.2.1 h; rw [hA] at h1; cases h1
      refine wp_seq ?_
      refine wp_region_L (W0 := w) Kz1 (hW1j) ?_
      refine lm (v := .slice pm0 (madeL l0).length cm0) rfl rfl ?_
      refine lm (v := .int .i64 at_) rfl rfl ?_
      refine lm (v := .int .i64 n) rfl rfl ?_
      refine lv (v := .tuple #[.int .i64 0, .int .i64 6]) rfl rfl (yb_call (f := 22) (args := #[.slice pm0 (madeL l0).length cm0, .int .i64 at_, .int .i64 n]) (fun _ => by kernel_rfl) fun W hW => fit_is (hasM0 W (hW.sub (fun q h => h))).sl hap (by omega) (by omega) hA) ?_
      refine lm (v := .tuple #[.int .i64 0, .int .i64 6]) rfl rfl ?_
      refine lm (v := .int .i64 0) rfl rfl ?_
      refine lm (v := .int .i64 6) rfl rfl ?_
      refine lm (v := .int .i64 0) rfl rfl ?_
      refine lm (v := .int .i64 6) rfl rfl ?_
      refine wpL_done (fun W6 hW6 => ?_)
      clear hW1j
      refine (show Code.wp _ _ _ _ _ from ?_)
      refine wp_seq ?_
      refine wp_region_L (W0 := w) Kz1 (hW6) ?_
      refine lm (v := .slice pm0 (madeL l0).length cm0) rfl rfl ?_
      refine lm (v := .int .i64 at_) rfl rfl ?_
      refine lm (v := .int .i64 n) rfl rfl ?_
      refine lm (v := .int .i64 k) rfl rfl ?_
      refine lp (v := .int .i64 (n + k)) rfl rfl (run_bin rfl (vx := .int .i64 n) (vy := .int .i64 k) (by kernel_rfl) (by kernel_rfl) fun w => run_addI (z := (n + k)) rfl (by omega) w) ?_
      refine lv (v := .tuple #[.int .i64 0, .int .i64 6]) rfl rfl (yb_call (f := 22) (args := #[.slice pm0 (madeL l0).length cm0, .int .i64 at_, .int .i64 (n + k)]) (fun _ => by kernel_rfl) fun W hW => fit_is (hasM0 W (hW.sub (fun q h => h))).sl hap (by omega) (by omega) hB) ?_
      refine lm (v := .tuple #[.int .i64 0, .int .i64 6]) rfl rfl ?_
      refine lm (v := .int .i64 0) rfl rfl ?_
      refine lm (v := .int .i64 6) rfl rfl ?_
      refine lm (v := .int .i64 0) rfl rfl ?_
      refine lm (v := .int .i64 6) rfl rfl ?_
      refine wpL_done (fun W7 hW7 => ?_)
      clear hW6
      refine (show Code.wp _ _ _ _ _ from ?_)
      refine wp_seq ?_
      refine wp_region_L (W0 := w) Kz1 (hW7) ?_
      refine lm (v := .slice pm0 (madeL l0).length cm0) rfl rfl ?_
      refine lm (v := .int .i64 th) rfl rfl ?_
      refine lm (v := .int .i64 n) rfl rfl ?_
      refine lv (v := .tuple #[.int .i64 0, .int .i64 6]) rfl rfl (yb_call (f := 22) (args := #[.slice pm0 (madeL l0).length cm0, .int .i64 th, .int .i64 n]) (fun _ => by kernel_rfl) fun W hW => fit_is (hasM0 W (hW.sub (fun q h => h))).sl hap (by omega) (by omega) hC) ?_
      refine lm (v := .tuple #[.int .i64 0, .int .i64 6]) rfl rfl ?_
      refine lm (v := .int .i64 0) rfl rfl ?_
      refine lm (v := .int .i64 6) rfl rfl ?_
      refine lm (v := .int .i64 0) rfl rfl ?_
      refine lm (v := .int .i64 6) rfl rfl ?_
      refine wpL_done (fun W8 hW8 => ?_)
      clear hW7
      refine (show Code.wp _ _ _ _ _ from ?_)
      refine wp_seq ?_
      refine wp_region_L (W0 := w) Kz1 (hW8) ?_
      refine lm (v := .int .i64 6) rfl rfl ?_
      refine lm (v := .bool true) rfl rfl ?_
      refine lm (v := .bool true) rfl rfl ?_
      refine ln rfl ?_
      refine ln rfl ?_
      refine ln rfl ?_
      refine ln rfl ?_
      refine ln rfl ?_
      refine ln rfl ?_
      refine ln rfl ?_
      refine lm (v := .bool true) rfl rfl ?_
      refine lm (v := .bool true) rfl rfl ?_
      refine lm (v := .int .i64 6) rfl rfl ?_
      refine lm (v := .bool true) rfl rfl ?_
      refine lm (v := .bool true) rfl rfl ?_
      refine ln rfl ?_
      refine ln rfl ?_
      refine ln rfl ?_
      refine ln rfl ?_
      refine ln rfl ?_
      refine ln rfl ?_
      refine ln rfl ?_
      refine lm (v := .bool true) rfl rfl ?_
      refine lm (v := .bool true) rfl rfl ?_
      refine lm (v := .bool true) rfl rfl ?_
      refine wpL_done (fun W9 hW9 => ?_)
      clear hW8
      refine (show Code.wp _ _ _ _ _ from ?_)
      refine wp_ret ?_
      try simp only [inBlock_ret, then_ret]
      go_ret
      exact ⟨rfl, hW9.1⟩
    | some a =>
      cases hB : fitS at_ (n + k) (madeL l0) with
      | none =>
        cases hC : fitS th n (madeL l0) with
        | none =>
          refine wp_seq ?_
          refine wp_region_L (W0 := w) Kz1 (hW1j) ?_
          refine lm (v := .slice pm0 (madeL l0).length cm0) rfl rfl ?_
          refine lm (v := .int .i64 at_) rfl rfl ?_
          refine lm (v := .int .i64 n) rfl rfl ?_
          refine lv (v := .tuple #[.int .i64 a, .int .i64 0]) rfl rfl (yb_call (f := 22) (args := #[.slice pm0 (madeL l0).length cm0, .int .i64 at_, .int .i64 n]) (fun _ => by kernel_rfl) fun W hW => fit_is (hasM0 W (hW.sub (fun q h => h))).sl hap (by omega) (by omega) hA) ?_
          refine lm (v := .tuple #[.int .i64 a, .int .i64 0]) rfl rfl ?_
          refine lm (v := .int .i64 a) rfl rfl ?_
          refine lm (v := .int .i64 0) rfl rfl ?_
          refine lm (v := .int .i64 a) rfl rfl ?_
          refine lm (v := .int .i64 0) rfl rfl ?_
          refine wpL_done (fun W6 hW6 => ?_)
          clear hW1j
          refine (show Code.wp _ _ _ _ _ from ?_)
          refine wp_seq ?_
          refine wp_region_L (W0 := w) Kz1 (hW6) ?_
          refine lm (v := .slice pm0 (madeL l0).length cm0) rfl rfl ?_
          refine lm (v := .int .i64 at_) rfl rfl ?_
          refine lm (v := .int .i64 n) rfl rfl ?_
          refine lm (v := .int .i64 k) rfl rfl ?_
          refine lp (v := .int .i64 (n + k)) rfl rfl (run_bin rfl (vx := .int .i64 n) (vy := .int .i64 k) (by kernel_rfl) (by kernel_rfl) fun w => run_addI (z := (n + k)) rfl (by omega) w) ?_
          refine lv (v := .tuple #[.int .i64 0, .int .i64 6]) rfl rfl (yb_call (f := 22) (args := #[.slice pm0 (madeL l0).length cm0, .int .i64 at_, .int .i64 (n + k)]) (fun _ => by kernel_rfl) fun W hW => fit_is (hasM0 W (hW.sub (fun q h => h))).sl hap (by omega) (by omega) hB) ?_
          refine lm (v := .tuple #[.int .i64 0, .int .i64 6]) rfl rfl ?_
          refine lm (v := .int .i64 0) rfl rfl ?_
          refine lm (v := .int .i64 6) rfl rfl ?_
          refine lm (v := .int .i64 0) rfl rfl ?_
          refine lm (v := .int .i64 6) rfl rfl ?_
          refine wpL_done (fun W7 hW7 => ?_)
          clear hW6
          refine (show Code.wp _ _ _ _ _ from ?_)
          refine wp_seq ?_
          refine wp_region_L (W0 := w) Kz1 (hW7) ?_
          refine lm (v := .slice pm0 (madeL l0).length cm0) rfl rfl ?_
          refine lm (v := .int .i64 th) rfl rfl ?_
          refine lm (v := .int .i64 n) rfl rfl ?_
          refine lv (v := .tuple #[.int .i64 0, .int .i64 6]) rfl rfl (yb_call (f := 22) (args := #[.slice pm0 (madeL l0).length cm0, .int .i64 th, .int .i64 n]) (fun _ => by kernel_rfl) fun W hW => fit_is (hasM0 W (hW.sub (fun q h => h))).sl hap (by omega) (by omega) hC) ?_
          refine lm (v := .tuple #[.int .i64 0, .int .i64 6]) rfl rfl ?_
          refine lm (v := .int .i64 0) rfl rfl ?_
          refine lm (v := .int .i64 6) rfl rfl ?_
          refine lm (v := .int .i64 0) rfl rfl ?_
          refine lm (v := .int .i64 6) rfl rfl ?_
          refine wpL_done (fun W8 hW8 => ?_)
          clear hW7
          refine (show Code.wp _ _ _ _ _ from ?_)
          refine wp_seq ?_
          refine wp_region_L (W0 := w) Kz1 (hW8) ?_
          refine lm (v := .int .i64 6) rfl rfl ?_
          refine lm (v := .bool true) rfl rfl ?_
          refine lm (v := .bool true) rfl rfl ?_
          refine ln rfl ?_
          refine ln rfl ?_
          refine ln rfl ?_
          refine ln rfl ?_
          refine ln rfl ?_
          refine ln rfl ?_
          refine ln rfl ?_
          refine lm (v := .bool true) rfl rfl ?_
          refine lm (v := .bool true) rfl rfl ?_
          refine lm (v := .int .i64 6) rfl rfl ?_
          refine lm (v := .bool true) rfl rfl ?_
          refine lm (v := .bool true) rfl rfl ?_
          refine ln rfl ?_
          refine ln rfl ?_
          refine ln rfl ?_
          refine ln rfl ?_
          refine ln rfl ?_
          refine ln rfl ?_
          refine ln rfl ?_
          refine lm (v := .bool true) rfl rfl ?_
          refine lm (v := .bool true) rfl rfl ?_
          refine lm (v := .bool true) rfl rfl ?_
          refine wpL_done (fun W9 hW9 => ?_)
          clear hW8
          refine (show Code.wp _ _ _ _ _ from ?_)
          refine wp_ret ?_
          try simp only [inBlock_ret, then_ret]
          go_ret
          exact ⟨rfl, hW9.1⟩
        | some c =>
          have hac : a ≤ c := by obtain ⟨a2, h1, h2⟩ := fit_later hfr b2.1 (Int.le_refl n) b1.2.1 hC; rw [hA] at h1; cases h1; exact h2
          refine wp_seq ?_
          refine wp_region_L (W0 := w) Kz1 (hW1j) ?_
          refine lm (v := .slice pm0 (madeL l0).length cm0) rfl rfl ?_
          refine lm (v := .int .i64 at_) rfl rfl ?_
          refine lm (v := .int .i64 n) rfl rfl ?_
          refine lv (v := .tuple #[.int .i64 a, .int .i64 0]) rfl rfl (yb_call (f := 22) (args := #[.slice pm0 (madeL l0).length cm0, .int .i64 at_, .int .i64 n]) (fun _ => by kernel_rfl) fun W hW => fit_is (hasM0 W (hW.sub (fun q h => h))).sl hap (by omega) (by omega) hA) ?_
          refine lm (v := .tuple #[.int .i64 a, .int .i64 0]) rfl rfl ?_
          refine lm (v := .int .i64 a) rfl rfl ?_
          refine lm (v := .int .i64 0) rfl rfl ?_
          refine lm (v := .int .i64 a) rfl rfl ?_
          refine lm (v := .int .i64 0) rfl rfl ?_
          refine wpL_done (fun W6 hW6 => ?_)
          clear hW1j
          refine (show Code.wp _ _ _ _ _ from ?_)
          refine wp_seq ?_
          refine wp_region_L (W0 := w) Kz1 (hW6) ?_
          refine lm (v := .slice pm0 (madeL l0).length cm0) rfl rfl ?_
          refine lm (v := .int .i64 at_) rfl rfl ?_
          refine lm (v := .int .i64 n) rfl rfl ?_
          refine lm (v := .int .i64 k) rfl rfl ?_
          refine lp (v := .int .i64 (n + k)) rfl rfl (run_bin rfl (vx := .int .i64 n) (vy := .int .i64 k) (by kernel_rfl) (by kernel_rfl) fun w => run_addI (z := (n + k)) rfl (by omega) w) ?_
          refine lv (v := .tuple #[.int .i64 0, .int .i64 6]) rfl rfl (yb_call (f := 22) (args := #[.slice pm0 (madeL l0).length cm0, .int .i64 at_, .int .i64 (n + k)]) (fun _ => by kernel_rfl) fun W hW => fit_is (hasM0 W (hW.sub (fun q h => h))).sl hap (by omega) (by omega) hB) ?_
          refine lm (v := .tuple #[.int .i64 0, .int .i64 6]) rfl rfl ?_
          refine lm (v := .int .i64 0) rfl rfl ?_
          refine lm (v := .int .i64 6) rfl rfl ?_
          refine lm (v := .int .i64 0) rfl rfl ?_
          refine lm (v := .int .i64 6) rfl rfl ?_
          refine wpL_done (fun W7 hW7 => ?_)
          clear hW6
          refine (show Code.wp _ _ _ _ _ from ?_)
          refine wp_seq ?_
          refine wp_region_L (W0 := w) Kz1 (hW7) ?_
          refine lm (v := .slice pm0 (madeL l0).length cm0) rfl rfl ?_
          refine lm (v := .int .i64 th) rfl rfl ?_
          refine lm (v := .int .i64 n) rfl rfl ?_
          refine lv (v := .tuple #[.int .i64 c, .int .i64 0]) rfl rfl (yb_call (f := 22) (args := #[.slice pm0 (madeL l0).length cm0, .int .i64 th, .int .i64 n]) (fun _ => by kernel_rfl) fun W hW => fit_is (hasM0 W (hW.sub (fun q h => h))).sl hap (by omega) (by omega) hC) ?_
          refine lm (v := .tuple #[.int .i64 c, .int .i64 0]) rfl rfl ?_
          refine lm (v := .int .i64 c) rfl rfl ?_
          refine lm (v := .int .i64 0) rfl rfl ?_
          refine lm (v := .int .i64 c) rfl rfl ?_
          refine lm (v := .int .i64 0) rfl rfl ?_
          refine wpL_done (fun W8 hW8 => ?_)
          clear hW7
          refine (show Code.wp _ _ _ _ _ from ?_)
          refine wp_seq ?_
          refine wp_region_L (W0 := w) Kz1 (hW8) ?_
          refine lm (v := .int .i64 6) rfl rfl ?_
          refine lm (v := .bool true) rfl rfl ?_
          refine lm (v := .bool true) rfl rfl ?_
          refine ln rfl ?_
          refine ln rfl ?_
          refine ln rfl ?_
          refine ln rfl ?_
          refine ln rfl ?_
          refine ln rfl ?_
          refine ln rfl ?_
          refine lm (v := .bool true) rfl rfl ?_
          refine lm (v := .bool true) rfl rfl ?_
          refine lm (v := .int .i64 0) rfl rfl ?_
          refine lm (v := .bool false) rfl rfl ?_
          refine lm (v := .bool false) rfl rfl ?_
          refine lm (v := .int .i64 0) rfl rfl ?_
          refine lm (v := .bool true) rfl rfl ?_
          refine lm (v := .bool true) rfl rfl ?_
          refine lm (v := .int .i64 c) rfl rfl ?_
          refine lm (v := .int .i64 a) rfl rfl ?_
          refine lp (v := .bool true) rfl rfl (run_bin rfl (vx := .int .i64 c) (vy := .int .i64 a) (by kernel_rfl) (by kernel_rfl) fun w => run_geqI (decide_eq_true (by omega)) w) ?_
          refine lm (v := .bool true) rfl rfl ?_
          refine lm (v := .bool true) rfl rfl ?_
          refine lm (v := .bool true) rfl rfl ?_
          refine lm (v := .bool true) rfl rfl ?_
          refine wpL_done (fun W9 hW9 => ?_)
          clear hW8
          refine (show Code.wp _ _ _ _ _ from ?_)
          refine wp_ret ?_
          try simp only [inBlock_ret, then_ret]
          go_ret
          exact ⟨rfl, hW9.1⟩
      | some b =>
        have hab : a ≤ b := by obtain ⟨a2, h1, h2⟩ := fit_later hfr b2.1 (show n ≤ n + k by omega) (Int.le_refl at_) hB; rw [hA] at h1; cases h1; exact h2
        cases hC : fitS th n (madeL l0) with
        | none =>
          refine wp_seq ?_
          refine wp_region_L (W0 := w) Kz1 (hW1j) ?_
          refine lm (v := .slice pm0 (madeL l0).length cm0) rfl rfl ?_
          refine lm (v := .int .i64 at_) rfl rfl ?_
          refine lm (v := .int .i64 n) rfl rfl ?_
          refine lv (v := .tuple #[.int .i64 a, .int .i64 0]) rfl rfl (yb_call (f := 22) (args := #[.slice pm0 (madeL l0).length cm0, .int .i64 at_, .int .i64 n]) (fun _ => by kernel_rfl) fun W hW => fit_is (hasM0 W (hW.sub (fun q h => h))).sl hap (by omega) (by omega) hA) ?_
          refine lm (v := .tuple #[.int .i64 a, .int .i64 0]) rfl rfl ?_
          refine lm (v := .int .i64 a) rfl rfl ?_
          refine lm (v := .int .i64 0) rfl rfl ?_
          refine lm (v := .int .i64 a) rfl rfl ?_
          refine lm (v := .int .i64 0) rfl rfl ?_
          refine wpL_done (fun W6 hW6 => ?_)
          clear hW1j
          refine (show Code.wp _ _ _ _ _ from ?_)
          refine wp_seq ?_
          refine wp_region_L (W0 := w) Kz1 (hW6) ?_
          refine lm (v := .slice pm0 (madeL l0).length cm0) rfl rfl ?_
          refine lm (v := .int .i64 at_) rfl rfl ?_
          refine lm (v := .int .i64 n) rfl rfl ?_
          refine lm (v := .int .i64 k) rfl rfl ?_
          refine lp (v := .int .i64 (n + k)) rfl rfl (run_bin rfl (vx := .int .i64 n) (vy := .int .i64 k) (by kernel_rfl) (by kernel_rfl) fun w => run_addI (z := (n + k)) rfl (by omega) w) ?_
          refine lv (v := .tuple #[.int .i64 b, .int .i64 0]) rfl rfl (yb_call (f := 22) (args := #[.slice pm0 (madeL l0).length cm0, .int .i64 at_, .int .i64 (n + k)]) (fun _ => by kernel_rfl) fun W hW => fit_is (hasM0 W (hW.sub (fun q h => h))).sl hap (by omega) (by omega) hB) ?_
          refine lm (v := .tuple #[.int .i64 b, .int .i64 0]) rfl rfl ?_
          refine lm (v := .int .i64 b) rfl rfl ?_
          refine lm (v := .int .i64 0) rfl rfl ?_
          refine lm (v := .int .i64 b) rfl rfl ?_
          refine lm (v := .int .i64 0) rfl rfl ?_
          refine wpL_done (fun W7 hW7 => ?_)
          clear hW6
          refine (show Code.wp _ _ _ _ _ from ?_)
          refine wp_seq ?_
          refine wp_region_L (W0 := w) Kz1 (hW7) ?_
          refine lm (v := .slice pm0 (madeL l0).length cm0) rfl rfl ?_
          refine lm (v := .int .i64 th) rfl rfl ?_
          refine lm (v := .int .i64 n) rfl rfl ?_
          refine lv (v := .tuple #[.int .i64 0, .int .i64 6]) rfl rfl (yb_call (f := 22) (args := #[.slice pm0 (madeL l0).length cm0, .int .i64 th, .int .i64 n]) (fun _ => by kernel_rfl) fun W hW => fit_is (hasM0 W (hW.sub (fun q h => h))).sl hap (by omega) (by omega) hC) ?_
          refine lm (v := .tuple #[.int .i64 0, .int .i64 6]) rfl rfl ?_
          refine lm (v := .int .i64 0) rfl rfl ?_
          refine lm (v := .int .i64 6) rfl rfl ?_
          refine lm (v := .int .i64 0) rfl rfl ?_
          refine lm (v := .int .i64 6) rfl rfl ?_
          refine wpL_done (fun W8 hW8 => ?_)
          clear hW7
          refine (show Code.wp _ _ _ _ _ from ?_)
          refine wp_seq ?_
          refine wp_region_L (W0 := w) Kz1 (hW8) ?_
          refine lm (v := .int .i64 0) rfl rfl ?_
          refine lm (v := .bool false) rfl rfl ?_
          refine lm (v := .bool false) rfl rfl ?_
          refine lm (v := .int .i64 0) rfl rfl ?_
          refine lm (v := .bool true) rfl rfl ?_
          refine lm (v := .bool true) rfl rfl ?_
          refine lm (v := .int .i64 b) rfl rfl ?_
          refine lm (v := .int .i64 a) rfl rfl ?_
          refine lp (v := .bool true) rfl rfl (run_bin rfl (vx := .int .i64 b) (vy := .int .i64 a) (by kernel_rfl) (by kernel_rfl) fun w => run_geqI (decide_eq_true (by omega)) w) ?_
          refine lm (v := .bool true) rfl rfl ?_
          refine lm (v := .bool true) rfl rfl ?_
          refine lm (v := .bool true) rfl rfl ?_
          refine lm (v := .int .i64 6) rfl rfl ?_
          refine lm (v := .bool true) rfl rfl ?_
          refine lm (v := .bool true) rfl rfl ?_
          refine ln rfl ?_
          refine ln rfl ?_
          refine ln rfl ?_
          refine ln rfl ?_
          refine ln rfl ?_
          refine ln rfl ?_
          refine ln rfl ?_
          refine lm (v := .bool true) rfl rfl ?_
          refine lm (v := .bool true) rfl rfl ?_
          refine lm (v := .bool true) rfl rfl ?_
          refine wpL_done (fun W9 hW9 => ?_)
          clear hW8
          refine (show Code.wp _ _ _ _ _ from ?_)
          refine wp_ret ?_
          try simp only [inBlock_ret, then_ret]
          go_ret
          exact ⟨rfl, hW9.1⟩
        | some c =>
          have hac : a ≤ c := by obtain ⟨a2, h1, h2⟩ := fit_later hfr b2.1 (Int.le_refl n) b1.2.1 hC; rw [hA] at h1; cases h1; exact h2
          refine wp_seq ?_
          refine wp_region_L (W0 := w) Kz1 (hW1j) ?_
          refine lm (v := .slice pm0 (madeL l0).length cm0) rfl rfl ?_
          refine lm (v := .int .i64 at_) rfl rfl ?_
          refine lm (v := .int .i64 n) rfl rfl ?_
          refine lv (v := .tuple #[.int .i64 a, .int .i64 0]) rfl rfl (yb_call (f := 22) (args := #[.slice pm0 (madeL l0).length cm0, .int .i64 at_, .int .i64 n]) (fun _ => by kernel_rfl) fun W hW => fit_is (hasM0 W (hW.sub (fun q h => h))).sl hap (by omega) (by omega) hA) ?_
          refine lm (v := .tuple #[.int .i64 a, .int .i64 0]) rfl rfl ?_
          refine lm (v := .int .i64 a) rfl rfl ?_
          refine lm (v := .int .i64 0) rfl rfl ?_
          refine lm (v := .int .i64 a) rfl rfl ?_
          refine lm (v := .int .i64 0) rfl rfl ?_
          refine wpL_done (fun W6 hW6 => ?_)
          clear hW1j
          refine (show Code.wp _ _ _ _ _ from ?_)
          refine wp_seq ?_
          refine wp_region_L (W0 := w) Kz1 (hW6) ?_
          refine lm (v := .slice pm0 (madeL l0).length cm0) rfl rfl ?_
          refine lm (v := .int .i64 at_) rfl rfl ?_
          refine lm (v := .int .i64 n) rfl rfl ?_
          refine lm (v := .int .i64 k) rfl rfl ?_
          refine lp (v := .int .i64 (n + k)) rfl rfl (run_bin rfl (vx := .int .i64 n) (vy := .int .i64 k) (by kernel_rfl) (by kernel_rfl) fun w => run_addI (z := (n + k)) rfl (by omega) w) ?_
          refine lv (v := .tuple #[.int .i64 b, .int .i64 0]) rfl rfl (yb_call (f := 22) (args := #[.slice pm0 (madeL l0).length cm0, .int .i64 at_, .int .i64 (n + k)]) (fun _ => by kernel_rfl) fun W hW => fit_is (hasM0 W (hW.sub (fun q h => h))).sl hap (by omega) (by omega) hB) ?_
          refine lm (v := .tuple #[.int .i64 b, .int .i64 0]) rfl rfl ?_
          refine lm (v := .int .i64 b) rfl rfl ?_
          refine lm (v := .int .i64 0) rfl rfl ?_
          refine lm (v := .int .i64 b) rfl rfl ?_
          refine lm (v := .int .i64 0) rfl rfl ?_
          refine wpL_done (fun W7 hW7 => ?_)
          clear hW6
          refine (show Code.wp _ _ _ _ _ from ?_)
          refine wp_seq ?_
          refine wp_region_L (W0 := w) Kz1 (hW7) ?_
          refine lm (v := .slice pm0 (madeL l0).length cm0) rfl rfl ?_
          refine lm (v := .int .i64 th) rfl rfl ?_
          refine lm (v := .int .i64 n) rfl rfl ?_
          refine lv (v := .tuple #[.int .i64 c, .int .i64 0]) rfl rfl (yb_call (f := 22) (args := #[.slice pm0 (madeL l0).length cm0, .int .i64 th, .int .i64 n]) (fun _ => by kernel_rfl) fun W hW => fit_is (hasM0 W (hW.sub (fun q h => h))).sl hap (by omega) (by omega) hC) ?_
          refine lm (v := .tuple #[.int .i64 c, .int .i64 0]) rfl rfl ?_
          refine lm (v := .int .i64 c) rfl rfl ?_
          refine lm (v := .int .i64 0) rfl rfl ?_
          refine lm (v := .int .i64 c) rfl rfl ?_
          refine lm (v := .int .i64 0) rfl rfl ?_
          refine wpL_done (fun W8 hW8 => ?_)
          clear hW7
          refine (show Code.wp _ _ _ _ _ from ?_)
          refine wp_seq ?_
          refine wp_region_L (W0 := w) Kz1 (hW8) ?_
          refine lm (v := .int .i64 0) rfl rfl ?_
          refine lm (v := .bool false) rfl rfl ?_
          refine lm (v := .bool false) rfl rfl ?_
          refine lm (v := .int .i64 0) rfl rfl ?_
          refine lm (v := .bool true) rfl rfl ?_
          refine lm (v := .bool true) rfl rfl ?_
          refine lm (v := .int .i64 b) rfl rfl ?_
          refine lm (v := .int .i64 a) rfl rfl ?_
          refine lp (v := .bool true) rfl rfl (run_bin rfl (vx := .int .i64 b) (vy := .int .i64 a) (by kernel_rfl) (by kernel_rfl) fun w => run_geqI (decide_eq_true (by omega)) w) ?_
          refine lm (v := .bool true) rfl rfl ?_
          refine lm (v := .bool true) rfl rfl ?_
          refine lm (v := .bool true) rfl rfl ?_
          refine lm (v := .int .i64 0) rfl rfl ?_
          refine lm (v := .bool false) rfl rfl ?_
          refine lm (v := .bool false) rfl rfl ?_
          refine lm (v := .int .i64 0) rfl rfl ?_
          refine lm (v := .bool true) rfl rfl ?_
          refine lm (v := .bool true) rfl rfl ?_
          refine lm (v := .int .i64 c) rfl rfl ?_
          refine lm (v := .int .i64 a) rfl rfl ?_
          refine lp (v := .bool true) rfl rfl (run_bin rfl (vx := .int .i64 c) (vy := .int .i64 a) (by kernel_rfl) (by kernel_rfl) fun w => run_geqI (decide_eq_true (by omega)) w) ?_
          refine lm (v := .bool true) rfl rfl ?_
          refine lm (v := .bool true) rfl rfl ?_
          refine lm (v := .bool true) rfl rfl ?_
          refine lm (v := .bool true) rfl rfl ?_
          refine wpL_done (fun W9 hW9 => ?_)
          clear hW8
          refine (show Code.wp _ _ _ _ _ from ?_)
          refine wp_ret ?_
          try simp only [inBlock_ret, then_ret]
          go_ret
          exact ⟨rfl, hW9.1⟩
end Go.Proofs.YtjmcelgdjpdacaaDoor
/- ClockLater holds for every input: the program's own answer is true, wherever the listed variables are as the program's text lays them; each argument reads afterwards as it read before. -/
namespace Go.Proofs.YtjmcelgdjpdacaaDoor
open Go.ChangeShapes Go.WideShapes Go.ChangeAt Go.RowKit Tw
set_option maxRecDepth 100000 in
theorem clockLater_lifted (os : Os) (started : os.Started) (H : Type) (enc : TypeId × Value → H) :
    ReturnsInHanded {} Tryd.checked os 11 .any (fun w args => (Rows.clockLaterSpec.pre enc Tryd.prog Tryd.f11 Rows.clockLaterRow.domain false w args ∧ laidMetH Tryd.prog laid6 w) ∧ sizedMet enc Tryd.prog Tryd.f11 (OpenSpec.ofChange Rows.clockLaterSpec) false w args) (Rows.clockLaterSpec.post enc Tryd.prog Tryd.f11 false true false false) := by
  refine handed_and_shaped (C := Tryd.checked) (X := fun w => laidMetH Tryd.prog laid6 w) (fun _ _ hh h => h.of_heap hh) own started (by kernel_rfl) Tryd.func11
    (ChangeSpec.witness_shaped (enc := enc) (C := Tryd.checked) (os := os) (X := fun w _ => laidMetH Tryd.prog laid6 w) false (World.doorLaid Tryd.prog 1000 os) #[.slice none 0 0, .int .u16 0, .int .u16 0, .int .u16 0, .int .u16 0] 8 rfl (World.shaped_of_RefB (by kernel_rfl) (by kernel_rfl)) (by kernel_rfl) (by kernel_rfl) (by kernel_rfl) (door_met os _)) ?_
  intro W base args ds gs before hval0 hW hL hsh
  have hval : ∀ (j : Nat) t v, Tryd.f11.params[j]? = some t → args[j]? = some v → Value.okWide Tryd.prog W .any base t v := hval0
  have hW' := hW
  obtain ⟨p, q, hA0, hV, rfl, hfz, hnd⟩ := hW
  have hA : DataW.TrodAll enc Tryd.prog W 0 (fun _ => true) true Tryd.f11.params.toList args.toList ds p := hA0
  rw [Tryd.params11] at hA hval
  obtain ⟨v0, vs0, d0, ds0, p0, q0, hargs, rfl, rfl, h0, r0⟩ := trodAll_cons hA
  obtain ⟨v1, vs1, d1, ds1, p1, q1, rfl, rfl, rfl, h1, r1⟩ := trodAll_cons r0
  obtain ⟨v2, vs2, d2, ds2, p2, q2, rfl, rfl, rfl, h2, r2⟩ := trodAll_cons r1
  obtain ⟨v3, vs3, d3, ds3, p3, q3, rfl, rfl, rfl, h3, r3⟩ := trodAll_cons r2
  obtain ⟨v4, vs4, d4, ds4, p4, q4, rfl, rfl, rfl, h4, r4⟩ := trodAll_cons r3
  obtain ⟨rfl, rfl, rfl⟩ := trodAll_nil r4
  obtain rfl : args = #[v0, v1, v2, v3, v4] := by cases args; simp_all
  obtain ⟨rfl, rfl⟩ := trodVars_none hV
  have k0 := h0
  have lt0 : ∀ x ∈ p0, x.block < W.heap.size := by obtain ⟨m, hm⟩ := k0; exact DataW.trod_lt m _ _ _ hm
  obtain ⟨p0_, c0, l0, rfl, hb0⟩ := open_bytes (hval 0 32 v0 rfl rfl) h0
  obtain ⟨a1, rfl, rfl, rfl, w1⟩ := open_int Tryd.underlying33 (hval 1 33 v1 rfl rfl) h1
  have rr1 : 0 ≤ a1 ∧ a1 ≤ 65535 := of_wf w1
  obtain ⟨a2, rfl, rfl, rfl, w2⟩ := open_int Tryd.underlying33 (hval 2 33 v2 rfl rfl) h2
  have rr2 : 0 ≤ a2 ∧ a2 ≤ 65535 := of_wf w2
  obtain ⟨a3, rfl, rfl, rfl, w3⟩ := open_int Tryd.underlying33 (hval 3 33 v3 rfl rfl) h3
  have rr3 : 0 ≤ a3 ∧ a3 ≤ 65535 := of_wf w3
  obtain ⟨a4, rfl, rfl, rfl, w4⟩ := open_int Tryd.underlying33 (hval 4 33 v4 rfl rfl) h4
  have rr4 : 0 ≤ a4 ∧ a4 ≤ 65535 := of_wf w4
  clear hA0 hval0
  refine (ClockLater_law W (env_of hL hsh) l0 p0_ c0 hb0 a1 rr1 a2 rr2 a3 rr3 a4 rr4).mono fun e W' ⟨he, bel⟩ => ?_
  subst he
  exact ⟨_, rfl, _, _, _, [], _, [], hW', (trodAll_cons_mk (shut_bool Tryd.underlying4 _) trodAll_mk0), (trodAll_cons_mk (Below.trod laidOut (by kernel_rfl) (of_decide_eq_true (by kernel_rfl)) k0 bel lt0) (trodAll_cons_mk (shut_int Tryd.underlying33 w1) (trodAll_cons_mk (shut_int Tryd.underlying33 w2) (trodAll_cons_mk (shut_int Tryd.underlying33 w3) (trodAll_cons_mk (shut_int Tryd.underlying33 w4) trodAll_mk0))))), rfl, bel.frame _, fun h => by cases h⟩
theorem clockLater_said : Rows.ClockLaterSaid :=
  OpenClaim.holds_of_wide 11 Tryd.f11 rfl rfl rfl rfl rfl rfl rfl ⟨rfl, rfl, rfl, rfl, rfl⟩ rfl rfl rfl rfl rfl (by kernel_rfl) Tryd.func11 (by kernel_rfl)
    (of_decide_eq_true (by kernel_rfl)) (by unfold Func.isWrapper; first | (rw [if_pos (by decide +kernel)]; kernel_rfl) | (rw [if_neg (by decide +kernel)]; exact ⟨rfl, rfl⟩))
    (fun os started H enc _ => clockLater_lifted os started H enc)
theorem clockLater_proved : Rows.ClockLaterCardSaid :=
  Claim7.holds_tied_plain_at .later [] [.data, .data, .data, .sentinel, .sentinel, .data] true Rows.clockLaterCard.stood.harness true
    clockLater_said (fun _ h => by cases h) (by kernel_rfl) (fun _ h => by cases h) clockLater_row_tie rfl ⟨rfl, rfl⟩ (by kernel_rfl) rfl
    (fun f fn hf hfn => by
      obtain rfl : f = 11 := Option.some.inj ((show Tryd.prog.funcNamed "twistlock/twistlocklaw02.ClockLater" = some 11 by kernel_rfl).symm.trans hf) |>.symm
      obtain rfl : fn = Tryd.f11 := (Option.some.inj (Tryd.func11.symm.trans hfn)).symm
      exact ⟨by kernel_rfl, fun j t ht => by
        rw [Tryd.params11] at ht
        have hm : t ∈ [32, 33, 33, 33, 33] := by simpa using Array.mem_of_getElem? ht
        have hall : ([32, 33, 33, 33, 33].all fun u => !Tryd.prog.wantsStandIn u) = true := by kernel_rfl
        exact (show Tryd.prog.wantsStandIn t = false by simpa using List.all_eq_true.1 hall t hm)⟩)
    (by kernel_rfl)
#print axioms clockLater_proved
end Go.Proofs.YtjmcelgdjpdacaaDoor
