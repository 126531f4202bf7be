import Derived.Test.YtalmflgkbmnghaaGreatDoorYWc08
import Derived.Test.YtalmflgkbmnghaaGreatDoorRS02
import Derived.Test.YtalmflgkbmnghaaGreatDoorRS05
import Derived.Test.YtalmflgkbmnghaaGreatDoorRS04
/- FracSums: the law holds for every input; no condition but the row's own. -/
set_option linter.unusedVariables false
set_option linter.unusedSimpArgs false
set_option linter.unusedSectionVars false
namespace Go.Proofs.YtalmflgkbmnghaaGreatDoor
open Go Go.RowKit Tw
set_option linter.unusedSimpArgs false
set_option linter.unusedVariables false
open Tf (dg R R_pos R_le R_succ dg_of_lt setd setd_eq)
abbrev Fr := Bool × Nat × Nat
def frOk (x : Fr) : Prop := x.2.1 < R 8 ∧ x.2.2 < R 8
def fv (x : Fr) : List Value := (frcC x.1 x.2.1 x.2.2).toList
def fcs (l : List Fr) : List Value := l.flatMap fv
theorem fv_len (x : Fr) : (fv x).length = 17 := by simp [fv, frcC]
theorem fcs_len (l : List Fr) : (fcs l).length = l.length * 17 := by
  induction l with
  | nil => rfl
  | cons x r ih => simp only [fcs, List.flatMap_cons, List.length_append] at ih ⊢; rw [ih, fv_len, List.length_cons, Nat.add_mul]; omega
theorem fcs_snoc (l : List Fr) (s : Bool) (n d : Nat) : fcs (l ++ [(s, n, d)]) = fcs l ++ (frcC s n d).toList := by simp [fcs, fv]
theorem fcs_one (l : List Fr) : ∀ u ∈ fcs l, u.oneCell' = true := by
  intro u hu
  obtain ⟨x, _, hx⟩ := List.mem_flatMap.1 hu
  exact frc_onec u hx
theorem fcs_get {l : List Fr} {i : Nat} {x : Fr} (h : l[i]? = some x) {j : Nat} {v : Value} (hv : (fv x)[j]? = some v) : (fcs l)[i * 17 + j]? = some v := by
  have hj := (List.getElem?_eq_some_iff.1 hv).1
  induction l generalizing i with
  | nil => simp at h
  | cons y r ih =>
    have e : fcs (y :: r) = fv y ++ fcs r := by simp only [fcs, List.flatMap_cons]
    rw [e]
    cases i with
    | zero =>
      simp only [List.getElem?_cons_zero, Option.some.injEq] at h
      subst h
      rw [Nat.zero_mul, Nat.zero_add, List.getElem?_append_left hj]
      exact hv
    | succ i =>
      simp only [List.getElem?_cons_succ] at h
      rw [List.getElem?_append_right (by rw [fv_len]; omega), fv_len, show (i + 1) * 17 + j - 17 = i * 17 + j from by omega]
      exact ih h
def FS (W0 : Base) (p : Option Addr) (l : List Fr) (T : List (Nat × Obj)) : Prop := ∀ W, KS W0 T W → SLV W p (fcs l)
section
variable {W0 : Base} {T K : List (Nat × Obj)} {p : Option Addr} {l : List Fr}
theorem FS.mono (h : FS W0 p l T) (hs : ∀ q ∈ T, q ∈ K) : FS W0 p l K := fun W hW => h W (hW.sub hs)
theorem FS.base {W : World} (h : SLV W p (fcs l)) : FS (W : Base) p l [] := fun _ hW => h.keep hW.1
theorem fcs_ne {k : Nat} (hk : k < l.length) : fcs l ≠ [] := fun e => by have := fcs_len l; rw [e] at this; simp at this; omega
theorem FS.at {W : World} {k : Nat} (h : FS W0 p l T) (hW : KS W0 T W) (hk : k < l.length) : ∃ b off, p = some ⟨b, off, none⟩ ∧ ∀ W, KS W0 T W → ∀ (i : Nat) (x : Fr), l[i]? = some x → ∀ (j : Nat) (v : Value), (fv x)[j]? = some v → W.cell? ⟨b, off + i * 17 + j, none⟩ = some v := by
  rcases h W hW with h0 | ⟨b, off, rfl, _, _⟩
  · exact absurd h0 (fcs_ne hk)
  · refine ⟨b, off, rfl, fun W2 hW2 i x hx j v hv => ?_⟩
    rcases h W2 hW2 with h0 | ⟨b', off', he, _, hc⟩
    · exact absurd h0 (fcs_ne hk)
    · cases he
      rw [Nat.add_assoc]
      exact hc _ _ (fcs_get hx hv)
theorem own_fs {E : TypeId} {v : Value} {n : Nat} (h : OwnL W0 E 17 v n (fcs l) T) : ∃ p c, v = .slice p n c ∧ n ≤ c ∧ FS W0 p l T := by
  rcases h with ⟨rfl, h2, rfl, rfl⟩ | ⟨g, cap, cur, rfl, hB, hR, rfl⟩
  · exact ⟨none, 0, rfl, Nat.le_refl _, fun _ _ => .inl h2⟩
  · refine ⟨_, cap, rfl, hR.2.2.1, fun W hW => ?_⟩
    have hb := hW.2 _ (.head _)
    exact .inr ⟨g, 0, rfl, lt_of_block hb, hR.cel hb⟩
theorem own_none {E : TypeId} {g : Nat} (hB : W0.B ≤ g) : OwnL W0 E 17 (.slice (some ⟨g, 0, none⟩) 0 0) 0 (fcs []) [(g, .cells #[] E (0, 0))] :=
  .inr ⟨g, 0, _, rfl, hB, ⟨by simp, by unfold maxLen; omega, Nat.le_refl _, rfl, rfl⟩, rfl⟩
end
section
variable {P : Program} {T E : TypeId} {W0 : Base}
theorem src_fs {K : List (Nat × Obj)} {U : TypeId} {p : Option Addr} {l : List Fr} {m c : Nat} (hU : P.underlying U = some (.slice E)) (h : FS W0 p l K) (hm : m = l.length) : ∀ w, KS W0 K w → Src P 17 U (.slice p m c) m (fcs l) w := by
  intro w hw
  subst hm
  rcases h w hw with h0 | ⟨b, off, rfl, hlt, hc⟩
  · have hl : l = [] := by
      have := fcs_len l; rw [h0] at this; exact List.eq_nil_of_length_eq_zero (by simp at this; omega)
    subst hl
    cases p with
    | none => exact Src.ofNil w hU c
    | some ad => exact Src.ofSlice w hU ad 0 c [] (by simp) (fun j u h => by simp at h) (fun u hu => by cases hu)
  · exact Src.ofSlice w hU ⟨b, off, none⟩ l.length c (fcs l) (by simp [fcs_len]) (fun j u hj => by rw [addr_add]; exact hc j u hj) (fcs_one l)
theorem yb_fr {o : Oper} {a : Act} {K : List (Nat × Obj)} {ty : TypeId} {x : Operand} {g off : Nat} {s : Bool} {n d : Nat} {D : TypeDesc} (ho : o.op = .load ty x) (hx : a.eval x = .pointer (some ⟨g, off, none⟩))
    (hc0 : ∀ w, KS W0 K w → ∀ (j : Nat) (v : Value), (fv (s, n, d))[j]? = some v → w.cell? ⟨g, off + j, none⟩ = some v) (hu : P.underlying ty = some D) (hd : aggD D = true) (hi : (P.info? ty).map (·.size) = some 17) :
    ∀ w, KS W0 K w → ∀ K' : Act → World → Prop, (∀ w', Below w.heap.size w w' → K' (a.put o.dst (.agg (frcC s n d))) w') → Oper.wp P o a w K' (fun _ _ _ => False) := by
  intro w hw K' hk
  have hr := run_loadVar_list (P := P) (ty := ty) (cs := fv (s, n, d)) (g := g) (off := off) w (fun j v hj => hc0 w hw j v hj) hu hd (by rw [fv_len]; exact hi)
  have e : (fv (s, n, d)).toArray = frcC s n d := by unfold fv; simp only [Array.toArray_toList]
  rw [e] at hr
  unfold Oper.wp execOp
  simp only [ho, hx, Instr.loadAt, Instr.sureAddr, Sem.run_bind, Sem.run_pure, Result.andThen_ok, hr]
  exact hk w (Below.refl _ _)
end
def addF (x y : Fr) : Option Fr :=
  let N := psN x.1 y.1 (x.2.1 * (y.2.2 / Nat.gcd x.2.2 y.2.2)) (y.2.1 * (x.2.2 / Nat.gcd x.2.2 y.2.2))
  let S := psS x.1 y.1 (x.2.1 * (y.2.2 / Nat.gcd x.2.2 y.2.2)) (y.2.1 * (x.2.2 / Nat.gcd x.2.2 y.2.2))
  let n := N / Nat.gcd N (Nat.gcd x.2.2 y.2.2)
  let d := x.2.2 / Nat.gcd x.2.2 y.2.2 * (y.2.2 / Nat.gcd N (Nat.gcd x.2.2 y.2.2))
  if n < R 8 ∧ d < R 8 then some (S && decide (n ≠ 0), n, d) else none
section
variable [ShLZ]
theorem add_cases (s1 : Bool) (n1 d1 : Nat) (s2 : Bool) (n2 d2 : Nat) : ∃ s n d e, addV s1 n1 d1 s2 n2 d2 = .tuple #[.agg (frcC s n d), .int .i64 e] ∧ n < R 8 ∧ d < R 8 ∧ ((e = 0 ∧ addF (s1, n1, d1) (s2, n2, d2) = some (s, n, d)) ∨ (e = 3 ∧ addF (s1, n1, d1) (s2, n2, d2) = none)) := by
  unfold addV packV addF
  simp only
  split
  · rename_i h
    exact ⟨_, _, _, _, rfl, h.1, h.2, .inl ⟨rfl, rfl⟩⟩
  · exact ⟨_, _, _, _, rfl, R_pos 8, R_pos 8, .inr ⟨rfl, rfl⟩⟩
theorem rat_frc {s s' : Bool} {n n' d d' : Nat} (hn : n < R 8) (hd : d < R 8) (hn' : n' < R 8) (hd' : d' < R 8) (h : frcC s n d = frcC s' n' d') : s = s' ∧ n = n' ∧ d = d' := by
  have h0 : s = s' := by
    have e := congrArg (fun a => a[0]?) h
    simp only [frc_neg, Option.some.injEq, Value.bool.injEq] at e
    exact e
  have h1 : fa 8 (dg n) = fa 8 (dg n') := by rw [frc_num s n d, frc_num s' n' d', h]
  have h2 : fa 8 (dg d) = fa 8 (dg d') := by rw [frc_den s n d, frc_den s' n' d', h]
  have key : ∀ {a b : Nat}, a < R 8 → b < R 8 → fa 8 (dg a) = fa 8 (dg b) → a = b := by
    intro a b ha hb e
    have hi : ∀ i, i < 8 → dg a i = dg b i := by
      intro i hi
      have e2 := congrArg (fun q => q[i]?) e
      simp only [fa_get _ hi, Option.some.injEq, Value.int.injEq, true_and] at e2
      omega
    rw [← Nat.mod_eq_of_lt ha, ← Nat.mod_eq_of_lt hb, ← Tf.va_dg a 8, ← Tf.va_dg b 8]
    simp only [Tf.va, hi 0 (by omega), hi 1 (by omega), hi 2 (by omega), hi 3 (by omega), hi 4 (by omega), hi 5 (by omega), hi 6 (by omega), hi 7 (by omega)]
  exact ⟨h0, key hn hn' h1, key hd hd' h2⟩
theorem addF_right {x y z : Fr} (hx : rightB x.1 x.2.1 x.2.2 = true) (hy : rightB y.1 y.2.1 y.2.2 = true) (h : addF x y = some z) : rightB z.1 z.2.1 z.2.2 = true ∧ frOk z := by
  obtain ⟨s1, n1, d1⟩ := x
  obtain ⟨s2, n2, d2⟩ := y
  obtain ⟨s, n, d, e, h1, h2, h3, h4⟩ := add_cases s1 n1 d1 s2 n2 d2
  rcases h4 with ⟨rfl, h5⟩ | ⟨_, h5⟩
  · rw [h] at h5
    cases h5
    refine ⟨?_, h2, h3⟩
    obtain ⟨a, _, e2, e3, e4⟩ := right_rat hx
    obtain ⟨b, _, f2, f3, f4⟩ := right_rat hy
    simp only at e2 e3 e4 f2 f3 f4
    have h6 := addV_rat a b
    rw [e2, e3, e4, f2, f3, f4, h1] at h6
    unfold fracV at h6
    split at h6
    · rename_i hf
      simp only [Value.tuple.injEq, Array.mk.injEq, List.cons.injEq, ratV, frc, Value.agg.injEq, and_true] at h6
      obtain ⟨r1, r2, r3⟩ := rat_frc h2 h3 hf.1 hf.2 h6
      show rightB s n d = true
      rw [r1, r2, r3]
      exact rat_right _
    · simp at h6
  · rw [h] at h5; cases h5
def sumO : Fr → List Fr → Option Fr
  | a, [] => some a
  | a, x :: r => match addF a x with
    | some z => sumO z r
    | none => none
theorem sumO_some {a x z : Fr} {l : List Fr} {i : Nat} (hx : l[i]? = some x) (h : addF a x = some z) : sumO a (l.drop i) = sumO z (l.drop (i + 1)) := by
  obtain ⟨hi, he⟩ := List.getElem?_eq_some_iff.1 hx
  rw [List.drop_eq_getElem_cons hi, he, sumO, h]
theorem sumO_none {a x : Fr} {l : List Fr} {i : Nat} (hx : l[i]? = some x) (h : addF a x = none) : sumO a (l.drop i) = none := by
  obtain ⟨hi, he⟩ := List.getElem?_eq_some_iff.1 hx
  rw [List.drop_eq_getElem_cons hi, he, sumO, h]
def allR (l : List Fr) : Bool := l.all fun x => rightB x.1 x.2.1 x.2.2
def sumV (l : List Fr) : Value := if allR l = true then (match sumO (false, 0, 1) l with | some z => .tuple #[.agg (frcC z.1 z.2.1 z.2.2), .int .i64 0] | none => .tuple #[.agg (frcC false 0 0), .int .i64 3]) else .tuple #[.agg (frcC false 0 0), .int .i64 2]
theorem sumV_bad {l : List Fr} {i : Nat} {s : Bool} {n d : Nat} (hx : l[i]? = some (s, n, d)) (h : rightB s n d = false) : (Value.tuple #[.agg (frcC false 0 0), .int .i64 2]) = sumV l := by
  unfold sumV
  rw [if_neg]
  intro ha
  have := List.all_eq_true.1 ha _ (List.mem_of_getElem? hx)
  simp only [h] at this
  cases this
theorem sumV_none {l : List Fr} (ha : allR l = true) (h : sumO (false, 0, 1) l = none) : (Value.tuple #[.agg (frcC false 0 0), .int .i64 3]) = sumV l := by
  unfold sumV
  rw [if_pos ha, h]
theorem sumV_some {l : List Fr} {s : Bool} {n d : Nat} (ha : allR l = true) (h : sumO (false, 0, 1) l = some (s, n, d)) : (Value.tuple #[.agg (frcC s n d), .int .i64 0]) = sumV l := by
  unfold sumV
  rw [if_pos ha, h]
theorem allR_take {l : List Fr} {i : Nat} {s : Bool} {n d : Nat} (h : allR (l.take i) = true) (hx : l[i]? = some (s, n, d)) (hr : rightB s n d = true) : allR (l.take (i + 1)) = true := by
  unfold allR at h ⊢
  rw [List.take_add_one, hx, List.all_append, h]
  simp [hr]
theorem allR_at {l : List Fr} {i : Nat} {s : Bool} {n d : Nat} (h : allR l = true) (hx : l[i]? = some (s, n, d)) : rightB s n d = true := List.all_eq_true.1 h _ (List.mem_of_getElem? hx)
theorem sumO_ok : ∀ (l : List Fr) (a z : Fr), rightB a.1 a.2.1 a.2.2 = true → frOk a → allR l = true → sumO a l = some z → frOk z
  | [], a, z, _, ho, _, h => by simp only [sumO, Option.some.injEq] at h; rw [← h]; exact ho
  | x :: r, a, z, hr, ho, ha, h => by
    unfold allR at ha
    simp only [List.all_cons, Bool.and_eq_true] at ha
    unfold sumO at h
    cases hx : addF a x with
    | none => rw [hx] at h; cases h
    | some y =>
      rw [hx] at h
      obtain ⟨h1, h2⟩ := addF_right hr ha.1 hx
      exact sumO_ok r y z h1 h2 ha.2 h
theorem sumV_shape (l : List Fr) : ∃ s n d e, sumV l = .tuple #[.agg (frcC s n d), .int .i64 e] ∧ n < R 8 ∧ d < R 8 := by
  unfold sumV
  split
  · rename_i ha
    cases h : sumO (false, 0, 1) l with
    | none => exact ⟨_, _, _, _, rfl, R_pos 8, R_pos 8⟩
    | some z =>
      have hz := sumO_ok l (false, 0, 1) z (by rfl) ⟨R_pos 8, show 1 < R 8 from lt8 (by omega)⟩ ha h
      exact ⟨_, _, _, _, rfl, hz.1, hz.2⟩
  · exact ⟨_, _, _, _, rfl, R_pos 8, R_pos 8⟩
end
end Go.Proofs.YtalmflgkbmnghaaGreatDoor
namespace Go.Proofs.YtalmflgkbmnghaaGreatDoor
open Go Go.RowKit Tw
set_option linter.unusedSimpArgs false
set_option linter.unusedVariables false
open Tf (dg R R_pos R_le R_succ dg_of_lt setd setd_eq)
variable [ShLZ]
theorem el_frc : Elem Tryz.prog 29 25 17 68 (.agg (frcC false 0 0)) := Elem.mk' Tryz.underlying29 (by kernel_rfl) rfl
theorem el_rfc : Elem Tryz.prog 57 34 17 68 (.agg (frcC false 0 0)) := Elem.mk' Tryz.underlying57 (by kernel_rfl) rfl
theorem prOf0 (W : World) : Calls Tryz.prog 39 #[.int .i64 0] W fun e w' => e = .returned (.agg (frcC false 0 1)) ∧ Below W.heap.size W w' := of_any 0 (by omega) (by omega) W
set_option maxRecDepth 100000 in
set_option maxHeartbeats 20000000 in
theorem psum_any (l : List Fr) (p : Option Addr) (c : Nat) (hl : l.length ≤ 1000000) (hok : ∀ x ∈ l, frOk x) (w : World) (hp : SLV w p (fcs l)) : Calls Tryz.prog 35 #[.slice p l.length c] w fun e w' => e = .returned (sumV l) ∧ Below w.heap.size w w' := by
  have HP : FS (w : Base) p l [] := FS.base hp
  clear hp
  obtain ⟨V, hV⟩ : ∃ V : Value, V = sumV l := ⟨_, rfl⟩
  rw [← hV]
  go_enter Tryz.func35, Tryz.ntmps35
  refine wp_seq ?_
  refine wp_region_L (W0 := w) [] (KS.start w) ?_
  refine wpL_new (fun g => .pointer (some ⟨g, 0, none⟩)) (obi := .cells (frcC false 0 0) 25 (0, 0)) rfl rfl (fun _ => by kernel_rfl) (fun _ => by simp only [List.setIfInBounds_toArray, List.set_cons_succ, List.set_cons_zero] <;> rfl) fun g1 Bg1 Fg1 => ?_
  refine Tw.lm (v := .int .i64 0) rfl rfl ?_
  refine wpL_done (fun W1 hW1 => ?_)
  refine (show Code.wp _ _ _ _ _ from ?_)
  refine wp_seq ?_
  refine wp_seq ?_
  refine wp_region_L (W0 := w) [(g1, .cells (frcC false 0 0) 25 (0, 0))] (hW1) ?_
  refine Tw.lm (v := .slice p l.length c) rfl rfl ?_
  refine Tw.lp (v := .int .i64 ((l.length : Nat) : Int)) rfl rfl (run_lenL (p := p) (cap := c) (n := l.length) rfl Tryz.underlying29 (by kernel_rfl)) ?_
  refine Tw.lm (v := .int .i64 0) rfl rfl ?_
  refine wpL_done (fun W2 hW2 => ?_)
  refine (show Code.wp _ _ _ _ _ from ?_)
  refine wp_block ?_
  go_loopw [13] (fun u13 wr => ∃ (i : Nat), (i ≤ l.length) ∧ (allR (l.take i) = true) ∧ u13 = .int .i64 ((i : Nat) : Int) ∧ KS w [(g1, .cells (frcC false 0 0) 25 (0, 0))] wr) (fun u13 _ => l.length - (intOf u13).toNat)
  case atStart => exact ⟨0, (Nat.zero_le _), rfl, rfl, (hW2.sub (fun p hp => by first | exact hp | (simp only [List.mem_cons, List.mem_append, List.nil_append, List.not_mem_nil, or_assoc, or_false, false_or, List.cons_append, List.append_assoc] at hp ⊢ <;> grind)))⟩
  case round =>
    obtain ⟨i, hi, hR, rfl, hL3⟩ := hrel
    refine wp_seq ?_
    refine wp_region_L (W0 := w) [(g1, .cells (frcC false 0 0) 25 (0, 0))] (hL3) ?_
    refine Tw.lp (v := .bool (decide (i < l.length))) rfl rfl (run_bin rfl (vx := (.int .i64 ((i : Nat) : Int))) (vy := (.int .i64 ((l.length : Nat) : Int))) (by kernel_rfl) (by kernel_rfl) fun w => bn_lss rfl w) ?_
    refine wpL_done (fun W4 hW4 => ?_)
    refine (show Code.wp _ _ _ _ _ from ?_)
    refine wp_seq ?_
    cases hd1 : (decide (i < l.length)) with
    | false =>
      have h1 : ¬ (i < l.length) := of_decide_eq_false hd1
      clear hd1
      refine wp_cond_false rfl ?_
      refine wp_exit ?_
      refine (show Code.wp _ _ _ _ _ from ?_)
      refine wp_seq ?_
      refine wp_region_L (W0 := w) [(g1, .cells (frcC false 0 0) 25 (0, 0))] (hW4) ?_
      refine Tw.lv (v := .agg (frcC false 0 1)) rfl rfl (yb_call (f := 39) (args := #[.int .i64 0]) (fun _ => by kernel_rfl) fun W hW => prOf0 W) ?_
      refine wpL_new (fun g => .pointer (some ⟨g, 0, none⟩)) (obi := .cells (frcC false 0 0) 25 (0, 0)) rfl rfl (fun _ => by kernel_rfl) (fun _ => by simp only [List.setIfInBounds_toArray, List.set_cons_succ, List.set_cons_zero] <;> rfl) fun g2 Bg2 Fg2 => ?_
      obtain dj3_0 : g1 ≠ g2 := by simpa only [dj_app_l, dj_app_r, dj_cons_l, dj_cons_r, dj_nil_l, dj_nil_r, dk_app, dk_cons, dk_nil, and_true, true_and, and_assoc] using (show Dk g2 [(g1, .cells (frcC false 0 0) 25 (0, 0))] from Fg2)
      refine wpL_s [(g2, .cells (frcC false 0 1) 25 (0, 0)), (g1, .cells (frcC false 0 0) 25 (0, 0))] rfl rfl (st_all (by simp only [frcC_size]) (by exact frc_onec) rfl (by kernel_rfl) (by kernel_rfl) (.head _) Bg2 (by simp only [frcC_size]; kernel_rfl) (List.forall_mem_cons.2 ⟨.inl rfl, (List.forall_mem_cons.2 ⟨.inr ⟨(.tail _ (.head _)), (by first | assumption | exact Ne.symm (by assumption))⟩, (List.forall_mem_nil _)⟩)⟩)) ?_
      refine wpL_done (fun W5 hW5 => ?_)
      refine (show Code.wp _ _ _ _ _ from ?_)
      refine wp_seq ?_
      refine wp_seq ?_
      refine wp_region_L (W0 := w) [(g2, .cells (frcC false 0 1) 25 (0, 0)), (g1, .cells (frcC false 0 0) 25 (0, 0))] (hW5) ?_
      refine Tw.lm (v := .slice p l.length c) rfl rfl ?_
      refine Tw.lp (v := .int .i64 ((l.length : Nat) : Int)) rfl rfl (run_lenL (p := p) (cap := c) (n := l.length) rfl Tryz.underlying29 (by kernel_rfl)) ?_
      refine Tw.lm (v := .int .i64 0) rfl rfl ?_
      refine wpL_done (fun W6 hW6 => ?_)
      refine (show Code.wp _ _ _ _ _ from ?_)
      refine wp_block ?_
      have hall : allR l = true := by rw [List.take_of_length_le (by omega)] at hR; exact hR
      go_loopw [25] (fun u25 wr => ∃ (i2 : Nat) (sa : Bool) (na da : Nat), (i2 ≤ l.length) ∧ (sumO (false, 0, 1) l = sumO (sa, na, da) (l.drop i2)) ∧ (rightB sa na da = true) ∧ (na < R 8 ∧ da < R 8) ∧ u25 = .int .i64 ((i2 : Nat) : Int) ∧ KS w [(g2, .cells (frcC sa na da) 25 (0, 0)), (g1, .cells (frcC false 0 0) 25 (0, 0))] wr) (fun u25 _ => l.length - (intOf u25).toNat)
      case atStart => exact ⟨0, false, 0, 1, (Nat.zero_le _), (by rw [List.drop_zero]), rfl, ⟨R_pos 8, lt8 (by omega)⟩, rfl, (hW6.sub (fun p hp => by first | exact hp | (simp only [List.mem_cons, List.mem_append, List.nil_append, List.not_mem_nil, or_assoc, or_false, false_or, List.cons_append, List.append_assoc] at hp ⊢ <;> grind)))⟩
      case round =>
        obtain ⟨i2, sa, na, da, hi2, hsum, har, hao, rfl, hL7⟩ := hrel
        refine wp_seq ?_
        refine wp_region_L (W0 := w) [(g2, .cells (frcC sa na da) 25 (0, 0)), (g1, .cells (frcC false 0 0) 25 (0, 0))] (hL7) ?_
        refine Tw.lp (v := .bool (decide (i2 < l.length))) rfl rfl (run_bin rfl (vx := (.int .i64 ((i2 : Nat) : Int))) (vy := (.int .i64 ((l.length : Nat) : Int))) (by kernel_rfl) (by kernel_rfl) fun w => bn_lss rfl w) ?_
        refine wpL_done (fun W8 hW8 => ?_)
        refine (show Code.wp _ _ _ _ _ from ?_)
        refine wp_seq ?_
        cases hd2 : (decide (i2 < l.length)) with
        | false =>
          have h2 : ¬ (i2 < l.length) := of_decide_eq_false hd2
          clear hd2
          refine wp_cond_false rfl ?_
          refine wp_exit ?_
          refine (show Code.wp _ _ _ _ _ from ?_)
          refine wp_seq ?_
          refine wp_region_L (W0 := w) [(g2, .cells (frcC sa na da) 25 (0, 0)), (g1, .cells (frcC false 0 0) 25 (0, 0))] (hW8) ?_
          refine Tw.lv (v := .agg (frcC sa na da)) rfl rfl (yb_all rfl (by kernel_rfl) (.head _) Tryz.underlying25 rfl (by simp only [frcC_size]; kernel_rfl)) ?_
          refine wpL_s [(g2, .cells (frcC sa na da) 25 (0, 0)), (g1, .cells (frcC sa na da) 25 (0, 0))] rfl rfl (st_all (by simp only [frcC_size]) (by exact frc_onec) rfl (by kernel_rfl) (by kernel_rfl) (.tail _ (.head _)) Bg1 (by simp only [frcC_size]; kernel_rfl) (List.forall_mem_cons.2 ⟨.inr ⟨(.head _), (by first | assumption | exact Ne.symm (by assumption))⟩, (List.forall_mem_cons.2 ⟨.inl rfl, (List.forall_mem_nil _)⟩)⟩)) ?_
          refine Tw.lm (v := .int .i64 0) rfl rfl ?_
          refine wpL_done (fun W9 hW9 => ?_)
          refine (show Code.wp _ _ _ _ _ from ?_)
          refine wp_ret ?_
          try simp only [inBlock_ret, then_ret]
          refine bodyPost_ret (v := .tuple #[.agg (frcC sa na da), .int .i64 0]) ?_ rfl ?_
          · exact (res_cell_tmp (p := 2) (q := 3) rfl rfl (hW9.2 _ (.tail _ (.head _))) Tryz.underlying25 rfl (by simp only [frcC_size]; kernel_rfl))
          · exact ⟨(ret_v ((sumV_some hall (hsum.trans (by rw [List.drop_of_length_le (by omega)]; rfl))).trans hV.symm)), hW9.1⟩
        | true =>
          have h2 : i2 < l.length := of_decide_eq_true hd2
          clear hd2
          refine wp_cond_true rfl ?_
          refine wp_skip ?_
          refine (show Code.wp _ _ _ _ _ from ?_)
          refine wp_seq ?_
          refine wp_block ?_
          refine wp_seq ?_
          refine wp_region_L (W0 := w) [(g2, .cells (frcC sa na da) 25 (0, 0)), (g1, .cells (frcC false 0 0) 25 (0, 0))] (hW8) ?_
          obtain ⟨b4, f4, hp4, hc4⟩ := HP.at (hW8.sub (fun q hq => by cases hq)) (k := i2) (by omega)
          refine Tw.lp (v := .pointer (some ⟨b4, f4 + i2 * 17, none⟩)) rfl rfl (run_idxQ (p := p) (cap := c) (n := l.length) (j := .i64) (k := i2) (sz := 17) rfl Tryz.underlying29 (by kernel_rfl) (by kernel_rfl) hp4 (by kernel_rfl) (by omega)) ?_
          obtain ⟨⟨es5, en5, ed5⟩, hx5⟩ : ∃ x, (l : List Fr)[i2]? = some x := ⟨_, List.getElem?_eq_getElem (by omega)⟩
          have eb5 : en5 < R 8 ∧ ed5 < R 8 := hok _ (List.mem_of_getElem? hx5)
          refine Tw.lv (v := .agg (frcC es5 en5 ed5)) rfl rfl (yb_fr (off := f4 + i2 * 17) rfl (by kernel_rfl) (fun W hW j v hv => hc4 W (hW.sub (fun q hq => by cases hq)) i2 _ hx5 j v hv) Tryz.underlying25 rfl (by kernel_rfl)) ?_
          refine wpL_new (fun g => .pointer (some ⟨g, 0, none⟩)) (obi := .cells (frcC false 0 0) 25 (0, 0)) rfl rfl (fun _ => by kernel_rfl) (fun _ => by simp only [List.setIfInBounds_toArray, List.set_cons_succ, List.set_cons_zero] <;> rfl) fun g6 Bg6 Fg6 => ?_
          obtain ⟨dj7_0, dj7_1⟩ : g2 ≠ g6 ∧ g1 ≠ g6 := by simpa only [dj_app_l, dj_app_r, dj_cons_l, dj_cons_r, dj_nil_l, dj_nil_r, dk_app, dk_cons, dk_nil, and_true, true_and, and_assoc] using (show Dk g6 [(g2, .cells (frcC sa na da) 25 (0, 0)), (g1, .cells (frcC false 0 0) 25 (0, 0))] from Fg6)
          refine wpL_s [(g6, .cells (frcC es5 en5 ed5) 25 (0, 0)), (g2, .cells (frcC sa na da) 25 (0, 0)), (g1, .cells (frcC false 0 0) 25 (0, 0))] rfl rfl (st_all (by simp only [frcC_size]) (by exact frc_onec) rfl (by kernel_rfl) (by kernel_rfl) (.head _) Bg6 (by simp only [frcC_size]; kernel_rfl) (List.forall_mem_cons.2 ⟨.inl rfl, (List.forall_mem_cons.2 ⟨.inr ⟨(.tail _ (.head _)), (by first | assumption | exact Ne.symm (by assumption))⟩, (List.forall_mem_cons.2 ⟨.inr ⟨(.tail _ (.tail _ (.head _))), (by first | assumption | exact Ne.symm (by assumption))⟩, (List.forall_mem_nil _)⟩)⟩)⟩)) ?_
          refine wpL_done (fun W10 hW10 => ?_)
          refine (show Code.wp _ _ _ _ _ from ?_)
          refine wp_seq ?_
          refine wp_region_L (W0 := w) [(g6, .cells (frcC es5 en5 ed5) 25 (0, 0)), (g2, .cells (frcC sa na da) 25 (0, 0)), (g1, .cells (frcC false 0 0) 25 (0, 0))] (hW10) ?_
          refine Tw.lv (v := .agg (frcC sa na da)) rfl rfl (yb_all rfl (by kernel_rfl) (.tail _ (.head _)) Tryz.underlying25 rfl (by simp only [frcC_size]; kernel_rfl)) ?_
          refine Tw.lv (v := .agg (frcC es5 en5 ed5)) rfl rfl (yb_all rfl (by kernel_rfl) (.head _) Tryz.underlying25 rfl (by simp only [frcC_size]; kernel_rfl)) ?_
          obtain ⟨sv8, nv8, dv8, ev8, hpv8, lnv8, ldv8, hcs8⟩ := add_cases sa na da es5 en5 ed5
          have hxr := allR_at hall hx5
          refine Tw.lv (v := .tuple #[.agg (frcC sv8 nv8 dv8), .int .i64 ev8]) rfl rfl (yb_call (f := 42) (args := #[.agg (frcC sa na da), .agg (frcC es5 en5 ed5)]) (fun _ => by kernel_rfl) fun W hW => (by have h := add_any sa es5 na da en5 ed5 hao.1 hao.2 eb5.1 eb5.2 (right_den har) (right_den hxr) W; rw [hpv8] at h; exact h)) ?_
          refine Tw.lm (v := .tuple #[.agg (frcC sv8 nv8 dv8), .int .i64 ev8]) rfl rfl ?_
          refine Tw.lm (v := .agg (frcC sv8 nv8 dv8)) rfl rfl ?_
          refine Tw.lm (v := .int .i64 ev8) rfl rfl ?_
          refine wpL_new (fun g => .pointer (some ⟨g, 0, none⟩)) (obi := .cells (frcC false 0 0) 25 (0, 0)) rfl rfl (fun _ => by kernel_rfl) (fun _ => by simp only [List.setIfInBounds_toArray, List.set_cons_succ, List.set_cons_zero] <;> rfl) fun g9 Bg9 Fg9 => ?_
          obtain ⟨dj10_0, dj10_1, dj10_2⟩ : g6 ≠ g9 ∧ g2 ≠ g9 ∧ g1 ≠ g9 := by simpa only [dj_app_l, dj_app_r, dj_cons_l, dj_cons_r, dj_nil_l, dj_nil_r, dk_app, dk_cons, dk_nil, and_true, true_and, and_assoc] using (show Dk g9 [(g6, .cells (frcC es5 en5 ed5) 25 (0, 0)), (g2, .cells (frcC sa na da) 25 (0, 0)), (g1, .cells (frcC false 0 0) 25 (0, 0))] from Fg9)
          refine wpL_s [(g9, .cells (frcC sv8 nv8 dv8) 25 (0, 0)), (g6, .cells (frcC es5 en5 ed5) 25 (0, 0)), (g2, .cells (frcC sa na da) 25 (0, 0)), (g1, .cells (frcC false 0 0) 25 (0, 0))] rfl rfl (st_all (by simp only [frcC_size]) (by exact frc_onec) rfl (by kernel_rfl) (by kernel_rfl) (.head _) Bg9 (by simp only [frcC_size]; kernel_rfl) (List.forall_mem_cons.2 ⟨.inl rfl, (List.forall_mem_cons.2 ⟨.inr ⟨(.tail _ (.head _)), (by first | assumption | exact Ne.symm (by assumption))⟩, (List.forall_mem_cons.2 ⟨.inr ⟨(.tail _ (.tail _ (.head _))), (by first | assumption | exact Ne.symm (by assumption))⟩, (List.forall_mem_cons.2 ⟨.inr ⟨(.tail _ (.tail _ (.tail _ (.head _)))), (by first | assumption | exact Ne.symm (by assumption))⟩, (List.forall_mem_nil _)⟩)⟩)⟩)⟩)) ?_
          refine Tw.lm (v := .int .i64 ev8) rfl rfl ?_
          refine wpL_done (fun W11 hW11 => ?_)
          refine (show Code.wp _ _ _ _ _ from ?_)
          refine wp_seq ?_
          refine wp_seq ?_
          refine wp_region_L (W0 := w) [(g9, .cells (frcC sv8 nv8 dv8) 25 (0, 0)), (g6, .cells (frcC es5 en5 ed5) 25 (0, 0)), (g2, .cells (frcC sa na da) 25 (0, 0)), (g1, .cells (frcC false 0 0) 25 (0, 0))] (hW11) ?_
          refine Tw.lm (v := .int .i64 ev8) rfl rfl ?_
          refine Tw.lp (v := .bool (!(decide (ev8 = 0)))) rfl rfl (run_bin rfl (vx := (.int .i64 ev8)) (vy := (.int .i64 0)) (by kernel_rfl) (by kernel_rfl) fun w => bi_neq rfl w) ?_
          refine wpL_done (fun W12 hW12 => ?_)
          refine (show Code.wp _ _ _ _ _ from ?_)
          cases hd3 : (decide (ev8 = 0)) with
          | false =>
            have h3 : ¬ (ev8 = 0) := of_decide_eq_false hd3
            clear hd3
            have hz := (hcs8.elim (fun h => absurd h.1 h3) (fun h => h.2))
            have hz3 : ev8 = 3 := hcs8.elim (fun h => absurd h.1 h3) (fun h => h.1)
            refine wp_cond_true rfl ?_
            refine wp_seq ?_
            refine wp_region_L (W0 := w) [(g9, .cells (frcC sv8 nv8 dv8) 25 (0, 0)), (g6, .cells (frcC es5 en5 ed5) 25 (0, 0)), (g2, .cells (frcC sa na da) 25 (0, 0)), (g1, .cells (frcC false 0 0) 25 (0, 0))] (hW12) ?_
            refine Tw.lm (v := .agg (frcC false 0 0)) rfl rfl ?_
            refine Tw.lm (v := .int .i64 ev8) rfl rfl ?_
            refine wpL_s [(g9, .cells (frcC sv8 nv8 dv8) 25 (0, 0)), (g6, .cells (frcC es5 en5 ed5) 25 (0, 0)), (g2, .cells (frcC sa na da) 25 (0, 0)), (g1, .cells (frcC false 0 0) 25 (0, 0))] rfl rfl (st_all (by simp only [frcC_size]) (by exact frc_onec) rfl (by kernel_rfl) (by kernel_rfl) (.tail _ (.tail _ (.tail _ (.head _)))) Bg1 (by simp only [frcC_size]; kernel_rfl) (List.forall_mem_cons.2 ⟨.inr ⟨(.head _), (by first | assumption | exact Ne.symm (by assumption))⟩, (List.forall_mem_cons.2 ⟨.inr ⟨(.tail _ (.head _)), (by first | assumption | exact Ne.symm (by assumption))⟩, (List.forall_mem_cons.2 ⟨.inr ⟨(.tail _ (.tail _ (.head _))), (by first | assumption | exact Ne.symm (by assumption))⟩, (List.forall_mem_cons.2 ⟨.inl rfl, (List.forall_mem_nil _)⟩)⟩)⟩)⟩)) ?_
            refine Tw.lm (v := .int .i64 ev8) rfl rfl ?_
            refine wpL_done (fun W13 hW13 => ?_)
            refine (show Code.wp _ _ _ _ _ from ?_)
            refine wp_ret ?_
            try simp only [inBlock_ret, then_ret]
            refine bodyPost_ret (v := .tuple #[.agg (frcC false 0 0), .int .i64 ev8]) ?_ rfl ?_
            · exact (res_cell_tmp (p := 2) (q := 3) rfl rfl (hW13.2 _ (.tail _ (.tail _ (.tail _ (.head _))))) Tryz.underlying25 rfl (by simp only [frcC_size]; kernel_rfl))
            · exact ⟨(ret_v (by rw [hz3]; exact (sumV_none hall (hsum.trans (sumO_none hx5 hz))).trans hV.symm)), hW13.1⟩
          | true =>
            have h3 : ev8 = 0 := of_decide_eq_true hd3
            clear hd3
            have hz := (hcs8.elim (fun h => h.2) (fun h => absurd h.1 (by omega)))
            refine wp_cond_false rfl ?_
            refine wp_skip ?_
            refine (show Code.wp _ _ _ _ _ from ?_)
            refine wp_region_L (W0 := w) [(g9, .cells (frcC sv8 nv8 dv8) 25 (0, 0)), (g6, .cells (frcC es5 en5 ed5) 25 (0, 0)), (g2, .cells (frcC sa na da) 25 (0, 0)), (g1, .cells (frcC false 0 0) 25 (0, 0))] (hW12) ?_
            refine Tw.lv (v := .agg (frcC sv8 nv8 dv8)) rfl rfl (yb_all rfl (by kernel_rfl) (.head _) Tryz.underlying25 rfl (by simp only [frcC_size]; kernel_rfl)) ?_
            refine wpL_s [(g9, .cells (frcC sv8 nv8 dv8) 25 (0, 0)), (g6, .cells (frcC es5 en5 ed5) 25 (0, 0)), (g2, .cells (frcC sv8 nv8 dv8) 25 (0, 0)), (g1, .cells (frcC false 0 0) 25 (0, 0))] rfl rfl (st_all (by simp only [frcC_size]) (by exact frc_onec) rfl (by kernel_rfl) (by kernel_rfl) (.tail _ (.tail _ (.head _))) Bg2 (by simp only [frcC_size]; kernel_rfl) (List.forall_mem_cons.2 ⟨.inr ⟨(.head _), (by first | assumption | exact Ne.symm (by assumption))⟩, (List.forall_mem_cons.2 ⟨.inr ⟨(.tail _ (.head _)), (by first | assumption | exact Ne.symm (by assumption))⟩, (List.forall_mem_cons.2 ⟨.inl rfl, (List.forall_mem_cons.2 ⟨.inr ⟨(.tail _ (.tail _ (.tail _ (.head _)))), (by first | assumption | exact Ne.symm (by assumption))⟩, (List.forall_mem_nil _)⟩)⟩)⟩)⟩)) ?_
            refine wpL_done (fun W14 hW14 => ?_)
            refine (show Code.wp _ _ _ _ _ from ?_)
            refine wp_region_L (W0 := w) [(g9, .cells (frcC sv8 nv8 dv8) 25 (0, 0)), (g6, .cells (frcC es5 en5 ed5) 25 (0, 0)), (g2, .cells (frcC sv8 nv8 dv8) 25 (0, 0)), (g1, .cells (frcC false 0 0) 25 (0, 0))] (hW14) ?_
            refine Tw.lp (v := .int .i64 (((i2 + 1) : Nat) : Int)) rfl rfl (run_bin rfl (vx := (.int .i64 ((i2 : Nat) : Int))) (vy := (.int .i64 ((1 : Nat) : Int))) (by kernel_rfl) (by kernel_rfl) fun w => bn_add (z := (i2 + 1)) rfl (wr_i64 (by omega)) w) ?_
            refine Tw.lm (v := .int .i64 (((i2 + 1) : Nat) : Int)) rfl rfl ?_
            refine wpL_done (fun W15 hW15 => ?_)
            go_roundw
            case rel =>
              repeat apply Exists.intro
              exact ⟨⟨i2 + 1, sv8, nv8, dv8, (by omega), (hsum.trans (sumO_some hx5 hz)), (addF_right har (allR_at hall hx5) hz).1, (addF_right har (allR_at hall hx5) hz).2, rfl, (hW15.sub (fun p hp => by first | exact hp | (simp only [List.mem_cons, List.mem_append, List.nil_append, List.not_mem_nil, or_assoc, or_false, false_or, List.cons_append, List.append_assoc] at hp ⊢ <;> grind)))⟩, rfl⟩
            case measure => (show l.length - (intOf (.int .i64 (((i2 + 1) : Nat) : Int))).toNat < l.length - (intOf (.int .i64 ((i2 : Nat) : Int))).toNat); simp only [intOf]; omega
    | true =>
      have h1 : i < l.length := of_decide_eq_true hd1
      clear hd1
      refine wp_cond_true rfl ?_
      refine wp_skip ?_
      refine (show Code.wp _ _ _ _ _ from ?_)
      refine wp_seq ?_
      refine wp_block ?_
      refine wp_seq ?_
      refine wp_region_L (W0 := w) [(g1, .cells (frcC false 0 0) 25 (0, 0))] (hW4) ?_
      obtain ⟨b11, f11, hp11, hc11⟩ := HP.at (hW4.sub (fun q hq => by cases hq)) (k := i) (by omega)
      refine Tw.lp (v := .pointer (some ⟨b11, f11 + i * 17, none⟩)) rfl rfl (run_idxQ (p := p) (cap := c) (n := l.length) (j := .i64) (k := i) (sz := 17) rfl Tryz.underlying29 (by kernel_rfl) (by kernel_rfl) hp11 (by kernel_rfl) (by omega)) ?_
      obtain ⟨⟨es12, en12, ed12⟩, hx12⟩ : ∃ x, (l : List Fr)[i]? = some x := ⟨_, List.getElem?_eq_getElem (by omega)⟩
      have eb12 : en12 < R 8 ∧ ed12 < R 8 := hok _ (List.mem_of_getElem? hx12)
      refine Tw.lv (v := .agg (frcC es12 en12 ed12)) rfl rfl (yb_fr (off := f11 + i * 17) rfl (by kernel_rfl) (fun W hW j v hv => hc11 W (hW.sub (fun q hq => by cases hq)) i _ hx12 j v hv) Tryz.underlying25 rfl (by kernel_rfl)) ?_
      refine wpL_new (fun g => .pointer (some ⟨g, 0, none⟩)) (obi := .cells (frcC false 0 0) 25 (0, 0)) rfl rfl (fun _ => by kernel_rfl) (fun _ => by simp only [List.setIfInBounds_toArray, List.set_cons_succ, List.set_cons_zero] <;> rfl) fun g13 Bg13 Fg13 => ?_
      obtain dj14_0 : g1 ≠ g13 := by simpa only [dj_app_l, dj_app_r, dj_cons_l, dj_cons_r, dj_nil_l, dj_nil_r, dk_app, dk_cons, dk_nil, and_true, true_and, and_assoc] using (show Dk g13 [(g1, .cells (frcC false 0 0) 25 (0, 0))] from Fg13)
      refine wpL_s [(g13, .cells (frcC es12 en12 ed12) 25 (0, 0)), (g1, .cells (frcC false 0 0) 25 (0, 0))] rfl rfl (st_all (by simp only [frcC_size]) (by exact frc_onec) rfl (by kernel_rfl) (by kernel_rfl) (.head _) Bg13 (by simp only [frcC_size]; kernel_rfl) (List.forall_mem_cons.2 ⟨.inl rfl, (List.forall_mem_cons.2 ⟨.inr ⟨(.tail _ (.head _)), (by first | assumption | exact Ne.symm (by assumption))⟩, (List.forall_mem_nil _)⟩)⟩)) ?_
      refine wpL_done (fun W16 hW16 => ?_)
      refine (show Code.wp _ _ _ _ _ from ?_)
      refine wp_seq ?_
      refine wp_region_L (W0 := w) [(g13, .cells (frcC es12 en12 ed12) 25 (0, 0)), (g1, .cells (frcC false 0 0) 25 (0, 0))] (hW16) ?_
      refine Tw.lv (v := .agg (frcC es12 en12 ed12)) rfl rfl (yb_all rfl (by kernel_rfl) (.head _) Tryz.underlying25 rfl (by simp only [frcC_size]; kernel_rfl)) ?_
      refine Tw.lv (v := .bool (rightB es12 en12 ed12)) rfl rfl (yb_call (f := 17) (args := #[.agg (frcC es12 en12 ed12)]) (fun _ => by kernel_rfl) fun W hW => right_any es12 en12 ed12 eb12.1 eb12.2 W) ?_
      refine Tw.lp (v := .bool (!(rightB es12 en12 ed12))) rfl rfl (run_un rfl (by kernel_rfl) fun w => un_not w) ?_
      refine wpL_done (fun W17 hW17 => ?_)
      refine (show Code.wp _ _ _ _ _ from ?_)
      cases h4 : (rightB es12 en12 ed12) with
      | false =>
        refine wp_cond_true rfl ?_
        refine wp_seq ?_
        refine wp_region_L (W0 := w) [(g13, .cells (frcC es12 en12 ed12) 25 (0, 0)), (g1, .cells (frcC false 0 0) 25 (0, 0))] (hW17) ?_
        refine Tw.lm (v := .agg (frcC false 0 0)) rfl rfl ?_
        refine wpL_s [(g13, .cells (frcC es12 en12 ed12) 25 (0, 0)), (g1, .cells (frcC false 0 0) 25 (0, 0))] rfl rfl (st_all (by simp only [frcC_size]) (by exact frc_onec) rfl (by kernel_rfl) (by kernel_rfl) (.tail _ (.head _)) Bg1 (by simp only [frcC_size]; kernel_rfl) (List.forall_mem_cons.2 ⟨.inr ⟨(.head _), (by first | assumption | exact Ne.symm (by assumption))⟩, (List.forall_mem_cons.2 ⟨.inl rfl, (List.forall_mem_nil _)⟩)⟩)) ?_
        refine Tw.lm (v := .int .i64 2) rfl rfl ?_
        refine wpL_done (fun W18 hW18 => ?_)
        refine (show Code.wp _ _ _ _ _ from ?_)
        refine wp_ret ?_
        try simp only [inBlock_ret, then_ret]
        refine bodyPost_ret (v := .tuple #[.agg (frcC false 0 0), .int .i64 2]) ?_ rfl ?_
        · exact (res_cell_tmp (p := 2) (q := 3) rfl rfl (hW18.2 _ (.tail _ (.head _))) Tryz.underlying25 rfl (by simp only [frcC_size]; kernel_rfl))
        · exact ⟨(ret_v ((sumV_bad hx12 h4).trans hV.symm)), hW18.1⟩
      | true =>
        refine wp_cond_false rfl ?_
        refine wp_skip ?_
        refine (show Code.wp _ _ _ _ _ from ?_)
        refine wp_region_L (W0 := w) [(g13, .cells (frcC es12 en12 ed12) 25 (0, 0)), (g1, .cells (frcC false 0 0) 25 (0, 0))] (hW17) ?_
        refine Tw.lp (v := .int .i64 (((i + 1) : Nat) : Int)) rfl rfl (run_bin rfl (vx := (.int .i64 ((i : Nat) : Int))) (vy := (.int .i64 ((1 : Nat) : Int))) (by kernel_rfl) (by kernel_rfl) fun w => bn_add (z := (i + 1)) rfl (wr_i64 (by omega)) w) ?_
        refine Tw.lm (v := .int .i64 (((i + 1) : Nat) : Int)) rfl rfl ?_
        refine wpL_done (fun W19 hW19 => ?_)
        go_roundw
        case rel =>
          repeat apply Exists.intro
          exact ⟨⟨i + 1, (by omega), (allR_take hR hx12 h4), rfl, (hW19.sub (fun p hp => by first | exact hp | (simp only [List.mem_cons, List.mem_append, List.nil_append, List.not_mem_nil, or_assoc, or_false, false_or, List.cons_append, List.append_assoc] at hp ⊢ <;> grind)))⟩, rfl⟩
        case measure => (show l.length - (intOf (.int .i64 (((i + 1) : Nat) : Int))).toNat < l.length - (intOf (.int .i64 ((i : Nat) : Int))).toNat); simp only [intOf]; omega
end Go.Proofs.YtalmflgkbmnghaaGreatDoor
namespace Go.Proofs.YtalmflgkbmnghaaGreatDoor
open Go Go.RowKit Tw
set_option linter.unusedSimpArgs false
set_option linter.unusedVariables false
open Tf (dg R R_pos R_le R_succ dg_of_lt setd setd_eq)
variable [ShLZ]
theorem rrOf0 (W : World) : Calls Tryz.prog 40 #[.int .i64 0] W fun e w' => e = .returned (.agg (frcC false 0 1)) ∧ Below W.heap.size W w' := ROf_any 0 (by omega) (by omega) W
set_option maxRecDepth 100000 in
set_option maxHeartbeats 20000000 in
theorem rsum_any (l : List Fr) (p : Option Addr) (c : Nat) (hl : l.length ≤ 1000000) (hok : ∀ x ∈ l, frOk x) (w : World) (hp : SLV w p (fcs l)) : Calls Tryz.prog 36 #[.slice p l.length c] w fun e w' => e = .returned (sumV l) ∧ Below w.heap.size w w' := by
  have HP : FS (w : Base) p l [] := FS.base hp
  clear hp
  obtain ⟨V, hV⟩ : ∃ V : Value, V = sumV l := ⟨_, rfl⟩
  rw [← hV]
  go_enter Tryz.func36, Tryz.ntmps36
  refine wp_seq ?_
  refine wp_region_L (W0 := w) [] (KS.start w) ?_
  refine wpL_new (fun g => .pointer (some ⟨g, 0, none⟩)) (obi := .cells (frcC false 0 0) 34 (0, 0)) rfl rfl (fun _ => by kernel_rfl) (fun _ => by simp only [List.setIfInBounds_toArray, List.set_cons_succ, List.set_cons_zero] <;> rfl) fun g1 Bg1 Fg1 => ?_
  refine Tw.lm (v := .int .i64 0) rfl rfl ?_
  refine wpL_done (fun W1 hW1 => ?_)
  refine (show Code.wp _ _ _ _ _ from ?_)
  refine wp_seq ?_
  refine wp_region_L (W0 := w) [(g1, .cells (frcC false 0 0) 34 (0, 0))] (hW1) ?_
  refine Tw.lv (v := .agg (frcC false 0 1)) rfl rfl (yb_call (f := 40) (args := #[.int .i64 0]) (fun _ => by kernel_rfl) fun W hW => rrOf0 W) ?_
  refine wpL_new (fun g => .pointer (some ⟨g, 0, none⟩)) (obi := .cells (frcC false 0 0) 34 (0, 0)) rfl rfl (fun _ => by kernel_rfl) (fun _ => by simp only [List.setIfInBounds_toArray, List.set_cons_succ, List.set_cons_zero] <;> rfl) fun g2 Bg2 Fg2 => ?_
  obtain dj3_0 : g1 ≠ g2 := by simpa only [dj_app_l, dj_app_r, dj_cons_l, dj_cons_r, dj_nil_l, dj_nil_r, dk_app, dk_cons, dk_nil, and_true, true_and, and_assoc] using (show Dk g2 [(g1, .cells (frcC false 0 0) 34 (0, 0))] from Fg2)
  refine wpL_s [(g2, .cells (frcC false 0 1) 34 (0, 0)), (g1, .cells (frcC false 0 0) 34 (0, 0))] rfl rfl (st_all (by simp only [frcC_size]) (by exact frc_onec) rfl (by kernel_rfl) (by kernel_rfl) (.head _) Bg2 (by simp only [frcC_size]; kernel_rfl) (List.forall_mem_cons.2 ⟨.inl rfl, (List.forall_mem_cons.2 ⟨.inr ⟨(.tail _ (.head _)), (by first | assumption | exact Ne.symm (by assumption))⟩, (List.forall_mem_nil _)⟩)⟩)) ?_
  refine wpL_done (fun W2 hW2 => ?_)
  refine (show Code.wp _ _ _ _ _ from ?_)
  refine wp_seq ?_
  refine wp_seq ?_
  refine wp_region_L (W0 := w) [(g2, .cells (frcC false 0 1) 34 (0, 0)), (g1, .cells (frcC false 0 0) 34 (0, 0))] (hW2) ?_
  refine Tw.lm (v := .int .i64 0) rfl rfl ?_
  refine wpL_done (fun W3 hW3 => ?_)
  refine (show Code.wp _ _ _ _ _ from ?_)
  refine wp_block ?_
  go_loopw [5] (fun u5 wr => ∃ (i : Nat), (i ≤ l.length) ∧ (allR (l.take i) = true) ∧ u5 = .int .i64 ((i : Nat) : Int) ∧ KS w [(g2, .cells (frcC false 0 1) 34 (0, 0)), (g1, .cells (frcC false 0 0) 34 (0, 0))] wr) (fun u5 _ => l.length - (intOf u5).toNat)
  case atStart => exact ⟨0, (Nat.zero_le _), rfl, rfl, (hW3.sub (fun p hp => by first | exact hp | (simp only [List.mem_cons, List.mem_append, List.nil_append, List.not_mem_nil, or_assoc, or_false, false_or, List.cons_append, List.append_assoc] at hp ⊢ <;> grind)))⟩
  case round =>
    obtain ⟨i, hi, hR, rfl, hL4⟩ := hrel
    refine wp_seq ?_
    refine wp_seq ?_
    refine wp_region_L (W0 := w) [(g2, .cells (frcC false 0 1) 34 (0, 0)), (g1, .cells (frcC false 0 0) 34 (0, 0))] (hL4) ?_
    refine Tw.lm (v := .int .i64 ((i : Nat) : Int)) rfl rfl ?_
    refine Tw.lm (v := .slice p l.length c) rfl rfl ?_
    refine Tw.lp (v := .int .i64 ((l.length : Nat) : Int)) rfl rfl (run_lenL (p := p) (cap := c) (n := l.length) rfl Tryz.underlying57 (by kernel_rfl)) ?_
    refine Tw.lp (v := .bool (decide (i < l.length))) rfl rfl (run_bin rfl (vx := (.int .i64 ((i : Nat) : Int))) (vy := (.int .i64 ((l.length : Nat) : Int))) (by kernel_rfl) (by kernel_rfl) fun w => bn_lss rfl w) ?_
    refine wpL_done (fun W5 hW5 => ?_)
    refine (show Code.wp _ _ _ _ _ from ?_)
    cases hd1 : (decide (i < l.length)) with
    | false =>
      have h1 : ¬ (i < l.length) := of_decide_eq_false hd1
      clear hd1
      refine wp_cond_false rfl ?_
      refine wp_exit ?_
      refine (show Code.wp _ _ _ _ _ from ?_)
      refine wp_seq ?_
      refine wp_seq ?_
      refine wp_region_L (W0 := w) [(g2, .cells (frcC false 0 1) 34 (0, 0)), (g1, .cells (frcC false 0 0) 34 (0, 0))] (hW5) ?_
      refine Tw.lm (v := .int .i64 0) rfl rfl ?_
      refine wpL_done (fun W6 hW6 => ?_)
      refine (show Code.wp _ _ _ _ _ from ?_)
      refine wp_block ?_
      have hall : allR l = true := by rw [List.take_of_length_le (by omega)] at hR; exact hR
      go_loopw [6] (fun u6 wr => ∃ (i2 : Nat) (sa : Bool) (na da : Nat), (i2 ≤ l.length) ∧ (sumO (false, 0, 1) l = sumO (sa, na, da) (l.drop i2)) ∧ (rightB sa na da = true) ∧ (na < R 8 ∧ da < R 8) ∧ u6 = .int .i64 ((i2 : Nat) : Int) ∧ KS w [(g2, .cells (frcC sa na da) 34 (0, 0)), (g1, .cells (frcC false 0 0) 34 (0, 0))] wr) (fun u6 _ => l.length - (intOf u6).toNat)
      case atStart => exact ⟨0, false, 0, 1, (Nat.zero_le _), (by rw [List.drop_zero]), rfl, ⟨R_pos 8, lt8 (by omega)⟩, rfl, (hW6.sub (fun p hp => by first | exact hp | (simp only [List.mem_cons, List.mem_append, List.nil_append, List.not_mem_nil, or_assoc, or_false, false_or, List.cons_append, List.append_assoc] at hp ⊢ <;> grind)))⟩
      case round =>
        obtain ⟨i2, sa, na, da, hi2, hsum, har, hao, rfl, hL7⟩ := hrel
        refine wp_seq ?_
        refine wp_seq ?_
        refine wp_region_L (W0 := w) [(g2, .cells (frcC sa na da) 34 (0, 0)), (g1, .cells (frcC false 0 0) 34 (0, 0))] (hL7) ?_
        refine Tw.lm (v := .int .i64 ((i2 : Nat) : Int)) rfl rfl ?_
        refine Tw.lm (v := .slice p l.length c) rfl rfl ?_
        refine Tw.lp (v := .int .i64 ((l.length : Nat) : Int)) rfl rfl (run_lenL (p := p) (cap := c) (n := l.length) rfl Tryz.underlying57 (by kernel_rfl)) ?_
        refine Tw.lp (v := .bool (decide (i2 < l.length))) rfl rfl (run_bin rfl (vx := (.int .i64 ((i2 : Nat) : Int))) (vy := (.int .i64 ((l.length : Nat) : Int))) (by kernel_rfl) (by kernel_rfl) fun w => bn_lss rfl w) ?_
        refine wpL_done (fun W8 hW8 => ?_)
        refine (show Code.wp _ _ _ _ _ from ?_)
        cases hd2 : (decide (i2 < l.length)) with
        | false =>
          have h2 : ¬ (i2 < l.length) := of_decide_eq_false hd2
          clear hd2
          refine wp_cond_false rfl ?_
          refine wp_exit ?_
          refine (show Code.wp _ _ _ _ _ from ?_)
          refine wp_seq ?_
          refine wp_region_L (W0 := w) [(g2, .cells (frcC sa na da) 34 (0, 0)), (g1, .cells (frcC false 0 0) 34 (0, 0))] (hW8) ?_
          refine Tw.lv (v := .agg (frcC sa na da)) rfl rfl (yb_all rfl (by kernel_rfl) (.head _) Tryz.underlying34 rfl (by simp only [frcC_size]; kernel_rfl)) ?_
          refine wpL_s [(g2, .cells (frcC sa na da) 34 (0, 0)), (g1, .cells (frcC sa na da) 34 (0, 0))] rfl rfl (st_all (by simp only [frcC_size]) (by exact frc_onec) rfl (by kernel_rfl) (by kernel_rfl) (.tail _ (.head _)) Bg1 (by simp only [frcC_size]; kernel_rfl) (List.forall_mem_cons.2 ⟨.inr ⟨(.head _), (by first | assumption | exact Ne.symm (by assumption))⟩, (List.forall_mem_cons.2 ⟨.inl rfl, (List.forall_mem_nil _)⟩)⟩)) ?_
          refine Tw.lm (v := .int .i64 0) rfl rfl ?_
          refine wpL_done (fun W9 hW9 => ?_)
          refine (show Code.wp _ _ _ _ _ from ?_)
          refine wp_ret ?_
          try simp only [inBlock_ret, then_ret]
          refine bodyPost_ret (v := .tuple #[.agg (frcC sa na da), .int .i64 0]) ?_ rfl ?_
          · exact (res_cell_tmp (p := 2) (q := 3) rfl rfl (hW9.2 _ (.tail _ (.head _))) Tryz.underlying34 rfl (by simp only [frcC_size]; kernel_rfl))
          · exact ⟨(ret_v ((sumV_some hall (hsum.trans (by rw [List.drop_of_length_le (by omega)]; rfl))).trans hV.symm)), hW9.1⟩
        | true =>
          have h2 : i2 < l.length := of_decide_eq_true hd2
          clear hd2
          refine wp_cond_true rfl ?_
          refine wp_skip ?_
          refine (show Code.wp _ _ _ _ _ from ?_)
          refine wp_seq ?_
          refine wp_block ?_
          refine wp_seq ?_
          refine wp_region_V (W0 := w) [(g2, .cells (frcC sa na da) 34 (0, 0)), (g1, .cells (frcC false 0 0) 34 (0, 0))] (by kernel_rfl) (hW8) ?_
          refine vv (i := 0) (v := .agg (frcC sa na da)) rfl rfl rfl (yb_all rfl (by kernel_rfl) (.head _) Tryz.underlying34 rfl (by simp only [frcC_size]; kernel_rfl)) ?_
          refine vm (i := 1) (v := .slice p l.length c) rfl rfl rfl ?_
          refine vm (i := 2) (v := .int .i64 ((i2 : Nat) : Int)) rfl rfl rfl ?_
          obtain ⟨b4, f4, hp4, hc4⟩ := HP.at (hW8.sub (fun q hq => by cases hq)) (k := i2) (by omega)
          refine vp (i := 3) (v := .pointer (some ⟨b4, f4 + i2 * 17, none⟩)) rfl rfl rfl (run_idxQ (p := p) (cap := c) (n := l.length) (j := .i64) (k := i2) (sz := 17) rfl Tryz.underlying57 (by kernel_rfl) (by kernel_rfl) hp4 (by kernel_rfl) (by omega)) ?_
          obtain ⟨⟨es5, en5, ed5⟩, hx5⟩ : ∃ x, (l : List Fr)[i2]? = some x := ⟨_, List.getElem?_eq_getElem (by omega)⟩
          have eb5 : en5 < R 8 ∧ ed5 < R 8 := hok _ (List.mem_of_getElem? hx5)
          refine vb (i := 4) (v := .agg (frcC es5 en5 ed5)) rfl rfl rfl (yb_fr (off := f4 + i2 * 17) rfl (by kernel_rfl) (fun W hW j v hv => hc4 W hW i2 _ hx5 j v hv) Tryz.underlying34 rfl (by kernel_rfl)) ?_
          obtain ⟨sv6, nv6, dv6, ev6, hpv6, lnv6, ldv6, hcs6⟩ := add_cases sa na da es5 en5 ed5
          have hxr := allR_at hall hx5
          refine vv (i := 5) (v := .tuple #[.agg (frcC sv6 nv6 dv6), .int .i64 ev6]) rfl rfl rfl (yb_call (f := 16) (args := #[.agg (frcC sa na da), .agg (frcC es5 en5 ed5)]) (fun _ => by kernel_rfl) fun W hW => (by have h := RAdd_any sa es5 na da en5 ed5 hao.1 hao.2 eb5.1 eb5.2 W; rw [if_pos (by rw [har, hxr]; rfl), hpv6] at h; exact h)) ?_
          refine vm (i := 6) (v := .tuple #[.agg (frcC sv6 nv6 dv6), .int .i64 ev6]) rfl rfl rfl ?_
          refine vm (i := 7) (v := .agg (frcC sv6 nv6 dv6)) rfl rfl rfl ?_
          refine vm (i := 8) (v := .int .i64 ev6) rfl rfl rfl ?_
          refine wpV_ns (fun g => .pointer (some ⟨g, 0, none⟩)) (i := 9) (obi := .cells (frcC false 0 0) 34 (0, 0)) rfl rfl rfl (by kernel_rfl) (fun _ => by kernel_rfl) (fun _ => by simp only [List.setIfInBounds_toArray, List.set_cons_succ, List.set_cons_zero] <;> rfl) fun g7 Bg7 Fg7 => ?_
          obtain ⟨dj8_0, dj8_1⟩ : g2 ≠ g7 ∧ g1 ≠ g7 := by simpa only [dj_app_l, dj_app_r, dj_cons_l, dj_cons_r, dj_nil_l, dj_nil_r, dk_app, dk_cons, dk_nil, and_true, true_and, and_assoc] using (show Dk g7 [(g2, .cells (frcC sa na da) 34 (0, 0)), (g1, .cells (frcC false 0 0) 34 (0, 0))] from Fg7)
          refine wpV_s [(g7, .cells (frcC sv6 nv6 dv6) 34 (0, 0)), (g2, .cells (frcC sa na da) 34 (0, 0)), (g1, .cells (frcC false 0 0) 34 (0, 0))] (i := 10) rfl (by kernel_rfl) rfl rfl rfl (st_all (by simp only [frcC_size]) (by exact frc_onec) rfl (by kernel_rfl) (by kernel_rfl) (.head _) Bg7 (by simp only [frcC_size]; kernel_rfl) (List.forall_mem_cons.2 ⟨.inl rfl, (List.forall_mem_cons.2 ⟨.inr ⟨(.tail _ (.head _)), (by first | assumption | exact Ne.symm (by assumption))⟩, (List.forall_mem_cons.2 ⟨.inr ⟨(.tail _ (.tail _ (.head _))), (by first | assumption | exact Ne.symm (by assumption))⟩, (List.forall_mem_nil _)⟩)⟩)⟩)) ?_
          refine vm (i := 11) (v := .int .i64 ev6) rfl rfl rfl ?_
          refine wpV_done (by kernel_rfl) (fun W10 hW10 => ?_) _
          refine (show Code.wp _ _ _ _ _ from ?_)
          refine wp_seq ?_
          refine wp_seq ?_
          refine wp_region_L (W0 := w) [(g7, .cells (frcC sv6 nv6 dv6) 34 (0, 0)), (g2, .cells (frcC sa na da) 34 (0, 0)), (g1, .cells (frcC false 0 0) 34 (0, 0))] (hW10) ?_
          refine Tw.lm (v := .int .i64 ev6) rfl rfl ?_
          refine Tw.lp (v := .bool (!(decide (ev6 = 0)))) rfl rfl (run_bin rfl (vx := (.int .i64 ev6)) (vy := (.int .i64 0)) (by kernel_rfl) (by kernel_rfl) fun w => bi_neq rfl w) ?_
          refine wpL_done (fun W11 hW11 => ?_)
          refine (show Code.wp _ _ _ _ _ from ?_)
          cases hd3 : (decide (ev6 = 0)) with
          | false =>
            have h3 : ¬ (ev6 = 0) := of_decide_eq_false hd3
            clear hd3
            have hz := (hcs6.elim (fun h => absurd h.1 h3) (fun h => h.2))
            have hz3 : ev6 = 3 := hcs6.elim (fun h => absurd h.1 h3) (fun h => h.1)
            refine wp_cond_true rfl ?_
            refine wp_seq ?_
            refine wp_region_L (W0 := w) [(g7, .cells (frcC sv6 nv6 dv6) 34 (0, 0)), (g2, .cells (frcC sa na da) 34 (0, 0)), (g1, .cells (frcC false 0 0) 34 (0, 0))] (hW11) ?_
            refine Tw.lm (v := .agg (frcC false 0 0)) rfl rfl ?_
            refine Tw.lm (v := .int .i64 ev6) rfl rfl ?_
            refine wpL_s [(g7, .cells (frcC sv6 nv6 dv6) 34 (0, 0)), (g2, .cells (frcC sa na da) 34 (0, 0)), (g1, .cells (frcC false 0 0) 34 (0, 0))] rfl rfl (st_all (by simp only [frcC_size]) (by exact frc_onec) rfl (by kernel_rfl) (by kernel_rfl) (.tail _ (.tail _ (.head _))) Bg1 (by simp only [frcC_size]; kernel_rfl) (List.forall_mem_cons.2 ⟨.inr ⟨(.head _), (by first | assumption | exact Ne.symm (by assumption))⟩, (List.forall_mem_cons.2 ⟨.inr ⟨(.tail _ (.head _)), (by first | assumption | exact Ne.symm (by assumption))⟩, (List.forall_mem_cons.2 ⟨.inl rfl, (List.forall_mem_nil _)⟩)⟩)⟩)) ?_
            refine Tw.lm (v := .int .i64 ev6) rfl rfl ?_
            refine wpL_done (fun W12 hW12 => ?_)
            refine (show Code.wp _ _ _ _ _ from ?_)
            refine wp_ret ?_
            try simp only [inBlock_ret, then_ret]
            refine bodyPost_ret (v := .tuple #[.agg (frcC false 0 0), .int .i64 ev6]) ?_ rfl ?_
            · exact (res_cell_tmp (p := 2) (q := 3) rfl rfl (hW12.2 _ (.tail _ (.tail _ (.head _)))) Tryz.underlying34 rfl (by simp only [frcC_size]; kernel_rfl))
            · exact ⟨(ret_v (by rw [hz3]; exact (sumV_none hall (hsum.trans (sumO_none hx5 hz))).trans hV.symm)), hW12.1⟩
          | true =>
            have h3 : ev6 = 0 := of_decide_eq_true hd3
            clear hd3
            have hz := (hcs6.elim (fun h => h.2) (fun h => absurd h.1 (by omega)))
            refine wp_cond_false rfl ?_
            refine wp_skip ?_
            refine (show Code.wp _ _ _ _ _ from ?_)
            refine wp_region_L (W0 := w) [(g7, .cells (frcC sv6 nv6 dv6) 34 (0, 0)), (g2, .cells (frcC sa na da) 34 (0, 0)), (g1, .cells (frcC false 0 0) 34 (0, 0))] (hW11) ?_
            refine Tw.lv (v := .agg (frcC sv6 nv6 dv6)) rfl rfl (yb_all rfl (by kernel_rfl) (.head _) Tryz.underlying34 rfl (by simp only [frcC_size]; kernel_rfl)) ?_
            refine wpL_s [(g7, .cells (frcC sv6 nv6 dv6) 34 (0, 0)), (g2, .cells (frcC sv6 nv6 dv6) 34 (0, 0)), (g1, .cells (frcC false 0 0) 34 (0, 0))] rfl rfl (st_all (by simp only [frcC_size]) (by exact frc_onec) rfl (by kernel_rfl) (by kernel_rfl) (.tail _ (.head _)) Bg2 (by simp only [frcC_size]; kernel_rfl) (List.forall_mem_cons.2 ⟨.inr ⟨(.head _), (by first | assumption | exact Ne.symm (by assumption))⟩, (List.forall_mem_cons.2 ⟨.inl rfl, (List.forall_mem_cons.2 ⟨.inr ⟨(.tail _ (.tail _ (.head _))), (by first | assumption | exact Ne.symm (by assumption))⟩, (List.forall_mem_nil _)⟩)⟩)⟩)) ?_
            refine wpL_done (fun W13 hW13 => ?_)
            refine (show Code.wp _ _ _ _ _ from ?_)
            refine wp_region_L (W0 := w) [(g7, .cells (frcC sv6 nv6 dv6) 34 (0, 0)), (g2, .cells (frcC sv6 nv6 dv6) 34 (0, 0)), (g1, .cells (frcC false 0 0) 34 (0, 0))] (hW13) ?_
            refine Tw.lm (v := .int .i64 ((i2 : Nat) : Int)) rfl rfl ?_
            refine Tw.lp (v := .int .i64 (((i2 + 1) : Nat) : Int)) rfl rfl (run_bin rfl (vx := (.int .i64 ((i2 : Nat) : Int))) (vy := (.int .i64 ((1 : Nat) : Int))) (by kernel_rfl) (by kernel_rfl) fun w => bn_add (z := (i2 + 1)) rfl (wr_i64 (by omega)) w) ?_
            refine Tw.lm (v := .int .i64 (((i2 + 1) : Nat) : Int)) rfl rfl ?_
            refine wpL_done (fun W14 hW14 => ?_)
            go_roundw
            case rel =>
              repeat apply Exists.intro
              exact ⟨⟨i2 + 1, sv6, nv6, dv6, (by omega), (hsum.trans (sumO_some hx5 hz)), (addF_right har (allR_at hall hx5) hz).1, (addF_right har (allR_at hall hx5) hz).2, rfl, (hW14.sub (fun p hp => by first | exact hp | (simp only [List.mem_cons, List.mem_append, List.nil_append, List.not_mem_nil, or_assoc, or_false, false_or, List.cons_append, List.append_assoc] at hp ⊢ <;> grind)))⟩, rfl⟩
            case measure => (show l.length - (intOf (.int .i64 (((i2 + 1) : Nat) : Int))).toNat < l.length - (intOf (.int .i64 ((i2 : Nat) : Int))).toNat); simp only [intOf]; omega
    | true =>
      have h1 : i < l.length := of_decide_eq_true hd1
      clear hd1
      refine wp_cond_true rfl ?_
      refine wp_skip ?_
      refine (show Code.wp _ _ _ _ _ from ?_)
      refine wp_seq ?_
      refine wp_block ?_
      refine wp_seq ?_
      refine wp_region_L (W0 := w) [(g2, .cells (frcC false 0 1) 34 (0, 0)), (g1, .cells (frcC false 0 0) 34 (0, 0))] (hW5) ?_
      refine Tw.lm (v := .slice p l.length c) rfl rfl ?_
      refine Tw.lm (v := .int .i64 ((i : Nat) : Int)) rfl rfl ?_
      obtain ⟨b9, f9, hp9, hc9⟩ := HP.at (hW5.sub (fun q hq => by cases hq)) (k := i) (by omega)
      refine Tw.lp (v := .pointer (some ⟨b9, f9 + i * 17, none⟩)) rfl rfl (run_idxQ (p := p) (cap := c) (n := l.length) (j := .i64) (k := i) (sz := 17) rfl Tryz.underlying57 (by kernel_rfl) (by kernel_rfl) hp9 (by kernel_rfl) (by omega)) ?_
      obtain ⟨⟨es10, en10, ed10⟩, hx10⟩ : ∃ x, (l : List Fr)[i]? = some x := ⟨_, List.getElem?_eq_getElem (by omega)⟩
      have eb10 : en10 < R 8 ∧ ed10 < R 8 := hok _ (List.mem_of_getElem? hx10)
      refine Tw.lv (v := .agg (frcC es10 en10 ed10)) rfl rfl (yb_fr (off := f9 + i * 17) rfl (by kernel_rfl) (fun W hW j v hv => hc9 W (hW.sub (fun q hq => by cases hq)) i _ hx10 j v hv) Tryz.underlying34 rfl (by kernel_rfl)) ?_
      refine Tw.lv (v := .bool (rightB es10 en10 ed10)) rfl rfl (yb_call (f := 18) (args := #[.agg (frcC es10 en10 ed10)]) (fun _ => by kernel_rfl) fun W hW => rright_any es10 en10 ed10 eb10.1 eb10.2 W) ?_
      refine Tw.lp (v := .bool (!(rightB es10 en10 ed10))) rfl rfl (run_un rfl (by kernel_rfl) fun w => un_not w) ?_
      refine wpL_done (fun W15 hW15 => ?_)
      refine (show Code.wp _ _ _ _ _ from ?_)
      cases h4 : (rightB es10 en10 ed10) with
      | false =>
        refine wp_cond_true rfl ?_
        refine wp_seq ?_
        refine wp_region_L (W0 := w) [(g2, .cells (frcC false 0 1) 34 (0, 0)), (g1, .cells (frcC false 0 0) 34 (0, 0))] (hW15) ?_
        refine Tw.lm (v := .agg (frcC false 0 0)) rfl rfl ?_
        refine wpL_s [(g2, .cells (frcC false 0 1) 34 (0, 0)), (g1, .cells (frcC false 0 0) 34 (0, 0))] rfl rfl (st_all (by simp only [frcC_size]) (by exact frc_onec) rfl (by kernel_rfl) (by kernel_rfl) (.tail _ (.head _)) Bg1 (by simp only [frcC_size]; kernel_rfl) (List.forall_mem_cons.2 ⟨.inr ⟨(.head _), (by first | assumption | exact Ne.symm (by assumption))⟩, (List.forall_mem_cons.2 ⟨.inl rfl, (List.forall_mem_nil _)⟩)⟩)) ?_
        refine Tw.lm (v := .int .i64 2) rfl rfl ?_
        refine wpL_done (fun W16 hW16 => ?_)
        refine (show Code.wp _ _ _ _ _ from ?_)
        refine wp_ret ?_
        try simp only [inBlock_ret, then_ret]
        refine bodyPost_ret (v := .tuple #[.agg (frcC false 0 0), .int .i64 2]) ?_ rfl ?_
        · exact (res_cell_tmp (p := 2) (q := 3) rfl rfl (hW16.2 _ (.tail _ (.head _))) Tryz.underlying34 rfl (by simp only [frcC_size]; kernel_rfl))
        · exact ⟨(ret_v ((sumV_bad hx10 h4).trans hV.symm)), hW16.1⟩
      | true =>
        refine wp_cond_false rfl ?_
        refine wp_skip ?_
        refine (show Code.wp _ _ _ _ _ from ?_)
        refine wp_region_L (W0 := w) [(g2, .cells (frcC false 0 1) 34 (0, 0)), (g1, .cells (frcC false 0 0) 34 (0, 0))] (hW15) ?_
        refine Tw.lm (v := .int .i64 ((i : Nat) : Int)) rfl rfl ?_
        refine Tw.lp (v := .int .i64 (((i + 1) : Nat) : Int)) rfl rfl (run_bin rfl (vx := (.int .i64 ((i : Nat) : Int))) (vy := (.int .i64 ((1 : Nat) : Int))) (by kernel_rfl) (by kernel_rfl) fun w => bn_add (z := (i + 1)) rfl (wr_i64 (by omega)) w) ?_
        refine Tw.lm (v := .int .i64 (((i + 1) : Nat) : Int)) rfl rfl ?_
        refine wpL_done (fun W17 hW17 => ?_)
        go_roundw
        case rel =>
          repeat apply Exists.intro
          exact ⟨⟨i + 1, (by omega), (allR_take hR hx10 h4), rfl, (hW17.sub (fun p hp => by first | exact hp | (simp only [List.mem_cons, List.mem_append, List.nil_append, List.not_mem_nil, or_assoc, or_false, false_or, List.cons_append, List.append_assoc] at hp ⊢ <;> grind)))⟩, rfl⟩
        case measure => (show l.length - (intOf (.int .i64 (((i + 1) : Nat) : Int))).toNat < l.length - (intOf (.int .i64 ((i : Nat) : Int))).toNat); simp only [intOf]; omega
end Go.Proofs.YtalmflgkbmnghaaGreatDoor
namespace Go.Proofs.YtalmflgkbmnghaaGreatDoor
open Go Go.RowKit Tw
set_option linter.unusedSimpArgs false
set_option linter.unusedVariables false
open Tf (dg R R_pos R_le R_succ dg_of_lt setd setd_eq)
variable [ShLZ]
variable [ShSt]
theorem fcs_take {l : List Fr} {i : Nat} {s : Bool} {n d : Nat} (hx : l[i]? = some (s, n, d)) : l.take i ++ [(s, n, d)] = l.take (i + 1) := by
  rw [List.take_add_one, hx]; rfl
set_option maxRecDepth 100000 in
set_option maxHeartbeats 20000000 in
theorem lsums_any (l : List Fr) (p : Option Addr) (c : Nat) (hok : ∀ x ∈ l, frOk x) (w : World) (hE : Env w) (hp : SLV w p (fcs l)) : Calls Tryz.prog 10 #[.slice p l.length c] w fun e w' => e = .returned (.bool true) ∧ Below w.heap.size w w' := by
  have HP : FS (w : Base) p l [] := FS.base hp
  clear hp
  have HE := Lib.hid hE
  clear hE
  go_enter Tryz.func10, Tryz.ntmps10
  refine wp_seq ?_
  refine wp_region_L (W0 := w) [] (KS.start w) ?_
  refine Tw.lm (v := .bool false) rfl rfl ?_
  refine wpL_done (fun W1 hW1 => ?_)
  refine (show Code.wp _ _ _ _ _ from ?_)
  refine wp_seq ?_
  refine wp_seq ?_
  refine wp_region_L (W0 := w) [] (hW1) ?_
  refine Tw.lm (v := .slice p l.length c) rfl rfl ?_
  refine Tw.lp (v := .int .i64 ((l.length : Nat) : Int)) rfl rfl (run_lenL (p := p) (cap := c) (n := l.length) rfl Tryz.underlying29 (by kernel_rfl)) ?_
  refine Tw.lp (v := .bool (decide (20 < l.length))) rfl rfl (run_bin rfl (vx := (.int .i64 ((l.length : Nat) : Int))) (vy := (.int .i64 ((20 : Nat) : Int))) (by kernel_rfl) (by kernel_rfl) fun w => bn_gtr rfl w) ?_
  refine wpL_done (fun W2 hW2 => ?_)
  refine (show Code.wp _ _ _ _ _ from ?_)
  cases hd1 : (decide (20 < l.length)) with
  | false =>
    have h1 : ¬ (20 < l.length) := of_decide_eq_false hd1
    clear hd1
    refine wp_cond_false rfl ?_
    refine wp_skip ?_
    refine (show Code.wp _ _ _ _ _ from ?_)
    refine wp_seq ?_
    refine wp_region_L (W0 := w) [] (hW2) ?_
    refine Tw.lm (v := .slice none 0 0) rfl rfl ?_
    refine wpL_done (fun W3 hW3 => ?_)
    refine (show Code.wp _ _ _ _ _ from ?_)
    refine wp_seq ?_
    refine wp_seq ?_
    refine wp_region_L (W0 := w) [] (hW3) ?_
    refine Tw.lm (v := .slice p l.length c) rfl rfl ?_
    refine Tw.lp (v := .int .i64 ((l.length : Nat) : Int)) rfl rfl (run_lenL (p := p) (cap := c) (n := l.length) rfl Tryz.underlying29 (by kernel_rfl)) ?_
    refine Tw.lm (v := .int .i64 0) rfl rfl ?_
    refine wpL_done (fun W4 hW4 => ?_)
    refine (show Code.wp _ _ _ _ _ from ?_)
    refine wp_block ?_
    go_loopw [17, 3] (fun u17 u3 wr => ∃ (i : Nat) (vo : Value) (Ko : List (Nat × Obj)), (i ≤ l.length) ∧ (OwnL (w : Base) 34 17 vo i (fcs (l.take i)) Ko) ∧ u17 = .int .i64 ((i : Nat) : Int) ∧ vo = u3 ∧ KS w Ko wr) (fun u17 _ _ => l.length - (intOf u17).toNat)
    case atStart => exact ⟨0, (.slice none 0 0), [], (Nat.zero_le _), (OwnL.nil _ _ _), rfl, rfl, (hW4.sub (fun p hp => by first | exact hp | (simp only [List.mem_cons, List.mem_append, List.nil_append, List.not_mem_nil, or_assoc, or_false, false_or, List.cons_append, List.append_assoc] at hp ⊢ <;> grind)))⟩
    case round =>
      obtain ⟨i, vo, Ko, hi, hO, rfl, rfl, hL5⟩ := hrel
      refine wp_seq ?_
      refine wp_region_L (W0 := w) Ko (hL5) ?_
      refine Tw.lp (v := .bool (decide (i < l.length))) rfl rfl (run_bin rfl (vx := (.int .i64 ((i : Nat) : Int))) (vy := (.int .i64 ((l.length : Nat) : Int))) (by kernel_rfl) (by kernel_rfl) fun w => bn_lss rfl w) ?_
      refine wpL_done (fun W6 hW6 => ?_)
      refine (show Code.wp _ _ _ _ _ from ?_)
      refine wp_seq ?_
      cases hd2 : (decide (i < l.length)) with
      | false =>
        have h2 : ¬ (i < l.length) := of_decide_eq_false hd2
        clear hd2
        refine wp_cond_false rfl ?_
        refine wp_exit ?_
        refine (show Code.wp _ _ _ _ _ from ?_)
        refine wp_seq ?_
        obtain rfl : i = l.length := by omega
        rw [List.take_length] at hO
        refine wp_region_L (W0 := w) Ko (hW6) ?_
        refine wpL_new (fun g => .slice (some ⟨g, 0, none⟩) 0 0) (obi := .cells #[] 25 (0, 0)) rfl rfl (fun _ => by kernel_rfl) (fun _ => by simp only [List.setIfInBounds_toArray, List.set_cons_succ, List.set_cons_zero] <;> rfl) fun g2 Bg2 Fg2 => ?_
        obtain dj3_0 : Dk g2 Ko := by simpa only [dj_app_l, dj_app_r, dj_cons_l, dj_cons_r, dj_nil_l, dj_nil_r, dk_app, dk_cons, dk_nil, and_true, true_and, and_assoc] using (show Dk g2 Ko from Fg2)
        refine Tw.lm (v := .slice p l.length c) rfl rfl ?_
        refine wpL_g (AppO w 25 17 Ko (0 + l.length) ((fcs []) ++ (fcs l))) rfl rfl (app_any el_frc (m := l.length) (news := (fcs l)) rfl (by kernel_rfl) (by kernel_rfl) (src_fs (c := c) Tryz.underlying29 (HP.mono (fun q hq => by first | exact hq | (simp only [List.mem_cons, List.mem_append, List.nil_append, List.not_mem_nil, or_assoc, or_false, false_or] at hq ⊢ <;> grind))) rfl) (own_none Bg2) (fun p hp => by cases List.mem_singleton.1 hp; exact (.head _)) (fun p hp => ⟨by simp only [List.mem_cons, List.mem_append, List.nil_append, List.not_mem_nil, or_assoc, or_false, false_or] at hp ⊢ <;> grind, (show Dj Ko [(g2, .cells #[] 25 (0, 0))] from (by (try simp only [dj_app_l, dj_app_r, dj_cons_l, dj_cons_r, dj_nil_l, dj_nil_r, dk_app, dk_cons, dk_nil, and_true, true_and, and_assoc]); repeat' (first | trivial | assumption | exact Dj.symm (by assumption) | exact Ne.symm (by assumption) | apply And.intro))) p hp⟩) (by omega) (by omega)) (fun _ => by simp only [List.setIfInBounds_toArray, List.set_cons_succ, List.set_cons_zero] <;> rfl) ?_
        rintro v4 K9 ⟨Kl4, O4, N4, rfl⟩
        replace O4 : OwnL w 25 17 v4 l.length (fcs l) Kl4 := by rw [Nat.zero_add] at O4; exact O4
        obtain dj5_0 : Dj Ko Kl4 := by simpa only [dj_app_l, dj_app_r, dj_cons_l, dj_cons_r, dj_nil_l, dj_nil_r, dk_app, dk_cons, dk_nil, and_true, true_and, and_assoc] using (show Dj Ko Kl4 from N4)
        refine Tw.lm (v := v4) rfl rfl ?_
        refine wpL_done (fun W7 hW7 => ?_)
        refine (show Code.wp _ _ _ _ _ from ?_)
        refine wp_seq ?_
        refine wp_region_L (W0 := w) (Ko ++ Kl4) (hW7) ?_
        refine Tw.lm (v := v4) rfl rfl ?_
        obtain ⟨p6, c6, rfl, hc6, HN6⟩ := own_fs O4
        obtain ⟨sv, nv, dv, ev, hpv, lnv, ldv⟩ := sumV_shape l
        refine Tw.lv (v := .tuple #[.agg (frcC sv nv dv), .int .i64 ev]) rfl rfl (yb_call (f := 35) (args := #[.slice p6 l.length c6]) (fun _ => by kernel_rfl) fun W hW => (by have h := psum_any l p6 c6 (by omega) hok W ((HN6.mono (fun q hq => by first | exact hq | (simp only [List.mem_cons, List.mem_append, List.nil_append, List.not_mem_nil, or_assoc, or_false, false_or] at hq ⊢ <;> grind))) W hW); rw [hpv] at h; exact h)) ?_
        refine Tw.lm (v := .tuple #[.agg (frcC sv nv dv), .int .i64 ev]) rfl rfl ?_
        refine Tw.lm (v := .agg (frcC sv nv dv)) rfl rfl ?_
        refine Tw.lm (v := .int .i64 ev) rfl rfl ?_
        refine wpL_new (fun g => .pointer (some ⟨g, 0, none⟩)) (obi := .cells (frcC false 0 0) 25 (0, 0)) rfl rfl (fun _ => by kernel_rfl) (fun _ => by simp only [List.setIfInBounds_toArray, List.set_cons_succ, List.set_cons_zero] <;> rfl) fun g7 Bg7 Fg7 => ?_
        obtain ⟨dj8_0, dj8_1⟩ : Dk g7 Ko ∧ Dk g7 Kl4 := by simpa only [dj_app_l, dj_app_r, dj_cons_l, dj_cons_r, dj_nil_l, dj_nil_r, dk_app, dk_cons, dk_nil, and_true, true_and, and_assoc] using (show Dk g7 (Ko ++ Kl4) from Fg7)
        refine wpL_s ((g7, .cells (frcC sv nv dv) 25 (0, 0)) :: (Ko ++ Kl4)) rfl rfl (st_all (by simp only [frcC_size]) (by exact frc_onec) rfl (by kernel_rfl) (by kernel_rfl) (.head _) Bg7 (by simp only [frcC_size]; kernel_rfl) (List.forall_mem_cons.2 ⟨.inl rfl, (fun p hp => .inr ⟨(.tail _ hp), ((show Dk g7 (Ko ++ Kl4) from (by (try simp only [dj_app_l, dj_app_r, dj_cons_l, dj_cons_r, dj_nil_l, dj_nil_r, dk_app, dk_cons, dk_nil, and_true, true_and, and_assoc]); repeat' (first | trivial | assumption | exact Dj.symm (by assumption) | exact Ne.symm (by assumption) | apply And.intro))) _ hp)⟩)⟩)) ?_
        refine Tw.lm (v := .int .i64 ev) rfl rfl ?_
        refine wpL_done (fun W8 hW8 => ?_)
        refine (show Code.wp _ _ _ _ _ from ?_)
        refine wp_seq ?_
        refine wp_region_L (W0 := w) ((g7, .cells (frcC sv nv dv) 25 (0, 0)) :: (Ko ++ Kl4)) (hW8) ?_
        refine Tw.lm (v := vo) rfl rfl ?_
        obtain ⟨p9, c9, rfl, hc9, HN9⟩ := own_fs hO
        refine Tw.lv (v := .tuple #[.agg (frcC sv nv dv), .int .i64 ev]) rfl rfl (yb_call (f := 36) (args := #[.slice p9 l.length c9]) (fun _ => by kernel_rfl) fun W hW => (by have h := rsum_any l p9 c9 (by omega) hok W ((HN9.mono (fun q hq => by first | exact hq | (simp only [List.mem_cons, List.mem_append, List.nil_append, List.not_mem_nil, or_assoc, or_false, false_or] at hq ⊢ <;> grind))) W hW); rw [hpv] at h; exact h)) ?_
        refine Tw.lm (v := .tuple #[.agg (frcC sv nv dv), .int .i64 ev]) rfl rfl ?_
        refine Tw.lm (v := .agg (frcC sv nv dv)) rfl rfl ?_
        refine Tw.lm (v := .int .i64 ev) rfl rfl ?_
        refine wpL_new (fun g => .pointer (some ⟨g, 0, none⟩)) (obi := .cells (frcC false 0 0) 34 (0, 0)) rfl rfl (fun _ => by kernel_rfl) (fun _ => by simp only [List.setIfInBounds_toArray, List.set_cons_succ, List.set_cons_zero] <;> rfl) fun g10 Bg10 Fg10 => ?_
        obtain ⟨dj11_0, dj11_1, dj11_2⟩ : g7 ≠ g10 ∧ Dk g10 Ko ∧ Dk g10 Kl4 := by simpa only [dj_app_l, dj_app_r, dj_cons_l, dj_cons_r, dj_nil_l, dj_nil_r, dk_app, dk_cons, dk_nil, and_true, true_and, and_assoc] using (show Dk g10 ((g7, .cells (frcC sv nv dv) 25 (0, 0)) :: (Ko ++ Kl4)) from Fg10)
        refine wpL_s ((g10, .cells (frcC sv nv dv) 34 (0, 0)) :: (g7, .cells (frcC sv nv dv) 25 (0, 0)) :: (Ko ++ Kl4)) rfl rfl (st_all (by simp only [frcC_size]) (by exact frc_onec) rfl (by kernel_rfl) (by kernel_rfl) (.head _) Bg10 (by simp only [frcC_size]; kernel_rfl) (List.forall_mem_cons.2 ⟨.inl rfl, (List.forall_mem_cons.2 ⟨.inr ⟨(.tail _ (.head _)), (by first | assumption | exact Ne.symm (by assumption))⟩, (fun p hp => .inr ⟨(.tail _ (.tail _ hp)), ((show Dk g10 (Ko ++ Kl4) from (by (try simp only [dj_app_l, dj_app_r, dj_cons_l, dj_cons_r, dj_nil_l, dj_nil_r, dk_app, dk_cons, dk_nil, and_true, true_and, and_assoc]); repeat' (first | trivial | assumption | exact Dj.symm (by assumption) | exact Ne.symm (by assumption) | apply And.intro))) _ hp)⟩)⟩)⟩)) ?_
        refine Tw.lm (v := .int .i64 ev) rfl rfl ?_
        refine wpL_done (fun W9 hW9 => ?_)
        refine (show Code.wp _ _ _ _ _ from ?_)
        refine wp_seq ?_
        refine wp_seq ?_
        refine wp_region_L (W0 := w) ((g10, .cells (frcC sv nv dv) 34 (0, 0)) :: (g7, .cells (frcC sv nv dv) 25 (0, 0)) :: (Ko ++ Kl4)) (hW9) ?_
        refine Tw.lm (v := .slice p l.length c) rfl rfl ?_
        refine Tw.lp (v := .int .i64 ((l.length : Nat) : Int)) rfl rfl (run_lenL (p := p) (cap := c) (n := l.length) rfl Tryz.underlying29 (by kernel_rfl)) ?_
        refine Tw.lm (v := .int .i64 0) rfl rfl ?_
        refine wpL_done (fun W10 hW10 => ?_)
        refine (show Code.wp _ _ _ _ _ from ?_)
        refine wp_block ?_
        go_loopw [41] (fun u41 wr => ∃ (i2 : Nat), (i2 ≤ l.length) ∧ u41 = .int .i64 ((i2 : Nat) : Int) ∧ KS w ((g10, .cells (frcC sv nv dv) 34 (0, 0)) :: (g7, .cells (frcC sv nv dv) 25 (0, 0)) :: (Ko ++ Kl4)) wr) (fun u41 _ => l.length - (intOf u41).toNat)
        case atStart => exact ⟨0, (Nat.zero_le _), rfl, (hW10.sub (fun p hp => by first | exact hp | (simp only [List.mem_cons, List.mem_append, List.nil_append, List.not_mem_nil, or_assoc, or_false, false_or, List.cons_append, List.append_assoc] at hp ⊢ <;> grind)))⟩
        case round =>
          obtain ⟨i2, hi2, rfl, hL11⟩ := hrel
          refine wp_seq ?_
          refine wp_region_L (W0 := w) ((g10, .cells (frcC sv nv dv) 34 (0, 0)) :: (g7, .cells (frcC sv nv dv) 25 (0, 0)) :: (Ko ++ Kl4)) (hL11) ?_
          refine Tw.lp (v := .bool (decide (i2 < l.length))) rfl rfl (run_bin rfl (vx := (.int .i64 ((i2 : Nat) : Int))) (vy := (.int .i64 ((l.length : Nat) : Int))) (by kernel_rfl) (by kernel_rfl) fun w => bn_lss rfl w) ?_
          refine wpL_done (fun W12 hW12 => ?_)
          refine (show Code.wp _ _ _ _ _ from ?_)
          refine wp_seq ?_
          cases hd3 : (decide (i2 < l.length)) with
          | false =>
            have h3 : ¬ (i2 < l.length) := of_decide_eq_false hd3
            clear hd3
            refine wp_cond_false rfl ?_
            refine wp_exit ?_
            refine (show Code.wp _ _ _ _ _ from ?_)
            refine wp_seq ?_
            refine wp_region_L (W0 := w) ((g10, .cells (frcC sv nv dv) 34 (0, 0)) :: (g7, .cells (frcC sv nv dv) 25 (0, 0)) :: (Ko ++ Kl4)) (hW12) ?_
            refine Tw.lv (v := .agg (frcC sv nv dv)) rfl rfl (yb_all rfl (by kernel_rfl) (.tail _ (.head _)) Tryz.underlying25 rfl (by simp only [frcC_size]; kernel_rfl)) ?_
            refine Tw.lm (v := .int .i64 ev) rfl rfl ?_
            refine Tw.lv (v := .agg (frcC sv nv dv)) rfl rfl (yb_all rfl (by kernel_rfl) (.head _) Tryz.underlying34 rfl (by simp only [frcC_size]; kernel_rfl)) ?_
            refine Tw.lm (v := .int .i64 ev) rfl rfl ?_
            refine Tw.lv (v := .bool true) rfl rfl (yb_call (f := 19) (args := #[.agg (frcC sv nv dv), .int .i64 ev, .agg (frcC sv nv dv), .int .i64 ev]) (fun _ => by kernel_rfl) fun W hW => pair_same sv nv dv ev lnv ldv W) ?_
            refine Tw.lm (v := .bool true) rfl rfl ?_
            refine wpL_done (fun W13 hW13 => ?_)
            refine (show Code.wp _ _ _ _ _ from ?_)
            refine wp_ret ?_
            try simp only [inBlock_ret, then_ret]
            refine bodyPost_ret (v := .bool true) ?_ rfl ?_
            · kernel_rfl
            · exact ⟨rfl, hW13.1⟩
          | true =>
            have h3 : i2 < l.length := of_decide_eq_true hd3
            clear hd3
            refine wp_cond_true rfl ?_
            refine wp_skip ?_
            refine (show Code.wp _ _ _ _ _ from ?_)
            refine wp_seq ?_
            refine wp_block ?_
            refine wp_seq ?_
            refine wp_region_L (W0 := w) ((g10, .cells (frcC sv nv dv) 34 (0, 0)) :: (g7, .cells (frcC sv nv dv) 25 (0, 0)) :: (Ko ++ Kl4)) (hW12) ?_
            refine Tw.lm (v := .int .i64 ((i2 : Nat) : Int)) rfl rfl ?_
            refine Tw.lm (v := .int .i64 ((i2 : Nat) : Int)) rfl rfl ?_
            refine wpL_done (fun W14 hW14 => ?_)
            refine (show Code.wp _ _ _ _ _ from ?_)
            refine wp_seq ?_
            refine wp_region_V (W0 := w) ((g10, .cells (frcC sv nv dv) 34 (0, 0)) :: (g7, .cells (frcC sv nv dv) 25 (0, 0)) :: (Ko ++ Kl4)) (by kernel_rfl) (hW14) ?_
            refine vm (i := 0) (v := .slice p6 l.length c6) rfl rfl rfl ?_
            refine vm (i := 1) (v := .int .i64 ((i2 : Nat) : Int)) rfl rfl rfl ?_
            obtain ⟨b12, f12, hp12, hc12⟩ := (HN6.mono (fun q hq => by first | exact hq | (simp only [List.mem_cons, List.mem_append, List.nil_append, List.not_mem_nil, or_assoc, or_false, false_or] at hq ⊢ <;> grind))).at hW14 (k := i2) (by omega)
            refine vp (i := 2) (v := .pointer (some ⟨b12, f12 + i2 * 17, none⟩)) rfl rfl rfl (run_idxQ (p := p6) (cap := c6) (n := l.length) (j := .i64) (k := i2) (sz := 17) rfl Tryz.underlying29 (by kernel_rfl) (by kernel_rfl) hp12 (by kernel_rfl) (by omega)) ?_
            obtain ⟨⟨es13, en13, ed13⟩, hx13⟩ : ∃ x, (l : List Fr)[i2]? = some x := ⟨_, List.getElem?_eq_getElem (by omega)⟩
            have eb13 : en13 < R 8 ∧ ed13 < R 8 := hok _ (List.mem_of_getElem? hx13)
            refine vv (i := 3) (v := .agg (frcC es13 en13 ed13)) rfl rfl rfl (yb_fr (off := f12 + i2 * 17) rfl (by kernel_rfl) (fun W hW j v hv => hc12 W (hW.sub (fun q hq => by first | exact hq | (simp only [List.mem_cons, List.mem_append, List.nil_append, List.not_mem_nil, or_assoc, or_false, false_or] at hq ⊢ <;> grind))) i2 _ hx13 j v hv) Tryz.underlying25 rfl (by kernel_rfl)) ?_
            refine vm (i := 4) (v := .slice p l.length c) rfl rfl rfl ?_
            refine vm (i := 5) (v := .int .i64 ((i2 : Nat) : Int)) rfl rfl rfl ?_
            obtain ⟨b14, f14, hp14, hc14⟩ := HP.at (hW14.sub (fun q hq => by cases hq)) (k := i2) (by omega)
            refine vp (i := 6) (v := .pointer (some ⟨b14, f14 + i2 * 17, none⟩)) rfl rfl rfl (run_idxQ (p := p) (cap := c) (n := l.length) (j := .i64) (k := i2) (sz := 17) rfl Tryz.underlying29 (by kernel_rfl) (by kernel_rfl) hp14 (by kernel_rfl) (by omega)) ?_
            refine vb (i := 7) (v := .agg (frcC es13 en13 ed13)) rfl rfl rfl (yb_fr (off := f14 + i2 * 17) rfl (by kernel_rfl) (fun W hW j v hv => hc14 W hW i2 _ hx13 j v hv) Tryz.underlying25 rfl (by kernel_rfl)) ?_
            refine vp (i := 8) (v := .bool false) rfl rfl rfl (run_bin rfl (vx := .agg (frcC es13 en13 ed13)) (vy := .agg (frcC es13 en13 ed13)) (by kernel_rfl) (by kernel_rfl) fun w => run_neq27s eb13.1 eb13.2 w) ?_
            refine wpV_done (by kernel_rfl) (fun W15 hW15 => ?_) _
            refine (show Code.wp _ _ _ _ _ from ?_)
            refine wp_cond_false rfl ?_
            refine wp_skip ?_
            refine (show Code.wp _ _ _ _ _ from ?_)
            refine wp_region_L (W0 := w) ((g10, .cells (frcC sv nv dv) 34 (0, 0)) :: (g7, .cells (frcC sv nv dv) 25 (0, 0)) :: (Ko ++ Kl4)) (hW15) ?_
            refine Tw.lp (v := .int .i64 (((i2 + 1) : Nat) : Int)) rfl rfl (run_bin rfl (vx := (.int .i64 ((i2 : Nat) : Int))) (vy := (.int .i64 ((1 : Nat) : Int))) (by kernel_rfl) (by kernel_rfl) fun w => bn_add (z := (i2 + 1)) rfl (wr_i64 (by omega)) w) ?_
            refine Tw.lm (v := .int .i64 (((i2 + 1) : Nat) : Int)) rfl rfl ?_
            refine wpL_done (fun W16 hW16 => ?_)
            go_roundw
            case rel =>
              repeat apply Exists.intro
              exact ⟨⟨i2 + 1, (by omega), rfl, (hW16.sub (fun p hp => by first | exact hp | (simp only [List.mem_cons, List.mem_append, List.nil_append, List.not_mem_nil, or_assoc, or_false, false_or, List.cons_append, List.append_assoc] at hp ⊢ <;> grind)))⟩, rfl⟩
            case measure => (show l.length - (intOf (.int .i64 (((i2 + 1) : Nat) : Int))).toNat < l.length - (intOf (.int .i64 ((i2 : Nat) : Int))).toNat); simp only [intOf]; omega
      | true =>
        have h2 : i < l.length := of_decide_eq_true hd2
        clear hd2
        refine wp_cond_true rfl ?_
        refine wp_skip ?_
        refine (show Code.wp _ _ _ _ _ from ?_)
        refine wp_seq ?_
        refine wp_block ?_
        refine wp_seq ?_
        refine wp_region_L (W0 := w) Ko (hW6) ?_
        obtain ⟨b15, f15, hp15, hc15⟩ := HP.at (hW6.sub (fun q hq => by cases hq)) (k := i) (by omega)
        refine Tw.lp (v := .pointer (some ⟨b15, f15 + i * 17, none⟩)) rfl rfl (run_idxQ (p := p) (cap := c) (n := l.length) (j := .i64) (k := i) (sz := 17) rfl Tryz.underlying29 (by kernel_rfl) (by kernel_rfl) hp15 (by kernel_rfl) (by omega)) ?_
        obtain ⟨⟨es16, en16, ed16⟩, hx16⟩ : ∃ x, (l : List Fr)[i]? = some x := ⟨_, List.getElem?_eq_getElem (by omega)⟩
        have eb16 : en16 < R 8 ∧ ed16 < R 8 := hok _ (List.mem_of_getElem? hx16)
        refine Tw.lv (v := .agg (frcC es16 en16 ed16)) rfl rfl (yb_fr (off := f15 + i * 17) rfl (by kernel_rfl) (fun W hW j v hv => hc15 W (hW.sub (fun q hq => by cases hq)) i _ hx16 j v hv) Tryz.underlying25 rfl (by kernel_rfl)) ?_
        refine wpL_new (fun g => .pointer (some ⟨g, 0, none⟩)) (obi := .cells (frcC false 0 0) 25 (0, 0)) rfl rfl (fun _ => by kernel_rfl) (fun _ => by simp only [List.setIfInBounds_toArray, List.set_cons_succ, List.set_cons_zero] <;> rfl) fun g17 Bg17 Fg17 => ?_
        obtain dj18_0 : Dk g17 Ko := by simpa only [dj_app_l, dj_app_r, dj_cons_l, dj_cons_r, dj_nil_l, dj_nil_r, dk_app, dk_cons, dk_nil, and_true, true_and, and_assoc] using (show Dk g17 Ko from Fg17)
        refine wpL_s ((g17, .cells (frcC es16 en16 ed16) 25 (0, 0)) :: Ko) rfl rfl (st_all (by simp only [frcC_size]) (by exact frc_onec) rfl (by kernel_rfl) (by kernel_rfl) (.head _) Bg17 (by simp only [frcC_size]; kernel_rfl) (List.forall_mem_cons.2 ⟨.inl rfl, (fun p hp => .inr ⟨(.tail _ hp), ((show Dk g17 Ko from (by (try simp only [dj_app_l, dj_app_r, dj_cons_l, dj_cons_r, dj_nil_l, dj_nil_r, dk_app, dk_cons, dk_nil, and_true, true_and, and_assoc]); repeat' (first | trivial | assumption | exact Dj.symm (by assumption) | exact Ne.symm (by assumption) | apply And.intro))) _ hp)⟩)⟩)) ?_
        refine wpL_done (fun W17 hW17 => ?_)
        refine (show Code.wp _ _ _ _ _ from ?_)
        refine wp_region_L (W0 := w) ((g17, .cells (frcC es16 en16 ed16) 25 (0, 0)) :: Ko) (hW17) ?_
        refine Tw.lm (v := vo) rfl rfl ?_
        refine Tw.lv (v := .agg (frcC es16 en16 ed16)) rfl rfl (yb_all rfl (by kernel_rfl) (.head _) Tryz.underlying25 rfl (by simp only [frcC_size]; kernel_rfl)) ?_
        refine wpL_new (fun g => .slice (some ⟨g, 0, none⟩) 1 1) (obi := .cells (frcC es16 en16 ed16) 34 (0, 0)) rfl rfl (fun _ => by kernel_rfl) (fun _ => by simp only [List.setIfInBounds_toArray, List.set_cons_succ, List.set_cons_zero] <;> rfl) fun g19 Bg19 Fg19 => ?_
        obtain ⟨dj20_0, dj20_1⟩ : g17 ≠ g19 ∧ Dk g19 Ko := by simpa only [dj_app_l, dj_app_r, dj_cons_l, dj_cons_r, dj_nil_l, dj_nil_r, dk_app, dk_cons, dk_nil, and_true, true_and, and_assoc] using (show Dk g19 ((g17, .cells (frcC es16 en16 ed16) 25 (0, 0)) :: Ko) from Fg19)
        refine wpL_g (AppO w 34 17 [(g17, .cells (frcC es16 en16 ed16) 25 (0, 0))] (i + 1) ((fcs (l.take i)) ++ (frcC es16 en16 ed16).toList)) rfl rfl (app_own el_rfc (m := 1) (c := 1) (news := (frcC es16 en16 ed16).toList) rfl (by kernel_rfl) (by kernel_rfl) (.head _) hO (fun p hp => by simp only [List.mem_cons, List.mem_append, List.nil_append, List.not_mem_nil, or_assoc, or_false, false_or, hp, or_true, true_or]) (fun p hp => ⟨by simp only [List.mem_cons, List.mem_append, List.nil_append, List.not_mem_nil, or_assoc, or_false, false_or] at hp ⊢ <;> grind, (show Dj [(g17, .cells (frcC es16 en16 ed16) 25 (0, 0))] Ko from (by (try simp only [dj_app_l, dj_app_r, dj_cons_l, dj_cons_r, dj_nil_l, dj_nil_r, dk_app, dk_cons, dk_nil, and_true, true_and, and_assoc]); repeat' (first | trivial | assumption | exact Dj.symm (by assumption) | exact Ne.symm (by assumption) | apply And.intro))) p hp⟩) (by simp [frcC]) (frc_onec) (by omega) (by omega) (by omega)) (fun _ => by simp only [List.setIfInBounds_toArray, List.set_cons_succ, List.set_cons_zero] <;> rfl) ?_
        rintro v21 K9 ⟨Kl21, O21, N21, rfl⟩
        replace O21 : OwnL w 34 17 v21 (i + 1) (fcs ((l.take i) ++ [(es16, en16, ed16)])) Kl21 := by rw [fcs_snoc]; exact O21
        obtain dj22_0 : Dk g17 Kl21 := by simpa only [dj_app_l, dj_app_r, dj_cons_l, dj_cons_r, dj_nil_l, dj_nil_r, dk_app, dk_cons, dk_nil, and_true, true_and, and_assoc] using (show Dj [(g17, .cells (frcC es16 en16 ed16) 25 (0, 0))] Kl21 from N21)
        refine Tw.lm (v := v21) rfl rfl ?_
        refine wpL_done (fun W18 hW18 => ?_)
        refine (show Code.wp _ _ _ _ _ from ?_)
        refine wp_region_L (W0 := w) ((g17, .cells (frcC es16 en16 ed16) 25 (0, 0)) :: Kl21) (hW18) ?_
        refine Tw.lp (v := .int .i64 (((i + 1) : Nat) : Int)) rfl rfl (run_bin rfl (vx := (.int .i64 ((i : Nat) : Int))) (vy := (.int .i64 ((1 : Nat) : Int))) (by kernel_rfl) (by kernel_rfl) fun w => bn_add (z := (i + 1)) rfl (wr_i64 (by omega)) w) ?_
        refine Tw.lm (v := .int .i64 (((i + 1) : Nat) : Int)) rfl rfl ?_
        refine wpL_done (fun W19 hW19 => ?_)
        go_roundw
        case rel =>
          repeat apply Exists.intro
          exact ⟨⟨i + 1, v21, Kl21, (by omega), (by have h := O21; rw [fcs_take hx16] at h; exact h), rfl, rfl, (hW19.sub (fun p hp => by first | exact hp | (simp only [List.mem_cons, List.mem_append, List.nil_append, List.not_mem_nil, or_assoc, or_false, false_or, List.cons_append, List.append_assoc] at hp ⊢ <;> grind)))⟩, rfl⟩
        case measure => (show l.length - (intOf (.int .i64 (((i + 1) : Nat) : Int))).toNat < l.length - (intOf (.int .i64 ((i : Nat) : Int))).toNat); simp only [intOf]; omega
  | true =>
    have h1 : 20 < l.length := of_decide_eq_true hd1
    clear hd1
    refine wp_cond_true rfl ?_
    refine wp_seq ?_
    refine wp_region_L (W0 := w) [] (hW2) ?_
    refine Tw.lm (v := .bool true) rfl rfl ?_
    refine wpL_done (fun W20 hW20 => ?_)
    refine (show Code.wp _ _ _ _ _ from ?_)
    refine wp_ret ?_
    try simp only [inBlock_ret, then_ret]
    refine bodyPost_ret (v := .bool true) ?_ rfl ?_
    · kernel_rfl
    · exact ⟨rfl, hW20.1⟩
end Go.Proofs.YtalmflgkbmnghaaGreatDoor
namespace Go.Proofs.YtalmflgkbmnghaaGreatDoor
open Go Go.RowKit Tw
set_option linter.unusedSimpArgs false
set_option linter.unusedVariables false
open Tf (dg R R_pos R_le R_succ dg_of_lt setd setd_eq)
variable [ShLZ]
variable [ShSt]
set_option maxRecDepth 100000 in
set_option maxHeartbeats 4000000 in
theorem FracSums_any (l : List Fr) (p : Option Addr) (c : Nat) (hok : ∀ x ∈ l, frOk x) (hA : ∀ W, Env W → Calls Tryz.prog 8 #[] W fun e w' => e = .returned (.bool true) ∧ Below W.heap.size W w') (w : World) (hE : Env w) (hp : SLV w p (fcs l)) : Calls Tryz.prog 5 #[.slice p l.length c] w fun e w' => e = .returned (.bool true) ∧ Below w.heap.size w w' := by
  have HP : FS (w : Base) p l [] := FS.base hp
  clear hp
  have HE := Lib.hid hE
  clear hE
  go_enter Tryz.func5, Tryz.ntmps5
  refine wp_seq ?_
  refine wp_region_L (W0 := w) [] (KS.start w) ?_
  refine Tw.lm (v := .bool false) rfl rfl ?_
  refine wpL_done (fun W1 hW1 => ?_)
  refine (show Code.wp _ _ _ _ _ from ?_)
  refine wp_seq ?_
  refine wp_region_L (W0 := w) [] (hW1) ?_
  refine Tw.lm (v := .slice p l.length c) rfl rfl ?_
  refine Tw.lv (v := .bool true) rfl rfl (yb_call (f := 10) (args := #[.slice p l.length c]) (fun _ => by kernel_rfl) fun W hW => lsums_any l p c hok W (HE.out.keep hW.1) ((HP.mono (fun q hq => by first | exact hq | (simp only [List.mem_cons, List.mem_append, List.nil_append, List.not_mem_nil, or_assoc, or_false, false_or] at hq ⊢ <;> grind))) W hW)) ?_
  refine Tw.lm (v := .bool true) rfl rfl ?_
  refine Tw.lv (v := .bool true) rfl rfl (yb_call (f := 8) (args := #[]) (fun _ => by kernel_rfl) fun W hW => hA W (HE.out.keep hW.1)) ?_
  refine Tw.lm (v := .bool true) rfl rfl ?_
  refine Tw.lm (v := .bool true) rfl rfl ?_
  refine wpL_done (fun W2 hW2 => ?_)
  refine (show Code.wp _ _ _ _ _ from ?_)
  refine wp_ret ?_
  try simp only [inBlock_ret, then_ret]
  refine bodyPost_ret (v := .bool true) ?_ rfl ?_
  · kernel_rfl
  · exact ⟨rfl, hW2.1⟩
end Go.Proofs.YtalmflgkbmnghaaGreatDoor
/- A list of fractions that came in. -/
namespace Go.Proofs.YtalmflgkbmnghaaGreatDoor
open Go.ChangeShapes Go.WideShapes Go.ChangeAt Go.RowKit Tw
open Tf (dg R va va_lt dg_va)
open Go
theorem fcs_back {l : List Fr} {i : Nat} {u : Value} (h : (fcs l)[i]? = some u) : ∃ x, l[i / 17]? = some x ∧ (fv x)[i % 17]? = some u := by
  have hi := (List.getElem?_eq_some_iff.1 h).1
  rw [fcs_len] at hi
  obtain ⟨x, hx⟩ : ∃ x, l[i / 17]? = some x := ⟨_, List.getElem?_eq_getElem (by omega)⟩
  obtain ⟨v, hv⟩ : ∃ v, (fv x)[i % 17]? = some v := ⟨_, List.getElem?_eq_getElem (by rw [fv_len]; omega)⟩
  have h2 := fcs_get hx hv
  rw [show i / 17 * 17 + i % 17 = i from by omega, h] at h2
  rw [Option.some.inj h2]
  exact ⟨x, hx, hv⟩
theorem fv_zero (x : Fr) : (fv x)[0]? = some (.bool x.1) := by
  unfold fv
  rw [Array.getElem?_toList]
  exact frc_neg _ _ _
theorem slv_of {W : World} {a : Addr} {l : List Fr} (hk : ∀ (i : Nat) (x : Fr), l[i]? = some x → ∀ (j : Nat) (v : Value), (fv x)[j]? = some v → W.cell? ((a.add (i * 17)).add j) = some v) : SLV W (some a) (fcs l) := by
  rcases Nat.eq_zero_or_pos l.length with h0 | h0
  · rw [List.eq_nil_of_length_eq_zero h0]; exact .inl rfl
  · obtain ⟨x, hx⟩ : ∃ x, l[0]? = some x := ⟨_, List.getElem?_eq_getElem h0⟩
    have h1 := hk 0 x hx 0 _ (fv_zero x)
    have h2 : W.cell? a = some (.bool x.1) := h1
    have h3 := World.cell?_spot h2
    have h4 := World.block_lt_of_cell? W _ h2
    clear h1 h2 hx
    obtain ⟨b, off, spot⟩ := a
    simp only at h3 h4
    subst h3
    refine .inr ⟨b, off, rfl, h4, fun i u hu => ?_⟩
    obtain ⟨y, hy, hj⟩ := fcs_back hu
    have h5 := hk (i / 17) y hy (i % 17) u hj
    rw [addr_add, addr_add, Nat.add_assoc, show i / 17 * 17 + i % 17 = i from by omega] at h5
    exact h5
set_option maxRecDepth 100000 in
set_option maxHeartbeats 1000000 in
theorem open_fracs {H : Type} {enc : TypeId × Value → H} {W : World} {v0 : Value} {d0 : DataW H} {p0 : List MemPlace} {base : Nat} (hv : Value.okWide Tryz.prog W .any base 29 v0)
    (h0 : DataW.Trod enc Tryz.prog W 0 (fun _ => true) true 29 v0 d0 p0) : ∃ (p : Option Addr) (cap : Nat) (l : List Fr), v0 = .slice p l.length cap ∧ (SLV W p (fcs l) ∧ ∀ x ∈ l, frOk x) := by
  obtain ⟨a0, len0, cap0, rfl⟩ := okWide_slice Tryz.underlying29 hv
  obtain ⟨fuel, hf⟩ := h0
  rcases DataW.trod_slice Tryz.underlying29 hf with ⟨hcs, _⟩ | ⟨a, len, cap, elems, rest, n, _, hcs, _, _, hl, hm, hlen, hel, _, _⟩
  · simp [Value.cells] at hcs
    obtain ⟨rfl, rfl, rfl⟩ := hcs
    exact ⟨none, 0, [], rfl, .inl rfl, fun _ h => by cases h⟩
  · simp [Value.cells] at hcs
    obtain ⟨rfl, rfl, rfl⟩ := hcs
    have c17 : Tryz.prog.cellsOf 25 = 17 := by kernel_rfl
    have key : ∀ i, i < len0 → ∃ x : Fr, frOk x ∧ ∀ (j : Nat) (v : Value), (fv x)[j]? = some v → W.cell? ((a.add (i * 17)).add j) = some v := by
      intro i hi
      have h1 := hel i hi
      rw [c17] at h1
      obtain ⟨y, hy⟩ : ∃ y, elems[i]? = some y := ⟨_, List.getElem?_eq_getElem (by omega)⟩
      rw [hy] at h1
      obtain ⟨cs, h2, h3⟩ := Option.bind_eq_some_iff.1 h1
      obtain ⟨s, n, d, e, hn, hd⟩ := trod_frac h3
      refine ⟨(s, n, d), ⟨hn, hd⟩, fun j v hj => ?_⟩
      have h4 := World.cells?_some h2
      have e2 : fv (s, n, d) = cs := e.symm
      rw [e2] at hj
      have hjl := (List.getElem?_eq_some_iff.1 hj).1
      rw [h4.2.2 j (by have := h4.2.1; omega)]
      exact hj
    have ⟨f, hfk⟩ : ∃ f : Nat → Fr, ∀ i, i < len0 → frOk (f i) ∧ ∀ (j : Nat) (v : Value), (fv (f i))[j]? = some v → W.cell? ((a.add (i * 17)).add j) = some v := by
      refine ⟨fun i => if h : i < len0 then (key i h).choose else (false, 0, 0), fun i hi => ?_⟩
      simp only [hi, dif_pos]
      exact (key i hi).choose_spec
    have hll : ((List.range len0).map f).length = len0 := by simp
    have hget : ∀ {i : Nat} {x : Fr}, ((List.range len0).map f)[i]? = some x → i < len0 ∧ x = f i := by
      intro i x hx
      have hi := (List.getElem?_eq_some_iff.1 hx).1
      rw [hll] at hi
      rw [List.getElem?_map, List.getElem?_range hi] at hx
      exact ⟨hi, (Option.some.inj hx).symm⟩
    refine ⟨some a, cap0, (List.range len0).map f, by rw [hll], ?_, fun x hx => ?_⟩
    · refine slv_of fun i x hx j v hj => ?_
      obtain ⟨hi, e⟩ := hget hx
      rw [e] at hj
      exact (hfk i hi).2 j v hj
    · obtain ⟨i, hi⟩ := List.getElem?_of_mem hx
      obtain ⟨h1, rfl⟩ := hget hi
      exact (hfk i h1).1
end Go.Proofs.YtalmflgkbmnghaaGreatDoor
namespace Go.Proofs.YtalmflgkbmnghaaGreatDoor
open Go Go.RowKit Tw
theorem FracSums_law (w : World) (hE : Env w) (l : List Fr) (p : Option Addr) (c : Nat) (h : SLV w p (fcs l) ∧ ∀ x ∈ l, frOk x) : Calls Tryz.prog 5 #[.slice p l.length c] w fun e w' => e = .returned (.bool true) ∧ Below w.heap.size w w' :=
  FracSums_any l p c h.2 (fun W hW => awake_any rep_any W hW) w hE h.1
end Go.Proofs.YtalmflgkbmnghaaGreatDoor
/- FracSums holds for every input: the program's own answer is true, wherever the listed variables are as the program's text lays them; each argument reads afterwards as it read before. -/
namespace Go.Proofs.YtalmflgkbmnghaaGreatDoor
open Go.ChangeShapes Go.WideShapes Go.ChangeAt Go.RowKit Tw
open Go
set_option maxRecDepth 100000 in
theorem fracSums_lifted (os : Os) (started : os.Started) (H : Type) (enc : TypeId × Value → H) :
    ReturnsInHanded {} Tryz.checked os 5 .any (fun w args => (Rows.fracSumsSpec.pre enc Tryz.prog Tryz.f5 Rows.fracSumsRow.domain false w args ∧ laidMetH Tryz.prog laid3 w) ∧ sizedMet enc Tryz.prog Tryz.f5 (OpenSpec.ofChange Rows.fracSumsSpec) false w args) (Rows.fracSumsSpec.post enc Tryz.prog Tryz.f5 false true false false) := by
  refine handed_and_sized (C := Tryz.checked) (X := fun w => laidMetH Tryz.prog laid3 w) (fun _ _ hh h => h.of_heap hh) own started (by kernel_rfl) Tryz.func5
    (ChangeSpec.witness_shaped (enc := enc) (C := Tryz.checked) (os := os) (X := fun w _ => laidMetH Tryz.prog laid3 w) false (World.doorLaid Tryz.prog 1000 os) #[.slice none 0 0] 8 rfl (World.shaped_of_RefB (by kernel_rfl) (by kernel_rfl)) (by kernel_rfl) (by kernel_rfl) (by kernel_rfl) (door_met os _)) ?_
  intro W base args ds gs before hval0 hW hL hsh hsz
  have hval : ∀ (j : Nat) t v, Tryz.f5.params[j]? = some t → args[j]? = some v → Value.okWide Tryz.prog W .any base t v := hval0
  have hW2 := hW
  obtain ⟨p, q, hA0, hV, rfl, hfz, hnd⟩ := hW2
  have hA : DataW.TrodAll enc Tryz.prog W 0 (fun _ => true) true Tryz.f5.params.toList args.toList ds p := hA0
  rw [Tryz.params5] at hA hval
  obtain ⟨v0, vs0, d0, ds0, p0, q0, hargs, rfl, rfl, h0, r0⟩ := trodAll_cons hA
  obtain ⟨rfl, rfl, rfl⟩ := trodAll_nil r0
  obtain rfl : args = #[v0] := by cases args; simp_all
  obtain ⟨rfl, rfl⟩ := trodVars_none hV
  have k0 := h0
  have lt0 : ∀ x ∈ p0, x.block < W.heap.size := by obtain ⟨m, hm⟩ := k0; exact DataW.trod_lt m _ _ _ hm
  obtain ⟨p0_, c0, l0, rfl, hb0⟩ := open_fracs (hval 0 29 v0 rfl rfl) h0
  clear hA0 hval0
  refine (FracSums_law W (env_of hL hsh) l0 p0_ c0 hb0).mono fun e W' ⟨he, bel⟩ => ?_
  subst he
  exact ⟨_, rfl, _, _, _, [], _, [], hW, (trodAll_cons_mk (shut_bool Tryz.underlying4 _) trodAll_mk0), (trodAll_cons_mk (Below.trod laidOut (by kernel_rfl) (of_decide_eq_true (by kernel_rfl)) k0 bel lt0) trodAll_mk0), rfl, bel.frame _, fun h => by cases h⟩
theorem fracSums_said : Rows.FracSumsSaid :=
  OpenClaim.holds_of_wide 5 Tryz.f5 rfl rfl rfl rfl rfl rfl rfl ⟨rfl, rfl, rfl, rfl, rfl⟩ rfl rfl rfl rfl rfl (by kernel_rfl) Tryz.func5 (by kernel_rfl)
    (of_decide_eq_true (by kernel_rfl)) (by unfold Func.isWrapper; first | (rw [if_pos (by decide +kernel)]; kernel_rfl) | (rw [if_neg (by decide +kernel)]; exact ⟨rfl, rfl⟩))
    (fun os started H enc _ => fracSums_lifted os started H enc)
theorem fracSums_proved : Rows.FracSumsCardSaid :=
  Claim7.holds_tied_plain_at .later [] [.data, .data, .data] true Rows.fracSumsCard.stood.harness Rows.fracSumsCard.stood.looks
    fracSums_said (fun _ h => by cases h) (by kernel_rfl) (fun _ h => by cases h) fracSums_row_tie rfl ⟨rfl, rfl⟩ (by kernel_rfl) rfl
    (fun f fn hf hfn => by
      obtain rfl : f = 5 := Option.some.inj ((show Tryz.prog.funcNamed "twistlock/twistlocklaw01.FracSums" = some 5 by kernel_rfl).symm.trans hf) |>.symm
      obtain rfl : fn = Tryz.f5 := (Option.some.inj (Tryz.func5.symm.trans hfn)).symm
      exact ⟨by kernel_rfl, fun j t ht => by
        rw [Tryz.params5] at ht
        have hm : t ∈ [29] := by simpa using Array.mem_of_getElem? ht
        have hall : ([29].all fun u => !Tryz.prog.wantsStandIn u) = true := by kernel_rfl
        exact (show Tryz.prog.wantsStandIn t = false by simpa using List.all_eq_true.1 hall t hm)⟩)
    (by kernel_rfl)
#print axioms fracSums_proved
end Go.Proofs.YtalmflgkbmnghaaGreatDoor
