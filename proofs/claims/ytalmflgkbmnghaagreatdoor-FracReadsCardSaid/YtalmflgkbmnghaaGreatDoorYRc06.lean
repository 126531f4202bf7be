import Derived.Test.YtalmflgkbmnghaaGreatDoorYRc05
import Derived.Test.YtalmflgkbmnghaaGreatDoorRQ03
import Derived.Test.YtalmflgkbmnghaaGreatDoorYRc03
/- Part of the proof: YN, Te, YE, YO. -/
set_option linter.unusedVariables false
set_option linter.unusedSimpArgs false
set_option linter.unusedSectionVars false
namespace Go.Proofs.YtalmflgkbmnghaaGreatDoor
open Go Go.RowKit Tw
set_option linter.unusedSimpArgs false
set_option linter.unusedVariables false
open Tf (dg R R_pos R_le R_succ dg_of_lt setd setd_eq)
variable [ShLZ]
end Go.Proofs.YtalmflgkbmnghaaGreatDoor
/- The texts of fractions, and what is read of them, of their neighbours and of what is no text. -/
namespace Go.Proofs.YtalmflgkbmnghaaGreatDoor
open Go.RowKit Tf
variable [ShLZ]
variable [ShSt]
theorem idx_none (c : UInt8) : ∀ {l : List UInt8}, (∀ b ∈ l, b ≠ c) → Lib.index l [c] = -1
  | [], _ => rfl
  | b :: l, h => by
    have hb : b ≠ c := h b (List.mem_cons_self ..)
    unfold Lib.index
    rw [if_neg (by simp only [List.isPrefixOf, Bool.and_true, beq_iff_eq]; exact fun e => hb e.symm), idx_none c (fun x hx => h x (List.mem_cons_of_mem _ hx))]
    rfl
theorem idx_at (c : UInt8) (v : List UInt8) : ∀ {u : List UInt8}, (∀ b ∈ u, b ≠ c) → Lib.index (u ++ c :: v) [c] = (u.length : Int)
  | [], _ => by
    show Lib.index (c :: v) [c] = 0
    unfold Lib.index
    rw [if_pos (by simp [List.isPrefixOf])]
  | b :: u, h => by
    have hb : b ≠ c := h b (List.mem_cons_self ..)
    show Lib.index (b :: (u ++ c :: v)) [c] = _
    unfold Lib.index
    rw [if_neg (by simp only [List.isPrefixOf, Bool.and_true, beq_iff_eq]; exact fun e => hb e.symm), idx_at c v (fun x hx => h x (List.mem_cons_of_mem _ hx))]
    rw [if_neg (by simp only [beq_iff_eq]; omega)]
    simp
theorem cut_no {l : List UInt8} (h : ∀ b ∈ l, b ≠ 47) : Lib.cut l [47] = (l, [], false) := by
  unfold Lib.cut
  rw [idx_none 47 h, if_neg (by omega)]
theorem cut_at {u : List UInt8} (v : List UInt8) (h : ∀ b ∈ u, b ≠ 47) : Lib.cut (u ++ 47 :: v) [47] = (u, v, true) := by
  unfold Lib.cut
  rw [idx_at 47 v h, if_pos (by omega), Int.toNat_natCast]
  simp
theorem dig_ne {x : Nat} {c : UInt8} (hc : c.toNat < 48) : ∀ b ∈ Lib.decDigits x, b ≠ c := fun b hb e => by
  have := dec_dig x b hb
  rw [e] at this
  omega
def preL (s : Bool) : List UInt8 := if s = true then [45] else []
def tailL (d : Nat) : List UInt8 := if d = 1 then [] else 47 :: Lib.decDigits d
theorem textL_eq (s : Bool) (n d : Nat) : textL s n d = preL s ++ Lib.decDigits n ++ tailL d := rfl
theorem pre_dec {n : Nat} : ∃ b l, Lib.decDigits n = b :: l ∧ b ≠ 45 := by
  cases h : Lib.decDigits n with
  | nil => have := dec_pos n; rw [h] at this; simp at this
  | cons b l => exact ⟨b, l, rfl, dig_ne (x := n) (c := 45) (by decide) b (by rw [h]; exact List.mem_cons_self ..)⟩
theorem neg_pre (s : Bool) (n : Nat) (v : List UInt8) : rNeg (preL s ++ Lib.decDigits n ++ v) = s ∧ Lib.trimPrefix (preL s ++ Lib.decDigits n ++ v) [45] = Lib.decDigits n ++ v := by
  have hp : Lib.hasPrefix (preL s ++ Lib.decDigits n ++ v) [45] = s := by
    cases s with
    | true => rfl
    | false =>
      obtain ⟨b, l, e, hb⟩ := pre_dec (n := n)
      rw [e]
      unfold Lib.hasPrefix preL
      simp [List.isPrefixOf]
      exact fun h => hb h.symm
  refine ⟨hp, ?_⟩
  unfold Lib.trimPrefix
  rw [hp]
  cases s with
  | true => rfl
  | false => rfl
theorem dig_all {l : List UInt8} {b : UInt8} (h : b ∈ l) (hb : isDig b = false) : digL l = false := by
  unfold digL
  have : l.all isDig = false := by
    rw [List.all_eq_false]
    exact ⟨b, h, by simp [hb]⟩
  rw [this, Bool.false_and]
theorem dig_dec (n : Nat) : digL (Lib.decDigits n) = true := by
  unfold digL
  have h1 : (Lib.decDigits n).all isDig = true := by
    rw [List.all_eq_true]
    intro b hb
    have := dec_dig n b hb
    unfold isDig
    simp only [Bool.and_eq_true, decide_eq_true_eq]
    exact this
  rw [h1, Bool.true_and]
  rcases Nat.eq_zero_or_pos n with h | h
  · subst h; rw [dec_small (by omega)]; rfl
  · have h2 := dec_head h
    have h3 := dec_pos n
    cases e : Lib.decDigits n with
    | nil => rw [e] at h3; simp at h3
    | cons b l => rw [e] at h2; simp only [List.headD_cons] at h2 ⊢; simp [h2]
theorem pok_dec {n : Nat} (h : n < R 8) : pOk (Lib.decDigits n) = true ∧ pVal (Lib.decDigits n) = n := by
  have h1 : decV (Lib.decDigits n) = n := dec_value n
  have h2 : pOk (Lib.decDigits n) = true := by
    unfold pOk
    rw [h1]
    exact decide_eq_true ⟨dec_len78 h, h⟩
  exact ⟨h2, by unfold pVal; rw [if_pos h2, h1]⟩
theorem ne_zero_text {d : Nat} (h : d ≠ 0) : (Lib.decDigits d == [48]) = false := by
  have h2 := dec_head (x := d) (by omega)
  cases hb : (Lib.decDigits d == [48]) with
  | false => rfl
  | true =>
    rw [beq_iff_eq] at hb
    rw [hb] at h2
    exact absurd rfl h2
theorem dec_one : Lib.decDigits 1 = [49] := dec_small (by omega)
theorem cut_text (s : Bool) (n d : Nat) : rCut (textL s n d) = (Lib.decDigits n, (if d = 1 then [] else Lib.decDigits d), !decide (d = 1)) ∧ rBelow (textL s n d) = Lib.decDigits d ∧ rNeg (textL s n d) = s := by
  have h1 := neg_pre s n (tailL d)
  rw [← textL_eq] at h1
  have h2 : rCut (textL s n d) = (Lib.decDigits n, (if d = 1 then [] else Lib.decDigits d), !decide (d = 1)) := by
    unfold rCut
    rw [h1.2]
    unfold tailL
    by_cases hd : d = 1
    · rw [if_pos hd, if_pos hd, List.append_nil, cut_no (dig_ne (by decide)), hd]; rfl
    · rw [if_neg hd, if_neg hd, cut_at _ (dig_ne (by decide))]; simp [hd]
  refine ⟨h2, ?_, h1.1⟩
  unfold rBelow
  rw [h2]
  by_cases hd : d = 1
  · subst hd; exact dec_one.symm
  · simp [hd]
theorem read_text {s : Bool} {n d : Nat} (h : rightB s n d = true) (hn : n < R 8) (hd : d < R 8) : readV (textL s n d) = .tuple #[frc s n d, .int .i64 0] := by
  obtain ⟨h1, h2, h3⟩ := cut_text s n d
  have hr : rErr s n d = 0 := by unfold rErr; rw [if_pos h]
  have ht : rText s n d = textL s n d := by unfold rText; rw [if_pos h]
  rw [readV_good (neg := s) (x := n) (y := d) (by rw [h1, h2]; simp only [dig_dec, ne_zero_text (Nat.ne_of_gt (right_den h))]; rfl) (by rw [h1, h2]; simp only [(pok_dec hn).1, (pok_dec hd).1]; rfl)
    ⟨h3, by rw [h1]; exact (pok_dec hn).2, by rw [h2]; exact (pok_dec hd).2⟩, if_pos ⟨hr, by rw [ht]; exact beq_self_eq_true _⟩]
end Go.Proofs.YtalmflgkbmnghaaGreatDoor
namespace Go.Proofs.YtalmflgkbmnghaaGreatDoor
open Go Go.RowKit Tw Tf
variable [ShLZ]
variable [ShSt]
def decP (m : Nat) : List UInt8 := if m = 0 then [] else Lib.decDigits m
theorem decP_pos {m : Nat} (h : 0 < m) : decP m = Lib.decDigits m := if_neg (by omega)
theorem decP_step {m : Nat} (h : 0 < m) : decP m = decP (m / 10) ++ [UInt8.ofNat (48 + m % 10)] := by
  rw [decP_pos h]
  rcases Nat.lt_or_ge m 10 with h1 | h1
  · rw [dec_small h1, Nat.div_eq_of_lt h1, Nat.mod_eq_of_lt h1]; rfl
  · rw [dec_big h1, decP_pos (by omega)]
def DecI (N m : Nat) (s : List UInt8) : Prop := (s = [] ∧ m = N) ∨ (s ≠ [] ∧ decP m ++ s = Lib.decDigits N)
theorem DecI.step {N m : Nat} {s : List UInt8} {c : UInt8} (h : DecI N m s) (hr : 0 < m ∨ s = []) (hc : c = UInt8.ofNat (48 + m % 10)) : DecI N (m / 10) ([c] ++ s) := by
  subst hc
  right
  refine ⟨by simp, ?_⟩
  rcases Nat.eq_zero_or_pos m with h0 | h0
  · subst h0
    rcases h with ⟨h1, h2⟩ | ⟨h1, h2⟩
    · subst h1 h2; rw [dec_small (by omega)]; rfl
    · rcases hr with h3 | h3
      · omega
      · exact absurd h3 h1
  · rw [← List.append_assoc, ← decP_step h0]
    rcases h with ⟨h1, h2⟩ | ⟨h1, h2⟩
    · subst h1 h2; rw [decP_pos h0, List.append_nil]
    · exact h2
theorem DecI.end {N m : Nat} {s : List UInt8} (h : DecI N m s) (h1 : ¬ 0 < m) (h2 : ¬ s = []) : s = Lib.decDigits N := by
  rcases h with ⟨h3, _⟩ | ⟨_, h4⟩
  · exact absurd h3 h2
  · rw [← h4, show m = 0 from by omega]; rfl
theorem DecI.len {N m : Nat} {s : List UInt8} (h : DecI N m s) : s.length ≤ (Lib.decDigits N).length := by
  rcases h with ⟨h3, _⟩ | ⟨_, h4⟩
  · subst h3; simp
  · rw [← h4]; simp
theorem decV_mono (l : List UInt8) : ∀ (j k : Nat), k ≤ l.length → decV (l.take (k - j)) ≤ decV (l.take k)
  | 0, k, _ => Nat.le_refl _
  | j + 1, k, h => by
    rcases Nat.lt_or_ge j k with h1 | h1
    · obtain ⟨b, hb⟩ : ∃ b, l[k - 1]? = some b := ⟨_, List.getElem?_eq_getElem (by omega)⟩
      have e := decV_take hb
      rw [show k - 1 + 1 = k from by omega] at e
      have := decV_mono l j (k - 1) (by omega)
      rw [show k - (j + 1) = k - 1 - j from by omega]
      omega
    · rw [show k - (j + 1) = k - j from by omega]; exact decV_mono l j k h
theorem decV_pre {l : List UInt8} {i : Nat} (h : i ≤ l.length) : decV (l.take i) ≤ decV l := by
  have := decV_mono l (l.length - i) l.length (Nat.le_refl _)
  rwa [show l.length - (l.length - i) = i from by omega, List.take_length] at this
theorem decV_low : ∀ (l : List UInt8), l.all isDig = true → ∀ k, k + 1 ≤ l.length → (l.headD 0).toNat ≠ 48 → 10 ^ k ≤ decV (l.take (k + 1))
  | l, h, 0, hk, h0 => by
    obtain ⟨b, hb⟩ : ∃ b, l[0]? = some b := ⟨_, List.getElem?_eq_getElem (by omega)⟩
    rw [decV_take hb]
    have h1 := List.all_eq_true.1 h b (List.mem_of_getElem? hb)
    have h2 : l.headD 0 = b := by cases l with | nil => simp at hb | cons c r => simpa using hb
    rw [h2] at h0
    unfold isDig at h1
    simp at h1
    simp [decV]
    omega
  | l, h, k + 1, hk, h0 => by
    obtain ⟨b, hb⟩ : ∃ b, l[k + 1]? = some b := ⟨_, List.getElem?_eq_getElem (by omega)⟩
    rw [decV_take hb]
    have := decV_low l h k (by omega) h0
    rw [Nat.pow_succ]
    omega
theorem R8_lt78 : R 8 < 10 ^ 78 := by unfold R; decide
theorem pok_iff {a : List UInt8} (h : digL a = true) : pOk a = decide (decV a < R 8) := by
  unfold pOk
  rw [decide_eq_decide]
  refine ⟨fun h => h.2, fun hv => ⟨?_, hv⟩⟩
  unfold digL at h
  simp only [Bool.and_eq_true, Bool.or_eq_true, beq_iff_eq, bne_iff_ne, ne_eq] at h
  rcases h.2 with h1 | ⟨_, h1⟩
  · rw [h1]; simp
  · rcases Nat.lt_or_ge 78 a.length with h2 | h2
    · have h3 := decV_low a h.1 78 (by omega) h1
      have h4 := decV_pre (l := a) (i := 78 + 1) (by omega)
      have := R8_lt78
      omega
    · exact h2
theorem pval_ok {a : List UInt8} (h : pOk a = true) : pVal a = decV a := by unfold pVal; rw [if_pos h]
theorem dec_zero_only {a : List UInt8} (h : digL a = true) (h0 : decV a = 0) : a = [48] := by
  unfold digL at h
  simp only [Bool.and_eq_true, Bool.or_eq_true, beq_iff_eq, bne_iff_ne, ne_eq] at h
  rcases h.2 with h1 | ⟨h2, h1⟩
  · exact h1
  · exfalso
    have hl : 0 + 1 ≤ a.length := by cases a with | nil => simp at h2 | cons c r => simp
    have h3 := decV_low a h.1 0 hl h1
    have h4 := decV_pre (l := a) (i := 0 + 1) hl
    omega
theorem dig_empty : digL [] = false := by decide
theorem dig_lead {a : List UInt8} {b : UInt8} (hb : a[0]? = some b) (h : b.toNat = 48) (h1 : ¬ a = [48]) : digL a = false := by
  unfold digL
  cases a with
  | nil => simp at hb
  | cons c r =>
    simp only [List.getElem?_cons_zero, Option.some.injEq] at hb
    subst hb
    have h2 : (c :: r == [48]) = false := by simpa using h1
    rw [h2]
    simp [h]
theorem dig_bad {a : List UInt8} {i : Nat} {b : UInt8} (hb : a[i]? = some b) (h : b.toNat < 48 ∨ 57 < b.toNat) : digL a = false := by
  refine dig_all (List.mem_of_getElem? hb) ?_
  unfold isDig
  rcases h with h | h
  · have : ¬ 48 ≤ b.toNat := by omega
    simp [this]
  · have : ¬ b.toNat ≤ 57 := by omega
    simp [this]
theorem dig_good {a : List UInt8} (h0 : ¬ a = []) (h1 : (∃ b, a[0]? = some b ∧ ¬ b.toNat = 48) ∨ a = [48]) (h : ∀ (i : Nat) (b : UInt8), i < a.length → a[i]? = some b → 48 ≤ b.toNat ∧ b.toNat ≤ 57) : digL a = true := by
  have hall : a.all isDig = true := by
    rw [List.all_eq_true]
    intro b hb
    obtain ⟨i, hi⟩ := List.getElem?_of_mem hb
    have := h i b (List.getElem?_eq_some_iff.1 hi).1 hi
    unfold isDig
    simp [this.1, this.2]
  unfold digL
  rw [hall, Bool.true_and]
  rcases h1 with ⟨b, hb, hb0⟩ | h1
  · cases a with
    | nil => simp at hb
    | cons c r =>
      simp only [List.getElem?_cons_zero, Option.some.injEq] at hb
      subst hb
      simp [hb0]
  · rw [h1]; rfl
def numC (a : List UInt8) : Int := if digL a = true then (if decV a < R 8 then 0 else 2) else 1
def numN (a : List UInt8) : Nat := if digL a = true ∧ decV a < R 8 then decV a else 0
theorem num_bad {a : List UInt8} (h : digL a = false) : numC a = 1 ∧ numN a = 0 := by
  unfold numC numN
  rw [h]
  exact ⟨by simp, by simp⟩
theorem num_long {a : List UInt8} {i : Nat} (h : digL a = true) (hi : i ≤ a.length) (hl : 16 < (cd (decV (a.take i))).length) : numC a = 2 ∧ numN a = 0 := by
  have h1 : ¬ decV a < R 8 := by
    intro h2
    have h3 := decV_pre hi
    have h4 := cd_R8.2 (Nat.lt_of_le_of_lt h3 h2)
    omega
  unfold numC numN
  exact ⟨by rw [if_pos h, if_neg h1], if_neg (fun h2 => h1 h2.2)⟩
theorem num_fits {a : List UInt8} {i : Nat} (h : digL a = true) (hi : ¬ i < a.length) (hl : (cd (decV (a.take i))).length ≤ 16) : numC a = 0 ∧ numN a = decV (a.take i) := by
  rw [List.take_of_length_le (by omega)] at hl ⊢
  have h1 := cd_R8.1 hl
  unfold numC numN
  exact ⟨by rw [if_pos h, if_pos h1], if_pos ⟨h, h1⟩⟩
end Go.Proofs.YtalmflgkbmnghaaGreatDoor
namespace Go.Proofs.YtalmflgkbmnghaaGreatDoor
open Go Go.RowKit Tw
set_option linter.unusedSimpArgs false
set_option linter.unusedVariables false
open Tf (dg R R_pos R_le R_succ dg_of_lt setd setd_eq)
variable [ShLZ]
variable [ShSt]
theorem cd_10 : cd 10 = [10] := by rw [cd_pos (by decide), show 10 / 65536 = 0 from by decide, cd_zero]
theorem rdiv_ten (a : Nat) (p q : Option Addr) (c d : Nat) (la : (cd a).length ≤ 90000) (hc : (cd a).length ≤ c) (w : World) (hp : SLV w p (nums (cd a))) (hq : SLV w q (nums [10])) : Calls Tryz.prog 61 #[.slice p (cd a).length c, .slice q 1 d] w fun e w' => Ans2 w (cd (a / 10)) (cd (a % 10)) e w' := by
  have h := div_any a 10 p q c d (by decide) la hc w hp (by rw [cd_10]; exact hq)
  rw [cd_10] at h
  exact h
theorem first_dig {y x : Nat} (hy : y < 10) (h : (cd y)[0]? = some x) : x = y := by
  rcases Nat.eq_zero_or_pos y with rfl | h0
  · simp [cd_zero] at h
  · rw [cd_pos h0] at h
    simp only [List.getElem?_cons_zero, Option.some.injEq] at h
    omega
def strZ : Value → Nat
  | .string b => if b.size = 0 then 1 else 0
  | _ => 0
theorem strZ_nil : strZ (strV []) = 1 := rfl
theorem strZ_cons (b : UInt8) (l : List UInt8) : strZ (strV ([b] ++ l)) = 0 := by
  show (if ([b] ++ l).toArray.size = 0 then 1 else 0) = 0
  rw [if_neg (by simp)]
theorem dec_less {m : Nat} {ss : List UInt8} (h : 0 < m ∨ ss = []) : m / 10 * 2 + 0 < m * 2 + strZ (strV ss) := by
  rcases h with h | h
  · omega
  · subst h; rw [strZ_nil]; omega
set_option maxRecDepth 100000 in
set_option maxHeartbeats 20000000 in
theorem rdecimal_any (n : Nat) (p : Option Addr) (c : Nat) (hn : n < R 8) (hc : (cd n).length ≤ c) (w : World) (hp : SLV w p (nums (cd n))) : Calls Tryz.prog 63 #[.slice p (cd n).length c] w fun e w' => e = .returned (strV (Lib.decDigits n)) ∧ Below w.heap.size w w' := by
  have HP : NS (w : Base) p (cd n) [] := NS.base hp
  clear hp
  have lnn := cd_16 hn
  have hl78 := dec_len78 hn
  go_enter Tryz.func63, Tryz.ntmps63
  refine wp_seq ?_
  refine wp_region_L (W0 := w) [] (KS.start w) ?_
  refine Tw.lm (v := strV []) rfl rfl ?_
  refine wpL_done (fun W1 hW1 => ?_)
  refine (show Code.wp _ _ _ _ _ from ?_)
  refine wp_seq ?_
  refine wp_region_L (W0 := w) [] (hW1) ?_
  refine Tw.lm (v := strV []) rfl rfl ?_
  refine wpL_done (fun W2 hW2 => ?_)
  refine (show Code.wp _ _ _ _ _ from ?_)
  refine wp_seq ?_
  refine wp_block ?_
  go_loopw [0, 3] (fun u0 u3 wr => ∃ (m : Nat) (ss : List UInt8) (po : Option Addr) (co : Nat) (Kt : List (Nat × Obj)), (NS (w : Base) po (cd m) Kt) ∧ ((cd m).length ≤ co) ∧ (DecI n m ss) ∧ (m ≤ n) ∧ u0 = .slice po ((cd m).length) co ∧ u3 = strV ss ∧ KS w Kt wr) (fun u0 u3 wz => valOf wz u0 * 2 + strZ u3)
  case atStart => exact ⟨n, [], p, c, [], HP, hc, (.inl ⟨rfl, rfl⟩), (Nat.le_refl _), rfl, rfl, (hW2.sub (fun p hp => by first | exact hp | (simp only [List.mem_cons, List.mem_append, List.nil_append, List.not_mem_nil, or_assoc, or_false, false_or, List.cons_append, List.append_assoc] at hp ⊢ <;> grind)))⟩
  case round =>
    obtain ⟨m, ss, po, co, Kt, HO, hco, hD, hmn, rfl, rfl, hL3⟩ := hrel
    have lsn := hD.len
    have lcm : (cd m).length ≤ 16 := cd_16 (Nat.lt_of_le_of_lt hmn hn)
    refine wp_seq ?_
    refine wp_seq ?_
    refine wp_region_L (W0 := w) Kt (hL3) ?_
    refine Tw.lm (v := .slice po ((cd m).length) co) rfl rfl ?_
    refine Tw.lp (v := .int .i64 ((((cd m).length) : Nat) : Int)) rfl rfl (run_lenL (p := po) (cap := co) (n := ((cd m).length)) rfl Tryz.underlying32 (by kernel_rfl)) ?_
    refine Tw.lp (v := .bool (decide (0 < ((cd m).length)))) rfl rfl (run_bin rfl (vx := (.int .i64 ((((cd m).length) : Nat) : Int))) (vy := (.int .i64 ((0 : Nat) : Int))) (by kernel_rfl) (by kernel_rfl) fun w => bn_gtr rfl w) ?_
    refine Tw.lm (v := .bool (decide (0 < ((cd m).length)))) rfl rfl ?_
    cases hd1 : (decide (0 < ((cd m).length))) with
    | false =>
      have h1 : ¬ (0 < ((cd m).length)) := of_decide_eq_false hd1
      clear hd1
      refine Tw.lm (v := strV ss) rfl rfl ?_
      refine Tw.lp (v := .bool (decide (ss = []))) rfl rfl (run_bin rfl (vx := strV ss) (vy := strV []) (by kernel_rfl) (by kernel_rfl) fun w => bs_eql rfl w) ?_
      refine Tw.lm (v := .bool (decide (ss = []))) rfl rfl ?_
      refine wpL_done (fun W4 hW4 => ?_)
      refine (show Code.wp _ _ _ _ _ from ?_)
      cases hd2 : (decide (ss = [])) with
      | false =>
        have h2 : ¬ (ss = []) := of_decide_eq_false hd2
        clear hd2
        refine wp_cond_false rfl ?_
        refine wp_exit ?_
        refine (show Code.wp _ _ _ _ _ from ?_)
        refine wp_seq ?_
        refine wp_region_L (W0 := w) Kt (hW4) ?_
        refine Tw.lm (v := strV ss) rfl rfl ?_
        refine Tw.lm (v := strV ss) rfl rfl ?_
        refine wpL_done (fun W5 hW5 => ?_)
        refine (show Code.wp _ _ _ _ _ from ?_)
        refine wp_ret ?_
        try simp only [inBlock_ret, then_ret]
        refine bodyPost_ret (v := strV ss) ?_ rfl ?_
        · kernel_rfl
        · exact ⟨(ret_v (by rw [hD.end (fun h => h1 (cd_app h)) h2])), hW5.1⟩
      | true =>
        have h2 : ss = [] := of_decide_eq_true hd2
        clear hd2
        refine wp_cond_true rfl ?_
        refine wp_skip ?_
        refine (show Code.wp _ _ _ _ _ from ?_)
        refine wp_block ?_
        refine wp_seq ?_
        refine wp_region_L (W0 := w) Kt (hW4) ?_
        refine Tw.lm (v := .slice po ((cd m).length) co) rfl rfl ?_
        refine wpL_new (fun g => .slice (some ⟨g, 0, none⟩) 1 1) (obi := .cells #[.int .i64 10] 3 (0, 0)) rfl rfl (fun _ => by kernel_rfl) (fun _ => by simp only [List.setIfInBounds_toArray, List.set_cons_succ, List.set_cons_zero] <;> rfl) fun g1 Bg1 Fg1 => ?_
        obtain dj2_0 : Dk g1 Kt := by simpa only [dj_app_l, dj_app_r, dj_cons_l, dj_cons_r, dj_nil_l, dj_nil_r, dk_app, dk_cons, dk_nil, and_true, true_and, and_assoc] using (show Dk g1 Kt from Fg1)
        refine wpL_c (f := 61) (args := #[.slice po ((cd m).length) co, .slice (some ⟨g1, 0, none⟩) 1 1]) (AnsW2 w ((g1, .cells #[.int .i64 10] 3 (0, 0)) :: Kt) (cd (m / 10)) (cd (m % 10))) rfl (by kernel_rfl) (fun _ => (by kernel_rfl)) (fun W hW => (rdiv_ten m po (some ⟨g1, 0, none⟩) co 1 (by omega) hco W ((HO.mono (fun q hq => by first | exact hq | (simp only [List.mem_cons, List.mem_append, List.nil_append, List.not_mem_nil, or_assoc, or_false, false_or] at hq ⊢ <;> grind))) W hW) (((show NS (w : Base) (some ⟨g1, 0, none⟩) [10] [(g1, .cells #[.int .i64 10] 3 (0, 0))] from ns_blk).mono (fun q hq => by cases List.mem_singleton.1 hq; exact (.head _))) W hW)).mono fun e w2 h => Ans2.g h hW) (fun _ => by simp only [List.setIfInBounds_toArray, List.set_cons_succ, List.set_cons_zero] <;> rfl) ?_
        rintro v3 _ ⟨q3, d3, r3, g3, T3, rfl, C3, E3, H3, G3, rfl⟩
        refine Tw.lm (v := .tuple #[.slice q3 ((cd (m / 10)).length) d3, .slice r3 ((cd (m % 10)).length) g3]) rfl rfl ?_
        refine Tw.lm (v := .slice q3 ((cd (m / 10)).length) d3) rfl rfl ?_
        refine Tw.lm (v := .slice r3 ((cd (m % 10)).length) g3) rfl rfl ?_
        refine Tw.lm (v := .slice q3 ((cd (m / 10)).length) d3) rfl rfl ?_
        refine Tw.lm (v := .slice r3 ((cd (m % 10)).length) g3) rfl rfl ?_
        refine wpL_done (fun W6 hW6 => ?_)
        refine (show Code.wp _ _ _ _ _ from ?_)
        refine wp_seq ?_
        refine wp_region_L (W0 := w) ((g1, .cells #[.int .i64 10] 3 (0, 0)) :: (Kt ++ T3)) (hW6) ?_
        refine Tw.lm (v := .int .i64 0) rfl rfl ?_
        refine wpL_done (fun W7 hW7 => ?_)
        refine (show Code.wp _ _ _ _ _ from ?_)
        refine wp_seq ?_
        refine wp_seq ?_
        refine wp_region_L (W0 := w) ((g1, .cells #[.int .i64 10] 3 (0, 0)) :: (Kt ++ T3)) (hW7) ?_
        refine Tw.lm (v := .slice r3 ((cd (m % 10)).length) g3) rfl rfl ?_
        refine Tw.lp (v := .int .i64 ((((cd (m % 10)).length) : Nat) : Int)) rfl rfl (run_lenL (p := r3) (cap := g3) (n := ((cd (m % 10)).length)) rfl Tryz.underlying32 (by kernel_rfl)) ?_
        refine Tw.lp (v := .bool (decide (0 < ((cd (m % 10)).length)))) rfl rfl (run_bin rfl (vx := (.int .i64 ((((cd (m % 10)).length) : Nat) : Int))) (vy := (.int .i64 ((0 : Nat) : Int))) (by kernel_rfl) (by kernel_rfl) fun w => bn_gtr rfl w) ?_
        refine wpL_done (fun W8 hW8 => ?_)
        refine (show Code.wp _ _ _ _ _ from ?_)
        cases hd3 : (decide (0 < ((cd (m % 10)).length))) with
        | false =>
          have h3 : ¬ (0 < ((cd (m % 10)).length)) := of_decide_eq_false hd3
          clear hd3
          have hmz : m % 10 = 0 := cd_len0.1 (by omega)
          refine wp_cond_false rfl ?_
          refine wp_skip ?_
          refine (show Code.wp _ _ _ _ _ from ?_)
          refine wp_seq ?_
          refine wp_region_L (W0 := w) ((g1, .cells #[.int .i64 10] 3 (0, 0)) :: (Kt ++ T3)) (hW8) ?_
          refine Tw.lm (v := .int .i64 0) rfl rfl ?_
          refine Tw.lm (v := .int .i64 48) rfl rfl ?_
          refine Tw.lm (v := .int .u8 48) rfl rfl ?_
          refine wpL_new (fun g => .slice (some ⟨g, 0, none⟩) 1 1) (obi := .cells #[.int .u8 48] 5 (0, 0)) rfl rfl (fun _ => by kernel_rfl) (fun _ => by simp only [List.setIfInBounds_toArray, List.set_cons_succ, List.set_cons_zero] <;> rfl) fun g4 Bg4 Fg4 => ?_
          obtain ⟨dj5_0, dj5_1, dj5_2⟩ : g1 ≠ g4 ∧ Dk g4 Kt ∧ Dk g4 T3 := by simpa only [dj_app_l, dj_app_r, dj_cons_l, dj_cons_r, dj_nil_l, dj_nil_r, dk_app, dk_cons, dk_nil, and_true, true_and, and_assoc] using (show Dk g4 ((g1, .cells #[.int .i64 10] 3 (0, 0)) :: (Kt ++ T3)) from Fg4)
          refine Tw.lv (v := strV [UInt8.ofNat 48]) rfl rfl (yb_str (n := 1) (cap := 1) (l := [UInt8.ofNat 48]) rfl Tryz.underlying67 Tryz.underlying5 Tryz.underlying9 (by kernel_rfl) rfl (.head _) (by first | rfl | (simp [RowB, u8s]; omega))) ?_
          refine Tw.lm (v := strV ss) rfl rfl ?_
          refine Tw.lp (v := strV ([UInt8.ofNat 48] ++ ss)) rfl rfl (run_bin rfl (vx := strV [UInt8.ofNat 48]) (vy := strV ss) (by kernel_rfl) (by kernel_rfl) fun w => bs_add (c := ([UInt8.ofNat 48] ++ ss)) rfl (by first | omega | (simp; omega)) w) ?_
          refine Tw.lm (v := strV ([UInt8.ofNat 48] ++ ss)) rfl rfl ?_
          refine wpL_done (fun W9 hW9 => ?_)
          refine (show Code.wp _ _ _ _ _ from ?_)
          refine wp_region_L (W0 := w) ((g4, .cells #[.int .u8 48] 5 (0, 0)) :: (g1, .cells #[.int .i64 10] 3 (0, 0)) :: (Kt ++ T3)) (hW9) ?_
          refine Tw.lm (v := .slice q3 ((cd (m / 10)).length) d3) rfl rfl ?_
          refine Tw.lm (v := .slice q3 ((cd (m / 10)).length) d3) rfl rfl ?_
          refine wpL_done (fun W10 hW10 => ?_)
          go_roundw
          case rel =>
            repeat apply Exists.intro
            exact ⟨⟨m / 10, ([UInt8.ofNat 48] ++ ss), q3, d3, (Kt ++ T3), (H3.mono (fun q hq => by first | exact hq | (simp only [List.mem_cons, List.mem_append, List.nil_append, List.not_mem_nil, or_assoc, or_false, false_or] at hq ⊢ <;> grind))), C3, (hD.step (.inr h2) (by rw [hmz])), (Nat.le_trans (Nat.div_le_self _ _) hmn), rfl, rfl, (hW10.sub (fun p hp => by first | exact hp | (simp only [List.mem_cons, List.mem_append, List.nil_append, List.not_mem_nil, or_assoc, or_false, false_or, List.cons_append, List.append_assoc] at hp ⊢ <;> grind)))⟩, rfl⟩
          case measure => (show valOf _ (.slice q3 (cd (m / 10)).length d3) * 2 + strZ (strV ([UInt8.ofNat 48] ++ ss)) < valOf _ (.slice po (cd m).length co) * 2 + strZ (strV ss)); rw [valOf_eq (((H3.mono (fun q hq => by first | exact hq | (simp only [List.mem_cons, List.mem_append, List.nil_append, List.not_mem_nil, or_assoc, or_false, false_or] at hq ⊢ <;> grind)))) _ hW10), valOf_eq (HO _ hL3), strZ_cons]; exact dec_less (.inr h2)
        | true =>
          have h3 : 0 < ((cd (m % 10)).length) := of_decide_eq_true hd3
          clear hd3
          obtain ⟨x6, hx6⟩ : ∃ xq_, ((cd (m % 10)) : List Nat)[0]? = some xq_ := get_ex (show 0 < ((cd (m % 10)) : List Nat).length by omega)
          have lx6 : x6 < 65536 := dOk.at (cd_ok (m % 10)) hx6
          have hxx : x6 = m % 10 := first_dig (Nat.mod_lt _ (by omega)) hx6
          have lxx : x6 < 10 := by omega
          refine wp_cond_true rfl ?_
          refine wp_region_L (W0 := w) ((g1, .cells #[.int .i64 10] 3 (0, 0)) :: (Kt ++ T3)) (hW8) ?_
          refine Tw.lm (v := .slice r3 ((cd (m % 10)).length) g3) rfl rfl ?_
          obtain ⟨b7, f7, hp7, hc7⟩ := (G3.mono (fun q hq => by first | exact hq | (simp only [List.mem_cons, List.mem_append, List.nil_append, List.not_mem_nil, or_assoc, or_false, false_or] at hq ⊢ <;> grind))).at hW8 (k := 0) (by omega)
          refine Tw.lp (v := .pointer (some ⟨b7, f7 + 0 * 1, none⟩)) rfl rfl (run_idxQ (p := r3) (cap := g3) (n := ((cd (m % 10)).length)) (j := .i64) (k := 0) (sz := 1) rfl Tryz.underlying32 (by kernel_rfl) (by kernel_rfl) hp7 (by kernel_rfl) (by omega)) ?_
          refine Tw.lv (v := .int .i64 ((x6 : Nat) : Int)) rfl rfl (yb_ns (off := f7 + 0 * 1) rfl (by kernel_rfl) (fun W hW => hc7 W (hW.sub (fun q hq => by first | exact hq | (simp only [List.mem_cons, List.mem_append, List.nil_append, List.not_mem_nil, or_assoc, or_false, false_or] at hq ⊢ <;> grind))) _ _ hx6) Tryz.underlying3 rfl) ?_
          refine Tw.lm (v := .int .i64 ((x6 : Nat) : Int)) rfl rfl ?_
          refine wpL_done (fun W11 hW11 => ?_)
          refine (show Code.wp _ _ _ _ _ from ?_)
          refine wp_seq ?_
          refine wp_region_L (W0 := w) ((g1, .cells #[.int .i64 10] 3 (0, 0)) :: (Kt ++ T3)) (hW11) ?_
          refine Tw.lm (v := .int .i64 ((x6 : Nat) : Int)) rfl rfl ?_
          refine Tw.lp (v := .int .i64 (((48 + x6) : Nat) : Int)) rfl rfl (run_bin rfl (vx := (.int .i64 ((48 : Nat) : Int))) (vy := (.int .i64 ((x6 : Nat) : Int))) (by kernel_rfl) (by kernel_rfl) fun w => bn_add (z := (48 + x6)) rfl (wr_i64 (by omega)) w) ?_
          refine Tw.lp (v := .int .u8 (((48 + x6) : Nat) : Int)) rfl rfl (run_conv rfl (vx := (.int .i64 (((48 + x6) : Nat) : Int))) (by kernel_rfl) fun w => cv_int Tryz.underlying3 Tryz.underlying5 (wr_u8 (by omega)) w) ?_
          refine wpL_new (fun g => .slice (some ⟨g, 0, none⟩) 1 1) (obi := .cells #[.int .u8 (((48 + x6) : Nat) : Int)] 5 (0, 0)) rfl rfl (fun _ => by kernel_rfl) (fun _ => by simp only [List.setIfInBounds_toArray, List.set_cons_succ, List.set_cons_zero] <;> rfl) fun g8 Bg8 Fg8 => ?_
          obtain ⟨dj9_0, dj9_1, dj9_2⟩ : g1 ≠ g8 ∧ Dk g8 Kt ∧ Dk g8 T3 := by simpa only [dj_app_l, dj_app_r, dj_cons_l, dj_cons_r, dj_nil_l, dj_nil_r, dk_app, dk_cons, dk_nil, and_true, true_and, and_assoc] using (show Dk g8 ((g1, .cells #[.int .i64 10] 3 (0, 0)) :: (Kt ++ T3)) from Fg8)
          refine Tw.lv (v := strV [UInt8.ofNat (48 + x6)]) rfl rfl (yb_str (n := 1) (cap := 1) (l := [UInt8.ofNat (48 + x6)]) rfl Tryz.underlying67 Tryz.underlying5 Tryz.underlying9 (by kernel_rfl) rfl (.head _) (by first | rfl | (simp [RowB, u8s]; omega))) ?_
          refine Tw.lm (v := strV ss) rfl rfl ?_
          refine Tw.lp (v := strV ([UInt8.ofNat (48 + x6)] ++ ss)) rfl rfl (run_bin rfl (vx := strV [UInt8.ofNat (48 + x6)]) (vy := strV ss) (by kernel_rfl) (by kernel_rfl) fun w => bs_add (c := ([UInt8.ofNat (48 + x6)] ++ ss)) rfl (by first | omega | (simp; omega)) w) ?_
          refine Tw.lm (v := strV ([UInt8.ofNat (48 + x6)] ++ ss)) rfl rfl ?_
          refine wpL_done (fun W12 hW12 => ?_)
          refine (show Code.wp _ _ _ _ _ from ?_)
          refine wp_region_L (W0 := w) ((g8, .cells #[.int .u8 (((48 + x6) : Nat) : Int)] 5 (0, 0)) :: (g1, .cells #[.int .i64 10] 3 (0, 0)) :: (Kt ++ T3)) (hW12) ?_
          refine Tw.lm (v := .slice q3 ((cd (m / 10)).length) d3) rfl rfl ?_
          refine Tw.lm (v := .slice q3 ((cd (m / 10)).length) d3) rfl rfl ?_
          refine wpL_done (fun W13 hW13 => ?_)
          go_roundw
          case rel =>
            repeat apply Exists.intro
            exact ⟨⟨m / 10, ([UInt8.ofNat (48 + x6)] ++ ss), q3, d3, (Kt ++ T3), (H3.mono (fun q hq => by first | exact hq | (simp only [List.mem_cons, List.mem_append, List.nil_append, List.not_mem_nil, or_assoc, or_false, false_or] at hq ⊢ <;> grind))), C3, (hD.step (.inr h2) (by rw [hxx])), (Nat.le_trans (Nat.div_le_self _ _) hmn), rfl, rfl, (hW13.sub (fun p hp => by first | exact hp | (simp only [List.mem_cons, List.mem_append, List.nil_append, List.not_mem_nil, or_assoc, or_false, false_or, List.cons_append, List.append_assoc] at hp ⊢ <;> grind)))⟩, rfl⟩
          case measure => (show valOf _ (.slice q3 (cd (m / 10)).length d3) * 2 + strZ (strV ([UInt8.ofNat (48 + x6)] ++ ss)) < valOf _ (.slice po (cd m).length co) * 2 + strZ (strV ss)); rw [valOf_eq (((H3.mono (fun q hq => by first | exact hq | (simp only [List.mem_cons, List.mem_append, List.nil_append, List.not_mem_nil, or_assoc, or_false, false_or] at hq ⊢ <;> grind)))) _ hW13), valOf_eq (HO _ hL3), strZ_cons]; exact dec_less (.inr h2)
    | true =>
      have h1 : 0 < ((cd m).length) := of_decide_eq_true hd1
      clear hd1
      refine Tw.ln rfl ?_
      refine Tw.ln rfl ?_
      refine Tw.lm (v := .bool true) rfl rfl ?_
      refine wpL_done (fun W14 hW14 => ?_)
      refine (show Code.wp _ _ _ _ _ from ?_)
      refine wp_cond_true rfl ?_
      refine wp_skip ?_
      refine (show Code.wp _ _ _ _ _ from ?_)
      refine wp_block ?_
      refine wp_seq ?_
      refine wp_region_L (W0 := w) Kt (hW14) ?_
      refine Tw.lm (v := .slice po ((cd m).length) co) rfl rfl ?_
      refine wpL_new (fun g => .slice (some ⟨g, 0, none⟩) 1 1) (obi := .cells #[.int .i64 10] 3 (0, 0)) rfl rfl (fun _ => by kernel_rfl) (fun _ => by simp only [List.setIfInBounds_toArray, List.set_cons_succ, List.set_cons_zero] <;> rfl) fun g10 Bg10 Fg10 => ?_
      obtain dj11_0 : Dk g10 Kt := by simpa only [dj_app_l, dj_app_r, dj_cons_l, dj_cons_r, dj_nil_l, dj_nil_r, dk_app, dk_cons, dk_nil, and_true, true_and, and_assoc] using (show Dk g10 Kt from Fg10)
      refine wpL_c (f := 61) (args := #[.slice po ((cd m).length) co, .slice (some ⟨g10, 0, none⟩) 1 1]) (AnsW2 w ((g10, .cells #[.int .i64 10] 3 (0, 0)) :: Kt) (cd (m / 10)) (cd (m % 10))) rfl (by kernel_rfl) (fun _ => (by kernel_rfl)) (fun W hW => (rdiv_ten m po (some ⟨g10, 0, none⟩) co 1 (by omega) hco W ((HO.mono (fun q hq => by first | exact hq | (simp only [List.mem_cons, List.mem_append, List.nil_append, List.not_mem_nil, or_assoc, or_false, false_or] at hq ⊢ <;> grind))) W hW) (((show NS (w : Base) (some ⟨g10, 0, none⟩) [10] [(g10, .cells #[.int .i64 10] 3 (0, 0))] from ns_blk).mono (fun q hq => by cases List.mem_singleton.1 hq; exact (.head _))) W hW)).mono fun e w2 h => Ans2.g h hW) (fun _ => by simp only [List.setIfInBounds_toArray, List.set_cons_succ, List.set_cons_zero] <;> rfl) ?_
      rintro v12 _ ⟨q12, d12, r12, g12, T12, rfl, C12, E12, H12, G12, rfl⟩
      refine Tw.lm (v := .tuple #[.slice q12 ((cd (m / 10)).length) d12, .slice r12 ((cd (m % 10)).length) g12]) rfl rfl ?_
      refine Tw.lm (v := .slice q12 ((cd (m / 10)).length) d12) rfl rfl ?_
      refine Tw.lm (v := .slice r12 ((cd (m % 10)).length) g12) rfl rfl ?_
      refine Tw.lm (v := .slice q12 ((cd (m / 10)).length) d12) rfl rfl ?_
      refine Tw.lm (v := .slice r12 ((cd (m % 10)).length) g12) rfl rfl ?_
      refine wpL_done (fun W15 hW15 => ?_)
      refine (show Code.wp _ _ _ _ _ from ?_)
      refine wp_seq ?_
      refine wp_region_L (W0 := w) ((g10, .cells #[.int .i64 10] 3 (0, 0)) :: (Kt ++ T12)) (hW15) ?_
      refine Tw.lm (v := .int .i64 0) rfl rfl ?_
      refine wpL_done (fun W16 hW16 => ?_)
      refine (show Code.wp _ _ _ _ _ from ?_)
      refine wp_seq ?_
      refine wp_seq ?_
      refine wp_region_L (W0 := w) ((g10, .cells #[.int .i64 10] 3 (0, 0)) :: (Kt ++ T12)) (hW16) ?_
      refine Tw.lm (v := .slice r12 ((cd (m % 10)).length) g12) rfl rfl ?_
      refine Tw.lp (v := .int .i64 ((((cd (m % 10)).length) : Nat) : Int)) rfl rfl (run_lenL (p := r12) (cap := g12) (n := ((cd (m % 10)).length)) rfl Tryz.underlying32 (by kernel_rfl)) ?_
      refine Tw.lp (v := .bool (decide (0 < ((cd (m % 10)).length)))) rfl rfl (run_bin rfl (vx := (.int .i64 ((((cd (m % 10)).length) : Nat) : Int))) (vy := (.int .i64 ((0 : Nat) : Int))) (by kernel_rfl) (by kernel_rfl) fun w => bn_gtr rfl w) ?_
      refine wpL_done (fun W17 hW17 => ?_)
      refine (show Code.wp _ _ _ _ _ from ?_)
      cases hd4 : (decide (0 < ((cd (m % 10)).length))) with
      | false =>
        have h4 : ¬ (0 < ((cd (m % 10)).length)) := of_decide_eq_false hd4
        clear hd4
        have hmz : m % 10 = 0 := cd_len0.1 (by omega)
        refine wp_cond_false rfl ?_
        refine wp_skip ?_
        refine (show Code.wp _ _ _ _ _ from ?_)
        refine wp_seq ?_
        refine wp_region_L (W0 := w) ((g10, .cells #[.int .i64 10] 3 (0, 0)) :: (Kt ++ T12)) (hW17) ?_
        refine Tw.lm (v := .int .i64 0) rfl rfl ?_
        refine Tw.lm (v := .int .i64 48) rfl rfl ?_
        refine Tw.lm (v := .int .u8 48) rfl rfl ?_
        refine wpL_new (fun g => .slice (some ⟨g, 0, none⟩) 1 1) (obi := .cells #[.int .u8 48] 5 (0, 0)) rfl rfl (fun _ => by kernel_rfl) (fun _ => by simp only [List.setIfInBounds_toArray, List.set_cons_succ, List.set_cons_zero] <;> rfl) fun g13 Bg13 Fg13 => ?_
        obtain ⟨dj14_0, dj14_1, dj14_2⟩ : g10 ≠ g13 ∧ Dk g13 Kt ∧ Dk g13 T12 := by simpa only [dj_app_l, dj_app_r, dj_cons_l, dj_cons_r, dj_nil_l, dj_nil_r, dk_app, dk_cons, dk_nil, and_true, true_and, and_assoc] using (show Dk g13 ((g10, .cells #[.int .i64 10] 3 (0, 0)) :: (Kt ++ T12)) from Fg13)
        refine Tw.lv (v := strV [UInt8.ofNat 48]) rfl rfl (yb_str (n := 1) (cap := 1) (l := [UInt8.ofNat 48]) rfl Tryz.underlying67 Tryz.underlying5 Tryz.underlying9 (by kernel_rfl) rfl (.head _) (by first | rfl | (simp [RowB, u8s]; omega))) ?_
        refine Tw.lm (v := strV ss) rfl rfl ?_
        refine Tw.lp (v := strV ([UInt8.ofNat 48] ++ ss)) rfl rfl (run_bin rfl (vx := strV [UInt8.ofNat 48]) (vy := strV ss) (by kernel_rfl) (by kernel_rfl) fun w => bs_add (c := ([UInt8.ofNat 48] ++ ss)) rfl (by first | omega | (simp; omega)) w) ?_
        refine Tw.lm (v := strV ([UInt8.ofNat 48] ++ ss)) rfl rfl ?_
        refine wpL_done (fun W18 hW18 => ?_)
        refine (show Code.wp _ _ _ _ _ from ?_)
        refine wp_region_L (W0 := w) ((g13, .cells #[.int .u8 48] 5 (0, 0)) :: (g10, .cells #[.int .i64 10] 3 (0, 0)) :: (Kt ++ T12)) (hW18) ?_
        refine Tw.lm (v := .slice q12 ((cd (m / 10)).length) d12) rfl rfl ?_
        refine Tw.lm (v := .slice q12 ((cd (m / 10)).length) d12) rfl rfl ?_
        refine wpL_done (fun W19 hW19 => ?_)
        go_roundw
        case rel =>
          repeat apply Exists.intro
          exact ⟨⟨m / 10, ([UInt8.ofNat 48] ++ ss), q12, d12, (Kt ++ T12), (H12.mono (fun q hq => by first | exact hq | (simp only [List.mem_cons, List.mem_append, List.nil_append, List.not_mem_nil, or_assoc, or_false, false_or] at hq ⊢ <;> grind))), C12, (hD.step (.inl (cd_pos' h1)) (by rw [hmz])), (Nat.le_trans (Nat.div_le_self _ _) hmn), rfl, rfl, (hW19.sub (fun p hp => by first | exact hp | (simp only [List.mem_cons, List.mem_append, List.nil_append, List.not_mem_nil, or_assoc, or_false, false_or, List.cons_append, List.append_assoc] at hp ⊢ <;> grind)))⟩, rfl⟩
        case measure => (show valOf _ (.slice q12 (cd (m / 10)).length d12) * 2 + strZ (strV ([UInt8.ofNat 48] ++ ss)) < valOf _ (.slice po (cd m).length co) * 2 + strZ (strV ss)); rw [valOf_eq (((H12.mono (fun q hq => by first | exact hq | (simp only [List.mem_cons, List.mem_append, List.nil_append, List.not_mem_nil, or_assoc, or_false, false_or] at hq ⊢ <;> grind)))) _ hW19), valOf_eq (HO _ hL3), strZ_cons]; exact dec_less (.inl (cd_pos' h1))
      | true =>
        have h4 : 0 < ((cd (m % 10)).length) := of_decide_eq_true hd4
        clear hd4
        obtain ⟨x15, hx15⟩ : ∃ xq_, ((cd (m % 10)) : List Nat)[0]? = some xq_ := get_ex (show 0 < ((cd (m % 10)) : List Nat).length by omega)
        have lx15 : x15 < 65536 := dOk.at (cd_ok (m % 10)) hx15
        have hxx : x15 = m % 10 := first_dig (Nat.mod_lt _ (by omega)) hx15
        have lxx : x15 < 10 := by omega
        refine wp_cond_true rfl ?_
        refine wp_region_L (W0 := w) ((g10, .cells #[.int .i64 10] 3 (0, 0)) :: (Kt ++ T12)) (hW17) ?_
        refine Tw.lm (v := .slice r12 ((cd (m % 10)).length) g12) rfl rfl ?_
        obtain ⟨b16, f16, hp16, hc16⟩ := (G12.mono (fun q hq => by first | exact hq | (simp only [List.mem_cons, List.mem_append, List.nil_append, List.not_mem_nil, or_assoc, or_false, false_or] at hq ⊢ <;> grind))).at hW17 (k := 0) (by omega)
        refine Tw.lp (v := .pointer (some ⟨b16, f16 + 0 * 1, none⟩)) rfl rfl (run_idxQ (p := r12) (cap := g12) (n := ((cd (m % 10)).length)) (j := .i64) (k := 0) (sz := 1) rfl Tryz.underlying32 (by kernel_rfl) (by kernel_rfl) hp16 (by kernel_rfl) (by omega)) ?_
        refine Tw.lv (v := .int .i64 ((x15 : Nat) : Int)) rfl rfl (yb_ns (off := f16 + 0 * 1) rfl (by kernel_rfl) (fun W hW => hc16 W (hW.sub (fun q hq => by first | exact hq | (simp only [List.mem_cons, List.mem_append, List.nil_append, List.not_mem_nil, or_assoc, or_false, false_or] at hq ⊢ <;> grind))) _ _ hx15) Tryz.underlying3 rfl) ?_
        refine Tw.lm (v := .int .i64 ((x15 : Nat) : Int)) rfl rfl ?_
        refine wpL_done (fun W20 hW20 => ?_)
        refine (show Code.wp _ _ _ _ _ from ?_)
        refine wp_seq ?_
        refine wp_region_L (W0 := w) ((g10, .cells #[.int .i64 10] 3 (0, 0)) :: (Kt ++ T12)) (hW20) ?_
        refine Tw.lm (v := .int .i64 ((x15 : Nat) : Int)) rfl rfl ?_
        refine Tw.lp (v := .int .i64 (((48 + x15) : Nat) : Int)) rfl rfl (run_bin rfl (vx := (.int .i64 ((48 : Nat) : Int))) (vy := (.int .i64 ((x15 : Nat) : Int))) (by kernel_rfl) (by kernel_rfl) fun w => bn_add (z := (48 + x15)) rfl (wr_i64 (by omega)) w) ?_
        refine Tw.lp (v := .int .u8 (((48 + x15) : Nat) : Int)) rfl rfl (run_conv rfl (vx := (.int .i64 (((48 + x15) : Nat) : Int))) (by kernel_rfl) fun w => cv_int Tryz.underlying3 Tryz.underlying5 (wr_u8 (by omega)) w) ?_
        refine wpL_new (fun g => .slice (some ⟨g, 0, none⟩) 1 1) (obi := .cells #[.int .u8 (((48 + x15) : Nat) : Int)] 5 (0, 0)) rfl rfl (fun _ => by kernel_rfl) (fun _ => by simp only [List.setIfInBounds_toArray, List.set_cons_succ, List.set_cons_zero] <;> rfl) fun g17 Bg17 Fg17 => ?_
        obtain ⟨dj18_0, dj18_1, dj18_2⟩ : g10 ≠ g17 ∧ Dk g17 Kt ∧ Dk g17 T12 := by simpa only [dj_app_l, dj_app_r, dj_cons_l, dj_cons_r, dj_nil_l, dj_nil_r, dk_app, dk_cons, dk_nil, and_true, true_and, and_assoc] using (show Dk g17 ((g10, .cells #[.int .i64 10] 3 (0, 0)) :: (Kt ++ T12)) from Fg17)
        refine Tw.lv (v := strV [UInt8.ofNat (48 + x15)]) rfl rfl (yb_str (n := 1) (cap := 1) (l := [UInt8.ofNat (48 + x15)]) rfl Tryz.underlying67 Tryz.underlying5 Tryz.underlying9 (by kernel_rfl) rfl (.head _) (by first | rfl | (simp [RowB, u8s]; omega))) ?_
        refine Tw.lm (v := strV ss) rfl rfl ?_
        refine Tw.lp (v := strV ([UInt8.ofNat (48 + x15)] ++ ss)) rfl rfl (run_bin rfl (vx := strV [UInt8.ofNat (48 + x15)]) (vy := strV ss) (by kernel_rfl) (by kernel_rfl) fun w => bs_add (c := ([UInt8.ofNat (48 + x15)] ++ ss)) rfl (by first | omega | (simp; omega)) w) ?_
        refine Tw.lm (v := strV ([UInt8.ofNat (48 + x15)] ++ ss)) rfl rfl ?_
        refine wpL_done (fun W21 hW21 => ?_)
        refine (show Code.wp _ _ _ _ _ from ?_)
        refine wp_region_L (W0 := w) ((g17, .cells #[.int .u8 (((48 + x15) : Nat) : Int)] 5 (0, 0)) :: (g10, .cells #[.int .i64 10] 3 (0, 0)) :: (Kt ++ T12)) (hW21) ?_
        refine Tw.lm (v := .slice q12 ((cd (m / 10)).length) d12) rfl rfl ?_
        refine Tw.lm (v := .slice q12 ((cd (m / 10)).length) d12) rfl rfl ?_
        refine wpL_done (fun W22 hW22 => ?_)
        go_roundw
        case rel =>
          repeat apply Exists.intro
          exact ⟨⟨m / 10, ([UInt8.ofNat (48 + x15)] ++ ss), q12, d12, (Kt ++ T12), (H12.mono (fun q hq => by first | exact hq | (simp only [List.mem_cons, List.mem_append, List.nil_append, List.not_mem_nil, or_assoc, or_false, false_or] at hq ⊢ <;> grind))), C12, (hD.step (.inl (cd_pos' h1)) (by rw [hxx])), (Nat.le_trans (Nat.div_le_self _ _) hmn), rfl, rfl, (hW22.sub (fun p hp => by first | exact hp | (simp only [List.mem_cons, List.mem_append, List.nil_append, List.not_mem_nil, or_assoc, or_false, false_or, List.cons_append, List.append_assoc] at hp ⊢ <;> grind)))⟩, rfl⟩
        case measure => (show valOf _ (.slice q12 (cd (m / 10)).length d12) * 2 + strZ (strV ([UInt8.ofNat (48 + x15)] ++ ss)) < valOf _ (.slice po (cd m).length co) * 2 + strZ (strV ss)); rw [valOf_eq (((H12.mono (fun q hq => by first | exact hq | (simp only [List.mem_cons, List.mem_append, List.nil_append, List.not_mem_nil, or_assoc, or_false, false_or] at hq ⊢ <;> grind)))) _ hW22), valOf_eq (HO _ hL3), strZ_cons]; exact dec_less (.inl (cd_pos' h1))
set_option maxRecDepth 100000 in
set_option maxHeartbeats 20000000 in
theorem RText_any (s : Bool) (n d : Nat) (hn : n < R 8) (hd : d < R 8) (w : World) : Calls Tryz.prog 31 #[.agg (frcC s n d)] w fun e w' => e = .returned (if rightB s n d = true then .tuple #[strV (textL s n d), .int .i64 0] else .tuple #[strV [], .int .i64 2]) ∧ Below w.heap.size w w' := by
  obtain ⟨V, hV⟩ : ∃ V : Value, V = (if rightB s n d = true then .tuple #[strV (textL s n d), .int .i64 0] else .tuple #[strV [], .int .i64 2]) := ⟨_, rfl⟩
  rw [← hV]
  have l1 := dec_len78 hn
  have l2 := dec_len78 hd
  go_enter Tryz.func31, Tryz.ntmps31
  refine wp_seq ?_
  refine wp_region_L (W0 := w) [] (KS.start w) ?_
  refine wpL_new (fun g => .pointer (some ⟨g, 0, none⟩)) (obi := .cells (frcC s n d) 34 (0, 0)) rfl rfl (fun _ => by kernel_rfl) (fun _ => by simp only [List.setIfInBounds_toArray, List.set_cons_succ, List.set_cons_zero] <;> rfl) fun g1 Bg1 Fg1 => ?_
  refine Tw.lm (v := strV []) rfl rfl ?_
  refine Tw.lm (v := .int .i64 0) rfl rfl ?_
  refine wpL_done (fun W1 hW1 => ?_)
  refine (show Code.wp _ _ _ _ _ from ?_)
  refine wp_seq ?_
  refine wp_seq ?_
  refine wp_region_L (W0 := w) [(g1, .cells (frcC s n d) 34 (0, 0))] (hW1) ?_
  refine Tw.lv (v := .agg (frcC s n d)) rfl rfl (yb_all rfl (by kernel_rfl) (.head _) Tryz.underlying34 rfl (by simp only [frcC_size]; kernel_rfl)) ?_
  refine Tw.lv (v := .bool (rightB s n d)) rfl rfl (yb_call (f := 18) (args := #[.agg (frcC s n d)]) (fun _ => by kernel_rfl) fun W hW => rright_any s n d hn hd W) ?_
  refine Tw.lp (v := .bool (!(rightB s n d))) rfl rfl (run_un rfl (by kernel_rfl) fun w => un_not w) ?_
  refine wpL_done (fun W2 hW2 => ?_)
  refine (show Code.wp _ _ _ _ _ from ?_)
  cases h1 : (rightB s n d) with
  | false =>
    refine wp_cond_true rfl ?_
    refine wp_seq ?_
    refine wp_region_L (W0 := w) [(g1, .cells (frcC s n d) 34 (0, 0))] (hW2) ?_
    refine Tw.lm (v := strV []) rfl rfl ?_
    refine Tw.lm (v := .int .i64 2) rfl rfl ?_
    refine wpL_done (fun W3 hW3 => ?_)
    refine (show Code.wp _ _ _ _ _ from ?_)
    refine wp_ret ?_
    try simp only [inBlock_ret, then_ret]
    refine bodyPost_ret (v := .tuple #[strV [], .int .i64 2]) ?_ rfl ?_
    · kernel_rfl
    · exact ⟨(ret_v (by rw [hV, if_neg (fun h => by rw [h1] at h; cases h)])), hW3.1⟩
  | true =>
    refine wp_cond_false rfl ?_
    refine wp_skip ?_
    refine (show Code.wp _ _ _ _ _ from ?_)
    refine wp_seq ?_
    refine wp_region_L (W0 := w) [(g1, .cells (frcC s n d) 34 (0, 0))] (hW2) ?_
    refine Tw.lm (v := .pointer (some ⟨g1, 1, none⟩)) rfl rfl ?_
    refine Tw.lv (v := .agg (fa 8 (dg n))) rfl rfl (yb_fnum (s := s) (n := n) (d := d) rfl (by kernel_rfl) (.head _) Tryz.underlying23 rfl (by kernel_rfl)) ?_
    refine wpL_c (f := 43) (args := #[.agg (fa 8 (dg n))]) (AnsG w [(g1, .cells (frcC s n d) 34 (0, 0))] (cd n)) rfl (by kernel_rfl) (fun _ => (by kernel_rfl)) (fun W hW => (rdigits_any n hn W).mono fun e w2 h => Ans.g h hW) (fun _ => by simp only [List.setIfInBounds_toArray, List.set_cons_succ, List.set_cons_zero] <;> rfl) ?_
    rintro v2 _ ⟨q2, d2, T2, rfl, C2, H2, F2, J2, rfl⟩
    obtain dj3_0 : Dk g1 T2 := by simpa only [dj_app_l, dj_app_r, dj_cons_l, dj_cons_r, dj_nil_l, dj_nil_r, dk_app, dk_cons, dk_nil, and_true, true_and, and_assoc] using (show Dj [(g1, .cells (frcC s n d) 34 (0, 0))] T2 from J2)
    refine Tw.lv (v := strV (Lib.decDigits n)) rfl rfl (yb_call (f := 63) (args := #[.slice q2 ((cd n).length) d2]) (fun _ => by kernel_rfl) fun W hW => rdecimal_any n q2 d2 hn C2 W ((H2.mono (fun q hq => by first | exact hq | (simp only [List.mem_cons, List.mem_append, List.nil_append, List.not_mem_nil, or_assoc, or_false, false_or] at hq ⊢ <;> grind))) W hW)) ?_
    refine Tw.lm (v := strV (Lib.decDigits n)) rfl rfl ?_
    refine wpL_done (fun W4 hW4 => ?_)
    refine (show Code.wp _ _ _ _ _ from ?_)
    refine wp_seq ?_
    refine wp_seq ?_
    refine wp_region_L (W0 := w) ((g1, .cells (frcC s n d) 34 (0, 0)) :: T2) (hW4) ?_
    refine Tw.lm (v := .pointer (some ⟨g1, 0, none⟩)) rfl rfl ?_
    obtain ⟨qs, hqs⟩ : ∃ b, b = s := ⟨_, rfl⟩
    refine Tw.lv (v := .bool qs) rfl rfl (yb_cell (off := 0) rfl (by kernel_rfl) (.head _) Tryz.underlying4 rfl (frc_negq hqs)) ?_
    refine wpL_done (fun W5 hW5 => ?_)
    refine (show Code.wp _ _ _ _ _ from ?_)
    cases h2 : qs with
    | false =>
      refine wp_cond_false rfl ?_
      refine wp_skip ?_
      refine (show Code.wp _ _ _ _ _ from ?_)
      refine wp_seq ?_
      refine wp_seq ?_
      refine wp_region_L (W0 := w) ((g1, .cells (frcC s n d) 34 (0, 0)) :: T2) (hW5) ?_
      refine Tw.lm (v := .pointer (some ⟨g1, 9, none⟩)) rfl rfl ?_
      refine Tw.lv (v := .agg (fa 8 (dg d))) rfl rfl (yb_fden (s := s) (n := n) (d := d) rfl (by kernel_rfl) (.head _) Tryz.underlying23 rfl (by kernel_rfl)) ?_
      refine wpL_c (f := 43) (args := #[.agg (fa 8 (dg d))]) (AnsG w ((g1, .cells (frcC s n d) 34 (0, 0)) :: T2) (cd d)) rfl (by kernel_rfl) (fun _ => (by kernel_rfl)) (fun W hW => (rdigits_any d hd W).mono fun e w2 h => Ans.g h hW) (fun _ => by simp only [List.setIfInBounds_toArray, List.set_cons_succ, List.set_cons_zero] <;> rfl) ?_
      rintro v4 _ ⟨q4, d4, T4, rfl, C4, H4, F4, J4, rfl⟩
      obtain ⟨dj5_0, dj5_1⟩ : Dk g1 T4 ∧ Dj T2 T4 := by simpa only [dj_app_l, dj_app_r, dj_cons_l, dj_cons_r, dj_nil_l, dj_nil_r, dk_app, dk_cons, dk_nil, and_true, true_and, and_assoc] using (show Dj ((g1, .cells (frcC s n d) 34 (0, 0)) :: T2) T4 from J4)
      refine Tw.lm (v := .slice q4 ((cd d).length) d4) rfl rfl ?_
      refine wpL_done (fun W6 hW6 => ?_)
      refine (show Code.wp _ _ _ _ _ from ?_)
      refine wp_seq ?_
      refine wp_region_L (W0 := w) ((g1, .cells (frcC s n d) 34 (0, 0)) :: (T2 ++ T4)) (hW6) ?_
      refine Tw.lm (v := .slice q4 ((cd d).length) d4) rfl rfl ?_
      refine Tw.lv (v := .bool (decide (d = 1))) rfl rfl (yb_call (f := 50) (args := #[.slice q4 ((cd d).length) d4]) (fun _ => by kernel_rfl) fun W hW => rone_any d q4 d4 W ((H4.mono (fun q hq => by first | exact hq | (simp only [List.mem_cons, List.mem_append, List.nil_append, List.not_mem_nil, or_assoc, or_false, false_or] at hq ⊢ <;> grind))) W hW)) ?_
      refine Tw.lp (v := .bool (!(decide (d = 1)))) rfl rfl (run_un rfl (by kernel_rfl) fun w => un_not w) ?_
      refine wpL_done (fun W7 hW7 => ?_)
      refine (show Code.wp _ _ _ _ _ from ?_)
      cases hd3 : (decide (d = 1)) with
      | false =>
        have h3 : ¬ (d = 1) := of_decide_eq_false hd3
        clear hd3
        refine wp_cond_true rfl ?_
        refine wp_region_L (W0 := w) ((g1, .cells (frcC s n d) 34 (0, 0)) :: (T2 ++ T4)) (hW7) ?_
        refine Tw.lm (v := strV (Lib.decDigits n)) rfl rfl ?_
        refine Tw.lp (v := strV ((Lib.decDigits n) ++ [47])) rfl rfl (run_bin rfl (vx := strV (Lib.decDigits n)) (vy := strV [47]) (by kernel_rfl) (by kernel_rfl) fun w => bs_add (c := ((Lib.decDigits n) ++ [47])) rfl (by first | omega | (simp; omega)) w) ?_
        refine Tw.lm (v := .slice q4 ((cd d).length) d4) rfl rfl ?_
        refine Tw.lv (v := strV (Lib.decDigits d)) rfl rfl (yb_call (f := 63) (args := #[.slice q4 ((cd d).length) d4]) (fun _ => by kernel_rfl) fun W hW => rdecimal_any d q4 d4 hd C4 W ((H4.mono (fun q hq => by first | exact hq | (simp only [List.mem_cons, List.mem_append, List.nil_append, List.not_mem_nil, or_assoc, or_false, false_or] at hq ⊢ <;> grind))) W hW)) ?_
        refine Tw.lp (v := strV (((Lib.decDigits n) ++ [47]) ++ (Lib.decDigits d))) rfl rfl (run_bin rfl (vx := strV ((Lib.decDigits n) ++ [47])) (vy := strV (Lib.decDigits d)) (by kernel_rfl) (by kernel_rfl) fun w => bs_add (c := (((Lib.decDigits n) ++ [47]) ++ (Lib.decDigits d))) rfl (by first | omega | (simp; omega)) w) ?_
        refine Tw.lm (v := strV (((Lib.decDigits n) ++ [47]) ++ (Lib.decDigits d))) rfl rfl ?_
        refine wpL_done (fun W8 hW8 => ?_)
        refine (show Code.wp _ _ _ _ _ from ?_)
        refine wp_seq ?_
        refine wp_region_L (W0 := w) ((g1, .cells (frcC s n d) 34 (0, 0)) :: (T2 ++ T4)) (hW8) ?_
        refine Tw.lm (v := strV (((Lib.decDigits n) ++ [47]) ++ (Lib.decDigits d))) rfl rfl ?_
        refine Tw.lm (v := strV (((Lib.decDigits n) ++ [47]) ++ (Lib.decDigits d))) rfl rfl ?_
        refine Tw.lm (v := .int .i64 0) rfl rfl ?_
        refine wpL_done (fun W9 hW9 => ?_)
        refine (show Code.wp _ _ _ _ _ from ?_)
        refine wp_ret ?_
        try simp only [inBlock_ret, then_ret]
        refine bodyPost_ret (v := .tuple #[strV (((Lib.decDigits n) ++ [47]) ++ (Lib.decDigits d)), .int .i64 0]) ?_ rfl ?_
        · kernel_rfl
        · exact ⟨(ret_v (by have e1 : s = false := hqs.symm.trans h2; subst e1; rw [hV, if_pos h1]; unfold textL; rw [if_neg h3]; simp)), hW9.1⟩
      | true =>
        have h3 : d = 1 := of_decide_eq_true hd3
        clear hd3
        refine wp_cond_false rfl ?_
        refine wp_skip ?_
        refine (show Code.wp _ _ _ _ _ from ?_)
        refine wp_seq ?_
        refine wp_region_L (W0 := w) ((g1, .cells (frcC s n d) 34 (0, 0)) :: (T2 ++ T4)) (hW7) ?_
        refine Tw.lm (v := strV (Lib.decDigits n)) rfl rfl ?_
        refine Tw.lm (v := strV (Lib.decDigits n)) rfl rfl ?_
        refine Tw.lm (v := .int .i64 0) rfl rfl ?_
        refine wpL_done (fun W10 hW10 => ?_)
        refine (show Code.wp _ _ _ _ _ from ?_)
        refine wp_ret ?_
        try simp only [inBlock_ret, then_ret]
        refine bodyPost_ret (v := .tuple #[strV (Lib.decDigits n), .int .i64 0]) ?_ rfl ?_
        · kernel_rfl
        · exact ⟨(ret_v (by have e1 : s = false := hqs.symm.trans h2; subst e1; rw [hV, if_pos h1]; unfold textL; rw [if_pos h3]; simp)), hW10.1⟩
    | true =>
      refine wp_cond_true rfl ?_
      refine wp_region_L (W0 := w) ((g1, .cells (frcC s n d) 34 (0, 0)) :: T2) (hW5) ?_
      refine Tw.lm (v := strV (Lib.decDigits n)) rfl rfl ?_
      refine Tw.lp (v := strV ([45] ++ (Lib.decDigits n))) rfl rfl (run_bin rfl (vx := strV [45]) (vy := strV (Lib.decDigits n)) (by kernel_rfl) (by kernel_rfl) fun w => bs_add (c := ([45] ++ (Lib.decDigits n))) rfl (by first | omega | (simp; omega)) w) ?_
      refine Tw.lm (v := strV ([45] ++ (Lib.decDigits n))) rfl rfl ?_
      refine wpL_done (fun W11 hW11 => ?_)
      refine (show Code.wp _ _ _ _ _ from ?_)
      refine wp_seq ?_
      refine wp_seq ?_
      refine wp_region_L (W0 := w) ((g1, .cells (frcC s n d) 34 (0, 0)) :: T2) (hW11) ?_
      refine Tw.lm (v := .pointer (some ⟨g1, 9, none⟩)) rfl rfl ?_
      refine Tw.lv (v := .agg (fa 8 (dg d))) rfl rfl (yb_fden (s := s) (n := n) (d := d) rfl (by kernel_rfl) (.head _) Tryz.underlying23 rfl (by kernel_rfl)) ?_
      refine wpL_c (f := 43) (args := #[.agg (fa 8 (dg d))]) (AnsG w ((g1, .cells (frcC s n d) 34 (0, 0)) :: T2) (cd d)) rfl (by kernel_rfl) (fun _ => (by kernel_rfl)) (fun W hW => (rdigits_any d hd W).mono fun e w2 h => Ans.g h hW) (fun _ => by simp only [List.setIfInBounds_toArray, List.set_cons_succ, List.set_cons_zero] <;> rfl) ?_
      rintro v6 _ ⟨q6, d6, T6, rfl, C6, H6, F6, J6, rfl⟩
      obtain ⟨dj7_0, dj7_1⟩ : Dk g1 T6 ∧ Dj T2 T6 := by simpa only [dj_app_l, dj_app_r, dj_cons_l, dj_cons_r, dj_nil_l, dj_nil_r, dk_app, dk_cons, dk_nil, and_true, true_and, and_assoc] using (show Dj ((g1, .cells (frcC s n d) 34 (0, 0)) :: T2) T6 from J6)
      refine Tw.lm (v := .slice q6 ((cd d).length) d6) rfl rfl ?_
      refine wpL_done (fun W12 hW12 => ?_)
      refine (show Code.wp _ _ _ _ _ from ?_)
      refine wp_seq ?_
      refine wp_region_L (W0 := w) ((g1, .cells (frcC s n d) 34 (0, 0)) :: (T2 ++ T6)) (hW12) ?_
      refine Tw.lm (v := .slice q6 ((cd d).length) d6) rfl rfl ?_
      refine Tw.lv (v := .bool (decide (d = 1))) rfl rfl (yb_call (f := 50) (args := #[.slice q6 ((cd d).length) d6]) (fun _ => by kernel_rfl) fun W hW => rone_any d q6 d6 W ((H6.mono (fun q hq => by first | exact hq | (simp only [List.mem_cons, List.mem_append, List.nil_append, List.not_mem_nil, or_assoc, or_false, false_or] at hq ⊢ <;> grind))) W hW)) ?_
      refine Tw.lp (v := .bool (!(decide (d = 1)))) rfl rfl (run_un rfl (by kernel_rfl) fun w => un_not w) ?_
      refine wpL_done (fun W13 hW13 => ?_)
      refine (show Code.wp _ _ _ _ _ from ?_)
      cases hd4 : (decide (d = 1)) with
      | false =>
        have h4 : ¬ (d = 1) := of_decide_eq_false hd4
        clear hd4
        refine wp_cond_true rfl ?_
        refine wp_region_L (W0 := w) ((g1, .cells (frcC s n d) 34 (0, 0)) :: (T2 ++ T6)) (hW13) ?_
        refine Tw.lm (v := strV ([45] ++ (Lib.decDigits n))) rfl rfl ?_
        refine Tw.lp (v := strV (([45] ++ (Lib.decDigits n)) ++ [47])) rfl rfl (run_bin rfl (vx := strV ([45] ++ (Lib.decDigits n))) (vy := strV [47]) (by kernel_rfl) (by kernel_rfl) fun w => bs_add (c := (([45] ++ (Lib.decDigits n)) ++ [47])) rfl (by first | omega | (simp; omega)) w) ?_
        refine Tw.lm (v := .slice q6 ((cd d).length) d6) rfl rfl ?_
        refine Tw.lv (v := strV (Lib.decDigits d)) rfl rfl (yb_call (f := 63) (args := #[.slice q6 ((cd d).length) d6]) (fun _ => by kernel_rfl) fun W hW => rdecimal_any d q6 d6 hd C6 W ((H6.mono (fun q hq => by first | exact hq | (simp only [List.mem_cons, List.mem_append, List.nil_append, List.not_mem_nil, or_assoc, or_false, false_or] at hq ⊢ <;> grind))) W hW)) ?_
        refine Tw.lp (v := strV ((([45] ++ (Lib.decDigits n)) ++ [47]) ++ (Lib.decDigits d))) rfl rfl (run_bin rfl (vx := strV (([45] ++ (Lib.decDigits n)) ++ [47])) (vy := strV (Lib.decDigits d)) (by kernel_rfl) (by kernel_rfl) fun w => bs_add (c := ((([45] ++ (Lib.decDigits n)) ++ [47]) ++ (Lib.decDigits d))) rfl (by first | omega | (simp; omega)) w) ?_
        refine Tw.lm (v := strV ((([45] ++ (Lib.decDigits n)) ++ [47]) ++ (Lib.decDigits d))) rfl rfl ?_
        refine wpL_done (fun W14 hW14 => ?_)
        refine (show Code.wp _ _ _ _ _ from ?_)
        refine wp_seq ?_
        refine wp_region_L (W0 := w) ((g1, .cells (frcC s n d) 34 (0, 0)) :: (T2 ++ T6)) (hW14) ?_
        refine Tw.lm (v := strV ((([45] ++ (Lib.decDigits n)) ++ [47]) ++ (Lib.decDigits d))) rfl rfl ?_
        refine Tw.lm (v := strV ((([45] ++ (Lib.decDigits n)) ++ [47]) ++ (Lib.decDigits d))) rfl rfl ?_
        refine Tw.lm (v := .int .i64 0) rfl rfl ?_
        refine wpL_done (fun W15 hW15 => ?_)
        refine (show Code.wp _ _ _ _ _ from ?_)
        refine wp_ret ?_
        try simp only [inBlock_ret, then_ret]
        refine bodyPost_ret (v := .tuple #[strV ((([45] ++ (Lib.decDigits n)) ++ [47]) ++ (Lib.decDigits d)), .int .i64 0]) ?_ rfl ?_
        · kernel_rfl
        · exact ⟨(ret_v (by have e1 : s = true := hqs.symm.trans h2; subst e1; rw [hV, if_pos h1]; unfold textL; rw [if_neg h4]; simp)), hW15.1⟩
      | true =>
        have h4 : d = 1 := of_decide_eq_true hd4
        clear hd4
        refine wp_cond_false rfl ?_
        refine wp_skip ?_
        refine (show Code.wp _ _ _ _ _ from ?_)
        refine wp_seq ?_
        refine wp_region_L (W0 := w) ((g1, .cells (frcC s n d) 34 (0, 0)) :: (T2 ++ T6)) (hW13) ?_
        refine Tw.lm (v := strV ([45] ++ (Lib.decDigits n))) rfl rfl ?_
        refine Tw.lm (v := strV ([45] ++ (Lib.decDigits n))) rfl rfl ?_
        refine Tw.lm (v := .int .i64 0) rfl rfl ?_
        refine wpL_done (fun W16 hW16 => ?_)
        refine (show Code.wp _ _ _ _ _ from ?_)
        refine wp_ret ?_
        try simp only [inBlock_ret, then_ret]
        refine bodyPost_ret (v := .tuple #[strV ([45] ++ (Lib.decDigits n)), .int .i64 0]) ?_ rfl ?_
        · kernel_rfl
        · exact ⟨(ret_v (by have e1 : s = true := hqs.symm.trans h2; subst e1; rw [hV, if_pos h1]; unfold textL; rw [if_pos h4]; simp)), hW16.1⟩
end Go.Proofs.YtalmflgkbmnghaaGreatDoor
