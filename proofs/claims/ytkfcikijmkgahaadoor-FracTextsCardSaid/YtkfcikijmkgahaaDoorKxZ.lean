import Derived.Test.YtkfcikijmkgahaaDoorG22
import Derived.Test.YtkfcikijmkgahaaDoorG21
import Derived.Test.YtkfcikijmkgahaaDoorG24
import Derived.Test.YtkfcikijmkgahaaDoorKx01
import Derived.Test.YtkfcikijmkgahaaDoorKx00
import Derived.Test.YtkfcikijmkgahaaDoorG26
/- FracTexts: the law holds for every input; no condition but the row's own. -/
set_option linter.unusedVariables false
set_option linter.unusedSimpArgs false
set_option linter.unusedSectionVars false
/- The texts of fractions, and what is read of them, of their neighbours and of what is no text. -/
namespace Go.Proofs.YtkfcikijmkgahaaDoor
open Go.RowKit Tw
variable [ShLZ]
variable [ShSt]
theorem idx_none (c : UInt8) : ∀ {l : List UInt8}, (∀ b ∈ l, b ≠ c) → Lib.index l [c] = -1
  | [], _ => rfl
  | b :: l, h => by
    have hb : b ≠ c := h b (List.mem_cons_self ..)
    unfold Lib.index
    rw [if_neg (by simp only [List.isPrefixOf, Bool.and_true, beq_iff_eq]; exact fun e => hb e.symm), idx_none c (fun x hx => h x (List.mem_cons_of_mem _ hx))]
    rfl
theorem idx_at (c : UInt8) (v : List UInt8) : ∀ {u : List UInt8}, (∀ b ∈ u, b ≠ c) → Lib.index (u ++ c :: v) [c] = (u.length : Int)
  | [], _ => by
    show Lib.index (c :: v) [c] = 0
    unfold Lib.index
    rw [if_pos (by simp [List.isPrefixOf])]
  | b :: u, h => by
    have hb : b ≠ c := h b (List.mem_cons_self ..)
    show Lib.index (b :: (u ++ c :: v)) [c] = _
    unfold Lib.index
    rw [if_neg (by simp only [List.isPrefixOf, Bool.and_true, beq_iff_eq]; exact fun e => hb e.symm), idx_at c v (fun x hx => h x (List.mem_cons_of_mem _ hx))]
    rw [if_neg (by simp only [beq_iff_eq]; omega)]
    simp
theorem cut_no {l : List UInt8} (h : ∀ b ∈ l, b ≠ 47) : Lib.cut l [47] = (l, [], false) := by
  unfold Lib.cut
  rw [idx_none 47 h, if_neg (by omega)]
theorem cut_at {u : List UInt8} (v : List UInt8) (h : ∀ b ∈ u, b ≠ 47) : Lib.cut (u ++ 47 :: v) [47] = (u, v, true) := by
  unfold Lib.cut
  rw [idx_at 47 v h, if_pos (by omega), Int.toNat_natCast]
  simp
theorem byte_none (c : UInt8) : ∀ {l : List UInt8}, (∀ b ∈ l, b ≠ c) → Lib.indexByte l c = -1
  | [], _ => rfl
  | b :: l, h => by
    have hb : b ≠ c := h b (List.mem_cons_self ..)
    unfold Lib.indexByte
    rw [if_neg (by simpa using hb), byte_none c (fun x hx => h x (List.mem_cons_of_mem _ hx))]
    rfl
theorem byte_at (c : UInt8) (v : List UInt8) : ∀ {u : List UInt8}, (∀ b ∈ u, b ≠ c) → Lib.indexByte (u ++ c :: v) c = (u.length : Int)
  | [], _ => by
    show Lib.indexByte (c :: v) c = 0
    unfold Lib.indexByte
    rw [if_pos (by simp)]
  | b :: u, h => by
    have hb : b ≠ c := h b (List.mem_cons_self ..)
    show Lib.indexByte (b :: (u ++ c :: v)) c = _
    unfold Lib.indexByte
    rw [if_neg (by simpa using hb), byte_at c v (fun x hx => h x (List.mem_cons_of_mem _ hx)), if_neg (by simp only [beq_iff_eq]; omega)]
    simp
theorem dig_ne {x : Nat} {c : UInt8} (hc : c.toNat < 48) : ∀ b ∈ Lib.decDigits x, b ≠ c := fun b hb e => by
  have := dec_dig x b hb
  rw [e] at this
  omega
def preL (s : Bool) : List UInt8 := if s = true then [45] else []
def tailL (d : Nat) : List UInt8 := if d = 1 then [] else 47 :: Lib.decDigits d
theorem textL_eq (s : Bool) (n d : Nat) : textL s n d = preL s ++ Lib.decDigits n ++ tailL d := rfl
theorem pre_dec {n : Nat} : ∃ b l, Lib.decDigits n = b :: l ∧ b ≠ 45 := by
  cases h : Lib.decDigits n with
  | nil => have := dec_pos n; rw [h] at this; simp at this
  | cons b l => exact ⟨b, l, rfl, dig_ne (x := n) (c := 45) (by decide) b (by rw [h]; exact List.mem_cons_self ..)⟩
theorem neg_pre (s : Bool) (n : Nat) (v : List UInt8) : rNeg (preL s ++ Lib.decDigits n ++ v) = s ∧ Lib.trimPrefix (preL s ++ Lib.decDigits n ++ v) [45] = Lib.decDigits n ++ v := by
  have hp : Lib.hasPrefix (preL s ++ Lib.decDigits n ++ v) [45] = s := by
    cases s with
    | true => rfl
    | false =>
      obtain ⟨b, l, e, hb⟩ := pre_dec (n := n)
      rw [e]
      unfold Lib.hasPrefix preL
      simp [List.isPrefixOf]
      exact fun h => hb h.symm
  refine ⟨hp, ?_⟩
  unfold Lib.trimPrefix
  rw [hp]
  cases s with
  | true => rfl
  | false => rfl
theorem dig_all {l : List UInt8} {b : UInt8} (h : b ∈ l) (hb : isDig b = false) : digL l = false := by
  unfold digL
  have : l.all isDig = false := by
    rw [List.all_eq_false]
    exact ⟨b, h, by simp [hb]⟩
  rw [this, Bool.false_and]
theorem dig_zero {l : List UInt8} (h : l ≠ []) : digL (48 :: l) = false := by
  unfold digL
  have h1 : (48 :: l == [48]) = false := by
    cases l with
    | nil => exact absurd rfl h
    | cons b l => simp
  rw [h1]
  simp
theorem dig_dec (n : Nat) : digL (Lib.decDigits n) = true := by
  unfold digL
  have h1 : (Lib.decDigits n).all isDig = true := by
    rw [List.all_eq_true]
    intro b hb
    have := dec_dig n b hb
    unfold isDig
    simp only [Bool.and_eq_true, decide_eq_true_eq]
    exact this
  rw [h1, Bool.true_and]
  rcases Nat.eq_zero_or_pos n with h | h
  · subst h; rw [dec_small (by omega)]; rfl
  · have h2 := dec_head h
    have h3 := dec_pos n
    cases e : Lib.decDigits n with
    | nil => rw [e] at h3; simp at h3
    | cons b l => rw [e] at h2; simp only [List.headD_cons] at h2 ⊢; simp [h2]
theorem pok_dec {n : Nat} (h : n < R 8) : pOk (Lib.decDigits n) = true ∧ pVal (Lib.decDigits n) = n := by
  have h1 : decV (Lib.decDigits n) = n := dec_value n
  have h2 : pOk (Lib.decDigits n) = true := by
    unfold pOk
    rw [h1]
    exact decide_eq_true ⟨dec_len78 h, h⟩
  exact ⟨h2, by unfold pVal; rw [if_pos h2, h1]⟩
theorem ne_zero_text {d : Nat} (h : d ≠ 0) : (Lib.decDigits d == [48]) = false := by
  have h2 := dec_head (x := d) (by omega)
  cases hb : (Lib.decDigits d == [48]) with
  | false => rfl
  | true =>
    rw [beq_iff_eq] at hb
    rw [hb] at h2
    exact absurd rfl h2
theorem dec_one : Lib.decDigits 1 = [49] := dec_small (by omega)
/-- what stands before the stroke and behind it -/
theorem cut_text (s : Bool) (n d : Nat) : rCut (textL s n d) = (Lib.decDigits n, (if d = 1 then [] else Lib.decDigits d), !decide (d = 1)) ∧ rBelow (textL s n d) = Lib.decDigits d ∧ rNeg (textL s n d) = s := by
  have h1 := neg_pre s n (tailL d)
  rw [← textL_eq] at h1
  have h2 : rCut (textL s n d) = (Lib.decDigits n, (if d = 1 then [] else Lib.decDigits d), !decide (d = 1)) := by
    unfold rCut
    rw [h1.2]
    unfold tailL
    by_cases hd : d = 1
    · rw [if_pos hd, if_pos hd, List.append_nil, cut_no (dig_ne (by decide)), hd]; rfl
    · rw [if_neg hd, if_neg hd, cut_at _ (dig_ne (by decide))]; simp [hd]
  refine ⟨h2, ?_, h1.1⟩
  unfold rBelow
  rw [h2]
  by_cases hd : d = 1
  · subst hd; exact dec_one.symm
  · simp [hd]
theorem read_text {s : Bool} {n d : Nat} (h : rightB s n d = true) (hn : n < R 8) (hd : d < R 8) : readV (textL s n d) = .tuple #[frc s n d, .int .i64 0] := by
  obtain ⟨h1, h2, h3⟩ := cut_text s n d
  have hr : rErr s n d = 0 := by unfold rErr; rw [if_pos h]
  have ht : rText s n d = textL s n d := by unfold rText; rw [if_pos h]
  rw [readV_good (neg := s) (x := n) (y := d) (by rw [h1, h2]; simp only [dig_dec, ne_zero_text (Nat.ne_of_gt (right_den h))]; rfl) (by rw [h1, h2]; simp only [(pok_dec hn).1, (pok_dec hd).1]; rfl)
    ⟨h3, by rw [h1]; exact (pok_dec hn).2, by rw [h2]; exact (pok_dec hd).2⟩, if_pos ⟨hr, by rw [ht]; exact beq_self_eq_true _⟩]
theorem text_inj {s s' : Bool} {n n' d d' : Nat} (h : textL s n d = textL s' n' d') : s = s' ∧ n = n' ∧ d = d' := by
  have h1 := cut_text s n d
  have h2 := cut_text s' n' d'
  rw [h] at h1
  refine ⟨h1.2.2.symm.trans h2.2.2, dec_inj ?_, dec_inj (h1.2.1.symm.trans h2.2.1)⟩
  have := h1.1.symm.trans h2.1
  exact congrArg Prod.fst this
/-- a leading zero -/
theorem read_zero (s : Bool) (n d : Nat) : readV (48 :: textL s n d) = .tuple #[frc false 0 0, .int .i64 10] := by
  have hp : Lib.hasPrefix (48 :: textL s n d) [45] = false := rfl
  have hu : ∀ b ∈ 48 :: (preL s ++ Lib.decDigits n), b ≠ 47 := by
    intro b hb
    rcases List.mem_cons.1 hb with rfl | hb
    · decide
    rcases List.mem_append.1 hb with hb | hb
    · unfold preL at hb
      split at hb
      · simp only [List.mem_cons, List.not_mem_nil, or_false] at hb; subst hb; decide
      · cases hb
    · exact dig_ne (by decide) b hb
  have hc : (rCut (48 :: textL s n d)).1 = 48 :: (preL s ++ Lib.decDigits n) := by
    unfold rCut Lib.trimPrefix
    rw [hp, if_neg (by decide), textL_eq]
    unfold tailL
    by_cases hd : d = 1
    · rw [if_pos hd, List.append_nil, cut_no hu]
    · rw [if_neg hd, ← List.cons_append, cut_at _ hu]
  refine readV_dig ?_
  rw [hc, dig_zero (by
    have := dec_pos n
    intro h0
    have h1 := (List.append_eq_nil_iff.1 h0).2
    rw [h1] at this
    simp at this)]
  rfl
/-- something behind -/
theorem read_behind (s : Bool) (n d : Nat) (v : List UInt8) (hv : ∃ b ∈ v, isDig b = false) (h47 : d = 1 → ∀ b ∈ v, b ≠ 47) : readV (textL s n d ++ v) = .tuple #[frc false 0 0, .int .i64 10] := by
  obtain ⟨b, hb, hbd⟩ := hv
  have h1 := neg_pre s n (tailL d ++ v)
  rw [← List.append_assoc, ← textL_eq] at h1
  refine readV_dig ?_
  by_cases hd : d = 1
  · have hc : (rCut (textL s n d ++ v)).1 = Lib.decDigits n ++ v := by
      unfold rCut
      rw [h1.2]
      unfold tailL
      rw [if_pos hd, List.nil_append, cut_no]
      intro x hx
      rcases List.mem_append.1 hx with hx | hx
      · exact dig_ne (by decide) x hx
      · exact h47 hd x hx
    rw [hc, dig_all (List.mem_append_right _ hb) hbd]
    rfl
  · have hc : rCut (textL s n d ++ v) = (Lib.decDigits n, Lib.decDigits d ++ v, true) := by
      unfold rCut
      rw [h1.2]
      unfold tailL
      rw [if_neg hd, List.cons_append, cut_at _ (dig_ne (by decide))]
    have hw : rBelow (textL s n d ++ v) = Lib.decDigits d ++ v := by unfold rBelow; rw [hc]; rfl
    rw [hw, dig_all (List.mem_append_right _ hb) hbd]
    simp
/-- a denominator of 1 that is written -/
theorem read_one {s : Bool} {n : Nat} (h : rightB s n 1 = true) (hn : n < R 8) : readV (textL s n 1 ++ [47, 49]) = .tuple #[frc false 0 0, .int .i64 11] := by
  have h1 := neg_pre s n (tailL 1 ++ [47, 49])
  rw [← List.append_assoc, ← textL_eq] at h1
  have hc : rCut (textL s n 1 ++ [47, 49]) = (Lib.decDigits n, [49], true) := by
    unfold rCut
    rw [h1.2]
    exact cut_at [49] (dig_ne (by decide))
  have hw : rBelow (textL s n 1 ++ [47, 49]) = Lib.decDigits 1 := by unfold rBelow; rw [hc, dec_one]; rfl
  have hd : (1 : Nat) < R 8 := lt8 (by omega)
  have ht : rText s n 1 = textL s n 1 := by unfold rText; rw [if_pos h]
  rw [readV_good (neg := s) (x := n) (y := 1) (by rw [hc, hw]; simp only [dig_dec, ne_zero_text (d := 1) (by omega)]; rfl) (by rw [hc, hw]; simp only [(pok_dec hn).1, (pok_dec hd).1]; rfl)
    ⟨h1.1, by rw [hc]; exact (pok_dec hn).2, by rw [hw]; exact (pok_dec hd).2⟩, if_neg]
  intro hh
  have h2 := hh.2
  rw [ht, beq_iff_eq] at h2
  have := congrArg List.length h2
  simp at this
theorem has_stroke (s : Bool) (n d : Nat) : decide (0 ≤ Lib.indexByte (textL s n d) 47) = !decide (d = 1) := by
  have hu : ∀ b ∈ preL s ++ Lib.decDigits n, b ≠ 47 := by
    intro b hb
    rcases List.mem_append.1 hb with hb | hb
    · unfold preL at hb
      split at hb
      · simp only [List.mem_cons, List.not_mem_nil, or_false] at hb; subst hb; decide
      · cases hb
    · exact dig_ne (by decide) b hb
  rw [textL_eq]
  unfold tailL
  by_cases hd : d = 1
  · rw [if_pos hd, List.append_nil, byte_none 47 hu]; simp [hd]
  · rw [if_neg hd, byte_at 47 _ hu]; simp [hd]; omega
theorem text_len {s : Bool} {n d : Nat} (hn : n < R 8) (hd : d < R 8) : (textL s n d).length ≤ 158 := by
  have h1 := dec_len78 hn
  have h2 := dec_len78 hd
  rw [textL_eq]
  unfold preL tailL
  simp only [List.length_append]
  split <;> split <;> simp <;> omega
end Go.Proofs.YtkfcikijmkgahaaDoor
namespace Go.Proofs.YtkfcikijmkgahaaDoor
open Go.RowKit Tw
variable [ShLZ]
variable [ShSt]
theorem text_rat (X : Rat) (hX : fits X) (W : World) (hW : Env W) : Calls Tryd.prog 20 #[ratV X] W fun e w' => e = .returned (.tuple #[.string ⟨(textL (decide (X.num < 0)) X.num.natAbs X.den).toArray⟩, .int .i64 0]) ∧ Below W.heap.size W w' := by
  have := text_any (decide (X.num < 0)) X.num.natAbs X.den hX.1 hX.2 W hW
  rw [if_pos (rat_right X)] at this
  exact this
theorem read_is {l : List UInt8} {v : Value} (h : readV l = v) (hl : l.length ≤ 200) (W : World) (hW : Env W) : Calls Tryd.prog 21 #[.string ⟨l.toArray⟩] W fun e w' => e = .returned v ∧ Below W.heap.size W w' := by
  subst h
  exact read_any l (by omega) W hW
set_option maxHeartbeats 1000000 in
theorem FracTexts_any (a b : Int) (d e : Nat) (a1 : -9223372036854775808 ≤ a) (a2 : a ≤ 9223372036854775807) (b1 : -9223372036854775808 ≤ b) (b2 : b ≤ 9223372036854775807) (hd : d ≤ 4294967295) (he : e ≤ 4294967295)
    (hC : ∀ (l : List UInt8) W, Calls Tryd.prog 22 #[.string ⟨l.toArray⟩, .string ⟨#[47]⟩] W fun e w' => e = .returned (.bool (decide (0 ≤ Lib.indexByte l 47))) ∧ Below W.heap.size W w')
    (hA : ∀ W, Env W → Calls Tryd.prog 10 #[] W fun e w' => e = .returned (.bool true) ∧ Below W.heap.size W w') (w : World) (hE : Env w) :
    Calls Tryd.prog 6 #[.int .i64 a, .int .i64 b, .int .u32 (d : Int), .int .u32 (e : Int)] w fun e w' => e = .returned (.bool true) ∧ Below w.heap.size w w' := by
  have bx : bd (fr a (d + 1)) 9223372036854775808 4294967296 := fr_bd _ _ (by omega) (by omega) (by omega)
  have bY : bd (fr b (e + 1)) 9223372036854775808 4294967296 := fr_bd _ _ (by omega) (by omega) (by omega)
  have mx := rMade a d a1 a2 hd
  have my := rMade b e b1 b2 he
  generalize fr a (d + 1) = X at *
  generalize fr b (e + 1) = Y at *
  have fx : fits X := bd_fits bx (by decide +kernel) (by decide +kernel)
  have fy : fits Y := bd_fits bY (by decide +kernel) (by decide +kernel)
  have hl := text_len (s := decide (X.num < 0)) fx.1 fx.2
  have hR1 : readV (textL (decide (X.num < 0)) X.num.natAbs X.den) = .tuple #[ratV X, .int .i64 0] := read_text (rat_right X) fx.1 fx.2
  have hR2 : readV ([48] ++ textL (decide (X.num < 0)) X.num.natAbs X.den) = .tuple #[frc false 0 0, .int .i64 10] := read_zero _ _ _
  have hR3 : readV (textL (decide (X.num < 0)) X.num.natAbs X.den ++ [32]) = .tuple #[frc false 0 0, .int .i64 10] := read_behind _ _ _ [32] ⟨32, by simp, by decide⟩ (fun _ b hb => by simp only [List.mem_cons, List.not_mem_nil, or_false] at hb; subst hb; decide)
  have hCx := hC (textL (decide (X.num < 0)) X.num.natAbs X.den)
  rw [has_stroke] at hCx
  have hT := fun W (hW : Env W) => text_rat X fx W hW
  have hR4a : X.den = 1 → readV (textL (decide (X.num < 0)) X.num.natAbs X.den ++ [47, 49]) = .tuple #[frc false 0 0, .int .i64 11] := fun h => by
    have hr := rat_right X
    rw [h] at hr ⊢
    exact read_one hr fx.1
  have hR4b : X.den ≠ 1 → readV (textL (decide (X.num < 0)) X.num.natAbs X.den ++ [47, 49]) = .tuple #[frc false 0 0, .int .i64 10] := fun h => read_behind _ _ _ [47, 49] ⟨47, by simp, by decide⟩ (fun h1 => absurd h1 h)
  by_cases hxy : X = Y
  · subst hxy
    by_cases hd1 : X.den = 1
    · rw [show (!decide (X.den = 1)) = false from by simp [hd1]] at hCx
      exact FracTexts_w10 w a b d e (decide (X.num < 0)) X.num.natAbs X.den fx.1 fx.2 (textL (decide (X.num < 0)) X.num.natAbs X.den) hl _ _ _ rfl rfl rfl 
        (fun W hW => hA W (hE.keep hW))
        mx
        my
        (fun W hW => hT W (hE.keep hW))
        (fun W hW => read_is hR1 (by omega) W (hE.keep hW))
        (fun W hW => read_is hR2 (by simp; omega) W (hE.keep hW))
        (fun W hW => read_is hR3 (by simp; omega) W (hE.keep hW))
        (fun W hW => read_is (hR4a hd1) (by simp; omega) W (hE.keep hW))
        hCx
    · rw [show (!decide (X.den = 1)) = true from by simp [hd1]] at hCx
      exact FracTexts_w11 w a b d e (decide (X.num < 0)) X.num.natAbs X.den fx.1 fx.2 (textL (decide (X.num < 0)) X.num.natAbs X.den) hl _ _ _ rfl rfl rfl 
        (fun W hW => hA W (hE.keep hW))
        mx
        my
        (fun W hW => hT W (hE.keep hW))
        (fun W hW => read_is hR1 (by omega) W (hE.keep hW))
        (fun W hW => read_is hR2 (by simp; omega) W (hE.keep hW))
        (fun W hW => read_is hR3 (by simp; omega) W (hE.keep hW))
        (fun W hW => read_is (hR4b hd1) (by simp; omega) W (hE.keep hW))
        hCx
  · have hne : decide (decide (X.num < 0) = decide (Y.num < 0) ∧ X.num.natAbs = Y.num.natAbs ∧ X.den = Y.den) = false := by
      simp only [same_rat, hxy, decide_false]
    have hst : (textL (decide (X.num < 0)) X.num.natAbs X.den == textL (decide (Y.num < 0)) Y.num.natAbs Y.den) = false := by
      rw [beq_eq_false_iff_ne]
      intro h
      exact hxy ((same_rat X Y).1 (text_inj h))
    by_cases hd1 : X.den = 1
    · rw [show (!decide (X.den = 1)) = false from by simp [hd1]] at hCx
      exact FracTexts_w00 w a b d e (decide (X.num < 0)) X.num.natAbs X.den fx.1 fx.2 (decide (Y.num < 0)) Y.num.natAbs Y.den fy.1 fy.2 (textL (decide (X.num < 0)) X.num.natAbs X.den) hl _ _ _ rfl rfl rfl (textL (decide (Y.num < 0)) Y.num.natAbs Y.den) hst hne
        (fun W hW => hA W (hE.keep hW))
        mx
        my
        (fun W hW => hT W (hE.keep hW))
        (fun W hW => text_rat Y fy W (hE.keep hW))
        (fun W hW => read_is hR1 (by omega) W (hE.keep hW))
        (fun W hW => read_is hR2 (by simp; omega) W (hE.keep hW))
        (fun W hW => read_is hR3 (by simp; omega) W (hE.keep hW))
        (fun W hW => read_is (hR4a hd1) (by simp; omega) W (hE.keep hW))
        hCx
    · rw [show (!decide (X.den = 1)) = true from by simp [hd1]] at hCx
      exact FracTexts_w01 w a b d e (decide (X.num < 0)) X.num.natAbs X.den fx.1 fx.2 (decide (Y.num < 0)) Y.num.natAbs Y.den fy.1 fy.2 (textL (decide (X.num < 0)) X.num.natAbs X.den) hl _ _ _ rfl rfl rfl (textL (decide (Y.num < 0)) Y.num.natAbs Y.den) hst hne
        (fun W hW => hA W (hE.keep hW))
        mx
        my
        (fun W hW => hT W (hE.keep hW))
        (fun W hW => text_rat Y fy W (hE.keep hW))
        (fun W hW => read_is hR1 (by omega) W (hE.keep hW))
        (fun W hW => read_is hR2 (by simp; omega) W (hE.keep hW))
        (fun W hW => read_is hR3 (by simp; omega) W (hE.keep hW))
        (fun W hW => read_is (hR4b hd1) (by simp; omega) W (hE.keep hW))
        hCx
end Go.Proofs.YtkfcikijmkgahaaDoor
/- FracTexts holds for every input: the program's own answer is true, wherever the tables of the library are as the program's text lays them. -/
namespace Go.Proofs.YtkfcikijmkgahaaDoor
open Go.ChangeShapes Go.WideShapes Go.ChangeAt Go.RowKit Tw
theorem fracTexts_walk (a0 : Int) (a1 : Int) (a2 : Int) (a3 : Int) (w0 : (Lit.int .i64 a0).wf = true) (w1 : (Lit.int .i64 a1).wf = true) (w2 : (Lit.int .u32 a2).wf = true) (w3 : (Lit.int .u32 a3).wf = true) (w : World) (hE : Env w) :
    Calls Tryd.prog 6 #[.int .i64 a0, .int .i64 a1, .int .u32 a2, .int .u32 a3] w fun e w' => e = .returned (.bool true) ∧ Below w.heap.size w w' := by
  have r0 : -9223372036854775808 ≤ a0 ∧ a0 ≤ 9223372036854775807 := of_wf w0
  have r1 : -9223372036854775808 ≤ a1 ∧ a1 ≤ 9223372036854775807 := of_wf w1
  have r2 : 0 ≤ a2 ∧ a2 ≤ 4294967295 := of_wf w2
  obtain ⟨n2, rfl⟩ : ∃ n : Nat, a2 = (n : Int) := ⟨a2.toNat, by omega⟩
  have r3 : 0 ≤ a3 ∧ a3 ≤ 4294967295 := of_wf w3
  obtain ⟨n3, rfl⟩ : ∃ n : Nat, a3 = (n : Int) := ⟨a3.toNat, by omega⟩
  exact FracTexts_any a0 a1 n2 n3 r0.1 r0.2 r1.1 r1.2 (by omega) (by omega) contains_any (fun W hW => awake_any rep_any W hW) w hE
set_option maxRecDepth 100000 in
theorem fracTexts_lifted (os : Os) (started : os.Started) (H : Type) (enc : TypeId × Value → H) :
    ReturnsInHanded {} Tryd.checked os 6 .any (fun w args => (Rows.fracTextsSpec.pre enc Tryd.prog Tryd.f6 Rows.fracTextsRow.domain false w args ∧ laidMetH Tryd.prog laid3 w) ∧ sizedMet enc Tryd.prog Tryd.f6 (OpenSpec.ofChange Rows.fracTextsSpec) false w args) (Rows.fracTextsSpec.post enc Tryd.prog Tryd.f6 false true false false) := by
  refine handed_and_shaped (C := Tryd.checked) (X := fun w => laidMetH Tryd.prog laid3 w) (fun _ _ hh h => h.of_heap hh) own started (by kernel_rfl) Tryd.func6
    (ChangeSpec.witness_shaped (enc := enc) (C := Tryd.checked) (os := os) (X := fun w _ => laidMetH Tryd.prog laid3 w) false (World.doorLaid Tryd.prog 1000 os) #[.int .i64 0, .int .i64 0, .int .u32 0, .int .u32 0] 8 rfl (World.shaped_of_RefB (by kernel_rfl) (by kernel_rfl)) (by kernel_rfl) (by kernel_rfl) (by kernel_rfl) (door_met os _)) ?_
  intro W base args ds gs before hval0 hW hL hsh
  have hval : ∀ (j : Nat) t v, Tryd.f6.params[j]? = some t → args[j]? = some v → Value.okWide Tryd.prog W .any base t v := hval0
  have hW' := hW
  obtain ⟨p, q, hA0, hV, rfl, hfz, hnd⟩ := hW
  have hA : DataW.TrodAll enc Tryd.prog W 0 (fun _ => true) true Tryd.f6.params.toList args.toList ds p := hA0
  rw [Tryd.params6] at hA hval
  obtain ⟨v0, vs0, d0, ds0, p0, q0, hargs, rfl, rfl, h0, r0⟩ := trodAll_cons hA
  obtain ⟨v1, vs1, d1, ds1, p1, q1, rfl, rfl, rfl, h1, r1⟩ := trodAll_cons r0
  obtain ⟨v2, vs2, d2, ds2, p2, q2, rfl, rfl, rfl, h2, r2⟩ := trodAll_cons r1
  obtain ⟨v3, vs3, d3, ds3, p3, q3, rfl, rfl, rfl, h3, r3⟩ := trodAll_cons r2
  obtain ⟨rfl, rfl, rfl⟩ := trodAll_nil r3
  obtain rfl : args = #[v0, v1, v2, v3] := by cases args; simp_all
  obtain ⟨rfl, rfl⟩ := trodVars_none hV
  obtain ⟨a0, rfl, rfl, rfl, w0⟩ := open_int Tryd.underlying3 (hval 0 3 v0 rfl rfl) h0
  obtain ⟨a1, rfl, rfl, rfl, w1⟩ := open_int Tryd.underlying3 (hval 1 3 v1 rfl rfl) h1
  obtain ⟨a2, rfl, rfl, rfl, w2⟩ := open_int Tryd.underlying22 (hval 2 22 v2 rfl rfl) h2
  obtain ⟨a3, rfl, rfl, rfl, w3⟩ := open_int Tryd.underlying22 (hval 3 22 v3 rfl rfl) h3
  clear hA0 hval0
  simp only [List.append_nil] at hW'
  refine (fracTexts_walk a0 a1 a2 a3 w0 w1 w2 w3 W (env_of hL hsh)).mono fun e W' ⟨he, hg⟩ => ?_
  subst he
  exact ⟨_, rfl, _, _, _, [], [], [], hW', (trodAll_cons_mk (shut_bool Tryd.underlying4 _) trodAll_mk0), (trodAll_cons_mk (shut_int Tryd.underlying3 w0) (trodAll_cons_mk (shut_int Tryd.underlying3 w1) (trodAll_cons_mk (shut_int Tryd.underlying22 w2) (trodAll_cons_mk (shut_int Tryd.underlying22 w3) trodAll_mk0)))), rfl, hg.frame _, fun h => by cases h⟩
theorem fracTexts_said : Rows.FracTextsSaid :=
  OpenClaim.holds_of_wide 6 Tryd.f6 rfl rfl rfl rfl rfl rfl rfl ⟨rfl, rfl, rfl, rfl, rfl⟩ rfl rfl rfl rfl rfl (by kernel_rfl) Tryd.func6 (by kernel_rfl)
    (of_decide_eq_true (by kernel_rfl)) (by unfold Func.isWrapper; first | (rw [if_pos (by decide +kernel)]; kernel_rfl) | (rw [if_neg (by decide +kernel)]; exact ⟨rfl, rfl⟩))
    (fun os started H enc _ => fracTexts_lifted os started H enc)
theorem fracTexts_proved : Rows.FracTextsCardSaid :=
  Claim7.holds_tied_plain_at .later [] [.data, .data, .data] true Rows.fracTextsCard.stood.harness false
    fracTexts_said (fun _ h => by cases h) (by kernel_rfl) (fun _ h => by cases h) fracTexts_row_tie rfl ⟨rfl, rfl⟩ (by kernel_rfl) rfl
    (fun f fn hf hfn => by
      obtain rfl : f = 6 := Option.some.inj ((show Tryd.prog.funcNamed "twistlock/twistlocklaw01.FracTexts" = some 6 by kernel_rfl).symm.trans hf) |>.symm
      obtain rfl : fn = Tryd.f6 := (Option.some.inj (Tryd.func6.symm.trans hfn)).symm
      exact ⟨by kernel_rfl, fun j t ht => by
        rw [Tryd.params6] at ht
        have hm : t ∈ [3, 3, 22, 22] := by simpa using Array.mem_of_getElem? ht
        have hall : ([3, 3, 22, 22].all fun u => !Tryd.prog.wantsStandIn u) = true := by kernel_rfl
        exact (show Tryd.prog.wantsStandIn t = false by simpa using List.all_eq_true.1 hall t hm)⟩)
    (by kernel_rfl)
#print axioms fracTexts_proved
end Go.Proofs.YtkfcikijmkgahaaDoor
