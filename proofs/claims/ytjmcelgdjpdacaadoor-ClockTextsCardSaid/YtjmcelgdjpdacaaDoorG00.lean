import Derived.Lib.ItoaNum
import Derived.Lib.AtoiAll
import Derived.Lib.AtoiAllCases
import Derived.Lib.AtoiTie
import Derived.Lib.IndexMore
import Derived.Lib.Strings
import Derived.OrdersHeld
import Derived.Below
import Derived.Laws.Rows
import Derived.WalkKit
import Derived.Laws.CopyRow
import Derived.Laws.CopyOwn
import Derived.RegionTactic
import Derived.Test.YtjmcelgdjpdacaaDoorProg
import Derived.WalkSpells
import Derived.WalkLawsBesides
import Derived.Handy
import Derived.Lib.Hide
import Derived.Deep.QuietTactic
import Derived.BigQuiet
import Derived.Deep.OwnRows
import Derived.Laws.BitsAllLaws
import Derived.Deep.RegionLaw
import Derived.RangeFuncNested
import Derived.RangeFuncBound
import Derived.RangeFuncCalls
import Derived.RangeFuncLeaves
import Derived.Shelf.Abstract
import Derived.Shelf.RegionOpen
import Derived.OwnWalkIn
import Derived.TacticsInMore
import Derived.LoopNIn
import Derived.LoopIn
import Derived.OrdersIn
import Derived.Outline
import Derived.Deep.Cut
import Derived.Laws.AppendOwn
/- Part of the proof: Va, Ng, Nb, Nv, Nl, Ia, Ca, Ib, Ic, Cb, Cc, Cd. -/
set_option linter.unusedVariables false
set_option linter.unusedSimpArgs false
set_option linter.unusedSectionVars false
/- Decimal digits, the texts of times, and how they fall into parts. Plain. -/
namespace Tw
open Go Go.Lib
theorem dec_small {x : Nat} (h : x < 10) : decDigits x = [UInt8.ofNat (48 + x)] := by rw [decDigits, dif_pos h]
theorem dec_big {x : Nat} (h : 10 ≤ x) : decDigits x = decDigits (x / 10) ++ [UInt8.ofNat (48 + x % 10)] := by rw [decDigits, dif_neg (by omega)]
theorem dec_length : ∀ (k x : Nat), x < 10 ^ (k + 1) → (decDigits x).length ≤ k + 1
  | 0, x, h => by rw [dec_small (by omega)]; simp
  | k + 1, x, h => by
    by_cases hx : x < 10
    · rw [dec_small hx]; simp
    · rw [dec_big (by omega)]
      have := dec_length k (x / 10) (by rw [Nat.pow_succ] at h; omega)
      simp; exact this
theorem dec_pos (x : Nat) : 0 < (decDigits x).length := by
  by_cases hx : x < 10
  · rw [dec_small hx]; simp
  · rw [dec_big (by omega)]; simp
theorem digit_nat {r : Nat} (h : r < 10) : (UInt8.ofNat (48 + r)).toNat = 48 + r := by
  rw [UInt8.toNat_ofNat']; omega
theorem dec_dig (x : Nat) : ∀ b ∈ decDigits x, 48 ≤ b.toNat ∧ b.toNat ≤ 57 := by
  induction x using Nat.strongRecOn with
  | ind x ih =>
    by_cases hx : x < 10
    · rw [dec_small hx]
      intro b hb
      simp only [List.mem_cons, List.not_mem_nil, or_false] at hb
      subst hb
      rw [digit_nat hx]; omega
    · rw [dec_big (by omega)]
      intro b hb
      rcases List.mem_append.1 hb with hb | hb
      · exact ih (x / 10) (by omega) b hb
      · simp only [List.mem_cons, List.not_mem_nil, or_false] at hb
        subst hb
        rw [digit_nat (by omega)]; omega
theorem dec_head {x : Nat} (h : 0 < x) : ((decDigits x).headD 0).toNat ≠ 48 := by
  induction x using Nat.strongRecOn with
  | ind x ih =>
    by_cases hx : x < 10
    · rw [dec_small hx]
      show (UInt8.ofNat (48 + x)).toNat ≠ 48
      rw [digit_nat hx]; omega
    · rw [dec_big (by omega)]
      have h1 := ih (x / 10) (by omega) (by omega)
      have h2 := dec_pos (x / 10)
      cases hl : decDigits (x / 10) with
      | nil => rw [hl] at h2; simp at h2
      | cons b l => rw [hl] at h1; exact h1
theorem dec_value (x : Nat) : (decDigits x).foldl (fun a b => a * 10 + (b.toNat - 48)) 0 = x := by
  induction x using Nat.strongRecOn with
  | ind x ih =>
    by_cases hx : x < 10
    · rw [dec_small hx]
      simp only [List.foldl_cons, List.foldl_nil]
      rw [digit_nat hx]; omega
    · rw [dec_big (by omega), List.foldl_append, ih (x / 10) (by omega)]
      simp only [List.foldl_cons, List.foldl_nil]
      rw [digit_nat (by omega)]; omega
theorem dec_inj {x y : Nat} (h : decDigits x = decDigits y) : x = y := by rw [← dec_value x, ← dec_value y, h]
theorem dec_ne {x : Nat} {c : UInt8} (hc : c.toNat < 48 ∨ 57 < c.toNat) : ∀ b ∈ decDigits x, b ≠ c := fun b hb e => by
  have := dec_dig x b hb
  rw [e] at this
  omega
theorem decFrom_fold : ∀ (l : List UInt8) (acc : Nat), (∀ b ∈ l, 48 ≤ b.toNat ∧ b.toNat ≤ 57) → decFrom acc l = some (l.foldl (fun a b => a * 10 + (b.toNat - 48)) acc)
  | [], _, _ => rfl
  | b :: l, acc, h => by
    have hb := h b (List.mem_cons_self ..)
    rw [decFrom, digitVal, if_pos hb]
    exact decFrom_fold l _ fun x hx => h x (List.mem_cons_of_mem _ hx)
theorem decNat_dig {l : List UInt8} (hl : l ≠ []) (h : ∀ b ∈ l, 48 ≤ b.toNat ∧ b.toNat ≤ 57) : decNat l = some (l.foldl (fun a b => a * 10 + (b.toNat - 48)) 0) := by
  unfold decNat
  rw [if_neg (by simpa using hl), decFrom_fold l 0 h]
theorem atoi_dig {l : List UInt8} (hl : l ≠ []) (h : ∀ b ∈ l, 48 ≤ b.toNat ∧ b.toNat ≤ 57) (hle : l.length ≤ 18) : atoiAll l = .ok ((l.foldl (fun a b => a * 10 + (b.toNat - 48)) 0 : Nat) : Int) := by
  rw [atoiAll_short l hle]
  have hd := decNat_dig hl h
  cases l with
  | nil => exact (hl rfl).elim
  | cons b r =>
    have hb := h b (List.mem_cons_self ..)
    have h1 : ¬ (b == 45) = true := by
      rw [beq_iff_eq]; intro e; rw [e] at hb; revert hb; decide
    have h2 : ¬ (b == 43) = true := by
      rw [beq_iff_eq]; intro e; rw [e] at hb; revert hb; decide
    show NumEnd.ofOption (if (b == 45) = true then _ else if (b == 43) = true then _ else _) = _
    rw [if_neg h1, if_neg h2, hd]
    rfl
theorem atoi_dec {n : Nat} (hn : n < 10 ^ 18) : atoiAll (decDigits n) = .ok (n : Int) := by
  rw [atoi_dig (fun e => by have := dec_pos n; rw [e] at this; simp at this) (dec_dig n) (dec_length 17 n hn), dec_value]
theorem idx_none (c : UInt8) : ∀ {l : List UInt8}, (∀ b ∈ l, b ≠ c) → Lib.index l [c] = -1
  | [], _ => rfl
  | b :: l, h => by
    have hb : b ≠ c := h b (List.mem_cons_self ..)
    unfold Lib.index
    rw [if_neg (by simp only [List.isPrefixOf, Bool.and_true, beq_iff_eq]; exact fun e => hb e.symm), idx_none c (fun x hx => h x (List.mem_cons_of_mem _ hx))]
    rfl
theorem idx_at (c : UInt8) (v : List UInt8) : ∀ {u : List UInt8}, (∀ b ∈ u, b ≠ c) → Lib.index (u ++ c :: v) [c] = (u.length : Int)
  | [], _ => by
    show Lib.index (c :: v) [c] = 0
    unfold Lib.index
    rw [if_pos (by simp [List.isPrefixOf])]
  | b :: u, h => by
    have hb : b ≠ c := h b (List.mem_cons_self ..)
    show Lib.index (b :: (u ++ c :: v)) [c] = _
    unfold Lib.index
    rw [if_neg (by simp only [List.isPrefixOf, Bool.and_true, beq_iff_eq]; exact fun e => hb e.symm), idx_at c v (fun x hx => h x (List.mem_cons_of_mem _ hx))]
    rw [if_neg (by simp only [beq_iff_eq]; omega)]
    simp
theorem cut_at {c : UInt8} {u : List UInt8} (v : List UInt8) (h : ∀ b ∈ u, b ≠ c) : Lib.cut (u ++ c :: v) [c] = (u, v, true) := by
  unfold Lib.cut
  rw [idx_at c v h, if_pos (by omega), Int.toNat_natCast]
  simp
theorem cut_le (u s : List UInt8) : (Lib.cut u s).1.length ≤ u.length ∧ (Lib.cut u s).2.1.length ≤ u.length := by
  unfold Lib.cut
  split
  · exact ⟨by simp; omega, by simp⟩
  · exact ⟨Nat.le_refl _, by simp⟩
def dayL : Nat → List UInt8
  | 0 => [77, 111, 110]
  | 1 => [84, 117, 101]
  | 2 => [87, 101, 100]
  | 3 => [84, 104, 117]
  | 4 => [70, 114, 105]
  | 5 => [83, 97, 116]
  | _ => [83, 117, 110]
def dayV (l : List UInt8) : Nat := if l = dayL 0 then 0 else if l = dayL 1 then 1 else if l = dayL 2 then 2 else if l = dayL 3 then 3 else if l = dayL 4 then 4 else if l = dayL 5 then 5 else if l = dayL 6 then 6 else 0
theorem day_lt {n : Nat} (h : n < 7) (P : Nat → Prop) (h0 : P 0) (h1 : P 1) (h2 : P 2) (h3 : P 3) (h4 : P 4) (h5 : P 5) (h6 : P 6) : P n := by
  match n, h with
  | 0, _ => exact h0
  | 1, _ => exact h1
  | 2, _ => exact h2
  | 3, _ => exact h3
  | 4, _ => exact h4
  | 5, _ => exact h5
  | 6, _ => exact h6
  | n + 7, h => omega
theorem dayV_L {n : Nat} (h : n < 7) : dayV (dayL n) = n := day_lt h (fun n => dayV (dayL n) = n) rfl rfl rfl rfl rfl rfl rfl
theorem dayV_le (l : List UInt8) : dayV l ≤ 6 := by
  unfold dayV
  repeat' split
  all_goals omega
theorem day_ne {n : Nat} : ∀ b ∈ dayL n, b ≠ 32 ∧ b ≠ 58 := by
  unfold dayL
  split <;> decide
theorem day_len (n : Nat) : (dayL n).length = 3 := by
  unfold dayL
  split <;> rfl
def two (n : Nat) : List UInt8 := (decDigits (100 + n)).drop 1
theorem two_eq {n : Nat} (h : n < 100) : two n = [UInt8.ofNat (48 + n / 10), UInt8.ofNat (48 + n % 10)] := by
  unfold two
  rw [dec_big (by omega), dec_big (x := (100 + n) / 10) (by omega), dec_small (by omega), show (100 + n) / 10 % 10 = n / 10 from by omega, show (100 + n) % 10 = n % 10 from by omega]
  rfl
theorem two_len {n : Nat} (h : n < 100) : (two n).length = 2 := by rw [two_eq h]; rfl
theorem two_dig {n : Nat} (h : n < 100) : ∀ b ∈ two n, 48 ≤ b.toNat ∧ b.toNat ≤ 57 := by
  rw [two_eq h]
  intro b hb
  simp only [List.mem_cons, List.not_mem_nil, or_false] at hb
  rcases hb with rfl | rfl
  · rw [digit_nat (by omega)]; omega
  · rw [digit_nat (by omega)]; omega
theorem two_val {n : Nat} (h : n < 100) : atoiAll (two n) = .ok (n : Int) := by
  rw [atoi_dig (by rw [two_eq h]; simp) (two_dig h) (by rw [two_len h]; omega), two_eq h]
  simp only [List.foldl_cons, List.foldl_nil]
  rw [digit_nat (by omega), digit_nat (by omega)]
  congr 2
  omega
def textS (t : Nat) : List UInt8 := decDigits (t / 10080) ++ [32] ++ dayL (t % 10080 / 1440) ++ [32] ++ two (t % 1440 / 60) ++ [58] ++ two (t % 1440 % 60)
theorem text_eq (t : Nat) : textS t = decDigits (t / 10080) ++ 32 :: (dayL (t % 10080 / 1440) ++ 32 :: (two (t % 1440 / 60) ++ 58 :: two (t % 1440 % 60))) := by
  unfold textS
  simp only [List.append_assoc, List.cons_append, List.nil_append]
theorem two_ne {n : Nat} (h : n < 100) {c : UInt8} (hc : c.toNat < 48 ∨ 57 < c.toNat) : ∀ b ∈ two n, b ≠ c := fun b hb e => by
  have := two_dig h b hb
  rw [e] at this
  omega
theorem text_cut1 (t : Nat) : Lib.cut (textS t) [32] = (decDigits (t / 10080), dayL (t % 10080 / 1440) ++ 32 :: (two (t % 1440 / 60) ++ 58 :: two (t % 1440 % 60)), true) := by
  rw [text_eq]
  exact cut_at _ (dec_ne (by decide))
theorem text_cut2 (t : Nat) : Lib.cut (dayL (t % 10080 / 1440) ++ 32 :: (two (t % 1440 / 60) ++ 58 :: two (t % 1440 % 60))) [32] = (dayL (t % 10080 / 1440), two (t % 1440 / 60) ++ 58 :: two (t % 1440 % 60), true) :=
  cut_at _ (fun b hb => (day_ne b hb).1)
theorem text_cut3 (t : Nat) : Lib.cut (two (t % 1440 / 60) ++ 58 :: two (t % 1440 % 60)) [58] = (two (t % 1440 / 60), two (t % 1440 % 60), true) :=
  cut_at _ (two_ne (by omega) (by decide))
def numV (l : List UInt8) : Int := match atoiAll l with
  | .ok v => v
  | .syntax => 0
  | .range => atoiSat l
theorem numV_range (l : List UInt8) : -9223372036854775808 ≤ numV l ∧ numV l ≤ 9223372036854775807 := by
  unfold numV
  split
  · rename_i v h; exact atoiAll_bounds h
  · omega
  · exact atoiSat_bounds l
def wkL (l : List UInt8) : List UInt8 := (Lib.cut l [32]).1
def r1L (l : List UInt8) : List UInt8 := (Lib.cut l [32]).2.1
def dyL (l : List UInt8) : List UInt8 := (Lib.cut (r1L l) [32]).1
def r2L (l : List UInt8) : List UInt8 := (Lib.cut (r1L l) [32]).2.1
def hrL (l : List UInt8) : List UInt8 := (Lib.cut (r2L l) [58]).1
def mnL (l : List UInt8) : List UInt8 := (Lib.cut (r2L l) [58]).2.1
theorem text_parts (t : Nat) : wkL (textS t) = decDigits (t / 10080) ∧ dyL (textS t) = dayL (t % 10080 / 1440) ∧ hrL (textS t) = two (t % 1440 / 60) ∧ mnL (textS t) = two (t % 1440 % 60) := by
  have h1 : r1L (textS t) = dayL (t % 10080 / 1440) ++ 32 :: (two (t % 1440 / 60) ++ 58 :: two (t % 1440 % 60)) := by unfold r1L; rw [text_cut1]
  have h2 : r2L (textS t) = two (t % 1440 / 60) ++ 58 :: two (t % 1440 % 60) := by unfold r2L; rw [h1, text_cut2]
  refine ⟨?_, ?_, ?_, ?_⟩
  · unfold wkL; rw [text_cut1]
  · unfold dyL; rw [h1, text_cut2]
  · unfold hrL; rw [h2, text_cut3]
  · unfold mnL; rw [h2, text_cut3]
theorem text_nums {t : Nat} (h : t ≤ 100000000) : numV (wkL (textS t)) = ((t / 10080 : Nat) : Int) ∧ dayV (dyL (textS t)) = t % 10080 / 1440 ∧ numV (hrL (textS t)) = ((t % 1440 / 60 : Nat) : Int) ∧ numV (mnL (textS t)) = ((t % 1440 % 60 : Nat) : Int) := by
  obtain ⟨h1, h2, h3, h4⟩ := text_parts t
  rw [h1, h2, h3, h4]
  refine ⟨?_, dayV_L (by omega), ?_, ?_⟩
  · unfold numV; rw [atoi_dec (by omega)]
  · unfold numV; rw [two_val (by omega)]
  · unfold numV; rw [two_val (by omega)]
theorem text_len {t : Nat} (h : t ≤ 100000000) : 11 ≤ (textS t).length ∧ (textS t).length ≤ 14 := by
  have h1 := dec_pos (t / 10080)
  have h2 := dec_length 3 (t / 10080) (by omega)
  have h3 := day_len (t % 10080 / 1440)
  have h4 := two_len (n := t % 1440 / 60) (by omega)
  have h5 := two_len (n := t % 1440 % 60) (by omega)
  unfold textS
  simp only [List.length_append, List.length_cons, List.length_nil]
  omega
theorem text_inj {t u : Nat} (h : t ≤ 100000000) (h' : u ≤ 100000000) (he : textS t = textS u) : t = u := by
  obtain ⟨a1, a2, a3, a4⟩ := text_nums h
  obtain ⟨b1, b2, b3, b4⟩ := text_nums h'
  rw [he] at a1 a2 a3 a4
  rw [a1] at b1; rw [a2] at b2; rw [a3] at b3; rw [a4] at b4
  omega
theorem two_inj {m n : Nat} (hm : m < 100) (hn : n < 100) (h : two m = two n) : m = n := by
  have h1 := two_val hm
  rw [h, two_val hn] at h1
  injection h1 with h1
  omega
theorem no_text1 (t : Nat) (h : t ≤ 100000000) : textS t ≠ [49, 32, 77, 111, 110, 32, 48, 58, 48, 48] := fun e => by
  have := text_len h
  rw [e] at this
  simp at this
theorem no_text2 (t : Nat) : textS t ≠ [48, 49, 32, 77, 111, 110, 32, 48, 48, 58, 48, 48] := fun e => by
  have h1 := (text_parts t).1
  rw [e, show wkL [48, 49, 32, 77, 111, 110, 32, 48, 48, 58, 48, 48] = [48, 49] from by decide +kernel] at h1
  rcases Nat.eq_zero_or_pos (t / 10080) with h0 | h0
  · rw [h0, dec_small (by omega)] at h1
    simp at h1
  · have h2 := dec_head h0
    rw [← h1] at h2
    exact h2 rfl
theorem no_text3 (t : Nat) : textS t ≠ [49, 32, 77, 111, 110, 32, 50, 52, 58, 48, 48] := fun e => by
  have h1 := (text_parts t).2.2.1
  rw [e, show hrL [49, 32, 77, 111, 110, 32, 50, 52, 58, 48, 48] = two 24 from by rw [two_eq (by omega)]; decide +kernel] at h1
  have := two_inj (by omega) (by omega) h1
  omega
theorem text_ex1 : textS 10080 = [49, 32, 77, 111, 110, 32, 48, 48, 58, 48, 48] := by
  unfold textS
  rw [two_eq (n := 10080 % 1440 / 60) (by omega), dec_small (by omega)]
  decide +kernel
theorem text_ex2 : textS 9125 = [48, 32, 83, 117, 110, 32, 48, 56, 58, 48, 53] := by
  unfold textS
  rw [two_eq (n := 9125 % 1440 / 60) (by omega), two_eq (n := 9125 % 1440 % 60) (by omega), dec_small (by omega)]
  decide +kernel
end Tw
/- A statement whose order is left open, over worlds of which only some blocks are known: values (also of calls that make memory) are taken in the text's order, whatever order is drawn. Nothing of the program. -/
namespace Tw
open Go Go.RowKit

structure Base where
  w : World
  B : Nat
  le : B ≤ w.heap.size
instance : Coe World Base := ⟨fun w => ⟨w, w.heap.size, Nat.le_refl _⟩⟩
def KS (W0 : Base) (K : List (Nat × Obj)) (w : World) : Prop := Below W0.B W0.w w ∧ ∀ p ∈ K, w.heap[p.1]? = some p.2
theorem KS.size {W0 : Base} {K : List (Nat × Obj)} {w : World} (h : KS W0 K w) : W0.B ≤ w.heap.size := Nat.le_trans W0.le h.1.size

theorem KS.tail {W0 : Base} {p : Nat × Obj} {K : List (Nat × Obj)} {w : World} (h : KS W0 (p :: K) w) : KS W0 K w := ⟨h.1, fun q hq => h.2 q (List.mem_cons_of_mem _ hq)⟩
theorem KS.sub {W0 : Base} {K K' : List (Nat × Obj)} {w : World} (h : KS W0 K w) (hs : ∀ p ∈ K', p ∈ K) : KS W0 K' w := ⟨h.1, fun q hq => h.2 q (hs q hq)⟩
theorem lt_of_block {w : World} {g : Nat} {o : Obj} (h : w.heap[g]? = some o) : g < w.heap.size := (Array.getElem?_eq_some_iff.1 h).1
theorem KS.below {W0 : Base} {K : List (Nat × Obj)} {w w' : World} (h : KS W0 K w) (hb : Below w.heap.size w w') : KS W0 K w' :=
  ⟨h.1.trans (hb.mono h.size), fun p hp => (hb.block p.1 (lt_of_block (h.2 p hp))).trans (h.2 p hp)⟩
theorem KS.drew {W0 : Base} {K : List (Nat × Obj)} {w : World} (h : KS W0 K w) : KS W0 K w.drew := ⟨h.1.drew, h.2⟩
theorem KS.alloc {W0 : Base} {K : List (Nat × Obj)} {w : World} (h : KS W0 K w) (o : Obj) : KS W0 ((w.heap.size, o) :: K) (w.alloc o) :=
  ⟨h.1.alloc h.size _, fun p hp => by
    rcases List.mem_cons.1 hp with rfl | hp
    · exact heap_alloc_new w o
    · exact (Below.heap_alloc w o p.1 (lt_of_block (h.2 p hp))).trans (h.2 p hp)⟩
theorem KS.start (w : World) : KS w [] w := ⟨Below.refl _ _, fun _ h => by cases h⟩

section
variable {P : Program} {ops : Array Oper} {Q : Exit → Act → World → Prop} {md : Region.Mode} {W0 : Base}

def Oto (P : Program) (o : Oper) (ρ : Operand → Value) (w : World) (R : Value → World → Prop) : Prop :=
  match (execOp ρ o).run P w with
  | .ok (.value v) w' => R v w'
  | .ok .skip w' => R undef w'
  | .ok (.enter f args) w' => Calls P f args w' fun e w'' => ∃ v, e = .returned v ∧ R v w''
  | .ok (.row row args) w' => Rows P row args w' R
  | _ => False

theorem Oto.wp {o : Oper} {a : Act} {w : World} {R : Value → World → Prop} {K : Act → World → Prop} (h : Oto P o a.eval w R) (hk : ∀ v w', R v w' → K (a.put o.dst v) w') : o.wp P a w K Q := by
  unfold Oto at h
  unfold Oper.wp
  generalize (execOp a.eval o).run P w = r at *
  cases r with
  | ok n w' =>
    cases n <;> simp only [Oper.upon] at h ⊢
    · exact hk _ _ h
    · exact hk _ _ h
    · exact Calls.mono h fun e w'' ⟨v, he, hr⟩ => by subst he; exact hk _ _ hr
    · exact Rows.mono h fun _ _ hr => hk _ _ hr
  | halt x w' => exact h.elim

theorem Oto.of_wp {o : Oper} {a : Act} {w : World} {v : Value} {d : Nat} (hd : o.dst = some d) (hlt : d < a.tmps.size)
    (h : ∀ K : Act → World → Prop, (∀ w', Below w.heap.size w w' → K (a.put o.dst v) w') → o.wp P a w K (fun _ _ _ => False)) :
    Oto P o a.eval w (fun u w' => u = v ∧ Below w.heap.size w w') := by
  have h1 := h (fun x w' => x.defers = a.defers ∧ x.tmps[d]? = some v ∧ Below w.heap.size w w') (fun w' hb => by
    refine ⟨by simp [hd, Act.put], by simp [hd, Act.put, hlt], hb⟩)
  have put : ∀ u, (a.put o.dst u).tmps[d]? = some u := fun u => by simp [hd, Act.put, hlt]
  unfold Oper.wp at h1
  unfold Oto
  generalize (execOp a.eval o).run P w = r at *
  cases r with
  | ok n w' =>
    cases n <;> simp only [Oper.upon] at h1 ⊢
    · rename_i u
      rw [put u] at h1
      exact ⟨Option.some.inj h1.2.1, h1.2.2⟩
    · rw [put undef] at h1
      exact ⟨Option.some.inj h1.2.1, h1.2.2⟩
    · refine Calls.mono h1 fun e w'' he => ?_
      cases e with
      | returned u =>
        simp only [put u] at he
        exact ⟨u, rfl, Option.some.inj he.2.1, he.2.2⟩
      | panicked c => exact he.elim
      | outgrown => obtain ⟨_, _, hf⟩ := he; exact hf.elim
    · rename_i dd
      exfalso
      have := h1.1
      simp [hd, Act.put] at this
    · refine Rows.mono h1 fun u w'' he => ?_
      rw [put u] at he
      exact ⟨Option.some.inj he.2.1, he.2.2⟩
  | halt x w' => cases x <;> simp only [Oper.upon] at h1

def YB (P : Program) (ops : Array Oper) (W0 : Base) (K : List (Nat × Obj)) (o : Oper) (v : Value) (a : Act) : Prop :=
  (Region.wanted o (yielded ops a.tmps) = true ∧ ∀ w, KS W0 K w → Oto P o a.eval w (fun u w' => u = v ∧ Below w.heap.size w w')) ∨
  (Region.wanted o (yielded ops a.tmps) = false ∧ v = undef)
def AL (P : Program) (ops : Array Oper) (o : Oper) (obj : Obj) (a : Act) : Prop :=
  Region.wanted o (yielded ops a.tmps) = true ∧ ∀ w, (execOp a.eval o).run P w = .ok (.value (.pointer (some ⟨w.heap.size, 0, none⟩))) (w.alloc obj)
def isStore (o : Oper) : Bool := match o.op with | .store .. => true | .call c => (match c.callee with | .builtin .append => true | _ => false) | _ => false
def ST (P : Program) (ops : Array Oper) (W0 : Base) (K K' : List (Nat × Obj)) (o : Oper) (a : Act) : Prop :=
  Region.wanted o (yielded ops a.tmps) = true ∧ ∀ w, KS W0 K w → ∃ w', (execOp a.eval o).run P w = .ok .skip w' ∧ KS W0 K' w'

theorem YB.of_same {K : List (Nat × Obj)} {o : Oper} {v : Value} {a a' : Act} (hy : YB P ops W0 K o v a) (he : execOp a'.eval o = execOp a.eval o)
    (hw : Region.wanted o (yielded ops a'.tmps) = Region.wanted o (yielded ops a.tmps)) : YB P ops W0 K o v a' := by
  unfold YB Oto at *
  rw [he, hw]
  exact hy
theorem YB.more {K : List (Nat × Obj)} {p : Nat × Obj} {o : Oper} {v : Value} {a : Act} (hy : YB P ops W0 K o v a) : YB P ops W0 (p :: K) o v a :=
  hy.imp (fun h => ⟨h.1, fun w hw => h.2 w hw.tail⟩) id
theorem AL.of_same {o : Oper} {obj : Obj} {a a' : Act} (hy : AL P ops o obj a) (he : execOp a'.eval o = execOp a.eval o)
    (hw : Region.wanted o (yielded ops a'.tmps) = Region.wanted o (yielded ops a.tmps)) : AL P ops o obj a' := by
  unfold AL at *
  rw [he, hw]
  exact hy

def wpU (P : Program) (md : Region.Mode) (ops : Array Oper) (Q : Exit → Act → World → Prop) (W0 : Base) : Nat → Array Bool → Act → List (Nat × Obj) → Prop
  | 0, listed, a, K => Region.ready md ops listed = [] ∧ ∀ w, KS W0 K w → Q .normal a w
  | n + 1, listed, a, K =>
    (Region.ready md ops listed = [] → ∀ w, KS W0 K w → Q .normal a w) ∧
    ∀ i ∈ Region.ready md ops listed, ∃ o, ops[i]? = some o ∧
      ((∃ v, YB P ops W0 K o v a ∧ wpU P md ops Q W0 n (listed.setIfInBounds i true) (a.put o.dst v) K) ∨
       (∃ obj, AL P ops o obj a ∧ ∀ g, W0.B ≤ g → (∀ p ∈ K, p.1 ≠ g) → wpU P md ops Q W0 n (listed.setIfInBounds i true) (a.put o.dst (.pointer (some ⟨g, 0, none⟩))) ((g, obj) :: K)) ∨
       (isStore o = true ∧ ∃ K', ST P ops W0 K K' o a ∧ wpU P md ops Q W0 n (listed.setIfInBounds i true) (a.put o.dst undef) K'))

theorem wpU_sound : ∀ (n : Nat) (listed : Array Bool) (a : Act) (K : List (Nat × Obj)), wpU P md ops Q W0 n listed a K → ∀ w, KS W0 K w → wpAny P md ops Q n listed a w
  | 0, _, _, _, h, w, hw => ⟨h.1, h.2 w hw⟩
  | n + 1, listed, a, K, h, w, hw => by
    refine ⟨fun hr => h.1 hr w hw, fun i hi => ?_⟩
    obtain ⟨o, ho, hc⟩ := h.2 i hi
    refine wpOp_step ho fun K' hK' => ?_
    rcases hc with ⟨v, hy, hu⟩ | ⟨obj, hal, hu⟩ | ⟨_, K2, hst, hu⟩
    · rcases hy with ⟨hwn, hto⟩ | ⟨hwn, rfl⟩
      · rw [if_pos hwn]
        exact (hto w hw).wp fun u w' ⟨hu', hb⟩ => by subst hu'; exact hK' _ _ (wpU_sound n _ _ _ hu w' (hw.below hb))
      · rw [if_neg (by rw [hwn]; decide)]
        exact hK' _ _ (wpU_sound n _ _ _ hu w hw)
    · rw [if_pos hal.1]
      unfold Oper.wp
      rw [hal.2 w]
      refine hK' _ _ (wpU_sound n _ _ _ (hu w.heap.size hw.size (fun p hp e => ?_)) _ (hw.alloc obj))
      have := lt_of_block (hw.2 p hp)
      omega
    · rw [if_pos hst.1]
      obtain ⟨w', hrun, hw'⟩ := hst.2 w hw
      unfold Oper.wp
      rw [hrun]
      exact hK' _ _ (wpU_sound n _ _ _ hu w' hw')

def waits (md : Region.Mode) (ops : Array Oper) : Nat → Nat → Nat → Bool
  | 0, _, _ => false
  | n + 1, j, i => match ops[j]? with
    | none => false
    | some o => o.after.toList.any fun e => Region.binds md e && (e.on == i || waits md ops n e.on i)
def closedB (md : Region.Mode) (ops : Array Oper) (listed : Array Bool) : Bool :=
  (List.range ops.size).all fun k => !listed.getD k false || match ops[k]? with
    | none => true
    | some o => o.after.toList.all fun e => !Region.binds md e || listed.getD e.on false
def closed (md : Region.Mode) (ops : Array Oper) (listed : Array Bool) : Prop :=
  ∀ k o, ops[k]? = some o → listed.getD k false = true → ∀ e ∈ o.after, Region.binds md e = true → listed.getD e.on false = true
theorem closed_of {listed : Array Bool} (h : closedB md ops listed = true) : closed md ops listed := by
  intro k o ho hk e he hb
  unfold closedB at h
  rw [List.all_eq_true] at h
  have h1 := h k (List.mem_range.2 (Array.getElem?_eq_some_iff.1 ho).1)
  simp only [hk, ho, Bool.not_true, Bool.false_or, List.all_eq_true] at h1
  have h2 := h1 e (Array.mem_def.1 he)
  simpa [hb] using h2
theorem not_waits {listed : Array Bool} {i : Nat} (hc : closed md ops listed) (hi : listed.getD i false = false) : ∀ n j o, ops[j]? = some o → waits md ops n j i = true →
    (∀ e ∈ o.after, Region.binds md e = true → listed.getD e.on false = true) → False
  | 0, _, _, _, h, _ => by simp [waits] at h
  | n + 1, j, o, ho, h, hall => by
    simp only [waits, ho, List.any_eq_true, Bool.and_eq_true, Bool.or_eq_true, beq_iff_eq] at h
    obtain ⟨e, he, hb, h2⟩ := h
    have hl := hall e (Array.mem_def.2 he) hb
    rcases h2 with h2 | h2
    · rw [h2, hi] at hl; cases hl
    · cases hk : ops[e.on]? with
      | none =>
        cases n with
        | zero => simp [waits] at h2
        | succ n => simp [waits, hk] at h2
      | some ok => exact not_waits hc hi n e.on ok hk h2 (hc e.on ok hk hl)
theorem closed_set {listed : Array Bool} {j : Nat} (hc : closed md ops listed) (hj : j ∈ Region.ready md ops listed) : closed md ops (listed.setIfInBounds j true) := by
  obtain ⟨_, oj, hoj, hall⟩ := mem_ready.1 hj
  intro k o ho hk e he hb
  by_cases hkj : k = j
  · subst hkj
    rw [hoj] at ho
    cases ho
    exact getD_set_true (hall e he hb)
  · rw [getD_set_ne false (Ne.symm hkj)] at hk
    exact getD_set_true (hc k o ho hk e he hb)

theorem unlisted_false {listed : Array Bool} {i : Nat} (h : listed.getD i true = false) : listed.getD i false = false := by
  rcases Nat.lt_or_ge i listed.size with h' | h'
  · simp [h'] at h ⊢; exact h
  · simp [Array.getElem?_eq_none h'] at h

theorem wpU_first {i : Nat} {oi : Oper} {v : Value} (hi : ops[i]? = some oi) (hsel : ∀ (j : Nat) (o : Oper) cs b, ops[j]? = some o → o.op ≠ .select cs b) :
    ∀ (n : Nat) (listed : Array Bool) (a : Act) (K : List (Nat × Obj)), closed md ops listed →
      (∀ j oj, ops[j]? = some oj → j ≠ i → listed.getD j true = false → (∀ e ∈ oj.after, Region.binds md e = true → e.on ≠ i) → oi.apart ops oj = true) →
      i ∈ Region.ready md ops listed → ((∀ K', YB P ops W0 K' oi v a) ∨ (YB P ops W0 K oi v a ∧ ∀ j o, ops[j]? = some o → isStore o = true → ∃ m, waits md ops m j i = true)) →
      wpU P md ops Q W0 n (listed.setIfInBounds i true) (a.put oi.dst v) K → wpU P md ops Q W0 (n + 1) listed a K := by
  intro n
  induction n with
  | zero =>
    intro listed a K _ _ hr hy H
    refine ⟨fun h => (by rw [h] at hr; cases hr), fun j hj => ?_⟩
    by_cases hji : j = i
    · subst hji
      exact ⟨oi, hi, .inl ⟨v, hy.elim (fun h => h K) (fun h => h.1), H⟩⟩
    · have := ready_mono hj hji
      rw [H.1] at this
      cases this
  | succ n ih =>
    intro listed a K hcl hfree hr hy H
    refine ⟨fun h => (by rw [h] at hr; cases hr), fun j hj => ?_⟩
    by_cases hji : j = i
    · subst hji
      exact ⟨oi, hi, .inl ⟨v, hy.elim (fun h => h K) (fun h => h.1), H⟩⟩
    · obtain ⟨oj, hoj, hc⟩ := H.2 j (ready_mono hj hji)
      obtain ⟨hjun, oj', hoj', hall⟩ := mem_ready.1 hj
      rw [hoj] at hoj'
      cases hoj'
      have hiun := (mem_ready.1 hr).1
      have hnot : ∀ e ∈ oj.after, Region.binds md e = true → e.on ≠ i := fun e he hb heq => by
        have h1 := hall e he hb
        rw [heq, unlisted_false hiun] at h1
        cases h1
      have hap := hfree j oj hoj hji hjun hnot
      obtain ⟨h1, h2, h3⟩ := Oper.apart_spec hap
      have hfree' : ∀ k ok, ops[k]? = some ok → k ≠ i → (listed.setIfInBounds j true).getD k true = false →
          (∀ e ∈ ok.after, Region.binds md e = true → e.on ≠ i) → oi.apart ops ok = true := fun k ok hk hki hun hno => by
        refine hfree k ok hk hki ?_ hno
        by_cases hjk : j = k
        · subst hjk; exact hjun
        · rw [getD_set_ne true hjk] at hun; exact hun
      have hsi : ∀ cs b, oi.op ≠ .select cs b := fun cs b => hsel i oi cs b hi
      have hsj : ∀ cs b, oj.op ≠ .select cs b := fun cs b => hsel j oj cs b hoj
      have keep : ∀ K' u, YB P ops W0 K' oi v a → YB P ops W0 K' oi v (a.put oj.dst u) := fun K' u h => h.of_same (execOp_put oi hsi a oj.dst u h3) (wanted_put oi a oj.dst u h3)
      have eqe : execOp (a.put oi.dst v).eval oj = execOp a.eval oj := execOp_put oj hsj a oi.dst v h1
      have eqw : Region.wanted oj (yielded ops (a.put oi.dst v).tmps) = Region.wanted oj (yielded ops a.tmps) := wanted_put oj a oi.dst v h1
      refine ⟨oj, hoj, ?_⟩
      rcases hc with ⟨u, hyj, hu⟩ | ⟨obj, hal, hu⟩ | ⟨hs, K2, hst2, hu⟩
      · refine .inl ⟨u, hyj.of_same eqe.symm eqw.symm, ih _ _ _ (closed_set hcl hj) hfree' (ready_mono hr (Ne.symm hji)) (hy.imp (fun h K' => keep K' u (h K')) (fun h => ⟨keep K u h.1, h.2⟩)) ?_⟩
        rw [Array.setIfInBounds_comm _ _ hji, ← Act.put_comm a v u h2]
        exact hu
      · refine .inr (.inl ⟨obj, hal.of_same eqe.symm eqw.symm, fun g hg hgk => ih _ _ _ (closed_set hcl hj) hfree' (ready_mono hr (Ne.symm hji)) (hy.imp (fun h K' => keep K' _ (h K')) (fun h => ⟨(keep K _ h.1).more, h.2⟩)) ?_⟩)
        rw [Array.setIfInBounds_comm _ _ hji, ← Act.put_comm a v _ h2]
        exact hu g hg hgk
      · rcases hy with hy | ⟨hy, hwait⟩
        · refine .inr (.inr ⟨hs, K2, ⟨by rw [← eqw]; exact hst2.1, fun w hw => by rw [← eqe]; exact hst2.2 w hw⟩, ih _ _ _ (closed_set hcl hj) hfree' (ready_mono hr (Ne.symm hji)) (.inl fun K' => keep K' _ (hy K')) ?_⟩)
          rw [Array.setIfInBounds_comm _ _ hji, ← Act.put_comm a v _ h2]
          exact hu
        · obtain ⟨m, hm⟩ := hwait j oj hoj hs
          exact (not_waits hcl (unlisted_false hiun) m j oj hoj hm hall).elim

def storesWait (md : Region.Mode) (ops : Array Oper) (i : Nat) : Bool :=
  (List.range ops.size).all fun j => match ops[j]? with
    | some o => !isStore o || waits md ops 4 j i
    | none => true
theorem storesWait_spec {i : Nat} (h : storesWait md ops i = true) (j : Nat) (o : Oper) (ho : ops[j]? = some o) (hs : isStore o = true) : ∃ m, waits md ops m j i = true := by
  unfold storesWait at h
  rw [List.all_eq_true] at h
  have h1 := h j (List.mem_range.2 (Array.getElem?_eq_some_iff.1 ho).1)
  simp only [ho, hs, Bool.not_true, Bool.false_or] at h1
  exact ⟨4, h1⟩
def freeAll (md : Region.Mode) (ops : Array Oper) (listed : Array Bool) (i : Nat) : Bool :=
  Region.noSelect ops && (Region.free md ops listed i && ((Region.ready md ops listed).contains i && (closedB md ops listed && storesWait md ops i)))

theorem wpU_val {i : Nat} {oi : Oper} {v : Value} {d n : Nat} {listed : Array Bool} {a : Act} {K : List (Nat × Obj)} (hi : ops[i]? = some oi) (hd : oi.dst = some d) (hlt : Nat.blt d a.tmps.size = true)
    (hf : freeAll md ops listed i = true) (hw : Region.wanted oi (yielded ops a.tmps) = true)
    (hy : ∀ w, KS W0 K w → ∀ K' : Act → World → Prop, (∀ w', Below w.heap.size w w' → K' (a.put oi.dst v) w') → Oper.wp P oi a w K' (fun _ _ _ => False))
    (h : wpU P md ops Q W0 n (listed.setIfInBounds i true) (a.put oi.dst v) K) : wpU P md ops Q W0 (n + 1) listed a K := by
  unfold freeAll at hf
  simp only [Bool.and_eq_true] at hf
  obtain ⟨h1, h2, h3, h4, h5⟩ := hf
  exact wpU_first hi (Region.noSelect_spec h1) n listed a K (closed_of h4) (Region.free_spec hi h2) (by simpa using h3)
    (.inr ⟨.inl ⟨hw, fun w hk => Oto.of_wp hd (Nat.le_of_ble_eq_true hlt) (hy w hk)⟩, storesWait_spec h5⟩) h
theorem wpU_not {i : Nat} {oi : Oper} {n : Nat} {listed : Array Bool} {a : Act} {K : List (Nat × Obj)} (hi : ops[i]? = some oi)
    (hf : freeAll md ops listed i = true) (hw : Region.wanted oi (yielded ops a.tmps) = false)
    (h : wpU P md ops Q W0 n (listed.setIfInBounds i true) (a.put oi.dst undef) K) : wpU P md ops Q W0 (n + 1) listed a K := by
  unfold freeAll at hf
  simp only [Bool.and_eq_true] at hf
  obtain ⟨h1, h2, h3, h4, h5⟩ := hf
  exact wpU_first hi (Region.noSelect_spec h1) n listed a K (closed_of h4) (Region.free_spec hi h2) (by simpa using h3)
    (.inl fun _ => .inr ⟨hw, rfl⟩) h
theorem wpU_alloc {i : Nat} {oi : Oper} {obj : Obj} {n : Nat} {listed : Array Bool} {a : Act} {K : List (Nat × Obj)} (hi : ops[i]? = some oi) (hr : Region.ready md ops listed = [i])
    (hw : Region.wanted oi (yielded ops a.tmps) = true) (hal : ∀ w, (execOp a.eval oi).run P w = .ok (.value (.pointer (some ⟨w.heap.size, 0, none⟩))) (w.alloc obj))
    (h : ∀ g, W0.B ≤ g → (∀ p ∈ K, p.1 ≠ g) → wpU P md ops Q W0 n (listed.setIfInBounds i true) (a.put oi.dst (.pointer (some ⟨g, 0, none⟩))) ((g, obj) :: K)) : wpU P md ops Q W0 (n + 1) listed a K :=
  ⟨fun h0 => (by rw [hr] at h0; cases h0), fun j hj => by
    rw [hr] at hj
    cases List.mem_singleton.1 hj
    exact ⟨oi, hi, .inr (.inl ⟨obj, ⟨hw, hal⟩, h⟩)⟩⟩
theorem wpU_alloc2 {i j : Nat} {oi oj : Oper} {obi obj : Obj} {n : Nat} {listed : Array Bool} {a : Act} {K : List (Nat × Obj)} (hi : ops[i]? = some oi) (hj : ops[j]? = some oj) (hr : Region.ready md ops listed = [i, j])
    (hwi : Region.wanted oi (yielded ops a.tmps) = true) (hwj : Region.wanted oj (yielded ops a.tmps) = true)
    (hai : ∀ w, (execOp a.eval oi).run P w = .ok (.value (.pointer (some ⟨w.heap.size, 0, none⟩))) (w.alloc obi))
    (haj : ∀ w, (execOp a.eval oj).run P w = .ok (.value (.pointer (some ⟨w.heap.size, 0, none⟩))) (w.alloc obj))
    (h1 : ∀ g, W0.B ≤ g → (∀ p ∈ K, p.1 ≠ g) → wpU P md ops Q W0 n (listed.setIfInBounds i true) (a.put oi.dst (.pointer (some ⟨g, 0, none⟩))) ((g, obi) :: K))
    (h2 : ∀ g, W0.B ≤ g → (∀ p ∈ K, p.1 ≠ g) → wpU P md ops Q W0 n (listed.setIfInBounds j true) (a.put oj.dst (.pointer (some ⟨g, 0, none⟩))) ((g, obj) :: K)) : wpU P md ops Q W0 (n + 1) listed a K :=
  ⟨fun h0 => (by rw [hr] at h0; cases h0), fun k hk => by
    rw [hr] at hk
    rcases List.mem_cons.1 hk with rfl | hk
    · exact ⟨oi, hi, .inr (.inl ⟨obi, ⟨hwi, hai⟩, h1⟩)⟩
    · cases List.mem_singleton.1 hk
      exact ⟨oj, hj, .inr (.inl ⟨obj, ⟨hwj, haj⟩, h2⟩)⟩⟩
theorem wpU_store {i : Nat} {oi : Oper} {n : Nat} {listed : Array Bool} {a : Act} {K K' : List (Nat × Obj)} (hi : ops[i]? = some oi) (hr : Region.ready md ops listed = [i])
    (hs : isStore oi = true) (hw : Region.wanted oi (yielded ops a.tmps) = true) (hst : ∀ w, KS W0 K w → ∃ w', (execOp a.eval oi).run P w = .ok .skip w' ∧ KS W0 K' w')
    (h : wpU P md ops Q W0 n (listed.setIfInBounds i true) (a.put oi.dst undef) K') : wpU P md ops Q W0 (n + 1) listed a K :=
  ⟨fun h0 => (by rw [hr] at h0; cases h0), fun j hj => by
    rw [hr] at hj
    cases List.mem_singleton.1 hj
    exact ⟨oi, hi, .inr (.inr ⟨hs, K', ⟨hw, hst⟩, h⟩)⟩⟩
def StepU (P : Program) (md : Region.Mode) (ops : Array Oper) (Q : Exit → Act → World → Prop) (W0 : Base) (n : Nat) (listed : Array Bool) (a : Act) (K : List (Nat × Obj)) (i : Nat) : Prop :=
  ∃ o, ops[i]? = some o ∧
      ((∃ v, YB P ops W0 K o v a ∧ wpU P md ops Q W0 n (listed.setIfInBounds i true) (a.put o.dst v) K) ∨
       (∃ obj, AL P ops o obj a ∧ ∀ g, W0.B ≤ g → (∀ p ∈ K, p.1 ≠ g) → wpU P md ops Q W0 n (listed.setIfInBounds i true) (a.put o.dst (.pointer (some ⟨g, 0, none⟩))) ((g, obj) :: K)) ∨
       (isStore o = true ∧ ∃ K', ST P ops W0 K K' o a ∧ wpU P md ops Q W0 n (listed.setIfInBounds i true) (a.put o.dst undef) K'))
theorem stepU_val {i : Nat} {oi : Oper} {v : Value} {d n : Nat} {listed : Array Bool} {a : Act} {K : List (Nat × Obj)} (hi : ops[i]? = some oi) (hd : oi.dst = some d) (hlt : Nat.blt d a.tmps.size = true)
    (hw : Region.wanted oi (yielded ops a.tmps) = true)
    (hy : ∀ w, KS W0 K w → ∀ K' : Act → World → Prop, (∀ w', Below w.heap.size w w' → K' (a.put oi.dst v) w') → Oper.wp P oi a w K' (fun _ _ _ => False))
    (h : wpU P md ops Q W0 n (listed.setIfInBounds i true) (a.put oi.dst v) K) : StepU P md ops Q W0 n listed a K i :=
  ⟨oi, hi, .inl ⟨v, .inl ⟨hw, fun w hk => Oto.of_wp hd (Nat.le_of_ble_eq_true hlt) (hy w hk)⟩, h⟩⟩
theorem stepU_store {i : Nat} {oi : Oper} {n : Nat} {listed : Array Bool} {a : Act} {K K' : List (Nat × Obj)} (hi : ops[i]? = some oi)
    (hs : isStore oi = true) (hw : Region.wanted oi (yielded ops a.tmps) = true) (hst : ∀ w, KS W0 K w → ∃ w', (execOp a.eval oi).run P w = .ok .skip w' ∧ KS W0 K' w')
    (h : wpU P md ops Q W0 n (listed.setIfInBounds i true) (a.put oi.dst undef) K') : StepU P md ops Q W0 n listed a K i :=
  ⟨oi, hi, .inr (.inr ⟨hs, K', ⟨hw, hst⟩, h⟩)⟩
theorem stepU_alloc {i : Nat} {oi : Oper} {obj : Obj} {n : Nat} {listed : Array Bool} {a : Act} {K : List (Nat × Obj)} (hi : ops[i]? = some oi)
    (hw : Region.wanted oi (yielded ops a.tmps) = true) (hal : ∀ w, (execOp a.eval oi).run P w = .ok (.value (.pointer (some ⟨w.heap.size, 0, none⟩))) (w.alloc obj))
    (h : ∀ g, W0.B ≤ g → (∀ p ∈ K, p.1 ≠ g) → wpU P md ops Q W0 n (listed.setIfInBounds i true) (a.put oi.dst (.pointer (some ⟨g, 0, none⟩))) ((g, obj) :: K)) : StepU P md ops Q W0 n listed a K i :=
  ⟨oi, hi, .inr (.inl ⟨obj, ⟨hw, hal⟩, h⟩)⟩
theorem wpU_1 {i n : Nat} {listed : Array Bool} {a : Act} {K : List (Nat × Obj)} (hr : Region.ready md ops listed = [i]) (h : StepU P md ops Q W0 n listed a K i) : wpU P md ops Q W0 (n + 1) listed a K :=
  ⟨fun h0 => (by rw [hr] at h0; cases h0), fun j hj => by
    rw [hr] at hj
    cases List.mem_singleton.1 hj
    exact h⟩
theorem wpU_2 {i j n : Nat} {listed : Array Bool} {a : Act} {K : List (Nat × Obj)} (hr : Region.ready md ops listed = [i, j]) (h : StepU P md ops Q W0 n listed a K i) (h' : StepU P md ops Q W0 n listed a K j) : wpU P md ops Q W0 (n + 1) listed a K :=
  ⟨fun h0 => (by rw [hr] at h0; cases h0), fun k hk => by
    rw [hr] at hk
    rcases List.mem_cons.1 hk with rfl | hk
    · exact h
    · cases List.mem_singleton.1 hk
      exact h'⟩
theorem wpU_done {listed : Array Bool} {a : Act} {K : List (Nat × Obj)} (hr : Region.ready md ops listed = []) (h : ∀ w, KS W0 K w → Q .normal a w) : ∀ n, wpU P md ops Q W0 n listed a K
  | 0 => ⟨hr, h⟩
  | _ + 1 => ⟨fun _ => h, by rw [hr]; simp⟩
theorem wp_region_U {id : Nat} {a : Act} {w : World} (K : List (Nat × Obj)) (hm : P.follows .mixedOrders = true) (hK : KS W0 K w)
    (h : wpU P .any ops Q W0 ops.size (Array.replicate ops.size false) a K) : (Code.region id ops true).wp P Q a w :=
  wp_region_any hm (wpU_sound _ _ _ _ h _ hK.drew)

theorem run_storeVar_mid {g off : Nat} {cs : Array Value} {t ty : TypeId} {v : Value} (w : World) (hg : w.heap[g]? = some (.cells cs t (0, 0))) (hi : (P.info? ty).map (·.size) = some v.cells.size)
    (hfit : off + v.cells.size ≤ cs.size) (h1 : ∀ x ∈ v.cells.toList, x.oneCell' = true) :
    (storeVar ty ⟨g, off, none⟩ v).run P w = .ok () (w.setRow g (cs.toList.take off ++ v.cells.toList ++ cs.toList.drop (off + v.cells.toList.length)).toArray) := by
  have hst := run_storeCells_at P g off t v.cells.toList 0 cs w hg (by simpa using hfit) h1
  cases hq : P.info? ty with
  | none => simp [hq] at hi
  | some i =>
    have hs : i.size = v.cells.size := by simpa [hq] using hi
    simp only [Nat.add_zero] at hst
    simp [storeVar, Sem.run_bind, Go.sizeOf, typeInfo, hq, hs, hst]
theorem KS.setRow {K K' : List (Nat × Obj)} {w : World} {g : Nat} {cs cs' : Array Value} {t : TypeId} (h : KS W0 K w) (hB : W0.B ≤ g) (hg : w.heap[g]? = some (.cells cs t (0, 0)))
    (hK : ∀ p ∈ K', p = (g, .cells cs' t (0, 0)) ∨ (p ∈ K ∧ p.1 ≠ g)) : KS W0 K' (w.setRow g cs') :=
  ⟨below_setRow h.1 hB _, fun p hp => by
    rcases hK p hp with rfl | ⟨hp, hne⟩
    · exact setRow_heap w g cs cs' t _ hg
    · rw [setRow_other w g p.1 cs' hne]; exact h.2 p hp⟩
theorem st_row {o : Oper} {a : Act} {K K' : List (Nat × Obj)} {ty t : TypeId} {x y : Operand} {g off : Nat} {cs cs' : Array Value} {v : Value} (ho : o.op = .store ty x y) (hx : a.eval x = .pointer (some ⟨g, off, none⟩)) (hv : a.eval y = v)
    (hm : (g, .cells cs t (0, 0)) ∈ K) (hB : W0.B ≤ g) (hi : (P.info? ty).map (·.size) = some v.cells.size)
    (hfit : off + v.cells.size ≤ cs.size) (h1 : ∀ x ∈ v.cells.toList, x.oneCell' = true)
    (hcs : cs' = (cs.toList.take off ++ v.cells.toList ++ cs.toList.drop (off + v.cells.toList.length)).toArray)
    (hK : ∀ p ∈ K', p = (g, .cells cs' t (0, 0)) ∨ (p ∈ K ∧ p.1 ≠ g)) : ∀ w, KS W0 K w → ∃ w', (execOp a.eval o).run P w = .ok .skip w' ∧ KS W0 K' w' := by
  intro w hw
  have hg := hw.2 _ hm
  subst hcs
  refine ⟨_, ?_, hw.setRow hB hg hK⟩
  have hr := run_storeVar_mid (P := P) (ty := ty) (v := v) w hg hi hfit h1
  simp only [execOp, ho, hx, hv, Instr.storeAt, Instr.sureAddr, Sem.run_bind, Sem.run_pure, Result.andThen_ok, hr]
def aggD (d : TypeDesc) : Bool := match d with | .struct _ | .array _ _ => true | _ => false
theorem run_loadVar_mid {g off n : Nat} {cs : Array Value} {t ty : TypeId} {d : TypeDesc} (w : World) (hg : w.heap[g]? = some (.cells cs t (0, 0)))
    (hu : P.underlying ty = some d) (hd : aggD d = true) (hi : (P.info? ty).map (·.size) = some n) (hfit : off + n ≤ cs.size) :
    (loadVar ty ⟨g, off, none⟩).run P w = .ok (.agg ((cs.toList.drop off).take n).toArray) w := by
  have hlen : ((cs.toList.drop off).take n).length = n := by simp; omega
  have hl : (loadCells ⟨g, off, none⟩ ((cs.toList.drop off).take n).length).run P w = .ok ((cs.toList.drop off).take n).toArray w :=
    run_loadCells_list (P := P) w ⟨g, off, none⟩ _ (fun j v hv => by
      have hadd : (⟨g, off, none⟩ : Addr).add j = ⟨g, off + j, none⟩ := by unfold Addr.add; split <;> simp_all
      rw [hadd, cell_of_row w g (off + j) cs t (0, 0) hg]
      obtain ⟨hj, hv⟩ := List.getElem?_eq_some_iff.1 hv
      rw [hlen] at hj
      rw [List.getElem_take, List.getElem_drop] at hv
      rw [Array.getElem?_eq_getElem (by omega), ← hv]
      simp)
  rw [hlen] at hl
  cases hq : P.info? ty with
  | none => simp [hq] at hi
  | some i =>
    have hs : i.size = n := by simpa [hq] using hi
    have hagg : (isAgg ty).run P w = .ok true w := by
      unfold isAgg
      rw [Sem.run_bind, run_underlying hu w]
      unfold aggD at hd
      cases d <;> simp_all
    simp [loadVar, Sem.run_bind, hagg, Go.sizeOf, typeInfo, hq, hs, hl]
theorem yb_load {o : Oper} {a : Act} {K : List (Nat × Obj)} {ty t : TypeId} {x : Operand} {g off n : Nat} {cs vs : Array Value} {d : TypeDesc} (ho : o.op = .load ty x) (hx : a.eval x = .pointer (some ⟨g, off, none⟩))
    (hm : (g, .cells cs t (0, 0)) ∈ K) (hu : P.underlying ty = some d) (hd : aggD d = true) (hi : (P.info? ty).map (·.size) = some n) (hfit : off + n ≤ cs.size)
    (hvs : vs = ((cs.toList.drop off).take n).toArray) :
    ∀ w, KS W0 K w → ∀ K' : Act → World → Prop, (∀ w', Below w.heap.size w w' → K' (a.put o.dst (.agg vs)) w') → Oper.wp P o a w K' (fun _ _ _ => False) := by
  intro w hw K' hk
  have hr := run_loadVar_mid (P := P) (ty := ty) w (hw.2 _ hm) hu hd hi hfit
  unfold Oper.wp execOp
  simp only [ho, hx, Instr.loadAt, Instr.sureAddr, Sem.run_bind, Sem.run_pure, Result.andThen_ok, hr]
  subst hvs
  exact hk w (Below.refl _ _)

theorem wpList_ld {ops : Array Oper} {rest : List Oper} {o : Oper} {a : Act} {w : World} {Q : Exit → Act → World → Prop} (hgd : o.guard = none) {ty t : TypeId} {x : Operand} {g off n : Nat} {cs vs : Array Value} {d : TypeDesc} (ho : o.op = .load ty x)
    (hx : a.eval x = .pointer (some ⟨g, off, none⟩)) (hg : w.heap[g]? = some (.cells cs t (0, 0))) (hu : P.underlying ty = some d) (hd : aggD d = true)
    (hi : (P.info? ty).map (·.size) = some n) (hfit : off + n ≤ cs.size) (hvs : vs = ((cs.toList.drop off).take n).toArray)
    (h : wpList P ops Q rest (a.put o.dst (.agg vs)) w) : wpList P ops Q (o :: rest) a w :=
  wpList_plain hgd fun _ hK => by
    have hr := run_loadVar_mid (P := P) (ty := ty) w hg hu hd hi hfit
    unfold Oper.wp execOp
    simp only [ho, hx, Instr.loadAt, Instr.sureAddr, Sem.run_bind, Sem.run_pure, Result.andThen_ok, hr]
    subst hvs
    exact hK _ _ h
theorem wpList_stm {ops : Array Oper} {rest : List Oper} {o : Oper} {a : Act} {w : World} {Q : Exit → Act → World → Prop} (hgd : o.guard = none) {ty t : TypeId} {x y : Operand} {g off : Nat} {cs cs' : Array Value} {v : Value} (ho : o.op = .store ty x y)
    (hx : a.eval x = .pointer (some ⟨g, off, none⟩)) (hv : a.eval y = v) (hg : w.heap[g]? = some (.cells cs t (0, 0))) (hi : (P.info? ty).map (·.size) = some v.cells.size)
    (hfit : off + v.cells.size ≤ cs.size) (h1 : ∀ x ∈ v.cells.toList, x.oneCell' = true)
    (hcs : cs' = (cs.toList.take off ++ v.cells.toList ++ cs.toList.drop (off + v.cells.toList.length)).toArray)
    (h : wpList P ops Q rest (a.put o.dst undef) (w.setRow g cs')) : wpList P ops Q (o :: rest) a w :=
  wpList_plain hgd fun _ hK => by
    have hr := run_storeVar_mid (P := P) (ty := ty) (v := v) w hg hi hfit h1
    unfold Oper.wp execOp
    simp only [ho, hx, hv, Instr.storeAt, Instr.sureAddr, Sem.run_bind, Sem.run_pure, Result.andThen_ok, hr]
    subst hcs
    exact hK _ _ h

theorem run_loadVar_all {g : Nat} {cs : Array Value} {t ty : TypeId} {d : TypeDesc} (w : World) (hg : w.heap[g]? = some (.cells cs t (0, 0)))
    (hu : P.underlying ty = some d) (hd : aggD d = true) (hi : (P.info? ty).map (·.size) = some cs.size) : (loadVar ty ⟨g, 0, none⟩).run P w = .ok (.agg cs) w := by
  have h := run_loadVar_mid (P := P) (ty := ty) (off := 0) w hg hu hd hi (by omega)
  have e : ((cs.toList.drop 0).take cs.size).toArray = cs := by
    rw [List.drop_zero, List.take_of_length_le (by simp)]
  rw [e] at h
  exact h
theorem res_cell {fn : Func} {p : Tmp} {ty : TypeId} (h : fn.results = #[.cell p ty]) {tmps : Array Value} {w : World} {g : Nat} {t : TypeId} {cs : Array Value} {d : TypeDesc}
    (hp : tmps.getD p undef = .pointer (some ⟨g, 0, none⟩)) (hg : w.heap[g]? = some (.cells cs t (0, 0)))
    (hu : P.underlying ty = some d) (hd : aggD d = true) (hi : (P.info? ty).map (·.size) = some cs.size) :
    (results fn tmps).run P w = .ok (.agg cs) w := by
  have hp' : tmps[p]?.getD undef = .pointer (some ⟨g, 0, none⟩) := by simpa using hp
  simp [results, h, hp', asAddr, run_loadVar_all w hg hu hd hi]
theorem res_cell_tmp {fn : Func} {p q : Tmp} {ty : TypeId} (h : fn.results = #[.cell p ty, .tmp q]) {tmps : Array Value} {w : World} {g : Nat} {t : TypeId} {cs : Array Value} {d : TypeDesc}
    (hp : tmps.getD p undef = .pointer (some ⟨g, 0, none⟩)) (hg : w.heap[g]? = some (.cells cs t (0, 0)))
    (hu : P.underlying ty = some d) (hd : aggD d = true) (hi : (P.info? ty).map (·.size) = some cs.size) :
    (results fn tmps).run P w = .ok (.tuple #[.agg cs, tmps.getD q undef]) w := by
  have hp' : tmps[p]?.getD undef = .pointer (some ⟨g, 0, none⟩) := by simpa using hp
  simp [results, h, hp', asAddr, run_loadVar_all w hg hu hd hi]
theorem res_tmp_cell {fn : Func} {p q : Tmp} {ty : TypeId} (h : fn.results = #[.tmp q, .cell p ty]) {tmps : Array Value} {w : World} {g : Nat} {t : TypeId} {cs : Array Value} {d : TypeDesc}
    (hp : tmps.getD p undef = .pointer (some ⟨g, 0, none⟩)) (hg : w.heap[g]? = some (.cells cs t (0, 0)))
    (hu : P.underlying ty = some d) (hd : aggD d = true) (hi : (P.info? ty).map (·.size) = some cs.size) :
    (results fn tmps).run P w = .ok (.tuple #[tmps.getD q undef, .agg cs]) w := by
  have hp' : tmps[p]?.getD undef = .pointer (some ⟨g, 0, none⟩) := by simpa using hp
  simp [results, h, hp', asAddr, run_loadVar_all w hg hu hd hi]
theorem res_cell_cell {fn : Func} {p q : Tmp} {ty uy : TypeId} (h : fn.results = #[.cell p ty, .cell q uy]) {tmps : Array Value} {w : World} {g g' : Nat} {t t' : TypeId} {cs cs' : Array Value} {d d' : TypeDesc}
    (hp : tmps.getD p undef = .pointer (some ⟨g, 0, none⟩)) (hg : w.heap[g]? = some (.cells cs t (0, 0)))
    (hu : P.underlying ty = some d) (hd : aggD d = true) (hi : (P.info? ty).map (·.size) = some cs.size)
    (hq : tmps.getD q undef = .pointer (some ⟨g', 0, none⟩)) (hg' : w.heap[g']? = some (.cells cs' t' (0, 0)))
    (hu' : P.underlying uy = some d') (hd' : aggD d' = true) (hi' : (P.info? uy).map (·.size) = some cs'.size) :
    (results fn tmps).run P w = .ok (.tuple #[.agg cs, .agg cs']) w := by
  have hp' : tmps[p]?.getD undef = .pointer (some ⟨g, 0, none⟩) := by simpa using hp
  have hq' : tmps[q]?.getD undef = .pointer (some ⟨g', 0, none⟩) := by simpa using hq
  simp [results, h, hp', hq', asAddr, run_loadVar_all w hg hu hd hi, run_loadVar_all w hg' hu' hd' hi']

theorem step_copy_at {o : Oper} {a : Act} {w : World} {K : Act → World → Prop} {E : Prop} (hgd : o.guard = none) (d s : Operand) (dT sT : TypeId)
    (ho : o.op = .call { callee := .builtin .copy, args := #[d, s], argTypes := #[dT, sT] }) (elem : TypeId) (hu : P.underlying dT = some (.slice elem)) (hsz : (P.info? elem).map (·.size) = some 1)
    (g off dLen dCap : Nat) (ad : Addr) (sLen sCap : Nat) (hd : a.eval d = .slice (some ⟨g, off, none⟩) dLen dCap) (hs : a.eval s = .slice (some ad) sLen sCap)
    (cur : Array Value) (t : TypeId) (hg : w.heap[g]? = some (.cells cur t (0, 0))) (cs : List Value) (hn : cs.length = Nat.min sLen dLen)
    (hsrc : ∀ j v, cs[j]? = some v → w.cell? (ad.add j) = some v) (hfit : off + cs.length ≤ cur.size) (h1 : ∀ v ∈ cs, v.oneCell' = true)
    (h : K (a.put o.dst (goInt cs.length)) (w.setRow g (splice cur.toList off cs).toArray)) :
    if Region.wanted o (yielded ops a.tmps) = true then Oper.wp P o a w K Q else E := by
  have hw : Region.wanted o (yielded ops a.tmps) = true := by simp [Region.wanted, hgd]
  rw [if_pos hw]
  have hrun := run_copy_row (P := P) w dT sT o.type elem g off dLen dCap ad sLen sCap cur t cs hu hsz hg hn hsrc hfit h1
  unfold Oper.wp
  simp [execOp, ho, resolve, invoke, builtin, hd, hs, hrun, Result.andThen]
  exact h

theorem yb_pure {o : Oper} {a : Act} {K : List (Nat × Obj)} {v : Value} (h : ∀ w, (execOp a.eval o).run P w = .ok (.value v) w) :
    ∀ w, KS W0 K w → ∀ K' : Act → World → Prop, (∀ w', Below w.heap.size w w' → K' (a.put o.dst v) w') → Oper.wp P o a w K' (fun _ _ _ => False) := by
  intro w _ K' hk
  unfold Oper.wp
  rw [h w]
  exact hk w (Below.refl _ _)
theorem yb_call {o : Oper} {a : Act} {K : List (Nat × Obj)} {v : Value} {f : FuncId} {args : Array Value} (hf : ∀ w, (execOp a.eval o).run P w = .ok (.enter f args) w)
    (h : ∀ w, KS W0 K w → Calls P f args w fun e w' => e = .returned v ∧ Below w.heap.size w w') :
    ∀ w, KS W0 K w → ∀ K' : Act → World → Prop, (∀ w', Below w.heap.size w w' → K' (a.put o.dst v) w') → Oper.wp P o a w K' (fun _ _ _ => False) := by
  intro w hw K' hk
  unfold Oper.wp
  rw [hf w]
  refine (h w hw).mono fun e w' ⟨he, hb⟩ => ?_
  subst he
  exact hk w' hb
end
end Tw
namespace Go.Proofs.YtjmcelgdjpdacaaDoor
open Go.RowKit Tw
section
variable {P : Program} {W0 : Base}
theorem wpU_v {md : Region.Mode} {ops : Array Oper} {Q : Exit → Act → World → Prop} {i : Nat} {oi : Oper} {v : Value} {d n : Nat} {listed : Array Bool} {tm : Array Value} {df : List Deferred} {K : List (Nat × Obj)} (hi : ops[i]? = some oi) (hd : oi.dst = some d) (hlt : Nat.blt d tm.size = true)
    (hf : freeAll md ops listed i = true) (hw : Region.wanted oi (yielded ops tm) = true)
    (hy : ∀ w, KS W0 K w → ∀ K' : Act → World → Prop, (∀ w', Below w.heap.size w w' → K' (Act.put ⟨tm, df⟩ oi.dst v) w') → Oper.wp P oi ⟨tm, df⟩ w K' (fun _ _ _ => False))
    {T : Array Value} (hT : tm.setIfInBounds d v = T)
    (h : wpU P md ops Q W0 n (listed.setIfInBounds i true) ⟨T, df⟩ K) : wpU P md ops Q W0 (n + 1) listed ⟨tm, df⟩ K := by
  refine wpU_val hi hd hlt hf hw hy ?_
  rw [hd]
  subst hT
  exact h
variable {ops : Array Oper} {md : Region.Mode} {Q : Exit → Act → World → Prop}
theorem wpU_mem : ∀ (n : Nat) (listed : Array Bool) (a : Act) (K K' : List (Nat × Obj)), (∀ p, p ∈ K ↔ p ∈ K') → wpU P md ops Q W0 n listed a K → wpU P md ops Q W0 n listed a K'
  | 0, _, _, _, _, hm, h => ⟨h.1, fun w hw => h.2 w (hw.sub fun p hp => (hm p).1 hp)⟩
  | n + 1, listed, a, K, K', hm, h => by
    have hs : ∀ w, KS W0 K' w → KS W0 K w := fun w hw => hw.sub fun p hp => (hm p).1 hp
    refine ⟨fun hr w hw => h.1 hr w (hs w hw), fun i hi => ?_⟩
    obtain ⟨o, ho, hc⟩ := h.2 i hi
    refine ⟨o, ho, ?_⟩
    rcases hc with ⟨v, hy, hu⟩ | ⟨obj, hal, hu⟩ | ⟨hst, K2, hs2, hu⟩
    · refine .inl ⟨v, ?_, wpU_mem n _ _ K K' hm hu⟩
      rcases hy with ⟨h1, h2⟩ | h1
      · exact .inl ⟨h1, fun w hw => h2 w (hs w hw)⟩
      · exact .inr h1
    · exact .inr (.inl ⟨obj, hal, fun g hg hf => wpU_mem n _ _ ((g, obj) :: K) ((g, obj) :: K') (fun p => by rw [List.mem_cons, List.mem_cons, hm p]) (hu g hg fun p hp => hf p ((hm p).1 hp))⟩)
    · exact .inr (.inr ⟨hst, K2, ⟨hs2.1, fun w hw => hs2.2 w (hs w hw)⟩, hu⟩)
theorem wanted_no {o : Oper} {y : Nat → Option Bool} (h : o.guard = none) : Region.wanted o y = true := by simp [Region.wanted, h]
theorem wpU_two {i j : Nat} {oi oj : Oper} {d e : Nat} {obi obj : Obj} {n : Nat} {listed : Array Bool} {tm : Array Value} {df : List Deferred} {K : List (Nat × Obj)} {T : Nat → Nat → Array Value}
    (hi : ops[i]? = some oi) (hj : ops[j]? = some oj) (hdi : oi.dst = some d) (hdj : oj.dst = some e) (hgi : oi.guard = none) (hgj : oj.guard = none)
    (hr : Region.ready md ops listed = [i, j]) (hri : Region.ready md ops (listed.setIfInBounds i true) = [j]) (hrj : Region.ready md ops (listed.setIfInBounds j true) = [i])
    (hc : (listed.setIfInBounds j true).setIfInBounds i true = (listed.setIfInBounds i true).setIfInBounds j true)
    (hai : ∀ ρ w, (execOp ρ oi).run P w = .ok (.value (.pointer (some ⟨w.heap.size, 0, none⟩))) (w.alloc obi))
    (haj : ∀ ρ w, (execOp ρ oj).run P w = .ok (.value (.pointer (some ⟨w.heap.size, 0, none⟩))) (w.alloc obj))
    (hT : ∀ g h, (tm.setIfInBounds d (.pointer (some ⟨g, 0, none⟩))).setIfInBounds e (.pointer (some ⟨h, 0, none⟩)) = T g h)
    (hT' : ∀ g h, (tm.setIfInBounds e (.pointer (some ⟨h, 0, none⟩))).setIfInBounds d (.pointer (some ⟨g, 0, none⟩)) = T g h)
    (h : ∀ g h, W0.B ≤ g → W0.B ≤ h → g ≠ h → (∀ p ∈ K, p.1 ≠ g) → (∀ p ∈ K, p.1 ≠ h) → wpU P md ops Q W0 n ((listed.setIfInBounds i true).setIfInBounds j true) ⟨T g h, df⟩ ((g, obi) :: (h, obj) :: K)) :
    wpU P md ops Q W0 (n + 1 + 1) listed ⟨tm, df⟩ K := by
  refine wpU_alloc2 hi hj hr (wanted_no hgi) (wanted_no hgj) (hai _) (haj _) (fun g hg hf => ?_) (fun g hg hf => ?_)
  · refine wpU_alloc hj hri (wanted_no hgj) (haj _) (fun g' hg' hf' => ?_)
    rw [hdi, hdj]
    simp only [Act.put]
    rw [hT g g']
    refine wpU_mem n _ _ _ _ (fun p => ?_) (h g g' hg hg' (fun e => hf' _ (.head _) e) hf fun p hp => hf' p (.tail _ hp))
    simp only [List.mem_cons]; exact ⟨fun | .inl h => .inr (.inl h) | .inr (.inl h) => .inl h | .inr (.inr h) => .inr (.inr h), fun | .inl h => .inr (.inl h) | .inr (.inl h) => .inl h | .inr (.inr h) => .inr (.inr h)⟩
  · refine wpU_alloc hi hrj (wanted_no hgi) (hai _) (fun g' hg' hf' => ?_)
    rw [hdi, hdj, hc]
    simp only [Act.put]
    rw [hT' g' g]
    exact h g' g hg' hg (fun e => hf' _ (.head _) e.symm) (fun p hp => hf' p (.tail _ hp)) hf
theorem wpU_new {i : Nat} {oi : Oper} {d : Nat} {obi : Obj} {n : Nat} {listed : Array Bool} {tm : Array Value} {df : List Deferred} {K : List (Nat × Obj)} {T : Nat → Array Value}
    (hi : ops[i]? = some oi) (hdi : oi.dst = some d) (hgi : oi.guard = none)
    (hr : Region.ready md ops listed = [i])
    (hai : ∀ ρ w, (execOp ρ oi).run P w = .ok (.value (.pointer (some ⟨w.heap.size, 0, none⟩))) (w.alloc obi))
    (hT : ∀ g, (tm.setIfInBounds d (.pointer (some ⟨g, 0, none⟩))) = T g)
    (h : ∀ g, W0.B ≤ g → (∀ p ∈ K, p.1 ≠ g) → wpU P md ops Q W0 n (listed.setIfInBounds i true) ⟨T g, df⟩ ((g, obi) :: K)) :
    wpU P md ops Q W0 (n + 1) listed ⟨tm, df⟩ K := by
  refine wpU_alloc hi hr (wanted_no hgi) (hai _) (fun g hg hf => ?_)
  rw [hdi]
  simp only [Act.put]
  rw [hT g]
  exact h g hg hf
theorem wpU_s {i : Nat} {oi : Oper} {n : Nat} {listed : Array Bool} {tm : Array Value} {df : List Deferred} {K : List (Nat × Obj)} (K' : List (Nat × Obj)) (hi : ops[i]? = some oi) (hr : Region.ready md ops listed = [i]) (hd : oi.dst = none) (hg : oi.guard = none)
    (hs : isStore oi = true) (hst : ∀ w, KS W0 K w → ∃ w', (execOp (Act.eval ⟨tm, df⟩) oi).run P w = .ok .skip w' ∧ KS W0 K' w')
    (h : wpU P md ops Q W0 n (listed.setIfInBounds i true) ⟨tm, df⟩ K') : wpU P md ops Q W0 (n + 1) listed ⟨tm, df⟩ K := by
  refine wpU_store hi hr hs (wanted_no hg) hst ?_
  rw [hd]
  exact h
def freeP (md : Region.Mode) (ops : Array Oper) (listed : Array Bool) (i : Nat) : Bool :=
  Region.noSelect ops && (Region.free md ops listed i && ((Region.ready md ops listed).contains i && closedB md ops listed))
theorem wpU_p {i : Nat} {oi : Oper} {v : Value} {d n : Nat} {listed : Array Bool} {tm : Array Value} {df : List Deferred} {K : List (Nat × Obj)} (hi : ops[i]? = some oi) (hd : oi.dst = some d) (hlt : Nat.blt d tm.size = true)
    (hf : freeP md ops listed i = true) (hw : Region.wanted oi (yielded ops tm) = true)
    (hy : ∀ w, (execOp (Act.eval ⟨tm, df⟩) oi).run P w = .ok (.value v) w)
    {T : Array Value} (hT : tm.setIfInBounds d v = T)
    (h : wpU P md ops Q W0 n (listed.setIfInBounds i true) ⟨T, df⟩ K) : wpU P md ops Q W0 (n + 1) listed ⟨tm, df⟩ K := by
  unfold freeP at hf
  simp only [Bool.and_eq_true] at hf
  obtain ⟨h1, h2, h3, h4⟩ := hf
  refine wpU_first (v := v) hi (Region.noSelect_spec h1) n listed _ K (closed_of h4) (Region.free_spec hi h2) (by simpa using h3)
    (.inl fun K' => .inl ⟨hw, fun w hk => Oto.of_wp hd (Nat.le_of_ble_eq_true hlt) (yb_pure (K := K') hy w hk)⟩) ?_
  rw [hd]
  subst hT
  exact h
theorem run_bin {o : Oper} {a : Act} {v vx vy : Value} {op : BinOp} {xT : TypeId} {x y : Operand} {d : TypeId}
    (ho : o.op = .binOp op xT x y d) (hx : a.eval x = vx) (hy : a.eval y = vy)
    (h : ∀ w, (do eqGuard op xT x y vx vy; binOp op xT vx vy : Sem Value).run P w = .ok v w) : ∀ w, (execOp a.eval o).run P w = .ok (.value v) w := by
  intro w
  have h0 := h w
  unfold execOp
  rw [ho]
  simp only [hx, hy]
  rw [Sem.run_bind, h0]
  rfl
theorem stepU_v {i : Nat} {oi : Oper} {v : Value} {d n : Nat} {listed : Array Bool} {tm : Array Value} {df : List Deferred} {K : List (Nat × Obj)} (hi : ops[i]? = some oi) (hd : oi.dst = some d) (hlt : Nat.blt d tm.size = true) (hg : oi.guard = none)
    (hy : ∀ w, KS W0 K w → ∀ K' : Act → World → Prop, (∀ w', Below w.heap.size w w' → K' (Act.put ⟨tm, df⟩ oi.dst v) w') → Oper.wp P oi ⟨tm, df⟩ w K' (fun _ _ _ => False))
    {T : Array Value} (hT : tm.setIfInBounds d v = T)
    (h : wpU P md ops Q W0 n (listed.setIfInBounds i true) ⟨T, df⟩ K) : StepU P md ops Q W0 n listed ⟨tm, df⟩ K i := by
  refine stepU_val hi hd hlt (wanted_no hg) hy ?_
  rw [hd]
  subst hT
  exact h
theorem stepU_s {i : Nat} {oi : Oper} {n : Nat} {listed : Array Bool} {tm : Array Value} {df : List Deferred} {K : List (Nat × Obj)} (K' : List (Nat × Obj)) (hi : ops[i]? = some oi) (hd : oi.dst = none) (hg : oi.guard = none)
    (hs : isStore oi = true) (hst : ∀ w, KS W0 K w → ∃ w', (execOp (Act.eval ⟨tm, df⟩) oi).run P w = .ok .skip w' ∧ KS W0 K' w')
    (h : wpU P md ops Q W0 n (listed.setIfInBounds i true) ⟨tm, df⟩ K') : StepU P md ops Q W0 n listed ⟨tm, df⟩ K i := by
  refine stepU_store hi hs (wanted_no hg) hst ?_
  rw [hd]
  exact h
theorem wpU_n {i : Nat} {oi : Oper} {d n : Nat} {listed : Array Bool} {tm : Array Value} {df : List Deferred} {K : List (Nat × Obj)} (hi : ops[i]? = some oi) (hd : oi.dst = some d)
    (hf : freeAll md ops listed i = true) (hw : Region.wanted oi (yielded ops tm) = false)
    {T : Array Value} (hT : tm.setIfInBounds d undef = T)
    (h : wpU P md ops Q W0 n (listed.setIfInBounds i true) ⟨T, df⟩ K) : wpU P md ops Q W0 (n + 1) listed ⟨tm, df⟩ K := by
  refine wpU_not hi hf hw ?_
  rw [hd]
  subst hT
  exact h
theorem yb_bin {o : Oper} {a : Act} {K : List (Nat × Obj)} {v vx vy : Value} {op : BinOp} {xT : TypeId} {x y : Operand} {d : TypeId}
    (ho : o.op = .binOp op xT x y d) (hx : a.eval x = vx) (hy : a.eval y = vy)
    (h : ∀ w, (do eqGuard op xT x y vx vy; binOp op xT vx vy : Sem Value).run P w = .ok v w) :
    ∀ w, KS W0 K w → ∀ K' : Act → World → Prop, (∀ w', Below w.heap.size w w' → K' (a.put o.dst v) w') → Oper.wp P o a w K' (fun _ _ _ => False) := by
  refine yb_pure fun w => ?_
  have h0 := h w
  unfold execOp
  rw [ho]
  simp only [hx, hy]
  rw [Sem.run_bind, h0]
  rfl
theorem yb_un {o : Oper} {a : Act} {K : List (Nat × Obj)} {v vx : Value} {op : UnOp} {xT : TypeId} {x : Operand}
    (ho : o.op = .unOp op xT x) (hx : a.eval x = vx)
    (h : ∀ w, (Op.unary op vx : Sem Value).run P w = .ok v w) :
    ∀ w, KS W0 K w → ∀ K' : Act → World → Prop, (∀ w', Below w.heap.size w w' → K' (a.put o.dst v) w') → Oper.wp P o a w K' (fun _ _ _ => False) := by
  refine yb_pure fun w => ?_
  have h0 := h w
  unfold execOp
  rw [ho]
  simp only [hx]
  rw [Sem.run_bind, h0]
  rfl
theorem yb_conv {o : Oper} {a : Act} {K : List (Nat × Obj)} {v vx : Value} {sT dT : TypeId} {x : Operand}
    (ho : o.op = .convert sT dT x) (hx : a.eval x = vx)
    (h : ∀ w, (convert sT dT vx : Sem Value).run P w = .ok v w) :
    ∀ w, KS W0 K w → ∀ K' : Act → World → Prop, (∀ w', Below w.heap.size w w' → K' (a.put o.dst v) w') → Oper.wp P o a w K' (fun _ _ _ => False) := by
  refine yb_pure fun w => ?_
  have h0 := h w
  unfold execOp
  rw [ho]
  simp only [hx]
  rw [Sem.run_bind, h0]
  rfl
end
end Go.Proofs.YtjmcelgdjpdacaaDoor
/- The law of regions over known blocks (Rg, Yb) once more, for values of new blocks other than pointers (slices of parts). Nothing of the program. -/
namespace Tw
open Go Go.RowKit Go.Proofs.YtjmcelgdjpdacaaDoor
section
variable {P : Program} {ops : Array Oper} {Q : Exit → Act → World → Prop} {md : Region.Mode} {W0 : Base}
def AV (P : Program) (ops : Array Oper) (o : Oper) (obj : Obj) (mk : Nat → Value) (a : Act) : Prop :=
  Region.wanted o (yielded ops a.tmps) = true ∧ ∀ w, (execOp a.eval o).run P w = .ok (.value (mk w.heap.size)) (w.alloc obj)

theorem AV.of_same {o : Oper} {obj : Obj} {mk : Nat → Value} {a a' : Act} (hy : AV P ops o obj mk a) (he : execOp a'.eval o = execOp a.eval o)
    (hw : Region.wanted o (yielded ops a'.tmps) = Region.wanted o (yielded ops a.tmps)) : AV P ops o obj mk a' := by
  unfold AV at *
  rw [he, hw]
  exact hy

def GV (P : Program) (ops : Array Oper) (W0 : Base) (K : List (Nat × Obj)) (G : Value → List (Nat × Obj) → Prop) (o : Oper) (a : Act) : Prop :=
  Region.wanted o (yielded ops a.tmps) = true ∧ ∀ w, KS W0 K w → Oto P o a.eval w (fun v w' => ∃ K', KS W0 K' w' ∧ G v K')
theorem oto_of_run {P : Program} {o : Oper} {ρ : Operand → Value} {w w' : World} {v : Value} {R : Value → World → Prop} (h : (execOp ρ o).run P w = .ok (.value v) w') (hR : R v w') : Oto P o ρ w R := by
  unfold Oto
  rw [h]
  exact hR
theorem oto_same {P : Program} {o : Oper} {ρ ρ' : Operand → Value} {w : World} {R : Value → World → Prop} (he : execOp ρ' o = execOp ρ o) (h : Oto P o ρ w R) : Oto P o ρ' w R := by
  unfold Oto at *
  rw [he]
  exact h
theorem YB.sub {K K' : List (Nat × Obj)} {o : Oper} {v : Value} {a : Act} (hy : YB P ops W0 K o v a) (hs : ∀ p ∈ K, p ∈ K') : YB P ops W0 K' o v a :=
  hy.imp (fun h => ⟨h.1, fun w hw => h.2 w (hw.sub hs)⟩) id
def wpV (P : Program) (md : Region.Mode) (ops : Array Oper) (Q : Exit → Act → World → Prop) (W0 : Base) : Nat → Array Bool → Act → List (Nat × Obj) → Prop
  | 0, listed, a, K => Region.ready md ops listed = [] ∧ ∀ w, KS W0 K w → Q .normal a w
  | n + 1, listed, a, K =>
    (Region.ready md ops listed = [] → ∀ w, KS W0 K w → Q .normal a w) ∧
    ∀ i ∈ Region.ready md ops listed, ∃ o, ops[i]? = some o ∧
      ((∃ v, YB P ops W0 K o v a ∧ wpV P md ops Q W0 n (listed.setIfInBounds i true) (a.put o.dst v) K) ∨
       (∃ obj, ∃ mk : Nat → Value, AV P ops o obj mk a ∧ ∀ g, W0.B ≤ g → (∀ p ∈ K, p.1 ≠ g) → wpV P md ops Q W0 n (listed.setIfInBounds i true) (a.put o.dst (mk g)) ((g, obj) :: K)) ∨
       (isStore o = true ∧ ∃ K', ST P ops W0 K K' o a ∧ wpV P md ops Q W0 n (listed.setIfInBounds i true) (a.put o.dst undef) K') ∨
       (∃ G : Value → List (Nat × Obj) → Prop, (isStore o = true ∨ ∀ v K', G v K' → ∀ p ∈ K, p ∈ K') ∧ GV P ops W0 K G o a ∧ ∀ v K', G v K' → wpV P md ops Q W0 n (listed.setIfInBounds i true) (a.put o.dst v) K'))

theorem wpV_sound : ∀ (n : Nat) (listed : Array Bool) (a : Act) (K : List (Nat × Obj)), wpV P md ops Q W0 n listed a K → ∀ w, KS W0 K w → wpAny P md ops Q n listed a w
  | 0, _, _, _, h, w, hw => ⟨h.1, h.2 w hw⟩
  | n + 1, listed, a, K, h, w, hw => by
    refine ⟨fun hr => h.1 hr w hw, fun i hi => ?_⟩
    obtain ⟨o, ho, hc⟩ := h.2 i hi
    refine wpOp_step ho fun K' hK' => ?_
    rcases hc with ⟨v, hy, hu⟩ | ⟨obj, mk, hal, hu⟩ | ⟨_, K2, hst, hu⟩ | ⟨G, _, hgv, hu⟩
    · rcases hy with ⟨hwn, hto⟩ | ⟨hwn, rfl⟩
      · rw [if_pos hwn]
        exact (hto w hw).wp fun u w' ⟨hu', hb⟩ => by subst hu'; exact hK' _ _ (wpV_sound n _ _ _ hu w' (hw.below hb))
      · rw [if_neg (by rw [hwn]; decide)]
        exact hK' _ _ (wpV_sound n _ _ _ hu w hw)
    · rw [if_pos hal.1]
      unfold Oper.wp
      rw [hal.2 w]
      refine hK' _ _ (wpV_sound n _ _ _ (hu w.heap.size hw.size (fun p hp e => ?_)) _ (hw.alloc obj))
      have := lt_of_block (hw.2 p hp)
      omega
    · rw [if_pos hst.1]
      obtain ⟨w', hrun, hw'⟩ := hst.2 w hw
      unfold Oper.wp
      rw [hrun]
      exact hK' _ _ (wpV_sound n _ _ _ hu w' hw')
    · rw [if_pos hgv.1]
      exact (hgv.2 w hw).wp fun v w' ⟨K2, hw', hG⟩ => hK' _ _ (wpV_sound n _ _ _ (hu v K2 hG) w' hw')


theorem wpV_first {i : Nat} {oi : Oper} {v : Value} (hi : ops[i]? = some oi) (hsel : ∀ (j : Nat) (o : Oper) cs b, ops[j]? = some o → o.op ≠ .select cs b) :
    ∀ (n : Nat) (listed : Array Bool) (a : Act) (K : List (Nat × Obj)), closed md ops listed →
      (∀ j oj, ops[j]? = some oj → j ≠ i → listed.getD j true = false → (∀ e ∈ oj.after, Region.binds md e = true → e.on ≠ i) → oi.apart ops oj = true) →
      i ∈ Region.ready md ops listed → ((∀ K', YB P ops W0 K' oi v a) ∨ (YB P ops W0 K oi v a ∧ ∀ j o, ops[j]? = some o → isStore o = true → ∃ m, waits md ops m j i = true)) →
      wpV P md ops Q W0 n (listed.setIfInBounds i true) (a.put oi.dst v) K → wpV P md ops Q W0 (n + 1) listed a K := by
  intro n
  induction n with
  | zero =>
    intro listed a K _ _ hr hy H
    refine ⟨fun h => (by rw [h] at hr; cases hr), fun j hj => ?_⟩
    by_cases hji : j = i
    · subst hji
      exact ⟨oi, hi, .inl ⟨v, hy.elim (fun h => h K) (fun h => h.1), H⟩⟩
    · have := ready_mono hj hji
      rw [H.1] at this
      cases this
  | succ n ih =>
    intro listed a K hcl hfree hr hy H
    refine ⟨fun h => (by rw [h] at hr; cases hr), fun j hj => ?_⟩
    by_cases hji : j = i
    · subst hji
      exact ⟨oi, hi, .inl ⟨v, hy.elim (fun h => h K) (fun h => h.1), H⟩⟩
    · obtain ⟨oj, hoj, hc⟩ := H.2 j (ready_mono hj hji)
      obtain ⟨hjun, oj', hoj', hall⟩ := mem_ready.1 hj
      rw [hoj] at hoj'
      cases hoj'
      have hiun := (mem_ready.1 hr).1
      have hnot : ∀ e ∈ oj.after, Region.binds md e = true → e.on ≠ i := fun e he hb heq => by
        have h1 := hall e he hb
        rw [heq, unlisted_false hiun] at h1
        cases h1
      have hap := hfree j oj hoj hji hjun hnot
      obtain ⟨h1, h2, h3⟩ := Oper.apart_spec hap
      have hfree' : ∀ k ok, ops[k]? = some ok → k ≠ i → (listed.setIfInBounds j true).getD k true = false →
          (∀ e ∈ ok.after, Region.binds md e = true → e.on ≠ i) → oi.apart ops ok = true := fun k ok hk hki hun hno => by
        refine hfree k ok hk hki ?_ hno
        by_cases hjk : j = k
        · subst hjk; exact hjun
        · rw [getD_set_ne true hjk] at hun; exact hun
      have hsi : ∀ cs b, oi.op ≠ .select cs b := fun cs b => hsel i oi cs b hi
      have hsj : ∀ cs b, oj.op ≠ .select cs b := fun cs b => hsel j oj cs b hoj
      have keep : ∀ K' u, YB P ops W0 K' oi v a → YB P ops W0 K' oi v (a.put oj.dst u) := fun K' u h => h.of_same (execOp_put oi hsi a oj.dst u h3) (wanted_put oi a oj.dst u h3)
      have eqe : execOp (a.put oi.dst v).eval oj = execOp a.eval oj := execOp_put oj hsj a oi.dst v h1
      have eqw : Region.wanted oj (yielded ops (a.put oi.dst v).tmps) = Region.wanted oj (yielded ops a.tmps) := wanted_put oj a oi.dst v h1
      refine ⟨oj, hoj, ?_⟩
      rcases hc with ⟨u, hyj, hu⟩ | ⟨obj, mk, hal, hu⟩ | ⟨hs, K2, hst2, hu⟩ | ⟨G, hs, hg2, hu⟩
      · refine .inl ⟨u, hyj.of_same eqe.symm eqw.symm, ih _ _ _ (closed_set hcl hj) hfree' (ready_mono hr (Ne.symm hji)) (hy.imp (fun h K' => keep K' u (h K')) (fun h => ⟨keep K u h.1, h.2⟩)) ?_⟩
        rw [Array.setIfInBounds_comm _ _ hji, ← Act.put_comm a v u h2]
        exact hu
      · refine .inr (.inl ⟨obj, mk, hal.of_same eqe.symm eqw.symm, fun g hg hgk => ih _ _ _ (closed_set hcl hj) hfree' (ready_mono hr (Ne.symm hji)) (hy.imp (fun h K' => keep K' _ (h K')) (fun h => ⟨(keep K _ h.1).more, h.2⟩)) ?_⟩)
        rw [Array.setIfInBounds_comm _ _ hji, ← Act.put_comm a v _ h2]
        exact hu g hg hgk
      · rcases hy with hy | ⟨hy, hwait⟩
        · refine .inr (.inr (.inl ⟨hs, K2, ⟨by rw [← eqw]; exact hst2.1, fun w hw => by rw [← eqe]; exact hst2.2 w hw⟩, ih _ _ _ (closed_set hcl hj) hfree' (ready_mono hr (Ne.symm hji)) (.inl fun K' => keep K' _ (hy K')) ?_⟩))
          rw [Array.setIfInBounds_comm _ _ hji, ← Act.put_comm a v _ h2]
          exact hu
        · obtain ⟨m, hm⟩ := hwait j oj hoj hs
          exact (not_waits hcl (unlisted_false hiun) m j oj hoj hm hall).elim
      · rcases hy with hy | ⟨hy, hwait⟩
        · refine .inr (.inr (.inr ⟨G, hs, ⟨by rw [← eqw]; exact hg2.1, fun w hw => oto_same eqe.symm (hg2.2 w hw)⟩, fun u K2 hG => ih _ _ _ (closed_set hcl hj) hfree' (ready_mono hr (Ne.symm hji)) (.inl fun K' => keep K' _ (hy K')) ?_⟩))
          rw [Array.setIfInBounds_comm _ _ hji, ← Act.put_comm a v _ h2]
          exact hu u K2 hG
        · rcases hs with hs | hm
          · obtain ⟨m, hm⟩ := hwait j oj hoj hs
            exact (not_waits hcl (unlisted_false hiun) m j oj hoj hm hall).elim
          · refine .inr (.inr (.inr ⟨G, .inr hm, ⟨by rw [← eqw]; exact hg2.1, fun w hw => oto_same eqe.symm (hg2.2 w hw)⟩, fun u K2 hG => ih _ _ _ (closed_set hcl hj) hfree' (ready_mono hr (Ne.symm hji)) (.inr ⟨keep K2 _ (hy.sub (hm u K2 hG)), hwait⟩) ?_⟩))
            rw [Array.setIfInBounds_comm _ _ hji, ← Act.put_comm a v _ h2]
            exact hu u K2 hG


theorem wpV_val {i : Nat} {oi : Oper} {v : Value} {d n : Nat} {listed : Array Bool} {a : Act} {K : List (Nat × Obj)} (hi : ops[i]? = some oi) (hd : oi.dst = some d) (hlt : Nat.blt d a.tmps.size = true)
    (hf : freeAll md ops listed i = true) (hw : Region.wanted oi (yielded ops a.tmps) = true)
    (hy : ∀ w, KS W0 K w → ∀ K' : Act → World → Prop, (∀ w', Below w.heap.size w w' → K' (a.put oi.dst v) w') → Oper.wp P oi a w K' (fun _ _ _ => False))
    (h : wpV P md ops Q W0 n (listed.setIfInBounds i true) (a.put oi.dst v) K) : wpV P md ops Q W0 (n + 1) listed a K := by
  unfold freeAll at hf
  simp only [Bool.and_eq_true] at hf
  obtain ⟨h1, h2, h3, h4, h5⟩ := hf
  exact wpV_first hi (Region.noSelect_spec h1) n listed a K (closed_of h4) (Region.free_spec hi h2) (by simpa using h3)
    (.inr ⟨.inl ⟨hw, fun w hk => Oto.of_wp hd (Nat.le_of_ble_eq_true hlt) (hy w hk)⟩, storesWait_spec h5⟩) h
theorem wpV_not {i : Nat} {oi : Oper} {n : Nat} {listed : Array Bool} {a : Act} {K : List (Nat × Obj)} (hi : ops[i]? = some oi)
    (hf : freeAll md ops listed i = true) (hw : Region.wanted oi (yielded ops a.tmps) = false)
    (h : wpV P md ops Q W0 n (listed.setIfInBounds i true) (a.put oi.dst undef) K) : wpV P md ops Q W0 (n + 1) listed a K := by
  unfold freeAll at hf
  simp only [Bool.and_eq_true] at hf
  obtain ⟨h1, h2, h3, h4, h5⟩ := hf
  exact wpV_first hi (Region.noSelect_spec h1) n listed a K (closed_of h4) (Region.free_spec hi h2) (by simpa using h3)
    (.inl fun _ => .inr ⟨hw, rfl⟩) h
theorem wpV_alloc {i : Nat} {oi : Oper} {obj : Obj} (mk : Nat → Value) {n : Nat} {listed : Array Bool} {a : Act} {K : List (Nat × Obj)} (hi : ops[i]? = some oi) (hr : Region.ready md ops listed = [i])
    (hw : Region.wanted oi (yielded ops a.tmps) = true) (hal : ∀ w, (execOp a.eval oi).run P w = .ok (.value (mk w.heap.size)) (w.alloc obj))
    (h : ∀ g, W0.B ≤ g → (∀ p ∈ K, p.1 ≠ g) → wpV P md ops Q W0 n (listed.setIfInBounds i true) (a.put oi.dst (mk g)) ((g, obj) :: K)) : wpV P md ops Q W0 (n + 1) listed a K :=
  ⟨fun h0 => (by rw [hr] at h0; cases h0), fun j hj => by
    rw [hr] at hj
    cases List.mem_singleton.1 hj
    exact ⟨oi, hi, .inr (.inl ⟨obj, mk, ⟨hw, hal⟩, h⟩)⟩⟩
theorem wpV_alloc2 {i j : Nat} {oi oj : Oper} {obi obj : Obj} (mki mkj : Nat → Value) {n : Nat} {listed : Array Bool} {a : Act} {K : List (Nat × Obj)} (hi : ops[i]? = some oi) (hj : ops[j]? = some oj) (hr : Region.ready md ops listed = [i, j])
    (hwi : Region.wanted oi (yielded ops a.tmps) = true) (hwj : Region.wanted oj (yielded ops a.tmps) = true)
    (hai : ∀ w, (execOp a.eval oi).run P w = .ok (.value (mki w.heap.size)) (w.alloc obi))
    (haj : ∀ w, (execOp a.eval oj).run P w = .ok (.value (mkj w.heap.size)) (w.alloc obj))
    (h1 : ∀ g, W0.B ≤ g → (∀ p ∈ K, p.1 ≠ g) → wpV P md ops Q W0 n (listed.setIfInBounds i true) (a.put oi.dst (mki g)) ((g, obi) :: K))
    (h2 : ∀ g, W0.B ≤ g → (∀ p ∈ K, p.1 ≠ g) → wpV P md ops Q W0 n (listed.setIfInBounds j true) (a.put oj.dst (mkj g)) ((g, obj) :: K)) : wpV P md ops Q W0 (n + 1) listed a K :=
  ⟨fun h0 => (by rw [hr] at h0; cases h0), fun k hk => by
    rw [hr] at hk
    rcases List.mem_cons.1 hk with rfl | hk
    · exact ⟨oi, hi, .inr (.inl ⟨obi, mki, ⟨hwi, hai⟩, h1⟩)⟩
    · cases List.mem_singleton.1 hk
      exact ⟨oj, hj, .inr (.inl ⟨obj, mkj, ⟨hwj, haj⟩, h2⟩)⟩⟩
theorem wpV_store {i : Nat} {oi : Oper} {n : Nat} {listed : Array Bool} {a : Act} {K K' : List (Nat × Obj)} (hi : ops[i]? = some oi) (hr : Region.ready md ops listed = [i])
    (hs : isStore oi = true) (hw : Region.wanted oi (yielded ops a.tmps) = true) (hst : ∀ w, KS W0 K w → ∃ w', (execOp a.eval oi).run P w = .ok .skip w' ∧ KS W0 K' w')
    (h : wpV P md ops Q W0 n (listed.setIfInBounds i true) (a.put oi.dst undef) K') : wpV P md ops Q W0 (n + 1) listed a K :=
  ⟨fun h0 => (by rw [hr] at h0; cases h0), fun j hj => by
    rw [hr] at hj
    cases List.mem_singleton.1 hj
    exact ⟨oi, hi, .inr (.inr (.inl ⟨hs, K', ⟨hw, hst⟩, h⟩))⟩⟩
def StepV (P : Program) (md : Region.Mode) (ops : Array Oper) (Q : Exit → Act → World → Prop) (W0 : Base) (n : Nat) (listed : Array Bool) (a : Act) (K : List (Nat × Obj)) (i : Nat) : Prop :=
  ∃ o, ops[i]? = some o ∧
      ((∃ v, YB P ops W0 K o v a ∧ wpV P md ops Q W0 n (listed.setIfInBounds i true) (a.put o.dst v) K) ∨
       (∃ obj, ∃ mk : Nat → Value, AV P ops o obj mk a ∧ ∀ g, W0.B ≤ g → (∀ p ∈ K, p.1 ≠ g) → wpV P md ops Q W0 n (listed.setIfInBounds i true) (a.put o.dst (mk g)) ((g, obj) :: K)) ∨
       (isStore o = true ∧ ∃ K', ST P ops W0 K K' o a ∧ wpV P md ops Q W0 n (listed.setIfInBounds i true) (a.put o.dst undef) K') ∨
       (∃ G : Value → List (Nat × Obj) → Prop, (isStore o = true ∨ ∀ v K', G v K' → ∀ p ∈ K, p ∈ K') ∧ GV P ops W0 K G o a ∧ ∀ v K', G v K' → wpV P md ops Q W0 n (listed.setIfInBounds i true) (a.put o.dst v) K'))
theorem stepV_val {i : Nat} {oi : Oper} {v : Value} {d n : Nat} {listed : Array Bool} {a : Act} {K : List (Nat × Obj)} (hi : ops[i]? = some oi) (hd : oi.dst = some d) (hlt : Nat.blt d a.tmps.size = true)
    (hw : Region.wanted oi (yielded ops a.tmps) = true)
    (hy : ∀ w, KS W0 K w → ∀ K' : Act → World → Prop, (∀ w', Below w.heap.size w w' → K' (a.put oi.dst v) w') → Oper.wp P oi a w K' (fun _ _ _ => False))
    (h : wpV P md ops Q W0 n (listed.setIfInBounds i true) (a.put oi.dst v) K) : StepV P md ops Q W0 n listed a K i :=
  ⟨oi, hi, .inl ⟨v, .inl ⟨hw, fun w hk => Oto.of_wp hd (Nat.le_of_ble_eq_true hlt) (hy w hk)⟩, h⟩⟩
theorem stepV_store {i : Nat} {oi : Oper} {n : Nat} {listed : Array Bool} {a : Act} {K K' : List (Nat × Obj)} (hi : ops[i]? = some oi)
    (hs : isStore oi = true) (hw : Region.wanted oi (yielded ops a.tmps) = true) (hst : ∀ w, KS W0 K w → ∃ w', (execOp a.eval oi).run P w = .ok .skip w' ∧ KS W0 K' w')
    (h : wpV P md ops Q W0 n (listed.setIfInBounds i true) (a.put oi.dst undef) K') : StepV P md ops Q W0 n listed a K i :=
  ⟨oi, hi, .inr (.inr (.inl ⟨hs, K', ⟨hw, hst⟩, h⟩))⟩
theorem stepV_alloc {i : Nat} {oi : Oper} {obj : Obj} (mk : Nat → Value) {n : Nat} {listed : Array Bool} {a : Act} {K : List (Nat × Obj)} (hi : ops[i]? = some oi)
    (hw : Region.wanted oi (yielded ops a.tmps) = true) (hal : ∀ w, (execOp a.eval oi).run P w = .ok (.value (mk w.heap.size)) (w.alloc obj))
    (h : ∀ g, W0.B ≤ g → (∀ p ∈ K, p.1 ≠ g) → wpV P md ops Q W0 n (listed.setIfInBounds i true) (a.put oi.dst (mk g)) ((g, obj) :: K)) : StepV P md ops Q W0 n listed a K i :=
  ⟨oi, hi, .inr (.inl ⟨obj, mk, ⟨hw, hal⟩, h⟩)⟩
theorem wpV_1 {i n : Nat} {listed : Array Bool} {a : Act} {K : List (Nat × Obj)} (hr : Region.ready md ops listed = [i]) (h : StepV P md ops Q W0 n listed a K i) : wpV P md ops Q W0 (n + 1) listed a K :=
  ⟨fun h0 => (by rw [hr] at h0; cases h0), fun j hj => by
    rw [hr] at hj
    cases List.mem_singleton.1 hj
    exact h⟩
theorem wpV_2 {i j n : Nat} {listed : Array Bool} {a : Act} {K : List (Nat × Obj)} (hr : Region.ready md ops listed = [i, j]) (h : StepV P md ops Q W0 n listed a K i) (h' : StepV P md ops Q W0 n listed a K j) : wpV P md ops Q W0 (n + 1) listed a K :=
  ⟨fun h0 => (by rw [hr] at h0; cases h0), fun k hk => by
    rw [hr] at hk
    rcases List.mem_cons.1 hk with rfl | hk
    · exact h
    · cases List.mem_singleton.1 hk
      exact h'⟩
theorem wpV_done {listed : Array Bool} {a : Act} {K : List (Nat × Obj)} (hr : Region.ready md ops listed = []) (h : ∀ w, KS W0 K w → Q .normal a w) : ∀ n, wpV P md ops Q W0 n listed a K
  | 0 => ⟨hr, h⟩
  | _ + 1 => ⟨fun _ => h, by rw [hr]; simp⟩
theorem wp_region_V {id : Nat} {a : Act} {w : World} (K : List (Nat × Obj)) (hm : P.follows .mixedOrders = true) (hK : KS W0 K w)
    (h : wpV P .any ops Q W0 ops.size (Array.replicate ops.size false) a K) : (Code.region id ops true).wp P Q a w :=
  wp_region_any hm (wpV_sound _ _ _ _ h _ hK.drew)

theorem wpV_v {md : Region.Mode} {ops : Array Oper} {Q : Exit → Act → World → Prop} {i : Nat} {oi : Oper} {v : Value} {d n : Nat} {listed : Array Bool} {tm : Array Value} {df : List Deferred} {K : List (Nat × Obj)} (hi : ops[i]? = some oi) (hd : oi.dst = some d) (hlt : Nat.blt d tm.size = true)
    (hf : freeAll md ops listed i = true) (hw : Region.wanted oi (yielded ops tm) = true)
    (hy : ∀ w, KS W0 K w → ∀ K' : Act → World → Prop, (∀ w', Below w.heap.size w w' → K' (Act.put ⟨tm, df⟩ oi.dst v) w') → Oper.wp P oi ⟨tm, df⟩ w K' (fun _ _ _ => False))
    {T : Array Value} (hT : tm.setIfInBounds d v = T)
    (h : wpV P md ops Q W0 n (listed.setIfInBounds i true) ⟨T, df⟩ K) : wpV P md ops Q W0 (n + 1) listed ⟨tm, df⟩ K := by
  refine wpV_val hi hd hlt hf hw hy ?_
  rw [hd]
  subst hT
  exact h
theorem wpV_mem : ∀ (n : Nat) (listed : Array Bool) (a : Act) (K K' : List (Nat × Obj)), (∀ p, p ∈ K ↔ p ∈ K') → wpV P md ops Q W0 n listed a K → wpV P md ops Q W0 n listed a K'
  | 0, _, _, _, _, hm, h => ⟨h.1, fun w hw => h.2 w (hw.sub fun p hp => (hm p).1 hp)⟩
  | n + 1, listed, a, K, K', hm, h => by
    have hs : ∀ w, KS W0 K' w → KS W0 K w := fun w hw => hw.sub fun p hp => (hm p).1 hp
    refine ⟨fun hr w hw => h.1 hr w (hs w hw), fun i hi => ?_⟩
    obtain ⟨o, ho, hc⟩ := h.2 i hi
    refine ⟨o, ho, ?_⟩
    rcases hc with ⟨v, hy, hu⟩ | ⟨obj, mk, hal, hu⟩ | ⟨hst, K2, hs2, hu⟩ | ⟨G, hst, hg2, hu⟩
    · refine .inl ⟨v, ?_, wpV_mem n _ _ K K' hm hu⟩
      rcases hy with ⟨h1, h2⟩ | h1
      · exact .inl ⟨h1, fun w hw => h2 w (hs w hw)⟩
      · exact .inr h1
    · exact .inr (.inl ⟨obj, mk, hal, fun g hg hf => wpV_mem n _ _ ((g, obj) :: K) ((g, obj) :: K') (fun p => by rw [List.mem_cons, List.mem_cons, hm p]) (hu g hg fun p hp => hf p ((hm p).1 hp))⟩)
    · exact .inr (.inr (.inl ⟨hst, K2, ⟨hs2.1, fun w hw => hs2.2 w (hs w hw)⟩, hu⟩))
    · exact .inr (.inr (.inr ⟨G, hst.imp id (fun h v K2 hG p hp => h v K2 hG p ((hm p).2 hp)), ⟨hg2.1, fun w hw => hg2.2 w (hs w hw)⟩, hu⟩))
theorem wpV_two {i j : Nat} {oi oj : Oper} {d e : Nat} {obi obj : Obj} {n : Nat} {listed : Array Bool} {tm : Array Value} {df : List Deferred} {K : List (Nat × Obj)} {T : Nat → Nat → Array Value}
    (hi : ops[i]? = some oi) (hj : ops[j]? = some oj) (hdi : oi.dst = some d) (hdj : oj.dst = some e) (hgi : oi.guard = none) (hgj : oj.guard = none)
    (hr : Region.ready md ops listed = [i, j]) (hri : Region.ready md ops (listed.setIfInBounds i true) = [j]) (hrj : Region.ready md ops (listed.setIfInBounds j true) = [i])
    (hc : (listed.setIfInBounds j true).setIfInBounds i true = (listed.setIfInBounds i true).setIfInBounds j true)
    (hai : ∀ ρ w, (execOp ρ oi).run P w = .ok (.value (.pointer (some ⟨w.heap.size, 0, none⟩))) (w.alloc obi))
    (haj : ∀ ρ w, (execOp ρ oj).run P w = .ok (.value (.pointer (some ⟨w.heap.size, 0, none⟩))) (w.alloc obj))
    (hT : ∀ g h, (tm.setIfInBounds d (.pointer (some ⟨g, 0, none⟩))).setIfInBounds e (.pointer (some ⟨h, 0, none⟩)) = T g h)
    (hT' : ∀ g h, (tm.setIfInBounds e (.pointer (some ⟨h, 0, none⟩))).setIfInBounds d (.pointer (some ⟨g, 0, none⟩)) = T g h)
    (h : ∀ g h, W0.B ≤ g → W0.B ≤ h → g ≠ h → (∀ p ∈ K, p.1 ≠ g) → (∀ p ∈ K, p.1 ≠ h) → wpV P md ops Q W0 n ((listed.setIfInBounds i true).setIfInBounds j true) ⟨T g h, df⟩ ((g, obi) :: (h, obj) :: K)) :
    wpV P md ops Q W0 (n + 1 + 1) listed ⟨tm, df⟩ K := by
  refine wpV_alloc2 (fun g => .pointer (some ⟨g, 0, none⟩)) (fun g => .pointer (some ⟨g, 0, none⟩)) hi hj hr (wanted_no hgi) (wanted_no hgj) (hai _) (haj _) (fun g hg hf => ?_) (fun g hg hf => ?_)
  · refine wpV_alloc (fun g => .pointer (some ⟨g, 0, none⟩)) hj hri (wanted_no hgj) (haj _) (fun g' hg' hf' => ?_)
    rw [hdi, hdj]
    simp only [Act.put]
    rw [hT g g']
    refine wpV_mem n _ _ _ _ (fun p => ?_) (h g g' hg hg' (fun e => hf' _ (.head _) e) hf fun p hp => hf' p (.tail _ hp))
    simp only [List.mem_cons]; exact ⟨fun | .inl h => .inr (.inl h) | .inr (.inl h) => .inl h | .inr (.inr h) => .inr (.inr h), fun | .inl h => .inr (.inl h) | .inr (.inl h) => .inl h | .inr (.inr h) => .inr (.inr h)⟩
  · refine wpV_alloc (fun g => .pointer (some ⟨g, 0, none⟩)) hi hrj (wanted_no hgi) (hai _) (fun g' hg' hf' => ?_)
    rw [hdi, hdj, hc]
    simp only [Act.put]
    rw [hT' g' g]
    exact h g' g hg' hg (fun e => hf' _ (.head _) e.symm) (fun p hp => hf' p (.tail _ hp)) hf
theorem wpV_new {i : Nat} {oi : Oper} {d : Nat} {obi : Obj} {n : Nat} {listed : Array Bool} {tm : Array Value} {df : List Deferred} {K : List (Nat × Obj)} {T : Nat → Array Value} (mk : Nat → Value)
    (hi : ops[i]? = some oi) (hdi : oi.dst = some d) (hgi : oi.guard = none)
    (hr : Region.ready md ops listed = [i])
    (hai : ∀ ρ w, (execOp ρ oi).run P w = .ok (.value (mk w.heap.size)) (w.alloc obi))
    (hT : ∀ g, (tm.setIfInBounds d (mk g)) = T g)
    (h : ∀ g, W0.B ≤ g → (∀ p ∈ K, p.1 ≠ g) → wpV P md ops Q W0 n (listed.setIfInBounds i true) ⟨T g, df⟩ ((g, obi) :: K)) :
    wpV P md ops Q W0 (n + 1) listed ⟨tm, df⟩ K := by
  refine wpV_alloc mk hi hr (wanted_no hgi) (hai _) (fun g hg hf => ?_)
  rw [hdi]
  simp only [Act.put]
  rw [hT g]
  exact h g hg hf
theorem wpV_s {i : Nat} {oi : Oper} {n : Nat} {listed : Array Bool} {tm : Array Value} {df : List Deferred} {K : List (Nat × Obj)} (K' : List (Nat × Obj)) (hi : ops[i]? = some oi) (hr : Region.ready md ops listed = [i]) (hd : oi.dst = none) (hg : oi.guard = none)
    (hs : isStore oi = true) (hst : ∀ w, KS W0 K w → ∃ w', (execOp (Act.eval ⟨tm, df⟩) oi).run P w = .ok .skip w' ∧ KS W0 K' w')
    (h : wpV P md ops Q W0 n (listed.setIfInBounds i true) ⟨tm, df⟩ K') : wpV P md ops Q W0 (n + 1) listed ⟨tm, df⟩ K := by
  refine wpV_store hi hr hs (wanted_no hg) hst ?_
  rw [hd]
  exact h
theorem wpV_p {i : Nat} {oi : Oper} {v : Value} {d n : Nat} {listed : Array Bool} {tm : Array Value} {df : List Deferred} {K : List (Nat × Obj)} (hi : ops[i]? = some oi) (hd : oi.dst = some d) (hlt : Nat.blt d tm.size = true)
    (hf : freeP md ops listed i = true) (hw : Region.wanted oi (yielded ops tm) = true)
    (hy : ∀ w, (execOp (Act.eval ⟨tm, df⟩) oi).run P w = .ok (.value v) w)
    {T : Array Value} (hT : tm.setIfInBounds d v = T)
    (h : wpV P md ops Q W0 n (listed.setIfInBounds i true) ⟨T, df⟩ K) : wpV P md ops Q W0 (n + 1) listed ⟨tm, df⟩ K := by
  unfold freeP at hf
  simp only [Bool.and_eq_true] at hf
  obtain ⟨h1, h2, h3, h4⟩ := hf
  refine wpV_first (v := v) hi (Region.noSelect_spec h1) n listed _ K (closed_of h4) (Region.free_spec hi h2) (by simpa using h3)
    (.inl fun K' => .inl ⟨hw, fun w hk => Oto.of_wp hd (Nat.le_of_ble_eq_true hlt) (yb_pure (K := K') hy w hk)⟩) ?_
  rw [hd]
  subst hT
  exact h
theorem stepV_v {i : Nat} {oi : Oper} {v : Value} {d n : Nat} {listed : Array Bool} {tm : Array Value} {df : List Deferred} {K : List (Nat × Obj)} (hi : ops[i]? = some oi) (hd : oi.dst = some d) (hlt : Nat.blt d tm.size = true) (hg : oi.guard = none)
    (hy : ∀ w, KS W0 K w → ∀ K' : Act → World → Prop, (∀ w', Below w.heap.size w w' → K' (Act.put ⟨tm, df⟩ oi.dst v) w') → Oper.wp P oi ⟨tm, df⟩ w K' (fun _ _ _ => False))
    {T : Array Value} (hT : tm.setIfInBounds d v = T)
    (h : wpV P md ops Q W0 n (listed.setIfInBounds i true) ⟨T, df⟩ K) : StepV P md ops Q W0 n listed ⟨tm, df⟩ K i := by
  refine stepV_val hi hd hlt (wanted_no hg) hy ?_
  rw [hd]
  subst hT
  exact h
theorem stepV_s {i : Nat} {oi : Oper} {n : Nat} {listed : Array Bool} {tm : Array Value} {df : List Deferred} {K : List (Nat × Obj)} (K' : List (Nat × Obj)) (hi : ops[i]? = some oi) (hd : oi.dst = none) (hg : oi.guard = none)
    (hs : isStore oi = true) (hst : ∀ w, KS W0 K w → ∃ w', (execOp (Act.eval ⟨tm, df⟩) oi).run P w = .ok .skip w' ∧ KS W0 K' w')
    (h : wpV P md ops Q W0 n (listed.setIfInBounds i true) ⟨tm, df⟩ K') : StepV P md ops Q W0 n listed ⟨tm, df⟩ K i := by
  refine stepV_store hi hs (wanted_no hg) hst ?_
  rw [hd]
  exact h
theorem wpV_n {i : Nat} {oi : Oper} {d n : Nat} {listed : Array Bool} {tm : Array Value} {df : List Deferred} {K : List (Nat × Obj)} (hi : ops[i]? = some oi) (hd : oi.dst = some d)
    (hf : freeAll md ops listed i = true) (hw : Region.wanted oi (yielded ops tm) = false)
    {T : Array Value} (hT : tm.setIfInBounds d undef = T)
    (h : wpV P md ops Q W0 n (listed.setIfInBounds i true) ⟨T, df⟩ K) : wpV P md ops Q W0 (n + 1) listed ⟨tm, df⟩ K := by
  refine wpV_not hi hf hw ?_
  rw [hd]
  subst hT
  exact h

theorem wpV_ns {i : Nat} {oi : Oper} {d : Nat} {obi : Obj} {n : Nat} {listed : Array Bool} {tm : Array Value} {df : List Deferred} {K : List (Nat × Obj)} {T : Nat → Array Value} (mk : Nat → Value)
    (hi : ops[i]? = some oi) (hdi : oi.dst = some d) (hgi : oi.guard = none)
    (hr : Region.ready md ops listed = [i])
    (hai : ∀ w, (execOp (Act.eval ⟨tm, df⟩) oi).run P w = .ok (.value (mk w.heap.size)) (w.alloc obi))
    (hT : ∀ g, (tm.setIfInBounds d (mk g)) = T g)
    (h : ∀ g, W0.B ≤ g → (∀ p ∈ K, p.1 ≠ g) → wpV P md ops Q W0 n (listed.setIfInBounds i true) ⟨T g, df⟩ ((g, obi) :: K)) :
    wpV P md ops Q W0 (n + 1) listed ⟨tm, df⟩ K := by
  refine wpV_alloc mk hi hr (wanted_no hgi) hai (fun g hg hf => ?_)
  rw [hdi]
  simp only [Act.put]
  rw [hT g]
  exact h g hg hf
theorem wpV_c {i : Nat} {oi : Oper} {d n : Nat} {listed : Array Bool} {tm : Array Value} {df : List Deferred} {K : List (Nat × Obj)} {T : Value → Array Value} {f : FuncId} {args : Array Value} (G : Value → List (Nat × Obj) → Prop)
    (hi : ops[i]? = some oi) (hdi : oi.dst = some d) (hr : Region.ready md ops listed = [i]) (hw : Region.wanted oi (yielded ops tm) = true)
    (hf : ∀ w, (execOp (Act.eval ⟨tm, df⟩) oi).run P w = .ok (.enter f args) w)
    (hc : ∀ w, KS W0 K w → Calls P f args w fun e w' => ∃ v K', e = .returned v ∧ KS W0 K' w' ∧ G v K') (hm : ∀ v K', G v K' → ∀ p ∈ K, p ∈ K')
    (hT : ∀ v, tm.setIfInBounds d v = T v)
    (h : ∀ v K', G v K' → wpV P md ops Q W0 n (listed.setIfInBounds i true) ⟨T v, df⟩ K') : wpV P md ops Q W0 (n + 1) listed ⟨tm, df⟩ K :=
  ⟨fun h0 => (by rw [hr] at h0; cases h0), fun j hj => by
    rw [hr] at hj
    cases List.mem_singleton.1 hj
    refine ⟨oi, hi, .inr (.inr (.inr ⟨G, .inr hm, ⟨hw, fun w hK => ?_⟩, fun v K' hG => ?_⟩))⟩
    · unfold Oto
      rw [hf w]
      exact (hc w hK).mono fun e w' ⟨v, K', he, hk, hG⟩ => ⟨v, he, K', hk, hG⟩
    · rw [hdi]
      simp only [Act.put]
      rw [hT v]
      exact h v K' hG⟩
theorem vv {i : Nat} {oi : Oper} {v : Value} {d n : Nat} {listed : Array Bool} {tm : Array Value} {df : List Deferred} {K : List (Nat × Obj)} {T : Array Value} (hi : ops[i]? = some oi) (hd : oi.dst = some d) (hw : Region.wanted oi (yielded ops tm) = true)
    (hy : ∀ w, KS W0 K w → ∀ K' : Act → World → Prop, (∀ w', Below w.heap.size w w' → K' (Act.put ⟨tm, df⟩ oi.dst v) w') → Oper.wp P oi ⟨tm, df⟩ w K' (fun _ _ _ => False))
    (h : wpV P md ops Q W0 n (listed.setIfInBounds i true) ⟨T, df⟩ K) (hlt : Nat.blt d tm.size = true := by kernel_rfl) (hf : freeAll md ops listed i = true := by kernel_rfl) (hT : tm.setIfInBounds d v = T := by simp only [List.setIfInBounds_toArray, List.set_cons_succ, List.set_cons_zero] <;> rfl) : wpV P md ops Q W0 (n + 1) listed ⟨tm, df⟩ K := wpV_v hi hd hlt hf hw hy hT h
theorem vp {i : Nat} {oi : Oper} {v : Value} {d n : Nat} {listed : Array Bool} {tm : Array Value} {df : List Deferred} {K : List (Nat × Obj)} {T : Array Value} (hi : ops[i]? = some oi) (hd : oi.dst = some d) (hw : Region.wanted oi (yielded ops tm) = true)
    (hy : ∀ w, (execOp (Act.eval ⟨tm, df⟩) oi).run P w = .ok (.value v) w)
    (h : wpV P md ops Q W0 n (listed.setIfInBounds i true) ⟨T, df⟩ K) (hlt : Nat.blt d tm.size = true := by kernel_rfl) (hf : freeP md ops listed i = true := by kernel_rfl) (hT : tm.setIfInBounds d v = T := by simp only [List.setIfInBounds_toArray, List.set_cons_succ, List.set_cons_zero] <;> rfl) : wpV P md ops Q W0 (n + 1) listed ⟨tm, df⟩ K := wpV_p hi hd hlt hf hw hy hT h
theorem vm {i : Nat} {oi : Oper} {v : Value} {d n : Nat} {listed : Array Bool} {tm : Array Value} {df : List Deferred} {K : List (Nat × Obj)} {T : Array Value} (hi : ops[i]? = some oi) (hd : oi.dst = some d) (hw : Region.wanted oi (yielded ops tm) = true)
    (h : wpV P md ops Q W0 n (listed.setIfInBounds i true) ⟨T, df⟩ K) (hy : ∀ w, (execOp (Act.eval ⟨tm, df⟩) oi).run P w = .ok (.value v) w := by intro _; kernel_rfl) (hlt : Nat.blt d tm.size = true := by kernel_rfl) (hf : freeP md ops listed i = true := by kernel_rfl) (hT : tm.setIfInBounds d v = T := by simp only [List.setIfInBounds_toArray, List.set_cons_succ, List.set_cons_zero] <;> rfl) : wpV P md ops Q W0 (n + 1) listed ⟨tm, df⟩ K := wpV_p hi hd hlt hf hw hy hT h
theorem vn {i : Nat} {oi : Oper} {d n : Nat} {listed : Array Bool} {tm : Array Value} {df : List Deferred} {K : List (Nat × Obj)} {T : Array Value} (hi : ops[i]? = some oi) (hd : oi.dst = some d)
    (h : wpV P md ops Q W0 n (listed.setIfInBounds i true) ⟨T, df⟩ K) (hf : freeAll md ops listed i = true := by kernel_rfl) (hw : Region.wanted oi (yielded ops tm) = false := by kernel_rfl) (hT : tm.setIfInBounds d undef = T := by simp only [List.setIfInBounds_toArray, List.set_cons_succ, List.set_cons_zero] <;> rfl) : wpV P md ops Q W0 (n + 1) listed ⟨tm, df⟩ K := wpV_n hi hd hf hw hT h
end
end Tw
/- The law of regions over known blocks for statements that do not draw their order. Nothing of the program. -/
namespace Tw
open Go Go.RowKit Go.Proofs.YtjmcelgdjpdacaaDoor
section
variable {P : Program} {ops : Array Oper} {Q : Exit → Act → World → Prop} {W0 : Base}
structure wpL (P : Program) (ops : Array Oper) (Q : Exit → Act → World → Prop) (W0 : Base) (rest : List Oper) (a : Act) (K : List (Nat × Obj)) : Prop where
  of : ∀ w, KS W0 K w → wpList P ops Q rest a w
theorem wp_region_L {id : Nat} {l : List Oper} {a : Act} {w : World} (K : List (Nat × Obj)) (hK : KS W0 K w) (h : wpL P l.toArray Q W0 l a K) : (Code.region id l.toArray false).wp P Q a w :=
  wp_region_lit (h.of w hK)
theorem wpL_v {rest : List Oper} {oi : Oper} {v : Value} {d : Nat} {tm : Array Value} {df : List Deferred} {K : List (Nat × Obj)} (hd : oi.dst = some d) (hlt : Nat.blt d tm.size = true) (hw : Region.wanted oi (yielded ops tm) = true)
    (hy : ∀ w, KS W0 K w → ∀ K' : Act → World → Prop, (∀ w', Below w.heap.size w w' → K' (Act.put ⟨tm, df⟩ oi.dst v) w') → Oper.wp P oi ⟨tm, df⟩ w K' (fun _ _ _ => False))
    {T : Array Value} (hT : tm.setIfInBounds d v = T) (h : wpL P ops Q W0 rest ⟨T, df⟩ K) : wpL P ops Q W0 (oi :: rest) ⟨tm, df⟩ K := by
  refine ⟨fun w hK => ?_⟩
  refine wpList_step fun K' hK' => ?_
  rw [if_pos hw]
  exact (Oto.of_wp (a := ⟨tm, df⟩) hd (Nat.le_of_ble_eq_true hlt) (hy w hK)).wp fun u w' ⟨hu, hb⟩ => by
    subst hu
    refine hK' _ _ ?_
    rw [hd]
    subst hT
    exact h.of w' (hK.below hb)
theorem wpL_p {rest : List Oper} {oi : Oper} {v : Value} {d : Nat} {tm : Array Value} {df : List Deferred} {K : List (Nat × Obj)} (hd : oi.dst = some d) (hlt : Nat.blt d tm.size = true) (hw : Region.wanted oi (yielded ops tm) = true)
    (hy : ∀ w, (execOp (Act.eval ⟨tm, df⟩) oi).run P w = .ok (.value v) w)
    {T : Array Value} (hT : tm.setIfInBounds d v = T) (h : wpL P ops Q W0 rest ⟨T, df⟩ K) : wpL P ops Q W0 (oi :: rest) ⟨tm, df⟩ K :=
  wpL_v hd hlt hw (yb_pure hy) hT h
theorem wpL_n {rest : List Oper} {oi : Oper} {d : Nat} {tm : Array Value} {df : List Deferred} {K : List (Nat × Obj)} (hd : oi.dst = some d) (hw : Region.wanted oi (yielded ops tm) = false)
    {T : Array Value} (hT : tm.setIfInBounds d undef = T) (h : wpL P ops Q W0 rest ⟨T, df⟩ K) : wpL P ops Q W0 (oi :: rest) ⟨tm, df⟩ K := by
  refine ⟨fun w hK => ?_⟩
  refine wpList_step fun K' hK' => ?_
  rw [if_neg (by rw [hw]; decide)]
  refine hK' _ _ ?_
  rw [hd]
  subst hT
  exact h.of w hK
theorem wpL_new {rest : List Oper} {oi : Oper} {d : Nat} {obi : Obj} {tm : Array Value} {df : List Deferred} {K : List (Nat × Obj)} {T : Nat → Array Value} (mk : Nat → Value)
    (hdi : oi.dst = some d) (hgi : oi.guard = none)
    (hai : ∀ w, (execOp (Act.eval ⟨tm, df⟩) oi).run P w = .ok (.value (mk w.heap.size)) (w.alloc obi))
    (hT : ∀ g, (tm.setIfInBounds d (mk g)) = T g)
    (h : ∀ g, W0.B ≤ g → (∀ p ∈ K, p.1 ≠ g) → wpL P ops Q W0 rest ⟨T g, df⟩ ((g, obi) :: K)) : wpL P ops Q W0 (oi :: rest) ⟨tm, df⟩ K := by
  refine ⟨fun w hK => ?_⟩
  refine wpList_step fun K' hK' => ?_
  rw [if_pos (wanted_no hgi)]
  unfold Oper.wp
  rw [hai w]
  refine hK' _ _ ?_
  rw [hdi]
  simp only [Act.put]
  rw [hT w.heap.size]
  exact (h w.heap.size hK.size (fun p hp => by have := lt_of_block (hK.2 p hp); omega)).of _ (hK.alloc obi)
theorem wpL_s {rest : List Oper} {oi : Oper} {tm : Array Value} {df : List Deferred} {K : List (Nat × Obj)} (K' : List (Nat × Obj)) (hd : oi.dst = none) (hg : oi.guard = none)
    (hst : ∀ w, KS W0 K w → ∃ w', (execOp (Act.eval ⟨tm, df⟩) oi).run P w = .ok .skip w' ∧ KS W0 K' w')
    (h : wpL P ops Q W0 rest ⟨tm, df⟩ K') : wpL P ops Q W0 (oi :: rest) ⟨tm, df⟩ K := by
  refine ⟨fun w hK => ?_⟩
  obtain ⟨w', hrun, hw'⟩ := hst w hK
  refine wpList_step fun K2 hK2 => ?_
  rw [if_pos (wanted_no hg)]
  unfold Oper.wp
  rw [hrun]
  refine hK2 _ _ ?_
  rw [hd]
  exact h.of w' hw'
theorem wpL_done {a : Act} {K : List (Nat × Obj)} (h : ∀ w, KS W0 K w → Q .normal a w) : wpL P ops Q W0 [] a K := ⟨fun w hK => wpList_nil (h w hK)⟩
theorem wpL_c {rest : List Oper} {oi : Oper} {d : Nat} {tm : Array Value} {df : List Deferred} {K : List (Nat × Obj)} {T : Value → Array Value} {f : FuncId} {args : Array Value} (G : Value → List (Nat × Obj) → Prop)
    (hdi : oi.dst = some d) (hw : Region.wanted oi (yielded ops tm) = true)
    (hf : ∀ w, (execOp (Act.eval ⟨tm, df⟩) oi).run P w = .ok (.enter f args) w)
    (hc : ∀ w, KS W0 K w → Calls P f args w fun e w' => ∃ v K', e = .returned v ∧ KS W0 K' w' ∧ G v K')
    (hT : ∀ v, tm.setIfInBounds d v = T v)
    (h : ∀ v K', G v K' → wpL P ops Q W0 rest ⟨T v, df⟩ K') : wpL P ops Q W0 (oi :: rest) ⟨tm, df⟩ K := by
  refine ⟨fun w hK => ?_⟩
  refine wpList_step fun K2 hK2 => ?_
  rw [if_pos hw]
  unfold Oper.wp
  rw [hf w]
  refine (hc w hK).mono fun e w' ⟨v, K', he, hk, hG⟩ => ?_
  subst he
  refine hK2 _ _ ?_
  rw [hdi]
  simp only [Act.put]
  rw [hT v]
  exact (h v K' hG).of w' hk
theorem lv {rest : List Oper} {oi : Oper} {v : Value} {d : Nat} {tm : Array Value} {df : List Deferred} {K : List (Nat × Obj)} {T : Array Value} (hd : oi.dst = some d) (hw : Region.wanted oi (yielded ops tm) = true)
    (hy : ∀ w, KS W0 K w → ∀ K' : Act → World → Prop, (∀ w', Below w.heap.size w w' → K' (Act.put ⟨tm, df⟩ oi.dst v) w') → Oper.wp P oi ⟨tm, df⟩ w K' (fun _ _ _ => False))
    (h : wpL P ops Q W0 rest ⟨T, df⟩ K) (hlt : Nat.blt d tm.size = true := by kernel_rfl) (hT : tm.setIfInBounds d v = T := by simp only [List.setIfInBounds_toArray, List.set_cons_succ, List.set_cons_zero] <;> rfl) : wpL P ops Q W0 (oi :: rest) ⟨tm, df⟩ K := wpL_v hd hlt hw hy hT h
theorem lp {rest : List Oper} {oi : Oper} {v : Value} {d : Nat} {tm : Array Value} {df : List Deferred} {K : List (Nat × Obj)} {T : Array Value} (hd : oi.dst = some d) (hw : Region.wanted oi (yielded ops tm) = true)
    (hy : ∀ w, (execOp (Act.eval ⟨tm, df⟩) oi).run P w = .ok (.value v) w)
    (h : wpL P ops Q W0 rest ⟨T, df⟩ K) (hlt : Nat.blt d tm.size = true := by kernel_rfl) (hT : tm.setIfInBounds d v = T := by simp only [List.setIfInBounds_toArray, List.set_cons_succ, List.set_cons_zero] <;> rfl) : wpL P ops Q W0 (oi :: rest) ⟨tm, df⟩ K := wpL_p hd hlt hw hy hT h
theorem lm {rest : List Oper} {oi : Oper} {v : Value} {d : Nat} {tm : Array Value} {df : List Deferred} {K : List (Nat × Obj)} {T : Array Value} (hd : oi.dst = some d) (hw : Region.wanted oi (yielded ops tm) = true)
    (h : wpL P ops Q W0 rest ⟨T, df⟩ K) (hy : ∀ w, (execOp (Act.eval ⟨tm, df⟩) oi).run P w = .ok (.value v) w := by intro _; kernel_rfl) (hlt : Nat.blt d tm.size = true := by kernel_rfl) (hT : tm.setIfInBounds d v = T := by simp only [List.setIfInBounds_toArray, List.set_cons_succ, List.set_cons_zero] <;> rfl) : wpL P ops Q W0 (oi :: rest) ⟨tm, df⟩ K := wpL_p hd hlt hw hy hT h
theorem ln {rest : List Oper} {oi : Oper} {d : Nat} {tm : Array Value} {df : List Deferred} {K : List (Nat × Obj)} {T : Array Value} (hd : oi.dst = some d)
    (h : wpL P ops Q W0 rest ⟨T, df⟩ K) (hw : Region.wanted oi (yielded ops tm) = false := by kernel_rfl) (hT : tm.setIfInBounds d undef = T := by simp only [List.setIfInBounds_toArray, List.set_cons_succ, List.set_cons_zero] <;> rfl) : wpL P ops Q W0 (oi :: rest) ⟨tm, df⟩ K := wpL_n hd hw hT h
end
end Tw
/- What holds of a region outside of a round holds in a round, too, at the wide fence. Nothing of the program. -/
namespace Tw
open Go Go.RowKit Go.Proofs.YtjmcelgdjpdacaaDoor
abbrev FX (r : Option Nat) : Fence := { fn := fun _ => True, depth := none, alive := false, round := r }
theorem calls_round {P : Program} {n : Nat} {l : Option Nat} {f : FuncId} {args : Array Value} {w : World} {R : Ending → World → Prop} (h : Calls P f args w R) : CallsIn (FX l) n P f args w R := (callsIn_wide (n := n)).2 h
theorem rows_round {P : Program} {n : Nat} {l : Option Nat} {row : String} {args : Array Value} {w : World} {R : Value → World → Prop} (h : Rows P row args w R) : RowsIn (FX l) n P row args w R := fun c cs _ =>
  let ⟨v, w', r, s⟩ := h c cs
  ⟨v, w', r, (StepsIn.of_steps s).mono fun m _ => fenced_wide P m⟩
def onlyN (Q : Exit → Act → World → Prop) : Exit → Act → World → Prop
  | .normal, a, w => Q .normal a w
  | _, _, _ => False
theorem lets_onlyN {Q : Exit → Act → World → Prop} (h : LetsOut (onlyN Q)) : False := by
  obtain ⟨_, _, h⟩ := h
  exact h
theorem oper_round {P : Program} {n : Nat} {l : Option Nat} {o : Oper} {a : Act} {w : World} {K : Act → World → Prop} {Q E : Exit → Act → World → Prop} (hdef : ∀ c, o.op ≠ .defer c) (h : o.wp P a w K (onlyN E)) : o.wpIn (FX l) n P a w K Q := by
  refine ⟨fun _ _ => trivial, ?_⟩
  rw [Oper.semAt_eq _ _ _ hdef]
  unfold Oper.wp at h
  generalize (execOp a.eval o).run P w = r at h ⊢
  cases r with
  | ok nx w' =>
    cases nx with
    | value v => exact h
    | skip => exact h
    | defer d => exact h
    | enter f args =>
      refine ⟨(fun hh => by cases hh), calls_round (Calls.mono h ?_)⟩
      intro e w'' hr
      cases e with
      | returned v => exact hr
      | panicked c => exact hr.elim
      | outgrown => exact (lets_onlyN hr).elim
    | row row args => exact ⟨(fun hh => by cases hh), rows_round h⟩
    | _ => exact h.elim
  | halt s w' =>
    cases s with
    | panic v => exact h.elim
    | _ => exact h.elim
def noDefer (o : Oper) : Bool := match o.op with | .defer _ => false | _ => true
theorem noDefer_ne {o : Oper} (h : noDefer o = true) : ∀ c, o.op ≠ .defer c := fun c e => by unfold noDefer at h; rw [e] at h; cases h
theorem list_round {P : Program} {n : Nat} {l : Option Nat} {ops : Array Oper} {Q : Exit → Act → World → Prop} : ∀ (rest : List Oper) (a : Act) (w : World), rest.all noDefer = true → wpList P ops (onlyN Q) rest a w → wpListIn (FX l) n P ops Q rest a w
  | [], _, _, _, h => h
  | o :: rest, a, w, hd, h => by
    simp only [List.all_cons, Bool.and_eq_true] at hd
    unfold wpList at h
    unfold wpListIn
    split
    · rename_i hw
      rw [if_pos hw] at h
      rcases h with h | ⟨_, h⟩
      · exact Oper.wpIn_mono (fun a w hh => list_round rest a w hd.2 hh) (oper_round (noDefer_ne hd.1) h)
      · exact (lets_onlyN h).elim
    · rename_i hw
      rw [if_neg hw] at h
      exact ⟨fun _ _ => trivial, list_round rest _ w hd.2 h⟩
section
variable {P : Program} {W0 : Base} {n : Nat} {r : Option Nat}
theorem wp_region_LI {id : Nat} {l : List Oper} {Q : Exit → Act → World → Prop} {a : Act} {w : World} (K : List (Nat × Obj)) (hd : l.all noDefer = true) (hK : KS W0 K w) (h : wpL P l.toArray (onlyN Q) W0 l a K) : (Code.region id l.toArray false).wpIn (FX r) n P Q a w :=
  wpIn_region_lit (list_round l a w hd (h.of w hK))
theorem any_round {ops : Array Oper} {md : Region.Mode} {Q : Exit → Act → World → Prop} (hd : ∀ (i : Nat) (o : Oper), ops[i]? = some o → noDefer o = true) : ∀ (fuel : Nat) (listed : Array Bool) (a : Act) (w : World), wpAny P md ops (onlyN Q) fuel listed a w → wpAnyIn (FX r) n P md ops Q fuel listed a w
  | 0, _, _, _, h => ⟨h.1, h.2⟩
  | fuel + 1, listed, a, w, h => by
    refine ⟨fun hr => h.1 hr, fun i hi => ?_⟩
    have hh := h.2 i hi
    unfold wpOp at hh
    unfold wpOpIn
    cases ho : ops[i]? with
    | none => rw [ho] at hh; exact any_round hd fuel _ a w hh
    | some o =>
      rw [ho] at hh
      simp only at hh ⊢
      split
      · rename_i hw
        rw [if_pos hw] at hh
        rcases hh with hh | ⟨_, hh⟩
        · exact Oper.wpIn_mono (fun a w hx => any_round hd fuel _ a w hx) (oper_round (noDefer_ne (hd i o ho)) hh)
        · exact (lets_onlyN hh).elim
      · rename_i hw
        rw [if_neg hw] at hh
        exact ⟨fun _ _ => trivial, any_round hd fuel _ _ w hh⟩
theorem wp_region_VI {id : Nat} {ops : Array Oper} {Q : Exit → Act → World → Prop} {a : Act} {w : World} (K : List (Nat × Obj)) (hm : P.follows .mixedOrders = true) (hd : ops.toList.all noDefer = true) (hK : KS W0 K w)
    (h : wpV P .any ops (onlyN Q) W0 ops.size (Array.replicate ops.size false) a K) : (Code.region id ops true).wpIn (FX r) n P Q a w :=
  wpIn_region_any hm (any_round (fun i o ho => List.all_eq_true.1 hd o (Array.mem_toList_iff.2 (Array.mem_of_getElem? ho))) _ _ _ _ (wpV_sound _ _ _ _ h _ hK.drew))
end
end Tw
/- Spans in memory, and numbers of 64 bits in regions over known blocks. -/
namespace Go.Proofs.YtjmcelgdjpdacaaDoor
open Go.RowKit Tw
theorem run_leqI {x y : Int} {b : Bool} (h : decide (x ≤ y) = b) {px py : Operand} (w : World) : (do eqGuard .leq 3 px py (.int .i64 x) (.int .i64 y); binOp .leq 3 (.int .i64 x) (.int .i64 y) : Sem Value).run Tryd.prog w = .ok (.bool b) w := by
  subst h; go_simp
theorem run_lssI {x y : Int} {b : Bool} (h : decide (x < y) = b) {px py : Operand} (w : World) : (do eqGuard .lss 3 px py (.int .i64 x) (.int .i64 y); binOp .lss 3 (.int .i64 x) (.int .i64 y) : Sem Value).run Tryd.prog w = .ok (.bool b) w := by
  subst h; go_simp
theorem run_geqI {x y : Int} {b : Bool} (h : decide (y ≤ x) = b) {px py : Operand} (w : World) : (do eqGuard .geq 3 px py (.int .i64 x) (.int .i64 y); binOp .geq 3 (.int .i64 x) (.int .i64 y) : Sem Value).run Tryd.prog w = .ok (.bool b) w := by
  subst h; go_simp
theorem run_gtrI {x y : Int} {b : Bool} (h : decide (y < x) = b) {px py : Operand} (w : World) : (do eqGuard .gtr 3 px py (.int .i64 x) (.int .i64 y); binOp .gtr 3 (.int .i64 x) (.int .i64 y) : Sem Value).run Tryd.prog w = .ok (.bool b) w := by
  subst h; go_simp
theorem wrap_in {z : Int} (h : -9223372036854775808 ≤ z ∧ z ≤ 9223372036854775807) : IntKind.i64.wrap z = z := by
  simp only [IntKind.wrap_i64]
  try unfold wrap64
  omega
theorem run_addI {x y z : Int} (h : x + y = z) (hr : -9223372036854775808 ≤ z ∧ z ≤ 9223372036854775807) {px py : Operand} (w : World) : (do eqGuard .add 3 px py (.int .i64 x) (.int .i64 y); binOp .add 3 (.int .i64 x) (.int .i64 y) : Sem Value).run Tryd.prog w = .ok (.int .i64 z) w := by
  subst h
  have := wrap_in hr
  go_simp
theorem run_subI {x y z : Int} (h : x - y = z) (hr : -9223372036854775808 ≤ z ∧ z ≤ 9223372036854775807) {px py : Operand} (w : World) : (do eqGuard .sub 3 px py (.int .i64 x) (.int .i64 y); binOp .sub 3 (.int .i64 x) (.int .i64 y) : Sem Value).run Tryd.prog w = .ok (.int .i64 z) w := by
  subst h
  have := wrap_in hr
  go_simp
theorem run_maxI {o : Oper} {a : Act} {x y z : Int} {px py : Operand} {tx ty : TypeId} {w : World} (ho : o.op = .call { callee := .builtin .max, args := #[px, py], argTypes := #[tx, ty] }) (hp : #[px, py].map a.eval = #[.int .i64 x, .int .i64 y]) (hm : max x y = z) : (execOp a.eval o).run Tryd.prog w = .ok (.value (.int .i64 z)) w := by
  subst hm
  go_simp
  split <;> omega
theorem run_minI {o : Oper} {a : Act} {x y z : Int} {px py : Operand} {tx ty : TypeId} {w : World} (ho : o.op = .call { callee := .builtin .min, args := #[px, py], argTypes := #[tx, ty] }) (hp : #[px, py].map a.eval = #[.int .i64 x, .int .i64 y]) (hm : min x y = z) : (execOp a.eval o).run Tryd.prog w = .ok (.value (.int .i64 z)) w := by
  subst hm
  go_simp
  split <;> omega
theorem size_span : (Tryd.prog.info? 41).map (·.size) = some 2 := by kernel_rfl
theorem run_idx {o : Oper} {a : Act} {b off n cap k : Nat} {px py : Operand} (ho : o.op = .indexAddr 22 px py) (hx : a.eval px = .slice (some ⟨b, off, none⟩) n cap) (hy : a.eval py = .int .i64 (k : Int)) (hk : k < n) (w : World) : (execOp a.eval o).run Tryd.prog w = .ok (.value (.pointer (some ⟨b, off + 2 * k, none⟩))) w := by
  unfold execOp
  rw [ho]
  simp only [hx, hy]
  have h1 : (k : Int) < (n : Int) := by omega
  go_simp
theorem yb_loadc {P : Program} {W0 : Base} {o : Oper} {a : Act} {K : List (Nat × Obj)} {ty t : TypeId} {x : Operand} {g off : Nat} {cs : Array Value} {v : Value} {d : TypeDesc} (ho : o.op = .load ty x) (hx : a.eval x = .pointer (some ⟨g, off, none⟩))
    (hm : (g, .cells cs t (0, 0)) ∈ K) (hu : P.underlying ty = some d) (hd : aggD d = false) (hv : cs[off]? = some v) :
    ∀ w, KS W0 K w → ∀ K' : Act → World → Prop, (∀ w', Below w.heap.size w w' → K' (a.put o.dst v) w') → Oper.wp P o a w K' (fun _ _ _ => False) := by
  intro w hw K' hk
  have hc : w.cell? ⟨g, off, none⟩ = some v := by rw [cell_of_row w g off cs t (0, 0) (hw.2 _ hm)]; exact hv
  have hagg : (isAgg ty).run P w = .ok false w := by
    unfold isAgg
    rw [Sem.run_bind, run_underlying hu w]
    unfold aggD at hd
    cases d <;> simp_all
  have hr : (loadVar ty ⟨g, off, none⟩).run P w = .ok v w := by
    simp [loadVar, Sem.run_bind, hagg, hc]
  unfold Oper.wp execOp
  simp only [ho, hx, Instr.loadAt, Instr.sureAddr, Sem.run_bind, Sem.run_pure, Result.andThen_ok, hr]
  exact hk w (Below.refl _ _)
theorem yb_load2 {W0 : Base} {o : Oper} {a : Act} {K : List (Nat × Obj)} {x : Operand} {b off : Nat} {f t : Value} (ho : o.op = .load 41 x) (hx : a.eval x = .pointer (some ⟨b, off, none⟩))
    (hf : W0.w.cell? ⟨b, off, none⟩ = some f) (ht : W0.w.cell? ⟨b, off + 1, none⟩ = some t) (hlt : b < W0.B) :
    ∀ w, KS W0 K w → ∀ K' : Act → World → Prop, (∀ w', Below w.heap.size w w' → K' (a.put o.dst (.agg #[f, t])) w') → Oper.wp Tryd.prog o a w K' (fun _ _ _ => False) := by
  intro w hw K' hk
  have h0 : w.cell? ⟨b, off, none⟩ = some f := by rw [hw.1.cell (p := ⟨b, off, none⟩) hlt]; exact hf
  have h1 : w.cell? ⟨b, off + 1, none⟩ = some t := by rw [hw.1.cell (p := ⟨b, off + 1, none⟩) hlt]; exact ht
  have hr : (loadVar 41 ⟨b, off, none⟩).run Tryd.prog w = .ok (.agg #[f, t]) w := by
    go_simp
  unfold Oper.wp execOp
  simp only [ho, hx, Instr.loadAt, Instr.sureAddr, Sem.run_bind, Sem.run_pure, Result.andThen_ok, hr]
  exact hk w (Below.refl _ _)
theorem st_span {W0 : Base} {o : Oper} {a : Act} {K K' : List (Nat × Obj)} {x y : Operand} {g : Nat} {f t f' t' : Int} (ho : o.op = .store 41 x y) (hx : a.eval x = .pointer (some ⟨g, 0, none⟩)) (hv : a.eval y = .agg #[.int .i64 f, .int .i64 t])
    (hm : (g, .cells #[.int .i64 f', .int .i64 t'] 41 (0, 0)) ∈ K) (hB : W0.B ≤ g) (hK : ∀ p ∈ K', p = (g, .cells #[.int .i64 f, .int .i64 t] 41 (0, 0)) ∨ (p ∈ K ∧ p.1 ≠ g)) : ∀ w, KS W0 K w → ∃ w', (execOp a.eval o).run Tryd.prog w = .ok .skip w' ∧ KS W0 K' w' :=
  st_row ho hx hv hm hB (by rw [size_span]; rfl) (by simp [Value.cells]) (by intro v hv; simp [Value.cells] at hv; rcases hv with rfl | rfl <;> rfl) rfl hK
theorem ks_none {w : Base} {W : World} {K : List (Nat × Obj)} (h : KS w K W) : KS w [] W := ⟨h.1, fun _ hp => by cases hp⟩
theorem inBlock_ret (id : Nat) (Q : Exit → Act → World → Prop) (a : Act) (w : World) : Exit.inBlock id Q .ret a w = Q .ret a w := rfl
theorem then_ret (f : Act → World → Prop) (Q : Exit → Act → World → Prop) (a : Act) (w : World) : Exit.then f Q .ret a w = Q .ret a w := rfl
end Go.Proofs.YtjmcelgdjpdacaaDoor
/- append of one span to a list of spans that the function made. -/
namespace Go.Proofs.YtjmcelgdjpdacaaDoor
open Go.RowKit Tw
def Row (cur : Array Value) (cap n : Nat) (xs : List Value) : Prop := cur.size = cap * 2 ∧ cap ≤ maxLen ∧ n ≤ cap ∧ xs.length = n * 2 ∧ cur.toList.take (n * 2) = xs
def AppG (W0 : Base) (K0 : List (Nat × Obj)) (n : Nat) (ys : List Value) (v : Value) (K' : List (Nat × Obj)) : Prop :=
  ∃ g cap cur, v = .slice (some ⟨g, 0, none⟩) n cap ∧ W0.B ≤ g ∧ (∀ p ∈ K0, p.1 ≠ g) ∧ Row cur cap n ys ∧ K' = (g, .cells cur 41 (0, 0)) :: K0
theorem span_info : ∃ i, Tryd.prog.info? 41 = some i ∧ i.zero = some (.agg #[.int .i64 0, .int .i64 0]) ∧ i.size = 2 ∧ i.bytes = 16 := by
  have h : (Tryd.prog.info? 41).map (fun i => (i.zero, i.size, i.bytes)) = some (some (.agg #[.int .i64 0, .int .i64 0]), 2, 16) := by kernel_rfl
  cases hi : Tryd.prog.info? 41 with
  | none => rw [hi] at h; cases h
  | some i =>
    rw [hi] at h
    simp only [Option.map_some, Option.some.injEq, Prod.mk.injEq] at h
    exact ⟨i, rfl, h.1, h.2.1, h.2.2⟩
theorem new_cells {w : World} {h : Nat} {f t : Value} (hh : w.heap[h]? = some (.cells #[f, t] 41 (0, 0))) : ∀ (j : Nat) (u : Value), [f, t][j]? = some u → w.cell? ((⟨h, 0, none⟩ : Addr).add j) = some u := by
  intro j u hu
  have hadd : (⟨h, 0, none⟩ : Addr).add j = ⟨h, 0 + j, none⟩ := by unfold Addr.add; split <;> simp_all
  rw [hadd, Nat.zero_add, cell_of_row w h j #[f, t] _ (0, 0) hh]
  simpa using hu
theorem row_new {olds news : List Value} {n cap : Nat} (z : Array Value) (hz : z.size = 2) (ho : olds.length = n * 2) (hn : news.length = 2) (hc : n + 1 ≤ cap) (hm : cap ≤ maxLen) : Row (olds.toArray ++ news.toArray ++ Builtin.zeroCells z (cap - (n + 1))) cap (n + 1) (olds ++ news) := by
  refine ⟨?_, hm, hc, by simp; omega, ?_⟩
  · simp only [Array.size_append, List.size_toArray, size_zeroCells, hz]
    omega
  · simp only [Array.toList_append, List.append_assoc]
    rw [← List.append_assoc, show (n + 1) * 2 = (olds ++ news).length from by simp; omega]
    exact List.take_left
theorem row_first {news : List Value} {cap : Nat} (z : Array Value) (hz : z.size = 2) (hn : news.length = 2) (hc : 1 ≤ cap) (hm : cap ≤ maxLen) : Row (news.toArray ++ Builtin.zeroCells z (cap - 1)) cap 1 news := by
  have := row_new (olds := []) (n := 0) z hz rfl hn hc hm
  simpa using this
theorem app_end {W0 : Base} {w : World} {K K0 : List (Nat × Obj)} (hw : KS W0 K w) (hsub : ∀ p ∈ K0, p ∈ K) {cur : Array Value} {cap n : Nat} {ys : List Value} (hR : Row cur cap n ys) :
    KS W0 ((w.heap.size, .cells cur 41 (0, 0)) :: K0) (w.drew.alloc (.cells cur 41)) ∧ AppG W0 K0 n ys (.slice (some ⟨w.heap.size, 0, none⟩) n cap) ((w.heap.size, .cells cur 41 (0, 0)) :: K0) := by
  have hd : KS W0 K0 w.drew := ⟨hw.drew.1, fun p hp => hw.2 p (hsub p hp)⟩
  refine ⟨hd.alloc _, w.heap.size, cap, cur, rfl, hw.size, fun p hp e => ?_, hR, rfl⟩
  have := lt_of_block (hw.2 p (hsub p hp))
  omega
theorem run_app {o : Oper} {a : Act} {s x : Operand} {u v : Value} {h : Nat} {w w' : World} (ho : o.op = .call { callee := .builtin .append, args := #[s, x], argTypes := #[22, 22] })
    (hs : a.eval s = u) (hx : a.eval x = .slice (some ⟨h, 0, none⟩) 1 1) (hr : (Builtin.append_ #[22, 22] o.type #[u, .slice (some ⟨h, 0, none⟩) 1 1]).run Tryd.prog w = .ok v w') : (execOp a.eval o).run Tryd.prog w = .ok (.value v) w' := by
  unfold execOp
  simp only [ho, resolve, invoke, builtin, Sem.run_bind, Sem.run_pure, Result.andThen_ok, List.map_toArray, List.map_cons, List.map_nil, hs, hx, hr]
theorem app_nil {W0 : Base} {o : Oper} {a : Act} {K : List (Nat × Obj)} {s x : Operand} {h : Nat} {f t : Value} (ho : o.op = .call { callee := .builtin .append, args := #[s, x], argTypes := #[22, 22] })
    (hs : a.eval s = .slice none 0 0) (hx : a.eval x = .slice (some ⟨h, 0, none⟩) 1 1) (hm : (h, .cells #[f, t] 41 (0, 0)) ∈ K) :
    ∀ w, KS W0 K w → ∃ v K' w', (execOp a.eval o).run Tryd.prog w = .ok (.value v) w' ∧ KS W0 K' w' ∧ AppG W0 K 1 [f, t] v K' := by
  intro w hw
  obtain ⟨i, hi, hz, hsz, hby⟩ := span_info
  have hh := hw.2 _ hm
  have hr := run_append_nil (P := Tryd.prog) w 22 o.type 41 i _ Tryd.underlying22 hi hz ⟨h, 0, none⟩ 1 1 [f, t] (by rw [hsz]; rfl) (new_cells hh) (by omega) (by omega) (by rw [hby]; omega)
  have hg := grownCap_ge w 1 0 41
  have hg2 := grownCap_le_maxLen w 1 0 41 (by unfold maxLen; omega)
  obtain ⟨h1, h2⟩ := app_end hw (fun _ hp => hp) (row_first (news := [f, t]) (Value.agg #[.int .i64 0, .int .i64 0]).cells rfl rfl hg hg2)
  exact ⟨_, _, _, run_app ho hs hx hr, h1, h2⟩
theorem app_row {W0 : Base} {o : Oper} {a : Act} {K K0 : List (Nat × Obj)} {s x : Operand} {h g n cap : Nat} {f t : Value} {cur : Array Value} {ys : List Value} (ho : o.op = .call { callee := .builtin .append, args := #[s, x], argTypes := #[22, 22] })
    (hs : a.eval s = .slice (some ⟨g, 0, none⟩) n cap) (hx : a.eval x = .slice (some ⟨h, 0, none⟩) 1 1) (hm : (h, .cells #[f, t] 41 (0, 0)) ∈ K) (hg : (g, .cells cur 41 (0, 0)) ∈ K)
    (hB : W0.B ≤ g) (hR : Row cur cap n ys) (hn : n ≤ 4000000000) (h1 : f.oneCell' = true ∧ t.oneCell' = true) (hK0 : ∀ p ∈ K0, p ∈ K ∧ p.1 ≠ g) :
    ∀ w, KS W0 K w → ∃ v K' w', (execOp a.eval o).run Tryd.prog w = .ok (.value v) w' ∧ KS W0 K' w' ∧ AppG W0 K0 (n + 1) (ys ++ [f, t]) v K' := by
  intro w hw
  obtain ⟨i, hi, hz, hsz, hby⟩ := span_info
  have hh := hw.2 _ hm
  have hgc := hw.2 _ hg
  obtain ⟨r1, r2, r3, r4, r5⟩ := hR
  have hmax : n + 1 ≤ maxLen := by unfold maxLen; omega
  by_cases hroom : n + 1 ≤ cap
  · have hr := run_append_room (P := Tryd.prog) w 22 o.type 41 i Tryd.underlying22 hi g n cap cur hgc ⟨h, 0, none⟩ 1 1 [f, t] (by rw [hsz]; rfl) (new_cells hh)
      (by intro u hu; simp only [List.mem_cons, List.not_mem_nil, or_false] at hu; rcases hu with rfl | rfl; exact h1.1; exact h1.2) hroom (by rw [hsz, r1]; simp; omega)
    refine ⟨_, _, _, run_app ho hs hx hr, hw.setRow hB hgc (K' := (g, .cells (cur.toList.take (n * i.size) ++ [f, t] ++ cur.toList.drop (n * i.size + [f, t].length)).toArray 41 (0, 0)) :: K0) ?_, g, cap, _, rfl, hB, fun p hp => (hK0 p hp).2, ⟨?_, r2, hroom, by simp; omega, ?_⟩, rfl⟩
    · intro p hp
      rcases List.mem_cons.1 hp with rfl | hp
      · exact .inl rfl
      · exact .inr (hK0 p hp)
    · rw [hsz]
      simp only [List.size_toArray, List.length_append, List.length_take, List.length_drop, Array.length_toList, List.length_cons, List.length_nil, r1]
      omega
    · rw [hsz, r5, show (n + 1) * 2 = (ys ++ [f, t]).length from by simp; omega]
      exact List.take_left
  · have holds : ∀ j u, ys[j]? = some u → w.cell? ((⟨g, 0, none⟩ : Addr).add j) = some u := by
      intro j u hu
      have hadd : (⟨g, 0, none⟩ : Addr).add j = ⟨g, 0 + j, none⟩ := by unfold Addr.add; split <;> simp_all
      rw [hadd, Nat.zero_add, cell_of_row w g j cur _ (0, 0) hgc]
      rw [← r5, List.getElem?_take] at hu
      split at hu
      · simpa using hu
      · cases hu
    have hr := run_append_grow (P := Tryd.prog) w 22 o.type 41 i _ Tryd.underlying22 hi hz ⟨g, 0, none⟩ n cap ys (by rw [hsz]; exact r4) holds ⟨h, 0, none⟩ 1 1 [f, t] (by rw [hsz]; rfl) (new_cells hh) (by omega) (by omega)
      (growslice_fits (by omega) (by rw [hby]; omega))
    have hg1 := grownCap_ge w (n + 1) cap 41
    have hg2 := grownCap_le_maxLen w (n + 1) cap 41 hmax
    obtain ⟨e1, e2⟩ := app_end hw (fun p hp => (hK0 p hp).1) (row_new (olds := ys) (news := [f, t]) (n := n) (Value.agg #[.int .i64 0, .int .i64 0]).cells rfl r4 rfl hg1 hg2)
    exact ⟨_, _, _, run_app ho hs hx hr, e1, e2⟩
theorem wpL_g {P : Program} {ops : Array Oper} {Q : Exit → Act → World → Prop} {W0 : Base} {rest : List Oper} {oi : Oper} {d : Nat} {tm : Array Value} {df : List Deferred} {K : List (Nat × Obj)} {T : Value → Array Value} (G : Value → List (Nat × Obj) → Prop)
    (hdi : oi.dst = some d) (hw : Region.wanted oi (yielded ops tm) = true)
    (hg : ∀ w, KS W0 K w → ∃ v K' w', (execOp (Act.eval ⟨tm, df⟩) oi).run P w = .ok (.value v) w' ∧ KS W0 K' w' ∧ G v K')
    (hT : ∀ v, tm.setIfInBounds d v = T v)
    (h : ∀ v K', G v K' → wpL P ops Q W0 rest ⟨T v, df⟩ K') : wpL P ops Q W0 (oi :: rest) ⟨tm, df⟩ K := by
  refine ⟨fun w hK => ?_⟩
  obtain ⟨v, K', w', hr, hk, hG⟩ := hg w hK
  refine wpList_step fun K2 hK2 => ?_
  rw [if_pos hw]
  unfold Oper.wp
  rw [hr]
  refine hK2 _ _ ?_
  rw [hdi]
  simp only [Act.put]
  rw [hT v]
  exact (h v K' hG).of w' hk
theorem wpV_g {P : Program} {md : Region.Mode} {ops : Array Oper} {Q : Exit → Act → World → Prop} {W0 : Base} {i : Nat} {oi : Oper} {d n : Nat} {listed : Array Bool} {tm : Array Value} {df : List Deferred} {K : List (Nat × Obj)} {T : Value → Array Value} (G : Value → List (Nat × Obj) → Prop)
    (hi : ops[i]? = some oi) (hdi : oi.dst = some d) (hs : isStore oi = true) (hr : Region.ready md ops listed = [i]) (hw : Region.wanted oi (yielded ops tm) = true)
    (hg : ∀ w, KS W0 K w → ∃ v K' w', (execOp (Act.eval ⟨tm, df⟩) oi).run P w = .ok (.value v) w' ∧ KS W0 K' w' ∧ G v K')
    (hT : ∀ v, tm.setIfInBounds d v = T v)
    (h : ∀ v K', G v K' → wpV P md ops Q W0 n (listed.setIfInBounds i true) ⟨T v, df⟩ K') : wpV P md ops Q W0 (n + 1) listed ⟨tm, df⟩ K :=
  ⟨fun h0 => (by rw [hr] at h0; cases h0), fun j hj => by
    rw [hr] at hj
    cases List.mem_singleton.1 hj
    refine ⟨oi, hi, .inr (.inr (.inr ⟨G, .inl hs, ⟨hw, fun w hK => (let ⟨_, K', _, h1, h2, h3⟩ := hg w hK; oto_of_run h1 ⟨K', h2, h3⟩)⟩, fun v K' hG => ?_⟩))⟩
    rw [hdi]
    simp only [Act.put]
    rw [hT v]
    exact h v K' hG⟩
end Go.Proofs.YtjmcelgdjpdacaaDoor
/- What a loop over an iterator asks of the cells of the function it stands in. -/
namespace Go.Proofs.YtjmcelgdjpdacaaDoor
open Go.RowKit Tw
theorem ks_own {w : Base} {W W' : World} {K : List (Nat × Obj)} {B : Nat} {row : Option Nat} (hK : KS w K W) (hc : ∀ p ∈ K, p.2.isCells = true) (hg : W.grownBy W' row) (hr : ∀ r, row = some r → B ≤ r ∧ ∃ o : Obj, W.heap[r]? = some o ∧ o.isCells = false) (hB : w.B ≤ B) : KS w K W' := by
  refine ⟨⟨hg.os.trans hK.1.os, hg.tape.trans hK.1.tape, hg.output.trans hK.1.output, Nat.le_trans hK.1.size hg.size, fun k hk => ?_⟩, fun p hp => ?_⟩
  · rw [hg.block k (Nat.lt_of_lt_of_le hk hK.size) (fun e => by have := (hr k e.symm).1; omega)]
    exact hK.1.block k hk
  · have h1 := hK.2 p hp
    rw [hg.block p.1 (lt_of_block h1) (fun e => by
      obtain ⟨_, o, ho, hn⟩ := hr p.1 e.symm
      rw [h1] at ho
      cases ho
      rw [hc p hp] at hn
      cases hn)]
    exact h1
def restOf (W : World) : List (Nat × Obj) := (List.range W.heap.size).filterMap fun k => match W.heap[k]? with | some o => if o.isCells then none else some (k, o) | none => none
theorem rest_mem {W : World} {p : Nat × Obj} : p ∈ restOf W ↔ W.heap[p.1]? = some p.2 ∧ p.2.isCells = false := by
  unfold restOf
  rw [List.mem_filterMap]
  constructor
  · rintro ⟨k, hk, h⟩
    cases ho : W.heap[k]? with
    | none => rw [ho] at h; cases h
    | some o =>
      rw [ho] at h
      simp only at h
      split at h
      · cases h
      · rename_i hn
        cases h
        exact ⟨ho, by simpa using hn⟩
  · rintro ⟨h1, h2⟩
    have hlt : p.1 < W.heap.size := lt_of_block h1
    exact ⟨p.1, List.mem_range.2 hlt, by rw [h1]; simp [h2]⟩
theorem ks_rest {w : Base} {W : World} {K : List (Nat × Obj)} (h : KS w K W) : KS w (K ++ restOf W) W := ⟨h.1, fun p hp => by
  rcases List.mem_append.1 hp with hp | hp
  · exact h.2 p hp
  · exact (rest_mem.1 hp).1⟩
theorem rest_ne {W : World} {g : Nat} {o : Obj} (h : W.heap[g]? = some o) (hc : o.isCells = true) : ∀ p ∈ restOf W, p.1 ≠ g := fun p hp e => by
  obtain ⟨h1, h2⟩ := rest_mem.1 hp
  rw [e, h] at h1
  cases h1
  rw [hc] at h2
  cases h2
def rnd (W : World) (n₀ : Nat) (h : n₀ ≤ W.heap.size) : Base := ⟨W, n₀, h⟩
theorem keeps_of {W W' : World} {n₀ : Nat} {hn : n₀ ≤ W.heap.size} {K : List (Nat × Obj)} (B : Nat) (h : KS (rnd W n₀ hn) K W') (hN : ∀ p ∈ restOf W, p ∈ K) : KeepsFrom B W W' :=
  ⟨h.1.size, fun k o _ hk ho => h.2 (k, o) (hN (k, o) (rest_mem.2 ⟨hk, ho⟩))⟩
theorem below_of {W W' : World} {n₀ : Nat} {hn : n₀ ≤ W.heap.size} {K : List (Nat × Obj)} (h : KS (rnd W n₀ hn) K W') : Below n₀ W W' := h.1
theorem rnd_start {w : Base} {W : World} {n₀ : Nat} (hn : n₀ ≤ W.heap.size) {K : List (Nat × Obj)} (h : KS w K W) : KS (rnd W n₀ hn) (K ++ restOf W) W := ⟨Below.refl _ _, (ks_rest h).2⟩
theorem rnd_back {w W W' : World} {K K' : List (Nat × Obj)} {hn : w.heap.size ≤ W.heap.size} (h : KS w K W) (h' : KS (rnd W w.heap.size hn) K' W') : KS w K' W' := ⟨h.1.trans h'.1, h'.2⟩
end Go.Proofs.YtjmcelgdjpdacaaDoor
namespace Go.Proofs.YtjmcelgdjpdacaaDoor
open Go.RowKit Tw
def isT (n : Int) : Bool := decide (0 ≤ n) && decide (n ≤ 100000000)
def apFrom (before : Int) : List (Int × Int) → Bool
  | [] => true
  | s :: l => decide (before < s.1) && decide (s.1 < s.2) && decide (s.2 ≤ 100000000) && apFrom s.2 l
def apart (l : List (Int × Int)) : Bool := decide (l.length ≤ 1000) && apFrom (-1) l
def Cells (w : World) (b off : Nat) (l : List (Int × Int)) : Prop := ∀ (i : Nat) (s : Int × Int), l[i]? = some s → w.cell? ⟨b, off + 2 * i, none⟩ = some (.int .i64 s.1) ∧ w.cell? ⟨b, off + 2 * i + 1, none⟩ = some (.int .i64 s.2)
def SL (w : World) (p : Option Addr) (l : List (Int × Int)) : Prop := l = [] ∨ ∃ b off, p = some ⟨b, off, none⟩ ∧ Cells w b off l
def AV (W1 : World) (n₀ : Nat) (ls : List (Int × Int)) (p : Option Addr) (cap : Nat) : Prop := ls.length ≤ cap ∧ (ls = [] ∨ ∃ b off, p = some ⟨b, off, none⟩ ∧ b < n₀ ∧ Cells W1 b off ls)
def Wide (l : List (Int × Int)) : Prop := ∀ s ∈ l, -9223372036854775808 ≤ s.1 ∧ s.1 ≤ 9223372036854775807 ∧ -9223372036854775808 ≤ s.2 ∧ s.2 ≤ 9223372036854775807
theorem run_idxp {o : Oper} {a : Act} {p : Option Addr} {b off n cap k : Nat} {px py : Operand} (ho : o.op = .indexAddr 22 px py) (hx : a.eval px = .slice p n cap) (hp : p = some ⟨b, off, none⟩) (hy : a.eval py = .int .i64 (k : Int)) (hk : k < n) (w : World) : (execOp a.eval o).run Tryd.prog w = .ok (.value (.pointer (some ⟨b, off + 2 * k, none⟩))) w := by
  subst hp
  exact run_idx ho hx hy hk w
theorem cells_keep {w W : World} {b off : Nat} {l : List (Int × Int)} (h : Cells w b off l) (hB : Below w.heap.size w W) : Cells W b off l := fun i s hs => by
  obtain ⟨h1, h2⟩ := h i s hs
  have hlt : b < w.heap.size := World.block_lt_of_cell? _ _ h1
  exact ⟨by rw [hB.cell (p := ⟨b, off + 2 * i, none⟩) hlt]; exact h1, by rw [hB.cell (p := ⟨b, off + 2 * i + 1, none⟩) hlt]; exact h2⟩
theorem sl_keep {w W : World} {p : Option Addr} {l : List (Int × Int)} (h : SL w p l) (hB : Below w.heap.size w W) : SL W p l := h.imp id fun ⟨b, off, hp, hc⟩ => ⟨b, off, hp, cells_keep hc hB⟩
set_option maxRecDepth 100000 in
set_option maxHeartbeats 2000000 in
theorem isTime_any (n : Int) (w : World) : Calls Tryd.prog 64 #[.int .i64 n] w fun e w' => e = .returned (.bool (isT n)) ∧ Below w.heap.size w w' := by
  by_cases h0 : 0 ≤ n
  · by_cases h1 : n ≤ 100000000
    · have hr : isT n = true := by unfold isT; simp; omega
      rw [hr]
      go_enter Tryd.func64, Tryd.ntmps64
      refine wp_seq ?_
      refine wp_region_L (W0 := w) [] (KS.start w) ?_
      refine lm (v := .bool false) rfl rfl ?_
      refine wpL_done (fun W1 hW1 => ?_)
      refine (show Code.wp _ _ _ _ _ from ?_)
      refine wp_seq ?_
      refine wp_region_L (W0 := w) [] (hW1) ?_
      refine lm (v := .int .i64 n) rfl rfl ?_
      refine lp (v := .bool true) rfl rfl (run_bin rfl (vx := .int .i64 n) (vy := .int .i64 0) (by kernel_rfl) (by kernel_rfl) fun w => run_geqI (decide_eq_true h0) w) ?_
      refine lm (v := .bool true) rfl rfl ?_
      refine lm (v := .int .i64 n) rfl rfl ?_
      refine lp (v := .bool true) rfl rfl (run_bin rfl (vx := .int .i64 n) (vy := .int .i64 100000000) (by kernel_rfl) (by kernel_rfl) fun w => run_leqI (decide_eq_true h1) w) ?_
      refine lm (v := .bool true) rfl rfl ?_
      refine lm (v := .bool true) rfl rfl ?_
      refine wpL_done (fun W2 hW2 => ?_)
      clear hW1
      refine (show Code.wp _ _ _ _ _ from ?_)
      refine wp_ret ?_
      go_ret
      exact ⟨rfl, hW2.1⟩
    · have hr : isT n = false := by unfold isT; simp; omega
      rw [hr]
      go_enter Tryd.func64, Tryd.ntmps64
      refine wp_seq ?_
      refine wp_region_L (W0 := w) [] (KS.start w) ?_
      refine lm (v := .bool false) rfl rfl ?_
      refine wpL_done (fun W1 hW1 => ?_)
      refine (show Code.wp _ _ _ _ _ from ?_)
      refine wp_seq ?_
      refine wp_region_L (W0 := w) [] (hW1) ?_
      refine lm (v := .int .i64 n) rfl rfl ?_
      refine lp (v := .bool true) rfl rfl (run_bin rfl (vx := .int .i64 n) (vy := .int .i64 0) (by kernel_rfl) (by kernel_rfl) fun w => run_geqI (decide_eq_true h0) w) ?_
      refine lm (v := .bool true) rfl rfl ?_
      refine lm (v := .int .i64 n) rfl rfl ?_
      refine lp (v := .bool false) rfl rfl (run_bin rfl (vx := .int .i64 n) (vy := .int .i64 100000000) (by kernel_rfl) (by kernel_rfl) fun w => run_leqI (decide_eq_false h1) w) ?_
      refine lm (v := .bool false) rfl rfl ?_
      refine lm (v := .bool false) rfl rfl ?_
      refine wpL_done (fun W2 hW2 => ?_)
      clear hW1
      refine (show Code.wp _ _ _ _ _ from ?_)
      refine wp_ret ?_
      go_ret
      exact ⟨rfl, hW2.1⟩
  · have hr : isT n = false := by unfold isT; simp; omega
    rw [hr]
    go_enter Tryd.func64, Tryd.ntmps64
    refine wp_seq ?_
    refine wp_region_L (W0 := w) [] (KS.start w) ?_
    refine lm (v := .bool false) rfl rfl ?_
    refine wpL_done (fun W1 hW1 => ?_)
    refine (show Code.wp _ _ _ _ _ from ?_)
    refine wp_seq ?_
    refine wp_region_L (W0 := w) [] (hW1) ?_
    refine lm (v := .int .i64 n) rfl rfl ?_
    refine lp (v := .bool false) rfl rfl (run_bin rfl (vx := .int .i64 n) (vy := .int .i64 0) (by kernel_rfl) (by kernel_rfl) fun w => run_geqI (decide_eq_false h0) w) ?_
    refine lm (v := .bool false) rfl rfl ?_
    refine ln rfl ?_
    refine ln rfl ?_
    refine lm (v := .bool false) rfl rfl ?_
    refine lm (v := .bool false) rfl rfl ?_
    refine wpL_done (fun W2 hW2 => ?_)
    clear hW1
    refine (show Code.wp _ _ _ _ _ from ?_)
    refine wp_ret ?_
    go_ret
    exact ⟨rfl, hW2.1⟩
set_option maxRecDepth 100000 in
set_option maxHeartbeats 2000000 in
theorem inOrder_any (x y : Int) (w : World) : Calls Tryd.prog 58 #[.int .i64 x, .int .i64 y] w fun e w' => e = .returned (.bool (isT x && isT y && decide (x ≤ y))) ∧ Below w.heap.size w w' := by
  by_cases hx : isT x = true
  · by_cases hy : isT y = true
    · by_cases hxy : x ≤ y
      · have hc_x := fun W => isTime_any x W
        rw [hx] at hc_x
        have hc_y := fun W => isTime_any y W
        rw [hy] at hc_y
        have hr : (isT x && isT y && decide (x ≤ y)) = true := by simp [hx, hy, hxy]
        rw [hr]
        go_enter Tryd.func58, Tryd.ntmps58
        refine wp_seq ?_
        refine wp_region_L (W0 := w) [] (KS.start w) ?_
        refine lm (v := .bool false) rfl rfl ?_
        refine wpL_done (fun W1 hW1 => ?_)
        refine (show Code.wp _ _ _ _ _ from ?_)
        refine wp_seq ?_
        refine wp_region_L (W0 := w) [] (hW1) ?_
        refine lm (v := .int .i64 x) rfl rfl ?_
        refine lv (v := .bool true) rfl rfl (yb_call (f := 64) (args := #[.int .i64 x]) (fun _ => by kernel_rfl) fun W hW => hc_x W) ?_
        refine lm (v := .bool true) rfl rfl ?_
        refine lm (v := .int .i64 y) rfl rfl ?_
        refine lv (v := .bool true) rfl rfl (yb_call (f := 64) (args := #[.int .i64 y]) (fun _ => by kernel_rfl) fun W hW => hc_y W) ?_
        refine lm (v := .bool true) rfl rfl ?_
        refine lm (v := .bool true) rfl rfl ?_
        refine lm (v := .int .i64 x) rfl rfl ?_
        refine lm (v := .int .i64 y) rfl rfl ?_
        refine lp (v := .bool true) rfl rfl (run_bin rfl (vx := .int .i64 x) (vy := .int .i64 y) (by kernel_rfl) (by kernel_rfl) fun w => run_leqI (decide_eq_true hxy) w) ?_
        refine lm (v := .bool true) rfl rfl ?_
        refine lm (v := .bool true) rfl rfl ?_
        refine wpL_done (fun W2 hW2 => ?_)
        clear hW1
        refine (show Code.wp _ _ _ _ _ from ?_)
        refine wp_ret ?_
        go_ret
        exact ⟨rfl, hW2.1⟩
      · have hc_x := fun W => isTime_any x W
        rw [hx] at hc_x
        have hc_y := fun W => isTime_any y W
        rw [hy] at hc_y
        have hr : (isT x && isT y && decide (x ≤ y)) = false := by simp [hx, hy, hxy]
        rw [hr]
        go_enter Tryd.func58, Tryd.ntmps58
        refine wp_seq ?_
        refine wp_region_L (W0 := w) [] (KS.start w) ?_
        refine lm (v := .bool false) rfl rfl ?_
        refine wpL_done (fun W1 hW1 => ?_)
        refine (show Code.wp _ _ _ _ _ from ?_)
        refine wp_seq ?_
        refine wp_region_L (W0 := w) [] (hW1) ?_
        refine lm (v := .int .i64 x) rfl rfl ?_
        refine lv (v := .bool true) rfl rfl (yb_call (f := 64) (args := #[.int .i64 x]) (fun _ => by kernel_rfl) fun W hW => hc_x W) ?_
        refine lm (v := .bool true) rfl rfl ?_
        refine lm (v := .int .i64 y) rfl rfl ?_
        refine lv (v := .bool true) rfl rfl (yb_call (f := 64) (args := #[.int .i64 y]) (fun _ => by kernel_rfl) fun W hW => hc_y W) ?_
        refine lm (v := .bool true) rfl rfl ?_
        refine lm (v := .bool true) rfl rfl ?_
        refine lm (v := .int .i64 x) rfl rfl ?_
        refine lm (v := .int .i64 y) rfl rfl ?_
        refine lp (v := .bool false) rfl rfl (run_bin rfl (vx := .int .i64 x) (vy := .int .i64 y) (by kernel_rfl) (by kernel_rfl) fun w => run_leqI (decide_eq_false hxy) w) ?_
        refine lm (v := .bool false) rfl rfl ?_
        refine lm (v := .bool false) rfl rfl ?_
        refine wpL_done (fun W2 hW2 => ?_)
        clear hW1
        refine (show Code.wp _ _ _ _ _ from ?_)
        refine wp_ret ?_
        go_ret
        exact ⟨rfl, hW2.1⟩
    · have hc_x := fun W => isTime_any x W
      rw [hx] at hc_x
      have hc_y := fun W => isTime_any y W
      rw [(Bool.not_eq_true _).mp hy] at hc_y
      have hr : (isT x && isT y && decide (x ≤ y)) = false := by simp [hx, (Bool.not_eq_true _).mp hy]
      rw [hr]
      go_enter Tryd.func58, Tryd.ntmps58
      refine wp_seq ?_
      refine wp_region_L (W0 := w) [] (KS.start w) ?_
      refine lm (v := .bool false) rfl rfl ?_
      refine wpL_done (fun W1 hW1 => ?_)
      refine (show Code.wp _ _ _ _ _ from ?_)
      refine wp_seq ?_
      refine wp_region_L (W0 := w) [] (hW1) ?_
      refine lm (v := .int .i64 x) rfl rfl ?_
      refine lv (v := .bool true) rfl rfl (yb_call (f := 64) (args := #[.int .i64 x]) (fun _ => by kernel_rfl) fun W hW => hc_x W) ?_
      refine lm (v := .bool true) rfl rfl ?_
      refine lm (v := .int .i64 y) rfl rfl ?_
      refine lv (v := .bool false) rfl rfl (yb_call (f := 64) (args := #[.int .i64 y]) (fun _ => by kernel_rfl) fun W hW => hc_y W) ?_
      refine lm (v := .bool false) rfl rfl ?_
      refine lm (v := .bool false) rfl rfl ?_
      refine ln rfl ?_
      refine ln rfl ?_
      refine ln rfl ?_
      refine lm (v := .bool false) rfl rfl ?_
      refine lm (v := .bool false) rfl rfl ?_
      refine wpL_done (fun W2 hW2 => ?_)
      clear hW1
      refine (show Code.wp _ _ _ _ _ from ?_)
      refine wp_ret ?_
      go_ret
      exact ⟨rfl, hW2.1⟩
  · have hc_x := fun W => isTime_any x W
    rw [(Bool.not_eq_true _).mp hx] at hc_x
    have hr : (isT x && isT y && decide (x ≤ y)) = false := by simp [(Bool.not_eq_true _).mp hx]
    rw [hr]
    go_enter Tryd.func58, Tryd.ntmps58
    refine wp_seq ?_
    refine wp_region_L (W0 := w) [] (KS.start w) ?_
    refine lm (v := .bool false) rfl rfl ?_
    refine wpL_done (fun W1 hW1 => ?_)
    refine (show Code.wp _ _ _ _ _ from ?_)
    refine wp_seq ?_
    refine wp_region_L (W0 := w) [] (hW1) ?_
    refine lm (v := .int .i64 x) rfl rfl ?_
    refine lv (v := .bool false) rfl rfl (yb_call (f := 64) (args := #[.int .i64 x]) (fun _ => by kernel_rfl) fun W hW => hc_x W) ?_
    refine lm (v := .bool false) rfl rfl ?_
    refine ln rfl ?_
    refine ln rfl ?_
    refine lm (v := .bool false) rfl rfl ?_
    refine lm (v := .bool false) rfl rfl ?_
    refine ln rfl ?_
    refine ln rfl ?_
    refine ln rfl ?_
    refine lm (v := .bool false) rfl rfl ?_
    refine lm (v := .bool false) rfl rfl ?_
    refine wpL_done (fun W2 hW2 => ?_)
    clear hW1
    refine (show Code.wp _ _ _ _ _ from ?_)
    refine wp_ret ?_
    go_ret
    exact ⟨rfl, hW2.1⟩
set_option maxRecDepth 100000 in
set_option maxHeartbeats 2000000 in
theorem both_any (f t x y : Int) (w : World) : Calls Tryd.prog 59 #[.agg #[.int .i64 f, .int .i64 t], .agg #[.int .i64 x, .int .i64 y]] w fun e w' => e = .returned (.agg #[.int .i64 (max f x), .int .i64 (min t y)]) ∧ Below w.heap.size w w' := by
  go_enter Tryd.func59, Tryd.ntmps59
  refine wp_seq ?_
  refine wp_region_L (W0 := w) [] (KS.start w) ?_
  refine wpL_new (fun g => .pointer (some ⟨g, 0, none⟩)) (obi := .cells #[.int .i64 f, .int .i64 t] 41 (0, 0)) rfl rfl (fun _ => by kernel_rfl) (fun _ => by simp only [List.setIfInBounds_toArray, List.set_cons_succ, List.set_cons_zero] <;> rfl) fun g1 Bg1 Fg1 => ?_
  try simp only [List.forall_mem_cons] at Fg1
  refine wpL_new (fun g => .pointer (some ⟨g, 0, none⟩)) (obi := .cells #[.int .i64 x, .int .i64 y] 41 (0, 0)) rfl rfl (fun _ => by kernel_rfl) (fun _ => by simp only [List.setIfInBounds_toArray, List.set_cons_succ, List.set_cons_zero] <;> rfl) fun g2 Bg2 Fg2 => ?_
  try simp only [List.forall_mem_cons] at Fg2
  refine wpL_new (fun g => .pointer (some ⟨g, 0, none⟩)) (obi := .cells #[.int .i64 0, .int .i64 0] 41 (0, 0)) rfl rfl (fun _ => by kernel_rfl) (fun _ => by simp only [List.setIfInBounds_toArray, List.set_cons_succ, List.set_cons_zero] <;> rfl) fun g3 Bg3 Fg3 => ?_
  try simp only [List.forall_mem_cons] at Fg3
  refine wpL_done (fun W1 hW1 => ?_)
  refine (show Code.wp _ _ _ _ _ from ?_)
  refine wp_seq ?_
  refine wp_region_L (W0 := w) [(g3, .cells #[.int .i64 0, .int .i64 0] 41 (0, 0)), (g2, .cells #[.int .i64 x, .int .i64 y] 41 (0, 0)), (g1, .cells #[.int .i64 f, .int .i64 t] 41 (0, 0))] (hW1) ?_
  refine lm (v := .pointer (some ⟨g1, 0, none⟩)) rfl rfl ?_
  refine lv (v := .int .i64 f) rfl rfl (yb_loadc (off := 0) rfl (by kernel_rfl) (.tail _ (.tail _ (.head _))) Tryd.underlying3 rfl (by kernel_rfl)) ?_
  refine lm (v := .pointer (some ⟨g2, 0, none⟩)) rfl rfl ?_
  refine lv (v := .int .i64 x) rfl rfl (yb_loadc (off := 0) rfl (by kernel_rfl) (.tail _ (.head _)) Tryd.underlying3 rfl (by kernel_rfl)) ?_
  refine lp (v := .int .i64 (max f x)) rfl rfl (fun _ => run_maxI rfl (by kernel_rfl) rfl) ?_
  refine lm (v := .pointer (some ⟨g1, 1, none⟩)) rfl rfl ?_
  refine lv (v := .int .i64 t) rfl rfl (yb_loadc (off := 1) rfl (by kernel_rfl) (.tail _ (.tail _ (.head _))) Tryd.underlying3 rfl (by kernel_rfl)) ?_
  refine lm (v := .pointer (some ⟨g2, 1, none⟩)) rfl rfl ?_
  refine lv (v := .int .i64 y) rfl rfl (yb_loadc (off := 1) rfl (by kernel_rfl) (.tail _ (.head _)) Tryd.underlying3 rfl (by kernel_rfl)) ?_
  refine lp (v := .int .i64 (min t y)) rfl rfl (fun _ => run_minI rfl (by kernel_rfl) rfl) ?_
  refine lm (v := .agg #[.int .i64 (max f x), .int .i64 (min t y)]) rfl rfl ?_
  refine wpL_s [(g3, .cells #[.int .i64 (max f x), .int .i64 (min t y)] 41 (0, 0)), (g2, .cells #[.int .i64 x, .int .i64 y] 41 (0, 0)), (g1, .cells #[.int .i64 f, .int .i64 t] 41 (0, 0))] rfl rfl (st_span rfl (by kernel_rfl) (by kernel_rfl) (.head _) (by omega) (List.forall_mem_cons.2 ⟨.inl rfl, (List.forall_mem_cons.2 ⟨.inr ⟨(.tail _ (.head _)), Fg3.1⟩, (List.forall_mem_cons.2 ⟨.inr ⟨(.tail _ (.tail _ (.head _))), Fg3.2.1⟩, (List.forall_mem_nil _)⟩)⟩)⟩)) ?_
  refine wpL_done (fun W2 hW2 => ?_)
  clear hW1
  refine (show Code.wp _ _ _ _ _ from ?_)
  refine wp_ret ?_
  exact bodyPost_ret (res_cell rfl rfl (hW2.2 _ (.head _)) Tryd.underlying41 rfl (by rw [size_span]; rfl)) rfl ⟨rfl, hW2.1⟩
set_option maxRecDepth 100000 in
set_option maxHeartbeats 2000000 in
theorem empty_any (f t : Int) (w : World) : Calls Tryd.prog 60 #[.agg #[.int .i64 f, .int .i64 t]] w fun e w' => e = .returned (.bool (decide (t ≤ f))) ∧ Below w.heap.size w w' := by
  go_enter Tryd.func60, Tryd.ntmps60
  refine wp_seq ?_
  refine wp_region_L (W0 := w) [] (KS.start w) ?_
  refine wpL_new (fun g => .pointer (some ⟨g, 0, none⟩)) (obi := .cells #[.int .i64 f, .int .i64 t] 41 (0, 0)) rfl rfl (fun _ => by kernel_rfl) (fun _ => by simp only [List.setIfInBounds_toArray, List.set_cons_succ, List.set_cons_zero] <;> rfl) fun g1 Bg1 Fg1 => ?_
  try simp only [List.forall_mem_cons] at Fg1
  refine lm (v := .bool false) rfl rfl ?_
  refine wpL_done (fun W1 hW1 => ?_)
  refine (show Code.wp _ _ _ _ _ from ?_)
  refine wp_seq ?_
  refine wp_region_L (W0 := w) [(g1, .cells #[.int .i64 f, .int .i64 t] 41 (0, 0))] (hW1) ?_
  refine lm (v := .pointer (some ⟨g1, 0, none⟩)) rfl rfl ?_
  refine lv (v := .int .i64 f) rfl rfl (yb_loadc (off := 0) rfl (by kernel_rfl) (.head _) Tryd.underlying3 rfl (by kernel_rfl)) ?_
  refine lm (v := .pointer (some ⟨g1, 1, none⟩)) rfl rfl ?_
  refine lv (v := .int .i64 t) rfl rfl (yb_loadc (off := 1) rfl (by kernel_rfl) (.head _) Tryd.underlying3 rfl (by kernel_rfl)) ?_
  refine lp (v := .bool (decide (t ≤ f))) rfl rfl (run_bin rfl (vx := .int .i64 f) (vy := .int .i64 t) (by kernel_rfl) (by kernel_rfl) fun w => run_geqI rfl w) ?_
  refine lm (v := .bool (decide (t ≤ f))) rfl rfl ?_
  refine wpL_done (fun W2 hW2 => ?_)
  clear hW1
  refine (show Code.wp _ _ _ _ _ from ?_)
  refine wp_ret ?_
  go_ret
  exact ⟨rfl, hW2.1⟩
end Go.Proofs.YtjmcelgdjpdacaaDoor
namespace Go.Proofs.YtjmcelgdjpdacaaDoor
open Go.RowKit Tw
theorem len_range {n k : Nat} (h : (n : Int) ≤ 9223372036854775806) (hk : k < n) : -9223372036854775808 ≤ ((k + 1 : Nat) : Int) ∧ ((k + 1 : Nat) : Int) ≤ 9223372036854775807 := by omega
theorem drop_get {l : List (Int × Int)} {k : Nat} {s : Int × Int} (h : l[k]? = some s) : l.drop k = s :: l.drop (k + 1) := by
  obtain ⟨hk, rfl⟩ := List.getElem?_eq_some_iff.1 h
  exact List.drop_eq_getElem_cons hk
def inL (l : List (Int × Int)) (x : Int) : Bool := l.any fun s => decide (s.1 ≤ x) && decide (x < s.2)
theorem in_drop {l : List (Int × Int)} {k : Nat} {f t x : Int} (h : l[k]? = some (f, t)) : inL (l.drop k) x = ((decide (f ≤ x) && decide (x < t)) || inL (l.drop (k + 1)) x) := by
  rw [drop_get h]; rfl
set_option maxRecDepth 100000 in
set_option maxHeartbeats 2000000 in
theorem contains_any (p : Option Addr) (cap : Nat) (l : List (Int × Int)) (w : World) (hcell : SL w p l) (hlen0 : (l.length : Int) ≤ 9223372036854775806) (x : Int) : Calls Tryd.prog 65 #[.slice p l.length cap, .int .i64 x] w fun e w' => e = .returned (.bool (inL l x)) ∧ Below w.heap.size w w' := by
  have HC := Lib.hid hcell
  clear hcell
  go_enter Tryd.func65, Tryd.ntmps65
  have hlen : (l.length : Int) ≤ 9223372036854775806 := hlen0
  refine wp_seq ?_
  refine wp_region_L (W0 := w) [] (KS.start w) ?_
  refine lm (v := .bool false) rfl rfl ?_
  refine wpL_done (fun W1 hW1 => ?_)
  refine (show Code.wp _ _ _ _ _ from ?_)
  refine wp_seq ?_
  refine wp_seq ?_
  refine wp_region_L (W0 := w) [] (hW1) ?_
  refine lm (v := .slice p l.length cap) rfl rfl ?_
  refine lm (v := .int .i64 (l.length : Int)) rfl rfl ?_
  refine lm (v := .int .i64 0) rfl rfl ?_
  refine wpL_done (fun W2 hW2 => ?_)
  clear hW1
  refine (show Code.wp _ _ _ _ _ from ?_)
  refine wp_block ?_
  go_loopw [9] (fun u wr => ∃ k : Nat, k ≤ l.length ∧ inL l x = inL (l.drop k) x ∧ u = .int .i64 (k : Int) ∧ KS w [] wr) (fun u _ => (l.length - intOf u).toNat)
  case atStart => exact ⟨0, by omega, rfl, rfl, ks_none (hW2)⟩
  case round =>
    obtain ⟨k, hk, hin, rfl, hKS⟩ := hrel
    by_cases hkn : k < l.length
    · obtain ⟨⟨f, t⟩, hget⟩ : ∃ s, l[k]? = some s := ⟨_, List.getElem?_eq_getElem hkn⟩
      obtain ⟨b, off, hp, hcell⟩ := HC.out.resolve_left (fun e => by rw [e] at hkn; simp at hkn)
      rw [in_drop hget] at hin
      by_cases h1 : f ≤ x
      · by_cases h2 : x < t
        · rw [show inL l x = true from by rw [hin]; simp [h1, h2]]
          refine wp_seq ?_
          refine wp_region_L (W0 := w) [] (hKS) ?_
          refine lp (v := .bool true) rfl rfl (run_bin rfl (vx := .int .i64 (k : Int)) (vy := .int .i64 (l.length : Int)) (by kernel_rfl) (by kernel_rfl) fun w => run_lssI (decide_eq_true (by omega)) w) ?_
          refine wpL_done (fun W3 hW3 => ?_)
          refine (show Code.wp _ _ _ _ _ from ?_)
          refine wp_seq ?_
          refine wp_cond_true rfl ?_
          refine wp_skip ?_
          refine (show Code.wp _ _ _ _ _ from ?_)
          refine wp_seq ?_
          refine wp_block ?_
          refine wp_seq ?_
          refine wp_region_L (W0 := w) [] (hW3) ?_
          refine lp (v := .pointer (some ⟨b, off + 2 * k, none⟩)) rfl rfl (run_idxp (b := b) (off := off) (n := l.length) (cap := cap) (k := k) rfl (by kernel_rfl) hp (by kernel_rfl) hkn) ?_
          refine lv (v := .agg #[.int .i64 f, .int .i64 t]) rfl rfl (yb_load2 rfl (by kernel_rfl) (hcell k (f, t) hget).1 (hcell k (f, t) hget).2 (World.block_lt_of_cell? _ _ (hcell k (f, t) hget).1)) ?_
          refine wpL_new (fun g => .pointer (some ⟨g, 0, none⟩)) (obi := .cells #[.int .i64 0, .int .i64 0] 41 (0, 0)) rfl rfl (fun _ => by kernel_rfl) (fun _ => by simp only [List.setIfInBounds_toArray, List.set_cons_succ, List.set_cons_zero] <;> rfl) fun g1 Bg1 Fg1 => ?_
          try simp only [List.forall_mem_cons] at Fg1
          refine wpL_s [(g1, .cells #[.int .i64 f, .int .i64 t] 41 (0, 0))] rfl rfl (st_span rfl (by kernel_rfl) (by kernel_rfl) (.head _) (by omega) (List.forall_mem_cons.2 ⟨.inl rfl, (List.forall_mem_nil _)⟩)) ?_
          refine wpL_done (fun W4 hW4 => ?_)
          clear hW3
          refine (show Code.wp _ _ _ _ _ from ?_)
          refine wp_seq ?_
          refine wp_region_L (W0 := w) [(g1, .cells #[.int .i64 f, .int .i64 t] 41 (0, 0))] (hW4) ?_
          refine lm (v := .pointer (some ⟨g1, 0, none⟩)) rfl rfl ?_
          refine lv (v := .int .i64 f) rfl rfl (yb_loadc (off := 0) rfl (by kernel_rfl) (.head _) Tryd.underlying3 rfl (by kernel_rfl)) ?_
          refine lm (v := .int .i64 x) rfl rfl ?_
          refine lp (v := .bool true) rfl rfl (run_bin rfl (vx := .int .i64 f) (vy := .int .i64 x) (by kernel_rfl) (by kernel_rfl) fun w => run_leqI (decide_eq_true h1) w) ?_
          refine lm (v := .bool true) rfl rfl ?_
          refine lm (v := .int .i64 x) rfl rfl ?_
          refine lm (v := .pointer (some ⟨g1, 1, none⟩)) rfl rfl ?_
          refine lv (v := .int .i64 t) rfl rfl (yb_loadc (off := 1) rfl (by kernel_rfl) (.head _) Tryd.underlying3 rfl (by kernel_rfl)) ?_
          refine lp (v := .bool true) rfl rfl (run_bin rfl (vx := .int .i64 x) (vy := .int .i64 t) (by kernel_rfl) (by kernel_rfl) fun w => run_lssI (decide_eq_true h2) w) ?_
          refine lm (v := .bool true) rfl rfl ?_
          refine wpL_done (fun W5 hW5 => ?_)
          clear hW4
          refine (show Code.wp _ _ _ _ _ from ?_)
          refine wp_cond_true rfl ?_
          refine wp_seq ?_
          refine wp_region_L (W0 := w) [(g1, .cells #[.int .i64 f, .int .i64 t] 41 (0, 0))] (hW5) ?_
          refine lm (v := .bool true) rfl rfl ?_
          refine wpL_done (fun W6 hW6 => ?_)
          clear hW5
          refine (show Code.wp _ _ _ _ _ from ?_)
          refine wp_ret ?_
          try simp only [inBlock_ret, then_ret]
          go_ret
          exact ⟨rfl, hW6.1⟩
        · refine wp_seq ?_
          refine wp_region_L (W0 := w) [] (hKS) ?_
          refine lp (v := .bool true) rfl rfl (run_bin rfl (vx := .int .i64 (k : Int)) (vy := .int .i64 (l.length : Int)) (by kernel_rfl) (by kernel_rfl) fun w => run_lssI (decide_eq_true (by omega)) w) ?_
          refine wpL_done (fun W3 hW3 => ?_)
          refine (show Code.wp _ _ _ _ _ from ?_)
          refine wp_seq ?_
          refine wp_cond_true rfl ?_
          refine wp_skip ?_
          refine (show Code.wp _ _ _ _ _ from ?_)
          refine wp_seq ?_
          refine wp_block ?_
          refine wp_seq ?_
          refine wp_region_L (W0 := w) [] (hW3) ?_
          refine lp (v := .pointer (some ⟨b, off + 2 * k, none⟩)) rfl rfl (run_idxp (b := b) (off := off) (n := l.length) (cap := cap) (k := k) rfl (by kernel_rfl) hp (by kernel_rfl) hkn) ?_
          refine lv (v := .agg #[.int .i64 f, .int .i64 t]) rfl rfl (yb_load2 rfl (by kernel_rfl) (hcell k (f, t) hget).1 (hcell k (f, t) hget).2 (World.block_lt_of_cell? _ _ (hcell k (f, t) hget).1)) ?_
          refine wpL_new (fun g => .pointer (some ⟨g, 0, none⟩)) (obi := .cells #[.int .i64 0, .int .i64 0] 41 (0, 0)) rfl rfl (fun _ => by kernel_rfl) (fun _ => by simp only [List.setIfInBounds_toArray, List.set_cons_succ, List.set_cons_zero] <;> rfl) fun g1 Bg1 Fg1 => ?_
          try simp only [List.forall_mem_cons] at Fg1
          refine wpL_s [(g1, .cells #[.int .i64 f, .int .i64 t] 41 (0, 0))] rfl rfl (st_span rfl (by kernel_rfl) (by kernel_rfl) (.head _) (by omega) (List.forall_mem_cons.2 ⟨.inl rfl, (List.forall_mem_nil _)⟩)) ?_
          refine wpL_done (fun W4 hW4 => ?_)
          clear hW3
          refine (show Code.wp _ _ _ _ _ from ?_)
          refine wp_seq ?_
          refine wp_region_L (W0 := w) [(g1, .cells #[.int .i64 f, .int .i64 t] 41 (0, 0))] (hW4) ?_
          refine lm (v := .pointer (some ⟨g1, 0, none⟩)) rfl rfl ?_
          refine lv (v := .int .i64 f) rfl rfl (yb_loadc (off := 0) rfl (by kernel_rfl) (.head _) Tryd.underlying3 rfl (by kernel_rfl)) ?_
          refine lm (v := .int .i64 x) rfl rfl ?_
          refine lp (v := .bool true) rfl rfl (run_bin rfl (vx := .int .i64 f) (vy := .int .i64 x) (by kernel_rfl) (by kernel_rfl) fun w => run_leqI (decide_eq_true h1) w) ?_
          refine lm (v := .bool true) rfl rfl ?_
          refine lm (v := .int .i64 x) rfl rfl ?_
          refine lm (v := .pointer (some ⟨g1, 1, none⟩)) rfl rfl ?_
          refine lv (v := .int .i64 t) rfl rfl (yb_loadc (off := 1) rfl (by kernel_rfl) (.head _) Tryd.underlying3 rfl (by kernel_rfl)) ?_
          refine lp (v := .bool false) rfl rfl (run_bin rfl (vx := .int .i64 x) (vy := .int .i64 t) (by kernel_rfl) (by kernel_rfl) fun w => run_lssI (decide_eq_false h2) w) ?_
          refine lm (v := .bool false) rfl rfl ?_
          refine wpL_done (fun W5 hW5 => ?_)
          clear hW4
          refine (show Code.wp _ _ _ _ _ from ?_)
          refine wp_cond_false rfl ?_
          refine wp_skip ?_
          refine (show Code.wp _ _ _ _ _ from ?_)
          refine wp_region_L (W0 := w) [(g1, .cells #[.int .i64 f, .int .i64 t] 41 (0, 0))] (hW5) ?_
          refine lp (v := .int .i64 ((k + 1 : Nat) : Int)) rfl rfl (run_bin rfl (vx := .int .i64 (k : Int)) (vy := .int .i64 1) (by kernel_rfl) (by kernel_rfl) fun w => run_addI (z := ((k + 1 : Nat) : Int)) rfl (len_range hlen (by omega)) w) ?_
          refine lm (v := .int .i64 ((k + 1 : Nat) : Int)) rfl rfl ?_
          refine wpL_done (fun W6 hW6 => ?_)
          clear hW5
          go_roundw
          case rel =>
            repeat apply Exists.intro
            exact ⟨⟨k + 1, by omega, by rw [hin]; simp [h2], rfl, ks_none hW6⟩, rfl⟩
          case measure => (show (l.length - intOf (.int .i64 ((k + 1 : Nat) : Int))).toNat < (l.length - intOf (.int .i64 (k : Int))).toNat); simp only [intOf]; omega
      · refine wp_seq ?_
        refine wp_region_L (W0 := w) [] (hKS) ?_
        refine lp (v := .bool true) rfl rfl (run_bin rfl (vx := .int .i64 (k : Int)) (vy := .int .i64 (l.length : Int)) (by kernel_rfl) (by kernel_rfl) fun w => run_lssI (decide_eq_true (by omega)) w) ?_
        refine wpL_done (fun W3 hW3 => ?_)
        refine (show Code.wp _ _ _ _ _ from ?_)
        refine wp_seq ?_
        refine wp_cond_true rfl ?_
        refine wp_skip ?_
        refine (show Code.wp _ _ _ _ _ from ?_)
        refine wp_seq ?_
        refine wp_block ?_
        refine wp_seq ?_
        refine wp_region_L (W0 := w) [] (hW3) ?_
        refine lp (v := .pointer (some ⟨b, off + 2 * k, none⟩)) rfl rfl (run_idxp (b := b) (off := off) (n := l.length) (cap := cap) (k := k) rfl (by kernel_rfl) hp (by kernel_rfl) hkn) ?_
        refine lv (v := .agg #[.int .i64 f, .int .i64 t]) rfl rfl (yb_load2 rfl (by kernel_rfl) (hcell k (f, t) hget).1 (hcell k (f, t) hget).2 (World.block_lt_of_cell? _ _ (hcell k (f, t) hget).1)) ?_
        refine wpL_new (fun g => .pointer (some ⟨g, 0, none⟩)) (obi := .cells #[.int .i64 0, .int .i64 0] 41 (0, 0)) rfl rfl (fun _ => by kernel_rfl) (fun _ => by simp only [List.setIfInBounds_toArray, List.set_cons_succ, List.set_cons_zero] <;> rfl) fun g1 Bg1 Fg1 => ?_
        try simp only [List.forall_mem_cons] at Fg1
        refine wpL_s [(g1, .cells #[.int .i64 f, .int .i64 t] 41 (0, 0))] rfl rfl (st_span rfl (by kernel_rfl) (by kernel_rfl) (.head _) (by omega) (List.forall_mem_cons.2 ⟨.inl rfl, (List.forall_mem_nil _)⟩)) ?_
        refine wpL_done (fun W4 hW4 => ?_)
        clear hW3
        refine (show Code.wp _ _ _ _ _ from ?_)
        refine wp_seq ?_
        refine wp_region_L (W0 := w) [(g1, .cells #[.int .i64 f, .int .i64 t] 41 (0, 0))] (hW4) ?_
        refine lm (v := .pointer (some ⟨g1, 0, none⟩)) rfl rfl ?_
        refine lv (v := .int .i64 f) rfl rfl (yb_loadc (off := 0) rfl (by kernel_rfl) (.head _) Tryd.underlying3 rfl (by kernel_rfl)) ?_
        refine lm (v := .int .i64 x) rfl rfl ?_
        refine lp (v := .bool false) rfl rfl (run_bin rfl (vx := .int .i64 f) (vy := .int .i64 x) (by kernel_rfl) (by kernel_rfl) fun w => run_leqI (decide_eq_false h1) w) ?_
        refine lm (v := .bool false) rfl rfl ?_
        refine ln rfl ?_
        refine ln rfl ?_
        refine ln rfl ?_
        refine ln rfl ?_
        refine lm (v := .bool false) rfl rfl ?_
        refine wpL_done (fun W5 hW5 => ?_)
        clear hW4
        refine (show Code.wp _ _ _ _ _ from ?_)
        refine wp_cond_false rfl ?_
        refine wp_skip ?_
        refine (show Code.wp _ _ _ _ _ from ?_)
        refine wp_region_L (W0 := w) [(g1, .cells #[.int .i64 f, .int .i64 t] 41 (0, 0))] (hW5) ?_
        refine lp (v := .int .i64 ((k + 1 : Nat) : Int)) rfl rfl (run_bin rfl (vx := .int .i64 (k : Int)) (vy := .int .i64 1) (by kernel_rfl) (by kernel_rfl) fun w => run_addI (z := ((k + 1 : Nat) : Int)) rfl (len_range hlen (by omega)) w) ?_
        refine lm (v := .int .i64 ((k + 1 : Nat) : Int)) rfl rfl ?_
        refine wpL_done (fun W6 hW6 => ?_)
        clear hW5
        go_roundw
        case rel =>
          repeat apply Exists.intro
          exact ⟨⟨k + 1, by omega, by rw [hin]; simp [h1], rfl, ks_none hW6⟩, rfl⟩
        case measure => (show (l.length - intOf (.int .i64 ((k + 1 : Nat) : Int))).toNat < (l.length - intOf (.int .i64 (k : Int))).toNat); simp only [intOf]; omega
    · rw [show inL l x = false from by rw [hin, List.drop_eq_nil_of_le (by omega)]; rfl]
      refine wp_seq ?_
      refine wp_region_L (W0 := w) [] (hKS) ?_
      refine lp (v := .bool false) rfl rfl (run_bin rfl (vx := .int .i64 (k : Int)) (vy := .int .i64 (l.length : Int)) (by kernel_rfl) (by kernel_rfl) fun w => run_lssI (decide_eq_false (by omega)) w) ?_
      refine wpL_done (fun W3 hW3 => ?_)
      refine (show Code.wp _ _ _ _ _ from ?_)
      refine wp_seq ?_
      refine wp_cond_false rfl ?_
      refine wp_exit ?_
      refine (show Code.wp _ _ _ _ _ from ?_)
      refine wp_seq ?_
      refine wp_region_L (W0 := w) [] (hW3) ?_
      refine lm (v := .bool false) rfl rfl ?_
      refine wpL_done (fun W4 hW4 => ?_)
      clear hW3
      refine (show Code.wp _ _ _ _ _ from ?_)
      refine wp_ret ?_
      try simp only [inBlock_ret, then_ret]
      go_ret
      exact ⟨rfl, hW4.1⟩
end Go.Proofs.YtjmcelgdjpdacaaDoor
namespace Go.Proofs.YtjmcelgdjpdacaaDoor
open Go.RowKit Tw
theorem ap_drop {l : List (Int × Int)} {k : Nat} {f t bef : Int} (h : l[k]? = some (f, t)) : apFrom bef (l.drop k) = (decide (bef < f) && decide (f < t) && decide (t ≤ 100000000) && apFrom t (l.drop (k + 1))) := by
  rw [drop_get h]; rfl
set_option maxRecDepth 100000 in
set_option maxHeartbeats 2000000 in
theorem Apart_any (p : Option Addr) (cap : Nat) (l : List (Int × Int)) (w : World) (hcell : SL w p l) (hlen : (l.length : Int) ≤ 9223372036854775806) : Calls Tryd.prog 27 #[.slice p l.length cap] w fun e w' => e = .returned (.bool (apart l)) ∧ Below w.heap.size w w' := by
  have HC := Lib.hid hcell
  clear hcell
  by_cases hl1000 : l.length ≤ 1000
  · go_enter Tryd.func27, Tryd.ntmps27
    refine wp_seq ?_
    refine wp_region_L (W0 := w) [] (KS.start w) ?_
    refine lm (v := .bool false) rfl rfl ?_
    refine wpL_done (fun W1 hW1 => ?_)
    refine (show Code.wp _ _ _ _ _ from ?_)
    refine wp_seq ?_
    refine wp_seq ?_
    refine wp_region_L (W0 := w) [] (hW1) ?_
    refine lm (v := .slice p l.length cap) rfl rfl ?_
    refine lm (v := .int .i64 (l.length : Int)) rfl rfl ?_
    refine lp (v := .bool false) rfl rfl (run_bin rfl (vx := .int .i64 (l.length : Int)) (vy := .int .i64 1000) (by kernel_rfl) (by kernel_rfl) fun w => run_gtrI (decide_eq_false (by omega)) w) ?_
    refine wpL_done (fun W2 hW2 => ?_)
    clear hW1
    refine (show Code.wp _ _ _ _ _ from ?_)
    refine wp_cond_false rfl ?_
    refine wp_skip ?_
    refine (show Code.wp _ _ _ _ _ from ?_)
    refine wp_seq ?_
    refine wp_region_L (W0 := w) [] (hW2) ?_
    refine lm (v := .int .i64 (-1)) rfl rfl ?_
    refine wpL_done (fun W3 hW3 => ?_)
    clear hW2
    refine (show Code.wp _ _ _ _ _ from ?_)
    refine wp_seq ?_
    refine wp_seq ?_
    refine wp_region_L (W0 := w) [] (hW3) ?_
    refine lm (v := .slice p l.length cap) rfl rfl ?_
    refine lm (v := .int .i64 (l.length : Int)) rfl rfl ?_
    refine lm (v := .int .i64 0) rfl rfl ?_
    refine wpL_done (fun W4 hW4 => ?_)
    clear hW3
    refine (show Code.wp _ _ _ _ _ from ?_)
    refine wp_block ?_
    go_loopw [11, 3] (fun u ubef wr => ∃ (k : Nat) (bef : Int), k ≤ l.length ∧ (apFrom (-1) l = apFrom bef (l.drop k)) ∧ u = .int .i64 (k : Int) ∧ ubef = .int .i64 bef ∧ KS w [] wr) (fun u _ _ => (l.length - intOf u).toNat)
    case atStart => exact ⟨0, -1, by omega, rfl, rfl, rfl, ks_none (hW4)⟩
    case round =>
      obtain ⟨k, bef, hk, hin, rfl, rfl, hKS⟩ := hrel
      by_cases hkn : k < l.length
      · obtain ⟨⟨f, t⟩, hget⟩ : ∃ s, l[k]? = some s := ⟨_, List.getElem?_eq_getElem hkn⟩
        obtain ⟨b, off, hp, hcell⟩ := HC.out.resolve_left (fun e => by rw [e] at hkn; simp at hkn)
        rw [ap_drop hget] at hin
        by_cases h1 : f ≤ bef
        · rw [show apart l = false from by unfold apart; rw [hin]; simp; intros; omega]
          refine wp_seq ?_
          refine wp_region_L (W0 := w) [] (hKS) ?_
          refine lp (v := .bool true) rfl rfl (run_bin rfl (vx := .int .i64 (k : Int)) (vy := .int .i64 (l.length : Int)) (by kernel_rfl) (by kernel_rfl) fun w => run_lssI (decide_eq_true (by omega)) w) ?_
          refine wpL_done (fun W5 hW5 => ?_)
          refine (show Code.wp _ _ _ _ _ from ?_)
          refine wp_seq ?_
          refine wp_cond_true rfl ?_
          refine wp_skip ?_
          refine (show Code.wp _ _ _ _ _ from ?_)
          refine wp_seq ?_
          refine wp_block ?_
          refine wp_seq ?_
          refine wp_region_L (W0 := w) [] (hW5) ?_
          refine lp (v := .pointer (some ⟨b, off + 2 * k, none⟩)) rfl rfl (run_idxp (b := b) (off := off) (n := l.length) (cap := cap) (k := k) rfl (by kernel_rfl) hp (by kernel_rfl) hkn) ?_
          refine lv (v := .agg #[.int .i64 f, .int .i64 t]) rfl rfl (yb_load2 rfl (by kernel_rfl) (hcell k (f, t) hget).1 (hcell k (f, t) hget).2 (World.block_lt_of_cell? _ _ (hcell k (f, t) hget).1)) ?_
          refine wpL_new (fun g => .pointer (some ⟨g, 0, none⟩)) (obi := .cells #[.int .i64 0, .int .i64 0] 41 (0, 0)) rfl rfl (fun _ => by kernel_rfl) (fun _ => by simp only [List.setIfInBounds_toArray, List.set_cons_succ, List.set_cons_zero] <;> rfl) fun g1 Bg1 Fg1 => ?_
          try simp only [List.forall_mem_cons] at Fg1
          refine wpL_s [(g1, .cells #[.int .i64 f, .int .i64 t] 41 (0, 0))] rfl rfl (st_span rfl (by kernel_rfl) (by kernel_rfl) (.head _) (by omega) (List.forall_mem_cons.2 ⟨.inl rfl, (List.forall_mem_nil _)⟩)) ?_
          refine wpL_done (fun W6 hW6 => ?_)
          clear hW5
          refine (show Code.wp _ _ _ _ _ from ?_)
          refine wp_seq ?_
          refine wp_seq ?_
          refine wp_region_L (W0 := w) [(g1, .cells #[.int .i64 f, .int .i64 t] 41 (0, 0))] (hW6) ?_
          refine lm (v := .pointer (some ⟨g1, 0, none⟩)) rfl rfl ?_
          refine lv (v := .int .i64 f) rfl rfl (yb_loadc (off := 0) rfl (by kernel_rfl) (.head _) Tryd.underlying3 rfl (by kernel_rfl)) ?_
          refine lm (v := .int .i64 bef) rfl rfl ?_
          refine lp (v := .bool true) rfl rfl (run_bin rfl (vx := .int .i64 f) (vy := .int .i64 bef) (by kernel_rfl) (by kernel_rfl) fun w => run_leqI (decide_eq_true h1) w) ?_
          refine lm (v := .bool true) rfl rfl ?_
          refine ln rfl ?_
          refine ln rfl ?_
          refine ln rfl ?_
          refine ln rfl ?_
          refine ln rfl ?_
          refine lm (v := .bool true) rfl rfl ?_
          refine lm (v := .bool true) rfl rfl ?_
          refine ln rfl ?_
          refine ln rfl ?_
          refine ln rfl ?_
          refine lm (v := .bool true) rfl rfl ?_
          refine wpL_done (fun W7 hW7 => ?_)
          clear hW6
          refine (show Code.wp _ _ _ _ _ from ?_)
          refine wp_cond_true rfl ?_
          refine wp_seq ?_
          refine wp_region_L (W0 := w) [(g1, .cells #[.int .i64 f, .int .i64 t] 41 (0, 0))] (hW7) ?_
          refine lm (v := .bool false) rfl rfl ?_
          refine wpL_done (fun W8 hW8 => ?_)
          clear hW7
          refine (show Code.wp _ _ _ _ _ from ?_)
          refine wp_ret ?_
          try simp only [inBlock_ret, then_ret]
          go_ret
          exact ⟨rfl, hW8.1⟩
        · by_cases h2 : t ≤ f
          · rw [show apart l = false from by unfold apart; rw [hin]; simp; intros; omega]
            refine wp_seq ?_
            refine wp_region_L (W0 := w) [] (hKS) ?_
            refine lp (v := .bool true) rfl rfl (run_bin rfl (vx := .int .i64 (k : Int)) (vy := .int .i64 (l.length : Int)) (by kernel_rfl) (by kernel_rfl) fun w => run_lssI (decide_eq_true (by omega)) w) ?_
            refine wpL_done (fun W5 hW5 => ?_)
            refine (show Code.wp _ _ _ _ _ from ?_)
            refine wp_seq ?_
            refine wp_cond_true rfl ?_
            refine wp_skip ?_
            refine (show Code.wp _ _ _ _ _ from ?_)
            refine wp_seq ?_
            refine wp_block ?_
            refine wp_seq ?_
            refine wp_region_L (W0 := w) [] (hW5) ?_
            refine lp (v := .pointer (some ⟨b, off + 2 * k, none⟩)) rfl rfl (run_idxp (b := b) (off := off) (n := l.length) (cap := cap) (k := k) rfl (by kernel_rfl) hp (by kernel_rfl) hkn) ?_
            refine lv (v := .agg #[.int .i64 f, .int .i64 t]) rfl rfl (yb_load2 rfl (by kernel_rfl) (hcell k (f, t) hget).1 (hcell k (f, t) hget).2 (World.block_lt_of_cell? _ _ (hcell k (f, t) hget).1)) ?_
            refine wpL_new (fun g => .pointer (some ⟨g, 0, none⟩)) (obi := .cells #[.int .i64 0, .int .i64 0] 41 (0, 0)) rfl rfl (fun _ => by kernel_rfl) (fun _ => by simp only [List.setIfInBounds_toArray, List.set_cons_succ, List.set_cons_zero] <;> rfl) fun g1 Bg1 Fg1 => ?_
            try simp only [List.forall_mem_cons] at Fg1
            refine wpL_s [(g1, .cells #[.int .i64 f, .int .i64 t] 41 (0, 0))] rfl rfl (st_span rfl (by kernel_rfl) (by kernel_rfl) (.head _) (by omega) (List.forall_mem_cons.2 ⟨.inl rfl, (List.forall_mem_nil _)⟩)) ?_
            refine wpL_done (fun W6 hW6 => ?_)
            clear hW5
            refine (show Code.wp _ _ _ _ _ from ?_)
            refine wp_seq ?_
            refine wp_seq ?_
            refine wp_region_L (W0 := w) [(g1, .cells #[.int .i64 f, .int .i64 t] 41 (0, 0))] (hW6) ?_
            refine lm (v := .pointer (some ⟨g1, 0, none⟩)) rfl rfl ?_
            refine lv (v := .int .i64 f) rfl rfl (yb_loadc (off := 0) rfl (by kernel_rfl) (.head _) Tryd.underlying3 rfl (by kernel_rfl)) ?_
            refine lm (v := .int .i64 bef) rfl rfl ?_
            refine lp (v := .bool false) rfl rfl (run_bin rfl (vx := .int .i64 f) (vy := .int .i64 bef) (by kernel_rfl) (by kernel_rfl) fun w => run_leqI (decide_eq_false h1) w) ?_
            refine lm (v := .bool false) rfl rfl ?_
            refine lm (v := .pointer (some ⟨g1, 1, none⟩)) rfl rfl ?_
            refine lv (v := .int .i64 t) rfl rfl (yb_loadc (off := 1) rfl (by kernel_rfl) (.head _) Tryd.underlying3 rfl (by kernel_rfl)) ?_
            refine lm (v := .pointer (some ⟨g1, 0, none⟩)) rfl rfl ?_
            refine lv (v := .int .i64 f) rfl rfl (yb_loadc (off := 0) rfl (by kernel_rfl) (.head _) Tryd.underlying3 rfl (by kernel_rfl)) ?_
            refine lp (v := .bool true) rfl rfl (run_bin rfl (vx := .int .i64 t) (vy := .int .i64 f) (by kernel_rfl) (by kernel_rfl) fun w => run_leqI (decide_eq_true h2) w) ?_
            refine lm (v := .bool true) rfl rfl ?_
            refine lm (v := .bool true) rfl rfl ?_
            refine ln rfl ?_
            refine ln rfl ?_
            refine ln rfl ?_
            refine lm (v := .bool true) rfl rfl ?_
            refine wpL_done (fun W7 hW7 => ?_)
            clear hW6
            refine (show Code.wp _ _ _ _ _ from ?_)
            refine wp_cond_true rfl ?_
            refine wp_seq ?_
            refine wp_region_L (W0 := w) [(g1, .cells #[.int .i64 f, .int .i64 t] 41 (0, 0))] (hW7) ?_
            refine lm (v := .bool false) rfl rfl ?_
            refine wpL_done (fun W8 hW8 => ?_)
            clear hW7
            refine (show Code.wp _ _ _ _ _ from ?_)
            refine wp_ret ?_
            try simp only [inBlock_ret, then_ret]
            go_ret
            exact ⟨rfl, hW8.1⟩
          · by_cases h3 : 100000000 < t
            · rw [show apart l = false from by unfold apart; rw [hin]; simp; intros; omega]
              refine wp_seq ?_
              refine wp_region_L (W0 := w) [] (hKS) ?_
              refine lp (v := .bool true) rfl rfl (run_bin rfl (vx := .int .i64 (k : Int)) (vy := .int .i64 (l.length : Int)) (by kernel_rfl) (by kernel_rfl) fun w => run_lssI (decide_eq_true (by omega)) w) ?_
              refine wpL_done (fun W5 hW5 => ?_)
              refine (show Code.wp _ _ _ _ _ from ?_)
              refine wp_seq ?_
              refine wp_cond_true rfl ?_
              refine wp_skip ?_
              refine (show Code.wp _ _ _ _ _ from ?_)
              refine wp_seq ?_
              refine wp_block ?_
              refine wp_seq ?_
              refine wp_region_L (W0 := w) [] (hW5) ?_
              refine lp (v := .pointer (some ⟨b, off + 2 * k, none⟩)) rfl rfl (run_idxp (b := b) (off := off) (n := l.length) (cap := cap) (k := k) rfl (by kernel_rfl) hp (by kernel_rfl) hkn) ?_
              refine lv (v := .agg #[.int .i64 f, .int .i64 t]) rfl rfl (yb_load2 rfl (by kernel_rfl) (hcell k (f, t) hget).1 (hcell k (f, t) hget).2 (World.block_lt_of_cell? _ _ (hcell k (f, t) hget).1)) ?_
              refine wpL_new (fun g => .pointer (some ⟨g, 0, none⟩)) (obi := .cells #[.int .i64 0, .int .i64 0] 41 (0, 0)) rfl rfl (fun _ => by kernel_rfl) (fun _ => by simp only [List.setIfInBounds_toArray, List.set_cons_succ, List.set_cons_zero] <;> rfl) fun g1 Bg1 Fg1 => ?_
              try simp only [List.forall_mem_cons] at Fg1
              refine wpL_s [(g1, .cells #[.int .i64 f, .int .i64 t] 41 (0, 0))] rfl rfl (st_span rfl (by kernel_rfl) (by kernel_rfl) (.head _) (by omega) (List.forall_mem_cons.2 ⟨.inl rfl, (List.forall_mem_nil _)⟩)) ?_
              refine wpL_done (fun W6 hW6 => ?_)
              clear hW5
              refine (show Code.wp _ _ _ _ _ from ?_)
              refine wp_seq ?_
              refine wp_seq ?_
              refine wp_region_L (W0 := w) [(g1, .cells #[.int .i64 f, .int .i64 t] 41 (0, 0))] (hW6) ?_
              refine lm (v := .pointer (some ⟨g1, 0, none⟩)) rfl rfl ?_
              refine lv (v := .int .i64 f) rfl rfl (yb_loadc (off := 0) rfl (by kernel_rfl) (.head _) Tryd.underlying3 rfl (by kernel_rfl)) ?_
              refine lm (v := .int .i64 bef) rfl rfl ?_
              refine lp (v := .bool false) rfl rfl (run_bin rfl (vx := .int .i64 f) (vy := .int .i64 bef) (by kernel_rfl) (by kernel_rfl) fun w => run_leqI (decide_eq_false h1) w) ?_
              refine lm (v := .bool false) rfl rfl ?_
              refine lm (v := .pointer (some ⟨g1, 1, none⟩)) rfl rfl ?_
              refine lv (v := .int .i64 t) rfl rfl (yb_loadc (off := 1) rfl (by kernel_rfl) (.head _) Tryd.underlying3 rfl (by kernel_rfl)) ?_
              refine lm (v := .pointer (some ⟨g1, 0, none⟩)) rfl rfl ?_
              refine lv (v := .int .i64 f) rfl rfl (yb_loadc (off := 0) rfl (by kernel_rfl) (.head _) Tryd.underlying3 rfl (by kernel_rfl)) ?_
              refine lp (v := .bool false) rfl rfl (run_bin rfl (vx := .int .i64 t) (vy := .int .i64 f) (by kernel_rfl) (by kernel_rfl) fun w => run_leqI (decide_eq_false h2) w) ?_
              refine lm (v := .bool false) rfl rfl ?_
              refine lm (v := .bool false) rfl rfl ?_
              refine lm (v := .pointer (some ⟨g1, 1, none⟩)) rfl rfl ?_
              refine lv (v := .int .i64 t) rfl rfl (yb_loadc (off := 1) rfl (by kernel_rfl) (.head _) Tryd.underlying3 rfl (by kernel_rfl)) ?_
              refine lp (v := .bool true) rfl rfl (run_bin rfl (vx := .int .i64 t) (vy := .int .i64 100000000) (by kernel_rfl) (by kernel_rfl) fun w => run_gtrI (decide_eq_true h3) w) ?_
              refine lm (v := .bool true) rfl rfl ?_
              refine wpL_done (fun W7 hW7 => ?_)
              clear hW6
              refine (show Code.wp _ _ _ _ _ from ?_)
              refine wp_cond_true rfl ?_
              refine wp_seq ?_
              refine wp_region_L (W0 := w) [(g1, .cells #[.int .i64 f, .int .i64 t] 41 (0, 0))] (hW7) ?_
              refine lm (v := .bool false) rfl rfl ?_
              refine wpL_done (fun W8 hW8 => ?_)
              clear hW7
              refine (show Code.wp _ _ _ _ _ from ?_)
              refine wp_ret ?_
              try simp only [inBlock_ret, then_ret]
              go_ret
              exact ⟨rfl, hW8.1⟩
            · refine wp_seq ?_
              refine wp_region_L (W0 := w) [] (hKS) ?_
              refine lp (v := .bool true) rfl rfl (run_bin rfl (vx := .int .i64 (k : Int)) (vy := .int .i64 (l.length : Int)) (by kernel_rfl) (by kernel_rfl) fun w => run_lssI (decide_eq_true (by omega)) w) ?_
              refine wpL_done (fun W5 hW5 => ?_)
              refine (show Code.wp _ _ _ _ _ from ?_)
              refine wp_seq ?_
              refine wp_cond_true rfl ?_
              refine wp_skip ?_
              refine (show Code.wp _ _ _ _ _ from ?_)
              refine wp_seq ?_
              refine wp_block ?_
              refine wp_seq ?_
              refine wp_region_L (W0 := w) [] (hW5) ?_
              refine lp (v := .pointer (some ⟨b, off + 2 * k, none⟩)) rfl rfl (run_idxp (b := b) (off := off) (n := l.length) (cap := cap) (k := k) rfl (by kernel_rfl) hp (by kernel_rfl) hkn) ?_
              refine lv (v := .agg #[.int .i64 f, .int .i64 t]) rfl rfl (yb_load2 rfl (by kernel_rfl) (hcell k (f, t) hget).1 (hcell k (f, t) hget).2 (World.block_lt_of_cell? _ _ (hcell k (f, t) hget).1)) ?_
              refine wpL_new (fun g => .pointer (some ⟨g, 0, none⟩)) (obi := .cells #[.int .i64 0, .int .i64 0] 41 (0, 0)) rfl rfl (fun _ => by kernel_rfl) (fun _ => by simp only [List.setIfInBounds_toArray, List.set_cons_succ, List.set_cons_zero] <;> rfl) fun g1 Bg1 Fg1 => ?_
              try simp only [List.forall_mem_cons] at Fg1
              refine wpL_s [(g1, .cells #[.int .i64 f, .int .i64 t] 41 (0, 0))] rfl rfl (st_span rfl (by kernel_rfl) (by kernel_rfl) (.head _) (by omega) (List.forall_mem_cons.2 ⟨.inl rfl, (List.forall_mem_nil _)⟩)) ?_
              refine wpL_done (fun W6 hW6 => ?_)
              clear hW5
              refine (show Code.wp _ _ _ _ _ from ?_)
              refine wp_seq ?_
              refine wp_seq ?_
              refine wp_region_L (W0 := w) [(g1, .cells #[.int .i64 f, .int .i64 t] 41 (0, 0))] (hW6) ?_
              refine lm (v := .pointer (some ⟨g1, 0, none⟩)) rfl rfl ?_
              refine lv (v := .int .i64 f) rfl rfl (yb_loadc (off := 0) rfl (by kernel_rfl) (.head _) Tryd.underlying3 rfl (by kernel_rfl)) ?_
              refine lm (v := .int .i64 bef) rfl rfl ?_
              refine lp (v := .bool false) rfl rfl (run_bin rfl (vx := .int .i64 f) (vy := .int .i64 bef) (by kernel_rfl) (by kernel_rfl) fun w => run_leqI (decide_eq_false h1) w) ?_
              refine lm (v := .bool false) rfl rfl ?_
              refine lm (v := .pointer (some ⟨g1, 1, none⟩)) rfl rfl ?_
              refine lv (v := .int .i64 t) rfl rfl (yb_loadc (off := 1) rfl (by kernel_rfl) (.head _) Tryd.underlying3 rfl (by kernel_rfl)) ?_
              refine lm (v := .pointer (some ⟨g1, 0, none⟩)) rfl rfl ?_
              refine lv (v := .int .i64 f) rfl rfl (yb_loadc (off := 0) rfl (by kernel_rfl) (.head _) Tryd.underlying3 rfl (by kernel_rfl)) ?_
              refine lp (v := .bool false) rfl rfl (run_bin rfl (vx := .int .i64 t) (vy := .int .i64 f) (by kernel_rfl) (by kernel_rfl) fun w => run_leqI (decide_eq_false h2) w) ?_
              refine lm (v := .bool false) rfl rfl ?_
              refine lm (v := .bool false) rfl rfl ?_
              refine lm (v := .pointer (some ⟨g1, 1, none⟩)) rfl rfl ?_
              refine lv (v := .int .i64 t) rfl rfl (yb_loadc (off := 1) rfl (by kernel_rfl) (.head _) Tryd.underlying3 rfl (by kernel_rfl)) ?_
              refine lp (v := .bool false) rfl rfl (run_bin rfl (vx := .int .i64 t) (vy := .int .i64 100000000) (by kernel_rfl) (by kernel_rfl) fun w => run_gtrI (decide_eq_false h3) w) ?_
              refine lm (v := .bool false) rfl rfl ?_
              refine wpL_done (fun W7 hW7 => ?_)
              clear hW6
              refine (show Code.wp _ _ _ _ _ from ?_)
              refine wp_cond_false rfl ?_
              refine wp_skip ?_
              refine (show Code.wp _ _ _ _ _ from ?_)
              refine wp_region_L (W0 := w) [(g1, .cells #[.int .i64 f, .int .i64 t] 41 (0, 0))] (hW7) ?_
              refine lm (v := .pointer (some ⟨g1, 1, none⟩)) rfl rfl ?_
              refine lv (v := .int .i64 t) rfl rfl (yb_loadc (off := 1) rfl (by kernel_rfl) (.head _) Tryd.underlying3 rfl (by kernel_rfl)) ?_
              refine lm (v := .int .i64 t) rfl rfl ?_
              refine wpL_done (fun W8 hW8 => ?_)
              clear hW7
              refine (show Code.wp _ _ _ _ _ from ?_)
              refine wp_region_L (W0 := w) [(g1, .cells #[.int .i64 f, .int .i64 t] 41 (0, 0))] (hW8) ?_
              refine lp (v := .int .i64 ((k + 1 : Nat) : Int)) rfl rfl (run_bin rfl (vx := .int .i64 (k : Int)) (vy := .int .i64 1) (by kernel_rfl) (by kernel_rfl) fun w => run_addI (z := ((k + 1 : Nat) : Int)) rfl (len_range hlen (by omega)) w) ?_
              refine lm (v := .int .i64 ((k + 1 : Nat) : Int)) rfl rfl ?_
              refine wpL_done (fun W9 hW9 => ?_)
              clear hW8
              go_roundw
              case rel =>
                repeat apply Exists.intro
                exact ⟨⟨k + 1, t, by omega, by rw [hin]; simp [show bef < f from by omega, show f < t from by omega, show t ≤ 100000000 from by omega], rfl, rfl, ks_none hW9⟩, rfl⟩
              case measure => (show (l.length - intOf (.int .i64 ((k + 1 : Nat) : Int))).toNat < (l.length - intOf (.int .i64 (k : Int))).toNat); simp only [intOf]; omega
      · have hnil : l.drop k = [] := List.drop_eq_nil_of_le (by omega)
        rw [show apart l = true from by unfold apart; rw [hin, hnil]; simp [hl1000]; rfl]
        refine wp_seq ?_
        refine wp_region_L (W0 := w) [] (hKS) ?_
        refine lp (v := .bool false) rfl rfl (run_bin rfl (vx := .int .i64 (k : Int)) (vy := .int .i64 (l.length : Int)) (by kernel_rfl) (by kernel_rfl) fun w => run_lssI (decide_eq_false (by omega)) w) ?_
        refine wpL_done (fun W5 hW5 => ?_)
        refine (show Code.wp _ _ _ _ _ from ?_)
        refine wp_seq ?_
        refine wp_cond_false rfl ?_
        refine wp_exit ?_
        refine (show Code.wp _ _ _ _ _ from ?_)
        refine wp_seq ?_
        refine wp_region_L (W0 := w) [] (hW5) ?_
        refine lm (v := .bool true) rfl rfl ?_
        refine wpL_done (fun W6 hW6 => ?_)
        clear hW5
        refine (show Code.wp _ _ _ _ _ from ?_)
        refine wp_ret ?_
        try simp only [inBlock_ret, then_ret]
        go_ret
        exact ⟨rfl, hW6.1⟩
  · rw [show apart l = false from by unfold apart; simp [hl1000]]
    go_enter Tryd.func27, Tryd.ntmps27
    refine wp_seq ?_
    refine wp_region_L (W0 := w) [] (KS.start w) ?_
    refine lm (v := .bool false) rfl rfl ?_
    refine wpL_done (fun W1 hW1 => ?_)
    refine (show Code.wp _ _ _ _ _ from ?_)
    refine wp_seq ?_
    refine wp_seq ?_
    refine wp_region_L (W0 := w) [] (hW1) ?_
    refine lm (v := .slice p l.length cap) rfl rfl ?_
    refine lm (v := .int .i64 (l.length : Int)) rfl rfl ?_
    refine lp (v := .bool true) rfl rfl (run_bin rfl (vx := .int .i64 (l.length : Int)) (vy := .int .i64 1000) (by kernel_rfl) (by kernel_rfl) fun w => run_gtrI (decide_eq_true (by omega)) w) ?_
    refine wpL_done (fun W2 hW2 => ?_)
    clear hW1
    refine (show Code.wp _ _ _ _ _ from ?_)
    refine wp_cond_true rfl ?_
    refine wp_seq ?_
    refine wp_region_L (W0 := w) [] (hW2) ?_
    refine lm (v := .bool false) rfl rfl ?_
    refine wpL_done (fun W3 hW3 => ?_)
    clear hW2
    refine (show Code.wp _ _ _ _ _ from ?_)
    refine wp_ret ?_
    try simp only [inBlock_ret, then_ret]
    go_ret
    exact ⟨rfl, hW3.1⟩
end Go.Proofs.YtjmcelgdjpdacaaDoor
