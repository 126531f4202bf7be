import Derived.Test.YtnbfljcilojllaaSS01
import Derived.Test.YtnbfljcilojllaaSS00
import Derived.Laws.MakeOwn
import Derived.RangeFuncNested
import Derived.RangeFuncBound
import Derived.RangeFuncCalls
import Derived.RangeFuncLeaves
import Derived.Shelf.Abstract
import Derived.Shelf.RegionOpen
import Derived.OwnWalkIn
import Derived.TacticsInMore
import Derived.LoopNIn
import Derived.LoopIn
import Derived.OrdersIn
import Derived.RangeFuncFrom
/- Part of the proof: L8a, WA, L8b, TE0, WB, WC, WD, TG0, TN0, WE, L8c, WF, Ia, If, RF0, WG, WH, WI. -/
set_option linter.unusedVariables false
set_option linter.unusedSimpArgs false
set_option linter.unusedSectionVars false
/- Slot: what the layer says, in plain lists. -/
namespace Go.Proofs.Ytnbfljcilojllaa
open Go Go.RowKit Tw
structure Slt where
 col : Int
 tier : Int
 half : Nat
def sltC (x : Slt) : List Value := [.int .i64 x.col, .int .i64 x.tier, .int .u8 ((x.half : Nat) : Int)]
theorem sltC_len (x : Slt) : (sltC x).length = 3 := rfl
theorem sltC_one (x : Slt) : ∀ v ∈ sltC x, v.oneCell' = true := fun v hv => by
 simp only [sltC, List.mem_cons, List.not_mem_nil, or_false] at hv
 rcases hv with rfl | rfl | rfl <;> rfl
def slt0 : Slt := ⟨0, 0, 0⟩
def eqS (a b : Slt) : Bool := decide (a.col = b.col) && (decide (a.tier = b.tier) && decide (a.half = b.half))
def ovl (a b : Nat) : Bool := decide (a = b) || (decide (a = 0) || decide (b = 0))
def meetS (a b : Slt) : Bool := decide (a.col = b.col) && (decide (a.tier = b.tier) && ovl a.half b.half)
def cmpI (a b : Int) : Int := if a < b then -1 else if b < a then 1 else 0
def belowS (x : Slt) (l : List Slt) (h : Nat) : Bool := (fst (eqS ⟨x.col, x.tier - 1, h⟩) l).isSome
def heldS (x : Slt) (l : List Slt) : Bool := decide (x.tier ≤ 0) || (belowS x l x.half || (decide (x.half = 0) && (belowS x l 1 && belowS x l 2)))
-- the slots of a ship
def hsX (z : Nat) : List Nat := if z = 20 then [1, 2] else if z = 40 then [0] else []
def exS (cs : List Col) (c t : Int) : Bool := elB cs c && (!decide (t < 0) && decide (t < (elC col0 cs c).tiers))
def hasH (z h : Nat) : Bool := (fst (fun m => decide (h = m)) (hsX z)).isSome
def rightS (cs : List Col) (x : Slt) (z : Nat) : Bool := exS cs x.col x.tier && hasH z x.half
def tierS (z k t : Nat) : List Slt := (hsX z).map fun h => ⟨((k : Nat) : Int), ((t : Nat) : Int), h⟩
def colSl (z k : Nat) (n : Int) : List Slt := (List.range n.toNat).flatMap (tierS z k)
def slotsF (z : Nat) : Nat → List Col → List Slt
 | _, [] => []
 | k, c :: cs => colSl z k c.tiers ++ slotsF z (k + 1) cs
def slotsX (cs : List Col) (z : Nat) : List Slt := slotsF z 0 cs
def posT : List Col → Nat
 | [] => 0
 | c :: cs => c.tiers.toNat + posT cs
theorem hsX_len (z : Nat) : (hsX z).length ≤ 2 := by
 unfold hsX
 split
 · exact Nat.le_refl _
 · split
   · decide
   · exact Nat.zero_le _
theorem tierS_len (z k t : Nat) : (tierS z k t).length = (hsX z).length := by simp [tierS]
theorem colSl_len (z k : Nat) (n : Int) : (colSl z k n).length = n.toNat * (hsX z).length := by
 unfold colSl
 rw [List.length_flatMap]
 simp only [tierS_len]
 rw [List.map_const', List.sum_replicate_nat, List.length_range]
theorem slotsF_len (z : Nat) (cs : List Col) : ∀ k, (slotsF z k cs).length = posT cs * (hsX z).length := by
 induction cs with
 | nil => intro k; simp [slotsF, posT]
 | cons c cs ih => intro k; simp only [slotsF, posT, List.length_append, colSl_len, ih, Nat.add_mul]
theorem slots_len (cs : List Col) (z : Nat) : (slotsX cs z).length = posT cs * (hsX z).length := slotsF_len z cs 0
theorem posT_le {cs : List Col} {m : Nat} (h : ∀ c ∈ cs, c.tiers ≤ ((m : Nat) : Int)) : posT cs ≤ cs.length * m := by
 induction cs with
 | nil => simp [posT]
 | cons c cs ih =>
   have h1 := h c Tw.m0
   have h2 := ih fun d hd => h d (.tail _ hd)
   simp only [posT, List.length_cons, Nat.add_mul, Nat.one_mul]
   omega
theorem exS_iff {cs : List Col} {n t : Int} : exS cs n t = true ↔ ∃ (j : Nat) (c : Col), cs[j]? = some c ∧ n = ((j : Nat) : Int) ∧ 0 ≤ t ∧ t < c.tiers := by
 unfold exS
 constructor
 · intro h
   simp only [Bool.and_eq_true, Bool.not_eq_true', decide_eq_false_iff_not, decide_eq_true_eq] at h
   obtain ⟨h1, h2, h3⟩ := el_mem (d := col0) h.1
   exact ⟨n.toNat, _, h1, by omega, by omega, h.2.2⟩
 · rintro ⟨j, c, hj, rfl, h1, h2⟩
   obtain ⟨e1, e2⟩ := el_in (d := col0) (l := cs) (n := ((j : Nat) : Int)) Tw.om (by simpa using hj)
   rw [e1, e2]
   simp; omega
end Go.Proofs.Ytnbfljcilojllaa
/- Stow: what the layer says, in plain lists. -/
namespace Go.Proofs.Ytnbfljcilojllaa
open Go Go.RowKit Tw
structure Bo where
 id : Int
 num : List UInt8
 size : Nat
 high : Bool
 kilos : Int
 load : Int
 dis : Int
 cls : Nat
 rf : Bool
def boC (b : Bo) : List Value := [.int .i64 b.id, strV b.num, .int .u8 ((b.size : Nat) : Int), .bool b.high, .int .i64 b.kilos, .int .i64 b.load, .int .i64 b.dis, .int .u8 ((b.cls : Nat) : Int), .bool b.rf]
theorem boC_len (b : Bo) : (boC b).length = 9 := rfl
theorem boC_one (b : Bo) : ∀ v ∈ boC b, v.oneCell' = true := fun v hv => by
 simp only [boC, List.mem_cons, List.not_mem_nil, or_false] at hv
 rcases hv with rfl | rfl | rfl | rfl | rfl | rfl | rfl | rfl | rfl <;> rfl
def bo0 : Bo := ⟨0, [], 0, false, 0, 0, 0, 0, false⟩
structure Sd where
 box : Int
 slot : Slt
def sdC (x : Sd) : List Value := .int .i64 x.box :: sltC x.slot
theorem sdC_len (x : Sd) : (sdC x).length = 4 := rfl
theorem sdC_one (x : Sd) : ∀ v ∈ sdC x, v.oneCell' = true := fun v hv => by
 simp only [sdC, sltC, List.mem_cons, List.not_mem_nil, or_false] at hv
 rcases hv with rfl | rfl | rfl | rfl <;> rfl
def sd0 : Sd := ⟨0, slt0⟩
-- what the layer says, in plain lists
def isId (n : Int) (b : Bo) : Bool := decide (b.id = n)
def isBx (n : Int) (x : Sd) : Bool := decide (x.box = n)
def findB (bs : List Bo) (n : Int) : Option Nat := fst (isId n) bs
def boxOf (bs : List Bo) (n : Int) : Bo := elC bo0 bs (fiN (findB bs n))
def heightO (b : Bo) : Nat := if b.high = true then 2896 else 2591
def addH (bs : List Bo) (c : Int) (h : Nat) (x : Sd) : Nat := if x.slot.col = c ∧ (x.slot.half = h ∨ x.slot.half = 0) then (if (findB bs x.box).isSome = true then heightO (boxOf bs x.box) else 0) else 0
def heightX (bs : List Bo) : List Sd → Int → Nat → Nat
 | [], _, _ => 0
 | x :: l, c, h => addH bs c h x + heightX bs l c h
theorem heightO_le (b : Bo) : heightO b ≤ 2896 := by unfold heightO; split <;> omega
theorem addH_le (bs : List Bo) (c : Int) (h : Nat) (x : Sd) : addH bs c h x ≤ 2896 := by
 unfold addH
 split
 · split
   · exact heightO_le _
   · omega
 · omega
theorem height_app (bs : List Bo) (l m : List Sd) (c : Int) (h : Nat) : heightX bs (l ++ m) c h = heightX bs l c h + heightX bs m c h := by
 induction l with
 | nil => simp [heightX]
 | cons x l ih => simp only [List.cons_append, heightX, ih, Nat.add_assoc]
theorem height_snoc {bs : List Bo} {l : List Sd} {k : Nat} {y : Sd} {c : Int} {h : Nat} (hy : l[k]? = some y) : heightX bs (l.take (k + 1)) c h = heightX bs (l.take k) c h + addH bs c h y := by
 obtain ⟨hk, rfl⟩ := List.getElem?_eq_some_iff.1 hy
 rw [List.take_succ_eq_append_getElem hk, height_app]
 simp [heightX]
theorem height_le (bs : List Bo) (l : List Sd) (c : Int) (h : Nat) : heightX bs l c h ≤ 2896 * l.length := by
 induction l with
 | nil => simp [heightX]
 | cons x l ih =>
   have := addH_le bs c h x
   simp only [heightX, List.length_cons]
   omega
section
variable {bs : List Bo} {c : Int} {h : Nat} {y : Sd}
theorem addH_col (h1 : ¬ y.slot.col = c) : addH bs c h y = 0 := by unfold addH; rw [if_neg fun e => h1 e.1]
theorem addH_half (h1 : ¬ y.slot.half = h) (h2 : ¬ y.slot.half = 0) : addH bs c h y = 0 := by unfold addH; rw [if_neg fun e => by rcases e.2 with e | e; exact h1 e; exact h2 e]
theorem addH_none (h1 : (findB bs y.box).isSome = false) : addH bs c h y = 0 := by unfold addH; rw [h1]; simp
theorem addH_yes (h1 : y.slot.col = c) (h2 : y.slot.half = h ∨ y.slot.half = 0) (h3 : (findB bs y.box).isSome = true) : addH bs c h y = heightO (boxOf bs y.box) := by unfold addH; rw [if_pos ⟨h1, h2⟩, if_pos h3]
end
def incS : List Sd → Bool
 | [] => true
 | [_] => true
 | x :: y :: l => decide (x.box < y.box) && incS (y :: l)
end Go.Proofs.Ytnbfljcilojllaa
namespace Go.Proofs.Ytnbfljcilojllaa
open Go Go.RowKit Tw
theorem el_slt : Elem Try.prog 56 40 3 24 (.agg #[.int .i64 0, .int .i64 0, .int .u8 0]) := Elem.mk' Try.underlying56 Tw.kr rfl
theorem eq_slt {x y : Slt} {px py : Operand} (w : World) : (do eqGuard .eql 40 px py (.agg (sltC x).toArray) (.agg (sltC y).toArray); binOp .eql 40 (.agg (sltC x).toArray) (.agg (sltC y).toArray) : Sem Value).run Try.prog w = .ok (.bool (eqS x y)) w := by
 unfold sltC eqS
 go_simp
 have e2 : (((x.half : Nat) : Int) = ((y.half : Nat) : Int)) = (x.half = y.half) := by apply propext; omega
 simp only [e2]
 by_cases h0 : x.col = y.col <;> by_cases h1 : x.tier = y.tier <;> by_cases h2 : x.half = y.half <;> simp [h0, h1, h2]
def u8C (n : Nat) : List Value := [.int .u8 ((n : Nat) : Int)]
theorem u8C_len (n : Nat) : (u8C n).length = 1 := rfl
theorem flat_len' {α : Type} {cells : α → List Value} {sz : Nat} (hc : ∀ y, (cells y).length = sz) (l : List α) : (l.flatMap cells).length = l.length * sz := by
 induction l with
 | nil => simp
 | cons y l ih => rw [List.flatMap_cons, List.length_append, ih, hc, List.length_cons, Nat.add_mul, Nat.one_mul, Nat.add_comm]
theorem blk_out {α : Type} {cells : α → List Value} {sz : Nat} {w W : World} {K : List (Nat × Obj)} {g : Nat} {l : List α} {E : TypeId} (hc : ∀ y, (cells y).length = sz) (hW : KS (w : Base) K W) (hm : (g, .cells (l.flatMap cells).toArray E (0, 0)) ∈ K) (hB : w.heap.size ≤ g) (hl : l.length ≤ maxLen) : OutV w W E sz (.slice (some ⟨g, 0, none⟩) l.length l.length) l.length (l.flatMap cells) :=
 .inr ⟨g, l.length, _, rfl, hB, ⟨by rw [List.size_toArray, flat_len' hc], hl, Nat.le_refl _, flat_len' hc l, by rw [← flat_len' hc l, List.take_length]⟩, hW.2 _ hm⟩

set_option maxRecDepth 100000 in
set_option maxHeartbeats 4000000 in
theorem ovl_any (a b : Nat) (w : World) : Calls Try.prog 52 #[.int .u8 ((a : Nat) : Int), .int .u8 ((b : Nat) : Int)] w fun e w' => e = .returned (.bool (ovl a b)) ∧ Below w.heap.size w w' := by
 go_enter Try.func52, Try.ntmps52
 refine wp_seq ?_
 refine wp_region_L [] (KS.start w) ?_
 refine lm (v := .bool false) rfl rfl ?_
 refine wpL_done (fun W1 hW1 => ?_)
 change Code.wp ..
 refine wp_seq ?_
 refine wp_region_L _ hW1 ?_
 refine lm (v := .int .u8 ((a : Nat) : Int)) rfl rfl ?_
 refine lm (v := .int .u8 ((b : Nat) : Int)) rfl rfl ?_
 refine lp (v := .bool (decide (a = b))) rfl rfl (run_bin rfl (vx := (.int .u8 ((a : Nat) : Int))) (vy := (.int .u8 ((b : Nat) : Int))) Tw.kr Tw.kr fun w => bn_eql rfl w) ?_
 refine lm (v := .bool (decide (a = b))) rfl rfl ?_
 cases hd1 : (decide (a = b)) with
 | false =>
   have h1 : ¬ (a = b) := of_decide_eq_false hd1
   clear hd1
   refine lm (v := .int .u8 ((a : Nat) : Int)) rfl rfl ?_
   refine lp (v := .bool (decide (a = 0))) rfl rfl (run_bin rfl (vx := (.int .u8 ((a : Nat) : Int))) (vy := (.int .u8 ((0 : Nat) : Int))) Tw.kr Tw.kr fun w => bn_eql rfl w) ?_
   refine lm (v := .bool (decide (a = 0))) rfl rfl ?_
   refine lm (v := .bool (decide (a = 0))) rfl rfl ?_
   cases hd2 : (decide (a = 0)) with
   | false =>
     have h2 : ¬ (a = 0) := of_decide_eq_false hd2
     clear hd2
     refine lm (v := .int .u8 ((b : Nat) : Int)) rfl rfl ?_
     refine lp (v := .bool (decide (b = 0))) rfl rfl (run_bin rfl (vx := (.int .u8 ((b : Nat) : Int))) (vy := (.int .u8 ((0 : Nat) : Int))) Tw.kr Tw.kr fun w => bn_eql rfl w) ?_
     refine lm (v := .bool (decide (b = 0))) rfl rfl ?_
     refine lm (v := .bool (decide (b = 0))) rfl rfl ?_
     refine wpL_done (fun W2 hW2 => ?_)
     change Code.wp ..
     refine wp_ret ?_
     try simp only [inBlock_ret, then_ret]
     refine bodyPost_ret (v := .bool (decide (b = 0))) ?_ rfl ?_
     · kernel_rfl
     · exact ⟨(bool_is (by unfold ovl; simp [*])), hW2.1⟩
   | true =>
     have h2 : a = 0 := of_decide_eq_true hd2
     clear hd2
     refine ln rfl ?_
     refine ln rfl ?_
     refine lm (v := .bool true) rfl rfl ?_
     refine lm (v := .bool true) rfl rfl ?_
     refine wpL_done (fun W3 hW3 => ?_)
     change Code.wp ..
     refine wp_ret ?_
     try simp only [inBlock_ret, then_ret]
     refine bodyPost_ret (v := .bool true) ?_ rfl ?_
     · kernel_rfl
     · exact ⟨(bool_is (by unfold ovl; simp [*])), hW3.1⟩
 | true =>
   have h1 : a = b := of_decide_eq_true hd1
   clear hd1
   refine ln rfl ?_
   refine ln rfl ?_
   refine lm (v := .bool true) rfl rfl ?_
   refine lm (v := .bool true) rfl rfl ?_
   refine ln rfl ?_
   refine ln rfl ?_
   refine lm (v := .bool true) rfl rfl ?_
   refine lm (v := .bool true) rfl rfl ?_
   refine wpL_done (fun W4 hW4 => ?_)
   change Code.wp ..
   refine wp_ret ?_
   try simp only [inBlock_ret, then_ret]
   refine bodyPost_ret (v := .bool true) ?_ rfl ?_
   · kernel_rfl
   · exact ⟨(bool_is (by unfold ovl; simp [*])), hW4.1⟩
set_option maxRecDepth 100000 in
set_option maxHeartbeats 4000000 in
theorem Meet_any (a b : Slt) (w : World) : Calls Try.prog 38 #[.agg (sltC a).toArray, .agg (sltC b).toArray] w fun e w' => e = .returned (.bool (meetS a b)) ∧ Below w.heap.size w w' := by
 go_enter Try.func38, Try.ntmps38
 refine wp_seq ?_
 refine wp_region_L [] (KS.start w) ?_
 refine wpL_new (fun g => .pointer (some ⟨g, 0, none⟩)) (obi := .cells (sltC a).toArray 40 (0, 0)) rfl rfl Tw.kf Tw.pf fun g1 Bg1 Fg1 => ?_
 refine wpL_new (fun g => .pointer (some ⟨g, 0, none⟩)) (obi := .cells (sltC b).toArray 40 (0, 0)) rfl rfl Tw.kf Tw.pf fun g2 Bg2 Fg2 => ?_
 obtain dj3_0 : g1 ≠ g2 := Tw.dkf Fg2
 refine lm (v := .bool false) rfl rfl ?_
 refine wpL_done (fun W1 hW1 => ?_)
 change Code.wp ..
 refine wp_seq ?_
 refine wp_region_L _ hW1 ?_
 refine lm (v := .pointer (some ⟨g1, 0, none⟩)) rfl rfl ?_
 refine lv (v := .int .i64 a.col) rfl rfl (yb_cell (off := 0) rfl Tw.kr Tw.m1 Try.underlying3 rfl Tw.kr) ?_
 refine lm (v := .pointer (some ⟨g2, 0, none⟩)) rfl rfl ?_
 refine lv (v := .int .i64 b.col) rfl rfl (yb_cell (off := 0) rfl Tw.kr Tw.m0 Try.underlying3 rfl Tw.kr) ?_
 refine lp (v := .bool (decide (a.col = b.col))) rfl rfl (run_bin rfl (vx := (.int .i64 a.col)) (vy := (.int .i64 b.col)) Tw.kr Tw.kr fun w => bi_eql rfl w) ?_
 refine lm (v := .bool (decide (a.col = b.col))) rfl rfl ?_
 cases hd1 : (decide (a.col = b.col)) with
 | false =>
   have h1 : ¬ (a.col = b.col) := of_decide_eq_false hd1
   clear hd1
   refine ln rfl ?_
   refine ln rfl ?_
   refine ln rfl ?_
   refine ln rfl ?_
   refine ln rfl ?_
   refine lm (v := .bool false) rfl rfl ?_
   refine lm (v := .bool false) rfl rfl ?_
   refine ln rfl ?_
   refine ln rfl ?_
   refine ln rfl ?_
   refine ln rfl ?_
   refine ln rfl ?_
   refine lm (v := .bool false) rfl rfl ?_
   refine lm (v := .bool false) rfl rfl ?_
   refine wpL_done (fun W2 hW2 => ?_)
   change Code.wp ..
   refine wp_ret ?_
   try simp only [inBlock_ret, then_ret]
   refine bodyPost_ret (v := .bool false) ?_ rfl ?_
   · kernel_rfl
   · exact ⟨(bool_is (by unfold meetS; simp [*])), hW2.1⟩
 | true =>
   have h1 : a.col = b.col := of_decide_eq_true hd1
   clear hd1
   refine lm (v := .pointer (some ⟨g1, 1, none⟩)) rfl rfl ?_
   refine lv (v := .int .i64 a.tier) rfl rfl (yb_cell (off := 1) rfl Tw.kr Tw.m1 Try.underlying3 rfl Tw.kr) ?_
   refine lm (v := .pointer (some ⟨g2, 1, none⟩)) rfl rfl ?_
   refine lv (v := .int .i64 b.tier) rfl rfl (yb_cell (off := 1) rfl Tw.kr Tw.m0 Try.underlying3 rfl Tw.kr) ?_
   refine lp (v := .bool (decide (a.tier = b.tier))) rfl rfl (run_bin rfl (vx := (.int .i64 a.tier)) (vy := (.int .i64 b.tier)) Tw.kr Tw.kr fun w => bi_eql rfl w) ?_
   refine lm (v := .bool (decide (a.tier = b.tier))) rfl rfl ?_
   refine lm (v := .bool (decide (a.tier = b.tier))) rfl rfl ?_
   cases hd2 : (decide (a.tier = b.tier)) with
   | false =>
     have h2 : ¬ (a.tier = b.tier) := of_decide_eq_false hd2
     clear hd2
     refine ln rfl ?_
     refine ln rfl ?_
     refine ln rfl ?_
     refine ln rfl ?_
     refine ln rfl ?_
     refine lm (v := .bool false) rfl rfl ?_
     refine lm (v := .bool false) rfl rfl ?_
     refine wpL_done (fun W3 hW3 => ?_)
     change Code.wp ..
     refine wp_ret ?_
     try simp only [inBlock_ret, then_ret]
     refine bodyPost_ret (v := .bool false) ?_ rfl ?_
     · kernel_rfl
     · exact ⟨(bool_is (by unfold meetS; simp [*])), hW3.1⟩
   | true =>
     have h2 : a.tier = b.tier := of_decide_eq_true hd2
     clear hd2
     refine lm (v := .pointer (some ⟨g1, 2, none⟩)) rfl rfl ?_
     refine lv (v := .int .u8 ((a.half : Nat) : Int)) rfl rfl (yb_cell (off := 2) rfl Tw.kr Tw.m1 Try.underlying5 rfl Tw.kr) ?_
     refine lm (v := .pointer (some ⟨g2, 2, none⟩)) rfl rfl ?_
     refine lv (v := .int .u8 ((b.half : Nat) : Int)) rfl rfl (yb_cell (off := 2) rfl Tw.kr Tw.m0 Try.underlying5 rfl Tw.kr) ?_
     refine lv (v := .bool (ovl a.half b.half)) rfl rfl (yb_call (f := 52) (args := #[.int .u8 ((a.half : Nat) : Int), .int .u8 ((b.half : Nat) : Int)]) Tw.kf fun W hW => ovl_any a.half b.half W) ?_
     refine lm (v := .bool (ovl a.half b.half)) rfl rfl ?_
     refine lm (v := .bool (ovl a.half b.half)) rfl rfl ?_
     refine wpL_done (fun W4 hW4 => ?_)
     change Code.wp ..
     refine wp_ret ?_
     try simp only [inBlock_ret, then_ret]
     refine bodyPost_ret (v := .bool (ovl a.half b.half)) ?_ rfl ?_
     · kernel_rfl
     · exact ⟨(bool_is (by unfold meetS; simp [*])), hW4.1⟩
set_option maxRecDepth 100000 in
set_option maxHeartbeats 4000000 in
theorem isNaN_any (x : Int) (w : World) : Calls Try.prog 115 #[.int .i64 x] w fun e w' => e = .returned (.bool false) ∧ Below w.heap.size w w' := by
 go_enter Try.func115, Try.ntmps115
 refine wp_seq ?_
 refine wp_region_L [] (KS.start w) ?_
 refine lm (v := .bool false) rfl rfl ?_
 refine wpL_done (fun W1 hW1 => ?_)
 change Code.wp ..
 refine wp_seq ?_
 refine wp_region_L _ hW1 ?_
 refine lm (v := .int .i64 x) rfl rfl ?_
 refine lm (v := .int .i64 x) rfl rfl ?_
 refine lp (v := .bool false) rfl rfl (run_bin rfl (vx := (.int .i64 x)) (vy := (.int .i64 x)) Tw.kr Tw.kr fun w => bi_neq (decide_eq_true rfl) w) ?_
 refine lm (v := .bool false) rfl rfl ?_
 refine wpL_done (fun W2 hW2 => ?_)
 change Code.wp ..
 refine wp_ret ?_
 try simp only [inBlock_ret, then_ret]
 refine bodyPost_ret (v := .bool false) ?_ rfl ?_
 · kernel_rfl
 · exact ⟨rfl, hW2.1⟩
set_option maxRecDepth 100000 in
set_option maxHeartbeats 4000000 in
theorem Cmp_any (x y : Int) (w : World) : Calls Try.prog 112 #[.int .i64 x, .int .i64 y] w fun e w' => e = .returned (.int .i64 (cmpI x y)) ∧ Below w.heap.size w w' := by
 go_enter Try.func112, Try.ntmps112
 refine wp_seq ?_
 refine wp_region_L [] (KS.start w) ?_
 refine lm (v := .int .i64 0) rfl rfl ?_
 refine wpL_done (fun W1 hW1 => ?_)
 change Code.wp ..
 refine wp_seq ?_
 refine wp_region_L _ hW1 ?_
 refine lm (v := .int .i64 x) rfl rfl ?_
 refine lv (v := .bool false) rfl rfl (yb_call (f := 115) (args := #[.int .i64 x]) Tw.kf fun W hW => isNaN_any x W) ?_
 refine lm (v := .bool false) rfl rfl ?_
 refine wpL_done (fun W2 hW2 => ?_)
 change Code.wp ..
 refine wp_seq ?_
 refine wp_region_L _ hW2 ?_
 refine lm (v := .int .i64 y) rfl rfl ?_
 refine lv (v := .bool false) rfl rfl (yb_call (f := 115) (args := #[.int .i64 y]) Tw.kf fun W hW => isNaN_any y W) ?_
 refine lm (v := .bool false) rfl rfl ?_
 refine wpL_done (fun W3 hW3 => ?_)
 change Code.wp ..
 refine wp_seq ?_
 refine wp_seq ?_
 refine wp_region_L _ hW3 ?_
 refine lm (v := .bool false) rfl rfl ?_
 refine wpL_done (fun W4 hW4 => ?_)
 change Code.wp ..
 refine wp_cond_false rfl ?_
 refine wp_skip ?_
 change Code.wp ..
 refine wp_seq ?_
 refine wp_seq ?_
 refine wp_region_L _ hW4 ?_
 refine lm (v := .bool false) rfl rfl ?_
 refine wpL_done (fun W5 hW5 => ?_)
 change Code.wp ..
 refine wp_cond_false rfl ?_
 refine wp_skip ?_
 change Code.wp ..
 refine wp_seq ?_
 refine wp_seq ?_
 refine wp_region_L _ hW5 ?_
 refine lm (v := .int .i64 x) rfl rfl ?_
 refine lm (v := .int .i64 y) rfl rfl ?_
 refine lp (v := .bool (decide (x < y))) rfl rfl (run_bin rfl (vx := (.int .i64 x)) (vy := (.int .i64 y)) Tw.kr Tw.kr fun w => bi_lss rfl w) ?_
 refine wpL_done (fun W6 hW6 => ?_)
 change Code.wp ..
 cases hd1 : (decide (x < y)) with
 | false =>
   have h1 : ¬ (x < y) := of_decide_eq_false hd1
   clear hd1
   refine wp_cond_false rfl ?_
   refine wp_skip ?_
   change Code.wp ..
   refine wp_seq ?_
   refine wp_seq ?_
   refine wp_region_L _ hW6 ?_
   refine lm (v := .int .i64 x) rfl rfl ?_
   refine lm (v := .int .i64 y) rfl rfl ?_
   refine lp (v := .bool (decide (y < x))) rfl rfl (run_bin rfl (vx := (.int .i64 x)) (vy := (.int .i64 y)) Tw.kr Tw.kr fun w => bi_gtr rfl w) ?_
   refine wpL_done (fun W7 hW7 => ?_)
   change Code.wp ..
   cases hd2 : (decide (y < x)) with
   | false =>
     have h2 : ¬ (y < x) := of_decide_eq_false hd2
     clear hd2
     refine wp_cond_false rfl ?_
     refine wp_skip ?_
     change Code.wp ..
     refine wp_seq ?_
     refine wp_region_L _ hW7 ?_
     refine lm (v := .int .i64 0) rfl rfl ?_
     refine wpL_done (fun W8 hW8 => ?_)
     change Code.wp ..
     refine wp_ret ?_
     try simp only [inBlock_ret, then_ret]
     refine bodyPost_ret (v := .int .i64 0) ?_ rfl ?_
     · kernel_rfl
     · exact ⟨(int_is (by unfold cmpI; simp [*])), hW8.1⟩
   | true =>
     have h2 : y < x := of_decide_eq_true hd2
     clear hd2
     refine wp_cond_true rfl ?_
     refine wp_seq ?_
     refine wp_region_L _ hW7 ?_
     refine lm (v := .int .i64 1) rfl rfl ?_
     refine wpL_done (fun W9 hW9 => ?_)
     change Code.wp ..
     refine wp_ret ?_
     try simp only [inBlock_ret, then_ret]
     refine bodyPost_ret (v := .int .i64 1) ?_ rfl ?_
     · kernel_rfl
     · exact ⟨(int_is (by unfold cmpI; simp [*])), hW9.1⟩
 | true =>
   have h1 : x < y := of_decide_eq_true hd1
   clear hd1
   refine wp_cond_true rfl ?_
   refine wp_seq ?_
   refine wp_region_L _ hW6 ?_
   refine lm (v := .int .i64 (-1)) rfl rfl ?_
   refine wpL_done (fun W10 hW10 => ?_)
   change Code.wp ..
   refine wp_ret ?_
   try simp only [inBlock_ret, then_ret]
   refine bodyPost_ret (v := .int .i64 (-1)) ?_ rfl ?_
   · kernel_rfl
   · exact ⟨(int_is (by unfold cmpI; simp [*])), hW10.1⟩
end Go.Proofs.Ytnbfljcilojllaa
/- Without a column, without a cover: plain facts; slices from a place on. -/
namespace Go.Proofs.Ytnbfljcilojllaa
open Go Go.RowKit Tw
theorem own_rnone {α : Type} {cells : α → List Value} {sz : Nat} {W0 : Base} {E : TypeId} {g : Nat} (hB : W0.B ≤ g) : OwnL W0 E sz (.slice (some ⟨g, 0, none⟩) 0 0) 0 (([] : List α).flatMap cells) [(g, .cells #[] E (0, 0))] :=
 .inr ⟨g, 0, _, rfl, hB, ⟨by simp, by unfold maxLen; omega, Nat.le_refl _, by simp, by simp⟩, rfl⟩
section
variable {α : Type} {l : List α} {k : Nat} {x : α}
theorem er_split (h : l[k]? = some x) : l = l.take k ++ x :: l.drop (k + 1) := by
 obtain ⟨hk, rfl⟩ := List.getElem?_eq_some_iff.1 h
 conv => lhs; rw [← List.take_append_drop k l, List.drop_eq_getElem_cons hk]
end
section
variable {cs : List Col}
end
end Go.Proofs.Ytnbfljcilojllaa
namespace Go.Proofs.Ytnbfljcilojllaa
open Go Go.RowKit Tw
theorem el_bo : Elem Try.prog 33 37 9 64 (.agg (boC bo0).toArray) := Elem.mk' Try.underlying33 Tw.kr rfl
theorem el_sd : Elem Try.prog 38 42 4 32 (.agg (sdC sd0).toArray) := Elem.mk' Try.underlying38 Tw.kr rfl
theorem fi_ex {o : Option Nat} (h : ¬ (fiN o < 0)) : ∃ k, o = some k := by
 cases o with
 | none => simp [fiN] at h
 | some k => exact ⟨k, rfl⟩
theorem elc_at {α : Type} {d : α} {l : List α} {k : Nat} {y : α} (h : l[k]? = some y) : elC d l ((k : Nat) : Int) = y := (el_nat h).2
set_option maxRecDepth 100000 in
set_option maxHeartbeats 4000000 in
theorem Find1B_any (c : Bo) (n : Int) (g1 : Nat) (w : World) (h1 : CapR w g1 [.int .i64 n]) : Calls Try.prog 47 #[.agg (boC c).toArray, .pointer (some ⟨g1, 0, none⟩)] w fun e w' => e = .returned (.bool (isId n c)) ∧ Below w.heap.size w w' := by
 have H1 := Lib.hid h1
 clear h1
 go_enter Try.func47, Try.ntmps47
 refine wp_seq ?_
 refine wp_region_L [] (KS.start w) ?_
 refine wpL_new (fun g => .pointer (some ⟨g, 0, none⟩)) (obi := .cells (boC c).toArray 37 (0, 0)) rfl rfl Tw.kf Tw.pf fun g21 Bg21 Fg21 => ?_
 refine lm (v := .bool false) rfl rfl ?_
 refine wpL_done (fun W1 hW1 => ?_)
 change Code.wp ..
 refine wp_seq ?_
 refine wp_region_L _ hW1 ?_
 refine lm (v := .pointer (some ⟨g21, 0, none⟩)) rfl rfl ?_
 refine lv (v := .int .i64 c.id) rfl rfl (yb_cell (off := 0) rfl Tw.kr Tw.m0 Try.underlying3 rfl Tw.kr) ?_
 refine lv (v := .int .i64 n) rfl rfl (yb_rf (v := .int .i64 n) rfl Tw.kr (fun W hW => ((H1.out).keep hW.1).2 0 _ rfl) Try.underlying3 rfl) ?_
 refine lp (v := .bool (decide (c.id = n))) rfl rfl (run_bin rfl (vx := (.int .i64 c.id)) (vy := (.int .i64 n)) Tw.kr Tw.kr fun w => bi_eql rfl w) ?_
 refine lm (v := .bool (decide (c.id = n))) rfl rfl ?_
 refine wpL_done (fun W2 hW2 => ?_)
 change Code.wp ..
 refine wp_ret ?_
 try simp only [inBlock_ret, then_ret]
 refine bodyPost_ret (v := .bool (decide (c.id = n))) ?_ rfl ?_
 · kernel_rfl
 · exact ⟨rfl, hW2.1⟩
set_option maxRecDepth 100000 in
set_option maxHeartbeats 4000000 in
theorem IndexFunc_bo (l : List Bo) (p : Option Addr) (c : Nat) (hl : l.length ≤ 4000000000) (fv : FuncId) (caps : Array Value) (P : Bo → Bool) (A : Bo → Array Value) (hA : ∀ y, A y = #[.agg (boC y).toArray] ++ caps) (hcf : ∀ args w, (callFunc fv args).run Try.prog w = .ok (.enter fv args) w) (w : World) (hp : SLV w p (l.flatMap boC)) (hf : ∀ W, Below w.heap.size w W → ∀ y ∈ l, Calls Try.prog fv (A y) W fun e w' => e = .returned (.bool (P y)) ∧ Below W.heap.size W w') : Calls Try.prog 46 #[.slice p l.length c, .func (.func fv) #[] caps] w fun e w' => e = .returned (.int .i64 (fiN (fst P l))) ∧ Below w.heap.size w w' := by
 have HP := Lib.hid hp
 clear hp
 go_enter Try.func46, Try.ntmps46
 refine wp_seq ?_
 refine wp_region_L [] (KS.start w) ?_
 refine lm (v := .int .i64 0) rfl rfl ?_
 refine wpL_done (fun W1 hW1 => ?_)
 change Code.wp ..
 refine wp_seq ?_
 refine wp_seq ?_
 refine wp_region_L _ hW1 ?_
 refine lm (v := .slice p l.length c) rfl rfl ?_
 refine lp (v := .int .i64 ((l.length : Nat) : Int)) rfl rfl (run_lenL (p := p) (cap := c) (n := l.length) rfl Try.underlying33 Tw.kr) ?_
 refine lm (v := .int .i64 0) rfl rfl ?_
 refine wpL_done (fun W2 hW2 => ?_)
 change Code.wp ..
 refine wp_block ?_
 go_loopw [8] (fun u8 wr => ∃ (k : Nat), (k ≤ l.length) ∧ (fstF P 0 (l.take k) = none) ∧ u8 = .int .i64 ((k : Nat) : Int) ∧ KS w [] wr) (fun u8 _ => l.length - (intOf u8).toNat)
 case atStart => exact ⟨0, (Nat.zero_le _), fst_zero, rfl, (hW2.sub (fun p hp => by first | exact hp | (simp only [List.mem_cons, List.mem_append, List.nil_append, List.not_mem_nil, or_assoc, or_false, false_or] at hp ⊢ <;> grind)))⟩
 case round =>
   obtain ⟨k, hk, hF, rfl, hL3⟩ := hrel
   refine wp_seq ?_
   refine wp_region_L _ hL3 ?_
   refine lp (v := .bool (decide (k < l.length))) rfl rfl (run_bin rfl (vx := (.int .i64 ((k : Nat) : Int))) (vy := (.int .i64 ((l.length : Nat) : Int))) Tw.kr Tw.kr fun w => bn_lss rfl w) ?_
   refine wpL_done (fun W4 hW4 => ?_)
   change Code.wp ..
   refine wp_seq ?_
   cases hd1 : (decide (k < l.length)) with
   | false =>
     have h1 : ¬ (k < l.length) := of_decide_eq_false hd1
     clear hd1
     refine wp_cond_false rfl ?_
     refine wp_exit ?_
     change Code.wp ..
     refine wp_seq ?_
     refine wp_region_L _ hW4 ?_
     refine lm (v := .int .i64 (-1)) rfl rfl ?_
     refine wpL_done (fun W5 hW5 => ?_)
     change Code.wp ..
     refine wp_ret ?_
     try simp only [inBlock_ret, then_ret]
     refine bodyPost_ret (v := .int .i64 (-1)) ?_ rfl ?_
     · kernel_rfl
     · exact ⟨(int_is (by rw [fst_end hF h1]; rfl)), hW5.1⟩
   | true =>
     have h1 : k < l.length := of_decide_eq_true hd1
     clear hd1
     refine wp_cond_true rfl ?_
     refine wp_skip ?_
     change Code.wp ..
     refine wp_seq ?_
     refine wp_block ?_
     refine wp_seq ?_
     refine wp_region_L _ hW4 ?_
     refine lm (v := .int .i64 ((k : Nat) : Int)) rfl rfl ?_
     refine lm (v := .int .i64 ((k : Nat) : Int)) rfl rfl ?_
     refine wpL_done (fun W6 hW6 => ?_)
     change Code.wp ..
     refine wp_seq ?_
     refine wp_region_L _ hW6 ?_
     refine lm (v := .func (.func fv) #[] caps) rfl rfl ?_
     refine lm (v := .slice p l.length c) rfl rfl ?_
     refine lm (v := .int .i64 ((k : Nat) : Int)) rfl rfl ?_
     obtain ⟨y1, g1_, f1_, hy1, hp1, hc1⟩ := RL.at (RL.base HP.out) boC_len (by decide) (hW6.sub (fun _ h => by cases h)) (k := k) Tw.om
     refine lp (v := .pointer (some ⟨g1_, f1_ + k * 9, none⟩)) rfl rfl (run_idxQ (p := p) (cap := c) (n := l.length) (j := .i64) (k := k) (sz := 9) rfl Try.underlying33 Tw.kr Tw.kr hp1 Tw.kr Tw.om) ?_
     refine lv (v := .agg (boC y1).toArray) rfl rfl (yb_rs (off := f1_ + k * 9) (cs := boC y1) rfl Tw.kr (fun W hW => hc1 W (hW.sub (fun _ h => by cases h))) Try.underlying37 rfl Tw.kr) ?_
     refine lv (v := .bool (P y1)) rfl rfl (yb_call (f := fv) (args := A y1) (fun w => (run_callv rfl Tw.kr Tw.kr hcf w).trans (by rw [← hA])) fun W hW => hf W hW.1 y1 (List.mem_of_getElem? hy1)) ?_
     refine wpL_done (fun W7 hW7 => ?_)
     change Code.wp ..
     cases h2 : (P y1) with
     | false =>
       refine wp_cond_false rfl ?_
       refine wp_skip ?_
       change Code.wp ..
       refine wp_region_L _ hW7 ?_
       refine lp (v := .int .i64 (((k + 1) : Nat) : Int)) rfl rfl (run_bin rfl (vx := (.int .i64 ((k : Nat) : Int))) (vy := (.int .i64 ((1 : Nat) : Int))) Tw.kr Tw.kr fun w => bn_add (z := (k + 1)) rfl (wr_i64 Tw.om) w) ?_
       refine lm (v := .int .i64 (((k + 1) : Nat) : Int)) rfl rfl ?_
       refine wpL_done (fun W8 hW8 => ?_)
       go_roundw
       case rel =>
         repeat apply Exists.intro
         exact ⟨⟨k + 1, Tw.om, (fst_next hF hy1 h2), rfl, (hW8.sub (fun p hp => by first | exact hp | (simp only [List.mem_cons, List.mem_append, List.nil_append, List.not_mem_nil, or_assoc, or_false, false_or] at hp ⊢ <;> grind)))⟩, rfl⟩
       case measure => (show l.length - (intOf (.int .i64 (((k + 1) : Nat) : Int))).toNat < l.length - (intOf (.int .i64 ((k : Nat) : Int))).toNat); simp only [intOf]; omega
     | true =>
       refine wp_cond_true rfl ?_
       refine wp_seq ?_
       refine wp_region_L _ hW7 ?_
       refine lm (v := .int .i64 ((k : Nat) : Int)) rfl rfl ?_
       refine lm (v := .int .i64 ((k : Nat) : Int)) rfl rfl ?_
       refine wpL_done (fun W9 hW9 => ?_)
       change Code.wp ..
       refine wp_ret ?_
       try simp only [inBlock_ret, then_ret]
       refine bodyPost_ret (v := .int .i64 ((k : Nat) : Int)) ?_ rfl ?_
       · kernel_rfl
       · exact ⟨(int_is (by rw [fst_here hF hy1 h2]; rfl)), hW9.1⟩
set_option maxRecDepth 100000 in
set_option maxHeartbeats 4000000 in
theorem BFind_any (bs : List Bo) (p : Option Addr) (c : Nat) (hl : bs.length ≤ 4000000000) (n : Int) (w : World) (hp : SLV w p (bs.flatMap boC)) : Calls Try.prog 20 #[.slice p bs.length c, .int .i64 n] w fun e w' => e = .returned (.tuple #[.agg (boC (boxOf bs n)).toArray, .bool (findB bs n).isSome]) ∧ Below w.heap.size w w' := by
 have HP := Lib.hid hp
 clear hp
 go_enter Try.func20, Try.ntmps20
 refine wp_seq ?_
 refine wp_region_L [] (KS.start w) ?_
 refine wpL_new (fun g => .pointer (some ⟨g, 0, none⟩)) (obi := .cells #[.int .i64 n] 3 (0, 0)) rfl rfl Tw.kf Tw.pf fun g1 Bg1 Fg1 => ?_
 refine wpL_new (fun g => .pointer (some ⟨g, 0, none⟩)) (obi := .cells #[.int .i64 0, strV [], .int .u8 0, .bool false, .int .i64 0, .int .i64 0, .int .i64 0, .int .u8 0, .bool false] 37 (0, 0)) rfl rfl Tw.kf Tw.pf fun g2 Bg2 Fg2 => ?_
 obtain dj3_0 : g1 ≠ g2 := Tw.dkf Fg2
 refine lm (v := .bool false) rfl rfl ?_
 refine wpL_done (fun W1 hW1 => ?_)
 change Code.wp ..
 refine wp_seq ?_
 refine wp_region_L _ hW1 ?_
 refine lm (v := .slice p bs.length c) rfl rfl ?_
 refine lm (v := .func (.func 47) #[] #[.pointer (some ⟨g1, 0, none⟩)]) rfl rfl ?_
 refine lv (v := .int .i64 (fiN (fst (isId n) bs))) rfl rfl (yb_call (f := 46) (args := #[.slice p bs.length c, .func (.func 47) #[] #[.pointer (some ⟨g1, 0, none⟩)]]) Tw.kf fun W hW => IndexFunc_bo bs p c Tw.om 47 #[.pointer (some ⟨g1, 0, none⟩)] (isId n) (fun y => #[.agg (boC y).toArray, .pointer (some ⟨g1, 0, none⟩)]) Tw.kf (fun _ _ => by kernel_rfl) W ((RL.base HP.out) _ (hW.sub (fun _ h => by cases h))) (fun W2 hb y hm => Find1B_any y n g1 W2 ((CapR.of hW Tw.m1).keep hb))) ?_
 refine lm (v := .int .i64 (fiN (fst (isId n) bs))) rfl rfl ?_
 refine wpL_done (fun W2 hW2 => ?_)
 change Code.wp ..
 refine wp_seq ?_
 refine wp_seq ?_
 refine wp_region_L _ hW2 ?_
 refine lm (v := .int .i64 (fiN (fst (isId n) bs))) rfl rfl ?_
 refine lp (v := .bool (decide ((fiN (fst (isId n) bs)) < 0))) rfl rfl (run_bin rfl (vx := (.int .i64 (fiN (fst (isId n) bs)))) (vy := (.int .i64 0)) Tw.kr Tw.kr fun w => bi_lss rfl w) ?_
 refine wpL_done (fun W3 hW3 => ?_)
 change Code.wp ..
 cases hd1 : (decide ((fiN (fst (isId n) bs)) < 0)) with
 | false =>
   have h1 : ¬ ((fiN (fst (isId n) bs)) < 0) := of_decide_eq_false hd1
   clear hd1
   refine wp_cond_false rfl ?_
   refine wp_skip ?_
   change Code.wp ..
   refine wp_seq ?_
   refine wp_region_L _ hW3 ?_
   refine lm (v := .slice p bs.length c) rfl rfl ?_
   refine lm (v := .int .i64 (fiN (fst (isId n) bs))) rfl rfl ?_
   obtain ⟨m, hm⟩ : ∃ m, fst (isId n) bs = some m := fi_ex h1
   obtain ⟨ym, hym, _⟩ := fst_some hm
   have hml := (List.getElem?_eq_some_iff.1 hym).1
   have hfm : fiN (fst (isId n) bs) = ((m : Nat) : Int) := by rw [hm]; rfl
   rw [hfm]
   try rw [hfm] at hW3
   obtain ⟨y4, g4_, f4_, hy4, hp4, hc4⟩ := RL.at (RL.base HP.out) boC_len (by decide) (hW3.sub (fun _ h => by cases h)) (k := m) Tw.om
   refine lp (v := .pointer (some ⟨g4_, f4_ + m * 9, none⟩)) rfl rfl (run_idxQ (p := p) (cap := c) (n := bs.length) (j := .i64) (k := m) (sz := 9) rfl Try.underlying33 Tw.kr Tw.kr hp4 Tw.kr Tw.om) ?_
   refine lv (v := .agg (boC y4).toArray) rfl rfl (yb_rs (off := f4_ + m * 9) (cs := boC y4) rfl Tw.kr (fun W hW => hc4 W (hW.sub (fun _ h => by cases h))) Try.underlying37 rfl Tw.kr) ?_
   refine wpL_s [(g2, .cells (boC y4).toArray 37 (0, 0)), (g1, .cells #[.int .i64 n] 3 (0, 0))] rfl rfl (st_row (off := 0) (v := .agg (boC y4).toArray) rfl Tw.kr Tw.kr Tw.m0 Bg2 Tw.kr (by first | (simp [Value.cells]; done) | exact Nat.le_of_ble_eq_true rfl) (fun v hv => boC_one y4 v hv) Tw.kr (List.forall_mem_cons.2 ⟨.inl rfl, (List.forall_mem_cons.2 ⟨.inr ⟨Tw.m1, Tw.nee⟩, (List.forall_mem_nil _)⟩)⟩)) ?_
   refine lm (v := .bool true) rfl rfl ?_
   refine wpL_done (fun W4 hW4 => ?_)
   change Code.wp ..
   refine wp_ret ?_
   try simp only [inBlock_ret, then_ret]
   refine bodyPost_ret (v := .tuple #[.agg (boC y4).toArray, .bool true]) ?_ rfl ?_
   · exact (res_cell_tmp (p := 4) (q := 5) rfl rfl (hW4.2 _ Tw.m0) Try.underlying37 rfl Tw.kr)
   · exact ⟨(by unfold boxOf findB; rw [hfm, hm, elc_at hy4]; rfl), hW4.1⟩
 | true =>
   have h1 : (fiN (fst (isId n) bs)) < 0 := of_decide_eq_true hd1
   clear hd1
   refine wp_cond_true rfl ?_
   refine wp_seq ?_
   refine wp_region_L _ hW3 ?_
   refine lm (v := .agg #[.int .i64 0, strV [], .int .u8 0, .bool false, .int .i64 0, .int .i64 0, .int .i64 0, .int .u8 0, .bool false]) rfl rfl ?_
   refine wpL_s [(g2, .cells #[.int .i64 0, strV [], .int .u8 0, .bool false, .int .i64 0, .int .i64 0, .int .i64 0, .int .u8 0, .bool false] 37 (0, 0)), (g1, .cells #[.int .i64 n] 3 (0, 0))] rfl rfl (st_row (off := 0) (v := .agg #[.int .i64 0, strV [], .int .u8 0, .bool false, .int .i64 0, .int .i64 0, .int .i64 0, .int .u8 0, .bool false]) rfl Tw.kr Tw.kr Tw.m0 Bg2 Tw.kr (by first | (simp [Value.cells]; done) | exact Nat.le_of_ble_eq_true rfl) (by intro v hv; simp [Value.cells] at hv; first | (subst hv; rfl) | (rcases hv with rfl | rfl | rfl | rfl | rfl | rfl | rfl | rfl | rfl <;> rfl)) Tw.kr (List.forall_mem_cons.2 ⟨.inl rfl, (List.forall_mem_cons.2 ⟨.inr ⟨Tw.m1, Tw.nee⟩, (List.forall_mem_nil _)⟩)⟩)) ?_
   refine lm (v := .bool false) rfl rfl ?_
   refine wpL_done (fun W5 hW5 => ?_)
   change Code.wp ..
   refine wp_ret ?_
   try simp only [inBlock_ret, then_ret]
   refine bodyPost_ret (v := .tuple #[.agg #[.int .i64 0, strV [], .int .u8 0, .bool false, .int .i64 0, .int .i64 0, .int .i64 0, .int .u8 0, .bool false], .bool false]) ?_ rfl ?_
   · exact (res_cell_tmp (p := 4) (q := 5) rfl rfl (hW5.2 _ Tw.m0) Try.underlying37 rfl Tw.kr)
   · exact ⟨(by obtain ⟨h8, _⟩ := fi_none h1; unfold boxOf findB; rw [h8]; rfl), hW5.1⟩
set_option maxRecDepth 100000 in
set_option maxHeartbeats 4000000 in
theorem heightOf_any (b : Bo) (w : World) : Calls Try.prog 114 #[.agg (boC b).toArray] w fun e w' => e = .returned (.int .i64 ((heightO b : Nat) : Int)) ∧ Below w.heap.size w w' := by
 go_enter Try.func114, Try.ntmps114
 refine wp_seq ?_
 refine wp_region_L [] (KS.start w) ?_
 refine wpL_new (fun g => .pointer (some ⟨g, 0, none⟩)) (obi := .cells (boC b).toArray 37 (0, 0)) rfl rfl Tw.kf Tw.pf fun g1 Bg1 Fg1 => ?_
 refine lm (v := .int .i64 0) rfl rfl ?_
 refine wpL_done (fun W1 hW1 => ?_)
 change Code.wp ..
 refine wp_seq ?_
 refine wp_seq ?_
 refine wp_region_L _ hW1 ?_
 refine lm (v := .pointer (some ⟨g1, 3, none⟩)) rfl rfl ?_
 refine lv (v := .bool b.high) rfl rfl (yb_cell (off := 3) rfl Tw.kr Tw.m0 Try.underlying4 rfl Tw.kr) ?_
 refine wpL_done (fun W2 hW2 => ?_)
 change Code.wp ..
 cases h1 : b.high with
 | false =>
   refine wp_cond_false rfl ?_
   refine wp_skip ?_
   change Code.wp ..
   refine wp_seq ?_
   refine wp_region_L _ hW2 ?_
   refine lm (v := .int .i64 2591) rfl rfl ?_
   refine wpL_done (fun W3 hW3 => ?_)
   change Code.wp ..
   refine wp_ret ?_
   try simp only [inBlock_ret, then_ret]
   refine bodyPost_ret (v := .int .i64 2591) ?_ rfl ?_
   · kernel_rfl
   · exact ⟨(int_is (by unfold heightO; rw [h1]; rfl)), hW3.1⟩
 | true =>
   refine wp_cond_true rfl ?_
   refine wp_seq ?_
   refine wp_region_L _ hW2 ?_
   refine lm (v := .int .i64 2896) rfl rfl ?_
   refine wpL_done (fun W4 hW4 => ?_)
   change Code.wp ..
   refine wp_ret ?_
   try simp only [inBlock_ret, then_ret]
   refine bodyPost_ret (v := .int .i64 2896) ?_ rfl ?_
   · kernel_rfl
   · exact ⟨(int_is (by unfold heightO; rw [h1]; rfl)), hW4.1⟩
set_option maxRecDepth 100000 in
set_option maxHeartbeats 4000000 in
theorem Height_any (bs : List Bo) (p : Option Addr) (c : Nat) (hl : bs.length ≤ 4000000000) (l : List Sd) (q : Option Addr) (d : Nat) (hm : l.length ≤ 4000000000) (co : Int) (ha : Nat) (w : World) (hp : SLV w p (bs.flatMap boC)) (hq : SLV w q (l.flatMap sdC)) : Calls Try.prog 109 #[.slice p bs.length c, .slice q l.length d, .int .i64 co, .int .u8 ((ha : Nat) : Int)] w fun e w' => e = .returned (.int .i64 ((heightX bs l co ha : Nat) : Int)) ∧ Below w.heap.size w w' := by
 have HP := Lib.hid hp
 clear hp
 have HQ := Lib.hid hq
 clear hq
 go_enter Try.func109, Try.ntmps109
 refine wp_seq ?_
 refine wp_region_L [] (KS.start w) ?_
 refine lm (v := .int .i64 0) rfl rfl ?_
 refine wpL_done (fun W1 hW1 => ?_)
 change Code.wp ..
 refine wp_seq ?_
 refine wp_region_L _ hW1 ?_
 refine lm (v := .int .i64 0) rfl rfl ?_
 refine wpL_done (fun W2 hW2 => ?_)
 change Code.wp ..
 refine wp_seq ?_
 refine wp_seq ?_
 refine wp_region_L _ hW2 ?_
 refine lm (v := .slice q l.length d) rfl rfl ?_
 refine lp (v := .int .i64 ((l.length : Nat) : Int)) rfl rfl (run_lenL (p := q) (cap := d) (n := l.length) rfl Try.underlying38 Tw.kr) ?_
 refine lm (v := .int .i64 0) rfl rfl ?_
 refine wpL_done (fun W3 hW3 => ?_)
 change Code.wp ..
 refine wp_block ?_
 go_loopw [16, 9] (fun u16 u9 wr => ∃ (k sm : Nat), (k ≤ l.length) ∧ (sm = heightX bs (l.take k) co ha) ∧ u16 = .int .i64 ((k : Nat) : Int) ∧ u9 = .int .i64 ((sm : Nat) : Int) ∧ KS w [] wr) (fun u16 _ _ => l.length - (intOf u16).toNat)
 case atStart => exact ⟨0, 0, (Nat.zero_le _), rfl, rfl, rfl, (hW3.sub (fun p hp => by first | exact hp | (simp only [List.mem_cons, List.mem_append, List.nil_append, List.not_mem_nil, or_assoc, or_false, false_or] at hp ⊢ <;> grind)))⟩
 case round =>
   obtain ⟨k, sm, hk, hsm, rfl, rfl, hL4⟩ := hrel
   refine wp_seq ?_
   refine wp_region_L _ hL4 ?_
   refine lp (v := .bool (decide (k < l.length))) rfl rfl (run_bin rfl (vx := (.int .i64 ((k : Nat) : Int))) (vy := (.int .i64 ((l.length : Nat) : Int))) Tw.kr Tw.kr fun w => bn_lss rfl w) ?_
   refine wpL_done (fun W5 hW5 => ?_)
   change Code.wp ..
   refine wp_seq ?_
   cases hd1 : (decide (k < l.length)) with
   | false =>
     have h1 : ¬ (k < l.length) := of_decide_eq_false hd1
     clear hd1
     refine wp_cond_false rfl ?_
     refine wp_exit ?_
     change Code.wp ..
     refine wp_seq ?_
     refine wp_region_L _ hW5 ?_
     refine lm (v := .int .i64 ((sm : Nat) : Int)) rfl rfl ?_
     refine lm (v := .int .i64 ((sm : Nat) : Int)) rfl rfl ?_
     refine wpL_done (fun W6 hW6 => ?_)
     change Code.wp ..
     refine wp_ret ?_
     try simp only [inBlock_ret, then_ret]
     refine bodyPost_ret (v := .int .i64 ((sm : Nat) : Int)) ?_ rfl ?_
     · kernel_rfl
     · exact ⟨(int_is (by rw [hsm, List.take_of_length_le Tw.om])), hW6.1⟩
   | true =>
     have h1 : k < l.length := of_decide_eq_true hd1
     clear hd1
     refine wp_cond_true rfl ?_
     refine wp_skip ?_
     change Code.wp ..
     refine wp_seq ?_
     refine wp_block ?_
     refine wp_seq ?_
     refine wp_region_L _ hW5 ?_
     obtain ⟨y1, g1_, f1_, hy1, hp1, hc1⟩ := RL.at (RL.base HQ.out) sdC_len (by decide) (hW5.sub (fun _ h => by cases h)) (k := k) Tw.om
     refine lp (v := .pointer (some ⟨g1_, f1_ + k * 4, none⟩)) rfl rfl (run_idxQ (p := q) (cap := d) (n := l.length) (j := .i64) (k := k) (sz := 4) rfl Try.underlying38 Tw.kr Tw.kr hp1 Tw.kr Tw.om) ?_
     refine lv (v := .agg (sdC y1).toArray) rfl rfl (yb_rs (off := f1_ + k * 4) (cs := sdC y1) rfl Tw.kr (fun W hW => hc1 W (hW.sub (fun _ h => by cases h))) Try.underlying42 rfl Tw.kr) ?_
     refine wpL_new (fun g => .pointer (some ⟨g, 0, none⟩)) (obi := .cells #[.int .i64 0, .int .i64 0, .int .i64 0, .int .u8 0] 42 (0, 0)) rfl rfl Tw.kf Tw.pf fun g2 Bg2 Fg2 => ?_
     refine wpL_s [(g2, .cells (sdC y1).toArray 42 (0, 0))] rfl rfl (st_row (off := 0) (v := .agg (sdC y1).toArray) rfl Tw.kr Tw.kr Tw.m0 Bg2 Tw.kr (by first | (simp [Value.cells]; done) | exact Nat.le_of_ble_eq_true rfl) (fun v hv => sdC_one y1 v hv) Tw.kr (List.forall_mem_cons.2 ⟨.inl rfl, (List.forall_mem_nil _)⟩)) ?_
     refine wpL_done (fun W7 hW7 => ?_)
     change Code.wp ..
     refine wp_seq ?_
     refine wp_seq ?_
     refine wp_region_L _ hW7 ?_
     refine lm (v := .pointer (some ⟨g2, 1, none⟩)) rfl rfl ?_
     refine lm (v := .pointer (some ⟨g2, 1, none⟩)) rfl rfl ?_
     refine lv (v := .int .i64 y1.slot.col) rfl rfl (yb_cell (off := 1) rfl Tw.kr Tw.m0 Try.underlying3 rfl Tw.kr) ?_
     refine lm (v := .int .i64 co) rfl rfl ?_
     refine lp (v := .bool (!(decide (y1.slot.col = co)))) rfl rfl (run_bin rfl (vx := (.int .i64 y1.slot.col)) (vy := (.int .i64 co)) Tw.kr Tw.kr fun w => bi_neq rfl w) ?_
     refine lm (v := .bool (!(decide (y1.slot.col = co)))) rfl rfl ?_
     cases hd2 : (decide (y1.slot.col = co)) with
     | false =>
       have h2 : ¬ (y1.slot.col = co) := of_decide_eq_false hd2
       clear hd2
       refine ln rfl ?_
       refine ln rfl ?_
       refine ln rfl ?_
       refine ln rfl ?_
       refine ln rfl ?_
       refine ln rfl ?_
       refine ln rfl ?_
       refine ln rfl ?_
       refine ln rfl ?_
       refine ln rfl ?_
       refine ln rfl ?_
       refine lm (v := .bool true) rfl rfl ?_
       refine wpL_done (fun W8 hW8 => ?_)
       change Code.wp ..
       refine wp_cond_true rfl ?_
       refine wp_exit ?_
       change Code.wp ..
       refine wp_region_L _ hW8 ?_
       refine lp (v := .int .i64 (((k + 1) : Nat) : Int)) rfl rfl (run_bin rfl (vx := (.int .i64 ((k : Nat) : Int))) (vy := (.int .i64 ((1 : Nat) : Int))) Tw.kr Tw.kr fun w => bn_add (z := (k + 1)) rfl (wr_i64 Tw.om) w) ?_
       refine lm (v := .int .i64 (((k + 1) : Nat) : Int)) rfl rfl ?_
       refine wpL_done (fun W9 hW9 => ?_)
       go_roundw
       case rel =>
         repeat apply Exists.intro
         exact ⟨⟨k + 1, sm, Tw.om, (by rw [height_snoc hy1, ← hsm, addH_col h2]; rfl), rfl, rfl, (hW9.sub (fun p hp => by first | exact hp | (simp only [List.mem_cons, List.mem_append, List.nil_append, List.not_mem_nil, or_assoc, or_false, false_or] at hp ⊢ <;> grind)))⟩, rfl⟩
       case measure => (show l.length - (intOf (.int .i64 (((k + 1) : Nat) : Int))).toNat < l.length - (intOf (.int .i64 ((k : Nat) : Int))).toNat); simp only [intOf]; omega
     | true =>
       have h2 : y1.slot.col = co := of_decide_eq_true hd2
       clear hd2
       refine lm (v := .pointer (some ⟨g2, 1, none⟩)) rfl rfl ?_
       refine lm (v := .pointer (some ⟨g2, 3, none⟩)) rfl rfl ?_
       refine lv (v := .int .u8 ((y1.slot.half : Nat) : Int)) rfl rfl (yb_cell (off := 3) rfl Tw.kr Tw.m0 Try.underlying5 rfl Tw.kr) ?_
       refine lm (v := .int .u8 ((ha : Nat) : Int)) rfl rfl ?_
       refine lp (v := .bool (!(decide (y1.slot.half = ha)))) rfl rfl (run_bin rfl (vx := (.int .u8 ((y1.slot.half : Nat) : Int))) (vy := (.int .u8 ((ha : Nat) : Int))) Tw.kr Tw.kr fun w => bn_neq rfl w) ?_
       refine lm (v := .bool (!(decide (y1.slot.half = ha)))) rfl rfl ?_
       cases hd3 : (decide (y1.slot.half = ha)) with
       | false =>
         have h3 : ¬ (y1.slot.half = ha) := of_decide_eq_false hd3
         clear hd3
         refine lm (v := .pointer (some ⟨g2, 1, none⟩)) rfl rfl ?_
         refine lm (v := .pointer (some ⟨g2, 3, none⟩)) rfl rfl ?_
         refine lv (v := .int .u8 ((y1.slot.half : Nat) : Int)) rfl rfl (yb_cell (off := 3) rfl Tw.kr Tw.m0 Try.underlying5 rfl Tw.kr) ?_
         refine lp (v := .bool (!(decide (y1.slot.half = 0)))) rfl rfl (run_bin rfl (vx := (.int .u8 ((y1.slot.half : Nat) : Int))) (vy := (.int .u8 ((0 : Nat) : Int))) Tw.kr Tw.kr fun w => bn_neq rfl w) ?_
         refine lm (v := .bool (!(decide (y1.slot.half = 0)))) rfl rfl ?_
         refine lm (v := .bool (!(decide (y1.slot.half = 0)))) rfl rfl ?_
         refine wpL_done (fun W10 hW10 => ?_)
         change Code.wp ..
         cases hd4 : (decide (y1.slot.half = 0)) with
         | false =>
           have h4 : ¬ (y1.slot.half = 0) := of_decide_eq_false hd4
           clear hd4
           refine wp_cond_true rfl ?_
           refine wp_exit ?_
           change Code.wp ..
           refine wp_region_L _ hW10 ?_
           refine lp (v := .int .i64 (((k + 1) : Nat) : Int)) rfl rfl (run_bin rfl (vx := (.int .i64 ((k : Nat) : Int))) (vy := (.int .i64 ((1 : Nat) : Int))) Tw.kr Tw.kr fun w => bn_add (z := (k + 1)) rfl (wr_i64 Tw.om) w) ?_
           refine lm (v := .int .i64 (((k + 1) : Nat) : Int)) rfl rfl ?_
           refine wpL_done (fun W11 hW11 => ?_)
           go_roundw
           case rel =>
             repeat apply Exists.intro
             exact ⟨⟨k + 1, sm, Tw.om, (by rw [height_snoc hy1, ← hsm, addH_half h3 h4]; rfl), rfl, rfl, (hW11.sub (fun p hp => by first | exact hp | (simp only [List.mem_cons, List.mem_append, List.nil_append, List.not_mem_nil, or_assoc, or_false, false_or] at hp ⊢ <;> grind)))⟩, rfl⟩
           case measure => (show l.length - (intOf (.int .i64 (((k + 1) : Nat) : Int))).toNat < l.length - (intOf (.int .i64 ((k : Nat) : Int))).toNat); simp only [intOf]; omega
         | true =>
           have h4 : y1.slot.half = 0 := of_decide_eq_true hd4
           clear hd4
           refine wp_cond_false rfl ?_
           refine wp_skip ?_
           change Code.wp ..
           refine wp_seq ?_
           refine wp_region_L _ hW10 ?_
           refine lm (v := .slice p bs.length c) rfl rfl ?_
           refine lm (v := .pointer (some ⟨g2, 0, none⟩)) rfl rfl ?_
           refine lv (v := .int .i64 y1.box) rfl rfl (yb_cell (off := 0) rfl Tw.kr Tw.m0 Try.underlying3 rfl Tw.kr) ?_
           refine lv (v := .tuple #[.agg (boC (boxOf bs y1.box)).toArray, .bool ((findB bs y1.box).isSome)]) rfl rfl (yb_call (f := 20) (args := #[.slice p bs.length c, .int .i64 y1.box]) Tw.kf fun W hW => BFind_any bs p c Tw.om y1.box W ((RL.base HP.out) _ (hW.sub (fun _ h => by cases h)))) ?_
           refine lm (v := .tuple #[.agg (boC (boxOf bs y1.box)).toArray, .bool ((findB bs y1.box).isSome)]) rfl rfl ?_
           refine lm (v := .agg (boC (boxOf bs y1.box)).toArray) rfl rfl ?_
           refine lm (v := .bool ((findB bs y1.box).isSome)) rfl rfl ?_
           refine wpL_new (fun g => .pointer (some ⟨g, 0, none⟩)) (obi := .cells #[.int .i64 0, strV [], .int .u8 0, .bool false, .int .i64 0, .int .i64 0, .int .i64 0, .int .u8 0, .bool false] 37 (0, 0)) rfl rfl Tw.kf Tw.pf fun g3 Bg3 Fg3 => ?_
           obtain dj4_0 : g2 ≠ g3 := Tw.dkf Fg3
           refine wpL_s [(g3, .cells (boC (boxOf bs y1.box)).toArray 37 (0, 0)), (g2, .cells (sdC y1).toArray 42 (0, 0))] rfl rfl (st_row (off := 0) (v := .agg (boC (boxOf bs y1.box)).toArray) rfl Tw.kr Tw.kr Tw.m0 Bg3 Tw.kr (by first | (simp [Value.cells]; done) | exact Nat.le_of_ble_eq_true rfl) (fun v hv => boC_one (boxOf bs y1.box) v hv) Tw.kr (List.forall_mem_cons.2 ⟨.inl rfl, (List.forall_mem_cons.2 ⟨.inr ⟨Tw.m1, Tw.nee⟩, (List.forall_mem_nil _)⟩)⟩)) ?_
           refine lm (v := .bool ((findB bs y1.box).isSome)) rfl rfl ?_
           refine wpL_done (fun W12 hW12 => ?_)
           change Code.wp ..
           refine wp_seq ?_
           refine wp_region_L _ hW12 ?_
           refine lm (v := .bool ((findB bs y1.box).isSome)) rfl rfl ?_
           refine wpL_done (fun W13 hW13 => ?_)
           change Code.wp ..
           cases h5 : ((findB bs y1.box).isSome) with
           | false =>
             refine wp_cond_false rfl ?_
             refine wp_skip ?_
             change Code.wp ..
             refine wp_region_L _ hW13 ?_
             refine lp (v := .int .i64 (((k + 1) : Nat) : Int)) rfl rfl (run_bin rfl (vx := (.int .i64 ((k : Nat) : Int))) (vy := (.int .i64 ((1 : Nat) : Int))) Tw.kr Tw.kr fun w => bn_add (z := (k + 1)) rfl (wr_i64 Tw.om) w) ?_
             refine lm (v := .int .i64 (((k + 1) : Nat) : Int)) rfl rfl ?_
             refine wpL_done (fun W14 hW14 => ?_)
             go_roundw
             case rel =>
               repeat apply Exists.intro
               exact ⟨⟨k + 1, sm, Tw.om, (by rw [height_snoc hy1, ← hsm, addH_none h5]; rfl), rfl, rfl, (hW14.sub (fun p hp => by first | exact hp | (simp only [List.mem_cons, List.mem_append, List.nil_append, List.not_mem_nil, or_assoc, or_false, false_or] at hp ⊢ <;> grind)))⟩, rfl⟩
             case measure => (show l.length - (intOf (.int .i64 (((k + 1) : Nat) : Int))).toNat < l.length - (intOf (.int .i64 ((k : Nat) : Int))).toNat); simp only [intOf]; omega
           | true =>
             refine wp_cond_true rfl ?_
             have hle1 := height_le bs (l.take k) co ha
             have hle2 : (l.take k).length ≤ l.length := by rw [List.length_take]; omega
             rw [← hsm] at hle1
             have hle3 := heightO_le (boxOf bs y1.box)
             refine wp_region_L _ hW13 ?_
             refine lm (v := .int .i64 ((sm : Nat) : Int)) rfl rfl ?_
             refine lv (v := .agg (boC (boxOf bs y1.box)).toArray) rfl rfl (yb_load (n := 9) (off := 0) rfl Tw.kr Tw.m0 Try.underlying37 rfl Tw.kr (by first | (simp [Value.cells]; done) | exact Nat.le_of_ble_eq_true rfl) Tw.kr) ?_
             refine lv (v := .int .i64 (((heightO (boxOf bs y1.box)) : Nat) : Int)) rfl rfl (yb_call (f := 114) (args := #[.agg (boC (boxOf bs y1.box)).toArray]) Tw.kf fun W hW => heightOf_any (boxOf bs y1.box) W) ?_
             refine lp (v := .int .i64 (((sm + (heightO (boxOf bs y1.box))) : Nat) : Int)) rfl rfl (run_bin rfl (vx := (.int .i64 ((sm : Nat) : Int))) (vy := (.int .i64 (((heightO (boxOf bs y1.box)) : Nat) : Int))) Tw.kr Tw.kr fun w => bn_add (z := (sm + (heightO (boxOf bs y1.box)))) rfl (wr_i64 Tw.om) w) ?_
             refine lm (v := .int .i64 (((sm + (heightO (boxOf bs y1.box))) : Nat) : Int)) rfl rfl ?_
             refine wpL_done (fun W15 hW15 => ?_)
             change Code.wp ..
             refine wp_region_L _ hW15 ?_
             refine lp (v := .int .i64 (((k + 1) : Nat) : Int)) rfl rfl (run_bin rfl (vx := (.int .i64 ((k : Nat) : Int))) (vy := (.int .i64 ((1 : Nat) : Int))) Tw.kr Tw.kr fun w => bn_add (z := (k + 1)) rfl (wr_i64 Tw.om) w) ?_
             refine lm (v := .int .i64 (((k + 1) : Nat) : Int)) rfl rfl ?_
             refine wpL_done (fun W16 hW16 => ?_)
             go_roundw
             case rel =>
               repeat apply Exists.intro
               exact ⟨⟨k + 1, (sm + (heightO (boxOf bs y1.box))), Tw.om, (by rw [height_snoc hy1, ← hsm, addH_yes h2 (.inr h4) h5]), rfl, rfl, (hW16.sub (fun p hp => by first | exact hp | (simp only [List.mem_cons, List.mem_append, List.nil_append, List.not_mem_nil, or_assoc, or_false, false_or] at hp ⊢ <;> grind)))⟩, rfl⟩
             case measure => (show l.length - (intOf (.int .i64 (((k + 1) : Nat) : Int))).toNat < l.length - (intOf (.int .i64 ((k : Nat) : Int))).toNat); simp only [intOf]; omega
       | true =>
         have h3 : y1.slot.half = ha := of_decide_eq_true hd3
         clear hd3
         refine ln rfl ?_
         refine ln rfl ?_
         refine ln rfl ?_
         refine ln rfl ?_
         refine lm (v := .bool false) rfl rfl ?_
         refine lm (v := .bool false) rfl rfl ?_
         refine wpL_done (fun W17 hW17 => ?_)
         change Code.wp ..
         refine wp_cond_false rfl ?_
         refine wp_skip ?_
         change Code.wp ..
         refine wp_seq ?_
         refine wp_region_L _ hW17 ?_
         refine lm (v := .slice p bs.length c) rfl rfl ?_
         refine lm (v := .pointer (some ⟨g2, 0, none⟩)) rfl rfl ?_
         refine lv (v := .int .i64 y1.box) rfl rfl (yb_cell (off := 0) rfl Tw.kr Tw.m0 Try.underlying3 rfl Tw.kr) ?_
         refine lv (v := .tuple #[.agg (boC (boxOf bs y1.box)).toArray, .bool ((findB bs y1.box).isSome)]) rfl rfl (yb_call (f := 20) (args := #[.slice p bs.length c, .int .i64 y1.box]) Tw.kf fun W hW => BFind_any bs p c Tw.om y1.box W ((RL.base HP.out) _ (hW.sub (fun _ h => by cases h)))) ?_
         refine lm (v := .tuple #[.agg (boC (boxOf bs y1.box)).toArray, .bool ((findB bs y1.box).isSome)]) rfl rfl ?_
         refine lm (v := .agg (boC (boxOf bs y1.box)).toArray) rfl rfl ?_
         refine lm (v := .bool ((findB bs y1.box).isSome)) rfl rfl ?_
         refine wpL_new (fun g => .pointer (some ⟨g, 0, none⟩)) (obi := .cells #[.int .i64 0, strV [], .int .u8 0, .bool false, .int .i64 0, .int .i64 0, .int .i64 0, .int .u8 0, .bool false] 37 (0, 0)) rfl rfl Tw.kf Tw.pf fun g5 Bg5 Fg5 => ?_
         obtain dj6_0 : g2 ≠ g5 := Tw.dkf Fg5
         refine wpL_s [(g5, .cells (boC (boxOf bs y1.box)).toArray 37 (0, 0)), (g2, .cells (sdC y1).toArray 42 (0, 0))] rfl rfl (st_row (off := 0) (v := .agg (boC (boxOf bs y1.box)).toArray) rfl Tw.kr Tw.kr Tw.m0 Bg5 Tw.kr (by first | (simp [Value.cells]; done) | exact Nat.le_of_ble_eq_true rfl) (fun v hv => boC_one (boxOf bs y1.box) v hv) Tw.kr (List.forall_mem_cons.2 ⟨.inl rfl, (List.forall_mem_cons.2 ⟨.inr ⟨Tw.m1, Tw.nee⟩, (List.forall_mem_nil _)⟩)⟩)) ?_
         refine lm (v := .bool ((findB bs y1.box).isSome)) rfl rfl ?_
         refine wpL_done (fun W18 hW18 => ?_)
         change Code.wp ..
         refine wp_seq ?_
         refine wp_region_L _ hW18 ?_
         refine lm (v := .bool ((findB bs y1.box).isSome)) rfl rfl ?_
         refine wpL_done (fun W19 hW19 => ?_)
         change Code.wp ..
         cases h6 : ((findB bs y1.box).isSome) with
         | false =>
           refine wp_cond_false rfl ?_
           refine wp_skip ?_
           change Code.wp ..
           refine wp_region_L _ hW19 ?_
           refine lp (v := .int .i64 (((k + 1) : Nat) : Int)) rfl rfl (run_bin rfl (vx := (.int .i64 ((k : Nat) : Int))) (vy := (.int .i64 ((1 : Nat) : Int))) Tw.kr Tw.kr fun w => bn_add (z := (k + 1)) rfl (wr_i64 Tw.om) w) ?_
           refine lm (v := .int .i64 (((k + 1) : Nat) : Int)) rfl rfl ?_
           refine wpL_done (fun W20 hW20 => ?_)
           go_roundw
           case rel =>
             repeat apply Exists.intro
             exact ⟨⟨k + 1, sm, Tw.om, (by rw [height_snoc hy1, ← hsm, addH_none h6]; rfl), rfl, rfl, (hW20.sub (fun p hp => by first | exact hp | (simp only [List.mem_cons, List.mem_append, List.nil_append, List.not_mem_nil, or_assoc, or_false, false_or] at hp ⊢ <;> grind)))⟩, rfl⟩
           case measure => (show l.length - (intOf (.int .i64 (((k + 1) : Nat) : Int))).toNat < l.length - (intOf (.int .i64 ((k : Nat) : Int))).toNat); simp only [intOf]; omega
         | true =>
           refine wp_cond_true rfl ?_
           have hle1 := height_le bs (l.take k) co ha
           have hle2 : (l.take k).length ≤ l.length := by rw [List.length_take]; omega
           rw [← hsm] at hle1
           have hle3 := heightO_le (boxOf bs y1.box)
           refine wp_region_L _ hW19 ?_
           refine lm (v := .int .i64 ((sm : Nat) : Int)) rfl rfl ?_
           refine lv (v := .agg (boC (boxOf bs y1.box)).toArray) rfl rfl (yb_load (n := 9) (off := 0) rfl Tw.kr Tw.m0 Try.underlying37 rfl Tw.kr (by first | (simp [Value.cells]; done) | exact Nat.le_of_ble_eq_true rfl) Tw.kr) ?_
           refine lv (v := .int .i64 (((heightO (boxOf bs y1.box)) : Nat) : Int)) rfl rfl (yb_call (f := 114) (args := #[.agg (boC (boxOf bs y1.box)).toArray]) Tw.kf fun W hW => heightOf_any (boxOf bs y1.box) W) ?_
           refine lp (v := .int .i64 (((sm + (heightO (boxOf bs y1.box))) : Nat) : Int)) rfl rfl (run_bin rfl (vx := (.int .i64 ((sm : Nat) : Int))) (vy := (.int .i64 (((heightO (boxOf bs y1.box)) : Nat) : Int))) Tw.kr Tw.kr fun w => bn_add (z := (sm + (heightO (boxOf bs y1.box)))) rfl (wr_i64 Tw.om) w) ?_
           refine lm (v := .int .i64 (((sm + (heightO (boxOf bs y1.box))) : Nat) : Int)) rfl rfl ?_
           refine wpL_done (fun W21 hW21 => ?_)
           change Code.wp ..
           refine wp_region_L _ hW21 ?_
           refine lp (v := .int .i64 (((k + 1) : Nat) : Int)) rfl rfl (run_bin rfl (vx := (.int .i64 ((k : Nat) : Int))) (vy := (.int .i64 ((1 : Nat) : Int))) Tw.kr Tw.kr fun w => bn_add (z := (k + 1)) rfl (wr_i64 Tw.om) w) ?_
           refine lm (v := .int .i64 (((k + 1) : Nat) : Int)) rfl rfl ?_
           refine wpL_done (fun W22 hW22 => ?_)
           go_roundw
           case rel =>
             repeat apply Exists.intro
             exact ⟨⟨k + 1, (sm + (heightO (boxOf bs y1.box))), Tw.om, (by rw [height_snoc hy1, ← hsm, addH_yes h2 (.inl h3) h6]), rfl, rfl, (hW22.sub (fun p hp => by first | exact hp | (simp only [List.mem_cons, List.mem_append, List.nil_append, List.not_mem_nil, or_assoc, or_false, false_or] at hp ⊢ <;> grind)))⟩, rfl⟩
           case measure => (show l.length - (intOf (.int .i64 (((k + 1) : Nat) : Int))).toNat < l.length - (intOf (.int .i64 ((k : Nat) : Int))).toNat); simp only [intOf]; omega
end Go.Proofs.Ytnbfljcilojllaa
/- Stow: states whose boxes increase, where boxes are in them, open covers. -/
namespace Go.Proofs.Ytnbfljcilojllaa
open Go Go.RowKit Tw
theorem inc_two {l : List Sd} {i : Nat} {x y : Sd} (hx : l[i]? = some x) (hy : l[i + 1]? = some y) : incS (l.drop i) = (decide (x.box < y.box) && incS (l.drop (i + 1))) := by
 obtain ⟨h1, rfl⟩ := List.getElem?_eq_some_iff.1 hx
 obtain ⟨h2, rfl⟩ := List.getElem?_eq_some_iff.1 hy
 rw [List.drop_eq_getElem_cons h1, List.drop_eq_getElem_cons h2]
 rfl
theorem inc_done {l : List Sd} {i : Nat} (h : ¬ i + 1 < l.length) : incS (l.drop i) = true := by
 have hl : (l.drop i).length ≤ 1 := by rw [List.length_drop]; omega
 rcases hd : l.drop i with _ | ⟨x, _ | ⟨y, r⟩⟩
 · rfl
 · rfl
 · rw [hd] at hl; simp at hl
theorem inc_adj {l : List Sd} (h : incS l = true) : ∀ {i : Nat} {x y : Sd}, l[i]? = some x → l[i + 1]? = some y → x.box < y.box := by
 induction l with
 | nil => intro i x y hx; cases hx
 | cons a l ih =>
   cases l with
   | nil => intro i x y _ hy; simp at hy
   | cons b l =>
     have h2 : (decide (a.box < b.box) && incS (b :: l)) = true := h
     rw [Bool.and_eq_true, decide_eq_true_eq] at h2
     intro i x y hx hy
     cases i with
     | zero => simp at hx hy; subst hx hy; exact h2.1
     | succ i => exact ih h2.2 (by simpa using hx) (by simpa using hy)
theorem inc_lt {l : List Sd} (h : incS l = true) {i j : Nat} (hij : i < j) : ∀ {x y : Sd}, l[i]? = some x → l[j]? = some y → x.box < y.box := by
 induction j with
 | zero => omega
 | succ j ih =>
   intro x y hx hy
   obtain ⟨hjl, _⟩ := List.getElem?_eq_some_iff.1 hy
   have hz : l[j]? = some l[j] := List.getElem?_eq_getElem Tw.om
   have h1 := inc_adj h hz hy
   by_cases e : i = j
   · subst e
     rw [hx] at hz
     cases hz
     exact h1
   · have := ih Tw.om hx hz
     omega
def lowN (l : List Sd) (n : Int) : Nat := (l.filter fun x => decide (x.box < n)).length
def hasX (l : List Sd) (n : Int) : Bool := (fst (isBx n) l).isSome
theorem low_is {l : List Sd} {n : Int} {k : Nat} (hk : k ≤ l.length) (h1 : ∀ (j : Nat) (y : Sd), j < k → l[j]? = some y → y.box < n) (h2 : ∀ (j : Nat) (y : Sd), k ≤ j → l[j]? = some y → n ≤ y.box) : lowN l n = k := by
 unfold lowN
 conv => lhs; rw [← List.take_append_drop k l]
 have e1 : (l.take k).filter (fun x => decide (x.box < n)) = l.take k := List.filter_eq_self.2 fun y hy => by
   obtain ⟨j, hj⟩ := List.getElem?_of_mem hy
   have hjk : j < k := by
     have := (List.getElem?_eq_some_iff.1 hj).1
     rw [List.length_take] at this
     omega
   rw [List.getElem?_take, if_pos hjk] at hj
   exact decide_eq_true (h1 j y hjk hj)
 have e2 : (l.drop k).filter (fun x => decide (x.box < n)) = [] := List.filter_eq_nil_iff.2 fun y hy => by
   obtain ⟨j, hj⟩ := List.getElem?_of_mem hy
   rw [List.getElem?_drop] at hj
   have := h2 (k + j) y Tw.om hj
   simp only [decide_eq_true_eq]
   omega
 rw [List.filter_append, e1, e2, List.append_nil, List.length_take, Nat.min_eq_left hk]
theorem hasX_yes {l : List Sd} {n : Int} {k : Nat} {y : Sd} (hy : l[k]? = some y) (h : y.box = n) : hasX l n = true := by
 unfold hasX
 cases hf : fst (isBx n) l with
 | some k => rfl
 | none =>
   have := fst_none hf y (List.mem_of_getElem? hy)
   unfold isBx at this
   rw [decide_eq_true h] at this
   cases this
theorem hasX_no {l : List Sd} {n : Int} {k : Nat} (hi : incS l = true) (h1 : ∀ (j : Nat) (y : Sd), j < k → l[j]? = some y → y.box < n) (h2 : ∀ (y : Sd), l[k]? = some y → n < y.box) : hasX l n = false := by
 unfold hasX
 cases hf : fst (isBx n) l with
 | none => rfl
 | some m =>
   exfalso
   obtain ⟨y, hy, hb, _⟩ := fst_some hf
   have hb : y.box = n := of_decide_eq_true hb
   rcases Nat.lt_trichotomy m k with h | h | h
   · have := h1 m y h hy; omega
   · subst h; have := h2 y hy; omega
   · have hkl : k < l.length := by have := (List.getElem?_eq_some_iff.1 hy).1; omega
     have hk : l[k]? = some l[k] := List.getElem?_eq_getElem hkl
     have h3 := h2 _ hk
     have h4 := inc_lt hi h hk hy
     omega
theorem low_has {l : List Sd} {n : Int} (hi : incS l = true) {k : Nat} (h : fst (isBx n) l = some k) : lowN l n = k := by
 obtain ⟨y, hy, hb, _⟩ := fst_some h
 have hb : y.box = n := of_decide_eq_true hb
 have hk := (List.getElem?_eq_some_iff.1 hy).1
 refine low_is Tw.om (fun j z hj hz => ?_) (fun j z hj hz => ?_)
 · have := inc_lt hi hj hz hy; omega
 · by_cases e : j = k
   · subst e; rw [hy] at hz; cases hz; omega
   · have := inc_lt hi (show k < j by omega) hy hz; omega
theorem c9_neg {a b : Int} (h : cmpI a b < 0) : a < b := by
 unfold cmpI at h
 split at h
 · assumption
 · split at h <;> omega
theorem c9_nneg {a b : Int} (h : ¬ cmpI a b < 0) : b ≤ a := by
 unfold cmpI at h
 split at h
 · omega
 · omega
theorem c9_zero {a b : Int} (h : cmpI a b = 0) : a = b := by
 unfold cmpI at h
 split at h
 · omega
 · split at h <;> omega
theorem c9_nzero {a b : Int} (h : ¬ cmpI a b = 0) : a ≠ b := fun e => h (by subst e; unfold cmpI; rw [if_neg Tw.om, if_neg Tw.om])
theorem has_dec {l : List Sd} {n : Int} {k : Nat} {y : Sd} (hi : incS l = true) (h1 : ∀ (j : Nat) (y : Sd), j < k → l[j]? = some y → y.box < n) (h2 : ∀ (j : Nat) (y : Sd), k ≤ j → l[j]? = some y → n ≤ y.box) (hy : l[k]? = some y) : hasX l n = decide (cmpI y.box n = 0) := by
 by_cases h : cmpI y.box n = 0
 · rw [decide_eq_true h]; exact hasX_yes hy (c9_zero h)
 · rw [decide_eq_false h]
   refine hasX_no hi h1 fun z hz => ?_
   rw [hy] at hz
   cases hz
   have h3 := h2 k y (Nat.le_refl _) hy
   have h4 := c9_nzero h
   omega
end Go.Proofs.Ytnbfljcilojllaa
namespace Go.Proofs.Ytnbfljcilojllaa
open Go Go.RowKit Tw
set_option maxRecDepth 100000 in
set_option maxHeartbeats 4000000 in
theorem incr9_any (l : List Sd) (q : Option Addr) (d : Nat) (hm : l.length ≤ 4000000000) (w : World) (hq : SLV w q (l.flatMap sdC)) : Calls Try.prog 68 #[.slice q l.length d] w fun e w' => e = .returned (.bool (incS l)) ∧ Below w.heap.size w w' := by
 have HQ := Lib.hid hq
 clear hq
 go_enter Try.func68, Try.ntmps68
 refine wp_seq ?_
 refine wp_region_L [] (KS.start w) ?_
 refine lm (v := .bool false) rfl rfl ?_
 refine wpL_done (fun W1 hW1 => ?_)
 change Code.wp ..
 refine wp_seq ?_
 refine wp_seq ?_
 refine wp_region_L _ hW1 ?_
 refine lm (v := .int .i64 1) rfl rfl ?_
 refine wpL_done (fun W2 hW2 => ?_)
 change Code.wp ..
 refine wp_block ?_
 go_loopw [3] (fun u3 wr => ∃ (k : Nat), (k ≤ l.length) ∧ (incS l = incS (l.drop k)) ∧ u3 = .int .i64 (((k + 1) : Nat) : Int) ∧ KS w [] wr) (fun u3 _ => l.length + 2 - (intOf u3).toNat)
 case atStart => exact ⟨0, (Nat.zero_le _), rfl, rfl, (hW2.sub (fun p hp => by first | exact hp | (simp only [List.mem_cons, List.mem_append, List.nil_append, List.not_mem_nil, or_assoc, or_false, false_or] at hp ⊢ <;> grind)))⟩
 case round =>
   obtain ⟨k, hk, hI, rfl, hL3⟩ := hrel
   refine wp_seq ?_
   refine wp_seq ?_
   refine wp_region_L _ hL3 ?_
   refine lm (v := .int .i64 (((k + 1) : Nat) : Int)) rfl rfl ?_
   refine lm (v := .slice q l.length d) rfl rfl ?_
   refine lp (v := .int .i64 ((l.length : Nat) : Int)) rfl rfl (run_lenL (p := q) (cap := d) (n := l.length) rfl Try.underlying38 Tw.kr) ?_
   refine lp (v := .bool (decide ((k + 1) < l.length))) rfl rfl (run_bin rfl (vx := (.int .i64 (((k + 1) : Nat) : Int))) (vy := (.int .i64 ((l.length : Nat) : Int))) Tw.kr Tw.kr fun w => bn_lss rfl w) ?_
   refine wpL_done (fun W4 hW4 => ?_)
   change Code.wp ..
   cases hd1 : (decide ((k + 1) < l.length)) with
   | false =>
     have h1 : ¬ ((k + 1) < l.length) := of_decide_eq_false hd1
     clear hd1
     refine wp_cond_false rfl ?_
     refine wp_exit ?_
     change Code.wp ..
     refine wp_seq ?_
     refine wp_region_L _ hW4 ?_
     refine lm (v := .bool true) rfl rfl ?_
     refine wpL_done (fun W5 hW5 => ?_)
     change Code.wp ..
     refine wp_ret ?_
     try simp only [inBlock_ret, then_ret]
     refine bodyPost_ret (v := .bool true) ?_ rfl ?_
     · kernel_rfl
     · exact ⟨(bool_is (by rw [hI, inc_done h1])), hW5.1⟩
   | true =>
     have h1 : (k + 1) < l.length := of_decide_eq_true hd1
     clear hd1
     refine wp_cond_true rfl ?_
     refine wp_skip ?_
     change Code.wp ..
     refine wp_seq ?_
     refine wp_block ?_
     refine wp_seq ?_
     refine wp_region_V _ Tw.kr hW4 ?_
     refine vm (i := 0) (v := .slice q l.length d) rfl rfl rfl ?_
     refine vm (i := 1) (v := .int .i64 (((k + 1) : Nat) : Int)) rfl rfl rfl ?_
     obtain ⟨y1, g1_, f1_, hy1, hp1, hc1⟩ := RL.at (RL.base HQ.out) sdC_len (by decide) (hW4.sub (fun _ h => by cases h)) (k := (k + 1)) Tw.om
     refine vp (i := 2) (v := .pointer (some ⟨g1_, f1_ + (k + 1) * 4, none⟩)) rfl rfl rfl (run_idxQ (p := q) (cap := d) (n := l.length) (j := .i64) (k := (k + 1)) (sz := 4) rfl Try.underlying38 Tw.kr Tw.kr hp1 Tw.kr Tw.om) ?_
     refine vm (i := 3) (v := .pointer (some ⟨g1_, f1_ + (k + 1) * 4, none⟩)) rfl rfl rfl ?_
     refine vb (i := 4) (v := .int .i64 y1.box) rfl rfl rfl (yb_rf (v := .int .i64 y1.box) rfl Tw.kr (fun W hW => hc1 W (hW.sub (fun _ h => by cases h)) 0 _ rfl) Try.underlying3 rfl) ?_
     refine vm (i := 5) (v := .slice q l.length d) rfl rfl rfl ?_
     refine vm (i := 6) (v := .int .i64 (((k + 1) : Nat) : Int)) rfl rfl rfl ?_
     refine vp (i := 7) (v := .int .i64 ((k : Nat) : Int)) rfl rfl rfl (run_bin rfl (vx := (.int .i64 (((k + 1) : Nat) : Int))) (vy := (.int .i64 ((1 : Nat) : Int))) Tw.kr Tw.kr fun w => bn_sub (z := k) (Nat.add_sub_cancel k 1) Tw.om (wr_i64 Tw.om) w) ?_
     obtain ⟨y2, g2_, f2_, hy2, hp2, hc2⟩ := RL.at (RL.base HQ.out) sdC_len (by decide) (hW4.sub (fun _ h => by cases h)) (k := k) Tw.om
     refine vp (i := 8) (v := .pointer (some ⟨g2_, f2_ + k * 4, none⟩)) rfl rfl rfl (run_idxQ (p := q) (cap := d) (n := l.length) (j := .i64) (k := k) (sz := 4) rfl Try.underlying38 Tw.kr Tw.kr hp2 Tw.kr Tw.om) ?_
     refine vm (i := 9) (v := .pointer (some ⟨g2_, f2_ + k * 4, none⟩)) rfl rfl rfl ?_
     refine vb (i := 10) (v := .int .i64 y2.box) rfl rfl rfl (yb_rf (v := .int .i64 y2.box) rfl Tw.kr (fun W hW => hc2 W (hW.sub (fun _ h => by cases h)) 0 _ rfl) Try.underlying3 rfl) ?_
     refine vp (i := 11) (v := .bool (!(decide (y2.box < y1.box)))) rfl rfl rfl (run_bin rfl (vx := (.int .i64 y1.box)) (vy := (.int .i64 y2.box)) Tw.kr Tw.kr fun w => bi_leq rfl w) ?_
     refine wpV_done Tw.kr (fun W6 hW6 => ?_) _
     change Code.wp ..
     cases hd2 : (decide (y2.box < y1.box)) with
     | false =>
       have h2 : ¬ (y2.box < y1.box) := of_decide_eq_false hd2
       clear hd2
       refine wp_cond_true rfl ?_
       refine wp_seq ?_
       refine wp_region_L _ hW6 ?_
       refine lm (v := .bool false) rfl rfl ?_
       refine wpL_done (fun W7 hW7 => ?_)
       change Code.wp ..
       refine wp_ret ?_
       try simp only [inBlock_ret, then_ret]
       refine bodyPost_ret (v := .bool false) ?_ rfl ?_
       · kernel_rfl
       · exact ⟨(bool_is (by rw [hI, inc_two hy2 (show l[k + 1]? = some y1 from hy1), decide_eq_false (show ¬ y2.box < y1.box by omega)]; rfl)), hW7.1⟩
     | true =>
       have h2 : y2.box < y1.box := of_decide_eq_true hd2
       clear hd2
       refine wp_cond_false rfl ?_
       refine wp_skip ?_
       change Code.wp ..
       refine wp_region_L _ hW6 ?_
       refine lm (v := .int .i64 (((k + 1) : Nat) : Int)) rfl rfl ?_
       refine lp (v := .int .i64 ((((k + 1) + 1) : Nat) : Int)) rfl rfl (run_bin rfl (vx := (.int .i64 (((k + 1) : Nat) : Int))) (vy := (.int .i64 ((1 : Nat) : Int))) Tw.kr Tw.kr fun w => bn_add (z := ((k + 1) + 1)) rfl (wr_i64 Tw.om) w) ?_
       refine lm (v := .int .i64 ((((k + 1) + 1) : Nat) : Int)) rfl rfl ?_
       refine wpL_done (fun W8 hW8 => ?_)
       go_roundw
       case rel =>
         repeat apply Exists.intro
         exact ⟨⟨k + 1, Tw.om, (by rw [hI, inc_two hy2 (show l[k + 1]? = some y1 from hy1), decide_eq_true (show y2.box < y1.box by omega)]; rfl), rfl, (hW8.sub (fun p hp => by first | exact hp | (simp only [List.mem_cons, List.mem_append, List.nil_append, List.not_mem_nil, or_assoc, or_false, false_or] at hp ⊢ <;> grind)))⟩, rfl⟩
       case measure => (show l.length + 2 - (intOf (.int .i64 ((((k + 1) + 1) : Nat) : Int))).toNat < l.length + 2 - (intOf (.int .i64 (((k + 1) : Nat) : Int))).toNat); simp only [intOf]; omega
set_option maxRecDepth 100000 in
set_option maxHeartbeats 4000000 in
theorem byBox_any (a b : Sd) (w : World) : Calls Try.prog 105 #[.agg (sdC a).toArray, .agg (sdC b).toArray] w fun e w' => e = .returned (.int .i64 (cmpI a.box b.box)) ∧ Below w.heap.size w w' := by
 go_enter Try.func105, Try.ntmps105
 refine wp_seq ?_
 refine wp_region_L [] (KS.start w) ?_
 refine wpL_new (fun g => .pointer (some ⟨g, 0, none⟩)) (obi := .cells (sdC a).toArray 42 (0, 0)) rfl rfl Tw.kf Tw.pf fun g1 Bg1 Fg1 => ?_
 refine wpL_new (fun g => .pointer (some ⟨g, 0, none⟩)) (obi := .cells (sdC b).toArray 42 (0, 0)) rfl rfl Tw.kf Tw.pf fun g2 Bg2 Fg2 => ?_
 obtain dj3_0 : g1 ≠ g2 := Tw.dkf Fg2
 refine lm (v := .int .i64 0) rfl rfl ?_
 refine wpL_done (fun W1 hW1 => ?_)
 change Code.wp ..
 refine wp_seq ?_
 refine wp_region_L _ hW1 ?_
 refine lm (v := .pointer (some ⟨g1, 0, none⟩)) rfl rfl ?_
 refine lv (v := .int .i64 a.box) rfl rfl (yb_cell (off := 0) rfl Tw.kr Tw.m1 Try.underlying3 rfl Tw.kr) ?_
 refine lm (v := .pointer (some ⟨g2, 0, none⟩)) rfl rfl ?_
 refine lv (v := .int .i64 b.box) rfl rfl (yb_cell (off := 0) rfl Tw.kr Tw.m0 Try.underlying3 rfl Tw.kr) ?_
 refine lv (v := .int .i64 (cmpI a.box b.box)) rfl rfl (yb_call (f := 112) (args := #[.int .i64 a.box, .int .i64 b.box]) Tw.kf fun W hW => Cmp_any a.box b.box W) ?_
 refine lm (v := .int .i64 (cmpI a.box b.box)) rfl rfl ?_
 refine wpL_done (fun W2 hW2 => ?_)
 change Code.wp ..
 refine wp_ret ?_
 try simp only [inBlock_ret, then_ret]
 refine bodyPost_ret (v := .int .i64 (cmpI a.box b.box)) ?_ rfl ?_
 · kernel_rfl
 · exact ⟨rfl, hW2.1⟩
set_option maxRecDepth 100000 in
set_option maxHeartbeats 4000000 in
theorem BSF_any (l : List Sd) (q : Option Addr) (d : Nat) (hm : l.length ≤ 4000000000) (x : Sd) (hi : incS l = true) (w : World) (hq : SLV w q (l.flatMap sdC)) : Calls Try.prog 104 #[.slice q l.length d, .agg (sdC x).toArray, .func (.func 105) #[] #[]] w fun e w' => e = .returned (.tuple #[.int .i64 ((lowN l x.box : Nat) : Int), .bool (hasX l x.box)]) ∧ Below w.heap.size w w' := by
 have HQ := Lib.hid hq
 clear hq
 go_enter Try.func104, Try.ntmps104
 refine wp_seq ?_
 refine wp_region_L [] (KS.start w) ?_
 refine wpL_new (fun g => .pointer (some ⟨g, 0, none⟩)) (obi := .cells (sdC x).toArray 42 (0, 0)) rfl rfl Tw.kf Tw.pf fun g1 Bg1 Fg1 => ?_
 refine lm (v := .int .i64 0) rfl rfl ?_
 refine lm (v := .bool false) rfl rfl ?_
 refine wpL_done (fun W1 hW1 => ?_)
 change Code.wp ..
 refine wp_seq ?_
 refine wp_region_L _ hW1 ?_
 refine lm (v := .slice q l.length d) rfl rfl ?_
 refine lp (v := .int .i64 ((l.length : Nat) : Int)) rfl rfl (run_lenL (p := q) (cap := d) (n := l.length) rfl Try.underlying38 Tw.kr) ?_
 refine lm (v := .int .i64 ((l.length : Nat) : Int)) rfl rfl ?_
 refine wpL_done (fun W2 hW2 => ?_)
 change Code.wp ..
 refine wp_seq ?_
 refine wp_region_L _ hW2 ?_
 refine lm (v := .int .i64 ((l.length : Nat) : Int)) rfl rfl ?_
 refine lm (v := .int .i64 0) rfl rfl ?_
 refine lm (v := .int .i64 ((l.length : Nat) : Int)) rfl rfl ?_
 refine wpL_done (fun W3 hW3 => ?_)
 change Code.wp ..
 refine wp_seq ?_
 refine wp_block ?_
 go_loopw [9, 10] (fun u9 u10 wr => ∃ (lo hj : Nat), (lo ≤ hj) ∧ (hj ≤ l.length) ∧ (∀ (j : Nat) (y : Sd), j < lo → l[j]? = some y → y.box < x.box) ∧ (∀ (j : Nat) (y : Sd), hj ≤ j → l[j]? = some y → x.box ≤ y.box) ∧ u9 = .int .i64 ((lo : Nat) : Int) ∧ u10 = .int .i64 ((hj : Nat) : Int) ∧ KS w [(g1, .cells (sdC x).toArray 42 (0, 0))] wr) (fun u9 u10 _ => (intOf u10).toNat - (intOf u9).toNat)
 case atStart => exact ⟨0, l.length, (Nat.zero_le _), (Nat.le_refl _), (fun j y h => by omega), (fun j y h hy => by have h9 := (List.getElem?_eq_some_iff.1 hy).1; omega), rfl, rfl, (hW3.sub (fun p hp => by first | exact hp | (simp only [List.mem_cons, List.mem_append, List.nil_append, List.not_mem_nil, or_assoc, or_false, false_or] at hp ⊢ <;> grind)))⟩
 case round =>
   obtain ⟨lo, hj, hlo, hhi, hL, hH, rfl, rfl, hL4⟩ := hrel
   refine wp_seq ?_
   refine wp_seq ?_
   refine wp_region_L _ hL4 ?_
   refine lm (v := .int .i64 ((lo : Nat) : Int)) rfl rfl ?_
   refine lm (v := .int .i64 ((hj : Nat) : Int)) rfl rfl ?_
   refine lp (v := .bool (decide (lo < hj))) rfl rfl (run_bin rfl (vx := (.int .i64 ((lo : Nat) : Int))) (vy := (.int .i64 ((hj : Nat) : Int))) Tw.kr Tw.kr fun w => bn_lss rfl w) ?_
   refine wpL_done (fun W5 hW5 => ?_)
   change Code.wp ..
   cases hd1 : (decide (lo < hj)) with
   | false =>
     have h1 : ¬ (lo < hj) := of_decide_eq_false hd1
     clear hd1
     refine wp_cond_false rfl ?_
     refine wp_exit ?_
     change Code.wp ..
     refine wp_seq ?_
     refine wp_region_V _ Tw.kr hW5 ?_
     refine vm (i := 0) (v := .int .i64 ((lo : Nat) : Int)) rfl rfl rfl ?_
     refine vm (i := 1) (v := .int .i64 ((lo : Nat) : Int)) rfl rfl rfl ?_
     refine vm (i := 2) (v := .int .i64 ((l.length : Nat) : Int)) rfl rfl rfl ?_
     refine vp (i := 3) (v := .bool (decide (lo < l.length))) rfl rfl rfl (run_bin rfl (vx := (.int .i64 ((lo : Nat) : Int))) (vy := (.int .i64 ((l.length : Nat) : Int))) Tw.kr Tw.kr fun w => bn_lss rfl w) ?_
     refine vm (i := 4) (v := .bool (decide (lo < l.length))) rfl rfl rfl ?_
     cases hd2 : (decide (lo < l.length)) with
     | false =>
       have h2 : ¬ (lo < l.length) := of_decide_eq_false hd2
       clear hd2
       refine vn (i := 5) rfl rfl ?_
       refine vn (i := 6) rfl rfl ?_
       refine vn (i := 7) rfl rfl ?_
       refine vn (i := 8) rfl rfl ?_
       refine vn (i := 9) rfl rfl ?_
       refine vn (i := 10) rfl rfl ?_
       refine vn (i := 11) rfl rfl ?_
       refine vn (i := 12) rfl rfl ?_
       refine vm (i := 13) (v := .bool false) rfl rfl rfl ?_
       refine vm (i := 14) (v := .int .i64 ((lo : Nat) : Int)) rfl rfl rfl ?_
       refine vm (i := 15) (v := .bool false) rfl rfl rfl ?_
       refine wpV_done Tw.kr (fun W6 hW6 => ?_) _
       change Code.wp ..
       refine wp_ret ?_
       try simp only [inBlock_ret, then_ret]
       refine bodyPost_ret (v := .tuple #[.int .i64 ((lo : Nat) : Int), .bool false]) ?_ rfl ?_
       · kernel_rfl
       · exact ⟨(by rw [(low_is (n := x.box) (k := lo) Tw.om hL (fun j y h hy => hH j y Tw.om hy)), (hasX_no hi hL (fun y hy => by have h9 := (List.getElem?_eq_some_iff.1 hy).1; omega))]), hW6.1⟩
     | true =>
       have h2 : lo < l.length := of_decide_eq_true hd2
       clear hd2
       refine vm (i := 5) (v := .func (.func 105) #[] #[]) rfl rfl rfl ?_
       refine vm (i := 6) (v := .slice q l.length d) rfl rfl rfl ?_
       refine vm (i := 7) (v := .int .i64 ((lo : Nat) : Int)) rfl rfl rfl ?_
       obtain ⟨y2, g2_, f2_, hy2, hp2, hc2⟩ := RL.at (RL.base HQ.out) sdC_len (by decide) (hW5.sub (fun _ h => by cases h)) (k := lo) Tw.om
       refine vp (i := 8) (v := .pointer (some ⟨g2_, f2_ + lo * 4, none⟩)) rfl rfl rfl (run_idxQ (p := q) (cap := d) (n := l.length) (j := .i64) (k := lo) (sz := 4) rfl Try.underlying38 Tw.kr Tw.kr hp2 Tw.kr Tw.om) ?_
       refine vb (i := 9) (v := .agg (sdC y2).toArray) rfl rfl rfl (yb_rs (off := f2_ + lo * 4) (cs := sdC y2) rfl Tw.kr (fun W hW => hc2 W (hW.sub (fun _ h => by cases h))) Try.underlying42 rfl Tw.kr) ?_
       refine vv (i := 10) (v := .agg (sdC x).toArray) rfl rfl rfl (yb_load (n := 4) (off := 0) rfl Tw.kr Tw.m0 Try.underlying42 rfl Tw.kr (by first | (simp [Value.cells]; done) | exact Nat.le_of_ble_eq_true rfl) Tw.kr) ?_
       refine vv (i := 11) (v := .int .i64 (cmpI y2.box x.box)) rfl rfl rfl (yb_call (f := 105) (args := #[.agg (sdC y2).toArray, .agg (sdC x).toArray]) Tw.kf fun W hW => byBox_any y2 x W) ?_
       refine vp (i := 12) (v := .bool (decide ((cmpI y2.box x.box) = 0))) rfl rfl rfl (run_bin rfl (vx := (.int .i64 (cmpI y2.box x.box))) (vy := (.int .i64 0)) Tw.kr Tw.kr fun w => bi_eql rfl w) ?_
       refine vm (i := 13) (v := .bool (decide ((cmpI y2.box x.box) = 0))) rfl rfl rfl ?_
       refine vm (i := 14) (v := .int .i64 ((lo : Nat) : Int)) rfl rfl rfl ?_
       refine vm (i := 15) (v := .bool (decide ((cmpI y2.box x.box) = 0))) rfl rfl rfl ?_
       refine wpV_done Tw.kr (fun W7 hW7 => ?_) _
       change Code.wp ..
       refine wp_ret ?_
       try simp only [inBlock_ret, then_ret]
       refine bodyPost_ret (v := .tuple #[.int .i64 ((lo : Nat) : Int), .bool (decide ((cmpI y2.box x.box) = 0))]) ?_ rfl ?_
       · kernel_rfl
       · exact ⟨(by rw [(low_is (n := x.box) (k := lo) Tw.om hL (fun j y h hy => hH j y Tw.om hy)), (has_dec hi hL (fun j y h hy => hH j y Tw.om hy) hy2)]), hW7.1⟩
   | true =>
     have h1 : lo < hj := of_decide_eq_true hd1
     clear hd1
     refine wp_cond_true rfl ?_
     refine wp_skip ?_
     change Code.wp ..
     refine wp_block ?_
     refine wp_seq ?_
     refine wp_region_L _ hW5 ?_
     refine lm (v := .int .i64 ((lo : Nat) : Int)) rfl rfl ?_
     refine lm (v := .int .i64 ((hj : Nat) : Int)) rfl rfl ?_
     refine lp (v := .int .i64 (((lo + hj) : Nat) : Int)) rfl rfl (run_bin rfl (vx := (.int .i64 ((lo : Nat) : Int))) (vy := (.int .i64 ((hj : Nat) : Int))) Tw.kr Tw.kr fun w => bn_add (z := (lo + hj)) rfl (wr_i64 Tw.om) w) ?_
     refine lp (v := .int .u64 (((lo + hj) : Nat) : Int)) rfl rfl (run_conv rfl (vx := (.int .i64 (((lo + hj) : Nat) : Int))) Tw.kr fun w => cv_int Try.underlying3 Try.underlying191 (wr_u64 Tw.om) w) ?_
     refine lp (v := .int .u64 ((((lo + hj) / 2 ^ 1) : Nat) : Int)) rfl rfl (run_bin rfl (vx := (.int .u64 (((lo + hj) : Nat) : Int))) (vy := (.int .u64 ((1 : Nat) : Int))) Tw.kr Tw.kr fun w => bn_shr (z := ((lo + hj) / 2 ^ 1)) rfl (by first | omega | decide | (simp only [IntKind.bits]; omega)) w) ?_
     refine lp (v := .int .i64 ((((lo + hj) / 2 ^ 1) : Nat) : Int)) rfl rfl (run_conv rfl (vx := (.int .u64 ((((lo + hj) / 2 ^ 1) : Nat) : Int))) Tw.kr fun w => cv_int Try.underlying191 Try.underlying3 (wr_i64 Tw.om) w) ?_
     refine lm (v := .int .i64 ((((lo + hj) / 2 ^ 1) : Nat) : Int)) rfl rfl ?_
     refine wpL_done (fun W8 hW8 => ?_)
     change Code.wp ..
     refine wp_seq ?_
     refine wp_region_V _ Tw.kr hW8 ?_
     refine vm (i := 0) (v := .func (.func 105) #[] #[]) rfl rfl rfl ?_
     refine vm (i := 1) (v := .slice q l.length d) rfl rfl rfl ?_
     refine vm (i := 2) (v := .int .i64 ((((lo + hj) / 2 ^ 1) : Nat) : Int)) rfl rfl rfl ?_
     obtain ⟨y3, g3_, f3_, hy3, hp3, hc3⟩ := RL.at (RL.base HQ.out) sdC_len (by decide) (hW8.sub (fun _ h => by cases h)) (k := ((lo + hj) / 2 ^ 1)) Tw.om
     refine vp (i := 3) (v := .pointer (some ⟨g3_, f3_ + ((lo + hj) / 2 ^ 1) * 4, none⟩)) rfl rfl rfl (run_idxQ (p := q) (cap := d) (n := l.length) (j := .i64) (k := ((lo + hj) / 2 ^ 1)) (sz := 4) rfl Try.underlying38 Tw.kr Tw.kr hp3 Tw.kr Tw.om) ?_
     refine vb (i := 4) (v := .agg (sdC y3).toArray) rfl rfl rfl (yb_rs (off := f3_ + ((lo + hj) / 2 ^ 1) * 4) (cs := sdC y3) rfl Tw.kr (fun W hW => hc3 W (hW.sub (fun _ h => by cases h))) Try.underlying42 rfl Tw.kr) ?_
     refine vv (i := 5) (v := .agg (sdC x).toArray) rfl rfl rfl (yb_load (n := 4) (off := 0) rfl Tw.kr Tw.m0 Try.underlying42 rfl Tw.kr (by first | (simp [Value.cells]; done) | exact Nat.le_of_ble_eq_true rfl) Tw.kr) ?_
     refine vv (i := 6) (v := .int .i64 (cmpI y3.box x.box)) rfl rfl rfl (yb_call (f := 105) (args := #[.agg (sdC y3).toArray, .agg (sdC x).toArray]) Tw.kf fun W hW => byBox_any y3 x W) ?_
     refine vp (i := 7) (v := .bool (decide ((cmpI y3.box x.box) < 0))) rfl rfl rfl (run_bin rfl (vx := (.int .i64 (cmpI y3.box x.box))) (vy := (.int .i64 0)) Tw.kr Tw.kr fun w => bi_lss rfl w) ?_
     refine wpV_done Tw.kr (fun W9 hW9 => ?_) _
     change Code.wp ..
     cases hd3 : (decide ((cmpI y3.box x.box) < 0)) with
     | false =>
       have h3 : ¬ ((cmpI y3.box x.box) < 0) := of_decide_eq_false hd3
       clear hd3
       refine wp_cond_false rfl ?_
       refine wp_region_L _ hW9 ?_
       refine lm (v := .int .i64 ((((lo + hj) / 2 ^ 1) : Nat) : Int)) rfl rfl ?_
       refine lm (v := .int .i64 ((((lo + hj) / 2 ^ 1) : Nat) : Int)) rfl rfl ?_
       refine wpL_done (fun W10 hW10 => ?_)
       go_roundw
       case rel =>
         repeat apply Exists.intro
         exact ⟨⟨lo, ((lo + hj) / 2 ^ 1), Tw.om, Tw.om, hL, (fun j y hj2 hy => by by_cases e : j = (lo + hj) / 2 ^ 1; subst e; rw [hy3] at hy; cases hy; exact c9_nneg h3; have h9 := inc_lt hi (show (lo + hj) / 2 ^ 1 < j by omega) hy3 hy; have h8 := c9_nneg h3; omega), rfl, rfl, (hW10.sub (fun p hp => by first | exact hp | (simp only [List.mem_cons, List.mem_append, List.nil_append, List.not_mem_nil, or_assoc, or_false, false_or] at hp ⊢ <;> grind)))⟩, rfl⟩
       case measure => (show (intOf (.int .i64 ((((lo + hj) / 2 ^ 1) : Nat) : Int))).toNat - (intOf (.int .i64 ((lo : Nat) : Int))).toNat < (intOf (.int .i64 ((hj : Nat) : Int))).toNat - (intOf (.int .i64 ((lo : Nat) : Int))).toNat); simp only [intOf]; omega
     | true =>
       have h3 : (cmpI y3.box x.box) < 0 := of_decide_eq_true hd3
       clear hd3
       refine wp_cond_true rfl ?_
       refine wp_region_L _ hW9 ?_
       refine lm (v := .int .i64 ((((lo + hj) / 2 ^ 1) : Nat) : Int)) rfl rfl ?_
       refine lp (v := .int .i64 (((((lo + hj) / 2 ^ 1) + 1) : Nat) : Int)) rfl rfl (run_bin rfl (vx := (.int .i64 ((((lo + hj) / 2 ^ 1) : Nat) : Int))) (vy := (.int .i64 ((1 : Nat) : Int))) Tw.kr Tw.kr fun w => bn_add (z := (((lo + hj) / 2 ^ 1) + 1)) rfl (wr_i64 Tw.om) w) ?_
       refine lm (v := .int .i64 (((((lo + hj) / 2 ^ 1) + 1) : Nat) : Int)) rfl rfl ?_
       refine wpL_done (fun W11 hW11 => ?_)
       go_roundw
       case rel =>
         repeat apply Exists.intro
         exact ⟨⟨(((lo + hj) / 2 ^ 1) + 1), hj, Tw.om, Tw.om, (fun j y hj2 hy => by by_cases e : j = (lo + hj) / 2 ^ 1; subst e; rw [hy3] at hy; cases hy; exact c9_neg h3; have h9 := inc_lt hi (show j < (lo + hj) / 2 ^ 1 by omega) hy hy3; have h8 := c9_neg h3; omega), hH, rfl, rfl, (hW11.sub (fun p hp => by first | exact hp | (simp only [List.mem_cons, List.mem_append, List.nil_append, List.not_mem_nil, or_assoc, or_false, false_or] at hp ⊢ <;> grind)))⟩, rfl⟩
       case measure => (show (intOf (.int .i64 ((hj : Nat) : Int))).toNat - (intOf (.int .i64 (((((lo + hj) / 2 ^ 1) + 1) : Nat) : Int))).toNat < (intOf (.int .i64 ((hj : Nat) : Int))).toNat - (intOf (.int .i64 ((lo : Nat) : Int))).toNat); simp only [intOf]; omega
set_option maxRecDepth 100000 in
set_option maxHeartbeats 4000000 in
theorem place_any (l : List Sd) (q : Option Addr) (d : Nat) (hm : l.length ≤ 4000000000) (n : Int) (hi : incS l = true) (w : World) (hq : SLV w q (l.flatMap sdC)) : Calls Try.prog 88 #[.slice q l.length d, .int .i64 n] w fun e w' => e = .returned (.tuple #[.int .i64 ((lowN l n : Nat) : Int), .bool (hasX l n)]) ∧ Below w.heap.size w w' := by
 have HQ := Lib.hid hq
 clear hq
 go_enter Try.func88, Try.ntmps88
 refine wp_seq ?_
 refine wp_region_L [] (KS.start w) ?_
 refine lm (v := .int .i64 0) rfl rfl ?_
 refine lm (v := .bool false) rfl rfl ?_
 refine wpL_done (fun W1 hW1 => ?_)
 change Code.wp ..
 refine wp_seq ?_
 refine wp_region_L _ hW1 ?_
 refine lm (v := .slice q l.length d) rfl rfl ?_
 refine lm (v := .int .i64 n) rfl rfl ?_
 refine lm (v := .agg #[.int .i64 n, .int .i64 0, .int .i64 0, .int .u8 0]) rfl rfl ?_
 refine lv (v := .tuple #[.int .i64 (((lowN l n) : Nat) : Int), .bool (hasX l n)]) rfl rfl (yb_call (f := 104) (args := #[.slice q l.length d, .agg #[.int .i64 n, .int .i64 0, .int .i64 0, .int .u8 0], .func (.func 105) #[] #[]]) Tw.kf fun W hW => BSF_any l q d hm (⟨n, slt0⟩ : Sd) hi W ((RL.base HQ.out) _ (hW.sub (fun _ h => by cases h)))) ?_
 refine lm (v := .int .i64 (((lowN l n) : Nat) : Int)) rfl rfl ?_
 refine lm (v := .bool (hasX l n)) rfl rfl ?_
 refine lm (v := .int .i64 (((lowN l n) : Nat) : Int)) rfl rfl ?_
 refine lm (v := .bool (hasX l n)) rfl rfl ?_
 refine wpL_done (fun W2 hW2 => ?_)
 change Code.wp ..
 refine wp_ret ?_
 try simp only [inBlock_ret, then_ret]
 refine bodyPost_ret (v := .tuple #[.int .i64 (((lowN l n) : Nat) : Int), .bool (hasX l n)]) ?_ rfl ?_
 · kernel_rfl
 · exact ⟨rfl, hW2.1⟩
end Go.Proofs.Ytnbfljcilojllaa
/- Records in a block that are written; ships that are not right: plain facts. -/
namespace Go.Proofs.Ytnbfljcilojllaa
open Go Go.RowKit Tw
def RowR {α : Type} (cells : α → List Value) (cur : Array Value) (l : List α) : Prop := ∃ rest, cur.toList = l.flatMap cells ++ rest
section
variable {α : Type} {cells : α → List Value} {sz : Nat} {cur : Array Value} {l : List α} {k j : Nat} {c c' : α} {v : Value}
theorem RowR.get (h : RowR cells cur l) (hc : ∀ y, (cells y).length = sz) (hk : l[k]? = some c) : ∀ (j : Nat) (v : Value), (cells c)[j]? = some v → cur[0 + k * sz + j]? = some v := fun j v hv => by
 obtain ⟨rest, h⟩ := h
 have h1 := flat_get hc hk hv
 rw [← Array.getElem?_toList, h, Nat.zero_add, List.getElem?_append_left (List.getElem?_eq_some_iff.1 h1).1, h1]
theorem flat_set (hc : ∀ y, (cells y).length = sz) (hk : l[k]? = some c) (hj : j < sz) (he : cells c' = (cells c).set j v) : (l.flatMap cells).set (k * sz + j) v = (l.set k c').flatMap cells := by
 obtain ⟨hkl, hkc⟩ := List.getElem?_eq_some_iff.1 hk
 have e1 := er_split hk
 have hl : ((l.take k).flatMap cells).length = k * sz := by rw [flat_len hc, List.length_take, Nat.min_eq_left Tw.om]
 rw [show l.set k c' = l.take k ++ c' :: l.drop (k + 1) from by rw [List.set_eq_take_append_cons_drop, if_pos hkl], List.flatMap_append, List.flatMap_cons, he]
 conv => lhs; rw [e1, List.flatMap_append, List.flatMap_cons]
 rw [List.set_append_right _ _ (by rw [hl]; omega), hl, Nat.add_sub_cancel_left, List.set_append_left _ _ (by rw [hc]; exact hj)]
theorem RowR.set (h : RowR cells cur l) (hc : ∀ y, (cells y).length = sz) (hk : l[k]? = some c) (hj : j < sz) (he : cells c' = (cells c).set j v) : RowR cells (cur.setIfInBounds (0 + k * sz + j) v) (l.set k c') := by
 obtain ⟨rest, h⟩ := h
 refine ⟨rest, ?_⟩
 have hkl := (List.getElem?_eq_some_iff.1 hk).1
 have hlt : k * sz + j < (l.flatMap cells).length := by
   rw [flat_len hc]
   have : (k + 1) * sz ≤ l.length * sz := Nat.mul_le_mul_right _ hkl
   rw [Nat.succ_mul] at this; omega
 rw [Array.toList_setIfInBounds, h, Nat.zero_add, List.set_append_left _ _ hlt, flat_set hc hk hj he]
end
-- what is wrong
section
variable {cs : List Col} {os : List Cov}
theorem rgs_f {l : List Rg} {r : Rg} (hr : r ∈ l) (h : r.1 < r.2.1 ∨ r.2.2 < r.1) : rgsX l = false := by
 induction l with
 | nil => cases hr
 | cons x l ih =>
   show (!decide (x.1 < x.2.1) && (!decide (x.2.2 < x.1) && rgsX l)) = false
   rcases List.mem_cons.1 hr with rfl | hr
   · rcases h with h | h
     · rw [decide_eq_true h]; rfl
     · rw [decide_eq_true h]; simp
   · rw [ih hr]; simp
end
end Go.Proofs.Ytnbfljcilojllaa
/- Lists that are made empty, with room; the marks behind lists that are lent. -/
namespace Go.Proofs.Ytnbfljcilojllaa
open Go Go.RowKit Tw
theorem run_mk0 {P : Program} {T E : TypeId} {o : Oper} {a : Act} {c sz b : Nat} {z : Value} {x y : Operand} (ho : o.op = .makeSlice T x y) (hT : P.underlying T = some (.slice E)) (hi : (P.info? E).map (fun i => (i.zero, i.size, i.bytes)) = some (some z, sz, b)) (hb : b ≤ 10000)
   (hx : a.eval x = .int .i64 0) (hy : a.eval y = .int .i64 ((c : Nat) : Int)) (hn : c ≤ 8000000000) (w : World) : (execOp a.eval o).run P w = .ok (.value (.slice (some ⟨w.heap.size, 0, none⟩) 0 c)) (w.alloc (.cells (madeCells z.cells (c * sz)) E (0, 0))) := by
 unfold execOp
 rw [ho]
 have h1 : b * c ≤ 281474976710656 := Nat.le_trans (Nat.mul_le_mul hb hn) (by decide)
 obtain ⟨i, hi2, hzz⟩ := Option.map_eq_some_iff.1 hi
 simp only [Prod.mk.injEq] at hzz
 obtain ⟨hz, hs, hb2⟩ := hzz
 have hbb : (i.bytes : Int) * (c : Int) ≤ 281474976710656 := by
   rw [hb2]
   have h : ((b * c : Nat) : Int) ≤ 281474976710656 := by omega
   rwa [Int.natCast_mul] at h
 have h2 := run_make (P := P) w T E i z hT hi2 hz .i64 .i64 0 c (Int.le_refl _) Tw.om hbb Tw.om
 simp only [Int.toNat_natCast, hs] at h2
 simp [hx, hy, h2]
theorem own_made {α : Type} {cells : α → List Value} {sz c : Nat} {W0 : Base} {E : TypeId} {g : Nat} {z : Value} (hB : W0.B ≤ g) (hz : z.cells.size = sz) (hc : c ≤ 8000000000) : OwnL W0 E sz (.slice (some ⟨g, 0, none⟩) 0 c) 0 (([] : List α).flatMap cells) [(g, .cells (madeCells z.cells (c * sz)) E (0, 0))] := by
 refine .inr ⟨g, c, _, rfl, hB, ⟨?_, by unfold maxLen; omega, Nat.zero_le _, by simp, by simp⟩, rfl⟩
 simp [madeCells]
end Go.Proofs.Ytnbfljcilojllaa
/- Stow: rows of records that are made and written where they stand; piles in plain lists. -/
namespace Go.Proofs.Ytnbfljcilojllaa
open Go Go.RowKit Tw
section
variable {P : Program} {T E : TypeId} {W0 : Base} {α : Type} {cells : α → List Value} {sz : Nat}
theorem made_recs (hc : ∀ y, (cells y).length = sz) (hs : 0 < sz) (z0 : α) (n : Nat) : madeCells (cells z0).toArray (n * sz) = ((List.replicate n z0).flatMap cells).toArray := by
 apply Array.ext'
 have h : ∀ n, (List.range (n * sz)).map (fun i => (cells z0).toArray[i % sz]!) = (List.replicate n z0).flatMap cells := by
   intro n
   induction n with
   | zero => simp
   | succ n ih =>
     rw [Nat.succ_mul, List.range_add, List.map_append, ih, List.replicate_succ', List.flatMap_append, List.map_map]
     congr 1
     have e : ((fun i => (cells z0).toArray[i % sz]!) ∘ fun x => n * sz + x) = fun j => (cells z0).toArray[j % sz]! := by
       funext j
       show (cells z0).toArray[(n * sz + j) % sz]! = _
       rw [Nat.mul_comm, Nat.mul_add_mod]
     rw [e, List.flatMap_cons, List.flatMap_nil, List.append_nil]
     apply List.ext_getElem
     · simp [hc]
     · intro i h1 h2
       have hi : i < sz := by simpa using h1
       simp [Nat.mod_eq_of_lt hi, h2]
 unfold madeCells
 rw [Array.toList_map, Array.toList_range, List.size_toArray, hc]
 exact h n
theorem run_mkR (z0 : α) {o : Oper} {a : Act} {n : Nat} {x y : Operand} {b : Nat} (ho : o.op = .makeSlice T x y) (hT : P.underlying T = some (.slice E)) (hi : (P.info? E).map (fun i => (i.zero, i.size, i.bytes)) = some (some (.agg (cells z0).toArray), sz, b)) (hc : ∀ y, (cells y).length = sz) (hs : 0 < sz) (hsz : sz ≤ 20) (hb : b ≤ 10000)
   (hx : a.eval x = .int .i64 ((n : Nat) : Int)) (hy : a.eval y = .int .i64 ((n : Nat) : Int)) (hn : n ≤ 4000000000) (w : World) : (execOp a.eval o).run P w = .ok (.value (.slice (some ⟨w.heap.size, 0, none⟩) n n)) (w.alloc (.cells ((List.replicate n z0).flatMap cells).toArray E (0, 0))) := by
 unfold execOp
 rw [ho]
 have h1 : b * n ≤ 281474976710656 := Nat.le_trans (Nat.mul_le_mul hb hn) (by decide)
 obtain ⟨i, hi2, hzz⟩ := Option.map_eq_some_iff.1 hi
 simp only [Prod.mk.injEq] at hzz
 obtain ⟨hz, hs2, hb2⟩ := hzz
 have hbb : (i.bytes : Int) * (n : Int) ≤ 281474976710656 := by
   rw [hb2]
   have h : ((b * n : Nat) : Int) ≤ 281474976710656 := by omega
   rwa [Int.natCast_mul] at h
 have h2 := run_make (P := P) w T E i (.agg (cells z0).toArray) hT hi2 hz .i64 .i64 n n Tw.om (Int.le_refl _) hbb Tw.om
 have h3 : madeCells (Value.agg (cells z0).toArray).cells (n * sz) = ((List.replicate n z0).flatMap cells).toArray := made_recs hc hs z0 n
 simp only [Int.toNat_natCast, hs2, h3] at h2
 simp [hx, hy, h2]
theorem flat_put {l : List α} {k : Nat} {b : α} (hc : ∀ y, (cells y).length = sz) (hk : k < l.length) : (l.set k b).flatMap cells = (l.flatMap cells).take (k * sz) ++ cells b ++ (l.flatMap cells).drop (k * sz + sz) := by
 have e1 : l.flatMap cells = (l.take k).flatMap cells ++ (cells l[k] ++ (l.drop (k + 1)).flatMap cells) := by
   conv => lhs; rw [← List.take_append_drop k l, List.drop_eq_getElem_cons hk]
   rw [List.flatMap_append, List.flatMap_cons]
 have hl : ((l.take k).flatMap cells).length = k * sz := by rw [flat_len hc, List.length_take, Nat.min_eq_left Tw.om]
 rw [List.set_eq_take_append_cons_drop, if_pos hk, List.flatMap_append, List.flatMap_cons, e1, List.take_left' hl, ← List.drop_drop (i := sz) (j := k * sz) (l := _ ++ _), List.drop_left' hl, List.drop_left' (hc _), List.append_assoc]
theorem st_recR {o : Oper} {a : Act} {K K' : List (Nat × Obj)} {ty t : TypeId} {x y : Operand} {g k : Nat} {l : List α} (b : α) (ho : o.op = .store ty x y) (hx : a.eval x = .pointer (some ⟨g, 0 + k * sz, none⟩)) (hv : a.eval y = .agg (cells b).toArray)
   (hm : (g, .cells (l.flatMap cells).toArray t (0, 0)) ∈ K) (hB : W0.B ≤ g) (hi : (P.info? ty).map (·.size) = some sz) (hc : ∀ y, (cells y).length = sz) (h1 : ∀ v ∈ cells b, v.oneCell' = true) (hk : k < l.length)
   (hK : ∀ p ∈ K', p = (g, .cells ((l.set k b).flatMap cells).toArray t (0, 0)) ∨ (p ∈ K ∧ p.1 ≠ g)) : ∀ w, KS W0 K w → ∃ w', (execOp a.eval o).run P w = .ok .skip w' ∧ KS W0 K' w' :=
 st_row (off := 0 + k * sz) (v := .agg (cells b).toArray) ho hx hv hm hB (by rw [hi]; congr 1; exact (hc b).symm.trans (List.size_toArray ..).symm) (by
   show 0 + k * sz + (cells b).toArray.size ≤ _
   rw [List.size_toArray, List.size_toArray, hc, flat_len hc]
   have h9 : (k + 1) * sz ≤ l.length * sz := Nat.mul_le_mul_right _ hk
   rw [Nat.succ_mul] at h9; omega) h1 (by
   show _ = ((l.flatMap cells).toArray.toList.take (0 + k * sz) ++ (cells b).toArray.toList ++ (l.flatMap cells).toArray.toList.drop (0 + k * sz + (cells b).toArray.toList.length)).toArray
   rw [flat_put hc hk, Nat.zero_add]
   simp only [hc]) hK
theorem rowx (cells : α → List Value) (l : List α) : RowR cells (l.flatMap cells).toArray l := ⟨[], by simp⟩
end
-- the slots of a pile
def slotsO (l : List Sd) : List Slt := l.map (·.slot)
def sloM (l : List Sd) (k : Nat) : List Slt := slotsO (l.take k) ++ List.replicate (l.length - k) slt0
theorem slo_len (l : List Sd) : (slotsO l).length = l.length := List.length_map ..
theorem sloM_len {l : List Sd} {k : Nat} (hk : k ≤ l.length) : (sloM l k).length = l.length := by
 unfold sloM
 rw [List.length_append, slo_len, List.length_take, List.length_replicate]
 omega
theorem sloM_zero (l : List Sd) : List.replicate l.length slt0 = sloM l 0 := by simp [sloM, slotsO]
theorem sloM_end {l : List Sd} {k : Nat} (hk : ¬ k < l.length) : sloM l k = slotsO l := by
 unfold sloM
 rw [List.take_of_length_le Tw.om, Nat.sub_eq_zero_of_le Tw.om]
 simp
theorem sloM_set {l : List Sd} {k : Nat} {y : Sd} (hy : l[k]? = some y) : (sloM l k).set k y.slot = sloM l (k + 1) := by
 obtain ⟨hk, rfl⟩ := List.getElem?_eq_some_iff.1 hy
 have hl : (slotsO (l.take k)).length = k := by rw [slo_len, List.length_take]; omega
 unfold sloM
 rw [List.set_append_right _ _ Tw.om, hl, Nat.sub_self, List.take_succ_eq_append_getElem hk, show l.length - k = (l.length - (k + 1)) + 1 by omega, List.replicate_succ, List.set_cons_zero]
 unfold slotsO
 rw [List.map_append, List.append_assoc]
 rfl
def meetsX (l : List Slt) (x : Slt) : Bool := (fst (meetS x) l).isSome
def pileHigh (bs : List Bo) (l : List Sd) (lim : Int) : Bool := !decide (lim ≤ 0) && match l with
 | [] => false
 | x :: _ => decide (lim < max ((heightX bs l x.slot.col 1 : Nat) : Int) ((heightX bs l x.slot.col 2 : Nat) : Int))
def standF (L : List Slt) : Nat → Nat → Bool
 | 0, _ => true
 | n + 1, k => !(meetsX (L.take k) (elC slt0 L ((k : Nat) : Int)) || !heldS (elC slt0 L ((k : Nat) : Int)) L) && standF L n (k + 1)
def standX (bs : List Bo) (l : List Sd) (lim : Int) : Bool := standF (slotsO l) (slotsO l).length 0 && !pileHigh bs l lim
theorem stand_step {L : List Slt} {k : Nat} {y : Slt} (hy : L[k]? = some y) : standF L (L.length - k) k = (!(meetsX (L.take k) y || !heldS y L) && standF L (L.length - (k + 1)) (k + 1)) := by
 have hl := (List.getElem?_eq_some_iff.1 hy).1
 rw [show L.length - k = (L.length - (k + 1)) + 1 by omega]
 show (!(meetsX (L.take k) (elC slt0 L ((k : Nat) : Int)) || !heldS (elC slt0 L ((k : Nat) : Int)) L) && standF L (L.length - (k + 1)) (k + 1)) = _
 rw [elc_at hy]
theorem stand_end {L : List Slt} {k : Nat} (h : ¬ k < L.length) : standF L (L.length - k) k = true := by rw [Nat.sub_eq_zero_of_le Tw.om]; rfl
theorem high_le {bs : List Bo} {l : List Sd} {lim : Int} (h : lim ≤ 0) : pileHigh bs l lim = false := by unfold pileHigh; rw [decide_eq_true h]; rfl
theorem high_nil {bs : List Bo} {l : List Sd} {lim : Int} (h : l.length = 0) : pileHigh bs l lim = false := by
 cases l with
 | nil => unfold pileHigh; simp
 | cons _ _ => cases h
theorem high_is {bs : List Bo} {l : List Sd} {lim : Int} {y : Sd} (h : ¬ lim ≤ 0) (hy : l[0]? = some y) : pileHigh bs l lim = decide (lim < max ((heightX bs l y.slot.col 1 : Nat) : Int) ((heightX bs l y.slot.col 2 : Nat) : Int)) := by
 cases l with
 | nil => cases hy
 | cons x l => cases hy; unfold pileHigh; rw [decide_eq_false h]; rfl
end Go.Proofs.Ytnbfljcilojllaa
namespace Go.Proofs.Ytnbfljcilojllaa
open Go Go.RowKit Tw
set_option maxRecDepth 100000 in
set_option maxHeartbeats 4000000 in
theorem IndexS_any (l : List Slt) (p : Option Addr) (c : Nat) (x : Slt) (hl : l.length ≤ 4000000000) (w : World) (hp : SLV w p (l.flatMap sltC)) : Calls Try.prog 84 #[.slice p l.length c, .agg (sltC x).toArray] w fun e w' => e = .returned (.int .i64 (fiN (fst (eqS x) l))) ∧ Below w.heap.size w w' := by
 have HP := Lib.hid hp
 clear hp
 go_enter Try.func84, Try.ntmps84
 refine wp_seq ?_
 refine wp_region_L [] (KS.start w) ?_
 refine wpL_new (fun g => .pointer (some ⟨g, 0, none⟩)) (obi := .cells (sltC x).toArray 40 (0, 0)) rfl rfl Tw.kf Tw.pf fun g1 Bg1 Fg1 => ?_
 refine lm (v := .int .i64 0) rfl rfl ?_
 refine wpL_done (fun W1 hW1 => ?_)
 change Code.wp ..
 refine wp_seq ?_
 refine wp_seq ?_
 refine wp_region_L _ hW1 ?_
 refine lm (v := .slice p l.length c) rfl rfl ?_
 refine lp (v := .int .i64 ((l.length : Nat) : Int)) rfl rfl (run_lenL (p := p) (cap := c) (n := l.length) rfl Try.underlying56 Tw.kr) ?_
 refine lm (v := .int .i64 0) rfl rfl ?_
 refine wpL_done (fun W2 hW2 => ?_)
 change Code.wp ..
 refine wp_block ?_
 go_loopw [8] (fun u8 wr => ∃ (k : Nat), (k ≤ l.length) ∧ (fstF (eqS x) 0 (l.take k) = none) ∧ u8 = .int .i64 ((k : Nat) : Int) ∧ KS w [(g1, .cells (sltC x).toArray 40 (0, 0))] wr) (fun u8 _ => l.length - (intOf u8).toNat)
 case atStart => exact ⟨0, (Nat.zero_le _), fst_zero, rfl, (hW2.sub (fun p hp => by first | exact hp | (simp only [List.mem_cons, List.mem_append, List.nil_append, List.not_mem_nil, or_assoc, or_false, false_or] at hp ⊢ <;> grind)))⟩
 case round =>
   obtain ⟨k, hk, hF, rfl, hL3⟩ := hrel
   refine wp_seq ?_
   refine wp_region_L _ hL3 ?_
   refine lp (v := .bool (decide (k < l.length))) rfl rfl (run_bin rfl (vx := (.int .i64 ((k : Nat) : Int))) (vy := (.int .i64 ((l.length : Nat) : Int))) Tw.kr Tw.kr fun w => bn_lss rfl w) ?_
   refine wpL_done (fun W4 hW4 => ?_)
   change Code.wp ..
   refine wp_seq ?_
   cases hd1 : (decide (k < l.length)) with
   | false =>
     have h1 : ¬ (k < l.length) := of_decide_eq_false hd1
     clear hd1
     refine wp_cond_false rfl ?_
     refine wp_exit ?_
     change Code.wp ..
     refine wp_seq ?_
     refine wp_region_L _ hW4 ?_
     refine lm (v := .int .i64 (-1)) rfl rfl ?_
     refine wpL_done (fun W5 hW5 => ?_)
     change Code.wp ..
     refine wp_ret ?_
     try simp only [inBlock_ret, then_ret]
     refine bodyPost_ret (v := .int .i64 (-1)) ?_ rfl ?_
     · kernel_rfl
     · exact ⟨(int_is (by rw [fst_end hF h1]; rfl)), hW5.1⟩
   | true =>
     have h1 : k < l.length := of_decide_eq_true hd1
     clear hd1
     refine wp_cond_true rfl ?_
     refine wp_skip ?_
     change Code.wp ..
     refine wp_seq ?_
     refine wp_block ?_
     refine wp_seq ?_
     refine wp_region_L _ hW4 ?_
     refine lm (v := .int .i64 ((k : Nat) : Int)) rfl rfl ?_
     refine lm (v := .int .i64 ((k : Nat) : Int)) rfl rfl ?_
     refine wpL_done (fun W6 hW6 => ?_)
     change Code.wp ..
     refine wp_seq ?_
     refine wp_region_V _ Tw.kr hW6 ?_
     refine vv (i := 0) (v := .agg (sltC x).toArray) rfl rfl rfl (yb_load (n := 3) (off := 0) rfl Tw.kr Tw.m0 Try.underlying40 rfl Tw.kr (by first | (simp [Value.cells]; done) | exact Nat.le_of_ble_eq_true rfl) Tw.kr) ?_
     refine vm (i := 1) (v := .slice p l.length c) rfl rfl rfl ?_
     refine vm (i := 2) (v := .int .i64 ((k : Nat) : Int)) rfl rfl rfl ?_
     obtain ⟨y2, g2_, f2_, hy2, hp2, hc2⟩ := RL.at (RL.base HP.out) sltC_len (by decide) (hW6.sub (fun _ h => by cases h)) (k := k) Tw.om
     refine vp (i := 3) (v := .pointer (some ⟨g2_, f2_ + k * 3, none⟩)) rfl rfl rfl (run_idxQ (p := p) (cap := c) (n := l.length) (j := .i64) (k := k) (sz := 3) rfl Try.underlying56 Tw.kr Tw.kr hp2 Tw.kr Tw.om) ?_
     refine vb (i := 4) (v := .agg (sltC y2).toArray) rfl rfl rfl (yb_rs (off := f2_ + k * 3) (cs := sltC y2) rfl Tw.kr (fun W hW => hc2 W (hW.sub (fun _ h => by cases h))) Try.underlying40 rfl Tw.kr) ?_
     refine vp (i := 5) (v := .bool (eqS x y2)) rfl rfl rfl (run_bin rfl (vx := .agg (sltC x).toArray) (vy := .agg (sltC y2).toArray) Tw.kr Tw.kr fun w => eq_slt w) ?_
     refine wpV_done Tw.kr (fun W7 hW7 => ?_) _
     change Code.wp ..
     cases h2 : (eqS x y2) with
     | false =>
       refine wp_cond_false rfl ?_
       refine wp_skip ?_
       change Code.wp ..
       refine wp_region_L _ hW7 ?_
       refine lp (v := .int .i64 (((k + 1) : Nat) : Int)) rfl rfl (run_bin rfl (vx := (.int .i64 ((k : Nat) : Int))) (vy := (.int .i64 ((1 : Nat) : Int))) Tw.kr Tw.kr fun w => bn_add (z := (k + 1)) rfl (wr_i64 Tw.om) w) ?_
       refine lm (v := .int .i64 (((k + 1) : Nat) : Int)) rfl rfl ?_
       refine wpL_done (fun W8 hW8 => ?_)
       go_roundw
       case rel =>
         repeat apply Exists.intro
         exact ⟨⟨k + 1, Tw.om, (fst_next hF hy2 h2), rfl, (hW8.sub (fun p hp => by first | exact hp | (simp only [List.mem_cons, List.mem_append, List.nil_append, List.not_mem_nil, or_assoc, or_false, false_or] at hp ⊢ <;> grind)))⟩, rfl⟩
       case measure => (show l.length - (intOf (.int .i64 (((k + 1) : Nat) : Int))).toNat < l.length - (intOf (.int .i64 ((k : Nat) : Int))).toNat); simp only [intOf]; omega
     | true =>
       refine wp_cond_true rfl ?_
       refine wp_seq ?_
       refine wp_region_L _ hW7 ?_
       refine lm (v := .int .i64 ((k : Nat) : Int)) rfl rfl ?_
       refine lm (v := .int .i64 ((k : Nat) : Int)) rfl rfl ?_
       refine wpL_done (fun W9 hW9 => ?_)
       change Code.wp ..
       refine wp_ret ?_
       try simp only [inBlock_ret, then_ret]
       refine bodyPost_ret (v := .int .i64 ((k : Nat) : Int)) ?_ rfl ?_
       · kernel_rfl
       · exact ⟨(int_is (by rw [fst_here hF hy2 h2]; rfl)), hW9.1⟩
set_option maxRecDepth 100000 in
set_option maxHeartbeats 4000000 in
theorem ContainsS_any (l : List Slt) (p : Option Addr) (c : Nat) (x : Slt) (hl : l.length ≤ 4000000000) (w : World) (hp : SLV w p (l.flatMap sltC)) : Calls Try.prog 61 #[.slice p l.length c, .agg (sltC x).toArray] w fun e w' => e = .returned (.bool (fst (eqS x) l).isSome) ∧ Below w.heap.size w w' := by
 have HP := Lib.hid hp
 clear hp
 go_enter Try.func61, Try.ntmps61
 refine wp_seq ?_
 refine wp_region_L [] (KS.start w) ?_
 refine wpL_new (fun g => .pointer (some ⟨g, 0, none⟩)) (obi := .cells (sltC x).toArray 40 (0, 0)) rfl rfl Tw.kf Tw.pf fun g1 Bg1 Fg1 => ?_
 refine lm (v := .bool false) rfl rfl ?_
 refine wpL_done (fun W1 hW1 => ?_)
 change Code.wp ..
 refine wp_seq ?_
 refine wp_region_L _ hW1 ?_
 refine lm (v := .slice p l.length c) rfl rfl ?_
 refine lv (v := .agg (sltC x).toArray) rfl rfl (yb_load (n := 3) (off := 0) rfl Tw.kr Tw.m0 Try.underlying40 rfl Tw.kr (by first | (simp [Value.cells]; done) | exact Nat.le_of_ble_eq_true rfl) Tw.kr) ?_
 refine lv (v := .int .i64 (fiN (fst (eqS x) l))) rfl rfl (yb_call (f := 84) (args := #[.slice p l.length c, .agg (sltC x).toArray]) Tw.kf fun W hW => IndexS_any l p c x Tw.om W ((RL.base HP.out) _ (hW.sub (fun _ h => by cases h)))) ?_
 refine lp (v := .bool (!(decide ((fiN (fst (eqS x) l)) < 0)))) rfl rfl (run_bin rfl (vx := (.int .i64 (fiN (fst (eqS x) l)))) (vy := (.int .i64 0)) Tw.kr Tw.kr fun w => bi_geq rfl w) ?_
 refine lm (v := .bool (!(decide ((fiN (fst (eqS x) l)) < 0)))) rfl rfl ?_
 refine wpL_done (fun W2 hW2 => ?_)
 change Code.wp ..
 refine wp_ret ?_
 try simp only [inBlock_ret, then_ret]
 refine bodyPost_ret (v := .bool (!(decide ((fiN (fst (eqS x) l)) < 0)))) ?_ rfl ?_
 · kernel_rfl
 · exact ⟨(bool_is (fi_ge _)), hW2.1⟩
set_option maxRecDepth 100000 in
set_option maxHeartbeats 4000000 in
theorem IndexU_any (l : List Nat) (p : Option Addr) (c : Nat) (x : Nat) (hl : l.length ≤ 4000000000) (w : World) (hp : SLV w p (l.flatMap u8C)) : Calls Try.prog 106 #[.slice p l.length c, .int .u8 ((x : Nat) : Int)] w fun e w' => e = .returned (.int .i64 (fiN (fst (fun m => decide (x = m)) l))) ∧ Below w.heap.size w w' := by
 have HP := Lib.hid hp
 clear hp
 go_enter Try.func106, Try.ntmps106
 refine wp_seq ?_
 refine wp_region_L [] (KS.start w) ?_
 refine lm (v := .int .i64 0) rfl rfl ?_
 refine wpL_done (fun W1 hW1 => ?_)
 change Code.wp ..
 refine wp_seq ?_
 refine wp_seq ?_
 refine wp_region_L _ hW1 ?_
 refine lm (v := .slice p l.length c) rfl rfl ?_
 refine lp (v := .int .i64 ((l.length : Nat) : Int)) rfl rfl (run_lenL (p := p) (cap := c) (n := l.length) rfl Try.underlying159 Tw.kr) ?_
 refine lm (v := .int .i64 0) rfl rfl ?_
 refine wpL_done (fun W2 hW2 => ?_)
 change Code.wp ..
 refine wp_block ?_
 go_loopw [8] (fun u8 wr => ∃ (k : Nat), (k ≤ l.length) ∧ (fstF (fun m => decide (x = m)) 0 (l.take k) = none) ∧ u8 = .int .i64 ((k : Nat) : Int) ∧ KS w [] wr) (fun u8 _ => l.length - (intOf u8).toNat)
 case atStart => exact ⟨0, (Nat.zero_le _), fst_zero, rfl, (hW2.sub (fun p hp => by first | exact hp | (simp only [List.mem_cons, List.mem_append, List.nil_append, List.not_mem_nil, or_assoc, or_false, false_or] at hp ⊢ <;> grind)))⟩
 case round =>
   obtain ⟨k, hk, hF, rfl, hL3⟩ := hrel
   refine wp_seq ?_
   refine wp_region_L _ hL3 ?_
   refine lp (v := .bool (decide (k < l.length))) rfl rfl (run_bin rfl (vx := (.int .i64 ((k : Nat) : Int))) (vy := (.int .i64 ((l.length : Nat) : Int))) Tw.kr Tw.kr fun w => bn_lss rfl w) ?_
   refine wpL_done (fun W4 hW4 => ?_)
   change Code.wp ..
   refine wp_seq ?_
   cases hd1 : (decide (k < l.length)) with
   | false =>
     have h1 : ¬ (k < l.length) := of_decide_eq_false hd1
     clear hd1
     refine wp_cond_false rfl ?_
     refine wp_exit ?_
     change Code.wp ..
     refine wp_seq ?_
     refine wp_region_L _ hW4 ?_
     refine lm (v := .int .i64 (-1)) rfl rfl ?_
     refine wpL_done (fun W5 hW5 => ?_)
     change Code.wp ..
     refine wp_ret ?_
     try simp only [inBlock_ret, then_ret]
     refine bodyPost_ret (v := .int .i64 (-1)) ?_ rfl ?_
     · kernel_rfl
     · exact ⟨(int_is (by rw [fst_end hF h1]; rfl)), hW5.1⟩
   | true =>
     have h1 : k < l.length := of_decide_eq_true hd1
     clear hd1
     refine wp_cond_true rfl ?_
     refine wp_skip ?_
     change Code.wp ..
     refine wp_seq ?_
     refine wp_block ?_
     refine wp_seq ?_
     refine wp_region_L _ hW4 ?_
     refine lm (v := .int .i64 ((k : Nat) : Int)) rfl rfl ?_
     refine lm (v := .int .i64 ((k : Nat) : Int)) rfl rfl ?_
     refine wpL_done (fun W6 hW6 => ?_)
     change Code.wp ..
     refine wp_seq ?_
     refine wp_region_L _ hW6 ?_
     refine lm (v := .int .u8 ((x : Nat) : Int)) rfl rfl ?_
     refine lm (v := .slice p l.length c) rfl rfl ?_
     refine lm (v := .int .i64 ((k : Nat) : Int)) rfl rfl ?_
     obtain ⟨y1, g1_, f1_, hy1, hp1, hc1⟩ := RL.at (RL.base HP.out) u8C_len (by decide) (hW6.sub (fun _ h => by cases h)) (k := k) Tw.om
     refine lp (v := .pointer (some ⟨g1_, f1_ + k * 1, none⟩)) rfl rfl (run_idxQ (p := p) (cap := c) (n := l.length) (j := .i64) (k := k) (sz := 1) rfl Try.underlying159 Tw.kr Tw.kr hp1 Tw.kr Tw.om) ?_
     refine lv (v := .int .u8 ((y1 : Nat) : Int)) rfl rfl (yb_rf (v := .int .u8 ((y1 : Nat) : Int)) rfl Tw.kr (fun W hW => hc1 W (hW.sub (fun _ h => by cases h)) 0 _ rfl) Try.underlying5 rfl) ?_
     refine lp (v := .bool (decide (x = y1))) rfl rfl (run_bin rfl (vx := (.int .u8 ((x : Nat) : Int))) (vy := (.int .u8 ((y1 : Nat) : Int))) Tw.kr Tw.kr fun w => bn_eql rfl w) ?_
     refine wpL_done (fun W7 hW7 => ?_)
     change Code.wp ..
     cases hd2 : (decide (x = y1)) with
     | false =>
       have h2 : ¬ (x = y1) := of_decide_eq_false hd2
       clear hd2
       refine wp_cond_false rfl ?_
       refine wp_skip ?_
       change Code.wp ..
       refine wp_region_L _ hW7 ?_
       refine lp (v := .int .i64 (((k + 1) : Nat) : Int)) rfl rfl (run_bin rfl (vx := (.int .i64 ((k : Nat) : Int))) (vy := (.int .i64 ((1 : Nat) : Int))) Tw.kr Tw.kr fun w => bn_add (z := (k + 1)) rfl (wr_i64 Tw.om) w) ?_
       refine lm (v := .int .i64 (((k + 1) : Nat) : Int)) rfl rfl ?_
       refine wpL_done (fun W8 hW8 => ?_)
       go_roundw
       case rel =>
         repeat apply Exists.intro
         exact ⟨⟨k + 1, Tw.om, (fst_next hF hy1 (decide_eq_false h2)), rfl, (hW8.sub (fun p hp => by first | exact hp | (simp only [List.mem_cons, List.mem_append, List.nil_append, List.not_mem_nil, or_assoc, or_false, false_or] at hp ⊢ <;> grind)))⟩, rfl⟩
       case measure => (show l.length - (intOf (.int .i64 (((k + 1) : Nat) : Int))).toNat < l.length - (intOf (.int .i64 ((k : Nat) : Int))).toNat); simp only [intOf]; omega
     | true =>
       have h2 : x = y1 := of_decide_eq_true hd2
       clear hd2
       refine wp_cond_true rfl ?_
       refine wp_seq ?_
       refine wp_region_L _ hW7 ?_
       refine lm (v := .int .i64 ((k : Nat) : Int)) rfl rfl ?_
       refine lm (v := .int .i64 ((k : Nat) : Int)) rfl rfl ?_
       refine wpL_done (fun W9 hW9 => ?_)
       change Code.wp ..
       refine wp_ret ?_
       try simp only [inBlock_ret, then_ret]
       refine bodyPost_ret (v := .int .i64 ((k : Nat) : Int)) ?_ rfl ?_
       · kernel_rfl
       · exact ⟨(int_is (by rw [fst_here hF hy1 (decide_eq_true h2)]; rfl)), hW9.1⟩
set_option maxRecDepth 100000 in
set_option maxHeartbeats 4000000 in
theorem ContainsU_any (l : List Nat) (p : Option Addr) (c : Nat) (x : Nat) (hl : l.length ≤ 4000000000) (w : World) (hp : SLV w p (l.flatMap u8C)) : Calls Try.prog 90 #[.slice p l.length c, .int .u8 ((x : Nat) : Int)] w fun e w' => e = .returned (.bool (fst (fun m => decide (x = m)) l).isSome) ∧ Below w.heap.size w w' := by
 have HP := Lib.hid hp
 clear hp
 go_enter Try.func90, Try.ntmps90
 refine wp_seq ?_
 refine wp_region_L [] (KS.start w) ?_
 refine lm (v := .bool false) rfl rfl ?_
 refine wpL_done (fun W1 hW1 => ?_)
 change Code.wp ..
 refine wp_seq ?_
 refine wp_region_L _ hW1 ?_
 refine lm (v := .slice p l.length c) rfl rfl ?_
 refine lm (v := .int .u8 ((x : Nat) : Int)) rfl rfl ?_
 refine lv (v := .int .i64 (fiN (fst (fun m => decide (x = m)) l))) rfl rfl (yb_call (f := 106) (args := #[.slice p l.length c, .int .u8 ((x : Nat) : Int)]) Tw.kf fun W hW => IndexU_any l p c x Tw.om W ((RL.base HP.out) _ (hW.sub (fun _ h => by cases h)))) ?_
 refine lp (v := .bool (!(decide ((fiN (fst (fun m => decide (x = m)) l)) < 0)))) rfl rfl (run_bin rfl (vx := (.int .i64 (fiN (fst (fun m => decide (x = m)) l)))) (vy := (.int .i64 0)) Tw.kr Tw.kr fun w => bi_geq rfl w) ?_
 refine lm (v := .bool (!(decide ((fiN (fst (fun m => decide (x = m)) l)) < 0)))) rfl rfl ?_
 refine wpL_done (fun W2 hW2 => ?_)
 change Code.wp ..
 refine wp_ret ?_
 try simp only [inBlock_ret, then_ret]
 refine bodyPost_ret (v := .bool (!(decide ((fiN (fst (fun m => decide (x = m)) l)) < 0)))) ?_ rfl ?_
 · kernel_rfl
 · exact ⟨(bool_is (fi_ge _)), hW2.1⟩
set_option maxRecDepth 100000 in
set_option maxHeartbeats 4000000 in
theorem halves_any (z : Nat) (w : World) : Calls Try.prog 82 #[.int .u8 ((z : Nat) : Int)] w fun e w' => ∃ v, e = .returned v ∧ OutV w w' 5 1 v (hsX z).length ((hsX z).flatMap u8C) ∧ Below w.heap.size w w' := by
 go_enter Try.func82, Try.ntmps82
 refine wp_seq ?_
 refine wp_region_L [] (KS.start w) ?_
 refine lm (v := .slice none 0 0) rfl rfl ?_
 refine wpL_done (fun W1 hW1 => ?_)
 change Code.wp ..
 refine wp_seq ?_
 refine wp_seq ?_
 refine wp_region_L _ hW1 ?_
 refine lm (v := .int .u8 ((z : Nat) : Int)) rfl rfl ?_
 refine wpL_done (fun W2 hW2 => ?_)
 change Code.wp ..
 refine wp_block ?_
 refine wp_seq ?_
 refine wp_region_L _ hW2 ?_
 refine lp (v := .bool (decide (z = 20))) rfl rfl (run_bin rfl (vx := (.int .u8 ((z : Nat) : Int))) (vy := (.int .u8 ((20 : Nat) : Int))) Tw.kr Tw.kr fun w => bn_eql rfl w) ?_
 refine lm (v := .bool (decide (z = 20))) rfl rfl ?_
 refine wpL_done (fun W3 hW3 => ?_)
 change Code.wp ..
 cases hd1 : (decide (z = 20)) with
 | false =>
   have h1 : ¬ (z = 20) := of_decide_eq_false hd1
   clear hd1
   refine wp_cond_false rfl ?_
   refine wp_seq ?_
   refine wp_region_L _ hW3 ?_
   refine lp (v := .bool (decide (z = 40))) rfl rfl (run_bin rfl (vx := (.int .u8 ((z : Nat) : Int))) (vy := (.int .u8 ((40 : Nat) : Int))) Tw.kr Tw.kr fun w => bn_eql rfl w) ?_
   refine lm (v := .bool (decide (z = 40))) rfl rfl ?_
   refine wpL_done (fun W4 hW4 => ?_)
   change Code.wp ..
   cases hd2 : (decide (z = 40)) with
   | false =>
     have h2 : ¬ (z = 40) := of_decide_eq_false hd2
     clear hd2
     refine wp_cond_false rfl ?_
     refine wp_skip ?_
     change Code.wp ..
     refine wp_seq ?_
     refine wp_region_L _ hW4 ?_
     refine lm (v := .slice none 0 0) rfl rfl ?_
     refine wpL_done (fun W5 hW5 => ?_)
     change Code.wp ..
     refine wp_ret ?_
     try simp only [inBlock_ret, then_ret]
     refine bodyPost_ret (v := .slice none 0 0) ?_ rfl ?_
     · kernel_rfl
     · exact ⟨_, rfl, by rw [(show hsX z = [] from by unfold hsX; rw [if_neg h1, if_neg h2])]; exact .inl ⟨rfl, rfl, rfl⟩, hW5.1⟩
   | true =>
     have h2 : z = 40 := of_decide_eq_true hd2
     clear hd2
     refine wp_cond_true rfl ?_
     refine wp_seq ?_
     refine wp_region_L _ hW4 ?_
     refine wpL_new (fun g => .slice (some ⟨g, 0, none⟩) 1 1) (obi := .cells #[.int .u8 0] 5 (0, 0)) rfl rfl Tw.kf Tw.pf fun g1 Bg1 Fg1 => ?_
     refine lm (v := .slice (some ⟨g1, 0, none⟩) 1 1) rfl rfl ?_
     refine wpL_done (fun W6 hW6 => ?_)
     change Code.wp ..
     refine wp_ret ?_
     try simp only [inBlock_ret, then_ret]
     refine bodyPost_ret (v := .slice (some ⟨g1, 0, none⟩) 1 1) ?_ rfl ?_
     · kernel_rfl
     · exact ⟨_, rfl, by rw [(show hsX z = [0] from by unfold hsX; rw [if_neg h1, if_pos h2])]; exact blk_out (l := [0]) u8C_len hW6 Tw.m0 (by assumption) (by decide), hW6.1⟩
 | true =>
   have h1 : z = 20 := of_decide_eq_true hd1
   clear hd1
   refine wp_cond_true rfl ?_
   refine wp_seq ?_
   refine wp_region_L _ hW3 ?_
   refine wpL_new (fun g => .slice (some ⟨g, 0, none⟩) 2 2) (obi := .cells #[.int .u8 1, .int .u8 2] 5 (0, 0)) rfl rfl Tw.kf Tw.pf fun g2 Bg2 Fg2 => ?_
   refine lm (v := .slice (some ⟨g2, 0, none⟩) 2 2) rfl rfl ?_
   refine wpL_done (fun W7 hW7 => ?_)
   change Code.wp ..
   refine wp_ret ?_
   try simp only [inBlock_ret, then_ret]
   refine bodyPost_ret (v := .slice (some ⟨g2, 0, none⟩) 2 2) ?_ rfl ?_
   · kernel_rfl
   · exact ⟨_, rfl, by rw [(show hsX z = [1, 2] from by unfold hsX; rw [if_pos h1])]; exact blk_out (l := [1, 2]) u8C_len hW7 Tw.m0 (by assumption) (by decide), hW7.1⟩
set_option maxRecDepth 100000 in
set_option maxHeartbeats 4000000 in
theorem exists_any (cs : List Col) (pc : Option Addr) (cc : Nat) (lc : cs.length ≤ 4000000000) (os : List Cov) (po : Option Addr) (co : Nat) (lo : os.length ≤ 4000000000) (t : Tl) (n t0 : Int) (w : World) (hc : SLV w pc (cs.flatMap colC)) (ho : SLV w po (os.flatMap covC)) : Calls Try.prog 89 #[.agg (shC (.slice pc cs.length cc) (.slice po os.length co) t).toArray, .int .i64 n, .int .i64 t0] w fun e w' => e = .returned (.bool (exS cs n t0)) ∧ Below w.heap.size w w' := by
 have HC := Lib.hid hc
 clear hc
 have HO := Lib.hid ho
 clear ho
 go_enter Try.func89, Try.ntmps89
 refine wp_seq ?_
 refine wp_region_L [] (KS.start w) ?_
 refine wpL_new (fun g => .pointer (some ⟨g, 0, none⟩)) (obi := .cells (shC (.slice pc cs.length cc) (.slice po os.length co) t).toArray 32 (0, 0)) rfl rfl Tw.kf Tw.pf fun g1 Bg1 Fg1 => ?_
 refine lm (v := .bool false) rfl rfl ?_
 refine wpL_done (fun W1 hW1 => ?_)
 change Code.wp ..
 refine wp_seq ?_
 refine wp_region_L _ hW1 ?_
 refine lm (v := .int .i64 n) rfl rfl ?_
 refine lp (v := .bool (!(decide (n < 0)))) rfl rfl (run_bin rfl (vx := (.int .i64 n)) (vy := (.int .i64 0)) Tw.kr Tw.kr fun w => bi_geq rfl w) ?_
 refine lm (v := .bool (!(decide (n < 0)))) rfl rfl ?_
 cases hd1 : (decide (n < 0)) with
 | false =>
   have h1 : ¬ (n < 0) := of_decide_eq_false hd1
   clear hd1
   refine lm (v := .int .i64 n) rfl rfl ?_
   refine lm (v := .pointer (some ⟨g1, 0, none⟩)) rfl rfl ?_
   refine lv (v := .slice pc cs.length cc) rfl rfl (yb_cell (off := 0) rfl Tw.kr Tw.m0 Try.underlying22 rfl Tw.kr) ?_
   refine lp (v := .int .i64 ((cs.length : Nat) : Int)) rfl rfl (run_lenL (p := pc) (cap := cc) (n := cs.length) rfl Try.underlying22 Tw.kr) ?_
   refine lp (v := .bool (decide (n < ((cs.length : Nat) : Int)))) rfl rfl (run_bin rfl (vx := (.int .i64 n)) (vy := (.int .i64 ((cs.length : Nat) : Int))) Tw.kr Tw.kr fun w => bi_lss rfl w) ?_
   refine lm (v := .bool (decide (n < ((cs.length : Nat) : Int)))) rfl rfl ?_
   refine lm (v := .bool (decide (n < ((cs.length : Nat) : Int)))) rfl rfl ?_
   cases hd2 : (decide (n < ((cs.length : Nat) : Int))) with
   | false =>
     have h2 : ¬ (n < ((cs.length : Nat) : Int)) := of_decide_eq_false hd2
     clear hd2
     refine ln rfl ?_
     refine ln rfl ?_
     refine lm (v := .bool false) rfl rfl ?_
     refine lm (v := .bool false) rfl rfl ?_
     refine ln rfl ?_
     refine ln rfl ?_
     refine ln rfl ?_
     refine ln rfl ?_
     refine ln rfl ?_
     refine ln rfl ?_
     refine ln rfl ?_
     refine ln rfl ?_
     refine lm (v := .bool false) rfl rfl ?_
     refine lm (v := .bool false) rfl rfl ?_
     refine wpL_done (fun W2 hW2 => ?_)
     change Code.wp ..
     refine wp_ret ?_
     try simp only [inBlock_ret, then_ret]
     refine bodyPost_ret (v := .bool false) ?_ rfl ?_
     · kernel_rfl
     · exact ⟨(bool_is (by unfold exS; rw [(el_big (d := col0) (l := cs) h1 h2).1]; rfl)), hW2.1⟩
   | true =>
     have h2 : n < ((cs.length : Nat) : Int) := of_decide_eq_true hd2
     clear hd2
     refine lm (v := .int .i64 t0) rfl rfl ?_
     refine lp (v := .bool (!(decide (t0 < 0)))) rfl rfl (run_bin rfl (vx := (.int .i64 t0)) (vy := (.int .i64 0)) Tw.kr Tw.kr fun w => bi_geq rfl w) ?_
     refine lm (v := .bool (!(decide (t0 < 0)))) rfl rfl ?_
     refine lm (v := .bool (!(decide (t0 < 0)))) rfl rfl ?_
     cases hd3 : (decide (t0 < 0)) with
     | false =>
       have h3 : ¬ (t0 < 0) := of_decide_eq_false hd3
       clear hd3
       refine lm (v := .int .i64 t0) rfl rfl ?_
       refine lm (v := .pointer (some ⟨g1, 0, none⟩)) rfl rfl ?_
       refine lv (v := .slice pc cs.length cc) rfl rfl (yb_cell (off := 0) rfl Tw.kr Tw.m0 Try.underlying22 rfl Tw.kr) ?_
       refine lm (v := .int .i64 n) rfl rfl ?_
       obtain ⟨m, hm⟩ : ∃ m : Nat, n = (m : Int) := ⟨n.toNat, by omega⟩
       subst hm
       obtain ⟨y2, g2_, f2_, hy2, hp2, hc2⟩ := RL.at (RL.base HC.out) colC_len (by decide) (hW1.sub (fun _ h => by cases h)) (k := m) Tw.om
       refine lp (v := .pointer (some ⟨g2_, f2_ + m * 12, none⟩)) rfl rfl (run_idxQ (p := pc) (cap := cc) (n := cs.length) (j := .i64) (k := m) (sz := 12) rfl Try.underlying22 Tw.kr Tw.kr hp2 Tw.kr Tw.om) ?_
       refine lm (v := .pointer (some ⟨g2_, f2_ + m * 12 + 3, none⟩)) rfl rfl ?_
       refine lv (v := .int .i64 y2.tiers) rfl rfl (yb_rf (v := .int .i64 y2.tiers) rfl Tw.kr (fun W hW => hc2 W (hW.sub (fun _ h => by cases h)) 3 _ rfl) Try.underlying3 rfl) ?_
       refine lp (v := .bool (decide (t0 < y2.tiers))) rfl rfl (run_bin rfl (vx := (.int .i64 t0)) (vy := (.int .i64 y2.tiers)) Tw.kr Tw.kr fun w => bi_lss rfl w) ?_
       refine lm (v := .bool (decide (t0 < y2.tiers))) rfl rfl ?_
       refine lm (v := .bool (decide (t0 < y2.tiers))) rfl rfl ?_
       refine wpL_done (fun W3 hW3 => ?_)
       change Code.wp ..
       refine wp_ret ?_
       try simp only [inBlock_ret, then_ret]
       refine bodyPost_ret (v := .bool (decide (t0 < y2.tiers))) ?_ rfl ?_
       · kernel_rfl
       · exact ⟨(bool_is (by unfold exS; obtain ⟨h8, h9⟩ := el_in (d := col0) (l := cs) h1 (show cs[((m : Nat) : Int).toNat]? = some _ from hy2); rw [h8, h9]; simp [h3])), hW3.1⟩
     | true =>
       have h3 : t0 < 0 := of_decide_eq_true hd3
       clear hd3
       refine ln rfl ?_
       refine ln rfl ?_
       refine ln rfl ?_
       refine ln rfl ?_
       refine ln rfl ?_
       refine ln rfl ?_
       refine ln rfl ?_
       refine ln rfl ?_
       refine lm (v := .bool false) rfl rfl ?_
       refine lm (v := .bool false) rfl rfl ?_
       refine wpL_done (fun W4 hW4 => ?_)
       change Code.wp ..
       refine wp_ret ?_
       try simp only [inBlock_ret, then_ret]
       refine bodyPost_ret (v := .bool false) ?_ rfl ?_
       · kernel_rfl
       · exact ⟨(bool_is (by unfold exS; simp [h3])), hW4.1⟩
 | true =>
   have h1 : n < 0 := of_decide_eq_true hd1
   clear hd1
   refine ln rfl ?_
   refine ln rfl ?_
   refine ln rfl ?_
   refine ln rfl ?_
   refine ln rfl ?_
   refine lm (v := .bool false) rfl rfl ?_
   refine lm (v := .bool false) rfl rfl ?_
   refine ln rfl ?_
   refine ln rfl ?_
   refine lm (v := .bool false) rfl rfl ?_
   refine lm (v := .bool false) rfl rfl ?_
   refine ln rfl ?_
   refine ln rfl ?_
   refine ln rfl ?_
   refine ln rfl ?_
   refine ln rfl ?_
   refine ln rfl ?_
   refine ln rfl ?_
   refine ln rfl ?_
   refine lm (v := .bool false) rfl rfl ?_
   refine lm (v := .bool false) rfl rfl ?_
   refine wpL_done (fun W5 hW5 => ?_)
   change Code.wp ..
   refine wp_ret ?_
   try simp only [inBlock_ret, then_ret]
   refine bodyPost_ret (v := .bool false) ?_ rfl ?_
   · kernel_rfl
   · exact ⟨(bool_is (by unfold exS; rw [(el_neg (d := col0) (l := cs) h1).1]; rfl)), hW5.1⟩
set_option maxRecDepth 100000 in
set_option maxHeartbeats 4000000 in
theorem SRight_any (cs : List Col) (pc : Option Addr) (cc : Nat) (lc : cs.length ≤ 4000000000) (os : List Cov) (po : Option Addr) (co : Nat) (lo : os.length ≤ 4000000000) (t : Tl) (x : Slt) (z : Nat) (w : World) (hc : SLV w pc (cs.flatMap colC)) (ho : SLV w po (os.flatMap covC)) : Calls Try.prog 70 #[.agg (shC (.slice pc cs.length cc) (.slice po os.length co) t).toArray, .agg (sltC x).toArray, .int .u8 ((z : Nat) : Int)] w fun e w' => e = .returned (.bool (rightS cs x z)) ∧ Below w.heap.size w w' := by
 have HC := Lib.hid hc
 clear hc
 have HO := Lib.hid ho
 clear ho
 go_enter Try.func70, Try.ntmps70
 refine wp_seq ?_
 refine wp_region_L [] (KS.start w) ?_
 refine wpL_new (fun g => .pointer (some ⟨g, 0, none⟩)) (obi := .cells (shC (.slice pc cs.length cc) (.slice po os.length co) t).toArray 32 (0, 0)) rfl rfl Tw.kf Tw.pf fun g1 Bg1 Fg1 => ?_
 refine wpL_new (fun g => .pointer (some ⟨g, 0, none⟩)) (obi := .cells (sltC x).toArray 40 (0, 0)) rfl rfl Tw.kf Tw.pf fun g2 Bg2 Fg2 => ?_
 obtain dj3_0 : g1 ≠ g2 := Tw.dkf Fg2
 refine lm (v := .bool false) rfl rfl ?_
 refine wpL_done (fun W1 hW1 => ?_)
 change Code.wp ..
 refine wp_seq ?_
 refine wp_region_V _ Tw.kr hW1 ?_
 refine vv (i := 0) (v := .agg (shC (.slice pc cs.length cc) (.slice po os.length co) t).toArray) rfl rfl rfl (yb_load (n := 13) (off := 0) rfl Tw.kr Tw.m1 Try.underlying32 rfl Tw.kr (by first | (simp [Value.cells]; done) | exact Nat.le_of_ble_eq_true rfl) Tw.kr) ?_
 refine vm (i := 1) (v := .pointer (some ⟨g2, 0, none⟩)) rfl rfl rfl ?_
 refine vv (i := 2) (v := .int .i64 x.col) rfl rfl rfl (yb_cell (off := 0) rfl Tw.kr Tw.m0 Try.underlying3 rfl Tw.kr) ?_
 refine vm (i := 3) (v := .pointer (some ⟨g2, 1, none⟩)) rfl rfl rfl ?_
 refine vv (i := 4) (v := .int .i64 x.tier) rfl rfl rfl (yb_cell (off := 1) rfl Tw.kr Tw.m0 Try.underlying3 rfl Tw.kr) ?_
 refine vv (i := 5) (v := .bool (exS cs x.col x.tier)) rfl rfl rfl (yb_call (f := 89) (args := #[.agg (shC (.slice pc cs.length cc) (.slice po os.length co) t).toArray, .int .i64 x.col, .int .i64 x.tier]) Tw.kf fun W hW => exists_any cs pc cc Tw.om os po co Tw.om t x.col x.tier W ((RL.base HC.out) _ (hW.sub (fun _ h => by cases h))) ((RL.base HO.out) _ (hW.sub (fun _ h => by cases h)))) ?_
 refine vm (i := 6) (v := .bool (exS cs x.col x.tier)) rfl rfl rfl ?_
 cases h1 : (exS cs x.col x.tier) with
 | false =>
   refine vn (i := 7) rfl rfl ?_
   refine vn (i := 9) rfl rfl ?_
   refine vn (i := 10) rfl rfl ?_
   refine vn (i := 8) rfl rfl ?_
   refine vn (i := 11) rfl rfl ?_
   refine vm (i := 12) (v := .bool false) rfl rfl rfl ?_
   refine vm (i := 13) (v := .bool false) rfl rfl rfl ?_
   refine wpV_done Tw.kr (fun W2 hW2 => ?_) _
   change Code.wp ..
   refine wp_ret ?_
   try simp only [inBlock_ret, then_ret]
   refine bodyPost_ret (v := .bool false) ?_ rfl ?_
   · kernel_rfl
   · exact ⟨(bool_is (by unfold rightS; simp [*, hasH])), hW2.1⟩
 | true =>
   refine vm (i := 7) (v := .int .u8 ((z : Nat) : Int)) rfl rfl rfl ?_
   refine vm (i := 9) (v := .pointer (some ⟨g2, 2, none⟩)) rfl rfl rfl ?_
   refine vv (i := 10) (v := .int .u8 ((x.half : Nat) : Int)) rfl rfl rfl (yb_cell (off := 2) rfl Tw.kr Tw.m0 Try.underlying5 rfl Tw.kr) ?_
   refine wpV_c (i := 8) (OutRL u8C w [(g2, .cells (sltC x).toArray 40 (0, 0)), (g1, .cells (shC (.slice pc cs.length cc) (.slice po os.length co) t).toArray 32 (0, 0))] (hsX z)) rfl rfl Tw.kr Tw.kr Tw.kf (fun W hW => calls_r hW (halves_any z W)) (fun v K9 hG => hG.sub) Tw.pf ?_
   rintro _ _ ⟨p4, c4, Kl4, rfl, n4, R4, N4, rfl⟩
   obtain ⟨dj5_0, dj5_1⟩ : Dk g2 Kl4 ∧ Dk g1 Kl4 := Tw.djf N4
   refine vv (i := 11) (v := .bool ((fst (fun m => decide (x.half = m)) (hsX z)).isSome)) rfl rfl rfl (yb_call (f := 90) (args := #[.slice p4 ((hsX z).length) c4, .int .u8 ((x.half : Nat) : Int)]) Tw.kf fun W hW => ContainsU_any (hsX z) p4 c4 x.half (by have := hsX_len z; omega) W (R4 _ (hW.sub (fun p hp => by simp only [List.mem_cons, List.mem_append, List.nil_append, List.not_mem_nil, or_assoc, or_false, false_or, hp, true_or, or_true])))) ?_
   refine vm (i := 12) (v := .bool ((fst (fun m => decide (x.half = m)) (hsX z)).isSome)) rfl rfl rfl ?_
   refine vm (i := 13) (v := .bool ((fst (fun m => decide (x.half = m)) (hsX z)).isSome)) rfl rfl rfl ?_
   refine wpV_done Tw.kr (fun W3 hW3 => ?_) _
   change Code.wp ..
   refine wp_ret ?_
   try simp only [inBlock_ret, then_ret]
   refine bodyPost_ret (v := .bool ((fst (fun m => decide (x.half = m)) (hsX z)).isSome)) ?_ rfl ?_
   · kernel_rfl
   · exact ⟨(bool_is (by unfold rightS; simp [*, hasH])), hW3.1⟩
set_option maxRecDepth 100000 in
set_option maxHeartbeats 4000000 in
theorem Held1_any (h : Nat) (x : Slt) (l : List Slt) (p : Option Addr) (c : Nat) (g1 g2 : Nat) (hl : l.length ≤ 4000000000) (hx : -9223372036854775808 < x.tier ∧ x.tier ≤ 9223372036854775807) (w : World) (h1 : CapR w g1 [.slice p l.length c]) (h2 : CapR w g2 (sltC x)) (hp : SLV w p (l.flatMap sltC)) : Calls Try.prog 60 #[.int .u8 ((h : Nat) : Int), .pointer (some ⟨g1, 0, none⟩), .pointer (some ⟨g2, 0, none⟩)] w fun e w' => e = .returned (.bool (belowS x l h)) ∧ Below w.heap.size w w' := by
 have H1 := Lib.hid h1
 clear h1
 have H2 := Lib.hid h2
 clear h2
 have HP := Lib.hid hp
 clear hp
 go_enter Try.func60, Try.ntmps60
 refine wp_seq ?_
 refine wp_region_L [] (KS.start w) ?_
 refine lm (v := .bool false) rfl rfl ?_
 refine wpL_done (fun W1 hW1 => ?_)
 change Code.wp ..
 refine wp_seq ?_
 refine wp_region_L _ hW1 ?_
 refine lv (v := .slice p l.length c) rfl rfl (yb_rf (v := .slice p l.length c) rfl Tw.kr (fun W hW => ((H1.out).keep hW.1).2 0 _ rfl) Try.underlying56 rfl) ?_
 refine lm (v := .pointer (some ⟨g2, 0, none⟩)) rfl rfl ?_
 refine lv (v := .int .i64 x.col) rfl rfl (yb_rf (v := .int .i64 x.col) rfl Tw.kr (fun W hW => ((H2.out).keep hW.1).2 0 _ rfl) Try.underlying3 rfl) ?_
 refine lm (v := .pointer (some ⟨g2, 1, none⟩)) rfl rfl ?_
 refine lv (v := .int .i64 x.tier) rfl rfl (yb_rf (v := .int .i64 x.tier) rfl Tw.kr (fun W hW => ((H2.out).keep hW.1).2 1 _ rfl) Try.underlying3 rfl) ?_
 refine lp (v := .int .i64 (x.tier - 1)) rfl rfl (run_bin rfl (vx := (.int .i64 x.tier)) (vy := (.int .i64 1)) Tw.kr Tw.kr fun w => bi_sub (z := (x.tier - 1)) rfl (wi_i64 Tw.om) w) ?_
 refine lm (v := .int .u8 ((h : Nat) : Int)) rfl rfl ?_
 refine lm (v := .agg #[.int .i64 x.col, .int .i64 (x.tier - 1), .int .u8 ((h : Nat) : Int)]) rfl rfl ?_
 refine lv (v := .bool ((fst (eqS (⟨x.col, (x.tier - 1), h⟩ : Slt)) l).isSome)) rfl rfl (yb_call (f := 61) (args := #[.slice p l.length c, .agg #[.int .i64 x.col, .int .i64 (x.tier - 1), .int .u8 ((h : Nat) : Int)]]) Tw.kf fun W hW => ContainsS_any l p c (⟨x.col, (x.tier - 1), h⟩ : Slt) Tw.om W ((RL.base HP.out) _ (hW.sub (fun _ h => by cases h)))) ?_
 refine lm (v := .bool ((fst (eqS (⟨x.col, (x.tier - 1), h⟩ : Slt)) l).isSome)) rfl rfl ?_
 refine wpL_done (fun W2 hW2 => ?_)
 change Code.wp ..
 refine wp_ret ?_
 try simp only [inBlock_ret, then_ret]
 refine bodyPost_ret (v := .bool ((fst (eqS (⟨x.col, (x.tier - 1), h⟩ : Slt)) l).isSome)) ?_ rfl ?_
 · kernel_rfl
 · exact ⟨rfl, hW2.1⟩
set_option maxRecDepth 100000 in
set_option maxHeartbeats 4000000 in
theorem Held_any (x : Slt) (l : List Slt) (p : Option Addr) (c : Nat) (hl : l.length ≤ 4000000000) (hx : -9223372036854775808 ≤ x.tier ∧ x.tier ≤ 9223372036854775807) (w : World) (hp : SLV w p (l.flatMap sltC)) : Calls Try.prog 37 #[.agg (sltC x).toArray, .slice p l.length c] w fun e w' => e = .returned (.bool (heldS x l)) ∧ Below w.heap.size w w' := by
 have HP := Lib.hid hp
 clear hp
 go_enter Try.func37, Try.ntmps37
 refine wp_seq ?_
 refine wp_region_L [] (KS.start w) ?_
 refine wpL_new (fun g => .pointer (some ⟨g, 0, none⟩)) (obi := .cells (sltC x).toArray 40 (0, 0)) rfl rfl Tw.kf Tw.pf fun g1 Bg1 Fg1 => ?_
 refine wpL_new (fun g => .pointer (some ⟨g, 0, none⟩)) (obi := .cells #[.slice p l.length c] 56 (0, 0)) rfl rfl Tw.kf Tw.pf fun g2 Bg2 Fg2 => ?_
 obtain dj3_0 : g1 ≠ g2 := Tw.dkf Fg2
 refine lm (v := .bool false) rfl rfl ?_
 refine wpL_done (fun W1 hW1 => ?_)
 change Code.wp ..
 refine wp_seq ?_
 refine wp_seq ?_
 refine wp_region_L _ hW1 ?_
 refine lm (v := .pointer (some ⟨g1, 1, none⟩)) rfl rfl ?_
 refine lv (v := .int .i64 x.tier) rfl rfl (yb_cell (off := 1) rfl Tw.kr Tw.m1 Try.underlying3 rfl Tw.kr) ?_
 refine lp (v := .bool (!(decide (0 < x.tier)))) rfl rfl (run_bin rfl (vx := (.int .i64 x.tier)) (vy := (.int .i64 0)) Tw.kr Tw.kr fun w => bi_leq rfl w) ?_
 refine wpL_done (fun W2 hW2 => ?_)
 change Code.wp ..
 cases hd1 : (decide (0 < x.tier)) with
 | false =>
   have h1 : ¬ (0 < x.tier) := of_decide_eq_false hd1
   clear hd1
   refine wp_cond_true rfl ?_
   refine wp_seq ?_
   refine wp_region_L _ hW2 ?_
   refine lm (v := .bool true) rfl rfl ?_
   refine wpL_done (fun W3 hW3 => ?_)
   change Code.wp ..
   refine wp_ret ?_
   try simp only [inBlock_ret, then_ret]
   refine bodyPost_ret (v := .bool true) ?_ rfl ?_
   · kernel_rfl
   · exact ⟨(bool_is (by unfold heldS; rw [decide_eq_true (p := x.tier ≤ 0) Tw.om] <;> simp)), hW3.1⟩
 | true =>
   have h1 : 0 < x.tier := of_decide_eq_true hd1
   clear hd1
   refine wp_cond_false rfl ?_
   refine wp_skip ?_
   change Code.wp ..
   refine wp_seq ?_
   refine wp_region_L _ hW2 ?_
   refine lm (v := .func (.func 60) #[] #[.pointer (some ⟨g2, 0, none⟩), .pointer (some ⟨g1, 0, none⟩)]) rfl rfl ?_
   refine lm (v := .func (.func 60) #[] #[.pointer (some ⟨g2, 0, none⟩), .pointer (some ⟨g1, 0, none⟩)]) rfl rfl ?_
   refine wpL_done (fun W4 hW4 => ?_)
   change Code.wp ..
   refine wp_seq ?_
   refine wp_region_L _ hW4 ?_
   refine lm (v := .func (.func 60) #[] #[.pointer (some ⟨g2, 0, none⟩), .pointer (some ⟨g1, 0, none⟩)]) rfl rfl ?_
   refine lm (v := .pointer (some ⟨g1, 2, none⟩)) rfl rfl ?_
   refine lv (v := .int .u8 ((x.half : Nat) : Int)) rfl rfl (yb_cell (off := 2) rfl Tw.kr Tw.m1 Try.underlying5 rfl Tw.kr) ?_
   refine lv (v := .bool (belowS x l x.half)) rfl rfl (yb_call (f := 60) (args := #[.int .u8 ((x.half : Nat) : Int), .pointer (some ⟨g2, 0, none⟩), .pointer (some ⟨g1, 0, none⟩)]) Tw.kf fun W hW => Held1_any x.half x l p c g2 g1 Tw.om Tw.om W (CapR.of hW Tw.m0) (CapR.of hW Tw.m1) ((RL.base HP.out) _ (hW.sub (fun _ h => by cases h)))) ?_
   refine lm (v := .bool (belowS x l x.half)) rfl rfl ?_
   cases h2 : (belowS x l x.half) with
   | false =>
     refine lm (v := .pointer (some ⟨g1, 2, none⟩)) rfl rfl ?_
     refine lv (v := .int .u8 ((x.half : Nat) : Int)) rfl rfl (yb_cell (off := 2) rfl Tw.kr Tw.m1 Try.underlying5 rfl Tw.kr) ?_
     refine lp (v := .bool (decide (x.half = 0))) rfl rfl (run_bin rfl (vx := (.int .u8 ((x.half : Nat) : Int))) (vy := (.int .u8 ((0 : Nat) : Int))) Tw.kr Tw.kr fun w => bn_eql rfl w) ?_
     refine lm (v := .bool (decide (x.half = 0))) rfl rfl ?_
     cases hd3 : (decide (x.half = 0)) with
     | false =>
       have h3 : ¬ (x.half = 0) := of_decide_eq_false hd3
       clear hd3
       refine ln rfl ?_
       refine ln rfl ?_
       refine lm (v := .bool false) rfl rfl ?_
       refine lm (v := .bool false) rfl rfl ?_
       refine ln rfl ?_
       refine ln rfl ?_
       refine lm (v := .bool false) rfl rfl ?_
       refine lm (v := .bool false) rfl rfl ?_
       refine lm (v := .bool false) rfl rfl ?_
       refine wpL_done (fun W5 hW5 => ?_)
       change Code.wp ..
       refine wp_ret ?_
       try simp only [inBlock_ret, then_ret]
       refine bodyPost_ret (v := .bool false) ?_ rfl ?_
       · kernel_rfl
       · exact ⟨(bool_is (by unfold heldS; rw [decide_eq_false (p := x.tier ≤ 0) Tw.om, h2, decide_eq_false h3] <;> simp)), hW5.1⟩
     | true =>
       have h3 : x.half = 0 := of_decide_eq_true hd3
       clear hd3
       refine lm (v := .func (.func 60) #[] #[.pointer (some ⟨g2, 0, none⟩), .pointer (some ⟨g1, 0, none⟩)]) rfl rfl ?_
       refine lv (v := .bool (belowS x l 1)) rfl rfl (yb_call (f := 60) (args := #[.int .u8 1, .pointer (some ⟨g2, 0, none⟩), .pointer (some ⟨g1, 0, none⟩)]) Tw.kf fun W hW => Held1_any 1 x l p c g2 g1 Tw.om Tw.om W (CapR.of hW Tw.m0) (CapR.of hW Tw.m1) ((RL.base HP.out) _ (hW.sub (fun _ h => by cases h)))) ?_
       refine lm (v := .bool (belowS x l 1)) rfl rfl ?_
       refine lm (v := .bool (belowS x l 1)) rfl rfl ?_
       cases h4 : (belowS x l 1) with
       | false =>
         refine ln rfl ?_
         refine ln rfl ?_
         refine lm (v := .bool false) rfl rfl ?_
         refine lm (v := .bool false) rfl rfl ?_
         refine lm (v := .bool false) rfl rfl ?_
         refine wpL_done (fun W6 hW6 => ?_)
         change Code.wp ..
         refine wp_ret ?_
         try simp only [inBlock_ret, then_ret]
         refine bodyPost_ret (v := .bool false) ?_ rfl ?_
         · kernel_rfl
         · exact ⟨(bool_is (by unfold heldS; rw [decide_eq_false (p := x.tier ≤ 0) Tw.om, h2, decide_eq_true h3, h4] <;> simp)), hW6.1⟩
       | true =>
         refine lm (v := .func (.func 60) #[] #[.pointer (some ⟨g2, 0, none⟩), .pointer (some ⟨g1, 0, none⟩)]) rfl rfl ?_
         refine lv (v := .bool (belowS x l 2)) rfl rfl (yb_call (f := 60) (args := #[.int .u8 2, .pointer (some ⟨g2, 0, none⟩), .pointer (some ⟨g1, 0, none⟩)]) Tw.kf fun W hW => Held1_any 2 x l p c g2 g1 Tw.om Tw.om W (CapR.of hW Tw.m0) (CapR.of hW Tw.m1) ((RL.base HP.out) _ (hW.sub (fun _ h => by cases h)))) ?_
         refine lm (v := .bool (belowS x l 2)) rfl rfl ?_
         refine lm (v := .bool (belowS x l 2)) rfl rfl ?_
         refine lm (v := .bool (belowS x l 2)) rfl rfl ?_
         refine wpL_done (fun W7 hW7 => ?_)
         change Code.wp ..
         refine wp_ret ?_
         try simp only [inBlock_ret, then_ret]
         refine bodyPost_ret (v := .bool (belowS x l 2)) ?_ rfl ?_
         · kernel_rfl
         · exact ⟨(bool_is (by unfold heldS; rw [decide_eq_false (p := x.tier ≤ 0) Tw.om, h2, decide_eq_true h3, h4] <;> simp)), hW7.1⟩
   | true =>
     refine ln rfl ?_
     refine ln rfl ?_
     refine ln rfl ?_
     refine ln rfl ?_
     refine ln rfl ?_
     refine ln rfl ?_
     refine ln rfl ?_
     refine ln rfl ?_
     refine ln rfl ?_
     refine ln rfl ?_
     refine ln rfl ?_
     refine lm (v := .bool true) rfl rfl ?_
     refine lm (v := .bool true) rfl rfl ?_
     refine wpL_done (fun W8 hW8 => ?_)
     change Code.wp ..
     refine wp_ret ?_
     try simp only [inBlock_ret, then_ret]
     refine bodyPost_ret (v := .bool true) ?_ rfl ?_
     · kernel_rfl
     · exact ⟨(bool_is (by unfold heldS; rw [decide_eq_false (p := x.tier ≤ 0) Tw.om, h2] <;> simp)), hW8.1⟩
end Go.Proofs.Ytnbfljcilojllaa
namespace Go.Proofs.Ytnbfljcilojllaa
open Go Go.RowKit Tw
set_option maxRecDepth 100000 in
set_option maxHeartbeats 4000000 in
theorem pslots_any (bs : List Bo) (p : Option Addr) (c : Nat) (hl : bs.length ≤ 4000000000) (l : List Sd) (q : Option Addr) (d : Nat) (hm : l.length ≤ 4000000000) (w : World) (hp : SLV w p (bs.flatMap boC)) (hq : SLV w q (l.flatMap sdC)) : Calls Try.prog 91 #[.agg #[.slice p bs.length c, .slice q l.length d]] w fun e w' => ∃ v, e = .returned v ∧ OutV w w' 40 3 v (slotsO l).length ((slotsO l).flatMap sltC) ∧ Below w.heap.size w w' := by
 have HP := Lib.hid hp
 clear hp
 have HQ := Lib.hid hq
 clear hq
 go_enter Try.func91, Try.ntmps91
 refine wp_seq ?_
 refine wp_region_L [] (KS.start w) ?_
 refine wpL_new (fun g => .pointer (some ⟨g, 0, none⟩)) (obi := .cells #[.slice p bs.length c, .slice q l.length d] 153 (0, 0)) rfl rfl Tw.kf Tw.pf fun g1 Bg1 Fg1 => ?_
 refine lm (v := .slice none 0 0) rfl rfl ?_
 refine wpL_done (fun W1 hW1 => ?_)
 change Code.wp ..
 refine wp_seq ?_
 refine wp_region_L _ hW1 ?_
 refine lm (v := .pointer (some ⟨g1, 1, none⟩)) rfl rfl ?_
 refine lv (v := .slice q l.length d) rfl rfl (yb_cell (off := 1) rfl Tw.kr Tw.m0 Try.underlying38 rfl Tw.kr) ?_
 refine lp (v := .int .i64 ((l.length : Nat) : Int)) rfl rfl (run_lenL (p := q) (cap := d) (n := l.length) rfl Try.underlying38 Tw.kr) ?_
 refine wpL_new (fun g => .slice (some ⟨g, 0, none⟩) l.length l.length) (obi := .cells ((List.replicate l.length slt0).flatMap sltC).toArray 40 (0, 0)) rfl rfl (run_mkR slt0 (n := l.length) (sz := 3) (b := 24) rfl Try.underlying56 Tw.kr sltC_len (by decide) (by decide) (by decide) Tw.kr Tw.kr Tw.om) Tw.pf fun g2 Bg2 Fg2 => ?_
 obtain dj3_0 : g1 ≠ g2 := Tw.dkf Fg2
 refine lm (v := .slice (some ⟨g2, 0, none⟩) l.length l.length) rfl rfl ?_
 refine wpL_done (fun W2 hW2 => ?_)
 change Code.wp ..
 refine wp_seq ?_
 refine wp_seq ?_
 refine wp_region_L _ hW2 ?_
 refine lm (v := .pointer (some ⟨g1, 1, none⟩)) rfl rfl ?_
 refine lv (v := .slice q l.length d) rfl rfl (yb_cell (off := 1) rfl Tw.kr Tw.m1 Try.underlying38 rfl Tw.kr) ?_
 refine lp (v := .int .i64 ((l.length : Nat) : Int)) rfl rfl (run_lenL (p := q) (cap := d) (n := l.length) rfl Try.underlying38 Tw.kr) ?_
 refine lm (v := .int .i64 0) rfl rfl ?_
 refine wpL_done (fun W3 hW3 => ?_)
 change Code.wp ..
 refine wp_block ?_
 rw [sloM_zero l] at hW3
 go_loopw [13] (fun u13 wr => ∃ (k : Nat), (k ≤ l.length) ∧ u13 = .int .i64 ((k : Nat) : Int) ∧ KS w [(g2, .cells ((sloM l k).flatMap sltC).toArray 40 (0, 0)), (g1, .cells #[.slice p bs.length c, .slice q l.length d] 153 (0, 0))] wr) (fun u13 _ => l.length - (intOf u13).toNat)
 case atStart => exact ⟨0, (Nat.zero_le _), rfl, (hW3.sub (fun p hp => by first | exact hp | (simp only [List.mem_cons, List.mem_append, List.nil_append, List.not_mem_nil, or_assoc, or_false, false_or] at hp ⊢ <;> grind)))⟩
 case round =>
   obtain ⟨k, hk, rfl, hL4⟩ := hrel
   have hML := sloM_len hk
   refine wp_seq ?_
   refine wp_region_L _ hL4 ?_
   refine lp (v := .bool (decide (k < l.length))) rfl rfl (run_bin rfl (vx := (.int .i64 ((k : Nat) : Int))) (vy := (.int .i64 ((l.length : Nat) : Int))) Tw.kr Tw.kr fun w => bn_lss rfl w) ?_
   refine wpL_done (fun W5 hW5 => ?_)
   change Code.wp ..
   refine wp_seq ?_
   cases hd1 : (decide (k < l.length)) with
   | false =>
     have h1 : ¬ (k < l.length) := of_decide_eq_false hd1
     clear hd1
     refine wp_cond_false rfl ?_
     refine wp_exit ?_
     change Code.wp ..
     refine wp_seq ?_
     refine wp_region_L _ hW5 ?_
     refine lm (v := .slice (some ⟨g2, 0, none⟩) l.length l.length) rfl rfl ?_
     refine lm (v := .slice (some ⟨g2, 0, none⟩) l.length l.length) rfl rfl ?_
     refine wpL_done (fun W6 hW6 => ?_)
     change Code.wp ..
     refine wp_ret ?_
     try simp only [inBlock_ret, then_ret]
     refine bodyPost_ret (v := .slice (some ⟨g2, 0, none⟩) l.length l.length) ?_ rfl ?_
     · kernel_rfl
     · exact ⟨_, rfl, (by have h9 := sloM_end (l := l) (k := k) Tw.om; have h8 := slo_len l; have hb := blk_out (l := slotsO l) (E := 40) sltC_len hW6 (by rw [← h9]; exact Tw.m0) Bg2 (by rw [h8]; unfold maxLen; omega); rw [h8] at hb ⊢; exact hb), hW6.1⟩
   | true =>
     have h1 : k < l.length := of_decide_eq_true hd1
     clear hd1
     refine wp_cond_true rfl ?_
     refine wp_skip ?_
     change Code.wp ..
     refine wp_seq ?_
     refine wp_block ?_
     refine wp_seq ?_
     refine wp_region_L _ hW5 ?_
     refine lm (v := .int .i64 ((k : Nat) : Int)) rfl rfl ?_
     obtain ⟨y4, g4_, f4_, hy4, hp4, hc4⟩ := RL.at (RL.base HQ.out) sdC_len (by decide) (hW5.sub (fun _ h => by cases h)) (k := k) Tw.om
     refine lp (v := .pointer (some ⟨g4_, f4_ + k * 4, none⟩)) rfl rfl (run_idxQ (p := q) (cap := d) (n := l.length) (j := .i64) (k := k) (sz := 4) rfl Try.underlying38 Tw.kr Tw.kr hp4 Tw.kr Tw.om) ?_
     refine lv (v := .agg (sdC y4).toArray) rfl rfl (yb_rs (off := f4_ + k * 4) (cs := sdC y4) rfl Tw.kr (fun W hW => hc4 W (hW.sub (fun _ h => by cases h))) Try.underlying42 rfl Tw.kr) ?_
     refine wpL_new (fun g => .pointer (some ⟨g, 0, none⟩)) (obi := .cells #[.int .i64 0, .int .i64 0, .int .i64 0, .int .u8 0] 42 (0, 0)) rfl rfl Tw.kf Tw.pf fun g5 Bg5 Fg5 => ?_
     obtain ⟨dj6_0, dj6_1⟩ : g2 ≠ g5 ∧ g1 ≠ g5 := Tw.dkf Fg5
     refine lm (v := .int .i64 ((k : Nat) : Int)) rfl rfl ?_
     refine wpL_s [(g5, .cells (sdC y4).toArray 42 (0, 0)), (g2, .cells ((sloM l k).flatMap sltC).toArray 40 (0, 0)), (g1, .cells #[.slice p bs.length c, .slice q l.length d] 153 (0, 0))] rfl rfl (st_row (off := 0) (v := .agg (sdC y4).toArray) rfl Tw.kr Tw.kr Tw.m0 Bg5 Tw.kr (by first | (simp [Value.cells]; done) | exact Nat.le_of_ble_eq_true rfl) (fun v hv => sdC_one y4 v hv) Tw.kr (List.forall_mem_cons.2 ⟨.inl rfl, (List.forall_mem_cons.2 ⟨.inr ⟨Tw.m1, Tw.nee⟩, (List.forall_mem_cons.2 ⟨.inr ⟨Tw.m2, Tw.nee⟩, (List.forall_mem_nil _)⟩)⟩)⟩)) ?_
     refine wpL_done (fun W7 hW7 => ?_)
     change Code.wp ..
     refine wp_region_L _ hW7 ?_
     refine lm (v := .slice (some ⟨g2, 0, none⟩) l.length l.length) rfl rfl ?_
     refine lm (v := .int .i64 ((k : Nat) : Int)) rfl rfl ?_
     refine lm (v := .pointer (some ⟨g5, 1, none⟩)) rfl rfl ?_
     refine lv (v := .agg (sltC y4.slot).toArray) rfl rfl (yb_load (n := 3) (off := 1) rfl Tw.kr Tw.m0 Try.underlying40 rfl Tw.kr (by first | (simp [Value.cells]; done) | exact Nat.le_of_ble_eq_true rfl) Tw.kr) ?_
     refine lp (v := .pointer (some ⟨g2, 0 + k * 3, none⟩)) rfl rfl (run_idxL (j := .i64) (n := l.length) (cap := l.length) (b := g2) (off := 0) (k := k) (sz := 3) rfl Try.underlying56 Tw.kr Tw.kr Tw.kr Tw.om) ?_
     have hst := sloM_set hy4
     refine wpL_s [(g5, .cells (sdC y4).toArray 42 (0, 0)), (g2, .cells (((sloM l k).set k y4.slot).flatMap sltC).toArray 40 (0, 0)), (g1, .cells #[.slice p bs.length c, .slice q l.length d] 153 (0, 0))] rfl rfl (st_recR y4.slot (k := k) rfl Tw.kr Tw.kr Tw.m1 Bg2 Tw.kr sltC_len (sltC_one _) Tw.om (List.forall_mem_cons.2 ⟨.inr ⟨Tw.m0, Tw.nee⟩, (List.forall_mem_cons.2 ⟨.inl rfl, (List.forall_mem_cons.2 ⟨.inr ⟨Tw.m2, Tw.nee⟩, (List.forall_mem_nil _)⟩)⟩)⟩)) ?_
     refine wpL_done (fun W8 hW8 => ?_)
     change Code.wp ..
     refine wp_region_L _ hW8 ?_
     refine lp (v := .int .i64 (((k + 1) : Nat) : Int)) rfl rfl (run_bin rfl (vx := (.int .i64 ((k : Nat) : Int))) (vy := (.int .i64 ((1 : Nat) : Int))) Tw.kr Tw.kr fun w => bn_add (z := (k + 1)) rfl (wr_i64 Tw.om) w) ?_
     refine lm (v := .int .i64 (((k + 1) : Nat) : Int)) rfl rfl ?_
     refine wpL_done (fun W9 hW9 => ?_)
     go_roundw
     case rel =>
       repeat apply Exists.intro
       exact ⟨⟨k + 1, Tw.om, rfl, (hW9.sub (fun p hp => by first | exact hp | (simp only [List.mem_cons, List.mem_append, List.nil_append, List.not_mem_nil, or_assoc, or_false, false_or] at hp ⊢ <;> grind)))⟩, rfl⟩
     case measure => (show l.length - (intOf (.int .i64 (((k + 1) : Nat) : Int))).toNat < l.length - (intOf (.int .i64 ((k : Nat) : Int))).toNat); simp only [intOf]; omega
set_option maxRecDepth 100000 in
set_option maxHeartbeats 4000000 in
theorem meets1_any (y x : Slt) (g1 : Nat) (w : World) (h1 : CapR w g1 (sltC x)) : Calls Try.prog 108 #[.agg (sltC y).toArray, .pointer (some ⟨g1, 0, none⟩)] w fun e w' => e = .returned (.bool (meetS x y)) ∧ Below w.heap.size w w' := by
 have H1 := Lib.hid h1
 clear h1
 go_enter Try.func108, Try.ntmps108
 refine wp_seq ?_
 refine wp_region_L [] (KS.start w) ?_
 refine wpL_new (fun g => .pointer (some ⟨g, 0, none⟩)) (obi := .cells (sltC y).toArray 40 (0, 0)) rfl rfl Tw.kf Tw.pf fun g21 Bg21 Fg21 => ?_
 refine lm (v := .bool false) rfl rfl ?_
 refine wpL_done (fun W1 hW1 => ?_)
 change Code.wp ..
 refine wp_seq ?_
 refine wp_region_L _ hW1 ?_
 refine lv (v := .agg (sltC x).toArray) rfl rfl (yb_rs (off := 0) (cs := _) rfl Tw.kr (fun W hW => ((H1.out).keep hW.1).2) Try.underlying40 rfl Tw.kr) ?_
 refine lv (v := .agg (sltC y).toArray) rfl rfl (yb_load (n := 3) (off := 0) rfl Tw.kr Tw.m0 Try.underlying40 rfl Tw.kr (by first | (simp [Value.cells]; done) | exact Nat.le_of_ble_eq_true rfl) Tw.kr) ?_
 refine lv (v := .bool (meetS x y)) rfl rfl (yb_call (f := 38) (args := #[.agg (sltC x).toArray, .agg (sltC y).toArray]) Tw.kf fun W hW => Meet_any x y W) ?_
 refine lm (v := .bool (meetS x y)) rfl rfl ?_
 refine wpL_done (fun W2 hW2 => ?_)
 change Code.wp ..
 refine wp_ret ?_
 try simp only [inBlock_ret, then_ret]
 refine bodyPost_ret (v := .bool (meetS x y)) ?_ rfl ?_
 · kernel_rfl
 · exact ⟨rfl, hW2.1⟩
set_option maxRecDepth 100000 in
set_option maxHeartbeats 4000000 in
theorem IndexFunc_sl (l : List Slt) (p : Option Addr) (c : Nat) (hl : l.length ≤ 4000000000) (fv : FuncId) (caps : Array Value) (P : Slt → Bool) (A : Slt → Array Value) (hA : ∀ y, A y = #[.agg (sltC y).toArray] ++ caps) (hcf : ∀ args w, (callFunc fv args).run Try.prog w = .ok (.enter fv args) w) (w : World) (hp : SLV w p (l.flatMap sltC)) (hf : ∀ W, Below w.heap.size w W → ∀ y ∈ l, Calls Try.prog fv (A y) W fun e w' => e = .returned (.bool (P y)) ∧ Below W.heap.size W w') : Calls Try.prog 113 #[.slice p l.length c, .func (.func fv) #[] caps] w fun e w' => e = .returned (.int .i64 (fiN (fst P l))) ∧ Below w.heap.size w w' := by
 have HP := Lib.hid hp
 clear hp
 go_enter Try.func113, Try.ntmps113
 refine wp_seq ?_
 refine wp_region_L [] (KS.start w) ?_
 refine lm (v := .int .i64 0) rfl rfl ?_
 refine wpL_done (fun W1 hW1 => ?_)
 change Code.wp ..
 refine wp_seq ?_
 refine wp_seq ?_
 refine wp_region_L _ hW1 ?_
 refine lm (v := .slice p l.length c) rfl rfl ?_
 refine lp (v := .int .i64 ((l.length : Nat) : Int)) rfl rfl (run_lenL (p := p) (cap := c) (n := l.length) rfl Try.underlying56 Tw.kr) ?_
 refine lm (v := .int .i64 0) rfl rfl ?_
 refine wpL_done (fun W2 hW2 => ?_)
 change Code.wp ..
 refine wp_block ?_
 go_loopw [8] (fun u8 wr => ∃ (k : Nat), (k ≤ l.length) ∧ (fstF P 0 (l.take k) = none) ∧ u8 = .int .i64 ((k : Nat) : Int) ∧ KS w [] wr) (fun u8 _ => l.length - (intOf u8).toNat)
 case atStart => exact ⟨0, (Nat.zero_le _), fst_zero, rfl, (hW2.sub (fun p hp => by first | exact hp | (simp only [List.mem_cons, List.mem_append, List.nil_append, List.not_mem_nil, or_assoc, or_false, false_or] at hp ⊢ <;> grind)))⟩
 case round =>
   obtain ⟨k, hk, hF, rfl, hL3⟩ := hrel
   refine wp_seq ?_
   refine wp_region_L _ hL3 ?_
   refine lp (v := .bool (decide (k < l.length))) rfl rfl (run_bin rfl (vx := (.int .i64 ((k : Nat) : Int))) (vy := (.int .i64 ((l.length : Nat) : Int))) Tw.kr Tw.kr fun w => bn_lss rfl w) ?_
   refine wpL_done (fun W4 hW4 => ?_)
   change Code.wp ..
   refine wp_seq ?_
   cases hd1 : (decide (k < l.length)) with
   | false =>
     have h1 : ¬ (k < l.length) := of_decide_eq_false hd1
     clear hd1
     refine wp_cond_false rfl ?_
     refine wp_exit ?_
     change Code.wp ..
     refine wp_seq ?_
     refine wp_region_L _ hW4 ?_
     refine lm (v := .int .i64 (-1)) rfl rfl ?_
     refine wpL_done (fun W5 hW5 => ?_)
     change Code.wp ..
     refine wp_ret ?_
     try simp only [inBlock_ret, then_ret]
     refine bodyPost_ret (v := .int .i64 (-1)) ?_ rfl ?_
     · kernel_rfl
     · exact ⟨(int_is (by rw [fst_end hF h1]; rfl)), hW5.1⟩
   | true =>
     have h1 : k < l.length := of_decide_eq_true hd1
     clear hd1
     refine wp_cond_true rfl ?_
     refine wp_skip ?_
     change Code.wp ..
     refine wp_seq ?_
     refine wp_block ?_
     refine wp_seq ?_
     refine wp_region_L _ hW4 ?_
     refine lm (v := .int .i64 ((k : Nat) : Int)) rfl rfl ?_
     refine lm (v := .int .i64 ((k : Nat) : Int)) rfl rfl ?_
     refine wpL_done (fun W6 hW6 => ?_)
     change Code.wp ..
     refine wp_seq ?_
     refine wp_region_L _ hW6 ?_
     refine lm (v := .func (.func fv) #[] caps) rfl rfl ?_
     refine lm (v := .slice p l.length c) rfl rfl ?_
     refine lm (v := .int .i64 ((k : Nat) : Int)) rfl rfl ?_
     obtain ⟨y1, g1_, f1_, hy1, hp1, hc1⟩ := RL.at (RL.base HP.out) sltC_len (by decide) (hW6.sub (fun _ h => by cases h)) (k := k) Tw.om
     refine lp (v := .pointer (some ⟨g1_, f1_ + k * 3, none⟩)) rfl rfl (run_idxQ (p := p) (cap := c) (n := l.length) (j := .i64) (k := k) (sz := 3) rfl Try.underlying56 Tw.kr Tw.kr hp1 Tw.kr Tw.om) ?_
     refine lv (v := .agg (sltC y1).toArray) rfl rfl (yb_rs (off := f1_ + k * 3) (cs := sltC y1) rfl Tw.kr (fun W hW => hc1 W (hW.sub (fun _ h => by cases h))) Try.underlying40 rfl Tw.kr) ?_
     refine lv (v := .bool (P y1)) rfl rfl (yb_call (f := fv) (args := A y1) (fun w => (run_callv rfl Tw.kr Tw.kr hcf w).trans (by rw [← hA])) fun W hW => hf W hW.1 y1 (List.mem_of_getElem? hy1)) ?_
     refine wpL_done (fun W7 hW7 => ?_)
     change Code.wp ..
     cases h2 : (P y1) with
     | false =>
       refine wp_cond_false rfl ?_
       refine wp_skip ?_
       change Code.wp ..
       refine wp_region_L _ hW7 ?_
       refine lp (v := .int .i64 (((k + 1) : Nat) : Int)) rfl rfl (run_bin rfl (vx := (.int .i64 ((k : Nat) : Int))) (vy := (.int .i64 ((1 : Nat) : Int))) Tw.kr Tw.kr fun w => bn_add (z := (k + 1)) rfl (wr_i64 Tw.om) w) ?_
       refine lm (v := .int .i64 (((k + 1) : Nat) : Int)) rfl rfl ?_
       refine wpL_done (fun W8 hW8 => ?_)
       go_roundw
       case rel =>
         repeat apply Exists.intro
         exact ⟨⟨k + 1, Tw.om, (fst_next hF hy1 h2), rfl, (hW8.sub (fun p hp => by first | exact hp | (simp only [List.mem_cons, List.mem_append, List.nil_append, List.not_mem_nil, or_assoc, or_false, false_or] at hp ⊢ <;> grind)))⟩, rfl⟩
       case measure => (show l.length - (intOf (.int .i64 (((k + 1) : Nat) : Int))).toNat < l.length - (intOf (.int .i64 ((k : Nat) : Int))).toNat); simp only [intOf]; omega
     | true =>
       refine wp_cond_true rfl ?_
       refine wp_seq ?_
       refine wp_region_L _ hW7 ?_
       refine lm (v := .int .i64 ((k : Nat) : Int)) rfl rfl ?_
       refine lm (v := .int .i64 ((k : Nat) : Int)) rfl rfl ?_
       refine wpL_done (fun W9 hW9 => ?_)
       change Code.wp ..
       refine wp_ret ?_
       try simp only [inBlock_ret, then_ret]
       refine bodyPost_ret (v := .int .i64 ((k : Nat) : Int)) ?_ rfl ?_
       · kernel_rfl
       · exact ⟨(int_is (by rw [fst_here hF hy1 h2]; rfl)), hW9.1⟩
set_option maxRecDepth 100000 in
set_option maxHeartbeats 4000000 in
theorem ContainsFunc_sl (l : List Slt) (p : Option Addr) (c : Nat) (hl : l.length ≤ 4000000000) (fv : FuncId) (caps : Array Value) (P : Slt → Bool) (A : Slt → Array Value) (hA : ∀ y, A y = #[.agg (sltC y).toArray] ++ caps) (hcf : ∀ args w, (callFunc fv args).run Try.prog w = .ok (.enter fv args) w) (w : World) (hp : SLV w p (l.flatMap sltC)) (hf : ∀ W, Below w.heap.size w W → ∀ y ∈ l, Calls Try.prog fv (A y) W fun e w' => e = .returned (.bool (P y)) ∧ Below W.heap.size W w') : Calls Try.prog 107 #[.slice p l.length c, .func (.func fv) #[] caps] w fun e w' => e = .returned (.bool (fst P l).isSome) ∧ Below w.heap.size w w' := by
 have HP := Lib.hid hp
 clear hp
 go_enter Try.func107, Try.ntmps107
 refine wp_seq ?_
 refine wp_region_L [] (KS.start w) ?_
 refine lm (v := .bool false) rfl rfl ?_
 refine wpL_done (fun W1 hW1 => ?_)
 change Code.wp ..
 refine wp_seq ?_
 refine wp_region_L _ hW1 ?_
 refine lm (v := .slice p l.length c) rfl rfl ?_
 refine lm (v := .func (.func fv) #[] caps) rfl rfl ?_
 refine lv (v := .int .i64 (fiN (fst P l))) rfl rfl (yb_call (f := 113) (args := #[.slice p l.length c, .func (.func fv) #[] caps]) Tw.kf fun W hW => IndexFunc_sl l p c hl fv caps P A hA hcf W ((RL.base HP.out) _ (hW.sub (fun _ h => by cases h))) (fun W2 hb2 y hm => hf W2 (hW.1.trans (hb2.mono (hW.1).size)) y hm)) ?_
 refine lp (v := .bool (!(decide ((fiN (fst P l)) < 0)))) rfl rfl (run_bin rfl (vx := (.int .i64 (fiN (fst P l)))) (vy := (.int .i64 0)) Tw.kr Tw.kr fun w => bi_geq rfl w) ?_
 refine lm (v := .bool (!(decide ((fiN (fst P l)) < 0)))) rfl rfl ?_
 refine wpL_done (fun W2 hW2 => ?_)
 change Code.wp ..
 refine wp_ret ?_
 try simp only [inBlock_ret, then_ret]
 refine bodyPost_ret (v := .bool (!(decide ((fiN (fst P l)) < 0)))) ?_ rfl ?_
 · kernel_rfl
 · exact ⟨(bool_is (fi_ge _)), hW2.1⟩
set_option maxRecDepth 100000 in
set_option maxHeartbeats 4000000 in
theorem meets_any (l : List Slt) (p : Option Addr) (c : Nat) (hl : l.length ≤ 4000000000) (x : Slt) (w : World) (hp : SLV w p (l.flatMap sltC)) : Calls Try.prog 92 #[.slice p l.length c, .agg (sltC x).toArray] w fun e w' => e = .returned (.bool (meetsX l x)) ∧ Below w.heap.size w w' := by
 have HP := Lib.hid hp
 clear hp
 go_enter Try.func92, Try.ntmps92
 refine wp_seq ?_
 refine wp_region_L [] (KS.start w) ?_
 refine wpL_new (fun g => .pointer (some ⟨g, 0, none⟩)) (obi := .cells (sltC x).toArray 40 (0, 0)) rfl rfl Tw.kf Tw.pf fun g1 Bg1 Fg1 => ?_
 refine lm (v := .bool false) rfl rfl ?_
 refine wpL_done (fun W1 hW1 => ?_)
 change Code.wp ..
 refine wp_seq ?_
 refine wp_region_L _ hW1 ?_
 refine lm (v := .slice p l.length c) rfl rfl ?_
 refine lm (v := .func (.func 108) #[] #[.pointer (some ⟨g1, 0, none⟩)]) rfl rfl ?_
 refine lv (v := .bool ((fst (meetS x) l).isSome)) rfl rfl (yb_call (f := 107) (args := #[.slice p l.length c, .func (.func 108) #[] #[.pointer (some ⟨g1, 0, none⟩)]]) Tw.kf fun W hW => ContainsFunc_sl l p c Tw.om 108 #[.pointer (some ⟨g1, 0, none⟩)] (meetS x) (fun y => #[.agg (sltC y).toArray, .pointer (some ⟨g1, 0, none⟩)]) Tw.kf (fun _ _ => by kernel_rfl) W ((RL.base HP.out) _ (hW.sub (fun _ h => by cases h))) (fun W2 hb y hm => meets1_any y x g1 W2 ((CapR.of hW Tw.m0).keep hb))) ?_
 refine lm (v := .bool ((fst (meetS x) l).isSome)) rfl rfl ?_
 refine wpL_done (fun W2 hW2 => ?_)
 change Code.wp ..
 refine wp_ret ?_
 try simp only [inBlock_ret, then_ret]
 refine bodyPost_ret (v := .bool ((fst (meetS x) l).isSome)) ?_ rfl ?_
 · kernel_rfl
 · exact ⟨rfl, hW2.1⟩
set_option maxRecDepth 100000 in
set_option maxHeartbeats 4000000 in
theorem pabove_any (bs : List Bo) (p : Option Addr) (c : Nat) (hl : bs.length ≤ 4000000000) (l : List Sd) (q : Option Addr) (d : Nat) (hm : l.length ≤ 4000000000) (lim : Int) (w : World) (hp : SLV w p (bs.flatMap boC)) (hq : SLV w q (l.flatMap sdC)) : Calls Try.prog 93 #[.agg #[.slice p bs.length c, .slice q l.length d], .int .i64 lim] w fun e w' => e = .returned (.bool (pileHigh bs l lim)) ∧ Below w.heap.size w w' := by
 have HP := Lib.hid hp
 clear hp
 have HQ := Lib.hid hq
 clear hq
 go_enter Try.func93, Try.ntmps93
 refine wp_seq ?_
 refine wp_region_L [] (KS.start w) ?_
 refine wpL_new (fun g => .pointer (some ⟨g, 0, none⟩)) (obi := .cells #[.slice p bs.length c, .slice q l.length d] 153 (0, 0)) rfl rfl Tw.kf Tw.pf fun g1 Bg1 Fg1 => ?_
 refine lm (v := .bool false) rfl rfl ?_
 refine wpL_done (fun W1 hW1 => ?_)
 change Code.wp ..
 refine wp_seq ?_
 refine wp_seq ?_
 refine wp_region_L _ hW1 ?_
 refine lm (v := .int .i64 lim) rfl rfl ?_
 refine lp (v := .bool (!(decide (0 < lim)))) rfl rfl (run_bin rfl (vx := (.int .i64 lim)) (vy := (.int .i64 0)) Tw.kr Tw.kr fun w => bi_leq rfl w) ?_
 refine lm (v := .bool (!(decide (0 < lim)))) rfl rfl ?_
 cases hd1 : (decide (0 < lim)) with
 | false =>
   have h1 : ¬ (0 < lim) := of_decide_eq_false hd1
   clear hd1
   refine ln rfl ?_
   refine ln rfl ?_
   refine ln rfl ?_
   refine ln rfl ?_
   refine lm (v := .bool true) rfl rfl ?_
   refine wpL_done (fun W2 hW2 => ?_)
   change Code.wp ..
   refine wp_cond_true rfl ?_
   refine wp_seq ?_
   refine wp_region_L _ hW2 ?_
   refine lm (v := .bool false) rfl rfl ?_
   refine wpL_done (fun W3 hW3 => ?_)
   change Code.wp ..
   refine wp_ret ?_
   try simp only [inBlock_ret, then_ret]
   refine bodyPost_ret (v := .bool false) ?_ rfl ?_
   · kernel_rfl
   · exact ⟨(bool_is (by rw [high_le Tw.om])), hW3.1⟩
 | true =>
   have h1 : 0 < lim := of_decide_eq_true hd1
   clear hd1
   refine lm (v := .pointer (some ⟨g1, 1, none⟩)) rfl rfl ?_
   refine lv (v := .slice q l.length d) rfl rfl (yb_cell (off := 1) rfl Tw.kr Tw.m0 Try.underlying38 rfl Tw.kr) ?_
   refine lp (v := .int .i64 ((l.length : Nat) : Int)) rfl rfl (run_lenL (p := q) (cap := d) (n := l.length) rfl Try.underlying38 Tw.kr) ?_
   refine lp (v := .bool (decide (l.length = 0))) rfl rfl (run_bin rfl (vx := (.int .i64 ((l.length : Nat) : Int))) (vy := (.int .i64 ((0 : Nat) : Int))) Tw.kr Tw.kr fun w => bn_eql rfl w) ?_
   refine lm (v := .bool (decide (l.length = 0))) rfl rfl ?_
   refine wpL_done (fun W4 hW4 => ?_)
   change Code.wp ..
   cases hd2 : (decide (l.length = 0)) with
   | false =>
     have h2 : ¬ (l.length = 0) := of_decide_eq_false hd2
     clear hd2
     refine wp_cond_false rfl ?_
     refine wp_skip ?_
     change Code.wp ..
     refine wp_seq ?_
     refine wp_region_L _ hW4 ?_
     refine lm (v := .pointer (some ⟨g1, 1, none⟩)) rfl rfl ?_
     refine lv (v := .slice q l.length d) rfl rfl (yb_cell (off := 1) rfl Tw.kr Tw.m0 Try.underlying38 rfl Tw.kr) ?_
     obtain ⟨y2, g2_, f2_, hy2, hp2, hc2⟩ := RL.at (RL.base HQ.out) sdC_len (by decide) (hW4.sub (fun _ h => by cases h)) (k := 0) Tw.om
     refine lp (v := .pointer (some ⟨g2_, f2_ + 0 * 4, none⟩)) rfl rfl (run_idxQ (p := q) (cap := d) (n := l.length) (j := .i64) (k := 0) (sz := 4) rfl Try.underlying38 Tw.kr Tw.kr hp2 Tw.kr Tw.om) ?_
     refine lm (v := .pointer (some ⟨g2_, f2_ + 0 * 4 + 1, none⟩)) rfl rfl ?_
     refine lm (v := .pointer (some ⟨g2_, f2_ + 0 * 4 + 1, none⟩)) rfl rfl ?_
     refine lv (v := .int .i64 y2.slot.col) rfl rfl (yb_rf (v := .int .i64 y2.slot.col) rfl Tw.kr (fun W hW => hc2 W (hW.sub (fun _ h => by cases h)) 1 _ rfl) Try.underlying3 rfl) ?_
     refine lm (v := .int .i64 y2.slot.col) rfl rfl ?_
     refine wpL_done (fun W5 hW5 => ?_)
     change Code.wp ..
     refine wp_seq ?_
     refine wp_region_V _ Tw.kr hW5 ?_
     refine vm (i := 0) (v := .pointer (some ⟨g1, 0, none⟩)) rfl rfl rfl ?_
     refine vv (i := 1) (v := .slice p bs.length c) rfl rfl rfl (yb_cell (off := 0) rfl Tw.kr Tw.m0 Try.underlying33 rfl Tw.kr) ?_
     refine vm (i := 2) (v := .pointer (some ⟨g1, 1, none⟩)) rfl rfl rfl ?_
     refine vv (i := 3) (v := .slice q l.length d) rfl rfl rfl (yb_cell (off := 1) rfl Tw.kr Tw.m0 Try.underlying38 rfl Tw.kr) ?_
     refine vm (i := 4) (v := .int .i64 y2.slot.col) rfl rfl rfl ?_
     refine vv (i := 5) (v := .int .i64 (((heightX bs l y2.slot.col 1) : Nat) : Int)) rfl rfl rfl (yb_call (f := 109) (args := #[.slice p bs.length c, .slice q l.length d, .int .i64 y2.slot.col, .int .u8 1]) Tw.kf fun W hW => Height_any bs p c Tw.om l q d Tw.om y2.slot.col 1 W ((RL.base HP.out) _ (hW.sub (fun _ h => by cases h))) ((RL.base HQ.out) _ (hW.sub (fun _ h => by cases h)))) ?_
     refine vm (i := 6) (v := .pointer (some ⟨g1, 0, none⟩)) rfl rfl rfl ?_
     refine vv (i := 7) (v := .slice p bs.length c) rfl rfl rfl (yb_cell (off := 0) rfl Tw.kr Tw.m0 Try.underlying33 rfl Tw.kr) ?_
     refine vm (i := 8) (v := .pointer (some ⟨g1, 1, none⟩)) rfl rfl rfl ?_
     refine vv (i := 9) (v := .slice q l.length d) rfl rfl rfl (yb_cell (off := 1) rfl Tw.kr Tw.m0 Try.underlying38 rfl Tw.kr) ?_
     refine vm (i := 10) (v := .int .i64 y2.slot.col) rfl rfl rfl ?_
     refine vv (i := 11) (v := .int .i64 (((heightX bs l y2.slot.col 2) : Nat) : Int)) rfl rfl rfl (yb_call (f := 109) (args := #[.slice p bs.length c, .slice q l.length d, .int .i64 y2.slot.col, .int .u8 2]) Tw.kf fun W hW => Height_any bs p c Tw.om l q d Tw.om y2.slot.col 2 W ((RL.base HP.out) _ (hW.sub (fun _ h => by cases h))) ((RL.base HQ.out) _ (hW.sub (fun _ h => by cases h)))) ?_
     refine vp (i := 12) (v := .int .i64 (max (((heightX bs l y2.slot.col 1) : Nat) : Int) (((heightX bs l y2.slot.col 2) : Nat) : Int))) rfl rfl rfl (run_max2 (x := (((heightX bs l y2.slot.col 1) : Nat) : Int)) (y := (((heightX bs l y2.slot.col 2) : Nat) : Int)) (z := (max (((heightX bs l y2.slot.col 1) : Nat) : Int) (((heightX bs l y2.slot.col 2) : Nat) : Int))) rfl Tw.kr Tw.kr rfl) ?_
     refine vm (i := 13) (v := .int .i64 lim) rfl rfl rfl ?_
     refine vp (i := 14) (v := .bool (decide (lim < (max (((heightX bs l y2.slot.col 1) : Nat) : Int) (((heightX bs l y2.slot.col 2) : Nat) : Int))))) rfl rfl rfl (run_bin rfl (vx := (.int .i64 (max (((heightX bs l y2.slot.col 1) : Nat) : Int) (((heightX bs l y2.slot.col 2) : Nat) : Int)))) (vy := (.int .i64 lim)) Tw.kr Tw.kr fun w => bi_gtr rfl w) ?_
     refine vm (i := 15) (v := .bool (decide (lim < (max (((heightX bs l y2.slot.col 1) : Nat) : Int) (((heightX bs l y2.slot.col 2) : Nat) : Int))))) rfl rfl rfl ?_
     refine wpV_done Tw.kr (fun W6 hW6 => ?_) _
     change Code.wp ..
     refine wp_ret ?_
     try simp only [inBlock_ret, then_ret]
     refine bodyPost_ret (v := .bool (decide (lim < (max (((heightX bs l y2.slot.col 1) : Nat) : Int) (((heightX bs l y2.slot.col 2) : Nat) : Int))))) ?_ rfl ?_
     · kernel_rfl
     · exact ⟨(bool_is (by rw [high_is Tw.om hy2])), hW6.1⟩
   | true =>
     have h2 : l.length = 0 := of_decide_eq_true hd2
     clear hd2
     refine wp_cond_true rfl ?_
     refine wp_seq ?_
     refine wp_region_L _ hW4 ?_
     refine lm (v := .bool false) rfl rfl ?_
     refine wpL_done (fun W7 hW7 => ?_)
     change Code.wp ..
     refine wp_ret ?_
     try simp only [inBlock_ret, then_ret]
     refine bodyPost_ret (v := .bool false) ?_ rfl ?_
     · kernel_rfl
     · exact ⟨(bool_is (by rw [high_nil h2])), hW7.1⟩
set_option maxRecDepth 100000 in
set_option maxHeartbeats 4000000 in
theorem stands_any (bs : List Bo) (p : Option Addr) (c : Nat) (hl : bs.length ≤ 4000000000) (l : List Sd) (q : Option Addr) (d : Nat) (hm : l.length ≤ 4000000000) (hT : ∀ x ∈ l, -9223372036854775808 ≤ x.slot.tier ∧ x.slot.tier ≤ 9223372036854775807) (co : Col) (w : World) (hp : SLV w p (bs.flatMap boC)) (hq : SLV w q (l.flatMap sdC)) : Calls Try.prog 71 #[.agg #[.slice p bs.length c, .slice q l.length d], .agg (colC co).toArray] w fun e w' => e = .returned (.bool (standX bs l co.height)) ∧ Below w.heap.size w w' := by
 have HP := Lib.hid hp
 clear hp
 have HQ := Lib.hid hq
 clear hq
 have hSl := slo_len l
 have hTb : ∀ y ∈ slotsO l, -9223372036854775808 ≤ y.tier ∧ y.tier ≤ 9223372036854775807 := fun y hy => by obtain ⟨x, hx, rfl⟩ := List.mem_map.1 hy; exact hT x hx
 go_enter Try.func71, Try.ntmps71
 refine wp_seq ?_
 refine wp_region_L [] (KS.start w) ?_
 refine wpL_new (fun g => .pointer (some ⟨g, 0, none⟩)) (obi := .cells #[.slice p bs.length c, .slice q l.length d] 153 (0, 0)) rfl rfl Tw.kf Tw.pf fun g1 Bg1 Fg1 => ?_
 refine wpL_new (fun g => .pointer (some ⟨g, 0, none⟩)) (obi := .cells (colC co).toArray 46 (0, 0)) rfl rfl Tw.kf Tw.pf fun g2 Bg2 Fg2 => ?_
 obtain dj3_0 : g1 ≠ g2 := Tw.dkf Fg2
 refine lm (v := .bool false) rfl rfl ?_
 refine wpL_done (fun W1 hW1 => ?_)
 change Code.wp ..
 refine wp_seq ?_
 refine wp_region_L _ hW1 ?_
 refine lv (v := .agg #[.slice p bs.length c, .slice q l.length d]) rfl rfl (yb_load (n := 2) (off := 0) rfl Tw.kr Tw.m1 Try.underlying153 rfl Tw.kr (by first | (simp [Value.cells]; done) | exact Nat.le_of_ble_eq_true rfl) Tw.kr) ?_
 refine wpL_c (f := 91) (args := #[.agg #[.slice p bs.length c, .slice q l.length d]]) (OutRL sltC w [(g2, .cells (colC co).toArray 46 (0, 0)), (g1, .cells #[.slice p bs.length c, .slice q l.length d] 153 (0, 0))] (slotsO l)) rfl Tw.kr Tw.kf (fun W hW => calls_r hW (pslots_any bs p c Tw.om l q d Tw.om W ((RL.base HP.out) _ (hW.sub (fun _ h => by cases h))) ((RL.base HQ.out) _ (hW.sub (fun _ h => by cases h))))) Tw.pf ?_
 rintro _ _ ⟨p4, c4, Kl4, rfl, n4, R4, N4, rfl⟩
 obtain ⟨dj5_0, dj5_1⟩ : Dk g2 Kl4 ∧ Dk g1 Kl4 := Tw.djf N4
 refine lm (v := .slice p4 ((slotsO l).length) c4) rfl rfl ?_
 refine wpL_done (fun W2 hW2 => ?_)
 change Code.wp ..
 refine wp_seq ?_
 refine wp_seq ?_
 refine wp_region_L _ hW2 ?_
 refine lm (v := .slice p4 ((slotsO l).length) c4) rfl rfl ?_
 refine lp (v := .int .i64 ((((slotsO l).length) : Nat) : Int)) rfl rfl (run_lenL (p := p4) (cap := c4) (n := (slotsO l).length) rfl Try.underlying56 Tw.kr) ?_
 refine lm (v := .int .i64 0) rfl rfl ?_
 refine wpL_done (fun W3 hW3 => ?_)
 change Code.wp ..
 refine wp_block ?_
 go_loopw [12] (fun u12 wr => ∃ (k : Nat), (k ≤ (slotsO l).length) ∧ (standF (slotsO l) ((slotsO l).length - k) k = standF (slotsO l) (slotsO l).length 0) ∧ u12 = .int .i64 ((k : Nat) : Int) ∧ KS w ((g2, .cells (colC co).toArray 46 (0, 0)) :: (g1, .cells #[.slice p bs.length c, .slice q l.length d] 153 (0, 0)) :: Kl4) wr) (fun u12 _ => (slotsO l).length - (intOf u12).toNat)
 case atStart => exact ⟨0, (Nat.zero_le _), rfl, rfl, (hW3.sub (fun p hp => by first | exact hp | (simp only [List.mem_cons, List.mem_append, List.nil_append, List.not_mem_nil, or_assoc, or_false, false_or] at hp ⊢ <;> grind)))⟩
 case round =>
   obtain ⟨k, hk, hR, rfl, hL4⟩ := hrel
   refine wp_seq ?_
   refine wp_region_L _ hL4 ?_
   refine lp (v := .bool (decide (k < ((slotsO l).length)))) rfl rfl (run_bin rfl (vx := (.int .i64 ((k : Nat) : Int))) (vy := (.int .i64 ((((slotsO l).length) : Nat) : Int))) Tw.kr Tw.kr fun w => bn_lss rfl w) ?_
   refine wpL_done (fun W5 hW5 => ?_)
   change Code.wp ..
   refine wp_seq ?_
   cases hd1 : (decide (k < ((slotsO l).length))) with
   | false =>
     have h1 : ¬ (k < ((slotsO l).length)) := of_decide_eq_false hd1
     clear hd1
     refine wp_cond_false rfl ?_
     refine wp_exit ?_
     change Code.wp ..
     refine wp_seq ?_
     refine wp_region_L _ hW5 ?_
     refine lv (v := .agg #[.slice p bs.length c, .slice q l.length d]) rfl rfl (yb_load (n := 2) (off := 0) rfl Tw.kr Tw.m1 Try.underlying153 rfl Tw.kr (by first | (simp [Value.cells]; done) | exact Nat.le_of_ble_eq_true rfl) Tw.kr) ?_
     refine lm (v := .pointer (some ⟨g2, 4, none⟩)) rfl rfl ?_
     refine lv (v := .int .i64 co.height) rfl rfl (yb_cell (off := 4) rfl Tw.kr Tw.m0 Try.underlying3 rfl Tw.kr) ?_
     refine lv (v := .bool (pileHigh bs l co.height)) rfl rfl (yb_call (f := 93) (args := #[.agg #[.slice p bs.length c, .slice q l.length d], .int .i64 co.height]) Tw.kf fun W hW => pabove_any bs p c Tw.om l q d Tw.om co.height W ((RL.base HP.out) _ (hW.sub (fun _ h => by cases h))) ((RL.base HQ.out) _ (hW.sub (fun _ h => by cases h)))) ?_
     refine lp (v := .bool (!(pileHigh bs l co.height))) rfl rfl (run_un rfl Tw.kr fun w => un_not w) ?_
     refine lm (v := .bool (!(pileHigh bs l co.height))) rfl rfl ?_
     refine wpL_done (fun W6 hW6 => ?_)
     change Code.wp ..
     refine wp_ret ?_
     try simp only [inBlock_ret, then_ret]
     refine bodyPost_ret (v := .bool (!(pileHigh bs l co.height))) ?_ rfl ?_
     · kernel_rfl
     · exact ⟨(bool_is (by unfold standX; rw [← hR, stand_end Tw.om]; simp)), hW6.1⟩
   | true =>
     have h1 : k < ((slotsO l).length) := of_decide_eq_true hd1
     clear hd1
     refine wp_cond_true rfl ?_
     refine wp_skip ?_
     change Code.wp ..
     refine wp_seq ?_
     refine wp_block ?_
     refine wp_seq ?_
     refine wp_region_L _ hW5 ?_
     refine lm (v := .int .i64 ((k : Nat) : Int)) rfl rfl ?_
     obtain ⟨y6, g6_, f6_, hy6, hp6, hc6⟩ := RL.at R4 sltC_len (by decide) (hW5.sub (fun p hp => by simp only [List.mem_cons, List.mem_append, List.nil_append, List.not_mem_nil, or_assoc, or_false, false_or, hp, true_or, or_true])) (k := k) Tw.om
     refine lp (v := .pointer (some ⟨g6_, f6_ + k * 3, none⟩)) rfl rfl (run_idxQ (p := p4) (cap := c4) (n := (slotsO l).length) (j := .i64) (k := k) (sz := 3) rfl Try.underlying56 Tw.kr Tw.kr hp6 Tw.kr Tw.om) ?_
     refine lv (v := .agg (sltC y6).toArray) rfl rfl (yb_rs (off := f6_ + k * 3) (cs := sltC y6) rfl Tw.kr (fun W hW => hc6 W (hW.sub (fun p hp => by simp only [List.mem_cons, List.mem_append, List.nil_append, List.not_mem_nil, or_assoc, or_false, false_or, hp, true_or, or_true]))) Try.underlying40 rfl Tw.kr) ?_
     refine wpL_new (fun g => .pointer (some ⟨g, 0, none⟩)) (obi := .cells #[.int .i64 0, .int .i64 0, .int .u8 0] 40 (0, 0)) rfl rfl Tw.kf Tw.pf fun g7 Bg7 Fg7 => ?_
     obtain ⟨dj8_0, dj8_1, dj8_2⟩ : g2 ≠ g7 ∧ g1 ≠ g7 ∧ Dk g7 Kl4 := Tw.dkf Fg7
     refine lm (v := .int .i64 ((k : Nat) : Int)) rfl rfl ?_
     refine wpL_s ((g7, .cells (sltC y6).toArray 40 (0, 0)) :: (g2, .cells (colC co).toArray 46 (0, 0)) :: (g1, .cells #[.slice p bs.length c, .slice q l.length d] 153 (0, 0)) :: Kl4) rfl rfl (st_row (off := 0) (v := .agg (sltC y6).toArray) rfl Tw.kr Tw.kr Tw.m0 Bg7 Tw.kr (by first | (simp [Value.cells]; done) | exact Nat.le_of_ble_eq_true rfl) (fun v hv => sltC_one y6 v hv) Tw.kr (List.forall_mem_cons.2 ⟨.inl rfl, (List.forall_mem_cons.2 ⟨.inr ⟨Tw.m1, Tw.nee⟩, (List.forall_mem_cons.2 ⟨.inr ⟨Tw.m2, Tw.nee⟩, (fun p hp => .inr ⟨(.tail _ (.tail _ (.tail _ hp))), ((show Dk g7 Kl4 from Tw.djt) _ hp)⟩)⟩)⟩)⟩)) ?_
     refine wpL_done (fun W7 hW7 => ?_)
     change Code.wp ..
     refine wp_seq ?_
     refine wp_region_V _ Tw.kr hW7 ?_
     refine vm (i := 0) (v := .slice p4 ((slotsO l).length) c4) rfl rfl rfl ?_
     refine vm (i := 1) (v := .int .i64 ((k : Nat) : Int)) rfl rfl rfl ?_
     refine vp (i := 2) (v := .slice p4 k c4) rfl rfl rfl (run_slt (kd := .i64) (j := k) (n := (slotsO l).length) (c := c4) (sz := 3) rfl Try.underlying56 Tw.kr Tw.kr Tw.kr Tw.om) ?_
     refine vv (i := 3) (v := .agg (sltC y6).toArray) rfl rfl rfl (yb_load (n := 3) (off := 0) rfl Tw.kr Tw.m0 Try.underlying40 rfl Tw.kr (by first | (simp [Value.cells]; done) | exact Nat.le_of_ble_eq_true rfl) Tw.kr) ?_
     refine vv (i := 4) (v := .bool (meetsX ((slotsO l).take k) y6)) rfl rfl rfl (yb_call (f := 92) (args := #[.slice p4 k c4, .agg (sltC y6).toArray]) Tw.kf fun W hW => (by have h9 := meets_any ((slotsO l).take k) p4 c4 (by rw [List.length_take]; omega) y6 W ((R4.take sltC_len k) _ (hW.sub (fun p hp => by simp only [List.mem_cons, List.mem_append, List.nil_append, List.not_mem_nil, or_assoc, or_false, false_or, hp, true_or, or_true]))); rw [List.length_take, Nat.min_eq_left Tw.om] at h9; exact h9)) ?_
     refine vm (i := 5) (v := .bool (meetsX ((slotsO l).take k) y6)) rfl rfl rfl ?_
     cases h2 : (meetsX ((slotsO l).take k) y6) with
     | false =>
       refine vv (i := 6) (v := .agg (sltC y6).toArray) rfl rfl rfl (yb_load (n := 3) (off := 0) rfl Tw.kr Tw.m0 Try.underlying40 rfl Tw.kr (by first | (simp [Value.cells]; done) | exact Nat.le_of_ble_eq_true rfl) Tw.kr) ?_
       refine vm (i := 7) (v := .slice p4 ((slotsO l).length) c4) rfl rfl rfl ?_
       refine vv (i := 8) (v := .bool (heldS y6 (slotsO l))) rfl rfl rfl (yb_call (f := 37) (args := #[.agg (sltC y6).toArray, .slice p4 ((slotsO l).length) c4]) Tw.kf fun W hW => Held_any y6 (slotsO l) p4 c4 Tw.om (hTb _ (List.mem_of_getElem? hy6)) W (R4 _ (hW.sub (fun p hp => by simp only [List.mem_cons, List.mem_append, List.nil_append, List.not_mem_nil, or_assoc, or_false, false_or, hp, true_or, or_true])))) ?_
       refine vp (i := 9) (v := .bool (!(heldS y6 (slotsO l)))) rfl rfl rfl (run_un rfl Tw.kr fun w => un_not w) ?_
       refine vm (i := 10) (v := .bool (!(heldS y6 (slotsO l)))) rfl rfl rfl ?_
       refine wpV_done Tw.kr (fun W8 hW8 => ?_) _
       change Code.wp ..
       cases h3 : (heldS y6 (slotsO l)) with
       | false =>
         refine wp_cond_true rfl ?_
         refine wp_seq ?_
         refine wp_region_L _ hW8 ?_
         refine lm (v := .bool false) rfl rfl ?_
         refine wpL_done (fun W9 hW9 => ?_)
         change Code.wp ..
         refine wp_ret ?_
         try simp only [inBlock_ret, then_ret]
         refine bodyPost_ret (v := .bool false) ?_ rfl ?_
         · kernel_rfl
         · exact ⟨(bool_is (by unfold standX; rw [← hR, stand_step hy6, h2, h3]; simp)), hW9.1⟩
       | true =>
         refine wp_cond_false rfl ?_
         refine wp_skip ?_
         change Code.wp ..
         refine wp_region_L _ hW8 ?_
         refine lp (v := .int .i64 (((k + 1) : Nat) : Int)) rfl rfl (run_bin rfl (vx := (.int .i64 ((k : Nat) : Int))) (vy := (.int .i64 ((1 : Nat) : Int))) Tw.kr Tw.kr fun w => bn_add (z := (k + 1)) rfl (wr_i64 Tw.om) w) ?_
         refine lm (v := .int .i64 (((k + 1) : Nat) : Int)) rfl rfl ?_
         refine wpL_done (fun W10 hW10 => ?_)
         go_roundw
         case rel =>
           repeat apply Exists.intro
           exact ⟨⟨k + 1, Tw.om, (by rw [← hR, stand_step hy6, h2, h3]; rfl), rfl, (hW10.sub (fun p hp => by first | exact hp | (simp only [List.mem_cons, List.mem_append, List.nil_append, List.not_mem_nil, or_assoc, or_false, false_or] at hp ⊢ <;> grind)))⟩, rfl⟩
         case measure => (show (slotsO l).length - (intOf (.int .i64 (((k + 1) : Nat) : Int))).toNat < (slotsO l).length - (intOf (.int .i64 ((k : Nat) : Int))).toNat); simp only [intOf]; omega
     | true =>
       refine vn (i := 6) rfl rfl ?_
       refine vn (i := 7) rfl rfl ?_
       refine vn (i := 8) rfl rfl ?_
       refine vn (i := 9) rfl rfl ?_
       refine vm (i := 10) (v := .bool true) rfl rfl rfl ?_
       refine wpV_done Tw.kr (fun W11 hW11 => ?_) _
       change Code.wp ..
       refine wp_cond_true rfl ?_
       refine wp_seq ?_
       refine wp_region_L _ hW11 ?_
       refine lm (v := .bool false) rfl rfl ?_
       refine wpL_done (fun W12 hW12 => ?_)
       change Code.wp ..
       refine wp_ret ?_
       try simp only [inBlock_ret, then_ret]
       refine bodyPost_ret (v := .bool false) ?_ rfl ?_
       · kernel_rfl
       · exact ⟨(bool_is (by unfold standX; rw [← hR, stand_step hy6, h2]; simp)), hW12.1⟩
end Go.Proofs.Ytnbfljcilojllaa
/- What holds of a region outside of a round holds in a round, too, at the wide fence. Nothing of the program. -/
namespace Tw
open Go Go.RowKit Go.Proofs.Ytnbfljcilojllaa
abbrev FX (r : Option Nat) : Fence := { fn := fun _ => True, depth := none, alive := false, round := r }
theorem calls_round {P : Program} {n : Nat} {l : Option Nat} {f : FuncId} {args : Array Value} {w : World} {R : Ending → World → Prop} (h : Calls P f args w R) : CallsIn (FX l) n P f args w R := (callsIn_wide (n := n)).2 h
theorem rows_round {P : Program} {n : Nat} {l : Option Nat} {row : String} {args : Array Value} {w : World} {R : Value → World → Prop} (h : Rows P row args w R) : RowsIn (FX l) n P row args w R := fun c cs _ =>
 let ⟨v, w', r, s⟩ := h c cs
 ⟨v, w', r, (StepsIn.of_steps s).mono fun m _ => fenced_wide P m⟩
def onlyN (Q : Exit → Act → World → Prop) : Exit → Act → World → Prop
 | .normal, a, w => Q .normal a w
 | _, _, _ => False
theorem lets_onlyN {Q : Exit → Act → World → Prop} (h : LetsOut (onlyN Q)) : False := by
 obtain ⟨_, _, h⟩ := h
 exact h
theorem oper_round {P : Program} {n : Nat} {l : Option Nat} {o : Oper} {a : Act} {w : World} {K : Act → World → Prop} {Q E : Exit → Act → World → Prop} (hdef : ∀ c, o.op ≠ .defer c) (h : o.wp P a w K (onlyN E)) : o.wpIn (FX l) n P a w K Q := by
 refine ⟨fun _ _ => trivial, ?_⟩
 rw [Oper.semAt_eq _ _ _ hdef]
 unfold Oper.wp at h
 generalize (execOp a.eval o).run P w = r at h ⊢
 cases r with
 | ok nx w' =>
   cases nx with
   | value v => exact h
   | skip => exact h
   | defer d => exact h
   | enter f args =>
     refine ⟨(fun hh => by cases hh), calls_round (Calls.mono h ?_)⟩
     intro e w'' hr
     cases e with
     | returned v => exact hr
     | panicked c => exact hr.elim
     | outgrown => exact (lets_onlyN hr).elim
   | row row args => exact ⟨(fun hh => by cases hh), rows_round h⟩
   | _ => exact h.elim
 | halt s w' =>
   cases s with
   | panic v => exact h.elim
   | _ => exact h.elim
def noDefer (o : Oper) : Bool := match o.op with | .defer _ => false | _ => true
theorem noDefer_ne {o : Oper} (h : noDefer o = true) : ∀ c, o.op ≠ .defer c := fun c e => by unfold noDefer at h; rw [e] at h; cases h
theorem list_round {P : Program} {n : Nat} {l : Option Nat} {ops : Array Oper} {Q : Exit → Act → World → Prop} : ∀ (rest : List Oper) (a : Act) (w : World), rest.all noDefer = true → wpList P ops (onlyN Q) rest a w → wpListIn (FX l) n P ops Q rest a w
 | [], _, _, _, h => h
 | o :: rest, a, w, hd, h => by
   simp only [List.all_cons, Bool.and_eq_true] at hd
   unfold wpList at h
   unfold wpListIn
   split
   · rename_i hw
     rw [if_pos hw] at h
     rcases h with h | ⟨_, h⟩
     · exact Oper.wpIn_mono (fun a w hh => list_round rest a w hd.2 hh) (oper_round (noDefer_ne hd.1) h)
     · exact (lets_onlyN h).elim
   · rename_i hw
     rw [if_neg hw] at h
     exact ⟨fun _ _ => trivial, list_round rest _ w hd.2 h⟩
section
variable {P : Program} {W0 : Base} {n : Nat} {r : Option Nat}
theorem wp_region_LI {id : Nat} {l : List Oper} {Q : Exit → Act → World → Prop} {a : Act} {w : World} (K : List (Nat × Obj)) (hd : l.all noDefer = true) (hK : KS W0 K w) (h : wpL P l.toArray (onlyN Q) W0 l a K) : (Code.region id l.toArray false).wpIn (FX r) n P Q a w :=
 wpIn_region_lit (list_round l a w hd (h.of w hK))
end
end Tw
/- A region that calls the round of a loop over an iterator (yield). Nothing of the program. -/
namespace Tw
open Go Go.RowKit Go.Proofs.Ytnbfljcilojllaa
def onlyR (K : Act → World → Prop) : Exit → Act → World → Prop
 | .normal, a, w => K a w
 | _, _, _ => False
theorem onlyR_N (K : Act → World → Prop) : onlyR K = onlyN (onlyR K) := by funext e a w; cases e <;> rfl
section
variable {P : Program} {n : Nat} {r : Option Nat} {ops : Array Oper} {Q : Exit → Act → World → Prop}
theorem list_app (rest : List Oper) : ∀ (pre : List Oper) (a : Act) (w : World), pre.all noDefer = true → wpList P ops (onlyR (wpListIn (FX r) n P ops Q rest)) pre a w → wpListIn (FX r) n P ops Q (pre ++ rest) a w
 | [], _, _, _, h => h
 | o :: pre, a, w, hd, h => by
   simp only [List.all_cons, Bool.and_eq_true] at hd
   rw [List.cons_append]
   unfold wpList at h
   unfold wpListIn
   split
   · rename_i hw
     rw [if_pos hw] at h
     rcases h with h | ⟨_, h⟩
     · rw [onlyR_N] at h
       refine Oper.wpIn_mono (fun a w hh => list_app rest pre a w hd.2 ?_) (oper_round (noDefer_ne hd.1) h)
       rw [onlyR_N]
       exact hh
     · rw [onlyR_N] at h
       exact (lets_onlyN h).elim
   · rename_i hw
     rw [if_neg hw] at h
     exact ⟨fun _ _ => trivial, list_app rest pre _ w hd.2 h⟩
theorem wp_region_S {id : Nat} {l : List Oper} {a : Act} {w : World} {W0 : Base} (pre rest : List Oper) (K : List (Nat × Obj)) (hl : l = pre ++ rest) (hd : pre.all noDefer = true) (hK : KS W0 K w) (h : wpL P l.toArray (onlyR (wpListIn (FX r) n P l.toArray Q rest)) W0 pre a K) : (Code.region id l.toArray false).wpIn (FX r) n P Q a w := by
 refine wpIn_region_lit ?_
 have h1 := list_app rest pre a w hd (h.of w hK)
 rw [← hl] at h1
 exact h1
theorem wpl_rest {rest : List Oper} {a : Act} {w : World} {W0 : Base} (K : List (Nat × Obj)) (hd : rest.all noDefer = true) (hK : KS W0 K w) (h : wpL P ops (onlyN Q) W0 rest a K) : wpListIn (FX r) n P ops Q rest a w := list_round rest a w hd (h.of w hK)
theorem wpl_yield {o : Oper} {rest : List Oper} {a : Act} {w : World} {c x : Operand} {tt : TypeId} {l d : Nat} {v : Value} {A B : World → Prop} {tm : Array Value} {df : List Deferred} {T1 T2 : Array Value} (ha : a = ⟨tm, df⟩) (ho : o.op = .call { callee := .value c, args := #[x], argTypes := #[tt] }) (hc : a.eval c = .func (.yield l) #[] #[]) (hx : a.eval x = v)
   (hw : Region.wanted o (yielded ops a.tmps) = true) (hd : o.dst = some d) (hY : YieldAt (FX r) (n - 1) P l #[v] w fun e W' => (e = .returned (.bool true) ∧ A W') ∨ (e = .returned (.bool false) ∧ B W'))
   (hT1 : tm.setIfInBounds d (.bool true) = T1) (hT2 : tm.setIfInBounds d (.bool false) = T2)
   (h1 : ∀ W', A W' → wpListIn (FX r) n P ops Q rest ⟨T1, df⟩ W') (h2 : ∀ W', B W' → wpListIn (FX r) n P ops Q rest ⟨T2, df⟩ W') : wpListIn (FX r) n P ops Q (o :: rest) a w := by
 subst ha
 obtain ⟨fn, tmps, assign, body, hy, hR⟩ := hY
 refine wpListIn_step fun K hK => ?_
 rw [if_pos hw]
 refine ⟨fun _ _ => trivial, ?_⟩
 rw [Oper.semAt_eq _ _ _ (fun c' e => by rw [ho] at e; cases e)]
 have hrun : (execOp (Act.eval ⟨tm, df⟩) o).run P w = .ok (.round l fn tmps assign body) w := by
   generalize Act.eval ⟨tm, df⟩ = ev at hc hx
   simp [execOp, ho, resolve, invoke, hc, hx, hy, Deferred.ofValue]
 rw [hrun]
 refine ⟨(fun hh => by cases hh), hR.mono ?_⟩
 rintro e W' (⟨rfl, hA⟩ | ⟨rfl, hB⟩)
 · refine hK _ _ ?_
   rw [hd]
   simp only [Act.put]
   rw [hT1]
   exact h1 W' hA
 · refine hK _ _ ?_
   rw [hd]
   simp only [Act.put]
   rw [hT2]
   exact h2 W' hB
end
end Tw
/- Loops over iterators: what a loop's body owns is told by known blocks, all other blocks stay. Over any program. -/
namespace Tw
open Go Go.RowKit Go.Proofs.Ytnbfljcilojllaa
theorem callsAnyX {P : Program} {r s : Option Nat} {n m : Nat} {f : FuncId} {args : Array Value} {w : World} {R : Ending → World → Prop} (h : CallsIn (FX r) n P f args w R) : CallsIn (FX s) m P f args w R := ⟨trivial, fun cs _ => h.2 cs (fun _ h => by cases h)⟩
def ownT (ts : List TypeId) : Obj → Bool
 | .cells _ t _ => decide (t ∈ ts)
 | _ => false
structure KpA (ts : List TypeId) (W W' : World) : Prop where
 size : W.heap.size ≤ W'.heap.size
 same : ∀ (k : Nat) (o : Obj), W.heap[k]? = some o → ownT ts o = false → W'.heap[k]? = some o
theorem KpA.trans {ts : List TypeId} {A B C : World} (h : KpA ts A B) (k : KpA ts B C) : KpA ts A C := ⟨Nat.le_trans h.size k.size, fun i o hi ho => k.same i o (h.same i o hi ho) ho⟩
structure KpT (ts : List TypeId) (n₀ : Nat) (W W' : World) : Prop where
 below : Below n₀ W W'
 same : ∀ (k : Nat) (o : Obj), W.heap[k]? = some o → o.isCells = true → ownT ts o = false → W'.heap[k]? = some o
theorem KpT.trans {ts : List TypeId} {n₀ : Nat} {A B C : World} (h : KpT ts n₀ A B) (k : KpT ts n₀ B C) : KpT ts n₀ A C := ⟨h.below.trans k.below, fun i o hi hc ho => k.same i o (h.same i o hi hc ho) hc ho⟩
theorem KpA.toT {ts : List TypeId} {n₀ : Nat} {W W' : World} (h : KpA ts W W') (hb : Below n₀ W W') : KpT ts n₀ W W' := ⟨hb, fun k o hk _ ho => h.same k o hk ho⟩
theorem below_put {n₀ : Nat} {W : World} {l : Nat} (o : Obj) (hl : n₀ ≤ l) : Below n₀ W (W.putObj l o) := ⟨rfl, rfl, rfl, by simp, fun k hk => World.putObj_heap_other Tw.om⟩
theorem kpT_put {ts : List TypeId} {n₀ : Nat} {W : World} {l : Nat} {o : Obj} (o' : Obj) (hl : n₀ ≤ l) (h : W.heap[l]? = some o) (hc : o.isCells = false) : KpT ts n₀ W (W.putObj l o') :=
 ⟨below_put o' hl, fun k ob hk hkc _ => by
   by_cases e : k = l
   · subst e; rw [h] at hk; cases hk; rw [hc] at hkc; cases hkc
   · exact (World.putObj_heap_other e).trans hk⟩
def restT (ts : List TypeId) (W : World) : List (Nat × Obj) := (List.range W.heap.size).filterMap fun k => match W.heap[k]? with | some o => if ownT ts o then none else some (k, o) | none => none
theorem restT_mem {ts : List TypeId} {W : World} {p : Nat × Obj} : p ∈ restT ts W ↔ W.heap[p.1]? = some p.2 ∧ ownT ts p.2 = false := by
 unfold restT
 rw [List.mem_filterMap]
 constructor
 · rintro ⟨k, hk, h⟩
   cases ho : W.heap[k]? with
   | none => rw [ho] at h; cases h
   | some o =>
     rw [ho] at h
     simp only at h
     split at h
     · cases h
     · rename_i hn
       cases h
       exact ⟨ho, by simpa using hn⟩
 · rintro ⟨h1, h2⟩
   exact ⟨p.1, List.mem_range.2 (lt_of_block h1), by rw [h1]; simp [h2]⟩
theorem restT_ne {ts : List TypeId} {W : World} {g : Nat} {o : Obj} (h : W.heap[g]? = some o) (hc : ownT ts o = true) : ∀ p ∈ restT ts W, p.1 ≠ g := fun p hp e => by
 obtain ⟨h1, h2⟩ := restT_mem.1 hp
 rw [e, h] at h1
 cases h1
 rw [hc] at h2
 cases h2
def atB (W0 : Base) (W : World) (h : W0.B ≤ W.heap.size) : Base := ⟨W, W0.B, h⟩
theorem at_start {W0 : Base} {W : World} {K : List (Nat × Obj)} (ts : List TypeId) (hn : W0.B ≤ W.heap.size) (h : KS W0 K W) : KS (atB W0 W hn) (K ++ restT ts W) W := ⟨Below.refl _ _, fun p hp => by
 rcases List.mem_append.1 hp with hp | hp
 · exact h.2 p hp
 · exact (restT_mem.1 hp).1⟩
theorem at_back {W0 : Base} {W W' : World} {K K' : List (Nat × Obj)} {hn : W0.B ≤ W.heap.size} (h : KS W0 K W) (h' : KS (atB W0 W hn) K' W') : KS W0 K' W' := ⟨h.1.trans h'.1, h'.2⟩
theorem at_kp {W0 : Base} {W W' : World} {K : List (Nat × Obj)} {ts : List TypeId} {hn : W0.B ≤ W.heap.size} (h : KS (atB W0 W hn) K W') (hs : ∀ p ∈ restT ts W, p ∈ K) : KpA ts W W' := ⟨h.1.size, fun k o hk ho => h.2 (k, o) (hs (k, o) (restT_mem.2 ⟨hk, ho⟩))⟩
theorem ks_grown {W0 : Base} {W W' : World} {K : List (Nat × Obj)} {row : Option Nat} (hK : KS W0 K W) (hc : ∀ p ∈ K, p.2.isCells = true) (hg : W.grownBy W' row) (hr : ∀ r, row = some r → W0.B ≤ r ∧ ∃ o : Obj, W.heap[r]? = some o ∧ o.isCells = false) : KS W0 K W' := by
 refine ⟨⟨hg.os.trans hK.1.os, hg.tape.trans hK.1.tape, hg.output.trans hK.1.output, Nat.le_trans hK.1.size hg.size, fun k hk => ?_⟩, fun p hp => ?_⟩
 · rw [hg.block k (Nat.lt_of_lt_of_le hk hK.size) (fun e => by have := (hr k e.symm).1; omega)]
   exact hK.1.block k hk
 · have h1 := hK.2 p hp
   rw [hg.block p.1 (lt_of_block h1) (fun e => by
     obtain ⟨_, o, ho, hn⟩ := hr p.1 e.symm
     rw [h1] at ho
     cases ho
     rw [hc p hp] at hn
     cases hn)]
   exact h1
theorem ks_putN {W0 : Base} {K : List (Nat × Obj)} {W : World} {L : Nat} {o : Obj} (o' : Obj) (h : KS W0 K W) (hc : ∀ p ∈ K, p.2.isCells = true) (hB : W0.B ≤ L) (hL : W.heap[L]? = some o) (ho : o.isCells = false) : KS W0 K (W.putObj L o') :=
 ⟨h.1.trans (below_put o' hB), fun p hp => (World.putObj_heap_other (fun e => by have h1 := h.2 p hp; rw [e, hL] at h1; cases h1; rw [hc p hp] at ho; cases ho)).trans (h.2 p hp)⟩
def roundK {α : Type} (ts : List TypeId) (W0 : Base) (I Ix : List α → List (Nat × Obj) → Prop) (ys : List α) (W : World) : Exit → Act → World → Prop
 | .normal, _, W' => KpA ts W W' ∧ Below W0.B W W' ∧ ∃ K, I ys K ∧ KS W0 K W'
 | .ret, _, W' => KpA ts W W' ∧ Below W0.B W W' ∧ ∃ K, Ix ys K ∧ KS W0 K W'
 | _, _, _ => False
theorem range_k {α : Type} {P : Program} {g : Operand} {ps : Array Tmp} {assign body : Code} {Q : Exit → Act → World → Prop} {a : Act} {w : World} {ts : List TypeId}
   {gf : Nat} {lb : Array Value} (hg : a.eval g = .func (.func gf) #[] lb) (eg : ∀ args w, (callFunc gf args).run P w = .ok (.enter gf args) w)
   {encs : α → Array Value} {S Sp : List α → Prop} {N : Nat} {w0 : World} (W0 : Base) (hseq : SeqStopsK (FX none) 0 P gf lb encs (KpT ts W0.B) S Sp N w0) (hb0 : Below w0.heap.size w0 w) (hps : ∀ x, (encs x).size = ps.size)
   (I Ix : List α → List (Nat × Obj) → Prop) (hI : ∀ ys K, I ys K → ∀ p ∈ K, p.2.isCells = true) (hIx : ∀ ys K, Ix ys K → ∀ p ∈ K, p.2.isCells = true) {K0 : List (Nat × Obj)} (h0 : I [] K0) (hK0 : KS W0 K0 w)
   (hround : ∀ (L : Nat) (pre : List α) (x : α) (K : List (Nat × Obj)) (W : World), I pre K → KS W0 K W → pre.length < N →
     assign.wpIn (FX (some L)) 0 P (Exit.then (fun a' W2 => KpA ts W W2 ∧ Below W0.B W W2 ∧ ∃ K2, (∀ p ∈ K2, p.2.isCells = true) ∧ KS W0 K2 W2 ∧ ∀ W3, KS W0 K2 W3 → body.wpIn (FX (some L)) 0 P (roundK ts W0 I Ix (pre ++ [x]) W3) a' W3) (fun _ _ _ => False))
       { tmps := (ps.zip (encs x)).foldl (fun t (p, v) => t.setIfInBounds p v) a.tmps, defers := [] } W)
   (hdone : ∀ (D : Nat) (xs : List α) (K : List (Nat × Obj)) (W : World), S xs → I xs K → KS W0 ((D, .deferred (some [])) :: K) W → w.heap.size ≤ D → Q .normal { a with defers := { target := .collected D, args := #[] } :: a.defers } W)
   (hstop : ∀ (D : Nat) (pre : List α) (K : List (Nat × Obj)) (W : World), Sp pre → Ix pre K → KS W0 ((D, .deferred (some [])) :: K) W → w.heap.size ≤ D → Code.ret.wpIn (FX none) 0 P Q { a with defers := { target := .collected D, args := #[] } :: a.defers } W) :
   (Code.rangeFunc g ps assign body).wpIn (FX none) 0 P Q a w := by
 refine wpIn_rangeFunc ?_
 intro fn _
 have hwB := hK0.size
 obtain ⟨rec, hrec⟩ : ∃ rec : LoopState → Option Code → Loop, rec = fun st pe => { state := st, pending := pe, fn, tmps := a.tmps, params := ps, assign, body, defers := w.heap.size } := ⟨_, rfl⟩
 obtain ⟨W1, hW1⟩ : ∃ W1, (w.alloc (.deferred (some []))).alloc (.loop (rec .ready none)) = W1 := ⟨_, rfl⟩
 have hz1 : W1.heap.size = w.heap.size + 2 := by rw [← hW1]; simp
 have hL1 : W1.heap[w.heap.size + 1]? = some (.loop (rec .ready none)) := by
   rw [← hW1]; have := World.alloc_heap_new (w.alloc (.deferred (some []))) (.loop (rec .ready none)); rwa [World.size_alloc] at this
 have hD1 : W1.heap[w.heap.size]? = some (.deferred (some [])) := by
   rw [← hW1]; exact (Below.heap_alloc _ _ _ (by simp)).trans (World.alloc_heap_new w _)
 have hw1 : Below w.heap.size w W1 := by rw [← hW1]; exact ((Below.refl _ w).alloc (Nat.le_refl _) _).alloc (by simp) _
 have hK1 : KS W0 K0 W1 := hK0.below hw1
 refine ⟨w.heap.size + 1, [{ target := .collected w.heap.size, args := #[] }], W1, { target := .fn (.func gf) lb, args := #[.func (.yield (w.heap.size + 1)) #[] #[]] }, W1, gf,
   #[.func (.yield (w.heap.size + 1)) #[] #[]] ++ lb, W1, ?_, ?_, fun _ _ => trivial, ?_, (fun h => by cases h), ?_⟩
 · rw [← hW1, hrec]; exact run_enterLoop_outer _ _ _ _ _
 · simp only [resolve, hg]
   simp [go_sem]
 · simp [invoke, go_sem, eg]
 · have stay : ∀ {A B : World} {row : Option Nat} {l : Nat} {o : Obj}, A.grownBy B row → (∀ r, row = some r → W1.heap.size ≤ r ∧ ∃ o : Obj, A.heap[r]? = some o ∧ o.isWalk = true) → A.heap[l]? = some o → o.isWalk = false → B.heap[l]? = some o := fun hg' hr hl ho => by
     refine (hg'.block _ (lt_of_block hl) (fun e => ?_)).trans hl
     obtain ⟨_, o', ho', hw'⟩ := hr _ e.symm
     rw [hl] at ho'; cases ho'; rw [ho] at hw'; cases hw'
   refine ((callsAnyX (hseq (w.heap.size + 1)
     (fun pre W => ∃ K, I pre K ∧ KS W0 K W ∧ W.heap[w.heap.size + 1]? = some (.loop (rec .ready none)) ∧ W.heap[w.heap.size]? = some (.deferred (some [])))
     (fun pre W => ∃ K, Ix pre K ∧ KS W0 K W ∧ W.heap[w.heap.size + 1]? = some (.loop (rec .done (some .ret))) ∧ W.heap[w.heap.size]? = some (.deferred (some [])))
     W1 (hb0.trans (hw1.mono hb0.size)) ?_ ?_ ?_ ⟨K0, h0, hK1, hL1, hD1⟩) : CallsIn (FX none) (0 - 1) P gf _ W1 _)).mono ?_
   · rintro s A B row ⟨K, h1, h2, h3, h4⟩ hg' hr
     exact ⟨K, h1, ks_grown h2 (hI _ _ h1) hg' (fun r e => by obtain ⟨hB, o, ho, hw⟩ := hr r e; exact ⟨by omega, o, ho, Obj.not_cells_of_walk hw⟩), stay hg' hr h3 rfl, stay hg' hr h4 rfl⟩
   · rintro s A B row ⟨K, h1, h2, h3, h4⟩ hg' hr
     exact ⟨K, h1, ks_grown h2 (hIx _ _ h1) hg' (fun r e => by obtain ⟨hB, o, ho, hw⟩ := hr r e; exact ⟨by omega, o, ho, Obj.not_cells_of_walk hw⟩), stay hg' hr h3 rfl, stay hg' hr h4 rfl⟩
   · rintro pre x W ⟨K, hi, hk, hl, hd⟩ hlen
     have hy := run_yield (P := P) (args := encs x) hl (by rw [hrec]; exact hps x)
     rw [hrec] at hy
     refine ⟨fn, _, assign, body, hy, roundIn_of_wpIn (F := FX none) trivial (wpIn_mono (hround _ pre x K W hi hk hlen) ?_)⟩
     clear hy
     rintro e a' W2 hq
     cases e with
     | normal =>
       obtain ⟨hkp, hbl, K2, hc2, hk2, hq⟩ := hq
       have hl2 := hkp.same _ _ hl rfl
       have hd2 := hkp.same _ _ hd rfl
       refine ⟨_, run_beginRound hl2 (by rw [hrec]), ?_⟩
       have hlt2 := lt_of_block hl2
       have hl3 : (W2.putObj (w.heap.size + 1) (.loop { rec .ready none with state := .busy })).heap[w.heap.size + 1]? = some (.loop { rec .ready none with state := .busy }) := World.putObj_heap_same hlt2
       have hd3 : (W2.putObj (w.heap.size + 1) (.loop { rec .ready none with state := .busy })).heap[w.heap.size]? = some (.deferred (some [])) := (World.putObj_heap_other Tw.om).trans hd2
       have hk3 : KS W0 K2 (W2.putObj (w.heap.size + 1) (.loop { rec .ready none with state := .busy })) := ks_putN _ hk2 hc2 Tw.om hl2 rfl
       refine wpIn_mono (hq _ hk3) ?_
       clear hq
       have fin : ∀ (jump : Option Code) (W4 : World), KpA ts (W2.putObj (w.heap.size + 1) (.loop { rec .ready none with state := .busy })) W4 →
           (Instr.endRound (w.heap.size + 1) jump).run P W4 = .ok (.bool jump.isNone) (W4.putObj (w.heap.size + 1) (.loop (rec (if jump.isNone then .ready else .done) jump))) ∧ W4.heap[w.heap.size + 1]? = some (.loop { rec .ready none with state := .busy }) ∧
           (W4.putObj (w.heap.size + 1) (.loop (rec (if jump.isNone then .ready else .done) jump))).heap[w.heap.size + 1]? = some (.loop (rec (if jump.isNone then .ready else .done) jump)) ∧ (W4.putObj (w.heap.size + 1) (.loop (rec (if jump.isNone then .ready else .done) jump))).heap[w.heap.size]? = some (.deferred (some [])) := fun jump W4 hk4 => by
         have hl4 := hk4.same _ _ hl3 rfl
         have hd4 := hk4.same _ _ hd3 rfl
         have hrun := run_endRound (P := P) jump hl4
         rw [hrec] at hrun hl4 ⊢
         exact ⟨hrun, hl4, World.putObj_heap_same (lt_of_block hl4), (World.putObj_heap_other Tw.om).trans hd4⟩
       rintro e a3 W4 hp
       cases e with
       | normal =>
         obtain ⟨hk4, hb4, K4, hi4, hks4⟩ := hp
         obtain ⟨h1, h2, h3, h4⟩ := fin none W4 hk4
         refine ⟨_, _, h1, .inl ⟨rfl, ⟨K4, hi4, ks_putN _ hks4 (hI _ _ hi4) Tw.om h2 rfl, h3, h4⟩, ?_⟩⟩
         exact (((hkp.toT hbl).trans (kpT_put _ Tw.om hl2 rfl)).trans (hk4.toT hb4)).trans (kpT_put _ Tw.om h2 rfl)
       | ret =>
         obtain ⟨hk4, hb4, K4, hi4, hks4⟩ := hp
         obtain ⟨h1, h2, h3, h4⟩ := fin (some .ret) W4 hk4
         exact ⟨_, _, h1, .inr ⟨rfl, K4, hi4, ks_putN _ hks4 (hIx _ _ hi4) Tw.om h2 rfl, h3, h4⟩⟩
       | exit id => exact hp.elim
       | goto t => exact hp.elim
       | panic ch => exact hp.elim
       | outgrown => exact hp.elim
     | ret => exact hq.elim
     | exit id => exact hq.elim
     | goto t => exact hq.elim
     | panic ch => exact hq.elim
     | outgrown => exact hq.elim
   · have last : ∀ {W2 : World} {K : List (Nat × Obj)} {o o' : Obj}, KS W0 K W2 → (∀ p ∈ K, p.2.isCells = true) → W2.heap[w.heap.size + 1]? = some o → o.isCells = false → W2.heap[w.heap.size]? = some (.deferred (some [])) → KS W0 ((w.heap.size, .deferred (some [])) :: K) (W2.putObj (w.heap.size + 1) o') := by
       intro W2 K o o' hk hc hl ho hd
       have hk' := ks_putN o' hk hc Tw.om hl ho
       refine ⟨hk'.1, fun p hp => ?_⟩
       rcases List.mem_cons.1 hp with rfl | hp
       · exact (World.putObj_heap_other (by simp only; omega)).trans hd
       · exact hk'.2 p hp
     rintro e W2 ⟨⟨v, rfl⟩, (⟨xs, hS, K, hi, hk, hl, hd⟩ | ⟨pre, hSp, K, hi, hk, hl, hd⟩)⟩
     · exact ⟨none, _, by have := run_endLoop (P := P) hl (by rw [hrec]; simp); rw [hrec] at this; exact this, hdone _ xs K _ hS hi (last hk (hI _ _ hi) hl rfl hd) (Nat.le_refl _)⟩
     · exact ⟨some .ret, _, by have := run_endLoop (P := P) hl (by rw [hrec]; simp); rw [hrec] at this; exact this, hstop _ pre K _ hSp hi (last hk (hIx _ _ hi) hl rfl hd) (Nat.le_refl _)⟩
theorem abideK {α : Type} {J : List α → World → Prop} {B : Nat} (hJ : AbidesFrom B J) {pre : List α} {W W' : World} {K : List (Nat × Obj)} (h0 : J pre W) (h : KS (W : Base) K W') : J pre W' :=
 hJ pre W W' none h0 ⟨h.1.os, h.1.tape, h.1.output, h.1.size, fun k hk _ => h.1.block k hk⟩ (fun r e => by cases e)
theorem inBlock_exitX (id : Nat) (Q : Exit → Act → World → Prop) (a : Act) (w : World) : Exit.inBlock id Q (.exit id) a w = Q .normal a w := by simp [Exit.inBlock]
theorem then_exitX (id : Nat) (f : Act → World → Prop) (Q : Exit → Act → World → Prop) (a : Act) (w : World) : Exit.then f Q (.exit id) a w = Q (.exit id) a w := rfl
section
variable {P : Program} {n : Nat} {r : Option Nat} {ops : Array Oper} {Q : Exit → Act → World → Prop}
theorem wpl_yield2 {o : Oper} {rest : List Oper} {a : Act} {w : World} {c x x2 : Operand} {tt t2 : TypeId} {l d : Nat} {v v2 : Value} {A B : World → Prop} {tm : Array Value} {df : List Deferred} {T1 T2 : Array Value} (ha : a = ⟨tm, df⟩) (ho : o.op = .call { callee := .value c, args := #[x, x2], argTypes := #[tt, t2] }) (hc : a.eval c = .func (.yield l) #[] #[]) (hx : a.eval x = v) (hx2 : a.eval x2 = v2)
   (hw : Region.wanted o (yielded ops a.tmps) = true) (hd : o.dst = some d) (hY : YieldAt (FX r) (n - 1) P l #[v, v2] w fun e W' => (e = .returned (.bool true) ∧ A W') ∨ (e = .returned (.bool false) ∧ B W'))
   (hT1 : tm.setIfInBounds d (.bool true) = T1) (hT2 : tm.setIfInBounds d (.bool false) = T2)
   (h1 : ∀ W', A W' → wpListIn (FX r) n P ops Q rest ⟨T1, df⟩ W') (h2 : ∀ W', B W' → wpListIn (FX r) n P ops Q rest ⟨T2, df⟩ W') : wpListIn (FX r) n P ops Q (o :: rest) a w := by
 subst ha
 obtain ⟨fn, tmps, assign, body, hy, hR⟩ := hY
 refine wpListIn_step fun K hK => ?_
 rw [if_pos hw]
 refine ⟨fun _ _ => trivial, ?_⟩
 rw [Oper.semAt_eq _ _ _ (fun c' e => by rw [ho] at e; cases e)]
 have hrun : (execOp (Act.eval ⟨tm, df⟩) o).run P w = .ok (.round l fn tmps assign body) w := by
   generalize Act.eval ⟨tm, df⟩ = ev at hc hx hx2
   simp [execOp, ho, resolve, invoke, hc, hx, hx2, hy, Deferred.ofValue]
 rw [hrun]
 refine ⟨(fun hh => by cases hh), hR.mono ?_⟩
 rintro e W' (⟨rfl, hA⟩ | ⟨rfl, hB⟩)
 · refine hK _ _ ?_
   rw [hd]
   simp only [Act.put]
   rw [hT1]
   exact h1 W' hA
 · refine hK _ _ ?_
   rw [hd]
   simp only [Act.put]
   rw [hT2]
   exact h2 W' hB
end
end Tw
/- Stow: the boxes that a state names: plain, and what its loop has. -/
namespace Go.Proofs.Ytnbfljcilojllaa
open Go Go.RowKit Tw
def encBB (x : Nat × Bo) : Array Value := #[.int .i64 ((x.1 : Nat) : Int), .agg (boC x.2).toArray]
theorem rv_next {bs : List Bo} {pre : List (Nat × Bo)} {m : Nat} {y : Bo} (h : pre.map (·.2) ++ (bs.take (m + 1)).reverse = bs.reverse) (hy : bs[m]? = some y) : (pre ++ [(m, y)]).map (·.2) ++ (bs.take m).reverse = bs.reverse := by
 obtain ⟨hm, rfl⟩ := List.getElem?_eq_some_iff.1 hy
 rw [← h, List.take_succ_eq_append_getElem hm, List.reverse_append]
 simp
theorem rv_room {bs : List Bo} {pre : List (Nat × Bo)} {m : Nat} (h : pre.map (·.2) ++ (bs.take (m + 1)).reverse = bs.reverse) (hm : m < bs.length) : pre.length < bs.length := by
 have h1 := congrArg List.length h
 rw [List.length_append, List.length_map, List.length_reverse, List.length_reverse, List.length_take] at h1
 omega
def putB (l : List Sd) (L : List Bo) (b : Bo) : List Bo := if hasX l b.id = true then L.set (lowN l b.id) b else L
def namF (l : List Sd) (ys : List Bo) : List Bo := ys.foldl (putB l) (List.replicate l.length bo0)
theorem putB_len (l : List Sd) (L : List Bo) (b : Bo) : (putB l L b).length = L.length := by
 unfold putB
 split
 · exact List.length_set
 · rfl
theorem namF_snoc (l : List Sd) (ys : List Bo) (b : Bo) : namF l (ys ++ [b]) = putB l (namF l ys) b := by unfold namF; rw [List.foldl_append]; rfl
theorem foldB_len (l : List Sd) : ∀ (ys L : List Bo), (ys.foldl (putB l) L).length = L.length
 | [], _ => rfl
 | b :: ys, L => by rw [List.foldl_cons, foldB_len l ys, putB_len]
theorem namF_len (l : List Sd) (ys : List Bo) : (namF l ys).length = l.length := by unfold namF; rw [foldB_len, List.length_replicate]
theorem put_yes {l : List Sd} {L : List Bo} {b : Bo} (h : hasX l b.id = true) : putB l L b = L.set (lowN l b.id) b := if_pos h
theorem put_no {l : List Sd} {L : List Bo} {b : Bo} (h : hasX l b.id = false) : putB l L b = L := if_neg (by rw [h]; decide)
theorem low_lt {l : List Sd} {n : Int} (hi : incS l = true) (h : hasX l n = true) : lowN l n < l.length := by
 unfold hasX at h
 obtain ⟨k, hk⟩ := Option.isSome_iff_exists.1 h
 rw [low_has hi hk]
 obtain ⟨y, hy, _⟩ := fst_some hk
 exact (List.getElem?_eq_some_iff.1 hy).1
theorem nam_put {l : List Sd} {ys : List (Nat × Bo)} {x : Nat × Bo} (h : hasX l x.2.id = true) : (namF l (ys.map (·.2))).set (lowN l x.2.id) x.2 = namF l ((ys ++ [x]).map (·.2)) := by rw [List.map_append, show [x].map (·.2) = [x.2] from rfl, namF_snoc, put_yes h]
theorem nam_no {l : List Sd} {ys : List (Nat × Bo)} {x : Nat × Bo} (h : hasX l x.2.id = false) : namF l (ys.map (·.2)) = namF l ((ys ++ [x]).map (·.2)) := by rw [List.map_append, show [x].map (·.2) = [x.2] from rfl, namF_snoc, put_no h]
def namedX (bs : List Bo) (l : List Sd) : List Bo := namF l bs.reverse
theorem named_len (bs : List Bo) (l : List Sd) : (namedX bs l).length = l.length := namF_len l _
def NMI (l : List Sd) (q : Option Addr) (d gm g5 g3 : Nat) (ys : List (Nat × Bo)) (K : List (Nat × Obj)) : Prop := K = [(gm, .cells ((namF l (ys.map (·.2))).flatMap boC).toArray 37 (0, 0)), (g5, .cells #[.slice (some ⟨gm, 0, none⟩) l.length l.length] 33 (0, 0)), (g3, .cells #[.slice q l.length d] 38 (0, 0))] ∧ gm ≠ g5 ∧ gm ≠ g3 ∧ g5 ≠ g3
theorem nmi_cells {l : List Sd} {q : Option Addr} {d gm g5 g3 : Nat} (ys : List (Nat × Bo)) (K : List (Nat × Obj)) (h : NMI l q d gm g5 g3 ys K) : ∀ p ∈ K, p.2.isCells = true := by
 obtain ⟨rfl, _⟩ := h
 exact List.forall_mem_cons.2 ⟨rfl, List.forall_mem_cons.2 ⟨rfl, List.forall_mem_cons.2 ⟨rfl, List.forall_mem_nil _⟩⟩⟩
end Go.Proofs.Ytnbfljcilojllaa
namespace Go.Proofs.Ytnbfljcilojllaa
open Go Go.RowKit Tw
set_option maxRecDepth 100000 in
set_option maxHeartbeats 4000000 in
theorem backB_stops (n₀ b1 : Nat) (bs : List Bo) (bp : Option Addr) (bc : Nat) (hl : bs.length ≤ 4000000000) (w0 : World) (hn0 : n₀ ≤ w0.heap.size) (hb1 : w0.heap[b1]? = some (.cells #[.slice bp bs.length bc] 33 (0, 0))) (hc : ∀ W, Below n₀ w0 W → SLV W bp (bs.flatMap boC)) :
   SeqStopsK (FX none) 0 Try.prog 103 #[.pointer (some ⟨b1, 0, none⟩)] encBB (KpT [37] n₀) (fun ys => ys.map (·.2) = bs.reverse) (fun _ => True) bs.length w0 := by
 intro l J Jx W1 hB0 hJa hJxa hYd hJ0
 have hBw : Below n₀ w0 W1 := hB0.mono hn0
 have hR1 : KS (W1 : World) [(b1, .cells #[.slice bp bs.length bc] 33 (0, 0))] W1 := ⟨Below.refl _ _, List.forall_mem_cons.2 ⟨(hB0.block b1 (lt_of_block hb1)).trans hb1, List.forall_mem_nil _⟩⟩
 refine callsIn_of_wp Try.func103 rfl trivial ?_ rfl
 simp only [Try.ntmps103, List.size_toArray, List.length_cons, List.length_nil, Nat.reduceAdd, Nat.reduceSub, Array.replicate_succ, Array.replicate_zero, List.push_toArray, List.append_toArray, List.nil_append, List.cons_append]
 refine wpIn_seq ?_
 refine wp_region_LI (W0 := (W1 : World)) [(b1, .cells #[.slice bp bs.length bc] 33 (0, 0))] Tw.kr (hR1) ?_
 refine lv (v := .slice bp bs.length bc) rfl rfl (yb_cell (off := 0) rfl Tw.kr Tw.m0 Try.underlying33 rfl Tw.kr) ?_
 refine lp (v := .int .i64 ((bs.length : Nat) : Int)) rfl rfl (run_lenL (p := bp) (cap := bc) (n := bs.length) rfl Try.underlying33 Tw.kr) ?_
 refine lp (v := .int .i64 (((bs.length : Nat) : Int) - 1)) rfl rfl (run_bin rfl (vx := (.int .i64 ((bs.length : Nat) : Int))) (vy := (.int .i64 1)) Tw.kr Tw.kr fun w => bi_sub (z := (((bs.length : Nat) : Int) - 1)) rfl (wi_i64 Tw.om) w) ?_
 refine lm (v := .int .i64 (((bs.length : Nat) : Int) - 1)) rfl rfl ?_
 refine wpL_done (fun W2 hW2 => ?_)
 have hR2 : KS (W2 : World) [(b1, .cells #[.slice bp bs.length bc] 33 (0, 0))] W2 := ⟨Below.refl _ _, hW2.2⟩
 have hJ2 := abideK hJa hJ0 hW2
 have hB2 := hBw.trans (hW2.1.mono (Nat.le_trans hn0 hBw.size))
 refine (show Code.wpIn _ _ _ _ _ _ _ from ?_)
 refine wpIn_block ?_
 gi_loopw [3] (fun u3 wr => ∃ (j : Nat) (pre : List (Nat × Bo)), (j ≤ bs.length) ∧ (pre.map (·.2) ++ (bs.take j).reverse = bs.reverse) ∧ (J pre wr) ∧ (Below n₀ w0 wr) ∧ u3 = .int .i64 (((j : Nat) : Int) - 1) ∧ KS (wr : World) [(b1, .cells #[.slice bp bs.length bc] 33 (0, 0))] wr) (fun u3 _ => (intOf u3 + 1).toNat)
 case atStart => exact ⟨bs.length, [], (Nat.le_refl _), (by rw [List.take_length]; rfl), hJ2, hB2, rfl, (hR2.sub (fun p hp => by first | exact hp | (simp only [List.mem_cons, List.mem_append, List.nil_append, List.not_mem_nil, or_assoc, or_false, false_or] at hp ⊢ <;> grind)))⟩
 case round =>
   obtain ⟨j, pre, hj, hxs, hJl2, hBl2, rfl, hL3⟩ := hrel
   have hRl2 := hL3
   refine wpIn_seq ?_
   refine wpIn_seq ?_
   refine wp_region_LI (W0 := (wr : World)) [(b1, .cells #[.slice bp bs.length bc] 33 (0, 0))] Tw.kr (hRl2) ?_
   refine lm (v := .int .i64 (((j : Nat) : Int) - 1)) rfl rfl ?_
   refine lp (v := .bool (!(decide ((((j : Nat) : Int) - 1) < 0)))) rfl rfl (run_bin rfl (vx := (.int .i64 (((j : Nat) : Int) - 1))) (vy := (.int .i64 0)) Tw.kr Tw.kr fun w => bi_geq rfl w) ?_
   refine wpL_done (fun W4 hW4 => ?_)
   have hR4 : KS (W4 : World) [(b1, .cells #[.slice bp bs.length bc] 33 (0, 0))] W4 := ⟨Below.refl _ _, hW4.2⟩
   have hJ4 := abideK hJa hJl2 hW4
   have hB4 := hBl2.trans (hW4.1.mono (Nat.le_trans hn0 hBl2.size))
   refine (show Code.wpIn _ _ _ _ _ _ _ from ?_)
   cases hd1 : (decide ((((j : Nat) : Int) - 1) < 0)) with
   | false =>
     have h1 : ¬ ((((j : Nat) : Int) - 1) < 0) := of_decide_eq_false hd1
     clear hd1
     obtain ⟨m, rfl⟩ : ∃ m, j = m + 1 := ⟨j - 1, by omega⟩
     have hmb : m < bs.length := by omega
     rw [show (((m + 1 : Nat) : Int) - 1) = ((m : Nat) : Int) from by omega]
     refine wpIn_cond_true rfl ?_
     refine wpIn_skip ?_
     refine (show Code.wpIn _ _ _ _ _ _ _ from ?_)
     refine wpIn_seq ?_
     refine wpIn_block ?_
     refine wpIn_seq ?_
     refine wp_region_S (W0 := (W4 : World)) (List.take 6 _) (List.drop 6 _) [(b1, .cells #[.slice bp bs.length bc] 33 (0, 0))] (List.take_append_drop 6 _).symm Tw.kr (hR4) ?_
     simp only [List.take_succ_cons, List.take_zero, List.drop_succ_cons, List.drop_zero]
     refine lm (v := .func (.yield l) #[] #[]) rfl rfl ?_
     refine lm (v := .int .i64 ((m : Nat) : Int)) rfl rfl ?_
     refine lv (v := .slice bp bs.length bc) rfl rfl (yb_cell (off := 0) rfl Tw.kr Tw.m0 Try.underlying33 rfl Tw.kr) ?_
     refine lm (v := .int .i64 ((m : Nat) : Int)) rfl rfl ?_
     obtain ⟨y6, g6_, f6_, hy6, hp6, hc6⟩ := RL.at (RL.base (hc _ hB4)) boC_len (by decide) (hR4.sub (fun _ h => by cases h)) (k := m) Tw.om
     refine lp (v := .pointer (some ⟨g6_, f6_ + m * 9, none⟩)) rfl rfl (run_idxQ (p := bp) (cap := bc) (n := bs.length) (j := .i64) (k := m) (sz := 9) rfl Try.underlying33 Tw.kr Tw.kr hp6 Tw.kr Tw.om) ?_
     refine lv (v := .agg (boC y6).toArray) rfl rfl (yb_rs (off := f6_ + m * 9) (cs := boC y6) rfl Tw.kr (fun W hW => hc6 W (hW.sub (fun _ h => by cases h))) Try.underlying37 rfl Tw.kr) ?_
     refine wpL_done (fun W5 hW5 => ?_)
     have hR5 : KS (W5 : World) [(b1, .cells #[.slice bp bs.length bc] 33 (0, 0))] W5 := ⟨Below.refl _ _, hW5.2⟩
     have hJ5 := abideK hJa hJ4 hW5
     have hB5 := hB4.trans (hW5.1.mono (Nat.le_trans hn0 hB4.size))
     refine (show wpListIn _ _ _ _ _ _ _ _ from ?_)
     have hYY := hYd pre (m, y6) W5 hJ5 (rv_room hxs hmb)
     refine wpl_yield2 rfl rfl Tw.kr Tw.kr Tw.kr Tw.kr rfl hYY Tw.pu Tw.pu (fun W6 hA6 => ?_) (fun W6 hX6 => ?_)
     · obtain ⟨hJy6, hKy6⟩ := hA6
       have hko6 : ∀ p ∈ ([(b1, .cells #[.slice bp bs.length bc] 33 (0, 0))] : List (Nat × Obj)), p.2.isCells = true ∧ ownT [37] p.2 = false := (List.forall_mem_cons.2 ⟨⟨rfl, rfl⟩, (List.forall_mem_nil _)⟩)
       have hR6 : KS (W6 : World) [(b1, .cells #[.slice bp bs.length bc] 33 (0, 0))] W6 := ⟨Below.refl _ _, fun p hp => hKy6.same _ _ (hR5.2 p hp) (hko6 p hp).1 (hko6 p hp).2⟩
       have hB6 := hB5.trans hKy6.below
       refine wpl_rest (W0 := (W6 : World)) [(b1, .cells #[.slice bp bs.length bc] 33 (0, 0))] Tw.kr (hR6) ?_
       refine lm (v := .bool false) rfl rfl ?_
       refine wpL_done (fun W7 hW7 => ?_)
       have hR7 : KS (W7 : World) [(b1, .cells #[.slice bp bs.length bc] 33 (0, 0))] W7 := ⟨Below.refl _ _, hW7.2⟩
       have hJ7 := abideK hJa hJy6 hW7
       have hB7 := hB6.trans (hW7.1.mono (Nat.le_trans hn0 hB6.size))
       refine (show Code.wpIn _ _ _ _ _ _ _ from ?_)
       refine wpIn_cond_false rfl ?_
       refine wpIn_skip ?_
       refine (show Code.wpIn _ _ _ _ _ _ _ from ?_)
       refine wp_region_LI (W0 := (W7 : World)) [(b1, .cells #[.slice bp bs.length bc] 33 (0, 0))] Tw.kr (hR7) ?_
       refine lm (v := .int .i64 ((m : Nat) : Int)) rfl rfl ?_
       refine lp (v := .int .i64 (((m : Nat) : Int) - 1)) rfl rfl (run_bin rfl (vx := (.int .i64 ((m : Nat) : Int))) (vy := (.int .i64 1)) Tw.kr Tw.kr fun w => bi_sub (z := (((m : Nat) : Int) - 1)) rfl (wi_i64 Tw.om) w) ?_
       refine lm (v := .int .i64 (((m : Nat) : Int) - 1)) rfl rfl ?_
       refine wpL_done (fun W8 hW8 => ?_)
       have hR8 : KS (W8 : World) [(b1, .cells #[.slice bp bs.length bc] 33 (0, 0))] W8 := ⟨Below.refl _ _, hW8.2⟩
       have hJ8 := abideK hJa hJ7 hW8
       have hB8 := hB7.trans (hW8.1.mono (Nat.le_trans hn0 hB7.size))
       go_roundw
       case rel =>
         repeat apply Exists.intro
         exact ⟨⟨m, (pre ++ [(m, y6)]), Tw.om, (rv_next hxs hy6), hJ8, hB8, rfl, (hR8.sub (fun p hp => by first | exact hp | (simp only [List.mem_cons, List.mem_append, List.nil_append, List.not_mem_nil, or_assoc, or_false, false_or] at hp ⊢ <;> grind)))⟩, rfl⟩
       case measure => (show (intOf (.int .i64 (((m : Nat) : Int) - 1)) + 1).toNat < (intOf (.int .i64 ((m : Nat) : Int)) + 1).toNat); simp only [intOf]; omega
     · refine wpl_rest (W0 := (W6 : World)) [] Tw.kr ((KS.start W6)) ?_
       refine lm (v := .bool true) rfl rfl ?_
       refine wpL_done (fun W9 hW9 => ?_)
       refine (show Code.wpIn _ _ _ _ _ _ _ from ?_)
       refine wpIn_cond_true rfl ?_
       refine wpIn_ret ?_
       try simp only [inBlock_ret, then_ret]
       refine bodyPost_ret (results_none rfl _ _ _) rfl ?_
       exact ⟨⟨_, rfl⟩, .inr ⟨_, trivial, abideK hJxa hX6 hW9⟩⟩
   | true =>
     have h1 : (((j : Nat) : Int) - 1) < 0 := of_decide_eq_true hd1
     clear hd1
     obtain rfl : j = 0 := by omega
     refine wpIn_cond_false rfl ?_
     refine wpIn_exit ?_
     simp only [then_exitX, inBlock_exitX]
     refine bodyPost_end (results_none rfl _ _ _) rfl ?_
     exact ⟨⟨_, rfl⟩, .inl ⟨_, (List.append_nil _).symm.trans hxs, hJ4⟩⟩
set_option maxRecDepth 100000 in
set_option maxHeartbeats 4000000 in
theorem BackwardB_any {W0 : Base} {K : List (Nat × Obj)} (p : Option Addr) (n c : Nat) (w : World) (hw : KS W0 K w) : Calls Try.prog 87 #[.slice p n c] w fun e w' => ∃ v K', e = .returned v ∧ KS W0 K' w' ∧ (∃ b1, v = .func (.func 103) #[] #[.pointer (some ⟨b1, 0, none⟩)] ∧ K' = K ++ [(b1, .cells #[.slice p n c] 33 (0, 0))] ∧ (∀ p ∈ K, p.1 ≠ b1) ∧ w.heap.size ≤ b1 ∧ Below w.heap.size w w') := by
 go_enter Try.func87, Try.ntmps87
 refine wp_seq ?_
 refine wp_region_L [] (KS.start w) ?_
 refine wpL_new (fun g => .pointer (some ⟨g, 0, none⟩)) (obi := .cells #[.slice p n c] 33 (0, 0)) rfl rfl Tw.kf Tw.pf fun g1 Bg1 Fg1 => ?_
 refine lm (v := .nilFunc) rfl rfl ?_
 refine wpL_done (fun W1 hW1 => ?_)
 change Code.wp ..
 refine wp_seq ?_
 refine wp_region_L _ hW1 ?_
 refine lm (v := .func (.func 103) #[] #[.pointer (some ⟨g1, 0, none⟩)]) rfl rfl ?_
 refine lm (v := .func (.func 103) #[] #[.pointer (some ⟨g1, 0, none⟩)]) rfl rfl ?_
 refine wpL_done (fun W2 hW2 => ?_)
 change Code.wp ..
 refine wp_ret ?_
 try simp only [inBlock_ret, then_ret]
 refine bodyPost_ret (v := .func (.func 103) #[] #[.pointer (some ⟨g1, 0, none⟩)]) ?_ rfl ?_
 · kernel_rfl
 · exact ⟨_, _, rfl, ⟨(hw.below hW2.1).1, fun p hp => by rcases List.mem_append.1 hp with hp | hp; exact (hw.below hW2.1).2 p hp; exact hW2.2 p hp⟩, g1, rfl, rfl, (fun p hp e => by have h8 := lt_of_block (hw.2 p hp); have h9 : w.heap.size ≤ g1 := (by assumption); omega), by assumption, hW2.1⟩
end Go.Proofs.Ytnbfljcilojllaa
namespace Go.Proofs.Ytnbfljcilojllaa
open Go Go.RowKit Tw
set_option maxRecDepth 100000 in
set_option maxHeartbeats 4000000 in
theorem named_any (bs : List Bo) (bp : Option Addr) (bc : Nat) (hl : bs.length ≤ 4000000000) (l : List Sd) (lq : Option Addr) (ld : Nat) (hm : l.length ≤ 4000000000) (hi : incS l = true) (w : World) (hp : SLV w bp (bs.flatMap boC)) (hq : SLV w lq (l.flatMap sdC)) : Calls Try.prog 69 #[.slice bp bs.length bc, .slice lq l.length ld] w fun e w' => ∃ v, e = .returned v ∧ OutV w w' 37 9 v (namedX bs l).length ((namedX bs l).flatMap boC) ∧ Below w.heap.size w w' := by
 have HP := Lib.hid hp
 clear hp
 have HQ := Lib.hid hq
 clear hq
 refine (callsIn_wide (n := 0)).1 ?_
 refine callsIn_of_wp_marks Try.func69 rfl trivial ?_
 simp only [Try.ntmps69, List.size_toArray, List.length_cons, List.length_nil, Nat.reduceAdd, Nat.reduceSub, Array.replicate_succ, Array.replicate_zero, List.push_toArray, List.append_toArray, List.nil_append, List.cons_append]
 refine wpIn_seq ?_
 refine wp_region_LI (W0 := (w : World)) [] Tw.kr ((KS.start w)) ?_
 refine wpL_new (fun g => .pointer (some ⟨g, 0, none⟩)) (obi := .cells #[.slice lq l.length ld] 38 (0, 0)) rfl rfl Tw.kf Tw.pf fun g1 Bg1 Fg1 => ?_
 refine lm (v := .slice none 0 0) rfl rfl ?_
 refine wpL_done (fun W1 hW1 => ?_)
 refine (show Code.wpIn _ _ _ _ _ _ _ from ?_)
 refine wpIn_seq ?_
 refine wp_region_LI (W0 := (w : World)) [(g1, .cells #[.slice lq l.length ld] 38 (0, 0))] Tw.kr (hW1) ?_
 refine lv (v := .slice lq l.length ld) rfl rfl (yb_cell (off := 0) rfl Tw.kr Tw.m0 Try.underlying38 rfl Tw.kr) ?_
 refine lp (v := .int .i64 ((l.length : Nat) : Int)) rfl rfl (run_lenL (p := lq) (cap := ld) (n := l.length) rfl Try.underlying38 Tw.kr) ?_
 refine wpL_new (fun g => .slice (some ⟨g, 0, none⟩) l.length l.length) (obi := .cells ((List.replicate l.length bo0).flatMap boC).toArray 37 (0, 0)) rfl rfl (run_mkR bo0 (n := l.length) (sz := 9) (b := 64) rfl Try.underlying33 Tw.kr boC_len (by decide) (by decide) (by decide) Tw.kr Tw.kr Tw.om) Tw.pf fun g2 Bg2 Fg2 => ?_
 obtain dj3_0 : g1 ≠ g2 := Tw.dkf Fg2
 refine wpL_new (fun g => .pointer (some ⟨g, 0, none⟩)) (obi := .cells #[.slice none 0 0] 33 (0, 0)) rfl rfl Tw.kf Tw.pf fun g4 Bg4 Fg4 => ?_
 obtain ⟨dj5_0, dj5_1⟩ : g2 ≠ g4 ∧ g1 ≠ g4 := Tw.dkf Fg4
 refine wpL_s [(g4, .cells #[.slice (some ⟨g2, 0, none⟩) l.length l.length] 33 (0, 0)), (g2, .cells ((List.replicate l.length bo0).flatMap boC).toArray 37 (0, 0)), (g1, .cells #[.slice lq l.length ld] 38 (0, 0))] rfl rfl (st_row (off := 0) (v := .slice (some ⟨g2, 0, none⟩) l.length l.length) rfl Tw.kr Tw.kr Tw.m0 Bg4 Tw.kr (by first | (simp [Value.cells]; done) | exact Nat.le_of_ble_eq_true rfl) (by intro v hv; simp [Value.cells] at hv; first | (subst hv; rfl) | (rcases hv with rfl <;> rfl)) Tw.kr (List.forall_mem_cons.2 ⟨.inl rfl, (List.forall_mem_cons.2 ⟨.inr ⟨Tw.m1, Tw.nee⟩, (List.forall_mem_cons.2 ⟨.inr ⟨Tw.m2, Tw.nee⟩, (List.forall_mem_nil _)⟩)⟩)⟩)) ?_
 refine wpL_done (fun W2 hW2 => ?_)
 refine (show Code.wpIn _ _ _ _ _ _ _ from ?_)
 refine wpIn_seq ?_
 refine wpIn_seq ?_
 refine wp_region_LI (W0 := (w : World)) [(g4, .cells #[.slice (some ⟨g2, 0, none⟩) l.length l.length] 33 (0, 0)), (g2, .cells ((List.replicate l.length bo0).flatMap boC).toArray 37 (0, 0)), (g1, .cells #[.slice lq l.length ld] 38 (0, 0))] Tw.kr (hW2) ?_
 refine lm (v := .slice bp bs.length bc) rfl rfl ?_
 refine wpL_c (f := 87) (args := #[.slice bp bs.length bc]) (fun v K9 => ∃ b1, v = .func (.func 103) #[] #[.pointer (some ⟨b1, 0, none⟩)] ∧ K9 = [(g4, .cells #[.slice (some ⟨g2, 0, none⟩) l.length l.length] 33 (0, 0)), (g2, .cells ((List.replicate l.length bo0).flatMap boC).toArray 37 (0, 0)), (g1, .cells #[.slice lq l.length ld] 38 (0, 0))] ++ [(b1, Obj.cells #[.slice bp bs.length bc] 33 (0, 0))] ∧ (∀ p : Nat × Obj, p ∈ ([(g4, .cells #[.slice (some ⟨g2, 0, none⟩) l.length l.length] 33 (0, 0)), (g2, .cells ((List.replicate l.length bo0).flatMap boC).toArray 37 (0, 0)), (g1, .cells #[.slice lq l.length ld] 38 (0, 0))] : List (Nat × Obj)) → p.1 ≠ b1)) rfl Tw.kr Tw.kf (fun W hW => ((BackwardB_any bp bs.length bc W hW).mono fun e w' ⟨v, K9, h1, h2, b1, h3, h4, h5, _, _⟩ => ⟨v, K9, h1, h2, b1, h3, h4, h5⟩)) Tw.pf ?_
 rintro _ _ ⟨b6, rfl, rfl, hne6⟩
 refine wpL_done (fun W3 hW3 => ?_)
 refine (show Code.wpIn _ _ _ _ _ _ _ from ?_)
 refine wpIn_block ?_
 have hne1 : g2 ≠ g4 := Tw.nee
 have hne2 : g2 ≠ g1 := Tw.nee
 have hne3 : g4 ≠ g1 := Tw.nee
 have hgBm : w.heap.size ≤ g2 := by assumption
 have hK0 : KS (w : World) [(g2, .cells ((List.replicate l.length bo0).flatMap boC).toArray 37 (0, 0)), (g4, .cells #[.slice (some ⟨g2, 0, none⟩) l.length l.length] 33 (0, 0)), (g1, .cells #[.slice lq l.length ld] 38 (0, 0))] W3 := hW3.sub (List.forall_mem_cons.2 ⟨Tw.m1, List.forall_mem_cons.2 ⟨Tw.m0, List.forall_mem_cons.2 ⟨Tw.m2, List.forall_mem_nil _⟩⟩⟩)
 refine range_k (α := Nat × Bo) (ts := [37]) (gf := 103) (lb := #[.pointer (some ⟨b6, 0, none⟩)]) Tw.kr (fun _ _ => by kernel_rfl) (encs := encBB) (w : World) (backB_stops w.heap.size b6 bs bp bc hl W3 hW3.1.size (hW3.2 _ Tw.m3) (fun V hV => HP.out.keep (hW3.1.trans hV))) (Below.refl _ _) (fun _ => rfl) (NMI l lq ld g2 g4 g1) (fun _ _ => False) nmi_cells (fun _ _ h => h.elim) ⟨rfl, hne1, hne2, hne3⟩ hK0 ?round ?done ?stop
 case round =>
   rintro L pre x K W ⟨rfl, _⟩ hK hlen
   have hn : (w : Base).B ≤ W.heap.size := hK.size
   obtain ⟨Kr, hKr⟩ : ∃ Kr, Kr = restT [37] W := ⟨_, rfl⟩
   have hS := at_start [37] hn hK
   rw [← hKr] at hS
   have f1 : Dk g2 Kr := by rw [hKr]; exact restT_ne (hK.2 _ Tw.m0) rfl
   generalize hF : Array.foldl _ _ _ _ _ = F
   obtain rfl : F = #[.slice bp bs.length bc, .slice lq l.length ld, undef, .pointer (some ⟨g1, 0, none⟩), .slice none 0 0, .pointer (some ⟨g4, 0, none⟩), undef, undef, undef, undef, .slice lq l.length ld, .int .i64 ((l.length : Nat) : Int), .slice (some ⟨g2, 0, none⟩) l.length l.length, .slice bp bs.length bc, .func (.func 103) #[] #[.pointer (some ⟨b6, 0, none⟩)], .int .i64 ((x.1 : Nat) : Int), .agg (boC x.2).toArray, undef, undef, undef, undef, undef, undef, undef, undef, undef, undef, undef, undef, undef] := hF.symm.trans Tw.kr
   clear hF
   have hRL1 : RL sdC (atB (w : Base) W hn) lq l [] := fun V hV => HQ.out.keep (hK.1.trans hV.1)
   refine wp_region_LI (W0 := (atB (w : Base) W hn)) ((g2, .cells ((namF l (pre.map (fun y : Nat × Bo => y.2))).flatMap boC).toArray 37 (0, 0)) :: (g4, .cells #[.slice (some ⟨g2, 0, none⟩) l.length l.length] 33 (0, 0)) :: (g1, .cells #[.slice lq l.length ld] 38 (0, 0)) :: Kr) Tw.kr (hS) ?_
   refine wpL_new (fun g => .pointer (some ⟨g, 0, none⟩)) (obi := .cells #[.int .i64 0, strV [], .int .u8 0, .bool false, .int .i64 0, .int .i64 0, .int .i64 0, .int .u8 0, .bool false] 37 (0, 0)) rfl rfl Tw.kf Tw.pf fun g7 Bg7 Fg7 => ?_
   obtain ⟨dj8_0, dj8_1, dj8_2, dj8_3⟩ : g2 ≠ g7 ∧ g4 ≠ g7 ∧ g1 ≠ g7 ∧ Dk g7 Kr := Tw.dkf Fg7
   refine wpL_s ((g7, .cells (boC x.2).toArray 37 (0, 0)) :: (g2, .cells ((namF l (pre.map (fun y : Nat × Bo => y.2))).flatMap boC).toArray 37 (0, 0)) :: (g4, .cells #[.slice (some ⟨g2, 0, none⟩) l.length l.length] 33 (0, 0)) :: (g1, .cells #[.slice lq l.length ld] 38 (0, 0)) :: Kr) rfl rfl (st_row (off := 0) (v := .agg (boC x.2).toArray) rfl Tw.kr Tw.kr Tw.m0 Bg7 Tw.kr (by first | (simp [Value.cells]; done) | exact Nat.le_of_ble_eq_true rfl) (fun v hv => boC_one x.2 v hv) Tw.kr (List.forall_mem_cons.2 ⟨.inl rfl, (List.forall_mem_cons.2 ⟨.inr ⟨Tw.m1, Tw.nee⟩, (List.forall_mem_cons.2 ⟨.inr ⟨Tw.m2, Tw.nee⟩, (List.forall_mem_cons.2 ⟨.inr ⟨Tw.m3, Tw.nee⟩, (fun p hp => .inr ⟨(.tail _ (.tail _ (.tail _ (.tail _ hp)))), ((show Dk g7 Kr from Tw.djt) _ hp)⟩)⟩)⟩)⟩)⟩)) ?_
   refine wpL_done (fun W4 hW4 => ?_)
   refine (show (KpA [37] W W4 ∧ Below (w : Base).B W W4 ∧ ∃ K2, (∀ p ∈ K2, p.2.isCells = true) ∧ KS (w : Base) K2 W4 ∧ ∀ W3, KS (w : Base) K2 W3 → _) from ?_)
   refine ⟨at_kp hW4 (fun p hp => by rw [← hKr] at hp; simp only [List.mem_cons, List.mem_append, hp, or_true]), hW4.1, ((g7, .cells (boC x.2).toArray 37 (0, 0)) :: [(g2, .cells ((namF l (pre.map (fun y : Nat × Bo => y.2))).flatMap boC).toArray 37 (0, 0)), (g4, .cells #[.slice (some ⟨g2, 0, none⟩) l.length l.length] 33 (0, 0)), (g1, .cells #[.slice lq l.length ld] 38 (0, 0))]), List.forall_mem_cons.2 ⟨rfl, List.forall_mem_cons.2 ⟨rfl, List.forall_mem_cons.2 ⟨rfl, List.forall_mem_cons.2 ⟨rfl, List.forall_mem_nil _⟩⟩⟩⟩, (at_back hK hW4).sub (fun p hp => by simp only [List.mem_cons, List.mem_append, List.not_mem_nil, or_false] at hp ⊢; grind), fun V3 hV3 => ?_⟩
   have hn3 : (w : Base).B ≤ V3.heap.size := hV3.size
   obtain ⟨Kq, hKq⟩ : ∃ Kq, Kq = restT [37] V3 := ⟨_, rfl⟩
   have hS3 := at_start [37] hn3 hV3
   rw [← hKq] at hS3
   have f3 : Dk g2 Kq := by rw [hKq]; exact restT_ne (hV3.2 _ Tw.m1) rfl
   have f4 : Dk g7 Kq := by rw [hKq]; exact restT_ne (hV3.2 _ Tw.m0) rfl
   have hRL3 : RL sdC (atB (w : Base) V3 hn3) lq l [] := fun V hV => HQ.out.keep (hV3.1.trans hV.1)
   refine wpIn_block ?_
   refine wpIn_seq ?_
   refine wp_region_LI (W0 := (atB (w : Base) V3 hn3)) ((g7, .cells (boC x.2).toArray 37 (0, 0)) :: (g2, .cells ((namF l (pre.map (fun y : Nat × Bo => y.2))).flatMap boC).toArray 37 (0, 0)) :: (g4, .cells #[.slice (some ⟨g2, 0, none⟩) l.length l.length] 33 (0, 0)) :: (g1, .cells #[.slice lq l.length ld] 38 (0, 0)) :: Kq) Tw.kr (hS3) ?_
   refine lv (v := .slice lq l.length ld) rfl rfl (yb_cell (off := 0) rfl Tw.kr Tw.m3 Try.underlying38 rfl Tw.kr) ?_
   refine lm (v := .pointer (some ⟨g7, 0, none⟩)) rfl rfl ?_
   refine lv (v := .int .i64 x.2.id) rfl rfl (yb_cell (off := 0) rfl Tw.kr Tw.m0 Try.underlying3 rfl Tw.kr) ?_
   refine lv (v := .tuple #[.int .i64 (((lowN l x.2.id) : Nat) : Int), .bool (hasX l x.2.id)]) rfl rfl (yb_call (f := 88) (args := #[.slice lq l.length ld, .int .i64 x.2.id]) Tw.kf fun W hW => place_any l lq ld Tw.om x.2.id hi W (hRL3 _ (hW.sub (fun _ h => by cases h)))) ?_
   refine lm (v := .tuple #[.int .i64 (((lowN l x.2.id) : Nat) : Int), .bool (hasX l x.2.id)]) rfl rfl ?_
   refine lm (v := .int .i64 (((lowN l x.2.id) : Nat) : Int)) rfl rfl ?_
   refine lm (v := .bool (hasX l x.2.id)) rfl rfl ?_
   refine lm (v := .int .i64 (((lowN l x.2.id) : Nat) : Int)) rfl rfl ?_
   refine lm (v := .bool (hasX l x.2.id)) rfl rfl ?_
   refine wpL_done (fun W5 hW5 => ?_)
   refine (show Code.wpIn _ _ _ _ _ _ _ from ?_)
   refine wpIn_seq ?_
   refine wp_region_LI (W0 := (atB (w : Base) V3 hn3)) ((g7, .cells (boC x.2).toArray 37 (0, 0)) :: (g2, .cells ((namF l (pre.map (fun y : Nat × Bo => y.2))).flatMap boC).toArray 37 (0, 0)) :: (g4, .cells #[.slice (some ⟨g2, 0, none⟩) l.length l.length] 33 (0, 0)) :: (g1, .cells #[.slice lq l.length ld] 38 (0, 0)) :: Kq) Tw.kr (hW5) ?_
   refine lm (v := .bool (hasX l x.2.id)) rfl rfl ?_
   refine wpL_done (fun W6 hW6 => ?_)
   refine (show Code.wpIn _ _ _ _ _ _ _ from ?_)
   cases h1 : (hasX l x.2.id) with
   | false =>
     refine wpIn_cond_false rfl ?_
     refine wpIn_skip ?_
     refine (show (KpA [37] V3 W6 ∧ Below (w : Base).B V3 W6 ∧ ∃ K, NMI l lq ld g2 g4 g1 (pre ++ [x]) K ∧ KS (w : Base) K W6) from ?_)
     refine ⟨at_kp hW6 (fun p hp => by rw [← hKq] at hp; simp only [List.mem_cons, List.mem_append, hp, or_true, true_or]), hW6.1, [(g2, .cells ((namF l ((pre ++ [x]).map (fun y : Nat × Bo => y.2))).flatMap boC).toArray 37 (0, 0)), (g4, .cells #[.slice (some ⟨g2, 0, none⟩) l.length l.length] 33 (0, 0)), (g1, .cells #[.slice lq l.length ld] 38 (0, 0))], ⟨rfl, hne1, hne2, hne3⟩, ?_⟩
     rw [← nam_no h1]
     exact (at_back hV3 hW6).sub (fun p hp => by simp only [List.mem_cons, List.mem_append, List.not_mem_nil, or_false] at hp ⊢; grind)
   | true =>
     have hlow := low_lt hi h1
     refine wpIn_cond_true rfl ?_
     refine wp_region_LI (W0 := (atB (w : Base) V3 hn3)) ((g7, .cells (boC x.2).toArray 37 (0, 0)) :: (g2, .cells ((namF l (pre.map (fun y : Nat × Bo => y.2))).flatMap boC).toArray 37 (0, 0)) :: (g4, .cells #[.slice (some ⟨g2, 0, none⟩) l.length l.length] 33 (0, 0)) :: (g1, .cells #[.slice lq l.length ld] 38 (0, 0)) :: Kq) Tw.kr (hW6) ?_
     refine lv (v := .slice (some ⟨g2, 0, none⟩) l.length l.length) rfl rfl (yb_cell (off := 0) rfl Tw.kr Tw.m2 Try.underlying33 rfl Tw.kr) ?_
     refine lm (v := .int .i64 (((lowN l x.2.id) : Nat) : Int)) rfl rfl ?_
     refine lv (v := .agg (boC x.2).toArray) rfl rfl (yb_load (n := 9) (off := 0) rfl Tw.kr Tw.m0 Try.underlying37 rfl Tw.kr (by first | (simp [Value.cells]; done) | exact Nat.le_of_ble_eq_true rfl) Tw.kr) ?_
     refine lp (v := .pointer (some ⟨g2, 0 + (lowN l x.2.id) * 9, none⟩)) rfl rfl (run_idxL (j := .i64) (n := l.length) (cap := l.length) (b := g2) (off := 0) (k := (lowN l x.2.id)) (sz := 9) rfl Try.underlying33 Tw.kr Tw.kr Tw.kr Tw.om) ?_
     refine wpL_s ((g7, .cells (boC x.2).toArray 37 (0, 0)) :: (g2, .cells (((namF l (pre.map (fun y : Nat × Bo => y.2))).set (lowN l x.2.id) x.2).flatMap boC).toArray 37 (0, 0)) :: (g4, .cells #[.slice (some ⟨g2, 0, none⟩) l.length l.length] 33 (0, 0)) :: (g1, .cells #[.slice lq l.length ld] 38 (0, 0)) :: Kq) rfl rfl (st_recR x.2 (k := (lowN l x.2.id)) rfl Tw.kr Tw.kr Tw.m1 (show w.heap.size ≤ _ from hgBm) Tw.kr boC_len (boC_one _) (by rw [namF_len]; exact low_lt hi h1) (List.forall_mem_cons.2 ⟨.inr ⟨Tw.m0, Tw.nee⟩, (List.forall_mem_cons.2 ⟨.inl rfl, (List.forall_mem_cons.2 ⟨.inr ⟨Tw.m2, Tw.nee⟩, (List.forall_mem_cons.2 ⟨.inr ⟨Tw.m3, Tw.nee⟩, (fun p hp => .inr ⟨(.tail _ (.tail _ (.tail _ (.tail _ hp)))), ((show Dk g2 Kq from Tw.djt) _ hp)⟩)⟩)⟩)⟩)⟩)) ?_
     refine wpL_done (fun W7 hW7 => ?_)
     refine (show (KpA [37] V3 W7 ∧ Below (w : Base).B V3 W7 ∧ ∃ K, NMI l lq ld g2 g4 g1 (pre ++ [x]) K ∧ KS (w : Base) K W7) from ?_)
     refine ⟨at_kp hW7 (fun p hp => by rw [← hKq] at hp; simp only [List.mem_cons, List.mem_append, hp, or_true, true_or]), hW7.1, [(g2, .cells ((namF l ((pre ++ [x]).map (fun y : Nat × Bo => y.2))).flatMap boC).toArray 37 (0, 0)), (g4, .cells #[.slice (some ⟨g2, 0, none⟩) l.length l.length] 33 (0, 0)), (g1, .cells #[.slice lq l.length ld] 38 (0, 0))], ⟨rfl, hne1, hne2, hne3⟩, ?_⟩
     rw [← nam_put h1]
     exact (at_back hV3 hW7).sub (fun p hp => by simp only [List.mem_cons, List.mem_append, List.not_mem_nil, or_false] at hp ⊢; grind)
 case stop =>
   rintro D pre K W _ hf
   exact hf.elim
 case done =>
   rintro D ys K W hys ⟨rfl, _⟩ hK hD
   rw [hys] at hK
   refine (show Code.wpIn _ _ _ _ _ _ _ from ?_)
   refine wpIn_seq ?_
   refine wp_region_LI (W0 := (w : World)) [(D, .deferred (some [])), (g2, .cells ((namF l bs.reverse).flatMap boC).toArray 37 (0, 0)), (g4, .cells #[.slice (some ⟨g2, 0, none⟩) l.length l.length] 33 (0, 0)), (g1, .cells #[.slice lq l.length ld] 38 (0, 0))] Tw.kr (hK) ?_
   refine lv (v := .slice (some ⟨g2, 0, none⟩) l.length l.length) rfl rfl (yb_cell (off := 0) rfl Tw.kr Tw.m2 Try.underlying33 rfl Tw.kr) ?_
   refine lm (v := .slice (some ⟨g2, 0, none⟩) l.length l.length) rfl rfl ?_
   refine wpL_done (fun W8 hW8 => ?_)
   refine (show Code.wpIn _ _ _ _ _ _ _ from ?_)
   refine wpIn_ret ?_
   try simp only [inBlock_ret, then_ret]
   have hD4 := hW8.2 (D, _) Tw.m0
   refine ⟨by simp, .inl ⟨_, _, rfl, run_takeDeferred hD4, ?_⟩⟩
   have hle : w.heap.size ≤ D := Nat.le_trans hW3.1.size hD
   exact ⟨.slice (some ⟨g2, 0, none⟩) l.length l.length, Tw.kr, _, rfl, (by have hb := blk_out (l := namedX bs l) (E := 37) boC_len (ks_putN (.deferred none) (hW8.sub (fun p hp => .tail _ hp)) (List.forall_mem_cons.2 ⟨rfl, List.forall_mem_cons.2 ⟨rfl, List.forall_mem_cons.2 ⟨rfl, List.forall_mem_nil _⟩⟩⟩) hle hD4 rfl) Tw.m0 hgBm (by rw [named_len]; unfold maxLen; omega); rw [named_len] at hb ⊢; exact hb), hW8.1.trans (below_put _ hle)⟩
end Go.Proofs.Ytnbfljcilojllaa
