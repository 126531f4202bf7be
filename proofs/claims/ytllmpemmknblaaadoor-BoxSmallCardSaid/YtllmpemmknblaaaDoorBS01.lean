import Derived.Test.YtllmpemmknblaaaDoorBS00
import Derived.Carry
import Derived.MapKept
import Derived.ChangeMaps5
/- Part of the proof: HA, HD, HE, HF, HG, Hm, HH, HI. -/
set_option linter.unusedVariables false
set_option linter.unusedSimpArgs false
set_option linter.unusedSectionVars false
/- Boxes in plain data: which are right, lists of them, what they add up to, their order. Nothing of the program. -/
namespace Go.Proofs.YtllmpemmknblaaaDoor
open Go
structure Bx where
 id : Int
 num : List UInt8
 size : Nat
 high : Bool
 kilos : Int
 load : Int
 dis : Int
 cls : Nat
 rf : Bool
def heightX (b : Bx) : Nat := if b.high = true then 2896 else 2591
def halvesX (b : Bx) : Nat := if b.size = 20 then 1 else if b.size = 40 then 2 else 0
def aboardX (b : Bx) (c : Int) : Bool := decide (b.load ≤ c) && decide (c < b.dis)
def rul1 (b : Bx) : Bool := decide (1 ≤ b.id) && decide (b.id ≤ 999999)
def rul2 (b : Bx) : Bool := decide (b.num = []) || decide (judgeN b.num = 0)
def rul3 (b : Bx) : Bool := decide (b.size = 20) || decide (b.size = 40)
def rul4 (b : Bx) : Bool := !b.high || decide (b.size = 40)
def rul5 (b : Bx) : Bool := decide (1 ≤ b.kilos)
def rulW (n m : Nat) (b : Bx) : Bool := !(decide (b.size = n)) || decide (b.kilos ≤ (m : Int))
def rul8 (b : Bx) : Bool := decide (0 ≤ b.load) && decide (b.load < b.dis)
def rul9 (b : Bx) : Bool := decide (b.dis < 20)
def rul10 (b : Bx) : Bool := decide (b.cls ≤ 9)
def rightX (b : Bx) : Bool := rul1 b && (rul2 b && (rul3 b && (rul4 b && (rul5 b && (rulW 20 32000 b && (rulW 40 40000 b && (rul8 b && (rul9 b && rul10 b))))))))
theorem right_kilos {b : Bx} (h : rightX b = true) : 1 ≤ b.kilos ∧ b.kilos ≤ 40000 := by
 unfold rightX rul5 rul3 rulW at h
 simp only [Bool.and_eq_true, Bool.or_eq_true, Bool.not_eq_true', decide_eq_true_eq, decide_eq_false_iff_not] at h
 omega
theorem halves_le (b : Bx) : halvesX b ≤ 2 := by
 unfold halvesX
 repeat' split
 all_goals omega
-- totals
structure Sm where
 n : Nat
 h : Nat
 k : Int
 r : Nat
 d : Nat
def sm0 : Sm := ⟨0, 0, 0, 0, 0⟩
def addX (s : Sm) (b : Bx) : Sm := if rightX b = true then ⟨s.n + 1, s.h + halvesX b, s.k + b.kilos, s.r + (if b.rf = true then 1 else 0), s.d + (if b.cls = 0 then 0 else 1)⟩ else s
def totalX (l : List Bx) : Sm := l.foldl addX sm0
def plusX (a b : Sm) : Sm := ⟨a.n + b.n, a.h + b.h, a.k + b.k, a.r + b.r, a.d + b.d⟩
theorem total_snoc {l : List Bx} {k : Nat} {b : Bx} (h : l[k]? = some b) : totalX (l.take (k + 1)) = addX (totalX (l.take k)) b := by
 obtain ⟨hk, rfl⟩ := List.getElem?_eq_some_iff.1 h
 unfold totalX
 rw [List.take_succ_eq_append_getElem hk, List.foldl_append]
 rfl
theorem add_plus (s t : Sm) (b : Bx) : addX (plusX s t) b = plusX s (addX t b) := by
 unfold addX plusX
 split
 · simp only [Sm.mk.injEq]; omega
 · rfl
theorem foldl_plus (l : List Bx) : ∀ s t : Sm, l.foldl addX (plusX s t) = plusX s (l.foldl addX t) := by
 induction l with
 | nil => intro s t; rfl
 | cons b l ih => intro s t; rw [List.foldl_cons, List.foldl_cons, add_plus, ih]
theorem plus_zero (s : Sm) : plusX s sm0 = s := by unfold plusX sm0; simp
theorem total_app (l m : List Bx) : totalX (l ++ m) = plusX (totalX l) (totalX m) := by
 unfold totalX
 rw [List.foldl_append, ← foldl_plus, plus_zero]
theorem total_cons (b : Bx) (l : List Bx) : totalX (b :: l) = plusX (totalX [b]) (totalX l) := total_app [b] l
theorem total_le (l : List Bx) : (totalX l).n ≤ l.length ∧ (totalX l).h ≤ 2 * l.length ∧ 0 ≤ (totalX l).k ∧ (totalX l).k ≤ 40000 * l.length ∧ (totalX l).r ≤ l.length ∧ (totalX l).d ≤ l.length := by
 induction l with
 | nil => decide
 | cons b l ih =>
   rw [total_cons]
   obtain ⟨h1, h2, h3, h4, h5, h6⟩ := ih
   have hh := halves_le b
   have : (totalX [b]).n ≤ 1 ∧ (totalX [b]).h ≤ 2 ∧ 0 ≤ (totalX [b]).k ∧ (totalX [b]).k ≤ 40000 ∧ (totalX [b]).r ≤ 1 ∧ (totalX [b]).d ≤ 1 := by
     show (addX sm0 b).n ≤ 1 ∧ (addX sm0 b).h ≤ 2 ∧ 0 ≤ (addX sm0 b).k ∧ (addX sm0 b).k ≤ 40000 ∧ (addX sm0 b).r ≤ 1 ∧ (addX sm0 b).d ≤ 1
     unfold addX sm0
     split
     · rename_i hr
       have := right_kilos hr
       dsimp only
       refine ⟨by omega, by omega, by omega, by omega, ?_, ?_⟩
       · split <;> omega
       · split <;> omega
     · dsimp only; omega
   unfold plusX
   simp only [List.length_cons, Int.natCast_add]
   omega
-- lists
def seenX (l : List Bx) (k : Nat) (n : List UInt8) : Bool := decide (n ≠ []) && (l.take k).any (fun b => decide (b.num = n))
def prevX (l : List Bx) (k : Nat) (b : Bx) : Bool := decide (0 < k) && (match l[k - 1]? with | some c => decide (b.id ≤ c.id) | none => false)
def badX (l : List Bx) (k : Nat) : Bool := match l[k]? with | some b => !rightX b || seenX l k b.num || prevX l k b | none => false
def firstBad (l : List Bx) : Option Nat := (List.range l.length).find? (badX l)
theorem find_range {p : Nat → Bool} {n k : Nat} (hk : k < n) (h : ∀ j, j < k → p j = false) (hp : p k = true) : (List.range n).find? p = some k := by
 rw [List.find?_eq_some_iff_append]
 refine ⟨hp, List.range k, (List.range (n - k - 1)).map (k + 1 + ·), ?_, fun a ha => ?_⟩
 · rw [show n = k + (1 + (n - k - 1)) from by omega, List.range_add, List.range_add]
   simp [Function.comp_def, Nat.add_assoc, List.range_succ]
 · rw [h a (List.mem_range.1 ha)]; rfl
theorem find_none {p : Nat → Bool} {n : Nat} (h : ∀ j, j < n → p j = false) : (List.range n).find? p = none := by
 rw [List.find?_eq_none]
 intro x hx
 rw [h x (List.mem_range.1 hx)]
 decide
theorem firstBad_some {l : List Bx} {k : Nat} (hk : k < l.length) (h : ∀ j, j < k → badX l j = false) (hp : badX l k = true) : firstBad l = some k := find_range hk h hp
theorem firstBad_none {l : List Bx} (h : ∀ j, j < l.length → badX l j = false) : firstBad l = none := find_none h
-- order
def before (a b : Bx) : Bool := decide (b.dis < a.dis) || decide (a.dis = b.dis) && (decide (b.kilos < a.kilos) || decide (a.kilos = b.kilos) && decide (a.id < b.id))
theorem before_iff (a b : Bx) : before a b = true ↔ b.dis < a.dis ∨ a.dis = b.dis ∧ (b.kilos < a.kilos ∨ a.kilos = b.kilos ∧ a.id < b.id) := by
 unfold before
 simp only [Bool.and_eq_true, Bool.or_eq_true, decide_eq_true_eq]
theorem nbefore_iff (a b : Bx) : before a b = false ↔ ¬ (b.dis < a.dis ∨ a.dis = b.dis ∧ (b.kilos < a.kilos ∨ a.kilos = b.kilos ∧ a.id < b.id)) := by
 rw [← before_iff, Bool.not_eq_true]
theorem before_le {a b c : Bx} (h1 : before b a = false) (h2 : before c b = false) : before c a = false := by
 rw [nbefore_iff] at *
 omega
theorem before_as {a b : Bx} (h : before a b = true) : before b a = false := by
 rw [nbefore_iff]
 rw [before_iff] at h
 omega
theorem before_ir (a : Bx) : before a a = false := by rw [nbefore_iff]; omega
def eqv (a b : Bx) : Bool := !before a b && !before b a
def SortedX (l : List Bx) : Prop := l.Pairwise fun a b => before b a = false
def insB (x : Bx) : List Bx → List Bx
 | [] => [x]
 | y :: r => if before x y = true then x :: y :: r else y :: insB x r
def orderX (l : List Bx) : List Bx := l.foldl (fun acc x => insB x acc) []
theorem insB_len (x : Bx) (l : List Bx) : (insB x l).length = l.length + 1 := by
 induction l with
 | nil => rfl
 | cons y r ih => unfold insB; split <;> simp [ih]
theorem insB_mem {x z : Bx} {l : List Bx} : z ∈ insB x l ↔ z = x ∨ z ∈ l := by
 induction l with
 | nil => simp [insB]
 | cons y r ih =>
   unfold insB
   split
   · simp
   · simp only [List.mem_cons, ih]
     constructor
     · rintro (h | h | h)
       · exact .inr (.inl h)
       · exact .inl h
       · exact .inr (.inr h)
     · rintro (h | h | h)
       · exact .inr (.inl h)
       · exact .inl h
       · exact .inr (.inr h)
theorem insB_sorted {x : Bx} {l : List Bx} (h : SortedX l) : SortedX (insB x l) := by
 unfold SortedX at *
 induction l with
 | nil => simp [insB]
 | cons y r ih =>
   rw [List.pairwise_cons] at h
   unfold insB
   split
   · rename_i hb
     rw [List.pairwise_cons, List.pairwise_cons]
     refine ⟨fun z hz => ?_, h⟩
     rcases List.mem_cons.1 hz with rfl | hz
     · exact before_as hb
     · exact before_le (before_as hb) (h.1 z hz)
   · rename_i hb
     rw [List.pairwise_cons]
     refine ⟨fun z hz => ?_, ih h.2⟩
     rcases insB_mem.1 hz with rfl | hz
     · simpa using hb
     · exact h.1 z hz
theorem insB_split {x : Bx} {A B : List Bx} (hA : ∀ y ∈ A, before x y = false) (hB : ∀ y ∈ B, before x y = true) : insB x (A ++ B) = A ++ x :: B := by
 induction A with
 | nil =>
   cases B with
   | nil => rfl
   | cons y r => show insB x (y :: r) = _; unfold insB; rw [if_pos (hB y Tw.m0)]; rfl
 | cons y r ih =>
   show insB x (y :: (r ++ B)) = _
   unfold insB
   rw [if_neg (by rw [hA y Tw.m0]; decide), ih (fun z hz => hA z (.tail _ hz))]
   rfl
theorem order_snoc (l : List Bx) (x : Bx) : orderX (l ++ [x]) = insB x (orderX l) := by unfold orderX; rw [List.foldl_append]; rfl
theorem order_len (l : List Bx) : (orderX l).length = l.length := by
 rw [← List.reverse_reverse l]
 induction l.reverse with
 | nil => rfl
 | cons x l ih => rw [List.reverse_cons, order_snoc, insB_len, ih]; simp
theorem order_sorted (l : List Bx) : SortedX (orderX l) := by
 rw [← List.reverse_reverse l]
 induction l.reverse with
 | nil => exact List.Pairwise.nil
 | cons x l ih => rw [List.reverse_cons, order_snoc]; exact insB_sorted ih
theorem order_mem {z : Bx} {l : List Bx} : z ∈ orderX l ↔ z ∈ l := by
 rw [← List.reverse_reverse l]
 induction l.reverse with
 | nil => exact Iff.rfl
 | cons x l ih => rw [List.reverse_cons, order_snoc, insB_mem, ih]; simp [or_comm]
theorem eqv_before {z x y : Bx} (h : eqv z x = true) (hb : before x y = true) : eqv z y = false := by
 unfold eqv at *
 simp only [Bool.and_eq_true, Bool.not_eq_true', Bool.and_eq_false_iff, Bool.not_eq_false'] at *
 rw [nbefore_iff] at h
 rw [before_iff] at *
 rw [nbefore_iff] at h
 rw [before_iff]
 omega
theorem insB_filter {x : Bx} {l : List Bx} (h : SortedX l) (z : Bx) : (insB x l).filter (eqv z) = l.filter (eqv z) ++ [x].filter (eqv z) := by
 unfold SortedX at h
 induction l with
 | nil => simp [insB]
 | cons y r ih =>
   rw [List.pairwise_cons] at h
   unfold insB
   split
   · rename_i hb
     cases hz : eqv z x with
     | false => simp [List.filter_cons, hz]
     | true =>
       have h0 : (y :: r).filter (eqv z) = [] := by
         rw [List.filter_eq_nil_iff]
         intro w hw
         rw [Bool.not_eq_true]
         rcases List.mem_cons.1 hw with rfl | hw
         · exact eqv_before hz hb
         · refine eqv_before (x := x) hz ?_
           have h1 := h.1 w hw
           rw [nbefore_iff] at h1
           rw [before_iff] at *
           omega
       rw [List.filter_cons, if_pos hz, h0]
       simp [hz]
   · rw [List.filter_cons, List.filter_cons]
     split
     · rw [ih h.2]; rfl
     · exact ih h.2
theorem order_filter (l : List Bx) (z : Bx) : (orderX l).filter (eqv z) = l.filter (eqv z) := by
 rw [← List.reverse_reverse l]
 induction l.reverse with
 | nil => rfl
 | cons x l ih => rw [List.reverse_cons, order_snoc, insB_filter (order_sorted _), ih, List.filter_append]
theorem eqv_refl (a : Bx) : eqv a a = true := by unfold eqv; rw [before_ir]; rfl
theorem sorted_eq : ∀ {A B : List Bx}, SortedX A → SortedX B → (∀ z, A.filter (eqv z) = B.filter (eqv z)) → A = B
 | [], [], _, _, _ => rfl
 | [], y :: B, _, _, h => by have := h y; rw [List.filter_cons, if_pos (eqv_refl y)] at this; cases this
 | x :: A, [], _, _, h => by have := h x; rw [List.filter_cons, if_pos (eqv_refl x)] at this; cases this
 | x :: A, y :: B, hA, hB, h => by
   unfold SortedX at hA hB
   have hA' := List.pairwise_cons.1 hA
   have hB' := List.pairwise_cons.1 hB
   have h1 : before y x = false := by
     have hy : y ∈ (x :: A).filter (eqv y) := by rw [h y]; exact List.mem_filter.2 ⟨.head _, eqv_refl y⟩
     rcases List.mem_cons.1 (List.mem_filter.1 hy).1 with e | hy
     · rw [e]; exact before_ir x
     · exact hA'.1 y hy
   have h2 : before x y = false := by
     have hx : x ∈ (y :: B).filter (eqv x) := by rw [← h x]; exact List.mem_filter.2 ⟨.head _, eqv_refl x⟩
     rcases List.mem_cons.1 (List.mem_filter.1 hx).1 with e | hx
     · rw [e]; exact before_ir y
     · exact hB'.1 x hx
   have he : eqv x y = true := by unfold eqv; rw [h1, h2]; rfl
   have h3 := h x
   rw [List.filter_cons, List.filter_cons, if_pos (eqv_refl x), if_pos he] at h3
   obtain rfl := (List.cons.inj h3).1
   congr 1
   refine sorted_eq hA'.2 hB'.2 fun z => ?_
   have h4 := h z
   rw [List.filter_cons, List.filter_cons] at h4
   split at h4
   · exact (List.cons.inj h4).2
   · exact h4
theorem order_is {l R : List Bx} (h1 : SortedX R) (h2 : ∀ z, R.filter (eqv z) = l.filter (eqv z)) : R = orderX l := sorted_eq h1 (order_sorted l) fun z => by rw [h2, order_filter]
theorem order_idem {l : List Bx} (h : SortedX l) : orderX l = l := (order_is h fun _ => rfl).symm
end Go.Proofs.YtllmpemmknblaaaDoor
/- Boxes as values of the program, and lists of them that are read. -/
namespace Go.Proofs.YtllmpemmknblaaaDoor
open Go Go.RowKit Tw
theorem z_is {k : IntKind} {m n : Int} (h : m = n) : Ending.returned (.int k m) = .returned (.int k n) := by rw [h]
theorem ret_v {u v : Value} (h : u = v) : Ending.returned u = .returned v := by rw [h]
def bxC (b : Bx) : Array Value := #[.int .i64 b.id, strV b.num, .int .u8 ((b.size : Nat) : Int), .bool b.high, .int .i64 b.kilos, .int .i64 b.load, .int .i64 b.dis, .int .u8 ((b.cls : Nat) : Int), .bool b.rf]
def bxV (b : Bx) : Value := .agg (bxC b)
def bx0 : Bx := ⟨0, [], 0, false, 0, 0, 0, 0, false⟩
def bcs (l : List Bx) : List Value := l.flatMap fun b => (bxC b).toList
theorem bcs_len (l : List Bx) : (bcs l).length = l.length * 9 := by
 induction l with
 | nil => rfl
 | cons b l ih => show ((bxC b).toList ++ bcs l).length = _; rw [List.length_append, ih]; show 9 + l.length * 9 = (l.length + 1) * 9; omega
theorem bcs_app (l m : List Bx) : bcs (l ++ m) = bcs l ++ bcs m := by unfold bcs; rw [List.flatMap_append]
theorem bcs_one (b : Bx) : bcs [b] = (bxC b).toList := by unfold bcs; simp
theorem bcs_take (l : List Bx) (k : Nat) : (bcs l).take (k * 9) = bcs (l.take k) := by
 rcases Nat.le_total k l.length with hk | hk
 · conv => lhs; rw [← List.take_append_drop k l, bcs_app]
   exact List.take_left' (by rw [bcs_len, List.length_take, Nat.min_eq_left hk])
 · rw [List.take_of_length_le hk, List.take_of_length_le (by rw [bcs_len]; omega)]
theorem bcs_drop (l : List Bx) (k : Nat) : (bcs l).drop (k * 9) = bcs (l.drop k) := by
 rcases Nat.le_total k l.length with hk | hk
 · conv => lhs; rw [← List.take_append_drop k l, bcs_app]
   exact List.drop_left' (by rw [bcs_len, List.length_take, Nat.min_eq_left hk])
 · rw [List.drop_eq_nil_of_le hk, List.drop_eq_nil_of_le (by rw [bcs_len]; omega)]; rfl
theorem bcs_get {l : List Bx} {k j : Nat} {b : Bx} {v : Value} (h : l[k]? = some b) (hv : (bxC b).toList[j]? = some v) : (bcs l)[k * 9 + j]? = some v := by
 obtain ⟨hk, rfl⟩ := List.getElem?_eq_some_iff.1 h
 rw [← List.getElem?_drop, bcs_drop, List.drop_eq_getElem_cons hk]
 show ((bxC l[k]).toList ++ bcs (l.drop (k + 1)))[j]? = some v
 rw [List.getElem?_append_left (List.getElem?_eq_some_iff.1 hv).1]
 exact hv
theorem bcs_onec (l : List Bx) : ∀ v ∈ bcs l, v.oneCell' = true := by
 intro v hv
 obtain ⟨b, _, hb⟩ := List.mem_flatMap.1 hv
 unfold bxC strV at hb
 simp only [List.mem_cons, List.not_mem_nil, or_false] at hb
 rcases hb with rfl | rfl | rfl | rfl | rfl | rfl | rfl | rfl | rfl <;> rfl
theorem bl_at {W : World} {p : Option Addr} {l : List Bx} {k : Nat} (h : SLV W p (bcs l)) (hk : k < l.length) :
   ∃ b g off, l[k]? = some b ∧ p = some ⟨g, off, none⟩ ∧ g < W.heap.size ∧ ∀ (j : Nat) (v : Value), (bxC b).toList[j]? = some v → W.cell? ⟨g, off + k * 9 + j, none⟩ = some v := by
 have hy : l[k]? = some l[k] := List.getElem?_eq_getElem hk
 rcases h with h | ⟨g, off, rfl, hlt, hc⟩
 · have := bcs_len l; rw [h] at this; simp at this; omega
 · exact ⟨_, g, off, hy, rfl, hlt, fun j v hv => by rw [Nat.add_assoc]; exact hc _ v (bcs_get hy hv)⟩
theorem slv_take {W : World} {p : Option Addr} {l : List Bx} (n : Nat) (h : SLV W p (bcs l)) : SLV W p (bcs (l.take n)) := by
 rcases h with h | ⟨g, off, rfl, hlt, hc⟩
 · left; rw [← bcs_take, h]; simp
 · right; refine ⟨g, off, rfl, hlt, fun i u hu => hc i u ?_⟩
   rw [← bcs_take, List.getElem?_take] at hu
   split at hu
   · exact hu
   · cases hu
theorem st_bx {W0 : Base} {o : Oper} {a : Act} {K K' : List (Nat × Obj)} {ty t : TypeId} {x y : Operand} {g : Nat} {cs : Array Value} {b : Bx} (ho : o.op = .store ty x y) (hx : a.eval x = .pointer (some ⟨g, 0, none⟩)) (hv : a.eval y = bxV b)
   (hm : (g, .cells cs t (0, 0)) ∈ K) (hc : cs.size = 9) (hB : W0.B ≤ g) (hi : (Tryd.prog.info? ty).map (·.size) = some 9)
   (hK : ∀ p ∈ K', p = (g, .cells (bxC b) t (0, 0)) ∨ (p ∈ K ∧ p.1 ≠ g)) : ∀ w, KS W0 K w → ∃ w', (execOp a.eval o).run Tryd.prog w = .ok .skip w' ∧ KS W0 K' w' :=
 st_row (off := 0) (v := bxV b) ho hx hv hm hB hi (by rw [hc]; exact Nat.le_refl 9) (by show ∀ x ∈ (bxC b).toList, x.oneCell' = true; rw [← bcs_one]; exact bcs_onec _) (by
   have h9 : cs.toList.length = 9 := by simpa using hc
   show bxC b = (cs.toList.take 0 ++ (bxC b).toList ++ cs.toList.drop (0 + 9)).toArray
   rw [List.drop_eq_nil_of_le Tw.om]; simp) hK
theorem el_bx : Elem Tryd.prog 22 26 9 64 (bxV bx0) := Elem.mk' Tryd.underlying22 Tw.kr rfl
end Go.Proofs.YtllmpemmknblaaaDoor
namespace Go.Proofs.YtllmpemmknblaaaDoor
open Go Go.RowKit Tw
set_option maxRecDepth 100000 in
set_option maxHeartbeats 4000000 in
theorem rul1_any (b : Bx) (w : World) : Calls Tryd.prog 55 #[bxV b] w fun e w' => e = .returned (.bool (rul1 b)) ∧ Below w.heap.size w w' := by
 go_enter Tryd.func55, Tryd.ntmps55
 refine wp_seq ?_
 refine wp_region_L [] (KS.start w) ?_
 refine wpL_new (fun g => .pointer (some ⟨g, 0, none⟩)) (obi := .cells (bxC b) 26 (0, 0)) rfl rfl Tw.kf Tw.pf fun g1 Bg1 Fg1 => ?_
 refine lm (v := .bool false) rfl rfl ?_
 refine wpL_done (fun W1 hW1 => ?_)
 change Code.wp ..
 refine wp_seq ?_
 refine wp_region_L _ hW1 ?_
 refine lm (v := .pointer (some ⟨g1, 0, none⟩)) rfl rfl ?_
 refine lv (v := .int .i64 b.id) rfl rfl (yb_cell (off := 0) rfl Tw.kr Tw.m0 Tryd.underlying3 rfl Tw.kr) ?_
 refine lp (v := .bool (!(decide (b.id < 1)))) rfl rfl (run_bin rfl (vx := (.int .i64 b.id)) (vy := (.int .i64 1)) Tw.kr Tw.kr fun w => bi_geq rfl w) ?_
 refine lm (v := .bool (!(decide (b.id < 1)))) rfl rfl ?_
 cases hd1 : (decide (b.id < 1)) with
 | false =>
   have h1 : ¬ (b.id < 1) := of_decide_eq_false hd1
   clear hd1
   refine lm (v := .pointer (some ⟨g1, 0, none⟩)) rfl rfl ?_
   refine lv (v := .int .i64 b.id) rfl rfl (yb_cell (off := 0) rfl Tw.kr Tw.m0 Tryd.underlying3 rfl Tw.kr) ?_
   refine lp (v := .bool (!(decide (999999 < b.id)))) rfl rfl (run_bin rfl (vx := (.int .i64 b.id)) (vy := (.int .i64 999999)) Tw.kr Tw.kr fun w => bi_leq rfl w) ?_
   refine lm (v := .bool (!(decide (999999 < b.id)))) rfl rfl ?_
   refine lm (v := .bool (!(decide (999999 < b.id)))) rfl rfl ?_
   refine wpL_done (fun W2 hW2 => ?_)
   change Code.wp ..
   refine wp_ret ?_
   try simp only [inBlock_ret, then_ret]
   refine bodyPost_ret (v := .bool (!(decide (999999 < b.id)))) ?_ rfl ?_
   · kernel_rfl
   · exact ⟨(bool_is (by rw [Bool.eq_iff_iff]; simp [rul1, *] <;> omega)), hW2.1⟩
 | true =>
   have h1 : b.id < 1 := of_decide_eq_true hd1
   clear hd1
   refine ln rfl ?_
   refine ln rfl ?_
   refine ln rfl ?_
   refine lm (v := .bool false) rfl rfl ?_
   refine lm (v := .bool false) rfl rfl ?_
   refine wpL_done (fun W3 hW3 => ?_)
   change Code.wp ..
   refine wp_ret ?_
   try simp only [inBlock_ret, then_ret]
   refine bodyPost_ret (v := .bool false) ?_ rfl ?_
   · kernel_rfl
   · exact ⟨(bool_is (by rw [Bool.eq_iff_iff]; simp [rul1, *] <;> omega)), hW3.1⟩
set_option maxRecDepth 100000 in
set_option maxHeartbeats 4000000 in
theorem rul2_any (b : Bx) (w : World) : Calls Tryd.prog 56 #[bxV b] w fun e w' => e = .returned (.bool (rul2 b)) ∧ Below w.heap.size w w' := by
 go_enter Tryd.func56, Tryd.ntmps56
 refine wp_seq ?_
 refine wp_region_L [] (KS.start w) ?_
 refine wpL_new (fun g => .pointer (some ⟨g, 0, none⟩)) (obi := .cells (bxC b) 26 (0, 0)) rfl rfl Tw.kf Tw.pf fun g1 Bg1 Fg1 => ?_
 refine lm (v := .bool false) rfl rfl ?_
 refine wpL_done (fun W1 hW1 => ?_)
 change Code.wp ..
 refine wp_seq ?_
 refine wp_region_L _ hW1 ?_
 refine lm (v := .pointer (some ⟨g1, 1, none⟩)) rfl rfl ?_
 refine lv (v := strV b.num) rfl rfl (yb_cell (off := 1) rfl Tw.kr Tw.m0 Tryd.underlying9 rfl Tw.kr) ?_
 refine lp (v := .bool (decide (b.num = []))) rfl rfl (run_bin rfl (vx := strV b.num) (vy := strV []) Tw.kr Tw.kr fun w => bs_eql rfl w) ?_
 refine lm (v := .bool (decide (b.num = []))) rfl rfl ?_
 cases hd1 : (decide (b.num = [])) with
 | false =>
   have h1 : ¬ (b.num = []) := of_decide_eq_false hd1
   clear hd1
   refine lm (v := .pointer (some ⟨g1, 1, none⟩)) rfl rfl ?_
   refine lv (v := strV b.num) rfl rfl (yb_cell (off := 1) rfl Tw.kr Tw.m0 Tryd.underlying9 rfl Tw.kr) ?_
   refine lv (v := .bool (decide (judgeN b.num = 0))) rfl rfl (yb_call (f := 57) (args := #[strV b.num]) Tw.kf fun W hW => Right_any b.num W) ?_
   refine lm (v := .bool (decide (judgeN b.num = 0))) rfl rfl ?_
   refine lm (v := .bool (decide (judgeN b.num = 0))) rfl rfl ?_
   refine wpL_done (fun W2 hW2 => ?_)
   change Code.wp ..
   refine wp_ret ?_
   try simp only [inBlock_ret, then_ret]
   refine bodyPost_ret (v := .bool (decide (judgeN b.num = 0))) ?_ rfl ?_
   · kernel_rfl
   · exact ⟨(bool_is (by rw [Bool.eq_iff_iff]; simp [rul2, *] <;> omega)), hW2.1⟩
 | true =>
   have h1 : b.num = [] := of_decide_eq_true hd1
   clear hd1
   refine ln rfl ?_
   refine ln rfl ?_
   refine ln rfl ?_
   refine lm (v := .bool true) rfl rfl ?_
   refine lm (v := .bool true) rfl rfl ?_
   refine wpL_done (fun W3 hW3 => ?_)
   change Code.wp ..
   refine wp_ret ?_
   try simp only [inBlock_ret, then_ret]
   refine bodyPost_ret (v := .bool true) ?_ rfl ?_
   · kernel_rfl
   · exact ⟨(bool_is (by rw [Bool.eq_iff_iff]; simp [rul2, *] <;> omega)), hW3.1⟩
set_option maxRecDepth 100000 in
set_option maxHeartbeats 4000000 in
theorem rul3_any (b : Bx) (w : World) : Calls Tryd.prog 58 #[bxV b] w fun e w' => e = .returned (.bool (rul3 b)) ∧ Below w.heap.size w w' := by
 go_enter Tryd.func58, Tryd.ntmps58
 refine wp_seq ?_
 refine wp_region_L [] (KS.start w) ?_
 refine wpL_new (fun g => .pointer (some ⟨g, 0, none⟩)) (obi := .cells (bxC b) 26 (0, 0)) rfl rfl Tw.kf Tw.pf fun g1 Bg1 Fg1 => ?_
 refine lm (v := .bool false) rfl rfl ?_
 refine wpL_done (fun W1 hW1 => ?_)
 change Code.wp ..
 refine wp_seq ?_
 refine wp_region_L _ hW1 ?_
 refine lm (v := .pointer (some ⟨g1, 2, none⟩)) rfl rfl ?_
 refine lv (v := .int .u8 ((b.size : Nat) : Int)) rfl rfl (yb_cell (off := 2) rfl Tw.kr Tw.m0 Tryd.underlying5 rfl Tw.kr) ?_
 refine lp (v := .bool (decide (b.size = 20))) rfl rfl (run_bin rfl (vx := (.int .u8 ((b.size : Nat) : Int))) (vy := (.int .u8 ((20 : Nat) : Int))) Tw.kr Tw.kr fun w => bn_eql rfl w) ?_
 refine lm (v := .bool (decide (b.size = 20))) rfl rfl ?_
 cases hd1 : (decide (b.size = 20)) with
 | false =>
   have h1 : ¬ (b.size = 20) := of_decide_eq_false hd1
   clear hd1
   refine lm (v := .pointer (some ⟨g1, 2, none⟩)) rfl rfl ?_
   refine lv (v := .int .u8 ((b.size : Nat) : Int)) rfl rfl (yb_cell (off := 2) rfl Tw.kr Tw.m0 Tryd.underlying5 rfl Tw.kr) ?_
   refine lp (v := .bool (decide (b.size = 40))) rfl rfl (run_bin rfl (vx := (.int .u8 ((b.size : Nat) : Int))) (vy := (.int .u8 ((40 : Nat) : Int))) Tw.kr Tw.kr fun w => bn_eql rfl w) ?_
   refine lm (v := .bool (decide (b.size = 40))) rfl rfl ?_
   refine lm (v := .bool (decide (b.size = 40))) rfl rfl ?_
   refine wpL_done (fun W2 hW2 => ?_)
   change Code.wp ..
   refine wp_ret ?_
   try simp only [inBlock_ret, then_ret]
   refine bodyPost_ret (v := .bool (decide (b.size = 40))) ?_ rfl ?_
   · kernel_rfl
   · exact ⟨(bool_is (by rw [Bool.eq_iff_iff]; simp [rul3, *] <;> omega)), hW2.1⟩
 | true =>
   have h1 : b.size = 20 := of_decide_eq_true hd1
   clear hd1
   refine ln rfl ?_
   refine ln rfl ?_
   refine ln rfl ?_
   refine lm (v := .bool true) rfl rfl ?_
   refine lm (v := .bool true) rfl rfl ?_
   refine wpL_done (fun W3 hW3 => ?_)
   change Code.wp ..
   refine wp_ret ?_
   try simp only [inBlock_ret, then_ret]
   refine bodyPost_ret (v := .bool true) ?_ rfl ?_
   · kernel_rfl
   · exact ⟨(bool_is (by rw [Bool.eq_iff_iff]; simp [rul3, *] <;> omega)), hW3.1⟩
set_option maxRecDepth 100000 in
set_option maxHeartbeats 4000000 in
theorem rul4_any (b : Bx) (w : World) : Calls Tryd.prog 59 #[bxV b] w fun e w' => e = .returned (.bool (rul4 b)) ∧ Below w.heap.size w w' := by
 go_enter Tryd.func59, Tryd.ntmps59
 refine wp_seq ?_
 refine wp_region_L [] (KS.start w) ?_
 refine wpL_new (fun g => .pointer (some ⟨g, 0, none⟩)) (obi := .cells (bxC b) 26 (0, 0)) rfl rfl Tw.kf Tw.pf fun g1 Bg1 Fg1 => ?_
 refine lm (v := .bool false) rfl rfl ?_
 refine wpL_done (fun W1 hW1 => ?_)
 change Code.wp ..
 refine wp_seq ?_
 refine wp_region_L _ hW1 ?_
 refine lm (v := .pointer (some ⟨g1, 3, none⟩)) rfl rfl ?_
 refine lv (v := .bool b.high) rfl rfl (yb_cell (off := 3) rfl Tw.kr Tw.m0 Tryd.underlying4 rfl Tw.kr) ?_
 refine lp (v := .bool (!b.high)) rfl rfl (run_un rfl Tw.kr fun w => un_not w) ?_
 refine lm (v := .bool (!b.high)) rfl rfl ?_
 cases h1 : b.high with
 | false =>
   refine ln rfl ?_
   refine ln rfl ?_
   refine ln rfl ?_
   refine lm (v := .bool true) rfl rfl ?_
   refine lm (v := .bool true) rfl rfl ?_
   refine wpL_done (fun W2 hW2 => ?_)
   change Code.wp ..
   refine wp_ret ?_
   try simp only [inBlock_ret, then_ret]
   refine bodyPost_ret (v := .bool true) ?_ rfl ?_
   · kernel_rfl
   · exact ⟨(bool_is (by rw [Bool.eq_iff_iff]; simp [rul4, *] <;> omega)), hW2.1⟩
 | true =>
   refine lm (v := .pointer (some ⟨g1, 2, none⟩)) rfl rfl ?_
   refine lv (v := .int .u8 ((b.size : Nat) : Int)) rfl rfl (yb_cell (off := 2) rfl Tw.kr Tw.m0 Tryd.underlying5 rfl Tw.kr) ?_
   refine lp (v := .bool (decide (b.size = 40))) rfl rfl (run_bin rfl (vx := (.int .u8 ((b.size : Nat) : Int))) (vy := (.int .u8 ((40 : Nat) : Int))) Tw.kr Tw.kr fun w => bn_eql rfl w) ?_
   refine lm (v := .bool (decide (b.size = 40))) rfl rfl ?_
   refine lm (v := .bool (decide (b.size = 40))) rfl rfl ?_
   refine wpL_done (fun W3 hW3 => ?_)
   change Code.wp ..
   refine wp_ret ?_
   try simp only [inBlock_ret, then_ret]
   refine bodyPost_ret (v := .bool (decide (b.size = 40))) ?_ rfl ?_
   · kernel_rfl
   · exact ⟨(bool_is (by rw [Bool.eq_iff_iff]; simp [rul4, *] <;> omega)), hW3.1⟩
set_option maxRecDepth 100000 in
set_option maxHeartbeats 4000000 in
theorem rul5_any (b : Bx) (w : World) : Calls Tryd.prog 60 #[bxV b] w fun e w' => e = .returned (.bool (rul5 b)) ∧ Below w.heap.size w w' := by
 go_enter Tryd.func60, Tryd.ntmps60
 refine wp_seq ?_
 refine wp_region_L [] (KS.start w) ?_
 refine wpL_new (fun g => .pointer (some ⟨g, 0, none⟩)) (obi := .cells (bxC b) 26 (0, 0)) rfl rfl Tw.kf Tw.pf fun g1 Bg1 Fg1 => ?_
 refine lm (v := .bool false) rfl rfl ?_
 refine wpL_done (fun W1 hW1 => ?_)
 change Code.wp ..
 refine wp_seq ?_
 refine wp_region_L _ hW1 ?_
 refine lm (v := .pointer (some ⟨g1, 4, none⟩)) rfl rfl ?_
 refine lv (v := .int .i64 b.kilos) rfl rfl (yb_cell (off := 4) rfl Tw.kr Tw.m0 Tryd.underlying3 rfl Tw.kr) ?_
 refine lp (v := .bool (!(decide (b.kilos < 1)))) rfl rfl (run_bin rfl (vx := (.int .i64 b.kilos)) (vy := (.int .i64 1)) Tw.kr Tw.kr fun w => bi_geq rfl w) ?_
 refine lm (v := .bool (!(decide (b.kilos < 1)))) rfl rfl ?_
 refine wpL_done (fun W2 hW2 => ?_)
 change Code.wp ..
 refine wp_ret ?_
 try simp only [inBlock_ret, then_ret]
 refine bodyPost_ret (v := .bool (!(decide (b.kilos < 1)))) ?_ rfl ?_
 · kernel_rfl
 · exact ⟨(bool_is (by rw [Bool.eq_iff_iff]; simp [rul5, *] <;> omega)), hW2.1⟩
set_option maxRecDepth 100000 in
set_option maxHeartbeats 4000000 in
theorem rul8_any (b : Bx) (w : World) : Calls Tryd.prog 61 #[bxV b] w fun e w' => e = .returned (.bool (rul8 b)) ∧ Below w.heap.size w w' := by
 go_enter Tryd.func61, Tryd.ntmps61
 refine wp_seq ?_
 refine wp_region_L [] (KS.start w) ?_
 refine wpL_new (fun g => .pointer (some ⟨g, 0, none⟩)) (obi := .cells (bxC b) 26 (0, 0)) rfl rfl Tw.kf Tw.pf fun g1 Bg1 Fg1 => ?_
 refine lm (v := .bool false) rfl rfl ?_
 refine wpL_done (fun W1 hW1 => ?_)
 change Code.wp ..
 refine wp_seq ?_
 refine wp_region_L _ hW1 ?_
 refine lm (v := .pointer (some ⟨g1, 5, none⟩)) rfl rfl ?_
 refine lv (v := .int .i64 b.load) rfl rfl (yb_cell (off := 5) rfl Tw.kr Tw.m0 Tryd.underlying3 rfl Tw.kr) ?_
 refine lp (v := .bool (!(decide (b.load < 0)))) rfl rfl (run_bin rfl (vx := (.int .i64 b.load)) (vy := (.int .i64 0)) Tw.kr Tw.kr fun w => bi_geq rfl w) ?_
 refine lm (v := .bool (!(decide (b.load < 0)))) rfl rfl ?_
 cases hd1 : (decide (b.load < 0)) with
 | false =>
   have h1 : ¬ (b.load < 0) := of_decide_eq_false hd1
   clear hd1
   refine lm (v := .pointer (some ⟨g1, 5, none⟩)) rfl rfl ?_
   refine lv (v := .int .i64 b.load) rfl rfl (yb_cell (off := 5) rfl Tw.kr Tw.m0 Tryd.underlying3 rfl Tw.kr) ?_
   refine lm (v := .pointer (some ⟨g1, 6, none⟩)) rfl rfl ?_
   refine lv (v := .int .i64 b.dis) rfl rfl (yb_cell (off := 6) rfl Tw.kr Tw.m0 Tryd.underlying3 rfl Tw.kr) ?_
   refine lp (v := .bool (decide (b.load < b.dis))) rfl rfl (run_bin rfl (vx := (.int .i64 b.load)) (vy := (.int .i64 b.dis)) Tw.kr Tw.kr fun w => bi_lss rfl w) ?_
   refine lm (v := .bool (decide (b.load < b.dis))) rfl rfl ?_
   refine lm (v := .bool (decide (b.load < b.dis))) rfl rfl ?_
   refine wpL_done (fun W2 hW2 => ?_)
   change Code.wp ..
   refine wp_ret ?_
   try simp only [inBlock_ret, then_ret]
   refine bodyPost_ret (v := .bool (decide (b.load < b.dis))) ?_ rfl ?_
   · kernel_rfl
   · exact ⟨(bool_is (by rw [Bool.eq_iff_iff]; simp [rul8, *] <;> omega)), hW2.1⟩
 | true =>
   have h1 : b.load < 0 := of_decide_eq_true hd1
   clear hd1
   refine ln rfl ?_
   refine ln rfl ?_
   refine ln rfl ?_
   refine ln rfl ?_
   refine ln rfl ?_
   refine lm (v := .bool false) rfl rfl ?_
   refine lm (v := .bool false) rfl rfl ?_
   refine wpL_done (fun W3 hW3 => ?_)
   change Code.wp ..
   refine wp_ret ?_
   try simp only [inBlock_ret, then_ret]
   refine bodyPost_ret (v := .bool false) ?_ rfl ?_
   · kernel_rfl
   · exact ⟨(bool_is (by rw [Bool.eq_iff_iff]; simp [rul8, *] <;> omega)), hW3.1⟩
set_option maxRecDepth 100000 in
set_option maxHeartbeats 4000000 in
theorem rul9_any (b : Bx) (w : World) : Calls Tryd.prog 62 #[bxV b] w fun e w' => e = .returned (.bool (rul9 b)) ∧ Below w.heap.size w w' := by
 go_enter Tryd.func62, Tryd.ntmps62
 refine wp_seq ?_
 refine wp_region_L [] (KS.start w) ?_
 refine wpL_new (fun g => .pointer (some ⟨g, 0, none⟩)) (obi := .cells (bxC b) 26 (0, 0)) rfl rfl Tw.kf Tw.pf fun g1 Bg1 Fg1 => ?_
 refine lm (v := .bool false) rfl rfl ?_
 refine wpL_done (fun W1 hW1 => ?_)
 change Code.wp ..
 refine wp_seq ?_
 refine wp_region_L _ hW1 ?_
 refine lm (v := .pointer (some ⟨g1, 6, none⟩)) rfl rfl ?_
 refine lv (v := .int .i64 b.dis) rfl rfl (yb_cell (off := 6) rfl Tw.kr Tw.m0 Tryd.underlying3 rfl Tw.kr) ?_
 refine lp (v := .bool (decide (b.dis < 20))) rfl rfl (run_bin rfl (vx := (.int .i64 b.dis)) (vy := (.int .i64 20)) Tw.kr Tw.kr fun w => bi_lss rfl w) ?_
 refine lm (v := .bool (decide (b.dis < 20))) rfl rfl ?_
 refine wpL_done (fun W2 hW2 => ?_)
 change Code.wp ..
 refine wp_ret ?_
 try simp only [inBlock_ret, then_ret]
 refine bodyPost_ret (v := .bool (decide (b.dis < 20))) ?_ rfl ?_
 · kernel_rfl
 · exact ⟨(bool_is (by rw [Bool.eq_iff_iff]; simp [rul9, *] <;> omega)), hW2.1⟩
set_option maxRecDepth 100000 in
set_option maxHeartbeats 4000000 in
theorem rul10_any (b : Bx) (w : World) : Calls Tryd.prog 63 #[bxV b] w fun e w' => e = .returned (.bool (rul10 b)) ∧ Below w.heap.size w w' := by
 go_enter Tryd.func63, Tryd.ntmps63
 refine wp_seq ?_
 refine wp_region_L [] (KS.start w) ?_
 refine wpL_new (fun g => .pointer (some ⟨g, 0, none⟩)) (obi := .cells (bxC b) 26 (0, 0)) rfl rfl Tw.kf Tw.pf fun g1 Bg1 Fg1 => ?_
 refine lm (v := .bool false) rfl rfl ?_
 refine wpL_done (fun W1 hW1 => ?_)
 change Code.wp ..
 refine wp_seq ?_
 refine wp_region_L _ hW1 ?_
 refine lm (v := .pointer (some ⟨g1, 7, none⟩)) rfl rfl ?_
 refine lv (v := .int .u8 ((b.cls : Nat) : Int)) rfl rfl (yb_cell (off := 7) rfl Tw.kr Tw.m0 Tryd.underlying5 rfl Tw.kr) ?_
 refine lp (v := .bool (!(decide (9 < b.cls)))) rfl rfl (run_bin rfl (vx := (.int .u8 ((b.cls : Nat) : Int))) (vy := (.int .u8 ((9 : Nat) : Int))) Tw.kr Tw.kr fun w => bn_leq rfl w) ?_
 refine lm (v := .bool (!(decide (9 < b.cls)))) rfl rfl ?_
 refine wpL_done (fun W2 hW2 => ?_)
 change Code.wp ..
 refine wp_ret ?_
 try simp only [inBlock_ret, then_ret]
 refine bodyPost_ret (v := .bool (!(decide (9 < b.cls)))) ?_ rfl ?_
 · kernel_rfl
 · exact ⟨(bool_is (by rw [Bool.eq_iff_iff]; simp [rul10, *] <;> omega)), hW2.1⟩
set_option maxRecDepth 100000 in
set_option maxHeartbeats 4000000 in
theorem carried_in (b : Bx) (n m p q : Nat) (w : World) (hp : w.cell? ⟨p, 0, none⟩ = some (.int .u8 ((n : Nat) : Int))) (hq : w.cell? ⟨q, 0, none⟩ = some (.int .i64 ((m : Nat) : Int))) :
   Calls Tryd.prog 54 #[bxV b, .pointer (some ⟨p, 0, none⟩), .pointer (some ⟨q, 0, none⟩)] w fun e w' => e = .returned (.bool (rulW n m b)) ∧ Below w.heap.size w w' := by
 have HP := Lib.hid hp
 have HQ := Lib.hid hq
 have ltp := World.block_lt_of_cell? _ _ hp
 have ltq := World.block_lt_of_cell? _ _ hq
 clear hp hq
 go_enter Tryd.func54, Tryd.ntmps54
 refine wp_seq ?_
 refine wp_region_L [] (KS.start w) ?_
 refine wpL_new (fun g => .pointer (some ⟨g, 0, none⟩)) (obi := .cells (bxC b) 26 (0, 0)) rfl rfl Tw.kf Tw.pf fun g1 Bg1 Fg1 => ?_
 refine lm (v := .bool false) rfl rfl ?_
 refine wpL_done (fun W1 hW1 => ?_)
 change Code.wp ..
 refine wp_seq ?_
 refine wp_region_L _ hW1 ?_
 refine lm (v := .pointer (some ⟨g1, 2, none⟩)) rfl rfl ?_
 refine lv (v := .int .u8 ((b.size : Nat) : Int)) rfl rfl (yb_cell (off := 2) rfl Tw.kr Tw.m0 Tryd.underlying5 rfl Tw.kr) ?_
 refine lv (v := .int .u8 ((n : Nat) : Int)) rfl rfl (yb_old (off := 0) rfl Tw.kr HP.out ltp Tryd.underlying5 rfl) ?_
 refine lp (v := .bool (!(decide (b.size = n)))) rfl rfl (run_bin rfl (vx := (.int .u8 ((b.size : Nat) : Int))) (vy := (.int .u8 ((n : Nat) : Int))) Tw.kr Tw.kr fun w => bn_neq rfl w) ?_
 refine lm (v := .bool (!(decide (b.size = n)))) rfl rfl ?_
 cases hd1 : (decide (b.size = n)) with
 | false =>
   have h1 : ¬ (b.size = n) := of_decide_eq_false hd1
   clear hd1
   refine ln rfl ?_
   refine ln rfl ?_
   refine ln rfl ?_
   refine ln rfl ?_
   refine lm (v := .bool true) rfl rfl ?_
   refine lm (v := .bool true) rfl rfl ?_
   refine wpL_done (fun W2 hW2 => ?_)
   change Code.wp ..
   refine wp_ret ?_
   try simp only [inBlock_ret, then_ret]
   refine bodyPost_ret (v := .bool true) ?_ rfl ?_
   · kernel_rfl
   · exact ⟨(bool_is (by rw [Bool.eq_iff_iff]; simp [rulW, *] <;> omega)), hW2.1⟩
 | true =>
   have h1 : b.size = n := of_decide_eq_true hd1
   clear hd1
   refine lm (v := .pointer (some ⟨g1, 4, none⟩)) rfl rfl ?_
   refine lv (v := .int .i64 b.kilos) rfl rfl (yb_cell (off := 4) rfl Tw.kr Tw.m0 Tryd.underlying3 rfl Tw.kr) ?_
   refine lv (v := .int .i64 ((m : Nat) : Int)) rfl rfl (yb_old (off := 0) rfl Tw.kr HQ.out ltq Tryd.underlying3 rfl) ?_
   refine lp (v := .bool (!(decide (((m : Nat) : Int) < b.kilos)))) rfl rfl (run_bin rfl (vx := (.int .i64 b.kilos)) (vy := (.int .i64 ((m : Nat) : Int))) Tw.kr Tw.kr fun w => bi_leq rfl w) ?_
   refine lm (v := .bool (!(decide (((m : Nat) : Int) < b.kilos)))) rfl rfl ?_
   refine lm (v := .bool (!(decide (((m : Nat) : Int) < b.kilos)))) rfl rfl ?_
   refine wpL_done (fun W3 hW3 => ?_)
   change Code.wp ..
   refine wp_ret ?_
   try simp only [inBlock_ret, then_ret]
   refine bodyPost_ret (v := .bool (!(decide (((m : Nat) : Int) < b.kilos)))) ?_ rfl ?_
   · kernel_rfl
   · exact ⟨(bool_is (by rw [Bool.eq_iff_iff]; simp [rulW, *] <;> omega)), hW3.1⟩
set_option maxRecDepth 100000 in
set_option maxHeartbeats 4000000 in
theorem carries_any (x y : Int) (w : World) : Calls Tryd.prog 53 #[.int .u8 x, .int .i64 y] w fun e w' => ∃ a b, e = .returned (.func (.func 54) #[] #[.pointer (some ⟨a, 0, none⟩), .pointer (some ⟨b, 0, none⟩)]) ∧ w.heap.size ≤ a ∧ w.heap.size ≤ b ∧ w'.heap[a]? = some (.cells #[.int .u8 x] 5 (0, 0)) ∧ w'.heap[b]? = some (.cells #[.int .i64 y] 3 (0, 0)) ∧ Below w.heap.size w w' := by
 go_enter Tryd.func53, Tryd.ntmps53
 refine wp_seq ?_
 refine wp_region_L [] (KS.start w) ?_
 refine wpL_new (fun g => .pointer (some ⟨g, 0, none⟩)) (obi := .cells #[.int .u8 x] 5 (0, 0)) rfl rfl Tw.kf Tw.pf fun g1 Bg1 Fg1 => ?_
 refine wpL_new (fun g => .pointer (some ⟨g, 0, none⟩)) (obi := .cells #[.int .i64 y] 3 (0, 0)) rfl rfl Tw.kf Tw.pf fun g2 Bg2 Fg2 => ?_
 obtain dj3_0 : g1 ≠ g2 := Tw.dkf Fg2
 refine lm (v := .nilFunc) rfl rfl ?_
 refine wpL_done (fun W1 hW1 => ?_)
 change Code.wp ..
 refine wp_seq ?_
 refine wp_region_L _ hW1 ?_
 refine lm (v := .func (.func 54) #[] #[.pointer (some ⟨g1, 0, none⟩), .pointer (some ⟨g2, 0, none⟩)]) rfl rfl ?_
 refine lm (v := .func (.func 54) #[] #[.pointer (some ⟨g1, 0, none⟩), .pointer (some ⟨g2, 0, none⟩)]) rfl rfl ?_
 refine wpL_done (fun W2 hW2 => ?_)
 change Code.wp ..
 refine wp_ret ?_
 try simp only [inBlock_ret, then_ret]
 refine bodyPost_ret (v := .func (.func 54) #[] #[.pointer (some ⟨g1, 0, none⟩), .pointer (some ⟨g2, 0, none⟩)]) ?_ rfl ?_
 · kernel_rfl
 · exact ⟨g1, g2, rfl, Bg1, Bg2, hW2.2 _ Tw.m1, hW2.2 _ Tw.m0, hW2.1⟩
def ruV (a b : Nat) : Value := .func (.func 54) #[] #[.pointer (some ⟨a, 0, none⟩), .pointer (some ⟨b, 0, none⟩)]
def GCa (W0 : Base) (K : List (Nat × Obj)) (x y : Int) (v : Value) (K' : List (Nat × Obj)) : Prop := ∃ a b, v = ruV a b ∧ W0.B ≤ a ∧ W0.B ≤ b ∧ (∀ p ∈ K, p.1 ≠ a) ∧ (∀ p ∈ K, p.1 ≠ b) ∧ a ≠ b ∧ K' = (b, .cells #[.int .i64 y] 3 (0, 0)) :: (a, .cells #[.int .u8 x] 5 (0, 0)) :: K
theorem calls_ca {W0 : Base} {W : World} {K : List (Nat × Obj)} (x y : Int) (hW : KS W0 K W) : Calls Tryd.prog 53 #[.int .u8 x, .int .i64 y] W fun e w' => ∃ v K', e = .returned v ∧ KS W0 K' w' ∧ GCa W0 K x y v K' :=
 (carries_any x y W).mono fun e w' ⟨a, b, he, ha, hb, h1, h2, hbel⟩ => by
   have hK := hW.below hbel
   refine ⟨_, _, he, ⟨hK.1, ?_⟩, a, b, rfl, Nat.le_trans hW.size ha, Nat.le_trans hW.size hb, fun p hp e => ?_, fun p hp e => ?_, fun e => ?_, rfl⟩
   · intro p hp
     rcases List.mem_cons.1 hp with rfl | hp
     · exact h2
     · rcases List.mem_cons.1 hp with rfl | hp
       · exact h1
       · exact hK.2 p hp
   · have := lt_of_block (hW.2 p hp); omega
   · have := lt_of_block (hW.2 p hp); omega
   · subst e; rw [h1] at h2; cases h2
def rulesV (a b c d : Nat) : Array Value := #[.func (.func 55) #[] #[], .func (.func 56) #[] #[], .func (.func 58) #[] #[], .func (.func 59) #[] #[], .func (.func 60) #[] #[], ruV a b, ruV c d, .func (.func 61) #[] #[], .func (.func 62) #[] #[], .func (.func 63) #[] #[]]
def ruK (a b c d g : Nat) (K : List (Nat × Obj)) : List (Nat × Obj) := (g, .cells (rulesV a b c d) 40 (0, 0)) :: (d, .cells #[.int .i64 40000] 3 (0, 0)) :: (c, .cells #[.int .u8 40] 5 (0, 0)) :: (b, .cells #[.int .i64 32000] 3 (0, 0)) :: (a, .cells #[.int .u8 20] 5 (0, 0)) :: K
set_option maxRecDepth 100000 in
set_option maxHeartbeats 4000000 in
theorem rules_any (w : World) : Calls Tryd.prog 44 #[] w fun e w' => ∃ a b c d g, e = .returned (.slice (some ⟨g, 0, none⟩) 10 10) ∧ w.heap.size ≤ a ∧ w.heap.size ≤ b ∧ w.heap.size ≤ c ∧ w.heap.size ≤ d ∧ w.heap.size ≤ g ∧ (∀ p ∈ ruK a b c d g [], w'.heap[p.1]? = some p.2) ∧ Below w.heap.size w w' := by
 go_enter Tryd.func44, Tryd.ntmps44
 refine wp_seq ?_
 refine wp_region_L [] (KS.start w) ?_
 refine lm (v := .slice none 0 0) rfl rfl ?_
 refine wpL_done (fun W1 hW1 => ?_)
 change Code.wp ..
 refine wp_seq ?_
 refine wp_region_L _ hW1 ?_
 refine lm (v := .func (.func 53) #[] #[]) rfl rfl ?_
 refine wpL_done (fun W2 hW2 => ?_)
 change Code.wp ..
 refine wp_seq ?_
 refine wp_region_L _ hW2 ?_
 refine lm (v := .func (.func 53) #[] #[]) rfl rfl ?_
 refine wpL_c (f := 53) (args := #[.int .u8 20, .int .i64 32000]) (GCa w [] 20 32000) rfl Tw.kr Tw.kf (fun W hW => calls_ca 20 32000 hW) Tw.pf ?_
 rintro v K9 ⟨g1, g2, rfl, Bg1, Bg2, Fg1, Fg2, Yg1, rfl⟩
 refine lm (v := .func (.func 53) #[] #[]) rfl rfl ?_
 refine wpL_c (f := 53) (args := #[.int .u8 40, .int .i64 40000]) (GCa w [(g2, .cells #[.int .i64 32000] 3 (0, 0)), (g1, .cells #[.int .u8 20] 5 (0, 0))] 40 40000) rfl Tw.kr Tw.kf (fun W hW => calls_ca 40 40000 hW) Tw.pf ?_
 rintro v K9 ⟨g3, g4, rfl, Bg3, Bg4, Fg3, Fg4, Yg3, rfl⟩
 refine wpL_new (fun g => .slice (some ⟨g, 0, none⟩) 10 10) (obi := .cells #[.func (.func 55) #[] #[], .func (.func 56) #[] #[], .func (.func 58) #[] #[], .func (.func 59) #[] #[], .func (.func 60) #[] #[], ruV g1 g2, ruV g3 g4, .func (.func 61) #[] #[], .func (.func 62) #[] #[], .func (.func 63) #[] #[]] 40 (0, 0)) rfl rfl Tw.kf Tw.pf fun g5 Bg5 Fg5 => ?_
 refine lm (v := .slice (some ⟨g5, 0, none⟩) 10 10) rfl rfl ?_
 refine wpL_done (fun W3 hW3 => ?_)
 change Code.wp ..
 refine wp_ret ?_
 try simp only [inBlock_ret, then_ret]
 refine bodyPost_ret (v := .slice (some ⟨g5, 0, none⟩) 10 10) ?_ rfl ?_
 · kernel_rfl
 · exact ⟨g1, g2, g3, g4, g5, rfl, Bg1, Bg2, Bg3, Bg4, Bg5, (List.forall_mem_cons.2 ⟨hW3.2 _ Tw.m0, (List.forall_mem_cons.2 ⟨hW3.2 _ Tw.m1, (List.forall_mem_cons.2 ⟨hW3.2 _ Tw.m2, (List.forall_mem_cons.2 ⟨hW3.2 _ Tw.m3, (List.forall_mem_cons.2 ⟨hW3.2 _ Tw.m4, (List.forall_mem_nil _)⟩)⟩)⟩)⟩)⟩), hW3.1⟩
def GRu (W0 : Base) (K : List (Nat × Obj)) (v : Value) (K' : List (Nat × Obj)) : Prop := ∃ a b c d g, v = .slice (some ⟨g, 0, none⟩) 10 10 ∧ W0.B ≤ a ∧ W0.B ≤ b ∧ W0.B ≤ c ∧ W0.B ≤ d ∧ W0.B ≤ g ∧ (∀ p ∈ K, p.1 ≠ a) ∧ (∀ p ∈ K, p.1 ≠ b) ∧ (∀ p ∈ K, p.1 ≠ c) ∧ (∀ p ∈ K, p.1 ≠ d) ∧ (∀ p ∈ K, p.1 ≠ g) ∧ K' = ruK a b c d g K
theorem calls_ru {W0 : Base} {W : World} {K : List (Nat × Obj)} (hW : KS W0 K W) : Calls Tryd.prog 44 #[] W fun e w' => ∃ v K', e = .returned v ∧ KS W0 K' w' ∧ GRu W0 K v K' :=
 (rules_any W).mono fun e w' ⟨a, b, c, d, g, he, ha, hb, hc, hd, hg, h1, hbel⟩ => by
   have hK := hW.below hbel
   have hz := hW.size
   refine ⟨_, _, he, ⟨hK.1, ?_⟩, a, b, c, d, g, rfl, by omega, by omega, by omega, by omega, by omega, fun p hp e => ?_, fun p hp e => ?_, fun p hp e => ?_, fun p hp e => ?_, fun p hp e => ?_, rfl⟩
   · intro p hp
     unfold ruK at hp h1
     rcases List.mem_cons.1 hp with rfl | hp
     · exact h1 _ Tw.m0
     rcases List.mem_cons.1 hp with rfl | hp
     · exact h1 _ Tw.m1
     rcases List.mem_cons.1 hp with rfl | hp
     · exact h1 _ Tw.m2
     rcases List.mem_cons.1 hp with rfl | hp
     · exact h1 _ Tw.m3
     rcases List.mem_cons.1 hp with rfl | hp
     · exact h1 _ Tw.m4
     · exact hK.2 p hp
   all_goals (have := lt_of_block (hW.2 p hp); omega)
set_option maxRecDepth 100000 in
set_option maxHeartbeats 4000000 in
theorem BRight_any (b : Bx) (w : World) : Calls Tryd.prog 20 #[bxV b] w fun e w' => e = .returned (.bool (rightX b)) ∧ Below w.heap.size w w' := by
 go_enter Tryd.func20, Tryd.ntmps20
 refine wp_seq ?_
 refine wp_region_L [] (KS.start w) ?_
 refine wpL_new (fun g => .pointer (some ⟨g, 0, none⟩)) (obi := .cells (bxC b) 26 (0, 0)) rfl rfl Tw.kf Tw.pf fun g1 Bg1 Fg1 => ?_
 refine lm (v := .bool false) rfl rfl ?_
 refine wpL_done (fun W1 hW1 => ?_)
 change Code.wp ..
 refine wp_seq ?_
 refine wp_seq ?_
 refine wp_region_L _ hW1 ?_
 refine wpL_c (f := 44) (args := #[]) (GRu w [(g1, .cells (bxC b) 26 (0, 0))]) rfl Tw.kr Tw.kf (fun W hW => calls_ru hW) Tw.pf ?_
 rintro v K9 ⟨ra, rb, rc, rd, rg, rfl, Bra, Brb, Brc, Brd, Brg, Fra, Frb, Frc, Frd, Frg, rfl⟩
 unfold ruK
 refine lm (v := .int .i64 10) rfl rfl ?_
 refine lm (v := .int .i64 0) rfl rfl ?_
 refine wpL_done (fun W2 hW2 => ?_)
 change Code.wp ..
 refine wp_block ?_
 refine wp_loop_rounds 11 ?_
 change Code.wp ..
 refine wp_seq ?_
 refine wp_region_L _ hW2 ?_
 refine lm (v := .bool true) rfl rfl ?_
 refine wpL_done (fun W3 hW3 => ?_)
 change Code.wp ..
 refine wp_seq ?_
 refine wp_cond_true rfl ?_
 refine wp_skip ?_
 change Code.wp ..
 refine wp_seq ?_
 refine wp_block ?_
 refine wp_seq ?_
 refine wp_region_L _ hW3 ?_
 refine lm (v := .pointer (some ⟨rg, 0, none⟩)) rfl rfl ?_
 refine lv (v := .func (.func 55) #[] #[]) rfl rfl (yb_cell (off := 0) rfl Tw.kr Tw.m0 Tryd.underlying40 rfl Tw.kr) ?_
 refine lm (v := .func (.func 55) #[] #[]) rfl rfl ?_
 refine wpL_done (fun W4 hW4 => ?_)
 change Code.wp ..
 refine wp_seq ?_
 refine wp_region_L _ hW4 ?_
 refine lm (v := .func (.func 55) #[] #[]) rfl rfl ?_
 refine lv (v := bxV b) rfl rfl (yb_load (n := 9) (off := 0) rfl Tw.kr Tw.m5 Tryd.underlying26 rfl Tw.kr (Nat.le_refl 9) Tw.kr) ?_
 refine lv (v := .bool (rul1 b)) rfl rfl (yb_call (f := 55) (args := #[bxV b]) Tw.kf fun W hW => rul1_any b W) ?_
 refine lp (v := .bool (!(rul1 b))) rfl rfl (run_un rfl Tw.kr fun w => un_not w) ?_
 refine wpL_done (fun W5 hW5 => ?_)
 change Code.wp ..
 cases h1 : (rul1 b) with
 | false =>
   refine wp_cond_true rfl ?_
   refine wp_seq ?_
   refine wp_region_L _ hW5 ?_
   refine lm (v := .bool false) rfl rfl ?_
   refine wpL_done (fun W6 hW6 => ?_)
   change Code.wp ..
   refine wp_ret ?_
   try simp only [inBlock_ret, then_ret]
   refine bodyPost_ret (v := .bool false) ?_ rfl ?_
   · kernel_rfl
   · exact ⟨(bool_is (by simp [rightX, h1])), hW6.1⟩
 | true =>
   refine wp_cond_false rfl ?_
   refine wp_skip ?_
   change Code.wp ..
   refine wp_region_L _ hW5 ?_
   refine lm (v := .int .i64 1) rfl rfl ?_
   refine lm (v := .int .i64 1) rfl rfl ?_
   refine wpL_done (fun W7 hW7 => ?_)
   change Code.wp ..
   refine wp_seq ?_
   refine wp_region_L _ hW7 ?_
   refine lm (v := .bool true) rfl rfl ?_
   refine wpL_done (fun W8 hW8 => ?_)
   change Code.wp ..
   refine wp_seq ?_
   refine wp_cond_true rfl ?_
   refine wp_skip ?_
   change Code.wp ..
   refine wp_seq ?_
   refine wp_block ?_
   refine wp_seq ?_
   refine wp_region_L _ hW8 ?_
   refine lm (v := .pointer (some ⟨rg, 1, none⟩)) rfl rfl ?_
   refine lv (v := .func (.func 56) #[] #[]) rfl rfl (yb_cell (off := 1) rfl Tw.kr Tw.m0 Tryd.underlying40 rfl Tw.kr) ?_
   refine lm (v := .func (.func 56) #[] #[]) rfl rfl ?_
   refine wpL_done (fun W9 hW9 => ?_)
   change Code.wp ..
   refine wp_seq ?_
   refine wp_region_L _ hW9 ?_
   refine lm (v := .func (.func 56) #[] #[]) rfl rfl ?_
   refine lv (v := bxV b) rfl rfl (yb_load (n := 9) (off := 0) rfl Tw.kr Tw.m5 Tryd.underlying26 rfl Tw.kr (Nat.le_refl 9) Tw.kr) ?_
   refine lv (v := .bool (rul2 b)) rfl rfl (yb_call (f := 56) (args := #[bxV b]) Tw.kf fun W hW => rul2_any b W) ?_
   refine lp (v := .bool (!(rul2 b))) rfl rfl (run_un rfl Tw.kr fun w => un_not w) ?_
   refine wpL_done (fun W10 hW10 => ?_)
   change Code.wp ..
   cases h2 : (rul2 b) with
   | false =>
     refine wp_cond_true rfl ?_
     refine wp_seq ?_
     refine wp_region_L _ hW10 ?_
     refine lm (v := .bool false) rfl rfl ?_
     refine wpL_done (fun W11 hW11 => ?_)
     change Code.wp ..
     refine wp_ret ?_
     try simp only [inBlock_ret, then_ret]
     refine bodyPost_ret (v := .bool false) ?_ rfl ?_
     · kernel_rfl
     · exact ⟨(bool_is (by simp [rightX, h1, h2])), hW11.1⟩
   | true =>
     refine wp_cond_false rfl ?_
     refine wp_skip ?_
     change Code.wp ..
     refine wp_region_L _ hW10 ?_
     refine lm (v := .int .i64 2) rfl rfl ?_
     refine lm (v := .int .i64 2) rfl rfl ?_
     refine wpL_done (fun W12 hW12 => ?_)
     change Code.wp ..
     refine wp_seq ?_
     refine wp_region_L _ hW12 ?_
     refine lm (v := .bool true) rfl rfl ?_
     refine wpL_done (fun W13 hW13 => ?_)
     change Code.wp ..
     refine wp_seq ?_
     refine wp_cond_true rfl ?_
     refine wp_skip ?_
     change Code.wp ..
     refine wp_seq ?_
     refine wp_block ?_
     refine wp_seq ?_
     refine wp_region_L _ hW13 ?_
     refine lm (v := .pointer (some ⟨rg, 2, none⟩)) rfl rfl ?_
     refine lv (v := .func (.func 58) #[] #[]) rfl rfl (yb_cell (off := 2) rfl Tw.kr Tw.m0 Tryd.underlying40 rfl Tw.kr) ?_
     refine lm (v := .func (.func 58) #[] #[]) rfl rfl ?_
     refine wpL_done (fun W14 hW14 => ?_)
     change Code.wp ..
     refine wp_seq ?_
     refine wp_region_L _ hW14 ?_
     refine lm (v := .func (.func 58) #[] #[]) rfl rfl ?_
     refine lv (v := bxV b) rfl rfl (yb_load (n := 9) (off := 0) rfl Tw.kr Tw.m5 Tryd.underlying26 rfl Tw.kr (Nat.le_refl 9) Tw.kr) ?_
     refine lv (v := .bool (rul3 b)) rfl rfl (yb_call (f := 58) (args := #[bxV b]) Tw.kf fun W hW => rul3_any b W) ?_
     refine lp (v := .bool (!(rul3 b))) rfl rfl (run_un rfl Tw.kr fun w => un_not w) ?_
     refine wpL_done (fun W15 hW15 => ?_)
     change Code.wp ..
     cases h3 : (rul3 b) with
     | false =>
       refine wp_cond_true rfl ?_
       refine wp_seq ?_
       refine wp_region_L _ hW15 ?_
       refine lm (v := .bool false) rfl rfl ?_
       refine wpL_done (fun W16 hW16 => ?_)
       change Code.wp ..
       refine wp_ret ?_
       try simp only [inBlock_ret, then_ret]
       refine bodyPost_ret (v := .bool false) ?_ rfl ?_
       · kernel_rfl
       · exact ⟨(bool_is (by simp [rightX, h1, h2, h3])), hW16.1⟩
     | true =>
       refine wp_cond_false rfl ?_
       refine wp_skip ?_
       change Code.wp ..
       refine wp_region_L _ hW15 ?_
       refine lm (v := .int .i64 3) rfl rfl ?_
       refine lm (v := .int .i64 3) rfl rfl ?_
       refine wpL_done (fun W17 hW17 => ?_)
       change Code.wp ..
       refine wp_seq ?_
       refine wp_region_L _ hW17 ?_
       refine lm (v := .bool true) rfl rfl ?_
       refine wpL_done (fun W18 hW18 => ?_)
       change Code.wp ..
       refine wp_seq ?_
       refine wp_cond_true rfl ?_
       refine wp_skip ?_
       change Code.wp ..
       refine wp_seq ?_
       refine wp_block ?_
       refine wp_seq ?_
       refine wp_region_L _ hW18 ?_
       refine lm (v := .pointer (some ⟨rg, 3, none⟩)) rfl rfl ?_
       refine lv (v := .func (.func 59) #[] #[]) rfl rfl (yb_cell (off := 3) rfl Tw.kr Tw.m0 Tryd.underlying40 rfl Tw.kr) ?_
       refine lm (v := .func (.func 59) #[] #[]) rfl rfl ?_
       refine wpL_done (fun W19 hW19 => ?_)
       change Code.wp ..
       refine wp_seq ?_
       refine wp_region_L _ hW19 ?_
       refine lm (v := .func (.func 59) #[] #[]) rfl rfl ?_
       refine lv (v := bxV b) rfl rfl (yb_load (n := 9) (off := 0) rfl Tw.kr Tw.m5 Tryd.underlying26 rfl Tw.kr (Nat.le_refl 9) Tw.kr) ?_
       refine lv (v := .bool (rul4 b)) rfl rfl (yb_call (f := 59) (args := #[bxV b]) Tw.kf fun W hW => rul4_any b W) ?_
       refine lp (v := .bool (!(rul4 b))) rfl rfl (run_un rfl Tw.kr fun w => un_not w) ?_
       refine wpL_done (fun W20 hW20 => ?_)
       change Code.wp ..
       cases h4 : (rul4 b) with
       | false =>
         refine wp_cond_true rfl ?_
         refine wp_seq ?_
         refine wp_region_L _ hW20 ?_
         refine lm (v := .bool false) rfl rfl ?_
         refine wpL_done (fun W21 hW21 => ?_)
         change Code.wp ..
         refine wp_ret ?_
         try simp only [inBlock_ret, then_ret]
         refine bodyPost_ret (v := .bool false) ?_ rfl ?_
         · kernel_rfl
         · exact ⟨(bool_is (by simp [rightX, h1, h2, h3, h4])), hW21.1⟩
       | true =>
         refine wp_cond_false rfl ?_
         refine wp_skip ?_
         change Code.wp ..
         refine wp_region_L _ hW20 ?_
         refine lm (v := .int .i64 4) rfl rfl ?_
         refine lm (v := .int .i64 4) rfl rfl ?_
         refine wpL_done (fun W22 hW22 => ?_)
         change Code.wp ..
         refine wp_seq ?_
         refine wp_region_L _ hW22 ?_
         refine lm (v := .bool true) rfl rfl ?_
         refine wpL_done (fun W23 hW23 => ?_)
         change Code.wp ..
         refine wp_seq ?_
         refine wp_cond_true rfl ?_
         refine wp_skip ?_
         change Code.wp ..
         refine wp_seq ?_
         refine wp_block ?_
         refine wp_seq ?_
         refine wp_region_L _ hW23 ?_
         refine lm (v := .pointer (some ⟨rg, 4, none⟩)) rfl rfl ?_
         refine lv (v := .func (.func 60) #[] #[]) rfl rfl (yb_cell (off := 4) rfl Tw.kr Tw.m0 Tryd.underlying40 rfl Tw.kr) ?_
         refine lm (v := .func (.func 60) #[] #[]) rfl rfl ?_
         refine wpL_done (fun W24 hW24 => ?_)
         change Code.wp ..
         refine wp_seq ?_
         refine wp_region_L _ hW24 ?_
         refine lm (v := .func (.func 60) #[] #[]) rfl rfl ?_
         refine lv (v := bxV b) rfl rfl (yb_load (n := 9) (off := 0) rfl Tw.kr Tw.m5 Tryd.underlying26 rfl Tw.kr (Nat.le_refl 9) Tw.kr) ?_
         refine lv (v := .bool (rul5 b)) rfl rfl (yb_call (f := 60) (args := #[bxV b]) Tw.kf fun W hW => rul5_any b W) ?_
         refine lp (v := .bool (!(rul5 b))) rfl rfl (run_un rfl Tw.kr fun w => un_not w) ?_
         refine wpL_done (fun W25 hW25 => ?_)
         change Code.wp ..
         cases h5 : (rul5 b) with
         | false =>
           refine wp_cond_true rfl ?_
           refine wp_seq ?_
           refine wp_region_L _ hW25 ?_
           refine lm (v := .bool false) rfl rfl ?_
           refine wpL_done (fun W26 hW26 => ?_)
           change Code.wp ..
           refine wp_ret ?_
           try simp only [inBlock_ret, then_ret]
           refine bodyPost_ret (v := .bool false) ?_ rfl ?_
           · kernel_rfl
           · exact ⟨(bool_is (by simp [rightX, h1, h2, h3, h4, h5])), hW26.1⟩
         | true =>
           refine wp_cond_false rfl ?_
           refine wp_skip ?_
           change Code.wp ..
           refine wp_region_L _ hW25 ?_
           refine lm (v := .int .i64 5) rfl rfl ?_
           refine lm (v := .int .i64 5) rfl rfl ?_
           refine wpL_done (fun W27 hW27 => ?_)
           change Code.wp ..
           refine wp_seq ?_
           refine wp_region_L _ hW27 ?_
           refine lm (v := .bool true) rfl rfl ?_
           refine wpL_done (fun W28 hW28 => ?_)
           change Code.wp ..
           refine wp_seq ?_
           refine wp_cond_true rfl ?_
           refine wp_skip ?_
           change Code.wp ..
           refine wp_seq ?_
           refine wp_block ?_
           refine wp_seq ?_
           refine wp_region_L _ hW28 ?_
           refine lm (v := .pointer (some ⟨rg, 5, none⟩)) rfl rfl ?_
           refine lv (v := ruV ra rb) rfl rfl (yb_cell (off := 5) rfl Tw.kr Tw.m0 Tryd.underlying40 rfl Tw.kr) ?_
           refine lm (v := ruV ra rb) rfl rfl ?_
           refine wpL_done (fun W29 hW29 => ?_)
           change Code.wp ..
           refine wp_seq ?_
           refine wp_region_L _ hW29 ?_
           refine lm (v := ruV ra rb) rfl rfl ?_
           refine lv (v := bxV b) rfl rfl (yb_load (n := 9) (off := 0) rfl Tw.kr Tw.m5 Tryd.underlying26 rfl Tw.kr (Nat.le_refl 9) Tw.kr) ?_
           refine lv (v := .bool (rulW 20 32000 b)) rfl rfl (yb_call (f := 54) (args := #[bxV b, .pointer (some ⟨ra, 0, none⟩), .pointer (some ⟨rb, 0, none⟩)]) Tw.kf fun W hW => carried_in b 20 32000 ra rb W ((cell_of_row W ra 0 _ _ _ (hW.2 _ Tw.m4)).trans rfl) ((cell_of_row W rb 0 _ _ _ (hW.2 _ Tw.m3)).trans rfl)) ?_
           refine lp (v := .bool (!(rulW 20 32000 b))) rfl rfl (run_un rfl Tw.kr fun w => un_not w) ?_
           refine wpL_done (fun W30 hW30 => ?_)
           change Code.wp ..
           cases h6 : (rulW 20 32000 b) with
           | false =>
             refine wp_cond_true rfl ?_
             refine wp_seq ?_
             refine wp_region_L _ hW30 ?_
             refine lm (v := .bool false) rfl rfl ?_
             refine wpL_done (fun W31 hW31 => ?_)
             change Code.wp ..
             refine wp_ret ?_
             try simp only [inBlock_ret, then_ret]
             refine bodyPost_ret (v := .bool false) ?_ rfl ?_
             · kernel_rfl
             · exact ⟨(bool_is (by simp [rightX, h1, h2, h3, h4, h5, h6])), hW31.1⟩
           | true =>
             refine wp_cond_false rfl ?_
             refine wp_skip ?_
             change Code.wp ..
             refine wp_region_L _ hW30 ?_
             refine lm (v := .int .i64 6) rfl rfl ?_
             refine lm (v := .int .i64 6) rfl rfl ?_
             refine wpL_done (fun W32 hW32 => ?_)
             change Code.wp ..
             refine wp_seq ?_
             refine wp_region_L _ hW32 ?_
             refine lm (v := .bool true) rfl rfl ?_
             refine wpL_done (fun W33 hW33 => ?_)
             change Code.wp ..
             refine wp_seq ?_
             refine wp_cond_true rfl ?_
             refine wp_skip ?_
             change Code.wp ..
             refine wp_seq ?_
             refine wp_block ?_
             refine wp_seq ?_
             refine wp_region_L _ hW33 ?_
             refine lm (v := .pointer (some ⟨rg, 6, none⟩)) rfl rfl ?_
             refine lv (v := ruV rc rd) rfl rfl (yb_cell (off := 6) rfl Tw.kr Tw.m0 Tryd.underlying40 rfl Tw.kr) ?_
             refine lm (v := ruV rc rd) rfl rfl ?_
             refine wpL_done (fun W34 hW34 => ?_)
             change Code.wp ..
             refine wp_seq ?_
             refine wp_region_L _ hW34 ?_
             refine lm (v := ruV rc rd) rfl rfl ?_
             refine lv (v := bxV b) rfl rfl (yb_load (n := 9) (off := 0) rfl Tw.kr Tw.m5 Tryd.underlying26 rfl Tw.kr (Nat.le_refl 9) Tw.kr) ?_
             refine lv (v := .bool (rulW 40 40000 b)) rfl rfl (yb_call (f := 54) (args := #[bxV b, .pointer (some ⟨rc, 0, none⟩), .pointer (some ⟨rd, 0, none⟩)]) Tw.kf fun W hW => carried_in b 40 40000 rc rd W ((cell_of_row W rc 0 _ _ _ (hW.2 _ Tw.m2)).trans rfl) ((cell_of_row W rd 0 _ _ _ (hW.2 _ Tw.m1)).trans rfl)) ?_
             refine lp (v := .bool (!(rulW 40 40000 b))) rfl rfl (run_un rfl Tw.kr fun w => un_not w) ?_
             refine wpL_done (fun W35 hW35 => ?_)
             change Code.wp ..
             cases h7 : (rulW 40 40000 b) with
             | false =>
               refine wp_cond_true rfl ?_
               refine wp_seq ?_
               refine wp_region_L _ hW35 ?_
               refine lm (v := .bool false) rfl rfl ?_
               refine wpL_done (fun W36 hW36 => ?_)
               change Code.wp ..
               refine wp_ret ?_
               try simp only [inBlock_ret, then_ret]
               refine bodyPost_ret (v := .bool false) ?_ rfl ?_
               · kernel_rfl
               · exact ⟨(bool_is (by simp [rightX, h1, h2, h3, h4, h5, h6, h7])), hW36.1⟩
             | true =>
               refine wp_cond_false rfl ?_
               refine wp_skip ?_
               change Code.wp ..
               refine wp_region_L _ hW35 ?_
               refine lm (v := .int .i64 7) rfl rfl ?_
               refine lm (v := .int .i64 7) rfl rfl ?_
               refine wpL_done (fun W37 hW37 => ?_)
               change Code.wp ..
               refine wp_seq ?_
               refine wp_region_L _ hW37 ?_
               refine lm (v := .bool true) rfl rfl ?_
               refine wpL_done (fun W38 hW38 => ?_)
               change Code.wp ..
               refine wp_seq ?_
               refine wp_cond_true rfl ?_
               refine wp_skip ?_
               change Code.wp ..
               refine wp_seq ?_
               refine wp_block ?_
               refine wp_seq ?_
               refine wp_region_L _ hW38 ?_
               refine lm (v := .pointer (some ⟨rg, 7, none⟩)) rfl rfl ?_
               refine lv (v := .func (.func 61) #[] #[]) rfl rfl (yb_cell (off := 7) rfl Tw.kr Tw.m0 Tryd.underlying40 rfl Tw.kr) ?_
               refine lm (v := .func (.func 61) #[] #[]) rfl rfl ?_
               refine wpL_done (fun W39 hW39 => ?_)
               change Code.wp ..
               refine wp_seq ?_
               refine wp_region_L _ hW39 ?_
               refine lm (v := .func (.func 61) #[] #[]) rfl rfl ?_
               refine lv (v := bxV b) rfl rfl (yb_load (n := 9) (off := 0) rfl Tw.kr Tw.m5 Tryd.underlying26 rfl Tw.kr (Nat.le_refl 9) Tw.kr) ?_
               refine lv (v := .bool (rul8 b)) rfl rfl (yb_call (f := 61) (args := #[bxV b]) Tw.kf fun W hW => rul8_any b W) ?_
               refine lp (v := .bool (!(rul8 b))) rfl rfl (run_un rfl Tw.kr fun w => un_not w) ?_
               refine wpL_done (fun W40 hW40 => ?_)
               change Code.wp ..
               cases h8 : (rul8 b) with
               | false =>
                 refine wp_cond_true rfl ?_
                 refine wp_seq ?_
                 refine wp_region_L _ hW40 ?_
                 refine lm (v := .bool false) rfl rfl ?_
                 refine wpL_done (fun W41 hW41 => ?_)
                 change Code.wp ..
                 refine wp_ret ?_
                 try simp only [inBlock_ret, then_ret]
                 refine bodyPost_ret (v := .bool false) ?_ rfl ?_
                 · kernel_rfl
                 · exact ⟨(bool_is (by simp [rightX, h1, h2, h3, h4, h5, h6, h7, h8])), hW41.1⟩
               | true =>
                 refine wp_cond_false rfl ?_
                 refine wp_skip ?_
                 change Code.wp ..
                 refine wp_region_L _ hW40 ?_
                 refine lm (v := .int .i64 8) rfl rfl ?_
                 refine lm (v := .int .i64 8) rfl rfl ?_
                 refine wpL_done (fun W42 hW42 => ?_)
                 change Code.wp ..
                 refine wp_seq ?_
                 refine wp_region_L _ hW42 ?_
                 refine lm (v := .bool true) rfl rfl ?_
                 refine wpL_done (fun W43 hW43 => ?_)
                 change Code.wp ..
                 refine wp_seq ?_
                 refine wp_cond_true rfl ?_
                 refine wp_skip ?_
                 change Code.wp ..
                 refine wp_seq ?_
                 refine wp_block ?_
                 refine wp_seq ?_
                 refine wp_region_L _ hW43 ?_
                 refine lm (v := .pointer (some ⟨rg, 8, none⟩)) rfl rfl ?_
                 refine lv (v := .func (.func 62) #[] #[]) rfl rfl (yb_cell (off := 8) rfl Tw.kr Tw.m0 Tryd.underlying40 rfl Tw.kr) ?_
                 refine lm (v := .func (.func 62) #[] #[]) rfl rfl ?_
                 refine wpL_done (fun W44 hW44 => ?_)
                 change Code.wp ..
                 refine wp_seq ?_
                 refine wp_region_L _ hW44 ?_
                 refine lm (v := .func (.func 62) #[] #[]) rfl rfl ?_
                 refine lv (v := bxV b) rfl rfl (yb_load (n := 9) (off := 0) rfl Tw.kr Tw.m5 Tryd.underlying26 rfl Tw.kr (Nat.le_refl 9) Tw.kr) ?_
                 refine lv (v := .bool (rul9 b)) rfl rfl (yb_call (f := 62) (args := #[bxV b]) Tw.kf fun W hW => rul9_any b W) ?_
                 refine lp (v := .bool (!(rul9 b))) rfl rfl (run_un rfl Tw.kr fun w => un_not w) ?_
                 refine wpL_done (fun W45 hW45 => ?_)
                 change Code.wp ..
                 cases h9 : (rul9 b) with
                 | false =>
                   refine wp_cond_true rfl ?_
                   refine wp_seq ?_
                   refine wp_region_L _ hW45 ?_
                   refine lm (v := .bool false) rfl rfl ?_
                   refine wpL_done (fun W46 hW46 => ?_)
                   change Code.wp ..
                   refine wp_ret ?_
                   try simp only [inBlock_ret, then_ret]
                   refine bodyPost_ret (v := .bool false) ?_ rfl ?_
                   · kernel_rfl
                   · exact ⟨(bool_is (by simp [rightX, h1, h2, h3, h4, h5, h6, h7, h8, h9])), hW46.1⟩
                 | true =>
                   refine wp_cond_false rfl ?_
                   refine wp_skip ?_
                   change Code.wp ..
                   refine wp_region_L _ hW45 ?_
                   refine lm (v := .int .i64 9) rfl rfl ?_
                   refine lm (v := .int .i64 9) rfl rfl ?_
                   refine wpL_done (fun W47 hW47 => ?_)
                   change Code.wp ..
                   refine wp_seq ?_
                   refine wp_region_L _ hW47 ?_
                   refine lm (v := .bool true) rfl rfl ?_
                   refine wpL_done (fun W48 hW48 => ?_)
                   change Code.wp ..
                   refine wp_seq ?_
                   refine wp_cond_true rfl ?_
                   refine wp_skip ?_
                   change Code.wp ..
                   refine wp_seq ?_
                   refine wp_block ?_
                   refine wp_seq ?_
                   refine wp_region_L _ hW48 ?_
                   refine lm (v := .pointer (some ⟨rg, 9, none⟩)) rfl rfl ?_
                   refine lv (v := .func (.func 63) #[] #[]) rfl rfl (yb_cell (off := 9) rfl Tw.kr Tw.m0 Tryd.underlying40 rfl Tw.kr) ?_
                   refine lm (v := .func (.func 63) #[] #[]) rfl rfl ?_
                   refine wpL_done (fun W49 hW49 => ?_)
                   change Code.wp ..
                   refine wp_seq ?_
                   refine wp_region_L _ hW49 ?_
                   refine lm (v := .func (.func 63) #[] #[]) rfl rfl ?_
                   refine lv (v := bxV b) rfl rfl (yb_load (n := 9) (off := 0) rfl Tw.kr Tw.m5 Tryd.underlying26 rfl Tw.kr (Nat.le_refl 9) Tw.kr) ?_
                   refine lv (v := .bool (rul10 b)) rfl rfl (yb_call (f := 63) (args := #[bxV b]) Tw.kf fun W hW => rul10_any b W) ?_
                   refine lp (v := .bool (!(rul10 b))) rfl rfl (run_un rfl Tw.kr fun w => un_not w) ?_
                   refine wpL_done (fun W50 hW50 => ?_)
                   change Code.wp ..
                   cases h10 : (rul10 b) with
                   | false =>
                     refine wp_cond_true rfl ?_
                     refine wp_seq ?_
                     refine wp_region_L _ hW50 ?_
                     refine lm (v := .bool false) rfl rfl ?_
                     refine wpL_done (fun W51 hW51 => ?_)
                     change Code.wp ..
                     refine wp_ret ?_
                     try simp only [inBlock_ret, then_ret]
                     refine bodyPost_ret (v := .bool false) ?_ rfl ?_
                     · kernel_rfl
                     · exact ⟨(bool_is (by simp [rightX, h1, h2, h3, h4, h5, h6, h7, h8, h9, h10])), hW51.1⟩
                   | true =>
                     refine wp_cond_false rfl ?_
                     refine wp_skip ?_
                     change Code.wp ..
                     refine wp_region_L _ hW50 ?_
                     refine lm (v := .int .i64 10) rfl rfl ?_
                     refine lm (v := .int .i64 10) rfl rfl ?_
                     refine wpL_done (fun W52 hW52 => ?_)
                     change Code.wp ..
                     refine wp_seq ?_
                     refine wp_region_L _ hW52 ?_
                     refine lm (v := .bool false) rfl rfl ?_
                     refine wpL_done (fun W53 hW53 => ?_)
                     change Code.wp ..
                     refine wp_seq ?_
                     refine wp_cond_false rfl ?_
                     refine wp_exit ?_
                     change Code.wp ..
                     refine wp_seq ?_
                     refine wp_region_L _ hW53 ?_
                     refine lm (v := .bool true) rfl rfl ?_
                     refine wpL_done (fun W54 hW54 => ?_)
                     change Code.wp ..
                     refine wp_ret ?_
                     try simp only [inBlock_ret, then_ret]
                     refine bodyPost_ret (v := .bool true) ?_ rfl ?_
                     · kernel_rfl
                     · exact ⟨(bool_is (by simp [rightX, h1, h2, h3, h4, h5, h6, h7, h8, h9, h10])), hW54.1⟩
end Go.Proofs.YtllmpemmknblaaaDoor
namespace Go.Proofs.YtllmpemmknblaaaDoor
open Go Go.RowKit Tw
def codeOk (b : Bx) : Bool := (decide (b.size = 20) && !b.high) || decide (b.size = 40)
def codeS (b : Bx) : List UInt8 := if b.size = 20 then (if b.rf = true then [50, 50, 82, 49] else [50, 50, 71, 49]) else if b.high = true then (if b.rf = true then [52, 53, 82, 49] else [52, 53, 71, 49]) else (if b.rf = true then [52, 50, 82, 49] else [52, 50, 71, 49])
theorem codeV_ok {b : Bx} (h : codeOk b = true) : codeV b.size b.high b.rf = .tuple #[strV (codeS b), .int .i64 0] := by
 obtain ⟨id, num, n, hi, k, l, d, c, r⟩ := b
 unfold codeOk at h
 simp only [Bool.or_eq_true, Bool.and_eq_true, decide_eq_true_eq, Bool.not_eq_true'] at h
 rcases h with ⟨rfl, rfl⟩ | rfl
 · cases r <;> rfl
 · cases hi <;> cases r <;> rfl
theorem codeV_no {b : Bx} (h : codeOk b = false) : codeV b.size b.high b.rf = .tuple #[strV [], .int .i64 32] := by
 obtain ⟨id, num, n, hi, k, l, d, c, r⟩ := b
 unfold codeOk at h
 unfold codeV
 simp only [Bool.or_eq_false_iff, Bool.and_eq_false_iff, decide_eq_false_iff_not, Bool.not_eq_false'] at h
 dsimp only at h ⊢
 obtain ⟨h1, h2⟩ := h
 have h3 : ¬ 40 = n := fun e => h2 e.symm
 cases hi with
 | false =>
   have h4 : ¬ 20 = n := fun e => h1.elim (fun h => h e.symm) (fun h => by cases h)
   cases r <;> simp [h3, h4]
 | true => cases r <;> simp [h3]
theorem icode_ok {b : Bx} (h : codeOk b = true) (W : World) (hE : Env W) : Calls Tryd.prog 43 #[.agg #[.int .u8 ((b.size : Nat) : Int), .bool b.high, .bool b.rf]] W fun e w' => e = .returned (.tuple #[strV (codeS b), .int .i64 0]) ∧ Below W.heap.size W w' := codeV_ok h ▸ Code_any b.size b.high b.rf W hE
theorem icode_no {b : Bx} (h : codeOk b = false) (W : World) (hE : Env W) : Calls Tryd.prog 43 #[.agg #[.int .u8 ((b.size : Nat) : Int), .bool b.high, .bool b.rf]] W fun e w' => e = .returned (.tuple #[strV [], .int .i64 32]) ∧ Below W.heap.size W w' := codeV_no h ▸ Code_any b.size b.high b.rf W hE
def codeT (b : Bx) : Value := if codeOk b = true then .tuple #[strV (codeS b), .int .i64 0] else .tuple #[strV [], .int .i64 60]
def idIs (n : Int) (b : Bx) : Bool := decide (b.id = n)
def numIs (n : List UInt8) (b : Bx) : Bool := decide (b.num = n)
def findX (l : List Bx) (n : Int) : Option Bx := l.find? (idIs n)
def numberedX (l : List Bx) (n : List UInt8) : Option Bx := if n = [] then none else l.find? (numIs n)
def findV : Option Bx → Value
 | some b => .tuple #[bxV b, .bool true]
 | none => .tuple #[bxV bx0, .bool false]
def numV : Option Bx → Value
 | some b => .tuple #[.int .i64 b.id, .bool true]
 | none => .tuple #[.int .i64 0, .bool false]
section
variable {α : Type} {p : α → Bool} {l : List α} {k : Nat} {b : α}
theorem find_at (h : (l.take k).find? p = none) (hb : l[k]? = some b) (hp : p b = true) : l.find? p = some b := by
 obtain ⟨hk, rfl⟩ := List.getElem?_eq_some_iff.1 hb
 conv => lhs; rw [← List.take_append_drop k l]
 rw [List.find?_append, h, List.drop_eq_getElem_cons hk, List.find?_cons_of_pos hp]
 rfl
theorem find_on (h : (l.take k).find? p = none) (hb : l[k]? = some b) (hp : p b = false) : (l.take (k + 1)).find? p = none := by
 obtain ⟨hk, rfl⟩ := List.getElem?_eq_some_iff.1 hb
 rw [List.take_succ_eq_append_getElem hk, List.find?_append, h]
 simp [hp]
theorem find_end (h : (l.take k).find? p = none) (hk : ¬ k < l.length) : l.find? p = none := by
 rwa [List.take_of_length_le Tw.om] at h
end
-- totals
def smC (s : Sm) : Array Value := #[.int .i64 ((s.n : Nat) : Int), .int .i64 ((s.h : Nat) : Int), .int .i64 s.k, .int .i64 ((s.r : Nat) : Int), .int .i64 ((s.d : Nat) : Int)]
def smV (s : Sm) : Value := .agg (smC s)
def add1 (s : Sm) (b : Bx) : Sm := ⟨s.n + 1, s.h + halvesX b, s.k + b.kilos, s.r + (if b.rf = true then 1 else 0), s.d + (if b.cls = 0 then 0 else 1)⟩
theorem add_right {s : Sm} {b : Bx} (h : rightX b = true) : addX s b = add1 s b := by unfold addX add1; rw [if_pos h]
theorem add_wrong {s : Sm} {b : Bx} (h : rightX b = false) : addX s b = s := by unfold addX; rw [if_neg (by rw [h]; decide)]
def SmOk (m : Nat) (s : Sm) : Prop := s.n ≤ m ∧ s.h ≤ 2 * m ∧ 0 ≤ s.k ∧ s.k ≤ 40000 * (m : Int) ∧ s.r ≤ m ∧ s.d ≤ m
theorem total_ok (l : List Bx) (k : Nat) : SmOk k (totalX (l.take k)) := by
 have h := total_le (l.take k)
 have h1 : (l.take k).length ≤ k := by rw [List.length_take]; exact Nat.min_le_left _ _
 have h2 : ((l.take k).length : Int) ≤ (k : Int) := by omega
 unfold SmOk
 generalize totalX (l.take k) = s at *
 generalize (l.take k).length = m at *
 obtain ⟨a1, a2, a3, a4, a5, a6⟩ := h
 exact ⟨by omega, by omega, a3, by omega, by omega, by omega⟩
set_option maxRecDepth 100000 in
set_option maxHeartbeats 4000000 in
theorem Height_any (b : Bx) (w : World) : Calls Tryd.prog 21 #[bxV b] w fun e w' => e = .returned (.int .i64 (((heightX b) : Nat) : Int)) ∧ Below w.heap.size w w' := by
 go_enter Tryd.func21, Tryd.ntmps21
 refine wp_seq ?_
 refine wp_region_L [] (KS.start w) ?_
 refine wpL_new (fun g => .pointer (some ⟨g, 0, none⟩)) (obi := .cells (bxC b) 26 (0, 0)) rfl rfl Tw.kf Tw.pf fun g1 Bg1 Fg1 => ?_
 refine lm (v := .int .i64 0) rfl rfl ?_
 refine wpL_done (fun W1 hW1 => ?_)
 change Code.wp ..
 refine wp_seq ?_
 refine wp_seq ?_
 refine wp_region_L _ hW1 ?_
 refine lm (v := .pointer (some ⟨g1, 3, none⟩)) rfl rfl ?_
 refine lv (v := .bool b.high) rfl rfl (yb_cell (off := 3) rfl Tw.kr Tw.m0 Tryd.underlying4 rfl Tw.kr) ?_
 refine wpL_done (fun W2 hW2 => ?_)
 change Code.wp ..
 cases h1 : b.high with
 | false =>
   refine wp_cond_false rfl ?_
   refine wp_skip ?_
   change Code.wp ..
   refine wp_seq ?_
   refine wp_region_L _ hW2 ?_
   refine lm (v := .int .i64 2591) rfl rfl ?_
   refine wpL_done (fun W3 hW3 => ?_)
   change Code.wp ..
   refine wp_ret ?_
   try simp only [inBlock_ret, then_ret]
   refine bodyPost_ret (v := .int .i64 2591) ?_ rfl ?_
   · kernel_rfl
   · exact ⟨(int_is (by simp [heightX, *])), hW3.1⟩
 | true =>
   refine wp_cond_true rfl ?_
   refine wp_seq ?_
   refine wp_region_L _ hW2 ?_
   refine lm (v := .int .i64 2896) rfl rfl ?_
   refine wpL_done (fun W4 hW4 => ?_)
   change Code.wp ..
   refine wp_ret ?_
   try simp only [inBlock_ret, then_ret]
   refine bodyPost_ret (v := .int .i64 2896) ?_ rfl ?_
   · kernel_rfl
   · exact ⟨(int_is (by simp [heightX, *])), hW4.1⟩
set_option maxRecDepth 100000 in
set_option maxHeartbeats 4000000 in
theorem Halves_any (b : Bx) (w : World) : Calls Tryd.prog 22 #[bxV b] w fun e w' => e = .returned (.int .i64 (((halvesX b) : Nat) : Int)) ∧ Below w.heap.size w w' := by
 go_enter Tryd.func22, Tryd.ntmps22
 refine wp_seq ?_
 refine wp_region_L [] (KS.start w) ?_
 refine wpL_new (fun g => .pointer (some ⟨g, 0, none⟩)) (obi := .cells (bxC b) 26 (0, 0)) rfl rfl Tw.kf Tw.pf fun g1 Bg1 Fg1 => ?_
 refine lm (v := .int .i64 0) rfl rfl ?_
 refine wpL_done (fun W1 hW1 => ?_)
 change Code.wp ..
 refine wp_seq ?_
 refine wp_seq ?_
 refine wp_region_L _ hW1 ?_
 refine lm (v := .pointer (some ⟨g1, 2, none⟩)) rfl rfl ?_
 refine lv (v := .int .u8 ((b.size : Nat) : Int)) rfl rfl (yb_cell (off := 2) rfl Tw.kr Tw.m0 Tryd.underlying5 rfl Tw.kr) ?_
 refine wpL_done (fun W2 hW2 => ?_)
 change Code.wp ..
 refine wp_block ?_
 refine wp_seq ?_
 refine wp_region_L _ hW2 ?_
 refine lp (v := .bool (decide (b.size = 20))) rfl rfl (run_bin rfl (vx := (.int .u8 ((b.size : Nat) : Int))) (vy := (.int .u8 ((20 : Nat) : Int))) Tw.kr Tw.kr fun w => bn_eql rfl w) ?_
 refine lm (v := .bool (decide (b.size = 20))) rfl rfl ?_
 refine wpL_done (fun W3 hW3 => ?_)
 change Code.wp ..
 cases hd1 : (decide (b.size = 20)) with
 | false =>
   have h1 : ¬ (b.size = 20) := of_decide_eq_false hd1
   clear hd1
   refine wp_cond_false rfl ?_
   refine wp_seq ?_
   refine wp_region_L _ hW3 ?_
   refine lp (v := .bool (decide (b.size = 40))) rfl rfl (run_bin rfl (vx := (.int .u8 ((b.size : Nat) : Int))) (vy := (.int .u8 ((40 : Nat) : Int))) Tw.kr Tw.kr fun w => bn_eql rfl w) ?_
   refine lm (v := .bool (decide (b.size = 40))) rfl rfl ?_
   refine wpL_done (fun W4 hW4 => ?_)
   change Code.wp ..
   cases hd2 : (decide (b.size = 40)) with
   | false =>
     have h2 : ¬ (b.size = 40) := of_decide_eq_false hd2
     clear hd2
     refine wp_cond_false rfl ?_
     refine wp_skip ?_
     change Code.wp ..
     refine wp_seq ?_
     refine wp_region_L _ hW4 ?_
     refine lm (v := .int .i64 0) rfl rfl ?_
     refine wpL_done (fun W5 hW5 => ?_)
     change Code.wp ..
     refine wp_ret ?_
     try simp only [inBlock_ret, then_ret]
     refine bodyPost_ret (v := .int .i64 0) ?_ rfl ?_
     · kernel_rfl
     · exact ⟨(int_is (by simp [halvesX, *])), hW5.1⟩
   | true =>
     have h2 : b.size = 40 := of_decide_eq_true hd2
     clear hd2
     refine wp_cond_true rfl ?_
     refine wp_seq ?_
     refine wp_region_L _ hW4 ?_
     refine lm (v := .int .i64 2) rfl rfl ?_
     refine wpL_done (fun W6 hW6 => ?_)
     change Code.wp ..
     refine wp_ret ?_
     try simp only [inBlock_ret, then_ret]
     refine bodyPost_ret (v := .int .i64 2) ?_ rfl ?_
     · kernel_rfl
     · exact ⟨(int_is (by simp [halvesX, *])), hW6.1⟩
 | true =>
   have h1 : b.size = 20 := of_decide_eq_true hd1
   clear hd1
   refine wp_cond_true rfl ?_
   refine wp_seq ?_
   refine wp_region_L _ hW3 ?_
   refine lm (v := .int .i64 1) rfl rfl ?_
   refine wpL_done (fun W7 hW7 => ?_)
   change Code.wp ..
   refine wp_ret ?_
   try simp only [inBlock_ret, then_ret]
   refine bodyPost_ret (v := .int .i64 1) ?_ rfl ?_
   · kernel_rfl
   · exact ⟨(int_is (by simp [halvesX, *])), hW7.1⟩
set_option maxRecDepth 100000 in
set_option maxHeartbeats 4000000 in
theorem Aboard_any (b : Bx) (c : Int) (w : World) : Calls Tryd.prog 23 #[bxV b, .int .i64 c] w fun e w' => e = .returned (.bool (aboardX b c)) ∧ Below w.heap.size w w' := by
 go_enter Tryd.func23, Tryd.ntmps23
 refine wp_seq ?_
 refine wp_region_L [] (KS.start w) ?_
 refine wpL_new (fun g => .pointer (some ⟨g, 0, none⟩)) (obi := .cells (bxC b) 26 (0, 0)) rfl rfl Tw.kf Tw.pf fun g1 Bg1 Fg1 => ?_
 refine lm (v := .bool false) rfl rfl ?_
 refine wpL_done (fun W1 hW1 => ?_)
 change Code.wp ..
 refine wp_seq ?_
 refine wp_region_L _ hW1 ?_
 refine lm (v := .int .i64 c) rfl rfl ?_
 refine lm (v := .pointer (some ⟨g1, 5, none⟩)) rfl rfl ?_
 refine lv (v := .int .i64 b.load) rfl rfl (yb_cell (off := 5) rfl Tw.kr Tw.m0 Tryd.underlying3 rfl Tw.kr) ?_
 refine lp (v := .bool (!(decide (c < b.load)))) rfl rfl (run_bin rfl (vx := (.int .i64 c)) (vy := (.int .i64 b.load)) Tw.kr Tw.kr fun w => bi_geq rfl w) ?_
 refine lm (v := .bool (!(decide (c < b.load)))) rfl rfl ?_
 cases hd1 : (decide (c < b.load)) with
 | false =>
   have h1 : ¬ (c < b.load) := of_decide_eq_false hd1
   clear hd1
   refine lm (v := .int .i64 c) rfl rfl ?_
   refine lm (v := .pointer (some ⟨g1, 6, none⟩)) rfl rfl ?_
   refine lv (v := .int .i64 b.dis) rfl rfl (yb_cell (off := 6) rfl Tw.kr Tw.m0 Tryd.underlying3 rfl Tw.kr) ?_
   refine lp (v := .bool (decide (c < b.dis))) rfl rfl (run_bin rfl (vx := (.int .i64 c)) (vy := (.int .i64 b.dis)) Tw.kr Tw.kr fun w => bi_lss rfl w) ?_
   refine lm (v := .bool (decide (c < b.dis))) rfl rfl ?_
   refine lm (v := .bool (decide (c < b.dis))) rfl rfl ?_
   refine wpL_done (fun W2 hW2 => ?_)
   change Code.wp ..
   refine wp_ret ?_
   try simp only [inBlock_ret, then_ret]
   refine bodyPost_ret (v := .bool (decide (c < b.dis))) ?_ rfl ?_
   · kernel_rfl
   · exact ⟨(bool_is (by rw [Bool.eq_iff_iff]; simp [aboardX, *] <;> omega)), hW2.1⟩
 | true =>
   have h1 : c < b.load := of_decide_eq_true hd1
   clear hd1
   refine ln rfl ?_
   refine ln rfl ?_
   refine ln rfl ?_
   refine ln rfl ?_
   refine lm (v := .bool false) rfl rfl ?_
   refine lm (v := .bool false) rfl rfl ?_
   refine wpL_done (fun W3 hW3 => ?_)
   change Code.wp ..
   refine wp_ret ?_
   try simp only [inBlock_ret, then_ret]
   refine bodyPost_ret (v := .bool false) ?_ rfl ?_
   · kernel_rfl
   · exact ⟨(bool_is (by rw [Bool.eq_iff_iff]; simp [aboardX, *] <;> omega)), hW3.1⟩
set_option maxRecDepth 100000 in
set_option maxHeartbeats 4000000 in
theorem BCode_any (b : Bx) (w : World) (hE : Env w) : Calls Tryd.prog 18 #[bxV b] w fun e w' => e = .returned (codeT b) ∧ Below w.heap.size w w' := by
 have HE := Lib.hid hE
 clear hE
 go_enter Tryd.func18, Tryd.ntmps18
 refine wp_seq ?_
 refine wp_region_L [] (KS.start w) ?_
 refine wpL_new (fun g => .pointer (some ⟨g, 0, none⟩)) (obi := .cells (bxC b) 26 (0, 0)) rfl rfl Tw.kf Tw.pf fun g1 Bg1 Fg1 => ?_
 refine lm (v := strV []) rfl rfl ?_
 refine lm (v := .int .i64 0) rfl rfl ?_
 refine wpL_done (fun W1 hW1 => ?_)
 change Code.wp ..
 refine wp_seq ?_
 refine wp_region_L _ hW1 ?_
 refine lm (v := .pointer (some ⟨g1, 2, none⟩)) rfl rfl ?_
 refine lv (v := .int .u8 ((b.size : Nat) : Int)) rfl rfl (yb_cell (off := 2) rfl Tw.kr Tw.m0 Tryd.underlying5 rfl Tw.kr) ?_
 refine lm (v := .pointer (some ⟨g1, 3, none⟩)) rfl rfl ?_
 refine lv (v := .bool b.high) rfl rfl (yb_cell (off := 3) rfl Tw.kr Tw.m0 Tryd.underlying4 rfl Tw.kr) ?_
 refine lm (v := .pointer (some ⟨g1, 8, none⟩)) rfl rfl ?_
 refine lv (v := .bool b.rf) rfl rfl (yb_cell (off := 8) rfl Tw.kr Tw.m0 Tryd.underlying4 rfl Tw.kr) ?_
 refine lm (v := .agg #[.int .u8 ((b.size : Nat) : Int), .bool b.high, .bool b.rf]) rfl rfl ?_
 cases h1 : (codeOk b) with
 | false =>
   refine lv (v := .tuple #[strV [], .int .i64 32]) rfl rfl (yb_call (f := 43) (args := #[.agg #[.int .u8 ((b.size : Nat) : Int), .bool b.high, .bool b.rf]]) Tw.kf fun W hW => icode_no h1 W (HE.out.keep hW.1)) ?_
   refine lm (v := .tuple #[strV [], .int .i64 32]) rfl rfl ?_
   refine lm (v := strV []) rfl rfl ?_
   refine lm (v := .int .i64 32) rfl rfl ?_
   refine lm (v := strV []) rfl rfl ?_
   refine lm (v := .int .i64 32) rfl rfl ?_
   refine wpL_done (fun W2 hW2 => ?_)
   change Code.wp ..
   refine wp_seq ?_
   refine wp_seq ?_
   refine wp_region_L _ hW2 ?_
   refine lm (v := .int .i64 32) rfl rfl ?_
   refine lm (v := .bool true) rfl rfl ?_
   refine wpL_done (fun W3 hW3 => ?_)
   change Code.wp ..
   refine wp_cond_true rfl ?_
   refine wp_seq ?_
   refine wp_region_L _ hW3 ?_
   refine lm (v := strV []) rfl rfl ?_
   refine lm (v := .int .i64 60) rfl rfl ?_
   refine wpL_done (fun W4 hW4 => ?_)
   change Code.wp ..
   refine wp_ret ?_
   try simp only [inBlock_ret, then_ret]
   refine bodyPost_ret (v := .tuple #[strV [], .int .i64 60]) ?_ rfl ?_
   · kernel_rfl
   · exact ⟨(by unfold codeT; rw [if_neg (by rw [h1]; decide)]), hW4.1⟩
 | true =>
   refine lv (v := .tuple #[strV (codeS b), .int .i64 0]) rfl rfl (yb_call (f := 43) (args := #[.agg #[.int .u8 ((b.size : Nat) : Int), .bool b.high, .bool b.rf]]) Tw.kf fun W hW => icode_ok h1 W (HE.out.keep hW.1)) ?_
   refine lm (v := .tuple #[strV (codeS b), .int .i64 0]) rfl rfl ?_
   refine lm (v := strV (codeS b)) rfl rfl ?_
   refine lm (v := .int .i64 0) rfl rfl ?_
   refine lm (v := strV (codeS b)) rfl rfl ?_
   refine lm (v := .int .i64 0) rfl rfl ?_
   refine wpL_done (fun W5 hW5 => ?_)
   change Code.wp ..
   refine wp_seq ?_
   refine wp_seq ?_
   refine wp_region_L _ hW5 ?_
   refine lm (v := .int .i64 0) rfl rfl ?_
   refine lm (v := .bool false) rfl rfl ?_
   refine wpL_done (fun W6 hW6 => ?_)
   change Code.wp ..
   refine wp_cond_false rfl ?_
   refine wp_skip ?_
   change Code.wp ..
   refine wp_seq ?_
   refine wp_region_L _ hW6 ?_
   refine lm (v := strV (codeS b)) rfl rfl ?_
   refine lm (v := strV (codeS b)) rfl rfl ?_
   refine lm (v := .int .i64 0) rfl rfl ?_
   refine wpL_done (fun W7 hW7 => ?_)
   change Code.wp ..
   refine wp_ret ?_
   try simp only [inBlock_ret, then_ret]
   refine bodyPost_ret (v := .tuple #[strV (codeS b), .int .i64 0]) ?_ rfl ?_
   · kernel_rfl
   · exact ⟨(by unfold codeT; rw [if_pos h1]), hW7.1⟩
theorem bcode_is {b : Bx} {v : Value} (h : codeT b = v) (W : World) (hE : Env W) : Calls Tryd.prog 18 #[bxV b] W fun e w' => e = .returned v ∧ Below W.heap.size W w' := h ▸ BCode_any b W hE
set_option maxRecDepth 100000 in
set_option maxHeartbeats 4000000 in
theorem Find_any (l : List Bx) (p : Option Addr) (c : Nat) (n : Int) (hl : l.length ≤ 4000000000) (w : World) (hp : SLV w p (bcs l)) : Calls Tryd.prog 30 #[.slice p l.length c, .int .i64 n] w fun e w' => e = .returned (findV (findX l n)) ∧ Below w.heap.size w w' := by
 have HP := Lib.hid hp
 clear hp
 go_enter Tryd.func30, Tryd.ntmps30
 refine wp_seq ?_
 refine wp_region_L [] (KS.start w) ?_
 refine wpL_new (fun g => .pointer (some ⟨g, 0, none⟩)) (obi := .cells #[.int .i64 0, strV [], .int .u8 0, .bool false, .int .i64 0, .int .i64 0, .int .i64 0, .int .u8 0, .bool false] 26 (0, 0)) rfl rfl Tw.kf Tw.pf fun g1 Bg1 Fg1 => ?_
 refine lm (v := .bool false) rfl rfl ?_
 refine wpL_done (fun W1 hW1 => ?_)
 change Code.wp ..
 refine wp_seq ?_
 refine wp_seq ?_
 refine wp_region_L _ hW1 ?_
 refine lm (v := .slice p l.length c) rfl rfl ?_
 refine lp (v := .int .i64 ((l.length : Nat) : Int)) rfl rfl (run_lenL (p := p) (cap := c) (n := l.length) rfl Tryd.underlying22 Tw.kr) ?_
 refine lm (v := .int .i64 0) rfl rfl ?_
 refine wpL_done (fun W2 hW2 => ?_)
 change Code.wp ..
 refine wp_block ?_
 go_loopw [10] (fun u10 wr => ∃ (k : Nat), (k ≤ l.length) ∧ ((l.take k).find? (idIs n) = none) ∧ u10 = .int .i64 ((k : Nat) : Int) ∧ KS w [(g1, .cells #[.int .i64 0, strV [], .int .u8 0, .bool false, .int .i64 0, .int .i64 0, .int .i64 0, .int .u8 0, .bool false] 26 (0, 0))] wr) (fun u10 _ => l.length - (intOf u10).toNat)
 case atStart => exact ⟨0, (Nat.zero_le _), rfl, rfl, (hW2.sub (fun p hp => by first | exact hp | (simp only [List.mem_cons, List.mem_append, List.nil_append, List.not_mem_nil, or_assoc, or_false, false_or] at hp ⊢ <;> grind)))⟩
 case round =>
   obtain ⟨k, hk, hf, rfl, hL3⟩ := hrel
   refine wp_seq ?_
   refine wp_region_L _ hL3 ?_
   refine lp (v := .bool (decide (k < l.length))) rfl rfl (run_bin rfl (vx := (.int .i64 ((k : Nat) : Int))) (vy := (.int .i64 ((l.length : Nat) : Int))) Tw.kr Tw.kr fun w => bn_lss rfl w) ?_
   refine wpL_done (fun W4 hW4 => ?_)
   change Code.wp ..
   refine wp_seq ?_
   cases hd1 : (decide (k < l.length)) with
   | false =>
     have h1 : ¬ (k < l.length) := of_decide_eq_false hd1
     clear hd1
     refine wp_cond_false rfl ?_
     refine wp_exit ?_
     change Code.wp ..
     refine wp_seq ?_
     refine wp_region_L _ hW4 ?_
     refine lm (v := bxV bx0) rfl rfl ?_
     refine wpL_s [(g1, .cells (bxC bx0) 26 (0, 0))] rfl rfl (st_bx (b := bx0) rfl Tw.kr Tw.kr Tw.m0 rfl Bg1 Tw.kr (List.forall_mem_cons.2 ⟨.inl rfl, (List.forall_mem_nil _)⟩)) ?_
     refine lm (v := .bool false) rfl rfl ?_
     refine wpL_done (fun W5 hW5 => ?_)
     change Code.wp ..
     refine wp_ret ?_
     try simp only [inBlock_ret, then_ret]
     refine bodyPost_ret (v := .tuple #[.agg #[.int .i64 bx0.id, strV bx0.num, .int .u8 ((bx0.size : Nat) : Int), .bool bx0.high, .int .i64 bx0.kilos, .int .i64 bx0.load, .int .i64 bx0.dis, .int .u8 ((bx0.cls : Nat) : Int), .bool bx0.rf], .bool false]) ?_ rfl ?_
     · exact (res_cell_tmp (p := 4) (q := 5) rfl rfl (hW5.2 _ Tw.m0) Tryd.underlying26 rfl Tw.kr)
     · exact ⟨(ret_v (by unfold findX; rw [find_end hf h1]; rfl)), hW5.1⟩
   | true =>
     have h1 : k < l.length := of_decide_eq_true hd1
     clear hd1
     refine wp_cond_true rfl ?_
     refine wp_skip ?_
     change Code.wp ..
     refine wp_seq ?_
     refine wp_block ?_
     refine wp_seq ?_
     refine wp_region_L _ hW4 ?_
     obtain ⟨b2, g2_, f2, hy2, hp2, lt2, hc2⟩ := bl_at (k := k) HP.out Tw.om
     refine lp (v := .pointer (some ⟨g2_, f2 + k * 9, none⟩)) rfl rfl (run_idxQ (p := p) (cap := c) (n := l.length) (j := .i64) (k := k) (sz := 9) rfl Tryd.underlying22 Tw.kr Tw.kr hp2 Tw.kr Tw.om) ?_
     refine lv (v := bxV b2) rfl rfl (yb_olds (off := f2 + k * 9) (cs := (bxC b2).toList) rfl Tw.kr hc2 lt2 Tryd.underlying26 rfl Tw.kr) ?_
     refine wpL_new (fun g => .pointer (some ⟨g, 0, none⟩)) (obi := .cells #[.int .i64 0, strV [], .int .u8 0, .bool false, .int .i64 0, .int .i64 0, .int .i64 0, .int .u8 0, .bool false] 26 (0, 0)) rfl rfl Tw.kf Tw.pf fun g3 Bg3 Fg3 => ?_
     obtain dj4_0 : g1 ≠ g3 := Tw.dkf Fg3
     refine wpL_s [(g3, .cells (bxC b2) 26 (0, 0)), (g1, .cells #[.int .i64 0, strV [], .int .u8 0, .bool false, .int .i64 0, .int .i64 0, .int .i64 0, .int .u8 0, .bool false] 26 (0, 0))] rfl rfl (st_bx (b := b2) rfl Tw.kr Tw.kr Tw.m0 rfl Bg3 Tw.kr (List.forall_mem_cons.2 ⟨.inl rfl, (List.forall_mem_cons.2 ⟨.inr ⟨Tw.m1, Tw.nee⟩, (List.forall_mem_nil _)⟩)⟩)) ?_
     refine wpL_done (fun W6 hW6 => ?_)
     change Code.wp ..
     refine wp_seq ?_
     refine wp_region_L _ hW6 ?_
     refine lm (v := .pointer (some ⟨g3, 0, none⟩)) rfl rfl ?_
     refine lv (v := .int .i64 b2.id) rfl rfl (yb_cell (off := 0) rfl Tw.kr Tw.m0 Tryd.underlying3 rfl Tw.kr) ?_
     refine lm (v := .int .i64 n) rfl rfl ?_
     refine lp (v := .bool (decide (b2.id = n))) rfl rfl (run_bin rfl (vx := (.int .i64 b2.id)) (vy := (.int .i64 n)) Tw.kr Tw.kr fun w => bi_eql rfl w) ?_
     refine wpL_done (fun W7 hW7 => ?_)
     change Code.wp ..
     cases hd2 : (decide (b2.id = n)) with
     | false =>
       have h2 : ¬ (b2.id = n) := of_decide_eq_false hd2
       clear hd2
       refine wp_cond_false rfl ?_
       refine wp_skip ?_
       change Code.wp ..
       refine wp_region_L _ hW7 ?_
       refine lp (v := .int .i64 (((k + 1) : Nat) : Int)) rfl rfl (run_bin rfl (vx := (.int .i64 ((k : Nat) : Int))) (vy := (.int .i64 ((1 : Nat) : Int))) Tw.kr Tw.kr fun w => bn_add (z := (k + 1)) rfl (wr_i64 Tw.om) w) ?_
       refine lm (v := .int .i64 (((k + 1) : Nat) : Int)) rfl rfl ?_
       refine wpL_done (fun W8 hW8 => ?_)
       go_roundw
       case rel =>
         repeat apply Exists.intro
         exact ⟨⟨k + 1, Tw.om, (find_on hf hy2 (decide_eq_false h2)), rfl, (hW8.sub (fun p hp => by first | exact hp | (simp only [List.mem_cons, List.mem_append, List.nil_append, List.not_mem_nil, or_assoc, or_false, false_or] at hp ⊢ <;> grind)))⟩, rfl⟩
       case measure => (show l.length - (intOf (.int .i64 (((k + 1) : Nat) : Int))).toNat < l.length - (intOf (.int .i64 ((k : Nat) : Int))).toNat); simp only [intOf]; omega
     | true =>
       have h2 : b2.id = n := of_decide_eq_true hd2
       clear hd2
       refine wp_cond_true rfl ?_
       refine wp_seq ?_
       refine wp_region_L _ hW7 ?_
       refine lv (v := bxV b2) rfl rfl (yb_load (n := 9) (off := 0) rfl Tw.kr Tw.m0 Tryd.underlying26 rfl Tw.kr (Nat.le_refl 9) Tw.kr) ?_
       refine wpL_s [(g3, .cells (bxC b2) 26 (0, 0)), (g1, .cells (bxC b2) 26 (0, 0))] rfl rfl (st_bx (b := b2) rfl Tw.kr Tw.kr Tw.m1 rfl Bg1 Tw.kr (List.forall_mem_cons.2 ⟨.inr ⟨Tw.m0, Tw.nee⟩, (List.forall_mem_cons.2 ⟨.inl rfl, (List.forall_mem_nil _)⟩)⟩)) ?_
       refine lm (v := .bool true) rfl rfl ?_
       refine wpL_done (fun W9 hW9 => ?_)
       change Code.wp ..
       refine wp_ret ?_
       try simp only [inBlock_ret, then_ret]
       refine bodyPost_ret (v := .tuple #[.agg #[.int .i64 b2.id, strV b2.num, .int .u8 ((b2.size : Nat) : Int), .bool b2.high, .int .i64 b2.kilos, .int .i64 b2.load, .int .i64 b2.dis, .int .u8 ((b2.cls : Nat) : Int), .bool b2.rf], .bool true]) ?_ rfl ?_
       · exact (res_cell_tmp (p := 4) (q := 5) rfl rfl (hW9.2 _ Tw.m1) Tryd.underlying26 rfl Tw.kr)
       · exact ⟨(ret_v (by unfold findX; rw [find_at hf hy2 (decide_eq_true h2)]; rfl)), hW9.1⟩
set_option maxRecDepth 100000 in
set_option maxHeartbeats 4000000 in
theorem Numbered_any (l : List Bx) (p : Option Addr) (c : Nat) (n : List UInt8) (hl : l.length ≤ 4000000000) (w : World) (hp : SLV w p (bcs l)) : Calls Tryd.prog 31 #[.slice p l.length c, strV n] w fun e w' => e = .returned (numV (numberedX l n)) ∧ Below w.heap.size w w' := by
 have HP := Lib.hid hp
 clear hp
 go_enter Tryd.func31, Tryd.ntmps31
 refine wp_seq ?_
 refine wp_region_L [] (KS.start w) ?_
 refine lm (v := .int .i64 0) rfl rfl ?_
 refine lm (v := .bool false) rfl rfl ?_
 refine wpL_done (fun W1 hW1 => ?_)
 change Code.wp ..
 refine wp_seq ?_
 refine wp_seq ?_
 refine wp_region_L _ hW1 ?_
 refine lm (v := strV n) rfl rfl ?_
 refine lp (v := .bool (decide (n = []))) rfl rfl (run_bin rfl (vx := strV n) (vy := strV []) Tw.kr Tw.kr fun w => bs_eql rfl w) ?_
 refine wpL_done (fun W2 hW2 => ?_)
 change Code.wp ..
 cases hd1 : (decide (n = [])) with
 | false =>
   have h1 : ¬ (n = []) := of_decide_eq_false hd1
   clear hd1
   refine wp_cond_false rfl ?_
   refine wp_skip ?_
   change Code.wp ..
   refine wp_seq ?_
   refine wp_seq ?_
   refine wp_region_L _ hW2 ?_
   refine lm (v := .slice p l.length c) rfl rfl ?_
   refine lp (v := .int .i64 ((l.length : Nat) : Int)) rfl rfl (run_lenL (p := p) (cap := c) (n := l.length) rfl Tryd.underlying22 Tw.kr) ?_
   refine lm (v := .int .i64 0) rfl rfl ?_
   refine wpL_done (fun W3 hW3 => ?_)
   change Code.wp ..
   refine wp_block ?_
   go_loopw [12] (fun u12 wr => ∃ (k : Nat), (k ≤ l.length) ∧ ((l.take k).find? (numIs n) = none) ∧ u12 = .int .i64 ((k : Nat) : Int) ∧ KS w [] wr) (fun u12 _ => l.length - (intOf u12).toNat)
   case atStart => exact ⟨0, (Nat.zero_le _), rfl, rfl, (hW3.sub (fun p hp => by first | exact hp | (simp only [List.mem_cons, List.mem_append, List.nil_append, List.not_mem_nil, or_assoc, or_false, false_or] at hp ⊢ <;> grind)))⟩
   case round =>
     obtain ⟨k, hk, hf, rfl, hL4⟩ := hrel
     refine wp_seq ?_
     refine wp_region_L _ hL4 ?_
     refine lp (v := .bool (decide (k < l.length))) rfl rfl (run_bin rfl (vx := (.int .i64 ((k : Nat) : Int))) (vy := (.int .i64 ((l.length : Nat) : Int))) Tw.kr Tw.kr fun w => bn_lss rfl w) ?_
     refine wpL_done (fun W5 hW5 => ?_)
     change Code.wp ..
     refine wp_seq ?_
     cases hd2 : (decide (k < l.length)) with
     | false =>
       have h2 : ¬ (k < l.length) := of_decide_eq_false hd2
       clear hd2
       refine wp_cond_false rfl ?_
       refine wp_exit ?_
       change Code.wp ..
       refine wp_seq ?_
       refine wp_region_L _ hW5 ?_
       refine lm (v := .int .i64 0) rfl rfl ?_
       refine lm (v := .bool false) rfl rfl ?_
       refine wpL_done (fun W6 hW6 => ?_)
       change Code.wp ..
       refine wp_ret ?_
       try simp only [inBlock_ret, then_ret]
       refine bodyPost_ret (v := .tuple #[.int .i64 0, .bool false]) ?_ rfl ?_
       · kernel_rfl
       · exact ⟨(ret_v (by unfold numberedX; rw [if_neg h1, find_end hf h2]; rfl)), hW6.1⟩
     | true =>
       have h2 : k < l.length := of_decide_eq_true hd2
       clear hd2
       refine wp_cond_true rfl ?_
       refine wp_skip ?_
       change Code.wp ..
       refine wp_seq ?_
       refine wp_block ?_
       refine wp_seq ?_
       refine wp_region_L _ hW5 ?_
       obtain ⟨b1, g1_, f1, hy1, hp1, lt1, hc1⟩ := bl_at (k := k) HP.out Tw.om
       refine lp (v := .pointer (some ⟨g1_, f1 + k * 9, none⟩)) rfl rfl (run_idxQ (p := p) (cap := c) (n := l.length) (j := .i64) (k := k) (sz := 9) rfl Tryd.underlying22 Tw.kr Tw.kr hp1 Tw.kr Tw.om) ?_
       refine lv (v := bxV b1) rfl rfl (yb_olds (off := f1 + k * 9) (cs := (bxC b1).toList) rfl Tw.kr hc1 lt1 Tryd.underlying26 rfl Tw.kr) ?_
       refine wpL_new (fun g => .pointer (some ⟨g, 0, none⟩)) (obi := .cells #[.int .i64 0, strV [], .int .u8 0, .bool false, .int .i64 0, .int .i64 0, .int .i64 0, .int .u8 0, .bool false] 26 (0, 0)) rfl rfl Tw.kf Tw.pf fun g2 Bg2 Fg2 => ?_
       refine wpL_s [(g2, .cells (bxC b1) 26 (0, 0))] rfl rfl (st_bx (b := b1) rfl Tw.kr Tw.kr Tw.m0 rfl Bg2 Tw.kr (List.forall_mem_cons.2 ⟨.inl rfl, (List.forall_mem_nil _)⟩)) ?_
       refine wpL_done (fun W7 hW7 => ?_)
       change Code.wp ..
       refine wp_seq ?_
       refine wp_region_L _ hW7 ?_
       refine lm (v := .pointer (some ⟨g2, 1, none⟩)) rfl rfl ?_
       refine lv (v := strV b1.num) rfl rfl (yb_cell (off := 1) rfl Tw.kr Tw.m0 Tryd.underlying9 rfl Tw.kr) ?_
       refine lm (v := strV n) rfl rfl ?_
       refine lp (v := .bool (decide (b1.num = n))) rfl rfl (run_bin rfl (vx := strV b1.num) (vy := strV n) Tw.kr Tw.kr fun w => bs_eql rfl w) ?_
       refine wpL_done (fun W8 hW8 => ?_)
       change Code.wp ..
       cases hd3 : (decide (b1.num = n)) with
       | false =>
         have h3 : ¬ (b1.num = n) := of_decide_eq_false hd3
         clear hd3
         refine wp_cond_false rfl ?_
         refine wp_skip ?_
         change Code.wp ..
         refine wp_region_L _ hW8 ?_
         refine lp (v := .int .i64 (((k + 1) : Nat) : Int)) rfl rfl (run_bin rfl (vx := (.int .i64 ((k : Nat) : Int))) (vy := (.int .i64 ((1 : Nat) : Int))) Tw.kr Tw.kr fun w => bn_add (z := (k + 1)) rfl (wr_i64 Tw.om) w) ?_
         refine lm (v := .int .i64 (((k + 1) : Nat) : Int)) rfl rfl ?_
         refine wpL_done (fun W9 hW9 => ?_)
         go_roundw
         case rel =>
           repeat apply Exists.intro
           exact ⟨⟨k + 1, Tw.om, (find_on hf hy1 (decide_eq_false h3)), rfl, (hW9.sub (fun p hp => by first | exact hp | (simp only [List.mem_cons, List.mem_append, List.nil_append, List.not_mem_nil, or_assoc, or_false, false_or] at hp ⊢ <;> grind)))⟩, rfl⟩
         case measure => (show l.length - (intOf (.int .i64 (((k + 1) : Nat) : Int))).toNat < l.length - (intOf (.int .i64 ((k : Nat) : Int))).toNat); simp only [intOf]; omega
       | true =>
         have h3 : b1.num = n := of_decide_eq_true hd3
         clear hd3
         refine wp_cond_true rfl ?_
         refine wp_seq ?_
         refine wp_region_L _ hW8 ?_
         refine lm (v := .pointer (some ⟨g2, 0, none⟩)) rfl rfl ?_
         refine lv (v := .int .i64 b1.id) rfl rfl (yb_cell (off := 0) rfl Tw.kr Tw.m0 Tryd.underlying3 rfl Tw.kr) ?_
         refine lm (v := .int .i64 b1.id) rfl rfl ?_
         refine lm (v := .bool true) rfl rfl ?_
         refine wpL_done (fun W10 hW10 => ?_)
         change Code.wp ..
         refine wp_ret ?_
         try simp only [inBlock_ret, then_ret]
         refine bodyPost_ret (v := .tuple #[.int .i64 b1.id, .bool true]) ?_ rfl ?_
         · kernel_rfl
         · exact ⟨(ret_v (by unfold numberedX; rw [if_neg h1, find_at hf hy1 (decide_eq_true h3)]; rfl)), hW10.1⟩
 | true =>
   have h1 : n = [] := of_decide_eq_true hd1
   clear hd1
   refine wp_cond_true rfl ?_
   refine wp_seq ?_
   refine wp_region_L _ hW2 ?_
   refine lm (v := .int .i64 0) rfl rfl ?_
   refine lm (v := .bool false) rfl rfl ?_
   refine wpL_done (fun W11 hW11 => ?_)
   change Code.wp ..
   refine wp_ret ?_
   try simp only [inBlock_ret, then_ret]
   refine bodyPost_ret (v := .tuple #[.int .i64 0, .bool false]) ?_ rfl ?_
   · kernel_rfl
   · exact ⟨(ret_v (by unfold numberedX; rw [if_pos h1]; rfl)), hW11.1⟩
end Go.Proofs.YtllmpemmknblaaaDoor
namespace Go.Proofs.YtllmpemmknblaaaDoor
open Go Go.RowKit Tw
theorem sm_ok (l : List Bx) {k : Nat} (hk : k ≤ 4000000000) : SmOk 4000000000 (totalX (l.take k)) := by
 have h := total_ok l k
 unfold SmOk at *
 generalize totalX (l.take k) = s at *
 omega
set_option maxRecDepth 100000 in
set_option maxHeartbeats 4000000 in
theorem add_any {W0 : Base} {K : List (Nat × Obj)} {g : Nat} (s : Sm) (b : Bx) (hs : SmOk 4000000000 s) (hr : rightX b = true) (hB : W0.B ≤ g) (hg : ∀ q ∈ K, q.1 ≠ g) (w : World) (hw : KS W0 ((g, .cells (smC s) 82 (0, 0)) :: K) w) :
   Calls Tryd.prog 45 #[.pointer (some ⟨g, 0, none⟩), bxV b] w fun e w' => ∃ v K', e = .returned v ∧ KS W0 K' w' ∧ (v = .tuple #[] ∧ K' = (g, .cells (smC (add1 s b)) 82 (0, 0)) :: K) := by
 obtain ⟨h1, h2, h3, h4, h5, h6⟩ := hs
 have hk := right_kilos hr
 have hh := halves_le b
 go_enter Tryd.func45, Tryd.ntmps45
 refine wp_seq ?_
 refine wp_region_L (W0 := W0) ((g, .cells (smC s) 82 (0, 0)) :: K) (hw) ?_
 refine wpL_new (fun g => .pointer (some ⟨g, 0, none⟩)) (obi := .cells (bxC b) 26 (0, 0)) rfl rfl Tw.kf Tw.pf fun g1 Bg1 Fg1 => ?_
 refine wpL_done (fun W1 hW1 => ?_)
 change Code.wp ..
 refine wp_seq ?_
 refine wp_region_L (W0 := W0) ((g1, .cells (bxC b) 26 (0, 0)) :: (g, .cells (smC s) 82 (0, 0)) :: K) (hW1) ?_
 refine lm (v := .pointer (some ⟨g, 0, none⟩)) rfl rfl ?_
 refine lm (v := .pointer (some ⟨g, 0, none⟩)) rfl rfl ?_
 refine lm (v := .pointer (some ⟨g, 0, none⟩)) rfl rfl ?_
 refine lm (v := .pointer (some ⟨g, 0, none⟩)) rfl rfl ?_
 refine lv (v := .int .i64 ((s.n : Nat) : Int)) rfl rfl (yb_cell (off := 0) rfl Tw.kr Tw.m1 Tryd.underlying3 rfl Tw.kr) ?_
 refine lp (v := .int .i64 (((s.n + 1) : Nat) : Int)) rfl rfl (run_bin rfl (vx := (.int .i64 ((s.n : Nat) : Int))) (vy := (.int .i64 ((1 : Nat) : Int))) Tw.kr Tw.kr fun w => bn_add (z := (s.n + 1)) rfl (wr_i64 Tw.om) w) ?_
 refine lm (v := .pointer (some ⟨g, 0, none⟩)) rfl rfl ?_
 refine lm (v := .pointer (some ⟨g, 0, none⟩)) rfl rfl ?_
 refine lm (v := .pointer (some ⟨g, 0, none⟩)) rfl rfl ?_
 refine wpL_s ((g1, .cells (bxC b) 26 (0, 0)) :: (g, .cells #[.int .i64 (((s.n + 1) : Nat) : Int), .int .i64 ((s.h : Nat) : Int), .int .i64 s.k, .int .i64 ((s.r : Nat) : Int), .int .i64 ((s.d : Nat) : Int)] 82 (0, 0)) :: K) rfl rfl (st_row (off := 0) (v := .int .i64 (((s.n + 1) : Nat) : Int)) rfl Tw.kr Tw.kr Tw.m1 hB Tw.kr (by first | (simp [Value.cells]; done) | exact Nat.le_of_ble_eq_true rfl) (by intro v hv; simp [Value.cells, strV] at hv; first | (subst hv; rfl) | (rcases hv with rfl <;> rfl)) Tw.kr (List.forall_mem_cons.2 ⟨.inr ⟨Tw.m0, (Ne.symm (Fg1 _ Tw.m0))⟩, (List.forall_mem_cons.2 ⟨.inl rfl, (fun p hp => .inr ⟨(.tail _ (.tail _ hp)), (hg _ hp)⟩)⟩)⟩)) ?_
 refine wpL_done (fun W2 hW2 => ?_)
 change Code.wp ..
 refine wp_seq ?_
 refine wp_region_V (W0 := W0) ((g1, .cells (bxC b) 26 (0, 0)) :: (g, .cells #[.int .i64 (((s.n + 1) : Nat) : Int), .int .i64 ((s.h : Nat) : Int), .int .i64 s.k, .int .i64 ((s.r : Nat) : Int), .int .i64 ((s.d : Nat) : Int)] 82 (0, 0)) :: K) Tw.kr (hW2) ?_
 refine vm (i := 0) (v := .pointer (some ⟨g, 0, none⟩)) rfl rfl rfl ?_
 refine vm (i := 1) (v := .pointer (some ⟨g, 0, none⟩)) rfl rfl rfl ?_
 refine vm (i := 2) (v := .pointer (some ⟨g, 0, none⟩)) rfl rfl rfl ?_
 refine vm (i := 3) (v := .pointer (some ⟨g, 1, none⟩)) rfl rfl rfl ?_
 refine vv (i := 4) (v := .int .i64 ((s.h : Nat) : Int)) rfl rfl rfl (yb_cell (off := 1) rfl Tw.kr Tw.m1 Tryd.underlying3 rfl Tw.kr) ?_
 refine vv (i := 5) (v := bxV b) rfl rfl rfl (yb_load (n := 9) (off := 0) rfl Tw.kr Tw.m0 Tryd.underlying26 rfl Tw.kr (Nat.le_refl 9) Tw.kr) ?_
 refine vv (i := 6) (v := .int .i64 (((halvesX b) : Nat) : Int)) rfl rfl rfl (yb_call (f := 22) (args := #[bxV b]) Tw.kf fun W hW => Halves_any b W) ?_
 refine vp (i := 7) (v := .int .i64 (((s.h + (halvesX b)) : Nat) : Int)) rfl rfl rfl (run_bin rfl (vx := (.int .i64 ((s.h : Nat) : Int))) (vy := (.int .i64 (((halvesX b) : Nat) : Int))) Tw.kr Tw.kr fun w => bn_add (z := (s.h + (halvesX b))) rfl (wr_i64 Tw.om) w) ?_
 refine vm (i := 8) (v := .pointer (some ⟨g, 0, none⟩)) rfl rfl rfl ?_
 refine vm (i := 9) (v := .pointer (some ⟨g, 0, none⟩)) rfl rfl rfl ?_
 refine vm (i := 10) (v := .pointer (some ⟨g, 1, none⟩)) rfl rfl rfl ?_
 refine wpV_s ((g1, .cells (bxC b) 26 (0, 0)) :: (g, .cells #[.int .i64 (((s.n + 1) : Nat) : Int), .int .i64 (((s.h + (halvesX b)) : Nat) : Int), .int .i64 s.k, .int .i64 ((s.r : Nat) : Int), .int .i64 ((s.d : Nat) : Int)] 82 (0, 0)) :: K) (i := 11) rfl Tw.kr rfl rfl rfl (st_row (off := 1) (v := .int .i64 (((s.h + (halvesX b)) : Nat) : Int)) rfl Tw.kr Tw.kr Tw.m1 hB Tw.kr (by first | (simp [Value.cells]; done) | exact Nat.le_of_ble_eq_true rfl) (by intro v hv; simp [Value.cells, strV] at hv; first | (subst hv; rfl) | (rcases hv with rfl <;> rfl)) Tw.kr (List.forall_mem_cons.2 ⟨.inr ⟨Tw.m0, (Ne.symm (Fg1 _ Tw.m0))⟩, (List.forall_mem_cons.2 ⟨.inl rfl, (fun p hp => .inr ⟨(.tail _ (.tail _ hp)), (hg _ hp)⟩)⟩)⟩)) ?_
 refine wpV_done Tw.kr (fun W3 hW3 => ?_) _
 change Code.wp ..
 refine wp_seq ?_
 refine wp_region_V (W0 := W0) ((g1, .cells (bxC b) 26 (0, 0)) :: (g, .cells #[.int .i64 (((s.n + 1) : Nat) : Int), .int .i64 (((s.h + (halvesX b)) : Nat) : Int), .int .i64 s.k, .int .i64 ((s.r : Nat) : Int), .int .i64 ((s.d : Nat) : Int)] 82 (0, 0)) :: K) Tw.kr (hW3) ?_
 refine vm (i := 0) (v := .pointer (some ⟨g, 0, none⟩)) rfl rfl rfl ?_
 refine vm (i := 1) (v := .pointer (some ⟨g, 0, none⟩)) rfl rfl rfl ?_
 refine vm (i := 2) (v := .pointer (some ⟨g, 0, none⟩)) rfl rfl rfl ?_
 refine vm (i := 3) (v := .pointer (some ⟨g, 2, none⟩)) rfl rfl rfl ?_
 refine vv (i := 4) (v := .int .i64 s.k) rfl rfl rfl (yb_cell (off := 2) rfl Tw.kr Tw.m1 Tryd.underlying3 rfl Tw.kr) ?_
 refine vm (i := 5) (v := .pointer (some ⟨g1, 4, none⟩)) rfl rfl rfl ?_
 refine vv (i := 6) (v := .int .i64 b.kilos) rfl rfl rfl (yb_cell (off := 4) rfl Tw.kr Tw.m0 Tryd.underlying3 rfl Tw.kr) ?_
 refine vp (i := 7) (v := .int .i64 (s.k + b.kilos)) rfl rfl rfl (run_bin rfl (vx := (.int .i64 s.k)) (vy := (.int .i64 b.kilos)) Tw.kr Tw.kr fun w => bi_add (z := (s.k + b.kilos)) rfl (wi_i64 Tw.om) w) ?_
 refine vm (i := 8) (v := .pointer (some ⟨g, 0, none⟩)) rfl rfl rfl ?_
 refine vm (i := 9) (v := .pointer (some ⟨g, 0, none⟩)) rfl rfl rfl ?_
 refine vm (i := 10) (v := .pointer (some ⟨g, 2, none⟩)) rfl rfl rfl ?_
 refine wpV_s ((g1, .cells (bxC b) 26 (0, 0)) :: (g, .cells #[.int .i64 (((s.n + 1) : Nat) : Int), .int .i64 (((s.h + (halvesX b)) : Nat) : Int), .int .i64 (s.k + b.kilos), .int .i64 ((s.r : Nat) : Int), .int .i64 ((s.d : Nat) : Int)] 82 (0, 0)) :: K) (i := 11) rfl Tw.kr rfl rfl rfl (st_row (off := 2) (v := .int .i64 (s.k + b.kilos)) rfl Tw.kr Tw.kr Tw.m1 hB Tw.kr (by first | (simp [Value.cells]; done) | exact Nat.le_of_ble_eq_true rfl) (by intro v hv; simp [Value.cells, strV] at hv; first | (subst hv; rfl) | (rcases hv with rfl <;> rfl)) Tw.kr (List.forall_mem_cons.2 ⟨.inr ⟨Tw.m0, (Ne.symm (Fg1 _ Tw.m0))⟩, (List.forall_mem_cons.2 ⟨.inl rfl, (fun p hp => .inr ⟨(.tail _ (.tail _ hp)), (hg _ hp)⟩)⟩)⟩)) ?_
 refine wpV_done Tw.kr (fun W4 hW4 => ?_) _
 change Code.wp ..
 refine wp_seq ?_
 refine wp_seq ?_
 refine wp_region_L (W0 := W0) ((g1, .cells (bxC b) 26 (0, 0)) :: (g, .cells #[.int .i64 (((s.n + 1) : Nat) : Int), .int .i64 (((s.h + (halvesX b)) : Nat) : Int), .int .i64 (s.k + b.kilos), .int .i64 ((s.r : Nat) : Int), .int .i64 ((s.d : Nat) : Int)] 82 (0, 0)) :: K) (hW4) ?_
 refine lm (v := .pointer (some ⟨g1, 8, none⟩)) rfl rfl ?_
 refine lv (v := .bool b.rf) rfl rfl (yb_cell (off := 8) rfl Tw.kr Tw.m0 Tryd.underlying4 rfl Tw.kr) ?_
 refine wpL_done (fun W5 hW5 => ?_)
 change Code.wp ..
 cases h1 : b.rf with
 | false =>
   refine wp_cond_false rfl ?_
   refine wp_skip ?_
   change Code.wp ..
   refine wp_seq ?_
   refine wp_region_L (W0 := W0) ((g1, .cells (bxC b) 26 (0, 0)) :: (g, .cells #[.int .i64 (((s.n + 1) : Nat) : Int), .int .i64 (((s.h + (halvesX b)) : Nat) : Int), .int .i64 (s.k + b.kilos), .int .i64 ((s.r : Nat) : Int), .int .i64 ((s.d : Nat) : Int)] 82 (0, 0)) :: K) (hW5) ?_
   refine lm (v := .pointer (some ⟨g1, 7, none⟩)) rfl rfl ?_
   refine lv (v := .int .u8 ((b.cls : Nat) : Int)) rfl rfl (yb_cell (off := 7) rfl Tw.kr Tw.m0 Tryd.underlying5 rfl Tw.kr) ?_
   refine lp (v := .bool (!(decide (b.cls = 0)))) rfl rfl (run_bin rfl (vx := (.int .u8 ((b.cls : Nat) : Int))) (vy := (.int .u8 ((0 : Nat) : Int))) Tw.kr Tw.kr fun w => bn_neq rfl w) ?_
   refine wpL_done (fun W6 hW6 => ?_)
   change Code.wp ..
   cases hd2 : (decide (b.cls = 0)) with
   | false =>
     have h2 : ¬ (b.cls = 0) := of_decide_eq_false hd2
     clear hd2
     refine wp_cond_true rfl ?_
     refine wp_region_L (W0 := W0) ((g1, .cells (bxC b) 26 (0, 0)) :: (g, .cells #[.int .i64 (((s.n + 1) : Nat) : Int), .int .i64 (((s.h + (halvesX b)) : Nat) : Int), .int .i64 (s.k + b.kilos), .int .i64 ((s.r : Nat) : Int), .int .i64 ((s.d : Nat) : Int)] 82 (0, 0)) :: K) (hW6) ?_
     refine lm (v := .pointer (some ⟨g, 0, none⟩)) rfl rfl ?_
     refine lm (v := .pointer (some ⟨g, 0, none⟩)) rfl rfl ?_
     refine lm (v := .pointer (some ⟨g, 0, none⟩)) rfl rfl ?_
     refine lm (v := .pointer (some ⟨g, 4, none⟩)) rfl rfl ?_
     refine lv (v := .int .i64 ((s.d : Nat) : Int)) rfl rfl (yb_cell (off := 4) rfl Tw.kr Tw.m1 Tryd.underlying3 rfl Tw.kr) ?_
     refine lp (v := .int .i64 (((s.d + 1) : Nat) : Int)) rfl rfl (run_bin rfl (vx := (.int .i64 ((s.d : Nat) : Int))) (vy := (.int .i64 ((1 : Nat) : Int))) Tw.kr Tw.kr fun w => bn_add (z := (s.d + 1)) rfl (wr_i64 Tw.om) w) ?_
     refine lm (v := .pointer (some ⟨g, 0, none⟩)) rfl rfl ?_
     refine lm (v := .pointer (some ⟨g, 0, none⟩)) rfl rfl ?_
     refine lm (v := .pointer (some ⟨g, 4, none⟩)) rfl rfl ?_
     refine wpL_s ((g1, .cells (bxC b) 26 (0, 0)) :: (g, .cells #[.int .i64 (((s.n + 1) : Nat) : Int), .int .i64 (((s.h + (halvesX b)) : Nat) : Int), .int .i64 (s.k + b.kilos), .int .i64 ((s.r : Nat) : Int), .int .i64 (((s.d + 1) : Nat) : Int)] 82 (0, 0)) :: K) rfl rfl (st_row (off := 4) (v := .int .i64 (((s.d + 1) : Nat) : Int)) rfl Tw.kr Tw.kr Tw.m1 hB Tw.kr (by first | (simp [Value.cells]; done) | exact Nat.le_of_ble_eq_true rfl) (by intro v hv; simp [Value.cells, strV] at hv; first | (subst hv; rfl) | (rcases hv with rfl <;> rfl)) Tw.kr (List.forall_mem_cons.2 ⟨.inr ⟨Tw.m0, (Ne.symm (Fg1 _ Tw.m0))⟩, (List.forall_mem_cons.2 ⟨.inl rfl, (fun p hp => .inr ⟨(.tail _ (.tail _ hp)), (hg _ hp)⟩)⟩)⟩)) ?_
     refine wpL_done (fun W7 hW7 => ?_)
     refine bodyPost_end (v := .tuple #[]) (results_none rfl _ _ _) rfl ?_
     have he : (smC (add1 s b)) = #[.int .i64 (((s.n + 1) : Nat) : Int), .int .i64 (((s.h + (halvesX b)) : Nat) : Int), .int .i64 (s.k + b.kilos), .int .i64 ((s.r : Nat) : Int), .int .i64 (((s.d + 1) : Nat) : Int)] := by simp [smC, add1, h1, h2]
     exact ⟨_, _, rfl, by rw [he]; exact hW7.sub (List.forall_mem_cons.2 ⟨Tw.m1, fun p hp => (.tail _ (.tail _ hp))⟩), rfl, rfl⟩
   | true =>
     have h2 : b.cls = 0 := of_decide_eq_true hd2
     clear hd2
     refine wp_cond_false rfl ?_
     refine wp_skip ?_
     refine bodyPost_end (v := .tuple #[]) (results_none rfl _ _ _) rfl ?_
     have he : (smC (add1 s b)) = #[.int .i64 (((s.n + 1) : Nat) : Int), .int .i64 (((s.h + (halvesX b)) : Nat) : Int), .int .i64 (s.k + b.kilos), .int .i64 ((s.r : Nat) : Int), .int .i64 ((s.d : Nat) : Int)] := by simp [smC, add1, h1, h2]
     exact ⟨_, _, rfl, by rw [he]; exact hW6.sub (List.forall_mem_cons.2 ⟨Tw.m1, fun p hp => (.tail _ (.tail _ hp))⟩), rfl, rfl⟩
 | true =>
   refine wp_cond_true rfl ?_
   refine wp_region_L (W0 := W0) ((g1, .cells (bxC b) 26 (0, 0)) :: (g, .cells #[.int .i64 (((s.n + 1) : Nat) : Int), .int .i64 (((s.h + (halvesX b)) : Nat) : Int), .int .i64 (s.k + b.kilos), .int .i64 ((s.r : Nat) : Int), .int .i64 ((s.d : Nat) : Int)] 82 (0, 0)) :: K) (hW5) ?_
   refine lm (v := .pointer (some ⟨g, 0, none⟩)) rfl rfl ?_
   refine lm (v := .pointer (some ⟨g, 0, none⟩)) rfl rfl ?_
   refine lm (v := .pointer (some ⟨g, 0, none⟩)) rfl rfl ?_
   refine lm (v := .pointer (some ⟨g, 3, none⟩)) rfl rfl ?_
   refine lv (v := .int .i64 ((s.r : Nat) : Int)) rfl rfl (yb_cell (off := 3) rfl Tw.kr Tw.m1 Tryd.underlying3 rfl Tw.kr) ?_
   refine lp (v := .int .i64 (((s.r + 1) : Nat) : Int)) rfl rfl (run_bin rfl (vx := (.int .i64 ((s.r : Nat) : Int))) (vy := (.int .i64 ((1 : Nat) : Int))) Tw.kr Tw.kr fun w => bn_add (z := (s.r + 1)) rfl (wr_i64 Tw.om) w) ?_
   refine lm (v := .pointer (some ⟨g, 0, none⟩)) rfl rfl ?_
   refine lm (v := .pointer (some ⟨g, 0, none⟩)) rfl rfl ?_
   refine lm (v := .pointer (some ⟨g, 3, none⟩)) rfl rfl ?_
   refine wpL_s ((g1, .cells (bxC b) 26 (0, 0)) :: (g, .cells #[.int .i64 (((s.n + 1) : Nat) : Int), .int .i64 (((s.h + (halvesX b)) : Nat) : Int), .int .i64 (s.k + b.kilos), .int .i64 (((s.r + 1) : Nat) : Int), .int .i64 ((s.d : Nat) : Int)] 82 (0, 0)) :: K) rfl rfl (st_row (off := 3) (v := .int .i64 (((s.r + 1) : Nat) : Int)) rfl Tw.kr Tw.kr Tw.m1 hB Tw.kr (by first | (simp [Value.cells]; done) | exact Nat.le_of_ble_eq_true rfl) (by intro v hv; simp [Value.cells, strV] at hv; first | (subst hv; rfl) | (rcases hv with rfl <;> rfl)) Tw.kr (List.forall_mem_cons.2 ⟨.inr ⟨Tw.m0, (Ne.symm (Fg1 _ Tw.m0))⟩, (List.forall_mem_cons.2 ⟨.inl rfl, (fun p hp => .inr ⟨(.tail _ (.tail _ hp)), (hg _ hp)⟩)⟩)⟩)) ?_
   refine wpL_done (fun W8 hW8 => ?_)
   change Code.wp ..
   refine wp_seq ?_
   refine wp_region_L (W0 := W0) ((g1, .cells (bxC b) 26 (0, 0)) :: (g, .cells #[.int .i64 (((s.n + 1) : Nat) : Int), .int .i64 (((s.h + (halvesX b)) : Nat) : Int), .int .i64 (s.k + b.kilos), .int .i64 (((s.r + 1) : Nat) : Int), .int .i64 ((s.d : Nat) : Int)] 82 (0, 0)) :: K) (hW8) ?_
   refine lm (v := .pointer (some ⟨g1, 7, none⟩)) rfl rfl ?_
   refine lv (v := .int .u8 ((b.cls : Nat) : Int)) rfl rfl (yb_cell (off := 7) rfl Tw.kr Tw.m0 Tryd.underlying5 rfl Tw.kr) ?_
   refine lp (v := .bool (!(decide (b.cls = 0)))) rfl rfl (run_bin rfl (vx := (.int .u8 ((b.cls : Nat) : Int))) (vy := (.int .u8 ((0 : Nat) : Int))) Tw.kr Tw.kr fun w => bn_neq rfl w) ?_
   refine wpL_done (fun W9 hW9 => ?_)
   change Code.wp ..
   cases hd3 : (decide (b.cls = 0)) with
   | false =>
     have h3 : ¬ (b.cls = 0) := of_decide_eq_false hd3
     clear hd3
     refine wp_cond_true rfl ?_
     refine wp_region_L (W0 := W0) ((g1, .cells (bxC b) 26 (0, 0)) :: (g, .cells #[.int .i64 (((s.n + 1) : Nat) : Int), .int .i64 (((s.h + (halvesX b)) : Nat) : Int), .int .i64 (s.k + b.kilos), .int .i64 (((s.r + 1) : Nat) : Int), .int .i64 ((s.d : Nat) : Int)] 82 (0, 0)) :: K) (hW9) ?_
     refine lm (v := .pointer (some ⟨g, 0, none⟩)) rfl rfl ?_
     refine lm (v := .pointer (some ⟨g, 0, none⟩)) rfl rfl ?_
     refine lm (v := .pointer (some ⟨g, 0, none⟩)) rfl rfl ?_
     refine lm (v := .pointer (some ⟨g, 4, none⟩)) rfl rfl ?_
     refine lv (v := .int .i64 ((s.d : Nat) : Int)) rfl rfl (yb_cell (off := 4) rfl Tw.kr Tw.m1 Tryd.underlying3 rfl Tw.kr) ?_
     refine lp (v := .int .i64 (((s.d + 1) : Nat) : Int)) rfl rfl (run_bin rfl (vx := (.int .i64 ((s.d : Nat) : Int))) (vy := (.int .i64 ((1 : Nat) : Int))) Tw.kr Tw.kr fun w => bn_add (z := (s.d + 1)) rfl (wr_i64 Tw.om) w) ?_
     refine lm (v := .pointer (some ⟨g, 0, none⟩)) rfl rfl ?_
     refine lm (v := .pointer (some ⟨g, 0, none⟩)) rfl rfl ?_
     refine lm (v := .pointer (some ⟨g, 4, none⟩)) rfl rfl ?_
     refine wpL_s ((g1, .cells (bxC b) 26 (0, 0)) :: (g, .cells #[.int .i64 (((s.n + 1) : Nat) : Int), .int .i64 (((s.h + (halvesX b)) : Nat) : Int), .int .i64 (s.k + b.kilos), .int .i64 (((s.r + 1) : Nat) : Int), .int .i64 (((s.d + 1) : Nat) : Int)] 82 (0, 0)) :: K) rfl rfl (st_row (off := 4) (v := .int .i64 (((s.d + 1) : Nat) : Int)) rfl Tw.kr Tw.kr Tw.m1 hB Tw.kr (by first | (simp [Value.cells]; done) | exact Nat.le_of_ble_eq_true rfl) (by intro v hv; simp [Value.cells, strV] at hv; first | (subst hv; rfl) | (rcases hv with rfl <;> rfl)) Tw.kr (List.forall_mem_cons.2 ⟨.inr ⟨Tw.m0, (Ne.symm (Fg1 _ Tw.m0))⟩, (List.forall_mem_cons.2 ⟨.inl rfl, (fun p hp => .inr ⟨(.tail _ (.tail _ hp)), (hg _ hp)⟩)⟩)⟩)) ?_
     refine wpL_done (fun W10 hW10 => ?_)
     refine bodyPost_end (v := .tuple #[]) (results_none rfl _ _ _) rfl ?_
     have he : (smC (add1 s b)) = #[.int .i64 (((s.n + 1) : Nat) : Int), .int .i64 (((s.h + (halvesX b)) : Nat) : Int), .int .i64 (s.k + b.kilos), .int .i64 (((s.r + 1) : Nat) : Int), .int .i64 (((s.d + 1) : Nat) : Int)] := by simp [smC, add1, h1, h3]
     exact ⟨_, _, rfl, by rw [he]; exact hW10.sub (List.forall_mem_cons.2 ⟨Tw.m1, fun p hp => (.tail _ (.tail _ hp))⟩), rfl, rfl⟩
   | true =>
     have h3 : b.cls = 0 := of_decide_eq_true hd3
     clear hd3
     refine wp_cond_false rfl ?_
     refine wp_skip ?_
     refine bodyPost_end (v := .tuple #[]) (results_none rfl _ _ _) rfl ?_
     have he : (smC (add1 s b)) = #[.int .i64 (((s.n + 1) : Nat) : Int), .int .i64 (((s.h + (halvesX b)) : Nat) : Int), .int .i64 (s.k + b.kilos), .int .i64 (((s.r + 1) : Nat) : Int), .int .i64 ((s.d : Nat) : Int)] := by simp [smC, add1, h1, h3]
     exact ⟨_, _, rfl, by rw [he]; exact hW9.sub (List.forall_mem_cons.2 ⟨Tw.m1, fun p hp => (.tail _ (.tail _ hp))⟩), rfl, rfl⟩
set_option maxRecDepth 100000 in
set_option maxHeartbeats 4000000 in
theorem Total_any (l : List Bx) (p : Option Addr) (c : Nat) (hl : l.length ≤ 4000000000) (w : World) (hp : SLV w p (bcs l)) : Calls Tryd.prog 26 #[.slice p l.length c] w fun e w' => e = .returned (smV (totalX l)) ∧ Below w.heap.size w w' := by
 have HP := Lib.hid hp
 clear hp
 go_enter Tryd.func26, Tryd.ntmps26
 refine wp_seq ?_
 refine wp_region_L [] (KS.start w) ?_
 refine wpL_new (fun g => .pointer (some ⟨g, 0, none⟩)) (obi := .cells #[.int .i64 0, .int .i64 0, .int .i64 0, .int .i64 0, .int .i64 0] 47 (0, 0)) rfl rfl Tw.kf Tw.pf fun g1 Bg1 Fg1 => ?_
 refine wpL_done (fun W1 hW1 => ?_)
 change Code.wp ..
 refine wp_seq ?_
 refine wp_region_L _ hW1 ?_
 refine wpL_new (fun g => .pointer (some ⟨g, 0, none⟩)) (obi := .cells #[.int .i64 0, .int .i64 0, .int .i64 0, .int .i64 0, .int .i64 0] 82 (0, 0)) rfl rfl Tw.kf Tw.pf fun g2 Bg2 Fg2 => ?_
 refine wpL_done (fun W2 hW2 => ?_)
 change Code.wp ..
 refine wp_seq ?_
 refine wp_seq ?_
 refine wp_region_L _ hW2 ?_
 refine lm (v := .slice p l.length c) rfl rfl ?_
 refine lp (v := .int .i64 ((l.length : Nat) : Int)) rfl rfl (run_lenL (p := p) (cap := c) (n := l.length) rfl Tryd.underlying22 Tw.kr) ?_
 refine lm (v := .int .i64 0) rfl rfl ?_
 refine wpL_done (fun W3 hW3 => ?_)
 change Code.wp ..
 refine wp_block ?_
 go_loopw [8] (fun u8 wr => ∃ (k : Nat), (k ≤ l.length) ∧ u8 = .int .i64 ((k : Nat) : Int) ∧ KS w [(g2, .cells (smC (totalX (l.take k))) 82 (0, 0)), (g1, .cells #[.int .i64 0, .int .i64 0, .int .i64 0, .int .i64 0, .int .i64 0] 47 (0, 0))] wr) (fun u8 _ => l.length - (intOf u8).toNat)
 case atStart => exact ⟨0, (Nat.zero_le _), rfl, hW3⟩
 case round =>
   obtain ⟨k, hk, rfl, hL4⟩ := hrel
   refine wp_seq ?_
   refine wp_region_L _ hL4 ?_
   refine lp (v := .bool (decide (k < l.length))) rfl rfl (run_bin rfl (vx := (.int .i64 ((k : Nat) : Int))) (vy := (.int .i64 ((l.length : Nat) : Int))) Tw.kr Tw.kr fun w => bn_lss rfl w) ?_
   refine wpL_done (fun W5 hW5 => ?_)
   change Code.wp ..
   refine wp_seq ?_
   cases hd1 : (decide (k < l.length)) with
   | false =>
     have h1 : ¬ (k < l.length) := of_decide_eq_false hd1
     clear hd1
     refine wp_cond_false rfl ?_
     refine wp_exit ?_
     change Code.wp ..
     refine wp_seq ?_
     refine wp_region_L _ hW5 ?_
     refine lm (v := .pointer (some ⟨g2, 0, none⟩)) rfl rfl ?_
     refine lv (v := .agg #[.int .i64 ((((totalX (l.take k)).n) : Nat) : Int), .int .i64 ((((totalX (l.take k)).h) : Nat) : Int), .int .i64 ((totalX (l.take k)).k), .int .i64 ((((totalX (l.take k)).r) : Nat) : Int), .int .i64 ((((totalX (l.take k)).d) : Nat) : Int)]) rfl rfl (yb_load (n := 5) (off := 0) rfl Tw.kr Tw.m0 Tryd.underlying47 rfl Tw.kr (by first | (simp; done) | exact Nat.le_of_ble_eq_true rfl) Tw.kr) ?_
     refine wpL_s [(g2, .cells (smC (totalX (l.take k))) 82 (0, 0)), (g1, .cells #[.int .i64 ((((totalX (l.take k)).n) : Nat) : Int), .int .i64 ((((totalX (l.take k)).h) : Nat) : Int), .int .i64 ((totalX (l.take k)).k), .int .i64 ((((totalX (l.take k)).r) : Nat) : Int), .int .i64 ((((totalX (l.take k)).d) : Nat) : Int)] 47 (0, 0))] rfl rfl (st_row (off := 0) (v := .agg #[.int .i64 ((((totalX (l.take k)).n) : Nat) : Int), .int .i64 ((((totalX (l.take k)).h) : Nat) : Int), .int .i64 ((totalX (l.take k)).k), .int .i64 ((((totalX (l.take k)).r) : Nat) : Int), .int .i64 ((((totalX (l.take k)).d) : Nat) : Int)]) rfl Tw.kr Tw.kr Tw.m1 Bg1 Tw.kr (by first | (simp [Value.cells]; done) | exact Nat.le_of_ble_eq_true rfl) (by intro v hv; simp [Value.cells, strV] at hv; first | (subst hv; rfl) | (rcases hv with rfl | rfl | rfl | rfl | rfl <;> rfl)) Tw.kr (List.forall_mem_cons.2 ⟨.inr ⟨Tw.m0, (Ne.symm (Fg2 _ Tw.m0))⟩, (List.forall_mem_cons.2 ⟨.inl rfl, (List.forall_mem_nil _)⟩)⟩)) ?_
     refine wpL_done (fun W6 hW6 => ?_)
     change Code.wp ..
     refine wp_ret ?_
     try simp only [inBlock_ret, then_ret]
     refine bodyPost_ret (v := .agg #[.int .i64 ((((totalX (l.take k)).n) : Nat) : Int), .int .i64 ((((totalX (l.take k)).h) : Nat) : Int), .int .i64 ((totalX (l.take k)).k), .int .i64 ((((totalX (l.take k)).r) : Nat) : Int), .int .i64 ((((totalX (l.take k)).d) : Nat) : Int)]) ?_ rfl ?_
     · exact (res_cell (p := 2) rfl rfl (hW6.2 _ Tw.m1) Tryd.underlying47 rfl Tw.kr)
     · exact ⟨(ret_v (by rw [List.take_of_length_le Tw.om]; rfl)), hW6.1⟩
   | true =>
     have h1 : k < l.length := of_decide_eq_true hd1
     clear hd1
     refine wp_cond_true rfl ?_
     refine wp_skip ?_
     change Code.wp ..
     refine wp_seq ?_
     refine wp_block ?_
     refine wp_seq ?_
     refine wp_region_L _ hW5 ?_
     obtain ⟨b3, g3_, f3, hy3, hp3, lt3, hc3⟩ := bl_at (k := k) HP.out Tw.om
     refine lp (v := .pointer (some ⟨g3_, f3 + k * 9, none⟩)) rfl rfl (run_idxQ (p := p) (cap := c) (n := l.length) (j := .i64) (k := k) (sz := 9) rfl Tryd.underlying22 Tw.kr Tw.kr hp3 Tw.kr Tw.om) ?_
     refine lv (v := bxV b3) rfl rfl (yb_olds (off := f3 + k * 9) (cs := (bxC b3).toList) rfl Tw.kr hc3 lt3 Tryd.underlying26 rfl Tw.kr) ?_
     refine wpL_new (fun g => .pointer (some ⟨g, 0, none⟩)) (obi := .cells #[.int .i64 0, strV [], .int .u8 0, .bool false, .int .i64 0, .int .i64 0, .int .i64 0, .int .u8 0, .bool false] 26 (0, 0)) rfl rfl Tw.kf Tw.pf fun g4 Bg4 Fg4 => ?_
     refine wpL_s [(g4, .cells (bxC b3) 26 (0, 0)), (g2, .cells (smC (totalX (l.take k))) 82 (0, 0)), (g1, .cells #[.int .i64 0, .int .i64 0, .int .i64 0, .int .i64 0, .int .i64 0] 47 (0, 0))] rfl rfl (st_bx (b := b3) rfl Tw.kr Tw.kr Tw.m0 rfl Bg4 Tw.kr (List.forall_mem_cons.2 ⟨.inl rfl, (List.forall_mem_cons.2 ⟨.inr ⟨Tw.m1, (Fg4 _ Tw.m0)⟩, (List.forall_mem_cons.2 ⟨.inr ⟨Tw.m2, (Fg4 _ Tw.m1)⟩, (List.forall_mem_nil _)⟩)⟩)⟩)) ?_
     refine wpL_done (fun W7 hW7 => ?_)
     change Code.wp ..
     refine wp_seq ?_
     refine wp_region_L _ hW7 ?_
     refine lv (v := bxV b3) rfl rfl (yb_load (n := 9) (off := 0) rfl Tw.kr Tw.m0 Tryd.underlying26 rfl Tw.kr (Nat.le_refl 9) Tw.kr) ?_
     refine lv (v := .bool (rightX b3)) rfl rfl (yb_call (f := 20) (args := #[bxV b3]) Tw.kf fun W hW => BRight_any b3 W) ?_
     refine wpL_done (fun W8 hW8 => ?_)
     change Code.wp ..
     cases h2 : (rightX b3) with
     | false =>
       refine wp_cond_false rfl ?_
       refine wp_skip ?_
       change Code.wp ..
       refine wp_region_L _ hW8 ?_
       refine lp (v := .int .i64 (((k + 1) : Nat) : Int)) rfl rfl (run_bin rfl (vx := (.int .i64 ((k : Nat) : Int))) (vy := (.int .i64 ((1 : Nat) : Int))) Tw.kr Tw.kr fun w => bn_add (z := (k + 1)) rfl (wr_i64 Tw.om) w) ?_
       refine lm (v := .int .i64 (((k + 1) : Nat) : Int)) rfl rfl ?_
       refine wpL_done (fun W9 hW9 => ?_)
       have hts := (total_snoc hy3).trans (add_wrong h2)
       go_roundw
       case rel =>
         repeat apply Exists.intro
         exact ⟨⟨k + 1, Tw.om, rfl, (by first | exact hW9.sub (List.forall_mem_cons.2 ⟨Tw.m1, (List.forall_mem_cons.2 ⟨Tw.m2, (List.forall_mem_nil _)⟩)⟩) | (rw [hts]; exact hW9.sub (List.forall_mem_cons.2 ⟨Tw.m1, (List.forall_mem_cons.2 ⟨Tw.m2, (List.forall_mem_nil _)⟩)⟩)))⟩, rfl⟩
       case measure => (show l.length - (intOf (.int .i64 (((k + 1) : Nat) : Int))).toNat < l.length - (intOf (.int .i64 ((k : Nat) : Int))).toNat); simp only [intOf]; omega
     | true =>
       refine wp_cond_true rfl ?_
       refine wp_region_L _ hW8 ?_
       refine lv (v := bxV b3) rfl rfl (yb_load (n := 9) (off := 0) rfl Tw.kr Tw.m0 Tryd.underlying26 rfl Tw.kr (Nat.le_refl 9) Tw.kr) ?_
       refine wpL_c (f := 45) (args := #[.pointer (some ⟨g2, 0, none⟩), bxV b3]) (fun v K9 => v = .tuple #[] ∧ K9 = ((g2, .cells (smC (add1 (totalX (l.take k)) b3)) 82 (0, 0)) :: [(g4, .cells (bxC b3) 26 (0, 0)), (g1, .cells #[.int .i64 0, .int .i64 0, .int .i64 0, .int .i64 0, .int .i64 0] 47 (0, 0))])) rfl Tw.kr Tw.kf (fun W hW => add_any (K := [(g4, .cells (bxC b3) 26 (0, 0)), (g1, .cells #[.int .i64 0, .int .i64 0, .int .i64 0, .int .i64 0, .int .i64 0] 47 (0, 0))]) (totalX (l.take k)) b3 (sm_ok l (k := k) Tw.om) h2 Bg2 (List.forall_mem_cons.2 ⟨(Ne.symm (Fg4 _ Tw.m0)), (List.forall_mem_cons.2 ⟨(Fg2 _ Tw.m0), (List.forall_mem_nil _)⟩)⟩) W (hW.sub (List.forall_mem_cons.2 ⟨Tw.m1, (List.forall_mem_cons.2 ⟨Tw.m0, (List.forall_mem_cons.2 ⟨Tw.m2, (List.forall_mem_nil _)⟩)⟩)⟩))) Tw.pf ?_
       rintro v K9 ⟨rfl, rfl⟩
       refine wpL_done (fun W10 hW10 => ?_)
       change Code.wp ..
       refine wp_region_L _ hW10 ?_
       refine lp (v := .int .i64 (((k + 1) : Nat) : Int)) rfl rfl (run_bin rfl (vx := (.int .i64 ((k : Nat) : Int))) (vy := (.int .i64 ((1 : Nat) : Int))) Tw.kr Tw.kr fun w => bn_add (z := (k + 1)) rfl (wr_i64 Tw.om) w) ?_
       refine lm (v := .int .i64 (((k + 1) : Nat) : Int)) rfl rfl ?_
       refine wpL_done (fun W11 hW11 => ?_)
       have hts := (total_snoc hy3).trans (add_right h2)
       go_roundw
       case rel =>
         repeat apply Exists.intro
         exact ⟨⟨k + 1, Tw.om, rfl, (by first | exact hW11.sub (List.forall_mem_cons.2 ⟨Tw.m0, (List.forall_mem_cons.2 ⟨Tw.m2, (List.forall_mem_nil _)⟩)⟩) | (rw [hts]; exact hW11.sub (List.forall_mem_cons.2 ⟨Tw.m0, (List.forall_mem_cons.2 ⟨Tw.m2, (List.forall_mem_nil _)⟩)⟩)))⟩, rfl⟩
       case measure => (show l.length - (intOf (.int .i64 (((k + 1) : Nat) : Int))).toNat < l.length - (intOf (.int .i64 ((k : Nat) : Int))).toNat); simp only [intOf]; omega
end Go.Proofs.YtllmpemmknblaaaDoor
/- Maps whose keys are texts, among known blocks: what their entries are. Over any program. -/
namespace Tw
open Go Go.RowKit Go.Proofs.YtllmpemmknblaaaDoor
def MapS (es : Array MapEntry) (L : List (List UInt8 × Value)) : Prop := es.toList.map (fun e => (e.key, e.val)) = L.map fun x => (strV x.1, x.2)
def lkL (k : List UInt8) : List (List UInt8 × Value) → Nat → Option (Nat × Value)
 | [], _ => none
 | x :: L, i => if k = x.1 then some (i, x.2) else lkL k L (i + 1)
def mget (L : List (List UInt8 × Value)) (k : List UInt8) : Option Value := (lkL k L 0).map (·.2)
def mputL (L : List (List UInt8 × Value)) (k : List UInt8) (v : Value) : List (List UInt8 × Value) := match lkL k L 0 with
 | some x => L.set x.1 (k, v)
 | none => L ++ [(k, v)]
def mput (es : Array MapEntry) (cl : Nat) (k : List UInt8) (v : Value) : Array MapEntry × Nat := match Instr.findNow .string (strV k) es.toList 0 with
 | some (some x) => (es.modify x.1 fun e => { e with key := strV k, val := v }, cl)
 | _ => (es.push { key := strV k, val := v, born := cl }, cl + 1)
theorem same_str (a b : List UInt8) : Instr.sameNow .string (strV a) (strV b) = some (decide (a = b)) := by
 have : ((⟨a.toArray⟩ : ByteArray) == ⟨b.toArray⟩) = decide (a = b) := by
   show (a.toArray == b.toArray) = _
   rw [Bool.eq_iff_iff]; simp
 unfold strV Instr.sameNow
 simp only [this]
theorem find_str (k : List UInt8) : ∀ (es : List MapEntry) (L : List (List UInt8 × Value)) (i : Nat), es.map (fun e => (e.key, e.val)) = L.map (fun x => (strV x.1, x.2)) → Instr.findNow .string (strV k) es i = some (lkL k L i)
 | [], [], _, _ => rfl
 | [], _ :: _, _, h => by cases h
 | _ :: _, [], _, h => by cases h
 | e :: es, x :: L, i, h => by
   rw [List.map_cons, List.map_cons] at h
   obtain ⟨h1, h2⟩ := List.cons.inj h
   obtain ⟨hk, hv⟩ := Prod.mk.inj h1
   have ih := find_str k es L (i + 1) h2
   unfold Instr.findNow lkL
   rw [hk, same_str]
   by_cases hx : k = x.1
   · rw [if_pos hx, decide_eq_true hx, hv]
   · rw [if_neg hx, decide_eq_false hx]; exact ih
theorem lk_lt {k : List UInt8} : ∀ {L : List (List UInt8 × Value)} {i : Nat} {x : Nat × Value}, lkL k L i = some x → i ≤ x.1 ∧ x.1 < i + L.length
 | [], _, _, h => by cases h
 | y :: L, i, x, h => by
   unfold lkL at h
   split at h
   · cases h; simp
   · have := lk_lt h; simp only [List.length_cons]; omega
theorem lk_key {k : List UInt8} : ∀ {L : List (List UInt8 × Value)} {i : Nat} {x : Nat × Value} , lkL k L i = some x → ∀ {y : List UInt8 × Value}, L[x.1 - i]? = some y → k = y.1
 | [], _, _, h, _, _ => by cases h
 | z :: L, i, x, h, y, hy => by
   unfold lkL at h
   split at h
   · rename_i hz
     cases h
     simp at hy
     rw [← hy]; exact hz
   · have hl := lk_lt h
     rw [show x.1 - i = (x.1 - (i + 1)) + 1 from by omega, List.getElem?_cons_succ] at hy
     exact lk_key h hy
theorem lk_app {k k' : List UInt8} {v : Value} : ∀ (L : List (List UInt8 × Value)) (i : Nat), lkL k' L i = none → (lkL k (L ++ [(k', v)]) i).map (·.2) = if k = k' then some v else (lkL k L i).map (·.2)
 | [], i, _ => by simp only [List.nil_append, lkL]; split <;> rfl
 | y :: L, i, h => by
   have h0 := h
   unfold lkL at h
   split at h
   · cases h
   · rename_i hy
     simp only [List.cons_append, lkL]
     by_cases hk : k = y.1
     · rw [if_pos hk, if_neg (by rw [hk]; exact fun e => hy e.symm), if_pos hk]
     · rw [if_neg hk, if_neg hk]; exact lk_app L (i + 1) h
theorem lk_set {k k' : List UInt8} {v : Value} : ∀ (L : List (List UInt8 × Value)) (i : Nat) (x : Nat × Value), lkL k' L i = some x → (lkL k (L.set (x.1 - i) (k', v)) i).map (·.2) = if k = k' then some v else (lkL k L i).map (·.2)
 | [], _, _, h => by cases h
 | y :: L, i, x, h => by
   unfold lkL at h
   split at h
   · rename_i hy
     cases h
     simp only [Nat.sub_self, List.set_cons_zero, lkL]
     by_cases hk : k = k'
     · rw [if_pos hk, if_pos hk]; rfl
     · rw [if_neg hk, if_neg hk, if_neg (by rw [← hy]; exact hk)]
   · rename_i hy
     have hl := lk_lt h
     rw [show x.1 - i = (x.1 - (i + 1)) + 1 from by omega, List.set_cons_succ]
     simp only [lkL]
     by_cases hk : k = y.1
     · rw [if_pos hk, if_neg (by rw [hk]; exact fun e => hy e.symm), if_pos hk]
     · rw [if_neg hk, if_neg hk]; exact lk_set L (i + 1) x h
theorem mget_put (L : List (List UInt8 × Value)) (k k' : List UInt8) (v : Value) : mget (mputL L k' v) k = if k = k' then some v else mget L k := by
 unfold mget mputL
 cases h : lkL k' L 0 with
 | none => exact lk_app L 0 h
 | some x => exact lk_set L 0 x h
theorem MapS.nil : MapS #[] [] := rfl
theorem map_modify (l : List MapEntry) (f : MapEntry → MapEntry) (g : MapEntry → Value × Value) (y : Value × Value) (hf : ∀ e, g (f e) = y) : ∀ (i : Nat), i < l.length → (l.modify i f).map g = (l.map g).set i y := by
 induction l with
 | nil => intro i h; simp at h
 | cons e l ih =>
   intro i h
   cases i with
   | zero => simp [hf]
   | succ i => simp only [List.modify_succ_cons, List.map_cons, List.set_cons_succ]; rw [ih i (by simpa using h)]
theorem MapS.put {es : Array MapEntry} {L : List (List UInt8 × Value)} (h : MapS es L) (cl : Nat) (k : List UInt8) (v : Value) : MapS (mput es cl k v).1 (mputL L k v) := by
 have hf := find_str k _ _ 0 h
 have hlen : es.toList.length = L.length := by have := congrArg List.length h; simpa using this
 unfold MapS at h ⊢
 unfold mput mputL
 rw [hf]
 cases hl : lkL k L 0 with
 | none => simp only [Array.toList_push, List.map_append, h, List.map_cons, List.map_nil]
 | some x =>
   have := lk_lt hl
   simp only [Array.toList_modify]
   rw [map_modify es.toList (fun e => { e with key := strV k, val := v }) (fun e => (e.key, e.val)) (strV k, v) (fun _ => rfl) x.1 Tw.om, h, List.map_set]
section
variable {P : Program} {W0 : Base} {T kt et : TypeId}
theorem run_checkKey_str {b : Bool} {n : Nat} {v : Value} (hk : P.underlying kt = some .string) (w : World) : (Instr.checkKey b (n + 1) kt v).run P w = .ok () w := by
 unfold Instr.checkKey
 rw [Sem.run_bind, run_underlying hk w]
 simp
theorem run_findKey_str {es : Array MapEntry} {L : List (List UInt8 × Value)} (hk : P.underlying kt = some .string) (h : MapS es L) (k : List UInt8) (w : World) : (Instr.findKey kt (strV k) es.toList).run P w = .ok (lkL k L 0) w := by
 unfold Instr.findKey
 rw [Sem.run_bind, run_underlying hk w]
 simp only [Result.andThen_ok, find_str k _ _ 0 h, Sem.run_pure]
theorem run_lookup_str {es : Array MapEntry} {cl g : Nat} {L : List (List UInt8 × Value)} {z : Value} {w : World} (hg : w.heap[g]? = some (.map es cl)) (hT : P.underlying T = some (.map kt et)) (hk : P.underlying kt = some .string) (hz : ∀ w, (zeroValue et).run P w = .ok z w) (h : MapS es L) (k : List UInt8) :
   (Instr.lookup T (.map (some g)) (strV k) false).run P w = .ok ((mget L k).getD z) w := by
 unfold Instr.lookup
 simp only [Sem.run_bind, run_underlying hT w, Result.andThen_ok, Sem.run_pure, MapKept.run_getObj_map hg, run_checkKey_str hk w, run_findKey_str hk h k w]
 unfold mget
 cases hl : lkL k L 0 with
 | none => simp [hz w]
 | some x => simp
theorem yb_lookup {o : Oper} {a : Act} {K : List (Nat × Obj)} {x y : Operand} {g cl : Nat} {es : Array MapEntry} {L : List (List UInt8 × Value)} {k : List UInt8} {z v : Value} (ho : o.op = .lookup T x y false) (hx : a.eval x = .map (some g)) (hy : a.eval y = strV k)
   (hm : (g, .map es cl) ∈ K) (hT : P.underlying T = some (.map kt et)) (hk : P.underlying kt = some .string) (hz : ∀ w, (zeroValue et).run P w = .ok z w) (h : MapS es L) (hv : (mget L k).getD z = v) :
   ∀ w, KS W0 K w → ∀ K' : Act → World → Prop, (∀ w', Below w.heap.size w w' → K' (a.put o.dst v) w') → Oper.wp P o a w K' (fun _ _ _ => False) := by
 intro w hw K' hk'
 have hr := run_lookup_str (P := P) (hw.2 _ hm) hT hk hz h k
 unfold Oper.wp execOp
 simp only [ho, hx, hy, Sem.run_bind, hr, Result.andThen_ok, Sem.run_pure]
 rw [hv]
 exact hk' w (Below.refl _ _)
theorem run_keyStays (k : List UInt8) (w : World) : (Instr.keyThatStays (strV k) (strV k)).run P w = .ok (strV k) w := by
 have : ((⟨k.toArray⟩ : ByteArray) == ⟨k.toArray⟩) = true := by
   show (k.toArray == k.toArray) = _
   simp
 unfold Instr.keyThatStays strV
 simp [Instr.sameBits, this]
theorem run_mapUpdate_str {es : Array MapEntry} {cl g : Nat} {L : List (List UInt8 × Value)} {w : World} (hg : w.heap[g]? = some (.map es cl)) (hT : P.underlying T = some (.map kt et)) (hk : P.underlying kt = some .string) (h : MapS es L) (k : List UInt8) (v : Value) :
   (Instr.mapUpdate T (.map (some g)) (strV k) v).run P w = .ok () { w with heap := w.heap.setIfInBounds g (.map (mput es cl k v).1 (mput es cl k v).2) } := by
 have hf := find_str k _ _ 0 h
 have hlen : es.toList.length = L.length := by have := congrArg List.length h; simpa using this
 unfold Instr.mapUpdate
 simp only [Sem.run_bind, run_underlying hT w, Result.andThen_ok, MapKept.run_getObj_map hg, run_checkKey_str hk w, run_findKey_str hk h k w]
 unfold mput
 rw [hf]
 cases hl : lkL k L 0 with
 | none => simp only [MapKept.run_setObj_map _ hg]
 | some x =>
   have hlt := lk_lt hl
   have hx : x.1 < es.size := by simp at hlen; omega
   have hkey : ((es[x.1]?).map (·.key)).getD (strV k) = strV k := by
     have h1 := congrArg (fun l => l[x.1]?) h
     simp only [List.getElem?_map, Array.getElem?_toList] at h1
     have h2 : es[x.1]? = some es[x.1] := Array.getElem?_eq_getElem hx
     rw [h2] at h1 ⊢
     have h3 : L[x.1]? = some (L[x.1]'(by simp at hlen; omega)) := List.getElem?_eq_getElem _
     rw [h3] at h1
     simp only [Option.map_some, Option.some.injEq, Prod.mk.injEq] at h1
     simp only [Option.map_some, Option.getD_some, h1.1]
     congr 1
     exact (lk_key hl h3).symm
   simp only [hkey, run_keyStays, Sem.run_bind, Result.andThen_ok, MapKept.run_setObj_map _ hg]
theorem st_map {o : Oper} {a : Act} {K K' : List (Nat × Obj)} {x y u : Operand} {g cl : Nat} {es : Array MapEntry} {L : List (List UInt8 × Value)} {k : List UInt8} {v : Value} (ho : o.op = .mapUpdate T x y u) (hx : a.eval x = .map (some g)) (hy : a.eval y = strV k) (hu : a.eval u = v)
   (hm : (g, .map es cl) ∈ K) (hB : W0.B ≤ g) (hT : P.underlying T = some (.map kt et)) (hk : P.underlying kt = some .string) (h : MapS es L)
   (hK : ∀ p ∈ K', p = (g, .map (mput es cl k v).1 (mput es cl k v).2) ∨ (p ∈ K ∧ p.1 ≠ g)) : ∀ w, KS W0 K w → ∃ w', (execOp a.eval o).run P w = .ok .skip w' ∧ KS W0 K' w' := by
 intro w hw
 have hg := hw.2 _ hm
 have hr := run_mapUpdate_str (P := P) hg hT hk h k v
 refine ⟨ChangeMaps.setBlock w g (.map (mput es cl k v).1 (mput es cl k v).2), ?_, ⟨⟨hw.1.os, hw.1.tape, hw.1.output, ?_, fun j hj => ?_⟩, fun p hp => ?_⟩⟩
 · unfold execOp
   simp only [ho, hx, hy, hu, Sem.run_bind, hr, Result.andThen_ok, Sem.run_pure]
   rfl
 · simpa [ChangeMaps.setBlock] using hw.1.size
 · have hne : j ≠ g := by omega
   exact (ChangeMaps.heap_setBlock_other hg _ hne).trans (hw.1.block j hj)
 · rcases hK p hp with rfl | ⟨hp, hne⟩
   · exact ChangeMaps.heap_setBlock_same hg _
   · exact (ChangeMaps.heap_setBlock_other hg _ hne).trans (hw.2 _ hp)
end
end Tw
namespace Go.Proofs.YtllmpemmknblaaaDoor
open Go Go.RowKit Tw
def validV (l : List Bx) : Value := if 2000 < l.length then .tuple #[.int .i64 (-1), .int .i64 5] else match firstBad l with
 | some k => .tuple #[.int .i64 ((k : Nat) : Int), .int .i64 60]
 | none => .tuple #[.int .i64 (-1), .int .i64 0]
theorem seen_zero (l : List Bx) (n : List UInt8) : seenX l 0 n = false := by unfold seenX; simp
theorem seen_succ {l : List Bx} {k : Nat} {b : Bx} (hb : l[k]? = some b) (n : List UInt8) : seenX l (k + 1) n = (seenX l k n || (decide (n ≠ []) && decide (b.num = n))) := by
 obtain ⟨hk, rfl⟩ := List.getElem?_eq_some_iff.1 hb
 unfold seenX
 rw [List.take_succ_eq_append_getElem hk, List.any_append]
 simp only [List.any_cons, List.any_nil, Bool.or_false]
 cases decide (n ≠ []) <;> simp
def SeenM (l : List Bx) (k : Nat) (L : List (List UInt8 × Value)) : Prop := ∀ n, mget L n = if seenX l k n = true then some (.bool true) else none
theorem seen_get {l : List Bx} {k : Nat} {L : List (List UInt8 × Value)} (h : SeenM l k L) (n : List UInt8) : (mget L n).getD (.bool false) = .bool (seenX l k n) := by
 rw [h n]
 cases seenX l k n <;> rfl
theorem seen_start (l : List Bx) : SeenM l 0 [] := fun n => by rw [seen_zero]; rfl
theorem seen_put {l : List Bx} {k : Nat} {L : List (List UInt8 × Value)} {b : Bx} (h : SeenM l k L) (hb : l[k]? = some b) (hn : ¬ (b.num = [])) : SeenM l (k + 1) (mputL L b.num (.bool true)) := fun n => by
 rw [mget_put, h n, seen_succ hb]
 by_cases e : n = b.num
 · subst e
   rw [if_pos rfl]
   simp [hn]
 · have e2 : ¬ (b.num = n) := fun x => e x.symm
   rw [if_neg e]
   simp [e2]
theorem seen_same {l : List Bx} {k : Nat} {L : List (List UInt8 × Value)} {b : Bx} (h : SeenM l k L) (hb : l[k]? = some b) (hn : b.num = []) : SeenM l (k + 1) L := fun n => by
 rw [h n, seen_succ hb, hn]
 by_cases e : n = []
 · simp [e]
 · have e2 : ¬ ([] = n) := fun x => e x.symm
   simp [e2]
section
variable {l : List Bx} {k : Nat} {b c : Bx}
theorem bad_right (hb : l[k]? = some b) (h : rightX b = false) : badX l k = true := by unfold badX; rw [hb]; simp [h]
theorem bad_seen (hb : l[k]? = some b) (h : seenX l k b.num = true) : badX l k = true := by unfold badX; rw [hb]; simp [h]
theorem bad_prev (hb : l[k]? = some b) (hc : l[k - 1]? = some c) (hk : 0 < k) (h : ¬ (c.id < b.id)) : badX l k = true := by
 have : b.id ≤ c.id := by omega
 unfold badX prevX; rw [hb]; simp [hc, hk, this]
theorem good_0 (hb : l[k]? = some b) (h : rightX b = true) (h2 : seenX l k b.num = false) (hk : ¬ (0 < k)) : badX l k = false := by
 unfold badX prevX; rw [hb]; simp [h, h2, hk]
theorem good_1 (hb : l[k]? = some b) (h : rightX b = true) (h2 : seenX l k b.num = false) (hc : l[k - 1]? = some c) (h3 : c.id < b.id) : badX l k = false := by
 have : ¬ (b.id ≤ c.id) := by omega
 unfold badX prevX; rw [hb]; simp [h, h2, hc, this]
theorem goods_on (h : ∀ j, j < k → badX l j = false) (hk : badX l k = false) : ∀ j, j < k + 1 → badX l j = false := fun j hj => by
 rcases Nat.lt_or_eq_of_le (Nat.le_of_lt_succ hj) with h1 | rfl
 · exact h j h1
 · exact hk
end
set_option maxRecDepth 100000 in
set_option maxHeartbeats 4000000 in
theorem Valid_any (l : List Bx) (p : Option Addr) (c : Nat) (hl : l.length ≤ 4000000000) (w : World) (hp : SLV w p (bcs l)) : Calls Tryd.prog 29 #[.slice p l.length c] w fun e w' => e = .returned (validV l) ∧ Below w.heap.size w w' := by
 have HP := Lib.hid hp
 clear hp
 obtain ⟨V, hV⟩ : ∃ V : Value, V = validV l := ⟨_, rfl⟩
 rw [← hV]
 unfold validV at hV
 go_enter Tryd.func29, Tryd.ntmps29
 refine wp_seq ?_
 refine wp_region_L [] (KS.start w) ?_
 refine lm (v := .int .i64 0) rfl rfl ?_
 refine lm (v := .int .i64 0) rfl rfl ?_
 refine wpL_done (fun W1 hW1 => ?_)
 change Code.wp ..
 refine wp_seq ?_
 refine wp_seq ?_
 refine wp_region_L _ hW1 ?_
 refine lm (v := .slice p l.length c) rfl rfl ?_
 refine lp (v := .int .i64 ((l.length : Nat) : Int)) rfl rfl (run_lenL (p := p) (cap := c) (n := l.length) rfl Tryd.underlying22 Tw.kr) ?_
 refine lp (v := .bool (decide (2000 < l.length))) rfl rfl (run_bin rfl (vx := (.int .i64 ((l.length : Nat) : Int))) (vy := (.int .i64 ((2000 : Nat) : Int))) Tw.kr Tw.kr fun w => bn_gtr rfl w) ?_
 refine wpL_done (fun W2 hW2 => ?_)
 change Code.wp ..
 cases hd1 : (decide (2000 < l.length)) with
 | false =>
   have h1 : ¬ (2000 < l.length) := of_decide_eq_false hd1
   clear hd1
   refine wp_cond_false rfl ?_
   refine wp_skip ?_
   change Code.wp ..
   refine wp_seq ?_
   refine wp_region_L _ hW2 ?_
   refine wpL_new (fun g => .map (some g)) (obi := .map #[] 0) rfl rfl Tw.kf Tw.pf fun g1 Bg1 Fg1 => ?_
   refine lm (v := .map (some g1)) rfl rfl ?_
   refine wpL_done (fun W3 hW3 => ?_)
   change Code.wp ..
   refine wp_seq ?_
   refine wp_seq ?_
   refine wp_region_L _ hW3 ?_
   refine lm (v := .slice p l.length c) rfl rfl ?_
   refine lp (v := .int .i64 ((l.length : Nat) : Int)) rfl rfl (run_lenL (p := p) (cap := c) (n := l.length) rfl Tryd.underlying22 Tw.kr) ?_
   refine lm (v := .int .i64 0) rfl rfl ?_
   refine wpL_done (fun W4 hW4 => ?_)
   change Code.wp ..
   refine wp_block ?_
   go_loopw [13] (fun u13 wr => ∃ (k : Nat) (es : Array MapEntry) (cl : Nat) (L : List (List UInt8 × Value)), (k ≤ l.length) ∧ (∀ j, j < k → badX l j = false) ∧ (MapS es L) ∧ (SeenM l k L) ∧ u13 = .int .i64 ((k : Nat) : Int) ∧ KS w [(g1, .map es cl)] wr) (fun u13 _ => l.length - (intOf u13).toNat)
   case atStart => exact ⟨0, #[], 0, [], (Nat.zero_le _), (fun j hj => absurd hj (Nat.not_lt_zero _)), MapS.nil, (seen_start l), rfl, hW4⟩
   case round =>
     obtain ⟨k, es, cl, L, hk, hb, hM, hg, rfl, hL5⟩ := hrel
     refine wp_seq ?_
     refine wp_region_L _ hL5 ?_
     refine lp (v := .bool (decide (k < l.length))) rfl rfl (run_bin rfl (vx := (.int .i64 ((k : Nat) : Int))) (vy := (.int .i64 ((l.length : Nat) : Int))) Tw.kr Tw.kr fun w => bn_lss rfl w) ?_
     refine wpL_done (fun W6 hW6 => ?_)
     change Code.wp ..
     refine wp_seq ?_
     cases hd2 : (decide (k < l.length)) with
     | false =>
       have h2 : ¬ (k < l.length) := of_decide_eq_false hd2
       clear hd2
       refine wp_cond_false rfl ?_
       refine wp_exit ?_
       change Code.wp ..
       refine wp_seq ?_
       refine wp_region_L _ hW6 ?_
       refine lm (v := .int .i64 (-1)) rfl rfl ?_
       refine lm (v := .int .i64 0) rfl rfl ?_
       refine wpL_done (fun W7 hW7 => ?_)
       change Code.wp ..
       refine wp_ret ?_
       try simp only [inBlock_ret, then_ret]
       refine bodyPost_ret (v := .tuple #[.int .i64 (-1), .int .i64 0]) ?_ rfl ?_
       · kernel_rfl
       · exact ⟨(ret_v (by rw [hV, if_neg h1, firstBad_none (fun j hj => hb j Tw.om)])), hW7.1⟩
     | true =>
       have h2 : k < l.length := of_decide_eq_true hd2
       clear hd2
       refine wp_cond_true rfl ?_
       refine wp_skip ?_
       change Code.wp ..
       refine wp_seq ?_
       refine wp_block ?_
       refine wp_seq ?_
       refine wp_region_L _ hW6 ?_
       refine lm (v := .int .i64 ((k : Nat) : Int)) rfl rfl ?_
       obtain ⟨b2, g2_, f2, hy2, hp2, lt2, hc2⟩ := bl_at (k := k) HP.out Tw.om
       refine lp (v := .pointer (some ⟨g2_, f2 + k * 9, none⟩)) rfl rfl (run_idxQ (p := p) (cap := c) (n := l.length) (j := .i64) (k := k) (sz := 9) rfl Tryd.underlying22 Tw.kr Tw.kr hp2 Tw.kr Tw.om) ?_
       refine lv (v := bxV b2) rfl rfl (yb_olds (off := f2 + k * 9) (cs := (bxC b2).toList) rfl Tw.kr hc2 lt2 Tryd.underlying26 rfl Tw.kr) ?_
       refine wpL_new (fun g => .pointer (some ⟨g, 0, none⟩)) (obi := .cells #[.int .i64 0, strV [], .int .u8 0, .bool false, .int .i64 0, .int .i64 0, .int .i64 0, .int .u8 0, .bool false] 26 (0, 0)) rfl rfl Tw.kf Tw.pf fun g3 Bg3 Fg3 => ?_
       obtain dj4_0 : g1 ≠ g3 := Tw.dkf Fg3
       refine lm (v := .int .i64 ((k : Nat) : Int)) rfl rfl ?_
       refine wpL_s [(g3, .cells (bxC b2) 26 (0, 0)), (g1, .map es cl)] rfl rfl (st_bx (b := b2) rfl Tw.kr Tw.kr Tw.m0 rfl Bg3 Tw.kr (List.forall_mem_cons.2 ⟨.inl rfl, (List.forall_mem_cons.2 ⟨.inr ⟨Tw.m1, Tw.nee⟩, (List.forall_mem_nil _)⟩)⟩)) ?_
       refine wpL_done (fun W8 hW8 => ?_)
       change Code.wp ..
       refine wp_seq ?_
       refine wp_seq ?_
       refine wp_region_V _ Tw.kr hW8 ?_
       refine vv (i := 0) (v := bxV b2) rfl rfl rfl (yb_load (n := 9) (off := 0) rfl Tw.kr Tw.m0 Tryd.underlying26 rfl Tw.kr (Nat.le_refl 9) Tw.kr) ?_
       refine vv (i := 1) (v := .bool (rightX b2)) rfl rfl rfl (yb_call (f := 20) (args := #[bxV b2]) Tw.kf fun W hW => BRight_any b2 W) ?_
       refine vp (i := 2) (v := .bool (!(rightX b2))) rfl rfl rfl (run_un rfl Tw.kr fun w => un_not w) ?_
       refine vm (i := 3) (v := .bool (!(rightX b2))) rfl rfl rfl ?_
       cases h3 : (rightX b2) with
       | false =>
         refine vn (i := 4) rfl rfl ?_
         refine vn (i := 5) rfl rfl ?_
         refine vn (i := 6) rfl rfl ?_
         refine vn (i := 7) rfl rfl ?_
         refine vm (i := 8) (v := .bool true) rfl rfl rfl ?_
         refine vm (i := 9) (v := .bool true) rfl rfl rfl ?_
         refine vn (i := 10) rfl rfl ?_
         refine vn (i := 11) rfl rfl ?_
         refine vn (i := 12) rfl rfl ?_
         refine vn (i := 13) rfl rfl ?_
         refine vn (i := 14) rfl rfl ?_
         refine vn (i := 15) rfl rfl ?_
         refine vn (i := 16) rfl rfl ?_
         refine vn (i := 17) rfl rfl ?_
         refine vn (i := 18) rfl rfl ?_
         refine vn (i := 19) rfl rfl ?_
         refine vn (i := 20) rfl rfl ?_
         refine vn (i := 21) rfl rfl ?_
         refine vn (i := 22) rfl rfl ?_
         refine vm (i := 23) (v := .bool true) rfl rfl rfl ?_
         refine wpV_done Tw.kr (fun W9 hW9 => ?_) _
         change Code.wp ..
         refine wp_cond_true rfl ?_
         refine wp_seq ?_
         refine wp_region_L _ hW9 ?_
         refine lm (v := .int .i64 ((k : Nat) : Int)) rfl rfl ?_
         refine lm (v := .int .i64 ((k : Nat) : Int)) rfl rfl ?_
         refine lm (v := .int .i64 60) rfl rfl ?_
         refine wpL_done (fun W10 hW10 => ?_)
         change Code.wp ..
         refine wp_ret ?_
         try simp only [inBlock_ret, then_ret]
         refine bodyPost_ret (v := .tuple #[.int .i64 ((k : Nat) : Int), .int .i64 60]) ?_ rfl ?_
         · kernel_rfl
         · exact ⟨(ret_v (by rw [hV, if_neg h1, firstBad_some Tw.om hb (bad_right hy2 h3)])), hW10.1⟩
       | true =>
         refine vm (i := 4) (v := .map (some g1)) rfl rfl rfl ?_
         refine vm (i := 5) (v := .pointer (some ⟨g3, 1, none⟩)) rfl rfl rfl ?_
         refine vv (i := 6) (v := strV b2.num) rfl rfl rfl (yb_cell (off := 1) rfl Tw.kr Tw.m0 Tryd.underlying9 rfl Tw.kr) ?_
         refine vv (i := 7) (v := .bool (seenX l k b2.num)) rfl rfl rfl (yb_lookup (k := b2.num) (z := .bool false) rfl Tw.kr Tw.kr Tw.m1 Tryd.underlying86 Tryd.underlying9 Tw.kf hM (seen_get hg b2.num)) ?_
         refine vm (i := 8) (v := .bool (seenX l k b2.num)) rfl rfl rfl ?_
         refine vm (i := 9) (v := .bool (seenX l k b2.num)) rfl rfl rfl ?_
         cases h4 : (seenX l k b2.num) with
         | false =>
           refine vm (i := 10) (v := .int .i64 ((k : Nat) : Int)) rfl rfl rfl ?_
           refine vp (i := 11) (v := .bool (decide (0 < k))) rfl rfl rfl (run_bin rfl (vx := (.int .i64 ((k : Nat) : Int))) (vy := (.int .i64 ((0 : Nat) : Int))) Tw.kr Tw.kr fun w => bn_gtr rfl w) ?_
           refine vm (i := 12) (v := .bool (decide (0 < k))) rfl rfl rfl ?_
           cases hd5 : (decide (0 < k)) with
           | false =>
             have h5 : ¬ (0 < k) := of_decide_eq_false hd5
             clear hd5
             refine vn (i := 13) rfl rfl ?_
             refine vn (i := 14) rfl rfl ?_
             refine vn (i := 15) rfl rfl ?_
             refine vn (i := 16) rfl rfl ?_
             refine vn (i := 17) rfl rfl ?_
             refine vn (i := 18) rfl rfl ?_
             refine vn (i := 19) rfl rfl ?_
             refine vn (i := 20) rfl rfl ?_
             refine vn (i := 21) rfl rfl ?_
             refine vm (i := 22) (v := .bool false) rfl rfl rfl ?_
             refine vm (i := 23) (v := .bool false) rfl rfl rfl ?_
             refine wpV_done Tw.kr (fun W11 hW11 => ?_) _
             change Code.wp ..
             refine wp_cond_false rfl ?_
             refine wp_skip ?_
             change Code.wp ..
             refine wp_seq ?_
             refine wp_region_L _ hW11 ?_
             refine lm (v := .pointer (some ⟨g3, 1, none⟩)) rfl rfl ?_
             refine lv (v := strV b2.num) rfl rfl (yb_cell (off := 1) rfl Tw.kr Tw.m0 Tryd.underlying9 rfl Tw.kr) ?_
             refine lp (v := .bool (!(decide (b2.num = [])))) rfl rfl (run_bin rfl (vx := strV b2.num) (vy := strV []) Tw.kr Tw.kr fun w => bs_neq rfl w) ?_
             refine wpL_done (fun W12 hW12 => ?_)
             change Code.wp ..
             cases hd6 : (decide (b2.num = [])) with
             | false =>
               have h6 : ¬ (b2.num = []) := of_decide_eq_false hd6
               clear hd6
               refine wp_cond_true rfl ?_
               refine wp_region_L _ hW12 ?_
               refine lm (v := .map (some g1)) rfl rfl ?_
               refine lm (v := .pointer (some ⟨g3, 1, none⟩)) rfl rfl ?_
               refine lv (v := strV b2.num) rfl rfl (yb_cell (off := 1) rfl Tw.kr Tw.m0 Tryd.underlying9 rfl Tw.kr) ?_
               refine wpL_s [(g3, .cells (bxC b2) 26 (0, 0)), (g1, .map (mput es cl b2.num (.bool true)).1 (mput es cl b2.num (.bool true)).2)] rfl rfl (st_map (k := b2.num) (v := .bool true) rfl Tw.kr Tw.kr Tw.kr Tw.m1 Bg1 Tryd.underlying86 Tryd.underlying9 hM (List.forall_mem_cons.2 ⟨.inr ⟨Tw.m0, Tw.nee⟩, (List.forall_mem_cons.2 ⟨.inl rfl, (List.forall_mem_nil _)⟩)⟩)) ?_
               refine wpL_done (fun W13 hW13 => ?_)
               change Code.wp ..
               refine wp_region_L _ hW13 ?_
               refine lp (v := .int .i64 (((k + 1) : Nat) : Int)) rfl rfl (run_bin rfl (vx := (.int .i64 ((k : Nat) : Int))) (vy := (.int .i64 ((1 : Nat) : Int))) Tw.kr Tw.kr fun w => bn_add (z := (k + 1)) rfl (wr_i64 Tw.om) w) ?_
               refine lm (v := .int .i64 (((k + 1) : Nat) : Int)) rfl rfl ?_
               refine wpL_done (fun W14 hW14 => ?_)
               go_roundw
               case rel =>
                 repeat apply Exists.intro
                 exact ⟨⟨k + 1, (mput es cl b2.num (.bool true)).1, (mput es cl b2.num (.bool true)).2, (mputL L b2.num (.bool true)), Tw.om, (goods_on hb (good_0 hy2 h3 h4 h5)), (MapS.put hM cl b2.num (.bool true)), (seen_put hg hy2 h6), rfl, (hW14.sub (fun p hp => (.tail _ hp)))⟩, rfl⟩
               case measure => (show l.length - (intOf (.int .i64 (((k + 1) : Nat) : Int))).toNat < l.length - (intOf (.int .i64 ((k : Nat) : Int))).toNat); simp only [intOf]; omega
             | true =>
               have h6 : b2.num = [] := of_decide_eq_true hd6
               clear hd6
               refine wp_cond_false rfl ?_
               refine wp_skip ?_
               change Code.wp ..
               refine wp_region_L _ hW12 ?_
               refine lp (v := .int .i64 (((k + 1) : Nat) : Int)) rfl rfl (run_bin rfl (vx := (.int .i64 ((k : Nat) : Int))) (vy := (.int .i64 ((1 : Nat) : Int))) Tw.kr Tw.kr fun w => bn_add (z := (k + 1)) rfl (wr_i64 Tw.om) w) ?_
               refine lm (v := .int .i64 (((k + 1) : Nat) : Int)) rfl rfl ?_
               refine wpL_done (fun W15 hW15 => ?_)
               go_roundw
               case rel =>
                 repeat apply Exists.intro
                 exact ⟨⟨k + 1, es, cl, L, Tw.om, (goods_on hb (good_0 hy2 h3 h4 h5)), hM, (seen_same hg hy2 h6), rfl, (hW15.sub (fun p hp => (.tail _ hp)))⟩, rfl⟩
               case measure => (show l.length - (intOf (.int .i64 (((k + 1) : Nat) : Int))).toNat < l.length - (intOf (.int .i64 ((k : Nat) : Int))).toNat); simp only [intOf]; omega
           | true =>
             have h5 : 0 < k := of_decide_eq_true hd5
             clear hd5
             refine vm (i := 13) (v := .pointer (some ⟨g3, 0, none⟩)) rfl rfl rfl ?_
             refine vv (i := 14) (v := .int .i64 b2.id) rfl rfl rfl (yb_cell (off := 0) rfl Tw.kr Tw.m0 Tryd.underlying3 rfl Tw.kr) ?_
             refine vm (i := 15) (v := .slice p l.length c) rfl rfl rfl ?_
             refine vm (i := 16) (v := .int .i64 ((k : Nat) : Int)) rfl rfl rfl ?_
             refine vp (i := 17) (v := .int .i64 (((k - 1) : Nat) : Int)) rfl rfl rfl (run_bin rfl (vx := (.int .i64 ((k : Nat) : Int))) (vy := (.int .i64 ((1 : Nat) : Int))) Tw.kr Tw.kr fun w => bn_sub (z := (k - 1)) rfl Tw.om (wr_i64 Tw.om) w) ?_
             obtain ⟨b5, g5_, f5, hy5, hp5, lt5, hc5⟩ := bl_at (k := (k - 1)) HP.out Tw.om
             refine vp (i := 18) (v := .pointer (some ⟨g5_, f5 + (k - 1) * 9, none⟩)) rfl rfl rfl (run_idxQ (p := p) (cap := c) (n := l.length) (j := .i64) (k := (k - 1)) (sz := 9) rfl Tryd.underlying22 Tw.kr Tw.kr hp5 Tw.kr Tw.om) ?_
             refine vm (i := 19) (v := .pointer (some ⟨g5_, f5 + (k - 1) * 9, none⟩)) rfl rfl rfl ?_
             refine vv (i := 20) (v := .int .i64 b5.id) rfl rfl rfl (yb_old (off := f5 + (k - 1) * 9 + 0) rfl Tw.kr (hc5 0 _ rfl) lt5 Tryd.underlying3 rfl) ?_
             refine vp (i := 21) (v := .bool (!(decide (b5.id < b2.id)))) rfl rfl rfl (run_bin rfl (vx := (.int .i64 b2.id)) (vy := (.int .i64 b5.id)) Tw.kr Tw.kr fun w => bi_leq rfl w) ?_
             refine vm (i := 22) (v := .bool (!(decide (b5.id < b2.id)))) rfl rfl rfl ?_
             refine vm (i := 23) (v := .bool (!(decide (b5.id < b2.id)))) rfl rfl rfl ?_
             refine wpV_done Tw.kr (fun W16 hW16 => ?_) _
             change Code.wp ..
             cases hd7 : (decide (b5.id < b2.id)) with
             | false =>
               have h7 : ¬ (b5.id < b2.id) := of_decide_eq_false hd7
               clear hd7
               refine wp_cond_true rfl ?_
               refine wp_seq ?_
               refine wp_region_L _ hW16 ?_
               refine lm (v := .int .i64 ((k : Nat) : Int)) rfl rfl ?_
               refine lm (v := .int .i64 ((k : Nat) : Int)) rfl rfl ?_
               refine lm (v := .int .i64 60) rfl rfl ?_
               refine wpL_done (fun W17 hW17 => ?_)
               change Code.wp ..
               refine wp_ret ?_
               try simp only [inBlock_ret, then_ret]
               refine bodyPost_ret (v := .tuple #[.int .i64 ((k : Nat) : Int), .int .i64 60]) ?_ rfl ?_
               · kernel_rfl
               · exact ⟨(ret_v (by rw [hV, if_neg h1, firstBad_some Tw.om hb (bad_prev hy2 hy5 h5 h7)])), hW17.1⟩
             | true =>
               have h7 : b5.id < b2.id := of_decide_eq_true hd7
               clear hd7
               refine wp_cond_false rfl ?_
               refine wp_skip ?_
               change Code.wp ..
               refine wp_seq ?_
               refine wp_region_L _ hW16 ?_
               refine lm (v := .pointer (some ⟨g3, 1, none⟩)) rfl rfl ?_
               refine lv (v := strV b2.num) rfl rfl (yb_cell (off := 1) rfl Tw.kr Tw.m0 Tryd.underlying9 rfl Tw.kr) ?_
               refine lp (v := .bool (!(decide (b2.num = [])))) rfl rfl (run_bin rfl (vx := strV b2.num) (vy := strV []) Tw.kr Tw.kr fun w => bs_neq rfl w) ?_
               refine wpL_done (fun W18 hW18 => ?_)
               change Code.wp ..
               cases hd8 : (decide (b2.num = [])) with
               | false =>
                 have h8 : ¬ (b2.num = []) := of_decide_eq_false hd8
                 clear hd8
                 refine wp_cond_true rfl ?_
                 refine wp_region_L _ hW18 ?_
                 refine lm (v := .map (some g1)) rfl rfl ?_
                 refine lm (v := .pointer (some ⟨g3, 1, none⟩)) rfl rfl ?_
                 refine lv (v := strV b2.num) rfl rfl (yb_cell (off := 1) rfl Tw.kr Tw.m0 Tryd.underlying9 rfl Tw.kr) ?_
                 refine wpL_s [(g3, .cells (bxC b2) 26 (0, 0)), (g1, .map (mput es cl b2.num (.bool true)).1 (mput es cl b2.num (.bool true)).2)] rfl rfl (st_map (k := b2.num) (v := .bool true) rfl Tw.kr Tw.kr Tw.kr Tw.m1 Bg1 Tryd.underlying86 Tryd.underlying9 hM (List.forall_mem_cons.2 ⟨.inr ⟨Tw.m0, Tw.nee⟩, (List.forall_mem_cons.2 ⟨.inl rfl, (List.forall_mem_nil _)⟩)⟩)) ?_
                 refine wpL_done (fun W19 hW19 => ?_)
                 change Code.wp ..
                 refine wp_region_L _ hW19 ?_
                 refine lp (v := .int .i64 (((k + 1) : Nat) : Int)) rfl rfl (run_bin rfl (vx := (.int .i64 ((k : Nat) : Int))) (vy := (.int .i64 ((1 : Nat) : Int))) Tw.kr Tw.kr fun w => bn_add (z := (k + 1)) rfl (wr_i64 Tw.om) w) ?_
                 refine lm (v := .int .i64 (((k + 1) : Nat) : Int)) rfl rfl ?_
                 refine wpL_done (fun W20 hW20 => ?_)
                 go_roundw
                 case rel =>
                   repeat apply Exists.intro
                   exact ⟨⟨k + 1, (mput es cl b2.num (.bool true)).1, (mput es cl b2.num (.bool true)).2, (mputL L b2.num (.bool true)), Tw.om, (goods_on hb (good_1 hy2 h3 h4 hy5 h7)), (MapS.put hM cl b2.num (.bool true)), (seen_put hg hy2 h8), rfl, (hW20.sub (fun p hp => (.tail _ hp)))⟩, rfl⟩
                 case measure => (show l.length - (intOf (.int .i64 (((k + 1) : Nat) : Int))).toNat < l.length - (intOf (.int .i64 ((k : Nat) : Int))).toNat); simp only [intOf]; omega
               | true =>
                 have h8 : b2.num = [] := of_decide_eq_true hd8
                 clear hd8
                 refine wp_cond_false rfl ?_
                 refine wp_skip ?_
                 change Code.wp ..
                 refine wp_region_L _ hW18 ?_
                 refine lp (v := .int .i64 (((k + 1) : Nat) : Int)) rfl rfl (run_bin rfl (vx := (.int .i64 ((k : Nat) : Int))) (vy := (.int .i64 ((1 : Nat) : Int))) Tw.kr Tw.kr fun w => bn_add (z := (k + 1)) rfl (wr_i64 Tw.om) w) ?_
                 refine lm (v := .int .i64 (((k + 1) : Nat) : Int)) rfl rfl ?_
                 refine wpL_done (fun W21 hW21 => ?_)
                 go_roundw
                 case rel =>
                   repeat apply Exists.intro
                   exact ⟨⟨k + 1, es, cl, L, Tw.om, (goods_on hb (good_1 hy2 h3 h4 hy5 h7)), hM, (seen_same hg hy2 h8), rfl, (hW21.sub (fun p hp => (.tail _ hp)))⟩, rfl⟩
                 case measure => (show l.length - (intOf (.int .i64 (((k + 1) : Nat) : Int))).toNat < l.length - (intOf (.int .i64 ((k : Nat) : Int))).toNat); simp only [intOf]; omega
         | true =>
           refine vn (i := 10) rfl rfl ?_
           refine vn (i := 11) rfl rfl ?_
           refine vn (i := 12) rfl rfl ?_
           refine vn (i := 13) rfl rfl ?_
           refine vn (i := 14) rfl rfl ?_
           refine vn (i := 15) rfl rfl ?_
           refine vn (i := 16) rfl rfl ?_
           refine vn (i := 17) rfl rfl ?_
           refine vn (i := 18) rfl rfl ?_
           refine vn (i := 19) rfl rfl ?_
           refine vn (i := 20) rfl rfl ?_
           refine vn (i := 21) rfl rfl ?_
           refine vn (i := 22) rfl rfl ?_
           refine vm (i := 23) (v := .bool true) rfl rfl rfl ?_
           refine wpV_done Tw.kr (fun W22 hW22 => ?_) _
           change Code.wp ..
           refine wp_cond_true rfl ?_
           refine wp_seq ?_
           refine wp_region_L _ hW22 ?_
           refine lm (v := .int .i64 ((k : Nat) : Int)) rfl rfl ?_
           refine lm (v := .int .i64 ((k : Nat) : Int)) rfl rfl ?_
           refine lm (v := .int .i64 60) rfl rfl ?_
           refine wpL_done (fun W23 hW23 => ?_)
           change Code.wp ..
           refine wp_ret ?_
           try simp only [inBlock_ret, then_ret]
           refine bodyPost_ret (v := .tuple #[.int .i64 ((k : Nat) : Int), .int .i64 60]) ?_ rfl ?_
           · kernel_rfl
           · exact ⟨(ret_v (by rw [hV, if_neg h1, firstBad_some Tw.om hb (bad_seen hy2 h4)])), hW23.1⟩
 | true =>
   have h1 : 2000 < l.length := of_decide_eq_true hd1
   clear hd1
   refine wp_cond_true rfl ?_
   refine wp_seq ?_
   refine wp_region_L _ hW2 ?_
   refine lm (v := .int .i64 (-1)) rfl rfl ?_
   refine lm (v := .int .i64 5) rfl rfl ?_
   refine wpL_done (fun W24 hW24 => ?_)
   change Code.wp ..
   refine wp_ret ?_
   try simp only [inBlock_ret, then_ret]
   refine bodyPost_ret (v := .tuple #[.int .i64 (-1), .int .i64 5]) ?_ rfl ?_
   · kernel_rfl
   · exact ⟨(ret_v (by rw [hV, if_pos h1])), hW24.1⟩
end Go.Proofs.YtllmpemmknblaaaDoor
namespace Go.Proofs.YtllmpemmknblaaaDoor
open Go Go.RowKit Tw
def cmpZ (x y : Int) : Int := if x < y then -1 else if y < x then 1 else 0
def orZ (x y z : Int) : Int := if x = 0 then (if y = 0 then z else y) else x
def cmpX (a b : Bx) : Int := orZ (cmpZ b.dis a.dis) (cmpZ b.kilos a.kilos) (cmpZ a.id b.id)
theorem cmpX_iff (a b : Bx) : cmpX a b < 0 ↔ before a b = true := by
 rw [before_iff]
 unfold cmpX orZ cmpZ
 (repeat' split) <;> omega
theorem cmpX_yes {a b : Bx} (h : cmpX a b < 0) : before a b = true := (cmpX_iff a b).1 h
theorem cmpX_no {a b : Bx} (h : ¬ (cmpX a b < 0)) : before a b = false := by
 rw [← Bool.not_eq_true]
 exact fun e => h ((cmpX_iff a b).2 e)
-- the part of a list from a to i put in order
def InsO (l : List Bx) (a b i : Nat) (l1 : List Bx) : Prop := l1 = l.take a ++ orderX ((l.take (min i b)).drop a) ++ l.drop (min i b)
def InsI (l : List Bx) (a i j : Nat) (l2 : List Bx) : Prop := ∃ x P, l[i]? = some x ∧ P = orderX ((l.take i).drop a) ∧ a ≤ j ∧ j ≤ i ∧ l2 = l.take a ++ (P.take (j - a) ++ x :: P.drop (j - a)) ++ l.drop (i + 1) ∧ ∀ y ∈ P.drop (j - a), before x y = true
theorem insO_start {l : List Bx} {a b : Nat} (hab : a ≤ b) (hb : b ≤ l.length) : InsO l a b (a + 1) l := by
 unfold InsO
 rcases Nat.lt_or_ge a b with h | h
 · rw [Nat.min_eq_left h]
   have ha : a < l.length := by omega
   rw [List.take_succ_eq_append_getElem ha, List.drop_append_of_le_length (by simp; omega), List.drop_eq_nil_of_le (by rw [List.length_take]; exact Nat.min_le_left _ _), List.nil_append]
   show l = l.take a ++ [l[a]] ++ l.drop (a + 1)
   rw [List.append_assoc, List.singleton_append, ← List.drop_eq_getElem_cons ha, List.take_append_drop]
 · have : b = a := by omega
   subst this
   rw [Nat.min_eq_right Tw.om, List.drop_eq_nil_of_le (by simp; omega)]
   show l = l.take b ++ [] ++ l.drop b
   rw [List.append_nil, List.take_append_drop]
theorem ord_len {l : List Bx} {a i : Nat} (hi : i ≤ l.length) (ha : a ≤ i) : (orderX ((l.take i).drop a)).length = i - a := by
 rw [order_len, List.length_drop, List.length_take, Nat.min_eq_left hi]
theorem insI_start {l l1 : List Bx} {a b i : Nat} (h : InsO l a b i l1) (hi : i < b) (hb : b ≤ l.length) (ha : a ≤ i) : InsI l a i i l1 := by
 unfold InsO at h
 rw [Nat.min_eq_left Tw.om] at h
 have hl := ord_len (l := l) (a := a) (i := i) Tw.om ha
 obtain ⟨P, hP⟩ : ∃ P, P = orderX ((l.take i).drop a) := ⟨_, rfl⟩
 rw [← hP] at h hl
 refine ⟨l[i]'Tw.om, P, List.getElem?_eq_getElem Tw.om, hP, ha, Nat.le_refl _, ?_, ?_⟩
 · rw [h, show P.take (i - a) = P from List.take_of_length_le Tw.om, show P.drop (i - a) = [] from List.drop_eq_nil_of_le Tw.om, List.drop_eq_getElem_cons (show i < l.length by omega)]
   simp
 · rw [List.drop_eq_nil_of_le Tw.om]; exact fun y hy => by cases hy
theorem insI_at {l l2 : List Bx} {a i j : Nat} (h : InsI l a i j l2) (hi : i < l.length) : ∃ x P, P = orderX ((l.take i).drop a) ∧ l[i]? = some x ∧ l2[j]? = some x ∧ (a < j → ∃ y, P[j - 1 - a]? = some y ∧ l2[j - 1]? = some y) := by
 obtain ⟨x, P, hx, hP, h1, h2, h3, h4⟩ := h
 have hl : P.length = i - a := by rw [hP]; exact ord_len Tw.om Tw.om
 have hta : (l.take a).length = a := by rw [List.length_take]; omega
 have htp : (P.take (j - a)).length = j - a := by rw [List.length_take]; omega
 refine ⟨x, P, hP, hx, ?_, fun hj => ?_⟩
 · rw [h3, List.append_assoc, List.getElem?_append_right Tw.om, hta, List.append_assoc, List.getElem?_append_right Tw.om, htp, Nat.sub_self]; rfl
 · have hy : P[j - 1 - a]? = some (P[j - 1 - a]'Tw.om) := List.getElem?_eq_getElem _
   refine ⟨_, hy, ?_⟩
   rw [h3, List.append_assoc, List.getElem?_append_right Tw.om, hta, List.append_assoc, List.getElem?_append_left Tw.om, List.getElem?_take_of_lt Tw.om]
   exact hy
theorem insI_step {l l2 : List Bx} {a i j : Nat} {x y : Bx} (h : InsI l a i j l2) (hi : i < l.length) (hj : a < j) (hx : l2[j]? = some x) (hy : l2[j - 1]? = some y) (hb : before x y = true) : InsI l a i (j - 1) ((l2.set j y).set (j - 1) x) := by
 obtain ⟨x', P', hP', hx', hjx, hprev⟩ := insI_at h hi
 obtain ⟨y', hPy, hly⟩ := hprev hj
 obtain ⟨x0, P, h0, hP, h1, h2, h3, h4⟩ := h
 rw [hx] at hjx; cases hjx
 rw [hy] at hly; cases hly
 rw [h0] at hx'; cases hx'
 rw [hP'.trans hP.symm] at hPy
 have hl : P.length = i - a := by rw [hP]; exact ord_len Tw.om Tw.om
 obtain ⟨hlt, hge⟩ := List.getElem?_eq_some_iff.1 hPy
 have hta : (l.take a).length = a := by rw [List.length_take]; omega
 have e1 : P.take (j - a) = P.take (j - 1 - a) ++ [y] := by
   rw [show j - a = (j - 1 - a) + 1 from by omega, List.take_succ_eq_append_getElem hlt, hge]
 have e2 : P.drop (j - 1 - a) = y :: P.drop (j - a) := by
   rw [List.drop_eq_getElem_cons hlt, hge, show j - 1 - a + 1 = j - a from by omega]
 refine ⟨x, P, h0, hP, by omega, by omega, ?_, ?_⟩
 · have htp : (P.take (j - 1 - a)).length = j - 1 - a := by rw [List.length_take]; omega
   have e3 : l2 = (l.take a ++ P.take (j - 1 - a)) ++ (y :: x :: (P.drop (j - a) ++ l.drop (i + 1))) := by
     rw [h3, e1]; simp
   have hA : (l.take a ++ P.take (j - 1 - a)).length = j - 1 := by rw [List.length_append, hta, htp]; omega
   rw [e2, e3, List.set_append_right _ _ Tw.om, hA, List.set_append_right _ _ Tw.om, hA, show j - (j - 1) = 1 from by omega, Nat.sub_self]
   simp
 · rw [e2]
   intro z hz
   rcases List.mem_cons.1 hz with rfl | hz
   · exact hb
   · exact h4 z hz
theorem insO_next {l l2 : List Bx} {a b i j : Nat} (h : InsI l a i j l2) (hi : i < b) (hb : b ≤ l.length) (hstop : j = a ∨ ∃ x y, a < j ∧ l2[j]? = some x ∧ l2[j - 1]? = some y ∧ before x y = false) : InsO l a b (i + 1) l2 := by
 obtain ⟨x', P', hP', hx', hjx, hprev⟩ := insI_at h Tw.om
 obtain ⟨x, P, h0, hP, h1, h2, h3, h4⟩ := h
 rw [h0] at hx'; cases hx'
 unfold InsO
 rw [Nat.min_eq_left Tw.om, h3]
 have hdrop : (l.take (i + 1)).drop a = (l.take i).drop a ++ [x'] := by
   obtain ⟨hil, hxe⟩ := List.getElem?_eq_some_iff.1 h0
   rw [List.take_succ_eq_append_getElem hil, List.drop_append_of_le_length (by rw [List.length_take]; omega), hxe]
 rw [hdrop, order_snoc, ← hP]
 congr 2
 conv => rhs; rw [← List.take_append_drop (j - a) P]
 symm
 refine insB_split (fun z hz => ?_) h4
 have hs : SortedX P := by rw [hP]; exact order_sorted _
 rcases hstop with rfl | ⟨x1, y, hj, hx1, hy, hb1⟩
 · rw [Nat.sub_self] at hz; cases hz
 · rw [hx1] at hjx; cases hjx
   obtain ⟨y', hPy, hly⟩ := hprev hj
   rw [hy] at hly; cases hly
   rw [hP'.trans hP.symm] at hPy
   obtain ⟨hlt, hge⟩ := List.getElem?_eq_some_iff.1 hPy
   have hPs : P = P.take (j - 1 - a) ++ (y :: P.drop (j - a)) := by
     conv => lhs; rw [← List.take_append_drop (j - 1 - a) P]
     rw [List.drop_eq_getElem_cons hlt, hge, show j - 1 - a + 1 = j - a from by omega]
   rw [show j - a = (j - 1 - a) + 1 from by omega, List.take_succ_eq_append_getElem hlt, hge] at hz
   rcases List.mem_append.1 hz with hz | hz
   · unfold SortedX at hs
     rw [hPs, List.pairwise_append] at hs
     exact before_le (hs.2.2 z hz y Tw.m0) hb1
   · cases List.mem_singleton.1 hz; exact hb1
theorem insO_end {l l1 : List Bx} {a b i : Nat} (h : InsO l a b i l1) (hi : ¬ i < b) : l1 = l.take a ++ orderX ((l.take b).drop a) ++ l.drop b := by
 unfold InsO at h
 rwa [Nat.min_eq_right Tw.om] at h
theorem insI_len {l l2 : List Bx} {a i j : Nat} (h : InsI l a i j l2) (hi : i < l.length) : l2.length = l.length := by
 obtain ⟨x, P, hx, hP, h1, h2, h3, h4⟩ := h
 have hl : P.length = i - a := by rw [hP]; exact ord_len Tw.om Tw.om
 rw [h3]; simp; omega
set_option maxRecDepth 100000 in
set_option maxHeartbeats 4000000 in
theorem isNaN_any (x : Int) (w : World) : Calls Tryd.prog 73 #[.int .i64 x] w fun e w' => e = .returned (.bool false) ∧ Below w.heap.size w w' := by
 go_enter Tryd.func73, Tryd.ntmps73
 refine wp_seq ?_
 refine wp_region_L [] (KS.start w) ?_
 refine lm (v := .bool false) rfl rfl ?_
 refine wpL_done (fun W1 hW1 => ?_)
 change Code.wp ..
 refine wp_seq ?_
 refine wp_region_L _ hW1 ?_
 refine lm (v := .int .i64 x) rfl rfl ?_
 refine lm (v := .int .i64 x) rfl rfl ?_
 refine lp (v := .bool false) rfl rfl (run_bin rfl (vx := (.int .i64 x)) (vy := (.int .i64 x)) Tw.kr Tw.kr fun w => bi_neq (decide_eq_true rfl) w) ?_
 refine lm (v := .bool false) rfl rfl ?_
 refine wpL_done (fun W2 hW2 => ?_)
 change Code.wp ..
 refine wp_ret ?_
 try simp only [inBlock_ret, then_ret]
 refine bodyPost_ret (v := .bool false) ?_ rfl ?_
 · kernel_rfl
 · exact ⟨rfl, hW2.1⟩
set_option maxRecDepth 100000 in
set_option maxHeartbeats 4000000 in
theorem Cmp_any (x y : Int) (w : World) : Calls Tryd.prog 66 #[.int .i64 x, .int .i64 y] w fun e w' => e = .returned (.int .i64 (cmpZ x y)) ∧ Below w.heap.size w w' := by
 go_enter Tryd.func66, Tryd.ntmps66
 refine wp_seq ?_
 refine wp_region_L [] (KS.start w) ?_
 refine lm (v := .int .i64 0) rfl rfl ?_
 refine wpL_done (fun W1 hW1 => ?_)
 change Code.wp ..
 refine wp_seq ?_
 refine wp_region_L _ hW1 ?_
 refine lm (v := .int .i64 x) rfl rfl ?_
 refine lv (v := .bool false) rfl rfl (yb_call (f := 73) (args := #[.int .i64 x]) Tw.kf fun W hW => isNaN_any x W) ?_
 refine lm (v := .bool false) rfl rfl ?_
 refine wpL_done (fun W2 hW2 => ?_)
 change Code.wp ..
 refine wp_seq ?_
 refine wp_region_L _ hW2 ?_
 refine lm (v := .int .i64 y) rfl rfl ?_
 refine lv (v := .bool false) rfl rfl (yb_call (f := 73) (args := #[.int .i64 y]) Tw.kf fun W hW => isNaN_any y W) ?_
 refine lm (v := .bool false) rfl rfl ?_
 refine wpL_done (fun W3 hW3 => ?_)
 change Code.wp ..
 refine wp_seq ?_
 refine wp_seq ?_
 refine wp_region_L _ hW3 ?_
 refine lm (v := .bool false) rfl rfl ?_
 refine wpL_done (fun W4 hW4 => ?_)
 change Code.wp ..
 refine wp_cond_false rfl ?_
 refine wp_skip ?_
 change Code.wp ..
 refine wp_seq ?_
 refine wp_seq ?_
 refine wp_region_L _ hW4 ?_
 refine lm (v := .bool false) rfl rfl ?_
 refine wpL_done (fun W5 hW5 => ?_)
 change Code.wp ..
 refine wp_cond_false rfl ?_
 refine wp_skip ?_
 change Code.wp ..
 refine wp_seq ?_
 refine wp_seq ?_
 refine wp_region_L _ hW5 ?_
 refine lm (v := .int .i64 x) rfl rfl ?_
 refine lm (v := .int .i64 y) rfl rfl ?_
 refine lp (v := .bool (decide (x < y))) rfl rfl (run_bin rfl (vx := (.int .i64 x)) (vy := (.int .i64 y)) Tw.kr Tw.kr fun w => bi_lss rfl w) ?_
 refine wpL_done (fun W6 hW6 => ?_)
 change Code.wp ..
 cases hd1 : (decide (x < y)) with
 | false =>
   have h1 : ¬ (x < y) := of_decide_eq_false hd1
   clear hd1
   refine wp_cond_false rfl ?_
   refine wp_skip ?_
   change Code.wp ..
   refine wp_seq ?_
   refine wp_seq ?_
   refine wp_region_L _ hW6 ?_
   refine lm (v := .int .i64 x) rfl rfl ?_
   refine lm (v := .int .i64 y) rfl rfl ?_
   refine lp (v := .bool (decide (y < x))) rfl rfl (run_bin rfl (vx := (.int .i64 x)) (vy := (.int .i64 y)) Tw.kr Tw.kr fun w => bi_gtr rfl w) ?_
   refine wpL_done (fun W7 hW7 => ?_)
   change Code.wp ..
   cases hd2 : (decide (y < x)) with
   | false =>
     have h2 : ¬ (y < x) := of_decide_eq_false hd2
     clear hd2
     refine wp_cond_false rfl ?_
     refine wp_skip ?_
     change Code.wp ..
     refine wp_seq ?_
     refine wp_region_L _ hW7 ?_
     refine lm (v := .int .i64 0) rfl rfl ?_
     refine wpL_done (fun W8 hW8 => ?_)
     change Code.wp ..
     refine wp_ret ?_
     try simp only [inBlock_ret, then_ret]
     refine bodyPost_ret (v := .int .i64 0) ?_ rfl ?_
     · kernel_rfl
     · exact ⟨(z_is (by unfold cmpZ; simp only [*, if_true, if_false, reduceIte])), hW8.1⟩
   | true =>
     have h2 : y < x := of_decide_eq_true hd2
     clear hd2
     refine wp_cond_true rfl ?_
     refine wp_seq ?_
     refine wp_region_L _ hW7 ?_
     refine lm (v := .int .i64 1) rfl rfl ?_
     refine wpL_done (fun W9 hW9 => ?_)
     change Code.wp ..
     refine wp_ret ?_
     try simp only [inBlock_ret, then_ret]
     refine bodyPost_ret (v := .int .i64 1) ?_ rfl ?_
     · kernel_rfl
     · exact ⟨(z_is (by unfold cmpZ; simp only [*, if_true, if_false, reduceIte])), hW9.1⟩
 | true =>
   have h1 : x < y := of_decide_eq_true hd1
   clear hd1
   refine wp_cond_true rfl ?_
   refine wp_seq ?_
   refine wp_region_L _ hW6 ?_
   refine lm (v := .int .i64 (-1)) rfl rfl ?_
   refine wpL_done (fun W10 hW10 => ?_)
   change Code.wp ..
   refine wp_ret ?_
   try simp only [inBlock_ret, then_ret]
   refine bodyPost_ret (v := .int .i64 (-1)) ?_ rfl ?_
   · kernel_rfl
   · exact ⟨(z_is (by unfold cmpZ; simp only [*, if_true, if_false, reduceIte])), hW10.1⟩
set_option maxRecDepth 100000 in
set_option maxHeartbeats 4000000 in
theorem Or_any (x y z : Int) (g : Nat) (w : World) (hg : w.heap[g]? = some (.cells #[.int .i64 x, .int .i64 y, .int .i64 z] 3 (0, 0))) : Calls Tryd.prog 65 #[.slice (some ⟨g, 0, none⟩) 3 3] w fun e w' => e = .returned (.int .i64 (orZ x y z)) ∧ Below w.heap.size w w' := by
 have hk0 : KS w [(g, .cells #[.int .i64 x, .int .i64 y, .int .i64 z] 3 (0, 0))] w := ⟨Below.refl _ _, fun p hp => by cases List.mem_singleton.1 hp; exact hg⟩
 clear hg
 go_enter Tryd.func65, Tryd.ntmps65
 refine wp_seq ?_
 refine wp_region_L [(g, .cells #[.int .i64 x, .int .i64 y, .int .i64 z] 3 (0, 0))] (hk0) ?_
 refine lm (v := .int .i64 0) rfl rfl ?_
 refine wpL_done (fun W1 hW1 => ?_)
 change Code.wp ..
 refine wp_seq ?_
 refine wp_region_L _ hW1 ?_
 refine lm (v := .int .i64 0) rfl rfl ?_
 refine wpL_done (fun W2 hW2 => ?_)
 change Code.wp ..
 refine wp_seq ?_
 refine wp_seq ?_
 refine wp_region_L _ hW2 ?_
 refine lm (v := .slice (some ⟨g, 0, none⟩) 3 3) rfl rfl ?_
 refine lm (v := .int .i64 3) rfl rfl ?_
 refine lm (v := .int .i64 0) rfl rfl ?_
 refine wpL_done (fun W3 hW3 => ?_)
 change Code.wp ..
 refine wp_block ?_
 refine wp_loop_rounds 4 ?_
 change Code.wp ..
 refine wp_seq ?_
 refine wp_region_L _ hW3 ?_
 refine lm (v := .bool true) rfl rfl ?_
 refine wpL_done (fun W4 hW4 => ?_)
 change Code.wp ..
 refine wp_seq ?_
 refine wp_cond_true rfl ?_
 refine wp_skip ?_
 change Code.wp ..
 refine wp_seq ?_
 refine wp_block ?_
 refine wp_seq ?_
 refine wp_region_L _ hW4 ?_
 refine lm (v := .pointer (some ⟨g, 0, none⟩)) rfl rfl ?_
 refine lv (v := .int .i64 x) rfl rfl (yb_cell (off := 0) rfl Tw.kr Tw.m0 Tryd.underlying3 rfl Tw.kr) ?_
 refine lm (v := .int .i64 x) rfl rfl ?_
 refine wpL_done (fun W5 hW5 => ?_)
 change Code.wp ..
 refine wp_seq ?_
 refine wp_region_L _ hW5 ?_
 refine lm (v := .int .i64 x) rfl rfl ?_
 refine lm (v := .int .i64 0) rfl rfl ?_
 refine lp (v := .bool (!(decide (x = 0)))) rfl rfl (run_bin rfl (vx := (.int .i64 x)) (vy := (.int .i64 0)) Tw.kr Tw.kr fun w => bi_neq rfl w) ?_
 refine wpL_done (fun W6 hW6 => ?_)
 change Code.wp ..
 cases hd1 : (decide (x = 0)) with
 | false =>
   have h1 : ¬ (x = 0) := of_decide_eq_false hd1
   clear hd1
   refine wp_cond_true rfl ?_
   refine wp_seq ?_
   refine wp_region_L _ hW6 ?_
   refine lm (v := .int .i64 x) rfl rfl ?_
   refine lm (v := .int .i64 x) rfl rfl ?_
   refine wpL_done (fun W7 hW7 => ?_)
   change Code.wp ..
   refine wp_ret ?_
   try simp only [inBlock_ret, then_ret]
   refine bodyPost_ret (v := .int .i64 x) ?_ rfl ?_
   · kernel_rfl
   · exact ⟨(z_is (by simp [orZ, h1])), hW7.1⟩
 | true =>
   have h1 : x = 0 := of_decide_eq_true hd1
   clear hd1
   refine wp_cond_false rfl ?_
   refine wp_skip ?_
   change Code.wp ..
   refine wp_region_L _ hW6 ?_
   refine lm (v := .int .i64 1) rfl rfl ?_
   refine lm (v := .int .i64 1) rfl rfl ?_
   refine wpL_done (fun W8 hW8 => ?_)
   change Code.wp ..
   refine wp_seq ?_
   refine wp_region_L _ hW8 ?_
   refine lm (v := .bool true) rfl rfl ?_
   refine wpL_done (fun W9 hW9 => ?_)
   change Code.wp ..
   refine wp_seq ?_
   refine wp_cond_true rfl ?_
   refine wp_skip ?_
   change Code.wp ..
   refine wp_seq ?_
   refine wp_block ?_
   refine wp_seq ?_
   refine wp_region_L _ hW9 ?_
   refine lm (v := .pointer (some ⟨g, 1, none⟩)) rfl rfl ?_
   refine lv (v := .int .i64 y) rfl rfl (yb_cell (off := 1) rfl Tw.kr Tw.m0 Tryd.underlying3 rfl Tw.kr) ?_
   refine lm (v := .int .i64 y) rfl rfl ?_
   refine wpL_done (fun W10 hW10 => ?_)
   change Code.wp ..
   refine wp_seq ?_
   refine wp_region_L _ hW10 ?_
   refine lm (v := .int .i64 y) rfl rfl ?_
   refine lm (v := .int .i64 0) rfl rfl ?_
   refine lp (v := .bool (!(decide (y = 0)))) rfl rfl (run_bin rfl (vx := (.int .i64 y)) (vy := (.int .i64 0)) Tw.kr Tw.kr fun w => bi_neq rfl w) ?_
   refine wpL_done (fun W11 hW11 => ?_)
   change Code.wp ..
   cases hd2 : (decide (y = 0)) with
   | false =>
     have h2 : ¬ (y = 0) := of_decide_eq_false hd2
     clear hd2
     refine wp_cond_true rfl ?_
     refine wp_seq ?_
     refine wp_region_L _ hW11 ?_
     refine lm (v := .int .i64 y) rfl rfl ?_
     refine lm (v := .int .i64 y) rfl rfl ?_
     refine wpL_done (fun W12 hW12 => ?_)
     change Code.wp ..
     refine wp_ret ?_
     try simp only [inBlock_ret, then_ret]
     refine bodyPost_ret (v := .int .i64 y) ?_ rfl ?_
     · kernel_rfl
     · exact ⟨(z_is (by simp [orZ, h1, h2])), hW12.1⟩
   | true =>
     have h2 : y = 0 := of_decide_eq_true hd2
     clear hd2
     refine wp_cond_false rfl ?_
     refine wp_skip ?_
     change Code.wp ..
     refine wp_region_L _ hW11 ?_
     refine lm (v := .int .i64 2) rfl rfl ?_
     refine lm (v := .int .i64 2) rfl rfl ?_
     refine wpL_done (fun W13 hW13 => ?_)
     change Code.wp ..
     refine wp_seq ?_
     refine wp_region_L _ hW13 ?_
     refine lm (v := .bool true) rfl rfl ?_
     refine wpL_done (fun W14 hW14 => ?_)
     change Code.wp ..
     refine wp_seq ?_
     refine wp_cond_true rfl ?_
     refine wp_skip ?_
     change Code.wp ..
     refine wp_seq ?_
     refine wp_block ?_
     refine wp_seq ?_
     refine wp_region_L _ hW14 ?_
     refine lm (v := .pointer (some ⟨g, 2, none⟩)) rfl rfl ?_
     refine lv (v := .int .i64 z) rfl rfl (yb_cell (off := 2) rfl Tw.kr Tw.m0 Tryd.underlying3 rfl Tw.kr) ?_
     refine lm (v := .int .i64 z) rfl rfl ?_
     refine wpL_done (fun W15 hW15 => ?_)
     change Code.wp ..
     refine wp_seq ?_
     refine wp_region_L _ hW15 ?_
     refine lm (v := .int .i64 z) rfl rfl ?_
     refine lm (v := .int .i64 0) rfl rfl ?_
     refine lp (v := .bool (!(decide (z = 0)))) rfl rfl (run_bin rfl (vx := (.int .i64 z)) (vy := (.int .i64 0)) Tw.kr Tw.kr fun w => bi_neq rfl w) ?_
     refine wpL_done (fun W16 hW16 => ?_)
     change Code.wp ..
     cases hd3 : (decide (z = 0)) with
     | false =>
       have h3 : ¬ (z = 0) := of_decide_eq_false hd3
       clear hd3
       refine wp_cond_true rfl ?_
       refine wp_seq ?_
       refine wp_region_L _ hW16 ?_
       refine lm (v := .int .i64 z) rfl rfl ?_
       refine lm (v := .int .i64 z) rfl rfl ?_
       refine wpL_done (fun W17 hW17 => ?_)
       change Code.wp ..
       refine wp_ret ?_
       try simp only [inBlock_ret, then_ret]
       refine bodyPost_ret (v := .int .i64 z) ?_ rfl ?_
       · kernel_rfl
       · exact ⟨(z_is (by simp [orZ, h1, h2, h3])), hW17.1⟩
     | true =>
       have h3 : z = 0 := of_decide_eq_true hd3
       clear hd3
       refine wp_cond_false rfl ?_
       refine wp_skip ?_
       change Code.wp ..
       refine wp_region_L _ hW16 ?_
       refine lm (v := .int .i64 3) rfl rfl ?_
       refine lm (v := .int .i64 3) rfl rfl ?_
       refine wpL_done (fun W18 hW18 => ?_)
       change Code.wp ..
       refine wp_seq ?_
       refine wp_region_L _ hW18 ?_
       refine lm (v := .bool false) rfl rfl ?_
       refine wpL_done (fun W19 hW19 => ?_)
       change Code.wp ..
       refine wp_seq ?_
       refine wp_cond_false rfl ?_
       refine wp_exit ?_
       change Code.wp ..
       refine wp_seq ?_
       refine wp_region_L _ hW19 ?_
       refine lm (v := .int .i64 0) rfl rfl ?_
       refine lm (v := .int .i64 0) rfl rfl ?_
       refine wpL_done (fun W20 hW20 => ?_)
       change Code.wp ..
       refine wp_ret ?_
       try simp only [inBlock_ret, then_ret]
       refine bodyPost_ret (v := .int .i64 0) ?_ rfl ?_
       · kernel_rfl
       · exact ⟨(z_is (by simp [orZ, h1, h2, h3])), hW20.1⟩
set_option maxRecDepth 100000 in
set_option maxHeartbeats 4000000 in
theorem compare_any (a b : Bx) (w : World) : Calls Tryd.prog 48 #[bxV a, bxV b] w fun e w' => e = .returned (.int .i64 (cmpX a b)) ∧ Below w.heap.size w w' := by
 go_enter Tryd.func48, Tryd.ntmps48
 refine wp_seq ?_
 refine wp_region_L [] (KS.start w) ?_
 refine wpL_new (fun g => .pointer (some ⟨g, 0, none⟩)) (obi := .cells (bxC a) 26 (0, 0)) rfl rfl Tw.kf Tw.pf fun g1 Bg1 Fg1 => ?_
 refine wpL_new (fun g => .pointer (some ⟨g, 0, none⟩)) (obi := .cells (bxC b) 26 (0, 0)) rfl rfl Tw.kf Tw.pf fun g2 Bg2 Fg2 => ?_
 obtain dj3_0 : g1 ≠ g2 := Tw.dkf Fg2
 refine lm (v := .int .i64 0) rfl rfl ?_
 refine wpL_done (fun W1 hW1 => ?_)
 change Code.wp ..
 refine wp_seq ?_
 refine wp_region_V _ Tw.kr hW1 ?_
 refine vm (i := 0) (v := .pointer (some ⟨g2, 6, none⟩)) rfl rfl rfl ?_
 refine vv (i := 1) (v := .int .i64 b.dis) rfl rfl rfl (yb_cell (off := 6) rfl Tw.kr Tw.m0 Tryd.underlying3 rfl Tw.kr) ?_
 refine vm (i := 2) (v := .pointer (some ⟨g1, 6, none⟩)) rfl rfl rfl ?_
 refine vv (i := 3) (v := .int .i64 a.dis) rfl rfl rfl (yb_cell (off := 6) rfl Tw.kr Tw.m1 Tryd.underlying3 rfl Tw.kr) ?_
 refine vv (i := 4) (v := .int .i64 (cmpZ b.dis a.dis)) rfl rfl rfl (yb_call (f := 66) (args := #[.int .i64 b.dis, .int .i64 a.dis]) Tw.kf fun W hW => Cmp_any b.dis a.dis W) ?_
 refine vm (i := 5) (v := .pointer (some ⟨g2, 4, none⟩)) rfl rfl rfl ?_
 refine vv (i := 6) (v := .int .i64 b.kilos) rfl rfl rfl (yb_cell (off := 4) rfl Tw.kr Tw.m0 Tryd.underlying3 rfl Tw.kr) ?_
 refine vm (i := 7) (v := .pointer (some ⟨g1, 4, none⟩)) rfl rfl rfl ?_
 refine vv (i := 8) (v := .int .i64 a.kilos) rfl rfl rfl (yb_cell (off := 4) rfl Tw.kr Tw.m1 Tryd.underlying3 rfl Tw.kr) ?_
 refine vv (i := 9) (v := .int .i64 (cmpZ b.kilos a.kilos)) rfl rfl rfl (yb_call (f := 66) (args := #[.int .i64 b.kilos, .int .i64 a.kilos]) Tw.kf fun W hW => Cmp_any b.kilos a.kilos W) ?_
 refine vm (i := 10) (v := .pointer (some ⟨g1, 0, none⟩)) rfl rfl rfl ?_
 refine vv (i := 11) (v := .int .i64 a.id) rfl rfl rfl (yb_cell (off := 0) rfl Tw.kr Tw.m1 Tryd.underlying3 rfl Tw.kr) ?_
 refine vm (i := 12) (v := .pointer (some ⟨g2, 0, none⟩)) rfl rfl rfl ?_
 refine vv (i := 13) (v := .int .i64 b.id) rfl rfl rfl (yb_cell (off := 0) rfl Tw.kr Tw.m0 Tryd.underlying3 rfl Tw.kr) ?_
 refine vv (i := 14) (v := .int .i64 (cmpZ a.id b.id)) rfl rfl rfl (yb_call (f := 66) (args := #[.int .i64 a.id, .int .i64 b.id]) Tw.kf fun W hW => Cmp_any a.id b.id W) ?_
 refine wpV_ns (fun g => .slice (some ⟨g, 0, none⟩) 3 3) (i := 15) (obi := .cells #[.int .i64 (cmpZ b.dis a.dis), .int .i64 (cmpZ b.kilos a.kilos), .int .i64 (cmpZ a.id b.id)] 3 (0, 0)) rfl rfl rfl Tw.kr Tw.kf Tw.pf fun g4 Bg4 Fg4 => ?_
 obtain ⟨dj5_0, dj5_1⟩ : g2 ≠ g4 ∧ g1 ≠ g4 := Tw.dkf Fg4
 refine vv (i := 16) (v := .int .i64 (orZ (cmpZ b.dis a.dis) (cmpZ b.kilos a.kilos) (cmpZ a.id b.id))) rfl rfl rfl (yb_call (f := 65) (args := #[.slice (some ⟨g4, 0, none⟩) 3 3]) Tw.kf fun W hW => Or_any (cmpZ b.dis a.dis) (cmpZ b.kilos a.kilos) (cmpZ a.id b.id) g4 W (hW.2 _ Tw.m0)) ?_
 refine vm (i := 17) (v := .int .i64 (orZ (cmpZ b.dis a.dis) (cmpZ b.kilos a.kilos) (cmpZ a.id b.id))) rfl rfl rfl ?_
 refine wpV_done Tw.kr (fun W2 hW2 => ?_) _
 change Code.wp ..
 refine wp_ret ?_
 try simp only [inBlock_ret, then_ret]
 refine bodyPost_ret (v := .int .i64 (orZ (cmpZ b.dis a.dis) (cmpZ b.kilos a.kilos) (cmpZ a.id b.id))) ?_ rfl ?_
 · kernel_rfl
 · exact ⟨rfl, hW2.1⟩
end Go.Proofs.YtllmpemmknblaaaDoor
