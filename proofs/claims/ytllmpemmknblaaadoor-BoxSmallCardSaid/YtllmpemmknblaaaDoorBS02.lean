import Derived.Test.YtllmpemmknblaaaDoorBS01
import Derived.Test.YtllmpemmknblaaaDoorBS00
import Derived.Deep.AppendSrc
import Derived.Deep.Upon
import Derived.Laws.RangeAny
import Derived.Laws.Rows
import Derived.Lib.LaidTab
import Derived.LaidByText
import Derived.Handed
import Derived.ChangeArms
import Derived.ChangeShapes
import Derived.WideShapes
import Derived.DataReads
import Derived.ChangeOld
import Derived.SizedLaws
import Derived.Test.YtllmpemmknblaaaDoorCards
import Derived.Test.YtllmpemmknblaaaDoorTie
import Derived.WalkKit
import Derived.ProofKit
import Derived.OpenShut
import Derived.LaidMore
import Derived.ChangeMaps5
import Derived.Shelf.Vars
import Derived.Stop.Joined
import Derived.Stop.LaidErr
import Derived.SevenTiedAt
/- Part of the proof: HJ, HK, HL, Sr, Sj, Hs, HM, HN, Sq, HO, Hp, HP, HR. -/
set_option linter.unusedVariables false
set_option linter.unusedSimpArgs false
set_option linter.unusedSectionVars false
namespace Go.Proofs.YtllmpemmknblaaaDoor
open Go Go.RowKit Tw
theorem exit_then (f : Act → World → Prop) (Q : Exit → Act → World → Prop) (n : Nat) (a : Act) (w : World) : Exit.then f Q (.exit n) a w = Q (.exit n) a w := rfl
theorem exit_in (n : Nat) (Q : Exit → Act → World → Prop) (a : Act) (w : World) : Exit.inBlock n Q (.exit n) a w = Q .normal a w := if_pos rfl
theorem exit_out (n m : Nat) (Q : Exit → Act → World → Prop) (a : Act) (w : World) (h : (m == n) = false) : Exit.inBlock n Q (.exit m) a w = Q (.exit m) a w := if_neg (by intro e; subst e; simp at h)
def RowX (cur : Array Value) (l : List Bx) : Prop := ∃ rest, cur.toList = bcs l ++ rest
def putR (cur : Array Value) (k : Nat) (b : Bx) : Array Value := (cur.toList.take (k * 9) ++ (bxC b).toList ++ cur.toList.drop (k * 9 + 9)).toArray
theorem RowX.size {cur : Array Value} {l : List Bx} (h : RowX cur l) : l.length * 9 ≤ cur.size := by
 obtain ⟨rest, h⟩ := h
 have := congrArg List.length h
 rw [List.length_append, bcs_len, Array.length_toList] at this
 omega
theorem RowX.get {cur : Array Value} {l : List Bx} {k : Nat} {b : Bx} (h : RowX cur l) (hb : l[k]? = some b) : ∀ (j : Nat) (v : Value), (bxC b).toList[j]? = some v → cur[0 + k * 9 + j]? = some v := fun j v hv => by
 obtain ⟨rest, h⟩ := h
 have h1 := bcs_get hb hv
 rw [← Array.getElem?_toList, h, Nat.zero_add, List.getElem?_append_left (List.getElem?_eq_some_iff.1 h1).1, h1]
theorem bcs_split {l : List Bx} {k : Nat} {b : Bx} (hb : l[k]? = some b) : bcs l = bcs (l.take k) ++ ((bxC b).toList ++ bcs (l.drop (k + 1))) := by
 obtain ⟨hk, rfl⟩ := List.getElem?_eq_some_iff.1 hb
 conv => lhs; rw [← List.take_append_drop k l, List.drop_eq_getElem_cons hk]
 rw [bcs_app]
 rfl
theorem set_is {l : List Bx} {k : Nat} {b : Bx} (hk : k < l.length) : l.set k b = l.take k ++ b :: l.drop (k + 1) := by
 rw [List.set_eq_take_append_cons_drop, if_pos hk]
theorem put_list {cur : Array Value} {l : List Bx} {k : Nat} {b : Bx} {rest : List Value} (h : cur.toList = bcs l ++ rest) (hk : k < l.length) : (putR cur k b).toList = bcs (l.set k b) ++ rest := by
 have hb : l[k]? = some l[k] := List.getElem?_eq_getElem hk
 have hl : (bcs (l.take k)).length = k * 9 := by rw [bcs_len, List.length_take, Nat.min_eq_left Tw.om]
 have h9 : (bxC l[k]).toList.length = 9 := rfl
 unfold putR
 rw [set_is hk, bcs_app, show bcs (b :: l.drop (k + 1)) = (bxC b).toList ++ bcs (l.drop (k + 1)) from rfl]
 simp only [h, bcs_split hb, List.append_assoc]
 rw [List.take_left' hl, ← List.drop_drop, List.drop_left' hl, List.drop_left' h9]
theorem RowX.put {cur : Array Value} {l : List Bx} {k : Nat} {b : Bx} (h : RowX cur l) (hk : k < l.length) : RowX (putR cur k b) (l.set k b) := by
 obtain ⟨rest, h⟩ := h
 exact ⟨rest, put_list h hk⟩
theorem put_size {cur : Array Value} {l : List Bx} {k : Nat} {b : Bx} (h : RowX cur l) (hk : k < l.length) : (putR cur k b).size = cur.size := by
 obtain ⟨rest, h⟩ := h
 have h1 := congrArg List.length (put_list (b := b) h hk)
 have h2 := congrArg List.length h
 simp only [List.length_append, bcs_len, List.length_set, Array.length_toList] at h1 h2
 omega
theorem st_rec {W0 : Base} {o : Oper} {a : Act} {K K' : List (Nat × Obj)} {ty t : TypeId} {x y : Operand} {g k : Nat} {cur : Array Value} {l : List Bx} {b : Bx} (ho : o.op = .store ty x y) (hx : a.eval x = .pointer (some ⟨g, 0 + k * 9, none⟩)) (hv : a.eval y = bxV b)
   (hm : (g, .cells cur t (0, 0)) ∈ K) (hB : W0.B ≤ g) (hi : (Tryd.prog.info? ty).map (·.size) = some 9) (hr : RowX cur l) (hk : k < l.length)
   (hK : ∀ p ∈ K', p = (g, .cells (putR cur k b) t (0, 0)) ∨ (p ∈ K ∧ p.1 ≠ g)) : ∀ w, KS W0 K w → ∃ w', (execOp a.eval o).run Tryd.prog w = .ok .skip w' ∧ KS W0 K' w' :=
 st_row (off := 0 + k * 9) (v := bxV b) ho hx hv hm hB hi (by have := hr.size; show 0 + k * 9 + 9 ≤ cur.size; omega) (by show ∀ x ∈ (bxC b).toList, x.oneCell' = true; rw [← bcs_one]; exact bcs_onec _) (by
   show putR cur k b = (cur.toList.take (0 + k * 9) ++ (bxC b).toList ++ cur.toList.drop (0 + k * 9 + 9)).toArray
   unfold putR; rw [Nat.zero_add]) hK
set_option maxRecDepth 100000 in
set_option maxHeartbeats 4000000 in
theorem ins_any {W0 : Base} {K : List (Nat × Obj)} {g n cap : Nat} {cur : Array Value} (l : List Bx) (hn : l.length = n) (hn2 : n ≤ 4000000000) (a b : Nat) (hab : a ≤ b) (hbn : b ≤ n) (hr : RowX cur l) (hB : W0.B ≤ g) (hg : ∀ q ∈ K, q.1 ≠ g) (w : World) (hw : KS W0 ((g, .cells cur 26 (0, 0)) :: K) w) :
   Calls Tryd.prog 71 #[.slice (some ⟨g, 0, none⟩) n cap, .int .i64 ((a : Nat) : Int), .int .i64 ((b : Nat) : Int), .func (.func 48) #[] #[]] w fun e w' => ∃ v K', e = .returned v ∧ KS W0 K' w' ∧ (v = .tuple #[] ∧ ∃ cur', RowX cur' (l.take a ++ orderX ((l.take b).drop a) ++ l.drop b) ∧ cur'.size = cur.size ∧ K' = (g, .cells cur' 26 (0, 0)) :: K) := by
 go_enter Tryd.func71, Tryd.ntmps71
 refine wp_seq ?_
 refine wp_region_L (W0 := W0) ((g, .cells cur 26 (0, 0)) :: K) (hw) ?_
 refine lm (v := .int .i64 ((a : Nat) : Int)) rfl rfl ?_
 refine lp (v := .int .i64 (((a + 1) : Nat) : Int)) rfl rfl (run_bin rfl (vx := (.int .i64 ((a : Nat) : Int))) (vy := (.int .i64 ((1 : Nat) : Int))) Tw.kr Tw.kr fun w => bn_add (z := (a + 1)) rfl (wr_i64 Tw.om) w) ?_
 refine lm (v := .int .i64 (((a + 1) : Nat) : Int)) rfl rfl ?_
 refine wpL_done (fun W1 hW1 => ?_)
 change Code.wp ..
 refine wp_block ?_
 go_loopw [8] (fun u8 wr => ∃ (i : Nat) (l1 : List Bx) (cur1 : Array Value), (a + 1 ≤ i ∧ i ≤ b + 1) ∧ (InsO l a b i l1) ∧ (RowX cur1 l1) ∧ (cur1.size = cur.size) ∧ (l1.length = l.length) ∧ u8 = .int .i64 ((i : Nat) : Int) ∧ KS W0 ((g, .cells cur1 26 (0, 0)) :: K) wr) (fun u8 _ => b + 1 - (intOf u8).toNat)
 case atStart => exact ⟨a + 1, l, cur, Tw.om, (insO_start hab Tw.om), hr, rfl, rfl, rfl, hW1⟩
 case round =>
   obtain ⟨i, l1, cur1, hi, hO, hr1, hz, hl1, rfl, hL2⟩ := hrel
   refine wp_seq ?_
   refine wp_seq ?_
   refine wp_region_L (W0 := W0) ((g, .cells cur1 26 (0, 0)) :: K) (hL2) ?_
   refine lm (v := .int .i64 ((i : Nat) : Int)) rfl rfl ?_
   refine lm (v := .int .i64 ((b : Nat) : Int)) rfl rfl ?_
   refine lp (v := .bool (decide (i < b))) rfl rfl (run_bin rfl (vx := (.int .i64 ((i : Nat) : Int))) (vy := (.int .i64 ((b : Nat) : Int))) Tw.kr Tw.kr fun w => bn_lss rfl w) ?_
   refine wpL_done (fun W3 hW3 => ?_)
   change Code.wp ..
   cases hd1 : (decide (i < b)) with
   | false =>
     have h1 : ¬ (i < b) := of_decide_eq_false hd1
     clear hd1
     refine wp_cond_false rfl ?_
     refine wp_exit ?_
     simp only [exit_then, exit_in, exit_out]
     refine bodyPost_end (v := .tuple #[]) (results_none rfl _ _ _) rfl ?_
     exact ⟨_, _, rfl, hW3.sub (List.forall_mem_cons.2 ⟨Tw.m0, fun p hp => (.tail _ hp)⟩), rfl, _, (by rw [← insO_end hO h1]; exact hr1), hz, rfl⟩
   | true =>
     have h1 : i < b := of_decide_eq_true hd1
     clear hd1
     have hib := h1
     refine wp_cond_true rfl ?_
     refine wp_skip ?_
     change Code.wp ..
     refine wp_seq ?_
     refine wp_block ?_
     refine wp_seq ?_
     refine wp_region_L (W0 := W0) ((g, .cells cur1 26 (0, 0)) :: K) (hW3) ?_
     refine lm (v := .int .i64 ((i : Nat) : Int)) rfl rfl ?_
     refine lm (v := .int .i64 ((i : Nat) : Int)) rfl rfl ?_
     refine wpL_done (fun W4 hW4 => ?_)
     change Code.wp ..
     refine wp_block ?_
     have hI0 := insI_start hO hib Tw.om Tw.om
     go_loopw [9] (fun u9 wr => ∃ (j : Nat) (l2 : List Bx) (cur2 : Array Value), (a ≤ j ∧ j ≤ i) ∧ (InsI l a i j l2) ∧ (RowX cur2 l2) ∧ (cur2.size = cur.size) ∧ u9 = .int .i64 ((j : Nat) : Int) ∧ KS W0 ((g, .cells cur2 26 (0, 0)) :: K) wr) (fun u9 _ => (intOf u9).toNat)
     case atStart => exact ⟨i, l1, cur1, Tw.om, hI0, hr1, hz, rfl, hW4⟩
     case round =>
       obtain ⟨j, l2, cur2, hj, hI, hr2, hz2, rfl, hL5⟩ := hrel
       have hl2 : l2.length = l.length := insI_len hI Tw.om
       refine wp_seq ?_
       refine wp_seq ?_
       refine wp_region_V (W0 := W0) ((g, .cells cur2 26 (0, 0)) :: K) Tw.kr (hL5) ?_
       refine vm (i := 0) (v := .int .i64 ((j : Nat) : Int)) rfl rfl rfl ?_
       refine vm (i := 1) (v := .int .i64 ((a : Nat) : Int)) rfl rfl rfl ?_
       refine vp (i := 2) (v := .bool (decide (a < j))) rfl rfl rfl (run_bin rfl (vx := (.int .i64 ((j : Nat) : Int))) (vy := (.int .i64 ((a : Nat) : Int))) Tw.kr Tw.kr fun w => bn_gtr rfl w) ?_
       refine vm (i := 3) (v := .bool (decide (a < j))) rfl rfl rfl ?_
       cases hd2 : (decide (a < j)) with
       | false =>
         have h2 : ¬ (a < j) := of_decide_eq_false hd2
         clear hd2
         refine vn (i := 4) rfl rfl ?_
         refine vn (i := 5) rfl rfl ?_
         refine vn (i := 6) rfl rfl ?_
         refine vn (i := 7) rfl rfl ?_
         refine vn (i := 8) rfl rfl ?_
         refine vn (i := 9) rfl rfl ?_
         refine vn (i := 10) rfl rfl ?_
         refine vn (i := 11) rfl rfl ?_
         refine vn (i := 12) rfl rfl ?_
         refine vn (i := 13) rfl rfl ?_
         refine vn (i := 14) rfl rfl ?_
         refine vn (i := 15) rfl rfl ?_
         refine vm (i := 16) (v := .bool false) rfl rfl rfl ?_
         refine wpV_done Tw.kr (fun W6 hW6 => ?_) _
         change Code.wp ..
         refine wp_cond_false rfl ?_
         refine wp_exit ?_
         change Code.wp ..
         refine wp_region_L (W0 := W0) ((g, .cells cur2 26 (0, 0)) :: K) (hW6) ?_
         refine lm (v := .int .i64 ((i : Nat) : Int)) rfl rfl ?_
         refine lp (v := .int .i64 (((i + 1) : Nat) : Int)) rfl rfl (run_bin rfl (vx := (.int .i64 ((i : Nat) : Int))) (vy := (.int .i64 ((1 : Nat) : Int))) Tw.kr Tw.kr fun w => bn_add (z := (i + 1)) rfl (wr_i64 Tw.om) w) ?_
         refine lm (v := .int .i64 (((i + 1) : Nat) : Int)) rfl rfl ?_
         refine wpL_done (fun W7 hW7 => ?_)
         go_roundw
         case rel =>
           repeat apply Exists.intro
           exact ⟨⟨i + 1, l2, cur2, Tw.om, (insO_next hI hib Tw.om (.inl Tw.om)), hr2, hz2, (insI_len hI Tw.om), rfl, hW7⟩, rfl⟩
         case measure => (show b + 1 - (intOf (.int .i64 (((i + 1) : Nat) : Int))).toNat < b + 1 - (intOf (.int .i64 ((i : Nat) : Int))).toNat); simp only [intOf]; omega
       | true =>
         have h2 : a < j := of_decide_eq_true hd2
         clear hd2
         refine vm (i := 4) (v := .func (.func 48) #[] #[]) rfl rfl rfl ?_
         refine vm (i := 5) (v := .slice (some ⟨g, 0, none⟩) n cap) rfl rfl rfl ?_
         refine vm (i := 6) (v := .int .i64 ((j : Nat) : Int)) rfl rfl rfl ?_
         refine vp (i := 7) (v := .pointer (some ⟨g, 0 + j * 9, none⟩)) rfl rfl rfl (run_idxL (j := .i64) (n := n) (cap := cap) (b := g) (off := 0) (k := j) (sz := 9) rfl Tryd.underlying22 Tw.kr Tw.kr Tw.kr Tw.om) ?_
         obtain ⟨b1, hy1⟩ : ∃ bz, (l2 : List Bx)[j]? = some bz := ⟨_, List.getElem?_eq_getElem (by first | omega | (simp only [List.length_set]; omega))⟩
         refine vv (i := 8) (v := bxV b1) rfl rfl rfl (yb_cells (off := 0 + j * 9) (cur := cur2) (cs := (bxC b1).toList) rfl Tw.kr Tw.m0 (RowX.get hr2 hy1) Tryd.underlying26 rfl Tw.kr) ?_
         refine vm (i := 9) (v := .slice (some ⟨g, 0, none⟩) n cap) rfl rfl rfl ?_
         refine vm (i := 10) (v := .int .i64 ((j : Nat) : Int)) rfl rfl rfl ?_
         refine vp (i := 11) (v := .int .i64 (((j - 1) : Nat) : Int)) rfl rfl rfl (run_bin rfl (vx := (.int .i64 ((j : Nat) : Int))) (vy := (.int .i64 ((1 : Nat) : Int))) Tw.kr Tw.kr fun w => bn_sub (z := (j - 1)) rfl Tw.om (wr_i64 Tw.om) w) ?_
         refine vp (i := 12) (v := .pointer (some ⟨g, 0 + (j - 1) * 9, none⟩)) rfl rfl rfl (run_idxL (j := .i64) (n := n) (cap := cap) (b := g) (off := 0) (k := (j - 1)) (sz := 9) rfl Tryd.underlying22 Tw.kr Tw.kr Tw.kr Tw.om) ?_
         obtain ⟨b2, hy2⟩ : ∃ bz, (l2 : List Bx)[(j - 1)]? = some bz := ⟨_, List.getElem?_eq_getElem (by first | omega | (simp only [List.length_set]; omega))⟩
         refine vv (i := 13) (v := bxV b2) rfl rfl rfl (yb_cells (off := 0 + (j - 1) * 9) (cur := cur2) (cs := (bxC b2).toList) rfl Tw.kr Tw.m0 (RowX.get hr2 hy2) Tryd.underlying26 rfl Tw.kr) ?_
         refine vv (i := 14) (v := .int .i64 (cmpX b1 b2)) rfl rfl rfl (yb_call (f := 48) (args := #[bxV b1, bxV b2]) Tw.kf fun W hW => compare_any b1 b2 W) ?_
         refine vp (i := 15) (v := .bool (decide ((cmpX b1 b2) < 0))) rfl rfl rfl (run_bin rfl (vx := (.int .i64 (cmpX b1 b2))) (vy := (.int .i64 0)) Tw.kr Tw.kr fun w => bi_lss rfl w) ?_
         refine vm (i := 16) (v := .bool (decide ((cmpX b1 b2) < 0))) rfl rfl rfl ?_
         refine wpV_done Tw.kr (fun W8 hW8 => ?_) _
         change Code.wp ..
         cases hd3 : (decide ((cmpX b1 b2) < 0)) with
         | false =>
           have h3 : ¬ ((cmpX b1 b2) < 0) := of_decide_eq_false hd3
           clear hd3
           refine wp_cond_false rfl ?_
           refine wp_exit ?_
           change Code.wp ..
           refine wp_region_L (W0 := W0) ((g, .cells cur2 26 (0, 0)) :: K) (hW8) ?_
           refine lm (v := .int .i64 ((i : Nat) : Int)) rfl rfl ?_
           refine lp (v := .int .i64 (((i + 1) : Nat) : Int)) rfl rfl (run_bin rfl (vx := (.int .i64 ((i : Nat) : Int))) (vy := (.int .i64 ((1 : Nat) : Int))) Tw.kr Tw.kr fun w => bn_add (z := (i + 1)) rfl (wr_i64 Tw.om) w) ?_
           refine lm (v := .int .i64 (((i + 1) : Nat) : Int)) rfl rfl ?_
           refine wpL_done (fun W9 hW9 => ?_)
           go_roundw
           case rel =>
             repeat apply Exists.intro
             exact ⟨⟨i + 1, l2, cur2, Tw.om, (insO_next hI hib Tw.om (.inr ⟨_, _, h2, hy1, hy2, cmpX_no h3⟩)), hr2, hz2, (insI_len hI Tw.om), rfl, hW9⟩, rfl⟩
           case measure => (show b + 1 - (intOf (.int .i64 (((i + 1) : Nat) : Int))).toNat < b + 1 - (intOf (.int .i64 ((i : Nat) : Int))).toNat); simp only [intOf]; omega
         | true =>
           have h3 : (cmpX b1 b2) < 0 := of_decide_eq_true hd3
           clear hd3
           have hbf := cmpX_yes h3
           refine wp_cond_true rfl ?_
           refine wp_skip ?_
           change Code.wp ..
           refine wp_seq ?_
           refine wp_block ?_
           refine wp_region_V (W0 := W0) ((g, .cells cur2 26 (0, 0)) :: K) Tw.kr (hW8) ?_
           refine vm (i := 0) (v := .slice (some ⟨g, 0, none⟩) n cap) rfl rfl rfl ?_
           refine vm (i := 1) (v := .int .i64 ((j : Nat) : Int)) rfl rfl rfl ?_
           refine vm (i := 2) (v := .slice (some ⟨g, 0, none⟩) n cap) rfl rfl rfl ?_
           refine vm (i := 3) (v := .int .i64 ((j : Nat) : Int)) rfl rfl rfl ?_
           refine vp (i := 4) (v := .int .i64 (((j - 1) : Nat) : Int)) rfl rfl rfl (run_bin rfl (vx := (.int .i64 ((j : Nat) : Int))) (vy := (.int .i64 ((1 : Nat) : Int))) Tw.kr Tw.kr fun w => bn_sub (z := (j - 1)) rfl Tw.om (wr_i64 Tw.om) w) ?_
           refine vm (i := 5) (v := .slice (some ⟨g, 0, none⟩) n cap) rfl rfl rfl ?_
           refine vm (i := 6) (v := .int .i64 ((j : Nat) : Int)) rfl rfl rfl ?_
           refine vp (i := 7) (v := .int .i64 (((j - 1) : Nat) : Int)) rfl rfl rfl (run_bin rfl (vx := (.int .i64 ((j : Nat) : Int))) (vy := (.int .i64 ((1 : Nat) : Int))) Tw.kr Tw.kr fun w => bn_sub (z := (j - 1)) rfl Tw.om (wr_i64 Tw.om) w) ?_
           refine vp (i := 8) (v := .pointer (some ⟨g, 0 + (j - 1) * 9, none⟩)) rfl rfl rfl (run_idxL (j := .i64) (n := n) (cap := cap) (b := g) (off := 0) (k := (j - 1)) (sz := 9) rfl Tryd.underlying22 Tw.kr Tw.kr Tw.kr Tw.om) ?_
           refine vv (i := 9) (v := bxV b2) rfl rfl rfl (yb_cells (off := 0 + (j - 1) * 9) (cur := cur2) (cs := (bxC b2).toList) rfl Tw.kr Tw.m0 (RowX.get hr2 hy2) Tryd.underlying26 rfl Tw.kr) ?_
           refine vm (i := 10) (v := .slice (some ⟨g, 0, none⟩) n cap) rfl rfl rfl ?_
           refine vm (i := 11) (v := .int .i64 ((j : Nat) : Int)) rfl rfl rfl ?_
           refine vp (i := 12) (v := .pointer (some ⟨g, 0 + j * 9, none⟩)) rfl rfl rfl (run_idxL (j := .i64) (n := n) (cap := cap) (b := g) (off := 0) (k := j) (sz := 9) rfl Tryd.underlying22 Tw.kr Tw.kr Tw.kr Tw.om) ?_
           refine vv (i := 13) (v := bxV b1) rfl rfl rfl (yb_cells (off := 0 + j * 9) (cur := cur2) (cs := (bxC b1).toList) rfl Tw.kr Tw.m0 (RowX.get hr2 hy1) Tryd.underlying26 rfl Tw.kr) ?_
           refine vp (i := 14) (v := .pointer (some ⟨g, 0 + j * 9, none⟩)) rfl rfl rfl (run_idxL (j := .i64) (n := n) (cap := cap) (b := g) (off := 0) (k := j) (sz := 9) rfl Tryd.underlying22 Tw.kr Tw.kr Tw.kr Tw.om) ?_
           have R3 := RowX.put (b := b2) hr2 (show j < l2.length by first | omega | (simp only [List.length_set]; omega))
           have Q3 := put_size (b := b2) hr2 (show j < l2.length by first | omega | (simp only [List.length_set]; omega))
           refine wpV_s ((g, .cells (putR cur2 j b2) 26 (0, 0)) :: K) (i := 15) rfl Tw.kr rfl rfl rfl (st_rec (k := j) (b := b2) rfl Tw.kr Tw.kr Tw.m0 hB Tw.kr hr2 (by first | omega | (simp only [List.length_set]; omega)) (List.forall_mem_cons.2 ⟨.inl rfl, (fun p hp => .inr ⟨(.tail _ hp), (hg _ hp)⟩)⟩)) ?_
           refine vp (i := 16) (v := .pointer (some ⟨g, 0 + (j - 1) * 9, none⟩)) rfl rfl rfl (run_idxL (j := .i64) (n := n) (cap := cap) (b := g) (off := 0) (k := (j - 1)) (sz := 9) rfl Tryd.underlying22 Tw.kr Tw.kr Tw.kr Tw.om) ?_
           have R4 := RowX.put (b := b1) R3 (show (j - 1) < (l2.set j b2).length by first | omega | (simp only [List.length_set]; omega))
           have Q4 := put_size (b := b1) R3 (show (j - 1) < (l2.set j b2).length by first | omega | (simp only [List.length_set]; omega))
           refine wpV_s ((g, .cells (putR (putR cur2 j b2) (j - 1) b1) 26 (0, 0)) :: K) (i := 17) rfl Tw.kr rfl rfl rfl (st_rec (k := (j - 1)) (b := b1) rfl Tw.kr Tw.kr Tw.m0 hB Tw.kr R3 (by first | omega | (simp only [List.length_set]; omega)) (List.forall_mem_cons.2 ⟨.inl rfl, (fun p hp => .inr ⟨(.tail _ hp), (hg _ hp)⟩)⟩)) ?_
           refine wpV_done Tw.kr (fun W10 hW10 => ?_) _
           change Code.wp ..
           refine wp_region_L (W0 := W0) ((g, .cells (putR (putR cur2 j b2) (j - 1) b1) 26 (0, 0)) :: K) (hW10) ?_
           refine lm (v := .int .i64 ((j : Nat) : Int)) rfl rfl ?_
           refine lp (v := .int .i64 (((j - 1) : Nat) : Int)) rfl rfl (run_bin rfl (vx := (.int .i64 ((j : Nat) : Int))) (vy := (.int .i64 ((1 : Nat) : Int))) Tw.kr Tw.kr fun w => bn_sub (z := (j - 1)) rfl Tw.om (wr_i64 Tw.om) w) ?_
           refine lm (v := .int .i64 (((j - 1) : Nat) : Int)) rfl rfl ?_
           refine wpL_done (fun W11 hW11 => ?_)
           go_roundw
           case rel =>
             repeat apply Exists.intro
             exact ⟨⟨j - 1, ((l2.set j b2).set (j - 1) b1), (putR (putR cur2 j b2) (j - 1) b1), Tw.om, (insI_step hI Tw.om h2 hy1 hy2 hbf), R4, Tw.om, rfl, hW11⟩, rfl⟩
           case measure => (show (intOf (.int .i64 (((j - 1) : Nat) : Int))).toNat < (intOf (.int .i64 ((j : Nat) : Int))).toNat); simp only [intOf]; omega
end Go.Proofs.YtllmpemmknblaaaDoor
namespace Go.Proofs.YtllmpemmknblaaaDoor
open Go Go.RowKit Tw
set_option maxRecDepth 100000 in
set_option maxHeartbeats 4000000 in
theorem stable_small {W0 : Base} {K : List (Nat × Obj)} {g n cap : Nat} {cur : Array Value} (l : List Bx) (hn : l.length = n) (hn2 : n ≤ 4000000000) (hsm : n < 20) (hr : RowX cur l) (hB : W0.B ≤ g) (hg : ∀ q ∈ K, q.1 ≠ g) (w : World) (hw : KS W0 ((g, .cells cur 26 (0, 0)) :: K) w) :
   Calls Tryd.prog 64 #[.slice (some ⟨g, 0, none⟩) n cap, .int .i64 ((n : Nat) : Int), .func (.func 48) #[] #[]] w fun e w' => ∃ v K', e = .returned v ∧ KS W0 K' w' ∧ (v = .tuple #[] ∧ ∃ cur', RowX cur' (orderX l) ∧ cur'.size = cur.size ∧ K' = (g, .cells cur' 26 (0, 0)) :: K) := by
 go_enter Tryd.func64, Tryd.ntmps64
 refine wp_seq ?_
 refine wp_region_L (W0 := W0) ((g, .cells cur 26 (0, 0)) :: K) (hw) ?_
 refine lm (v := .int .i64 20) rfl rfl ?_
 refine wpL_done (fun W1 hW1 => ?_)
 change Code.wp ..
 refine wp_seq ?_
 refine wp_region_L (W0 := W0) ((g, .cells cur 26 (0, 0)) :: K) (hW1) ?_
 refine lm (v := .int .i64 20) rfl rfl ?_
 refine lm (v := .int .i64 0) rfl rfl ?_
 refine lm (v := .int .i64 20) rfl rfl ?_
 refine wpL_done (fun W2 hW2 => ?_)
 change Code.wp ..
 refine wp_seq ?_
 refine wp_block ?_
 refine wp_loop_rounds 1 ?_
 change Code.wp ..
 refine wp_seq ?_
 refine wp_seq ?_
 refine wp_region_L (W0 := W0) ((g, .cells cur 26 (0, 0)) :: K) (hW2) ?_
 refine lm (v := .int .i64 20) rfl rfl ?_
 refine lm (v := .int .i64 ((n : Nat) : Int)) rfl rfl ?_
 refine lp (v := .bool false) rfl rfl (run_bin rfl (vx := (.int .i64 ((20 : Nat) : Int))) (vy := (.int .i64 ((n : Nat) : Int))) Tw.kr Tw.kr fun w => bn_leq (decide_eq_true hsm) w) ?_
 refine wpL_done (fun W3 hW3 => ?_)
 change Code.wp ..
 refine wp_cond_false rfl ?_
 refine wp_exit ?_
 change Code.wp ..
 refine wp_seq ?_
 refine wp_region_L (W0 := W0) ((g, .cells cur 26 (0, 0)) :: K) (hW3) ?_
 refine lm (v := .slice (some ⟨g, 0, none⟩) n cap) rfl rfl ?_
 refine lm (v := .int .i64 0) rfl rfl ?_
 refine lm (v := .int .i64 ((n : Nat) : Int)) rfl rfl ?_
 refine lm (v := .func (.func 48) #[] #[]) rfl rfl ?_
 refine wpL_c (f := 71) (args := #[.slice (some ⟨g, 0, none⟩) n cap, .int .i64 0, .int .i64 ((n : Nat) : Int), .func (.func 48) #[] #[]]) (fun v K9 => v = .tuple #[] ∧ ∃ cur', RowX cur' (l.take 0 ++ orderX ((l.take n).drop 0) ++ l.drop n) ∧ cur'.size = cur.size ∧ K9 = ((g, .cells cur' 26 (0, 0)) :: K)) rfl Tw.kr Tw.kf (fun W hW => ins_any (K := K) (cap := cap) l Tw.om Tw.om 0 n Tw.om Tw.om hr hB (fun q hq => (hg _ hq)) W (hW.sub (List.forall_mem_cons.2 ⟨Tw.m0, (fun p hp => (.tail _ hp))⟩))) Tw.pf ?_
 rintro v K9 ⟨rfl, cu1, R1, Q1, rfl⟩
 refine wpL_done (fun W4 hW4 => ?_)
 change Code.wp ..
 refine wp_block ?_
 refine wp_loop_rounds 1 ?_
 change Code.wp ..
 refine wp_seq ?_
 refine wp_seq ?_
 refine wp_region_L (W0 := W0) ((g, .cells cu1 26 (0, 0)) :: K) (hW4) ?_
 refine lm (v := .int .i64 20) rfl rfl ?_
 refine lm (v := .int .i64 ((n : Nat) : Int)) rfl rfl ?_
 refine lp (v := .bool false) rfl rfl (run_bin rfl (vx := (.int .i64 ((20 : Nat) : Int))) (vy := (.int .i64 ((n : Nat) : Int))) Tw.kr Tw.kr fun w => bn_lss (decide_eq_false Tw.om) w) ?_
 refine wpL_done (fun W5 hW5 => ?_)
 change Code.wp ..
 refine wp_cond_false rfl ?_
 refine wp_exit ?_
 simp only [exit_then, exit_in, exit_out]
 refine bodyPost_end (v := .tuple #[]) (results_none rfl _ _ _) rfl ?_
 exact ⟨_, _, rfl, hW5.sub (List.forall_mem_cons.2 ⟨Tw.m0, fun p hp => (.tail _ hp)⟩), rfl, _, (by have h := R1; rw [List.take_of_length_le (show l.length ≤ n by omega), List.drop_of_length_le (show l.length ≤ n by omega)] at h; simpa using h), Q1, rfl⟩
set_option maxRecDepth 100000 in
set_option maxHeartbeats 4000000 in
theorem ins_nil (w : World) : Calls Tryd.prog 71 #[.slice none 0 0, .int .i64 0, .int .i64 0, .func (.func 48) #[] #[]] w fun e w' => e = .returned (.tuple #[]) ∧ Below w.heap.size w w' := by
 go_enter Tryd.func71, Tryd.ntmps71
 refine wp_seq ?_
 refine wp_region_L [] (KS.start w) ?_
 refine lm (v := .int .i64 0) rfl rfl ?_
 refine lm (v := .int .i64 1) rfl rfl ?_
 refine lm (v := .int .i64 1) rfl rfl ?_
 refine wpL_done (fun W1 hW1 => ?_)
 change Code.wp ..
 refine wp_block ?_
 refine wp_loop_rounds 1 ?_
 change Code.wp ..
 refine wp_seq ?_
 refine wp_seq ?_
 refine wp_region_L _ hW1 ?_
 refine lm (v := .int .i64 1) rfl rfl ?_
 refine lm (v := .int .i64 0) rfl rfl ?_
 refine lm (v := .bool false) rfl rfl ?_
 refine wpL_done (fun W2 hW2 => ?_)
 change Code.wp ..
 refine wp_cond_false rfl ?_
 refine wp_exit ?_
 simp only [exit_then, exit_in, exit_out]
 refine bodyPost_end (v := .tuple #[]) (results_none rfl _ _ _) rfl ?_
 exact ⟨rfl, hW2.1⟩
set_option maxRecDepth 100000 in
set_option maxHeartbeats 4000000 in
theorem stable_nil (w : World) : Calls Tryd.prog 64 #[.slice none 0 0, .int .i64 0, .func (.func 48) #[] #[]] w fun e w' => e = .returned (.tuple #[]) ∧ Below w.heap.size w w' := by
 go_enter Tryd.func64, Tryd.ntmps64
 refine wp_seq ?_
 refine wp_region_L [] (KS.start w) ?_
 refine lm (v := .int .i64 20) rfl rfl ?_
 refine wpL_done (fun W1 hW1 => ?_)
 change Code.wp ..
 refine wp_seq ?_
 refine wp_region_L _ hW1 ?_
 refine lm (v := .int .i64 20) rfl rfl ?_
 refine lm (v := .int .i64 0) rfl rfl ?_
 refine lm (v := .int .i64 20) rfl rfl ?_
 refine wpL_done (fun W2 hW2 => ?_)
 change Code.wp ..
 refine wp_seq ?_
 refine wp_block ?_
 refine wp_loop_rounds 1 ?_
 change Code.wp ..
 refine wp_seq ?_
 refine wp_seq ?_
 refine wp_region_L _ hW2 ?_
 refine lm (v := .int .i64 20) rfl rfl ?_
 refine lm (v := .int .i64 0) rfl rfl ?_
 refine lm (v := .bool false) rfl rfl ?_
 refine wpL_done (fun W3 hW3 => ?_)
 change Code.wp ..
 refine wp_cond_false rfl ?_
 refine wp_exit ?_
 change Code.wp ..
 refine wp_seq ?_
 refine wp_region_L _ hW3 ?_
 refine lm (v := .slice none 0 0) rfl rfl ?_
 refine lm (v := .int .i64 0) rfl rfl ?_
 refine lm (v := .int .i64 0) rfl rfl ?_
 refine lm (v := .func (.func 48) #[] #[]) rfl rfl ?_
 refine lv (v := .tuple #[]) rfl rfl (yb_call (f := 71) (args := #[.slice none 0 0, .int .i64 0, .int .i64 0, .func (.func 48) #[] #[]]) Tw.kf fun W hW => ins_nil W) ?_
 refine wpL_done (fun W4 hW4 => ?_)
 change Code.wp ..
 refine wp_block ?_
 refine wp_loop_rounds 1 ?_
 change Code.wp ..
 refine wp_seq ?_
 refine wp_seq ?_
 refine wp_region_L _ hW4 ?_
 refine lm (v := .int .i64 20) rfl rfl ?_
 refine lm (v := .int .i64 0) rfl rfl ?_
 refine lm (v := .bool false) rfl rfl ?_
 refine wpL_done (fun W5 hW5 => ?_)
 change Code.wp ..
 refine wp_cond_false rfl ?_
 refine wp_exit ?_
 simp only [exit_then, exit_in, exit_out]
 refine bodyPost_end (v := .tuple #[]) (results_none rfl _ _ _) rfl ?_
 exact ⟨rfl, hW5.1⟩
set_option maxRecDepth 100000 in
set_option maxHeartbeats 4000000 in
theorem sort_nil (w : World) : Calls Tryd.prog 47 #[.slice none 0 0, .func (.func 48) #[] #[]] w fun e w' => e = .returned (.tuple #[]) ∧ Below w.heap.size w w' := by
 go_enter Tryd.func47, Tryd.ntmps47
 refine wp_region_L [] (KS.start w) ?_
 refine lm (v := .slice none 0 0) rfl rfl ?_
 refine lm (v := .slice none 0 0) rfl rfl ?_
 refine lm (v := .int .i64 0) rfl rfl ?_
 refine lm (v := .func (.func 48) #[] #[]) rfl rfl ?_
 refine lv (v := .tuple #[]) rfl rfl (yb_call (f := 64) (args := #[.slice none 0 0, .int .i64 0, .func (.func 48) #[] #[]]) Tw.kf fun W hW => stable_nil W) ?_
 refine wpL_done (fun W1 hW1 => ?_)
 refine bodyPost_end (v := .tuple #[]) (results_none rfl _ _ _) rfl ?_
 exact ⟨rfl, hW1.1⟩
set_option maxRecDepth 100000 in
set_option maxHeartbeats 4000000 in
theorem sort_small {W0 : Base} {K : List (Nat × Obj)} {g n cap : Nat} {cur : Array Value} (l : List Bx) (hn : l.length = n) (hn2 : n ≤ 4000000000) (hsm : n < 20) (hr : RowX cur l) (hB : W0.B ≤ g) (hg : ∀ q ∈ K, q.1 ≠ g) (w : World) (hw : KS W0 ((g, .cells cur 26 (0, 0)) :: K) w) :
   Calls Tryd.prog 47 #[.slice (some ⟨g, 0, none⟩) n cap, .func (.func 48) #[] #[]] w fun e w' => ∃ v K', e = .returned v ∧ KS W0 K' w' ∧ (v = .tuple #[] ∧ ∃ cur', RowX cur' (orderX l) ∧ cur'.size = cur.size ∧ K' = (g, .cells cur' 26 (0, 0)) :: K) := by
 go_enter Tryd.func47, Tryd.ntmps47
 refine wp_region_L (W0 := W0) ((g, .cells cur 26 (0, 0)) :: K) (hw) ?_
 refine lm (v := .slice (some ⟨g, 0, none⟩) n cap) rfl rfl ?_
 refine lm (v := .slice (some ⟨g, 0, none⟩) n cap) rfl rfl ?_
 refine lp (v := .int .i64 ((n : Nat) : Int)) rfl rfl (run_lenL (p := (some ⟨g, 0, none⟩)) (cap := cap) (n := n) rfl Tryd.underlying22 Tw.kr) ?_
 refine lm (v := .func (.func 48) #[] #[]) rfl rfl ?_
 refine wpL_c (f := 64) (args := #[.slice (some ⟨g, 0, none⟩) n cap, .int .i64 ((n : Nat) : Int), .func (.func 48) #[] #[]]) (fun v K9 => v = .tuple #[] ∧ ∃ cur', RowX cur' (orderX l) ∧ cur'.size = cur.size ∧ K9 = ((g, .cells cur' 26 (0, 0)) :: K)) rfl Tw.kr Tw.kf (fun W hW => stable_small (K := K) (cap := cap) l Tw.om Tw.om hsm hr hB (fun q hq => (hg _ hq)) W (hW.sub (List.forall_mem_cons.2 ⟨Tw.m0, (fun p hp => (.tail _ hp))⟩))) Tw.pf ?_
 rintro v K9 ⟨rfl, cu1, R1, Q1, rfl⟩
 refine wpL_done (fun W1 hW1 => ?_)
 refine bodyPost_end (v := .tuple #[]) (results_none rfl _ _ _) rfl ?_
 exact ⟨_, _, rfl, hW1.sub (List.forall_mem_cons.2 ⟨Tw.m0, fun p hp => (.tail _ hp)⟩), rfl, _, R1, Q1, rfl⟩
end Go.Proofs.YtllmpemmknblaaaDoor
namespace Go.Proofs.YtllmpemmknblaaaDoor
open Go Go.RowKit Tw
theorem nil_eq {T E : TypeId} {px py : Operand} {p : Option Addr} {n c : Nat} (h : Tryd.prog.underlying T = some (.slice E)) (w : World) : (do eqGuard .eql T px py (.slice p n c) (.slice none 0 0); binOp .eql T (.slice p n c) (.slice none 0 0) : Sem Value).run Tryd.prog w = .ok (.bool p.isNone) w := by
 have h1 := Lib.run_equalIn_slice_nil (P := Tryd.prog) w 9999 T E p n c 0 0 h
 simp [eqGuard, binOp, Op.equal, Op.maxDepth, h1]
def BS (W0 : Base) (p : Option Addr) (l : List Bx) (T : List (Nat × Obj)) : Prop := ∀ W, KS W0 T W → SLV W p (bcs l)
section
variable {W0 : Base} {T T' : List (Nat × Obj)} {l : List Bx} {p : Option Addr}
theorem BS.base {w : World} (h : SLV w p (bcs l)) : BS (w : Base) p l [] := fun W hW => h.keep hW.1
theorem BS.mono (h : BS W0 p l T) (hs : ∀ q ∈ T, q ∈ T') : BS W0 p l T' := fun W hW => h W (hW.sub hs)
theorem BS.at (h : BS W0 p l T) {W : World} (hW : KS W0 T W) {k : Nat} (hk : k < l.length) :
   ∃ b g off, l[k]? = some b ∧ p = some ⟨g, off, none⟩ ∧ ∀ W, KS W0 T W → ∀ (j : Nat) (v : Value), (bxC b).toList[j]? = some v → W.cell? ⟨g, off + k * 9 + j, none⟩ = some v := by
 obtain ⟨b, g, off, hb, rfl, _, _⟩ := bl_at (h W hW) hk
 refine ⟨b, g, off, hb, rfl, fun W2 hW2 => ?_⟩
 obtain ⟨b2, g2, off2, hb2, he, _, hc⟩ := bl_at (h W2 hW2) hk
 rw [hb] at hb2; cases hb2; cases he
 exact hc
theorem own_bs {E : TypeId} {v : Value} {n : Nat} (h : OwnL W0 E 9 v n (bcs l) T) : ∃ p c, v = .slice p n c ∧ n ≤ c ∧ BS W0 p l T := by
 rcases h with ⟨rfl, h2, rfl, rfl⟩ | ⟨g, cap, cur, rfl, hB, hR, rfl⟩
 · exact ⟨none, 0, rfl, Nat.le_refl _, fun _ _ => .inl h2⟩
 · refine ⟨_, cap, rfl, hR.2.2.1, fun W hW => ?_⟩
   have hb := hW.2 _ Tw.m0
   exact .inr ⟨g, 0, rfl, lt_of_block hb, hR.cel hb⟩
theorem own_bnone {E : TypeId} {g : Nat} (hB : W0.B ≤ g) : OwnL W0 E 9 (.slice (some ⟨g, 0, none⟩) 0 0) 0 (bcs []) [(g, .cells #[] E (0, 0))] :=
 .inr ⟨g, 0, _, rfl, hB, ⟨by simp, by unfold maxLen; omega, Nat.le_refl _, rfl, rfl⟩, rfl⟩
theorem src_bs {U : TypeId} {m c : Nat} (hU : Tryd.prog.underlying U = some (.slice 26)) (h : BS W0 p l T) (hm : m = l.length) : ∀ w, KS W0 T w → Src Tryd.prog 9 U (.slice p m c) m (bcs l) w := by
 intro w hw
 subst hm
 rcases h w hw with h0 | ⟨b, off, rfl, hlt, hc⟩
 · have hl : l = [] := by
     have := bcs_len l; rw [h0] at this; exact List.eq_nil_of_length_eq_zero (by simp at this; omega)
   subst hl
   cases p with
   | none => exact Src.ofNil w hU c
   | some ad => exact Src.ofSlice w hU ad 0 c [] (by simp) (fun j u h => by simp at h) (fun u hu => by cases hu)
 · exact Src.ofSlice w hU ⟨b, off, none⟩ l.length c (bcs l) (by simp [bcs_len]) (fun j u hj => by rw [addr_add]; exact hc j u hj) (bcs_onec l)
end
theorem rowx_slv {W : World} {g : Nat} {cur : Array Value} {l : List Bx} {t : TypeId} {fr : Nat × Nat} (hb : W.heap[g]? = some (.cells cur t fr)) (h : RowX cur l) : SLV W (some ⟨g, 0, none⟩) (bcs l) := by
 obtain ⟨rest, h⟩ := h
 refine .inr ⟨g, 0, rfl, lt_of_block hb, fun i u hu => ?_⟩
 rw [Nat.zero_add, cell_of_row W g i cur t fr hb, ← Array.getElem?_toList, h, List.getElem?_append_left (List.getElem?_eq_some_iff.1 hu).1, hu]
theorem rowx_own {cur : Array Value} {cap n : Nat} {l : List Bx} (h : RowN 9 cur cap n (bcs l)) : RowX cur l := ⟨cur.toList.drop (n * 9), by conv => lhs; rw [← List.take_append_drop (n * 9) cur.toList, h.2.2.2.2]⟩
theorem own_rowx {cur cur' : Array Value} {cap n : Nat} {l l' : List Bx} (h : RowN 9 cur cap n (bcs l)) (hs : cur'.size = cur.size) (hr : RowX cur' l') (hl : l'.length = n) : RowN 9 cur' cap n (bcs l') := by
 obtain ⟨h1, h2, h3, h4, h5⟩ := h
 obtain ⟨rest, hr⟩ := hr
 refine ⟨by rw [hs, h1], h2, h3, by rw [bcs_len, hl], ?_⟩
 rw [hr]
 exact List.take_left' (by rw [bcs_len, hl])
theorem row_lit (l : List Bx) : RowX (bcs l).toArray l := ⟨[], by simp⟩
theorem yb_bs {W0 : Base} {o : Oper} {a : Act} {K : List (Nat × Obj)} {ty : TypeId} {x : Operand} {g off : Nat} {b : Bx} {D : TypeDesc} (ho : o.op = .load ty x) (hx : a.eval x = .pointer (some ⟨g, off, none⟩))
   (hc : ∀ W, KS W0 K W → ∀ (j : Nat) (v : Value), (bxC b).toList[j]? = some v → W.cell? ⟨g, off + j, none⟩ = some v) (hu : Tryd.prog.underlying ty = some D) (hd : aggD D = true) (hi : (Tryd.prog.info? ty).map (·.size) = some 9) :
   ∀ w, KS W0 K w → ∀ K' : Act → World → Prop, (∀ w', Below w.heap.size w w' → K' (a.put o.dst (bxV b)) w') → Oper.wp Tryd.prog o a w K' (fun _ _ _ => False) := by
 intro w hw K' hk
 have hr := run_loadVar_list (P := Tryd.prog) (ty := ty) (cs := (bxC b).toList) w (hc w hw) hu hd hi
 unfold Oper.wp execOp
 simp only [ho, hx, Instr.loadAt, Instr.sureAddr, Sem.run_bind, Sem.run_pure, Result.andThen_ok, hr]
 exact hk w (Below.refl _ _)
theorem slv_none {W : World} {l : List Bx} (h : SLV W none (bcs l)) : l = [] := by
 rcases h with h | ⟨g, off, h, _⟩
 · have := bcs_len l; rw [h] at this; exact List.eq_nil_of_length_eq_zero (by simp at this; omega)
 · cases h
instance : DecidableEq Bx := fun a b => decidable_of_iff (a.id = b.id ∧ a.num = b.num ∧ a.size = b.size ∧ a.high = b.high ∧ a.kilos = b.kilos ∧ a.load = b.load ∧ a.dis = b.dis ∧ a.cls = b.cls ∧ a.rf = b.rf) (by cases a; cases b; simp)
theorem neq_bx {a b : Bx} {e : Bool} {px py : Operand} (h : decide (a = b) = e) (w : World) : (do eqGuard .neq 26 px py (bxV a) (bxV b); binOp .neq 26 (bxV a) (bxV b) : Sem Value).run Tryd.prog w = .ok (.bool (!e)) w := by
 subst h
 obtain ⟨a1, a2, a3, a4, a5, a6, a7, a8, a9⟩ := a
 obtain ⟨b1, b2, b3, b4, b5, b6, b7, b8, b9⟩ := b
 unfold bxV bxC strV
 go_simp
 have e3 : ((a3 : Int) = (b3 : Int)) = (a3 = b3) := by apply propext; omega
 have e8 : ((a8 : Int) = (b8 : Int)) = (a8 = b8) := by apply propext; omega
 simp only [e3, e8, Bx.mk.injEq]
 by_cases h1 : a1 = b1 <;> by_cases h2 : a2 = b2 <;> by_cases h3 : a3 = b3 <;> by_cases h4 : a4 = b4 <;> simp [h1, h2, h3, h4] <;>
 by_cases h5 : a5 = b5 <;> by_cases h6 : a6 = b6 <;> by_cases h7 : a7 = b7 <;> by_cases h8 : a8 = b8 <;> by_cases h9 : a9 = b9 <;> simp [h5, h6, h7, h8, h9]
end Go.Proofs.YtllmpemmknblaaaDoor
/- Loops over a string, calls of method values, lists cut to nothing. Over any program. -/
namespace Tw
open Go Go.RowKit Go.Proofs.YtllmpemmknblaaaDoor
section
variable {P : Program} {W0 : Base} {T E : TypeId}
end
section
def OVp {α : Type} (B : Nat) (E : TypeId) (R : World → Value → α → Prop) (W : World) (p : Option Addr) (l : List α) : Prop :=
 ∃ vs : List Value, vs.length = l.length ∧ (vs = [] ∨ ∃ g cur, p = some ⟨g, 0, none⟩ ∧ B ≤ g ∧ W.heap[g]? = some (.cells cur E (0, 0)) ∧ cur.toList.take vs.length = vs) ∧ ∀ (k : Nat) (x : Value) (y : α), vs[k]? = some x → l[k]? = some y → R W x y
def OV {α : Type} (B : Nat) (E : TypeId) (R : World → Value → α → Prop) (W : World) (v : Value) (l : List α) : Prop := ∃ p cap, v = .slice p l.length cap ∧ OVp B E R W p l
theorem OVp.lvp {α : Type} {B : Nat} {E : TypeId} {R R' : World → Value → α → Prop} (hR : ∀ W v y, R W v y → R' W v y) {W : World} {p : Option Addr} {l : List α} (h : OVp B E R W p l) : LVp R' W p l := by
 obtain ⟨vs, h2, h3, h4⟩ := h
 refine ⟨vs, ?_, h2, fun k x y hx hy => hR _ _ _ (h4 k x y hx hy)⟩
 rcases h3 with h | ⟨g, cur, e1, e2, e3, e4⟩
 · exact .inl h
 · refine .inr ⟨g, 0, e1, lt_of_block e3, fun i u hu => ?_⟩
   rw [Nat.zero_add, cell_of_row W g i cur _ _ e3]
   rw [← e4, List.getElem?_take] at hu
   split at hu
   · simpa using hu
   · cases hu
theorem OV.lv {α : Type} {B : Nat} {E : TypeId} {R R' : World → Value → α → Prop} (hR : ∀ W v y, R W v y → R' W v y) (W : World) (v : Value) (l : List α) (h : OV B E R W v l) : LV R' W v l := by
 obtain ⟨p, cap, h1, h2⟩ := h
 exact ⟨p, cap, h1, h2.lvp hR⟩
theorem MkE.own {α : Type} {R : World → Value → α → Prop} {W0 : Base} {E : TypeId} {v : Value} {n : Nat} {xs : List Value} {l : List α} {K T : List (Nat × Obj)} (hO : OwnL W0 E 1 v n xs K) (hE : MkE R W0 xs l T) (hn : n = l.length) : MkV (OV W0.B E R) W0 v l (T ++ K) := by
 obtain ⟨h1, h2⟩ := hE
 intro W hW
 have hA := h2 W (hW.sub (fun p hp => List.mem_append_left K hp))
 rcases hO with ⟨rfl, rfl, rfl, rfl⟩ | ⟨g, cap, cur, rfl, hB, hR, rfl⟩
 · exact ⟨none, 0, by rw [← hn], [], h1, .inl rfl, hA⟩
 · have hb := hW.2 _ (List.mem_append_right T Tw.m0)
   refine ⟨some ⟨g, 0, none⟩, cap, by rw [hn], xs, h1, .inr ⟨g, cur, rfl, hB, hb, ?_⟩, hA⟩
   have := hR.2.2.2.2
   rwa [Nat.mul_one, hn, ← h1] at this
end
end Tw
/- Paths of a walk that come together again. -/
namespace Tw
open Go Go.RowKit Go.Proofs.YtllmpemmknblaaaDoor
def normQ (R : Act → World → Prop) : Exit → Act → World → Prop
 | .normal, a, w => R a w
 | _, _, _ => False
def preW (P : Program) (R : Act → World → Prop) : Nat → Code → Act → World → Prop
 | 0, _, a, w => R a w
 | n + 1, .seq x y, a, w => x.wp P (normQ (preW P R n y)) a w
 | _ + 1, _, _, _ => False
def cutT : Nat → Code → Code
 | n + 1, .seq _ b => cutT n b
 | _, c => c
theorem wp_joins {P : Program} {Q : Exit → Act → World → Prop} (R : Act → World → Prop) : ∀ (n : Nat) {c : Code} {a : Act} {w : World}, preW P R n c a w → (∀ a' w', R a' w' → (cutT n c).wp P Q a' w') → c.wp P Q a w
 | 0, c, a, w, h1, h2 => by
   have := h2 a w h1
   cases c <;> exact this
 | n + 1, c, a, w, h1, h2 => by
   cases c with
   | seq x y =>
     refine wp_seq (wp_mono h1 ?_)
     rintro e a' w' hq
     cases e with
     | normal => exact wp_joins R n hq h2
     | _ => exact hq.elim
   | _ => exact h1.elim
def JoinR (F : (Nat → Value) → Array Value) (W0 : Base) (K : List (Nat × Obj)) (a : Act) (w : World) : Prop := (∃ z, a = { tmps := F z, defers := [] }) ∧ KS W0 K w
theorem join_mk {F : (Nat → Value) → Array Value} {W0 : Base} {K : List (Nat × Obj)} {T : Array Value} {w : World} (h : F (fun i => T.getD i undef) = T) (hK : KS W0 K w) : JoinR F W0 K { tmps := T, defers := [] } w := ⟨⟨_, by rw [h]⟩, hK⟩
end Tw
/- Steps of a drawn statement where several operations may come next. Over any program. -/
namespace Tw
open Go Go.RowKit Go.Proofs.YtllmpemmknblaaaDoor
section
variable {P : Program} {md : Region.Mode} {ops : Array Oper} {Q R : Exit → Act → World → Prop} {W0 : Base}
theorem stepV_nsg {i : Nat} {oi : Oper} {d : Nat} {obi : Obj} {n : Nat} {listed : Array Bool} {tm : Array Value} {df : List Deferred} {K : List (Nat × Obj)} {T : Nat → Array Value} (mk : Nat → Value)
   (hi : ops[i]? = some oi) (hdi : oi.dst = some d) (hw : Region.wanted oi (yielded ops tm) = true)
   (hai : ∀ w, (execOp (Act.eval ⟨tm, df⟩) oi).run P w = .ok (.value (mk w.heap.size)) (w.alloc obi))
   (hT : ∀ g, (tm.setIfInBounds d (mk g)) = T g)
   (h : ∀ g, W0.B ≤ g → (∀ p ∈ K, p.1 ≠ g) → wpV P md ops Q W0 n (listed.setIfInBounds i true) ⟨T g, df⟩ ((g, obi) :: K)) : StepV P md ops Q W0 n listed ⟨tm, df⟩ K i := by
 refine stepV_alloc mk hi hw hai fun g hg hf => ?_
 rw [hdi]
 simp only [Act.put]
 rw [hT g]
 exact h g hg hf
theorem stepV_c {i : Nat} {oi : Oper} {d n : Nat} {listed : Array Bool} {tm : Array Value} {df : List Deferred} {K : List (Nat × Obj)} {T : Value → Array Value} {f : FuncId} {args : Array Value} (G : Value → List (Nat × Obj) → Prop)
   (hi : ops[i]? = some oi) (hdi : oi.dst = some d) (hw : Region.wanted oi (yielded ops tm) = true)
   (hf : ∀ w, (execOp (Act.eval ⟨tm, df⟩) oi).run P w = .ok (.enter f args) w)
   (hc : ∀ w, KS W0 K w → Calls P f args w fun e w' => ∃ v K', e = .returned v ∧ KS W0 K' w' ∧ G v K') (hm : ∀ v K', G v K' → ∀ p ∈ K, p ∈ K')
   (hT : ∀ v, tm.setIfInBounds d v = T v)
   (h : ∀ v K', G v K' → wpV P md ops Q W0 n (listed.setIfInBounds i true) ⟨T v, df⟩ K') : StepV P md ops Q W0 n listed ⟨tm, df⟩ K i := by
   refine ⟨oi, hi, .inr (.inr (.inr ⟨G, .inr (.inl hm), ⟨hw, fun w hK => ?_⟩, fun v K' hG => ?_⟩))⟩
   · unfold Oto
     rw [hf w]
     exact (hc w hK).mono fun e w' ⟨v, K', he, hk, hG⟩ => ⟨v, he, K', hk, hG⟩
   · rw [hdi]
     simp only [Act.put]
     rw [hT v]
     exact h v K' hG
theorem vb {i : Nat} {oi : Oper} {v : Value} {d n : Nat} {listed : Array Bool} {tm : Array Value} {df : List Deferred} {K : List (Nat × Obj)} {T : Array Value} (hi : ops[i]? = some oi) (hd : oi.dst = some d) (hw : Region.wanted oi (yielded ops tm) = true)
   (hy : ∀ w, KS W0 [] w → ∀ K' : Act → World → Prop, (∀ w', Below w.heap.size w w' → K' (Act.put ⟨tm, df⟩ oi.dst v) w') → Oper.wp P oi ⟨tm, df⟩ w K' (fun _ _ _ => False))
   (h : wpV P md ops Q W0 n (listed.setIfInBounds i true) ⟨T, df⟩ K) (hlt : Nat.blt d tm.size = true := by kernel_rfl) (hf : freeP md ops listed i = true := by kernel_rfl) (hT : tm.setIfInBounds d v = T := by simp only [List.setIfInBounds_toArray, List.set_cons_succ, List.set_cons_zero] <;> rfl) : wpV P md ops Q W0 (n + 1) listed ⟨tm, df⟩ K := by
 unfold freeP at hf
 simp only [Bool.and_eq_true] at hf
 obtain ⟨h1, h2, h3, h4⟩ := hf
 refine wpV_first (v := v) hi (Region.noSelect_spec h1) n listed _ K (closed_of h4) (Region.free_spec hi h2) (by simpa using h3)
   (.inl fun K' => .inl ⟨hw, fun w hk => Oto.of_wp hd (Nat.le_of_ble_eq_true hlt) (hy w (hk.sub (fun _ h => by cases h)))⟩) ?_
 rw [hd]
 subst hT
 exact h
end
-- a statement that has the world of now as its base
end Tw
namespace Go.Proofs.YtllmpemmknblaaaDoor
open Go Go.RowKit Tw
theorem calls_out {W0 : Base} {W : World} {K : List (Nat × Obj)} {E : TypeId} {sz n : Nat} {xs : List Value} {f : FuncId} {args : Array Value} (hW : KS W0 K W) (h : Calls Tryd.prog f args W fun e w' => ∃ v, e = .returned v ∧ OutV W w' E sz v n xs ∧ Below W.heap.size W w') :
   Calls Tryd.prog f args W fun e w' => ∃ v K', e = .returned v ∧ KS W0 K' w' ∧ (∃ Kl, OwnL W0 E sz v n xs Kl ∧ (∀ p ∈ K, ∀ q ∈ Kl, q.1 ≠ p.1) ∧ K' = K ++ Kl) :=
 h.mono fun e w' ⟨v, he, hO, hb⟩ => by
   obtain ⟨Kl, h1, h2, h3⟩ := hO.own hW hb
   exact ⟨v, _, he, h3, Kl, h1, h2, rfl⟩
set_option maxRecDepth 100000 in
set_option maxHeartbeats 4000000 in
theorem Clone_any (l : List Bx) (p : Option Addr) (c : Nat) (hl : l.length ≤ 4000000000) (w : World) (hp : SLV w p (bcs l)) : Calls Tryd.prog 46 #[.slice p l.length c] w fun e w' => ∃ v, e = .returned v ∧ OutV w w' 26 9 v l.length (bcs l) ∧ Below w.heap.size w w' := by
 rcases p with _ | ad
 · obtain rfl := slv_none hp
   go_enter Tryd.func46, Tryd.ntmps46
   refine wp_seq ?_
   refine wp_region_L [] (KS.start w) ?_
   refine lm (v := .slice none 0 0) rfl rfl ?_
   refine wpL_done (fun W1 hW1 => ?_)
   change Code.wp ..
   refine wp_seq ?_
   refine wp_seq ?_
   refine wp_region_L _ hW1 ?_
   refine lm (v := .slice none 0 c) rfl rfl ?_
   refine lp (v := .bool true) rfl rfl (run_bin rfl (vx := .slice none 0 c) (vy := .slice none 0 0) Tw.kr Tw.kr fun w => nil_eq Tryd.underlying22 w) ?_
   refine wpL_done (fun W2 hW2 => ?_)
   change Code.wp ..
   refine wp_cond_true rfl ?_
   refine wp_seq ?_
   refine wp_region_L _ hW2 ?_
   refine lm (v := .slice none 0 0) rfl rfl ?_
   refine wpL_done (fun W3 hW3 => ?_)
   change Code.wp ..
   refine wp_ret ?_
   try simp only [inBlock_ret, then_ret]
   refine bodyPost_ret (v := .slice none 0 0) ?_ rfl ?_
   · kernel_rfl
   · exact ⟨_, rfl, .inl ⟨rfl, rfl, rfl⟩, hW3.1⟩
 · have HP := Lib.hid hp
   clear hp
   go_enter Tryd.func46, Tryd.ntmps46
   refine wp_seq ?_
   refine wp_region_L [] (KS.start w) ?_
   refine lm (v := .slice none 0 0) rfl rfl ?_
   refine wpL_done (fun W1 hW1 => ?_)
   change Code.wp ..
   refine wp_seq ?_
   refine wp_seq ?_
   refine wp_region_L _ hW1 ?_
   refine lm (v := .slice (some ad) l.length c) rfl rfl ?_
   refine lp (v := .bool false) rfl rfl (run_bin rfl (vx := .slice (some ad) l.length c) (vy := .slice none 0 0) Tw.kr Tw.kr fun w => nil_eq Tryd.underlying22 w) ?_
   refine wpL_done (fun W2 hW2 => ?_)
   change Code.wp ..
   refine wp_cond_false rfl ?_
   refine wp_skip ?_
   change Code.wp ..
   refine wp_seq ?_
   refine wp_region_L _ hW2 ?_
   refine wpL_new (fun g => .slice (some ⟨g, 0, none⟩) 0 0) (obi := .cells #[] 26 (0, 0)) rfl rfl Tw.kf Tw.pf fun g1 Bg1 Fg1 => ?_
   refine lm (v := .slice (some ad) l.length c) rfl rfl ?_
   refine wpL_g (AppO w 26 9 [] (0 + l.length) ((bcs []) ++ (bcs l))) rfl rfl (app_any el_bx (m := l.length) (news := (bcs l)) rfl Tw.kr Tw.kr (src_bs (c := c) Tryd.underlying22 ((BS.base HP.out).mono (fun q hq => by cases hq)) rfl) (own_bnone Bg1) (fun p hp => by cases List.mem_singleton.1 hp; exact Tw.m0) (fun _ h => by cases h) Tw.om Tw.om) Tw.pf ?_
   rintro v2 Kl2 ⟨_, O2, N2, rfl⟩
   replace O2 : OwnL w 26 9 v2 l.length (bcs l) Kl2 := by rw [Nat.zero_add] at O2; exact O2
   refine lm (v := v2) rfl rfl ?_
   refine wpL_done (fun W3 hW3 => ?_)
   change Code.wp ..
   refine wp_ret ?_
   try simp only [inBlock_ret, then_ret]
   refine bodyPost_ret (v := v2) ?_ rfl ?_
   · kernel_rfl
   · exact ⟨_, rfl, O2.out (fun p hp => by simp only [List.mem_cons, List.mem_append, List.nil_append, List.not_mem_nil, or_assoc, or_false, false_or, hp, true_or, or_true]) hW3, hW3.1⟩
theorem sort_own {W0 : Base} {K Kl : List (Nat × Obj)} {v : Value} (l : List Bx) (hsm : l.length < 20) (hO : OwnL W0 26 9 v l.length (bcs l) Kl) (hd : ∀ p ∈ K, ∀ q ∈ Kl, q.1 ≠ p.1) (w : World) (hw : KS W0 (K ++ Kl) w) :
   Calls Tryd.prog 47 #[v, .func (.func 48) #[] #[]] w fun e w' => ∃ u K', e = .returned u ∧ KS W0 K' w' ∧ (u = .tuple #[] ∧ ∃ Kl', OwnL W0 26 9 v l.length (bcs (orderX l)) Kl' ∧ (∀ p ∈ K, ∀ q ∈ Kl', q.1 ≠ p.1) ∧ K' = K ++ Kl') := by
 rcases hO with ⟨h1, h2, rfl, rfl⟩ | ⟨g, cap, cur, rfl, hB, hR, rfl⟩
 · have hl : l = [] := List.eq_nil_of_length_eq_zero h1
   subst hl
   exact (sort_nil w).mono fun e w' ⟨he, hb⟩ => ⟨_, _, he, hw.below hb, rfl, [], OwnL.nil _ _ _, (fun _ _ _ h => by cases h), rfl⟩
 · have hg : ∀ q ∈ K, q.1 ≠ g := fun q hq e => hd q hq (g, .cells cur 26 (0, 0)) (List.mem_singleton.2 rfl) e.symm
   refine (sort_small (cap := cap) l rfl Tw.om hsm (rowx_own hR) hB hg w (hw.sub (fun p hp => by
     rcases List.mem_cons.1 hp with rfl | hp
     · exact List.mem_append_right _ (List.mem_singleton.2 rfl)
     · exact List.mem_append_left _ hp))).mono fun e w' ⟨u, K', he, hk, hu, cur', hr, hs, hK⟩ => ?_
   subst hK
   refine ⟨u, _, he, hk.sub (K' := K ++ [(g, .cells cur' 26 (0, 0))]) (fun p hp => ?_), hu, [(g, .cells cur' 26 (0, 0))], .inr ⟨g, cap, cur', rfl, hB, own_rowx hR hs hr (order_len l), rfl⟩, fun p hp q hq => ?_, rfl⟩
   · rcases List.mem_append.1 hp with hp | hp
     · exact .tail _ hp
     · cases List.mem_singleton.1 hp; exact .head _
   · cases List.mem_singleton.1 hq; exact fun e => hg p hp e.symm
set_option maxRecDepth 100000 in
set_option maxHeartbeats 4000000 in
theorem Order_few (l : List Bx) (p : Option Addr) (c : Nat) (hsm : l.length < 20) (w : World) (hp : SLV w p (bcs l)) : Calls Tryd.prog 27 #[.slice p l.length c] w fun e w' => ∃ v, e = .returned v ∧ OutV w w' 26 9 v l.length (bcs (orderX l)) ∧ Below w.heap.size w w' := by
 have HP := Lib.hid hp
 clear hp
 go_enter Tryd.func27, Tryd.ntmps27
 refine wp_seq ?_
 refine wp_region_L [] (KS.start w) ?_
 refine lm (v := .slice none 0 0) rfl rfl ?_
 refine wpL_done (fun W1 hW1 => ?_)
 change Code.wp ..
 refine wp_seq ?_
 refine wp_region_L _ hW1 ?_
 refine lm (v := .slice p l.length c) rfl rfl ?_
 refine wpL_c (f := 46) (args := #[.slice p l.length c]) (fun v K9 => ∃ Kl, OwnL w 26 9 v l.length (bcs l) Kl ∧ (∀ p ∈ ([] : List (Nat × Obj)), ∀ q ∈ Kl, q.1 ≠ p.1) ∧ K9 = [] ++ Kl) rfl Tw.kr Tw.kf (fun W hW => calls_out hW (Clone_any l p c (by first | omega | (simp; done) | (simp; omega) | decide) W (HP.out.keep hW.1))) Tw.pf ?_
 rintro v1 Kl1 ⟨_, O1, N1, rfl⟩
 refine lm (v := v1) rfl rfl ?_
 refine wpL_done (fun W2 hW2 => ?_)
 change Code.wp ..
 refine wp_seq ?_
 refine wp_region_L _ hW2 ?_
 refine lm (v := v1) rfl rfl ?_
 refine wpL_c (f := 47) (args := #[v1, .func (.func 48) #[] #[]]) (fun u K9 => u = .tuple #[] ∧ ∃ Kl', OwnL w 26 9 v1 l.length (bcs (orderX l)) Kl' ∧ (∀ p ∈ ([] : List (Nat × Obj)), ∀ q ∈ Kl', q.1 ≠ p.1) ∧ K9 = [] ++ Kl') rfl Tw.kr Tw.kf (fun W hW => sort_own (K := []) (Kl := Kl1) l Tw.om O1 (show Dj [] Kl1 from Tw.djt) W (hW.sub (fun p hp => by simp only [List.mem_cons, List.mem_append, List.nil_append, List.not_mem_nil, or_assoc, or_false, false_or, List.cons_append, List.append_assoc] at hp ⊢ <;> grind))) Tw.pf ?_
 rintro _ Kl2 ⟨rfl, _, O2, N2, rfl⟩
 refine wpL_done (fun W3 hW3 => ?_)
 change Code.wp ..
 refine wp_seq ?_
 refine wp_region_L _ hW3 ?_
 refine lm (v := v1) rfl rfl ?_
 refine lm (v := v1) rfl rfl ?_
 refine wpL_done (fun W4 hW4 => ?_)
 change Code.wp ..
 refine wp_ret ?_
 try simp only [inBlock_ret, then_ret]
 refine bodyPost_ret (v := v1) ?_ rfl ?_
 · kernel_rfl
 · exact ⟨_, rfl, O2.out (fun p hp => by simp only [List.mem_cons, List.mem_append, List.nil_append, List.not_mem_nil, or_assoc, or_false, false_or, hp, true_or, or_true]) hW4, hW4.1⟩
def exB : Bx := ⟨7, [67, 83, 81, 85, 51, 48, 53, 52, 51, 56, 51], 40, true, 30000, 1, 3, 0, false⟩
set_option maxRecDepth 100000 in
set_option maxHeartbeats 4000000 in
theorem example_any  (w : World) : Calls Tryd.prog 13 #[] w fun e w' => e = .returned (bxV exB) ∧ Below w.heap.size w w' := by
 go_enter Tryd.func13, Tryd.ntmps13
 refine wp_seq ?_
 refine wp_region_L [] (KS.start w) ?_
 refine wpL_new (fun g => .pointer (some ⟨g, 0, none⟩)) (obi := .cells (bxC bx0) 26 (0, 0)) rfl rfl Tw.kf Tw.pf fun g1 Bg1 Fg1 => ?_
 refine wpL_done (fun W1 hW1 => ?_)
 change Code.wp ..
 refine wp_seq ?_
 refine wp_region_L _ hW1 ?_
 refine lm (v := .agg #[.int .i64 7, strV [67, 83, 81, 85, 51, 48, 53, 52, 51, 56, 51], .int .u8 40, .bool true, .int .i64 30000, .int .i64 1, .int .i64 3, .int .u8 0, .bool false]) rfl rfl ?_
 refine wpL_s [(g1, .cells (bxC exB) 26 (0, 0))] rfl rfl (st_row (off := 0) (v := .agg #[.int .i64 7, strV [67, 83, 81, 85, 51, 48, 53, 52, 51, 56, 51], .int .u8 40, .bool true, .int .i64 30000, .int .i64 1, .int .i64 3, .int .u8 0, .bool false]) rfl Tw.kr Tw.kr Tw.m0 Bg1 Tw.kr (by first | (simp [Value.cells]; done) | exact Nat.le_of_ble_eq_true rfl) (by intro v hv; simp [Value.cells, strV] at hv; first | (subst hv; rfl) | (rcases hv with rfl | rfl | rfl | rfl | rfl | rfl | rfl | rfl | rfl <;> rfl)) Tw.kr (List.forall_mem_cons.2 ⟨.inl rfl, (List.forall_mem_nil _)⟩)) ?_
 refine wpL_done (fun W2 hW2 => ?_)
 change Code.wp ..
 refine wp_ret ?_
 try simp only [inBlock_ret, then_ret]
 refine bodyPost_ret (v := .agg #[.int .i64 7, strV [67, 83, 81, 85, 51, 48, 53, 52, 51, 56, 51], .int .u8 40, .bool true, .int .i64 30000, .int .i64 1, .int .i64 3, .int .u8 0, .bool false]) ?_ rfl ?_
 · exact (res_cell (p := 0) rfl rfl (hW2.2 _ Tw.m0) Tryd.underlying26 rfl Tw.kr)
 · exact ⟨rfl, hW2.1⟩
set_option maxRecDepth 100000 in
set_option maxHeartbeats 4000000 in
theorem same_any (A B : List Bx) (pA pB : Option Addr) (cA cB : Nat) (lA : A.length ≤ 4000000000) (w : World) (hA : SLV w pA (bcs A)) (hB : SLV w pB (bcs B)) : Calls Tryd.prog 28 #[.slice pA A.length cA, .slice pB B.length cB] w fun e w' => e = .returned (.bool (decide (A = B))) ∧ Below w.heap.size w w' := by
 have HA := Lib.hid hA
 have HB := Lib.hid hB
 clear hA hB
 go_enter Tryd.func28, Tryd.ntmps28
 refine wp_seq ?_
 refine wp_region_L [] (KS.start w) ?_
 refine lm (v := .bool false) rfl rfl ?_
 refine wpL_done (fun W1 hW1 => ?_)
 change Code.wp ..
 refine wp_seq ?_
 refine wp_seq ?_
 refine wp_region_L _ hW1 ?_
 refine lm (v := .slice pA A.length cA) rfl rfl ?_
 refine lp (v := .int .i64 ((A.length : Nat) : Int)) rfl rfl (run_lenL (p := pA) (cap := cA) (n := A.length) rfl Tryd.underlying22 Tw.kr) ?_
 refine lm (v := .slice pB B.length cB) rfl rfl ?_
 refine lp (v := .int .i64 ((B.length : Nat) : Int)) rfl rfl (run_lenL (p := pB) (cap := cB) (n := B.length) rfl Tryd.underlying22 Tw.kr) ?_
 refine lp (v := .bool (!(decide (A.length = B.length)))) rfl rfl (run_bin rfl (vx := (.int .i64 ((A.length : Nat) : Int))) (vy := (.int .i64 ((B.length : Nat) : Int))) Tw.kr Tw.kr fun w => bn_neq rfl w) ?_
 refine wpL_done (fun W2 hW2 => ?_)
 change Code.wp ..
 cases hd1 : (decide (A.length = B.length)) with
 | false =>
   have h1 : ¬ (A.length = B.length) := of_decide_eq_false hd1
   clear hd1
   refine wp_cond_true rfl ?_
   refine wp_seq ?_
   refine wp_region_L _ hW2 ?_
   refine lm (v := .bool false) rfl rfl ?_
   refine wpL_done (fun W3 hW3 => ?_)
   change Code.wp ..
   refine wp_ret ?_
   try simp only [inBlock_ret, then_ret]
   refine bodyPost_ret (v := .bool false) ?_ rfl ?_
   · kernel_rfl
   · exact ⟨(bool_is (by rw [eq_comm, decide_eq_false_iff_not]; exact ne_len h1)), hW3.1⟩
 | true =>
   have h1 : A.length = B.length := of_decide_eq_true hd1
   clear hd1
   refine wp_cond_false rfl ?_
   refine wp_skip ?_
   change Code.wp ..
   refine wp_seq ?_
   refine wp_seq ?_
   refine wp_region_L _ hW2 ?_
   refine lm (v := .int .i64 0) rfl rfl ?_
   refine wpL_done (fun W4 hW4 => ?_)
   change Code.wp ..
   refine wp_block ?_
   go_loopw [5] (fun u5 wr => ∃ (k : Nat), (k ≤ A.length) ∧ (A.take k = B.take k) ∧ u5 = .int .i64 ((k : Nat) : Int) ∧ KS w [] wr) (fun u5 _ => A.length - (intOf u5).toNat)
   case atStart => exact ⟨0, (Nat.zero_le _), rfl, rfl, (hW4.sub (fun p hp => by first | exact hp | (simp only [List.mem_cons, List.mem_append, List.nil_append, List.not_mem_nil, or_assoc, or_false, false_or] at hp ⊢ <;> grind)))⟩
   case round =>
     obtain ⟨k, hk, hT, rfl, hL5⟩ := hrel
     refine wp_seq ?_
     refine wp_seq ?_
     refine wp_region_L _ hL5 ?_
     refine lm (v := .int .i64 ((k : Nat) : Int)) rfl rfl ?_
     refine lm (v := .slice pA A.length cA) rfl rfl ?_
     refine lp (v := .int .i64 ((A.length : Nat) : Int)) rfl rfl (run_lenL (p := pA) (cap := cA) (n := A.length) rfl Tryd.underlying22 Tw.kr) ?_
     refine lp (v := .bool (decide (k < A.length))) rfl rfl (run_bin rfl (vx := (.int .i64 ((k : Nat) : Int))) (vy := (.int .i64 ((A.length : Nat) : Int))) Tw.kr Tw.kr fun w => bn_lss rfl w) ?_
     refine wpL_done (fun W6 hW6 => ?_)
     change Code.wp ..
     cases hd2 : (decide (k < A.length)) with
     | false =>
       have h2 : ¬ (k < A.length) := of_decide_eq_false hd2
       clear hd2
       refine wp_cond_false rfl ?_
       refine wp_exit ?_
       change Code.wp ..
       refine wp_seq ?_
       refine wp_region_L _ hW6 ?_
       refine lm (v := .bool true) rfl rfl ?_
       refine wpL_done (fun W7 hW7 => ?_)
       change Code.wp ..
       refine wp_ret ?_
       try simp only [inBlock_ret, then_ret]
       refine bodyPost_ret (v := .bool true) ?_ rfl ?_
       · kernel_rfl
       · exact ⟨(bool_is (by rw [eq_comm, decide_eq_true_iff]; exact eq_of_take hT h2 h1)), hW7.1⟩
     | true =>
       have h2 : k < A.length := of_decide_eq_true hd2
       clear hd2
       refine wp_cond_true rfl ?_
       refine wp_skip ?_
       change Code.wp ..
       refine wp_seq ?_
       refine wp_block ?_
       refine wp_seq ?_
       refine wp_region_V _ Tw.kr hW6 ?_
       refine vm (i := 0) (v := .slice pA A.length cA) rfl rfl rfl ?_
       refine vm (i := 1) (v := .int .i64 ((k : Nat) : Int)) rfl rfl rfl ?_
       obtain ⟨b1, g1_, f1, hy1, hp1, lt1, hc1⟩ := bl_at (k := k) HA.out Tw.om
       refine vp (i := 2) (v := .pointer (some ⟨g1_, f1 + k * 9, none⟩)) rfl rfl rfl (run_idxQ (p := pA) (cap := cA) (n := A.length) (j := .i64) (k := k) (sz := 9) rfl Tryd.underlying22 Tw.kr Tw.kr hp1 Tw.kr Tw.om) ?_
       refine vv (i := 3) (v := bxV b1) rfl rfl rfl (yb_olds (off := f1 + k * 9) (cs := (bxC b1).toList) rfl Tw.kr hc1 lt1 Tryd.underlying26 rfl Tw.kr) ?_
       refine vm (i := 4) (v := .slice pB B.length cB) rfl rfl rfl ?_
       refine vm (i := 5) (v := .int .i64 ((k : Nat) : Int)) rfl rfl rfl ?_
       obtain ⟨b2, g2_, f2, hy2, hp2, lt2, hc2⟩ := bl_at (k := k) HB.out Tw.om
       refine vp (i := 6) (v := .pointer (some ⟨g2_, f2 + k * 9, none⟩)) rfl rfl rfl (run_idxQ (p := pB) (cap := cB) (n := B.length) (j := .i64) (k := k) (sz := 9) rfl Tryd.underlying22 Tw.kr Tw.kr hp2 Tw.kr Tw.om) ?_
       refine vv (i := 7) (v := bxV b2) rfl rfl rfl (yb_olds (off := f2 + k * 9) (cs := (bxC b2).toList) rfl Tw.kr hc2 lt2 Tryd.underlying26 rfl Tw.kr) ?_
       refine vp (i := 8) (v := .bool (!(decide (b1 = b2)))) rfl rfl rfl (run_bin rfl (vx := bxV b1) (vy := bxV b2) Tw.kr Tw.kr fun w => neq_bx rfl w) ?_
       refine wpV_done Tw.kr (fun W8 hW8 => ?_) _
       change Code.wp ..
       cases hd3 : (decide (b1 = b2)) with
       | false =>
         have h3 : ¬ (b1 = b2) := of_decide_eq_false hd3
         clear hd3
         refine wp_cond_true rfl ?_
         refine wp_seq ?_
         refine wp_region_L _ hW8 ?_
         refine lm (v := .bool false) rfl rfl ?_
         refine wpL_done (fun W9 hW9 => ?_)
         change Code.wp ..
         refine wp_ret ?_
         try simp only [inBlock_ret, then_ret]
         refine bodyPost_ret (v := .bool false) ?_ rfl ?_
         · kernel_rfl
         · exact ⟨(bool_is (by rw [eq_comm, decide_eq_false_iff_not]; exact ne_at hy1 hy2 h3)), hW9.1⟩
       | true =>
         have h3 : b1 = b2 := of_decide_eq_true hd3
         clear hd3
         refine wp_cond_false rfl ?_
         refine wp_skip ?_
         change Code.wp ..
         refine wp_region_L _ hW8 ?_
         refine lm (v := .int .i64 ((k : Nat) : Int)) rfl rfl ?_
         refine lp (v := .int .i64 (((k + 1) : Nat) : Int)) rfl rfl (run_bin rfl (vx := (.int .i64 ((k : Nat) : Int))) (vy := (.int .i64 ((1 : Nat) : Int))) Tw.kr Tw.kr fun w => bn_add (z := (k + 1)) rfl (wr_i64 Tw.om) w) ?_
         refine lm (v := .int .i64 (((k + 1) : Nat) : Int)) rfl rfl ?_
         refine wpL_done (fun W10 hW10 => ?_)
         go_roundw
         case rel =>
           repeat apply Exists.intro
           exact ⟨⟨k + 1, Tw.om, (take_snoc_eq hT hy1 hy2 h3), rfl, (hW10.sub (fun p hp => by first | exact hp | (simp only [List.mem_cons, List.mem_append, List.nil_append, List.not_mem_nil, or_assoc, or_false, false_or] at hp ⊢ <;> grind)))⟩, rfl⟩
         case measure => (show A.length - (intOf (.int .i64 (((k + 1) : Nat) : Int))).toNat < A.length - (intOf (.int .i64 ((k : Nat) : Int))).toNat); simp only [intOf]; omega
theorem same_true (A B : List Bx) (pA pB : Option Addr) (cA cB : Nat) (lA : A.length ≤ 4000000000) (w : World) (hA : SLV w pA (bcs A)) (hB : SLV w pB (bcs B)) (h : A = B) : Calls Tryd.prog 28 #[.slice pA A.length cA, .slice pB B.length cB] w fun e w' => e = .returned (.bool true) ∧ Below w.heap.size w w' := by
 have h1 := same_any A B pA pB cA cB lA w hA hB
 rwa [decide_eq_true h] at h1
end Go.Proofs.YtllmpemmknblaaaDoor
namespace Go.Proofs.YtllmpemmknblaaaDoor
open Go Go.RowKit Tw
theorem right_is {b : Bx} {v : Bool} (h : rightX b = v) (W : World) : Calls Tryd.prog 20 #[bxV b] W fun e w' => e = .returned (.bool v) ∧ Below W.heap.size W w' := h ▸ BRight_any b W
theorem height_is {b : Bx} {v : Nat} (h : heightX b = v) (W : World) : Calls Tryd.prog 21 #[bxV b] W fun e w' => e = .returned (.int .i64 ((v : Nat) : Int)) ∧ Below W.heap.size W w' := h ▸ Height_any b W
theorem halves_is {b : Bx} {v : Nat} (h : halvesX b = v) (W : World) : Calls Tryd.prog 22 #[bxV b] W fun e w' => e = .returned (.int .i64 ((v : Nat) : Int)) ∧ Below W.heap.size W w' := h ▸ Halves_any b W
theorem aboard_is {b : Bx} {c : Int} {v : Bool} (h : aboardX b c = v) (W : World) : Calls Tryd.prog 23 #[bxV b, .int .i64 c] W fun e w' => e = .returned (.bool v) ∧ Below W.heap.size W w' := h ▸ Aboard_any b c W
theorem valid_is {l : List Bx} {p : Option Addr} {c : Nat} {v : Value} (h : validV l = v) (hl : l.length ≤ 4000000000) (W : World) (hp : SLV W p (bcs l)) : Calls Tryd.prog 29 #[.slice p l.length c] W fun e w' => e = .returned v ∧ Below W.heap.size W w' := h ▸ Valid_any l p c hl W hp
def exR : Bx := ⟨7, [67, 83, 81, 85, 51, 48, 53, 52, 51, 56, 51], 40, true, 30000, 1, 3, 0, true⟩
def exS : Bx := ⟨7, [67, 83, 81, 85, 51, 48, 53, 52, 51, 56, 51], 20, true, 30000, 1, 3, 0, false⟩
def exH : Bx := ⟨7, [67, 83, 81, 85, 51, 48, 53, 52, 51, 56, 51], 40, true, 40001, 1, 3, 0, false⟩
def exD : Bx := ⟨7, [67, 83, 81, 85, 51, 48, 53, 52, 51, 56, 51], 40, true, 30000, 1, 1, 0, false⟩
def exL : Bx := ⟨7, [67, 83, 81, 85, 51, 48, 53, 52, 51, 56, 51], 40, true, 30000, 1, 20, 0, false⟩
def exC : Bx := ⟨7, [67, 83, 81, 85, 51, 48, 53, 52, 51, 56, 51], 40, true, 30000, 1, 3, 10, false⟩
def exN : Bx := ⟨7, [67, 83, 81, 85, 51, 48, 53, 52, 51, 56, 52], 40, true, 30000, 1, 3, 0, false⟩
def ob1 : Bx := ⟨1, [], 20, false, 9, 0, 2, 0, false⟩
def ob2 : Bx := ⟨2, [], 20, false, 5, 0, 3, 0, false⟩
def ob3 : Bx := ⟨3, [], 20, false, 8, 0, 3, 0, false⟩
def ob4 : Bx := ⟨4, [], 20, false, 8, 0, 3, 0, false⟩
set_option maxRecDepth 100000 in
set_option maxHeartbeats 4000000 in
theorem awake_any  (w : World) (hE : Env w) : Calls Tryd.prog 12 #[] w fun e w' => e = .returned (.bool true) ∧ Below w.heap.size w w' := by
 have HE := Lib.hid hE
 clear hE
 go_enter Tryd.func12, Tryd.ntmps12
 refine wp_seq ?_
 refine wp_region_L [] (KS.start w) ?_
 refine lm (v := .bool false) rfl rfl ?_
 refine wpL_done (fun W1 hW1 => ?_)
 change Code.wp ..
 refine wp_seq ?_
 refine wp_region_L _ hW1 ?_
 refine lv (v := bxV exB) rfl rfl (yb_call (f := 13) (args := #[]) Tw.kf fun W hW => example_any W) ?_
 refine wpL_new (fun g => .pointer (some ⟨g, 0, none⟩)) (obi := .cells (bxC bx0) 26 (0, 0)) rfl rfl Tw.kf Tw.pf fun g1 Bg1 Fg1 => ?_
 refine wpL_s [(g1, .cells (bxC exB) 26 (0, 0))] rfl rfl (st_bx (b := exB) rfl Tw.kr Tw.kr Tw.m0 rfl Bg1 Tw.kr (List.forall_mem_cons.2 ⟨.inl rfl, (List.forall_mem_nil _)⟩)) ?_
 refine wpL_done (fun W2 hW2 => ?_)
 change Code.wp ..
 refine wp_seq ?_
 refine wp_region_L _ hW2 ?_
 refine lv (v := bxV exB) rfl rfl (yb_load (n := 9) (off := 0) rfl Tw.kr Tw.m0 Tryd.underlying26 rfl Tw.kr (Nat.le_refl 9) Tw.kr) ?_
 refine lv (v := .tuple #[strV [52, 53, 71, 49], .int .i64 0]) rfl rfl (yb_call (f := 18) (args := #[bxV exB]) Tw.kf fun W hW => bcode_is (b := exB) Tw.kr W (HE.out.keep hW.1)) ?_
 refine lm (v := .tuple #[strV [52, 53, 71, 49], .int .i64 0]) rfl rfl ?_
 refine lm (v := strV [52, 53, 71, 49]) rfl rfl ?_
 refine lm (v := .int .i64 0) rfl rfl ?_
 refine lm (v := strV [52, 53, 71, 49]) rfl rfl ?_
 refine lm (v := .int .i64 0) rfl rfl ?_
 refine wpL_done (fun W3 hW3 => ?_)
 change Code.wp ..
 refine wp_seq ?_
 refine wp_seq ?_
 refine wp_region_L _ hW3 ?_
 refine lv (v := bxV exB) rfl rfl (yb_load (n := 9) (off := 0) rfl Tw.kr Tw.m0 Tryd.underlying26 rfl Tw.kr (Nat.le_refl 9) Tw.kr) ?_
 refine lv (v := .bool true) rfl rfl (yb_call (f := 20) (args := #[bxV exB]) Tw.kf fun W hW => right_is (b := exB) (by decide +kernel) W) ?_
 refine lm (v := .bool false) rfl rfl ?_
 refine lm (v := .bool false) rfl rfl ?_
 refine lv (v := bxV exB) rfl rfl (yb_load (n := 9) (off := 0) rfl Tw.kr Tw.m0 Tryd.underlying26 rfl Tw.kr (Nat.le_refl 9) Tw.kr) ?_
 refine lv (v := .int .i64 2896) rfl rfl (yb_call (f := 21) (args := #[bxV exB]) Tw.kf fun W hW => height_is (b := exB) (by rfl) W) ?_
 refine lm (v := .bool false) rfl rfl ?_
 refine lm (v := .bool false) rfl rfl ?_
 refine lm (v := .bool false) rfl rfl ?_
 refine lv (v := bxV exB) rfl rfl (yb_load (n := 9) (off := 0) rfl Tw.kr Tw.m0 Tryd.underlying26 rfl Tw.kr (Nat.le_refl 9) Tw.kr) ?_
 refine lv (v := .int .i64 2) rfl rfl (yb_call (f := 22) (args := #[bxV exB]) Tw.kf fun W hW => halves_is (b := exB) (by rfl) W) ?_
 refine lm (v := .bool false) rfl rfl ?_
 refine lm (v := .bool false) rfl rfl ?_
 refine lm (v := .bool false) rfl rfl ?_
 refine lm (v := strV [52, 53, 71, 49]) rfl rfl ?_
 refine lp (v := .bool false) rfl rfl (run_bin rfl (vx := strV [52, 53, 71, 49]) (vy := strV [52, 53, 71, 49]) Tw.kr Tw.kr fun w => bs_neq (decide_eq_true rfl) w) ?_
 refine lm (v := .bool false) rfl rfl ?_
 refine lm (v := .bool false) rfl rfl ?_
 refine lm (v := .int .i64 0) rfl rfl ?_
 refine lm (v := .bool false) rfl rfl ?_
 refine lm (v := .bool false) rfl rfl ?_
 refine lm (v := .bool false) rfl rfl ?_
 refine lv (v := bxV exB) rfl rfl (yb_load (n := 9) (off := 0) rfl Tw.kr Tw.m0 Tryd.underlying26 rfl Tw.kr (Nat.le_refl 9) Tw.kr) ?_
 refine lv (v := .bool false) rfl rfl (yb_call (f := 23) (args := #[bxV exB, .int .i64 0]) Tw.kf fun W hW => aboard_is (b := exB) (c := 0) (by decide +kernel) W) ?_
 refine lm (v := .bool false) rfl rfl ?_
 refine lm (v := .bool false) rfl rfl ?_
 refine lv (v := bxV exB) rfl rfl (yb_load (n := 9) (off := 0) rfl Tw.kr Tw.m0 Tryd.underlying26 rfl Tw.kr (Nat.le_refl 9) Tw.kr) ?_
 refine lv (v := .bool true) rfl rfl (yb_call (f := 23) (args := #[bxV exB, .int .i64 1]) Tw.kf fun W hW => aboard_is (b := exB) (c := 1) (by decide +kernel) W) ?_
 refine lm (v := .bool false) rfl rfl ?_
 refine lm (v := .bool false) rfl rfl ?_
 refine lm (v := .bool false) rfl rfl ?_
 refine lv (v := bxV exB) rfl rfl (yb_load (n := 9) (off := 0) rfl Tw.kr Tw.m0 Tryd.underlying26 rfl Tw.kr (Nat.le_refl 9) Tw.kr) ?_
 refine lv (v := .bool true) rfl rfl (yb_call (f := 23) (args := #[bxV exB, .int .i64 2]) Tw.kf fun W hW => aboard_is (b := exB) (c := 2) (by decide +kernel) W) ?_
 refine lm (v := .bool false) rfl rfl ?_
 refine lm (v := .bool false) rfl rfl ?_
 refine lm (v := .bool false) rfl rfl ?_
 refine lv (v := bxV exB) rfl rfl (yb_load (n := 9) (off := 0) rfl Tw.kr Tw.m0 Tryd.underlying26 rfl Tw.kr (Nat.le_refl 9) Tw.kr) ?_
 refine lv (v := .bool false) rfl rfl (yb_call (f := 23) (args := #[bxV exB, .int .i64 3]) Tw.kf fun W hW => aboard_is (b := exB) (c := 3) (by decide +kernel) W) ?_
 refine lm (v := .bool false) rfl rfl ?_
 refine wpL_done (fun W4 hW4 => ?_)
 change Code.wp ..
 refine wp_cond_false rfl ?_
 refine wp_skip ?_
 change Code.wp ..
 refine wp_seq ?_
 refine wp_region_L _ hW4 ?_
 refine lm (v := .pointer (some ⟨g1, 8, none⟩)) rfl rfl ?_
 refine wpL_s [(g1, .cells (bxC exR) 26 (0, 0))] rfl rfl (st_row (off := 8) (v := .bool true) rfl Tw.kr Tw.kr Tw.m0 Bg1 Tw.kr (by first | (simp [Value.cells]; done) | exact Nat.le_of_ble_eq_true rfl) (by intro v hv; simp [Value.cells, strV] at hv; first | (subst hv; rfl) | (rcases hv with rfl <;> rfl)) Tw.kr (List.forall_mem_cons.2 ⟨.inl rfl, (List.forall_mem_nil _)⟩)) ?_
 refine wpL_done (fun W5 hW5 => ?_)
 change Code.wp ..
 refine wp_seq ?_
 refine wp_seq ?_
 refine wp_region_L _ hW5 ?_
 refine lv (v := bxV exR) rfl rfl (yb_load (n := 9) (off := 0) rfl Tw.kr Tw.m0 Tryd.underlying26 rfl Tw.kr (Nat.le_refl 9) Tw.kr) ?_
 refine lv (v := .tuple #[strV [52, 53, 82, 49], .int .i64 0]) rfl rfl (yb_call (f := 18) (args := #[bxV exR]) Tw.kf fun W hW => bcode_is (b := exR) Tw.kr W (HE.out.keep hW.1)) ?_
 refine lm (v := .tuple #[strV [52, 53, 82, 49], .int .i64 0]) rfl rfl ?_
 refine lm (v := strV [52, 53, 82, 49]) rfl rfl ?_
 refine lm (v := .int .i64 0) rfl rfl ?_
 refine lm (v := strV [52, 53, 82, 49]) rfl rfl ?_
 refine lm (v := .int .i64 0) rfl rfl ?_
 refine wpL_done (fun W6 hW6 => ?_)
 change Code.wp ..
 refine wp_seq ?_
 refine wp_region_L _ hW6 ?_
 refine lm (v := strV [52, 53, 82, 49]) rfl rfl ?_
 refine lp (v := .bool false) rfl rfl (run_bin rfl (vx := strV [52, 53, 82, 49]) (vy := strV [52, 53, 82, 49]) Tw.kr Tw.kr fun w => bs_neq (decide_eq_true rfl) w) ?_
 refine lm (v := .bool false) rfl rfl ?_
 refine lm (v := .int .i64 0) rfl rfl ?_
 refine lm (v := .bool false) rfl rfl ?_
 refine lm (v := .bool false) rfl rfl ?_
 refine wpL_done (fun W7 hW7 => ?_)
 change Code.wp ..
 refine wp_cond_false rfl ?_
 refine wp_skip ?_
 change Code.wp ..
 refine wp_seq ?_
 refine wp_region_L _ hW7 ?_
 refine lv (v := bxV exB) rfl rfl (yb_call (f := 13) (args := #[]) Tw.kf fun W hW => example_any W) ?_
 refine lv (v := bxV exB) rfl rfl (yb_call (f := 13) (args := #[]) Tw.kf fun W hW => example_any W) ?_
 refine lv (v := bxV exB) rfl rfl (yb_call (f := 13) (args := #[]) Tw.kf fun W hW => example_any W) ?_
 refine lv (v := bxV exB) rfl rfl (yb_call (f := 13) (args := #[]) Tw.kf fun W hW => example_any W) ?_
 refine lv (v := bxV exB) rfl rfl (yb_call (f := 13) (args := #[]) Tw.kf fun W hW => example_any W) ?_
 refine lv (v := bxV exB) rfl rfl (yb_call (f := 13) (args := #[]) Tw.kf fun W hW => example_any W) ?_
 refine wpL_new (fun g => .pointer (some ⟨g, 0, none⟩)) (obi := .cells (bxC bx0) 26 (0, 0)) rfl rfl Tw.kf Tw.pf fun g2 Bg2 Fg2 => ?_
 obtain dj3_0 : g1 ≠ g2 := Tw.dkf Fg2
 refine wpL_new (fun g => .pointer (some ⟨g, 0, none⟩)) (obi := .cells (bxC bx0) 26 (0, 0)) rfl rfl Tw.kf Tw.pf fun g4 Bg4 Fg4 => ?_
 obtain ⟨dj5_0, dj5_1⟩ : g2 ≠ g4 ∧ g1 ≠ g4 := Tw.dkf Fg4
 refine wpL_new (fun g => .pointer (some ⟨g, 0, none⟩)) (obi := .cells (bxC bx0) 26 (0, 0)) rfl rfl Tw.kf Tw.pf fun g6 Bg6 Fg6 => ?_
 obtain ⟨dj7_0, dj7_1, dj7_2⟩ : g4 ≠ g6 ∧ g2 ≠ g6 ∧ g1 ≠ g6 := Tw.dkf Fg6
 refine wpL_new (fun g => .pointer (some ⟨g, 0, none⟩)) (obi := .cells (bxC bx0) 26 (0, 0)) rfl rfl Tw.kf Tw.pf fun g8 Bg8 Fg8 => ?_
 obtain ⟨dj9_0, dj9_1, dj9_2, dj9_3⟩ : g6 ≠ g8 ∧ g4 ≠ g8 ∧ g2 ≠ g8 ∧ g1 ≠ g8 := Tw.dkf Fg8
 refine wpL_new (fun g => .pointer (some ⟨g, 0, none⟩)) (obi := .cells (bxC bx0) 26 (0, 0)) rfl rfl Tw.kf Tw.pf fun g10 Bg10 Fg10 => ?_
 obtain ⟨dj11_0, dj11_1, dj11_2, dj11_3, dj11_4⟩ : g8 ≠ g10 ∧ g6 ≠ g10 ∧ g4 ≠ g10 ∧ g2 ≠ g10 ∧ g1 ≠ g10 := Tw.dkf Fg10
 refine wpL_new (fun g => .pointer (some ⟨g, 0, none⟩)) (obi := .cells (bxC bx0) 26 (0, 0)) rfl rfl Tw.kf Tw.pf fun g12 Bg12 Fg12 => ?_
 obtain ⟨dj13_0, dj13_1, dj13_2, dj13_3, dj13_4, dj13_5⟩ : g10 ≠ g12 ∧ g8 ≠ g12 ∧ g6 ≠ g12 ∧ g4 ≠ g12 ∧ g2 ≠ g12 ∧ g1 ≠ g12 := Tw.dkf Fg12
 refine wpL_s [(g12, .cells (bxC bx0) 26 (0, 0)), (g10, .cells (bxC bx0) 26 (0, 0)), (g8, .cells (bxC bx0) 26 (0, 0)), (g6, .cells (bxC bx0) 26 (0, 0)), (g4, .cells (bxC bx0) 26 (0, 0)), (g2, .cells (bxC exB) 26 (0, 0)), (g1, .cells (bxC exR) 26 (0, 0))] rfl rfl (st_bx (b := exB) rfl Tw.kr Tw.kr Tw.m5 rfl Bg2 Tw.kr (List.forall_mem_cons.2 ⟨.inr ⟨Tw.m0, Tw.nee⟩, (List.forall_mem_cons.2 ⟨.inr ⟨Tw.m1, Tw.nee⟩, (List.forall_mem_cons.2 ⟨.inr ⟨Tw.m2, Tw.nee⟩, (List.forall_mem_cons.2 ⟨.inr ⟨Tw.m3, Tw.nee⟩, (List.forall_mem_cons.2 ⟨.inr ⟨Tw.m4, Tw.nee⟩, (List.forall_mem_cons.2 ⟨.inl rfl, (List.forall_mem_cons.2 ⟨.inr ⟨(.tail _ Tw.m5), Tw.nee⟩, (List.forall_mem_nil _)⟩)⟩)⟩)⟩)⟩)⟩)⟩)) ?_
 refine wpL_s [(g12, .cells (bxC bx0) 26 (0, 0)), (g10, .cells (bxC bx0) 26 (0, 0)), (g8, .cells (bxC bx0) 26 (0, 0)), (g6, .cells (bxC bx0) 26 (0, 0)), (g4, .cells (bxC exB) 26 (0, 0)), (g2, .cells (bxC exB) 26 (0, 0)), (g1, .cells (bxC exR) 26 (0, 0))] rfl rfl (st_bx (b := exB) rfl Tw.kr Tw.kr Tw.m4 rfl Bg4 Tw.kr (List.forall_mem_cons.2 ⟨.inr ⟨Tw.m0, Tw.nee⟩, (List.forall_mem_cons.2 ⟨.inr ⟨Tw.m1, Tw.nee⟩, (List.forall_mem_cons.2 ⟨.inr ⟨Tw.m2, Tw.nee⟩, (List.forall_mem_cons.2 ⟨.inr ⟨Tw.m3, Tw.nee⟩, (List.forall_mem_cons.2 ⟨.inl rfl, (List.forall_mem_cons.2 ⟨.inr ⟨Tw.m5, Tw.nee⟩, (List.forall_mem_cons.2 ⟨.inr ⟨(.tail _ Tw.m5), Tw.nee⟩, (List.forall_mem_nil _)⟩)⟩)⟩)⟩)⟩)⟩)⟩)) ?_
 refine wpL_s [(g12, .cells (bxC bx0) 26 (0, 0)), (g10, .cells (bxC bx0) 26 (0, 0)), (g8, .cells (bxC bx0) 26 (0, 0)), (g6, .cells (bxC exB) 26 (0, 0)), (g4, .cells (bxC exB) 26 (0, 0)), (g2, .cells (bxC exB) 26 (0, 0)), (g1, .cells (bxC exR) 26 (0, 0))] rfl rfl (st_bx (b := exB) rfl Tw.kr Tw.kr Tw.m3 rfl Bg6 Tw.kr (List.forall_mem_cons.2 ⟨.inr ⟨Tw.m0, Tw.nee⟩, (List.forall_mem_cons.2 ⟨.inr ⟨Tw.m1, Tw.nee⟩, (List.forall_mem_cons.2 ⟨.inr ⟨Tw.m2, Tw.nee⟩, (List.forall_mem_cons.2 ⟨.inl rfl, (List.forall_mem_cons.2 ⟨.inr ⟨Tw.m4, Tw.nee⟩, (List.forall_mem_cons.2 ⟨.inr ⟨Tw.m5, Tw.nee⟩, (List.forall_mem_cons.2 ⟨.inr ⟨(.tail _ Tw.m5), Tw.nee⟩, (List.forall_mem_nil _)⟩)⟩)⟩)⟩)⟩)⟩)⟩)) ?_
 refine wpL_s [(g12, .cells (bxC bx0) 26 (0, 0)), (g10, .cells (bxC bx0) 26 (0, 0)), (g8, .cells (bxC exB) 26 (0, 0)), (g6, .cells (bxC exB) 26 (0, 0)), (g4, .cells (bxC exB) 26 (0, 0)), (g2, .cells (bxC exB) 26 (0, 0)), (g1, .cells (bxC exR) 26 (0, 0))] rfl rfl (st_bx (b := exB) rfl Tw.kr Tw.kr Tw.m2 rfl Bg8 Tw.kr (List.forall_mem_cons.2 ⟨.inr ⟨Tw.m0, Tw.nee⟩, (List.forall_mem_cons.2 ⟨.inr ⟨Tw.m1, Tw.nee⟩, (List.forall_mem_cons.2 ⟨.inl rfl, (List.forall_mem_cons.2 ⟨.inr ⟨Tw.m3, Tw.nee⟩, (List.forall_mem_cons.2 ⟨.inr ⟨Tw.m4, Tw.nee⟩, (List.forall_mem_cons.2 ⟨.inr ⟨Tw.m5, Tw.nee⟩, (List.forall_mem_cons.2 ⟨.inr ⟨(.tail _ Tw.m5), Tw.nee⟩, (List.forall_mem_nil _)⟩)⟩)⟩)⟩)⟩)⟩)⟩)) ?_
 refine wpL_s [(g12, .cells (bxC bx0) 26 (0, 0)), (g10, .cells (bxC exB) 26 (0, 0)), (g8, .cells (bxC exB) 26 (0, 0)), (g6, .cells (bxC exB) 26 (0, 0)), (g4, .cells (bxC exB) 26 (0, 0)), (g2, .cells (bxC exB) 26 (0, 0)), (g1, .cells (bxC exR) 26 (0, 0))] rfl rfl (st_bx (b := exB) rfl Tw.kr Tw.kr Tw.m1 rfl Bg10 Tw.kr (List.forall_mem_cons.2 ⟨.inr ⟨Tw.m0, Tw.nee⟩, (List.forall_mem_cons.2 ⟨.inl rfl, (List.forall_mem_cons.2 ⟨.inr ⟨Tw.m2, Tw.nee⟩, (List.forall_mem_cons.2 ⟨.inr ⟨Tw.m3, Tw.nee⟩, (List.forall_mem_cons.2 ⟨.inr ⟨Tw.m4, Tw.nee⟩, (List.forall_mem_cons.2 ⟨.inr ⟨Tw.m5, Tw.nee⟩, (List.forall_mem_cons.2 ⟨.inr ⟨(.tail _ Tw.m5), Tw.nee⟩, (List.forall_mem_nil _)⟩)⟩)⟩)⟩)⟩)⟩)⟩)) ?_
 refine wpL_s [(g12, .cells (bxC exB) 26 (0, 0)), (g10, .cells (bxC exB) 26 (0, 0)), (g8, .cells (bxC exB) 26 (0, 0)), (g6, .cells (bxC exB) 26 (0, 0)), (g4, .cells (bxC exB) 26 (0, 0)), (g2, .cells (bxC exB) 26 (0, 0)), (g1, .cells (bxC exR) 26 (0, 0))] rfl rfl (st_bx (b := exB) rfl Tw.kr Tw.kr Tw.m0 rfl Bg12 Tw.kr (List.forall_mem_cons.2 ⟨.inl rfl, (List.forall_mem_cons.2 ⟨.inr ⟨Tw.m1, Tw.nee⟩, (List.forall_mem_cons.2 ⟨.inr ⟨Tw.m2, Tw.nee⟩, (List.forall_mem_cons.2 ⟨.inr ⟨Tw.m3, Tw.nee⟩, (List.forall_mem_cons.2 ⟨.inr ⟨Tw.m4, Tw.nee⟩, (List.forall_mem_cons.2 ⟨.inr ⟨Tw.m5, Tw.nee⟩, (List.forall_mem_cons.2 ⟨.inr ⟨(.tail _ Tw.m5), Tw.nee⟩, (List.forall_mem_nil _)⟩)⟩)⟩)⟩)⟩)⟩)⟩)) ?_
 refine wpL_done (fun W8 hW8 => ?_)
 change Code.wp ..
 refine wp_seq ?_
 refine wp_region_L _ hW8 ?_
 refine lm (v := .pointer (some ⟨g2, 2, none⟩)) rfl rfl ?_
 refine wpL_s [(g12, .cells (bxC exB) 26 (0, 0)), (g10, .cells (bxC exB) 26 (0, 0)), (g8, .cells (bxC exB) 26 (0, 0)), (g6, .cells (bxC exB) 26 (0, 0)), (g4, .cells (bxC exB) 26 (0, 0)), (g2, .cells (bxC exS) 26 (0, 0)), (g1, .cells (bxC exR) 26 (0, 0))] rfl rfl (st_row (off := 2) (v := .int .u8 20) rfl Tw.kr Tw.kr Tw.m5 Bg2 Tw.kr (by first | (simp [Value.cells]; done) | exact Nat.le_of_ble_eq_true rfl) (by intro v hv; simp [Value.cells, strV] at hv; first | (subst hv; rfl) | (rcases hv with rfl <;> rfl)) Tw.kr (List.forall_mem_cons.2 ⟨.inr ⟨Tw.m0, Tw.nee⟩, (List.forall_mem_cons.2 ⟨.inr ⟨Tw.m1, Tw.nee⟩, (List.forall_mem_cons.2 ⟨.inr ⟨Tw.m2, Tw.nee⟩, (List.forall_mem_cons.2 ⟨.inr ⟨Tw.m3, Tw.nee⟩, (List.forall_mem_cons.2 ⟨.inr ⟨Tw.m4, Tw.nee⟩, (List.forall_mem_cons.2 ⟨.inl rfl, (List.forall_mem_cons.2 ⟨.inr ⟨(.tail _ Tw.m5), Tw.nee⟩, (List.forall_mem_nil _)⟩)⟩)⟩)⟩)⟩)⟩)⟩)) ?_
 refine lm (v := .pointer (some ⟨g4, 4, none⟩)) rfl rfl ?_
 refine wpL_s [(g12, .cells (bxC exB) 26 (0, 0)), (g10, .cells (bxC exB) 26 (0, 0)), (g8, .cells (bxC exB) 26 (0, 0)), (g6, .cells (bxC exB) 26 (0, 0)), (g4, .cells (bxC exH) 26 (0, 0)), (g2, .cells (bxC exS) 26 (0, 0)), (g1, .cells (bxC exR) 26 (0, 0))] rfl rfl (st_row (off := 4) (v := .int .i64 40001) rfl Tw.kr Tw.kr Tw.m4 Bg4 Tw.kr (by first | (simp [Value.cells]; done) | exact Nat.le_of_ble_eq_true rfl) (by intro v hv; simp [Value.cells, strV] at hv; first | (subst hv; rfl) | (rcases hv with rfl <;> rfl)) Tw.kr (List.forall_mem_cons.2 ⟨.inr ⟨Tw.m0, Tw.nee⟩, (List.forall_mem_cons.2 ⟨.inr ⟨Tw.m1, Tw.nee⟩, (List.forall_mem_cons.2 ⟨.inr ⟨Tw.m2, Tw.nee⟩, (List.forall_mem_cons.2 ⟨.inr ⟨Tw.m3, Tw.nee⟩, (List.forall_mem_cons.2 ⟨.inl rfl, (List.forall_mem_cons.2 ⟨.inr ⟨Tw.m5, Tw.nee⟩, (List.forall_mem_cons.2 ⟨.inr ⟨(.tail _ Tw.m5), Tw.nee⟩, (List.forall_mem_nil _)⟩)⟩)⟩)⟩)⟩)⟩)⟩)) ?_
 refine lm (v := .pointer (some ⟨g6, 6, none⟩)) rfl rfl ?_
 refine wpL_s [(g12, .cells (bxC exB) 26 (0, 0)), (g10, .cells (bxC exB) 26 (0, 0)), (g8, .cells (bxC exB) 26 (0, 0)), (g6, .cells (bxC exD) 26 (0, 0)), (g4, .cells (bxC exH) 26 (0, 0)), (g2, .cells (bxC exS) 26 (0, 0)), (g1, .cells (bxC exR) 26 (0, 0))] rfl rfl (st_row (off := 6) (v := .int .i64 1) rfl Tw.kr Tw.kr Tw.m3 Bg6 Tw.kr (by first | (simp [Value.cells]; done) | exact Nat.le_of_ble_eq_true rfl) (by intro v hv; simp [Value.cells, strV] at hv; first | (subst hv; rfl) | (rcases hv with rfl <;> rfl)) Tw.kr (List.forall_mem_cons.2 ⟨.inr ⟨Tw.m0, Tw.nee⟩, (List.forall_mem_cons.2 ⟨.inr ⟨Tw.m1, Tw.nee⟩, (List.forall_mem_cons.2 ⟨.inr ⟨Tw.m2, Tw.nee⟩, (List.forall_mem_cons.2 ⟨.inl rfl, (List.forall_mem_cons.2 ⟨.inr ⟨Tw.m4, Tw.nee⟩, (List.forall_mem_cons.2 ⟨.inr ⟨Tw.m5, Tw.nee⟩, (List.forall_mem_cons.2 ⟨.inr ⟨(.tail _ Tw.m5), Tw.nee⟩, (List.forall_mem_nil _)⟩)⟩)⟩)⟩)⟩)⟩)⟩)) ?_
 refine lm (v := .pointer (some ⟨g8, 6, none⟩)) rfl rfl ?_
 refine wpL_s [(g12, .cells (bxC exB) 26 (0, 0)), (g10, .cells (bxC exB) 26 (0, 0)), (g8, .cells (bxC exL) 26 (0, 0)), (g6, .cells (bxC exD) 26 (0, 0)), (g4, .cells (bxC exH) 26 (0, 0)), (g2, .cells (bxC exS) 26 (0, 0)), (g1, .cells (bxC exR) 26 (0, 0))] rfl rfl (st_row (off := 6) (v := .int .i64 20) rfl Tw.kr Tw.kr Tw.m2 Bg8 Tw.kr (by first | (simp [Value.cells]; done) | exact Nat.le_of_ble_eq_true rfl) (by intro v hv; simp [Value.cells, strV] at hv; first | (subst hv; rfl) | (rcases hv with rfl <;> rfl)) Tw.kr (List.forall_mem_cons.2 ⟨.inr ⟨Tw.m0, Tw.nee⟩, (List.forall_mem_cons.2 ⟨.inr ⟨Tw.m1, Tw.nee⟩, (List.forall_mem_cons.2 ⟨.inl rfl, (List.forall_mem_cons.2 ⟨.inr ⟨Tw.m3, Tw.nee⟩, (List.forall_mem_cons.2 ⟨.inr ⟨Tw.m4, Tw.nee⟩, (List.forall_mem_cons.2 ⟨.inr ⟨Tw.m5, Tw.nee⟩, (List.forall_mem_cons.2 ⟨.inr ⟨(.tail _ Tw.m5), Tw.nee⟩, (List.forall_mem_nil _)⟩)⟩)⟩)⟩)⟩)⟩)⟩)) ?_
 refine lm (v := .pointer (some ⟨g10, 7, none⟩)) rfl rfl ?_
 refine wpL_s [(g12, .cells (bxC exB) 26 (0, 0)), (g10, .cells (bxC exC) 26 (0, 0)), (g8, .cells (bxC exL) 26 (0, 0)), (g6, .cells (bxC exD) 26 (0, 0)), (g4, .cells (bxC exH) 26 (0, 0)), (g2, .cells (bxC exS) 26 (0, 0)), (g1, .cells (bxC exR) 26 (0, 0))] rfl rfl (st_row (off := 7) (v := .int .u8 10) rfl Tw.kr Tw.kr Tw.m1 Bg10 Tw.kr (by first | (simp [Value.cells]; done) | exact Nat.le_of_ble_eq_true rfl) (by intro v hv; simp [Value.cells, strV] at hv; first | (subst hv; rfl) | (rcases hv with rfl <;> rfl)) Tw.kr (List.forall_mem_cons.2 ⟨.inr ⟨Tw.m0, Tw.nee⟩, (List.forall_mem_cons.2 ⟨.inl rfl, (List.forall_mem_cons.2 ⟨.inr ⟨Tw.m2, Tw.nee⟩, (List.forall_mem_cons.2 ⟨.inr ⟨Tw.m3, Tw.nee⟩, (List.forall_mem_cons.2 ⟨.inr ⟨Tw.m4, Tw.nee⟩, (List.forall_mem_cons.2 ⟨.inr ⟨Tw.m5, Tw.nee⟩, (List.forall_mem_cons.2 ⟨.inr ⟨(.tail _ Tw.m5), Tw.nee⟩, (List.forall_mem_nil _)⟩)⟩)⟩)⟩)⟩)⟩)⟩)) ?_
 refine lm (v := .pointer (some ⟨g12, 1, none⟩)) rfl rfl ?_
 refine wpL_s [(g12, .cells (bxC exN) 26 (0, 0)), (g10, .cells (bxC exC) 26 (0, 0)), (g8, .cells (bxC exL) 26 (0, 0)), (g6, .cells (bxC exD) 26 (0, 0)), (g4, .cells (bxC exH) 26 (0, 0)), (g2, .cells (bxC exS) 26 (0, 0)), (g1, .cells (bxC exR) 26 (0, 0))] rfl rfl (st_row (off := 1) (v := strV [67, 83, 81, 85, 51, 48, 53, 52, 51, 56, 52]) rfl Tw.kr Tw.kr Tw.m0 Bg12 Tw.kr (by first | (simp [Value.cells]; done) | exact Nat.le_of_ble_eq_true rfl) (by intro v hv; simp [Value.cells, strV] at hv; first | (subst hv; rfl) | (rcases hv with rfl <;> rfl)) Tw.kr (List.forall_mem_cons.2 ⟨.inl rfl, (List.forall_mem_cons.2 ⟨.inr ⟨Tw.m1, Tw.nee⟩, (List.forall_mem_cons.2 ⟨.inr ⟨Tw.m2, Tw.nee⟩, (List.forall_mem_cons.2 ⟨.inr ⟨Tw.m3, Tw.nee⟩, (List.forall_mem_cons.2 ⟨.inr ⟨Tw.m4, Tw.nee⟩, (List.forall_mem_cons.2 ⟨.inr ⟨Tw.m5, Tw.nee⟩, (List.forall_mem_cons.2 ⟨.inr ⟨(.tail _ Tw.m5), Tw.nee⟩, (List.forall_mem_nil _)⟩)⟩)⟩)⟩)⟩)⟩)⟩)) ?_
 refine wpL_done (fun W9 hW9 => ?_)
 change Code.wp ..
 refine wp_seq ?_
 refine wp_seq ?_
 refine wp_region_L _ hW9 ?_
 refine lv (v := bxV exS) rfl rfl (yb_load (n := 9) (off := 0) rfl Tw.kr Tw.m5 Tryd.underlying26 rfl Tw.kr (Nat.le_refl 9) Tw.kr) ?_
 refine lv (v := bxV exH) rfl rfl (yb_load (n := 9) (off := 0) rfl Tw.kr Tw.m4 Tryd.underlying26 rfl Tw.kr (Nat.le_refl 9) Tw.kr) ?_
 refine lv (v := bxV exD) rfl rfl (yb_load (n := 9) (off := 0) rfl Tw.kr Tw.m3 Tryd.underlying26 rfl Tw.kr (Nat.le_refl 9) Tw.kr) ?_
 refine lv (v := bxV exL) rfl rfl (yb_load (n := 9) (off := 0) rfl Tw.kr Tw.m2 Tryd.underlying26 rfl Tw.kr (Nat.le_refl 9) Tw.kr) ?_
 refine lv (v := bxV exC) rfl rfl (yb_load (n := 9) (off := 0) rfl Tw.kr Tw.m1 Tryd.underlying26 rfl Tw.kr (Nat.le_refl 9) Tw.kr) ?_
 refine lv (v := bxV exN) rfl rfl (yb_load (n := 9) (off := 0) rfl Tw.kr Tw.m0 Tryd.underlying26 rfl Tw.kr (Nat.le_refl 9) Tw.kr) ?_
 refine wpL_new (fun g => .slice (some ⟨g, 0, none⟩) 6 6) (obi := .cells ((bcs [exS, exH, exD, exL, exC, exN]).toArray) 26 (0, 0)) rfl rfl Tw.kf Tw.pf fun g14 Bg14 Fg14 => ?_
 obtain ⟨dj15_0, dj15_1, dj15_2, dj15_3, dj15_4, dj15_5, dj15_6⟩ : g12 ≠ g14 ∧ g10 ≠ g14 ∧ g8 ≠ g14 ∧ g6 ≠ g14 ∧ g4 ≠ g14 ∧ g2 ≠ g14 ∧ g1 ≠ g14 := Tw.dkf Fg14
 refine lm (v := .int .i64 6) rfl rfl ?_
 refine lm (v := .int .i64 0) rfl rfl ?_
 refine wpL_done (fun W10 hW10 => ?_)
 change Code.wp ..
 refine wp_block ?_
 refine wp_loop_rounds 7 ?_
 change Code.wp ..
 refine wp_seq ?_
 refine wp_region_L _ hW10 ?_
 refine lm (v := .bool true) rfl rfl ?_
 refine wpL_done (fun W11 hW11 => ?_)
 change Code.wp ..
 refine wp_seq ?_
 refine wp_cond_true rfl ?_
 refine wp_skip ?_
 change Code.wp ..
 refine wp_seq ?_
 refine wp_block ?_
 refine wp_seq ?_
 refine wp_region_L _ hW11 ?_
 refine lp (v := .pointer (some ⟨g14, 0 + 0 * 9, none⟩)) rfl rfl (run_idxL (j := .i64) (n := 6) (cap := 6) (b := g14) (off := 0) (k := 0) (sz := 9) rfl Tryd.underlying22 Tw.kr Tw.kr Tw.kr Tw.om) ?_
 refine lv (v := bxV exS) rfl rfl (yb_cells (off := 0 + 0 * 9) (cur := (bcs [exS, exH, exD, exL, exC, exN]).toArray) (cs := (bxC exS).toList) rfl Tw.kr Tw.m0 (RowX.get (row_lit [exS, exH, exD, exL, exC, exN]) (show ([exS, exH, exD, exL, exC, exN] : List Bx)[0]? = some exS from rfl)) Tryd.underlying26 rfl Tw.kr) ?_
 refine wpL_new (fun g => .pointer (some ⟨g, 0, none⟩)) (obi := .cells (bxC bx0) 26 (0, 0)) rfl rfl Tw.kf Tw.pf fun g16 Bg16 Fg16 => ?_
 obtain ⟨dj17_0, dj17_1, dj17_2, dj17_3, dj17_4, dj17_5, dj17_6, dj17_7⟩ : g14 ≠ g16 ∧ g12 ≠ g16 ∧ g10 ≠ g16 ∧ g8 ≠ g16 ∧ g6 ≠ g16 ∧ g4 ≠ g16 ∧ g2 ≠ g16 ∧ g1 ≠ g16 := Tw.dkf Fg16
 refine wpL_s [(g16, .cells (bxC exS) 26 (0, 0)), (g14, .cells ((bcs [exS, exH, exD, exL, exC, exN]).toArray) 26 (0, 0)), (g12, .cells (bxC exN) 26 (0, 0)), (g10, .cells (bxC exC) 26 (0, 0)), (g8, .cells (bxC exL) 26 (0, 0)), (g6, .cells (bxC exD) 26 (0, 0)), (g4, .cells (bxC exH) 26 (0, 0)), (g2, .cells (bxC exS) 26 (0, 0)), (g1, .cells (bxC exR) 26 (0, 0))] rfl rfl (st_bx (b := exS) rfl Tw.kr Tw.kr Tw.m0 rfl Bg16 Tw.kr (List.forall_mem_cons.2 ⟨.inl rfl, (List.forall_mem_cons.2 ⟨.inr ⟨Tw.m1, Tw.nee⟩, (List.forall_mem_cons.2 ⟨.inr ⟨Tw.m2, Tw.nee⟩, (List.forall_mem_cons.2 ⟨.inr ⟨Tw.m3, Tw.nee⟩, (List.forall_mem_cons.2 ⟨.inr ⟨Tw.m4, Tw.nee⟩, (List.forall_mem_cons.2 ⟨.inr ⟨Tw.m5, Tw.nee⟩, (List.forall_mem_cons.2 ⟨.inr ⟨(.tail _ Tw.m5), Tw.nee⟩, (List.forall_mem_cons.2 ⟨.inr ⟨(.tail _ (.tail _ Tw.m5)), Tw.nee⟩, (List.forall_mem_cons.2 ⟨.inr ⟨(.tail _ (.tail _ (.tail _ Tw.m5))), Tw.nee⟩, (List.forall_mem_nil _)⟩)⟩)⟩)⟩)⟩)⟩)⟩)⟩)⟩)) ?_
 refine wpL_done (fun W12 hW12 => ?_)
 change Code.wp ..
 refine wp_seq ?_
 refine wp_region_L _ hW12 ?_
 refine lv (v := bxV exS) rfl rfl (yb_load (n := 9) (off := 0) rfl Tw.kr Tw.m0 Tryd.underlying26 rfl Tw.kr (Nat.le_refl 9) Tw.kr) ?_
 refine lv (v := .bool false) rfl rfl (yb_call (f := 20) (args := #[bxV exS]) Tw.kf fun W hW => right_is (b := exS) (by decide +kernel) W) ?_
 refine wpL_done (fun W13 hW13 => ?_)
 change Code.wp ..
 refine wp_cond_false rfl ?_
 refine wp_skip ?_
 change Code.wp ..
 refine wp_region_L _ hW13 ?_
 refine lm (v := .int .i64 1) rfl rfl ?_
 refine lm (v := .int .i64 1) rfl rfl ?_
 refine wpL_done (fun W14 hW14 => ?_)
 change Code.wp ..
 refine wp_seq ?_
 refine wp_region_L _ hW14 ?_
 refine lm (v := .bool true) rfl rfl ?_
 refine wpL_done (fun W15 hW15 => ?_)
 change Code.wp ..
 refine wp_seq ?_
 refine wp_cond_true rfl ?_
 refine wp_skip ?_
 change Code.wp ..
 refine wp_seq ?_
 refine wp_block ?_
 refine wp_seq ?_
 refine wp_region_L _ hW15 ?_
 refine lp (v := .pointer (some ⟨g14, 0 + 1 * 9, none⟩)) rfl rfl (run_idxL (j := .i64) (n := 6) (cap := 6) (b := g14) (off := 0) (k := 1) (sz := 9) rfl Tryd.underlying22 Tw.kr Tw.kr Tw.kr Tw.om) ?_
 refine lv (v := bxV exH) rfl rfl (yb_cells (off := 0 + 1 * 9) (cur := (bcs [exS, exH, exD, exL, exC, exN]).toArray) (cs := (bxC exH).toList) rfl Tw.kr Tw.m1 (RowX.get (row_lit [exS, exH, exD, exL, exC, exN]) (show ([exS, exH, exD, exL, exC, exN] : List Bx)[1]? = some exH from rfl)) Tryd.underlying26 rfl Tw.kr) ?_
 refine wpL_new (fun g => .pointer (some ⟨g, 0, none⟩)) (obi := .cells (bxC bx0) 26 (0, 0)) rfl rfl Tw.kf Tw.pf fun g18 Bg18 Fg18 => ?_
 obtain ⟨dj19_0, dj19_1, dj19_2, dj19_3, dj19_4, dj19_5, dj19_6, dj19_7, dj19_8⟩ : g16 ≠ g18 ∧ g14 ≠ g18 ∧ g12 ≠ g18 ∧ g10 ≠ g18 ∧ g8 ≠ g18 ∧ g6 ≠ g18 ∧ g4 ≠ g18 ∧ g2 ≠ g18 ∧ g1 ≠ g18 := Tw.dkf Fg18
 refine wpL_s [(g18, .cells (bxC exH) 26 (0, 0)), (g16, .cells (bxC exS) 26 (0, 0)), (g14, .cells ((bcs [exS, exH, exD, exL, exC, exN]).toArray) 26 (0, 0)), (g12, .cells (bxC exN) 26 (0, 0)), (g10, .cells (bxC exC) 26 (0, 0)), (g8, .cells (bxC exL) 26 (0, 0)), (g6, .cells (bxC exD) 26 (0, 0)), (g4, .cells (bxC exH) 26 (0, 0)), (g2, .cells (bxC exS) 26 (0, 0)), (g1, .cells (bxC exR) 26 (0, 0))] rfl rfl (st_bx (b := exH) rfl Tw.kr Tw.kr Tw.m0 rfl Bg18 Tw.kr (List.forall_mem_cons.2 ⟨.inl rfl, (List.forall_mem_cons.2 ⟨.inr ⟨Tw.m1, Tw.nee⟩, (List.forall_mem_cons.2 ⟨.inr ⟨Tw.m2, Tw.nee⟩, (List.forall_mem_cons.2 ⟨.inr ⟨Tw.m3, Tw.nee⟩, (List.forall_mem_cons.2 ⟨.inr ⟨Tw.m4, Tw.nee⟩, (List.forall_mem_cons.2 ⟨.inr ⟨Tw.m5, Tw.nee⟩, (List.forall_mem_cons.2 ⟨.inr ⟨(.tail _ Tw.m5), Tw.nee⟩, (List.forall_mem_cons.2 ⟨.inr ⟨(.tail _ (.tail _ Tw.m5)), Tw.nee⟩, (List.forall_mem_cons.2 ⟨.inr ⟨(.tail _ (.tail _ (.tail _ Tw.m5))), Tw.nee⟩, (List.forall_mem_cons.2 ⟨.inr ⟨(.tail _ (.tail _ (.tail _ (.tail _ Tw.m5)))), Tw.nee⟩, (List.forall_mem_nil _)⟩)⟩)⟩)⟩)⟩)⟩)⟩)⟩)⟩)⟩)) ?_
 refine wpL_done (fun W16 hW16 => ?_)
 change Code.wp ..
 refine wp_seq ?_
 refine wp_region_L _ hW16 ?_
 refine lv (v := bxV exH) rfl rfl (yb_load (n := 9) (off := 0) rfl Tw.kr Tw.m0 Tryd.underlying26 rfl Tw.kr (Nat.le_refl 9) Tw.kr) ?_
 refine lv (v := .bool false) rfl rfl (yb_call (f := 20) (args := #[bxV exH]) Tw.kf fun W hW => right_is (b := exH) (by decide +kernel) W) ?_
 refine wpL_done (fun W17 hW17 => ?_)
 change Code.wp ..
 refine wp_cond_false rfl ?_
 refine wp_skip ?_
 change Code.wp ..
 refine wp_region_L _ hW17 ?_
 refine lm (v := .int .i64 2) rfl rfl ?_
 refine lm (v := .int .i64 2) rfl rfl ?_
 refine wpL_done (fun W18 hW18 => ?_)
 change Code.wp ..
 refine wp_seq ?_
 refine wp_region_L _ hW18 ?_
 refine lm (v := .bool true) rfl rfl ?_
 refine wpL_done (fun W19 hW19 => ?_)
 change Code.wp ..
 refine wp_seq ?_
 refine wp_cond_true rfl ?_
 refine wp_skip ?_
 change Code.wp ..
 refine wp_seq ?_
 refine wp_block ?_
 refine wp_seq ?_
 refine wp_region_L _ hW19 ?_
 refine lp (v := .pointer (some ⟨g14, 0 + 2 * 9, none⟩)) rfl rfl (run_idxL (j := .i64) (n := 6) (cap := 6) (b := g14) (off := 0) (k := 2) (sz := 9) rfl Tryd.underlying22 Tw.kr Tw.kr Tw.kr Tw.om) ?_
 refine lv (v := bxV exD) rfl rfl (yb_cells (off := 0 + 2 * 9) (cur := (bcs [exS, exH, exD, exL, exC, exN]).toArray) (cs := (bxC exD).toList) rfl Tw.kr Tw.m2 (RowX.get (row_lit [exS, exH, exD, exL, exC, exN]) (show ([exS, exH, exD, exL, exC, exN] : List Bx)[2]? = some exD from rfl)) Tryd.underlying26 rfl Tw.kr) ?_
 refine wpL_new (fun g => .pointer (some ⟨g, 0, none⟩)) (obi := .cells (bxC bx0) 26 (0, 0)) rfl rfl Tw.kf Tw.pf fun g20 Bg20 Fg20 => ?_
 obtain ⟨dj21_0, dj21_1, dj21_2, dj21_3, dj21_4, dj21_5, dj21_6, dj21_7, dj21_8, dj21_9⟩ : g18 ≠ g20 ∧ g16 ≠ g20 ∧ g14 ≠ g20 ∧ g12 ≠ g20 ∧ g10 ≠ g20 ∧ g8 ≠ g20 ∧ g6 ≠ g20 ∧ g4 ≠ g20 ∧ g2 ≠ g20 ∧ g1 ≠ g20 := Tw.dkf Fg20
 refine wpL_s [(g20, .cells (bxC exD) 26 (0, 0)), (g18, .cells (bxC exH) 26 (0, 0)), (g16, .cells (bxC exS) 26 (0, 0)), (g14, .cells ((bcs [exS, exH, exD, exL, exC, exN]).toArray) 26 (0, 0)), (g12, .cells (bxC exN) 26 (0, 0)), (g10, .cells (bxC exC) 26 (0, 0)), (g8, .cells (bxC exL) 26 (0, 0)), (g6, .cells (bxC exD) 26 (0, 0)), (g4, .cells (bxC exH) 26 (0, 0)), (g2, .cells (bxC exS) 26 (0, 0)), (g1, .cells (bxC exR) 26 (0, 0))] rfl rfl (st_bx (b := exD) rfl Tw.kr Tw.kr Tw.m0 rfl Bg20 Tw.kr (List.forall_mem_cons.2 ⟨.inl rfl, (List.forall_mem_cons.2 ⟨.inr ⟨Tw.m1, Tw.nee⟩, (List.forall_mem_cons.2 ⟨.inr ⟨Tw.m2, Tw.nee⟩, (List.forall_mem_cons.2 ⟨.inr ⟨Tw.m3, Tw.nee⟩, (List.forall_mem_cons.2 ⟨.inr ⟨Tw.m4, Tw.nee⟩, (List.forall_mem_cons.2 ⟨.inr ⟨Tw.m5, Tw.nee⟩, (List.forall_mem_cons.2 ⟨.inr ⟨(.tail _ Tw.m5), Tw.nee⟩, (List.forall_mem_cons.2 ⟨.inr ⟨(.tail _ (.tail _ Tw.m5)), Tw.nee⟩, (List.forall_mem_cons.2 ⟨.inr ⟨(.tail _ (.tail _ (.tail _ Tw.m5))), Tw.nee⟩, (List.forall_mem_cons.2 ⟨.inr ⟨(.tail _ (.tail _ (.tail _ (.tail _ Tw.m5)))), Tw.nee⟩, (List.forall_mem_cons.2 ⟨.inr ⟨(.tail _ (.tail _ (.tail _ (.tail _ (.tail _ Tw.m5))))), Tw.nee⟩, (List.forall_mem_nil _)⟩)⟩)⟩)⟩)⟩)⟩)⟩)⟩)⟩)⟩)⟩)) ?_
 refine wpL_done (fun W20 hW20 => ?_)
 change Code.wp ..
 refine wp_seq ?_
 refine wp_region_L _ hW20 ?_
 refine lv (v := bxV exD) rfl rfl (yb_load (n := 9) (off := 0) rfl Tw.kr Tw.m0 Tryd.underlying26 rfl Tw.kr (Nat.le_refl 9) Tw.kr) ?_
 refine lv (v := .bool false) rfl rfl (yb_call (f := 20) (args := #[bxV exD]) Tw.kf fun W hW => right_is (b := exD) (by decide +kernel) W) ?_
 refine wpL_done (fun W21 hW21 => ?_)
 change Code.wp ..
 refine wp_cond_false rfl ?_
 refine wp_skip ?_
 change Code.wp ..
 refine wp_region_L _ hW21 ?_
 refine lm (v := .int .i64 3) rfl rfl ?_
 refine lm (v := .int .i64 3) rfl rfl ?_
 refine wpL_done (fun W22 hW22 => ?_)
 change Code.wp ..
 refine wp_seq ?_
 refine wp_region_L _ hW22 ?_
 refine lm (v := .bool true) rfl rfl ?_
 refine wpL_done (fun W23 hW23 => ?_)
 change Code.wp ..
 refine wp_seq ?_
 refine wp_cond_true rfl ?_
 refine wp_skip ?_
 change Code.wp ..
 refine wp_seq ?_
 refine wp_block ?_
 refine wp_seq ?_
 refine wp_region_L _ hW23 ?_
 refine lp (v := .pointer (some ⟨g14, 0 + 3 * 9, none⟩)) rfl rfl (run_idxL (j := .i64) (n := 6) (cap := 6) (b := g14) (off := 0) (k := 3) (sz := 9) rfl Tryd.underlying22 Tw.kr Tw.kr Tw.kr Tw.om) ?_
 refine lv (v := bxV exL) rfl rfl (yb_cells (off := 0 + 3 * 9) (cur := (bcs [exS, exH, exD, exL, exC, exN]).toArray) (cs := (bxC exL).toList) rfl Tw.kr Tw.m3 (RowX.get (row_lit [exS, exH, exD, exL, exC, exN]) (show ([exS, exH, exD, exL, exC, exN] : List Bx)[3]? = some exL from rfl)) Tryd.underlying26 rfl Tw.kr) ?_
 refine wpL_new (fun g => .pointer (some ⟨g, 0, none⟩)) (obi := .cells (bxC bx0) 26 (0, 0)) rfl rfl Tw.kf Tw.pf fun g22 Bg22 Fg22 => ?_
 obtain ⟨dj23_0, dj23_1, dj23_2, dj23_3, dj23_4, dj23_5, dj23_6, dj23_7, dj23_8, dj23_9, dj23_10⟩ : g20 ≠ g22 ∧ g18 ≠ g22 ∧ g16 ≠ g22 ∧ g14 ≠ g22 ∧ g12 ≠ g22 ∧ g10 ≠ g22 ∧ g8 ≠ g22 ∧ g6 ≠ g22 ∧ g4 ≠ g22 ∧ g2 ≠ g22 ∧ g1 ≠ g22 := Tw.dkf Fg22
 refine wpL_s [(g22, .cells (bxC exL) 26 (0, 0)), (g20, .cells (bxC exD) 26 (0, 0)), (g18, .cells (bxC exH) 26 (0, 0)), (g16, .cells (bxC exS) 26 (0, 0)), (g14, .cells ((bcs [exS, exH, exD, exL, exC, exN]).toArray) 26 (0, 0)), (g12, .cells (bxC exN) 26 (0, 0)), (g10, .cells (bxC exC) 26 (0, 0)), (g8, .cells (bxC exL) 26 (0, 0)), (g6, .cells (bxC exD) 26 (0, 0)), (g4, .cells (bxC exH) 26 (0, 0)), (g2, .cells (bxC exS) 26 (0, 0)), (g1, .cells (bxC exR) 26 (0, 0))] rfl rfl (st_bx (b := exL) rfl Tw.kr Tw.kr Tw.m0 rfl Bg22 Tw.kr (List.forall_mem_cons.2 ⟨.inl rfl, (List.forall_mem_cons.2 ⟨.inr ⟨Tw.m1, Tw.nee⟩, (List.forall_mem_cons.2 ⟨.inr ⟨Tw.m2, Tw.nee⟩, (List.forall_mem_cons.2 ⟨.inr ⟨Tw.m3, Tw.nee⟩, (List.forall_mem_cons.2 ⟨.inr ⟨Tw.m4, Tw.nee⟩, (List.forall_mem_cons.2 ⟨.inr ⟨Tw.m5, Tw.nee⟩, (List.forall_mem_cons.2 ⟨.inr ⟨(.tail _ Tw.m5), Tw.nee⟩, (List.forall_mem_cons.2 ⟨.inr ⟨(.tail _ (.tail _ Tw.m5)), Tw.nee⟩, (List.forall_mem_cons.2 ⟨.inr ⟨(.tail _ (.tail _ (.tail _ Tw.m5))), Tw.nee⟩, (List.forall_mem_cons.2 ⟨.inr ⟨(.tail _ (.tail _ (.tail _ (.tail _ Tw.m5)))), Tw.nee⟩, (List.forall_mem_cons.2 ⟨.inr ⟨(.tail _ (.tail _ (.tail _ (.tail _ (.tail _ Tw.m5))))), Tw.nee⟩, (List.forall_mem_cons.2 ⟨.inr ⟨(.tail _ (.tail _ (.tail _ (.tail _ (.tail _ (.tail _ Tw.m5)))))), Tw.nee⟩, (List.forall_mem_nil _)⟩)⟩)⟩)⟩)⟩)⟩)⟩)⟩)⟩)⟩)⟩)⟩)) ?_
 refine wpL_done (fun W24 hW24 => ?_)
 change Code.wp ..
 refine wp_seq ?_
 refine wp_region_L _ hW24 ?_
 refine lv (v := bxV exL) rfl rfl (yb_load (n := 9) (off := 0) rfl Tw.kr Tw.m0 Tryd.underlying26 rfl Tw.kr (Nat.le_refl 9) Tw.kr) ?_
 refine lv (v := .bool false) rfl rfl (yb_call (f := 20) (args := #[bxV exL]) Tw.kf fun W hW => right_is (b := exL) (by decide +kernel) W) ?_
 refine wpL_done (fun W25 hW25 => ?_)
 change Code.wp ..
 refine wp_cond_false rfl ?_
 refine wp_skip ?_
 change Code.wp ..
 refine wp_region_L _ hW25 ?_
 refine lm (v := .int .i64 4) rfl rfl ?_
 refine lm (v := .int .i64 4) rfl rfl ?_
 refine wpL_done (fun W26 hW26 => ?_)
 change Code.wp ..
 refine wp_seq ?_
 refine wp_region_L _ hW26 ?_
 refine lm (v := .bool true) rfl rfl ?_
 refine wpL_done (fun W27 hW27 => ?_)
 change Code.wp ..
 refine wp_seq ?_
 refine wp_cond_true rfl ?_
 refine wp_skip ?_
 change Code.wp ..
 refine wp_seq ?_
 refine wp_block ?_
 refine wp_seq ?_
 refine wp_region_L _ hW27 ?_
 refine lp (v := .pointer (some ⟨g14, 0 + 4 * 9, none⟩)) rfl rfl (run_idxL (j := .i64) (n := 6) (cap := 6) (b := g14) (off := 0) (k := 4) (sz := 9) rfl Tryd.underlying22 Tw.kr Tw.kr Tw.kr Tw.om) ?_
 refine lv (v := bxV exC) rfl rfl (yb_cells (off := 0 + 4 * 9) (cur := (bcs [exS, exH, exD, exL, exC, exN]).toArray) (cs := (bxC exC).toList) rfl Tw.kr Tw.m4 (RowX.get (row_lit [exS, exH, exD, exL, exC, exN]) (show ([exS, exH, exD, exL, exC, exN] : List Bx)[4]? = some exC from rfl)) Tryd.underlying26 rfl Tw.kr) ?_
 refine wpL_new (fun g => .pointer (some ⟨g, 0, none⟩)) (obi := .cells (bxC bx0) 26 (0, 0)) rfl rfl Tw.kf Tw.pf fun g24 Bg24 Fg24 => ?_
 obtain ⟨dj25_0, dj25_1, dj25_2, dj25_3, dj25_4, dj25_5, dj25_6, dj25_7, dj25_8, dj25_9, dj25_10, dj25_11⟩ : g22 ≠ g24 ∧ g20 ≠ g24 ∧ g18 ≠ g24 ∧ g16 ≠ g24 ∧ g14 ≠ g24 ∧ g12 ≠ g24 ∧ g10 ≠ g24 ∧ g8 ≠ g24 ∧ g6 ≠ g24 ∧ g4 ≠ g24 ∧ g2 ≠ g24 ∧ g1 ≠ g24 := Tw.dkf Fg24
 refine wpL_s [(g24, .cells (bxC exC) 26 (0, 0)), (g22, .cells (bxC exL) 26 (0, 0)), (g20, .cells (bxC exD) 26 (0, 0)), (g18, .cells (bxC exH) 26 (0, 0)), (g16, .cells (bxC exS) 26 (0, 0)), (g14, .cells ((bcs [exS, exH, exD, exL, exC, exN]).toArray) 26 (0, 0)), (g12, .cells (bxC exN) 26 (0, 0)), (g10, .cells (bxC exC) 26 (0, 0)), (g8, .cells (bxC exL) 26 (0, 0)), (g6, .cells (bxC exD) 26 (0, 0)), (g4, .cells (bxC exH) 26 (0, 0)), (g2, .cells (bxC exS) 26 (0, 0)), (g1, .cells (bxC exR) 26 (0, 0))] rfl rfl (st_bx (b := exC) rfl Tw.kr Tw.kr Tw.m0 rfl Bg24 Tw.kr (List.forall_mem_cons.2 ⟨.inl rfl, (List.forall_mem_cons.2 ⟨.inr ⟨Tw.m1, Tw.nee⟩, (List.forall_mem_cons.2 ⟨.inr ⟨Tw.m2, Tw.nee⟩, (List.forall_mem_cons.2 ⟨.inr ⟨Tw.m3, Tw.nee⟩, (List.forall_mem_cons.2 ⟨.inr ⟨Tw.m4, Tw.nee⟩, (List.forall_mem_cons.2 ⟨.inr ⟨Tw.m5, Tw.nee⟩, (List.forall_mem_cons.2 ⟨.inr ⟨(.tail _ Tw.m5), Tw.nee⟩, (List.forall_mem_cons.2 ⟨.inr ⟨(.tail _ (.tail _ Tw.m5)), Tw.nee⟩, (List.forall_mem_cons.2 ⟨.inr ⟨(.tail _ (.tail _ (.tail _ Tw.m5))), Tw.nee⟩, (List.forall_mem_cons.2 ⟨.inr ⟨(.tail _ (.tail _ (.tail _ (.tail _ Tw.m5)))), Tw.nee⟩, (List.forall_mem_cons.2 ⟨.inr ⟨(.tail _ (.tail _ (.tail _ (.tail _ (.tail _ Tw.m5))))), Tw.nee⟩, (List.forall_mem_cons.2 ⟨.inr ⟨(.tail _ (.tail _ (.tail _ (.tail _ (.tail _ (.tail _ Tw.m5)))))), Tw.nee⟩, (List.forall_mem_cons.2 ⟨.inr ⟨(.tail _ (.tail _ (.tail _ (.tail _ (.tail _ (.tail _ (.tail _ Tw.m5))))))), Tw.nee⟩, (List.forall_mem_nil _)⟩)⟩)⟩)⟩)⟩)⟩)⟩)⟩)⟩)⟩)⟩)⟩)⟩)) ?_
 refine wpL_done (fun W28 hW28 => ?_)
 change Code.wp ..
 refine wp_seq ?_
 refine wp_region_L _ hW28 ?_
 refine lv (v := bxV exC) rfl rfl (yb_load (n := 9) (off := 0) rfl Tw.kr Tw.m0 Tryd.underlying26 rfl Tw.kr (Nat.le_refl 9) Tw.kr) ?_
 refine lv (v := .bool false) rfl rfl (yb_call (f := 20) (args := #[bxV exC]) Tw.kf fun W hW => right_is (b := exC) (by decide +kernel) W) ?_
 refine wpL_done (fun W29 hW29 => ?_)
 change Code.wp ..
 refine wp_cond_false rfl ?_
 refine wp_skip ?_
 change Code.wp ..
 refine wp_region_L _ hW29 ?_
 refine lm (v := .int .i64 5) rfl rfl ?_
 refine lm (v := .int .i64 5) rfl rfl ?_
 refine wpL_done (fun W30 hW30 => ?_)
 change Code.wp ..
 refine wp_seq ?_
 refine wp_region_L _ hW30 ?_
 refine lm (v := .bool true) rfl rfl ?_
 refine wpL_done (fun W31 hW31 => ?_)
 change Code.wp ..
 refine wp_seq ?_
 refine wp_cond_true rfl ?_
 refine wp_skip ?_
 change Code.wp ..
 refine wp_seq ?_
 refine wp_block ?_
 refine wp_seq ?_
 refine wp_region_L _ hW31 ?_
 refine lp (v := .pointer (some ⟨g14, 0 + 5 * 9, none⟩)) rfl rfl (run_idxL (j := .i64) (n := 6) (cap := 6) (b := g14) (off := 0) (k := 5) (sz := 9) rfl Tryd.underlying22 Tw.kr Tw.kr Tw.kr Tw.om) ?_
 refine lv (v := bxV exN) rfl rfl (yb_cells (off := 0 + 5 * 9) (cur := (bcs [exS, exH, exD, exL, exC, exN]).toArray) (cs := (bxC exN).toList) rfl Tw.kr Tw.m5 (RowX.get (row_lit [exS, exH, exD, exL, exC, exN]) (show ([exS, exH, exD, exL, exC, exN] : List Bx)[5]? = some exN from rfl)) Tryd.underlying26 rfl Tw.kr) ?_
 refine wpL_new (fun g => .pointer (some ⟨g, 0, none⟩)) (obi := .cells (bxC bx0) 26 (0, 0)) rfl rfl Tw.kf Tw.pf fun g26 Bg26 Fg26 => ?_
 obtain ⟨dj27_0, dj27_1, dj27_2, dj27_3, dj27_4, dj27_5, dj27_6, dj27_7, dj27_8, dj27_9, dj27_10, dj27_11, dj27_12⟩ : g24 ≠ g26 ∧ g22 ≠ g26 ∧ g20 ≠ g26 ∧ g18 ≠ g26 ∧ g16 ≠ g26 ∧ g14 ≠ g26 ∧ g12 ≠ g26 ∧ g10 ≠ g26 ∧ g8 ≠ g26 ∧ g6 ≠ g26 ∧ g4 ≠ g26 ∧ g2 ≠ g26 ∧ g1 ≠ g26 := Tw.dkf Fg26
 refine wpL_s [(g26, .cells (bxC exN) 26 (0, 0)), (g24, .cells (bxC exC) 26 (0, 0)), (g22, .cells (bxC exL) 26 (0, 0)), (g20, .cells (bxC exD) 26 (0, 0)), (g18, .cells (bxC exH) 26 (0, 0)), (g16, .cells (bxC exS) 26 (0, 0)), (g14, .cells ((bcs [exS, exH, exD, exL, exC, exN]).toArray) 26 (0, 0)), (g12, .cells (bxC exN) 26 (0, 0)), (g10, .cells (bxC exC) 26 (0, 0)), (g8, .cells (bxC exL) 26 (0, 0)), (g6, .cells (bxC exD) 26 (0, 0)), (g4, .cells (bxC exH) 26 (0, 0)), (g2, .cells (bxC exS) 26 (0, 0)), (g1, .cells (bxC exR) 26 (0, 0))] rfl rfl (st_bx (b := exN) rfl Tw.kr Tw.kr Tw.m0 rfl Bg26 Tw.kr (List.forall_mem_cons.2 ⟨.inl rfl, (List.forall_mem_cons.2 ⟨.inr ⟨Tw.m1, Tw.nee⟩, (List.forall_mem_cons.2 ⟨.inr ⟨Tw.m2, Tw.nee⟩, (List.forall_mem_cons.2 ⟨.inr ⟨Tw.m3, Tw.nee⟩, (List.forall_mem_cons.2 ⟨.inr ⟨Tw.m4, Tw.nee⟩, (List.forall_mem_cons.2 ⟨.inr ⟨Tw.m5, Tw.nee⟩, (List.forall_mem_cons.2 ⟨.inr ⟨(.tail _ Tw.m5), Tw.nee⟩, (List.forall_mem_cons.2 ⟨.inr ⟨(.tail _ (.tail _ Tw.m5)), Tw.nee⟩, (List.forall_mem_cons.2 ⟨.inr ⟨(.tail _ (.tail _ (.tail _ Tw.m5))), Tw.nee⟩, (List.forall_mem_cons.2 ⟨.inr ⟨(.tail _ (.tail _ (.tail _ (.tail _ Tw.m5)))), Tw.nee⟩, (List.forall_mem_cons.2 ⟨.inr ⟨(.tail _ (.tail _ (.tail _ (.tail _ (.tail _ Tw.m5))))), Tw.nee⟩, (List.forall_mem_cons.2 ⟨.inr ⟨(.tail _ (.tail _ (.tail _ (.tail _ (.tail _ (.tail _ Tw.m5)))))), Tw.nee⟩, (List.forall_mem_cons.2 ⟨.inr ⟨(.tail _ (.tail _ (.tail _ (.tail _ (.tail _ (.tail _ (.tail _ Tw.m5))))))), Tw.nee⟩, (List.forall_mem_cons.2 ⟨.inr ⟨(.tail _ (.tail _ (.tail _ (.tail _ (.tail _ (.tail _ (.tail _ (.tail _ Tw.m5)))))))), Tw.nee⟩, (List.forall_mem_nil _)⟩)⟩)⟩)⟩)⟩)⟩)⟩)⟩)⟩)⟩)⟩)⟩)⟩)⟩)) ?_
 refine wpL_done (fun W32 hW32 => ?_)
 change Code.wp ..
 refine wp_seq ?_
 refine wp_region_L _ hW32 ?_
 refine lv (v := bxV exN) rfl rfl (yb_load (n := 9) (off := 0) rfl Tw.kr Tw.m0 Tryd.underlying26 rfl Tw.kr (Nat.le_refl 9) Tw.kr) ?_
 refine lv (v := .bool false) rfl rfl (yb_call (f := 20) (args := #[bxV exN]) Tw.kf fun W hW => right_is (b := exN) (by decide +kernel) W) ?_
 refine wpL_done (fun W33 hW33 => ?_)
 change Code.wp ..
 refine wp_cond_false rfl ?_
 refine wp_skip ?_
 change Code.wp ..
 refine wp_region_L _ hW33 ?_
 refine lm (v := .int .i64 6) rfl rfl ?_
 refine lm (v := .int .i64 6) rfl rfl ?_
 refine wpL_done (fun W34 hW34 => ?_)
 change Code.wp ..
 refine wp_seq ?_
 refine wp_region_L _ hW34 ?_
 refine lm (v := .bool false) rfl rfl ?_
 refine wpL_done (fun W35 hW35 => ?_)
 change Code.wp ..
 refine wp_seq ?_
 refine wp_cond_false rfl ?_
 refine wp_exit ?_
 change Code.wp ..
 refine wp_seq ?_
 refine wp_seq ?_
 refine wp_region_L _ hW35 ?_
 refine lv (v := bxV exS) rfl rfl (yb_load (n := 9) (off := 0) rfl Tw.kr (.tail _ (.tail _ (.tail _ (.tail _ (.tail _ (.tail _ (.tail _ Tw.m5))))))) Tryd.underlying26 rfl Tw.kr (Nat.le_refl 9) Tw.kr) ?_
 refine lv (v := .tuple #[strV [], .int .i64 60]) rfl rfl (yb_call (f := 18) (args := #[bxV exS]) Tw.kf fun W hW => bcode_is (b := exS) Tw.kr W (HE.out.keep hW.1)) ?_
 refine lm (v := .tuple #[strV [], .int .i64 60]) rfl rfl ?_
 refine lm (v := strV []) rfl rfl ?_
 refine lm (v := .int .i64 60) rfl rfl ?_
 refine lm (v := strV []) rfl rfl ?_
 refine lm (v := .int .i64 60) rfl rfl ?_
 refine wpL_done (fun W36 hW36 => ?_)
 change Code.wp ..
 refine wp_seq ?_
 refine wp_region_L _ hW36 ?_
 refine lm (v := .int .i64 60) rfl rfl ?_
 refine lm (v := .bool false) rfl rfl ?_
 refine wpL_done (fun W37 hW37 => ?_)
 change Code.wp ..
 refine wp_cond_false rfl ?_
 refine wp_skip ?_
 change Code.wp ..
 refine wp_seq ?_
 refine wp_region_L _ hW37 ?_
 refine lm (v := .agg #[.int .i64 1, strV [], .int .u8 20, .bool false, .int .i64 9, .int .i64 0, .int .i64 2, .int .u8 0, .bool false]) rfl rfl ?_
 refine lm (v := .agg #[.int .i64 2, strV [], .int .u8 20, .bool false, .int .i64 5, .int .i64 0, .int .i64 3, .int .u8 0, .bool false]) rfl rfl ?_
 refine lm (v := .agg #[.int .i64 3, strV [], .int .u8 20, .bool false, .int .i64 8, .int .i64 0, .int .i64 3, .int .u8 0, .bool false]) rfl rfl ?_
 refine lm (v := .agg #[.int .i64 4, strV [], .int .u8 20, .bool false, .int .i64 8, .int .i64 0, .int .i64 3, .int .u8 0, .bool false]) rfl rfl ?_
 refine wpL_new (fun g => .pointer (some ⟨g, 0, none⟩)) (obi := .cells (bxC bx0) 26 (0, 0)) rfl rfl Tw.kf Tw.pf fun g28 Bg28 Fg28 => ?_
 obtain ⟨dj29_0, dj29_1, dj29_2, dj29_3, dj29_4, dj29_5, dj29_6, dj29_7, dj29_8, dj29_9, dj29_10, dj29_11, dj29_12, dj29_13⟩ : g26 ≠ g28 ∧ g24 ≠ g28 ∧ g22 ≠ g28 ∧ g20 ≠ g28 ∧ g18 ≠ g28 ∧ g16 ≠ g28 ∧ g14 ≠ g28 ∧ g12 ≠ g28 ∧ g10 ≠ g28 ∧ g8 ≠ g28 ∧ g6 ≠ g28 ∧ g4 ≠ g28 ∧ g2 ≠ g28 ∧ g1 ≠ g28 := Tw.dkf Fg28
 refine wpL_new (fun g => .pointer (some ⟨g, 0, none⟩)) (obi := .cells (bxC bx0) 26 (0, 0)) rfl rfl Tw.kf Tw.pf fun g30 Bg30 Fg30 => ?_
 obtain ⟨dj31_0, dj31_1, dj31_2, dj31_3, dj31_4, dj31_5, dj31_6, dj31_7, dj31_8, dj31_9, dj31_10, dj31_11, dj31_12, dj31_13, dj31_14⟩ : g28 ≠ g30 ∧ g26 ≠ g30 ∧ g24 ≠ g30 ∧ g22 ≠ g30 ∧ g20 ≠ g30 ∧ g18 ≠ g30 ∧ g16 ≠ g30 ∧ g14 ≠ g30 ∧ g12 ≠ g30 ∧ g10 ≠ g30 ∧ g8 ≠ g30 ∧ g6 ≠ g30 ∧ g4 ≠ g30 ∧ g2 ≠ g30 ∧ g1 ≠ g30 := Tw.dkf Fg30
 refine wpL_new (fun g => .pointer (some ⟨g, 0, none⟩)) (obi := .cells (bxC bx0) 26 (0, 0)) rfl rfl Tw.kf Tw.pf fun g32 Bg32 Fg32 => ?_
 obtain ⟨dj33_0, dj33_1, dj33_2, dj33_3, dj33_4, dj33_5, dj33_6, dj33_7, dj33_8, dj33_9, dj33_10, dj33_11, dj33_12, dj33_13, dj33_14, dj33_15⟩ : g30 ≠ g32 ∧ g28 ≠ g32 ∧ g26 ≠ g32 ∧ g24 ≠ g32 ∧ g22 ≠ g32 ∧ g20 ≠ g32 ∧ g18 ≠ g32 ∧ g16 ≠ g32 ∧ g14 ≠ g32 ∧ g12 ≠ g32 ∧ g10 ≠ g32 ∧ g8 ≠ g32 ∧ g6 ≠ g32 ∧ g4 ≠ g32 ∧ g2 ≠ g32 ∧ g1 ≠ g32 := Tw.dkf Fg32
 refine wpL_new (fun g => .pointer (some ⟨g, 0, none⟩)) (obi := .cells (bxC bx0) 26 (0, 0)) rfl rfl Tw.kf Tw.pf fun g34 Bg34 Fg34 => ?_
 obtain ⟨dj35_0, dj35_1, dj35_2, dj35_3, dj35_4, dj35_5, dj35_6, dj35_7, dj35_8, dj35_9, dj35_10, dj35_11, dj35_12, dj35_13, dj35_14, dj35_15, dj35_16⟩ : g32 ≠ g34 ∧ g30 ≠ g34 ∧ g28 ≠ g34 ∧ g26 ≠ g34 ∧ g24 ≠ g34 ∧ g22 ≠ g34 ∧ g20 ≠ g34 ∧ g18 ≠ g34 ∧ g16 ≠ g34 ∧ g14 ≠ g34 ∧ g12 ≠ g34 ∧ g10 ≠ g34 ∧ g8 ≠ g34 ∧ g6 ≠ g34 ∧ g4 ≠ g34 ∧ g2 ≠ g34 ∧ g1 ≠ g34 := Tw.dkf Fg34
 refine wpL_s [(g34, .cells (bxC bx0) 26 (0, 0)), (g32, .cells (bxC bx0) 26 (0, 0)), (g30, .cells (bxC bx0) 26 (0, 0)), (g28, .cells (bxC ob1) 26 (0, 0)), (g26, .cells (bxC exN) 26 (0, 0)), (g24, .cells (bxC exC) 26 (0, 0)), (g22, .cells (bxC exL) 26 (0, 0)), (g20, .cells (bxC exD) 26 (0, 0)), (g18, .cells (bxC exH) 26 (0, 0)), (g16, .cells (bxC exS) 26 (0, 0)), (g14, .cells ((bcs [exS, exH, exD, exL, exC, exN]).toArray) 26 (0, 0)), (g12, .cells (bxC exN) 26 (0, 0)), (g10, .cells (bxC exC) 26 (0, 0)), (g8, .cells (bxC exL) 26 (0, 0)), (g6, .cells (bxC exD) 26 (0, 0)), (g4, .cells (bxC exH) 26 (0, 0)), (g2, .cells (bxC exS) 26 (0, 0)), (g1, .cells (bxC exR) 26 (0, 0))] rfl rfl (st_row (off := 0) (v := .agg #[.int .i64 1, strV [], .int .u8 20, .bool false, .int .i64 9, .int .i64 0, .int .i64 2, .int .u8 0, .bool false]) rfl Tw.kr Tw.kr Tw.m3 Bg28 Tw.kr (by first | (simp [Value.cells]; done) | exact Nat.le_of_ble_eq_true rfl) (by intro v hv; simp [Value.cells, strV] at hv; first | (subst hv; rfl) | (rcases hv with rfl | rfl | rfl | rfl | rfl | rfl | rfl | rfl | rfl <;> rfl)) Tw.kr (List.forall_mem_cons.2 ⟨.inr ⟨Tw.m0, Tw.nee⟩, (List.forall_mem_cons.2 ⟨.inr ⟨Tw.m1, Tw.nee⟩, (List.forall_mem_cons.2 ⟨.inr ⟨Tw.m2, Tw.nee⟩, (List.forall_mem_cons.2 ⟨.inl rfl, (List.forall_mem_cons.2 ⟨.inr ⟨Tw.m4, Tw.nee⟩, (List.forall_mem_cons.2 ⟨.inr ⟨Tw.m5, Tw.nee⟩, (List.forall_mem_cons.2 ⟨.inr ⟨(.tail _ Tw.m5), Tw.nee⟩, (List.forall_mem_cons.2 ⟨.inr ⟨(.tail _ (.tail _ Tw.m5)), Tw.nee⟩, (List.forall_mem_cons.2 ⟨.inr ⟨(.tail _ (.tail _ (.tail _ Tw.m5))), Tw.nee⟩, (List.forall_mem_cons.2 ⟨.inr ⟨(.tail _ (.tail _ (.tail _ (.tail _ Tw.m5)))), Tw.nee⟩, (List.forall_mem_cons.2 ⟨.inr ⟨(.tail _ (.tail _ (.tail _ (.tail _ (.tail _ Tw.m5))))), Tw.nee⟩, (List.forall_mem_cons.2 ⟨.inr ⟨(.tail _ (.tail _ (.tail _ (.tail _ (.tail _ (.tail _ Tw.m5)))))), Tw.nee⟩, (List.forall_mem_cons.2 ⟨.inr ⟨(.tail _ (.tail _ (.tail _ (.tail _ (.tail _ (.tail _ (.tail _ Tw.m5))))))), Tw.nee⟩, (List.forall_mem_cons.2 ⟨.inr ⟨(.tail _ (.tail _ (.tail _ (.tail _ (.tail _ (.tail _ (.tail _ (.tail _ Tw.m5)))))))), Tw.nee⟩, (List.forall_mem_cons.2 ⟨.inr ⟨(.tail _ (.tail _ (.tail _ (.tail _ (.tail _ (.tail _ (.tail _ (.tail _ (.tail _ Tw.m5))))))))), Tw.nee⟩, (List.forall_mem_cons.2 ⟨.inr ⟨(.tail _ (.tail _ (.tail _ (.tail _ (.tail _ (.tail _ (.tail _ (.tail _ (.tail _ (.tail _ Tw.m5)))))))))), Tw.nee⟩, (List.forall_mem_cons.2 ⟨.inr ⟨(.tail _ (.tail _ (.tail _ (.tail _ (.tail _ (.tail _ (.tail _ (.tail _ (.tail _ (.tail _ (.tail _ Tw.m5))))))))))), Tw.nee⟩, (List.forall_mem_cons.2 ⟨.inr ⟨(.tail _ (.tail _ (.tail _ (.tail _ (.tail _ (.tail _ (.tail _ (.tail _ (.tail _ (.tail _ (.tail _ (.tail _ Tw.m5)))))))))))), Tw.nee⟩, (List.forall_mem_nil _)⟩)⟩)⟩)⟩)⟩)⟩)⟩)⟩)⟩)⟩)⟩)⟩)⟩)⟩)⟩)⟩)⟩)⟩)) ?_
 refine wpL_s [(g34, .cells (bxC bx0) 26 (0, 0)), (g32, .cells (bxC bx0) 26 (0, 0)), (g30, .cells (bxC ob2) 26 (0, 0)), (g28, .cells (bxC ob1) 26 (0, 0)), (g26, .cells (bxC exN) 26 (0, 0)), (g24, .cells (bxC exC) 26 (0, 0)), (g22, .cells (bxC exL) 26 (0, 0)), (g20, .cells (bxC exD) 26 (0, 0)), (g18, .cells (bxC exH) 26 (0, 0)), (g16, .cells (bxC exS) 26 (0, 0)), (g14, .cells ((bcs [exS, exH, exD, exL, exC, exN]).toArray) 26 (0, 0)), (g12, .cells (bxC exN) 26 (0, 0)), (g10, .cells (bxC exC) 26 (0, 0)), (g8, .cells (bxC exL) 26 (0, 0)), (g6, .cells (bxC exD) 26 (0, 0)), (g4, .cells (bxC exH) 26 (0, 0)), (g2, .cells (bxC exS) 26 (0, 0)), (g1, .cells (bxC exR) 26 (0, 0))] rfl rfl (st_row (off := 0) (v := .agg #[.int .i64 2, strV [], .int .u8 20, .bool false, .int .i64 5, .int .i64 0, .int .i64 3, .int .u8 0, .bool false]) rfl Tw.kr Tw.kr Tw.m2 Bg30 Tw.kr (by first | (simp [Value.cells]; done) | exact Nat.le_of_ble_eq_true rfl) (by intro v hv; simp [Value.cells, strV] at hv; first | (subst hv; rfl) | (rcases hv with rfl | rfl | rfl | rfl | rfl | rfl | rfl | rfl | rfl <;> rfl)) Tw.kr (List.forall_mem_cons.2 ⟨.inr ⟨Tw.m0, Tw.nee⟩, (List.forall_mem_cons.2 ⟨.inr ⟨Tw.m1, Tw.nee⟩, (List.forall_mem_cons.2 ⟨.inl rfl, (List.forall_mem_cons.2 ⟨.inr ⟨Tw.m3, Tw.nee⟩, (List.forall_mem_cons.2 ⟨.inr ⟨Tw.m4, Tw.nee⟩, (List.forall_mem_cons.2 ⟨.inr ⟨Tw.m5, Tw.nee⟩, (List.forall_mem_cons.2 ⟨.inr ⟨(.tail _ Tw.m5), Tw.nee⟩, (List.forall_mem_cons.2 ⟨.inr ⟨(.tail _ (.tail _ Tw.m5)), Tw.nee⟩, (List.forall_mem_cons.2 ⟨.inr ⟨(.tail _ (.tail _ (.tail _ Tw.m5))), Tw.nee⟩, (List.forall_mem_cons.2 ⟨.inr ⟨(.tail _ (.tail _ (.tail _ (.tail _ Tw.m5)))), Tw.nee⟩, (List.forall_mem_cons.2 ⟨.inr ⟨(.tail _ (.tail _ (.tail _ (.tail _ (.tail _ Tw.m5))))), Tw.nee⟩, (List.forall_mem_cons.2 ⟨.inr ⟨(.tail _ (.tail _ (.tail _ (.tail _ (.tail _ (.tail _ Tw.m5)))))), Tw.nee⟩, (List.forall_mem_cons.2 ⟨.inr ⟨(.tail _ (.tail _ (.tail _ (.tail _ (.tail _ (.tail _ (.tail _ Tw.m5))))))), Tw.nee⟩, (List.forall_mem_cons.2 ⟨.inr ⟨(.tail _ (.tail _ (.tail _ (.tail _ (.tail _ (.tail _ (.tail _ (.tail _ Tw.m5)))))))), Tw.nee⟩, (List.forall_mem_cons.2 ⟨.inr ⟨(.tail _ (.tail _ (.tail _ (.tail _ (.tail _ (.tail _ (.tail _ (.tail _ (.tail _ Tw.m5))))))))), Tw.nee⟩, (List.forall_mem_cons.2 ⟨.inr ⟨(.tail _ (.tail _ (.tail _ (.tail _ (.tail _ (.tail _ (.tail _ (.tail _ (.tail _ (.tail _ Tw.m5)))))))))), Tw.nee⟩, (List.forall_mem_cons.2 ⟨.inr ⟨(.tail _ (.tail _ (.tail _ (.tail _ (.tail _ (.tail _ (.tail _ (.tail _ (.tail _ (.tail _ (.tail _ Tw.m5))))))))))), Tw.nee⟩, (List.forall_mem_cons.2 ⟨.inr ⟨(.tail _ (.tail _ (.tail _ (.tail _ (.tail _ (.tail _ (.tail _ (.tail _ (.tail _ (.tail _ (.tail _ (.tail _ Tw.m5)))))))))))), Tw.nee⟩, (List.forall_mem_nil _)⟩)⟩)⟩)⟩)⟩)⟩)⟩)⟩)⟩)⟩)⟩)⟩)⟩)⟩)⟩)⟩)⟩)⟩)) ?_
 refine wpL_s [(g34, .cells (bxC bx0) 26 (0, 0)), (g32, .cells (bxC ob3) 26 (0, 0)), (g30, .cells (bxC ob2) 26 (0, 0)), (g28, .cells (bxC ob1) 26 (0, 0)), (g26, .cells (bxC exN) 26 (0, 0)), (g24, .cells (bxC exC) 26 (0, 0)), (g22, .cells (bxC exL) 26 (0, 0)), (g20, .cells (bxC exD) 26 (0, 0)), (g18, .cells (bxC exH) 26 (0, 0)), (g16, .cells (bxC exS) 26 (0, 0)), (g14, .cells ((bcs [exS, exH, exD, exL, exC, exN]).toArray) 26 (0, 0)), (g12, .cells (bxC exN) 26 (0, 0)), (g10, .cells (bxC exC) 26 (0, 0)), (g8, .cells (bxC exL) 26 (0, 0)), (g6, .cells (bxC exD) 26 (0, 0)), (g4, .cells (bxC exH) 26 (0, 0)), (g2, .cells (bxC exS) 26 (0, 0)), (g1, .cells (bxC exR) 26 (0, 0))] rfl rfl (st_row (off := 0) (v := .agg #[.int .i64 3, strV [], .int .u8 20, .bool false, .int .i64 8, .int .i64 0, .int .i64 3, .int .u8 0, .bool false]) rfl Tw.kr Tw.kr Tw.m1 Bg32 Tw.kr (by first | (simp [Value.cells]; done) | exact Nat.le_of_ble_eq_true rfl) (by intro v hv; simp [Value.cells, strV] at hv; first | (subst hv; rfl) | (rcases hv with rfl | rfl | rfl | rfl | rfl | rfl | rfl | rfl | rfl <;> rfl)) Tw.kr (List.forall_mem_cons.2 ⟨.inr ⟨Tw.m0, Tw.nee⟩, (List.forall_mem_cons.2 ⟨.inl rfl, (List.forall_mem_cons.2 ⟨.inr ⟨Tw.m2, Tw.nee⟩, (List.forall_mem_cons.2 ⟨.inr ⟨Tw.m3, Tw.nee⟩, (List.forall_mem_cons.2 ⟨.inr ⟨Tw.m4, Tw.nee⟩, (List.forall_mem_cons.2 ⟨.inr ⟨Tw.m5, Tw.nee⟩, (List.forall_mem_cons.2 ⟨.inr ⟨(.tail _ Tw.m5), Tw.nee⟩, (List.forall_mem_cons.2 ⟨.inr ⟨(.tail _ (.tail _ Tw.m5)), Tw.nee⟩, (List.forall_mem_cons.2 ⟨.inr ⟨(.tail _ (.tail _ (.tail _ Tw.m5))), Tw.nee⟩, (List.forall_mem_cons.2 ⟨.inr ⟨(.tail _ (.tail _ (.tail _ (.tail _ Tw.m5)))), Tw.nee⟩, (List.forall_mem_cons.2 ⟨.inr ⟨(.tail _ (.tail _ (.tail _ (.tail _ (.tail _ Tw.m5))))), Tw.nee⟩, (List.forall_mem_cons.2 ⟨.inr ⟨(.tail _ (.tail _ (.tail _ (.tail _ (.tail _ (.tail _ Tw.m5)))))), Tw.nee⟩, (List.forall_mem_cons.2 ⟨.inr ⟨(.tail _ (.tail _ (.tail _ (.tail _ (.tail _ (.tail _ (.tail _ Tw.m5))))))), Tw.nee⟩, (List.forall_mem_cons.2 ⟨.inr ⟨(.tail _ (.tail _ (.tail _ (.tail _ (.tail _ (.tail _ (.tail _ (.tail _ Tw.m5)))))))), Tw.nee⟩, (List.forall_mem_cons.2 ⟨.inr ⟨(.tail _ (.tail _ (.tail _ (.tail _ (.tail _ (.tail _ (.tail _ (.tail _ (.tail _ Tw.m5))))))))), Tw.nee⟩, (List.forall_mem_cons.2 ⟨.inr ⟨(.tail _ (.tail _ (.tail _ (.tail _ (.tail _ (.tail _ (.tail _ (.tail _ (.tail _ (.tail _ Tw.m5)))))))))), Tw.nee⟩, (List.forall_mem_cons.2 ⟨.inr ⟨(.tail _ (.tail _ (.tail _ (.tail _ (.tail _ (.tail _ (.tail _ (.tail _ (.tail _ (.tail _ (.tail _ Tw.m5))))))))))), Tw.nee⟩, (List.forall_mem_cons.2 ⟨.inr ⟨(.tail _ (.tail _ (.tail _ (.tail _ (.tail _ (.tail _ (.tail _ (.tail _ (.tail _ (.tail _ (.tail _ (.tail _ Tw.m5)))))))))))), Tw.nee⟩, (List.forall_mem_nil _)⟩)⟩)⟩)⟩)⟩)⟩)⟩)⟩)⟩)⟩)⟩)⟩)⟩)⟩)⟩)⟩)⟩)⟩)) ?_
 refine wpL_s [(g34, .cells (bxC ob4) 26 (0, 0)), (g32, .cells (bxC ob3) 26 (0, 0)), (g30, .cells (bxC ob2) 26 (0, 0)), (g28, .cells (bxC ob1) 26 (0, 0)), (g26, .cells (bxC exN) 26 (0, 0)), (g24, .cells (bxC exC) 26 (0, 0)), (g22, .cells (bxC exL) 26 (0, 0)), (g20, .cells (bxC exD) 26 (0, 0)), (g18, .cells (bxC exH) 26 (0, 0)), (g16, .cells (bxC exS) 26 (0, 0)), (g14, .cells ((bcs [exS, exH, exD, exL, exC, exN]).toArray) 26 (0, 0)), (g12, .cells (bxC exN) 26 (0, 0)), (g10, .cells (bxC exC) 26 (0, 0)), (g8, .cells (bxC exL) 26 (0, 0)), (g6, .cells (bxC exD) 26 (0, 0)), (g4, .cells (bxC exH) 26 (0, 0)), (g2, .cells (bxC exS) 26 (0, 0)), (g1, .cells (bxC exR) 26 (0, 0))] rfl rfl (st_row (off := 0) (v := .agg #[.int .i64 4, strV [], .int .u8 20, .bool false, .int .i64 8, .int .i64 0, .int .i64 3, .int .u8 0, .bool false]) rfl Tw.kr Tw.kr Tw.m0 Bg34 Tw.kr (by first | (simp [Value.cells]; done) | exact Nat.le_of_ble_eq_true rfl) (by intro v hv; simp [Value.cells, strV] at hv; first | (subst hv; rfl) | (rcases hv with rfl | rfl | rfl | rfl | rfl | rfl | rfl | rfl | rfl <;> rfl)) Tw.kr (List.forall_mem_cons.2 ⟨.inl rfl, (List.forall_mem_cons.2 ⟨.inr ⟨Tw.m1, Tw.nee⟩, (List.forall_mem_cons.2 ⟨.inr ⟨Tw.m2, Tw.nee⟩, (List.forall_mem_cons.2 ⟨.inr ⟨Tw.m3, Tw.nee⟩, (List.forall_mem_cons.2 ⟨.inr ⟨Tw.m4, Tw.nee⟩, (List.forall_mem_cons.2 ⟨.inr ⟨Tw.m5, Tw.nee⟩, (List.forall_mem_cons.2 ⟨.inr ⟨(.tail _ Tw.m5), Tw.nee⟩, (List.forall_mem_cons.2 ⟨.inr ⟨(.tail _ (.tail _ Tw.m5)), Tw.nee⟩, (List.forall_mem_cons.2 ⟨.inr ⟨(.tail _ (.tail _ (.tail _ Tw.m5))), Tw.nee⟩, (List.forall_mem_cons.2 ⟨.inr ⟨(.tail _ (.tail _ (.tail _ (.tail _ Tw.m5)))), Tw.nee⟩, (List.forall_mem_cons.2 ⟨.inr ⟨(.tail _ (.tail _ (.tail _ (.tail _ (.tail _ Tw.m5))))), Tw.nee⟩, (List.forall_mem_cons.2 ⟨.inr ⟨(.tail _ (.tail _ (.tail _ (.tail _ (.tail _ (.tail _ Tw.m5)))))), Tw.nee⟩, (List.forall_mem_cons.2 ⟨.inr ⟨(.tail _ (.tail _ (.tail _ (.tail _ (.tail _ (.tail _ (.tail _ Tw.m5))))))), Tw.nee⟩, (List.forall_mem_cons.2 ⟨.inr ⟨(.tail _ (.tail _ (.tail _ (.tail _ (.tail _ (.tail _ (.tail _ (.tail _ Tw.m5)))))))), Tw.nee⟩, (List.forall_mem_cons.2 ⟨.inr ⟨(.tail _ (.tail _ (.tail _ (.tail _ (.tail _ (.tail _ (.tail _ (.tail _ (.tail _ Tw.m5))))))))), Tw.nee⟩, (List.forall_mem_cons.2 ⟨.inr ⟨(.tail _ (.tail _ (.tail _ (.tail _ (.tail _ (.tail _ (.tail _ (.tail _ (.tail _ (.tail _ Tw.m5)))))))))), Tw.nee⟩, (List.forall_mem_cons.2 ⟨.inr ⟨(.tail _ (.tail _ (.tail _ (.tail _ (.tail _ (.tail _ (.tail _ (.tail _ (.tail _ (.tail _ (.tail _ Tw.m5))))))))))), Tw.nee⟩, (List.forall_mem_cons.2 ⟨.inr ⟨(.tail _ (.tail _ (.tail _ (.tail _ (.tail _ (.tail _ (.tail _ (.tail _ (.tail _ (.tail _ (.tail _ (.tail _ Tw.m5)))))))))))), Tw.nee⟩, (List.forall_mem_nil _)⟩)⟩)⟩)⟩)⟩)⟩)⟩)⟩)⟩)⟩)⟩)⟩)⟩)⟩)⟩)⟩)⟩)⟩)) ?_
 refine wpL_done (fun W38 hW38 => ?_)
 change Code.wp ..
 refine wp_seq ?_
 refine wp_region_L _ hW38 ?_
 refine lv (v := bxV exB) rfl rfl (yb_call (f := 13) (args := #[]) Tw.kf fun W hW => example_any W) ?_
 refine lv (v := bxV exB) rfl rfl (yb_call (f := 13) (args := #[]) Tw.kf fun W hW => example_any W) ?_
 refine wpL_new (fun g => .slice (some ⟨g, 0, none⟩) 2 2) (obi := .cells ((bcs [exB, exB]).toArray) 26 (0, 0)) rfl rfl Tw.kf Tw.pf fun g36 Bg36 Fg36 => ?_
 obtain ⟨dj37_0, dj37_1, dj37_2, dj37_3, dj37_4, dj37_5, dj37_6, dj37_7, dj37_8, dj37_9, dj37_10, dj37_11, dj37_12, dj37_13, dj37_14, dj37_15, dj37_16, dj37_17⟩ : g34 ≠ g36 ∧ g32 ≠ g36 ∧ g30 ≠ g36 ∧ g28 ≠ g36 ∧ g26 ≠ g36 ∧ g24 ≠ g36 ∧ g22 ≠ g36 ∧ g20 ≠ g36 ∧ g18 ≠ g36 ∧ g16 ≠ g36 ∧ g14 ≠ g36 ∧ g12 ≠ g36 ∧ g10 ≠ g36 ∧ g8 ≠ g36 ∧ g6 ≠ g36 ∧ g4 ≠ g36 ∧ g2 ≠ g36 ∧ g1 ≠ g36 := Tw.dkf Fg36
 refine lv (v := .tuple #[.int .i64 1, .int .i64 60]) rfl rfl (yb_call (f := 29) (args := #[.slice (some ⟨g36, 0, none⟩) 2 2]) Tw.kf fun W hW => valid_is (l := [exB, exB]) (p := (some ⟨g36, 0, none⟩)) (c := 2) Tw.kr (by first | omega | (simp; done) | (simp; omega) | decide) W (rowx_slv (hW.2 _ Tw.m0) (row_lit [exB, exB]))) ?_
 refine lm (v := .tuple #[.int .i64 1, .int .i64 60]) rfl rfl ?_
 refine lm (v := .int .i64 1) rfl rfl ?_
 refine lm (v := .int .i64 60) rfl rfl ?_
 refine lm (v := .int .i64 1) rfl rfl ?_
 refine lm (v := .int .i64 60) rfl rfl ?_
 refine wpL_done (fun W39 hW39 => ?_)
 change Code.wp ..
 refine wp_seq ?_
 refine wp_region_V _ Tw.kr hW39 ?_
 refine vm (i := 0) (v := .int .i64 1) rfl rfl rfl ?_
 refine vm (i := 1) (v := .bool true) rfl rfl rfl ?_
 refine vm (i := 2) (v := .bool true) rfl rfl rfl ?_
 refine vm (i := 3) (v := .int .i64 60) rfl rfl rfl ?_
 refine vm (i := 4) (v := .bool true) rfl rfl rfl ?_
 refine vm (i := 5) (v := .bool true) rfl rfl rfl ?_
 refine vm (i := 6) (v := .bool true) rfl rfl rfl ?_
 refine vv (i := 7) (v := bxV ob1) rfl rfl rfl (yb_load (n := 9) (off := 0) rfl Tw.kr Tw.m4 Tryd.underlying26 rfl Tw.kr (Nat.le_refl 9) Tw.kr) ?_
 refine vv (i := 8) (v := bxV ob2) rfl rfl rfl (yb_load (n := 9) (off := 0) rfl Tw.kr Tw.m3 Tryd.underlying26 rfl Tw.kr (Nat.le_refl 9) Tw.kr) ?_
 refine vv (i := 9) (v := bxV ob3) rfl rfl rfl (yb_load (n := 9) (off := 0) rfl Tw.kr Tw.m2 Tryd.underlying26 rfl Tw.kr (Nat.le_refl 9) Tw.kr) ?_
 refine vv (i := 10) (v := bxV ob4) rfl rfl rfl (yb_load (n := 9) (off := 0) rfl Tw.kr Tw.m1 Tryd.underlying26 rfl Tw.kr (Nat.le_refl 9) Tw.kr) ?_
 refine vv (i := 13) (v := bxV ob3) rfl rfl rfl (yb_load (n := 9) (off := 0) rfl Tw.kr Tw.m2 Tryd.underlying26 rfl Tw.kr (Nat.le_refl 9) Tw.kr) ?_
 refine vv (i := 14) (v := bxV ob4) rfl rfl rfl (yb_load (n := 9) (off := 0) rfl Tw.kr Tw.m1 Tryd.underlying26 rfl Tw.kr (Nat.le_refl 9) Tw.kr) ?_
 refine vv (i := 15) (v := bxV ob2) rfl rfl rfl (yb_load (n := 9) (off := 0) rfl Tw.kr Tw.m3 Tryd.underlying26 rfl Tw.kr (Nat.le_refl 9) Tw.kr) ?_
 refine vv (i := 16) (v := bxV ob1) rfl rfl rfl (yb_load (n := 9) (off := 0) rfl Tw.kr Tw.m4 Tryd.underlying26 rfl Tw.kr (Nat.le_refl 9) Tw.kr) ?_
 refine wpV_2 (i := 11) (j := 17) Tw.kr ?_ ?_
 · refine stepV_nsg (fun g => .slice (some ⟨g, 0, none⟩) 4 4) (i := 11) (obi := .cells ((bcs [ob1, ob2, ob3, ob4]).toArray) 26 (0, 0)) rfl rfl rfl Tw.kf Tw.pf fun g38 Bg38 Fg38 => ?_
   obtain ⟨dj39_0, dj39_1, dj39_2, dj39_3, dj39_4, dj39_5, dj39_6, dj39_7, dj39_8, dj39_9, dj39_10, dj39_11, dj39_12, dj39_13, dj39_14, dj39_15, dj39_16, dj39_17, dj39_18⟩ : g36 ≠ g38 ∧ g34 ≠ g38 ∧ g32 ≠ g38 ∧ g30 ≠ g38 ∧ g28 ≠ g38 ∧ g26 ≠ g38 ∧ g24 ≠ g38 ∧ g22 ≠ g38 ∧ g20 ≠ g38 ∧ g18 ≠ g38 ∧ g16 ≠ g38 ∧ g14 ≠ g38 ∧ g12 ≠ g38 ∧ g10 ≠ g38 ∧ g8 ≠ g38 ∧ g6 ≠ g38 ∧ g4 ≠ g38 ∧ g2 ≠ g38 ∧ g1 ≠ g38 := Tw.dkf Fg38
   refine wpV_2 (i := 12) (j := 17) Tw.kr ?_ ?_
   · refine stepV_c (i := 12) (fun v K9 => ∃ Kl, OwnL w 26 9 v [ob1, ob2, ob3, ob4].length (bcs (orderX [ob1, ob2, ob3, ob4])) Kl ∧ (∀ p ∈ ([(g38, .cells ((bcs [ob1, ob2, ob3, ob4]).toArray) 26 (0, 0)), (g36, .cells ((bcs [exB, exB]).toArray) 26 (0, 0)), (g34, .cells (bxC ob4) 26 (0, 0)), (g32, .cells (bxC ob3) 26 (0, 0)), (g30, .cells (bxC ob2) 26 (0, 0)), (g28, .cells (bxC ob1) 26 (0, 0)), (g26, .cells (bxC exN) 26 (0, 0)), (g24, .cells (bxC exC) 26 (0, 0)), (g22, .cells (bxC exL) 26 (0, 0)), (g20, .cells (bxC exD) 26 (0, 0)), (g18, .cells (bxC exH) 26 (0, 0)), (g16, .cells (bxC exS) 26 (0, 0)), (g14, .cells ((bcs [exS, exH, exD, exL, exC, exN]).toArray) 26 (0, 0)), (g12, .cells (bxC exN) 26 (0, 0)), (g10, .cells (bxC exC) 26 (0, 0)), (g8, .cells (bxC exL) 26 (0, 0)), (g6, .cells (bxC exD) 26 (0, 0)), (g4, .cells (bxC exH) 26 (0, 0)), (g2, .cells (bxC exS) 26 (0, 0)), (g1, .cells (bxC exR) 26 (0, 0))] : List (Nat × Obj)), ∀ q ∈ Kl, q.1 ≠ p.1) ∧ K9 = [(g38, .cells ((bcs [ob1, ob2, ob3, ob4]).toArray) 26 (0, 0)), (g36, .cells ((bcs [exB, exB]).toArray) 26 (0, 0)), (g34, .cells (bxC ob4) 26 (0, 0)), (g32, .cells (bxC ob3) 26 (0, 0)), (g30, .cells (bxC ob2) 26 (0, 0)), (g28, .cells (bxC ob1) 26 (0, 0)), (g26, .cells (bxC exN) 26 (0, 0)), (g24, .cells (bxC exC) 26 (0, 0)), (g22, .cells (bxC exL) 26 (0, 0)), (g20, .cells (bxC exD) 26 (0, 0)), (g18, .cells (bxC exH) 26 (0, 0)), (g16, .cells (bxC exS) 26 (0, 0)), (g14, .cells ((bcs [exS, exH, exD, exL, exC, exN]).toArray) 26 (0, 0)), (g12, .cells (bxC exN) 26 (0, 0)), (g10, .cells (bxC exC) 26 (0, 0)), (g8, .cells (bxC exL) 26 (0, 0)), (g6, .cells (bxC exD) 26 (0, 0)), (g4, .cells (bxC exH) 26 (0, 0)), (g2, .cells (bxC exS) 26 (0, 0)), (g1, .cells (bxC exR) 26 (0, 0))] ++ Kl) rfl rfl Tw.kr Tw.kf (fun W hW => calls_out hW (Order_few [ob1, ob2, ob3, ob4] (some ⟨g38, 0, none⟩) 4 (by decide) W (rowx_slv (hW.2 _ Tw.m0) (row_lit [ob1, ob2, ob3, ob4])))) (fun _ _ h => by obtain ⟨_, _, _, rfl⟩ := h; exact fun p hp => List.mem_append_left _ hp) Tw.pf ?_
     rintro v40 K9 ⟨Kl40, O40, N40, rfl⟩
     obtain ⟨dj41_0, dj41_1, dj41_2, dj41_3, dj41_4, dj41_5, dj41_6, dj41_7, dj41_8, dj41_9, dj41_10, dj41_11, dj41_12, dj41_13, dj41_14, dj41_15, dj41_16, dj41_17, dj41_18, dj41_19⟩ : Dk g38 Kl40 ∧ Dk g36 Kl40 ∧ Dk g34 Kl40 ∧ Dk g32 Kl40 ∧ Dk g30 Kl40 ∧ Dk g28 Kl40 ∧ Dk g26 Kl40 ∧ Dk g24 Kl40 ∧ Dk g22 Kl40 ∧ Dk g20 Kl40 ∧ Dk g18 Kl40 ∧ Dk g16 Kl40 ∧ Dk g14 Kl40 ∧ Dk g12 Kl40 ∧ Dk g10 Kl40 ∧ Dk g8 Kl40 ∧ Dk g6 Kl40 ∧ Dk g4 Kl40 ∧ Dk g2 Kl40 ∧ Dk g1 Kl40 := Tw.djf N40
     refine wpV_nsg (fun g => .slice (some ⟨g, 0, none⟩) 4 4) (i := 17) (obi := .cells ((bcs [ob3, ob4, ob2, ob1]).toArray) 26 (0, 0)) rfl rfl rfl Tw.kr Tw.kf Tw.pf fun g42 Bg42 Fg42 => ?_
     obtain ⟨dj43_0, dj43_1, dj43_2, dj43_3, dj43_4, dj43_5, dj43_6, dj43_7, dj43_8, dj43_9, dj43_10, dj43_11, dj43_12, dj43_13, dj43_14, dj43_15, dj43_16, dj43_17, dj43_18, dj43_19, dj43_20⟩ : g38 ≠ g42 ∧ g36 ≠ g42 ∧ g34 ≠ g42 ∧ g32 ≠ g42 ∧ g30 ≠ g42 ∧ g28 ≠ g42 ∧ g26 ≠ g42 ∧ g24 ≠ g42 ∧ g22 ≠ g42 ∧ g20 ≠ g42 ∧ g18 ≠ g42 ∧ g16 ≠ g42 ∧ g14 ≠ g42 ∧ g12 ≠ g42 ∧ g10 ≠ g42 ∧ g8 ≠ g42 ∧ g6 ≠ g42 ∧ g4 ≠ g42 ∧ g2 ≠ g42 ∧ g1 ≠ g42 ∧ Dk g42 Kl40 := Tw.dkf Fg42
     obtain ⟨p44, c44, rfl, hc44, HB44⟩ := own_bs O40
     refine vv (i := 18) (v := .bool true) rfl rfl rfl (yb_call (f := 28) (args := #[.slice p44 ([ob1, ob2, ob3, ob4].length) c44, .slice (some ⟨g42, 0, none⟩) 4 4]) Tw.kf fun W hW => same_true (orderX [ob1, ob2, ob3, ob4]) [ob3, ob4, ob2, ob1] p44 (some ⟨g42, 0, none⟩) c44 4 (by first | omega | (simp; done) | (simp; omega) | decide) W (HB44 W (hW.sub (fun p hp => by simp only [List.mem_cons, List.mem_append, List.nil_append, List.not_mem_nil, or_assoc, or_false, false_or, hp, true_or, or_true]))) (rowx_slv (hW.2 _ Tw.m0) (row_lit [ob3, ob4, ob2, ob1])) (by decide +kernel)) ?_
     refine vm (i := 19) (v := .bool true) rfl rfl rfl ?_
     refine vm (i := 20) (v := .bool true) rfl rfl rfl ?_
     refine wpV_done Tw.kr (fun W40 hW40 => ?_) _
     change Code.wp ..
     refine wp_ret ?_
     try simp only [inBlock_ret, then_ret]
     refine bodyPost_ret (v := .bool true) ?_ rfl ?_
     · kernel_rfl
     · exact ⟨rfl, hW40.1⟩
   · refine stepV_nsg (fun g => .slice (some ⟨g, 0, none⟩) 4 4) (i := 17) (obi := .cells ((bcs [ob3, ob4, ob2, ob1]).toArray) 26 (0, 0)) rfl rfl rfl Tw.kf Tw.pf fun g45 Bg45 Fg45 => ?_
     obtain ⟨dj46_0, dj46_1, dj46_2, dj46_3, dj46_4, dj46_5, dj46_6, dj46_7, dj46_8, dj46_9, dj46_10, dj46_11, dj46_12, dj46_13, dj46_14, dj46_15, dj46_16, dj46_17, dj46_18, dj46_19⟩ : g38 ≠ g45 ∧ g36 ≠ g45 ∧ g34 ≠ g45 ∧ g32 ≠ g45 ∧ g30 ≠ g45 ∧ g28 ≠ g45 ∧ g26 ≠ g45 ∧ g24 ≠ g45 ∧ g22 ≠ g45 ∧ g20 ≠ g45 ∧ g18 ≠ g45 ∧ g16 ≠ g45 ∧ g14 ≠ g45 ∧ g12 ≠ g45 ∧ g10 ≠ g45 ∧ g8 ≠ g45 ∧ g6 ≠ g45 ∧ g4 ≠ g45 ∧ g2 ≠ g45 ∧ g1 ≠ g45 := Tw.dkf Fg45
     refine wpV_c (i := 12) (fun v K9 => ∃ Kl, OwnL w 26 9 v [ob1, ob2, ob3, ob4].length (bcs (orderX [ob1, ob2, ob3, ob4])) Kl ∧ (∀ p ∈ ([(g45, .cells ((bcs [ob3, ob4, ob2, ob1]).toArray) 26 (0, 0)), (g38, .cells ((bcs [ob1, ob2, ob3, ob4]).toArray) 26 (0, 0)), (g36, .cells ((bcs [exB, exB]).toArray) 26 (0, 0)), (g34, .cells (bxC ob4) 26 (0, 0)), (g32, .cells (bxC ob3) 26 (0, 0)), (g30, .cells (bxC ob2) 26 (0, 0)), (g28, .cells (bxC ob1) 26 (0, 0)), (g26, .cells (bxC exN) 26 (0, 0)), (g24, .cells (bxC exC) 26 (0, 0)), (g22, .cells (bxC exL) 26 (0, 0)), (g20, .cells (bxC exD) 26 (0, 0)), (g18, .cells (bxC exH) 26 (0, 0)), (g16, .cells (bxC exS) 26 (0, 0)), (g14, .cells ((bcs [exS, exH, exD, exL, exC, exN]).toArray) 26 (0, 0)), (g12, .cells (bxC exN) 26 (0, 0)), (g10, .cells (bxC exC) 26 (0, 0)), (g8, .cells (bxC exL) 26 (0, 0)), (g6, .cells (bxC exD) 26 (0, 0)), (g4, .cells (bxC exH) 26 (0, 0)), (g2, .cells (bxC exS) 26 (0, 0)), (g1, .cells (bxC exR) 26 (0, 0))] : List (Nat × Obj)), ∀ q ∈ Kl, q.1 ≠ p.1) ∧ K9 = [(g45, .cells ((bcs [ob3, ob4, ob2, ob1]).toArray) 26 (0, 0)), (g38, .cells ((bcs [ob1, ob2, ob3, ob4]).toArray) 26 (0, 0)), (g36, .cells ((bcs [exB, exB]).toArray) 26 (0, 0)), (g34, .cells (bxC ob4) 26 (0, 0)), (g32, .cells (bxC ob3) 26 (0, 0)), (g30, .cells (bxC ob2) 26 (0, 0)), (g28, .cells (bxC ob1) 26 (0, 0)), (g26, .cells (bxC exN) 26 (0, 0)), (g24, .cells (bxC exC) 26 (0, 0)), (g22, .cells (bxC exL) 26 (0, 0)), (g20, .cells (bxC exD) 26 (0, 0)), (g18, .cells (bxC exH) 26 (0, 0)), (g16, .cells (bxC exS) 26 (0, 0)), (g14, .cells ((bcs [exS, exH, exD, exL, exC, exN]).toArray) 26 (0, 0)), (g12, .cells (bxC exN) 26 (0, 0)), (g10, .cells (bxC exC) 26 (0, 0)), (g8, .cells (bxC exL) 26 (0, 0)), (g6, .cells (bxC exD) 26 (0, 0)), (g4, .cells (bxC exH) 26 (0, 0)), (g2, .cells (bxC exS) 26 (0, 0)), (g1, .cells (bxC exR) 26 (0, 0))] ++ Kl) rfl rfl Tw.kr Tw.kr Tw.kf (fun W hW => calls_out hW (Order_few [ob1, ob2, ob3, ob4] (some ⟨g38, 0, none⟩) 4 (by decide) W (rowx_slv (hW.2 _ Tw.m1) (row_lit [ob1, ob2, ob3, ob4])))) (fun _ _ h => by obtain ⟨_, _, _, rfl⟩ := h; exact fun p hp => List.mem_append_left _ hp) Tw.pf ?_
     rintro v47 K9 ⟨Kl47, O47, N47, rfl⟩
     obtain ⟨dj48_0, dj48_1, dj48_2, dj48_3, dj48_4, dj48_5, dj48_6, dj48_7, dj48_8, dj48_9, dj48_10, dj48_11, dj48_12, dj48_13, dj48_14, dj48_15, dj48_16, dj48_17, dj48_18, dj48_19, dj48_20⟩ : Dk g45 Kl47 ∧ Dk g38 Kl47 ∧ Dk g36 Kl47 ∧ Dk g34 Kl47 ∧ Dk g32 Kl47 ∧ Dk g30 Kl47 ∧ Dk g28 Kl47 ∧ Dk g26 Kl47 ∧ Dk g24 Kl47 ∧ Dk g22 Kl47 ∧ Dk g20 Kl47 ∧ Dk g18 Kl47 ∧ Dk g16 Kl47 ∧ Dk g14 Kl47 ∧ Dk g12 Kl47 ∧ Dk g10 Kl47 ∧ Dk g8 Kl47 ∧ Dk g6 Kl47 ∧ Dk g4 Kl47 ∧ Dk g2 Kl47 ∧ Dk g1 Kl47 := Tw.djf N47
     obtain ⟨p49, c49, rfl, hc49, HB49⟩ := own_bs O47
     refine vv (i := 18) (v := .bool true) rfl rfl rfl (yb_call (f := 28) (args := #[.slice p49 ([ob1, ob2, ob3, ob4].length) c49, .slice (some ⟨g45, 0, none⟩) 4 4]) Tw.kf fun W hW => same_true (orderX [ob1, ob2, ob3, ob4]) [ob3, ob4, ob2, ob1] p49 (some ⟨g45, 0, none⟩) c49 4 (by first | omega | (simp; done) | (simp; omega) | decide) W (HB49 W (hW.sub (fun p hp => by simp only [List.mem_cons, List.mem_append, List.nil_append, List.not_mem_nil, or_assoc, or_false, false_or, hp, true_or, or_true]))) (rowx_slv (hW.2 _ Tw.m0) (row_lit [ob3, ob4, ob2, ob1])) (by decide +kernel)) ?_
     refine vm (i := 19) (v := .bool true) rfl rfl rfl ?_
     refine vm (i := 20) (v := .bool true) rfl rfl rfl ?_
     refine wpV_done Tw.kr (fun W41 hW41 => ?_) _
     change Code.wp ..
     refine wp_ret ?_
     try simp only [inBlock_ret, then_ret]
     refine bodyPost_ret (v := .bool true) ?_ rfl ?_
     · kernel_rfl
     · exact ⟨rfl, hW41.1⟩
 · refine stepV_nsg (fun g => .slice (some ⟨g, 0, none⟩) 4 4) (i := 17) (obi := .cells ((bcs [ob3, ob4, ob2, ob1]).toArray) 26 (0, 0)) rfl rfl rfl Tw.kf Tw.pf fun g50 Bg50 Fg50 => ?_
   obtain ⟨dj51_0, dj51_1, dj51_2, dj51_3, dj51_4, dj51_5, dj51_6, dj51_7, dj51_8, dj51_9, dj51_10, dj51_11, dj51_12, dj51_13, dj51_14, dj51_15, dj51_16, dj51_17, dj51_18⟩ : g36 ≠ g50 ∧ g34 ≠ g50 ∧ g32 ≠ g50 ∧ g30 ≠ g50 ∧ g28 ≠ g50 ∧ g26 ≠ g50 ∧ g24 ≠ g50 ∧ g22 ≠ g50 ∧ g20 ≠ g50 ∧ g18 ≠ g50 ∧ g16 ≠ g50 ∧ g14 ≠ g50 ∧ g12 ≠ g50 ∧ g10 ≠ g50 ∧ g8 ≠ g50 ∧ g6 ≠ g50 ∧ g4 ≠ g50 ∧ g2 ≠ g50 ∧ g1 ≠ g50 := Tw.dkf Fg50
   refine wpV_nsg (fun g => .slice (some ⟨g, 0, none⟩) 4 4) (i := 11) (obi := .cells ((bcs [ob1, ob2, ob3, ob4]).toArray) 26 (0, 0)) rfl rfl rfl Tw.kr Tw.kf Tw.pf fun g52 Bg52 Fg52 => ?_
   obtain ⟨dj53_0, dj53_1, dj53_2, dj53_3, dj53_4, dj53_5, dj53_6, dj53_7, dj53_8, dj53_9, dj53_10, dj53_11, dj53_12, dj53_13, dj53_14, dj53_15, dj53_16, dj53_17, dj53_18, dj53_19⟩ : g50 ≠ g52 ∧ g36 ≠ g52 ∧ g34 ≠ g52 ∧ g32 ≠ g52 ∧ g30 ≠ g52 ∧ g28 ≠ g52 ∧ g26 ≠ g52 ∧ g24 ≠ g52 ∧ g22 ≠ g52 ∧ g20 ≠ g52 ∧ g18 ≠ g52 ∧ g16 ≠ g52 ∧ g14 ≠ g52 ∧ g12 ≠ g52 ∧ g10 ≠ g52 ∧ g8 ≠ g52 ∧ g6 ≠ g52 ∧ g4 ≠ g52 ∧ g2 ≠ g52 ∧ g1 ≠ g52 := Tw.dkf Fg52
   refine wpV_c (i := 12) (fun v K9 => ∃ Kl, OwnL w 26 9 v [ob1, ob2, ob3, ob4].length (bcs (orderX [ob1, ob2, ob3, ob4])) Kl ∧ (∀ p ∈ ([(g52, .cells ((bcs [ob1, ob2, ob3, ob4]).toArray) 26 (0, 0)), (g50, .cells ((bcs [ob3, ob4, ob2, ob1]).toArray) 26 (0, 0)), (g36, .cells ((bcs [exB, exB]).toArray) 26 (0, 0)), (g34, .cells (bxC ob4) 26 (0, 0)), (g32, .cells (bxC ob3) 26 (0, 0)), (g30, .cells (bxC ob2) 26 (0, 0)), (g28, .cells (bxC ob1) 26 (0, 0)), (g26, .cells (bxC exN) 26 (0, 0)), (g24, .cells (bxC exC) 26 (0, 0)), (g22, .cells (bxC exL) 26 (0, 0)), (g20, .cells (bxC exD) 26 (0, 0)), (g18, .cells (bxC exH) 26 (0, 0)), (g16, .cells (bxC exS) 26 (0, 0)), (g14, .cells ((bcs [exS, exH, exD, exL, exC, exN]).toArray) 26 (0, 0)), (g12, .cells (bxC exN) 26 (0, 0)), (g10, .cells (bxC exC) 26 (0, 0)), (g8, .cells (bxC exL) 26 (0, 0)), (g6, .cells (bxC exD) 26 (0, 0)), (g4, .cells (bxC exH) 26 (0, 0)), (g2, .cells (bxC exS) 26 (0, 0)), (g1, .cells (bxC exR) 26 (0, 0))] : List (Nat × Obj)), ∀ q ∈ Kl, q.1 ≠ p.1) ∧ K9 = [(g52, .cells ((bcs [ob1, ob2, ob3, ob4]).toArray) 26 (0, 0)), (g50, .cells ((bcs [ob3, ob4, ob2, ob1]).toArray) 26 (0, 0)), (g36, .cells ((bcs [exB, exB]).toArray) 26 (0, 0)), (g34, .cells (bxC ob4) 26 (0, 0)), (g32, .cells (bxC ob3) 26 (0, 0)), (g30, .cells (bxC ob2) 26 (0, 0)), (g28, .cells (bxC ob1) 26 (0, 0)), (g26, .cells (bxC exN) 26 (0, 0)), (g24, .cells (bxC exC) 26 (0, 0)), (g22, .cells (bxC exL) 26 (0, 0)), (g20, .cells (bxC exD) 26 (0, 0)), (g18, .cells (bxC exH) 26 (0, 0)), (g16, .cells (bxC exS) 26 (0, 0)), (g14, .cells ((bcs [exS, exH, exD, exL, exC, exN]).toArray) 26 (0, 0)), (g12, .cells (bxC exN) 26 (0, 0)), (g10, .cells (bxC exC) 26 (0, 0)), (g8, .cells (bxC exL) 26 (0, 0)), (g6, .cells (bxC exD) 26 (0, 0)), (g4, .cells (bxC exH) 26 (0, 0)), (g2, .cells (bxC exS) 26 (0, 0)), (g1, .cells (bxC exR) 26 (0, 0))] ++ Kl) rfl rfl Tw.kr Tw.kr Tw.kf (fun W hW => calls_out hW (Order_few [ob1, ob2, ob3, ob4] (some ⟨g52, 0, none⟩) 4 (by decide) W (rowx_slv (hW.2 _ Tw.m0) (row_lit [ob1, ob2, ob3, ob4])))) (fun _ _ h => by obtain ⟨_, _, _, rfl⟩ := h; exact fun p hp => List.mem_append_left _ hp) Tw.pf ?_
   rintro v54 K9 ⟨Kl54, O54, N54, rfl⟩
   obtain ⟨dj55_0, dj55_1, dj55_2, dj55_3, dj55_4, dj55_5, dj55_6, dj55_7, dj55_8, dj55_9, dj55_10, dj55_11, dj55_12, dj55_13, dj55_14, dj55_15, dj55_16, dj55_17, dj55_18, dj55_19, dj55_20⟩ : Dk g52 Kl54 ∧ Dk g50 Kl54 ∧ Dk g36 Kl54 ∧ Dk g34 Kl54 ∧ Dk g32 Kl54 ∧ Dk g30 Kl54 ∧ Dk g28 Kl54 ∧ Dk g26 Kl54 ∧ Dk g24 Kl54 ∧ Dk g22 Kl54 ∧ Dk g20 Kl54 ∧ Dk g18 Kl54 ∧ Dk g16 Kl54 ∧ Dk g14 Kl54 ∧ Dk g12 Kl54 ∧ Dk g10 Kl54 ∧ Dk g8 Kl54 ∧ Dk g6 Kl54 ∧ Dk g4 Kl54 ∧ Dk g2 Kl54 ∧ Dk g1 Kl54 := Tw.djf N54
   obtain ⟨p56, c56, rfl, hc56, HB56⟩ := own_bs O54
   refine vv (i := 18) (v := .bool true) rfl rfl rfl (yb_call (f := 28) (args := #[.slice p56 ([ob1, ob2, ob3, ob4].length) c56, .slice (some ⟨g50, 0, none⟩) 4 4]) Tw.kf fun W hW => same_true (orderX [ob1, ob2, ob3, ob4]) [ob3, ob4, ob2, ob1] p56 (some ⟨g50, 0, none⟩) c56 4 (by first | omega | (simp; done) | (simp; omega) | decide) W (HB56 W (hW.sub (fun p hp => by simp only [List.mem_cons, List.mem_append, List.nil_append, List.not_mem_nil, or_assoc, or_false, false_or, hp, true_or, or_true]))) (rowx_slv (hW.2 _ Tw.m1) (row_lit [ob3, ob4, ob2, ob1])) (by decide +kernel)) ?_
   refine vm (i := 19) (v := .bool true) rfl rfl rfl ?_
   refine vm (i := 20) (v := .bool true) rfl rfl rfl ?_
   refine wpV_done Tw.kr (fun W42 hW42 => ?_) _
   change Code.wp ..
   refine wp_ret ?_
   try simp only [inBlock_ret, then_ret]
   refine bodyPost_ret (v := .bool true) ?_ rfl ?_
   · kernel_rfl
   · exact ⟨rfl, hW42.1⟩
end Go.Proofs.YtllmpemmknblaaaDoor
/- A package-level variable of plain data reads as its cells: structs, arrays, numbers, bools, strings. Over any program. -/
namespace Tw
open Go Go.RowKit Go.Proofs.YtllmpemmknblaaaDoor
section
variable {H : Type} {P : Program}
def contig : Nat → List (Nat × Nat) → Option Nat
 | off, [] => some off
 | off, (o, n) :: r => if o = off then contig (off + n) r else none
theorem chunks {cs : List Value} : ∀ (l : List (Nat × Nat)) (ch : List (List Value)) (off tot : Nat), contig off l = some tot → cs.length = tot → l.length = ch.length →
   (∀ (i : Nat) (x : Nat × Nat) (c : List Value), l[i]? = some x → ch[i]? = some c → (cs.drop x.1).take x.2 = c) → cs.drop off = ch.flatten
 | [], [], off, tot, h, hl, _, _ => by
   simp only [contig, Option.some.injEq] at h
   rw [List.drop_eq_nil_of_le Tw.om]
   rfl
 | [], _ :: _, _, _, _, _, hn, _ => by simp at hn
 | _ :: _, [], _, _, _, _, hn, _ => by simp at hn
 | (o, n) :: l, c :: ch, off, tot, h, hl, hn, hc => by
   simp only [contig] at h
   split at h
   · rename_i ho
     subst ho
     have h0 := hc 0 (o, n) c rfl rfl
     have ih := chunks l ch (o + n) tot h hl (by simpa using hn) (fun i x d hx hd => hc (i + 1) x d (by simpa using hx) (by simpa using hd))
     rw [List.flatten_cons, ← ih, ← h0, ← List.drop_drop]
     exact (List.take_append_drop n (cs.drop o)).symm
   · cases h
def plainOf (P : Program) : Nat → TypeId → DataW H → Option (List Value)
 | 0, _, _ => none
 | f + 1, t, d => match P.underlying t, d with
   | some .bool, .lit (.bool b) => some [.bool b]
   | some (.int _), .lit (.int k n) => some [.int k n]
   | some .string, .lit (.string s) => some [.string ⟨s.toArray⟩]
   | some (.struct fs), .agg ds =>
     if fs.size = ds.length ∧ contig 0 (fs.toList.map fun f => (f.offset, P.cellsOf f.type)) = some (P.cellsOf t) then ((fs.toList.zip ds).mapM fun x => plainOf P f x.1.type x.2).map List.flatten else none
   | some (.array n e), .agg ds =>
     if n = ds.length ∧ contig 0 ((List.range n).map fun i => (i * P.cellsOf e, P.cellsOf e)) = some (P.cellsOf t) then (ds.mapM fun x => plainOf P f e x).map List.flatten else none
   | _, _ => none
theorem mapM_get {α β : Type} {f : α → Option β} : ∀ {l : List α} {r : List β}, l.mapM f = some r → r.length = l.length ∧ ∀ (i : Nat) (a : α), l[i]? = some a → ∃ b, r[i]? = some b ∧ f a = some b := fun h => ⟨Lib.mapM_length h, Lib.mapM_at h⟩
theorem plain_inv {enc : TypeId × Value → H} {w : World} {base : Nat} {sp : Nat → Bool} {held : Bool} : ∀ (f fuel : Nat) (t : TypeId) (d : DataW H) (cs cs0 : List Value) (p : List MemPlace),
   plainOf P f t d = some cs0 → DataW.trod enc P w base sp held fuel t cs = some (d, p) → cs = cs0
 | 0, _, _, _, _, _, _, h, _ => by cases h
 | _ + 1, 0, _, _, _, _, _, _, h => by simp [DataW.trod] at h
 | f + 1, fuel + 1, t, d, cs, cs0, p, hp, ht => by
   unfold plainOf at hp
   unfold DataW.trod at ht
   split at hp
   · rename_i hu
     rw [hu] at ht
     simp only at ht
     split at ht <;> simp_all
   · rename_i hu
     rw [hu] at ht
     simp only at ht
     split at ht <;> simp_all
   · rename_i hu
     rw [hu] at ht
     simp only at ht
     split at ht <;> simp_all
     obtain ⟨_, h2, _⟩ := ht
     rw [← hp, ← h2]
   · rename_i fs ds hu
     rw [hu] at ht
     simp only at ht
     split at hp
     · rename_i hg
       obtain ⟨h1, h2⟩ := hg
       split at ht
       · rename_i hl
         obtain ⟨xs, hm, hx⟩ := Option.map_eq_some_iff.1 ht
         obtain ⟨ys, hn, hy⟩ := Option.map_eq_some_iff.1 hp
         simp only [Prod.mk.injEq, DataW.agg.injEq] at hx
         obtain ⟨hx, _⟩ := hx
         obtain ⟨m1, m2⟩ := mapM_get hm
         obtain ⟨n1, n2⟩ := mapM_get hn
         have hzl : (fs.toList.zip ds).length = fs.size := by simp [List.length_zip]; omega
         subst hy
         have := chunks (cs := cs) _ ys 0 _ h2 hl (by simp only [List.length_map, Array.length_toList]; omega) (fun i x c hx1 hc => by
           rw [List.getElem?_map] at hx1
           obtain ⟨fd, hfd, rfl⟩ := Option.map_eq_some_iff.1 hx1
           obtain ⟨b, hb, hfb⟩ := m2 i fd hfd
           have hdi : ds[i]? = some b.1 := by rw [← hx, List.getElem?_map, hb]; rfl
           have hz : (fs.toList.zip ds)[i]? = some (fd, b.1) := by rw [List.getElem?_zip_eq_some]; exact ⟨hfd, hdi⟩
           obtain ⟨c', hc', hpl⟩ := n2 i _ hz
           rw [hc] at hc'
           cases hc'
           exact plain_inv f fuel _ _ _ _ b.2 hpl hfb)
         simpa using this
       · cases ht
     · cases hp
   · rename_i n e ds hu
     rw [hu] at ht
     simp only at ht
     split at hp
     · rename_i hg
       obtain ⟨h1, h2⟩ := hg
       split at ht
       · rename_i hl
         obtain ⟨xs, hm, hx⟩ := Option.map_eq_some_iff.1 ht
         obtain ⟨ys, hn, hy⟩ := Option.map_eq_some_iff.1 hp
         simp only [Prod.mk.injEq, DataW.agg.injEq] at hx
         obtain ⟨hx, _⟩ := hx
         obtain ⟨m1, m2⟩ := mapM_get hm
         obtain ⟨n1, n2⟩ := mapM_get hn
         subst hy
         have := chunks (cs := cs) _ ys 0 _ h2 hl (by simp only [List.length_map, List.length_range]; omega) (fun i x c hx1 hc => by
           rw [List.getElem?_map] at hx1
           obtain ⟨j, hj, rfl⟩ := Option.map_eq_some_iff.1 hx1
           obtain ⟨b, hb, hfb⟩ := m2 i j hj
           have hij : j = i := by
             obtain ⟨hi, hi2⟩ := List.getElem?_eq_some_iff.1 hj
             rw [List.getElem_range] at hi2
             exact hi2.symm
           subst hij
           have hdi : ds[j]? = some b.1 := by rw [← hx, List.getElem?_map, hb]; rfl
           obtain ⟨c', hc', hpl⟩ := n2 j _ hdi
           rw [hc] at hc'
           cases hc'
           exact plain_inv f fuel _ _ _ _ b.2 hpl hfb)
         simpa using this
       · cases ht
     · cases hp
   · cases hp
theorem laid_plain {w : World} {name : String} {d : DataW Unit} {rest : List (String × DataW Unit)} {g : Nat} {t : TypeId} {cs0 : List Value} (f : Nat) (h : laidMet P ((name, d) :: rest) w)
   (hg : P.globalNamed name = some g) (ht : (P.globals[g]?).map (·.type) = some t) (hp : plainOf P f t d = some cs0) : w.var? P name = some cs0.toArray := by
 obtain ⟨ps, ⟨g', t', cs, fuel, p, q, hg', ht', hv, hd, _, _⟩, _⟩ := h
 obtain rfl := Option.some.inj (hg.symm.trans hg')
 obtain rfl := Option.some.inj (ht.symm.trans ht')
 have := plain_inv f fuel _ _ _ _ _ hp hd
 rw [hv]
 congr 1
 obtain ⟨l⟩ := cs
 exact congrArg Array.mk this
end
end Tw
namespace Go.Proofs.YtllmpemmknblaaaDoor
open Go Go.RowKit Tw
structure Sk where
 kind : Nat
 kilos : Nat
 load : Nat
 stay : Nat
 cls : Nat
 num : Nat
end Go.Proofs.YtllmpemmknblaaaDoor
/- What came in: records of plain cells, and lists of them. Over any program. -/
namespace Tw
open Go Go.RowKit Go.Proofs.YtllmpemmknblaaaDoor Go.ChangeShapes Go.WideShapes
section
variable {H : Type} {enc : TypeId × Value → H} {P : Program} {α : Type}
end
end Tw
namespace Go.Proofs.YtllmpemmknblaaaDoor
open Go Go.RowKit Tw
end Go.Proofs.YtllmpemmknblaaaDoor
/- From the row's condition to what the proofs ask; what came in. -/
namespace Go.Proofs.YtllmpemmknblaaaDoor
open Go.ChangeShapes Go.WideShapes Go.ChangeAt Go.RowKit Tw
open Go
theorem own : ownKnob Tryd.prog.godebug = none := by kernel_rfl
def laidN : List (String × DataW Unit) := [("twistlock/iso.kinds", Rows.laid_twistlock_iso_kinds)]
set_option maxRecDepth 100000 in
theorem door_met (os : Os) (args : Array Value) : laidMetH Tryd.prog laidN ((World.doorLaid Tryd.prog 1000 os).forCall (fun _ _ => 0) ⟨#[], args, []⟩).memory :=
 laidMetH_of_parts3 (fuel := 8) (laidMet_of_run' 8 Tw.kr Tw.kr) Tw.kr Tw.kr
theorem env_of {W : World} (h0 : laidMetH Tryd.prog laidN W) : Env W := by
 have h : laidMet Tryd.prog laidN W := by rw [MakeChecks.laidMetH_plain _ _ _ Tw.kr] at h0; exact h0
 exact ⟨laid_plain 8 h gKinds (t := 78) Tw.kr Tw.kr⟩
theorem handed_and_sized {H : Type} {enc : TypeId × Value → H} {a : Assume} {C : Checked} {os : Os} {f : FuncId} {fn : Func} {s : ChangeSpec} {conds : List PathCond} {apart fresh handsOn again : Bool} {X : World → Prop}
   (hX : ∀ (w w' : World), w.heap = w'.heap → X w → X w')
   (own : ownKnob C.prog.godebug = none) (started : os.Started) (noInit : C.prog.inits.idxOf? f = none) (hfn : C.prog.funcs[f]? = some fn)
   (witness : ∃ (w : World) (tape : Tape) (i : Input), w.os = os ∧ (w.forCall tape i).Shaped C.prog ∧ i.vars = [] ∧ Input.okWide C.prog (w.forCall tape i) .any w.heap.size f i ∧
     ((s.pre enc C.prog fn conds apart (w.forCall tape i).memory i.args ∧ X (w.forCall tape i).memory) ∧ sizedMet enc C.prog fn (OpenSpec.ofChange s) apart (w.forCall tape i).memory i.args) ∧ a.holds C.prog (lone (Frame.enter C.prog f i.args .normal) [] (w.forCall tape i)))
   (contract : ∀ (W : World) (base : Nat) (args : Array Value) (ds gs : List (DataW H)) (before : List MemPlace),
     (∀ (j : Nat) t v, fn.params[j]? = some t → args[j]? = some v → Value.okWide C.prog W .any base t v) →
     DataW.Whole enc C.prog fn.params.toList s.vars apart W args.toList ds gs before → X W → W.ShapedOpen C.prog →
     (DataW.weightsEach C.prog (fn.params.toList ++ s.plain.varTypes C.prog) (ds ++ gs)).all (· ≤ reachBytes) = true →
     Calls C.prog f args W fun e W' => ∃ v, e = .returned v ∧ s.post enc C.prog fn apart fresh handsOn again W args v W') :
   ReturnsInHanded a C os f .any (fun w args => (s.pre enc C.prog fn conds apart w args ∧ X w) ∧ sizedMet enc C.prog fn (OpenSpec.ofChange s) apart w args) (s.post enc C.prog fn apart fresh handsOn again) := by
 refine returnsInHanded_of_calls own started noInit witness fun w tape i _ hsh _ hok hpre _ => ?_
 obtain ⟨_, _, _, fn', hfn', _, _, _, _, hval⟩ := hok
 obtain rfl : fn' = fn := Option.some.inj (hfn'.symm.trans hfn)
 obtain ⟨⟨_, hx⟩, _, ds, gs, before, hw, hz⟩ := hpre
 refine (contract (w.forCall tape i) w.heap.size i.args ds gs before hval (DataW.Whole.of_heap (w' := w.forCall tape i) (by rfl) hw) (hX _ _ (by rfl) hx) hsh hz).mono fun e W' ⟨v, he, hp⟩ => ?_
 subst he
 exact ChangeSpec.post_blind hp
end Go.Proofs.YtllmpemmknblaaaDoor
