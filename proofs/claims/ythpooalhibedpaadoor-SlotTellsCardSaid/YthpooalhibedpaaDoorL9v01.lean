import Derived.Test.YthpooalhibedpaaDoorST00
import Derived.Test.YthpooalhibedpaaDoorL9v00
import Derived.Test.YthpooalhibedpaaDoorST04
import Derived.Test.YthpooalhibedpaaDoorST01
import Derived.Test.YthpooalhibedpaaDoorST02
/- Part of the proof: TZ, U1, U2, U5, L8p, L9q, L9o, L8q, L9p, L9m, L9n, L9i, L9j, L9k. -/
set_option linter.unusedVariables false
set_option linter.unusedSimpArgs false
set_option linter.unusedSectionVars false
namespace Go.Proofs.YthpooalhibedpaaDoor
open Go Go.RowKit Tw
def Tk.re (y : Tk) (q : Option Addr) (d : Nat) : Tk := { y with sp := q, sc := d }
def mkTnk (i : Nat) : Tk := ⟨mkI i, 0, 0, 0, 0, [], none, 0⟩
def StR (W : World) (ts : List Tk) : Prop := ∀ c ∈ ts, SLV W c.sp (c.steps.flatMap inC)
def mkTnkL (i : Nat) : List Tk := (List.range i).map mkTnk
theorem mkTnkL_len (i : Nat) : (mkTnkL i).length = i := by simp [mkTnkL]
theorem mkTnkL_s (i : Nat) : mkTnkL (i + 1) = mkTnkL i ++ [mkTnk i] := by simp [mkTnkL, List.range_succ]
theorem mkTnkL_at {i n : Nat} (h : i < n) : (mkTnkL n)[i]? = some (mkTnk i) := by simp [mkTnkL, h]
def LentT (l X : List Tk) (T : List (Nat × Obj)) : Prop := ∀ (j : Nat) (x : Tk), X[j]? = some x → ∃ y q d, l[j]? = some y ∧ x = y.re q d ∧ y.steps.length + 12 ≤ d ∧ HL inC q (y.steps ++ mkL 12) T
theorem LentT.nil (l : List Tk) : LentT l [] [] := fun _ _ h => by cases h
theorem LentT.mono {l X : List Tk} {T T' : List (Nat × Obj)} (h : LentT l X T) (hs : ∀ b ∈ T, b ∈ T') : LentT l X T' := fun j x hx => by
 obtain ⟨y, q, d, h1, h2, h3, h4⟩ := h j x hx
 exact ⟨y, q, d, h1, h2, h3, h4.mono hs⟩
theorem LentT.s {l X : List Tk} {T K : List (Nat × Obj)} {i d : Nat} {y : Tk} {q : Option Addr} (h : LentT l X T) (hi : X.length = i) (hy : l[i]? = some y) (hd : y.steps.length + 12 ≤ d) (hH : HL inC q (y.steps ++ mkL 12) K) : LentT l (X ++ [y.re q d]) (T ++ K) := fun j x hx => by
 by_cases e : j < X.length
 · rw [List.getElem?_append_left e] at hx
   exact h.mono (fun b hb => List.mem_append_left _ hb) j x hx
 · rw [List.getElem?_append_right Tw.om] at hx
   have e2 : j - X.length = 0 := by
     have := (List.getElem?_eq_some_iff.1 hx).1
     simp only [List.length_singleton] at this
     omega
   rw [e2] at hx
   cases hx
   have e3 : j = i := by omega
   subst e3
   exact ⟨y, q, d, hy, rfl, hd, hH.mono fun b hb => List.mem_append_right _ hb⟩
def LentTA (W : World) (l X : List Tk) : Prop := ∀ (j : Nat) (x : Tk), X[j]? = some x → ∃ y q d, l[j]? = some y ∧ x = y.re q d ∧ y.steps.length + 12 ≤ d ∧ SLV W q ((y.steps ++ mkL 12).flatMap inC)
theorem LentT.at {W : World} {l X : List Tk} {T : List (Nat × Obj)} (h : LentT l X T) (hT : ∀ b ∈ T, W.heap[b.1]? = some b.2) : LentTA W l X := fun j x hx => by
 obtain ⟨y, q, d, h1, h2, h3, h4⟩ := h j x hx
 exact ⟨y, q, d, h1, h2, h3, h4 W hT⟩
theorem lentTA_at {W : World} {l X : List Tk} {i : Nat} {x y : Tk} (h : LentTA W l X) (hx : (X ++ mkTnkL 12)[i]? = some x) (hl : X.length = l.length) (hy : l[i]? = some y) : ∃ q d, x = y.re q d ∧ y.steps.length + 12 ≤ d ∧ SLV W q ((y.steps ++ mkL 12).flatMap inC) := by
 have hi := (List.getElem?_eq_some_iff.1 hy).1
 rw [List.getElem?_append_left Tw.om] at hx
 obtain ⟨z, q, d, h1, h2, h3, h4⟩ := h i x hx
 rw [hy] at h1
 cases h1
 exact ⟨q, d, h2, h3, h4⟩
theorem markTA_at {l X : List Tk} {i : Nat} {x : Tk} (hx : (X ++ mkTnkL 12)[i]? = some x) (hl : X.length = l.length) (h : ¬ i < l.length) : x = mkTnk (i - l.length) := by
 have h2 := (List.getElem?_eq_some_iff.1 hx).1
 rw [List.length_append, mkTnkL_len] at h2
 rw [List.getElem?_append_right Tw.om, mkTnkL_at Tw.om, hl] at hx
 exact (Option.some.inj hx).symm
theorem lentTA_pre {W : World} {l X : List Tk} {i : Nat} {x y : Tk} (h : LentTA W l X) (hx : X[i]? = some x) (hy : l[i]? = some y) : ∃ q d, x = y.re q d ∧ SLV W q (y.steps.flatMap inC) := by
 obtain ⟨z, q, d, h1, h2, _, h4⟩ := h i x hx
 rw [hy] at h1
 cases h1
 exact ⟨q, d, h2, slv_pre0 h4⟩
theorem SameIntsL_yes (l : List Int) (p q : Option Addr) (c d : Nat) (hl : l.length ≤ 17592186044403) (w : World) (hp : SLV w p (l.flatMap inC)) (hq : SLV w q (l.flatMap inC)) : Calls Tryd.prog 110 #[.slice p l.length c, .slice q l.length d] w fun e w' => e = .returned (.bool true) ∧ Below w.heap.size w w' := by
 have h := SameIntsL_any l l p q c d hl w hp hq
 rwa [decide_eq_true (rfl : l = l)] at h
set_option maxRecDepth 100000 in
set_option maxHeartbeats 4000000 in
theorem SameTank_any (y : Tk) (q : Option Addr) (d : Nat) (hl : y.steps.length ≤ 17592186044403) (w : World) (hp : SLV w y.sp (y.steps.flatMap inC)) (hq : SLV w q (y.steps.flatMap inC)) : Calls Tryd.prog 95 #[.agg (tkC y).toArray, .agg (tkC (y.re q d)).toArray] w fun e w' => e = .returned (.bool true) ∧ Below w.heap.size w w' := by
 have HP := Lib.hid hp
 clear hp
 have HQ := Lib.hid hq
 clear hq
 go_enter Tryd.func95, Tryd.ntmps95
 refine wp_seq ?_
 refine wp_region_L [] (KS.start w) ?_
 refine wpL_new (fun g => .pointer (some ⟨g, 0, none⟩)) (obi := .cells (tkC y).toArray 129 (0, 0)) rfl rfl Tw.kf Tw.pf fun g1 Bg1 Fg1 => ?_
 refine wpL_new (fun g => .pointer (some ⟨g, 0, none⟩)) (obi := .cells (tkC (y.re q d)).toArray 129 (0, 0)) rfl rfl Tw.kf Tw.pf fun g2 Bg2 Fg2 => ?_
 obtain dj3_0 : g1 ≠ g2 := Tw.dkf Fg2
 refine lm (v := .bool false) rfl rfl ?_
 refine wpL_done (fun W1 hW1 => ?_)
 change Code.wp ..
 refine wp_seq ?_
 refine wp_region_L _ hW1 ?_
 refine lm (v := .pointer (some ⟨g1, 0, none⟩)) rfl rfl ?_
 refine lv (v := .int .i64 y.kilos) rfl rfl (yb_cell (off := 0) rfl Tw.kr Tw.m1 Tryd.underlying3 rfl Tw.kr) ?_
 refine lm (v := .pointer (some ⟨g2, 0, none⟩)) rfl rfl ?_
 refine lv (v := .int .i64 ((y.re q d).kilos)) rfl rfl (yb_cell (off := 0) rfl Tw.kr Tw.m0 Tryd.underlying3 rfl Tw.kr) ?_
 refine lp (v := .bool (decide (y.kilos = ((y.re q d).kilos)))) rfl rfl (run_bin rfl (vx := (.int .i64 y.kilos)) (vy := (.int .i64 ((y.re q d).kilos))) Tw.kr Tw.kr fun w => bi_eql rfl w) ?_
 refine lm (v := .bool (decide (y.kilos = ((y.re q d).kilos)))) rfl rfl ?_
 cases hd1 : (decide (y.kilos = ((y.re q d).kilos))) with
 | false =>
   have h1 : ¬ (y.kilos = ((y.re q d).kilos)) := of_decide_eq_false hd1
   clear hd1
   exact absurd rfl h1
 | true =>
   have h1 : y.kilos = ((y.re q d).kilos) := of_decide_eq_true hd1
   clear hd1
   refine lm (v := .pointer (some ⟨g1, 1, none⟩)) rfl rfl ?_
   refine lv (v := .int .i64 y.x) rfl rfl (yb_cell (off := 1) rfl Tw.kr Tw.m1 Tryd.underlying3 rfl Tw.kr) ?_
   refine lm (v := .pointer (some ⟨g2, 1, none⟩)) rfl rfl ?_
   refine lv (v := .int .i64 ((y.re q d).x)) rfl rfl (yb_cell (off := 1) rfl Tw.kr Tw.m0 Tryd.underlying3 rfl Tw.kr) ?_
   refine lp (v := .bool (decide (y.x = ((y.re q d).x)))) rfl rfl (run_bin rfl (vx := (.int .i64 y.x)) (vy := (.int .i64 ((y.re q d).x))) Tw.kr Tw.kr fun w => bi_eql rfl w) ?_
   refine lm (v := .bool (decide (y.x = ((y.re q d).x)))) rfl rfl ?_
   refine lm (v := .bool (decide (y.x = ((y.re q d).x)))) rfl rfl ?_
   cases hd2 : (decide (y.x = ((y.re q d).x))) with
   | false =>
     have h2 : ¬ (y.x = ((y.re q d).x)) := of_decide_eq_false hd2
     clear hd2
     exact absurd rfl h2
   | true =>
     have h2 : y.x = ((y.re q d).x) := of_decide_eq_true hd2
     clear hd2
     refine lm (v := .pointer (some ⟨g1, 2, none⟩)) rfl rfl ?_
     refine lv (v := .int .i64 y.y) rfl rfl (yb_cell (off := 2) rfl Tw.kr Tw.m1 Tryd.underlying3 rfl Tw.kr) ?_
     refine lm (v := .pointer (some ⟨g2, 2, none⟩)) rfl rfl ?_
     refine lv (v := .int .i64 ((y.re q d).y)) rfl rfl (yb_cell (off := 2) rfl Tw.kr Tw.m0 Tryd.underlying3 rfl Tw.kr) ?_
     refine lp (v := .bool (decide (y.y = ((y.re q d).y)))) rfl rfl (run_bin rfl (vx := (.int .i64 y.y)) (vy := (.int .i64 ((y.re q d).y))) Tw.kr Tw.kr fun w => bi_eql rfl w) ?_
     refine lm (v := .bool (decide (y.y = ((y.re q d).y)))) rfl rfl ?_
     refine lm (v := .bool (decide (y.y = ((y.re q d).y)))) rfl rfl ?_
     cases hd3 : (decide (y.y = ((y.re q d).y))) with
     | false =>
       have h3 : ¬ (y.y = ((y.re q d).y)) := of_decide_eq_false hd3
       clear hd3
       exact absurd rfl h3
     | true =>
       have h3 : y.y = ((y.re q d).y) := of_decide_eq_true hd3
       clear hd3
       refine lm (v := .pointer (some ⟨g1, 3, none⟩)) rfl rfl ?_
       refine lv (v := .int .i64 y.z) rfl rfl (yb_cell (off := 3) rfl Tw.kr Tw.m1 Tryd.underlying3 rfl Tw.kr) ?_
       refine lm (v := .pointer (some ⟨g2, 3, none⟩)) rfl rfl ?_
       refine lv (v := .int .i64 ((y.re q d).z)) rfl rfl (yb_cell (off := 3) rfl Tw.kr Tw.m0 Tryd.underlying3 rfl Tw.kr) ?_
       refine lp (v := .bool (decide (y.z = ((y.re q d).z)))) rfl rfl (run_bin rfl (vx := (.int .i64 y.z)) (vy := (.int .i64 ((y.re q d).z))) Tw.kr Tw.kr fun w => bi_eql rfl w) ?_
       refine lm (v := .bool (decide (y.z = ((y.re q d).z)))) rfl rfl ?_
       refine lm (v := .bool (decide (y.z = ((y.re q d).z)))) rfl rfl ?_
       cases hd4 : (decide (y.z = ((y.re q d).z))) with
       | false =>
         have h4 : ¬ (y.z = ((y.re q d).z)) := of_decide_eq_false hd4
         clear hd4
         exact absurd rfl h4
       | true =>
         have h4 : y.z = ((y.re q d).z) := of_decide_eq_true hd4
         clear hd4
         refine lm (v := .pointer (some ⟨g1, 4, none⟩)) rfl rfl ?_
         refine lv (v := .int .i64 y.surface) rfl rfl (yb_cell (off := 4) rfl Tw.kr Tw.m1 Tryd.underlying3 rfl Tw.kr) ?_
         refine lm (v := .pointer (some ⟨g2, 4, none⟩)) rfl rfl ?_
         refine lv (v := .int .i64 ((y.re q d).surface)) rfl rfl (yb_cell (off := 4) rfl Tw.kr Tw.m0 Tryd.underlying3 rfl Tw.kr) ?_
         refine lp (v := .bool (decide (y.surface = ((y.re q d).surface)))) rfl rfl (run_bin rfl (vx := (.int .i64 y.surface)) (vy := (.int .i64 ((y.re q d).surface))) Tw.kr Tw.kr fun w => bi_eql rfl w) ?_
         refine lm (v := .bool (decide (y.surface = ((y.re q d).surface)))) rfl rfl ?_
         refine lm (v := .bool (decide (y.surface = ((y.re q d).surface)))) rfl rfl ?_
         cases hd5 : (decide (y.surface = ((y.re q d).surface))) with
         | false =>
           have h5 : ¬ (y.surface = ((y.re q d).surface)) := of_decide_eq_false hd5
           clear hd5
           exact absurd rfl h5
         | true =>
           have h5 : y.surface = ((y.re q d).surface) := of_decide_eq_true hd5
           clear hd5
           refine lm (v := .pointer (some ⟨g1, 5, none⟩)) rfl rfl ?_
           refine lv (v := .slice y.sp y.steps.length y.sc) rfl rfl (yb_cell (off := 5) rfl Tw.kr Tw.m1 Tryd.underlying63 rfl Tw.kr) ?_
           refine lm (v := .pointer (some ⟨g2, 5, none⟩)) rfl rfl ?_
           refine lv (v := .slice ((y.re q d).sp) (((y.re q d).steps).length) ((y.re q d).sc)) rfl rfl (yb_cell (off := 5) rfl Tw.kr Tw.m0 Tryd.underlying63 rfl Tw.kr) ?_
           refine lv (v := .bool true) rfl rfl (yb_call (f := 110) (args := #[.slice y.sp y.steps.length y.sc, .slice ((y.re q d).sp) (((y.re q d).steps).length) ((y.re q d).sc)]) Tw.kf fun W hW => SameIntsL_yes y.steps y.sp q y.sc d hl W ((RL.base HP.out) _ (hW.sub (fun _ h => by cases h))) ((RL.base HQ.out) _ (hW.sub (fun _ h => by cases h)))) ?_
           refine lm (v := .bool true) rfl rfl ?_
           refine lm (v := .bool true) rfl rfl ?_
           refine wpL_done (fun W2 hW2 => ?_)
           change Code.wp ..
           refine wp_ret ?_
           try simp only [inBlock_ret, then_ret]
           refine bodyPost_ret (v := .bool true) ?_ rfl ?_
           · kernel_rfl
           · exact ⟨rfl, hW2.1⟩
set_option maxRecDepth 100000 in
set_option maxHeartbeats 4000000 in
theorem KeptTank_any (y : Tk) (q : Option Addr) (d : Nat) (hl : y.steps.length ≤ 17592186044403) (hd : y.steps.length + 12 ≤ d) (w : World) (hp : SLV w y.sp (y.steps.flatMap inC)) (hq : SLV w q ((y.steps ++ mkL 12).flatMap inC)) : Calls Tryd.prog 94 #[.agg (tkC (y.re q d)).toArray, .agg (tkC y).toArray] w fun e w' => e = .returned (.bool true) ∧ Below w.heap.size w w' := by
 have HP := Lib.hid hp
 clear hp
 have HQ := Lib.hid hq
 clear hq
 go_enter Tryd.func94, Tryd.ntmps94
 refine wp_seq ?_
 refine wp_region_L [] (KS.start w) ?_
 refine wpL_new (fun g => .pointer (some ⟨g, 0, none⟩)) (obi := .cells (tkC (y.re q d)).toArray 129 (0, 0)) rfl rfl Tw.kf Tw.pf fun g1 Bg1 Fg1 => ?_
 refine wpL_new (fun g => .pointer (some ⟨g, 0, none⟩)) (obi := .cells (tkC y).toArray 129 (0, 0)) rfl rfl Tw.kf Tw.pf fun g2 Bg2 Fg2 => ?_
 obtain dj3_0 : g1 ≠ g2 := Tw.dkf Fg2
 refine lm (v := .bool false) rfl rfl ?_
 refine wpL_done (fun W1 hW1 => ?_)
 change Code.wp ..
 refine wp_seq ?_
 refine wp_region_L _ hW1 ?_
 refine lv (v := .agg (tkC (y.re q d)).toArray) rfl rfl (yb_load (n := 6) (off := 0) rfl Tw.kr Tw.m1 Tryd.underlying129 rfl Tw.kr (by first | (simp [Value.cells]; done) | exact Nat.le_of_ble_eq_true rfl) Tw.kr) ?_
 refine lv (v := .agg (tkC y).toArray) rfl rfl (yb_load (n := 6) (off := 0) rfl Tw.kr Tw.m0 Tryd.underlying129 rfl Tw.kr (by first | (simp [Value.cells]; done) | exact Nat.le_of_ble_eq_true rfl) Tw.kr) ?_
 refine lv (v := .bool true) rfl rfl (yb_call (f := 95) (args := #[.agg (tkC (y.re q d)).toArray, .agg (tkC y).toArray]) Tw.kf fun W hW => SameTank_any (y.re q d) y.sp y.sc (show y.steps.length ≤ 17592186044403 by omega) W (slv_pre0 (HQ.out.keep hW.1)) (HP.out.keep hW.1)) ?_
 refine lm (v := .bool true) rfl rfl ?_
 refine lm (v := .pointer (some ⟨g1, 5, none⟩)) rfl rfl ?_
 refine lv (v := .slice ((y.re q d).sp) (((y.re q d).steps).length) ((y.re q d).sc)) rfl rfl (yb_cell (off := 5) rfl Tw.kr Tw.m1 Tryd.underlying63 rfl Tw.kr) ?_
 refine lm (v := .pointer (some ⟨g2, 5, none⟩)) rfl rfl ?_
 refine lv (v := .slice y.sp y.steps.length y.sc) rfl rfl (yb_cell (off := 5) rfl Tw.kr Tw.m0 Tryd.underlying63 rfl Tw.kr) ?_
 refine lv (v := .bool true) rfl rfl (yb_call (f := 109) (args := #[.slice ((y.re q d).sp) (((y.re q d).steps).length) ((y.re q d).sc), .slice y.sp y.steps.length y.sc]) Tw.kf fun W hW => KeptIntsL_any y.steps q y.sp d y.sc hl hd W (HQ.out.keep hW.1) (HP.out.keep hW.1)) ?_
 refine lm (v := .bool true) rfl rfl ?_
 refine lm (v := .bool true) rfl rfl ?_
 refine wpL_done (fun W2 hW2 => ?_)
 change Code.wp ..
 refine wp_ret ?_
 try simp only [inBlock_ret, then_ret]
 refine bodyPost_ret (v := .bool true) ?_ rfl ?_
 · kernel_rfl
 · exact ⟨rfl, hW2.1⟩
set_option maxRecDepth 100000 in
set_option maxHeartbeats 4000000 in
theorem markTank_any (i : Nat) (hi : i ≤ 4000000000) (w : World) : Calls Tryd.prog 78 #[.int .i64 1, .int .i64 i] w fun e w' => e = .returned (.agg (tkC (mkTnk i)).toArray) ∧ Below w.heap.size w w' := by
 go_enter Tryd.func78, Tryd.ntmps78
 refine wp_seq ?_
 refine wp_region_L [] (KS.start w) ?_
 refine wpL_new (fun g => .pointer (some ⟨g, 0, none⟩)) (obi := .cells #[.int .i64 0, .int .i64 0, .int .i64 0, .int .i64 0, .int .i64 0, .slice none 0 0] 129 (0, 0)) rfl rfl Tw.kf Tw.pf fun g1 Bg1 Fg1 => ?_
 refine wpL_done (fun W1 hW1 => ?_)
 change Code.wp ..
 refine wp_seq ?_
 refine wp_region_L _ hW1 ?_
 refine lm (v := .int .i64 1) rfl rfl ?_
 refine lm (v := .int .i64 ((i : Nat) : Int)) rfl rfl ?_
 refine lv (v := .int .i64 (mkI i)) rfl rfl (yb_call (f := 79) (args := #[.int .i64 1, .int .i64 ((i : Nat) : Int)]) Tw.kf fun W hW => mark_any 1 ((i : Nat) : Int) Tw.om Tw.om W) ?_
 refine lm (v := .agg #[.int .i64 (mkI i), .int .i64 0, .int .i64 0, .int .i64 0, .int .i64 0, .slice none 0 0]) rfl rfl ?_
 refine wpL_s [(g1, .cells #[.int .i64 (mkI i), .int .i64 0, .int .i64 0, .int .i64 0, .int .i64 0, .slice none 0 0] 129 (0, 0))] rfl rfl (st_row (off := 0) (v := .agg #[.int .i64 (mkI i), .int .i64 0, .int .i64 0, .int .i64 0, .int .i64 0, .slice none 0 0]) rfl Tw.kr Tw.kr Tw.m0 Bg1 Tw.kr (by first | (simp [Value.cells]; done) | exact Nat.le_of_ble_eq_true rfl) (by intro v hv; simp [Value.cells] at hv; first | (subst hv; rfl) | (rcases hv with rfl | rfl | rfl | rfl | rfl | rfl <;> rfl)) Tw.kr (List.forall_mem_cons.2 ⟨.inl rfl, (List.forall_mem_nil _)⟩)) ?_
 refine wpL_done (fun W2 hW2 => ?_)
 change Code.wp ..
 refine wp_ret ?_
 try simp only [inBlock_ret, then_ret]
 refine bodyPost_ret (v := .agg #[.int .i64 (mkI i), .int .i64 0, .int .i64 0, .int .i64 0, .int .i64 0, .slice none 0 0]) ?_ rfl ?_
 · exact (res_cell (p := 4) rfl rfl (hW2.2 _ Tw.m0) Tryd.underlying129 rfl Tw.kr)
 · exact ⟨rfl, hW2.1⟩
set_option maxRecDepth 100000 in
set_option maxHeartbeats 4000000 in
theorem LentTank_any (y : Tk) (hl : y.steps.length ≤ 17592186044403) (w : World) (hp : SLV w y.sp (y.steps.flatMap inC)) : Calls Tryd.prog 77 #[.agg (tkC y).toArray] w fun e w' => ∃ q d, e = .returned (.agg (tkC (y.re q d)).toArray) ∧ y.steps.length + 12 ≤ d ∧ OutV w w' 3 1 (.slice q (y.steps ++ mkL 12).length d) (y.steps ++ mkL 12).length ((y.steps ++ mkL 12).flatMap inC) ∧ Below w.heap.size w w' := by
 have HP := Lib.hid hp
 clear hp
 have hlen : (y.steps ++ mkL 12).length = y.steps.length + 12 := by rw [List.length_append, mkL_len]
 go_enter Tryd.func77, Tryd.ntmps77
 refine wp_seq ?_
 refine wp_region_L [] (KS.start w) ?_
 refine wpL_new (fun g => .pointer (some ⟨g, 0, none⟩)) (obi := .cells (tkC y).toArray 129 (0, 0)) rfl rfl Tw.kf Tw.pf fun g1 Bg1 Fg1 => ?_
 refine wpL_new (fun g => .pointer (some ⟨g, 0, none⟩)) (obi := .cells #[.int .i64 0, .int .i64 0, .int .i64 0, .int .i64 0, .int .i64 0, .slice none 0 0] 129 (0, 0)) rfl rfl Tw.kf Tw.pf fun g2 Bg2 Fg2 => ?_
 obtain dj3_0 : g1 ≠ g2 := Tw.dkf Fg2
 refine wpL_done (fun W1 hW1 => ?_)
 change Code.wp ..
 refine wp_seq ?_
 refine wp_region_L _ hW1 ?_
 refine lm (v := .pointer (some ⟨g1, 5, none⟩)) rfl rfl ?_
 refine lv (v := .slice y.sp y.steps.length y.sc) rfl rfl (yb_cell (off := 5) rfl Tw.kr Tw.m1 Tryd.underlying63 rfl Tw.kr) ?_
 refine wpL_c (f := 108) (args := #[.slice y.sp y.steps.length y.sc]) (LentRL w 3 1 y.steps.length (y.steps ++ mkL 12).length ((y.steps ++ mkL 12).flatMap inC) [(g2, .cells #[.int .i64 0, .int .i64 0, .int .i64 0, .int .i64 0, .int .i64 0, .slice none 0 0] 129 (0, 0)), (g1, .cells (tkC y).toArray 129 (0, 0))]) rfl Tw.kr Tw.kf (fun W hW => calls_lent hW (((LentIntsL_any y.steps y.sp y.sc hl W (HP.out.keep hW.1)).mono fun _ _ ⟨q, d, h1, h2, h3⟩ => ⟨q, d, h1, by rw [hlen]; exact h2, h3⟩))) Tw.pf ?_
 rintro _ _ ⟨p4, c4, Kl4, rfl, n4, O4, N4, rfl⟩
 obtain ⟨dj5_0, dj5_1⟩ : Dk g2 Kl4 ∧ Dk g1 Kl4 := Tw.djf N4
 refine lm (v := .pointer (some ⟨g1, 5, none⟩)) rfl rfl ?_
 refine wpL_s ((g2, .cells #[.int .i64 0, .int .i64 0, .int .i64 0, .int .i64 0, .int .i64 0, .slice none 0 0] 129 (0, 0)) :: (g1, .cells #[.int .i64 y.kilos, .int .i64 y.x, .int .i64 y.y, .int .i64 y.z, .int .i64 y.surface, .slice p4 y.steps.length c4] 129 (0, 0)) :: Kl4) rfl rfl (st_row (off := 5) (v := .slice p4 y.steps.length c4) rfl Tw.kr Tw.kr Tw.m1 Bg1 Tw.kr (by first | (simp [Value.cells]; done) | exact Nat.le_of_ble_eq_true rfl) (by intro v hv; simp [Value.cells] at hv; first | (subst hv; rfl) | (rcases hv with rfl <;> rfl)) Tw.kr (List.forall_mem_cons.2 ⟨.inr ⟨Tw.m0, Tw.nee⟩, (List.forall_mem_cons.2 ⟨.inl rfl, (fun p hp => .inr ⟨(.tail _ (.tail _ hp)), ((show Dk g1 Kl4 from Tw.djt) _ hp)⟩)⟩)⟩)) ?_
 refine wpL_done (fun W2 hW2 => ?_)
 change Code.wp ..
 refine wp_seq ?_
 refine wp_region_L _ hW2 ?_
 refine lv (v := .agg #[.int .i64 y.kilos, .int .i64 y.x, .int .i64 y.y, .int .i64 y.z, .int .i64 y.surface, .slice p4 y.steps.length c4]) rfl rfl (yb_load (n := 6) (off := 0) rfl Tw.kr Tw.m1 Tryd.underlying129 rfl Tw.kr (by first | (simp [Value.cells]; done) | exact Nat.le_of_ble_eq_true rfl) Tw.kr) ?_
 refine wpL_s ((g2, .cells #[.int .i64 y.kilos, .int .i64 y.x, .int .i64 y.y, .int .i64 y.z, .int .i64 y.surface, .slice p4 y.steps.length c4] 129 (0, 0)) :: (g1, .cells #[.int .i64 y.kilos, .int .i64 y.x, .int .i64 y.y, .int .i64 y.z, .int .i64 y.surface, .slice p4 y.steps.length c4] 129 (0, 0)) :: Kl4) rfl rfl (st_row (off := 0) (v := .agg #[.int .i64 y.kilos, .int .i64 y.x, .int .i64 y.y, .int .i64 y.z, .int .i64 y.surface, .slice p4 y.steps.length c4]) rfl Tw.kr Tw.kr Tw.m0 Bg2 Tw.kr (by first | (simp [Value.cells]; done) | exact Nat.le_of_ble_eq_true rfl) (by intro v hv; simp [Value.cells] at hv; first | (subst hv; rfl) | (rcases hv with rfl | rfl | rfl | rfl | rfl | rfl <;> rfl)) Tw.kr (List.forall_mem_cons.2 ⟨.inl rfl, (List.forall_mem_cons.2 ⟨.inr ⟨Tw.m1, Tw.nee⟩, (fun p hp => .inr ⟨(.tail _ (.tail _ hp)), ((show Dk g2 Kl4 from Tw.djt) _ hp)⟩)⟩)⟩)) ?_
 refine wpL_done (fun W3 hW3 => ?_)
 change Code.wp ..
 refine wp_ret ?_
 try simp only [inBlock_ret, then_ret]
 refine bodyPost_ret (v := .agg #[.int .i64 y.kilos, .int .i64 y.x, .int .i64 y.y, .int .i64 y.z, .int .i64 y.surface, .slice p4 y.steps.length c4]) ?_ rfl ?_
 · exact (res_cell (p := 2) rfl rfl (hW3.2 _ Tw.m0) Tryd.underlying129 rfl Tw.kr)
 · exact ⟨p4, c4, rfl, by omega, O4.out (fun p hp => by simp only [List.mem_cons, List.mem_append, List.nil_append, List.not_mem_nil, or_assoc, or_false, false_or, hp, true_or, or_true]) hW3, hW3.1⟩
theorem sw_SameTank (y : Tk) (q : Option Addr) (d : Nat) (hl : y.steps.length ≤ 17592186044403) (w : World) (hp : SLV w y.sp (y.steps.flatMap inC)) (hq : SLV w q (y.steps.flatMap inC)) : Calls Tryd.prog 95 #[.agg (tkC (y.re q d)).toArray, .agg (tkC y).toArray] w fun e w' => e = .returned (.bool true) ∧ Below w.heap.size w w' := SameTank_any (y.re q d) y.sp y.sc hl w hq hp
set_option maxRecDepth 100000 in
set_option maxHeartbeats 4000000 in
theorem LentTanks_any (l : List Tk) (p : Option Addr) (c : Nat) (hl : l.length ≤ 2199023255488) (lr : ∀ o ∈ l, o.steps.length ≤ 17592186044403) (w : World) (hp : SLV w p (l.flatMap tkC)) (hr : StR w l) : Calls Tryd.prog 43 #[.slice p l.length c] w fun e w' => ∃ X q d T, e = .returned (.slice q l.length d) ∧ l.length + 12 ≤ d ∧ X.length = l.length ∧ LentT l X T ∧ HL tkC q (X ++ mkTnkL 12) T ∧ (∀ b ∈ T, w.heap.size ≤ b.1) ∧ KS (w : Base) T w' := by
 have HP := Lib.hid hp
 clear hp
 have HR := Lib.hid hr
 clear hr
 go_enter Tryd.func43, Tryd.ntmps43
 refine wp_seq ?_
 refine wp_region_L [] (KS.start w) ?_
 refine lm (v := .slice none 0 0) rfl rfl ?_
 refine wpL_done (fun W1 hW1 => ?_)
 change Code.wp ..
 refine wp_seq ?_
 refine wp_region_L _ hW1 ?_
 refine lm (v := .slice p l.length c) rfl rfl ?_
 refine lp (v := .int .i64 ((l.length : Nat) : Int)) rfl rfl (run_lenL (p := p) (cap := c) (n := l.length) rfl Tryd.underlying28 Tw.kr) ?_
 refine lp (v := .int .i64 (((l.length + 12) : Nat) : Int)) rfl rfl (run_bin rfl (vx := (.int .i64 ((l.length : Nat) : Int))) (vy := (.int .i64 ((12 : Nat) : Int))) Tw.kr Tw.kr fun w => bn_add (z := (l.length + 12)) rfl (wr_i64 Tw.om) w) ?_
 refine wpL_new (fun g => .slice (some ⟨g, 0, none⟩) 0 (l.length + 12)) (obi := .cells (madeCells (Value.cells (.agg #[.int .i64 0, .int .i64 0, .int .i64 0, .int .i64 0, .int .i64 0, .slice none 0 0])) ((l.length + 12) * 6)) 129 (0, 0)) rfl rfl (run_mk0L (c := (l.length + 12)) (z := (.agg #[.int .i64 0, .int .i64 0, .int .i64 0, .int .i64 0, .int .i64 0, .slice none 0 0])) (sz := 6) (b := 64) rfl Tryd.underlying28 Tw.kr (by decide) Tw.kr Tw.kr Tw.om) Tw.pf fun g1 Bg1 Fg1 => ?_
 refine lm (v := .slice (some ⟨g1, 0, none⟩) 0 (l.length + 12)) rfl rfl ?_
 refine wpL_done (fun W2 hW2 => ?_)
 change Code.wp ..
 refine wp_seq ?_
 refine wp_seq ?_
 refine wp_region_L _ hW2 ?_
 refine lm (v := .int .i64 0) rfl rfl ?_
 refine wpL_done (fun W3 hW3 => ?_)
 change Code.wp ..
 refine wp_block ?_
 have Om := (own_madeL (cells := tkC) (c := (l.length + 12)) (E := 129) (z := (.agg #[.int .i64 0, .int .i64 0, .int .i64 0, .int .i64 0, .int .i64 0, .slice none 0 0])) Bg1 rfl Tw.om)
 go_loopw [4, 3] (fun u4 u3 wr => ∃ (i : Nat) (X : List Tk) (vo : Value) (Ko T : List (Nat × Obj)), (i ≤ l.length) ∧ (X.length = i) ∧ (OwnL w 129 6 vo X.length (X.flatMap tkC) Ko) ∧ (LentT l X T) ∧ (∀ b ∈ T, w.heap.size ≤ b.1) ∧ (Dj Ko T) ∧ u4 = .int .i64 ((i : Nat) : Int) ∧ vo = u3 ∧ KS w (Ko ++ T) wr) (fun u4 _ _ => l.length - (intOf u4).toNat)
 case atStart => exact ⟨0, [], .slice (some ⟨g1, 0, none⟩) 0 (l.length + 12), [(g1, .cells (madeCells (Value.cells (.agg #[.int .i64 0, .int .i64 0, .int .i64 0, .int .i64 0, .int .i64 0, .slice none 0 0])) ((l.length + 12) * 6)) 129 (0, 0))], [], (Nat.zero_le _), rfl, Om, (LentT.nil l), (fun _ h => by cases h), (show Dj [(g1, .cells (madeCells (Value.cells (.agg #[.int .i64 0, .int .i64 0, .int .i64 0, .int .i64 0, .int .i64 0, .slice none 0 0])) ((l.length + 12) * 6)) 129 (0, 0))] [] from Tw.djt), rfl, rfl, (hW3.sub (fun p hp => by first | exact hp | (simp only [List.mem_cons, List.mem_append, List.nil_append, List.not_mem_nil, or_assoc, or_false, false_or] at hp ⊢ <;> grind)))⟩
 case round =>
   obtain ⟨i, X, vo, Ko, T, hi, hXl, hO, hX, hT, dh2_0, rfl, rfl, hL4⟩ := hrel
   refine wp_seq ?_
   refine wp_seq ?_
   refine wp_region_L _ hL4 ?_
   refine lm (v := .int .i64 ((i : Nat) : Int)) rfl rfl ?_
   refine lm (v := .slice p l.length c) rfl rfl ?_
   refine lp (v := .int .i64 ((l.length : Nat) : Int)) rfl rfl (run_lenL (p := p) (cap := c) (n := l.length) rfl Tryd.underlying28 Tw.kr) ?_
   refine lp (v := .bool (decide (i < l.length))) rfl rfl (run_bin rfl (vx := (.int .i64 ((i : Nat) : Int))) (vy := (.int .i64 ((l.length : Nat) : Int))) Tw.kr Tw.kr fun w => bn_lss rfl w) ?_
   refine wpL_done (fun W5 hW5 => ?_)
   change Code.wp ..
   cases hd1 : (decide (i < l.length)) with
   | false =>
     have h1 : ¬ (i < l.length) := of_decide_eq_false hd1
     clear hd1
     refine wp_cond_false rfl ?_
     refine wp_exit ?_
     change Code.wp ..
     refine wp_seq ?_
     refine wp_seq ?_
     refine wp_region_L _ hW5 ?_
     refine lm (v := .int .i64 0) rfl rfl ?_
     refine wpL_done (fun W6 hW6 => ?_)
     change Code.wp ..
     refine wp_block ?_
     have hXl2 : X.length = l.length := by have := h1; omega
     go_loopw [6, 3] (fun u6 u3 wr => ∃ (j : Nat) (v2 : Value) (K2 : List (Nat × Obj)), (j ≤ 12) ∧ (OwnL w 129 6 v2 (X ++ mkTnkL j).length ((X ++ mkTnkL j).flatMap tkC) K2) ∧ (Dj T K2) ∧ u6 = .int .i64 ((j : Nat) : Int) ∧ v2 = u3 ∧ KS w (T ++ K2) wr) (fun u6 _ _ => 12 - (intOf u6).toNat)
     case atStart => exact ⟨0, vo, Ko, (Nat.zero_le _), (by rw [show X ++ mkTnkL 0 = X from by simp [mkTnkL]]; exact hO), (show Dj T Ko from Tw.djt), rfl, rfl, (hW6.sub (fun p hp => by first | exact hp | (simp only [List.mem_cons, List.mem_append, List.nil_append, List.not_mem_nil, or_assoc, or_false, false_or] at hp ⊢ <;> grind)))⟩
     case round =>
       obtain ⟨j, v2, K2, hj, hO2, dh3_0, rfl, rfl, hL7⟩ := hrel
       have hlj : (X ++ mkTnkL j).length = X.length + j := by rw [List.length_append, mkTnkL_len]
       refine wp_seq ?_
       refine wp_seq ?_
       refine wp_region_L _ hL7 ?_
       refine lm (v := .int .i64 ((j : Nat) : Int)) rfl rfl ?_
       refine lp (v := .bool (decide (j < 12))) rfl rfl (run_bin rfl (vx := (.int .i64 ((j : Nat) : Int))) (vy := (.int .i64 ((12 : Nat) : Int))) Tw.kr Tw.kr fun w => bn_lss rfl w) ?_
       refine wpL_done (fun W8 hW8 => ?_)
       change Code.wp ..
       cases hd2 : (decide (j < 12)) with
       | false =>
         have h2 : ¬ (j < 12) := of_decide_eq_false hd2
         clear hd2
         refine wp_cond_false rfl ?_
         refine wp_exit ?_
         change Code.wp ..
         refine wp_seq ?_
         refine wp_region_L _ hW8 ?_
         refine lm (v := v2) rfl rfl ?_
         refine lm (v := .slice p l.length c) rfl rfl ?_
         refine lp (v := .int .i64 ((l.length : Nat) : Int)) rfl rfl (run_lenL (p := p) (cap := c) (n := l.length) rfl Tryd.underlying28 Tw.kr) ?_
         have hj12 : j = 12 := by omega
         subst hj12
         obtain ⟨q9, d9, rfl, hd9, R9⟩ := own_rl hO2
         have hlen : (X ++ mkTnkL 12).length = l.length + 12 := by rw [List.length_append, mkTnkL_len, hXl2]
         refine lp (v := .slice q9 l.length d9) rfl rfl (run_slt (kd := .i64) (j := l.length) (n := (X ++ mkTnkL 12).length) (c := d9) (sz := 6) rfl Tryd.underlying28 Tw.kr Tw.kr Tw.kr Tw.om) ?_
         refine lm (v := .slice q9 l.length d9) rfl rfl ?_
         refine wpL_done (fun W9 hW9 => ?_)
         change Code.wp ..
         refine wp_ret ?_
         try simp only [inBlock_ret, then_ret]
         refine bodyPost_ret (v := .slice q9 l.length d9) ?_ rfl ?_
         · kernel_rfl
         · exact ⟨X, q9, d9, T ++ K2, rfl, by omega, hXl2, hX.mono (fun p hp => by simp only [List.mem_cons, List.mem_append, List.nil_append, List.not_mem_nil, or_assoc, or_false, false_or, hp, true_or, or_true]), (own_hl hO2).mono (fun p hp => by simp only [List.mem_cons, List.mem_append, List.nil_append, List.not_mem_nil, or_assoc, or_false, false_or, hp, true_or, or_true]), new_app hT (own_new hO2), hW9.sub (fun p hp => by simp only [List.mem_cons, List.mem_append, List.nil_append, List.not_mem_nil, or_assoc, or_false, false_or, hp, true_or, or_true])⟩
       | true =>
         have h2 : j < 12 := of_decide_eq_true hd2
         clear hd2
         refine wp_cond_true rfl ?_
         refine wp_skip ?_
         change Code.wp ..
         refine wp_seq ?_
         refine wp_block ?_
         refine wp_region_L _ hW8 ?_
         refine lm (v := v2) rfl rfl ?_
         refine lm (v := .int .i64 ((j : Nat) : Int)) rfl rfl ?_
         refine lv (v := .agg (tkC (mkTnk j)).toArray) rfl rfl (yb_call (f := 78) (args := #[.int .i64 1, .int .i64 ((j : Nat) : Int)]) Tw.kf fun W hW => markTank_any j Tw.om W) ?_
         refine wpL_new (fun g => .slice (some ⟨g, 0, none⟩) 1 1) (obi := .cells (tkC (mkTnk j)).toArray 129 (0, 0)) rfl rfl Tw.kf Tw.pf fun g4 Bg4 Fg4 => ?_
         obtain ⟨dj5_0, dj5_1⟩ : Dk g4 T ∧ Dk g4 K2 := Tw.dkf Fg4
         refine wpL_g (AppO w 129 6 T (((X ++ mkTnkL j).length) + 1) (((X ++ mkTnkL j).flatMap tkC) ++ [.int .i64 ((mkTnk j).kilos), .int .i64 ((mkTnk j).x), .int .i64 ((mkTnk j).y), .int .i64 ((mkTnk j).z), .int .i64 ((mkTnk j).surface), .slice ((mkTnk j).sp) (((mkTnk j).steps).length) ((mkTnk j).sc)])) rfl rfl (app_ownL el_tnk (m := 1) (c := 1) (news := [.int .i64 ((mkTnk j).kilos), .int .i64 ((mkTnk j).x), .int .i64 ((mkTnk j).y), .int .i64 ((mkTnk j).z), .int .i64 ((mkTnk j).surface), .slice ((mkTnk j).sp) (((mkTnk j).steps).length) ((mkTnk j).sc)]) rfl Tw.kr Tw.kr Tw.m0 hO2 Tw.sc (fun p hp => ⟨by simp only [List.mem_cons, List.mem_append, List.nil_append, List.not_mem_nil, or_assoc, or_false, false_or] at hp ⊢ <;> grind, (show Dj T K2 from Tw.djt) p hp⟩) rfl (by simp [strV, Value.oneCell']) Tw.om Tw.om Tw.om) Tw.pf ?_
         rintro v6 K9 ⟨Kl6, O6, N6, rfl⟩
         obtain dj7_0 : Dj T Kl6 := Tw.djf N6
         refine lm (v := v6) rfl rfl ?_
         refine wpL_done (fun W10 hW10 => ?_)
         change Code.wp ..
         refine wp_region_L _ hW10 ?_
         refine lm (v := .int .i64 ((j : Nat) : Int)) rfl rfl ?_
         refine lp (v := .int .i64 (((j + 1) : Nat) : Int)) rfl rfl (run_bin rfl (vx := (.int .i64 ((j : Nat) : Int))) (vy := (.int .i64 ((1 : Nat) : Int))) Tw.kr Tw.kr fun w => bn_add (z := (j + 1)) rfl (wr_i64 Tw.om) w) ?_
         refine lm (v := .int .i64 (((j + 1) : Nat) : Int)) rfl rfl ?_
         refine wpL_done (fun W11 hW11 => ?_)
         go_roundw
         case rel =>
           repeat apply Exists.intro
           exact ⟨⟨j + 1, v6, Kl6, Tw.om, (own_app O6 (by rw [mkTnkL_s, ← List.append_assoc, List.flatMap_append (ys := [mkTnk j])]; rfl) (by rw [mkTnkL_s, ← List.append_assoc, List.length_append (bs := [mkTnk j])]; rfl)), (show Dj T Kl6 from Tw.djt), rfl, rfl, (hW11.sub (fun p hp => by first | exact hp | (simp only [List.mem_cons, List.mem_append, List.nil_append, List.not_mem_nil, or_assoc, or_false, false_or] at hp ⊢ <;> grind)))⟩, rfl⟩
         case measure => (show 12 - (intOf (.int .i64 (((j + 1) : Nat) : Int))).toNat < 12 - (intOf (.int .i64 ((j : Nat) : Int))).toNat); simp only [intOf]; omega
   | true =>
     have h1 : i < l.length := of_decide_eq_true hd1
     clear hd1
     refine wp_cond_true rfl ?_
     refine wp_skip ?_
     change Code.wp ..
     refine wp_seq ?_
     refine wp_block ?_
     refine wp_seq ?_
     refine wp_region_L _ hW5 ?_
     refine lm (v := .slice p l.length c) rfl rfl ?_
     refine lm (v := .int .i64 ((i : Nat) : Int)) rfl rfl ?_
     obtain ⟨y8, g8_, f8_, hy8, hp8, hc8⟩ := RL.at (RL.base HP.out) tkC_len (by decide) (hW5.sub (fun _ h => by cases h)) (k := i) Tw.om
     refine lp (v := .pointer (some ⟨g8_, f8_ + i * 6, none⟩)) rfl rfl (run_idxQ (p := p) (cap := c) (n := l.length) (j := .i64) (k := i) (sz := 6) rfl Tryd.underlying28 Tw.kr Tw.kr hp8 Tw.kr Tw.om) ?_
     refine lv (v := .agg (tkC y8).toArray) rfl rfl (yb_rs (off := f8_ + i * 6) (cs := tkC y8) rfl Tw.kr (fun W hW => hc8 W (hW.sub (fun _ h => by cases h))) Tryd.underlying129 rfl Tw.kr) ?_
     refine wpL_c (f := 77) (args := #[.agg (tkC y8).toArray]) (LentFV w 3 1 (fun q d => .agg (tkC (y8.re q d)).toArray) (y8.steps.length + 12) (y8.steps ++ mkL 12).length ((y8.steps ++ mkL 12).flatMap inC) (Ko ++ T)) rfl Tw.kr Tw.kf (fun W hW => calls_lentf hW (LentTank_any y8 (lr y8 (List.mem_of_getElem? hy8)) W ((HR.out y8 (List.mem_of_getElem? hy8)).keep hW.1))) Tw.pf ?_
     rintro _ _ ⟨p9, c9, Kl9, rfl, n9, O9, N9, rfl⟩
     obtain ⟨dj10_0, dj10_1⟩ : Dj Ko Kl9 ∧ Dj T Kl9 := Tw.djf N9
     refine wpL_sub (K2 := (Ko ++ (T ++ Kl9))) (fun p hp => by simp only [List.mem_cons, List.mem_append, or_assoc] at hp ⊢; exact hp) ?_
     refine wpL_new (fun g => .pointer (some ⟨g, 0, none⟩)) (obi := .cells #[.int .i64 0, .int .i64 0, .int .i64 0, .int .i64 0, .int .i64 0, .slice none 0 0] 129 (0, 0)) rfl rfl Tw.kf Tw.pf fun g11 Bg11 Fg11 => ?_
     obtain ⟨dj12_0, dj12_1, dj12_2⟩ : Dk g11 Ko ∧ Dk g11 T ∧ Dk g11 Kl9 := Tw.dkf Fg11
     refine wpL_s ((g11, .cells (tkC (y8.re p9 c9)).toArray 129 (0, 0)) :: (Ko ++ (T ++ Kl9))) rfl rfl (st_row (off := 0) (v := .agg (tkC (y8.re p9 c9)).toArray) rfl Tw.kr Tw.kr Tw.m0 Bg11 Tw.kr (by first | (simp [Value.cells]; done) | exact Nat.le_of_ble_eq_true rfl) (fun v hv => tkC_one (y8.re p9 c9) v hv) Tw.kr (List.forall_mem_cons.2 ⟨.inl rfl, (fun p hp => .inr ⟨(.tail _ hp), ((show Dk g11 (Ko ++ (T ++ Kl9)) from Tw.djt) _ hp)⟩)⟩)) ?_
     refine wpL_done (fun W12 hW12 => ?_)
     change Code.wp ..
     refine wp_region_L _ hW12 ?_
     refine lm (v := vo) rfl rfl ?_
     refine lv (v := .agg (tkC (y8.re p9 c9)).toArray) rfl rfl (yb_load (n := 6) (off := 0) rfl Tw.kr Tw.m0 Tryd.underlying129 rfl Tw.kr (by first | (simp [Value.cells]; done) | exact Nat.le_of_ble_eq_true rfl) Tw.kr) ?_
     refine wpL_new (fun g => .slice (some ⟨g, 0, none⟩) 1 1) (obi := .cells (tkC (y8.re p9 c9)).toArray 129 (0, 0)) rfl rfl Tw.kf Tw.pf fun g13 Bg13 Fg13 => ?_
     obtain ⟨dj14_0, dj14_1, dj14_2, dj14_3⟩ : g11 ≠ g13 ∧ Dk g13 Ko ∧ Dk g13 T ∧ Dk g13 Kl9 := Tw.dkf Fg13
     refine wpL_g (AppO w 129 6 ((g11, .cells (tkC (y8.re p9 c9)).toArray 129 (0, 0)) :: (T ++ Kl9)) (X.length + 1) ((X.flatMap tkC) ++ [.int .i64 ((y8.re p9 c9).kilos), .int .i64 ((y8.re p9 c9).x), .int .i64 ((y8.re p9 c9).y), .int .i64 ((y8.re p9 c9).z), .int .i64 ((y8.re p9 c9).surface), .slice ((y8.re p9 c9).sp) (((y8.re p9 c9).steps).length) ((y8.re p9 c9).sc)])) rfl rfl (app_ownL el_tnk (m := 1) (c := 1) (news := [.int .i64 ((y8.re p9 c9).kilos), .int .i64 ((y8.re p9 c9).x), .int .i64 ((y8.re p9 c9).y), .int .i64 ((y8.re p9 c9).z), .int .i64 ((y8.re p9 c9).surface), .slice ((y8.re p9 c9).sp) (((y8.re p9 c9).steps).length) ((y8.re p9 c9).sc)]) rfl Tw.kr Tw.kr Tw.m0 hO Tw.sc (fun p hp => ⟨by simp only [List.mem_cons, List.mem_append, List.nil_append, List.not_mem_nil, or_assoc, or_false, false_or] at hp ⊢ <;> grind, (show Dj ((g11, .cells (tkC (y8.re p9 c9)).toArray 129 (0, 0)) :: (T ++ Kl9)) Ko from Tw.djt) p hp⟩) rfl (by simp [strV, Value.oneCell']) Tw.om Tw.om Tw.om) Tw.pf ?_
     rintro v15 K9 ⟨Kl15, O15, N15, rfl⟩
     obtain ⟨dj16_0, dj16_1, dj16_2⟩ : Dk g11 Kl15 ∧ Dj T Kl15 ∧ Dj Kl9 Kl15 := Tw.djf N15
     refine lm (v := v15) rfl rfl ?_
     refine wpL_done (fun W13 hW13 => ?_)
     change Code.wp ..
     refine wp_region_L _ hW13 ?_
     refine lm (v := .int .i64 ((i : Nat) : Int)) rfl rfl ?_
     refine lp (v := .int .i64 (((i + 1) : Nat) : Int)) rfl rfl (run_bin rfl (vx := (.int .i64 ((i : Nat) : Int))) (vy := (.int .i64 ((1 : Nat) : Int))) Tw.kr Tw.kr fun w => bn_add (z := (i + 1)) rfl (wr_i64 Tw.om) w) ?_
     refine lm (v := .int .i64 (((i + 1) : Nat) : Int)) rfl rfl ?_
     refine wpL_done (fun W14 hW14 => ?_)
     go_roundw
     case rel =>
       repeat apply Exists.intro
       exact ⟨⟨i + 1, (X ++ [y8.re p9 c9]), v15, Kl15, (T ++ Kl9), Tw.om, (by rw [List.length_append, List.length_singleton]; omega), (own_app O15 (by rw [List.flatMap_append]; rfl) (by rw [List.length_append]; rfl)), (LentT.s hX hXl hy8 n9 (own_hl O9)), (new_app hT (own_new O9)), (show Dj Kl15 (T ++ Kl9) from Tw.djt), rfl, rfl, (hW14.sub (fun p hp => by first | exact hp | (simp only [List.mem_cons, List.mem_append, List.nil_append, List.not_mem_nil, or_assoc, or_false, false_or] at hp ⊢ <;> grind)))⟩, rfl⟩
     case measure => (show l.length - (intOf (.int .i64 (((i + 1) : Nat) : Int))).toNat < l.length - (intOf (.int .i64 ((i : Nat) : Int))).toNat); simp only [intOf]; omega
set_option maxRecDepth 100000 in
set_option maxHeartbeats 4000000 in
theorem KeptTanks_any (l X : List Tk) (p q : Option Addr) (c d : Nat) (hl : l.length ≤ 2199023255488) (lr : ∀ o ∈ l, o.steps.length ≤ 17592186044403) (hX : X.length = l.length) (hc : l.length + 12 ≤ c) (w : World) (hp : SLV w p ((X ++ mkTnkL 12).flatMap tkC)) (ha : LentTA w l X) (hq : SLV w q (l.flatMap tkC)) (hr : StR w l) : Calls Tryd.prog 65 #[.slice p l.length c, .slice q l.length d] w fun e w' => e = .returned (.bool true) ∧ Below w.heap.size w w' := by
 have HP := Lib.hid hp
 clear hp
 have HQ := Lib.hid hq
 clear hq
 have HA := Lib.hid ha
 clear ha
 have HR := Lib.hid hr
 clear hr
 have hlen : (X ++ mkTnkL 12).length = l.length + 12 := by rw [List.length_append, mkTnkL_len, hX]
 go_enter Tryd.func65, Tryd.ntmps65
 refine wp_seq ?_
 refine wp_region_L [] (KS.start w) ?_
 refine lm (v := .bool false) rfl rfl ?_
 refine wpL_done (fun W1 hW1 => ?_)
 change Code.wp ..
 refine wp_seq ?_
 refine wp_seq ?_
 refine wp_region_L _ hW1 ?_
 refine lm (v := .slice p l.length c) rfl rfl ?_
 refine lp (v := .int .i64 ((l.length : Nat) : Int)) rfl rfl (run_lenL (p := p) (cap := c) (n := l.length) rfl Tryd.underlying28 Tw.kr) ?_
 refine lm (v := .slice q l.length d) rfl rfl ?_
 refine lp (v := .int .i64 ((l.length : Nat) : Int)) rfl rfl (run_lenL (p := q) (cap := d) (n := l.length) rfl Tryd.underlying28 Tw.kr) ?_
 refine lp (v := .bool false) rfl rfl (run_bin rfl (vx := (.int .i64 ((l.length : Nat) : Int))) (vy := (.int .i64 ((l.length : Nat) : Int))) Tw.kr Tw.kr fun w => bn_neq (decide_eq_true rfl) w) ?_
 refine wpL_done (fun W2 hW2 => ?_)
 change Code.wp ..
 refine wp_cond_false rfl ?_
 refine wp_skip ?_
 change Code.wp ..
 refine wp_seq ?_
 refine wp_region_L _ hW2 ?_
 refine lm (v := .slice p l.length c) rfl rfl ?_
 refine lm (v := .slice q l.length d) rfl rfl ?_
 refine lp (v := .int .i64 ((l.length : Nat) : Int)) rfl rfl (run_lenL (p := q) (cap := d) (n := l.length) rfl Tryd.underlying28 Tw.kr) ?_
 refine lp (v := .int .i64 (((l.length + 12) : Nat) : Int)) rfl rfl (run_bin rfl (vx := (.int .i64 ((l.length : Nat) : Int))) (vy := (.int .i64 ((12 : Nat) : Int))) Tw.kr Tw.kr fun w => bn_add (z := (l.length + 12)) rfl (wr_i64 Tw.om) w) ?_
 refine lp (v := .slice p (l.length + 12) c) rfl rfl (run_slt (kd := .i64) (j := (l.length + 12)) (n := l.length) (c := c) (sz := 6) rfl Tryd.underlying28 Tw.kr Tw.kr Tw.kr Tw.om) ?_
 refine lm (v := .slice p (l.length + 12) c) rfl rfl ?_
 refine wpL_done (fun W3 hW3 => ?_)
 change Code.wp ..
 refine wp_seq ?_
 refine wp_seq ?_
 refine wp_region_L _ hW3 ?_
 refine lm (v := .int .i64 0) rfl rfl ?_
 refine wpL_done (fun W4 hW4 => ?_)
 change Code.wp ..
 refine wp_block ?_
 go_loopw [6] (fun u6 wr => ∃ (i : Nat), (i ≤ l.length + 12) ∧ u6 = .int .i64 ((i : Nat) : Int) ∧ KS w [] wr) (fun u6 _ => l.length + 12 - (intOf u6).toNat)
 case atStart => exact ⟨0, (Nat.zero_le _), rfl, (hW4.sub (fun p hp => by first | exact hp | (simp only [List.mem_cons, List.mem_append, List.nil_append, List.not_mem_nil, or_assoc, or_false, false_or] at hp ⊢ <;> grind)))⟩
 case round =>
   obtain ⟨i, hi, rfl, hL5⟩ := hrel
   refine wp_seq ?_
   refine wp_seq ?_
   refine wp_region_L _ hL5 ?_
   refine lm (v := .int .i64 ((i : Nat) : Int)) rfl rfl ?_
   refine lm (v := .slice p (l.length + 12) c) rfl rfl ?_
   refine lp (v := .int .i64 (((l.length + 12) : Nat) : Int)) rfl rfl (run_lenL (p := p) (cap := c) (n := (l.length + 12)) rfl Tryd.underlying28 Tw.kr) ?_
   refine lp (v := .bool (decide (i < (l.length + 12)))) rfl rfl (run_bin rfl (vx := (.int .i64 ((i : Nat) : Int))) (vy := (.int .i64 (((l.length + 12) : Nat) : Int))) Tw.kr Tw.kr fun w => bn_lss rfl w) ?_
   refine wpL_done (fun W6 hW6 => ?_)
   change Code.wp ..
   cases hd1 : (decide (i < (l.length + 12))) with
   | false =>
     have h1 : ¬ (i < (l.length + 12)) := of_decide_eq_false hd1
     clear hd1
     refine wp_cond_false rfl ?_
     refine wp_exit ?_
     change Code.wp ..
     refine wp_seq ?_
     refine wp_region_L _ hW6 ?_
     refine lm (v := .bool true) rfl rfl ?_
     refine wpL_done (fun W7 hW7 => ?_)
     change Code.wp ..
     refine wp_ret ?_
     try simp only [inBlock_ret, then_ret]
     refine bodyPost_ret (v := .bool true) ?_ rfl ?_
     · kernel_rfl
     · exact ⟨rfl, hW7.1⟩
   | true =>
     have h1 : i < (l.length + 12) := of_decide_eq_true hd1
     clear hd1
     refine wp_cond_true rfl ?_
     refine wp_skip ?_
     change Code.wp ..
     refine wp_seq ?_
     refine wp_block ?_
     refine wp_seq ?_
     refine wp_region_V _ Tw.kr hW6 ?_
     refine vm (i := 0) (v := .int .i64 ((i : Nat) : Int)) rfl rfl rfl ?_
     refine vm (i := 1) (v := .slice q l.length d) rfl rfl rfl ?_
     refine vp (i := 2) (v := .int .i64 ((l.length : Nat) : Int)) rfl rfl rfl (run_lenL (p := q) (cap := d) (n := l.length) rfl Tryd.underlying28 Tw.kr) ?_
     refine vp (i := 3) (v := .bool (decide (i < l.length))) rfl rfl rfl (run_bin rfl (vx := (.int .i64 ((i : Nat) : Int))) (vy := (.int .i64 ((l.length : Nat) : Int))) Tw.kr Tw.kr fun w => bn_lss rfl w) ?_
     refine vm (i := 4) (v := .bool (decide (i < l.length))) rfl rfl rfl ?_
     cases hd2 : (decide (i < l.length)) with
     | false =>
       have h2 : ¬ (i < l.length) := of_decide_eq_false hd2
       clear hd2
       refine vn (i := 5) rfl rfl ?_
       refine vn (i := 6) rfl rfl ?_
       refine vn (i := 7) rfl rfl ?_
       refine vn (i := 8) rfl rfl ?_
       refine vn (i := 9) rfl rfl ?_
       refine vn (i := 10) rfl rfl ?_
       refine vn (i := 11) rfl rfl ?_
       refine vn (i := 12) rfl rfl ?_
       refine vn (i := 13) rfl rfl ?_
       refine vn (i := 14) rfl rfl ?_
       refine vm (i := 15) (v := .bool false) rfl rfl rfl ?_
       refine vm (i := 16) (v := .bool false) rfl rfl rfl ?_
       refine vm (i := 17) (v := .int .i64 ((i : Nat) : Int)) rfl rfl rfl ?_
       refine vm (i := 18) (v := .slice q l.length d) rfl rfl rfl ?_
       refine vp (i := 19) (v := .int .i64 ((l.length : Nat) : Int)) rfl rfl rfl (run_lenL (p := q) (cap := d) (n := l.length) rfl Tryd.underlying28 Tw.kr) ?_
       refine vp (i := 20) (v := .bool true) rfl rfl rfl (run_bin rfl (vx := (.int .i64 ((i : Nat) : Int))) (vy := (.int .i64 ((l.length : Nat) : Int))) Tw.kr Tw.kr fun w => bn_geq (decide_eq_false (by assumption)) w) ?_
       refine vm (i := 21) (v := .bool true) rfl rfl rfl ?_
       refine vm (i := 22) (v := .slice p (l.length + 12) c) rfl rfl rfl ?_
       refine vm (i := 23) (v := .int .i64 ((i : Nat) : Int)) rfl rfl rfl ?_
       obtain ⟨y1, g1_, f1_, hy1, hp1, hc1⟩ := RL.at (RL.base HP.out) tkC_len (by decide) (hW6.sub (fun _ h => by cases h)) (k := i) Tw.om
       refine vp (i := 24) (v := .pointer (some ⟨g1_, f1_ + i * 6, none⟩)) rfl rfl rfl (run_idxQ (p := p) (cap := c) (n := (l.length + 12)) (j := .i64) (k := i) (sz := 6) rfl Tryd.underlying28 Tw.kr Tw.kr hp1 Tw.kr Tw.om) ?_
       refine vb (i := 25) (v := .agg (tkC y1).toArray) rfl rfl rfl (yb_rs (off := f1_ + i * 6) (cs := tkC y1) rfl Tw.kr (fun W hW => hc1 W (hW.sub (fun _ h => by cases h))) Tryd.underlying129 rfl Tw.kr) ?_
       refine vm (i := 26) (v := .int .i64 ((i : Nat) : Int)) rfl rfl rfl ?_
       refine vm (i := 27) (v := .slice q l.length d) rfl rfl rfl ?_
       refine vp (i := 28) (v := .int .i64 ((l.length : Nat) : Int)) rfl rfl rfl (run_lenL (p := q) (cap := d) (n := l.length) rfl Tryd.underlying28 Tw.kr) ?_
       refine vp (i := 29) (v := .int .i64 (((i - l.length) : Nat) : Int)) rfl rfl rfl (run_bin rfl (vx := (.int .i64 ((i : Nat) : Int))) (vy := (.int .i64 ((l.length : Nat) : Int))) Tw.kr Tw.kr fun w => bn_sub (z := (i - l.length)) rfl Tw.om (wr_i64 Tw.om) w) ?_
       refine vv (i := 30) (v := .agg (tkC (mkTnk (i - l.length))).toArray) rfl rfl rfl (yb_call (f := 78) (args := #[.int .i64 1, .int .i64 (((i - l.length) : Nat) : Int)]) Tw.kf fun W hW => markTank_any (i - l.length) Tw.om W) ?_
       refine vv (i := 31) (v := .bool true) rfl rfl rfl (yb_call (f := 95) (args := #[.agg (tkC y1).toArray, .agg (tkC (mkTnk (i - l.length))).toArray]) Tw.kf fun W hW => (by rw [markTA_at hy1 hX h2]; exact SameTank_any (mkTnk (i - l.length)) none 0 (Nat.zero_le _) W (.inl rfl) (.inl rfl))) ?_
       refine vm (i := 32) (v := .bool false) rfl rfl rfl ?_
       refine vm (i := 33) (v := .bool false) rfl rfl rfl ?_
       refine vm (i := 34) (v := .bool false) rfl rfl rfl ?_
       refine wpV_done Tw.kr (fun W8 hW8 => ?_) _
       change Code.wp ..
       refine wp_cond_false rfl ?_
       refine wp_skip ?_
       change Code.wp ..
       refine wp_region_L _ hW8 ?_
       refine lm (v := .int .i64 ((i : Nat) : Int)) rfl rfl ?_
       refine lp (v := .int .i64 (((i + 1) : Nat) : Int)) rfl rfl (run_bin rfl (vx := (.int .i64 ((i : Nat) : Int))) (vy := (.int .i64 ((1 : Nat) : Int))) Tw.kr Tw.kr fun w => bn_add (z := (i + 1)) rfl (wr_i64 Tw.om) w) ?_
       refine lm (v := .int .i64 (((i + 1) : Nat) : Int)) rfl rfl ?_
       refine wpL_done (fun W9 hW9 => ?_)
       go_roundw
       case rel =>
         repeat apply Exists.intro
         exact ⟨⟨i + 1, Tw.om, rfl, (hW9.sub (fun p hp => by first | exact hp | (simp only [List.mem_cons, List.mem_append, List.nil_append, List.not_mem_nil, or_assoc, or_false, false_or] at hp ⊢ <;> grind)))⟩, rfl⟩
       case measure => (show l.length + 12 - (intOf (.int .i64 (((i + 1) : Nat) : Int))).toNat < l.length + 12 - (intOf (.int .i64 ((i : Nat) : Int))).toNat); simp only [intOf]; omega
     | true =>
       have h2 : i < l.length := of_decide_eq_true hd2
       clear hd2
       refine vm (i := 5) (v := .slice p (l.length + 12) c) rfl rfl rfl ?_
       refine vm (i := 6) (v := .int .i64 ((i : Nat) : Int)) rfl rfl rfl ?_
       obtain ⟨y2, g2_, f2_, hy2, hp2, hc2⟩ := RL.at (RL.base HP.out) tkC_len (by decide) (hW6.sub (fun _ h => by cases h)) (k := i) Tw.om
       refine vp (i := 7) (v := .pointer (some ⟨g2_, f2_ + i * 6, none⟩)) rfl rfl rfl (run_idxQ (p := p) (cap := c) (n := (l.length + 12)) (j := .i64) (k := i) (sz := 6) rfl Tryd.underlying28 Tw.kr Tw.kr hp2 Tw.kr Tw.om) ?_
       refine vb (i := 8) (v := .agg (tkC y2).toArray) rfl rfl rfl (yb_rs (off := f2_ + i * 6) (cs := tkC y2) rfl Tw.kr (fun W hW => hc2 W (hW.sub (fun _ h => by cases h))) Tryd.underlying129 rfl Tw.kr) ?_
       refine vm (i := 9) (v := .slice q l.length d) rfl rfl rfl ?_
       refine vm (i := 10) (v := .int .i64 ((i : Nat) : Int)) rfl rfl rfl ?_
       obtain ⟨y3, g3_, f3_, hy3, hp3, hc3⟩ := RL.at (RL.base HQ.out) tkC_len (by decide) (hW6.sub (fun _ h => by cases h)) (k := i) Tw.om
       refine vp (i := 11) (v := .pointer (some ⟨g3_, f3_ + i * 6, none⟩)) rfl rfl rfl (run_idxQ (p := q) (cap := d) (n := l.length) (j := .i64) (k := i) (sz := 6) rfl Tryd.underlying28 Tw.kr Tw.kr hp3 Tw.kr Tw.om) ?_
       refine vb (i := 12) (v := .agg (tkC y3).toArray) rfl rfl rfl (yb_rs (off := f3_ + i * 6) (cs := tkC y3) rfl Tw.kr (fun W hW => hc3 W (hW.sub (fun _ h => by cases h))) Tryd.underlying129 rfl Tw.kr) ?_
       refine vv (i := 13) (v := .bool true) rfl rfl rfl (yb_call (f := 94) (args := #[.agg (tkC y2).toArray, .agg (tkC y3).toArray]) Tw.kf fun W hW => (by obtain ⟨q7, d7, e7, n7, R7⟩ := lentTA_at HA.out hy2 hX hy3; rw [e7]; exact KeptTank_any y3 q7 d7 (lr y3 (List.mem_of_getElem? hy3)) n7 W ((HR.out y3 (List.mem_of_getElem? hy3)).keep hW.1) (R7.keep hW.1))) ?_
       refine vm (i := 14) (v := .bool false) rfl rfl rfl ?_
       refine vm (i := 15) (v := .bool false) rfl rfl rfl ?_
       refine vm (i := 16) (v := .bool false) rfl rfl rfl ?_
       refine vm (i := 17) (v := .int .i64 ((i : Nat) : Int)) rfl rfl rfl ?_
       refine vm (i := 18) (v := .slice q l.length d) rfl rfl rfl ?_
       refine vp (i := 19) (v := .int .i64 ((l.length : Nat) : Int)) rfl rfl rfl (run_lenL (p := q) (cap := d) (n := l.length) rfl Tryd.underlying28 Tw.kr) ?_
       refine vp (i := 20) (v := .bool false) rfl rfl rfl (run_bin rfl (vx := (.int .i64 ((i : Nat) : Int))) (vy := (.int .i64 ((l.length : Nat) : Int))) Tw.kr Tw.kr fun w => bn_geq (decide_eq_true (by assumption)) w) ?_
       refine vm (i := 21) (v := .bool false) rfl rfl rfl ?_
       refine vn (i := 22) rfl rfl ?_
       refine vn (i := 23) rfl rfl ?_
       refine vn (i := 24) rfl rfl ?_
       refine vn (i := 25) rfl rfl ?_
       refine vn (i := 26) rfl rfl ?_
       refine vn (i := 27) rfl rfl ?_
       refine vn (i := 28) rfl rfl ?_
       refine vn (i := 29) rfl rfl ?_
       refine vn (i := 30) rfl rfl ?_
       refine vn (i := 31) rfl rfl ?_
       refine vn (i := 32) rfl rfl ?_
       refine vm (i := 33) (v := .bool false) rfl rfl rfl ?_
       refine vm (i := 34) (v := .bool false) rfl rfl rfl ?_
       refine wpV_done Tw.kr (fun W10 hW10 => ?_) _
       change Code.wp ..
       refine wp_cond_false rfl ?_
       refine wp_skip ?_
       change Code.wp ..
       refine wp_region_L _ hW10 ?_
       refine lm (v := .int .i64 ((i : Nat) : Int)) rfl rfl ?_
       refine lp (v := .int .i64 (((i + 1) : Nat) : Int)) rfl rfl (run_bin rfl (vx := (.int .i64 ((i : Nat) : Int))) (vy := (.int .i64 ((1 : Nat) : Int))) Tw.kr Tw.kr fun w => bn_add (z := (i + 1)) rfl (wr_i64 Tw.om) w) ?_
       refine lm (v := .int .i64 (((i + 1) : Nat) : Int)) rfl rfl ?_
       refine wpL_done (fun W11 hW11 => ?_)
       go_roundw
       case rel =>
         repeat apply Exists.intro
         exact ⟨⟨i + 1, Tw.om, rfl, (hW11.sub (fun p hp => by first | exact hp | (simp only [List.mem_cons, List.mem_append, List.nil_append, List.not_mem_nil, or_assoc, or_false, false_or] at hp ⊢ <;> grind)))⟩, rfl⟩
       case measure => (show l.length + 12 - (intOf (.int .i64 (((i + 1) : Nat) : Int))).toNat < l.length + 12 - (intOf (.int .i64 ((i : Nat) : Int))).toNat); simp only [intOf]; omega
set_option maxRecDepth 100000 in
set_option maxHeartbeats 4000000 in
theorem SameTanks_any (l X : List Tk) (p q : Option Addr) (c d : Nat) (hl : l.length ≤ 2199023255488) (lr : ∀ o ∈ l, o.steps.length ≤ 17592186044403) (hX : X.length = l.length) (w : World) (hp : SLV w p (X.flatMap tkC)) (ha : LentTA w l X) (hq : SLV w q (l.flatMap tkC)) (hr : StR w l) : Calls Tryd.prog 89 #[.slice p X.length c, .slice q l.length d] w fun e w' => e = .returned (.bool true) ∧ Below w.heap.size w w' := by
 have HP := Lib.hid hp
 clear hp
 have HQ := Lib.hid hq
 clear hq
 have HA := Lib.hid ha
 clear ha
 have HR := Lib.hid hr
 clear hr
 go_enter Tryd.func89, Tryd.ntmps89
 refine wp_seq ?_
 refine wp_region_L [] (KS.start w) ?_
 refine lm (v := .bool false) rfl rfl ?_
 refine wpL_done (fun W1 hW1 => ?_)
 change Code.wp ..
 refine wp_seq ?_
 refine wp_seq ?_
 refine wp_region_L _ hW1 ?_
 refine lm (v := .slice p X.length c) rfl rfl ?_
 refine lp (v := .int .i64 ((X.length : Nat) : Int)) rfl rfl (run_lenL (p := p) (cap := c) (n := X.length) rfl Tryd.underlying28 Tw.kr) ?_
 refine lm (v := .slice q l.length d) rfl rfl ?_
 refine lp (v := .int .i64 ((l.length : Nat) : Int)) rfl rfl (run_lenL (p := q) (cap := d) (n := l.length) rfl Tryd.underlying28 Tw.kr) ?_
 refine lp (v := .bool (!(decide (X.length = l.length)))) rfl rfl (run_bin rfl (vx := (.int .i64 ((X.length : Nat) : Int))) (vy := (.int .i64 ((l.length : Nat) : Int))) Tw.kr Tw.kr fun w => bn_neq rfl w) ?_
 refine wpL_done (fun W2 hW2 => ?_)
 change Code.wp ..
 cases hd1 : (decide (X.length = l.length)) with
 | false =>
   have h1 : ¬ (X.length = l.length) := of_decide_eq_false hd1
   clear hd1
   exact absurd hX h1
 | true =>
   have h1 : X.length = l.length := of_decide_eq_true hd1
   clear hd1
   refine wp_cond_false rfl ?_
   refine wp_skip ?_
   change Code.wp ..
   refine wp_seq ?_
   refine wp_seq ?_
   refine wp_region_L _ hW2 ?_
   refine lm (v := .int .i64 0) rfl rfl ?_
   refine wpL_done (fun W3 hW3 => ?_)
   change Code.wp ..
   refine wp_block ?_
   go_loopw [5] (fun u5 wr => ∃ (i : Nat), (i ≤ l.length) ∧ u5 = .int .i64 ((i : Nat) : Int) ∧ KS w [] wr) (fun u5 _ => l.length - (intOf u5).toNat)
   case atStart => exact ⟨0, (Nat.zero_le _), rfl, (hW3.sub (fun p hp => by first | exact hp | (simp only [List.mem_cons, List.mem_append, List.nil_append, List.not_mem_nil, or_assoc, or_false, false_or] at hp ⊢ <;> grind)))⟩
   case round =>
     obtain ⟨i, hi, rfl, hL4⟩ := hrel
     refine wp_seq ?_
     refine wp_seq ?_
     refine wp_region_L _ hL4 ?_
     refine lm (v := .int .i64 ((i : Nat) : Int)) rfl rfl ?_
     refine lm (v := .slice p X.length c) rfl rfl ?_
     refine lp (v := .int .i64 ((X.length : Nat) : Int)) rfl rfl (run_lenL (p := p) (cap := c) (n := X.length) rfl Tryd.underlying28 Tw.kr) ?_
     refine lp (v := .bool (decide (i < X.length))) rfl rfl (run_bin rfl (vx := (.int .i64 ((i : Nat) : Int))) (vy := (.int .i64 ((X.length : Nat) : Int))) Tw.kr Tw.kr fun w => bn_lss rfl w) ?_
     refine wpL_done (fun W5 hW5 => ?_)
     change Code.wp ..
     cases hd2 : (decide (i < X.length)) with
     | false =>
       have h2 : ¬ (i < X.length) := of_decide_eq_false hd2
       clear hd2
       refine wp_cond_false rfl ?_
       refine wp_exit ?_
       change Code.wp ..
       refine wp_seq ?_
       refine wp_region_L _ hW5 ?_
       refine lm (v := .bool true) rfl rfl ?_
       refine wpL_done (fun W6 hW6 => ?_)
       change Code.wp ..
       refine wp_ret ?_
       try simp only [inBlock_ret, then_ret]
       refine bodyPost_ret (v := .bool true) ?_ rfl ?_
       · kernel_rfl
       · exact ⟨rfl, hW6.1⟩
     | true =>
       have h2 : i < X.length := of_decide_eq_true hd2
       clear hd2
       refine wp_cond_true rfl ?_
       refine wp_skip ?_
       change Code.wp ..
       refine wp_seq ?_
       refine wp_block ?_
       refine wp_seq ?_
       refine wp_region_V _ Tw.kr hW5 ?_
       refine vm (i := 0) (v := .slice p X.length c) rfl rfl rfl ?_
       refine vm (i := 1) (v := .int .i64 ((i : Nat) : Int)) rfl rfl rfl ?_
       obtain ⟨y1, g1_, f1_, hy1, hp1, hc1⟩ := RL.at (RL.base HP.out) tkC_len (by decide) (hW5.sub (fun _ h => by cases h)) (k := i) Tw.om
       refine vp (i := 2) (v := .pointer (some ⟨g1_, f1_ + i * 6, none⟩)) rfl rfl rfl (run_idxQ (p := p) (cap := c) (n := X.length) (j := .i64) (k := i) (sz := 6) rfl Tryd.underlying28 Tw.kr Tw.kr hp1 Tw.kr Tw.om) ?_
       refine vb (i := 3) (v := .agg (tkC y1).toArray) rfl rfl rfl (yb_rs (off := f1_ + i * 6) (cs := tkC y1) rfl Tw.kr (fun W hW => hc1 W (hW.sub (fun _ h => by cases h))) Tryd.underlying129 rfl Tw.kr) ?_
       refine vm (i := 4) (v := .slice q l.length d) rfl rfl rfl ?_
       refine vm (i := 5) (v := .int .i64 ((i : Nat) : Int)) rfl rfl rfl ?_
       obtain ⟨y2, g2_, f2_, hy2, hp2, hc2⟩ := RL.at (RL.base HQ.out) tkC_len (by decide) (hW5.sub (fun _ h => by cases h)) (k := i) Tw.om
       refine vp (i := 6) (v := .pointer (some ⟨g2_, f2_ + i * 6, none⟩)) rfl rfl rfl (run_idxQ (p := q) (cap := d) (n := l.length) (j := .i64) (k := i) (sz := 6) rfl Tryd.underlying28 Tw.kr Tw.kr hp2 Tw.kr Tw.om) ?_
       refine vb (i := 7) (v := .agg (tkC y2).toArray) rfl rfl rfl (yb_rs (off := f2_ + i * 6) (cs := tkC y2) rfl Tw.kr (fun W hW => hc2 W (hW.sub (fun _ h => by cases h))) Tryd.underlying129 rfl Tw.kr) ?_
       refine vv (i := 8) (v := .bool true) rfl rfl rfl (yb_call (f := 95) (args := #[.agg (tkC y1).toArray, .agg (tkC y2).toArray]) Tw.kf fun W hW => (by obtain ⟨q7, d7, e7, R7⟩ := lentTA_pre HA.out hy1 hy2; rw [e7]; exact sw_SameTank y2 q7 d7 (by have := lr y2 (List.mem_of_getElem? hy2); omega) W ((HR.out y2 (List.mem_of_getElem? hy2)).keep hW.1) (R7.keep hW.1))) ?_
       refine vm (i := 9) (v := .bool false) rfl rfl rfl ?_
       refine wpV_done Tw.kr (fun W7 hW7 => ?_) _
       change Code.wp ..
       refine wp_cond_false rfl ?_
       refine wp_skip ?_
       change Code.wp ..
       refine wp_region_L _ hW7 ?_
       refine lm (v := .int .i64 ((i : Nat) : Int)) rfl rfl ?_
       refine lp (v := .int .i64 (((i + 1) : Nat) : Int)) rfl rfl (run_bin rfl (vx := (.int .i64 ((i : Nat) : Int))) (vy := (.int .i64 ((1 : Nat) : Int))) Tw.kr Tw.kr fun w => bn_add (z := (i + 1)) rfl (wr_i64 Tw.om) w) ?_
       refine lm (v := .int .i64 (((i + 1) : Nat) : Int)) rfl rfl ?_
       refine wpL_done (fun W8 hW8 => ?_)
       go_roundw
       case rel =>
         repeat apply Exists.intro
         exact ⟨⟨i + 1, Tw.om, rfl, (hW8.sub (fun p hp => by first | exact hp | (simp only [List.mem_cons, List.mem_append, List.nil_append, List.not_mem_nil, or_assoc, or_false, false_or] at hp ⊢ <;> grind)))⟩, rfl⟩
       case measure => (show l.length - (intOf (.int .i64 (((i + 1) : Nat) : Int))).toNat < l.length - (intOf (.int .i64 ((i : Nat) : Int))).toNat); simp only [intOf]; omega
end Go.Proofs.YthpooalhibedpaaDoor
namespace Go.Proofs.YthpooalhibedpaaDoor
open Go Go.RowKit Tw
theorem eq_row (r : N5) {px py : Operand} (w : World) : (do eqGuard .eql 123 px py (.agg (n5C r).toArray) (.agg (n5C r).toArray); binOp .eql 123 (.agg (n5C r).toArray) (.agg (n5C r).toArray) : Sem Value).run Tryd.prog w = .ok (.bool true) w := by
 unfold n5C
 go_simp
theorem eq_fra (r : N5) {px py : Operand} (w : World) : (do eqGuard .eql 126 px py (.agg (n5C r).toArray) (.agg (n5C r).toArray); binOp .eql 126 (.agg (n5C r).toArray) (.agg (n5C r).toArray) : Sem Value).run Tryd.prog w = .ok (.bool true) w := by
 unfold n5C
 go_simp
theorem ne_row (r : N5) {px py : Operand} (w : World) : (do eqGuard .neq 123 px py (.agg (n5C r).toArray) (.agg (n5C r).toArray); binOp .neq 123 (.agg (n5C r).toArray) (.agg (n5C r).toArray) : Sem Value).run Tryd.prog w = .ok (.bool false) w := by
 unfold n5C
 go_simp
theorem ne_fra (r : N5) {px py : Operand} (w : World) : (do eqGuard .neq 126 px py (.agg (n5C r).toArray) (.agg (n5C r).toArray); binOp .neq 126 (.agg (n5C r).toArray) (.agg (n5C r).toArray) : Sem Value).run Tryd.prog w = .ok (.bool false) w := by
 unfold n5C
 go_simp
theorem kept_at {l m : List N5} {i : Nat} {x y : N5} (hx : (l ++ m)[i]? = some x) (hy : l[i]? = some y) : x = y := by
 rw [List.getElem?_append_left (List.getElem?_eq_some_iff.1 hy).1, hy] at hx
 exact (Option.some.inj hx).symm
theorem row_mark {l : List N5} {i : Nat} {x : N5} (hx : (l ++ mkRowL 12)[i]? = some x) (h : ¬ i < l.length) : x = mkRow (i - l.length) := by
 have h2 := (List.getElem?_eq_some_iff.1 hx).1
 rw [List.length_append, mkRowL_len] at h2
 rw [List.getElem?_append_right Tw.om, mkRowL_at Tw.om] at hx
 exact (Option.some.inj hx).symm
theorem fra_mark {l : List N5} {i : Nat} {x : N5} (hx : (l ++ mkFraL 12)[i]? = some x) (h : ¬ i < l.length) : x = mkFra (i - l.length) := by
 have h2 := (List.getElem?_eq_some_iff.1 hx).1
 rw [List.length_append, mkFraL_len] at h2
 rw [List.getElem?_append_right Tw.om, mkFraL_at Tw.om] at hx
 exact (Option.some.inj hx).symm
set_option maxRecDepth 100000 in
set_option maxHeartbeats 4000000 in
theorem KeptRows_any (l : List N5) (p q : Option Addr) (c d : Nat) (hl : l.length ≤ 3518437208780) (hc : l.length + 12 ≤ c) (w : World) (hp : SLV w p ((l ++ mkRowL 12).flatMap n5C)) (hq : SLV w q (l.flatMap n5C)) : Calls Tryd.prog 63 #[.slice p l.length c, .slice q l.length d] w fun e w' => e = .returned (.bool true) ∧ Below w.heap.size w w' := by
 have HP := Lib.hid hp
 clear hp
 have HQ := Lib.hid hq
 clear hq
 have hlen : (l ++ mkRowL 12).length = l.length + 12 := by rw [List.length_append, mkRowL_len]
 go_enter Tryd.func63, Tryd.ntmps63
 refine wp_seq ?_
 refine wp_region_L [] (KS.start w) ?_
 refine lm (v := .bool false) rfl rfl ?_
 refine wpL_done (fun W1 hW1 => ?_)
 change Code.wp ..
 refine wp_seq ?_
 refine wp_seq ?_
 refine wp_region_L _ hW1 ?_
 refine lm (v := .slice p l.length c) rfl rfl ?_
 refine lp (v := .int .i64 ((l.length : Nat) : Int)) rfl rfl (run_lenL (p := p) (cap := c) (n := l.length) rfl Tryd.underlying26 Tw.kr) ?_
 refine lm (v := .slice q l.length d) rfl rfl ?_
 refine lp (v := .int .i64 ((l.length : Nat) : Int)) rfl rfl (run_lenL (p := q) (cap := d) (n := l.length) rfl Tryd.underlying26 Tw.kr) ?_
 refine lp (v := .bool false) rfl rfl (run_bin rfl (vx := (.int .i64 ((l.length : Nat) : Int))) (vy := (.int .i64 ((l.length : Nat) : Int))) Tw.kr Tw.kr fun w => bn_neq (decide_eq_true rfl) w) ?_
 refine wpL_done (fun W2 hW2 => ?_)
 change Code.wp ..
 refine wp_cond_false rfl ?_
 refine wp_skip ?_
 change Code.wp ..
 refine wp_seq ?_
 refine wp_region_L _ hW2 ?_
 refine lm (v := .slice p l.length c) rfl rfl ?_
 refine lm (v := .slice q l.length d) rfl rfl ?_
 refine lp (v := .int .i64 ((l.length : Nat) : Int)) rfl rfl (run_lenL (p := q) (cap := d) (n := l.length) rfl Tryd.underlying26 Tw.kr) ?_
 refine lp (v := .int .i64 (((l.length + 12) : Nat) : Int)) rfl rfl (run_bin rfl (vx := (.int .i64 ((l.length : Nat) : Int))) (vy := (.int .i64 ((12 : Nat) : Int))) Tw.kr Tw.kr fun w => bn_add (z := (l.length + 12)) rfl (wr_i64 Tw.om) w) ?_
 refine lp (v := .slice p (l.length + 12) c) rfl rfl (run_slt (kd := .i64) (j := (l.length + 12)) (n := l.length) (c := c) (sz := 5) rfl Tryd.underlying26 Tw.kr Tw.kr Tw.kr Tw.om) ?_
 refine lm (v := .slice p (l.length + 12) c) rfl rfl ?_
 refine wpL_done (fun W3 hW3 => ?_)
 change Code.wp ..
 refine wp_seq ?_
 refine wp_seq ?_
 refine wp_region_L _ hW3 ?_
 refine lm (v := .int .i64 0) rfl rfl ?_
 refine wpL_done (fun W4 hW4 => ?_)
 change Code.wp ..
 refine wp_block ?_
 go_loopw [6] (fun u6 wr => ∃ (i : Nat), (i ≤ l.length + 12) ∧ u6 = .int .i64 ((i : Nat) : Int) ∧ KS w [] wr) (fun u6 _ => l.length + 12 - (intOf u6).toNat)
 case atStart => exact ⟨0, (Nat.zero_le _), rfl, (hW4.sub (fun p hp => by first | exact hp | (simp only [List.mem_cons, List.mem_append, List.nil_append, List.not_mem_nil, or_assoc, or_false, false_or] at hp ⊢ <;> grind)))⟩
 case round =>
   obtain ⟨i, hi, rfl, hL5⟩ := hrel
   refine wp_seq ?_
   refine wp_seq ?_
   refine wp_region_L _ hL5 ?_
   refine lm (v := .int .i64 ((i : Nat) : Int)) rfl rfl ?_
   refine lm (v := .slice p (l.length + 12) c) rfl rfl ?_
   refine lp (v := .int .i64 (((l.length + 12) : Nat) : Int)) rfl rfl (run_lenL (p := p) (cap := c) (n := (l.length + 12)) rfl Tryd.underlying26 Tw.kr) ?_
   refine lp (v := .bool (decide (i < (l.length + 12)))) rfl rfl (run_bin rfl (vx := (.int .i64 ((i : Nat) : Int))) (vy := (.int .i64 (((l.length + 12) : Nat) : Int))) Tw.kr Tw.kr fun w => bn_lss rfl w) ?_
   refine wpL_done (fun W6 hW6 => ?_)
   change Code.wp ..
   cases hd1 : (decide (i < (l.length + 12))) with
   | false =>
     have h1 : ¬ (i < (l.length + 12)) := of_decide_eq_false hd1
     clear hd1
     refine wp_cond_false rfl ?_
     refine wp_exit ?_
     change Code.wp ..
     refine wp_seq ?_
     refine wp_region_L _ hW6 ?_
     refine lm (v := .bool true) rfl rfl ?_
     refine wpL_done (fun W7 hW7 => ?_)
     change Code.wp ..
     refine wp_ret ?_
     try simp only [inBlock_ret, then_ret]
     refine bodyPost_ret (v := .bool true) ?_ rfl ?_
     · kernel_rfl
     · exact ⟨rfl, hW7.1⟩
   | true =>
     have h1 : i < (l.length + 12) := of_decide_eq_true hd1
     clear hd1
     refine wp_cond_true rfl ?_
     refine wp_skip ?_
     change Code.wp ..
     refine wp_seq ?_
     refine wp_block ?_
     refine wp_seq ?_
     refine wp_region_V _ Tw.kr hW6 ?_
     refine vm (i := 0) (v := .int .i64 ((i : Nat) : Int)) rfl rfl rfl ?_
     refine vm (i := 1) (v := .slice q l.length d) rfl rfl rfl ?_
     refine vp (i := 2) (v := .int .i64 ((l.length : Nat) : Int)) rfl rfl rfl (run_lenL (p := q) (cap := d) (n := l.length) rfl Tryd.underlying26 Tw.kr) ?_
     refine vp (i := 3) (v := .bool (decide (i < l.length))) rfl rfl rfl (run_bin rfl (vx := (.int .i64 ((i : Nat) : Int))) (vy := (.int .i64 ((l.length : Nat) : Int))) Tw.kr Tw.kr fun w => bn_lss rfl w) ?_
     refine vm (i := 4) (v := .bool (decide (i < l.length))) rfl rfl rfl ?_
     cases hd2 : (decide (i < l.length)) with
     | false =>
       have h2 : ¬ (i < l.length) := of_decide_eq_false hd2
       clear hd2
       refine vn (i := 5) rfl rfl ?_
       refine vn (i := 6) rfl rfl ?_
       refine vn (i := 7) rfl rfl ?_
       refine vn (i := 8) rfl rfl ?_
       refine vn (i := 9) rfl rfl ?_
       refine vn (i := 10) rfl rfl ?_
       refine vn (i := 11) rfl rfl ?_
       refine vn (i := 12) rfl rfl ?_
       refine vn (i := 13) rfl rfl ?_
       refine vn (i := 14) rfl rfl ?_
       refine vm (i := 15) (v := .bool false) rfl rfl rfl ?_
       refine vm (i := 16) (v := .bool false) rfl rfl rfl ?_
       refine vm (i := 17) (v := .int .i64 ((i : Nat) : Int)) rfl rfl rfl ?_
       refine vm (i := 18) (v := .slice q l.length d) rfl rfl rfl ?_
       refine vp (i := 19) (v := .int .i64 ((l.length : Nat) : Int)) rfl rfl rfl (run_lenL (p := q) (cap := d) (n := l.length) rfl Tryd.underlying26 Tw.kr) ?_
       refine vp (i := 20) (v := .bool true) rfl rfl rfl (run_bin rfl (vx := (.int .i64 ((i : Nat) : Int))) (vy := (.int .i64 ((l.length : Nat) : Int))) Tw.kr Tw.kr fun w => bn_geq (decide_eq_false (by assumption)) w) ?_
       refine vm (i := 21) (v := .bool true) rfl rfl rfl ?_
       refine vm (i := 22) (v := .slice p (l.length + 12) c) rfl rfl rfl ?_
       refine vm (i := 23) (v := .int .i64 ((i : Nat) : Int)) rfl rfl rfl ?_
       obtain ⟨y1, g1_, f1_, hy1, hp1, hc1⟩ := RL.at (RL.base HP.out) n5C_len (by decide) (hW6.sub (fun _ h => by cases h)) (k := i) Tw.om
       refine vp (i := 24) (v := .pointer (some ⟨g1_, f1_ + i * 5, none⟩)) rfl rfl rfl (run_idxQ (p := p) (cap := c) (n := (l.length + 12)) (j := .i64) (k := i) (sz := 5) rfl Tryd.underlying26 Tw.kr Tw.kr hp1 Tw.kr Tw.om) ?_
       refine vb (i := 25) (v := .agg (n5C y1).toArray) rfl rfl rfl (yb_rs (off := f1_ + i * 5) (cs := n5C y1) rfl Tw.kr (fun W hW => hc1 W (hW.sub (fun _ h => by cases h))) Tryd.underlying123 rfl Tw.kr) ?_
       refine vm (i := 26) (v := .int .i64 ((i : Nat) : Int)) rfl rfl rfl ?_
       refine vm (i := 27) (v := .slice q l.length d) rfl rfl rfl ?_
       refine vp (i := 28) (v := .int .i64 ((l.length : Nat) : Int)) rfl rfl rfl (run_lenL (p := q) (cap := d) (n := l.length) rfl Tryd.underlying26 Tw.kr) ?_
       refine vp (i := 29) (v := .int .i64 (((i - l.length) : Nat) : Int)) rfl rfl rfl (run_bin rfl (vx := (.int .i64 ((i : Nat) : Int))) (vy := (.int .i64 ((l.length : Nat) : Int))) Tw.kr Tw.kr fun w => bn_sub (z := (i - l.length)) rfl Tw.om (wr_i64 Tw.om) w) ?_
       refine vv (i := 30) (v := .agg (n5C (mkRow (i - l.length))).toArray) rfl rfl rfl (yb_call (f := 75) (args := #[.int .i64 1, .int .i64 (((i - l.length) : Nat) : Int)]) Tw.kf fun W hW => markRow_any (i - l.length) Tw.om W) ?_
       refine vp (i := 31) (v := .bool true) rfl rfl rfl (run_bin rfl (vx := .agg (n5C y1).toArray) (vy := .agg (n5C (mkRow (i - l.length))).toArray) Tw.kr Tw.kr fun w => (by rw [row_mark hy1 h2]; exact eq_row (mkRow (i - l.length)) w)) ?_
       refine vm (i := 32) (v := .bool false) rfl rfl rfl ?_
       refine vm (i := 33) (v := .bool false) rfl rfl rfl ?_
       refine vm (i := 34) (v := .bool false) rfl rfl rfl ?_
       refine wpV_done Tw.kr (fun W8 hW8 => ?_) _
       change Code.wp ..
       refine wp_cond_false rfl ?_
       refine wp_skip ?_
       change Code.wp ..
       refine wp_region_L _ hW8 ?_
       refine lm (v := .int .i64 ((i : Nat) : Int)) rfl rfl ?_
       refine lp (v := .int .i64 (((i + 1) : Nat) : Int)) rfl rfl (run_bin rfl (vx := (.int .i64 ((i : Nat) : Int))) (vy := (.int .i64 ((1 : Nat) : Int))) Tw.kr Tw.kr fun w => bn_add (z := (i + 1)) rfl (wr_i64 Tw.om) w) ?_
       refine lm (v := .int .i64 (((i + 1) : Nat) : Int)) rfl rfl ?_
       refine wpL_done (fun W9 hW9 => ?_)
       go_roundw
       case rel =>
         repeat apply Exists.intro
         exact ⟨⟨i + 1, Tw.om, rfl, (hW9.sub (fun p hp => by first | exact hp | (simp only [List.mem_cons, List.mem_append, List.nil_append, List.not_mem_nil, or_assoc, or_false, false_or] at hp ⊢ <;> grind)))⟩, rfl⟩
       case measure => (show l.length + 12 - (intOf (.int .i64 (((i + 1) : Nat) : Int))).toNat < l.length + 12 - (intOf (.int .i64 ((i : Nat) : Int))).toNat); simp only [intOf]; omega
     | true =>
       have h2 : i < l.length := of_decide_eq_true hd2
       clear hd2
       refine vm (i := 5) (v := .slice p (l.length + 12) c) rfl rfl rfl ?_
       refine vm (i := 6) (v := .int .i64 ((i : Nat) : Int)) rfl rfl rfl ?_
       obtain ⟨y2, g2_, f2_, hy2, hp2, hc2⟩ := RL.at (RL.base HP.out) n5C_len (by decide) (hW6.sub (fun _ h => by cases h)) (k := i) Tw.om
       refine vp (i := 7) (v := .pointer (some ⟨g2_, f2_ + i * 5, none⟩)) rfl rfl rfl (run_idxQ (p := p) (cap := c) (n := (l.length + 12)) (j := .i64) (k := i) (sz := 5) rfl Tryd.underlying26 Tw.kr Tw.kr hp2 Tw.kr Tw.om) ?_
       refine vb (i := 8) (v := .agg (n5C y2).toArray) rfl rfl rfl (yb_rs (off := f2_ + i * 5) (cs := n5C y2) rfl Tw.kr (fun W hW => hc2 W (hW.sub (fun _ h => by cases h))) Tryd.underlying123 rfl Tw.kr) ?_
       refine vm (i := 9) (v := .slice q l.length d) rfl rfl rfl ?_
       refine vm (i := 10) (v := .int .i64 ((i : Nat) : Int)) rfl rfl rfl ?_
       obtain ⟨y3, g3_, f3_, hy3, hp3, hc3⟩ := RL.at (RL.base HQ.out) n5C_len (by decide) (hW6.sub (fun _ h => by cases h)) (k := i) Tw.om
       refine vp (i := 11) (v := .pointer (some ⟨g3_, f3_ + i * 5, none⟩)) rfl rfl rfl (run_idxQ (p := q) (cap := d) (n := l.length) (j := .i64) (k := i) (sz := 5) rfl Tryd.underlying26 Tw.kr Tw.kr hp3 Tw.kr Tw.om) ?_
       refine vb (i := 12) (v := .agg (n5C y3).toArray) rfl rfl rfl (yb_rs (off := f3_ + i * 5) (cs := n5C y3) rfl Tw.kr (fun W hW => hc3 W (hW.sub (fun _ h => by cases h))) Tryd.underlying123 rfl Tw.kr) ?_
       refine vp (i := 13) (v := .bool true) rfl rfl rfl (run_bin rfl (vx := .agg (n5C y2).toArray) (vy := .agg (n5C y3).toArray) Tw.kr Tw.kr fun w => (by rw [kept_at hy2 hy3]; exact eq_row y3 w)) ?_
       refine vm (i := 14) (v := .bool false) rfl rfl rfl ?_
       refine vm (i := 15) (v := .bool false) rfl rfl rfl ?_
       refine vm (i := 16) (v := .bool false) rfl rfl rfl ?_
       refine vm (i := 17) (v := .int .i64 ((i : Nat) : Int)) rfl rfl rfl ?_
       refine vm (i := 18) (v := .slice q l.length d) rfl rfl rfl ?_
       refine vp (i := 19) (v := .int .i64 ((l.length : Nat) : Int)) rfl rfl rfl (run_lenL (p := q) (cap := d) (n := l.length) rfl Tryd.underlying26 Tw.kr) ?_
       refine vp (i := 20) (v := .bool false) rfl rfl rfl (run_bin rfl (vx := (.int .i64 ((i : Nat) : Int))) (vy := (.int .i64 ((l.length : Nat) : Int))) Tw.kr Tw.kr fun w => bn_geq (decide_eq_true (by assumption)) w) ?_
       refine vm (i := 21) (v := .bool false) rfl rfl rfl ?_
       refine vn (i := 22) rfl rfl ?_
       refine vn (i := 23) rfl rfl ?_
       refine vn (i := 24) rfl rfl ?_
       refine vn (i := 25) rfl rfl ?_
       refine vn (i := 26) rfl rfl ?_
       refine vn (i := 27) rfl rfl ?_
       refine vn (i := 28) rfl rfl ?_
       refine vn (i := 29) rfl rfl ?_
       refine vn (i := 30) rfl rfl ?_
       refine vn (i := 31) rfl rfl ?_
       refine vn (i := 32) rfl rfl ?_
       refine vm (i := 33) (v := .bool false) rfl rfl rfl ?_
       refine vm (i := 34) (v := .bool false) rfl rfl rfl ?_
       refine wpV_done Tw.kr (fun W10 hW10 => ?_) _
       change Code.wp ..
       refine wp_cond_false rfl ?_
       refine wp_skip ?_
       change Code.wp ..
       refine wp_region_L _ hW10 ?_
       refine lm (v := .int .i64 ((i : Nat) : Int)) rfl rfl ?_
       refine lp (v := .int .i64 (((i + 1) : Nat) : Int)) rfl rfl (run_bin rfl (vx := (.int .i64 ((i : Nat) : Int))) (vy := (.int .i64 ((1 : Nat) : Int))) Tw.kr Tw.kr fun w => bn_add (z := (i + 1)) rfl (wr_i64 Tw.om) w) ?_
       refine lm (v := .int .i64 (((i + 1) : Nat) : Int)) rfl rfl ?_
       refine wpL_done (fun W11 hW11 => ?_)
       go_roundw
       case rel =>
         repeat apply Exists.intro
         exact ⟨⟨i + 1, Tw.om, rfl, (hW11.sub (fun p hp => by first | exact hp | (simp only [List.mem_cons, List.mem_append, List.nil_append, List.not_mem_nil, or_assoc, or_false, false_or] at hp ⊢ <;> grind)))⟩, rfl⟩
       case measure => (show l.length + 12 - (intOf (.int .i64 (((i + 1) : Nat) : Int))).toNat < l.length + 12 - (intOf (.int .i64 ((i : Nat) : Int))).toNat); simp only [intOf]; omega
set_option maxRecDepth 100000 in
set_option maxHeartbeats 4000000 in
theorem KeptFrames_any (l : List N5) (p q : Option Addr) (c d : Nat) (hl : l.length ≤ 3518437208780) (hc : l.length + 12 ≤ c) (w : World) (hp : SLV w p ((l ++ mkFraL 12).flatMap n5C)) (hq : SLV w q (l.flatMap n5C)) : Calls Tryd.prog 64 #[.slice p l.length c, .slice q l.length d] w fun e w' => e = .returned (.bool true) ∧ Below w.heap.size w w' := by
 have HP := Lib.hid hp
 clear hp
 have HQ := Lib.hid hq
 clear hq
 have hlen : (l ++ mkFraL 12).length = l.length + 12 := by rw [List.length_append, mkFraL_len]
 go_enter Tryd.func64, Tryd.ntmps64
 refine wp_seq ?_
 refine wp_region_L [] (KS.start w) ?_
 refine lm (v := .bool false) rfl rfl ?_
 refine wpL_done (fun W1 hW1 => ?_)
 change Code.wp ..
 refine wp_seq ?_
 refine wp_seq ?_
 refine wp_region_L _ hW1 ?_
 refine lm (v := .slice p l.length c) rfl rfl ?_
 refine lp (v := .int .i64 ((l.length : Nat) : Int)) rfl rfl (run_lenL (p := p) (cap := c) (n := l.length) rfl Tryd.underlying27 Tw.kr) ?_
 refine lm (v := .slice q l.length d) rfl rfl ?_
 refine lp (v := .int .i64 ((l.length : Nat) : Int)) rfl rfl (run_lenL (p := q) (cap := d) (n := l.length) rfl Tryd.underlying27 Tw.kr) ?_
 refine lp (v := .bool false) rfl rfl (run_bin rfl (vx := (.int .i64 ((l.length : Nat) : Int))) (vy := (.int .i64 ((l.length : Nat) : Int))) Tw.kr Tw.kr fun w => bn_neq (decide_eq_true rfl) w) ?_
 refine wpL_done (fun W2 hW2 => ?_)
 change Code.wp ..
 refine wp_cond_false rfl ?_
 refine wp_skip ?_
 change Code.wp ..
 refine wp_seq ?_
 refine wp_region_L _ hW2 ?_
 refine lm (v := .slice p l.length c) rfl rfl ?_
 refine lm (v := .slice q l.length d) rfl rfl ?_
 refine lp (v := .int .i64 ((l.length : Nat) : Int)) rfl rfl (run_lenL (p := q) (cap := d) (n := l.length) rfl Tryd.underlying27 Tw.kr) ?_
 refine lp (v := .int .i64 (((l.length + 12) : Nat) : Int)) rfl rfl (run_bin rfl (vx := (.int .i64 ((l.length : Nat) : Int))) (vy := (.int .i64 ((12 : Nat) : Int))) Tw.kr Tw.kr fun w => bn_add (z := (l.length + 12)) rfl (wr_i64 Tw.om) w) ?_
 refine lp (v := .slice p (l.length + 12) c) rfl rfl (run_slt (kd := .i64) (j := (l.length + 12)) (n := l.length) (c := c) (sz := 5) rfl Tryd.underlying27 Tw.kr Tw.kr Tw.kr Tw.om) ?_
 refine lm (v := .slice p (l.length + 12) c) rfl rfl ?_
 refine wpL_done (fun W3 hW3 => ?_)
 change Code.wp ..
 refine wp_seq ?_
 refine wp_seq ?_
 refine wp_region_L _ hW3 ?_
 refine lm (v := .int .i64 0) rfl rfl ?_
 refine wpL_done (fun W4 hW4 => ?_)
 change Code.wp ..
 refine wp_block ?_
 go_loopw [6] (fun u6 wr => ∃ (i : Nat), (i ≤ l.length + 12) ∧ u6 = .int .i64 ((i : Nat) : Int) ∧ KS w [] wr) (fun u6 _ => l.length + 12 - (intOf u6).toNat)
 case atStart => exact ⟨0, (Nat.zero_le _), rfl, (hW4.sub (fun p hp => by first | exact hp | (simp only [List.mem_cons, List.mem_append, List.nil_append, List.not_mem_nil, or_assoc, or_false, false_or] at hp ⊢ <;> grind)))⟩
 case round =>
   obtain ⟨i, hi, rfl, hL5⟩ := hrel
   refine wp_seq ?_
   refine wp_seq ?_
   refine wp_region_L _ hL5 ?_
   refine lm (v := .int .i64 ((i : Nat) : Int)) rfl rfl ?_
   refine lm (v := .slice p (l.length + 12) c) rfl rfl ?_
   refine lp (v := .int .i64 (((l.length + 12) : Nat) : Int)) rfl rfl (run_lenL (p := p) (cap := c) (n := (l.length + 12)) rfl Tryd.underlying27 Tw.kr) ?_
   refine lp (v := .bool (decide (i < (l.length + 12)))) rfl rfl (run_bin rfl (vx := (.int .i64 ((i : Nat) : Int))) (vy := (.int .i64 (((l.length + 12) : Nat) : Int))) Tw.kr Tw.kr fun w => bn_lss rfl w) ?_
   refine wpL_done (fun W6 hW6 => ?_)
   change Code.wp ..
   cases hd1 : (decide (i < (l.length + 12))) with
   | false =>
     have h1 : ¬ (i < (l.length + 12)) := of_decide_eq_false hd1
     clear hd1
     refine wp_cond_false rfl ?_
     refine wp_exit ?_
     change Code.wp ..
     refine wp_seq ?_
     refine wp_region_L _ hW6 ?_
     refine lm (v := .bool true) rfl rfl ?_
     refine wpL_done (fun W7 hW7 => ?_)
     change Code.wp ..
     refine wp_ret ?_
     try simp only [inBlock_ret, then_ret]
     refine bodyPost_ret (v := .bool true) ?_ rfl ?_
     · kernel_rfl
     · exact ⟨rfl, hW7.1⟩
   | true =>
     have h1 : i < (l.length + 12) := of_decide_eq_true hd1
     clear hd1
     refine wp_cond_true rfl ?_
     refine wp_skip ?_
     change Code.wp ..
     refine wp_seq ?_
     refine wp_block ?_
     refine wp_seq ?_
     refine wp_region_V _ Tw.kr hW6 ?_
     refine vm (i := 0) (v := .int .i64 ((i : Nat) : Int)) rfl rfl rfl ?_
     refine vm (i := 1) (v := .slice q l.length d) rfl rfl rfl ?_
     refine vp (i := 2) (v := .int .i64 ((l.length : Nat) : Int)) rfl rfl rfl (run_lenL (p := q) (cap := d) (n := l.length) rfl Tryd.underlying27 Tw.kr) ?_
     refine vp (i := 3) (v := .bool (decide (i < l.length))) rfl rfl rfl (run_bin rfl (vx := (.int .i64 ((i : Nat) : Int))) (vy := (.int .i64 ((l.length : Nat) : Int))) Tw.kr Tw.kr fun w => bn_lss rfl w) ?_
     refine vm (i := 4) (v := .bool (decide (i < l.length))) rfl rfl rfl ?_
     cases hd2 : (decide (i < l.length)) with
     | false =>
       have h2 : ¬ (i < l.length) := of_decide_eq_false hd2
       clear hd2
       refine vn (i := 5) rfl rfl ?_
       refine vn (i := 6) rfl rfl ?_
       refine vn (i := 7) rfl rfl ?_
       refine vn (i := 8) rfl rfl ?_
       refine vn (i := 9) rfl rfl ?_
       refine vn (i := 10) rfl rfl ?_
       refine vn (i := 11) rfl rfl ?_
       refine vn (i := 12) rfl rfl ?_
       refine vn (i := 13) rfl rfl ?_
       refine vn (i := 14) rfl rfl ?_
       refine vm (i := 15) (v := .bool false) rfl rfl rfl ?_
       refine vm (i := 16) (v := .bool false) rfl rfl rfl ?_
       refine vm (i := 17) (v := .int .i64 ((i : Nat) : Int)) rfl rfl rfl ?_
       refine vm (i := 18) (v := .slice q l.length d) rfl rfl rfl ?_
       refine vp (i := 19) (v := .int .i64 ((l.length : Nat) : Int)) rfl rfl rfl (run_lenL (p := q) (cap := d) (n := l.length) rfl Tryd.underlying27 Tw.kr) ?_
       refine vp (i := 20) (v := .bool true) rfl rfl rfl (run_bin rfl (vx := (.int .i64 ((i : Nat) : Int))) (vy := (.int .i64 ((l.length : Nat) : Int))) Tw.kr Tw.kr fun w => bn_geq (decide_eq_false (by assumption)) w) ?_
       refine vm (i := 21) (v := .bool true) rfl rfl rfl ?_
       refine vm (i := 22) (v := .slice p (l.length + 12) c) rfl rfl rfl ?_
       refine vm (i := 23) (v := .int .i64 ((i : Nat) : Int)) rfl rfl rfl ?_
       obtain ⟨y1, g1_, f1_, hy1, hp1, hc1⟩ := RL.at (RL.base HP.out) n5C_len (by decide) (hW6.sub (fun _ h => by cases h)) (k := i) Tw.om
       refine vp (i := 24) (v := .pointer (some ⟨g1_, f1_ + i * 5, none⟩)) rfl rfl rfl (run_idxQ (p := p) (cap := c) (n := (l.length + 12)) (j := .i64) (k := i) (sz := 5) rfl Tryd.underlying27 Tw.kr Tw.kr hp1 Tw.kr Tw.om) ?_
       refine vb (i := 25) (v := .agg (n5C y1).toArray) rfl rfl rfl (yb_rs (off := f1_ + i * 5) (cs := n5C y1) rfl Tw.kr (fun W hW => hc1 W (hW.sub (fun _ h => by cases h))) Tryd.underlying126 rfl Tw.kr) ?_
       refine vm (i := 26) (v := .int .i64 ((i : Nat) : Int)) rfl rfl rfl ?_
       refine vm (i := 27) (v := .slice q l.length d) rfl rfl rfl ?_
       refine vp (i := 28) (v := .int .i64 ((l.length : Nat) : Int)) rfl rfl rfl (run_lenL (p := q) (cap := d) (n := l.length) rfl Tryd.underlying27 Tw.kr) ?_
       refine vp (i := 29) (v := .int .i64 (((i - l.length) : Nat) : Int)) rfl rfl rfl (run_bin rfl (vx := (.int .i64 ((i : Nat) : Int))) (vy := (.int .i64 ((l.length : Nat) : Int))) Tw.kr Tw.kr fun w => bn_sub (z := (i - l.length)) rfl Tw.om (wr_i64 Tw.om) w) ?_
       refine vv (i := 30) (v := .agg (n5C (mkFra (i - l.length))).toArray) rfl rfl rfl (yb_call (f := 76) (args := #[.int .i64 1, .int .i64 (((i - l.length) : Nat) : Int)]) Tw.kf fun W hW => markFrame_any (i - l.length) Tw.om W) ?_
       refine vp (i := 31) (v := .bool true) rfl rfl rfl (run_bin rfl (vx := .agg (n5C y1).toArray) (vy := .agg (n5C (mkFra (i - l.length))).toArray) Tw.kr Tw.kr fun w => (by rw [fra_mark hy1 h2]; exact eq_fra (mkFra (i - l.length)) w)) ?_
       refine vm (i := 32) (v := .bool false) rfl rfl rfl ?_
       refine vm (i := 33) (v := .bool false) rfl rfl rfl ?_
       refine vm (i := 34) (v := .bool false) rfl rfl rfl ?_
       refine wpV_done Tw.kr (fun W8 hW8 => ?_) _
       change Code.wp ..
       refine wp_cond_false rfl ?_
       refine wp_skip ?_
       change Code.wp ..
       refine wp_region_L _ hW8 ?_
       refine lm (v := .int .i64 ((i : Nat) : Int)) rfl rfl ?_
       refine lp (v := .int .i64 (((i + 1) : Nat) : Int)) rfl rfl (run_bin rfl (vx := (.int .i64 ((i : Nat) : Int))) (vy := (.int .i64 ((1 : Nat) : Int))) Tw.kr Tw.kr fun w => bn_add (z := (i + 1)) rfl (wr_i64 Tw.om) w) ?_
       refine lm (v := .int .i64 (((i + 1) : Nat) : Int)) rfl rfl ?_
       refine wpL_done (fun W9 hW9 => ?_)
       go_roundw
       case rel =>
         repeat apply Exists.intro
         exact ⟨⟨i + 1, Tw.om, rfl, (hW9.sub (fun p hp => by first | exact hp | (simp only [List.mem_cons, List.mem_append, List.nil_append, List.not_mem_nil, or_assoc, or_false, false_or] at hp ⊢ <;> grind)))⟩, rfl⟩
       case measure => (show l.length + 12 - (intOf (.int .i64 (((i + 1) : Nat) : Int))).toNat < l.length + 12 - (intOf (.int .i64 ((i : Nat) : Int))).toNat); simp only [intOf]; omega
     | true =>
       have h2 : i < l.length := of_decide_eq_true hd2
       clear hd2
       refine vm (i := 5) (v := .slice p (l.length + 12) c) rfl rfl rfl ?_
       refine vm (i := 6) (v := .int .i64 ((i : Nat) : Int)) rfl rfl rfl ?_
       obtain ⟨y2, g2_, f2_, hy2, hp2, hc2⟩ := RL.at (RL.base HP.out) n5C_len (by decide) (hW6.sub (fun _ h => by cases h)) (k := i) Tw.om
       refine vp (i := 7) (v := .pointer (some ⟨g2_, f2_ + i * 5, none⟩)) rfl rfl rfl (run_idxQ (p := p) (cap := c) (n := (l.length + 12)) (j := .i64) (k := i) (sz := 5) rfl Tryd.underlying27 Tw.kr Tw.kr hp2 Tw.kr Tw.om) ?_
       refine vb (i := 8) (v := .agg (n5C y2).toArray) rfl rfl rfl (yb_rs (off := f2_ + i * 5) (cs := n5C y2) rfl Tw.kr (fun W hW => hc2 W (hW.sub (fun _ h => by cases h))) Tryd.underlying126 rfl Tw.kr) ?_
       refine vm (i := 9) (v := .slice q l.length d) rfl rfl rfl ?_
       refine vm (i := 10) (v := .int .i64 ((i : Nat) : Int)) rfl rfl rfl ?_
       obtain ⟨y3, g3_, f3_, hy3, hp3, hc3⟩ := RL.at (RL.base HQ.out) n5C_len (by decide) (hW6.sub (fun _ h => by cases h)) (k := i) Tw.om
       refine vp (i := 11) (v := .pointer (some ⟨g3_, f3_ + i * 5, none⟩)) rfl rfl rfl (run_idxQ (p := q) (cap := d) (n := l.length) (j := .i64) (k := i) (sz := 5) rfl Tryd.underlying27 Tw.kr Tw.kr hp3 Tw.kr Tw.om) ?_
       refine vb (i := 12) (v := .agg (n5C y3).toArray) rfl rfl rfl (yb_rs (off := f3_ + i * 5) (cs := n5C y3) rfl Tw.kr (fun W hW => hc3 W (hW.sub (fun _ h => by cases h))) Tryd.underlying126 rfl Tw.kr) ?_
       refine vp (i := 13) (v := .bool true) rfl rfl rfl (run_bin rfl (vx := .agg (n5C y2).toArray) (vy := .agg (n5C y3).toArray) Tw.kr Tw.kr fun w => (by rw [kept_at hy2 hy3]; exact eq_fra y3 w)) ?_
       refine vm (i := 14) (v := .bool false) rfl rfl rfl ?_
       refine vm (i := 15) (v := .bool false) rfl rfl rfl ?_
       refine vm (i := 16) (v := .bool false) rfl rfl rfl ?_
       refine vm (i := 17) (v := .int .i64 ((i : Nat) : Int)) rfl rfl rfl ?_
       refine vm (i := 18) (v := .slice q l.length d) rfl rfl rfl ?_
       refine vp (i := 19) (v := .int .i64 ((l.length : Nat) : Int)) rfl rfl rfl (run_lenL (p := q) (cap := d) (n := l.length) rfl Tryd.underlying27 Tw.kr) ?_
       refine vp (i := 20) (v := .bool false) rfl rfl rfl (run_bin rfl (vx := (.int .i64 ((i : Nat) : Int))) (vy := (.int .i64 ((l.length : Nat) : Int))) Tw.kr Tw.kr fun w => bn_geq (decide_eq_true (by assumption)) w) ?_
       refine vm (i := 21) (v := .bool false) rfl rfl rfl ?_
       refine vn (i := 22) rfl rfl ?_
       refine vn (i := 23) rfl rfl ?_
       refine vn (i := 24) rfl rfl ?_
       refine vn (i := 25) rfl rfl ?_
       refine vn (i := 26) rfl rfl ?_
       refine vn (i := 27) rfl rfl ?_
       refine vn (i := 28) rfl rfl ?_
       refine vn (i := 29) rfl rfl ?_
       refine vn (i := 30) rfl rfl ?_
       refine vn (i := 31) rfl rfl ?_
       refine vn (i := 32) rfl rfl ?_
       refine vm (i := 33) (v := .bool false) rfl rfl rfl ?_
       refine vm (i := 34) (v := .bool false) rfl rfl rfl ?_
       refine wpV_done Tw.kr (fun W10 hW10 => ?_) _
       change Code.wp ..
       refine wp_cond_false rfl ?_
       refine wp_skip ?_
       change Code.wp ..
       refine wp_region_L _ hW10 ?_
       refine lm (v := .int .i64 ((i : Nat) : Int)) rfl rfl ?_
       refine lp (v := .int .i64 (((i + 1) : Nat) : Int)) rfl rfl (run_bin rfl (vx := (.int .i64 ((i : Nat) : Int))) (vy := (.int .i64 ((1 : Nat) : Int))) Tw.kr Tw.kr fun w => bn_add (z := (i + 1)) rfl (wr_i64 Tw.om) w) ?_
       refine lm (v := .int .i64 (((i + 1) : Nat) : Int)) rfl rfl ?_
       refine wpL_done (fun W11 hW11 => ?_)
       go_roundw
       case rel =>
         repeat apply Exists.intro
         exact ⟨⟨i + 1, Tw.om, rfl, (hW11.sub (fun p hp => by first | exact hp | (simp only [List.mem_cons, List.mem_append, List.nil_append, List.not_mem_nil, or_assoc, or_false, false_or] at hp ⊢ <;> grind)))⟩, rfl⟩
       case measure => (show l.length + 12 - (intOf (.int .i64 (((i + 1) : Nat) : Int))).toNat < l.length + 12 - (intOf (.int .i64 ((i : Nat) : Int))).toNat); simp only [intOf]; omega
set_option maxRecDepth 100000 in
set_option maxHeartbeats 4000000 in
theorem SameRows_any (l : List N5) (p q : Option Addr) (c d : Nat) (hl : l.length ≤ 3518437208780) (w : World) (hp : SLV w p (l.flatMap n5C)) (hq : SLV w q (l.flatMap n5C)) : Calls Tryd.prog 87 #[.slice p l.length c, .slice q l.length d] w fun e w' => e = .returned (.bool true) ∧ Below w.heap.size w w' := by
 have HP := Lib.hid hp
 clear hp
 have HQ := Lib.hid hq
 clear hq
 go_enter Tryd.func87, Tryd.ntmps87
 refine wp_seq ?_
 refine wp_region_L [] (KS.start w) ?_
 refine lm (v := .bool false) rfl rfl ?_
 refine wpL_done (fun W1 hW1 => ?_)
 change Code.wp ..
 refine wp_seq ?_
 refine wp_seq ?_
 refine wp_region_L _ hW1 ?_
 refine lm (v := .slice p l.length c) rfl rfl ?_
 refine lp (v := .int .i64 ((l.length : Nat) : Int)) rfl rfl (run_lenL (p := p) (cap := c) (n := l.length) rfl Tryd.underlying26 Tw.kr) ?_
 refine lm (v := .slice q l.length d) rfl rfl ?_
 refine lp (v := .int .i64 ((l.length : Nat) : Int)) rfl rfl (run_lenL (p := q) (cap := d) (n := l.length) rfl Tryd.underlying26 Tw.kr) ?_
 refine lp (v := .bool false) rfl rfl (run_bin rfl (vx := (.int .i64 ((l.length : Nat) : Int))) (vy := (.int .i64 ((l.length : Nat) : Int))) Tw.kr Tw.kr fun w => bn_neq (decide_eq_true rfl) w) ?_
 refine wpL_done (fun W2 hW2 => ?_)
 change Code.wp ..
 refine wp_cond_false rfl ?_
 refine wp_skip ?_
 change Code.wp ..
 refine wp_seq ?_
 refine wp_seq ?_
 refine wp_region_L _ hW2 ?_
 refine lm (v := .int .i64 0) rfl rfl ?_
 refine wpL_done (fun W3 hW3 => ?_)
 change Code.wp ..
 refine wp_block ?_
 go_loopw [5] (fun u5 wr => ∃ (i : Nat), (i ≤ l.length) ∧ u5 = .int .i64 ((i : Nat) : Int) ∧ KS w [] wr) (fun u5 _ => l.length - (intOf u5).toNat)
 case atStart => exact ⟨0, (Nat.zero_le _), rfl, (hW3.sub (fun p hp => by first | exact hp | (simp only [List.mem_cons, List.mem_append, List.nil_append, List.not_mem_nil, or_assoc, or_false, false_or] at hp ⊢ <;> grind)))⟩
 case round =>
   obtain ⟨i, hi, rfl, hL4⟩ := hrel
   refine wp_seq ?_
   refine wp_seq ?_
   refine wp_region_L _ hL4 ?_
   refine lm (v := .int .i64 ((i : Nat) : Int)) rfl rfl ?_
   refine lm (v := .slice p l.length c) rfl rfl ?_
   refine lp (v := .int .i64 ((l.length : Nat) : Int)) rfl rfl (run_lenL (p := p) (cap := c) (n := l.length) rfl Tryd.underlying26 Tw.kr) ?_
   refine lp (v := .bool (decide (i < l.length))) rfl rfl (run_bin rfl (vx := (.int .i64 ((i : Nat) : Int))) (vy := (.int .i64 ((l.length : Nat) : Int))) Tw.kr Tw.kr fun w => bn_lss rfl w) ?_
   refine wpL_done (fun W5 hW5 => ?_)
   change Code.wp ..
   cases hd1 : (decide (i < l.length)) with
   | false =>
     have h1 : ¬ (i < l.length) := of_decide_eq_false hd1
     clear hd1
     refine wp_cond_false rfl ?_
     refine wp_exit ?_
     change Code.wp ..
     refine wp_seq ?_
     refine wp_region_L _ hW5 ?_
     refine lm (v := .bool true) rfl rfl ?_
     refine wpL_done (fun W6 hW6 => ?_)
     change Code.wp ..
     refine wp_ret ?_
     try simp only [inBlock_ret, then_ret]
     refine bodyPost_ret (v := .bool true) ?_ rfl ?_
     · kernel_rfl
     · exact ⟨rfl, hW6.1⟩
   | true =>
     have h1 : i < l.length := of_decide_eq_true hd1
     clear hd1
     refine wp_cond_true rfl ?_
     refine wp_skip ?_
     change Code.wp ..
     refine wp_seq ?_
     refine wp_block ?_
     refine wp_seq ?_
     refine wp_region_V _ Tw.kr hW5 ?_
     refine vm (i := 0) (v := .slice p l.length c) rfl rfl rfl ?_
     refine vm (i := 1) (v := .int .i64 ((i : Nat) : Int)) rfl rfl rfl ?_
     obtain ⟨y1, g1_, f1_, hy1, hp1, hc1⟩ := RL.at (RL.base HP.out) n5C_len (by decide) (hW5.sub (fun _ h => by cases h)) (k := i) Tw.om
     refine vp (i := 2) (v := .pointer (some ⟨g1_, f1_ + i * 5, none⟩)) rfl rfl rfl (run_idxQ (p := p) (cap := c) (n := l.length) (j := .i64) (k := i) (sz := 5) rfl Tryd.underlying26 Tw.kr Tw.kr hp1 Tw.kr Tw.om) ?_
     refine vb (i := 3) (v := .agg (n5C y1).toArray) rfl rfl rfl (yb_rs (off := f1_ + i * 5) (cs := n5C y1) rfl Tw.kr (fun W hW => hc1 W (hW.sub (fun _ h => by cases h))) Tryd.underlying123 rfl Tw.kr) ?_
     refine vm (i := 4) (v := .slice q l.length d) rfl rfl rfl ?_
     refine vm (i := 5) (v := .int .i64 ((i : Nat) : Int)) rfl rfl rfl ?_
     obtain ⟨y2, g2_, f2_, hy2, hp2, hc2⟩ := RL.at (RL.base HQ.out) n5C_len (by decide) (hW5.sub (fun _ h => by cases h)) (k := i) Tw.om
     refine vp (i := 6) (v := .pointer (some ⟨g2_, f2_ + i * 5, none⟩)) rfl rfl rfl (run_idxQ (p := q) (cap := d) (n := l.length) (j := .i64) (k := i) (sz := 5) rfl Tryd.underlying26 Tw.kr Tw.kr hp2 Tw.kr Tw.om) ?_
     refine vb (i := 7) (v := .agg (n5C y2).toArray) rfl rfl rfl (yb_rs (off := f2_ + i * 5) (cs := n5C y2) rfl Tw.kr (fun W hW => hc2 W (hW.sub (fun _ h => by cases h))) Tryd.underlying123 rfl Tw.kr) ?_
     refine vp (i := 8) (v := .bool false) rfl rfl rfl (run_bin rfl (vx := .agg (n5C y1).toArray) (vy := .agg (n5C y2).toArray) Tw.kr Tw.kr fun w => (by rw [show y1 = y2 from Option.some.inj (hy1.symm.trans hy2)]; exact ne_row y2 w)) ?_
     refine wpV_done Tw.kr (fun W7 hW7 => ?_) _
     change Code.wp ..
     refine wp_cond_false rfl ?_
     refine wp_skip ?_
     change Code.wp ..
     refine wp_region_L _ hW7 ?_
     refine lm (v := .int .i64 ((i : Nat) : Int)) rfl rfl ?_
     refine lp (v := .int .i64 (((i + 1) : Nat) : Int)) rfl rfl (run_bin rfl (vx := (.int .i64 ((i : Nat) : Int))) (vy := (.int .i64 ((1 : Nat) : Int))) Tw.kr Tw.kr fun w => bn_add (z := (i + 1)) rfl (wr_i64 Tw.om) w) ?_
     refine lm (v := .int .i64 (((i + 1) : Nat) : Int)) rfl rfl ?_
     refine wpL_done (fun W8 hW8 => ?_)
     go_roundw
     case rel =>
       repeat apply Exists.intro
       exact ⟨⟨i + 1, Tw.om, rfl, (hW8.sub (fun p hp => by first | exact hp | (simp only [List.mem_cons, List.mem_append, List.nil_append, List.not_mem_nil, or_assoc, or_false, false_or] at hp ⊢ <;> grind)))⟩, rfl⟩
     case measure => (show l.length - (intOf (.int .i64 (((i + 1) : Nat) : Int))).toNat < l.length - (intOf (.int .i64 ((i : Nat) : Int))).toNat); simp only [intOf]; omega
set_option maxRecDepth 100000 in
set_option maxHeartbeats 4000000 in
theorem SameFrames_any (l : List N5) (p q : Option Addr) (c d : Nat) (hl : l.length ≤ 3518437208780) (w : World) (hp : SLV w p (l.flatMap n5C)) (hq : SLV w q (l.flatMap n5C)) : Calls Tryd.prog 88 #[.slice p l.length c, .slice q l.length d] w fun e w' => e = .returned (.bool true) ∧ Below w.heap.size w w' := by
 have HP := Lib.hid hp
 clear hp
 have HQ := Lib.hid hq
 clear hq
 go_enter Tryd.func88, Tryd.ntmps88
 refine wp_seq ?_
 refine wp_region_L [] (KS.start w) ?_
 refine lm (v := .bool false) rfl rfl ?_
 refine wpL_done (fun W1 hW1 => ?_)
 change Code.wp ..
 refine wp_seq ?_
 refine wp_seq ?_
 refine wp_region_L _ hW1 ?_
 refine lm (v := .slice p l.length c) rfl rfl ?_
 refine lp (v := .int .i64 ((l.length : Nat) : Int)) rfl rfl (run_lenL (p := p) (cap := c) (n := l.length) rfl Tryd.underlying27 Tw.kr) ?_
 refine lm (v := .slice q l.length d) rfl rfl ?_
 refine lp (v := .int .i64 ((l.length : Nat) : Int)) rfl rfl (run_lenL (p := q) (cap := d) (n := l.length) rfl Tryd.underlying27 Tw.kr) ?_
 refine lp (v := .bool false) rfl rfl (run_bin rfl (vx := (.int .i64 ((l.length : Nat) : Int))) (vy := (.int .i64 ((l.length : Nat) : Int))) Tw.kr Tw.kr fun w => bn_neq (decide_eq_true rfl) w) ?_
 refine wpL_done (fun W2 hW2 => ?_)
 change Code.wp ..
 refine wp_cond_false rfl ?_
 refine wp_skip ?_
 change Code.wp ..
 refine wp_seq ?_
 refine wp_seq ?_
 refine wp_region_L _ hW2 ?_
 refine lm (v := .int .i64 0) rfl rfl ?_
 refine wpL_done (fun W3 hW3 => ?_)
 change Code.wp ..
 refine wp_block ?_
 go_loopw [5] (fun u5 wr => ∃ (i : Nat), (i ≤ l.length) ∧ u5 = .int .i64 ((i : Nat) : Int) ∧ KS w [] wr) (fun u5 _ => l.length - (intOf u5).toNat)
 case atStart => exact ⟨0, (Nat.zero_le _), rfl, (hW3.sub (fun p hp => by first | exact hp | (simp only [List.mem_cons, List.mem_append, List.nil_append, List.not_mem_nil, or_assoc, or_false, false_or] at hp ⊢ <;> grind)))⟩
 case round =>
   obtain ⟨i, hi, rfl, hL4⟩ := hrel
   refine wp_seq ?_
   refine wp_seq ?_
   refine wp_region_L _ hL4 ?_
   refine lm (v := .int .i64 ((i : Nat) : Int)) rfl rfl ?_
   refine lm (v := .slice p l.length c) rfl rfl ?_
   refine lp (v := .int .i64 ((l.length : Nat) : Int)) rfl rfl (run_lenL (p := p) (cap := c) (n := l.length) rfl Tryd.underlying27 Tw.kr) ?_
   refine lp (v := .bool (decide (i < l.length))) rfl rfl (run_bin rfl (vx := (.int .i64 ((i : Nat) : Int))) (vy := (.int .i64 ((l.length : Nat) : Int))) Tw.kr Tw.kr fun w => bn_lss rfl w) ?_
   refine wpL_done (fun W5 hW5 => ?_)
   change Code.wp ..
   cases hd1 : (decide (i < l.length)) with
   | false =>
     have h1 : ¬ (i < l.length) := of_decide_eq_false hd1
     clear hd1
     refine wp_cond_false rfl ?_
     refine wp_exit ?_
     change Code.wp ..
     refine wp_seq ?_
     refine wp_region_L _ hW5 ?_
     refine lm (v := .bool true) rfl rfl ?_
     refine wpL_done (fun W6 hW6 => ?_)
     change Code.wp ..
     refine wp_ret ?_
     try simp only [inBlock_ret, then_ret]
     refine bodyPost_ret (v := .bool true) ?_ rfl ?_
     · kernel_rfl
     · exact ⟨rfl, hW6.1⟩
   | true =>
     have h1 : i < l.length := of_decide_eq_true hd1
     clear hd1
     refine wp_cond_true rfl ?_
     refine wp_skip ?_
     change Code.wp ..
     refine wp_seq ?_
     refine wp_block ?_
     refine wp_seq ?_
     refine wp_region_V _ Tw.kr hW5 ?_
     refine vm (i := 0) (v := .slice p l.length c) rfl rfl rfl ?_
     refine vm (i := 1) (v := .int .i64 ((i : Nat) : Int)) rfl rfl rfl ?_
     obtain ⟨y1, g1_, f1_, hy1, hp1, hc1⟩ := RL.at (RL.base HP.out) n5C_len (by decide) (hW5.sub (fun _ h => by cases h)) (k := i) Tw.om
     refine vp (i := 2) (v := .pointer (some ⟨g1_, f1_ + i * 5, none⟩)) rfl rfl rfl (run_idxQ (p := p) (cap := c) (n := l.length) (j := .i64) (k := i) (sz := 5) rfl Tryd.underlying27 Tw.kr Tw.kr hp1 Tw.kr Tw.om) ?_
     refine vb (i := 3) (v := .agg (n5C y1).toArray) rfl rfl rfl (yb_rs (off := f1_ + i * 5) (cs := n5C y1) rfl Tw.kr (fun W hW => hc1 W (hW.sub (fun _ h => by cases h))) Tryd.underlying126 rfl Tw.kr) ?_
     refine vm (i := 4) (v := .slice q l.length d) rfl rfl rfl ?_
     refine vm (i := 5) (v := .int .i64 ((i : Nat) : Int)) rfl rfl rfl ?_
     obtain ⟨y2, g2_, f2_, hy2, hp2, hc2⟩ := RL.at (RL.base HQ.out) n5C_len (by decide) (hW5.sub (fun _ h => by cases h)) (k := i) Tw.om
     refine vp (i := 6) (v := .pointer (some ⟨g2_, f2_ + i * 5, none⟩)) rfl rfl rfl (run_idxQ (p := q) (cap := d) (n := l.length) (j := .i64) (k := i) (sz := 5) rfl Tryd.underlying27 Tw.kr Tw.kr hp2 Tw.kr Tw.om) ?_
     refine vb (i := 7) (v := .agg (n5C y2).toArray) rfl rfl rfl (yb_rs (off := f2_ + i * 5) (cs := n5C y2) rfl Tw.kr (fun W hW => hc2 W (hW.sub (fun _ h => by cases h))) Tryd.underlying126 rfl Tw.kr) ?_
     refine vp (i := 8) (v := .bool false) rfl rfl rfl (run_bin rfl (vx := .agg (n5C y1).toArray) (vy := .agg (n5C y2).toArray) Tw.kr Tw.kr fun w => (by rw [show y1 = y2 from Option.some.inj (hy1.symm.trans hy2)]; exact ne_fra y2 w)) ?_
     refine wpV_done Tw.kr (fun W7 hW7 => ?_) _
     change Code.wp ..
     refine wp_cond_false rfl ?_
     refine wp_skip ?_
     change Code.wp ..
     refine wp_region_L _ hW7 ?_
     refine lm (v := .int .i64 ((i : Nat) : Int)) rfl rfl ?_
     refine lp (v := .int .i64 (((i + 1) : Nat) : Int)) rfl rfl (run_bin rfl (vx := (.int .i64 ((i : Nat) : Int))) (vy := (.int .i64 ((1 : Nat) : Int))) Tw.kr Tw.kr fun w => bn_add (z := (i + 1)) rfl (wr_i64 Tw.om) w) ?_
     refine lm (v := .int .i64 (((i + 1) : Nat) : Int)) rfl rfl ?_
     refine wpL_done (fun W8 hW8 => ?_)
     go_roundw
     case rel =>
       repeat apply Exists.intro
       exact ⟨⟨i + 1, Tw.om, rfl, (hW8.sub (fun p hp => by first | exact hp | (simp only [List.mem_cons, List.mem_append, List.nil_append, List.not_mem_nil, or_assoc, or_false, false_or] at hp ⊢ <;> grind)))⟩, rfl⟩
     case measure => (show l.length - (intOf (.int .i64 (((i + 1) : Nat) : Int))).toNat < l.length - (intOf (.int .i64 ((i : Nat) : Int))).toNat); simp only [intOf]; omega
end Go.Proofs.YthpooalhibedpaaDoor
/- A ship that was lent. -/
namespace Go.Proofs.YthpooalhibedpaaDoor
open Go Go.RowKit Tw
def NewF (F : List (Nat × Obj) → Value → Prop) (W0 : Base) (K : List (Nat × Obj)) (v : Value) (K' : List (Nat × Obj)) : Prop :=
 ∃ T, F T v ∧ (∀ b ∈ T, W0.B ≤ b.1) ∧ (∀ p ∈ K, ∀ q ∈ T, q.1 ≠ p.1) ∧ K' = K ++ T
theorem NewF.sub {F : List (Nat × Obj) → Value → Prop} {W0 : Base} {K K' : List (Nat × Obj)} {v : Value} (h : NewF F W0 K v K') : ∀ p ∈ K, p ∈ K' := by
 obtain ⟨_, _, _, _, rfl⟩ := h
 exact fun p hp => List.mem_append_left _ hp
theorem calls_new {P : Program} {W0 : Base} {K : List (Nat × Obj)} {W : World} {F : List (Nat × Obj) → Value → Prop} {f : FuncId} {args : Array Value} (hW : KS W0 K W) (h : Calls P f args W fun e w' => ∃ v T, e = .returned v ∧ F T v ∧ (∀ b ∈ T, W.heap.size ≤ b.1) ∧ KS (W : Base) T w') :
   Calls P f args W fun e w' => ∃ v K', e = .returned v ∧ KS W0 K' w' ∧ NewF F W0 K v K' :=
 h.mono fun e w' ⟨v, T, he, hF, hn, hk⟩ => by
   have hK := hW.below hk.1
   refine ⟨v, _, he, ⟨hK.1, fun p hp => ?_⟩, T, hF, fun b hb => Nat.le_trans hW.size (hn b hb), fun p hp q hq e => ?_, rfl⟩
   · rcases List.mem_append.1 hp with h | h
     · exact hK.2 p h
     · exact hk.2 p h
   · have h1 := lt_of_block (hW.2 p hp)
     have h2 := hn q hq
     omega
def FC (cs : List Col) (T : List (Nat × Obj)) (v : Value) : Prop := ∃ X q d, v = .slice q cs.length d ∧ cs.length + 12 ≤ d ∧ X.length = cs.length ∧ LentC cs X T ∧ HL colC q (X ++ mkColL 12) T
def FO (os : List Cov) (T : List (Nat × Obj)) (v : Value) : Prop := ∃ X q d, v = .slice q os.length d ∧ os.length + 12 ≤ d ∧ X.length = os.length ∧ LentO os X T ∧ HL covC q (X ++ mkCovL 12) T
def FT (ts : List Tk) (T : List (Nat × Obj)) (v : Value) : Prop := ∃ X q d, v = .slice q ts.length d ∧ ts.length + 12 ≤ d ∧ X.length = ts.length ∧ LentT ts X T ∧ HL tkC q (X ++ mkTnkL 12) T
def FN (m l : List N5) (T : List (Nat × Obj)) (v : Value) : Prop := ∃ q d, v = .slice q l.length d ∧ l.length + 12 ≤ d ∧ HL n5C q (l ++ m) T
theorem fn_of {P : Program} {m l : List N5} {f : FuncId} {args : Array Value} {W : World} {E : TypeId} (h : Calls P f args W fun e w' => ∃ q d, e = .returned (.slice q l.length d) ∧ l.length + 12 ≤ d ∧ OutV W w' E 5 (.slice q (l ++ m).length d) (l ++ m).length ((l ++ m).flatMap n5C) ∧ Below W.heap.size W w') :
   Calls P f args W fun e w' => ∃ v T, e = .returned v ∧ FN m l T v ∧ (∀ b ∈ T, W.heap.size ≤ b.1) ∧ KS (W : Base) T w' :=
 h.mono fun e w' ⟨q, d, he, hd, hO, hb⟩ => by
   obtain ⟨Kl, h1, _, h3⟩ := hO.own (KS.start W) hb
   exact ⟨_, Kl, he, ⟨q, d, rfl, hd, own_hl h1⟩, own_new h1, h3⟩
structure LentSp (s t : Sp) (T : List (Nat × Obj)) : Prop where
 rest : t.li = s.li ∧ t.lm = s.lm ∧ t.rs = s.rs ∧ t.fs = s.fs
 cs : t.cs.length = s.cs.length ∧ LentC s.cs t.cs T ∧ HL colC t.pc (t.cs ++ mkColL 12) T ∧ s.cs.length + 12 ≤ t.cc
 os : t.os.length = s.os.length ∧ LentO s.os t.os T ∧ HL covC t.po (t.os ++ mkCovL 12) T ∧ s.os.length + 12 ≤ t.co
 ts : t.ts.length = s.ts.length ∧ LentT s.ts t.ts T ∧ HL tkC t.pt (t.ts ++ mkTnkL 12) T ∧ s.ts.length + 12 ≤ t.ct
 rs : HL n5C t.pr (s.rs ++ mkRowL 12) T ∧ s.rs.length + 12 ≤ t.cr
 fs : HL n5C t.pf (s.fs ++ mkFraL 12) T ∧ s.fs.length + 12 ≤ t.cf
structure SpIn (W : World) (s : Sp) : Prop where
 nc : s.cs.length ≤ 1000000
 no : s.os.length ≤ 1000000
 np : ∀ o ∈ s.cs, o.plugs.length ≤ 1000000
 nr : ∀ o ∈ s.os, o.rows.length ≤ 1000000
 nrs : s.rs.length ≤ 3518437208780
 nfs : s.fs.length ≤ 3518437208780
 nts : s.ts.length ≤ 2199023255488
 nst : ∀ o ∈ s.ts, o.steps.length ≤ 17592186044403
 hc : SLV W s.pc (s.cs.flatMap colC)
 ho : SLV W s.po (s.os.flatMap covC)
 hp : PlR W s.cs
 hr : RwR W s.os
 hrs : SLV W s.pr (s.rs.flatMap n5C)
 hfs : SLV W s.pf (s.fs.flatMap n5C)
 hts : SLV W s.pt (s.ts.flatMap tkC)
 hst : StR W s.ts
theorem StR.keep {W W' : World} {ts : List Tk} (h : StR W ts) (hb : Below W.heap.size W W') : StR W' ts := fun c hc => (h c hc).keep hb
end Go.Proofs.YthpooalhibedpaaDoor
/- What the layer says of a ship that was lent. -/
namespace Go.Proofs.YthpooalhibedpaaDoor
open Go Go.RowKit Tw
def eC (c : Col) : Col := c.re none 0
def eO (c : Cov) : Cov := c.re none 0
theorem fstF_e {α : Type} {g : α → α} {P : α → Bool} (h : ∀ x, P (g x) = P x) : ∀ (l : List α) (i : Nat), fstF P i (l.map g) = fstF P i l
 | [], _ => rfl
 | x :: l, i => by simp only [List.map_cons, fstF, h, fstF_e h l]
theorem idxF_e {α : Type} {g : α → α} {P : α → Bool} (h : ∀ x, P (g x) = P x) : ∀ (l : List α) (i : Nat), idxF P i (l.map g) = idxF P i l
 | [], _ => rfl
 | x :: l, i => by simp only [List.map_cons, idxF, h, idxF_e h l]
theorem find_e (b r : Int) (d : Bool) (cs : List Col) : fst (isAt b r d) (cs.map eC) = fst (isAt b r d) cs := fstF_e (g := eC) (P := isAt b r d) (fun _ => rfl) cs 0
theorem tallF_e : ∀ (cs : List Col) (m : Int), tallF m (cs.map eC) = tallF m cs
 | [], _ => rfl
 | c :: cs, m => tallF_e cs (max m c.tiers)
theorem tall_e (cs : List Col) : tallX (cs.map eC) = tallX cs := by
 cases cs with
 | nil => rfl
 | cons c cs => exact tallF_e cs c.tiers
theorem tiersF_e : ∀ (cs : List Col) (m : Int), tiersF m (cs.map eC) = tiersF m cs
 | [], _ => rfl
 | _ :: cs, _ => tiersF_e cs _
theorem places_e (cs : List Col) : placesX (cs.map eC) = placesX cs := by
 unfold placesX
 rw [tiersF_e]
theorem colsF_e : ∀ (cs : List Col) (L : List I3), colsF L (cs.map eC) = colsF L cs
 | [], _ => rfl
 | c :: cs, L => by
   have h := colsF_e cs (L ++ [placeX c])
   show (colX c && (!decide (placeX c ∈ L) && colsF (L ++ [placeX c]) (cs.map eC))) = _
   rw [h]; rfl
theorem ovsF_e : ∀ (os : List Cov) (L : List I2), ovsF L (os.map eO) = ovsF L os
 | [], _ => rfl
 | o :: os, L => by
   simp only [List.map_cons, ovsF, ovsF_e os]
   rfl
theorem right_e (cs : List Col) (os : List Cov) : rightX (cs.map eC) (os.map eO) = rightX cs os := by
 unfold rightX colsX ovsX
 rw [List.length_map, List.length_map, colsF_e, ovsF_e]
theorem elB_e {α : Type} (g : α → α) (l : List α) (n : Int) : elB (l.map g) n = elB l n := by
 unfold elB
 rw [List.length_map]
theorem elC_e {α : Type} (g : α → α) (z : α) (hz : g z = z) (l : List α) (n : Int) : elC z (l.map g) n = g (elC z l n) := by
 unfold elC
 rw [List.getElem?_map]
 by_cases hn : n < 0
 · rw [if_pos hn, if_pos hn]; exact hz.symm
 · rw [if_neg hn, if_neg hn]
   cases l[n.toNat]? with
   | none => exact hz.symm
   | some x => rfl
theorem covOf_e (cs : List Col) (os : List Cov) (n : Int) : covOf (cs.map eC) (os.map eO) n = covOf cs os n := by
 unfold covOf
 rw [elB_e, elC_e eC col0 rfl]
 exact congrArg (fun z => if elB cs n = true then z else none) (fstF_e (g := eO) (P := belX (elC col0 cs n)) (fun _ => rfl) os 0)
theorem along_e (cs : List Col) (os : List Cov) (n : Int) (deck : Bool) : alongX (cs.map eC) (os.map eO) n deck = alongX cs os n deck := by
 unfold alongX
 rw [elB_e, elC_e eO cov0 rfl]
 exact congrArg (fun z => if elB os n = true then z else []) (idxF_e (g := eC) (P := partOf deck (elC cov0 os n)) (fun _ => rfl) cs 0)
theorem beside_e (cs : List Col) (n : Int) : besideX (cs.map eC) n = besideX cs n := by
 unfold besideX
 rw [elB_e, elC_e eC col0 rfl]
 exact congrArg (fun z => if elB cs n = true then z else []) (idxF_e (g := eC) (P := besideB (elC col0 cs n)) (fun _ => rfl) cs 0)
theorem bayB_e (cs : List Col) (n : Int) : bayB (cs.map eC) n = bayB cs n := by
 unfold bayB
 rw [elB_e, elC_e eC col0 rfl]; rfl
theorem bayN_e (cs : List Col) (n : Int) : bayN (cs.map eC) n = bayN cs n := by
 unfold bayN
 rw [elC_e eC col0 rfl]; rfl
theorem apB_e (cs : List Col) (a b : Int) : apB (cs.map eC) a b = apB cs a b := by
 unfold apB
 rw [bayB_e, bayB_e]
theorem apN_e (cs : List Col) (a b : Int) : apN (cs.map eC) a b = apN cs a b := by
 unfold apN
 rw [apB_e, bayN_e, bayN_e]
theorem lentC_e {l X : List Col} {T : List (Nat × Obj)} (h : LentC l X T) (hl : X.length = l.length) : X.map eC = l.map eC := by
 apply List.ext_getElem?
 intro i
 rw [List.getElem?_map, List.getElem?_map]
 cases hx : X[i]? with
 | none =>
   rw [List.getElem?_eq_none_iff] at hx
   rw [List.getElem?_eq_none_iff.2 Tw.om]
 | some x =>
   obtain ⟨y, q, d, h1, rfl, _, _⟩ := h i x hx
   rw [h1]; rfl
theorem lentO_e {l X : List Cov} {T : List (Nat × Obj)} (h : LentO l X T) (hl : X.length = l.length) : X.map eO = l.map eO := by
 apply List.ext_getElem?
 intro i
 rw [List.getElem?_map, List.getElem?_map]
 cases hx : X[i]? with
 | none =>
   rw [List.getElem?_eq_none_iff] at hx
   rw [List.getElem?_eq_none_iff.2 Tw.om]
 | some x =>
   obtain ⟨y, q, d, h1, rfl, _, _⟩ := h i x hx
   rw [h1]; rfl
theorem lent_says {s t : Sp} {T : List (Nat × Obj)} (h : LentSp s t T) :
   rightX t.cs t.os = rightX s.cs s.os ∧ tallX t.cs = tallX s.cs ∧ placesX t.cs = placesX s.cs ∧ (∀ b r d, fst (isAt b r d) t.cs = fst (isAt b r d) s.cs) ∧ (∀ n, covOf t.cs t.os n = covOf s.cs s.os n) ∧ (∀ n d, alongX t.cs t.os n d = alongX s.cs s.os n d) ∧ (∀ n, besideX t.cs n = besideX s.cs n) ∧ (∀ a b, apB t.cs a b = apB s.cs a b) ∧ ∀ a b, apN t.cs a b = apN s.cs a b := by
 have h1 := lentC_e h.cs.2.1 h.cs.1
 have h2 := lentO_e h.os.2.1 h.os.1
 refine ⟨?_, ?_, ?_, fun b r d => ?_, fun n => ?_, fun n d => ?_, fun n => ?_, fun a b => ?_, fun a b => ?_⟩
 · rw [← right_e t.cs, h1, h2, right_e]
 · rw [← tall_e t.cs, h1, tall_e]
 · rw [← places_e t.cs, h1, places_e]
 · rw [← find_e b r d t.cs, h1, find_e]
 · rw [← covOf_e t.cs, h1, h2, covOf_e]
 · rw [← along_e t.cs, h1, h2, along_e]
 · rw [← beside_e t.cs, h1, beside_e]
 · rw [← apB_e t.cs, h1, apB_e]
 · rw [← apN_e t.cs, h1, apN_e]
end Go.Proofs.YthpooalhibedpaaDoor
/- The order of slots. -/
namespace Go.Proofs.YthpooalhibedpaaDoor
open Go Go.RowKit Tw
structure Tri where
 a : Slt
 b : Slt
 c : Slt
end Go.Proofs.YthpooalhibedpaaDoor
/- What slots say of a lent ship. -/
namespace Go.Proofs.YthpooalhibedpaaDoor
open Go Go.RowKit Tw
theorem ex_e (cs : List Col) (n t : Int) : exS (cs.map eC) n t = exS cs n t := by
 unfold exS
 rw [elB_e, elC_e eC col0 rfl]; rfl
theorem rightS_e (cs : List Col) (x : Slt) (z : Nat) : rightS (cs.map eC) x z = rightS cs x z := by
 unfold rightS
 rw [ex_e]
theorem slotsF_e (z : Nat) : ∀ (cs : List Col) (k : Nat), slotsF z k (cs.map eC) = slotsF z k cs
 | [], _ => rfl
 | c :: cs, k => by
   simp only [List.map_cons, slotsF, slotsF_e z cs]
   rfl
theorem slots_e (cs : List Col) (z : Nat) : slotsX (cs.map eC) z = slotsX cs z := slotsF_e z cs 0
theorem lent_slots {s t : Sp} {T : List (Nat × Obj)} (h : LentSp s t T) : (∀ x z, rightS t.cs x z = rightS s.cs x z) ∧ (∀ z, slotsX t.cs z = slotsX s.cs z) ∧ ∀ n : Int, (∀ c ∈ s.cs, c.tiers ≤ n) → ∀ c ∈ t.cs, c.tiers ≤ n := by
 have e := lentC_e h.cs.2.1 h.cs.1
 refine ⟨fun x z => by rw [← rightS_e t.cs, e, rightS_e], fun z => by rw [← slots_e t.cs, e, slots_e], fun n hn c hc => ?_⟩
 obtain ⟨j, hj⟩ := List.getElem?_of_mem hc
 obtain ⟨y, q, d, h1, rfl, _⟩ := h.cs.2.1 j c hj
 exact hn y (List.mem_of_getElem? h1)
theorem slots_few {cs : List Col} (h1 : cs.length ≤ 60) (h2 : ∀ c ∈ cs, c.tiers ≤ 12) (z : Nat) : (slotsX cs z).length ≤ 4000 := by
 rw [slots_len]
 have h3 := posT_le (cs := cs) (m := 12) h2
 have h4 := hsX_len z
 exact Nat.le_trans (Nat.mul_le_mul (Nat.le_trans h3 (Nat.mul_le_mul_right 12 h1)) h4) (by decide)
end Go.Proofs.YthpooalhibedpaaDoor
/- Small ships of law 08. -/
namespace Go.Proofs.YthpooalhibedpaaDoor
open Go Go.RowKit Tw
def few8X (cs : List Col) (os : List Cov) : Bool := decide (cs.length ≤ 60) && decide (os.length ≤ 50) && cs.all (fun c => decide (c.plugs.length ≤ 12) && decide (c.tiers ≤ 12)) && os.all (fun o => decide (o.rows.length ≤ 40))
theorem few8_yes {cs : List Col} {os : List Cov} (h1 : ¬ 60 < cs.length) (h2 : ¬ 50 < os.length) (h3 : ∀ j c, j < cs.length → cs[j]? = some c → c.plugs.length ≤ 12 ∧ c.tiers ≤ 12) (h4 : ∀ j o, j < os.length → os[j]? = some o → o.rows.length ≤ 40) : few8X cs os = true := by
 unfold few8X
 rw [decide_eq_true (show cs.length ≤ 60 by omega), decide_eq_true (show os.length ≤ 50 by omega)]
 simp only [Bool.true_and, Bool.and_eq_true, List.all_eq_true, decide_eq_true_eq]
 refine ⟨fun c hm => ?_, fun o hm => ?_⟩
 · obtain ⟨j, hj⟩ := List.getElem?_of_mem hm
   exact h3 j c (List.getElem?_eq_some_iff.1 hj).1 hj
 · obtain ⟨j, hj⟩ := List.getElem?_of_mem hm
   exact h4 j o (List.getElem?_eq_some_iff.1 hj).1 hj
theorem few8_is {cs : List Col} {os : List Cov} (hb : few8X cs os = true) : cs.length ≤ 60 ∧ os.length ≤ 50 ∧ (∀ c ∈ cs, c.plugs.length ≤ 12 ∧ c.tiers ≤ 12) ∧ ∀ o ∈ os, o.rows.length ≤ 40 := by
 unfold few8X at hb
 simp only [Bool.and_eq_true, List.all_eq_true, decide_eq_true_eq] at hb
 exact ⟨hb.1.1.1, hb.1.1.2, hb.1.2, hb.2⟩
theorem few8_no {cs : List Col} {os : List Cov} (h : ¬ (cs.length ≤ 60 ∧ os.length ≤ 50 ∧ (∀ c ∈ cs, c.plugs.length ≤ 12 ∧ c.tiers ≤ 12) ∧ ∀ o ∈ os, o.rows.length ≤ 40)) : few8X cs os = false := by
 cases hq : few8X cs os with
 | false => rfl
 | true => exact (h (few8_is hq)).elim
theorem few8_c {cs : List Col} {i : Nat} {y : Col} (hC : ∀ j c, j < i → cs[j]? = some c → c.plugs.length ≤ 12 ∧ c.tiers ≤ 12) (hy : cs[i]? = some y) (h : ¬ 12 < y.plugs.length) (h2 : ¬ 12 < y.tiers) : ∀ j c, j < i + 1 → cs[j]? = some c → c.plugs.length ≤ 12 ∧ c.tiers ≤ 12 := by
 intro j c hj hc
 by_cases e : j = i
 · subst e
   rw [hy] at hc
   cases hc
   omega
 · exact hC j c Tw.om hc
theorem few8_o {os : List Cov} {i : Nat} {y : Cov} (hC : ∀ j o, j < i → os[j]? = some o → o.rows.length ≤ 40) (hy : os[i]? = some y) (h : ¬ 40 < y.rows.length) : ∀ j o, j < i + 1 → os[j]? = some o → o.rows.length ≤ 40 := by
 intro j o hj hc
 by_cases e : j = i
 · subst e
   rw [hy] at hc
   cases hc
   omega
 · exact hC j o Tw.om hc
theorem few8_few {cs : List Col} {os : List Cov} (h : few8X cs os = true) : fewX cs os = true := by
 obtain ⟨h1, h2, h3, h4⟩ := few8_is h
 exact few_yes Tw.om Tw.om (fun j c _ hc => (h3 c (List.mem_of_getElem? hc)).1) (fun j o _ hc => h4 o (List.mem_of_getElem? hc))
end Go.Proofs.YthpooalhibedpaaDoor
namespace Go.Proofs.YthpooalhibedpaaDoor
open Go Go.RowKit Tw
end Go.Proofs.YthpooalhibedpaaDoor
namespace Go.Proofs.YthpooalhibedpaaDoor
open Go Go.RowKit Tw
set_option maxRecDepth 100000 in
set_option maxHeartbeats 4000000 in
theorem few8_any (cs : List Col) (pc : Option Addr) (cc : Nat) (lc : cs.length ≤ 17592186044403) (os : List Cov) (po : Option Addr) (co : Nat) (lo : os.length ≤ 17592186044403) (t : Tl) (w : World) (hc : SLV w pc (cs.flatMap colC)) (ho : SLV w po (os.flatMap covC)) (lr : ∀ o ∈ os, o.rows.length ≤ 17592186044403) (lq : ∀ c ∈ cs, c.plugs.length ≤ 17592186044403) : Calls Tryd.prog 10 #[.agg (shC (.slice pc cs.length cc) (.slice po os.length co) t).toArray] w fun e w' => e = .returned (.bool (few8X cs os)) ∧ Below w.heap.size w w' := by
 have HC := Lib.hid hc
 clear hc
 have HO := Lib.hid ho
 clear ho
 go_enter Tryd.func10, Tryd.ntmps10
 refine wp_seq ?_
 refine wp_region_L [] (KS.start w) ?_
 refine wpL_new (fun g => .pointer (some ⟨g, 0, none⟩)) (obi := .cells (shC (.slice pc cs.length cc) (.slice po os.length co) t).toArray 32 (0, 0)) rfl rfl Tw.kf Tw.pf fun g1 Bg1 Fg1 => ?_
 refine lm (v := .bool false) rfl rfl ?_
 refine wpL_done (fun W1 hW1 => ?_)
 change Code.wp ..
 refine wp_seq ?_
 refine wp_seq ?_
 refine wp_region_L _ hW1 ?_
 refine lm (v := .pointer (some ⟨g1, 0, none⟩)) rfl rfl ?_
 refine lv (v := .slice pc cs.length cc) rfl rfl (yb_cell (off := 0) rfl Tw.kr Tw.m0 Tryd.underlying22 rfl Tw.kr) ?_
 refine lp (v := .int .i64 ((cs.length : Nat) : Int)) rfl rfl (run_lenL (p := pc) (cap := cc) (n := cs.length) rfl Tryd.underlying22 Tw.kr) ?_
 refine lp (v := .bool (decide (60 < cs.length))) rfl rfl (run_bin rfl (vx := (.int .i64 ((cs.length : Nat) : Int))) (vy := (.int .i64 ((60 : Nat) : Int))) Tw.kr Tw.kr fun w => bn_gtr rfl w) ?_
 refine lm (v := .bool (decide (60 < cs.length))) rfl rfl ?_
 cases hd1 : (decide (60 < cs.length)) with
 | false =>
   have h1 : ¬ (60 < cs.length) := of_decide_eq_false hd1
   clear hd1
   refine lm (v := .pointer (some ⟨g1, 1, none⟩)) rfl rfl ?_
   refine lv (v := .slice po os.length co) rfl rfl (yb_cell (off := 1) rfl Tw.kr Tw.m0 Tryd.underlying23 rfl Tw.kr) ?_
   refine lp (v := .int .i64 ((os.length : Nat) : Int)) rfl rfl (run_lenL (p := po) (cap := co) (n := os.length) rfl Tryd.underlying23 Tw.kr) ?_
   refine lp (v := .bool (decide (50 < os.length))) rfl rfl (run_bin rfl (vx := (.int .i64 ((os.length : Nat) : Int))) (vy := (.int .i64 ((50 : Nat) : Int))) Tw.kr Tw.kr fun w => bn_gtr rfl w) ?_
   refine lm (v := .bool (decide (50 < os.length))) rfl rfl ?_
   refine wpL_done (fun W2 hW2 => ?_)
   change Code.wp ..
   cases hd2 : (decide (50 < os.length)) with
   | false =>
     have h2 : ¬ (50 < os.length) := of_decide_eq_false hd2
     clear hd2
     refine wp_cond_false rfl ?_
     refine wp_skip ?_
     change Code.wp ..
     refine wp_seq ?_
     refine wp_seq ?_
     refine wp_region_L _ hW2 ?_
     refine lm (v := .pointer (some ⟨g1, 0, none⟩)) rfl rfl ?_
     refine lv (v := .slice pc cs.length cc) rfl rfl (yb_cell (off := 0) rfl Tw.kr Tw.m0 Tryd.underlying22 rfl Tw.kr) ?_
     refine lp (v := .int .i64 ((cs.length : Nat) : Int)) rfl rfl (run_lenL (p := pc) (cap := cc) (n := cs.length) rfl Tryd.underlying22 Tw.kr) ?_
     refine lm (v := .int .i64 0) rfl rfl ?_
     refine wpL_done (fun W3 hW3 => ?_)
     change Code.wp ..
     refine wp_block ?_
     go_loopw [20] (fun u20 wr => ∃ (i : Nat), (i ≤ cs.length) ∧ (∀ j c, j < i → cs[j]? = some c → c.plugs.length ≤ 12 ∧ c.tiers ≤ 12) ∧ u20 = .int .i64 ((i : Nat) : Int) ∧ KS w [(g1, .cells (shC (.slice pc cs.length cc) (.slice po os.length co) t).toArray 32 (0, 0))] wr) (fun u20 _ => cs.length - (intOf u20).toNat)
     case atStart => exact ⟨0, (Nat.zero_le _), (fun j c h => by omega), rfl, (hW3.sub (fun p hp => by first | exact hp | (simp only [List.mem_cons, List.mem_append, List.nil_append, List.not_mem_nil, or_assoc, or_false, false_or] at hp ⊢ <;> grind)))⟩
     case round =>
       obtain ⟨i, hi, hF, rfl, hL4⟩ := hrel
       refine wp_seq ?_
       refine wp_region_L _ hL4 ?_
       refine lp (v := .bool (decide (i < cs.length))) rfl rfl (run_bin rfl (vx := (.int .i64 ((i : Nat) : Int))) (vy := (.int .i64 ((cs.length : Nat) : Int))) Tw.kr Tw.kr fun w => bn_lss rfl w) ?_
       refine wpL_done (fun W5 hW5 => ?_)
       change Code.wp ..
       refine wp_seq ?_
       cases hd3 : (decide (i < cs.length)) with
       | false =>
         have h3 : ¬ (i < cs.length) := of_decide_eq_false hd3
         clear hd3
         refine wp_cond_false rfl ?_
         refine wp_exit ?_
         change Code.wp ..
         refine wp_seq ?_
         refine wp_seq ?_
         refine wp_region_L _ hW5 ?_
         refine lm (v := .pointer (some ⟨g1, 1, none⟩)) rfl rfl ?_
         refine lv (v := .slice po os.length co) rfl rfl (yb_cell (off := 1) rfl Tw.kr Tw.m0 Tryd.underlying23 rfl Tw.kr) ?_
         refine lp (v := .int .i64 ((os.length : Nat) : Int)) rfl rfl (run_lenL (p := po) (cap := co) (n := os.length) rfl Tryd.underlying23 Tw.kr) ?_
         refine lm (v := .int .i64 0) rfl rfl ?_
         refine wpL_done (fun W6 hW6 => ?_)
         change Code.wp ..
         refine wp_block ?_
         go_loopw [37] (fun u37 wr => ∃ (i2 : Nat), (i2 ≤ os.length) ∧ (∀ j o, j < i2 → os[j]? = some o → o.rows.length ≤ 40) ∧ u37 = .int .i64 ((i2 : Nat) : Int) ∧ KS w [(g1, .cells (shC (.slice pc cs.length cc) (.slice po os.length co) t).toArray 32 (0, 0))] wr) (fun u37 _ => os.length - (intOf u37).toNat)
         case atStart => exact ⟨0, (Nat.zero_le _), (fun j o h => by omega), rfl, (hW6.sub (fun p hp => by first | exact hp | (simp only [List.mem_cons, List.mem_append, List.nil_append, List.not_mem_nil, or_assoc, or_false, false_or] at hp ⊢ <;> grind)))⟩
         case round =>
           obtain ⟨i2, hi2, hG, rfl, hL7⟩ := hrel
           refine wp_seq ?_
           refine wp_region_L _ hL7 ?_
           refine lp (v := .bool (decide (i2 < os.length))) rfl rfl (run_bin rfl (vx := (.int .i64 ((i2 : Nat) : Int))) (vy := (.int .i64 ((os.length : Nat) : Int))) Tw.kr Tw.kr fun w => bn_lss rfl w) ?_
           refine wpL_done (fun W8 hW8 => ?_)
           change Code.wp ..
           refine wp_seq ?_
           cases hd4 : (decide (i2 < os.length)) with
           | false =>
             have h4 : ¬ (i2 < os.length) := of_decide_eq_false hd4
             clear hd4
             refine wp_cond_false rfl ?_
             refine wp_exit ?_
             change Code.wp ..
             refine wp_seq ?_
             refine wp_region_L _ hW8 ?_
             refine lm (v := .bool true) rfl rfl ?_
             refine wpL_done (fun W9 hW9 => ?_)
             change Code.wp ..
             refine wp_ret ?_
             try simp only [inBlock_ret, then_ret]
             refine bodyPost_ret (v := .bool true) ?_ rfl ?_
             · kernel_rfl
             · exact ⟨(bool_is (few8_yes h1 h2 (fun j c g => hF j c Tw.om) (fun j c g => hG j c Tw.om)).symm), hW9.1⟩
           | true =>
             have h4 : i2 < os.length := of_decide_eq_true hd4
             clear hd4
             refine wp_cond_true rfl ?_
             refine wp_skip ?_
             change Code.wp ..
             refine wp_seq ?_
             refine wp_block ?_
             refine wp_seq ?_
             refine wp_region_L _ hW8 ?_
             obtain ⟨y2, g2_, f2_, hy2, hp2, hc2⟩ := RL.at (RL.base HO.out) covC_len (by decide) (hW8.sub (fun _ h => by cases h)) (k := i2) Tw.om
             refine lp (v := .pointer (some ⟨g2_, f2_ + i2 * 2, none⟩)) rfl rfl (run_idxQ (p := po) (cap := co) (n := os.length) (j := .i64) (k := i2) (sz := 2) rfl Tryd.underlying23 Tw.kr Tw.kr hp2 Tw.kr Tw.om) ?_
             refine lv (v := .agg (covC y2).toArray) rfl rfl (yb_rs (off := f2_ + i2 * 2) (cs := covC y2) rfl Tw.kr (fun W hW => hc2 W (hW.sub (fun _ h => by cases h))) Tryd.underlying67 rfl Tw.kr) ?_
             refine wpL_new (fun g => .pointer (some ⟨g, 0, none⟩)) (obi := .cells #[.int .i64 0, .slice none 0 0] 67 (0, 0)) rfl rfl Tw.kf Tw.pf fun g3 Bg3 Fg3 => ?_
             obtain dj4_0 : g1 ≠ g3 := Tw.dkf Fg3
             refine wpL_s [(g3, .cells (covC y2).toArray 67 (0, 0)), (g1, .cells (shC (.slice pc cs.length cc) (.slice po os.length co) t).toArray 32 (0, 0))] rfl rfl (st_row (off := 0) (v := .agg (covC y2).toArray) rfl Tw.kr Tw.kr Tw.m0 Bg3 Tw.kr (by first | (simp [Value.cells]; done) | exact Nat.le_of_ble_eq_true rfl) (fun v hv => covC_one y2 v hv) Tw.kr (List.forall_mem_cons.2 ⟨.inl rfl, (List.forall_mem_cons.2 ⟨.inr ⟨Tw.m1, Tw.nee⟩, (List.forall_mem_nil _)⟩)⟩)) ?_
             refine wpL_done (fun W10 hW10 => ?_)
             change Code.wp ..
             refine wp_seq ?_
             refine wp_region_L _ hW10 ?_
             refine lm (v := .pointer (some ⟨g3, 1, none⟩)) rfl rfl ?_
             refine lv (v := .slice y2.rp y2.rows.length y2.rc) rfl rfl (yb_cell (off := 1) rfl Tw.kr Tw.m0 Tryd.underlying63 rfl Tw.kr) ?_
             refine lp (v := .int .i64 ((y2.rows.length : Nat) : Int)) rfl rfl (run_lenL (p := y2.rp) (cap := y2.rc) (n := y2.rows.length) rfl Tryd.underlying63 Tw.kr) ?_
             refine lp (v := .bool (decide (40 < y2.rows.length))) rfl rfl (run_bin rfl (vx := (.int .i64 ((y2.rows.length : Nat) : Int))) (vy := (.int .i64 ((40 : Nat) : Int))) Tw.kr Tw.kr fun w => bn_gtr rfl w) ?_
             refine wpL_done (fun W11 hW11 => ?_)
             change Code.wp ..
             cases hd5 : (decide (40 < y2.rows.length)) with
             | false =>
               have h5 : ¬ (40 < y2.rows.length) := of_decide_eq_false hd5
               clear hd5
               refine wp_cond_false rfl ?_
               refine wp_skip ?_
               change Code.wp ..
               refine wp_region_L _ hW11 ?_
               refine lp (v := .int .i64 (((i2 + 1) : Nat) : Int)) rfl rfl (run_bin rfl (vx := (.int .i64 ((i2 : Nat) : Int))) (vy := (.int .i64 ((1 : Nat) : Int))) Tw.kr Tw.kr fun w => bn_add (z := (i2 + 1)) rfl (wr_i64 Tw.om) w) ?_
               refine lm (v := .int .i64 (((i2 + 1) : Nat) : Int)) rfl rfl ?_
               refine wpL_done (fun W12 hW12 => ?_)
               go_roundw
               case rel =>
                 repeat apply Exists.intro
                 exact ⟨⟨i2 + 1, Tw.om, (few8_o hG hy2 h5), rfl, (hW12.sub (fun p hp => by first | exact hp | (simp only [List.mem_cons, List.mem_append, List.nil_append, List.not_mem_nil, or_assoc, or_false, false_or] at hp ⊢ <;> grind)))⟩, rfl⟩
               case measure => (show os.length - (intOf (.int .i64 (((i2 + 1) : Nat) : Int))).toNat < os.length - (intOf (.int .i64 ((i2 : Nat) : Int))).toNat); simp only [intOf]; omega
             | true =>
               have h5 : 40 < y2.rows.length := of_decide_eq_true hd5
               clear hd5
               refine wp_cond_true rfl ?_
               refine wp_seq ?_
               refine wp_region_L _ hW11 ?_
               refine lm (v := .bool false) rfl rfl ?_
               refine wpL_done (fun W13 hW13 => ?_)
               change Code.wp ..
               refine wp_ret ?_
               try simp only [inBlock_ret, then_ret]
               refine bodyPost_ret (v := .bool false) ?_ rfl ?_
               · kernel_rfl
               · exact ⟨(bool_is (few8_no fun e => by have h9 := e.2.2.2 y2 (List.mem_of_getElem? hy2); omega).symm), hW13.1⟩
       | true =>
         have h3 : i < cs.length := of_decide_eq_true hd3
         clear hd3
         refine wp_cond_true rfl ?_
         refine wp_skip ?_
         change Code.wp ..
         refine wp_seq ?_
         refine wp_block ?_
         refine wp_seq ?_
         refine wp_region_L _ hW5 ?_
         obtain ⟨y5, g5_, f5_, hy5, hp5, hc5⟩ := RL.at (RL.base HC.out) colC_len (by decide) (hW5.sub (fun _ h => by cases h)) (k := i) Tw.om
         refine lp (v := .pointer (some ⟨g5_, f5_ + i * 12, none⟩)) rfl rfl (run_idxQ (p := pc) (cap := cc) (n := cs.length) (j := .i64) (k := i) (sz := 12) rfl Tryd.underlying22 Tw.kr Tw.kr hp5 Tw.kr Tw.om) ?_
         refine lv (v := .agg (colC y5).toArray) rfl rfl (yb_rs (off := f5_ + i * 12) (cs := colC y5) rfl Tw.kr (fun W hW => hc5 W (hW.sub (fun _ h => by cases h))) Tryd.underlying65 rfl Tw.kr) ?_
         refine wpL_new (fun g => .pointer (some ⟨g, 0, none⟩)) (obi := .cells #[.int .i64 0, .int .i64 0, .bool false, .int .i64 0, .int .i64 0, .int .i64 0, .int .i64 0, .int .i64 0, .slice none 0 0, .int .i64 0, .int .i64 0, .int .i64 0] 65 (0, 0)) rfl rfl Tw.kf Tw.pf fun g6 Bg6 Fg6 => ?_
         obtain dj7_0 : g1 ≠ g6 := Tw.dkf Fg6
         refine wpL_s [(g6, .cells (colC y5).toArray 65 (0, 0)), (g1, .cells (shC (.slice pc cs.length cc) (.slice po os.length co) t).toArray 32 (0, 0))] rfl rfl (st_row (off := 0) (v := .agg (colC y5).toArray) rfl Tw.kr Tw.kr Tw.m0 Bg6 Tw.kr (by first | (simp [Value.cells]; done) | exact Nat.le_of_ble_eq_true rfl) (fun v hv => colC_one y5 v hv) Tw.kr (List.forall_mem_cons.2 ⟨.inl rfl, (List.forall_mem_cons.2 ⟨.inr ⟨Tw.m1, Tw.nee⟩, (List.forall_mem_nil _)⟩)⟩)) ?_
         refine wpL_done (fun W14 hW14 => ?_)
         change Code.wp ..
         refine wp_seq ?_
         refine wp_region_L _ hW14 ?_
         refine lm (v := .pointer (some ⟨g6, 8, none⟩)) rfl rfl ?_
         refine lv (v := .slice y5.pp y5.plugs.length y5.pc) rfl rfl (yb_cell (off := 8) rfl Tw.kr Tw.m0 Tryd.underlying63 rfl Tw.kr) ?_
         refine lp (v := .int .i64 ((y5.plugs.length : Nat) : Int)) rfl rfl (run_lenL (p := y5.pp) (cap := y5.pc) (n := y5.plugs.length) rfl Tryd.underlying63 Tw.kr) ?_
         refine lp (v := .bool (decide (12 < y5.plugs.length))) rfl rfl (run_bin rfl (vx := (.int .i64 ((y5.plugs.length : Nat) : Int))) (vy := (.int .i64 ((12 : Nat) : Int))) Tw.kr Tw.kr fun w => bn_gtr rfl w) ?_
         refine lm (v := .bool (decide (12 < y5.plugs.length))) rfl rfl ?_
         cases hd6 : (decide (12 < y5.plugs.length)) with
         | false =>
           have h6 : ¬ (12 < y5.plugs.length) := of_decide_eq_false hd6
           clear hd6
           refine lm (v := .pointer (some ⟨g6, 3, none⟩)) rfl rfl ?_
           refine lv (v := .int .i64 y5.tiers) rfl rfl (yb_cell (off := 3) rfl Tw.kr Tw.m0 Tryd.underlying3 rfl Tw.kr) ?_
           refine lp (v := .bool (decide (12 < y5.tiers))) rfl rfl (run_bin rfl (vx := (.int .i64 y5.tiers)) (vy := (.int .i64 12)) Tw.kr Tw.kr fun w => bi_gtr rfl w) ?_
           refine lm (v := .bool (decide (12 < y5.tiers))) rfl rfl ?_
           refine wpL_done (fun W15 hW15 => ?_)
           change Code.wp ..
           cases hd7 : (decide (12 < y5.tiers)) with
           | false =>
             have h7 : ¬ (12 < y5.tiers) := of_decide_eq_false hd7
             clear hd7
             refine wp_cond_false rfl ?_
             refine wp_skip ?_
             change Code.wp ..
             refine wp_region_L _ hW15 ?_
             refine lp (v := .int .i64 (((i + 1) : Nat) : Int)) rfl rfl (run_bin rfl (vx := (.int .i64 ((i : Nat) : Int))) (vy := (.int .i64 ((1 : Nat) : Int))) Tw.kr Tw.kr fun w => bn_add (z := (i + 1)) rfl (wr_i64 Tw.om) w) ?_
             refine lm (v := .int .i64 (((i + 1) : Nat) : Int)) rfl rfl ?_
             refine wpL_done (fun W16 hW16 => ?_)
             go_roundw
             case rel =>
               repeat apply Exists.intro
               exact ⟨⟨i + 1, Tw.om, (few8_c hF hy5 h6 h7), rfl, (hW16.sub (fun p hp => by first | exact hp | (simp only [List.mem_cons, List.mem_append, List.nil_append, List.not_mem_nil, or_assoc, or_false, false_or] at hp ⊢ <;> grind)))⟩, rfl⟩
             case measure => (show cs.length - (intOf (.int .i64 (((i + 1) : Nat) : Int))).toNat < cs.length - (intOf (.int .i64 ((i : Nat) : Int))).toNat); simp only [intOf]; omega
           | true =>
             have h7 : 12 < y5.tiers := of_decide_eq_true hd7
             clear hd7
             refine wp_cond_true rfl ?_
             refine wp_seq ?_
             refine wp_region_L _ hW15 ?_
             refine lm (v := .bool false) rfl rfl ?_
             refine wpL_done (fun W17 hW17 => ?_)
             change Code.wp ..
             refine wp_ret ?_
             try simp only [inBlock_ret, then_ret]
             refine bodyPost_ret (v := .bool false) ?_ rfl ?_
             · kernel_rfl
             · exact ⟨(bool_is (few8_no fun e => by have h9 := e.2.2.1 y5 (List.mem_of_getElem? hy5); omega).symm), hW17.1⟩
         | true =>
           have h6 : 12 < y5.plugs.length := of_decide_eq_true hd6
           clear hd6
           refine ln rfl ?_
           refine ln rfl ?_
           refine ln rfl ?_
           refine lm (v := .bool true) rfl rfl ?_
           refine wpL_done (fun W18 hW18 => ?_)
           change Code.wp ..
           refine wp_cond_true rfl ?_
           refine wp_seq ?_
           refine wp_region_L _ hW18 ?_
           refine lm (v := .bool false) rfl rfl ?_
           refine wpL_done (fun W19 hW19 => ?_)
           change Code.wp ..
           refine wp_ret ?_
           try simp only [inBlock_ret, then_ret]
           refine bodyPost_ret (v := .bool false) ?_ rfl ?_
           · kernel_rfl
           · exact ⟨(bool_is (few8_no fun e => by have h9 := e.2.2.1 y5 (List.mem_of_getElem? hy5); omega).symm), hW19.1⟩
   | true =>
     have h2 : 50 < os.length := of_decide_eq_true hd2
     clear hd2
     refine wp_cond_true rfl ?_
     refine wp_seq ?_
     refine wp_region_L _ hW2 ?_
     refine lm (v := .bool false) rfl rfl ?_
     refine wpL_done (fun W20 hW20 => ?_)
     change Code.wp ..
     refine wp_ret ?_
     try simp only [inBlock_ret, then_ret]
     refine bodyPost_ret (v := .bool false) ?_ rfl ?_
     · kernel_rfl
     · exact ⟨(bool_is (few8_no fun e => by omega).symm), hW20.1⟩
 | true =>
   have h1 : 60 < cs.length := of_decide_eq_true hd1
   clear hd1
   refine ln rfl ?_
   refine ln rfl ?_
   refine ln rfl ?_
   refine ln rfl ?_
   refine lm (v := .bool true) rfl rfl ?_
   refine wpL_done (fun W21 hW21 => ?_)
   change Code.wp ..
   refine wp_cond_true rfl ?_
   refine wp_seq ?_
   refine wp_region_L _ hW21 ?_
   refine lm (v := .bool false) rfl rfl ?_
   refine wpL_done (fun W22 hW22 => ?_)
   change Code.wp ..
   refine wp_ret ?_
   try simp only [inBlock_ret, then_ret]
   refine bodyPost_ret (v := .bool false) ?_ rfl ?_
   · kernel_rfl
   · exact ⟨(bool_is (few8_no fun e => by omega).symm), hW22.1⟩
end Go.Proofs.YthpooalhibedpaaDoor
/- Marks of slots. -/
namespace Go.Proofs.YthpooalhibedpaaDoor
open Go Go.RowKit Tw
def mkS (i : Nat) : Slt := ⟨mkI i, 0, 0⟩
def mkSL (n : Nat) : List Slt := (List.range n).map mkS
theorem mkSL_len (n : Nat) : (mkSL n).length = n := by unfold mkSL; rw [List.length_map, List.length_range]
theorem mkSL_s (n : Nat) : mkSL (n + 1) = mkSL n ++ [mkS n] := by unfold mkSL; rw [List.range_succ, List.map_append]; rfl
theorem mkSL_at {n i : Nat} (h : i < n) : (mkSL n)[i]? = some (mkS i) := by unfold mkSL; rw [List.getElem?_map, List.getElem?_range h]; rfl
theorem slt_ne {l m : List Slt} {k : Nat} {x y : Slt} (hx : l[k]? = some x) (hy : m[k]? = some y) (h : eqS x y = false) : l ≠ m := fun e => by
 subst e
 rw [hx] at hy
 cases hy
 rw [eqS_refl] at h; cases h
end Go.Proofs.YthpooalhibedpaaDoor
namespace Go.Proofs.YthpooalhibedpaaDoor
open Go Go.RowKit Tw
set_option maxRecDepth 100000 in
set_option maxHeartbeats 4000000 in
theorem SameSlots_any (l m : List Slt) (p q : Option Addr) (c d : Nat) (hl : l.length ≤ 4000000000) (w : World) (hp : SLV w p (l.flatMap sltC)) (hq : SLV w q (m.flatMap sltC)) (he : l = m) : Calls Tryd.prog 16 #[.slice p l.length c, .slice q m.length d] w fun e w' => e = .returned (.bool true) ∧ Below w.heap.size w w' := by
 have HP := Lib.hid hp
 clear hp
 have HQ := Lib.hid hq
 clear hq
 have hlm : m.length = l.length := by rw [he]
 go_enter Tryd.func16, Tryd.ntmps16
 refine wp_seq ?_
 refine wp_region_L [] (KS.start w) ?_
 refine lm (v := .bool false) rfl rfl ?_
 refine wpL_done (fun W1 hW1 => ?_)
 change Code.wp ..
 refine wp_seq ?_
 refine wp_seq ?_
 refine wp_region_L _ hW1 ?_
 refine lm (v := .slice p l.length c) rfl rfl ?_
 refine lp (v := .int .i64 ((l.length : Nat) : Int)) rfl rfl (run_lenL (p := p) (cap := c) (n := l.length) rfl Tryd.underlying35 Tw.kr) ?_
 refine lm (v := .slice q m.length d) rfl rfl ?_
 refine lp (v := .int .i64 ((m.length : Nat) : Int)) rfl rfl (run_lenL (p := q) (cap := d) (n := m.length) rfl Tryd.underlying35 Tw.kr) ?_
 refine lp (v := .bool (!(decide (l.length = m.length)))) rfl rfl (run_bin rfl (vx := (.int .i64 ((l.length : Nat) : Int))) (vy := (.int .i64 ((m.length : Nat) : Int))) Tw.kr Tw.kr fun w => bn_neq rfl w) ?_
 refine wpL_done (fun W2 hW2 => ?_)
 change Code.wp ..
 cases hd1 : (decide (l.length = m.length)) with
 | false =>
   have h1 : ¬ (l.length = m.length) := of_decide_eq_false hd1
   clear hd1
   omega
 | true =>
   have h1 : l.length = m.length := of_decide_eq_true hd1
   clear hd1
   refine wp_cond_false rfl ?_
   refine wp_skip ?_
   change Code.wp ..
   refine wp_seq ?_
   refine wp_seq ?_
   refine wp_region_L _ hW2 ?_
   refine lm (v := .int .i64 0) rfl rfl ?_
   refine wpL_done (fun W3 hW3 => ?_)
   change Code.wp ..
   refine wp_block ?_
   go_loopw [5] (fun u5 wr => ∃ (k : Nat), (k ≤ l.length) ∧ u5 = .int .i64 ((k : Nat) : Int) ∧ KS w [] wr) (fun u5 _ => l.length - (intOf u5).toNat)
   case atStart => exact ⟨0, (Nat.zero_le _), rfl, (hW3.sub (fun p hp => by first | exact hp | (simp only [List.mem_cons, List.mem_append, List.nil_append, List.not_mem_nil, or_assoc, or_false, false_or] at hp ⊢ <;> grind)))⟩
   case round =>
     obtain ⟨k, hk, rfl, hL4⟩ := hrel
     refine wp_seq ?_
     refine wp_seq ?_
     refine wp_region_L _ hL4 ?_
     refine lm (v := .int .i64 ((k : Nat) : Int)) rfl rfl ?_
     refine lm (v := .slice p l.length c) rfl rfl ?_
     refine lp (v := .int .i64 ((l.length : Nat) : Int)) rfl rfl (run_lenL (p := p) (cap := c) (n := l.length) rfl Tryd.underlying35 Tw.kr) ?_
     refine lp (v := .bool (decide (k < l.length))) rfl rfl (run_bin rfl (vx := (.int .i64 ((k : Nat) : Int))) (vy := (.int .i64 ((l.length : Nat) : Int))) Tw.kr Tw.kr fun w => bn_lss rfl w) ?_
     refine wpL_done (fun W5 hW5 => ?_)
     change Code.wp ..
     cases hd2 : (decide (k < l.length)) with
     | false =>
       have h2 : ¬ (k < l.length) := of_decide_eq_false hd2
       clear hd2
       refine wp_cond_false rfl ?_
       refine wp_exit ?_
       change Code.wp ..
       refine wp_seq ?_
       refine wp_region_L _ hW5 ?_
       refine lm (v := .bool true) rfl rfl ?_
       refine wpL_done (fun W6 hW6 => ?_)
       change Code.wp ..
       refine wp_ret ?_
       try simp only [inBlock_ret, then_ret]
       refine bodyPost_ret (v := .bool true) ?_ rfl ?_
       · kernel_rfl
       · exact ⟨rfl, hW6.1⟩
     | true =>
       have h2 : k < l.length := of_decide_eq_true hd2
       clear hd2
       refine wp_cond_true rfl ?_
       refine wp_skip ?_
       change Code.wp ..
       refine wp_seq ?_
       refine wp_block ?_
       refine wp_seq ?_
       refine wp_region_V _ Tw.kr hW5 ?_
       refine vm (i := 0) (v := .slice p l.length c) rfl rfl rfl ?_
       refine vm (i := 1) (v := .int .i64 ((k : Nat) : Int)) rfl rfl rfl ?_
       obtain ⟨y1, g1_, f1_, hy1, hp1, hc1⟩ := RL.at (RL.base HP.out) sltC_len (by decide) (hW5.sub (fun _ h => by cases h)) (k := k) Tw.om
       refine vp (i := 2) (v := .pointer (some ⟨g1_, f1_ + k * 3, none⟩)) rfl rfl rfl (run_idxQ (p := p) (cap := c) (n := l.length) (j := .i64) (k := k) (sz := 3) rfl Tryd.underlying35 Tw.kr Tw.kr hp1 Tw.kr Tw.om) ?_
       refine vb (i := 3) (v := .agg (sltC y1).toArray) rfl rfl rfl (yb_rs (off := f1_ + k * 3) (cs := sltC y1) rfl Tw.kr (fun W hW => hc1 W (hW.sub (fun _ h => by cases h))) Tryd.underlying34 rfl Tw.kr) ?_
       refine vm (i := 4) (v := .slice q m.length d) rfl rfl rfl ?_
       refine vm (i := 5) (v := .int .i64 ((k : Nat) : Int)) rfl rfl rfl ?_
       obtain ⟨y2, g2_, f2_, hy2, hp2, hc2⟩ := RL.at (RL.base HQ.out) sltC_len (by decide) (hW5.sub (fun _ h => by cases h)) (k := k) Tw.om
       refine vp (i := 6) (v := .pointer (some ⟨g2_, f2_ + k * 3, none⟩)) rfl rfl rfl (run_idxQ (p := q) (cap := d) (n := m.length) (j := .i64) (k := k) (sz := 3) rfl Tryd.underlying35 Tw.kr Tw.kr hp2 Tw.kr Tw.om) ?_
       refine vb (i := 7) (v := .agg (sltC y2).toArray) rfl rfl rfl (yb_rs (off := f2_ + k * 3) (cs := sltC y2) rfl Tw.kr (fun W hW => hc2 W (hW.sub (fun _ h => by cases h))) Tryd.underlying34 rfl Tw.kr) ?_
       refine vp (i := 8) (v := .bool (!(eqS y1 y2))) rfl rfl rfl (run_bin rfl (vx := .agg (sltC y1).toArray) (vy := .agg (sltC y2).toArray) Tw.kr Tw.kr fun w => ne_slt w) ?_
       refine wpV_done Tw.kr (fun W7 hW7 => ?_) _
       change Code.wp ..
       cases h3 : (eqS y1 y2) with
       | false =>
         exact absurd he (slt_ne hy1 hy2 h3)
       | true =>
         refine wp_cond_false rfl ?_
         refine wp_skip ?_
         change Code.wp ..
         refine wp_region_L _ hW7 ?_
         refine lm (v := .int .i64 ((k : Nat) : Int)) rfl rfl ?_
         refine lp (v := .int .i64 (((k + 1) : Nat) : Int)) rfl rfl (run_bin rfl (vx := (.int .i64 ((k : Nat) : Int))) (vy := (.int .i64 ((1 : Nat) : Int))) Tw.kr Tw.kr fun w => bn_add (z := (k + 1)) rfl (wr_i64 Tw.om) w) ?_
         refine lm (v := .int .i64 (((k + 1) : Nat) : Int)) rfl rfl ?_
         refine wpL_done (fun W8 hW8 => ?_)
         go_roundw
         case rel =>
           repeat apply Exists.intro
           exact ⟨⟨k + 1, Tw.om, rfl, (hW8.sub (fun p hp => by first | exact hp | (simp only [List.mem_cons, List.mem_append, List.nil_append, List.not_mem_nil, or_assoc, or_false, false_or] at hp ⊢ <;> grind)))⟩, rfl⟩
         case measure => (show l.length - (intOf (.int .i64 (((k + 1) : Nat) : Int))).toNat < l.length - (intOf (.int .i64 ((k : Nat) : Int))).toNat); simp only [intOf]; omega
set_option maxRecDepth 100000 in
set_option maxHeartbeats 4000000 in
theorem markSlot_any (i : Nat) (hi : i ≤ 8000000000) (w : World) : Calls Tryd.prog 44 #[.int .i64 1, .int .i64 ((i : Nat) : Int)] w fun e w' => e = .returned (.agg (sltC (mkS i)).toArray) ∧ Below w.heap.size w w' := by
 go_enter Tryd.func44, Tryd.ntmps44
 refine wp_seq ?_
 refine wp_region_L [] (KS.start w) ?_
 refine wpL_new (fun g => .pointer (some ⟨g, 0, none⟩)) (obi := .cells #[.int .i64 0, .int .i64 0, .int .u8 0] 34 (0, 0)) rfl rfl Tw.kf Tw.pf fun g1 Bg1 Fg1 => ?_
 refine wpL_done (fun W1 hW1 => ?_)
 change Code.wp ..
 refine wp_seq ?_
 refine wp_region_L _ hW1 ?_
 refine lm (v := .int .i64 1) rfl rfl ?_
 refine lm (v := .int .i64 ((i : Nat) : Int)) rfl rfl ?_
 refine lv (v := .int .i64 (mkI i)) rfl rfl (yb_call (f := 79) (args := #[.int .i64 1, .int .i64 ((i : Nat) : Int)]) Tw.kf fun W hW => mark_any 1 ((i : Nat) : Int) Tw.om Tw.om W) ?_
 refine lm (v := .agg #[.int .i64 (mkI i), .int .i64 0, .int .u8 0]) rfl rfl ?_
 refine wpL_s [(g1, .cells #[.int .i64 (mkI i), .int .i64 0, .int .u8 0] 34 (0, 0))] rfl rfl (st_row (off := 0) (v := .agg #[.int .i64 (mkI i), .int .i64 0, .int .u8 0]) rfl Tw.kr Tw.kr Tw.m0 Bg1 Tw.kr (by first | (simp [Value.cells]; done) | exact Nat.le_of_ble_eq_true rfl) (by intro v hv; simp [Value.cells] at hv; first | (subst hv; rfl) | (rcases hv with rfl | rfl | rfl <;> rfl)) Tw.kr (List.forall_mem_cons.2 ⟨.inl rfl, (List.forall_mem_nil _)⟩)) ?_
 refine wpL_done (fun W2 hW2 => ?_)
 change Code.wp ..
 refine wp_ret ?_
 try simp only [inBlock_ret, then_ret]
 refine bodyPost_ret (v := .agg #[.int .i64 (mkI i), .int .i64 0, .int .u8 0]) ?_ rfl ?_
 · exact (res_cell (p := 4) rfl rfl (hW2.2 _ Tw.m0) Tryd.underlying34 rfl Tw.kr)
 · exact ⟨rfl, hW2.1⟩
set_option maxRecDepth 100000 in
set_option maxHeartbeats 4000000 in
theorem LentSlots_any (l : List Slt) (p : Option Addr) (c : Nat) (hl : l.length ≤ 1000000) (w : World) (hp : SLV w p (l.flatMap sltC)) : Calls Tryd.prog 13 #[.slice p l.length c] w fun e w' => ∃ q d, e = .returned (.slice q l.length d) ∧ l.length + 12 ≤ d ∧ OutV w w' 34 3 (.slice q (l ++ mkSL 12).length d) (l ++ mkSL 12).length ((l ++ mkSL 12).flatMap sltC) ∧ Below w.heap.size w w' := by
 have HP := Lib.hid hp
 clear hp
 go_enter Tryd.func13, Tryd.ntmps13
 refine wp_seq ?_
 refine wp_region_L [] (KS.start w) ?_
 refine lm (v := .slice none 0 0) rfl rfl ?_
 refine wpL_done (fun W1 hW1 => ?_)
 change Code.wp ..
 refine wp_seq ?_
 refine wp_region_L _ hW1 ?_
 refine lm (v := .slice p l.length c) rfl rfl ?_
 refine lp (v := .int .i64 ((l.length : Nat) : Int)) rfl rfl (run_lenL (p := p) (cap := c) (n := l.length) rfl Tryd.underlying35 Tw.kr) ?_
 refine lp (v := .int .i64 (((l.length + 12) : Nat) : Int)) rfl rfl (run_bin rfl (vx := (.int .i64 ((l.length : Nat) : Int))) (vy := (.int .i64 ((12 : Nat) : Int))) Tw.kr Tw.kr fun w => bn_add (z := (l.length + 12)) rfl (wr_i64 Tw.om) w) ?_
 refine wpL_new (fun g => .slice (some ⟨g, 0, none⟩) 0 (l.length + 12)) (obi := .cells (madeCells (Value.cells (.agg #[.int .i64 0, .int .i64 0, .int .u8 0])) ((l.length + 12) * 3)) 34 (0, 0)) rfl rfl (run_mk0 (c := (l.length + 12)) (z := (.agg #[.int .i64 0, .int .i64 0, .int .u8 0])) (sz := 3) (b := 24) rfl Tryd.underlying35 Tw.kr (by decide) Tw.kr Tw.kr Tw.om) Tw.pf fun g1 Bg1 Fg1 => ?_
 refine lm (v := .slice (some ⟨g1, 0, none⟩) 0 (l.length + 12)) rfl rfl ?_
 refine wpL_done (fun W2 hW2 => ?_)
 change Code.wp ..
 refine wp_seq ?_
 refine wp_region_L _ hW2 ?_
 refine lm (v := .slice (some ⟨g1, 0, none⟩) 0 (l.length + 12)) rfl rfl ?_
 refine lm (v := .slice p l.length c) rfl rfl ?_
 have Om2 := (own_made (cells := sltC) (c := (l.length + 12)) (E := 34) (z := (.agg #[.int .i64 0, .int .i64 0, .int .u8 0])) Bg1 rfl Tw.om)
 refine wpL_g (AppO w 34 3 [] (0 + l.length) ((([] : List Slt).flatMap sltC) ++ (l.flatMap sltC))) rfl rfl (app_any el_slt (m := l.length) (news := (l.flatMap sltC)) (y := .slice p l.length c) rfl Tw.kr Tw.kr (src_rl (c := c) Tryd.underlying35 sltC_len sltC_one (by decide) ((RL.base HP.out).mono (fun _ h => by cases h)) rfl) Om2 (fun p hp => by cases List.mem_singleton.1 hp; exact Tw.m0) (fun _ h => by cases h) Tw.om Tw.om) Tw.pf ?_
 rintro v3 Kl3 ⟨_, O3, N3, rfl⟩
 refine lm (v := v3) rfl rfl ?_
 refine wpL_done (fun W3 hW3 => ?_)
 change Code.wp ..
 refine wp_seq ?_
 refine wp_seq ?_
 refine wp_region_L _ hW3 ?_
 refine lm (v := .int .i64 0) rfl rfl ?_
 refine wpL_done (fun W4 hW4 => ?_)
 change Code.wp ..
 refine wp_block ?_
 go_loopw [4, 3] (fun u4 u3 wr => ∃ (i : Nat) (vo : Value) (Ko : List (Nat × Obj)), (i ≤ 12) ∧ (OwnL w 34 3 vo (l.length + i) ((l ++ mkSL i).flatMap sltC) Ko) ∧ u4 = .int .i64 ((i : Nat) : Int) ∧ vo = u3 ∧ KS w Ko wr) (fun u4 _ _ => 12 - (intOf u4).toNat)
 case atStart => exact ⟨0, v3, Kl3, (Nat.zero_le _), (by have h9 := O3; rw [List.flatMap_nil, List.nil_append, Nat.zero_add] at h9; rw [show l ++ mkSL 0 = l from by simp [mkSL]]; exact h9), rfl, rfl, (hW4.sub (fun p hp => by first | exact hp | (simp only [List.mem_cons, List.mem_append, List.nil_append, List.not_mem_nil, or_assoc, or_false, false_or] at hp ⊢ <;> grind)))⟩
 case round =>
   obtain ⟨i, vo, Ko, hi, hO, rfl, rfl, hL5⟩ := hrel
   refine wp_seq ?_
   refine wp_seq ?_
   refine wp_region_L _ hL5 ?_
   refine lm (v := .int .i64 ((i : Nat) : Int)) rfl rfl ?_
   refine lp (v := .bool (decide (i < 12))) rfl rfl (run_bin rfl (vx := (.int .i64 ((i : Nat) : Int))) (vy := (.int .i64 ((12 : Nat) : Int))) Tw.kr Tw.kr fun w => bn_lss rfl w) ?_
   refine wpL_done (fun W6 hW6 => ?_)
   change Code.wp ..
   cases hd1 : (decide (i < 12)) with
   | false =>
     have h1 : ¬ (i < 12) := of_decide_eq_false hd1
     clear hd1
     refine wp_cond_false rfl ?_
     refine wp_exit ?_
     change Code.wp ..
     refine wp_seq ?_
     refine wp_region_L _ hW6 ?_
     refine lm (v := vo) rfl rfl ?_
     refine lm (v := .slice p l.length c) rfl rfl ?_
     refine lp (v := .int .i64 ((l.length : Nat) : Int)) rfl rfl (run_lenL (p := p) (cap := c) (n := l.length) rfl Tryd.underlying35 Tw.kr) ?_
     have hi12 : i = 12 := by omega
     subst hi12
     have hO2 := own_app (cells := sltC) (l' := l ++ mkSL 12) hO rfl (by rw [List.length_append, mkSL_len])
     obtain ⟨q9, d9, rfl, hd9, R9⟩ := own_rl hO2
     have hlen : (l ++ mkSL 12).length = l.length + 12 := by rw [List.length_append, mkSL_len]
     refine lp (v := .slice q9 l.length d9) rfl rfl (run_slt (kd := .i64) (j := l.length) (n := (l ++ mkSL 12).length) (c := d9) (sz := 3) rfl Tryd.underlying35 Tw.kr Tw.kr Tw.kr Tw.om) ?_
     refine lm (v := .slice q9 l.length d9) rfl rfl ?_
     refine wpL_done (fun W7 hW7 => ?_)
     change Code.wp ..
     refine wp_ret ?_
     try simp only [inBlock_ret, then_ret]
     refine bodyPost_ret (v := .slice q9 l.length d9) ?_ rfl ?_
     · kernel_rfl
     · exact ⟨q9, d9, rfl, by omega, hO2.out (fun p hp => by simp only [List.mem_cons, List.mem_append, List.nil_append, List.not_mem_nil, or_assoc, or_false, false_or, hp, true_or, or_true]) hW7, hW7.1⟩
   | true =>
     have h1 : i < 12 := of_decide_eq_true hd1
     clear hd1
     refine wp_cond_true rfl ?_
     refine wp_skip ?_
     change Code.wp ..
     refine wp_seq ?_
     refine wp_block ?_
     refine wp_region_L _ hW6 ?_
     refine lm (v := vo) rfl rfl ?_
     refine lm (v := .int .i64 ((i : Nat) : Int)) rfl rfl ?_
     refine lv (v := .agg (sltC (mkS i)).toArray) rfl rfl (yb_call (f := 44) (args := #[.int .i64 1, .int .i64 ((i : Nat) : Int)]) Tw.kf fun W hW => markSlot_any i Tw.om W) ?_
     refine wpL_new (fun g => .slice (some ⟨g, 0, none⟩) 1 1) (obi := .cells (sltC (mkS i)).toArray 34 (0, 0)) rfl rfl Tw.kf Tw.pf fun g5 Bg5 Fg5 => ?_
     obtain dj6_0 : Dk g5 Ko := Tw.dkf Fg5
     refine wpL_g (AppO w 34 3 [] ((l.length + i) + 1) (((l ++ mkSL i).flatMap sltC) ++ [.int .i64 ((mkS i).col), .int .i64 ((mkS i).tier), .int .u8 ((((mkS i).half) : Nat) : Int)])) rfl rfl (app_own el_slt (m := 1) (c := 1) (news := [.int .i64 ((mkS i).col), .int .i64 ((mkS i).tier), .int .u8 ((((mkS i).half) : Nat) : Int)]) rfl Tw.kr Tw.kr Tw.m0 hO Tw.sc (fun _ h => by cases h) rfl (by simp [strV, Value.oneCell']) Tw.om Tw.om Tw.om) Tw.pf ?_
     rintro v7 Kl7 ⟨_, O7, N7, rfl⟩
     refine lm (v := v7) rfl rfl ?_
     refine wpL_done (fun W8 hW8 => ?_)
     change Code.wp ..
     refine wp_region_L _ hW8 ?_
     refine lm (v := .int .i64 ((i : Nat) : Int)) rfl rfl ?_
     refine lp (v := .int .i64 (((i + 1) : Nat) : Int)) rfl rfl (run_bin rfl (vx := (.int .i64 ((i : Nat) : Int))) (vy := (.int .i64 ((1 : Nat) : Int))) Tw.kr Tw.kr fun w => bn_add (z := (i + 1)) rfl (wr_i64 Tw.om) w) ?_
     refine lm (v := .int .i64 (((i + 1) : Nat) : Int)) rfl rfl ?_
     refine wpL_done (fun W9 hW9 => ?_)
     go_roundw
     case rel =>
       repeat apply Exists.intro
       exact ⟨⟨i + 1, v7, Kl7, Tw.om, (by rw [mkSL_s, ← List.append_assoc, List.flatMap_append]; exact O7), rfl, rfl, (hW9.sub (fun p hp => by first | exact hp | (simp only [List.mem_cons, List.mem_append, List.nil_append, List.not_mem_nil, or_assoc, or_false, false_or] at hp ⊢ <;> grind)))⟩, rfl⟩
     case measure => (show 12 - (intOf (.int .i64 (((i + 1) : Nat) : Int))).toNat < 12 - (intOf (.int .i64 ((i : Nat) : Int))).toNat); simp only [intOf]; omega
set_option maxRecDepth 100000 in
set_option maxHeartbeats 4000000 in
theorem KeptSlots_any (l : List Slt) (p q : Option Addr) (c d : Nat) (hl : l.length ≤ 1000000) (hc : l.length + 12 ≤ c) (w : World) (hp : SLV w p ((l ++ mkSL 12).flatMap sltC)) (hq : SLV w q (l.flatMap sltC)) : Calls Tryd.prog 28 #[.slice p l.length c, .slice q l.length d] w fun e w' => e = .returned (.bool true) ∧ Below w.heap.size w w' := by
 have HP := Lib.hid hp
 clear hp
 have HQ := Lib.hid hq
 clear hq
 have hlen : (l ++ mkSL 12).length = l.length + 12 := by rw [List.length_append, mkSL_len]
 go_enter Tryd.func28, Tryd.ntmps28
 refine wp_seq ?_
 refine wp_region_L [] (KS.start w) ?_
 refine lm (v := .bool false) rfl rfl ?_
 refine wpL_done (fun W1 hW1 => ?_)
 change Code.wp ..
 refine wp_seq ?_
 refine wp_seq ?_
 refine wp_region_L _ hW1 ?_
 refine lm (v := .slice p l.length c) rfl rfl ?_
 refine lp (v := .int .i64 ((l.length : Nat) : Int)) rfl rfl (run_lenL (p := p) (cap := c) (n := l.length) rfl Tryd.underlying35 Tw.kr) ?_
 refine lm (v := .slice q l.length d) rfl rfl ?_
 refine lp (v := .int .i64 ((l.length : Nat) : Int)) rfl rfl (run_lenL (p := q) (cap := d) (n := l.length) rfl Tryd.underlying35 Tw.kr) ?_
 refine lp (v := .bool false) rfl rfl (run_bin rfl (vx := (.int .i64 ((l.length : Nat) : Int))) (vy := (.int .i64 ((l.length : Nat) : Int))) Tw.kr Tw.kr fun w => bn_neq (decide_eq_true rfl) w) ?_
 refine wpL_done (fun W2 hW2 => ?_)
 change Code.wp ..
 refine wp_cond_false rfl ?_
 refine wp_skip ?_
 change Code.wp ..
 refine wp_seq ?_
 refine wp_region_L _ hW2 ?_
 refine lm (v := .slice p l.length c) rfl rfl ?_
 refine lm (v := .slice q l.length d) rfl rfl ?_
 refine lp (v := .int .i64 ((l.length : Nat) : Int)) rfl rfl (run_lenL (p := q) (cap := d) (n := l.length) rfl Tryd.underlying35 Tw.kr) ?_
 refine lp (v := .int .i64 (((l.length + 12) : Nat) : Int)) rfl rfl (run_bin rfl (vx := (.int .i64 ((l.length : Nat) : Int))) (vy := (.int .i64 ((12 : Nat) : Int))) Tw.kr Tw.kr fun w => bn_add (z := (l.length + 12)) rfl (wr_i64 Tw.om) w) ?_
 refine lp (v := .slice p (l.length + 12) c) rfl rfl (run_slt (kd := .i64) (j := (l.length + 12)) (n := l.length) (c := c) (sz := 3) rfl Tryd.underlying35 Tw.kr Tw.kr Tw.kr Tw.om) ?_
 refine lm (v := .slice p (l.length + 12) c) rfl rfl ?_
 refine wpL_done (fun W3 hW3 => ?_)
 change Code.wp ..
 refine wp_seq ?_
 refine wp_seq ?_
 refine wp_region_L _ hW3 ?_
 refine lm (v := .int .i64 0) rfl rfl ?_
 refine wpL_done (fun W4 hW4 => ?_)
 change Code.wp ..
 refine wp_block ?_
 go_loopw [6] (fun u6 wr => ∃ (i : Nat), (i ≤ l.length + 12) ∧ u6 = .int .i64 ((i : Nat) : Int) ∧ KS w [] wr) (fun u6 _ => l.length + 12 - (intOf u6).toNat)
 case atStart => exact ⟨0, (Nat.zero_le _), rfl, (hW4.sub (fun p hp => by first | exact hp | (simp only [List.mem_cons, List.mem_append, List.nil_append, List.not_mem_nil, or_assoc, or_false, false_or] at hp ⊢ <;> grind)))⟩
 case round =>
   obtain ⟨i, hi, rfl, hL5⟩ := hrel
   refine wp_seq ?_
   refine wp_seq ?_
   refine wp_region_L _ hL5 ?_
   refine lm (v := .int .i64 ((i : Nat) : Int)) rfl rfl ?_
   refine lm (v := .slice p (l.length + 12) c) rfl rfl ?_
   refine lp (v := .int .i64 (((l.length + 12) : Nat) : Int)) rfl rfl (run_lenL (p := p) (cap := c) (n := (l.length + 12)) rfl Tryd.underlying35 Tw.kr) ?_
   refine lp (v := .bool (decide (i < (l.length + 12)))) rfl rfl (run_bin rfl (vx := (.int .i64 ((i : Nat) : Int))) (vy := (.int .i64 (((l.length + 12) : Nat) : Int))) Tw.kr Tw.kr fun w => bn_lss rfl w) ?_
   refine wpL_done (fun W6 hW6 => ?_)
   change Code.wp ..
   cases hd1 : (decide (i < (l.length + 12))) with
   | false =>
     have h1 : ¬ (i < (l.length + 12)) := of_decide_eq_false hd1
     clear hd1
     refine wp_cond_false rfl ?_
     refine wp_exit ?_
     change Code.wp ..
     refine wp_seq ?_
     refine wp_region_L _ hW6 ?_
     refine lm (v := .bool true) rfl rfl ?_
     refine wpL_done (fun W7 hW7 => ?_)
     change Code.wp ..
     refine wp_ret ?_
     try simp only [inBlock_ret, then_ret]
     refine bodyPost_ret (v := .bool true) ?_ rfl ?_
     · kernel_rfl
     · exact ⟨rfl, hW7.1⟩
   | true =>
     have h1 : i < (l.length + 12) := of_decide_eq_true hd1
     clear hd1
     refine wp_cond_true rfl ?_
     refine wp_skip ?_
     change Code.wp ..
     refine wp_seq ?_
     refine wp_block ?_
     refine wp_seq ?_
     refine wp_region_V _ Tw.kr hW6 ?_
     refine vm (i := 0) (v := .int .i64 ((i : Nat) : Int)) rfl rfl rfl ?_
     refine vm (i := 1) (v := .slice q l.length d) rfl rfl rfl ?_
     refine vp (i := 2) (v := .int .i64 ((l.length : Nat) : Int)) rfl rfl rfl (run_lenL (p := q) (cap := d) (n := l.length) rfl Tryd.underlying35 Tw.kr) ?_
     refine vp (i := 3) (v := .bool (decide (i < l.length))) rfl rfl rfl (run_bin rfl (vx := (.int .i64 ((i : Nat) : Int))) (vy := (.int .i64 ((l.length : Nat) : Int))) Tw.kr Tw.kr fun w => bn_lss rfl w) ?_
     refine vm (i := 4) (v := .bool (decide (i < l.length))) rfl rfl rfl ?_
     cases hd2 : (decide (i < l.length)) with
     | false =>
       have h2 : ¬ (i < l.length) := of_decide_eq_false hd2
       clear hd2
       refine vn (i := 5) rfl rfl ?_
       refine vn (i := 6) rfl rfl ?_
       refine vn (i := 7) rfl rfl ?_
       refine vn (i := 8) rfl rfl ?_
       refine vn (i := 9) rfl rfl ?_
       refine vn (i := 10) rfl rfl ?_
       refine vn (i := 11) rfl rfl ?_
       refine vn (i := 12) rfl rfl ?_
       refine vn (i := 13) rfl rfl ?_
       refine vn (i := 14) rfl rfl ?_
       refine vm (i := 15) (v := .bool false) rfl rfl rfl ?_
       refine vm (i := 16) (v := .bool false) rfl rfl rfl ?_
       refine vm (i := 17) (v := .int .i64 ((i : Nat) : Int)) rfl rfl rfl ?_
       refine vm (i := 18) (v := .slice q l.length d) rfl rfl rfl ?_
       refine vp (i := 19) (v := .int .i64 ((l.length : Nat) : Int)) rfl rfl rfl (run_lenL (p := q) (cap := d) (n := l.length) rfl Tryd.underlying35 Tw.kr) ?_
       refine vp (i := 20) (v := .bool true) rfl rfl rfl (run_bin rfl (vx := (.int .i64 ((i : Nat) : Int))) (vy := (.int .i64 ((l.length : Nat) : Int))) Tw.kr Tw.kr fun w => bn_geq (decide_eq_false (by assumption)) w) ?_
       refine vm (i := 21) (v := .bool true) rfl rfl rfl ?_
       refine vm (i := 22) (v := .slice p (l.length + 12) c) rfl rfl rfl ?_
       refine vm (i := 23) (v := .int .i64 ((i : Nat) : Int)) rfl rfl rfl ?_
       obtain ⟨y1, g1_, f1_, hy1, hp1, hc1⟩ := RL.at (RL.base HP.out) sltC_len (by decide) (hW6.sub (fun _ h => by cases h)) (k := i) Tw.om
       refine vp (i := 24) (v := .pointer (some ⟨g1_, f1_ + i * 3, none⟩)) rfl rfl rfl (run_idxQ (p := p) (cap := c) (n := (l.length + 12)) (j := .i64) (k := i) (sz := 3) rfl Tryd.underlying35 Tw.kr Tw.kr hp1 Tw.kr Tw.om) ?_
       refine vb (i := 25) (v := .agg (sltC y1).toArray) rfl rfl rfl (yb_rs (off := f1_ + i * 3) (cs := sltC y1) rfl Tw.kr (fun W hW => hc1 W (hW.sub (fun _ h => by cases h))) Tryd.underlying34 rfl Tw.kr) ?_
       refine vm (i := 26) (v := .int .i64 ((i : Nat) : Int)) rfl rfl rfl ?_
       refine vm (i := 27) (v := .slice q l.length d) rfl rfl rfl ?_
       refine vp (i := 28) (v := .int .i64 ((l.length : Nat) : Int)) rfl rfl rfl (run_lenL (p := q) (cap := d) (n := l.length) rfl Tryd.underlying35 Tw.kr) ?_
       refine vp (i := 29) (v := .int .i64 (((i - l.length) : Nat) : Int)) rfl rfl rfl (run_bin rfl (vx := (.int .i64 ((i : Nat) : Int))) (vy := (.int .i64 ((l.length : Nat) : Int))) Tw.kr Tw.kr fun w => bn_sub (z := (i - l.length)) rfl Tw.om (wr_i64 Tw.om) w) ?_
       refine vv (i := 30) (v := .agg (sltC (mkS (i - l.length))).toArray) rfl rfl rfl (yb_call (f := 44) (args := #[.int .i64 1, .int .i64 (((i - l.length) : Nat) : Int)]) Tw.kf fun W hW => markSlot_any (i - l.length) Tw.om W) ?_
       refine vp (i := 31) (v := .bool (eqS y1 (mkS (i - l.length)))) rfl rfl rfl (run_bin rfl (vx := .agg (sltC y1).toArray) (vy := .agg (sltC (mkS (i - l.length))).toArray) Tw.kr Tw.kr fun w => eq_slt w) ?_
       refine vp (i := 32) (v := .bool (!(eqS y1 (mkS (i - l.length))))) rfl rfl rfl (run_un rfl Tw.kr fun w => un_not w) ?_
       refine vm (i := 33) (v := .bool (!(eqS y1 (mkS (i - l.length))))) rfl rfl rfl ?_
       refine vm (i := 34) (v := .bool (!(eqS y1 (mkS (i - l.length))))) rfl rfl rfl ?_
       refine wpV_done Tw.kr (fun W8 hW8 => ?_) _
       change Code.wp ..
       cases h3 : (eqS y1 (mkS (i - l.length))) with
       | false =>
         exact absurd (show (eqS y1 (mkS (i - l.length))) = true from eqS_iff.2 (by rw [List.getElem?_append_right Tw.om, mkSL_at Tw.om] at hy1; exact (Option.some.inj hy1).symm)) (by rw [h3]; decide)
       | true =>
         refine wp_cond_false rfl ?_
         refine wp_skip ?_
         change Code.wp ..
         refine wp_region_L _ hW8 ?_
         refine lm (v := .int .i64 ((i : Nat) : Int)) rfl rfl ?_
         refine lp (v := .int .i64 (((i + 1) : Nat) : Int)) rfl rfl (run_bin rfl (vx := (.int .i64 ((i : Nat) : Int))) (vy := (.int .i64 ((1 : Nat) : Int))) Tw.kr Tw.kr fun w => bn_add (z := (i + 1)) rfl (wr_i64 Tw.om) w) ?_
         refine lm (v := .int .i64 (((i + 1) : Nat) : Int)) rfl rfl ?_
         refine wpL_done (fun W9 hW9 => ?_)
         go_roundw
         case rel =>
           repeat apply Exists.intro
           exact ⟨⟨i + 1, Tw.om, rfl, (hW9.sub (fun p hp => by first | exact hp | (simp only [List.mem_cons, List.mem_append, List.nil_append, List.not_mem_nil, or_assoc, or_false, false_or] at hp ⊢ <;> grind)))⟩, rfl⟩
         case measure => (show l.length + 12 - (intOf (.int .i64 (((i + 1) : Nat) : Int))).toNat < l.length + 12 - (intOf (.int .i64 ((i : Nat) : Int))).toNat); simp only [intOf]; omega
     | true =>
       have h2 : i < l.length := of_decide_eq_true hd2
       clear hd2
       refine vm (i := 5) (v := .slice p (l.length + 12) c) rfl rfl rfl ?_
       refine vm (i := 6) (v := .int .i64 ((i : Nat) : Int)) rfl rfl rfl ?_
       obtain ⟨y2, g2_, f2_, hy2, hp2, hc2⟩ := RL.at (RL.base HP.out) sltC_len (by decide) (hW6.sub (fun _ h => by cases h)) (k := i) Tw.om
       refine vp (i := 7) (v := .pointer (some ⟨g2_, f2_ + i * 3, none⟩)) rfl rfl rfl (run_idxQ (p := p) (cap := c) (n := (l.length + 12)) (j := .i64) (k := i) (sz := 3) rfl Tryd.underlying35 Tw.kr Tw.kr hp2 Tw.kr Tw.om) ?_
       refine vb (i := 8) (v := .agg (sltC y2).toArray) rfl rfl rfl (yb_rs (off := f2_ + i * 3) (cs := sltC y2) rfl Tw.kr (fun W hW => hc2 W (hW.sub (fun _ h => by cases h))) Tryd.underlying34 rfl Tw.kr) ?_
       refine vm (i := 9) (v := .slice q l.length d) rfl rfl rfl ?_
       refine vm (i := 10) (v := .int .i64 ((i : Nat) : Int)) rfl rfl rfl ?_
       obtain ⟨y3, g3_, f3_, hy3, hp3, hc3⟩ := RL.at (RL.base HQ.out) sltC_len (by decide) (hW6.sub (fun _ h => by cases h)) (k := i) Tw.om
       refine vp (i := 11) (v := .pointer (some ⟨g3_, f3_ + i * 3, none⟩)) rfl rfl rfl (run_idxQ (p := q) (cap := d) (n := l.length) (j := .i64) (k := i) (sz := 3) rfl Tryd.underlying35 Tw.kr Tw.kr hp3 Tw.kr Tw.om) ?_
       refine vb (i := 12) (v := .agg (sltC y3).toArray) rfl rfl rfl (yb_rs (off := f3_ + i * 3) (cs := sltC y3) rfl Tw.kr (fun W hW => hc3 W (hW.sub (fun _ h => by cases h))) Tryd.underlying34 rfl Tw.kr) ?_
       refine vp (i := 13) (v := .bool (eqS y2 y3)) rfl rfl rfl (run_bin rfl (vx := .agg (sltC y2).toArray) (vy := .agg (sltC y3).toArray) Tw.kr Tw.kr fun w => eq_slt w) ?_
       refine vp (i := 14) (v := .bool (!(eqS y2 y3))) rfl rfl rfl (run_un rfl Tw.kr fun w => un_not w) ?_
       refine vm (i := 15) (v := .bool (!(eqS y2 y3))) rfl rfl rfl ?_
       refine vm (i := 16) (v := .bool (!(eqS y2 y3))) rfl rfl rfl ?_
       cases h4 : (eqS y2 y3) with
       | false =>
         exact absurd (show (eqS y2 y3) = true from eqS_iff.2 (by rw [List.getElem?_append_left Tw.om] at hy2; rw [hy2] at hy3; exact Option.some.inj hy3)) (by rw [h4]; decide)
       | true =>
         refine vm (i := 17) (v := .int .i64 ((i : Nat) : Int)) rfl rfl rfl ?_
         refine vm (i := 18) (v := .slice q l.length d) rfl rfl rfl ?_
         refine vp (i := 19) (v := .int .i64 ((l.length : Nat) : Int)) rfl rfl rfl (run_lenL (p := q) (cap := d) (n := l.length) rfl Tryd.underlying35 Tw.kr) ?_
         refine vp (i := 20) (v := .bool false) rfl rfl rfl (run_bin rfl (vx := (.int .i64 ((i : Nat) : Int))) (vy := (.int .i64 ((l.length : Nat) : Int))) Tw.kr Tw.kr fun w => bn_geq (decide_eq_true (by assumption)) w) ?_
         refine vm (i := 21) (v := .bool false) rfl rfl rfl ?_
         refine vn (i := 22) rfl rfl ?_
         refine vn (i := 23) rfl rfl ?_
         refine vn (i := 24) rfl rfl ?_
         refine vn (i := 25) rfl rfl ?_
         refine vn (i := 26) rfl rfl ?_
         refine vn (i := 27) rfl rfl ?_
         refine vn (i := 28) rfl rfl ?_
         refine vn (i := 29) rfl rfl ?_
         refine vn (i := 30) rfl rfl ?_
         refine vn (i := 31) rfl rfl ?_
         refine vn (i := 32) rfl rfl ?_
         refine vm (i := 33) (v := .bool false) rfl rfl rfl ?_
         refine vm (i := 34) (v := .bool false) rfl rfl rfl ?_
         refine wpV_done Tw.kr (fun W10 hW10 => ?_) _
         change Code.wp ..
         refine wp_cond_false rfl ?_
         refine wp_skip ?_
         change Code.wp ..
         refine wp_region_L _ hW10 ?_
         refine lm (v := .int .i64 ((i : Nat) : Int)) rfl rfl ?_
         refine lp (v := .int .i64 (((i + 1) : Nat) : Int)) rfl rfl (run_bin rfl (vx := (.int .i64 ((i : Nat) : Int))) (vy := (.int .i64 ((1 : Nat) : Int))) Tw.kr Tw.kr fun w => bn_add (z := (i + 1)) rfl (wr_i64 Tw.om) w) ?_
         refine lm (v := .int .i64 (((i + 1) : Nat) : Int)) rfl rfl ?_
         refine wpL_done (fun W11 hW11 => ?_)
         go_roundw
         case rel =>
           repeat apply Exists.intro
           exact ⟨⟨i + 1, Tw.om, rfl, (hW11.sub (fun p hp => by first | exact hp | (simp only [List.mem_cons, List.mem_append, List.nil_append, List.not_mem_nil, or_assoc, or_false, false_or] at hp ⊢ <;> grind)))⟩, rfl⟩
         case measure => (show l.length + 12 - (intOf (.int .i64 (((i + 1) : Nat) : Int))).toNat < l.length + 12 - (intOf (.int .i64 ((i : Nat) : Int))).toNat); simp only [intOf]; omega
end Go.Proofs.YthpooalhibedpaaDoor
/- The reference of slots: plain facts. -/
namespace Go.Proofs.YthpooalhibedpaaDoor
open Go Go.RowKit Tw
theorem lt_iff (a b : Slt) : cmpS a b < 0 ↔ ltS a b := by
 rcases cmpS_cases a b with ⟨h, e⟩ | ⟨h, e⟩ | ⟨h, e⟩
 · exact ⟨fun _ => h, fun _ => by omega⟩
 · subst h; exact ⟨fun h2 => by omega, fun h2 => (ltS_irr h2).elim⟩
 · exact ⟨fun h2 => by omega, fun h2 => (ltS_irr (ltS_trans h h2)).elim⟩
def ltB (a b : Slt) : Bool := decide (cmpS a b < 0)
theorem ltB_col {a b : Slt} (h : ¬ a.col = b.col) : ltB a b = decide (a.col < b.col) := by
 unfold ltB; rw [decide_eq_decide, lt_iff]; unfold ltS; omega
theorem ltB_tier {a b : Slt} (h : a.col = b.col) (h2 : ¬ a.tier = b.tier) : ltB a b = decide (a.tier < b.tier) := by
 unfold ltB; rw [decide_eq_decide, lt_iff]; unfold ltS; omega
theorem ltB_half {a b : Slt} (h : a.col = b.col) (h2 : a.tier = b.tier) : ltB a b = decide (a.half < b.half) := by
 unfold ltB; rw [decide_eq_decide, lt_iff]; unfold ltS; omega
theorem cmp_of1 {a b : Slt} (h : ltB a b = true) : cmpS a b = -1 := cmpS_lt ((lt_iff a b).1 (of_decide_eq_true h))
theorem cmp_of2 {a b : Slt} (h : ltB b a = true) : cmpS a b = 1 := cmpS_gt ((lt_iff b a).1 (of_decide_eq_true h))
theorem cmp_of3 {a b : Slt} (h : ltB a b = false) (h2 : ltB b a = false) : cmpS a b = 0 := by
 have h := of_decide_eq_false h
 have h2 := of_decide_eq_false h2
 rw [lt_iff] at h h2
 rcases cmpS_cases a b with ⟨h3, e⟩ | ⟨h3, e⟩ | ⟨h3, e⟩
 · exact (h h3).elim
 · exact e
 · exact (h2 h3).elim
theorem hasH_eq (z h : Nat) : hasH z h = ((decide (z = 40) && decide (h = 0)) || (decide (z = 20) && (decide (h = 1) || decide (h = 2)))) := by
 rw [Bool.eq_iff_iff, hasH_iff]
 simp only [Bool.or_eq_true, Bool.and_eq_true, decide_eq_true_eq]
 constructor
 · intro hm
   rcases hsX_mem hm with ⟨h1, h2⟩ | ⟨h1, h2⟩
   · exact .inr ⟨h1, h2⟩
   · exact .inl ⟨h1, h2⟩
 · rintro (⟨rfl, rfl⟩ | ⟨rfl, rfl | rfl⟩)
   · exact .head _
   · exact .head _
   · exact .tail _ Tw.m0
theorem below_no {x : Slt} {l : List Slt} {h k : Nat} (hn : ∀ j, j < k → ∀ y, l[j]? = some y → ¬ (y.col = x.col ∧ y.tier = x.tier - 1 ∧ y.half = h)) (hk : ¬ k < l.length) : belowS x l h = false := by
 cases hq : belowS x l h with
 | false => rfl
 | true =>
   obtain ⟨j, hj⟩ := List.getElem?_of_mem (belowS_iff.1 hq)
   have := (List.getElem?_eq_some_iff.1 hj).1
   exact (hn j Tw.om _ hj ⟨rfl, rfl, rfl⟩).elim
theorem below_yes {x : Slt} {l : List Slt} {h k : Nat} {y : Slt} (hy : l[k]? = some y) (h1 : y.col = x.col) (h2 : y.tier = x.tier - 1) (h3 : y.half = h) : belowS x l h = true :=
 belowS_iff.2 (by rw [← h1, ← h2, ← h3]; exact List.mem_of_getElem? hy)
theorem below_step {x : Slt} {l : List Slt} {h k : Nat} {y : Slt} (hn : ∀ j, j < k → ∀ y, l[j]? = some y → ¬ (y.col = x.col ∧ y.tier = x.tier - 1 ∧ y.half = h)) (hy : l[k]? = some y) (h1 : ¬ (y.col = x.col ∧ y.tier = x.tier - 1 ∧ y.half = h)) : ∀ j, j < k + 1 → ∀ y, l[j]? = some y → ¬ (y.col = x.col ∧ y.tier = x.tier - 1 ∧ y.half = h) := fun j hj z hz => by
 rcases Nat.lt_or_ge j k with hlt | hge
 · exact hn j hlt z hz
 · have : j = k := by omega
   subst this
   rw [hy] at hz; cases hz
   exact h1
theorem ex_col8 {cs : List Col} {n t : Int} (h : n < 0 ∨ ((cs.length : Nat) : Int) ≤ n) : exS cs n t = false := by
 cases hq : exS cs n t with
 | false => rfl
 | true =>
   obtain ⟨j, c, hj, hn, _⟩ := exS_iff.1 hq
   have := (List.getElem?_eq_some_iff.1 hj).1
   omega
theorem ex_neg8 {cs : List Col} {n t : Int} (h : t < 0) : exS cs n t = false := by
 cases hq : exS cs n t with
 | false => rfl
 | true =>
   obtain ⟨j, c, hj, hn, h2, _⟩ := exS_iff.1 hq
   omega
theorem ex_at8 {cs : List Col} {m : Nat} {t : Int} {y : Col} (hy : cs[m]? = some y) (h0 : ¬ t < 0) : exS cs ((m : Nat) : Int) t = decide (t < y.tiers) := by
 rw [Bool.eq_iff_iff, decide_eq_true_iff, exS_iff]
 constructor
 · rintro ⟨j, c, hj, hn, _, h2⟩
   have : j = m := by omega
   subst this
   rw [hy] at hj; cases hj
   exact h2
 · exact fun h => ⟨m, y, hy, rfl, by omega, h⟩
theorem right_no8 {cs : List Col} {x : Slt} {z : Nat} (h : exS cs x.col x.tier = false) : rightS cs x z = false := by unfold rightS; rw [h]; rfl
theorem right_is8 {cs : List Col} {x : Slt} {z : Nat} (h : exS cs x.col x.tier = true) : rightS cs x z = ((decide (z = 40) && decide (x.half = 0)) || (decide (z = 20) && (decide (x.half = 1) || decide (x.half = 2)))) := by unfold rightS; rw [h, hasH_eq]; rfl
-- the list of all slots, as the reference makes it
theorem slotsF_snoc {z : Nat} {c : Col} {cs : List Col} : ∀ {k : Nat}, slotsF z k (cs ++ [c]) = slotsF z k cs ++ colSl z (k + cs.length) c.tiers := by
 induction cs with
 | nil => intro k; simp [slotsF]
 | cons d cs ih =>
   intro k
   simp only [List.cons_append, slotsF, ih, List.append_assoc, List.length_cons]
   rw [show k + 1 + cs.length = k + (cs.length + 1) from by omega]
theorem slotsF_take {z : Nat} {cs : List Col} {k : Nat} {c : Col} (h : cs[k]? = some c) : slotsF z 0 (cs.take (k + 1)) = slotsF z 0 (cs.take k) ++ colSl z k c.tiers := by
 obtain ⟨hk, rfl⟩ := List.getElem?_eq_some_iff.1 h
 rw [List.take_succ_eq_append_getElem hk, slotsF_snoc, List.length_take, Nat.min_eq_left Tw.om, Nat.zero_add]
def upT (z k t : Nat) : List Slt := (List.range t).flatMap (tierS z k)
def upH (z k t h : Nat) : List Slt := ((List.range h).filter (hasH z)).map fun h => ⟨((k : Nat) : Int), ((t : Nat) : Int), h⟩
theorem upT_all {z k : Nat} {n : Int} {t : Nat} (h : ¬ ((t : Nat) : Int) < n) (h2 : ((t : Nat) : Int) ≤ n ∨ t = 0) : upT z k t = colSl z k n := by
 unfold upT colSl
 rw [show n.toNat = t from by omega]
theorem upT_snoc (z k t : Nat) : upT z k (t + 1) = upT z k t ++ tierS z k t := by
 unfold upT
 rw [List.range_succ, List.flatMap_append, List.flatMap_singleton]
theorem upH_yes {z k t h : Nat} (hh : hasH z h = true) : upH z k t (h + 1) = upH z k t h ++ [⟨((k : Nat) : Int), ((t : Nat) : Int), h⟩] := by
 unfold upH
 rw [List.range_succ, List.filter_append, List.filter_cons_of_pos hh, List.filter_nil, List.map_append]; rfl
theorem upH_no {z k t h : Nat} (hh : hasH z h = false) : upH z k t (h + 1) = upH z k t h := by
 unfold upH
 rw [List.range_succ, List.filter_append, List.filter_cons_of_neg (by rw [hh]; decide), List.filter_nil, List.append_nil]
theorem upH_all (z k t : Nat) : upH z k t 3 = tierS z k t := by
 have e : (List.range 3).filter (hasH z) = hsX z := by
   have r : List.range 3 = [0, 1, 2] := rfl
   rw [r]
   by_cases h2 : z = 20
   · subst h2; rfl
   · by_cases h4 : z = 40
     · subst h4; rfl
     · have h0 : hsX z = [] := by unfold hsX; rw [if_neg h2, if_neg h4]
       have hn : ∀ h, hasH z h = false := fun h => by
         cases hq : hasH z h with
         | false => rfl
         | true => have := hasH_iff.1 hq; rw [h0] at this; cases this
       simp [hn, h0]
 unfold upH tierS
 rw [e]
end Go.Proofs.YthpooalhibedpaaDoor
namespace Go.Proofs.YthpooalhibedpaaDoor
open Go Go.RowKit Tw
set_option maxRecDepth 100000 in
set_option maxHeartbeats 4000000 in
theorem R8less_any (a b : Slt) (w : World) : Calls Tryd.prog 54 #[.agg (sltC a).toArray, .agg (sltC b).toArray] w fun e w' => e = .returned (.bool (ltB a b)) ∧ Below w.heap.size w w' := by
 go_enter Tryd.func54, Tryd.ntmps54
 refine wp_seq ?_
 refine wp_region_L [] (KS.start w) ?_
 refine wpL_new (fun g => .pointer (some ⟨g, 0, none⟩)) (obi := .cells (sltC a).toArray 34 (0, 0)) rfl rfl Tw.kf Tw.pf fun g1 Bg1 Fg1 => ?_
 refine wpL_new (fun g => .pointer (some ⟨g, 0, none⟩)) (obi := .cells (sltC b).toArray 34 (0, 0)) rfl rfl Tw.kf Tw.pf fun g2 Bg2 Fg2 => ?_
 obtain dj3_0 : g1 ≠ g2 := Tw.dkf Fg2
 refine lm (v := .bool false) rfl rfl ?_
 refine wpL_done (fun W1 hW1 => ?_)
 change Code.wp ..
 refine wp_seq ?_
 refine wp_seq ?_
 refine wp_region_L _ hW1 ?_
 refine lm (v := .pointer (some ⟨g1, 0, none⟩)) rfl rfl ?_
 refine lv (v := .int .i64 a.col) rfl rfl (yb_cell (off := 0) rfl Tw.kr Tw.m1 Tryd.underlying3 rfl Tw.kr) ?_
 refine lm (v := .pointer (some ⟨g2, 0, none⟩)) rfl rfl ?_
 refine lv (v := .int .i64 b.col) rfl rfl (yb_cell (off := 0) rfl Tw.kr Tw.m0 Tryd.underlying3 rfl Tw.kr) ?_
 refine lp (v := .bool (!(decide (a.col = b.col)))) rfl rfl (run_bin rfl (vx := (.int .i64 a.col)) (vy := (.int .i64 b.col)) Tw.kr Tw.kr fun w => bi_neq rfl w) ?_
 refine wpL_done (fun W2 hW2 => ?_)
 change Code.wp ..
 cases hd1 : (decide (a.col = b.col)) with
 | false =>
   have h1 : ¬ (a.col = b.col) := of_decide_eq_false hd1
   clear hd1
   refine wp_cond_true rfl ?_
   refine wp_seq ?_
   refine wp_region_L _ hW2 ?_
   refine lm (v := .pointer (some ⟨g1, 0, none⟩)) rfl rfl ?_
   refine lv (v := .int .i64 a.col) rfl rfl (yb_cell (off := 0) rfl Tw.kr Tw.m1 Tryd.underlying3 rfl Tw.kr) ?_
   refine lm (v := .pointer (some ⟨g2, 0, none⟩)) rfl rfl ?_
   refine lv (v := .int .i64 b.col) rfl rfl (yb_cell (off := 0) rfl Tw.kr Tw.m0 Tryd.underlying3 rfl Tw.kr) ?_
   refine lp (v := .bool (decide (a.col < b.col))) rfl rfl (run_bin rfl (vx := (.int .i64 a.col)) (vy := (.int .i64 b.col)) Tw.kr Tw.kr fun w => bi_lss rfl w) ?_
   refine lm (v := .bool (decide (a.col < b.col))) rfl rfl ?_
   refine wpL_done (fun W3 hW3 => ?_)
   change Code.wp ..
   refine wp_ret ?_
   try simp only [inBlock_ret, then_ret]
   refine bodyPost_ret (v := .bool (decide (a.col < b.col))) ?_ rfl ?_
   · kernel_rfl
   · exact ⟨(bool_is (ltB_col h1).symm), hW3.1⟩
 | true =>
   have h1 : a.col = b.col := of_decide_eq_true hd1
   clear hd1
   refine wp_cond_false rfl ?_
   refine wp_skip ?_
   change Code.wp ..
   refine wp_seq ?_
   refine wp_seq ?_
   refine wp_region_L _ hW2 ?_
   refine lm (v := .pointer (some ⟨g1, 1, none⟩)) rfl rfl ?_
   refine lv (v := .int .i64 a.tier) rfl rfl (yb_cell (off := 1) rfl Tw.kr Tw.m1 Tryd.underlying3 rfl Tw.kr) ?_
   refine lm (v := .pointer (some ⟨g2, 1, none⟩)) rfl rfl ?_
   refine lv (v := .int .i64 b.tier) rfl rfl (yb_cell (off := 1) rfl Tw.kr Tw.m0 Tryd.underlying3 rfl Tw.kr) ?_
   refine lp (v := .bool (!(decide (a.tier = b.tier)))) rfl rfl (run_bin rfl (vx := (.int .i64 a.tier)) (vy := (.int .i64 b.tier)) Tw.kr Tw.kr fun w => bi_neq rfl w) ?_
   refine wpL_done (fun W4 hW4 => ?_)
   change Code.wp ..
   cases hd2 : (decide (a.tier = b.tier)) with
   | false =>
     have h2 : ¬ (a.tier = b.tier) := of_decide_eq_false hd2
     clear hd2
     refine wp_cond_true rfl ?_
     refine wp_seq ?_
     refine wp_region_L _ hW4 ?_
     refine lm (v := .pointer (some ⟨g1, 1, none⟩)) rfl rfl ?_
     refine lv (v := .int .i64 a.tier) rfl rfl (yb_cell (off := 1) rfl Tw.kr Tw.m1 Tryd.underlying3 rfl Tw.kr) ?_
     refine lm (v := .pointer (some ⟨g2, 1, none⟩)) rfl rfl ?_
     refine lv (v := .int .i64 b.tier) rfl rfl (yb_cell (off := 1) rfl Tw.kr Tw.m0 Tryd.underlying3 rfl Tw.kr) ?_
     refine lp (v := .bool (decide (a.tier < b.tier))) rfl rfl (run_bin rfl (vx := (.int .i64 a.tier)) (vy := (.int .i64 b.tier)) Tw.kr Tw.kr fun w => bi_lss rfl w) ?_
     refine lm (v := .bool (decide (a.tier < b.tier))) rfl rfl ?_
     refine wpL_done (fun W5 hW5 => ?_)
     change Code.wp ..
     refine wp_ret ?_
     try simp only [inBlock_ret, then_ret]
     refine bodyPost_ret (v := .bool (decide (a.tier < b.tier))) ?_ rfl ?_
     · kernel_rfl
     · exact ⟨(bool_is (ltB_tier h1 h2).symm), hW5.1⟩
   | true =>
     have h2 : a.tier = b.tier := of_decide_eq_true hd2
     clear hd2
     refine wp_cond_false rfl ?_
     refine wp_skip ?_
     change Code.wp ..
     refine wp_seq ?_
     refine wp_region_L _ hW4 ?_
     refine lm (v := .pointer (some ⟨g1, 2, none⟩)) rfl rfl ?_
     refine lv (v := .int .u8 ((a.half : Nat) : Int)) rfl rfl (yb_cell (off := 2) rfl Tw.kr Tw.m1 Tryd.underlying5 rfl Tw.kr) ?_
     refine lm (v := .pointer (some ⟨g2, 2, none⟩)) rfl rfl ?_
     refine lv (v := .int .u8 ((b.half : Nat) : Int)) rfl rfl (yb_cell (off := 2) rfl Tw.kr Tw.m0 Tryd.underlying5 rfl Tw.kr) ?_
     refine lp (v := .bool (decide (a.half < b.half))) rfl rfl (run_bin rfl (vx := (.int .u8 ((a.half : Nat) : Int))) (vy := (.int .u8 ((b.half : Nat) : Int))) Tw.kr Tw.kr fun w => bn_lss rfl w) ?_
     refine lm (v := .bool (decide (a.half < b.half))) rfl rfl ?_
     refine wpL_done (fun W6 hW6 => ?_)
     change Code.wp ..
     refine wp_ret ?_
     try simp only [inBlock_ret, then_ret]
     refine bodyPost_ret (v := .bool (decide (a.half < b.half))) ?_ rfl ?_
     · kernel_rfl
     · exact ⟨(bool_is (by rw [ltB_half h1 h2])), hW6.1⟩
set_option maxRecDepth 100000 in
set_option maxHeartbeats 4000000 in
theorem R8Compare_any (a b : Slt) (w : World) : Calls Tryd.prog 20 #[.agg (sltC a).toArray, .agg (sltC b).toArray] w fun e w' => e = .returned (.int .i64 (cmpS a b)) ∧ Below w.heap.size w w' := by
 go_enter Tryd.func20, Tryd.ntmps20
 refine wp_seq ?_
 refine wp_region_L [] (KS.start w) ?_
 refine wpL_new (fun g => .pointer (some ⟨g, 0, none⟩)) (obi := .cells (sltC a).toArray 34 (0, 0)) rfl rfl Tw.kf Tw.pf fun g1 Bg1 Fg1 => ?_
 refine wpL_new (fun g => .pointer (some ⟨g, 0, none⟩)) (obi := .cells (sltC b).toArray 34 (0, 0)) rfl rfl Tw.kf Tw.pf fun g2 Bg2 Fg2 => ?_
 obtain dj3_0 : g1 ≠ g2 := Tw.dkf Fg2
 refine lm (v := .int .i64 0) rfl rfl ?_
 refine wpL_done (fun W1 hW1 => ?_)
 change Code.wp ..
 refine wp_seq ?_
 refine wp_seq ?_
 refine wp_region_L _ hW1 ?_
 refine lv (v := .agg (sltC a).toArray) rfl rfl (yb_load (n := 3) (off := 0) rfl Tw.kr Tw.m1 Tryd.underlying34 rfl Tw.kr (by first | (simp [Value.cells]; done) | exact Nat.le_of_ble_eq_true rfl) Tw.kr) ?_
 refine lv (v := .agg (sltC b).toArray) rfl rfl (yb_load (n := 3) (off := 0) rfl Tw.kr Tw.m0 Tryd.underlying34 rfl Tw.kr (by first | (simp [Value.cells]; done) | exact Nat.le_of_ble_eq_true rfl) Tw.kr) ?_
 refine lv (v := .bool (ltB a b)) rfl rfl (yb_call (f := 54) (args := #[.agg (sltC a).toArray, .agg (sltC b).toArray]) Tw.kf fun W hW => R8less_any a b W) ?_
 refine wpL_done (fun W2 hW2 => ?_)
 change Code.wp ..
 cases h1 : (ltB a b) with
 | false =>
   refine wp_cond_false rfl ?_
   refine wp_skip ?_
   change Code.wp ..
   refine wp_seq ?_
   refine wp_seq ?_
   refine wp_region_L _ hW2 ?_
   refine lv (v := .agg (sltC b).toArray) rfl rfl (yb_load (n := 3) (off := 0) rfl Tw.kr Tw.m0 Tryd.underlying34 rfl Tw.kr (by first | (simp [Value.cells]; done) | exact Nat.le_of_ble_eq_true rfl) Tw.kr) ?_
   refine lv (v := .agg (sltC a).toArray) rfl rfl (yb_load (n := 3) (off := 0) rfl Tw.kr Tw.m1 Tryd.underlying34 rfl Tw.kr (by first | (simp [Value.cells]; done) | exact Nat.le_of_ble_eq_true rfl) Tw.kr) ?_
   refine lv (v := .bool (ltB b a)) rfl rfl (yb_call (f := 54) (args := #[.agg (sltC b).toArray, .agg (sltC a).toArray]) Tw.kf fun W hW => R8less_any b a W) ?_
   refine wpL_done (fun W3 hW3 => ?_)
   change Code.wp ..
   cases h2 : (ltB b a) with
   | false =>
     refine wp_cond_false rfl ?_
     refine wp_skip ?_
     change Code.wp ..
     refine wp_seq ?_
     refine wp_region_L _ hW3 ?_
     refine lm (v := .int .i64 0) rfl rfl ?_
     refine wpL_done (fun W4 hW4 => ?_)
     change Code.wp ..
     refine wp_ret ?_
     try simp only [inBlock_ret, then_ret]
     refine bodyPost_ret (v := .int .i64 0) ?_ rfl ?_
     · kernel_rfl
     · exact ⟨(int_is (cmp_of3 h1 h2).symm), hW4.1⟩
   | true =>
     refine wp_cond_true rfl ?_
     refine wp_seq ?_
     refine wp_region_L _ hW3 ?_
     refine lm (v := .int .i64 1) rfl rfl ?_
     refine wpL_done (fun W5 hW5 => ?_)
     change Code.wp ..
     refine wp_ret ?_
     try simp only [inBlock_ret, then_ret]
     refine bodyPost_ret (v := .int .i64 1) ?_ rfl ?_
     · kernel_rfl
     · exact ⟨(int_is (cmp_of2 h2).symm), hW5.1⟩
 | true =>
   refine wp_cond_true rfl ?_
   refine wp_seq ?_
   refine wp_region_L _ hW2 ?_
   refine lm (v := .int .i64 (-1)) rfl rfl ?_
   refine wpL_done (fun W6 hW6 => ?_)
   change Code.wp ..
   refine wp_ret ?_
   try simp only [inBlock_ret, then_ret]
   refine bodyPost_ret (v := .int .i64 (-1)) ?_ rfl ?_
   · kernel_rfl
   · exact ⟨(int_is (cmp_of1 h1).symm), hW6.1⟩
set_option maxRecDepth 100000 in
set_option maxHeartbeats 4000000 in
theorem R8common_any (a b : Nat) (w : World) : Calls Tryd.prog 56 #[.int .u8 ((a : Nat) : Int), .int .u8 ((b : Nat) : Int)] w fun e w' => e = .returned (.bool (ovl a b)) ∧ Below w.heap.size w w' := by
 go_enter Tryd.func56, Tryd.ntmps56
 refine wp_seq ?_
 refine wp_region_L [] (KS.start w) ?_
 refine lm (v := .bool false) rfl rfl ?_
 refine wpL_done (fun W1 hW1 => ?_)
 change Code.wp ..
 refine wp_seq ?_
 refine wp_region_L _ hW1 ?_
 refine lm (v := .int .u8 ((a : Nat) : Int)) rfl rfl ?_
 refine lm (v := .int .u8 ((b : Nat) : Int)) rfl rfl ?_
 refine lp (v := .bool (decide (a = b))) rfl rfl (run_bin rfl (vx := (.int .u8 ((a : Nat) : Int))) (vy := (.int .u8 ((b : Nat) : Int))) Tw.kr Tw.kr fun w => bn_eql rfl w) ?_
 refine lm (v := .bool (decide (a = b))) rfl rfl ?_
 cases hd1 : (decide (a = b)) with
 | false =>
   have h1 : ¬ (a = b) := of_decide_eq_false hd1
   clear hd1
   refine lm (v := .int .u8 ((a : Nat) : Int)) rfl rfl ?_
   refine lp (v := .bool (decide (a = 0))) rfl rfl (run_bin rfl (vx := (.int .u8 ((a : Nat) : Int))) (vy := (.int .u8 ((0 : Nat) : Int))) Tw.kr Tw.kr fun w => bn_eql rfl w) ?_
   refine lm (v := .bool (decide (a = 0))) rfl rfl ?_
   refine lm (v := .bool (decide (a = 0))) rfl rfl ?_
   cases hd2 : (decide (a = 0)) with
   | false =>
     have h2 : ¬ (a = 0) := of_decide_eq_false hd2
     clear hd2
     refine lm (v := .int .u8 ((b : Nat) : Int)) rfl rfl ?_
     refine lp (v := .bool (decide (b = 0))) rfl rfl (run_bin rfl (vx := (.int .u8 ((b : Nat) : Int))) (vy := (.int .u8 ((0 : Nat) : Int))) Tw.kr Tw.kr fun w => bn_eql rfl w) ?_
     refine lm (v := .bool (decide (b = 0))) rfl rfl ?_
     refine lm (v := .bool (decide (b = 0))) rfl rfl ?_
     refine wpL_done (fun W2 hW2 => ?_)
     change Code.wp ..
     refine wp_ret ?_
     try simp only [inBlock_ret, then_ret]
     refine bodyPost_ret (v := .bool (decide (b = 0))) ?_ rfl ?_
     · kernel_rfl
     · exact ⟨(bool_is (by unfold ovl; simp [*])), hW2.1⟩
   | true =>
     have h2 : a = 0 := of_decide_eq_true hd2
     clear hd2
     refine ln rfl ?_
     refine ln rfl ?_
     refine lm (v := .bool true) rfl rfl ?_
     refine lm (v := .bool true) rfl rfl ?_
     refine wpL_done (fun W3 hW3 => ?_)
     change Code.wp ..
     refine wp_ret ?_
     try simp only [inBlock_ret, then_ret]
     refine bodyPost_ret (v := .bool true) ?_ rfl ?_
     · kernel_rfl
     · exact ⟨(bool_is (by unfold ovl; simp [*])), hW3.1⟩
 | true =>
   have h1 : a = b := of_decide_eq_true hd1
   clear hd1
   refine ln rfl ?_
   refine ln rfl ?_
   refine lm (v := .bool true) rfl rfl ?_
   refine lm (v := .bool true) rfl rfl ?_
   refine ln rfl ?_
   refine ln rfl ?_
   refine lm (v := .bool true) rfl rfl ?_
   refine lm (v := .bool true) rfl rfl ?_
   refine wpL_done (fun W4 hW4 => ?_)
   change Code.wp ..
   refine wp_ret ?_
   try simp only [inBlock_ret, then_ret]
   refine bodyPost_ret (v := .bool true) ?_ rfl ?_
   · kernel_rfl
   · exact ⟨(bool_is (by unfold ovl; simp [*])), hW4.1⟩
set_option maxRecDepth 100000 in
set_option maxHeartbeats 4000000 in
theorem R8Meet_any (a b : Slt) (w : World) : Calls Tryd.prog 22 #[.agg (sltC a).toArray, .agg (sltC b).toArray] w fun e w' => e = .returned (.bool (meetS a b)) ∧ Below w.heap.size w w' := by
 go_enter Tryd.func22, Tryd.ntmps22
 refine wp_seq ?_
 refine wp_region_L [] (KS.start w) ?_
 refine wpL_new (fun g => .pointer (some ⟨g, 0, none⟩)) (obi := .cells (sltC a).toArray 34 (0, 0)) rfl rfl Tw.kf Tw.pf fun g1 Bg1 Fg1 => ?_
 refine wpL_new (fun g => .pointer (some ⟨g, 0, none⟩)) (obi := .cells (sltC b).toArray 34 (0, 0)) rfl rfl Tw.kf Tw.pf fun g2 Bg2 Fg2 => ?_
 obtain dj3_0 : g1 ≠ g2 := Tw.dkf Fg2
 refine lm (v := .bool false) rfl rfl ?_
 refine wpL_done (fun W1 hW1 => ?_)
 change Code.wp ..
 refine wp_seq ?_
 refine wp_region_L _ hW1 ?_
 refine lm (v := .pointer (some ⟨g1, 0, none⟩)) rfl rfl ?_
 refine lv (v := .int .i64 a.col) rfl rfl (yb_cell (off := 0) rfl Tw.kr Tw.m1 Tryd.underlying3 rfl Tw.kr) ?_
 refine lm (v := .pointer (some ⟨g2, 0, none⟩)) rfl rfl ?_
 refine lv (v := .int .i64 b.col) rfl rfl (yb_cell (off := 0) rfl Tw.kr Tw.m0 Tryd.underlying3 rfl Tw.kr) ?_
 refine lp (v := .bool (decide (a.col = b.col))) rfl rfl (run_bin rfl (vx := (.int .i64 a.col)) (vy := (.int .i64 b.col)) Tw.kr Tw.kr fun w => bi_eql rfl w) ?_
 refine lm (v := .bool (decide (a.col = b.col))) rfl rfl ?_
 cases hd1 : (decide (a.col = b.col)) with
 | false =>
   have h1 : ¬ (a.col = b.col) := of_decide_eq_false hd1
   clear hd1
   refine ln rfl ?_
   refine ln rfl ?_
   refine ln rfl ?_
   refine ln rfl ?_
   refine ln rfl ?_
   refine lm (v := .bool false) rfl rfl ?_
   refine lm (v := .bool false) rfl rfl ?_
   refine ln rfl ?_
   refine ln rfl ?_
   refine ln rfl ?_
   refine ln rfl ?_
   refine ln rfl ?_
   refine lm (v := .bool false) rfl rfl ?_
   refine lm (v := .bool false) rfl rfl ?_
   refine wpL_done (fun W2 hW2 => ?_)
   change Code.wp ..
   refine wp_ret ?_
   try simp only [inBlock_ret, then_ret]
   refine bodyPost_ret (v := .bool false) ?_ rfl ?_
   · kernel_rfl
   · exact ⟨(bool_is (by unfold meetS; simp [*])), hW2.1⟩
 | true =>
   have h1 : a.col = b.col := of_decide_eq_true hd1
   clear hd1
   refine lm (v := .pointer (some ⟨g1, 1, none⟩)) rfl rfl ?_
   refine lv (v := .int .i64 a.tier) rfl rfl (yb_cell (off := 1) rfl Tw.kr Tw.m1 Tryd.underlying3 rfl Tw.kr) ?_
   refine lm (v := .pointer (some ⟨g2, 1, none⟩)) rfl rfl ?_
   refine lv (v := .int .i64 b.tier) rfl rfl (yb_cell (off := 1) rfl Tw.kr Tw.m0 Tryd.underlying3 rfl Tw.kr) ?_
   refine lp (v := .bool (decide (a.tier = b.tier))) rfl rfl (run_bin rfl (vx := (.int .i64 a.tier)) (vy := (.int .i64 b.tier)) Tw.kr Tw.kr fun w => bi_eql rfl w) ?_
   refine lm (v := .bool (decide (a.tier = b.tier))) rfl rfl ?_
   refine lm (v := .bool (decide (a.tier = b.tier))) rfl rfl ?_
   cases hd2 : (decide (a.tier = b.tier)) with
   | false =>
     have h2 : ¬ (a.tier = b.tier) := of_decide_eq_false hd2
     clear hd2
     refine ln rfl ?_
     refine ln rfl ?_
     refine ln rfl ?_
     refine ln rfl ?_
     refine ln rfl ?_
     refine lm (v := .bool false) rfl rfl ?_
     refine lm (v := .bool false) rfl rfl ?_
     refine wpL_done (fun W3 hW3 => ?_)
     change Code.wp ..
     refine wp_ret ?_
     try simp only [inBlock_ret, then_ret]
     refine bodyPost_ret (v := .bool false) ?_ rfl ?_
     · kernel_rfl
     · exact ⟨(bool_is (by unfold meetS; simp [*])), hW3.1⟩
   | true =>
     have h2 : a.tier = b.tier := of_decide_eq_true hd2
     clear hd2
     refine lm (v := .pointer (some ⟨g1, 2, none⟩)) rfl rfl ?_
     refine lv (v := .int .u8 ((a.half : Nat) : Int)) rfl rfl (yb_cell (off := 2) rfl Tw.kr Tw.m1 Tryd.underlying5 rfl Tw.kr) ?_
     refine lm (v := .pointer (some ⟨g2, 2, none⟩)) rfl rfl ?_
     refine lv (v := .int .u8 ((b.half : Nat) : Int)) rfl rfl (yb_cell (off := 2) rfl Tw.kr Tw.m0 Tryd.underlying5 rfl Tw.kr) ?_
     refine lv (v := .bool (ovl a.half b.half)) rfl rfl (yb_call (f := 56) (args := #[.int .u8 ((a.half : Nat) : Int), .int .u8 ((b.half : Nat) : Int)]) Tw.kf fun W hW => R8common_any a.half b.half W) ?_
     refine lm (v := .bool (ovl a.half b.half)) rfl rfl ?_
     refine lm (v := .bool (ovl a.half b.half)) rfl rfl ?_
     refine wpL_done (fun W4 hW4 => ?_)
     change Code.wp ..
     refine wp_ret ?_
     try simp only [inBlock_ret, then_ret]
     refine bodyPost_ret (v := .bool (ovl a.half b.half)) ?_ rfl ?_
     · kernel_rfl
     · exact ⟨(bool_is (by unfold meetS; simp [*])), hW4.1⟩
set_option maxRecDepth 100000 in
set_option maxHeartbeats 4000000 in
theorem R8Over_any (a b : Slt) (w : World) : Calls Tryd.prog 24 #[.agg (sltC a).toArray, .agg (sltC b).toArray] w fun e w' => e = .returned (.bool (overS a b)) ∧ Below w.heap.size w w' := by
 go_enter Tryd.func24, Tryd.ntmps24
 refine wp_seq ?_
 refine wp_region_L [] (KS.start w) ?_
 refine wpL_new (fun g => .pointer (some ⟨g, 0, none⟩)) (obi := .cells (sltC a).toArray 34 (0, 0)) rfl rfl Tw.kf Tw.pf fun g1 Bg1 Fg1 => ?_
 refine wpL_new (fun g => .pointer (some ⟨g, 0, none⟩)) (obi := .cells (sltC b).toArray 34 (0, 0)) rfl rfl Tw.kf Tw.pf fun g2 Bg2 Fg2 => ?_
 obtain dj3_0 : g1 ≠ g2 := Tw.dkf Fg2
 refine lm (v := .bool false) rfl rfl ?_
 refine wpL_done (fun W1 hW1 => ?_)
 change Code.wp ..
 refine wp_seq ?_
 refine wp_region_L _ hW1 ?_
 refine lm (v := .pointer (some ⟨g1, 0, none⟩)) rfl rfl ?_
 refine lv (v := .int .i64 a.col) rfl rfl (yb_cell (off := 0) rfl Tw.kr Tw.m1 Tryd.underlying3 rfl Tw.kr) ?_
 refine lm (v := .pointer (some ⟨g2, 0, none⟩)) rfl rfl ?_
 refine lv (v := .int .i64 b.col) rfl rfl (yb_cell (off := 0) rfl Tw.kr Tw.m0 Tryd.underlying3 rfl Tw.kr) ?_
 refine lp (v := .bool (decide (a.col = b.col))) rfl rfl (run_bin rfl (vx := (.int .i64 a.col)) (vy := (.int .i64 b.col)) Tw.kr Tw.kr fun w => bi_eql rfl w) ?_
 refine lm (v := .bool (decide (a.col = b.col))) rfl rfl ?_
 cases hd1 : (decide (a.col = b.col)) with
 | false =>
   have h1 : ¬ (a.col = b.col) := of_decide_eq_false hd1
   clear hd1
   refine ln rfl ?_
   refine ln rfl ?_
   refine ln rfl ?_
   refine ln rfl ?_
   refine ln rfl ?_
   refine lm (v := .bool false) rfl rfl ?_
   refine lm (v := .bool false) rfl rfl ?_
   refine ln rfl ?_
   refine ln rfl ?_
   refine ln rfl ?_
   refine ln rfl ?_
   refine ln rfl ?_
   refine lm (v := .bool false) rfl rfl ?_
   refine lm (v := .bool false) rfl rfl ?_
   refine wpL_done (fun W2 hW2 => ?_)
   change Code.wp ..
   refine wp_ret ?_
   try simp only [inBlock_ret, then_ret]
   refine bodyPost_ret (v := .bool false) ?_ rfl ?_
   · kernel_rfl
   · exact ⟨(bool_is (by unfold overS; simp [*])), hW2.1⟩
 | true =>
   have h1 : a.col = b.col := of_decide_eq_true hd1
   clear hd1
   refine lm (v := .pointer (some ⟨g1, 1, none⟩)) rfl rfl ?_
   refine lv (v := .int .i64 a.tier) rfl rfl (yb_cell (off := 1) rfl Tw.kr Tw.m1 Tryd.underlying3 rfl Tw.kr) ?_
   refine lm (v := .pointer (some ⟨g2, 1, none⟩)) rfl rfl ?_
   refine lv (v := .int .i64 b.tier) rfl rfl (yb_cell (off := 1) rfl Tw.kr Tw.m0 Tryd.underlying3 rfl Tw.kr) ?_
   refine lp (v := .bool (decide (b.tier < a.tier))) rfl rfl (run_bin rfl (vx := (.int .i64 a.tier)) (vy := (.int .i64 b.tier)) Tw.kr Tw.kr fun w => bi_gtr rfl w) ?_
   refine lm (v := .bool (decide (b.tier < a.tier))) rfl rfl ?_
   refine lm (v := .bool (decide (b.tier < a.tier))) rfl rfl ?_
   cases hd2 : (decide (b.tier < a.tier)) with
   | false =>
     have h2 : ¬ (b.tier < a.tier) := of_decide_eq_false hd2
     clear hd2
     refine ln rfl ?_
     refine ln rfl ?_
     refine ln rfl ?_
     refine ln rfl ?_
     refine ln rfl ?_
     refine lm (v := .bool false) rfl rfl ?_
     refine lm (v := .bool false) rfl rfl ?_
     refine wpL_done (fun W3 hW3 => ?_)
     change Code.wp ..
     refine wp_ret ?_
     try simp only [inBlock_ret, then_ret]
     refine bodyPost_ret (v := .bool false) ?_ rfl ?_
     · kernel_rfl
     · exact ⟨(bool_is (by unfold overS; simp [*])), hW3.1⟩
   | true =>
     have h2 : b.tier < a.tier := of_decide_eq_true hd2
     clear hd2
     refine lm (v := .pointer (some ⟨g1, 2, none⟩)) rfl rfl ?_
     refine lv (v := .int .u8 ((a.half : Nat) : Int)) rfl rfl (yb_cell (off := 2) rfl Tw.kr Tw.m1 Tryd.underlying5 rfl Tw.kr) ?_
     refine lm (v := .pointer (some ⟨g2, 2, none⟩)) rfl rfl ?_
     refine lv (v := .int .u8 ((b.half : Nat) : Int)) rfl rfl (yb_cell (off := 2) rfl Tw.kr Tw.m0 Tryd.underlying5 rfl Tw.kr) ?_
     refine lv (v := .bool (ovl a.half b.half)) rfl rfl (yb_call (f := 56) (args := #[.int .u8 ((a.half : Nat) : Int), .int .u8 ((b.half : Nat) : Int)]) Tw.kf fun W hW => R8common_any a.half b.half W) ?_
     refine lm (v := .bool (ovl a.half b.half)) rfl rfl ?_
     refine lm (v := .bool (ovl a.half b.half)) rfl rfl ?_
     refine wpL_done (fun W4 hW4 => ?_)
     change Code.wp ..
     refine wp_ret ?_
     try simp only [inBlock_ret, then_ret]
     refine bodyPost_ret (v := .bool (ovl a.half b.half)) ?_ rfl ?_
     · kernel_rfl
     · exact ⟨(bool_is (by unfold overS; simp [*])), hW4.1⟩
set_option maxRecDepth 100000 in
set_option maxHeartbeats 4000000 in
theorem R8has_any (l : List Slt) (p : Option Addr) (c : Nat) (x : Slt) (h : Nat) (hl : l.length ≤ 4000000000) (hx : -9223372036854775808 < x.tier ∧ x.tier ≤ 9223372036854775807) (w : World) (hp : SLV w p (l.flatMap sltC)) : Calls Tryd.prog 59 #[.slice p l.length c, .agg (sltC x).toArray, .int .u8 ((h : Nat) : Int)] w fun e w' => e = .returned (.bool (belowS x l h)) ∧ Below w.heap.size w w' := by
 have HP := Lib.hid hp
 clear hp
 go_enter Tryd.func59, Tryd.ntmps59
 refine wp_seq ?_
 refine wp_region_L [] (KS.start w) ?_
 refine wpL_new (fun g => .pointer (some ⟨g, 0, none⟩)) (obi := .cells (sltC x).toArray 34 (0, 0)) rfl rfl Tw.kf Tw.pf fun g1 Bg1 Fg1 => ?_
 refine lm (v := .bool false) rfl rfl ?_
 refine wpL_done (fun W1 hW1 => ?_)
 change Code.wp ..
 refine wp_seq ?_
 refine wp_seq ?_
 refine wp_region_L _ hW1 ?_
 refine lm (v := .int .i64 0) rfl rfl ?_
 refine wpL_done (fun W2 hW2 => ?_)
 change Code.wp ..
 refine wp_block ?_
 go_loopw [7] (fun u7 wr => ∃ (k : Nat), (k ≤ l.length) ∧ (∀ j, j < k → ∀ y, l[j]? = some y → ¬ (y.col = x.col ∧ y.tier = x.tier - 1 ∧ y.half = h)) ∧ u7 = .int .i64 ((k : Nat) : Int) ∧ KS w [(g1, .cells (sltC x).toArray 34 (0, 0))] wr) (fun u7 _ => l.length - (intOf u7).toNat)
 case atStart => exact ⟨0, (Nat.zero_le _), (fun j hj => by omega), rfl, (hW2.sub (fun p hp => by first | exact hp | (simp only [List.mem_cons, List.mem_append, List.nil_append, List.not_mem_nil, or_assoc, or_false, false_or] at hp ⊢ <;> grind)))⟩
 case round =>
   obtain ⟨k, hk, hN, rfl, hL3⟩ := hrel
   refine wp_seq ?_
   refine wp_seq ?_
   refine wp_region_L _ hL3 ?_
   refine lm (v := .int .i64 ((k : Nat) : Int)) rfl rfl ?_
   refine lm (v := .slice p l.length c) rfl rfl ?_
   refine lp (v := .int .i64 ((l.length : Nat) : Int)) rfl rfl (run_lenL (p := p) (cap := c) (n := l.length) rfl Tryd.underlying35 Tw.kr) ?_
   refine lp (v := .bool (decide (k < l.length))) rfl rfl (run_bin rfl (vx := (.int .i64 ((k : Nat) : Int))) (vy := (.int .i64 ((l.length : Nat) : Int))) Tw.kr Tw.kr fun w => bn_lss rfl w) ?_
   refine wpL_done (fun W4 hW4 => ?_)
   change Code.wp ..
   cases hd1 : (decide (k < l.length)) with
   | false =>
     have h1 : ¬ (k < l.length) := of_decide_eq_false hd1
     clear hd1
     refine wp_cond_false rfl ?_
     refine wp_exit ?_
     change Code.wp ..
     refine wp_seq ?_
     refine wp_region_L _ hW4 ?_
     refine lm (v := .bool false) rfl rfl ?_
     refine wpL_done (fun W5 hW5 => ?_)
     change Code.wp ..
     refine wp_ret ?_
     try simp only [inBlock_ret, then_ret]
     refine bodyPost_ret (v := .bool false) ?_ rfl ?_
     · kernel_rfl
     · exact ⟨(bool_is (below_no hN h1).symm), hW5.1⟩
   | true =>
     have h1 : k < l.length := of_decide_eq_true hd1
     clear hd1
     refine wp_cond_true rfl ?_
     refine wp_skip ?_
     change Code.wp ..
     refine wp_seq ?_
     refine wp_block ?_
     refine wp_seq ?_
     refine wp_region_V _ Tw.kr hW4 ?_
     refine vm (i := 0) (v := .slice p l.length c) rfl rfl rfl ?_
     refine vm (i := 1) (v := .int .i64 ((k : Nat) : Int)) rfl rfl rfl ?_
     obtain ⟨y2, g2_, f2_, hy2, hp2, hc2⟩ := RL.at (RL.base HP.out) sltC_len (by decide) (hW4.sub (fun _ h => by cases h)) (k := k) Tw.om
     refine vp (i := 2) (v := .pointer (some ⟨g2_, f2_ + k * 3, none⟩)) rfl rfl rfl (run_idxQ (p := p) (cap := c) (n := l.length) (j := .i64) (k := k) (sz := 3) rfl Tryd.underlying35 Tw.kr Tw.kr hp2 Tw.kr Tw.om) ?_
     refine vm (i := 3) (v := .pointer (some ⟨g2_, f2_ + k * 3, none⟩)) rfl rfl rfl ?_
     refine vb (i := 4) (v := .int .i64 y2.col) rfl rfl rfl (yb_rf (v := .int .i64 y2.col) rfl Tw.kr (fun W hW => hc2 W (hW.sub (fun _ h => by cases h)) 0 _ rfl) Tryd.underlying3 rfl) ?_
     refine vm (i := 5) (v := .pointer (some ⟨g1, 0, none⟩)) rfl rfl rfl ?_
     refine vv (i := 6) (v := .int .i64 x.col) rfl rfl rfl (yb_cell (off := 0) rfl Tw.kr Tw.m0 Tryd.underlying3 rfl Tw.kr) ?_
     refine vp (i := 7) (v := .bool (decide (y2.col = x.col))) rfl rfl rfl (run_bin rfl (vx := (.int .i64 y2.col)) (vy := (.int .i64 x.col)) Tw.kr Tw.kr fun w => bi_eql rfl w) ?_
     refine vm (i := 8) (v := .bool (decide (y2.col = x.col))) rfl rfl rfl ?_
     cases hd2 : (decide (y2.col = x.col)) with
     | false =>
       have h2 : ¬ (y2.col = x.col) := of_decide_eq_false hd2
       clear hd2
       refine vn (i := 9) rfl rfl ?_
       refine vn (i := 10) rfl rfl ?_
       refine vn (i := 11) rfl rfl ?_
       refine vn (i := 12) rfl rfl ?_
       refine vn (i := 13) rfl rfl ?_
       refine vn (i := 14) rfl rfl ?_
       refine vn (i := 15) rfl rfl ?_
       refine vn (i := 16) rfl rfl ?_
       refine vn (i := 17) rfl rfl ?_
       refine vm (i := 18) (v := .bool false) rfl rfl rfl ?_
       refine vm (i := 19) (v := .bool false) rfl rfl rfl ?_
       refine vn (i := 20) rfl rfl ?_
       refine vn (i := 21) rfl rfl ?_
       refine vn (i := 22) rfl rfl ?_
       refine vn (i := 23) rfl rfl ?_
       refine vn (i := 24) rfl rfl ?_
       refine vn (i := 25) rfl rfl ?_
       refine vn (i := 26) rfl rfl ?_
       refine vm (i := 27) (v := .bool false) rfl rfl rfl ?_
       refine wpV_done Tw.kr (fun W6 hW6 => ?_) _
       change Code.wp ..
       refine wp_cond_false rfl ?_
       refine wp_skip ?_
       change Code.wp ..
       refine wp_region_L _ hW6 ?_
       refine lm (v := .int .i64 ((k : Nat) : Int)) rfl rfl ?_
       refine lp (v := .int .i64 (((k + 1) : Nat) : Int)) rfl rfl (run_bin rfl (vx := (.int .i64 ((k : Nat) : Int))) (vy := (.int .i64 ((1 : Nat) : Int))) Tw.kr Tw.kr fun w => bn_add (z := (k + 1)) rfl (wr_i64 Tw.om) w) ?_
       refine lm (v := .int .i64 (((k + 1) : Nat) : Int)) rfl rfl ?_
       refine wpL_done (fun W7 hW7 => ?_)
       go_roundw
       case rel =>
         repeat apply Exists.intro
         exact ⟨⟨k + 1, Tw.om, (below_step hN hy2 (fun e => h2 e.1)), rfl, (hW7.sub (fun p hp => by first | exact hp | (simp only [List.mem_cons, List.mem_append, List.nil_append, List.not_mem_nil, or_assoc, or_false, false_or] at hp ⊢ <;> grind)))⟩, rfl⟩
       case measure => (show l.length - (intOf (.int .i64 (((k + 1) : Nat) : Int))).toNat < l.length - (intOf (.int .i64 ((k : Nat) : Int))).toNat); simp only [intOf]; omega
     | true =>
       have h2 : y2.col = x.col := of_decide_eq_true hd2
       clear hd2
       refine vm (i := 9) (v := .slice p l.length c) rfl rfl rfl ?_
       refine vm (i := 10) (v := .int .i64 ((k : Nat) : Int)) rfl rfl rfl ?_
       refine vp (i := 11) (v := .pointer (some ⟨g2_, f2_ + k * 3, none⟩)) rfl rfl rfl (run_idxQ (p := p) (cap := c) (n := l.length) (j := .i64) (k := k) (sz := 3) rfl Tryd.underlying35 Tw.kr Tw.kr hp2 Tw.kr Tw.om) ?_
       refine vm (i := 12) (v := .pointer (some ⟨g2_, f2_ + k * 3 + 1, none⟩)) rfl rfl rfl ?_
       refine vb (i := 13) (v := .int .i64 y2.tier) rfl rfl rfl (yb_rf (v := .int .i64 y2.tier) rfl Tw.kr (fun W hW => hc2 W (hW.sub (fun _ h => by cases h)) 1 _ rfl) Tryd.underlying3 rfl) ?_
       refine vm (i := 14) (v := .pointer (some ⟨g1, 1, none⟩)) rfl rfl rfl ?_
       refine vv (i := 15) (v := .int .i64 x.tier) rfl rfl rfl (yb_cell (off := 1) rfl Tw.kr Tw.m0 Tryd.underlying3 rfl Tw.kr) ?_
       refine vp (i := 16) (v := .int .i64 (x.tier - 1)) rfl rfl rfl (run_bin rfl (vx := (.int .i64 x.tier)) (vy := (.int .i64 1)) Tw.kr Tw.kr fun w => bi_sub (z := (x.tier - 1)) rfl (wi_i64 Tw.om) w) ?_
       refine vp (i := 17) (v := .bool (decide (y2.tier = (x.tier - 1)))) rfl rfl rfl (run_bin rfl (vx := (.int .i64 y2.tier)) (vy := (.int .i64 (x.tier - 1))) Tw.kr Tw.kr fun w => bi_eql rfl w) ?_
       refine vm (i := 18) (v := .bool (decide (y2.tier = (x.tier - 1)))) rfl rfl rfl ?_
       refine vm (i := 19) (v := .bool (decide (y2.tier = (x.tier - 1)))) rfl rfl rfl ?_
       cases hd3 : (decide (y2.tier = (x.tier - 1))) with
       | false =>
         have h3 : ¬ (y2.tier = (x.tier - 1)) := of_decide_eq_false hd3
         clear hd3
         refine vn (i := 20) rfl rfl ?_
         refine vn (i := 21) rfl rfl ?_
         refine vn (i := 22) rfl rfl ?_
         refine vn (i := 23) rfl rfl ?_
         refine vn (i := 24) rfl rfl ?_
         refine vn (i := 25) rfl rfl ?_
         refine vn (i := 26) rfl rfl ?_
         refine vm (i := 27) (v := .bool false) rfl rfl rfl ?_
         refine wpV_done Tw.kr (fun W8 hW8 => ?_) _
         change Code.wp ..
         refine wp_cond_false rfl ?_
         refine wp_skip ?_
         change Code.wp ..
         refine wp_region_L _ hW8 ?_
         refine lm (v := .int .i64 ((k : Nat) : Int)) rfl rfl ?_
         refine lp (v := .int .i64 (((k + 1) : Nat) : Int)) rfl rfl (run_bin rfl (vx := (.int .i64 ((k : Nat) : Int))) (vy := (.int .i64 ((1 : Nat) : Int))) Tw.kr Tw.kr fun w => bn_add (z := (k + 1)) rfl (wr_i64 Tw.om) w) ?_
         refine lm (v := .int .i64 (((k + 1) : Nat) : Int)) rfl rfl ?_
         refine wpL_done (fun W9 hW9 => ?_)
         go_roundw
         case rel =>
           repeat apply Exists.intro
           exact ⟨⟨k + 1, Tw.om, (below_step hN hy2 (fun e => h3 e.2.1)), rfl, (hW9.sub (fun p hp => by first | exact hp | (simp only [List.mem_cons, List.mem_append, List.nil_append, List.not_mem_nil, or_assoc, or_false, false_or] at hp ⊢ <;> grind)))⟩, rfl⟩
         case measure => (show l.length - (intOf (.int .i64 (((k + 1) : Nat) : Int))).toNat < l.length - (intOf (.int .i64 ((k : Nat) : Int))).toNat); simp only [intOf]; omega
       | true =>
         have h3 : y2.tier = (x.tier - 1) := of_decide_eq_true hd3
         clear hd3
         refine vm (i := 20) (v := .slice p l.length c) rfl rfl rfl ?_
         refine vm (i := 21) (v := .int .i64 ((k : Nat) : Int)) rfl rfl rfl ?_
         refine vp (i := 22) (v := .pointer (some ⟨g2_, f2_ + k * 3, none⟩)) rfl rfl rfl (run_idxQ (p := p) (cap := c) (n := l.length) (j := .i64) (k := k) (sz := 3) rfl Tryd.underlying35 Tw.kr Tw.kr hp2 Tw.kr Tw.om) ?_
         refine vm (i := 23) (v := .pointer (some ⟨g2_, f2_ + k * 3 + 2, none⟩)) rfl rfl rfl ?_
         refine vb (i := 24) (v := .int .u8 ((y2.half : Nat) : Int)) rfl rfl rfl (yb_rf (v := .int .u8 ((y2.half : Nat) : Int)) rfl Tw.kr (fun W hW => hc2 W (hW.sub (fun _ h => by cases h)) 2 _ rfl) Tryd.underlying5 rfl) ?_
         refine vm (i := 25) (v := .int .u8 ((h : Nat) : Int)) rfl rfl rfl ?_
         refine vp (i := 26) (v := .bool (decide (y2.half = h))) rfl rfl rfl (run_bin rfl (vx := (.int .u8 ((y2.half : Nat) : Int))) (vy := (.int .u8 ((h : Nat) : Int))) Tw.kr Tw.kr fun w => bn_eql rfl w) ?_
         refine vm (i := 27) (v := .bool (decide (y2.half = h))) rfl rfl rfl ?_
         refine wpV_done Tw.kr (fun W10 hW10 => ?_) _
         change Code.wp ..
         cases hd4 : (decide (y2.half = h)) with
         | false =>
           have h4 : ¬ (y2.half = h) := of_decide_eq_false hd4
           clear hd4
           refine wp_cond_false rfl ?_
           refine wp_skip ?_
           change Code.wp ..
           refine wp_region_L _ hW10 ?_
           refine lm (v := .int .i64 ((k : Nat) : Int)) rfl rfl ?_
           refine lp (v := .int .i64 (((k + 1) : Nat) : Int)) rfl rfl (run_bin rfl (vx := (.int .i64 ((k : Nat) : Int))) (vy := (.int .i64 ((1 : Nat) : Int))) Tw.kr Tw.kr fun w => bn_add (z := (k + 1)) rfl (wr_i64 Tw.om) w) ?_
           refine lm (v := .int .i64 (((k + 1) : Nat) : Int)) rfl rfl ?_
           refine wpL_done (fun W11 hW11 => ?_)
           go_roundw
           case rel =>
             repeat apply Exists.intro
             exact ⟨⟨k + 1, Tw.om, (below_step hN hy2 (fun e => h4 e.2.2)), rfl, (hW11.sub (fun p hp => by first | exact hp | (simp only [List.mem_cons, List.mem_append, List.nil_append, List.not_mem_nil, or_assoc, or_false, false_or] at hp ⊢ <;> grind)))⟩, rfl⟩
           case measure => (show l.length - (intOf (.int .i64 (((k + 1) : Nat) : Int))).toNat < l.length - (intOf (.int .i64 ((k : Nat) : Int))).toNat); simp only [intOf]; omega
         | true =>
           have h4 : y2.half = h := of_decide_eq_true hd4
           clear hd4
           refine wp_cond_true rfl ?_
           refine wp_seq ?_
           refine wp_region_L _ hW10 ?_
           refine lm (v := .bool true) rfl rfl ?_
           refine wpL_done (fun W12 hW12 => ?_)
           change Code.wp ..
           refine wp_ret ?_
           try simp only [inBlock_ret, then_ret]
           refine bodyPost_ret (v := .bool true) ?_ rfl ?_
           · kernel_rfl
           · exact ⟨(bool_is (below_yes hy2 h2 h3 h4).symm), hW12.1⟩
set_option maxRecDepth 100000 in
set_option maxHeartbeats 4000000 in
theorem R8Held_any (x : Slt) (l : List Slt) (p : Option Addr) (c : Nat) (hl : l.length ≤ 4000000000) (hx : -9223372036854775808 ≤ x.tier ∧ x.tier ≤ 9223372036854775807) (w : World) (hp : SLV w p (l.flatMap sltC)) : Calls Tryd.prog 26 #[.agg (sltC x).toArray, .slice p l.length c] w fun e w' => e = .returned (.bool (heldS x l)) ∧ Below w.heap.size w w' := by
 have HP := Lib.hid hp
 clear hp
 go_enter Tryd.func26, Tryd.ntmps26
 refine wp_seq ?_
 refine wp_region_L [] (KS.start w) ?_
 refine wpL_new (fun g => .pointer (some ⟨g, 0, none⟩)) (obi := .cells (sltC x).toArray 34 (0, 0)) rfl rfl Tw.kf Tw.pf fun g1 Bg1 Fg1 => ?_
 refine lm (v := .bool false) rfl rfl ?_
 refine wpL_done (fun W1 hW1 => ?_)
 change Code.wp ..
 refine wp_seq ?_
 refine wp_seq ?_
 refine wp_region_L _ hW1 ?_
 refine lm (v := .pointer (some ⟨g1, 1, none⟩)) rfl rfl ?_
 refine lv (v := .int .i64 x.tier) rfl rfl (yb_cell (off := 1) rfl Tw.kr Tw.m0 Tryd.underlying3 rfl Tw.kr) ?_
 refine lp (v := .bool (!(decide (0 < x.tier)))) rfl rfl (run_bin rfl (vx := (.int .i64 x.tier)) (vy := (.int .i64 0)) Tw.kr Tw.kr fun w => bi_leq rfl w) ?_
 refine wpL_done (fun W2 hW2 => ?_)
 change Code.wp ..
 cases hd1 : (decide (0 < x.tier)) with
 | false =>
   have h1 : ¬ (0 < x.tier) := of_decide_eq_false hd1
   clear hd1
   refine wp_cond_true rfl ?_
   refine wp_seq ?_
   refine wp_region_L _ hW2 ?_
   refine lm (v := .bool true) rfl rfl ?_
   refine wpL_done (fun W3 hW3 => ?_)
   change Code.wp ..
   refine wp_ret ?_
   try simp only [inBlock_ret, then_ret]
   refine bodyPost_ret (v := .bool true) ?_ rfl ?_
   · kernel_rfl
   · exact ⟨(bool_is (by unfold heldS; rw [decide_eq_true (p := x.tier ≤ 0) Tw.om]; simp [])), hW3.1⟩
 | true =>
   have h1 : 0 < x.tier := of_decide_eq_true hd1
   clear hd1
   refine wp_cond_false rfl ?_
   refine wp_skip ?_
   change Code.wp ..
   refine wp_seq ?_
   refine wp_seq ?_
   refine wp_region_L _ hW2 ?_
   refine lm (v := .pointer (some ⟨g1, 2, none⟩)) rfl rfl ?_
   refine lv (v := .int .u8 ((x.half : Nat) : Int)) rfl rfl (yb_cell (off := 2) rfl Tw.kr Tw.m0 Tryd.underlying5 rfl Tw.kr) ?_
   refine lp (v := .bool (decide (x.half = 0))) rfl rfl (run_bin rfl (vx := (.int .u8 ((x.half : Nat) : Int))) (vy := (.int .u8 ((0 : Nat) : Int))) Tw.kr Tw.kr fun w => bn_eql rfl w) ?_
   refine wpL_done (fun W4 hW4 => ?_)
   change Code.wp ..
   cases hd2 : (decide (x.half = 0)) with
   | false =>
     have h2 : ¬ (x.half = 0) := of_decide_eq_false hd2
     clear hd2
     refine wp_cond_false rfl ?_
     refine wp_skip ?_
     change Code.wp ..
     refine wp_seq ?_
     refine wp_region_L _ hW4 ?_
     refine lm (v := .slice p l.length c) rfl rfl ?_
     refine lv (v := .agg (sltC x).toArray) rfl rfl (yb_load (n := 3) (off := 0) rfl Tw.kr Tw.m0 Tryd.underlying34 rfl Tw.kr (by first | (simp [Value.cells]; done) | exact Nat.le_of_ble_eq_true rfl) Tw.kr) ?_
     refine lm (v := .pointer (some ⟨g1, 2, none⟩)) rfl rfl ?_
     refine lv (v := .int .u8 ((x.half : Nat) : Int)) rfl rfl (yb_cell (off := 2) rfl Tw.kr Tw.m0 Tryd.underlying5 rfl Tw.kr) ?_
     refine lv (v := .bool (belowS x l x.half)) rfl rfl (yb_call (f := 59) (args := #[.slice p l.length c, .agg (sltC x).toArray, .int .u8 ((x.half : Nat) : Int)]) Tw.kf fun W hW => R8has_any l p c x x.half Tw.om Tw.om W ((RL.base HP.out) _ (hW.sub (fun _ h => by cases h)))) ?_
     refine lm (v := .bool (belowS x l x.half)) rfl rfl ?_
     refine wpL_done (fun W5 hW5 => ?_)
     change Code.wp ..
     refine wp_ret ?_
     try simp only [inBlock_ret, then_ret]
     refine bodyPost_ret (v := .bool (belowS x l x.half)) ?_ rfl ?_
     · kernel_rfl
     · exact ⟨(bool_is (by unfold heldS; rw [decide_eq_false (p := x.tier ≤ 0) Tw.om, decide_eq_false h2]; simp [])), hW5.1⟩
   | true =>
     have h2 : x.half = 0 := of_decide_eq_true hd2
     clear hd2
     refine wp_cond_true rfl ?_
     refine wp_seq ?_
     refine wp_region_L _ hW4 ?_
     refine lm (v := .slice p l.length c) rfl rfl ?_
     refine lv (v := .agg (sltC x).toArray) rfl rfl (yb_load (n := 3) (off := 0) rfl Tw.kr Tw.m0 Tryd.underlying34 rfl Tw.kr (by first | (simp [Value.cells]; done) | exact Nat.le_of_ble_eq_true rfl) Tw.kr) ?_
     refine lv (v := .bool (belowS x l 0)) rfl rfl (yb_call (f := 59) (args := #[.slice p l.length c, .agg (sltC x).toArray, .int .u8 0]) Tw.kf fun W hW => R8has_any l p c x 0 Tw.om Tw.om W ((RL.base HP.out) _ (hW.sub (fun _ h => by cases h)))) ?_
     refine lm (v := .bool (belowS x l 0)) rfl rfl ?_
     cases h3 : (belowS x l 0) with
     | false =>
       refine lm (v := .slice p l.length c) rfl rfl ?_
       refine lv (v := .agg (sltC x).toArray) rfl rfl (yb_load (n := 3) (off := 0) rfl Tw.kr Tw.m0 Tryd.underlying34 rfl Tw.kr (by first | (simp [Value.cells]; done) | exact Nat.le_of_ble_eq_true rfl) Tw.kr) ?_
       refine lv (v := .bool (belowS x l 1)) rfl rfl (yb_call (f := 59) (args := #[.slice p l.length c, .agg (sltC x).toArray, .int .u8 1]) Tw.kf fun W hW => R8has_any l p c x 1 Tw.om Tw.om W ((RL.base HP.out) _ (hW.sub (fun _ h => by cases h)))) ?_
       refine lm (v := .bool (belowS x l 1)) rfl rfl ?_
       cases h4 : (belowS x l 1) with
       | false =>
         refine ln rfl ?_
         refine ln rfl ?_
         refine ln rfl ?_
         refine lm (v := .bool false) rfl rfl ?_
         refine lm (v := .bool false) rfl rfl ?_
         refine lm (v := .bool false) rfl rfl ?_
         refine wpL_done (fun W6 hW6 => ?_)
         change Code.wp ..
         refine wp_ret ?_
         try simp only [inBlock_ret, then_ret]
         refine bodyPost_ret (v := .bool false) ?_ rfl ?_
         · kernel_rfl
         · exact ⟨(bool_is (by have e0 := h2; unfold heldS; rw [decide_eq_false (p := x.tier ≤ 0) Tw.om, decide_eq_true h2]; rw [e0]; simp [h3, h4])), hW6.1⟩
       | true =>
         refine lm (v := .slice p l.length c) rfl rfl ?_
         refine lv (v := .agg (sltC x).toArray) rfl rfl (yb_load (n := 3) (off := 0) rfl Tw.kr Tw.m0 Tryd.underlying34 rfl Tw.kr (by first | (simp [Value.cells]; done) | exact Nat.le_of_ble_eq_true rfl) Tw.kr) ?_
         refine lv (v := .bool (belowS x l 2)) rfl rfl (yb_call (f := 59) (args := #[.slice p l.length c, .agg (sltC x).toArray, .int .u8 2]) Tw.kf fun W hW => R8has_any l p c x 2 Tw.om Tw.om W ((RL.base HP.out) _ (hW.sub (fun _ h => by cases h)))) ?_
         refine lm (v := .bool (belowS x l 2)) rfl rfl ?_
         refine lm (v := .bool (belowS x l 2)) rfl rfl ?_
         refine lm (v := .bool (belowS x l 2)) rfl rfl ?_
         refine wpL_done (fun W7 hW7 => ?_)
         change Code.wp ..
         refine wp_ret ?_
         try simp only [inBlock_ret, then_ret]
         refine bodyPost_ret (v := .bool (belowS x l 2)) ?_ rfl ?_
         · kernel_rfl
         · exact ⟨(bool_is (by have e0 := h2; unfold heldS; rw [decide_eq_false (p := x.tier ≤ 0) Tw.om, decide_eq_true h2]; rw [e0]; simp [h3, h4])), hW7.1⟩
     | true =>
       refine ln rfl ?_
       refine ln rfl ?_
       refine ln rfl ?_
       refine ln rfl ?_
       refine ln rfl ?_
       refine ln rfl ?_
       refine ln rfl ?_
       refine ln rfl ?_
       refine lm (v := .bool true) rfl rfl ?_
       refine lm (v := .bool true) rfl rfl ?_
       refine wpL_done (fun W8 hW8 => ?_)
       change Code.wp ..
       refine wp_ret ?_
       try simp only [inBlock_ret, then_ret]
       refine bodyPost_ret (v := .bool true) ?_ rfl ?_
       · kernel_rfl
       · exact ⟨(bool_is (by have e0 := h2; unfold heldS; rw [decide_eq_false (p := x.tier ≤ 0) Tw.om, decide_eq_true h2]; rw [e0]; simp [h3])), hW8.1⟩
end Go.Proofs.YthpooalhibedpaaDoor
namespace Go.Proofs.YthpooalhibedpaaDoor
open Go Go.RowKit Tw
set_option maxRecDepth 100000 in
set_option maxHeartbeats 4000000 in
theorem R8Right_any (cs : List Col) (pc : Option Addr) (cc : Nat) (lc : cs.length ≤ 4000000000) (os : List Cov) (po : Option Addr) (co : Nat) (lo : os.length ≤ 4000000000) (t : Tl) (xc xt : Int) (xh z : Nat) (w : World) (hc : SLV w pc (cs.flatMap colC)) (ho : SLV w po (os.flatMap covC)) : Calls Tryd.prog 15 #[.agg (shC (.slice pc cs.length cc) (.slice po os.length co) t).toArray, .agg #[.int .i64 xc, .int .i64 xt, .int .u8 ((xh : Nat) : Int)], .int .i64 ((z : Nat) : Int)] w fun e w' => e = .returned (.bool (rightS cs (⟨xc, xt, xh⟩ : Slt) z)) ∧ Below w.heap.size w w' := by
 have HC := Lib.hid hc
 clear hc
 have HO := Lib.hid ho
 clear ho
 go_enter Tryd.func15, Tryd.ntmps15
 refine wp_seq ?_
 refine wp_region_L [] (KS.start w) ?_
 refine wpL_new (fun g => .pointer (some ⟨g, 0, none⟩)) (obi := .cells (shC (.slice pc cs.length cc) (.slice po os.length co) t).toArray 32 (0, 0)) rfl rfl Tw.kf Tw.pf fun g1 Bg1 Fg1 => ?_
 refine wpL_new (fun g => .pointer (some ⟨g, 0, none⟩)) (obi := .cells #[.int .i64 xc, .int .i64 xt, .int .u8 ((xh : Nat) : Int)] 34 (0, 0)) rfl rfl Tw.kf Tw.pf fun g2 Bg2 Fg2 => ?_
 obtain dj3_0 : g1 ≠ g2 := Tw.dkf Fg2
 refine lm (v := .bool false) rfl rfl ?_
 refine wpL_done (fun W1 hW1 => ?_)
 change Code.wp ..
 refine wp_seq ?_
 refine wp_seq ?_
 refine wp_region_V _ Tw.kr hW1 ?_
 refine vm (i := 0) (v := .pointer (some ⟨g2, 0, none⟩)) rfl rfl rfl ?_
 refine vv (i := 1) (v := .int .i64 xc) rfl rfl rfl (yb_cell (off := 0) rfl Tw.kr Tw.m0 Tryd.underlying3 rfl Tw.kr) ?_
 refine vp (i := 2) (v := .bool (decide (xc < 0))) rfl rfl rfl (run_bin rfl (vx := (.int .i64 xc)) (vy := (.int .i64 0)) Tw.kr Tw.kr fun w => bi_lss rfl w) ?_
 refine vm (i := 3) (v := .bool (decide (xc < 0))) rfl rfl rfl ?_
 cases hd1 : (decide (xc < 0)) with
 | false =>
   have h1 : ¬ (xc < 0) := of_decide_eq_false hd1
   clear hd1
   refine vm (i := 4) (v := .pointer (some ⟨g2, 0, none⟩)) rfl rfl rfl ?_
   refine vv (i := 5) (v := .int .i64 xc) rfl rfl rfl (yb_cell (off := 0) rfl Tw.kr Tw.m0 Tryd.underlying3 rfl Tw.kr) ?_
   refine vm (i := 6) (v := .pointer (some ⟨g1, 0, none⟩)) rfl rfl rfl ?_
   refine vv (i := 7) (v := .slice pc cs.length cc) rfl rfl rfl (yb_cell (off := 0) rfl Tw.kr Tw.m1 Tryd.underlying22 rfl Tw.kr) ?_
   refine vp (i := 8) (v := .int .i64 ((cs.length : Nat) : Int)) rfl rfl rfl (run_lenL (p := pc) (cap := cc) (n := cs.length) rfl Tryd.underlying22 Tw.kr) ?_
   refine vp (i := 9) (v := .bool (!(decide (xc < ((cs.length : Nat) : Int))))) rfl rfl rfl (run_bin rfl (vx := (.int .i64 xc)) (vy := (.int .i64 ((cs.length : Nat) : Int))) Tw.kr Tw.kr fun w => bi_geq rfl w) ?_
   refine vm (i := 10) (v := .bool (!(decide (xc < ((cs.length : Nat) : Int))))) rfl rfl rfl ?_
   refine vm (i := 11) (v := .bool (!(decide (xc < ((cs.length : Nat) : Int))))) rfl rfl rfl ?_
   cases hd2 : (decide (xc < ((cs.length : Nat) : Int))) with
   | false =>
     have h2 : ¬ (xc < ((cs.length : Nat) : Int)) := of_decide_eq_false hd2
     clear hd2
     refine vn (i := 12) rfl rfl ?_
     refine vn (i := 13) rfl rfl ?_
     refine vn (i := 14) rfl rfl ?_
     refine vm (i := 15) (v := .bool true) rfl rfl rfl ?_
     refine vm (i := 16) (v := .bool true) rfl rfl rfl ?_
     refine vn (i := 17) rfl rfl ?_
     refine vn (i := 18) rfl rfl ?_
     refine vn (i := 19) rfl rfl ?_
     refine vn (i := 20) rfl rfl ?_
     refine vn (i := 21) rfl rfl ?_
     refine vn (i := 22) rfl rfl ?_
     refine vn (i := 23) rfl rfl ?_
     refine vn (i := 24) rfl rfl ?_
     refine vn (i := 25) rfl rfl ?_
     refine vn (i := 26) rfl rfl ?_
     refine vm (i := 27) (v := .bool true) rfl rfl rfl ?_
     refine wpV_done Tw.kr (fun W2 hW2 => ?_) _
     change Code.wp ..
     refine wp_cond_true rfl ?_
     refine wp_seq ?_
     refine wp_region_L _ hW2 ?_
     refine lm (v := .bool false) rfl rfl ?_
     refine wpL_done (fun W3 hW3 => ?_)
     change Code.wp ..
     refine wp_ret ?_
     try simp only [inBlock_ret, then_ret]
     refine bodyPost_ret (v := .bool false) ?_ rfl ?_
     · kernel_rfl
     · exact ⟨(bool_is (right_no8 (x := (⟨xc, xt, xh⟩ : Slt)) (ex_col8 (by simp only; omega))).symm), hW3.1⟩
   | true =>
     have h2 : xc < ((cs.length : Nat) : Int) := of_decide_eq_true hd2
     clear hd2
     refine vm (i := 12) (v := .pointer (some ⟨g2, 1, none⟩)) rfl rfl rfl ?_
     refine vv (i := 13) (v := .int .i64 xt) rfl rfl rfl (yb_cell (off := 1) rfl Tw.kr Tw.m0 Tryd.underlying3 rfl Tw.kr) ?_
     refine vp (i := 14) (v := .bool (decide (xt < 0))) rfl rfl rfl (run_bin rfl (vx := (.int .i64 xt)) (vy := (.int .i64 0)) Tw.kr Tw.kr fun w => bi_lss rfl w) ?_
     refine vm (i := 15) (v := .bool (decide (xt < 0))) rfl rfl rfl ?_
     refine vm (i := 16) (v := .bool (decide (xt < 0))) rfl rfl rfl ?_
     cases hd3 : (decide (xt < 0)) with
     | false =>
       have h3 : ¬ (xt < 0) := of_decide_eq_false hd3
       clear hd3
       refine vm (i := 17) (v := .pointer (some ⟨g2, 1, none⟩)) rfl rfl rfl ?_
       refine vv (i := 18) (v := .int .i64 xt) rfl rfl rfl (yb_cell (off := 1) rfl Tw.kr Tw.m0 Tryd.underlying3 rfl Tw.kr) ?_
       refine vm (i := 19) (v := .pointer (some ⟨g1, 0, none⟩)) rfl rfl rfl ?_
       refine vv (i := 20) (v := .slice pc cs.length cc) rfl rfl rfl (yb_cell (off := 0) rfl Tw.kr Tw.m1 Tryd.underlying22 rfl Tw.kr) ?_
       refine vm (i := 21) (v := .pointer (some ⟨g2, 0, none⟩)) rfl rfl rfl ?_
       refine vv (i := 22) (v := .int .i64 xc) rfl rfl rfl (yb_cell (off := 0) rfl Tw.kr Tw.m0 Tryd.underlying3 rfl Tw.kr) ?_
       obtain ⟨m, hm⟩ : ∃ m : Nat, xc = (m : Int) := ⟨xc.toNat, by omega⟩
       subst hm
       obtain ⟨y4, g4_, f4_, hy4, hp4, hc4⟩ := RL.at (RL.base HC.out) colC_len (by decide) (hW1.sub (fun _ h => by cases h)) (k := m) Tw.om
       refine vp (i := 23) (v := .pointer (some ⟨g4_, f4_ + m * 12, none⟩)) rfl rfl rfl (run_idxQ (p := pc) (cap := cc) (n := cs.length) (j := .i64) (k := m) (sz := 12) rfl Tryd.underlying22 Tw.kr Tw.kr hp4 Tw.kr Tw.om) ?_
       refine vm (i := 24) (v := .pointer (some ⟨g4_, f4_ + m * 12 + 3, none⟩)) rfl rfl rfl ?_
       refine vb (i := 25) (v := .int .i64 y4.tiers) rfl rfl rfl (yb_rf (v := .int .i64 y4.tiers) rfl Tw.kr (fun W hW => hc4 W (hW.sub (fun _ h => by cases h)) 3 _ rfl) Tryd.underlying3 rfl) ?_
       refine vp (i := 26) (v := .bool (!(decide (xt < y4.tiers)))) rfl rfl rfl (run_bin rfl (vx := (.int .i64 xt)) (vy := (.int .i64 y4.tiers)) Tw.kr Tw.kr fun w => bi_geq rfl w) ?_
       refine vm (i := 27) (v := .bool (!(decide (xt < y4.tiers)))) rfl rfl rfl ?_
       refine wpV_done Tw.kr (fun W4 hW4 => ?_) _
       change Code.wp ..
       cases hd4 : (decide (xt < y4.tiers)) with
       | false =>
         have h4 : ¬ (xt < y4.tiers) := of_decide_eq_false hd4
         clear hd4
         refine wp_cond_true rfl ?_
         refine wp_seq ?_
         refine wp_region_L _ hW4 ?_
         refine lm (v := .bool false) rfl rfl ?_
         refine wpL_done (fun W5 hW5 => ?_)
         change Code.wp ..
         refine wp_ret ?_
         try simp only [inBlock_ret, then_ret]
         refine bodyPost_ret (v := .bool false) ?_ rfl ?_
         · kernel_rfl
         · exact ⟨(bool_is (right_no8 (x := (⟨((m : Nat) : Int), xt, xh⟩ : Slt)) ((ex_at8 hy4 h3).trans (decide_eq_false h4))).symm), hW5.1⟩
       | true =>
         have h4 : xt < y4.tiers := of_decide_eq_true hd4
         clear hd4
         refine wp_cond_false rfl ?_
         refine wp_skip ?_
         change Code.wp ..
         refine wp_seq ?_
         refine wp_region_L _ hW4 ?_
         refine lm (v := .int .i64 ((z : Nat) : Int)) rfl rfl ?_
         refine lp (v := .bool (decide (z = 40))) rfl rfl (run_bin rfl (vx := (.int .i64 ((z : Nat) : Int))) (vy := (.int .i64 ((40 : Nat) : Int))) Tw.kr Tw.kr fun w => bn_eql rfl w) ?_
         refine lm (v := .bool (decide (z = 40))) rfl rfl ?_
         cases hd5 : (decide (z = 40)) with
         | false =>
           have h5 : ¬ (z = 40) := of_decide_eq_false hd5
           clear hd5
           refine ln rfl ?_
           refine ln rfl ?_
           refine ln rfl ?_
           refine lm (v := .bool false) rfl rfl ?_
           refine lm (v := .bool false) rfl rfl ?_
           refine lm (v := .int .i64 ((z : Nat) : Int)) rfl rfl ?_
           refine lp (v := .bool (decide (z = 20))) rfl rfl (run_bin rfl (vx := (.int .i64 ((z : Nat) : Int))) (vy := (.int .i64 ((20 : Nat) : Int))) Tw.kr Tw.kr fun w => bn_eql rfl w) ?_
           refine lm (v := .bool (decide (z = 20))) rfl rfl ?_
           cases hd6 : (decide (z = 20)) with
           | false =>
             have h6 : ¬ (z = 20) := of_decide_eq_false hd6
             clear hd6
             refine ln rfl ?_
             refine ln rfl ?_
             refine ln rfl ?_
             refine ln rfl ?_
             refine ln rfl ?_
             refine ln rfl ?_
             refine ln rfl ?_
             refine ln rfl ?_
             refine lm (v := .bool false) rfl rfl ?_
             refine lm (v := .bool false) rfl rfl ?_
             refine lm (v := .bool false) rfl rfl ?_
             refine wpL_done (fun W6 hW6 => ?_)
             change Code.wp ..
             refine wp_ret ?_
             try simp only [inBlock_ret, then_ret]
             refine bodyPost_ret (v := .bool false) ?_ rfl ?_
             · kernel_rfl
             · exact ⟨(bool_is (by rw [right_is8 (x := (⟨((m : Nat) : Int), xt, xh⟩ : Slt)) ((ex_at8 hy4 h3).trans (decide_eq_true h4))]; simp [decide_eq_false h5, decide_eq_false h6])), hW6.1⟩
           | true =>
             have h6 : z = 20 := of_decide_eq_true hd6
             clear hd6
             refine lm (v := .pointer (some ⟨g2, 2, none⟩)) rfl rfl ?_
             refine lv (v := .int .u8 ((xh : Nat) : Int)) rfl rfl (yb_cell (off := 2) rfl Tw.kr Tw.m0 Tryd.underlying5 rfl Tw.kr) ?_
             refine lp (v := .bool (decide (xh = 1))) rfl rfl (run_bin rfl (vx := (.int .u8 ((xh : Nat) : Int))) (vy := (.int .u8 ((1 : Nat) : Int))) Tw.kr Tw.kr fun w => bn_eql rfl w) ?_
             refine lm (v := .bool (decide (xh = 1))) rfl rfl ?_
             cases hd7 : (decide (xh = 1)) with
             | false =>
               have h7 : ¬ (xh = 1) := of_decide_eq_false hd7
               clear hd7
               refine lm (v := .pointer (some ⟨g2, 2, none⟩)) rfl rfl ?_
               refine lv (v := .int .u8 ((xh : Nat) : Int)) rfl rfl (yb_cell (off := 2) rfl Tw.kr Tw.m0 Tryd.underlying5 rfl Tw.kr) ?_
               refine lp (v := .bool (decide (xh = 2))) rfl rfl (run_bin rfl (vx := (.int .u8 ((xh : Nat) : Int))) (vy := (.int .u8 ((2 : Nat) : Int))) Tw.kr Tw.kr fun w => bn_eql rfl w) ?_
               refine lm (v := .bool (decide (xh = 2))) rfl rfl ?_
               refine lm (v := .bool (decide (xh = 2))) rfl rfl ?_
               refine lm (v := .bool (decide (xh = 2))) rfl rfl ?_
               refine lm (v := .bool (decide (xh = 2))) rfl rfl ?_
               refine wpL_done (fun W7 hW7 => ?_)
               change Code.wp ..
               refine wp_ret ?_
               try simp only [inBlock_ret, then_ret]
               refine bodyPost_ret (v := .bool (decide (xh = 2))) ?_ rfl ?_
               · kernel_rfl
               · exact ⟨(bool_is (by rw [right_is8 (x := (⟨((m : Nat) : Int), xt, xh⟩ : Slt)) ((ex_at8 hy4 h3).trans (decide_eq_true h4))]; simp [decide_eq_false h5, decide_eq_true h6, decide_eq_false h7])), hW7.1⟩
             | true =>
               have h7 : xh = 1 := of_decide_eq_true hd7
               clear hd7
               refine ln rfl ?_
               refine ln rfl ?_
               refine ln rfl ?_
               refine lm (v := .bool true) rfl rfl ?_
               refine lm (v := .bool true) rfl rfl ?_
               refine lm (v := .bool true) rfl rfl ?_
               refine lm (v := .bool true) rfl rfl ?_
               refine wpL_done (fun W8 hW8 => ?_)
               change Code.wp ..
               refine wp_ret ?_
               try simp only [inBlock_ret, then_ret]
               refine bodyPost_ret (v := .bool true) ?_ rfl ?_
               · kernel_rfl
               · exact ⟨(bool_is (by rw [right_is8 (x := (⟨((m : Nat) : Int), xt, xh⟩ : Slt)) ((ex_at8 hy4 h3).trans (decide_eq_true h4))]; simp [decide_eq_false h5, decide_eq_true h6, decide_eq_true h7])), hW8.1⟩
         | true =>
           have h5 : z = 40 := of_decide_eq_true hd5
           clear hd5
           refine lm (v := .pointer (some ⟨g2, 2, none⟩)) rfl rfl ?_
           refine lv (v := .int .u8 ((xh : Nat) : Int)) rfl rfl (yb_cell (off := 2) rfl Tw.kr Tw.m0 Tryd.underlying5 rfl Tw.kr) ?_
           refine lp (v := .bool (decide (xh = 0))) rfl rfl (run_bin rfl (vx := (.int .u8 ((xh : Nat) : Int))) (vy := (.int .u8 ((0 : Nat) : Int))) Tw.kr Tw.kr fun w => bn_eql rfl w) ?_
           refine lm (v := .bool (decide (xh = 0))) rfl rfl ?_
           refine lm (v := .bool (decide (xh = 0))) rfl rfl ?_
           cases hd8 : (decide (xh = 0)) with
           | false =>
             have h8 : ¬ (xh = 0) := of_decide_eq_false hd8
             clear hd8
             refine lm (v := .int .i64 ((z : Nat) : Int)) rfl rfl ?_
             refine lp (v := .bool (decide (z = 20))) rfl rfl (run_bin rfl (vx := (.int .i64 ((z : Nat) : Int))) (vy := (.int .i64 ((20 : Nat) : Int))) Tw.kr Tw.kr fun w => bn_eql rfl w) ?_
             refine lm (v := .bool (decide (z = 20))) rfl rfl ?_
             cases hd9 : (decide (z = 20)) with
             | false =>
               have h9 : ¬ (z = 20) := of_decide_eq_false hd9
               clear hd9
               refine ln rfl ?_
               refine ln rfl ?_
               refine ln rfl ?_
               refine ln rfl ?_
               refine ln rfl ?_
               refine ln rfl ?_
               refine ln rfl ?_
               refine ln rfl ?_
               refine lm (v := .bool false) rfl rfl ?_
               refine lm (v := .bool false) rfl rfl ?_
               refine lm (v := .bool false) rfl rfl ?_
               refine wpL_done (fun W9 hW9 => ?_)
               change Code.wp ..
               refine wp_ret ?_
               try simp only [inBlock_ret, then_ret]
               refine bodyPost_ret (v := .bool false) ?_ rfl ?_
               · kernel_rfl
               · exact ⟨(bool_is (by rw [right_is8 (x := (⟨((m : Nat) : Int), xt, xh⟩ : Slt)) ((ex_at8 hy4 h3).trans (decide_eq_true h4))]; simp [decide_eq_true h5, decide_eq_false h8, decide_eq_false h9])), hW9.1⟩
             | true =>
               have h9 : z = 20 := of_decide_eq_true hd9
               clear hd9
               refine lm (v := .pointer (some ⟨g2, 2, none⟩)) rfl rfl ?_
               refine lv (v := .int .u8 ((xh : Nat) : Int)) rfl rfl (yb_cell (off := 2) rfl Tw.kr Tw.m0 Tryd.underlying5 rfl Tw.kr) ?_
               refine lp (v := .bool (decide (xh = 1))) rfl rfl (run_bin rfl (vx := (.int .u8 ((xh : Nat) : Int))) (vy := (.int .u8 ((1 : Nat) : Int))) Tw.kr Tw.kr fun w => bn_eql rfl w) ?_
               refine lm (v := .bool (decide (xh = 1))) rfl rfl ?_
               cases hd10 : (decide (xh = 1)) with
               | false =>
                 have h10 : ¬ (xh = 1) := of_decide_eq_false hd10
                 clear hd10
                 refine lm (v := .pointer (some ⟨g2, 2, none⟩)) rfl rfl ?_
                 refine lv (v := .int .u8 ((xh : Nat) : Int)) rfl rfl (yb_cell (off := 2) rfl Tw.kr Tw.m0 Tryd.underlying5 rfl Tw.kr) ?_
                 refine lp (v := .bool (decide (xh = 2))) rfl rfl (run_bin rfl (vx := (.int .u8 ((xh : Nat) : Int))) (vy := (.int .u8 ((2 : Nat) : Int))) Tw.kr Tw.kr fun w => bn_eql rfl w) ?_
                 refine lm (v := .bool (decide (xh = 2))) rfl rfl ?_
                 refine lm (v := .bool (decide (xh = 2))) rfl rfl ?_
                 refine lm (v := .bool (decide (xh = 2))) rfl rfl ?_
                 refine lm (v := .bool (decide (xh = 2))) rfl rfl ?_
                 refine wpL_done (fun W10 hW10 => ?_)
                 change Code.wp ..
                 refine wp_ret ?_
                 try simp only [inBlock_ret, then_ret]
                 refine bodyPost_ret (v := .bool (decide (xh = 2))) ?_ rfl ?_
                 · kernel_rfl
                 · exact ⟨(bool_is (by rw [right_is8 (x := (⟨((m : Nat) : Int), xt, xh⟩ : Slt)) ((ex_at8 hy4 h3).trans (decide_eq_true h4))]; simp [decide_eq_true h5, decide_eq_false h8, decide_eq_true h9, decide_eq_false h10])), hW10.1⟩
               | true =>
                 have h10 : xh = 1 := of_decide_eq_true hd10
                 clear hd10
                 refine ln rfl ?_
                 refine ln rfl ?_
                 refine ln rfl ?_
                 refine lm (v := .bool true) rfl rfl ?_
                 refine lm (v := .bool true) rfl rfl ?_
                 refine lm (v := .bool true) rfl rfl ?_
                 refine lm (v := .bool true) rfl rfl ?_
                 refine wpL_done (fun W11 hW11 => ?_)
                 change Code.wp ..
                 refine wp_ret ?_
                 try simp only [inBlock_ret, then_ret]
                 refine bodyPost_ret (v := .bool true) ?_ rfl ?_
                 · kernel_rfl
                 · exact ⟨(bool_is (by rw [right_is8 (x := (⟨((m : Nat) : Int), xt, xh⟩ : Slt)) ((ex_at8 hy4 h3).trans (decide_eq_true h4))]; simp [decide_eq_true h5, decide_eq_false h8, decide_eq_true h9, decide_eq_true h10])), hW11.1⟩
           | true =>
             have h8 : xh = 0 := of_decide_eq_true hd8
             clear hd8
             refine ln rfl ?_
             refine ln rfl ?_
             refine ln rfl ?_
             refine ln rfl ?_
             refine ln rfl ?_
             refine ln rfl ?_
             refine ln rfl ?_
             refine ln rfl ?_
             refine ln rfl ?_
             refine ln rfl ?_
             refine ln rfl ?_
             refine ln rfl ?_
             refine lm (v := .bool true) rfl rfl ?_
             refine lm (v := .bool true) rfl rfl ?_
             refine wpL_done (fun W12 hW12 => ?_)
             change Code.wp ..
             refine wp_ret ?_
             try simp only [inBlock_ret, then_ret]
             refine bodyPost_ret (v := .bool true) ?_ rfl ?_
             · kernel_rfl
             · exact ⟨(bool_is (by rw [right_is8 (x := (⟨((m : Nat) : Int), xt, xh⟩ : Slt)) ((ex_at8 hy4 h3).trans (decide_eq_true h4))]; simp [decide_eq_true h5, decide_eq_true h8])), hW12.1⟩
     | true =>
       have h3 : xt < 0 := of_decide_eq_true hd3
       clear hd3
       refine vn (i := 17) rfl rfl ?_
       refine vn (i := 18) rfl rfl ?_
       refine vn (i := 19) rfl rfl ?_
       refine vn (i := 20) rfl rfl ?_
       refine vn (i := 21) rfl rfl ?_
       refine vn (i := 22) rfl rfl ?_
       refine vn (i := 23) rfl rfl ?_
       refine vn (i := 24) rfl rfl ?_
       refine vn (i := 25) rfl rfl ?_
       refine vn (i := 26) rfl rfl ?_
       refine vm (i := 27) (v := .bool true) rfl rfl rfl ?_
       refine wpV_done Tw.kr (fun W13 hW13 => ?_) _
       change Code.wp ..
       refine wp_cond_true rfl ?_
       refine wp_seq ?_
       refine wp_region_L _ hW13 ?_
       refine lm (v := .bool false) rfl rfl ?_
       refine wpL_done (fun W14 hW14 => ?_)
       change Code.wp ..
       refine wp_ret ?_
       try simp only [inBlock_ret, then_ret]
       refine bodyPost_ret (v := .bool false) ?_ rfl ?_
       · kernel_rfl
       · exact ⟨(bool_is (right_no8 (x := (⟨xc, xt, xh⟩ : Slt)) (ex_neg8 h3)).symm), hW14.1⟩
 | true =>
   have h1 : xc < 0 := of_decide_eq_true hd1
   clear hd1
   refine vn (i := 4) rfl rfl ?_
   refine vn (i := 5) rfl rfl ?_
   refine vn (i := 6) rfl rfl ?_
   refine vn (i := 7) rfl rfl ?_
   refine vn (i := 8) rfl rfl ?_
   refine vn (i := 9) rfl rfl ?_
   refine vm (i := 10) (v := .bool true) rfl rfl rfl ?_
   refine vm (i := 11) (v := .bool true) rfl rfl rfl ?_
   refine vn (i := 12) rfl rfl ?_
   refine vn (i := 13) rfl rfl ?_
   refine vn (i := 14) rfl rfl ?_
   refine vm (i := 15) (v := .bool true) rfl rfl rfl ?_
   refine vm (i := 16) (v := .bool true) rfl rfl rfl ?_
   refine vn (i := 17) rfl rfl ?_
   refine vn (i := 18) rfl rfl ?_
   refine vn (i := 19) rfl rfl ?_
   refine vn (i := 20) rfl rfl ?_
   refine vn (i := 21) rfl rfl ?_
   refine vn (i := 22) rfl rfl ?_
   refine vn (i := 23) rfl rfl ?_
   refine vn (i := 24) rfl rfl ?_
   refine vn (i := 25) rfl rfl ?_
   refine vn (i := 26) rfl rfl ?_
   refine vm (i := 27) (v := .bool true) rfl rfl rfl ?_
   refine wpV_done Tw.kr (fun W15 hW15 => ?_) _
   change Code.wp ..
   refine wp_cond_true rfl ?_
   refine wp_seq ?_
   refine wp_region_L _ hW15 ?_
   refine lm (v := .bool false) rfl rfl ?_
   refine wpL_done (fun W16 hW16 => ?_)
   change Code.wp ..
   refine wp_ret ?_
   try simp only [inBlock_ret, then_ret]
   refine bodyPost_ret (v := .bool false) ?_ rfl ?_
   · kernel_rfl
   · exact ⟨(bool_is (right_no8 (x := (⟨xc, xt, xh⟩ : Slt)) (ex_col8 (by simp only; omega))).symm), hW16.1⟩
end Go.Proofs.YthpooalhibedpaaDoor
