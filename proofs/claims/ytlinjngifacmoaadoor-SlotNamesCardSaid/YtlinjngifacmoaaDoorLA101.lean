import Derived.Test.YtlinjngifacmoaaDoorLA100
import Derived.Test.YtlinjngifacmoaaDoorSN04
import Derived.Test.YtlinjngifacmoaaDoorSN01
import Derived.Test.YtlinjngifacmoaaDoorSN00
import Derived.Test.YtlinjngifacmoaaDoorSN03
import Derived.Test.YtlinjngifacmoaaDoorSN02
import Derived.Laws.OwnMore
import Derived.Laws.Small
/- Part of the proof: TZ, U1, U2, U5, L8p, L9q, L9o, L8q, L9p, Sjq, L9w, L9y, L9i, L9j, L9k, TH0, TH, TI, TG0, Y1, TF0, TL0. -/
set_option linter.unusedVariables false
set_option linter.unusedSimpArgs false
set_option linter.unusedSectionVars false
namespace Go.Proofs.YtlinjngifacmoaaDoor
open Go Go.RowKit Tw
def Tk.re (y : Tk) (q : Option Addr) (d : Nat) : Tk := { y with sp := q, sc := d }
def mkTnk (i : Nat) : Tk := ⟨mkI i, 0, 0, 0, 0, [], none, 0⟩
def StR (W : World) (ts : List Tk) : Prop := ∀ c ∈ ts, SLV W c.sp (c.steps.flatMap inC)
def mkTnkL (i : Nat) : List Tk := (List.range i).map mkTnk
theorem mkTnkL_len (i : Nat) : (mkTnkL i).length = i := by simp [mkTnkL]
theorem mkTnkL_s (i : Nat) : mkTnkL (i + 1) = mkTnkL i ++ [mkTnk i] := by simp [mkTnkL, List.range_succ]
theorem mkTnkL_at {i n : Nat} (h : i < n) : (mkTnkL n)[i]? = some (mkTnk i) := by simp [mkTnkL, h]
def LentT (l X : List Tk) (T : List (Nat × Obj)) : Prop := ∀ (j : Nat) (x : Tk), X[j]? = some x → ∃ y q d, l[j]? = some y ∧ x = y.re q d ∧ y.steps.length + 12 ≤ d ∧ HL inC q (y.steps ++ mkL 12) T
theorem LentT.nil (l : List Tk) : LentT l [] [] := fun _ _ h => by cases h
theorem LentT.mono {l X : List Tk} {T T' : List (Nat × Obj)} (h : LentT l X T) (hs : ∀ b ∈ T, b ∈ T') : LentT l X T' := fun j x hx => by
 obtain ⟨y, q, d, h1, h2, h3, h4⟩ := h j x hx
 exact ⟨y, q, d, h1, h2, h3, h4.mono hs⟩
theorem LentT.s {l X : List Tk} {T K : List (Nat × Obj)} {i d : Nat} {y : Tk} {q : Option Addr} (h : LentT l X T) (hi : X.length = i) (hy : l[i]? = some y) (hd : y.steps.length + 12 ≤ d) (hH : HL inC q (y.steps ++ mkL 12) K) : LentT l (X ++ [y.re q d]) (T ++ K) := fun j x hx => by
 by_cases e : j < X.length
 · rw [List.getElem?_append_left e] at hx
   exact h.mono (fun b hb => List.mem_append_left _ hb) j x hx
 · rw [List.getElem?_append_right Tw.om] at hx
   have e2 : j - X.length = 0 := by
     have := (List.getElem?_eq_some_iff.1 hx).1
     simp only [List.length_singleton] at this
     omega
   rw [e2] at hx
   cases hx
   have e3 : j = i := by omega
   subst e3
   exact ⟨y, q, d, hy, rfl, hd, hH.mono fun b hb => List.mem_append_right _ hb⟩
def LentTA (W : World) (l X : List Tk) : Prop := ∀ (j : Nat) (x : Tk), X[j]? = some x → ∃ y q d, l[j]? = some y ∧ x = y.re q d ∧ y.steps.length + 12 ≤ d ∧ SLV W q ((y.steps ++ mkL 12).flatMap inC)
theorem LentT.at {W : World} {l X : List Tk} {T : List (Nat × Obj)} (h : LentT l X T) (hT : ∀ b ∈ T, W.heap[b.1]? = some b.2) : LentTA W l X := fun j x hx => by
 obtain ⟨y, q, d, h1, h2, h3, h4⟩ := h j x hx
 exact ⟨y, q, d, h1, h2, h3, h4 W hT⟩
theorem lentTA_at {W : World} {l X : List Tk} {i : Nat} {x y : Tk} (h : LentTA W l X) (hx : (X ++ mkTnkL 12)[i]? = some x) (hl : X.length = l.length) (hy : l[i]? = some y) : ∃ q d, x = y.re q d ∧ y.steps.length + 12 ≤ d ∧ SLV W q ((y.steps ++ mkL 12).flatMap inC) := by
 have hi := (List.getElem?_eq_some_iff.1 hy).1
 rw [List.getElem?_append_left Tw.om] at hx
 obtain ⟨z, q, d, h1, h2, h3, h4⟩ := h i x hx
 rw [hy] at h1
 cases h1
 exact ⟨q, d, h2, h3, h4⟩
theorem markTA_at {l X : List Tk} {i : Nat} {x : Tk} (hx : (X ++ mkTnkL 12)[i]? = some x) (hl : X.length = l.length) (h : ¬ i < l.length) : x = mkTnk (i - l.length) := by
 have h2 := (List.getElem?_eq_some_iff.1 hx).1
 rw [List.length_append, mkTnkL_len] at h2
 rw [List.getElem?_append_right Tw.om, mkTnkL_at Tw.om, hl] at hx
 exact (Option.some.inj hx).symm
theorem lentTA_pre {W : World} {l X : List Tk} {i : Nat} {x y : Tk} (h : LentTA W l X) (hx : X[i]? = some x) (hy : l[i]? = some y) : ∃ q d, x = y.re q d ∧ SLV W q (y.steps.flatMap inC) := by
 obtain ⟨z, q, d, h1, h2, _, h4⟩ := h i x hx
 rw [hy] at h1
 cases h1
 exact ⟨q, d, h2, slv_pre0 h4⟩
theorem SameIntsL_yes (l : List Int) (p q : Option Addr) (c d : Nat) (hl : l.length ≤ 17592186044403) (w : World) (hp : SLV w p (l.flatMap inC)) (hq : SLV w q (l.flatMap inC)) : Calls Tryd.prog 110 #[.slice p l.length c, .slice q l.length d] w fun e w' => e = .returned (.bool true) ∧ Below w.heap.size w w' := by
 have h := SameIntsL_any l l p q c d hl w hp hq
 rwa [decide_eq_true (rfl : l = l)] at h
set_option maxRecDepth 100000 in
set_option maxHeartbeats 4000000 in
theorem SameTank_any (y : Tk) (q : Option Addr) (d : Nat) (hl : y.steps.length ≤ 17592186044403) (w : World) (hp : SLV w y.sp (y.steps.flatMap inC)) (hq : SLV w q (y.steps.flatMap inC)) : Calls Tryd.prog 95 #[.agg (tkC y).toArray, .agg (tkC (y.re q d)).toArray] w fun e w' => e = .returned (.bool true) ∧ Below w.heap.size w w' := by
 have HP := Lib.hid hp
 clear hp
 have HQ := Lib.hid hq
 clear hq
 go_enter Tryd.func95, Tryd.ntmps95
 refine wp_seq ?_
 refine wp_region_L [] (KS.start w) ?_
 refine wpL_new (fun g => .pointer (some ⟨g, 0, none⟩)) (obi := .cells (tkC y).toArray 129 (0, 0)) rfl rfl Tw.kf Tw.pf fun g1 Bg1 Fg1 => ?_
 refine wpL_new (fun g => .pointer (some ⟨g, 0, none⟩)) (obi := .cells (tkC (y.re q d)).toArray 129 (0, 0)) rfl rfl Tw.kf Tw.pf fun g2 Bg2 Fg2 => ?_
 obtain dj3_0 : g1 ≠ g2 := Tw.dkf Fg2
 refine lm (v := .bool false) rfl rfl ?_
 refine wpL_done (fun W1 hW1 => ?_)
 change Code.wp ..
 refine wp_seq ?_
 refine wp_region_L _ hW1 ?_
 refine lm (v := .pointer (some ⟨g1, 0, none⟩)) rfl rfl ?_
 refine lv (v := .int .i64 y.kilos) rfl rfl (yb_cell (off := 0) rfl Tw.kr Tw.m1 Tryd.underlying3 rfl Tw.kr) ?_
 refine lm (v := .pointer (some ⟨g2, 0, none⟩)) rfl rfl ?_
 refine lv (v := .int .i64 ((y.re q d).kilos)) rfl rfl (yb_cell (off := 0) rfl Tw.kr Tw.m0 Tryd.underlying3 rfl Tw.kr) ?_
 refine lp (v := .bool (decide (y.kilos = ((y.re q d).kilos)))) rfl rfl (run_bin rfl (vx := (.int .i64 y.kilos)) (vy := (.int .i64 ((y.re q d).kilos))) Tw.kr Tw.kr fun w => bi_eql rfl w) ?_
 refine lm (v := .bool (decide (y.kilos = ((y.re q d).kilos)))) rfl rfl ?_
 cases hd1 : (decide (y.kilos = ((y.re q d).kilos))) with
 | false =>
   have h1 : ¬ (y.kilos = ((y.re q d).kilos)) := of_decide_eq_false hd1
   clear hd1
   exact absurd rfl h1
 | true =>
   have h1 : y.kilos = ((y.re q d).kilos) := of_decide_eq_true hd1
   clear hd1
   refine lm (v := .pointer (some ⟨g1, 1, none⟩)) rfl rfl ?_
   refine lv (v := .int .i64 y.x) rfl rfl (yb_cell (off := 1) rfl Tw.kr Tw.m1 Tryd.underlying3 rfl Tw.kr) ?_
   refine lm (v := .pointer (some ⟨g2, 1, none⟩)) rfl rfl ?_
   refine lv (v := .int .i64 ((y.re q d).x)) rfl rfl (yb_cell (off := 1) rfl Tw.kr Tw.m0 Tryd.underlying3 rfl Tw.kr) ?_
   refine lp (v := .bool (decide (y.x = ((y.re q d).x)))) rfl rfl (run_bin rfl (vx := (.int .i64 y.x)) (vy := (.int .i64 ((y.re q d).x))) Tw.kr Tw.kr fun w => bi_eql rfl w) ?_
   refine lm (v := .bool (decide (y.x = ((y.re q d).x)))) rfl rfl ?_
   refine lm (v := .bool (decide (y.x = ((y.re q d).x)))) rfl rfl ?_
   cases hd2 : (decide (y.x = ((y.re q d).x))) with
   | false =>
     have h2 : ¬ (y.x = ((y.re q d).x)) := of_decide_eq_false hd2
     clear hd2
     exact absurd rfl h2
   | true =>
     have h2 : y.x = ((y.re q d).x) := of_decide_eq_true hd2
     clear hd2
     refine lm (v := .pointer (some ⟨g1, 2, none⟩)) rfl rfl ?_
     refine lv (v := .int .i64 y.y) rfl rfl (yb_cell (off := 2) rfl Tw.kr Tw.m1 Tryd.underlying3 rfl Tw.kr) ?_
     refine lm (v := .pointer (some ⟨g2, 2, none⟩)) rfl rfl ?_
     refine lv (v := .int .i64 ((y.re q d).y)) rfl rfl (yb_cell (off := 2) rfl Tw.kr Tw.m0 Tryd.underlying3 rfl Tw.kr) ?_
     refine lp (v := .bool (decide (y.y = ((y.re q d).y)))) rfl rfl (run_bin rfl (vx := (.int .i64 y.y)) (vy := (.int .i64 ((y.re q d).y))) Tw.kr Tw.kr fun w => bi_eql rfl w) ?_
     refine lm (v := .bool (decide (y.y = ((y.re q d).y)))) rfl rfl ?_
     refine lm (v := .bool (decide (y.y = ((y.re q d).y)))) rfl rfl ?_
     cases hd3 : (decide (y.y = ((y.re q d).y))) with
     | false =>
       have h3 : ¬ (y.y = ((y.re q d).y)) := of_decide_eq_false hd3
       clear hd3
       exact absurd rfl h3
     | true =>
       have h3 : y.y = ((y.re q d).y) := of_decide_eq_true hd3
       clear hd3
       refine lm (v := .pointer (some ⟨g1, 3, none⟩)) rfl rfl ?_
       refine lv (v := .int .i64 y.z) rfl rfl (yb_cell (off := 3) rfl Tw.kr Tw.m1 Tryd.underlying3 rfl Tw.kr) ?_
       refine lm (v := .pointer (some ⟨g2, 3, none⟩)) rfl rfl ?_
       refine lv (v := .int .i64 ((y.re q d).z)) rfl rfl (yb_cell (off := 3) rfl Tw.kr Tw.m0 Tryd.underlying3 rfl Tw.kr) ?_
       refine lp (v := .bool (decide (y.z = ((y.re q d).z)))) rfl rfl (run_bin rfl (vx := (.int .i64 y.z)) (vy := (.int .i64 ((y.re q d).z))) Tw.kr Tw.kr fun w => bi_eql rfl w) ?_
       refine lm (v := .bool (decide (y.z = ((y.re q d).z)))) rfl rfl ?_
       refine lm (v := .bool (decide (y.z = ((y.re q d).z)))) rfl rfl ?_
       cases hd4 : (decide (y.z = ((y.re q d).z))) with
       | false =>
         have h4 : ¬ (y.z = ((y.re q d).z)) := of_decide_eq_false hd4
         clear hd4
         exact absurd rfl h4
       | true =>
         have h4 : y.z = ((y.re q d).z) := of_decide_eq_true hd4
         clear hd4
         refine lm (v := .pointer (some ⟨g1, 4, none⟩)) rfl rfl ?_
         refine lv (v := .int .i64 y.surface) rfl rfl (yb_cell (off := 4) rfl Tw.kr Tw.m1 Tryd.underlying3 rfl Tw.kr) ?_
         refine lm (v := .pointer (some ⟨g2, 4, none⟩)) rfl rfl ?_
         refine lv (v := .int .i64 ((y.re q d).surface)) rfl rfl (yb_cell (off := 4) rfl Tw.kr Tw.m0 Tryd.underlying3 rfl Tw.kr) ?_
         refine lp (v := .bool (decide (y.surface = ((y.re q d).surface)))) rfl rfl (run_bin rfl (vx := (.int .i64 y.surface)) (vy := (.int .i64 ((y.re q d).surface))) Tw.kr Tw.kr fun w => bi_eql rfl w) ?_
         refine lm (v := .bool (decide (y.surface = ((y.re q d).surface)))) rfl rfl ?_
         refine lm (v := .bool (decide (y.surface = ((y.re q d).surface)))) rfl rfl ?_
         cases hd5 : (decide (y.surface = ((y.re q d).surface))) with
         | false =>
           have h5 : ¬ (y.surface = ((y.re q d).surface)) := of_decide_eq_false hd5
           clear hd5
           exact absurd rfl h5
         | true =>
           have h5 : y.surface = ((y.re q d).surface) := of_decide_eq_true hd5
           clear hd5
           refine lm (v := .pointer (some ⟨g1, 5, none⟩)) rfl rfl ?_
           refine lv (v := .slice y.sp y.steps.length y.sc) rfl rfl (yb_cell (off := 5) rfl Tw.kr Tw.m1 Tryd.underlying63 rfl Tw.kr) ?_
           refine lm (v := .pointer (some ⟨g2, 5, none⟩)) rfl rfl ?_
           refine lv (v := .slice ((y.re q d).sp) (((y.re q d).steps).length) ((y.re q d).sc)) rfl rfl (yb_cell (off := 5) rfl Tw.kr Tw.m0 Tryd.underlying63 rfl Tw.kr) ?_
           refine lv (v := .bool true) rfl rfl (yb_call (f := 110) (args := #[.slice y.sp y.steps.length y.sc, .slice ((y.re q d).sp) (((y.re q d).steps).length) ((y.re q d).sc)]) Tw.kf fun W hW => SameIntsL_yes y.steps y.sp q y.sc d hl W ((RL.base HP.out) _ (hW.sub (fun _ h => by cases h))) ((RL.base HQ.out) _ (hW.sub (fun _ h => by cases h)))) ?_
           refine lm (v := .bool true) rfl rfl ?_
           refine lm (v := .bool true) rfl rfl ?_
           refine wpL_done (fun W2 hW2 => ?_)
           change Code.wp ..
           refine wp_ret ?_
           try simp only [inBlock_ret, then_ret]
           refine bodyPost_ret (v := .bool true) ?_ rfl ?_
           · kernel_rfl
           · exact ⟨rfl, hW2.1⟩
set_option maxRecDepth 100000 in
set_option maxHeartbeats 4000000 in
theorem KeptTank_any (y : Tk) (q : Option Addr) (d : Nat) (hl : y.steps.length ≤ 17592186044403) (hd : y.steps.length + 12 ≤ d) (w : World) (hp : SLV w y.sp (y.steps.flatMap inC)) (hq : SLV w q ((y.steps ++ mkL 12).flatMap inC)) : Calls Tryd.prog 94 #[.agg (tkC (y.re q d)).toArray, .agg (tkC y).toArray] w fun e w' => e = .returned (.bool true) ∧ Below w.heap.size w w' := by
 have HP := Lib.hid hp
 clear hp
 have HQ := Lib.hid hq
 clear hq
 go_enter Tryd.func94, Tryd.ntmps94
 refine wp_seq ?_
 refine wp_region_L [] (KS.start w) ?_
 refine wpL_new (fun g => .pointer (some ⟨g, 0, none⟩)) (obi := .cells (tkC (y.re q d)).toArray 129 (0, 0)) rfl rfl Tw.kf Tw.pf fun g1 Bg1 Fg1 => ?_
 refine wpL_new (fun g => .pointer (some ⟨g, 0, none⟩)) (obi := .cells (tkC y).toArray 129 (0, 0)) rfl rfl Tw.kf Tw.pf fun g2 Bg2 Fg2 => ?_
 obtain dj3_0 : g1 ≠ g2 := Tw.dkf Fg2
 refine lm (v := .bool false) rfl rfl ?_
 refine wpL_done (fun W1 hW1 => ?_)
 change Code.wp ..
 refine wp_seq ?_
 refine wp_region_L _ hW1 ?_
 refine lv (v := .agg (tkC (y.re q d)).toArray) rfl rfl (yb_load (n := 6) (off := 0) rfl Tw.kr Tw.m1 Tryd.underlying129 rfl Tw.kr (by first | (simp [Value.cells]; done) | exact Nat.le_of_ble_eq_true rfl) Tw.kr) ?_
 refine lv (v := .agg (tkC y).toArray) rfl rfl (yb_load (n := 6) (off := 0) rfl Tw.kr Tw.m0 Tryd.underlying129 rfl Tw.kr (by first | (simp [Value.cells]; done) | exact Nat.le_of_ble_eq_true rfl) Tw.kr) ?_
 refine lv (v := .bool true) rfl rfl (yb_call (f := 95) (args := #[.agg (tkC (y.re q d)).toArray, .agg (tkC y).toArray]) Tw.kf fun W hW => SameTank_any (y.re q d) y.sp y.sc (show y.steps.length ≤ 17592186044403 by omega) W (slv_pre0 (HQ.out.keep hW.1)) (HP.out.keep hW.1)) ?_
 refine lm (v := .bool true) rfl rfl ?_
 refine lm (v := .pointer (some ⟨g1, 5, none⟩)) rfl rfl ?_
 refine lv (v := .slice ((y.re q d).sp) (((y.re q d).steps).length) ((y.re q d).sc)) rfl rfl (yb_cell (off := 5) rfl Tw.kr Tw.m1 Tryd.underlying63 rfl Tw.kr) ?_
 refine lm (v := .pointer (some ⟨g2, 5, none⟩)) rfl rfl ?_
 refine lv (v := .slice y.sp y.steps.length y.sc) rfl rfl (yb_cell (off := 5) rfl Tw.kr Tw.m0 Tryd.underlying63 rfl Tw.kr) ?_
 refine lv (v := .bool true) rfl rfl (yb_call (f := 109) (args := #[.slice ((y.re q d).sp) (((y.re q d).steps).length) ((y.re q d).sc), .slice y.sp y.steps.length y.sc]) Tw.kf fun W hW => KeptIntsL_any y.steps q y.sp d y.sc hl hd W (HQ.out.keep hW.1) (HP.out.keep hW.1)) ?_
 refine lm (v := .bool true) rfl rfl ?_
 refine lm (v := .bool true) rfl rfl ?_
 refine wpL_done (fun W2 hW2 => ?_)
 change Code.wp ..
 refine wp_ret ?_
 try simp only [inBlock_ret, then_ret]
 refine bodyPost_ret (v := .bool true) ?_ rfl ?_
 · kernel_rfl
 · exact ⟨rfl, hW2.1⟩
set_option maxRecDepth 100000 in
set_option maxHeartbeats 4000000 in
theorem markTank_any (i : Nat) (hi : i ≤ 4000000000) (w : World) : Calls Tryd.prog 78 #[.int .i64 1, .int .i64 i] w fun e w' => e = .returned (.agg (tkC (mkTnk i)).toArray) ∧ Below w.heap.size w w' := by
 go_enter Tryd.func78, Tryd.ntmps78
 refine wp_seq ?_
 refine wp_region_L [] (KS.start w) ?_
 refine wpL_new (fun g => .pointer (some ⟨g, 0, none⟩)) (obi := .cells #[.int .i64 0, .int .i64 0, .int .i64 0, .int .i64 0, .int .i64 0, .slice none 0 0] 129 (0, 0)) rfl rfl Tw.kf Tw.pf fun g1 Bg1 Fg1 => ?_
 refine wpL_done (fun W1 hW1 => ?_)
 change Code.wp ..
 refine wp_seq ?_
 refine wp_region_L _ hW1 ?_
 refine lm (v := .int .i64 1) rfl rfl ?_
 refine lm (v := .int .i64 ((i : Nat) : Int)) rfl rfl ?_
 refine lv (v := .int .i64 (mkI i)) rfl rfl (yb_call (f := 79) (args := #[.int .i64 1, .int .i64 ((i : Nat) : Int)]) Tw.kf fun W hW => mark_any 1 ((i : Nat) : Int) Tw.om Tw.om W) ?_
 refine lm (v := .agg #[.int .i64 (mkI i), .int .i64 0, .int .i64 0, .int .i64 0, .int .i64 0, .slice none 0 0]) rfl rfl ?_
 refine wpL_s [(g1, .cells #[.int .i64 (mkI i), .int .i64 0, .int .i64 0, .int .i64 0, .int .i64 0, .slice none 0 0] 129 (0, 0))] rfl rfl (st_row (off := 0) (v := .agg #[.int .i64 (mkI i), .int .i64 0, .int .i64 0, .int .i64 0, .int .i64 0, .slice none 0 0]) rfl Tw.kr Tw.kr Tw.m0 Bg1 Tw.kr (by first | (simp [Value.cells]; done) | exact Nat.le_of_ble_eq_true rfl) (by intro v hv; simp [Value.cells] at hv; first | (subst hv; rfl) | (rcases hv with rfl | rfl | rfl | rfl | rfl | rfl <;> rfl)) Tw.kr (List.forall_mem_cons.2 ⟨.inl rfl, (List.forall_mem_nil _)⟩)) ?_
 refine wpL_done (fun W2 hW2 => ?_)
 change Code.wp ..
 refine wp_ret ?_
 try simp only [inBlock_ret, then_ret]
 refine bodyPost_ret (v := .agg #[.int .i64 (mkI i), .int .i64 0, .int .i64 0, .int .i64 0, .int .i64 0, .slice none 0 0]) ?_ rfl ?_
 · exact (res_cell (p := 4) rfl rfl (hW2.2 _ Tw.m0) Tryd.underlying129 rfl Tw.kr)
 · exact ⟨rfl, hW2.1⟩
set_option maxRecDepth 100000 in
set_option maxHeartbeats 4000000 in
theorem LentTank_any (y : Tk) (hl : y.steps.length ≤ 17592186044403) (w : World) (hp : SLV w y.sp (y.steps.flatMap inC)) : Calls Tryd.prog 77 #[.agg (tkC y).toArray] w fun e w' => ∃ q d, e = .returned (.agg (tkC (y.re q d)).toArray) ∧ y.steps.length + 12 ≤ d ∧ OutV w w' 3 1 (.slice q (y.steps ++ mkL 12).length d) (y.steps ++ mkL 12).length ((y.steps ++ mkL 12).flatMap inC) ∧ Below w.heap.size w w' := by
 have HP := Lib.hid hp
 clear hp
 have hlen : (y.steps ++ mkL 12).length = y.steps.length + 12 := by rw [List.length_append, mkL_len]
 go_enter Tryd.func77, Tryd.ntmps77
 refine wp_seq ?_
 refine wp_region_L [] (KS.start w) ?_
 refine wpL_new (fun g => .pointer (some ⟨g, 0, none⟩)) (obi := .cells (tkC y).toArray 129 (0, 0)) rfl rfl Tw.kf Tw.pf fun g1 Bg1 Fg1 => ?_
 refine wpL_new (fun g => .pointer (some ⟨g, 0, none⟩)) (obi := .cells #[.int .i64 0, .int .i64 0, .int .i64 0, .int .i64 0, .int .i64 0, .slice none 0 0] 129 (0, 0)) rfl rfl Tw.kf Tw.pf fun g2 Bg2 Fg2 => ?_
 obtain dj3_0 : g1 ≠ g2 := Tw.dkf Fg2
 refine wpL_done (fun W1 hW1 => ?_)
 change Code.wp ..
 refine wp_seq ?_
 refine wp_region_L _ hW1 ?_
 refine lm (v := .pointer (some ⟨g1, 5, none⟩)) rfl rfl ?_
 refine lv (v := .slice y.sp y.steps.length y.sc) rfl rfl (yb_cell (off := 5) rfl Tw.kr Tw.m1 Tryd.underlying63 rfl Tw.kr) ?_
 refine wpL_c (f := 108) (args := #[.slice y.sp y.steps.length y.sc]) (LentRL w 3 1 y.steps.length (y.steps ++ mkL 12).length ((y.steps ++ mkL 12).flatMap inC) [(g2, .cells #[.int .i64 0, .int .i64 0, .int .i64 0, .int .i64 0, .int .i64 0, .slice none 0 0] 129 (0, 0)), (g1, .cells (tkC y).toArray 129 (0, 0))]) rfl Tw.kr Tw.kf (fun W hW => calls_lent hW (((LentIntsL_any y.steps y.sp y.sc hl W (HP.out.keep hW.1)).mono fun _ _ ⟨q, d, h1, h2, h3⟩ => ⟨q, d, h1, by rw [hlen]; exact h2, h3⟩))) Tw.pf ?_
 rintro _ _ ⟨p4, c4, Kl4, rfl, n4, O4, N4, rfl⟩
 obtain ⟨dj5_0, dj5_1⟩ : Dk g2 Kl4 ∧ Dk g1 Kl4 := Tw.djf N4
 refine lm (v := .pointer (some ⟨g1, 5, none⟩)) rfl rfl ?_
 refine wpL_s ((g2, .cells #[.int .i64 0, .int .i64 0, .int .i64 0, .int .i64 0, .int .i64 0, .slice none 0 0] 129 (0, 0)) :: (g1, .cells #[.int .i64 y.kilos, .int .i64 y.x, .int .i64 y.y, .int .i64 y.z, .int .i64 y.surface, .slice p4 y.steps.length c4] 129 (0, 0)) :: Kl4) rfl rfl (st_row (off := 5) (v := .slice p4 y.steps.length c4) rfl Tw.kr Tw.kr Tw.m1 Bg1 Tw.kr (by first | (simp [Value.cells]; done) | exact Nat.le_of_ble_eq_true rfl) (by intro v hv; simp [Value.cells] at hv; first | (subst hv; rfl) | (rcases hv with rfl <;> rfl)) Tw.kr (List.forall_mem_cons.2 ⟨.inr ⟨Tw.m0, Tw.nee⟩, (List.forall_mem_cons.2 ⟨.inl rfl, (fun p hp => .inr ⟨(.tail _ (.tail _ hp)), ((show Dk g1 Kl4 from Tw.djt) _ hp)⟩)⟩)⟩)) ?_
 refine wpL_done (fun W2 hW2 => ?_)
 change Code.wp ..
 refine wp_seq ?_
 refine wp_region_L _ hW2 ?_
 refine lv (v := .agg #[.int .i64 y.kilos, .int .i64 y.x, .int .i64 y.y, .int .i64 y.z, .int .i64 y.surface, .slice p4 y.steps.length c4]) rfl rfl (yb_load (n := 6) (off := 0) rfl Tw.kr Tw.m1 Tryd.underlying129 rfl Tw.kr (by first | (simp [Value.cells]; done) | exact Nat.le_of_ble_eq_true rfl) Tw.kr) ?_
 refine wpL_s ((g2, .cells #[.int .i64 y.kilos, .int .i64 y.x, .int .i64 y.y, .int .i64 y.z, .int .i64 y.surface, .slice p4 y.steps.length c4] 129 (0, 0)) :: (g1, .cells #[.int .i64 y.kilos, .int .i64 y.x, .int .i64 y.y, .int .i64 y.z, .int .i64 y.surface, .slice p4 y.steps.length c4] 129 (0, 0)) :: Kl4) rfl rfl (st_row (off := 0) (v := .agg #[.int .i64 y.kilos, .int .i64 y.x, .int .i64 y.y, .int .i64 y.z, .int .i64 y.surface, .slice p4 y.steps.length c4]) rfl Tw.kr Tw.kr Tw.m0 Bg2 Tw.kr (by first | (simp [Value.cells]; done) | exact Nat.le_of_ble_eq_true rfl) (by intro v hv; simp [Value.cells] at hv; first | (subst hv; rfl) | (rcases hv with rfl | rfl | rfl | rfl | rfl | rfl <;> rfl)) Tw.kr (List.forall_mem_cons.2 ⟨.inl rfl, (List.forall_mem_cons.2 ⟨.inr ⟨Tw.m1, Tw.nee⟩, (fun p hp => .inr ⟨(.tail _ (.tail _ hp)), ((show Dk g2 Kl4 from Tw.djt) _ hp)⟩)⟩)⟩)) ?_
 refine wpL_done (fun W3 hW3 => ?_)
 change Code.wp ..
 refine wp_ret ?_
 try simp only [inBlock_ret, then_ret]
 refine bodyPost_ret (v := .agg #[.int .i64 y.kilos, .int .i64 y.x, .int .i64 y.y, .int .i64 y.z, .int .i64 y.surface, .slice p4 y.steps.length c4]) ?_ rfl ?_
 · exact (res_cell (p := 2) rfl rfl (hW3.2 _ Tw.m0) Tryd.underlying129 rfl Tw.kr)
 · exact ⟨p4, c4, rfl, by omega, O4.out (fun p hp => by simp only [List.mem_cons, List.mem_append, List.nil_append, List.not_mem_nil, or_assoc, or_false, false_or, hp, true_or, or_true]) hW3, hW3.1⟩
theorem sw_SameTank (y : Tk) (q : Option Addr) (d : Nat) (hl : y.steps.length ≤ 17592186044403) (w : World) (hp : SLV w y.sp (y.steps.flatMap inC)) (hq : SLV w q (y.steps.flatMap inC)) : Calls Tryd.prog 95 #[.agg (tkC (y.re q d)).toArray, .agg (tkC y).toArray] w fun e w' => e = .returned (.bool true) ∧ Below w.heap.size w w' := SameTank_any (y.re q d) y.sp y.sc hl w hq hp
set_option maxRecDepth 100000 in
set_option maxHeartbeats 4000000 in
theorem LentTanks_any (l : List Tk) (p : Option Addr) (c : Nat) (hl : l.length ≤ 2199023255488) (lr : ∀ o ∈ l, o.steps.length ≤ 17592186044403) (w : World) (hp : SLV w p (l.flatMap tkC)) (hr : StR w l) : Calls Tryd.prog 43 #[.slice p l.length c] w fun e w' => ∃ X q d T, e = .returned (.slice q l.length d) ∧ l.length + 12 ≤ d ∧ X.length = l.length ∧ LentT l X T ∧ HL tkC q (X ++ mkTnkL 12) T ∧ (∀ b ∈ T, w.heap.size ≤ b.1) ∧ KS (w : Base) T w' := by
 have HP := Lib.hid hp
 clear hp
 have HR := Lib.hid hr
 clear hr
 go_enter Tryd.func43, Tryd.ntmps43
 refine wp_seq ?_
 refine wp_region_L [] (KS.start w) ?_
 refine lm (v := .slice none 0 0) rfl rfl ?_
 refine wpL_done (fun W1 hW1 => ?_)
 change Code.wp ..
 refine wp_seq ?_
 refine wp_region_L _ hW1 ?_
 refine lm (v := .slice p l.length c) rfl rfl ?_
 refine lp (v := .int .i64 ((l.length : Nat) : Int)) rfl rfl (run_lenL (p := p) (cap := c) (n := l.length) rfl Tryd.underlying28 Tw.kr) ?_
 refine lp (v := .int .i64 (((l.length + 12) : Nat) : Int)) rfl rfl (run_bin rfl (vx := (.int .i64 ((l.length : Nat) : Int))) (vy := (.int .i64 ((12 : Nat) : Int))) Tw.kr Tw.kr fun w => bn_add (z := (l.length + 12)) rfl (wr_i64 Tw.om) w) ?_
 refine wpL_new (fun g => .slice (some ⟨g, 0, none⟩) 0 (l.length + 12)) (obi := .cells (madeCells (Value.cells (.agg #[.int .i64 0, .int .i64 0, .int .i64 0, .int .i64 0, .int .i64 0, .slice none 0 0])) ((l.length + 12) * 6)) 129 (0, 0)) rfl rfl (run_mk0L (c := (l.length + 12)) (z := (.agg #[.int .i64 0, .int .i64 0, .int .i64 0, .int .i64 0, .int .i64 0, .slice none 0 0])) (sz := 6) (b := 64) rfl Tryd.underlying28 Tw.kr (by decide) Tw.kr Tw.kr Tw.om) Tw.pf fun g1 Bg1 Fg1 => ?_
 refine lm (v := .slice (some ⟨g1, 0, none⟩) 0 (l.length + 12)) rfl rfl ?_
 refine wpL_done (fun W2 hW2 => ?_)
 change Code.wp ..
 refine wp_seq ?_
 refine wp_seq ?_
 refine wp_region_L _ hW2 ?_
 refine lm (v := .int .i64 0) rfl rfl ?_
 refine wpL_done (fun W3 hW3 => ?_)
 change Code.wp ..
 refine wp_block ?_
 have Om := (own_madeL (cells := tkC) (c := (l.length + 12)) (E := 129) (z := (.agg #[.int .i64 0, .int .i64 0, .int .i64 0, .int .i64 0, .int .i64 0, .slice none 0 0])) Bg1 rfl Tw.om)
 go_loopw [4, 3] (fun u4 u3 wr => ∃ (i : Nat) (X : List Tk) (vo : Value) (Ko T : List (Nat × Obj)), (i ≤ l.length) ∧ (X.length = i) ∧ (OwnL w 129 6 vo X.length (X.flatMap tkC) Ko) ∧ (LentT l X T) ∧ (∀ b ∈ T, w.heap.size ≤ b.1) ∧ (Dj Ko T) ∧ u4 = .int .i64 ((i : Nat) : Int) ∧ vo = u3 ∧ KS w (Ko ++ T) wr) (fun u4 _ _ => l.length - (intOf u4).toNat)
 case atStart => exact ⟨0, [], .slice (some ⟨g1, 0, none⟩) 0 (l.length + 12), [(g1, .cells (madeCells (Value.cells (.agg #[.int .i64 0, .int .i64 0, .int .i64 0, .int .i64 0, .int .i64 0, .slice none 0 0])) ((l.length + 12) * 6)) 129 (0, 0))], [], (Nat.zero_le _), rfl, Om, (LentT.nil l), (fun _ h => by cases h), (show Dj [(g1, .cells (madeCells (Value.cells (.agg #[.int .i64 0, .int .i64 0, .int .i64 0, .int .i64 0, .int .i64 0, .slice none 0 0])) ((l.length + 12) * 6)) 129 (0, 0))] [] from Tw.djt), rfl, rfl, (hW3.sub (fun p hp => by first | exact hp | (simp only [List.mem_cons, List.mem_append, List.nil_append, List.not_mem_nil, or_assoc, or_false, false_or] at hp ⊢ <;> grind)))⟩
 case round =>
   obtain ⟨i, X, vo, Ko, T, hi, hXl, hO, hX, hT, dh2_0, rfl, rfl, hL4⟩ := hrel
   refine wp_seq ?_
   refine wp_seq ?_
   refine wp_region_L _ hL4 ?_
   refine lm (v := .int .i64 ((i : Nat) : Int)) rfl rfl ?_
   refine lm (v := .slice p l.length c) rfl rfl ?_
   refine lp (v := .int .i64 ((l.length : Nat) : Int)) rfl rfl (run_lenL (p := p) (cap := c) (n := l.length) rfl Tryd.underlying28 Tw.kr) ?_
   refine lp (v := .bool (decide (i < l.length))) rfl rfl (run_bin rfl (vx := (.int .i64 ((i : Nat) : Int))) (vy := (.int .i64 ((l.length : Nat) : Int))) Tw.kr Tw.kr fun w => bn_lss rfl w) ?_
   refine wpL_done (fun W5 hW5 => ?_)
   change Code.wp ..
   cases hd1 : (decide (i < l.length)) with
   | false =>
     have h1 : ¬ (i < l.length) := of_decide_eq_false hd1
     clear hd1
     refine wp_cond_false rfl ?_
     refine wp_exit ?_
     change Code.wp ..
     refine wp_seq ?_
     refine wp_seq ?_
     refine wp_region_L _ hW5 ?_
     refine lm (v := .int .i64 0) rfl rfl ?_
     refine wpL_done (fun W6 hW6 => ?_)
     change Code.wp ..
     refine wp_block ?_
     have hXl2 : X.length = l.length := by have := h1; omega
     go_loopw [6, 3] (fun u6 u3 wr => ∃ (j : Nat) (v2 : Value) (K2 : List (Nat × Obj)), (j ≤ 12) ∧ (OwnL w 129 6 v2 (X ++ mkTnkL j).length ((X ++ mkTnkL j).flatMap tkC) K2) ∧ (Dj T K2) ∧ u6 = .int .i64 ((j : Nat) : Int) ∧ v2 = u3 ∧ KS w (T ++ K2) wr) (fun u6 _ _ => 12 - (intOf u6).toNat)
     case atStart => exact ⟨0, vo, Ko, (Nat.zero_le _), (by rw [show X ++ mkTnkL 0 = X from by simp [mkTnkL]]; exact hO), (show Dj T Ko from Tw.djt), rfl, rfl, (hW6.sub (fun p hp => by first | exact hp | (simp only [List.mem_cons, List.mem_append, List.nil_append, List.not_mem_nil, or_assoc, or_false, false_or] at hp ⊢ <;> grind)))⟩
     case round =>
       obtain ⟨j, v2, K2, hj, hO2, dh3_0, rfl, rfl, hL7⟩ := hrel
       have hlj : (X ++ mkTnkL j).length = X.length + j := by rw [List.length_append, mkTnkL_len]
       refine wp_seq ?_
       refine wp_seq ?_
       refine wp_region_L _ hL7 ?_
       refine lm (v := .int .i64 ((j : Nat) : Int)) rfl rfl ?_
       refine lp (v := .bool (decide (j < 12))) rfl rfl (run_bin rfl (vx := (.int .i64 ((j : Nat) : Int))) (vy := (.int .i64 ((12 : Nat) : Int))) Tw.kr Tw.kr fun w => bn_lss rfl w) ?_
       refine wpL_done (fun W8 hW8 => ?_)
       change Code.wp ..
       cases hd2 : (decide (j < 12)) with
       | false =>
         have h2 : ¬ (j < 12) := of_decide_eq_false hd2
         clear hd2
         refine wp_cond_false rfl ?_
         refine wp_exit ?_
         change Code.wp ..
         refine wp_seq ?_
         refine wp_region_L _ hW8 ?_
         refine lm (v := v2) rfl rfl ?_
         refine lm (v := .slice p l.length c) rfl rfl ?_
         refine lp (v := .int .i64 ((l.length : Nat) : Int)) rfl rfl (run_lenL (p := p) (cap := c) (n := l.length) rfl Tryd.underlying28 Tw.kr) ?_
         have hj12 : j = 12 := by omega
         subst hj12
         obtain ⟨q9, d9, rfl, hd9, R9⟩ := own_rl hO2
         have hlen : (X ++ mkTnkL 12).length = l.length + 12 := by rw [List.length_append, mkTnkL_len, hXl2]
         refine lp (v := .slice q9 l.length d9) rfl rfl (run_slt (kd := .i64) (j := l.length) (n := (X ++ mkTnkL 12).length) (c := d9) (sz := 6) rfl Tryd.underlying28 Tw.kr Tw.kr Tw.kr Tw.om) ?_
         refine lm (v := .slice q9 l.length d9) rfl rfl ?_
         refine wpL_done (fun W9 hW9 => ?_)
         change Code.wp ..
         refine wp_ret ?_
         try simp only [inBlock_ret, then_ret]
         refine bodyPost_ret (v := .slice q9 l.length d9) ?_ rfl ?_
         · kernel_rfl
         · exact ⟨X, q9, d9, T ++ K2, rfl, by omega, hXl2, hX.mono (fun p hp => by simp only [List.mem_cons, List.mem_append, List.nil_append, List.not_mem_nil, or_assoc, or_false, false_or, hp, true_or, or_true]), (own_hl hO2).mono (fun p hp => by simp only [List.mem_cons, List.mem_append, List.nil_append, List.not_mem_nil, or_assoc, or_false, false_or, hp, true_or, or_true]), new_app hT (own_new hO2), hW9.sub (fun p hp => by simp only [List.mem_cons, List.mem_append, List.nil_append, List.not_mem_nil, or_assoc, or_false, false_or, hp, true_or, or_true])⟩
       | true =>
         have h2 : j < 12 := of_decide_eq_true hd2
         clear hd2
         refine wp_cond_true rfl ?_
         refine wp_skip ?_
         change Code.wp ..
         refine wp_seq ?_
         refine wp_block ?_
         refine wp_region_L _ hW8 ?_
         refine lm (v := v2) rfl rfl ?_
         refine lm (v := .int .i64 ((j : Nat) : Int)) rfl rfl ?_
         refine lv (v := .agg (tkC (mkTnk j)).toArray) rfl rfl (yb_call (f := 78) (args := #[.int .i64 1, .int .i64 ((j : Nat) : Int)]) Tw.kf fun W hW => markTank_any j Tw.om W) ?_
         refine wpL_new (fun g => .slice (some ⟨g, 0, none⟩) 1 1) (obi := .cells (tkC (mkTnk j)).toArray 129 (0, 0)) rfl rfl Tw.kf Tw.pf fun g4 Bg4 Fg4 => ?_
         obtain ⟨dj5_0, dj5_1⟩ : Dk g4 T ∧ Dk g4 K2 := Tw.dkf Fg4
         refine wpL_g (AppO w 129 6 T (((X ++ mkTnkL j).length) + 1) (((X ++ mkTnkL j).flatMap tkC) ++ [.int .i64 ((mkTnk j).kilos), .int .i64 ((mkTnk j).x), .int .i64 ((mkTnk j).y), .int .i64 ((mkTnk j).z), .int .i64 ((mkTnk j).surface), .slice ((mkTnk j).sp) (((mkTnk j).steps).length) ((mkTnk j).sc)])) rfl rfl (app_ownL el_tnk (m := 1) (c := 1) (news := [.int .i64 ((mkTnk j).kilos), .int .i64 ((mkTnk j).x), .int .i64 ((mkTnk j).y), .int .i64 ((mkTnk j).z), .int .i64 ((mkTnk j).surface), .slice ((mkTnk j).sp) (((mkTnk j).steps).length) ((mkTnk j).sc)]) rfl Tw.kr Tw.kr Tw.m0 hO2 Tw.sc (fun p hp => ⟨by simp only [List.mem_cons, List.mem_append, List.nil_append, List.not_mem_nil, or_assoc, or_false, false_or] at hp ⊢ <;> grind, (show Dj T K2 from Tw.djt) p hp⟩) rfl (by simp [strV, Value.oneCell']) Tw.om Tw.om Tw.om) Tw.pf ?_
         rintro v6 K9 ⟨Kl6, O6, N6, rfl⟩
         obtain dj7_0 : Dj T Kl6 := Tw.djf N6
         refine lm (v := v6) rfl rfl ?_
         refine wpL_done (fun W10 hW10 => ?_)
         change Code.wp ..
         refine wp_region_L _ hW10 ?_
         refine lm (v := .int .i64 ((j : Nat) : Int)) rfl rfl ?_
         refine lp (v := .int .i64 (((j + 1) : Nat) : Int)) rfl rfl (run_bin rfl (vx := (.int .i64 ((j : Nat) : Int))) (vy := (.int .i64 ((1 : Nat) : Int))) Tw.kr Tw.kr fun w => bn_add (z := (j + 1)) rfl (wr_i64 Tw.om) w) ?_
         refine lm (v := .int .i64 (((j + 1) : Nat) : Int)) rfl rfl ?_
         refine wpL_done (fun W11 hW11 => ?_)
         go_roundw
         case rel =>
           repeat apply Exists.intro
           exact ⟨⟨j + 1, v6, Kl6, Tw.om, (own_app O6 (by rw [mkTnkL_s, ← List.append_assoc, List.flatMap_append (ys := [mkTnk j])]; rfl) (by rw [mkTnkL_s, ← List.append_assoc, List.length_append (bs := [mkTnk j])]; rfl)), (show Dj T Kl6 from Tw.djt), rfl, rfl, (hW11.sub (fun p hp => by first | exact hp | (simp only [List.mem_cons, List.mem_append, List.nil_append, List.not_mem_nil, or_assoc, or_false, false_or] at hp ⊢ <;> grind)))⟩, rfl⟩
         case measure => (show 12 - (intOf (.int .i64 (((j + 1) : Nat) : Int))).toNat < 12 - (intOf (.int .i64 ((j : Nat) : Int))).toNat); simp only [intOf]; omega
   | true =>
     have h1 : i < l.length := of_decide_eq_true hd1
     clear hd1
     refine wp_cond_true rfl ?_
     refine wp_skip ?_
     change Code.wp ..
     refine wp_seq ?_
     refine wp_block ?_
     refine wp_seq ?_
     refine wp_region_L _ hW5 ?_
     refine lm (v := .slice p l.length c) rfl rfl ?_
     refine lm (v := .int .i64 ((i : Nat) : Int)) rfl rfl ?_
     obtain ⟨y8, g8_, f8_, hy8, hp8, hc8⟩ := RL.at (RL.base HP.out) tkC_len (by decide) (hW5.sub (fun _ h => by cases h)) (k := i) Tw.om
     refine lp (v := .pointer (some ⟨g8_, f8_ + i * 6, none⟩)) rfl rfl (run_idxQ (p := p) (cap := c) (n := l.length) (j := .i64) (k := i) (sz := 6) rfl Tryd.underlying28 Tw.kr Tw.kr hp8 Tw.kr Tw.om) ?_
     refine lv (v := .agg (tkC y8).toArray) rfl rfl (yb_rs (off := f8_ + i * 6) (cs := tkC y8) rfl Tw.kr (fun W hW => hc8 W (hW.sub (fun _ h => by cases h))) Tryd.underlying129 rfl Tw.kr) ?_
     refine wpL_c (f := 77) (args := #[.agg (tkC y8).toArray]) (LentFV w 3 1 (fun q d => .agg (tkC (y8.re q d)).toArray) (y8.steps.length + 12) (y8.steps ++ mkL 12).length ((y8.steps ++ mkL 12).flatMap inC) (Ko ++ T)) rfl Tw.kr Tw.kf (fun W hW => calls_lentf hW (LentTank_any y8 (lr y8 (List.mem_of_getElem? hy8)) W ((HR.out y8 (List.mem_of_getElem? hy8)).keep hW.1))) Tw.pf ?_
     rintro _ _ ⟨p9, c9, Kl9, rfl, n9, O9, N9, rfl⟩
     obtain ⟨dj10_0, dj10_1⟩ : Dj Ko Kl9 ∧ Dj T Kl9 := Tw.djf N9
     refine wpL_sub (K2 := (Ko ++ (T ++ Kl9))) (fun p hp => by simp only [List.mem_cons, List.mem_append, or_assoc] at hp ⊢; exact hp) ?_
     refine wpL_new (fun g => .pointer (some ⟨g, 0, none⟩)) (obi := .cells #[.int .i64 0, .int .i64 0, .int .i64 0, .int .i64 0, .int .i64 0, .slice none 0 0] 129 (0, 0)) rfl rfl Tw.kf Tw.pf fun g11 Bg11 Fg11 => ?_
     obtain ⟨dj12_0, dj12_1, dj12_2⟩ : Dk g11 Ko ∧ Dk g11 T ∧ Dk g11 Kl9 := Tw.dkf Fg11
     refine wpL_s ((g11, .cells (tkC (y8.re p9 c9)).toArray 129 (0, 0)) :: (Ko ++ (T ++ Kl9))) rfl rfl (st_row (off := 0) (v := .agg (tkC (y8.re p9 c9)).toArray) rfl Tw.kr Tw.kr Tw.m0 Bg11 Tw.kr (by first | (simp [Value.cells]; done) | exact Nat.le_of_ble_eq_true rfl) (fun v hv => tkC_one (y8.re p9 c9) v hv) Tw.kr (List.forall_mem_cons.2 ⟨.inl rfl, (fun p hp => .inr ⟨(.tail _ hp), ((show Dk g11 (Ko ++ (T ++ Kl9)) from Tw.djt) _ hp)⟩)⟩)) ?_
     refine wpL_done (fun W12 hW12 => ?_)
     change Code.wp ..
     refine wp_region_L _ hW12 ?_
     refine lm (v := vo) rfl rfl ?_
     refine lv (v := .agg (tkC (y8.re p9 c9)).toArray) rfl rfl (yb_load (n := 6) (off := 0) rfl Tw.kr Tw.m0 Tryd.underlying129 rfl Tw.kr (by first | (simp [Value.cells]; done) | exact Nat.le_of_ble_eq_true rfl) Tw.kr) ?_
     refine wpL_new (fun g => .slice (some ⟨g, 0, none⟩) 1 1) (obi := .cells (tkC (y8.re p9 c9)).toArray 129 (0, 0)) rfl rfl Tw.kf Tw.pf fun g13 Bg13 Fg13 => ?_
     obtain ⟨dj14_0, dj14_1, dj14_2, dj14_3⟩ : g11 ≠ g13 ∧ Dk g13 Ko ∧ Dk g13 T ∧ Dk g13 Kl9 := Tw.dkf Fg13
     refine wpL_g (AppO w 129 6 ((g11, .cells (tkC (y8.re p9 c9)).toArray 129 (0, 0)) :: (T ++ Kl9)) (X.length + 1) ((X.flatMap tkC) ++ [.int .i64 ((y8.re p9 c9).kilos), .int .i64 ((y8.re p9 c9).x), .int .i64 ((y8.re p9 c9).y), .int .i64 ((y8.re p9 c9).z), .int .i64 ((y8.re p9 c9).surface), .slice ((y8.re p9 c9).sp) (((y8.re p9 c9).steps).length) ((y8.re p9 c9).sc)])) rfl rfl (app_ownL el_tnk (m := 1) (c := 1) (news := [.int .i64 ((y8.re p9 c9).kilos), .int .i64 ((y8.re p9 c9).x), .int .i64 ((y8.re p9 c9).y), .int .i64 ((y8.re p9 c9).z), .int .i64 ((y8.re p9 c9).surface), .slice ((y8.re p9 c9).sp) (((y8.re p9 c9).steps).length) ((y8.re p9 c9).sc)]) rfl Tw.kr Tw.kr Tw.m0 hO Tw.sc (fun p hp => ⟨by simp only [List.mem_cons, List.mem_append, List.nil_append, List.not_mem_nil, or_assoc, or_false, false_or] at hp ⊢ <;> grind, (show Dj ((g11, .cells (tkC (y8.re p9 c9)).toArray 129 (0, 0)) :: (T ++ Kl9)) Ko from Tw.djt) p hp⟩) rfl (by simp [strV, Value.oneCell']) Tw.om Tw.om Tw.om) Tw.pf ?_
     rintro v15 K9 ⟨Kl15, O15, N15, rfl⟩
     obtain ⟨dj16_0, dj16_1, dj16_2⟩ : Dk g11 Kl15 ∧ Dj T Kl15 ∧ Dj Kl9 Kl15 := Tw.djf N15
     refine lm (v := v15) rfl rfl ?_
     refine wpL_done (fun W13 hW13 => ?_)
     change Code.wp ..
     refine wp_region_L _ hW13 ?_
     refine lm (v := .int .i64 ((i : Nat) : Int)) rfl rfl ?_
     refine lp (v := .int .i64 (((i + 1) : Nat) : Int)) rfl rfl (run_bin rfl (vx := (.int .i64 ((i : Nat) : Int))) (vy := (.int .i64 ((1 : Nat) : Int))) Tw.kr Tw.kr fun w => bn_add (z := (i + 1)) rfl (wr_i64 Tw.om) w) ?_
     refine lm (v := .int .i64 (((i + 1) : Nat) : Int)) rfl rfl ?_
     refine wpL_done (fun W14 hW14 => ?_)
     go_roundw
     case rel =>
       repeat apply Exists.intro
       exact ⟨⟨i + 1, (X ++ [y8.re p9 c9]), v15, Kl15, (T ++ Kl9), Tw.om, (by rw [List.length_append, List.length_singleton]; omega), (own_app O15 (by rw [List.flatMap_append]; rfl) (by rw [List.length_append]; rfl)), (LentT.s hX hXl hy8 n9 (own_hl O9)), (new_app hT (own_new O9)), (show Dj Kl15 (T ++ Kl9) from Tw.djt), rfl, rfl, (hW14.sub (fun p hp => by first | exact hp | (simp only [List.mem_cons, List.mem_append, List.nil_append, List.not_mem_nil, or_assoc, or_false, false_or] at hp ⊢ <;> grind)))⟩, rfl⟩
     case measure => (show l.length - (intOf (.int .i64 (((i + 1) : Nat) : Int))).toNat < l.length - (intOf (.int .i64 ((i : Nat) : Int))).toNat); simp only [intOf]; omega
set_option maxRecDepth 100000 in
set_option maxHeartbeats 4000000 in
theorem KeptTanks_any (l X : List Tk) (p q : Option Addr) (c d : Nat) (hl : l.length ≤ 2199023255488) (lr : ∀ o ∈ l, o.steps.length ≤ 17592186044403) (hX : X.length = l.length) (hc : l.length + 12 ≤ c) (w : World) (hp : SLV w p ((X ++ mkTnkL 12).flatMap tkC)) (ha : LentTA w l X) (hq : SLV w q (l.flatMap tkC)) (hr : StR w l) : Calls Tryd.prog 65 #[.slice p l.length c, .slice q l.length d] w fun e w' => e = .returned (.bool true) ∧ Below w.heap.size w w' := by
 have HP := Lib.hid hp
 clear hp
 have HQ := Lib.hid hq
 clear hq
 have HA := Lib.hid ha
 clear ha
 have HR := Lib.hid hr
 clear hr
 have hlen : (X ++ mkTnkL 12).length = l.length + 12 := by rw [List.length_append, mkTnkL_len, hX]
 go_enter Tryd.func65, Tryd.ntmps65
 refine wp_seq ?_
 refine wp_region_L [] (KS.start w) ?_
 refine lm (v := .bool false) rfl rfl ?_
 refine wpL_done (fun W1 hW1 => ?_)
 change Code.wp ..
 refine wp_seq ?_
 refine wp_seq ?_
 refine wp_region_L _ hW1 ?_
 refine lm (v := .slice p l.length c) rfl rfl ?_
 refine lp (v := .int .i64 ((l.length : Nat) : Int)) rfl rfl (run_lenL (p := p) (cap := c) (n := l.length) rfl Tryd.underlying28 Tw.kr) ?_
 refine lm (v := .slice q l.length d) rfl rfl ?_
 refine lp (v := .int .i64 ((l.length : Nat) : Int)) rfl rfl (run_lenL (p := q) (cap := d) (n := l.length) rfl Tryd.underlying28 Tw.kr) ?_
 refine lp (v := .bool false) rfl rfl (run_bin rfl (vx := (.int .i64 ((l.length : Nat) : Int))) (vy := (.int .i64 ((l.length : Nat) : Int))) Tw.kr Tw.kr fun w => bn_neq (decide_eq_true rfl) w) ?_
 refine wpL_done (fun W2 hW2 => ?_)
 change Code.wp ..
 refine wp_cond_false rfl ?_
 refine wp_skip ?_
 change Code.wp ..
 refine wp_seq ?_
 refine wp_region_L _ hW2 ?_
 refine lm (v := .slice p l.length c) rfl rfl ?_
 refine lm (v := .slice q l.length d) rfl rfl ?_
 refine lp (v := .int .i64 ((l.length : Nat) : Int)) rfl rfl (run_lenL (p := q) (cap := d) (n := l.length) rfl Tryd.underlying28 Tw.kr) ?_
 refine lp (v := .int .i64 (((l.length + 12) : Nat) : Int)) rfl rfl (run_bin rfl (vx := (.int .i64 ((l.length : Nat) : Int))) (vy := (.int .i64 ((12 : Nat) : Int))) Tw.kr Tw.kr fun w => bn_add (z := (l.length + 12)) rfl (wr_i64 Tw.om) w) ?_
 refine lp (v := .slice p (l.length + 12) c) rfl rfl (run_slt (kd := .i64) (j := (l.length + 12)) (n := l.length) (c := c) (sz := 6) rfl Tryd.underlying28 Tw.kr Tw.kr Tw.kr Tw.om) ?_
 refine lm (v := .slice p (l.length + 12) c) rfl rfl ?_
 refine wpL_done (fun W3 hW3 => ?_)
 change Code.wp ..
 refine wp_seq ?_
 refine wp_seq ?_
 refine wp_region_L _ hW3 ?_
 refine lm (v := .int .i64 0) rfl rfl ?_
 refine wpL_done (fun W4 hW4 => ?_)
 change Code.wp ..
 refine wp_block ?_
 go_loopw [6] (fun u6 wr => ∃ (i : Nat), (i ≤ l.length + 12) ∧ u6 = .int .i64 ((i : Nat) : Int) ∧ KS w [] wr) (fun u6 _ => l.length + 12 - (intOf u6).toNat)
 case atStart => exact ⟨0, (Nat.zero_le _), rfl, (hW4.sub (fun p hp => by first | exact hp | (simp only [List.mem_cons, List.mem_append, List.nil_append, List.not_mem_nil, or_assoc, or_false, false_or] at hp ⊢ <;> grind)))⟩
 case round =>
   obtain ⟨i, hi, rfl, hL5⟩ := hrel
   refine wp_seq ?_
   refine wp_seq ?_
   refine wp_region_L _ hL5 ?_
   refine lm (v := .int .i64 ((i : Nat) : Int)) rfl rfl ?_
   refine lm (v := .slice p (l.length + 12) c) rfl rfl ?_
   refine lp (v := .int .i64 (((l.length + 12) : Nat) : Int)) rfl rfl (run_lenL (p := p) (cap := c) (n := (l.length + 12)) rfl Tryd.underlying28 Tw.kr) ?_
   refine lp (v := .bool (decide (i < (l.length + 12)))) rfl rfl (run_bin rfl (vx := (.int .i64 ((i : Nat) : Int))) (vy := (.int .i64 (((l.length + 12) : Nat) : Int))) Tw.kr Tw.kr fun w => bn_lss rfl w) ?_
   refine wpL_done (fun W6 hW6 => ?_)
   change Code.wp ..
   cases hd1 : (decide (i < (l.length + 12))) with
   | false =>
     have h1 : ¬ (i < (l.length + 12)) := of_decide_eq_false hd1
     clear hd1
     refine wp_cond_false rfl ?_
     refine wp_exit ?_
     change Code.wp ..
     refine wp_seq ?_
     refine wp_region_L _ hW6 ?_
     refine lm (v := .bool true) rfl rfl ?_
     refine wpL_done (fun W7 hW7 => ?_)
     change Code.wp ..
     refine wp_ret ?_
     try simp only [inBlock_ret, then_ret]
     refine bodyPost_ret (v := .bool true) ?_ rfl ?_
     · kernel_rfl
     · exact ⟨rfl, hW7.1⟩
   | true =>
     have h1 : i < (l.length + 12) := of_decide_eq_true hd1
     clear hd1
     refine wp_cond_true rfl ?_
     refine wp_skip ?_
     change Code.wp ..
     refine wp_seq ?_
     refine wp_block ?_
     refine wp_seq ?_
     refine wp_region_V _ Tw.kr hW6 ?_
     refine vm (i := 0) (v := .int .i64 ((i : Nat) : Int)) rfl rfl rfl ?_
     refine vm (i := 1) (v := .slice q l.length d) rfl rfl rfl ?_
     refine vp (i := 2) (v := .int .i64 ((l.length : Nat) : Int)) rfl rfl rfl (run_lenL (p := q) (cap := d) (n := l.length) rfl Tryd.underlying28 Tw.kr) ?_
     refine vp (i := 3) (v := .bool (decide (i < l.length))) rfl rfl rfl (run_bin rfl (vx := (.int .i64 ((i : Nat) : Int))) (vy := (.int .i64 ((l.length : Nat) : Int))) Tw.kr Tw.kr fun w => bn_lss rfl w) ?_
     refine vm (i := 4) (v := .bool (decide (i < l.length))) rfl rfl rfl ?_
     cases hd2 : (decide (i < l.length)) with
     | false =>
       have h2 : ¬ (i < l.length) := of_decide_eq_false hd2
       clear hd2
       refine vn (i := 5) rfl rfl ?_
       refine vn (i := 6) rfl rfl ?_
       refine vn (i := 7) rfl rfl ?_
       refine vn (i := 8) rfl rfl ?_
       refine vn (i := 9) rfl rfl ?_
       refine vn (i := 10) rfl rfl ?_
       refine vn (i := 11) rfl rfl ?_
       refine vn (i := 12) rfl rfl ?_
       refine vn (i := 13) rfl rfl ?_
       refine vn (i := 14) rfl rfl ?_
       refine vm (i := 15) (v := .bool false) rfl rfl rfl ?_
       refine vm (i := 16) (v := .bool false) rfl rfl rfl ?_
       refine vm (i := 17) (v := .int .i64 ((i : Nat) : Int)) rfl rfl rfl ?_
       refine vm (i := 18) (v := .slice q l.length d) rfl rfl rfl ?_
       refine vp (i := 19) (v := .int .i64 ((l.length : Nat) : Int)) rfl rfl rfl (run_lenL (p := q) (cap := d) (n := l.length) rfl Tryd.underlying28 Tw.kr) ?_
       refine vp (i := 20) (v := .bool true) rfl rfl rfl (run_bin rfl (vx := (.int .i64 ((i : Nat) : Int))) (vy := (.int .i64 ((l.length : Nat) : Int))) Tw.kr Tw.kr fun w => bn_geq (decide_eq_false (by assumption)) w) ?_
       refine vm (i := 21) (v := .bool true) rfl rfl rfl ?_
       refine vm (i := 22) (v := .slice p (l.length + 12) c) rfl rfl rfl ?_
       refine vm (i := 23) (v := .int .i64 ((i : Nat) : Int)) rfl rfl rfl ?_
       obtain ⟨y1, g1_, f1_, hy1, hp1, hc1⟩ := RL.at (RL.base HP.out) tkC_len (by decide) (hW6.sub (fun _ h => by cases h)) (k := i) Tw.om
       refine vp (i := 24) (v := .pointer (some ⟨g1_, f1_ + i * 6, none⟩)) rfl rfl rfl (run_idxQ (p := p) (cap := c) (n := (l.length + 12)) (j := .i64) (k := i) (sz := 6) rfl Tryd.underlying28 Tw.kr Tw.kr hp1 Tw.kr Tw.om) ?_
       refine vb (i := 25) (v := .agg (tkC y1).toArray) rfl rfl rfl (yb_rs (off := f1_ + i * 6) (cs := tkC y1) rfl Tw.kr (fun W hW => hc1 W (hW.sub (fun _ h => by cases h))) Tryd.underlying129 rfl Tw.kr) ?_
       refine vm (i := 26) (v := .int .i64 ((i : Nat) : Int)) rfl rfl rfl ?_
       refine vm (i := 27) (v := .slice q l.length d) rfl rfl rfl ?_
       refine vp (i := 28) (v := .int .i64 ((l.length : Nat) : Int)) rfl rfl rfl (run_lenL (p := q) (cap := d) (n := l.length) rfl Tryd.underlying28 Tw.kr) ?_
       refine vp (i := 29) (v := .int .i64 (((i - l.length) : Nat) : Int)) rfl rfl rfl (run_bin rfl (vx := (.int .i64 ((i : Nat) : Int))) (vy := (.int .i64 ((l.length : Nat) : Int))) Tw.kr Tw.kr fun w => bn_sub (z := (i - l.length)) rfl Tw.om (wr_i64 Tw.om) w) ?_
       refine vv (i := 30) (v := .agg (tkC (mkTnk (i - l.length))).toArray) rfl rfl rfl (yb_call (f := 78) (args := #[.int .i64 1, .int .i64 (((i - l.length) : Nat) : Int)]) Tw.kf fun W hW => markTank_any (i - l.length) Tw.om W) ?_
       refine vv (i := 31) (v := .bool true) rfl rfl rfl (yb_call (f := 95) (args := #[.agg (tkC y1).toArray, .agg (tkC (mkTnk (i - l.length))).toArray]) Tw.kf fun W hW => (by rw [markTA_at hy1 hX h2]; exact SameTank_any (mkTnk (i - l.length)) none 0 (Nat.zero_le _) W (.inl rfl) (.inl rfl))) ?_
       refine vm (i := 32) (v := .bool false) rfl rfl rfl ?_
       refine vm (i := 33) (v := .bool false) rfl rfl rfl ?_
       refine vm (i := 34) (v := .bool false) rfl rfl rfl ?_
       refine wpV_done Tw.kr (fun W8 hW8 => ?_) _
       change Code.wp ..
       refine wp_cond_false rfl ?_
       refine wp_skip ?_
       change Code.wp ..
       refine wp_region_L _ hW8 ?_
       refine lm (v := .int .i64 ((i : Nat) : Int)) rfl rfl ?_
       refine lp (v := .int .i64 (((i + 1) : Nat) : Int)) rfl rfl (run_bin rfl (vx := (.int .i64 ((i : Nat) : Int))) (vy := (.int .i64 ((1 : Nat) : Int))) Tw.kr Tw.kr fun w => bn_add (z := (i + 1)) rfl (wr_i64 Tw.om) w) ?_
       refine lm (v := .int .i64 (((i + 1) : Nat) : Int)) rfl rfl ?_
       refine wpL_done (fun W9 hW9 => ?_)
       go_roundw
       case rel =>
         repeat apply Exists.intro
         exact ⟨⟨i + 1, Tw.om, rfl, (hW9.sub (fun p hp => by first | exact hp | (simp only [List.mem_cons, List.mem_append, List.nil_append, List.not_mem_nil, or_assoc, or_false, false_or] at hp ⊢ <;> grind)))⟩, rfl⟩
       case measure => (show l.length + 12 - (intOf (.int .i64 (((i + 1) : Nat) : Int))).toNat < l.length + 12 - (intOf (.int .i64 ((i : Nat) : Int))).toNat); simp only [intOf]; omega
     | true =>
       have h2 : i < l.length := of_decide_eq_true hd2
       clear hd2
       refine vm (i := 5) (v := .slice p (l.length + 12) c) rfl rfl rfl ?_
       refine vm (i := 6) (v := .int .i64 ((i : Nat) : Int)) rfl rfl rfl ?_
       obtain ⟨y2, g2_, f2_, hy2, hp2, hc2⟩ := RL.at (RL.base HP.out) tkC_len (by decide) (hW6.sub (fun _ h => by cases h)) (k := i) Tw.om
       refine vp (i := 7) (v := .pointer (some ⟨g2_, f2_ + i * 6, none⟩)) rfl rfl rfl (run_idxQ (p := p) (cap := c) (n := (l.length + 12)) (j := .i64) (k := i) (sz := 6) rfl Tryd.underlying28 Tw.kr Tw.kr hp2 Tw.kr Tw.om) ?_
       refine vb (i := 8) (v := .agg (tkC y2).toArray) rfl rfl rfl (yb_rs (off := f2_ + i * 6) (cs := tkC y2) rfl Tw.kr (fun W hW => hc2 W (hW.sub (fun _ h => by cases h))) Tryd.underlying129 rfl Tw.kr) ?_
       refine vm (i := 9) (v := .slice q l.length d) rfl rfl rfl ?_
       refine vm (i := 10) (v := .int .i64 ((i : Nat) : Int)) rfl rfl rfl ?_
       obtain ⟨y3, g3_, f3_, hy3, hp3, hc3⟩ := RL.at (RL.base HQ.out) tkC_len (by decide) (hW6.sub (fun _ h => by cases h)) (k := i) Tw.om
       refine vp (i := 11) (v := .pointer (some ⟨g3_, f3_ + i * 6, none⟩)) rfl rfl rfl (run_idxQ (p := q) (cap := d) (n := l.length) (j := .i64) (k := i) (sz := 6) rfl Tryd.underlying28 Tw.kr Tw.kr hp3 Tw.kr Tw.om) ?_
       refine vb (i := 12) (v := .agg (tkC y3).toArray) rfl rfl rfl (yb_rs (off := f3_ + i * 6) (cs := tkC y3) rfl Tw.kr (fun W hW => hc3 W (hW.sub (fun _ h => by cases h))) Tryd.underlying129 rfl Tw.kr) ?_
       refine vv (i := 13) (v := .bool true) rfl rfl rfl (yb_call (f := 94) (args := #[.agg (tkC y2).toArray, .agg (tkC y3).toArray]) Tw.kf fun W hW => (by obtain ⟨q7, d7, e7, n7, R7⟩ := lentTA_at HA.out hy2 hX hy3; rw [e7]; exact KeptTank_any y3 q7 d7 (lr y3 (List.mem_of_getElem? hy3)) n7 W ((HR.out y3 (List.mem_of_getElem? hy3)).keep hW.1) (R7.keep hW.1))) ?_
       refine vm (i := 14) (v := .bool false) rfl rfl rfl ?_
       refine vm (i := 15) (v := .bool false) rfl rfl rfl ?_
       refine vm (i := 16) (v := .bool false) rfl rfl rfl ?_
       refine vm (i := 17) (v := .int .i64 ((i : Nat) : Int)) rfl rfl rfl ?_
       refine vm (i := 18) (v := .slice q l.length d) rfl rfl rfl ?_
       refine vp (i := 19) (v := .int .i64 ((l.length : Nat) : Int)) rfl rfl rfl (run_lenL (p := q) (cap := d) (n := l.length) rfl Tryd.underlying28 Tw.kr) ?_
       refine vp (i := 20) (v := .bool false) rfl rfl rfl (run_bin rfl (vx := (.int .i64 ((i : Nat) : Int))) (vy := (.int .i64 ((l.length : Nat) : Int))) Tw.kr Tw.kr fun w => bn_geq (decide_eq_true (by assumption)) w) ?_
       refine vm (i := 21) (v := .bool false) rfl rfl rfl ?_
       refine vn (i := 22) rfl rfl ?_
       refine vn (i := 23) rfl rfl ?_
       refine vn (i := 24) rfl rfl ?_
       refine vn (i := 25) rfl rfl ?_
       refine vn (i := 26) rfl rfl ?_
       refine vn (i := 27) rfl rfl ?_
       refine vn (i := 28) rfl rfl ?_
       refine vn (i := 29) rfl rfl ?_
       refine vn (i := 30) rfl rfl ?_
       refine vn (i := 31) rfl rfl ?_
       refine vn (i := 32) rfl rfl ?_
       refine vm (i := 33) (v := .bool false) rfl rfl rfl ?_
       refine vm (i := 34) (v := .bool false) rfl rfl rfl ?_
       refine wpV_done Tw.kr (fun W10 hW10 => ?_) _
       change Code.wp ..
       refine wp_cond_false rfl ?_
       refine wp_skip ?_
       change Code.wp ..
       refine wp_region_L _ hW10 ?_
       refine lm (v := .int .i64 ((i : Nat) : Int)) rfl rfl ?_
       refine lp (v := .int .i64 (((i + 1) : Nat) : Int)) rfl rfl (run_bin rfl (vx := (.int .i64 ((i : Nat) : Int))) (vy := (.int .i64 ((1 : Nat) : Int))) Tw.kr Tw.kr fun w => bn_add (z := (i + 1)) rfl (wr_i64 Tw.om) w) ?_
       refine lm (v := .int .i64 (((i + 1) : Nat) : Int)) rfl rfl ?_
       refine wpL_done (fun W11 hW11 => ?_)
       go_roundw
       case rel =>
         repeat apply Exists.intro
         exact ⟨⟨i + 1, Tw.om, rfl, (hW11.sub (fun p hp => by first | exact hp | (simp only [List.mem_cons, List.mem_append, List.nil_append, List.not_mem_nil, or_assoc, or_false, false_or] at hp ⊢ <;> grind)))⟩, rfl⟩
       case measure => (show l.length + 12 - (intOf (.int .i64 (((i + 1) : Nat) : Int))).toNat < l.length + 12 - (intOf (.int .i64 ((i : Nat) : Int))).toNat); simp only [intOf]; omega
set_option maxRecDepth 100000 in
set_option maxHeartbeats 4000000 in
theorem SameTanks_any (l X : List Tk) (p q : Option Addr) (c d : Nat) (hl : l.length ≤ 2199023255488) (lr : ∀ o ∈ l, o.steps.length ≤ 17592186044403) (hX : X.length = l.length) (w : World) (hp : SLV w p (X.flatMap tkC)) (ha : LentTA w l X) (hq : SLV w q (l.flatMap tkC)) (hr : StR w l) : Calls Tryd.prog 89 #[.slice p X.length c, .slice q l.length d] w fun e w' => e = .returned (.bool true) ∧ Below w.heap.size w w' := by
 have HP := Lib.hid hp
 clear hp
 have HQ := Lib.hid hq
 clear hq
 have HA := Lib.hid ha
 clear ha
 have HR := Lib.hid hr
 clear hr
 go_enter Tryd.func89, Tryd.ntmps89
 refine wp_seq ?_
 refine wp_region_L [] (KS.start w) ?_
 refine lm (v := .bool false) rfl rfl ?_
 refine wpL_done (fun W1 hW1 => ?_)
 change Code.wp ..
 refine wp_seq ?_
 refine wp_seq ?_
 refine wp_region_L _ hW1 ?_
 refine lm (v := .slice p X.length c) rfl rfl ?_
 refine lp (v := .int .i64 ((X.length : Nat) : Int)) rfl rfl (run_lenL (p := p) (cap := c) (n := X.length) rfl Tryd.underlying28 Tw.kr) ?_
 refine lm (v := .slice q l.length d) rfl rfl ?_
 refine lp (v := .int .i64 ((l.length : Nat) : Int)) rfl rfl (run_lenL (p := q) (cap := d) (n := l.length) rfl Tryd.underlying28 Tw.kr) ?_
 refine lp (v := .bool (!(decide (X.length = l.length)))) rfl rfl (run_bin rfl (vx := (.int .i64 ((X.length : Nat) : Int))) (vy := (.int .i64 ((l.length : Nat) : Int))) Tw.kr Tw.kr fun w => bn_neq rfl w) ?_
 refine wpL_done (fun W2 hW2 => ?_)
 change Code.wp ..
 cases hd1 : (decide (X.length = l.length)) with
 | false =>
   have h1 : ¬ (X.length = l.length) := of_decide_eq_false hd1
   clear hd1
   exact absurd hX h1
 | true =>
   have h1 : X.length = l.length := of_decide_eq_true hd1
   clear hd1
   refine wp_cond_false rfl ?_
   refine wp_skip ?_
   change Code.wp ..
   refine wp_seq ?_
   refine wp_seq ?_
   refine wp_region_L _ hW2 ?_
   refine lm (v := .int .i64 0) rfl rfl ?_
   refine wpL_done (fun W3 hW3 => ?_)
   change Code.wp ..
   refine wp_block ?_
   go_loopw [5] (fun u5 wr => ∃ (i : Nat), (i ≤ l.length) ∧ u5 = .int .i64 ((i : Nat) : Int) ∧ KS w [] wr) (fun u5 _ => l.length - (intOf u5).toNat)
   case atStart => exact ⟨0, (Nat.zero_le _), rfl, (hW3.sub (fun p hp => by first | exact hp | (simp only [List.mem_cons, List.mem_append, List.nil_append, List.not_mem_nil, or_assoc, or_false, false_or] at hp ⊢ <;> grind)))⟩
   case round =>
     obtain ⟨i, hi, rfl, hL4⟩ := hrel
     refine wp_seq ?_
     refine wp_seq ?_
     refine wp_region_L _ hL4 ?_
     refine lm (v := .int .i64 ((i : Nat) : Int)) rfl rfl ?_
     refine lm (v := .slice p X.length c) rfl rfl ?_
     refine lp (v := .int .i64 ((X.length : Nat) : Int)) rfl rfl (run_lenL (p := p) (cap := c) (n := X.length) rfl Tryd.underlying28 Tw.kr) ?_
     refine lp (v := .bool (decide (i < X.length))) rfl rfl (run_bin rfl (vx := (.int .i64 ((i : Nat) : Int))) (vy := (.int .i64 ((X.length : Nat) : Int))) Tw.kr Tw.kr fun w => bn_lss rfl w) ?_
     refine wpL_done (fun W5 hW5 => ?_)
     change Code.wp ..
     cases hd2 : (decide (i < X.length)) with
     | false =>
       have h2 : ¬ (i < X.length) := of_decide_eq_false hd2
       clear hd2
       refine wp_cond_false rfl ?_
       refine wp_exit ?_
       change Code.wp ..
       refine wp_seq ?_
       refine wp_region_L _ hW5 ?_
       refine lm (v := .bool true) rfl rfl ?_
       refine wpL_done (fun W6 hW6 => ?_)
       change Code.wp ..
       refine wp_ret ?_
       try simp only [inBlock_ret, then_ret]
       refine bodyPost_ret (v := .bool true) ?_ rfl ?_
       · kernel_rfl
       · exact ⟨rfl, hW6.1⟩
     | true =>
       have h2 : i < X.length := of_decide_eq_true hd2
       clear hd2
       refine wp_cond_true rfl ?_
       refine wp_skip ?_
       change Code.wp ..
       refine wp_seq ?_
       refine wp_block ?_
       refine wp_seq ?_
       refine wp_region_V _ Tw.kr hW5 ?_
       refine vm (i := 0) (v := .slice p X.length c) rfl rfl rfl ?_
       refine vm (i := 1) (v := .int .i64 ((i : Nat) : Int)) rfl rfl rfl ?_
       obtain ⟨y1, g1_, f1_, hy1, hp1, hc1⟩ := RL.at (RL.base HP.out) tkC_len (by decide) (hW5.sub (fun _ h => by cases h)) (k := i) Tw.om
       refine vp (i := 2) (v := .pointer (some ⟨g1_, f1_ + i * 6, none⟩)) rfl rfl rfl (run_idxQ (p := p) (cap := c) (n := X.length) (j := .i64) (k := i) (sz := 6) rfl Tryd.underlying28 Tw.kr Tw.kr hp1 Tw.kr Tw.om) ?_
       refine vb (i := 3) (v := .agg (tkC y1).toArray) rfl rfl rfl (yb_rs (off := f1_ + i * 6) (cs := tkC y1) rfl Tw.kr (fun W hW => hc1 W (hW.sub (fun _ h => by cases h))) Tryd.underlying129 rfl Tw.kr) ?_
       refine vm (i := 4) (v := .slice q l.length d) rfl rfl rfl ?_
       refine vm (i := 5) (v := .int .i64 ((i : Nat) : Int)) rfl rfl rfl ?_
       obtain ⟨y2, g2_, f2_, hy2, hp2, hc2⟩ := RL.at (RL.base HQ.out) tkC_len (by decide) (hW5.sub (fun _ h => by cases h)) (k := i) Tw.om
       refine vp (i := 6) (v := .pointer (some ⟨g2_, f2_ + i * 6, none⟩)) rfl rfl rfl (run_idxQ (p := q) (cap := d) (n := l.length) (j := .i64) (k := i) (sz := 6) rfl Tryd.underlying28 Tw.kr Tw.kr hp2 Tw.kr Tw.om) ?_
       refine vb (i := 7) (v := .agg (tkC y2).toArray) rfl rfl rfl (yb_rs (off := f2_ + i * 6) (cs := tkC y2) rfl Tw.kr (fun W hW => hc2 W (hW.sub (fun _ h => by cases h))) Tryd.underlying129 rfl Tw.kr) ?_
       refine vv (i := 8) (v := .bool true) rfl rfl rfl (yb_call (f := 95) (args := #[.agg (tkC y1).toArray, .agg (tkC y2).toArray]) Tw.kf fun W hW => (by obtain ⟨q7, d7, e7, R7⟩ := lentTA_pre HA.out hy1 hy2; rw [e7]; exact sw_SameTank y2 q7 d7 (by have := lr y2 (List.mem_of_getElem? hy2); omega) W ((HR.out y2 (List.mem_of_getElem? hy2)).keep hW.1) (R7.keep hW.1))) ?_
       refine vm (i := 9) (v := .bool false) rfl rfl rfl ?_
       refine wpV_done Tw.kr (fun W7 hW7 => ?_) _
       change Code.wp ..
       refine wp_cond_false rfl ?_
       refine wp_skip ?_
       change Code.wp ..
       refine wp_region_L _ hW7 ?_
       refine lm (v := .int .i64 ((i : Nat) : Int)) rfl rfl ?_
       refine lp (v := .int .i64 (((i + 1) : Nat) : Int)) rfl rfl (run_bin rfl (vx := (.int .i64 ((i : Nat) : Int))) (vy := (.int .i64 ((1 : Nat) : Int))) Tw.kr Tw.kr fun w => bn_add (z := (i + 1)) rfl (wr_i64 Tw.om) w) ?_
       refine lm (v := .int .i64 (((i + 1) : Nat) : Int)) rfl rfl ?_
       refine wpL_done (fun W8 hW8 => ?_)
       go_roundw
       case rel =>
         repeat apply Exists.intro
         exact ⟨⟨i + 1, Tw.om, rfl, (hW8.sub (fun p hp => by first | exact hp | (simp only [List.mem_cons, List.mem_append, List.nil_append, List.not_mem_nil, or_assoc, or_false, false_or] at hp ⊢ <;> grind)))⟩, rfl⟩
       case measure => (show l.length - (intOf (.int .i64 (((i + 1) : Nat) : Int))).toNat < l.length - (intOf (.int .i64 ((i : Nat) : Int))).toNat); simp only [intOf]; omega
end Go.Proofs.YtlinjngifacmoaaDoor
namespace Go.Proofs.YtlinjngifacmoaaDoor
open Go Go.RowKit Tw
theorem eq_row (r : N5) {px py : Operand} (w : World) : (do eqGuard .eql 123 px py (.agg (n5C r).toArray) (.agg (n5C r).toArray); binOp .eql 123 (.agg (n5C r).toArray) (.agg (n5C r).toArray) : Sem Value).run Tryd.prog w = .ok (.bool true) w := by
 unfold n5C
 go_simp
theorem eq_fra (r : N5) {px py : Operand} (w : World) : (do eqGuard .eql 126 px py (.agg (n5C r).toArray) (.agg (n5C r).toArray); binOp .eql 126 (.agg (n5C r).toArray) (.agg (n5C r).toArray) : Sem Value).run Tryd.prog w = .ok (.bool true) w := by
 unfold n5C
 go_simp
theorem ne_row (r : N5) {px py : Operand} (w : World) : (do eqGuard .neq 123 px py (.agg (n5C r).toArray) (.agg (n5C r).toArray); binOp .neq 123 (.agg (n5C r).toArray) (.agg (n5C r).toArray) : Sem Value).run Tryd.prog w = .ok (.bool false) w := by
 unfold n5C
 go_simp
theorem ne_fra (r : N5) {px py : Operand} (w : World) : (do eqGuard .neq 126 px py (.agg (n5C r).toArray) (.agg (n5C r).toArray); binOp .neq 126 (.agg (n5C r).toArray) (.agg (n5C r).toArray) : Sem Value).run Tryd.prog w = .ok (.bool false) w := by
 unfold n5C
 go_simp
theorem kept_at {l m : List N5} {i : Nat} {x y : N5} (hx : (l ++ m)[i]? = some x) (hy : l[i]? = some y) : x = y := by
 rw [List.getElem?_append_left (List.getElem?_eq_some_iff.1 hy).1, hy] at hx
 exact (Option.some.inj hx).symm
theorem row_mark {l : List N5} {i : Nat} {x : N5} (hx : (l ++ mkRowL 12)[i]? = some x) (h : ¬ i < l.length) : x = mkRow (i - l.length) := by
 have h2 := (List.getElem?_eq_some_iff.1 hx).1
 rw [List.length_append, mkRowL_len] at h2
 rw [List.getElem?_append_right Tw.om, mkRowL_at Tw.om] at hx
 exact (Option.some.inj hx).symm
theorem fra_mark {l : List N5} {i : Nat} {x : N5} (hx : (l ++ mkFraL 12)[i]? = some x) (h : ¬ i < l.length) : x = mkFra (i - l.length) := by
 have h2 := (List.getElem?_eq_some_iff.1 hx).1
 rw [List.length_append, mkFraL_len] at h2
 rw [List.getElem?_append_right Tw.om, mkFraL_at Tw.om] at hx
 exact (Option.some.inj hx).symm
set_option maxRecDepth 100000 in
set_option maxHeartbeats 4000000 in
theorem KeptRows_any (l : List N5) (p q : Option Addr) (c d : Nat) (hl : l.length ≤ 3518437208780) (hc : l.length + 12 ≤ c) (w : World) (hp : SLV w p ((l ++ mkRowL 12).flatMap n5C)) (hq : SLV w q (l.flatMap n5C)) : Calls Tryd.prog 63 #[.slice p l.length c, .slice q l.length d] w fun e w' => e = .returned (.bool true) ∧ Below w.heap.size w w' := by
 have HP := Lib.hid hp
 clear hp
 have HQ := Lib.hid hq
 clear hq
 have hlen : (l ++ mkRowL 12).length = l.length + 12 := by rw [List.length_append, mkRowL_len]
 go_enter Tryd.func63, Tryd.ntmps63
 refine wp_seq ?_
 refine wp_region_L [] (KS.start w) ?_
 refine lm (v := .bool false) rfl rfl ?_
 refine wpL_done (fun W1 hW1 => ?_)
 change Code.wp ..
 refine wp_seq ?_
 refine wp_seq ?_
 refine wp_region_L _ hW1 ?_
 refine lm (v := .slice p l.length c) rfl rfl ?_
 refine lp (v := .int .i64 ((l.length : Nat) : Int)) rfl rfl (run_lenL (p := p) (cap := c) (n := l.length) rfl Tryd.underlying26 Tw.kr) ?_
 refine lm (v := .slice q l.length d) rfl rfl ?_
 refine lp (v := .int .i64 ((l.length : Nat) : Int)) rfl rfl (run_lenL (p := q) (cap := d) (n := l.length) rfl Tryd.underlying26 Tw.kr) ?_
 refine lp (v := .bool false) rfl rfl (run_bin rfl (vx := (.int .i64 ((l.length : Nat) : Int))) (vy := (.int .i64 ((l.length : Nat) : Int))) Tw.kr Tw.kr fun w => bn_neq (decide_eq_true rfl) w) ?_
 refine wpL_done (fun W2 hW2 => ?_)
 change Code.wp ..
 refine wp_cond_false rfl ?_
 refine wp_skip ?_
 change Code.wp ..
 refine wp_seq ?_
 refine wp_region_L _ hW2 ?_
 refine lm (v := .slice p l.length c) rfl rfl ?_
 refine lm (v := .slice q l.length d) rfl rfl ?_
 refine lp (v := .int .i64 ((l.length : Nat) : Int)) rfl rfl (run_lenL (p := q) (cap := d) (n := l.length) rfl Tryd.underlying26 Tw.kr) ?_
 refine lp (v := .int .i64 (((l.length + 12) : Nat) : Int)) rfl rfl (run_bin rfl (vx := (.int .i64 ((l.length : Nat) : Int))) (vy := (.int .i64 ((12 : Nat) : Int))) Tw.kr Tw.kr fun w => bn_add (z := (l.length + 12)) rfl (wr_i64 Tw.om) w) ?_
 refine lp (v := .slice p (l.length + 12) c) rfl rfl (run_slt (kd := .i64) (j := (l.length + 12)) (n := l.length) (c := c) (sz := 5) rfl Tryd.underlying26 Tw.kr Tw.kr Tw.kr Tw.om) ?_
 refine lm (v := .slice p (l.length + 12) c) rfl rfl ?_
 refine wpL_done (fun W3 hW3 => ?_)
 change Code.wp ..
 refine wp_seq ?_
 refine wp_seq ?_
 refine wp_region_L _ hW3 ?_
 refine lm (v := .int .i64 0) rfl rfl ?_
 refine wpL_done (fun W4 hW4 => ?_)
 change Code.wp ..
 refine wp_block ?_
 go_loopw [6] (fun u6 wr => ∃ (i : Nat), (i ≤ l.length + 12) ∧ u6 = .int .i64 ((i : Nat) : Int) ∧ KS w [] wr) (fun u6 _ => l.length + 12 - (intOf u6).toNat)
 case atStart => exact ⟨0, (Nat.zero_le _), rfl, (hW4.sub (fun p hp => by first | exact hp | (simp only [List.mem_cons, List.mem_append, List.nil_append, List.not_mem_nil, or_assoc, or_false, false_or] at hp ⊢ <;> grind)))⟩
 case round =>
   obtain ⟨i, hi, rfl, hL5⟩ := hrel
   refine wp_seq ?_
   refine wp_seq ?_
   refine wp_region_L _ hL5 ?_
   refine lm (v := .int .i64 ((i : Nat) : Int)) rfl rfl ?_
   refine lm (v := .slice p (l.length + 12) c) rfl rfl ?_
   refine lp (v := .int .i64 (((l.length + 12) : Nat) : Int)) rfl rfl (run_lenL (p := p) (cap := c) (n := (l.length + 12)) rfl Tryd.underlying26 Tw.kr) ?_
   refine lp (v := .bool (decide (i < (l.length + 12)))) rfl rfl (run_bin rfl (vx := (.int .i64 ((i : Nat) : Int))) (vy := (.int .i64 (((l.length + 12) : Nat) : Int))) Tw.kr Tw.kr fun w => bn_lss rfl w) ?_
   refine wpL_done (fun W6 hW6 => ?_)
   change Code.wp ..
   cases hd1 : (decide (i < (l.length + 12))) with
   | false =>
     have h1 : ¬ (i < (l.length + 12)) := of_decide_eq_false hd1
     clear hd1
     refine wp_cond_false rfl ?_
     refine wp_exit ?_
     change Code.wp ..
     refine wp_seq ?_
     refine wp_region_L _ hW6 ?_
     refine lm (v := .bool true) rfl rfl ?_
     refine wpL_done (fun W7 hW7 => ?_)
     change Code.wp ..
     refine wp_ret ?_
     try simp only [inBlock_ret, then_ret]
     refine bodyPost_ret (v := .bool true) ?_ rfl ?_
     · kernel_rfl
     · exact ⟨rfl, hW7.1⟩
   | true =>
     have h1 : i < (l.length + 12) := of_decide_eq_true hd1
     clear hd1
     refine wp_cond_true rfl ?_
     refine wp_skip ?_
     change Code.wp ..
     refine wp_seq ?_
     refine wp_block ?_
     refine wp_seq ?_
     refine wp_region_V _ Tw.kr hW6 ?_
     refine vm (i := 0) (v := .int .i64 ((i : Nat) : Int)) rfl rfl rfl ?_
     refine vm (i := 1) (v := .slice q l.length d) rfl rfl rfl ?_
     refine vp (i := 2) (v := .int .i64 ((l.length : Nat) : Int)) rfl rfl rfl (run_lenL (p := q) (cap := d) (n := l.length) rfl Tryd.underlying26 Tw.kr) ?_
     refine vp (i := 3) (v := .bool (decide (i < l.length))) rfl rfl rfl (run_bin rfl (vx := (.int .i64 ((i : Nat) : Int))) (vy := (.int .i64 ((l.length : Nat) : Int))) Tw.kr Tw.kr fun w => bn_lss rfl w) ?_
     refine vm (i := 4) (v := .bool (decide (i < l.length))) rfl rfl rfl ?_
     cases hd2 : (decide (i < l.length)) with
     | false =>
       have h2 : ¬ (i < l.length) := of_decide_eq_false hd2
       clear hd2
       refine vn (i := 5) rfl rfl ?_
       refine vn (i := 6) rfl rfl ?_
       refine vn (i := 7) rfl rfl ?_
       refine vn (i := 8) rfl rfl ?_
       refine vn (i := 9) rfl rfl ?_
       refine vn (i := 10) rfl rfl ?_
       refine vn (i := 11) rfl rfl ?_
       refine vn (i := 12) rfl rfl ?_
       refine vn (i := 13) rfl rfl ?_
       refine vn (i := 14) rfl rfl ?_
       refine vm (i := 15) (v := .bool false) rfl rfl rfl ?_
       refine vm (i := 16) (v := .bool false) rfl rfl rfl ?_
       refine vm (i := 17) (v := .int .i64 ((i : Nat) : Int)) rfl rfl rfl ?_
       refine vm (i := 18) (v := .slice q l.length d) rfl rfl rfl ?_
       refine vp (i := 19) (v := .int .i64 ((l.length : Nat) : Int)) rfl rfl rfl (run_lenL (p := q) (cap := d) (n := l.length) rfl Tryd.underlying26 Tw.kr) ?_
       refine vp (i := 20) (v := .bool true) rfl rfl rfl (run_bin rfl (vx := (.int .i64 ((i : Nat) : Int))) (vy := (.int .i64 ((l.length : Nat) : Int))) Tw.kr Tw.kr fun w => bn_geq (decide_eq_false (by assumption)) w) ?_
       refine vm (i := 21) (v := .bool true) rfl rfl rfl ?_
       refine vm (i := 22) (v := .slice p (l.length + 12) c) rfl rfl rfl ?_
       refine vm (i := 23) (v := .int .i64 ((i : Nat) : Int)) rfl rfl rfl ?_
       obtain ⟨y1, g1_, f1_, hy1, hp1, hc1⟩ := RL.at (RL.base HP.out) n5C_len (by decide) (hW6.sub (fun _ h => by cases h)) (k := i) Tw.om
       refine vp (i := 24) (v := .pointer (some ⟨g1_, f1_ + i * 5, none⟩)) rfl rfl rfl (run_idxQ (p := p) (cap := c) (n := (l.length + 12)) (j := .i64) (k := i) (sz := 5) rfl Tryd.underlying26 Tw.kr Tw.kr hp1 Tw.kr Tw.om) ?_
       refine vb (i := 25) (v := .agg (n5C y1).toArray) rfl rfl rfl (yb_rs (off := f1_ + i * 5) (cs := n5C y1) rfl Tw.kr (fun W hW => hc1 W (hW.sub (fun _ h => by cases h))) Tryd.underlying123 rfl Tw.kr) ?_
       refine vm (i := 26) (v := .int .i64 ((i : Nat) : Int)) rfl rfl rfl ?_
       refine vm (i := 27) (v := .slice q l.length d) rfl rfl rfl ?_
       refine vp (i := 28) (v := .int .i64 ((l.length : Nat) : Int)) rfl rfl rfl (run_lenL (p := q) (cap := d) (n := l.length) rfl Tryd.underlying26 Tw.kr) ?_
       refine vp (i := 29) (v := .int .i64 (((i - l.length) : Nat) : Int)) rfl rfl rfl (run_bin rfl (vx := (.int .i64 ((i : Nat) : Int))) (vy := (.int .i64 ((l.length : Nat) : Int))) Tw.kr Tw.kr fun w => bn_sub (z := (i - l.length)) rfl Tw.om (wr_i64 Tw.om) w) ?_
       refine vv (i := 30) (v := .agg (n5C (mkRow (i - l.length))).toArray) rfl rfl rfl (yb_call (f := 75) (args := #[.int .i64 1, .int .i64 (((i - l.length) : Nat) : Int)]) Tw.kf fun W hW => markRow_any (i - l.length) Tw.om W) ?_
       refine vp (i := 31) (v := .bool true) rfl rfl rfl (run_bin rfl (vx := .agg (n5C y1).toArray) (vy := .agg (n5C (mkRow (i - l.length))).toArray) Tw.kr Tw.kr fun w => (by rw [row_mark hy1 h2]; exact eq_row (mkRow (i - l.length)) w)) ?_
       refine vm (i := 32) (v := .bool false) rfl rfl rfl ?_
       refine vm (i := 33) (v := .bool false) rfl rfl rfl ?_
       refine vm (i := 34) (v := .bool false) rfl rfl rfl ?_
       refine wpV_done Tw.kr (fun W8 hW8 => ?_) _
       change Code.wp ..
       refine wp_cond_false rfl ?_
       refine wp_skip ?_
       change Code.wp ..
       refine wp_region_L _ hW8 ?_
       refine lm (v := .int .i64 ((i : Nat) : Int)) rfl rfl ?_
       refine lp (v := .int .i64 (((i + 1) : Nat) : Int)) rfl rfl (run_bin rfl (vx := (.int .i64 ((i : Nat) : Int))) (vy := (.int .i64 ((1 : Nat) : Int))) Tw.kr Tw.kr fun w => bn_add (z := (i + 1)) rfl (wr_i64 Tw.om) w) ?_
       refine lm (v := .int .i64 (((i + 1) : Nat) : Int)) rfl rfl ?_
       refine wpL_done (fun W9 hW9 => ?_)
       go_roundw
       case rel =>
         repeat apply Exists.intro
         exact ⟨⟨i + 1, Tw.om, rfl, (hW9.sub (fun p hp => by first | exact hp | (simp only [List.mem_cons, List.mem_append, List.nil_append, List.not_mem_nil, or_assoc, or_false, false_or] at hp ⊢ <;> grind)))⟩, rfl⟩
       case measure => (show l.length + 12 - (intOf (.int .i64 (((i + 1) : Nat) : Int))).toNat < l.length + 12 - (intOf (.int .i64 ((i : Nat) : Int))).toNat); simp only [intOf]; omega
     | true =>
       have h2 : i < l.length := of_decide_eq_true hd2
       clear hd2
       refine vm (i := 5) (v := .slice p (l.length + 12) c) rfl rfl rfl ?_
       refine vm (i := 6) (v := .int .i64 ((i : Nat) : Int)) rfl rfl rfl ?_
       obtain ⟨y2, g2_, f2_, hy2, hp2, hc2⟩ := RL.at (RL.base HP.out) n5C_len (by decide) (hW6.sub (fun _ h => by cases h)) (k := i) Tw.om
       refine vp (i := 7) (v := .pointer (some ⟨g2_, f2_ + i * 5, none⟩)) rfl rfl rfl (run_idxQ (p := p) (cap := c) (n := (l.length + 12)) (j := .i64) (k := i) (sz := 5) rfl Tryd.underlying26 Tw.kr Tw.kr hp2 Tw.kr Tw.om) ?_
       refine vb (i := 8) (v := .agg (n5C y2).toArray) rfl rfl rfl (yb_rs (off := f2_ + i * 5) (cs := n5C y2) rfl Tw.kr (fun W hW => hc2 W (hW.sub (fun _ h => by cases h))) Tryd.underlying123 rfl Tw.kr) ?_
       refine vm (i := 9) (v := .slice q l.length d) rfl rfl rfl ?_
       refine vm (i := 10) (v := .int .i64 ((i : Nat) : Int)) rfl rfl rfl ?_
       obtain ⟨y3, g3_, f3_, hy3, hp3, hc3⟩ := RL.at (RL.base HQ.out) n5C_len (by decide) (hW6.sub (fun _ h => by cases h)) (k := i) Tw.om
       refine vp (i := 11) (v := .pointer (some ⟨g3_, f3_ + i * 5, none⟩)) rfl rfl rfl (run_idxQ (p := q) (cap := d) (n := l.length) (j := .i64) (k := i) (sz := 5) rfl Tryd.underlying26 Tw.kr Tw.kr hp3 Tw.kr Tw.om) ?_
       refine vb (i := 12) (v := .agg (n5C y3).toArray) rfl rfl rfl (yb_rs (off := f3_ + i * 5) (cs := n5C y3) rfl Tw.kr (fun W hW => hc3 W (hW.sub (fun _ h => by cases h))) Tryd.underlying123 rfl Tw.kr) ?_
       refine vp (i := 13) (v := .bool true) rfl rfl rfl (run_bin rfl (vx := .agg (n5C y2).toArray) (vy := .agg (n5C y3).toArray) Tw.kr Tw.kr fun w => (by rw [kept_at hy2 hy3]; exact eq_row y3 w)) ?_
       refine vm (i := 14) (v := .bool false) rfl rfl rfl ?_
       refine vm (i := 15) (v := .bool false) rfl rfl rfl ?_
       refine vm (i := 16) (v := .bool false) rfl rfl rfl ?_
       refine vm (i := 17) (v := .int .i64 ((i : Nat) : Int)) rfl rfl rfl ?_
       refine vm (i := 18) (v := .slice q l.length d) rfl rfl rfl ?_
       refine vp (i := 19) (v := .int .i64 ((l.length : Nat) : Int)) rfl rfl rfl (run_lenL (p := q) (cap := d) (n := l.length) rfl Tryd.underlying26 Tw.kr) ?_
       refine vp (i := 20) (v := .bool false) rfl rfl rfl (run_bin rfl (vx := (.int .i64 ((i : Nat) : Int))) (vy := (.int .i64 ((l.length : Nat) : Int))) Tw.kr Tw.kr fun w => bn_geq (decide_eq_true (by assumption)) w) ?_
       refine vm (i := 21) (v := .bool false) rfl rfl rfl ?_
       refine vn (i := 22) rfl rfl ?_
       refine vn (i := 23) rfl rfl ?_
       refine vn (i := 24) rfl rfl ?_
       refine vn (i := 25) rfl rfl ?_
       refine vn (i := 26) rfl rfl ?_
       refine vn (i := 27) rfl rfl ?_
       refine vn (i := 28) rfl rfl ?_
       refine vn (i := 29) rfl rfl ?_
       refine vn (i := 30) rfl rfl ?_
       refine vn (i := 31) rfl rfl ?_
       refine vn (i := 32) rfl rfl ?_
       refine vm (i := 33) (v := .bool false) rfl rfl rfl ?_
       refine vm (i := 34) (v := .bool false) rfl rfl rfl ?_
       refine wpV_done Tw.kr (fun W10 hW10 => ?_) _
       change Code.wp ..
       refine wp_cond_false rfl ?_
       refine wp_skip ?_
       change Code.wp ..
       refine wp_region_L _ hW10 ?_
       refine lm (v := .int .i64 ((i : Nat) : Int)) rfl rfl ?_
       refine lp (v := .int .i64 (((i + 1) : Nat) : Int)) rfl rfl (run_bin rfl (vx := (.int .i64 ((i : Nat) : Int))) (vy := (.int .i64 ((1 : Nat) : Int))) Tw.kr Tw.kr fun w => bn_add (z := (i + 1)) rfl (wr_i64 Tw.om) w) ?_
       refine lm (v := .int .i64 (((i + 1) : Nat) : Int)) rfl rfl ?_
       refine wpL_done (fun W11 hW11 => ?_)
       go_roundw
       case rel =>
         repeat apply Exists.intro
         exact ⟨⟨i + 1, Tw.om, rfl, (hW11.sub (fun p hp => by first | exact hp | (simp only [List.mem_cons, List.mem_append, List.nil_append, List.not_mem_nil, or_assoc, or_false, false_or] at hp ⊢ <;> grind)))⟩, rfl⟩
       case measure => (show l.length + 12 - (intOf (.int .i64 (((i + 1) : Nat) : Int))).toNat < l.length + 12 - (intOf (.int .i64 ((i : Nat) : Int))).toNat); simp only [intOf]; omega
set_option maxRecDepth 100000 in
set_option maxHeartbeats 4000000 in
theorem KeptFrames_any (l : List N5) (p q : Option Addr) (c d : Nat) (hl : l.length ≤ 3518437208780) (hc : l.length + 12 ≤ c) (w : World) (hp : SLV w p ((l ++ mkFraL 12).flatMap n5C)) (hq : SLV w q (l.flatMap n5C)) : Calls Tryd.prog 64 #[.slice p l.length c, .slice q l.length d] w fun e w' => e = .returned (.bool true) ∧ Below w.heap.size w w' := by
 have HP := Lib.hid hp
 clear hp
 have HQ := Lib.hid hq
 clear hq
 have hlen : (l ++ mkFraL 12).length = l.length + 12 := by rw [List.length_append, mkFraL_len]
 go_enter Tryd.func64, Tryd.ntmps64
 refine wp_seq ?_
 refine wp_region_L [] (KS.start w) ?_
 refine lm (v := .bool false) rfl rfl ?_
 refine wpL_done (fun W1 hW1 => ?_)
 change Code.wp ..
 refine wp_seq ?_
 refine wp_seq ?_
 refine wp_region_L _ hW1 ?_
 refine lm (v := .slice p l.length c) rfl rfl ?_
 refine lp (v := .int .i64 ((l.length : Nat) : Int)) rfl rfl (run_lenL (p := p) (cap := c) (n := l.length) rfl Tryd.underlying27 Tw.kr) ?_
 refine lm (v := .slice q l.length d) rfl rfl ?_
 refine lp (v := .int .i64 ((l.length : Nat) : Int)) rfl rfl (run_lenL (p := q) (cap := d) (n := l.length) rfl Tryd.underlying27 Tw.kr) ?_
 refine lp (v := .bool false) rfl rfl (run_bin rfl (vx := (.int .i64 ((l.length : Nat) : Int))) (vy := (.int .i64 ((l.length : Nat) : Int))) Tw.kr Tw.kr fun w => bn_neq (decide_eq_true rfl) w) ?_
 refine wpL_done (fun W2 hW2 => ?_)
 change Code.wp ..
 refine wp_cond_false rfl ?_
 refine wp_skip ?_
 change Code.wp ..
 refine wp_seq ?_
 refine wp_region_L _ hW2 ?_
 refine lm (v := .slice p l.length c) rfl rfl ?_
 refine lm (v := .slice q l.length d) rfl rfl ?_
 refine lp (v := .int .i64 ((l.length : Nat) : Int)) rfl rfl (run_lenL (p := q) (cap := d) (n := l.length) rfl Tryd.underlying27 Tw.kr) ?_
 refine lp (v := .int .i64 (((l.length + 12) : Nat) : Int)) rfl rfl (run_bin rfl (vx := (.int .i64 ((l.length : Nat) : Int))) (vy := (.int .i64 ((12 : Nat) : Int))) Tw.kr Tw.kr fun w => bn_add (z := (l.length + 12)) rfl (wr_i64 Tw.om) w) ?_
 refine lp (v := .slice p (l.length + 12) c) rfl rfl (run_slt (kd := .i64) (j := (l.length + 12)) (n := l.length) (c := c) (sz := 5) rfl Tryd.underlying27 Tw.kr Tw.kr Tw.kr Tw.om) ?_
 refine lm (v := .slice p (l.length + 12) c) rfl rfl ?_
 refine wpL_done (fun W3 hW3 => ?_)
 change Code.wp ..
 refine wp_seq ?_
 refine wp_seq ?_
 refine wp_region_L _ hW3 ?_
 refine lm (v := .int .i64 0) rfl rfl ?_
 refine wpL_done (fun W4 hW4 => ?_)
 change Code.wp ..
 refine wp_block ?_
 go_loopw [6] (fun u6 wr => ∃ (i : Nat), (i ≤ l.length + 12) ∧ u6 = .int .i64 ((i : Nat) : Int) ∧ KS w [] wr) (fun u6 _ => l.length + 12 - (intOf u6).toNat)
 case atStart => exact ⟨0, (Nat.zero_le _), rfl, (hW4.sub (fun p hp => by first | exact hp | (simp only [List.mem_cons, List.mem_append, List.nil_append, List.not_mem_nil, or_assoc, or_false, false_or] at hp ⊢ <;> grind)))⟩
 case round =>
   obtain ⟨i, hi, rfl, hL5⟩ := hrel
   refine wp_seq ?_
   refine wp_seq ?_
   refine wp_region_L _ hL5 ?_
   refine lm (v := .int .i64 ((i : Nat) : Int)) rfl rfl ?_
   refine lm (v := .slice p (l.length + 12) c) rfl rfl ?_
   refine lp (v := .int .i64 (((l.length + 12) : Nat) : Int)) rfl rfl (run_lenL (p := p) (cap := c) (n := (l.length + 12)) rfl Tryd.underlying27 Tw.kr) ?_
   refine lp (v := .bool (decide (i < (l.length + 12)))) rfl rfl (run_bin rfl (vx := (.int .i64 ((i : Nat) : Int))) (vy := (.int .i64 (((l.length + 12) : Nat) : Int))) Tw.kr Tw.kr fun w => bn_lss rfl w) ?_
   refine wpL_done (fun W6 hW6 => ?_)
   change Code.wp ..
   cases hd1 : (decide (i < (l.length + 12))) with
   | false =>
     have h1 : ¬ (i < (l.length + 12)) := of_decide_eq_false hd1
     clear hd1
     refine wp_cond_false rfl ?_
     refine wp_exit ?_
     change Code.wp ..
     refine wp_seq ?_
     refine wp_region_L _ hW6 ?_
     refine lm (v := .bool true) rfl rfl ?_
     refine wpL_done (fun W7 hW7 => ?_)
     change Code.wp ..
     refine wp_ret ?_
     try simp only [inBlock_ret, then_ret]
     refine bodyPost_ret (v := .bool true) ?_ rfl ?_
     · kernel_rfl
     · exact ⟨rfl, hW7.1⟩
   | true =>
     have h1 : i < (l.length + 12) := of_decide_eq_true hd1
     clear hd1
     refine wp_cond_true rfl ?_
     refine wp_skip ?_
     change Code.wp ..
     refine wp_seq ?_
     refine wp_block ?_
     refine wp_seq ?_
     refine wp_region_V _ Tw.kr hW6 ?_
     refine vm (i := 0) (v := .int .i64 ((i : Nat) : Int)) rfl rfl rfl ?_
     refine vm (i := 1) (v := .slice q l.length d) rfl rfl rfl ?_
     refine vp (i := 2) (v := .int .i64 ((l.length : Nat) : Int)) rfl rfl rfl (run_lenL (p := q) (cap := d) (n := l.length) rfl Tryd.underlying27 Tw.kr) ?_
     refine vp (i := 3) (v := .bool (decide (i < l.length))) rfl rfl rfl (run_bin rfl (vx := (.int .i64 ((i : Nat) : Int))) (vy := (.int .i64 ((l.length : Nat) : Int))) Tw.kr Tw.kr fun w => bn_lss rfl w) ?_
     refine vm (i := 4) (v := .bool (decide (i < l.length))) rfl rfl rfl ?_
     cases hd2 : (decide (i < l.length)) with
     | false =>
       have h2 : ¬ (i < l.length) := of_decide_eq_false hd2
       clear hd2
       refine vn (i := 5) rfl rfl ?_
       refine vn (i := 6) rfl rfl ?_
       refine vn (i := 7) rfl rfl ?_
       refine vn (i := 8) rfl rfl ?_
       refine vn (i := 9) rfl rfl ?_
       refine vn (i := 10) rfl rfl ?_
       refine vn (i := 11) rfl rfl ?_
       refine vn (i := 12) rfl rfl ?_
       refine vn (i := 13) rfl rfl ?_
       refine vn (i := 14) rfl rfl ?_
       refine vm (i := 15) (v := .bool false) rfl rfl rfl ?_
       refine vm (i := 16) (v := .bool false) rfl rfl rfl ?_
       refine vm (i := 17) (v := .int .i64 ((i : Nat) : Int)) rfl rfl rfl ?_
       refine vm (i := 18) (v := .slice q l.length d) rfl rfl rfl ?_
       refine vp (i := 19) (v := .int .i64 ((l.length : Nat) : Int)) rfl rfl rfl (run_lenL (p := q) (cap := d) (n := l.length) rfl Tryd.underlying27 Tw.kr) ?_
       refine vp (i := 20) (v := .bool true) rfl rfl rfl (run_bin rfl (vx := (.int .i64 ((i : Nat) : Int))) (vy := (.int .i64 ((l.length : Nat) : Int))) Tw.kr Tw.kr fun w => bn_geq (decide_eq_false (by assumption)) w) ?_
       refine vm (i := 21) (v := .bool true) rfl rfl rfl ?_
       refine vm (i := 22) (v := .slice p (l.length + 12) c) rfl rfl rfl ?_
       refine vm (i := 23) (v := .int .i64 ((i : Nat) : Int)) rfl rfl rfl ?_
       obtain ⟨y1, g1_, f1_, hy1, hp1, hc1⟩ := RL.at (RL.base HP.out) n5C_len (by decide) (hW6.sub (fun _ h => by cases h)) (k := i) Tw.om
       refine vp (i := 24) (v := .pointer (some ⟨g1_, f1_ + i * 5, none⟩)) rfl rfl rfl (run_idxQ (p := p) (cap := c) (n := (l.length + 12)) (j := .i64) (k := i) (sz := 5) rfl Tryd.underlying27 Tw.kr Tw.kr hp1 Tw.kr Tw.om) ?_
       refine vb (i := 25) (v := .agg (n5C y1).toArray) rfl rfl rfl (yb_rs (off := f1_ + i * 5) (cs := n5C y1) rfl Tw.kr (fun W hW => hc1 W (hW.sub (fun _ h => by cases h))) Tryd.underlying126 rfl Tw.kr) ?_
       refine vm (i := 26) (v := .int .i64 ((i : Nat) : Int)) rfl rfl rfl ?_
       refine vm (i := 27) (v := .slice q l.length d) rfl rfl rfl ?_
       refine vp (i := 28) (v := .int .i64 ((l.length : Nat) : Int)) rfl rfl rfl (run_lenL (p := q) (cap := d) (n := l.length) rfl Tryd.underlying27 Tw.kr) ?_
       refine vp (i := 29) (v := .int .i64 (((i - l.length) : Nat) : Int)) rfl rfl rfl (run_bin rfl (vx := (.int .i64 ((i : Nat) : Int))) (vy := (.int .i64 ((l.length : Nat) : Int))) Tw.kr Tw.kr fun w => bn_sub (z := (i - l.length)) rfl Tw.om (wr_i64 Tw.om) w) ?_
       refine vv (i := 30) (v := .agg (n5C (mkFra (i - l.length))).toArray) rfl rfl rfl (yb_call (f := 76) (args := #[.int .i64 1, .int .i64 (((i - l.length) : Nat) : Int)]) Tw.kf fun W hW => markFrame_any (i - l.length) Tw.om W) ?_
       refine vp (i := 31) (v := .bool true) rfl rfl rfl (run_bin rfl (vx := .agg (n5C y1).toArray) (vy := .agg (n5C (mkFra (i - l.length))).toArray) Tw.kr Tw.kr fun w => (by rw [fra_mark hy1 h2]; exact eq_fra (mkFra (i - l.length)) w)) ?_
       refine vm (i := 32) (v := .bool false) rfl rfl rfl ?_
       refine vm (i := 33) (v := .bool false) rfl rfl rfl ?_
       refine vm (i := 34) (v := .bool false) rfl rfl rfl ?_
       refine wpV_done Tw.kr (fun W8 hW8 => ?_) _
       change Code.wp ..
       refine wp_cond_false rfl ?_
       refine wp_skip ?_
       change Code.wp ..
       refine wp_region_L _ hW8 ?_
       refine lm (v := .int .i64 ((i : Nat) : Int)) rfl rfl ?_
       refine lp (v := .int .i64 (((i + 1) : Nat) : Int)) rfl rfl (run_bin rfl (vx := (.int .i64 ((i : Nat) : Int))) (vy := (.int .i64 ((1 : Nat) : Int))) Tw.kr Tw.kr fun w => bn_add (z := (i + 1)) rfl (wr_i64 Tw.om) w) ?_
       refine lm (v := .int .i64 (((i + 1) : Nat) : Int)) rfl rfl ?_
       refine wpL_done (fun W9 hW9 => ?_)
       go_roundw
       case rel =>
         repeat apply Exists.intro
         exact ⟨⟨i + 1, Tw.om, rfl, (hW9.sub (fun p hp => by first | exact hp | (simp only [List.mem_cons, List.mem_append, List.nil_append, List.not_mem_nil, or_assoc, or_false, false_or] at hp ⊢ <;> grind)))⟩, rfl⟩
       case measure => (show l.length + 12 - (intOf (.int .i64 (((i + 1) : Nat) : Int))).toNat < l.length + 12 - (intOf (.int .i64 ((i : Nat) : Int))).toNat); simp only [intOf]; omega
     | true =>
       have h2 : i < l.length := of_decide_eq_true hd2
       clear hd2
       refine vm (i := 5) (v := .slice p (l.length + 12) c) rfl rfl rfl ?_
       refine vm (i := 6) (v := .int .i64 ((i : Nat) : Int)) rfl rfl rfl ?_
       obtain ⟨y2, g2_, f2_, hy2, hp2, hc2⟩ := RL.at (RL.base HP.out) n5C_len (by decide) (hW6.sub (fun _ h => by cases h)) (k := i) Tw.om
       refine vp (i := 7) (v := .pointer (some ⟨g2_, f2_ + i * 5, none⟩)) rfl rfl rfl (run_idxQ (p := p) (cap := c) (n := (l.length + 12)) (j := .i64) (k := i) (sz := 5) rfl Tryd.underlying27 Tw.kr Tw.kr hp2 Tw.kr Tw.om) ?_
       refine vb (i := 8) (v := .agg (n5C y2).toArray) rfl rfl rfl (yb_rs (off := f2_ + i * 5) (cs := n5C y2) rfl Tw.kr (fun W hW => hc2 W (hW.sub (fun _ h => by cases h))) Tryd.underlying126 rfl Tw.kr) ?_
       refine vm (i := 9) (v := .slice q l.length d) rfl rfl rfl ?_
       refine vm (i := 10) (v := .int .i64 ((i : Nat) : Int)) rfl rfl rfl ?_
       obtain ⟨y3, g3_, f3_, hy3, hp3, hc3⟩ := RL.at (RL.base HQ.out) n5C_len (by decide) (hW6.sub (fun _ h => by cases h)) (k := i) Tw.om
       refine vp (i := 11) (v := .pointer (some ⟨g3_, f3_ + i * 5, none⟩)) rfl rfl rfl (run_idxQ (p := q) (cap := d) (n := l.length) (j := .i64) (k := i) (sz := 5) rfl Tryd.underlying27 Tw.kr Tw.kr hp3 Tw.kr Tw.om) ?_
       refine vb (i := 12) (v := .agg (n5C y3).toArray) rfl rfl rfl (yb_rs (off := f3_ + i * 5) (cs := n5C y3) rfl Tw.kr (fun W hW => hc3 W (hW.sub (fun _ h => by cases h))) Tryd.underlying126 rfl Tw.kr) ?_
       refine vp (i := 13) (v := .bool true) rfl rfl rfl (run_bin rfl (vx := .agg (n5C y2).toArray) (vy := .agg (n5C y3).toArray) Tw.kr Tw.kr fun w => (by rw [kept_at hy2 hy3]; exact eq_fra y3 w)) ?_
       refine vm (i := 14) (v := .bool false) rfl rfl rfl ?_
       refine vm (i := 15) (v := .bool false) rfl rfl rfl ?_
       refine vm (i := 16) (v := .bool false) rfl rfl rfl ?_
       refine vm (i := 17) (v := .int .i64 ((i : Nat) : Int)) rfl rfl rfl ?_
       refine vm (i := 18) (v := .slice q l.length d) rfl rfl rfl ?_
       refine vp (i := 19) (v := .int .i64 ((l.length : Nat) : Int)) rfl rfl rfl (run_lenL (p := q) (cap := d) (n := l.length) rfl Tryd.underlying27 Tw.kr) ?_
       refine vp (i := 20) (v := .bool false) rfl rfl rfl (run_bin rfl (vx := (.int .i64 ((i : Nat) : Int))) (vy := (.int .i64 ((l.length : Nat) : Int))) Tw.kr Tw.kr fun w => bn_geq (decide_eq_true (by assumption)) w) ?_
       refine vm (i := 21) (v := .bool false) rfl rfl rfl ?_
       refine vn (i := 22) rfl rfl ?_
       refine vn (i := 23) rfl rfl ?_
       refine vn (i := 24) rfl rfl ?_
       refine vn (i := 25) rfl rfl ?_
       refine vn (i := 26) rfl rfl ?_
       refine vn (i := 27) rfl rfl ?_
       refine vn (i := 28) rfl rfl ?_
       refine vn (i := 29) rfl rfl ?_
       refine vn (i := 30) rfl rfl ?_
       refine vn (i := 31) rfl rfl ?_
       refine vn (i := 32) rfl rfl ?_
       refine vm (i := 33) (v := .bool false) rfl rfl rfl ?_
       refine vm (i := 34) (v := .bool false) rfl rfl rfl ?_
       refine wpV_done Tw.kr (fun W10 hW10 => ?_) _
       change Code.wp ..
       refine wp_cond_false rfl ?_
       refine wp_skip ?_
       change Code.wp ..
       refine wp_region_L _ hW10 ?_
       refine lm (v := .int .i64 ((i : Nat) : Int)) rfl rfl ?_
       refine lp (v := .int .i64 (((i + 1) : Nat) : Int)) rfl rfl (run_bin rfl (vx := (.int .i64 ((i : Nat) : Int))) (vy := (.int .i64 ((1 : Nat) : Int))) Tw.kr Tw.kr fun w => bn_add (z := (i + 1)) rfl (wr_i64 Tw.om) w) ?_
       refine lm (v := .int .i64 (((i + 1) : Nat) : Int)) rfl rfl ?_
       refine wpL_done (fun W11 hW11 => ?_)
       go_roundw
       case rel =>
         repeat apply Exists.intro
         exact ⟨⟨i + 1, Tw.om, rfl, (hW11.sub (fun p hp => by first | exact hp | (simp only [List.mem_cons, List.mem_append, List.nil_append, List.not_mem_nil, or_assoc, or_false, false_or] at hp ⊢ <;> grind)))⟩, rfl⟩
       case measure => (show l.length + 12 - (intOf (.int .i64 (((i + 1) : Nat) : Int))).toNat < l.length + 12 - (intOf (.int .i64 ((i : Nat) : Int))).toNat); simp only [intOf]; omega
set_option maxRecDepth 100000 in
set_option maxHeartbeats 4000000 in
theorem SameRows_any (l : List N5) (p q : Option Addr) (c d : Nat) (hl : l.length ≤ 3518437208780) (w : World) (hp : SLV w p (l.flatMap n5C)) (hq : SLV w q (l.flatMap n5C)) : Calls Tryd.prog 87 #[.slice p l.length c, .slice q l.length d] w fun e w' => e = .returned (.bool true) ∧ Below w.heap.size w w' := by
 have HP := Lib.hid hp
 clear hp
 have HQ := Lib.hid hq
 clear hq
 go_enter Tryd.func87, Tryd.ntmps87
 refine wp_seq ?_
 refine wp_region_L [] (KS.start w) ?_
 refine lm (v := .bool false) rfl rfl ?_
 refine wpL_done (fun W1 hW1 => ?_)
 change Code.wp ..
 refine wp_seq ?_
 refine wp_seq ?_
 refine wp_region_L _ hW1 ?_
 refine lm (v := .slice p l.length c) rfl rfl ?_
 refine lp (v := .int .i64 ((l.length : Nat) : Int)) rfl rfl (run_lenL (p := p) (cap := c) (n := l.length) rfl Tryd.underlying26 Tw.kr) ?_
 refine lm (v := .slice q l.length d) rfl rfl ?_
 refine lp (v := .int .i64 ((l.length : Nat) : Int)) rfl rfl (run_lenL (p := q) (cap := d) (n := l.length) rfl Tryd.underlying26 Tw.kr) ?_
 refine lp (v := .bool false) rfl rfl (run_bin rfl (vx := (.int .i64 ((l.length : Nat) : Int))) (vy := (.int .i64 ((l.length : Nat) : Int))) Tw.kr Tw.kr fun w => bn_neq (decide_eq_true rfl) w) ?_
 refine wpL_done (fun W2 hW2 => ?_)
 change Code.wp ..
 refine wp_cond_false rfl ?_
 refine wp_skip ?_
 change Code.wp ..
 refine wp_seq ?_
 refine wp_seq ?_
 refine wp_region_L _ hW2 ?_
 refine lm (v := .int .i64 0) rfl rfl ?_
 refine wpL_done (fun W3 hW3 => ?_)
 change Code.wp ..
 refine wp_block ?_
 go_loopw [5] (fun u5 wr => ∃ (i : Nat), (i ≤ l.length) ∧ u5 = .int .i64 ((i : Nat) : Int) ∧ KS w [] wr) (fun u5 _ => l.length - (intOf u5).toNat)
 case atStart => exact ⟨0, (Nat.zero_le _), rfl, (hW3.sub (fun p hp => by first | exact hp | (simp only [List.mem_cons, List.mem_append, List.nil_append, List.not_mem_nil, or_assoc, or_false, false_or] at hp ⊢ <;> grind)))⟩
 case round =>
   obtain ⟨i, hi, rfl, hL4⟩ := hrel
   refine wp_seq ?_
   refine wp_seq ?_
   refine wp_region_L _ hL4 ?_
   refine lm (v := .int .i64 ((i : Nat) : Int)) rfl rfl ?_
   refine lm (v := .slice p l.length c) rfl rfl ?_
   refine lp (v := .int .i64 ((l.length : Nat) : Int)) rfl rfl (run_lenL (p := p) (cap := c) (n := l.length) rfl Tryd.underlying26 Tw.kr) ?_
   refine lp (v := .bool (decide (i < l.length))) rfl rfl (run_bin rfl (vx := (.int .i64 ((i : Nat) : Int))) (vy := (.int .i64 ((l.length : Nat) : Int))) Tw.kr Tw.kr fun w => bn_lss rfl w) ?_
   refine wpL_done (fun W5 hW5 => ?_)
   change Code.wp ..
   cases hd1 : (decide (i < l.length)) with
   | false =>
     have h1 : ¬ (i < l.length) := of_decide_eq_false hd1
     clear hd1
     refine wp_cond_false rfl ?_
     refine wp_exit ?_
     change Code.wp ..
     refine wp_seq ?_
     refine wp_region_L _ hW5 ?_
     refine lm (v := .bool true) rfl rfl ?_
     refine wpL_done (fun W6 hW6 => ?_)
     change Code.wp ..
     refine wp_ret ?_
     try simp only [inBlock_ret, then_ret]
     refine bodyPost_ret (v := .bool true) ?_ rfl ?_
     · kernel_rfl
     · exact ⟨rfl, hW6.1⟩
   | true =>
     have h1 : i < l.length := of_decide_eq_true hd1
     clear hd1
     refine wp_cond_true rfl ?_
     refine wp_skip ?_
     change Code.wp ..
     refine wp_seq ?_
     refine wp_block ?_
     refine wp_seq ?_
     refine wp_region_V _ Tw.kr hW5 ?_
     refine vm (i := 0) (v := .slice p l.length c) rfl rfl rfl ?_
     refine vm (i := 1) (v := .int .i64 ((i : Nat) : Int)) rfl rfl rfl ?_
     obtain ⟨y1, g1_, f1_, hy1, hp1, hc1⟩ := RL.at (RL.base HP.out) n5C_len (by decide) (hW5.sub (fun _ h => by cases h)) (k := i) Tw.om
     refine vp (i := 2) (v := .pointer (some ⟨g1_, f1_ + i * 5, none⟩)) rfl rfl rfl (run_idxQ (p := p) (cap := c) (n := l.length) (j := .i64) (k := i) (sz := 5) rfl Tryd.underlying26 Tw.kr Tw.kr hp1 Tw.kr Tw.om) ?_
     refine vb (i := 3) (v := .agg (n5C y1).toArray) rfl rfl rfl (yb_rs (off := f1_ + i * 5) (cs := n5C y1) rfl Tw.kr (fun W hW => hc1 W (hW.sub (fun _ h => by cases h))) Tryd.underlying123 rfl Tw.kr) ?_
     refine vm (i := 4) (v := .slice q l.length d) rfl rfl rfl ?_
     refine vm (i := 5) (v := .int .i64 ((i : Nat) : Int)) rfl rfl rfl ?_
     obtain ⟨y2, g2_, f2_, hy2, hp2, hc2⟩ := RL.at (RL.base HQ.out) n5C_len (by decide) (hW5.sub (fun _ h => by cases h)) (k := i) Tw.om
     refine vp (i := 6) (v := .pointer (some ⟨g2_, f2_ + i * 5, none⟩)) rfl rfl rfl (run_idxQ (p := q) (cap := d) (n := l.length) (j := .i64) (k := i) (sz := 5) rfl Tryd.underlying26 Tw.kr Tw.kr hp2 Tw.kr Tw.om) ?_
     refine vb (i := 7) (v := .agg (n5C y2).toArray) rfl rfl rfl (yb_rs (off := f2_ + i * 5) (cs := n5C y2) rfl Tw.kr (fun W hW => hc2 W (hW.sub (fun _ h => by cases h))) Tryd.underlying123 rfl Tw.kr) ?_
     refine vp (i := 8) (v := .bool false) rfl rfl rfl (run_bin rfl (vx := .agg (n5C y1).toArray) (vy := .agg (n5C y2).toArray) Tw.kr Tw.kr fun w => (by rw [show y1 = y2 from Option.some.inj (hy1.symm.trans hy2)]; exact ne_row y2 w)) ?_
     refine wpV_done Tw.kr (fun W7 hW7 => ?_) _
     change Code.wp ..
     refine wp_cond_false rfl ?_
     refine wp_skip ?_
     change Code.wp ..
     refine wp_region_L _ hW7 ?_
     refine lm (v := .int .i64 ((i : Nat) : Int)) rfl rfl ?_
     refine lp (v := .int .i64 (((i + 1) : Nat) : Int)) rfl rfl (run_bin rfl (vx := (.int .i64 ((i : Nat) : Int))) (vy := (.int .i64 ((1 : Nat) : Int))) Tw.kr Tw.kr fun w => bn_add (z := (i + 1)) rfl (wr_i64 Tw.om) w) ?_
     refine lm (v := .int .i64 (((i + 1) : Nat) : Int)) rfl rfl ?_
     refine wpL_done (fun W8 hW8 => ?_)
     go_roundw
     case rel =>
       repeat apply Exists.intro
       exact ⟨⟨i + 1, Tw.om, rfl, (hW8.sub (fun p hp => by first | exact hp | (simp only [List.mem_cons, List.mem_append, List.nil_append, List.not_mem_nil, or_assoc, or_false, false_or] at hp ⊢ <;> grind)))⟩, rfl⟩
     case measure => (show l.length - (intOf (.int .i64 (((i + 1) : Nat) : Int))).toNat < l.length - (intOf (.int .i64 ((i : Nat) : Int))).toNat); simp only [intOf]; omega
set_option maxRecDepth 100000 in
set_option maxHeartbeats 4000000 in
theorem SameFrames_any (l : List N5) (p q : Option Addr) (c d : Nat) (hl : l.length ≤ 3518437208780) (w : World) (hp : SLV w p (l.flatMap n5C)) (hq : SLV w q (l.flatMap n5C)) : Calls Tryd.prog 88 #[.slice p l.length c, .slice q l.length d] w fun e w' => e = .returned (.bool true) ∧ Below w.heap.size w w' := by
 have HP := Lib.hid hp
 clear hp
 have HQ := Lib.hid hq
 clear hq
 go_enter Tryd.func88, Tryd.ntmps88
 refine wp_seq ?_
 refine wp_region_L [] (KS.start w) ?_
 refine lm (v := .bool false) rfl rfl ?_
 refine wpL_done (fun W1 hW1 => ?_)
 change Code.wp ..
 refine wp_seq ?_
 refine wp_seq ?_
 refine wp_region_L _ hW1 ?_
 refine lm (v := .slice p l.length c) rfl rfl ?_
 refine lp (v := .int .i64 ((l.length : Nat) : Int)) rfl rfl (run_lenL (p := p) (cap := c) (n := l.length) rfl Tryd.underlying27 Tw.kr) ?_
 refine lm (v := .slice q l.length d) rfl rfl ?_
 refine lp (v := .int .i64 ((l.length : Nat) : Int)) rfl rfl (run_lenL (p := q) (cap := d) (n := l.length) rfl Tryd.underlying27 Tw.kr) ?_
 refine lp (v := .bool false) rfl rfl (run_bin rfl (vx := (.int .i64 ((l.length : Nat) : Int))) (vy := (.int .i64 ((l.length : Nat) : Int))) Tw.kr Tw.kr fun w => bn_neq (decide_eq_true rfl) w) ?_
 refine wpL_done (fun W2 hW2 => ?_)
 change Code.wp ..
 refine wp_cond_false rfl ?_
 refine wp_skip ?_
 change Code.wp ..
 refine wp_seq ?_
 refine wp_seq ?_
 refine wp_region_L _ hW2 ?_
 refine lm (v := .int .i64 0) rfl rfl ?_
 refine wpL_done (fun W3 hW3 => ?_)
 change Code.wp ..
 refine wp_block ?_
 go_loopw [5] (fun u5 wr => ∃ (i : Nat), (i ≤ l.length) ∧ u5 = .int .i64 ((i : Nat) : Int) ∧ KS w [] wr) (fun u5 _ => l.length - (intOf u5).toNat)
 case atStart => exact ⟨0, (Nat.zero_le _), rfl, (hW3.sub (fun p hp => by first | exact hp | (simp only [List.mem_cons, List.mem_append, List.nil_append, List.not_mem_nil, or_assoc, or_false, false_or] at hp ⊢ <;> grind)))⟩
 case round =>
   obtain ⟨i, hi, rfl, hL4⟩ := hrel
   refine wp_seq ?_
   refine wp_seq ?_
   refine wp_region_L _ hL4 ?_
   refine lm (v := .int .i64 ((i : Nat) : Int)) rfl rfl ?_
   refine lm (v := .slice p l.length c) rfl rfl ?_
   refine lp (v := .int .i64 ((l.length : Nat) : Int)) rfl rfl (run_lenL (p := p) (cap := c) (n := l.length) rfl Tryd.underlying27 Tw.kr) ?_
   refine lp (v := .bool (decide (i < l.length))) rfl rfl (run_bin rfl (vx := (.int .i64 ((i : Nat) : Int))) (vy := (.int .i64 ((l.length : Nat) : Int))) Tw.kr Tw.kr fun w => bn_lss rfl w) ?_
   refine wpL_done (fun W5 hW5 => ?_)
   change Code.wp ..
   cases hd1 : (decide (i < l.length)) with
   | false =>
     have h1 : ¬ (i < l.length) := of_decide_eq_false hd1
     clear hd1
     refine wp_cond_false rfl ?_
     refine wp_exit ?_
     change Code.wp ..
     refine wp_seq ?_
     refine wp_region_L _ hW5 ?_
     refine lm (v := .bool true) rfl rfl ?_
     refine wpL_done (fun W6 hW6 => ?_)
     change Code.wp ..
     refine wp_ret ?_
     try simp only [inBlock_ret, then_ret]
     refine bodyPost_ret (v := .bool true) ?_ rfl ?_
     · kernel_rfl
     · exact ⟨rfl, hW6.1⟩
   | true =>
     have h1 : i < l.length := of_decide_eq_true hd1
     clear hd1
     refine wp_cond_true rfl ?_
     refine wp_skip ?_
     change Code.wp ..
     refine wp_seq ?_
     refine wp_block ?_
     refine wp_seq ?_
     refine wp_region_V _ Tw.kr hW5 ?_
     refine vm (i := 0) (v := .slice p l.length c) rfl rfl rfl ?_
     refine vm (i := 1) (v := .int .i64 ((i : Nat) : Int)) rfl rfl rfl ?_
     obtain ⟨y1, g1_, f1_, hy1, hp1, hc1⟩ := RL.at (RL.base HP.out) n5C_len (by decide) (hW5.sub (fun _ h => by cases h)) (k := i) Tw.om
     refine vp (i := 2) (v := .pointer (some ⟨g1_, f1_ + i * 5, none⟩)) rfl rfl rfl (run_idxQ (p := p) (cap := c) (n := l.length) (j := .i64) (k := i) (sz := 5) rfl Tryd.underlying27 Tw.kr Tw.kr hp1 Tw.kr Tw.om) ?_
     refine vb (i := 3) (v := .agg (n5C y1).toArray) rfl rfl rfl (yb_rs (off := f1_ + i * 5) (cs := n5C y1) rfl Tw.kr (fun W hW => hc1 W (hW.sub (fun _ h => by cases h))) Tryd.underlying126 rfl Tw.kr) ?_
     refine vm (i := 4) (v := .slice q l.length d) rfl rfl rfl ?_
     refine vm (i := 5) (v := .int .i64 ((i : Nat) : Int)) rfl rfl rfl ?_
     obtain ⟨y2, g2_, f2_, hy2, hp2, hc2⟩ := RL.at (RL.base HQ.out) n5C_len (by decide) (hW5.sub (fun _ h => by cases h)) (k := i) Tw.om
     refine vp (i := 6) (v := .pointer (some ⟨g2_, f2_ + i * 5, none⟩)) rfl rfl rfl (run_idxQ (p := q) (cap := d) (n := l.length) (j := .i64) (k := i) (sz := 5) rfl Tryd.underlying27 Tw.kr Tw.kr hp2 Tw.kr Tw.om) ?_
     refine vb (i := 7) (v := .agg (n5C y2).toArray) rfl rfl rfl (yb_rs (off := f2_ + i * 5) (cs := n5C y2) rfl Tw.kr (fun W hW => hc2 W (hW.sub (fun _ h => by cases h))) Tryd.underlying126 rfl Tw.kr) ?_
     refine vp (i := 8) (v := .bool false) rfl rfl rfl (run_bin rfl (vx := .agg (n5C y1).toArray) (vy := .agg (n5C y2).toArray) Tw.kr Tw.kr fun w => (by rw [show y1 = y2 from Option.some.inj (hy1.symm.trans hy2)]; exact ne_fra y2 w)) ?_
     refine wpV_done Tw.kr (fun W7 hW7 => ?_) _
     change Code.wp ..
     refine wp_cond_false rfl ?_
     refine wp_skip ?_
     change Code.wp ..
     refine wp_region_L _ hW7 ?_
     refine lm (v := .int .i64 ((i : Nat) : Int)) rfl rfl ?_
     refine lp (v := .int .i64 (((i + 1) : Nat) : Int)) rfl rfl (run_bin rfl (vx := (.int .i64 ((i : Nat) : Int))) (vy := (.int .i64 ((1 : Nat) : Int))) Tw.kr Tw.kr fun w => bn_add (z := (i + 1)) rfl (wr_i64 Tw.om) w) ?_
     refine lm (v := .int .i64 (((i + 1) : Nat) : Int)) rfl rfl ?_
     refine wpL_done (fun W8 hW8 => ?_)
     go_roundw
     case rel =>
       repeat apply Exists.intro
       exact ⟨⟨i + 1, Tw.om, rfl, (hW8.sub (fun p hp => by first | exact hp | (simp only [List.mem_cons, List.mem_append, List.nil_append, List.not_mem_nil, or_assoc, or_false, false_or] at hp ⊢ <;> grind)))⟩, rfl⟩
     case measure => (show l.length - (intOf (.int .i64 (((i + 1) : Nat) : Int))).toNat < l.length - (intOf (.int .i64 ((i : Nat) : Int))).toNat); simp only [intOf]; omega
end Go.Proofs.YtlinjngifacmoaaDoor
/- A ship that was lent. -/
namespace Go.Proofs.YtlinjngifacmoaaDoor
open Go Go.RowKit Tw
def NewF (F : List (Nat × Obj) → Value → Prop) (W0 : Base) (K : List (Nat × Obj)) (v : Value) (K' : List (Nat × Obj)) : Prop :=
 ∃ T, F T v ∧ (∀ b ∈ T, W0.B ≤ b.1) ∧ (∀ p ∈ K, ∀ q ∈ T, q.1 ≠ p.1) ∧ K' = K ++ T
theorem NewF.sub {F : List (Nat × Obj) → Value → Prop} {W0 : Base} {K K' : List (Nat × Obj)} {v : Value} (h : NewF F W0 K v K') : ∀ p ∈ K, p ∈ K' := by
 obtain ⟨_, _, _, _, rfl⟩ := h
 exact fun p hp => List.mem_append_left _ hp
theorem calls_new {P : Program} {W0 : Base} {K : List (Nat × Obj)} {W : World} {F : List (Nat × Obj) → Value → Prop} {f : FuncId} {args : Array Value} (hW : KS W0 K W) (h : Calls P f args W fun e w' => ∃ v T, e = .returned v ∧ F T v ∧ (∀ b ∈ T, W.heap.size ≤ b.1) ∧ KS (W : Base) T w') :
   Calls P f args W fun e w' => ∃ v K', e = .returned v ∧ KS W0 K' w' ∧ NewF F W0 K v K' :=
 h.mono fun e w' ⟨v, T, he, hF, hn, hk⟩ => by
   have hK := hW.below hk.1
   refine ⟨v, _, he, ⟨hK.1, fun p hp => ?_⟩, T, hF, fun b hb => Nat.le_trans hW.size (hn b hb), fun p hp q hq e => ?_, rfl⟩
   · rcases List.mem_append.1 hp with h | h
     · exact hK.2 p h
     · exact hk.2 p h
   · have h1 := lt_of_block (hW.2 p hp)
     have h2 := hn q hq
     omega
def FC (cs : List Col) (T : List (Nat × Obj)) (v : Value) : Prop := ∃ X q d, v = .slice q cs.length d ∧ cs.length + 12 ≤ d ∧ X.length = cs.length ∧ LentC cs X T ∧ HL colC q (X ++ mkColL 12) T
def FO (os : List Cov) (T : List (Nat × Obj)) (v : Value) : Prop := ∃ X q d, v = .slice q os.length d ∧ os.length + 12 ≤ d ∧ X.length = os.length ∧ LentO os X T ∧ HL covC q (X ++ mkCovL 12) T
def FT (ts : List Tk) (T : List (Nat × Obj)) (v : Value) : Prop := ∃ X q d, v = .slice q ts.length d ∧ ts.length + 12 ≤ d ∧ X.length = ts.length ∧ LentT ts X T ∧ HL tkC q (X ++ mkTnkL 12) T
def FN (m l : List N5) (T : List (Nat × Obj)) (v : Value) : Prop := ∃ q d, v = .slice q l.length d ∧ l.length + 12 ≤ d ∧ HL n5C q (l ++ m) T
theorem fn_of {P : Program} {m l : List N5} {f : FuncId} {args : Array Value} {W : World} {E : TypeId} (h : Calls P f args W fun e w' => ∃ q d, e = .returned (.slice q l.length d) ∧ l.length + 12 ≤ d ∧ OutV W w' E 5 (.slice q (l ++ m).length d) (l ++ m).length ((l ++ m).flatMap n5C) ∧ Below W.heap.size W w') :
   Calls P f args W fun e w' => ∃ v T, e = .returned v ∧ FN m l T v ∧ (∀ b ∈ T, W.heap.size ≤ b.1) ∧ KS (W : Base) T w' :=
 h.mono fun e w' ⟨q, d, he, hd, hO, hb⟩ => by
   obtain ⟨Kl, h1, _, h3⟩ := hO.own (KS.start W) hb
   exact ⟨_, Kl, he, ⟨q, d, rfl, hd, own_hl h1⟩, own_new h1, h3⟩
structure LentSp (s t : Sp) (T : List (Nat × Obj)) : Prop where
 rest : t.li = s.li ∧ t.lm = s.lm ∧ t.rs = s.rs ∧ t.fs = s.fs
 cs : t.cs.length = s.cs.length ∧ LentC s.cs t.cs T ∧ HL colC t.pc (t.cs ++ mkColL 12) T ∧ s.cs.length + 12 ≤ t.cc
 os : t.os.length = s.os.length ∧ LentO s.os t.os T ∧ HL covC t.po (t.os ++ mkCovL 12) T ∧ s.os.length + 12 ≤ t.co
 ts : t.ts.length = s.ts.length ∧ LentT s.ts t.ts T ∧ HL tkC t.pt (t.ts ++ mkTnkL 12) T ∧ s.ts.length + 12 ≤ t.ct
 rs : HL n5C t.pr (s.rs ++ mkRowL 12) T ∧ s.rs.length + 12 ≤ t.cr
 fs : HL n5C t.pf (s.fs ++ mkFraL 12) T ∧ s.fs.length + 12 ≤ t.cf
structure SpIn (W : World) (s : Sp) : Prop where
 nc : s.cs.length ≤ 1000000
 no : s.os.length ≤ 1000000
 np : ∀ o ∈ s.cs, o.plugs.length ≤ 1000000
 nr : ∀ o ∈ s.os, o.rows.length ≤ 1000000
 nrs : s.rs.length ≤ 3518437208780
 nfs : s.fs.length ≤ 3518437208780
 nts : s.ts.length ≤ 2199023255488
 nst : ∀ o ∈ s.ts, o.steps.length ≤ 17592186044403
 hc : SLV W s.pc (s.cs.flatMap colC)
 ho : SLV W s.po (s.os.flatMap covC)
 hp : PlR W s.cs
 hr : RwR W s.os
 hrs : SLV W s.pr (s.rs.flatMap n5C)
 hfs : SLV W s.pf (s.fs.flatMap n5C)
 hts : SLV W s.pt (s.ts.flatMap tkC)
 hst : StR W s.ts
theorem StR.keep {W W' : World} {ts : List Tk} (h : StR W ts) (hb : Below W.heap.size W W') : StR W' ts := fun c hc => (h c hc).keep hb
end Go.Proofs.YtlinjngifacmoaaDoor
/- What the layer says of a ship that was lent. -/
namespace Go.Proofs.YtlinjngifacmoaaDoor
open Go Go.RowKit Tw
def eC (c : Col) : Col := c.re none 0
def eO (c : Cov) : Cov := c.re none 0
theorem fstF_e {α : Type} {g : α → α} {P : α → Bool} (h : ∀ x, P (g x) = P x) : ∀ (l : List α) (i : Nat), fstF P i (l.map g) = fstF P i l
 | [], _ => rfl
 | x :: l, i => by simp only [List.map_cons, fstF, h, fstF_e h l]
theorem idxF_e {α : Type} {g : α → α} {P : α → Bool} (h : ∀ x, P (g x) = P x) : ∀ (l : List α) (i : Nat), idxF P i (l.map g) = idxF P i l
 | [], _ => rfl
 | x :: l, i => by simp only [List.map_cons, idxF, h, idxF_e h l]
theorem find_e (b r : Int) (d : Bool) (cs : List Col) : fst (isAt b r d) (cs.map eC) = fst (isAt b r d) cs := fstF_e (g := eC) (P := isAt b r d) (fun _ => rfl) cs 0
theorem tallF_e : ∀ (cs : List Col) (m : Int), tallF m (cs.map eC) = tallF m cs
 | [], _ => rfl
 | c :: cs, m => tallF_e cs (max m c.tiers)
theorem tall_e (cs : List Col) : tallX (cs.map eC) = tallX cs := by
 cases cs with
 | nil => rfl
 | cons c cs => exact tallF_e cs c.tiers
theorem tiersF_e : ∀ (cs : List Col) (m : Int), tiersF m (cs.map eC) = tiersF m cs
 | [], _ => rfl
 | _ :: cs, _ => tiersF_e cs _
theorem places_e (cs : List Col) : placesX (cs.map eC) = placesX cs := by
 unfold placesX
 rw [tiersF_e]
theorem colsF_e : ∀ (cs : List Col) (L : List I3), colsF L (cs.map eC) = colsF L cs
 | [], _ => rfl
 | c :: cs, L => by
   have h := colsF_e cs (L ++ [placeX c])
   show (colX c && (!decide (placeX c ∈ L) && colsF (L ++ [placeX c]) (cs.map eC))) = _
   rw [h]; rfl
theorem ovsF_e : ∀ (os : List Cov) (L : List I2), ovsF L (os.map eO) = ovsF L os
 | [], _ => rfl
 | o :: os, L => by
   simp only [List.map_cons, ovsF, ovsF_e os]
   rfl
theorem right_e (cs : List Col) (os : List Cov) : rightX (cs.map eC) (os.map eO) = rightX cs os := by
 unfold rightX colsX ovsX
 rw [List.length_map, List.length_map, colsF_e, ovsF_e]
theorem elB_e {α : Type} (g : α → α) (l : List α) (n : Int) : elB (l.map g) n = elB l n := by
 unfold elB
 rw [List.length_map]
theorem elC_e {α : Type} (g : α → α) (z : α) (hz : g z = z) (l : List α) (n : Int) : elC z (l.map g) n = g (elC z l n) := by
 unfold elC
 rw [List.getElem?_map]
 by_cases hn : n < 0
 · rw [if_pos hn, if_pos hn]; exact hz.symm
 · rw [if_neg hn, if_neg hn]
   cases l[n.toNat]? with
   | none => exact hz.symm
   | some x => rfl
theorem covOf_e (cs : List Col) (os : List Cov) (n : Int) : covOf (cs.map eC) (os.map eO) n = covOf cs os n := by
 unfold covOf
 rw [elB_e, elC_e eC col0 rfl]
 exact congrArg (fun z => if elB cs n = true then z else none) (fstF_e (g := eO) (P := belX (elC col0 cs n)) (fun _ => rfl) os 0)
theorem along_e (cs : List Col) (os : List Cov) (n : Int) (deck : Bool) : alongX (cs.map eC) (os.map eO) n deck = alongX cs os n deck := by
 unfold alongX
 rw [elB_e, elC_e eO cov0 rfl]
 exact congrArg (fun z => if elB os n = true then z else []) (idxF_e (g := eC) (P := partOf deck (elC cov0 os n)) (fun _ => rfl) cs 0)
theorem beside_e (cs : List Col) (n : Int) : besideX (cs.map eC) n = besideX cs n := by
 unfold besideX
 rw [elB_e, elC_e eC col0 rfl]
 exact congrArg (fun z => if elB cs n = true then z else []) (idxF_e (g := eC) (P := besideB (elC col0 cs n)) (fun _ => rfl) cs 0)
theorem bayB_e (cs : List Col) (n : Int) : bayB (cs.map eC) n = bayB cs n := by
 unfold bayB
 rw [elB_e, elC_e eC col0 rfl]; rfl
theorem bayN_e (cs : List Col) (n : Int) : bayN (cs.map eC) n = bayN cs n := by
 unfold bayN
 rw [elC_e eC col0 rfl]; rfl
theorem apB_e (cs : List Col) (a b : Int) : apB (cs.map eC) a b = apB cs a b := by
 unfold apB
 rw [bayB_e, bayB_e]
theorem apN_e (cs : List Col) (a b : Int) : apN (cs.map eC) a b = apN cs a b := by
 unfold apN
 rw [apB_e, bayN_e, bayN_e]
theorem lentC_e {l X : List Col} {T : List (Nat × Obj)} (h : LentC l X T) (hl : X.length = l.length) : X.map eC = l.map eC := by
 apply List.ext_getElem?
 intro i
 rw [List.getElem?_map, List.getElem?_map]
 cases hx : X[i]? with
 | none =>
   rw [List.getElem?_eq_none_iff] at hx
   rw [List.getElem?_eq_none_iff.2 Tw.om]
 | some x =>
   obtain ⟨y, q, d, h1, rfl, _, _⟩ := h i x hx
   rw [h1]; rfl
theorem lentO_e {l X : List Cov} {T : List (Nat × Obj)} (h : LentO l X T) (hl : X.length = l.length) : X.map eO = l.map eO := by
 apply List.ext_getElem?
 intro i
 rw [List.getElem?_map, List.getElem?_map]
 cases hx : X[i]? with
 | none =>
   rw [List.getElem?_eq_none_iff] at hx
   rw [List.getElem?_eq_none_iff.2 Tw.om]
 | some x =>
   obtain ⟨y, q, d, h1, rfl, _, _⟩ := h i x hx
   rw [h1]; rfl
theorem lent_says {s t : Sp} {T : List (Nat × Obj)} (h : LentSp s t T) :
   rightX t.cs t.os = rightX s.cs s.os ∧ tallX t.cs = tallX s.cs ∧ placesX t.cs = placesX s.cs ∧ (∀ b r d, fst (isAt b r d) t.cs = fst (isAt b r d) s.cs) ∧ (∀ n, covOf t.cs t.os n = covOf s.cs s.os n) ∧ (∀ n d, alongX t.cs t.os n d = alongX s.cs s.os n d) ∧ (∀ n, besideX t.cs n = besideX s.cs n) ∧ (∀ a b, apB t.cs a b = apB s.cs a b) ∧ ∀ a b, apN t.cs a b = apN s.cs a b := by
 have h1 := lentC_e h.cs.2.1 h.cs.1
 have h2 := lentO_e h.os.2.1 h.os.1
 refine ⟨?_, ?_, ?_, fun b r d => ?_, fun n => ?_, fun n d => ?_, fun n => ?_, fun a b => ?_, fun a b => ?_⟩
 · rw [← right_e t.cs, h1, h2, right_e]
 · rw [← tall_e t.cs, h1, tall_e]
 · rw [← places_e t.cs, h1, places_e]
 · rw [← find_e b r d t.cs, h1, find_e]
 · rw [← covOf_e t.cs, h1, h2, covOf_e]
 · rw [← along_e t.cs, h1, h2, along_e]
 · rw [← beside_e t.cs, h1, beside_e]
 · rw [← apB_e t.cs, h1, apB_e]
 · rw [← apN_e t.cs, h1, apN_e]
end Go.Proofs.YtlinjngifacmoaaDoor
/- The order of slots. -/
namespace Go.Proofs.YtlinjngifacmoaaDoor
open Go Go.RowKit Tw
structure Tri where
 a : Slt
 b : Slt
 c : Slt
end Go.Proofs.YtlinjngifacmoaaDoor
/- What slots say of a lent ship. -/
namespace Go.Proofs.YtlinjngifacmoaaDoor
open Go Go.RowKit Tw
theorem ex_e (cs : List Col) (n t : Int) : exS (cs.map eC) n t = exS cs n t := by
 unfold exS
 rw [elB_e, elC_e eC col0 rfl]; rfl
theorem rightS_e (cs : List Col) (x : Slt) (z : Nat) : rightS (cs.map eC) x z = rightS cs x z := by
 unfold rightS
 rw [ex_e]
theorem slotsF_e (z : Nat) : ∀ (cs : List Col) (k : Nat), slotsF z k (cs.map eC) = slotsF z k cs
 | [], _ => rfl
 | c :: cs, k => by
   simp only [List.map_cons, slotsF, slotsF_e z cs]
   rfl
theorem slots_e (cs : List Col) (z : Nat) : slotsX (cs.map eC) z = slotsX cs z := slotsF_e z cs 0
theorem lent_slots {s t : Sp} {T : List (Nat × Obj)} (h : LentSp s t T) : (∀ x z, rightS t.cs x z = rightS s.cs x z) ∧ (∀ z, slotsX t.cs z = slotsX s.cs z) ∧ ∀ n : Int, (∀ c ∈ s.cs, c.tiers ≤ n) → ∀ c ∈ t.cs, c.tiers ≤ n := by
 have e := lentC_e h.cs.2.1 h.cs.1
 refine ⟨fun x z => by rw [← rightS_e t.cs, e, rightS_e], fun z => by rw [← slots_e t.cs, e, slots_e], fun n hn c hc => ?_⟩
 obtain ⟨j, hj⟩ := List.getElem?_of_mem hc
 obtain ⟨y, q, d, h1, rfl, _⟩ := h.cs.2.1 j c hj
 exact hn y (List.mem_of_getElem? h1)
end Go.Proofs.YtlinjngifacmoaaDoor
/- Small ships of law 08. -/
namespace Go.Proofs.YtlinjngifacmoaaDoor
open Go Go.RowKit Tw
def few8X (cs : List Col) (os : List Cov) : Bool := decide (cs.length ≤ 60) && decide (os.length ≤ 50) && cs.all (fun c => decide (c.plugs.length ≤ 12) && decide (c.tiers ≤ 12)) && os.all (fun o => decide (o.rows.length ≤ 40))
theorem few8_yes {cs : List Col} {os : List Cov} (h1 : ¬ 60 < cs.length) (h2 : ¬ 50 < os.length) (h3 : ∀ j c, j < cs.length → cs[j]? = some c → c.plugs.length ≤ 12 ∧ c.tiers ≤ 12) (h4 : ∀ j o, j < os.length → os[j]? = some o → o.rows.length ≤ 40) : few8X cs os = true := by
 unfold few8X
 rw [decide_eq_true (show cs.length ≤ 60 by omega), decide_eq_true (show os.length ≤ 50 by omega)]
 simp only [Bool.true_and, Bool.and_eq_true, List.all_eq_true, decide_eq_true_eq]
 refine ⟨fun c hm => ?_, fun o hm => ?_⟩
 · obtain ⟨j, hj⟩ := List.getElem?_of_mem hm
   exact h3 j c (List.getElem?_eq_some_iff.1 hj).1 hj
 · obtain ⟨j, hj⟩ := List.getElem?_of_mem hm
   exact h4 j o (List.getElem?_eq_some_iff.1 hj).1 hj
theorem few8_is {cs : List Col} {os : List Cov} (hb : few8X cs os = true) : cs.length ≤ 60 ∧ os.length ≤ 50 ∧ (∀ c ∈ cs, c.plugs.length ≤ 12 ∧ c.tiers ≤ 12) ∧ ∀ o ∈ os, o.rows.length ≤ 40 := by
 unfold few8X at hb
 simp only [Bool.and_eq_true, List.all_eq_true, decide_eq_true_eq] at hb
 exact ⟨hb.1.1.1, hb.1.1.2, hb.1.2, hb.2⟩
theorem few8_no {cs : List Col} {os : List Cov} (h : ¬ (cs.length ≤ 60 ∧ os.length ≤ 50 ∧ (∀ c ∈ cs, c.plugs.length ≤ 12 ∧ c.tiers ≤ 12) ∧ ∀ o ∈ os, o.rows.length ≤ 40)) : few8X cs os = false := by
 cases hq : few8X cs os with
 | false => rfl
 | true => exact (h (few8_is hq)).elim
theorem few8_c {cs : List Col} {i : Nat} {y : Col} (hC : ∀ j c, j < i → cs[j]? = some c → c.plugs.length ≤ 12 ∧ c.tiers ≤ 12) (hy : cs[i]? = some y) (h : ¬ 12 < y.plugs.length) (h2 : ¬ 12 < y.tiers) : ∀ j c, j < i + 1 → cs[j]? = some c → c.plugs.length ≤ 12 ∧ c.tiers ≤ 12 := by
 intro j c hj hc
 by_cases e : j = i
 · subst e
   rw [hy] at hc
   cases hc
   omega
 · exact hC j c Tw.om hc
theorem few8_o {os : List Cov} {i : Nat} {y : Cov} (hC : ∀ j o, j < i → os[j]? = some o → o.rows.length ≤ 40) (hy : os[i]? = some y) (h : ¬ 40 < y.rows.length) : ∀ j o, j < i + 1 → os[j]? = some o → o.rows.length ≤ 40 := by
 intro j o hj hc
 by_cases e : j = i
 · subst e
   rw [hy] at hc
   cases hc
   omega
 · exact hC j o Tw.om hc
theorem few8_few {cs : List Col} {os : List Cov} (h : few8X cs os = true) : fewX cs os = true := by
 obtain ⟨h1, h2, h3, h4⟩ := few8_is h
 exact few_yes Tw.om Tw.om (fun j c _ hc => (h3 c (List.mem_of_getElem? hc)).1) (fun j o _ hc => h4 o (List.mem_of_getElem? hc))
end Go.Proofs.YtlinjngifacmoaaDoor
namespace Go.Proofs.YtlinjngifacmoaaDoor
open Go Go.RowKit Tw
end Go.Proofs.YtlinjngifacmoaaDoor
namespace Go.Proofs.YtlinjngifacmoaaDoor
open Go Go.RowKit Tw
set_option maxRecDepth 100000 in
set_option maxHeartbeats 4000000 in
theorem few8_any (cs : List Col) (pc : Option Addr) (cc : Nat) (lc : cs.length ≤ 17592186044403) (os : List Cov) (po : Option Addr) (co : Nat) (lo : os.length ≤ 17592186044403) (t : Tl) (w : World) (hc : SLV w pc (cs.flatMap colC)) (ho : SLV w po (os.flatMap covC)) (lr : ∀ o ∈ os, o.rows.length ≤ 17592186044403) (lq : ∀ c ∈ cs, c.plugs.length ≤ 17592186044403) : Calls Tryd.prog 10 #[.agg (shC (.slice pc cs.length cc) (.slice po os.length co) t).toArray] w fun e w' => e = .returned (.bool (few8X cs os)) ∧ Below w.heap.size w w' := by
 have HC := Lib.hid hc
 clear hc
 have HO := Lib.hid ho
 clear ho
 go_enter Tryd.func10, Tryd.ntmps10
 refine wp_seq ?_
 refine wp_region_L [] (KS.start w) ?_
 refine wpL_new (fun g => .pointer (some ⟨g, 0, none⟩)) (obi := .cells (shC (.slice pc cs.length cc) (.slice po os.length co) t).toArray 32 (0, 0)) rfl rfl Tw.kf Tw.pf fun g1 Bg1 Fg1 => ?_
 refine lm (v := .bool false) rfl rfl ?_
 refine wpL_done (fun W1 hW1 => ?_)
 change Code.wp ..
 refine wp_seq ?_
 refine wp_seq ?_
 refine wp_region_L _ hW1 ?_
 refine lm (v := .pointer (some ⟨g1, 0, none⟩)) rfl rfl ?_
 refine lv (v := .slice pc cs.length cc) rfl rfl (yb_cell (off := 0) rfl Tw.kr Tw.m0 Tryd.underlying22 rfl Tw.kr) ?_
 refine lp (v := .int .i64 ((cs.length : Nat) : Int)) rfl rfl (run_lenL (p := pc) (cap := cc) (n := cs.length) rfl Tryd.underlying22 Tw.kr) ?_
 refine lp (v := .bool (decide (60 < cs.length))) rfl rfl (run_bin rfl (vx := (.int .i64 ((cs.length : Nat) : Int))) (vy := (.int .i64 ((60 : Nat) : Int))) Tw.kr Tw.kr fun w => bn_gtr rfl w) ?_
 refine lm (v := .bool (decide (60 < cs.length))) rfl rfl ?_
 cases hd1 : (decide (60 < cs.length)) with
 | false =>
   have h1 : ¬ (60 < cs.length) := of_decide_eq_false hd1
   clear hd1
   refine lm (v := .pointer (some ⟨g1, 1, none⟩)) rfl rfl ?_
   refine lv (v := .slice po os.length co) rfl rfl (yb_cell (off := 1) rfl Tw.kr Tw.m0 Tryd.underlying23 rfl Tw.kr) ?_
   refine lp (v := .int .i64 ((os.length : Nat) : Int)) rfl rfl (run_lenL (p := po) (cap := co) (n := os.length) rfl Tryd.underlying23 Tw.kr) ?_
   refine lp (v := .bool (decide (50 < os.length))) rfl rfl (run_bin rfl (vx := (.int .i64 ((os.length : Nat) : Int))) (vy := (.int .i64 ((50 : Nat) : Int))) Tw.kr Tw.kr fun w => bn_gtr rfl w) ?_
   refine lm (v := .bool (decide (50 < os.length))) rfl rfl ?_
   refine wpL_done (fun W2 hW2 => ?_)
   change Code.wp ..
   cases hd2 : (decide (50 < os.length)) with
   | false =>
     have h2 : ¬ (50 < os.length) := of_decide_eq_false hd2
     clear hd2
     refine wp_cond_false rfl ?_
     refine wp_skip ?_
     change Code.wp ..
     refine wp_seq ?_
     refine wp_seq ?_
     refine wp_region_L _ hW2 ?_
     refine lm (v := .pointer (some ⟨g1, 0, none⟩)) rfl rfl ?_
     refine lv (v := .slice pc cs.length cc) rfl rfl (yb_cell (off := 0) rfl Tw.kr Tw.m0 Tryd.underlying22 rfl Tw.kr) ?_
     refine lp (v := .int .i64 ((cs.length : Nat) : Int)) rfl rfl (run_lenL (p := pc) (cap := cc) (n := cs.length) rfl Tryd.underlying22 Tw.kr) ?_
     refine lm (v := .int .i64 0) rfl rfl ?_
     refine wpL_done (fun W3 hW3 => ?_)
     change Code.wp ..
     refine wp_block ?_
     go_loopw [20] (fun u20 wr => ∃ (i : Nat), (i ≤ cs.length) ∧ (∀ j c, j < i → cs[j]? = some c → c.plugs.length ≤ 12 ∧ c.tiers ≤ 12) ∧ u20 = .int .i64 ((i : Nat) : Int) ∧ KS w [(g1, .cells (shC (.slice pc cs.length cc) (.slice po os.length co) t).toArray 32 (0, 0))] wr) (fun u20 _ => cs.length - (intOf u20).toNat)
     case atStart => exact ⟨0, (Nat.zero_le _), (fun j c h => by omega), rfl, (hW3.sub (fun p hp => by first | exact hp | (simp only [List.mem_cons, List.mem_append, List.nil_append, List.not_mem_nil, or_assoc, or_false, false_or] at hp ⊢ <;> grind)))⟩
     case round =>
       obtain ⟨i, hi, hF, rfl, hL4⟩ := hrel
       refine wp_seq ?_
       refine wp_region_L _ hL4 ?_
       refine lp (v := .bool (decide (i < cs.length))) rfl rfl (run_bin rfl (vx := (.int .i64 ((i : Nat) : Int))) (vy := (.int .i64 ((cs.length : Nat) : Int))) Tw.kr Tw.kr fun w => bn_lss rfl w) ?_
       refine wpL_done (fun W5 hW5 => ?_)
       change Code.wp ..
       refine wp_seq ?_
       cases hd3 : (decide (i < cs.length)) with
       | false =>
         have h3 : ¬ (i < cs.length) := of_decide_eq_false hd3
         clear hd3
         refine wp_cond_false rfl ?_
         refine wp_exit ?_
         change Code.wp ..
         refine wp_seq ?_
         refine wp_seq ?_
         refine wp_region_L _ hW5 ?_
         refine lm (v := .pointer (some ⟨g1, 1, none⟩)) rfl rfl ?_
         refine lv (v := .slice po os.length co) rfl rfl (yb_cell (off := 1) rfl Tw.kr Tw.m0 Tryd.underlying23 rfl Tw.kr) ?_
         refine lp (v := .int .i64 ((os.length : Nat) : Int)) rfl rfl (run_lenL (p := po) (cap := co) (n := os.length) rfl Tryd.underlying23 Tw.kr) ?_
         refine lm (v := .int .i64 0) rfl rfl ?_
         refine wpL_done (fun W6 hW6 => ?_)
         change Code.wp ..
         refine wp_block ?_
         go_loopw [37] (fun u37 wr => ∃ (i2 : Nat), (i2 ≤ os.length) ∧ (∀ j o, j < i2 → os[j]? = some o → o.rows.length ≤ 40) ∧ u37 = .int .i64 ((i2 : Nat) : Int) ∧ KS w [(g1, .cells (shC (.slice pc cs.length cc) (.slice po os.length co) t).toArray 32 (0, 0))] wr) (fun u37 _ => os.length - (intOf u37).toNat)
         case atStart => exact ⟨0, (Nat.zero_le _), (fun j o h => by omega), rfl, (hW6.sub (fun p hp => by first | exact hp | (simp only [List.mem_cons, List.mem_append, List.nil_append, List.not_mem_nil, or_assoc, or_false, false_or] at hp ⊢ <;> grind)))⟩
         case round =>
           obtain ⟨i2, hi2, hG, rfl, hL7⟩ := hrel
           refine wp_seq ?_
           refine wp_region_L _ hL7 ?_
           refine lp (v := .bool (decide (i2 < os.length))) rfl rfl (run_bin rfl (vx := (.int .i64 ((i2 : Nat) : Int))) (vy := (.int .i64 ((os.length : Nat) : Int))) Tw.kr Tw.kr fun w => bn_lss rfl w) ?_
           refine wpL_done (fun W8 hW8 => ?_)
           change Code.wp ..
           refine wp_seq ?_
           cases hd4 : (decide (i2 < os.length)) with
           | false =>
             have h4 : ¬ (i2 < os.length) := of_decide_eq_false hd4
             clear hd4
             refine wp_cond_false rfl ?_
             refine wp_exit ?_
             change Code.wp ..
             refine wp_seq ?_
             refine wp_region_L _ hW8 ?_
             refine lm (v := .bool true) rfl rfl ?_
             refine wpL_done (fun W9 hW9 => ?_)
             change Code.wp ..
             refine wp_ret ?_
             try simp only [inBlock_ret, then_ret]
             refine bodyPost_ret (v := .bool true) ?_ rfl ?_
             · kernel_rfl
             · exact ⟨(bool_is (few8_yes h1 h2 (fun j c g => hF j c Tw.om) (fun j c g => hG j c Tw.om)).symm), hW9.1⟩
           | true =>
             have h4 : i2 < os.length := of_decide_eq_true hd4
             clear hd4
             refine wp_cond_true rfl ?_
             refine wp_skip ?_
             change Code.wp ..
             refine wp_seq ?_
             refine wp_block ?_
             refine wp_seq ?_
             refine wp_region_L _ hW8 ?_
             obtain ⟨y2, g2_, f2_, hy2, hp2, hc2⟩ := RL.at (RL.base HO.out) covC_len (by decide) (hW8.sub (fun _ h => by cases h)) (k := i2) Tw.om
             refine lp (v := .pointer (some ⟨g2_, f2_ + i2 * 2, none⟩)) rfl rfl (run_idxQ (p := po) (cap := co) (n := os.length) (j := .i64) (k := i2) (sz := 2) rfl Tryd.underlying23 Tw.kr Tw.kr hp2 Tw.kr Tw.om) ?_
             refine lv (v := .agg (covC y2).toArray) rfl rfl (yb_rs (off := f2_ + i2 * 2) (cs := covC y2) rfl Tw.kr (fun W hW => hc2 W (hW.sub (fun _ h => by cases h))) Tryd.underlying67 rfl Tw.kr) ?_
             refine wpL_new (fun g => .pointer (some ⟨g, 0, none⟩)) (obi := .cells #[.int .i64 0, .slice none 0 0] 67 (0, 0)) rfl rfl Tw.kf Tw.pf fun g3 Bg3 Fg3 => ?_
             obtain dj4_0 : g1 ≠ g3 := Tw.dkf Fg3
             refine wpL_s [(g3, .cells (covC y2).toArray 67 (0, 0)), (g1, .cells (shC (.slice pc cs.length cc) (.slice po os.length co) t).toArray 32 (0, 0))] rfl rfl (st_row (off := 0) (v := .agg (covC y2).toArray) rfl Tw.kr Tw.kr Tw.m0 Bg3 Tw.kr (by first | (simp [Value.cells]; done) | exact Nat.le_of_ble_eq_true rfl) (fun v hv => covC_one y2 v hv) Tw.kr (List.forall_mem_cons.2 ⟨.inl rfl, (List.forall_mem_cons.2 ⟨.inr ⟨Tw.m1, Tw.nee⟩, (List.forall_mem_nil _)⟩)⟩)) ?_
             refine wpL_done (fun W10 hW10 => ?_)
             change Code.wp ..
             refine wp_seq ?_
             refine wp_region_L _ hW10 ?_
             refine lm (v := .pointer (some ⟨g3, 1, none⟩)) rfl rfl ?_
             refine lv (v := .slice y2.rp y2.rows.length y2.rc) rfl rfl (yb_cell (off := 1) rfl Tw.kr Tw.m0 Tryd.underlying63 rfl Tw.kr) ?_
             refine lp (v := .int .i64 ((y2.rows.length : Nat) : Int)) rfl rfl (run_lenL (p := y2.rp) (cap := y2.rc) (n := y2.rows.length) rfl Tryd.underlying63 Tw.kr) ?_
             refine lp (v := .bool (decide (40 < y2.rows.length))) rfl rfl (run_bin rfl (vx := (.int .i64 ((y2.rows.length : Nat) : Int))) (vy := (.int .i64 ((40 : Nat) : Int))) Tw.kr Tw.kr fun w => bn_gtr rfl w) ?_
             refine wpL_done (fun W11 hW11 => ?_)
             change Code.wp ..
             cases hd5 : (decide (40 < y2.rows.length)) with
             | false =>
               have h5 : ¬ (40 < y2.rows.length) := of_decide_eq_false hd5
               clear hd5
               refine wp_cond_false rfl ?_
               refine wp_skip ?_
               change Code.wp ..
               refine wp_region_L _ hW11 ?_
               refine lp (v := .int .i64 (((i2 + 1) : Nat) : Int)) rfl rfl (run_bin rfl (vx := (.int .i64 ((i2 : Nat) : Int))) (vy := (.int .i64 ((1 : Nat) : Int))) Tw.kr Tw.kr fun w => bn_add (z := (i2 + 1)) rfl (wr_i64 Tw.om) w) ?_
               refine lm (v := .int .i64 (((i2 + 1) : Nat) : Int)) rfl rfl ?_
               refine wpL_done (fun W12 hW12 => ?_)
               go_roundw
               case rel =>
                 repeat apply Exists.intro
                 exact ⟨⟨i2 + 1, Tw.om, (few8_o hG hy2 h5), rfl, (hW12.sub (fun p hp => by first | exact hp | (simp only [List.mem_cons, List.mem_append, List.nil_append, List.not_mem_nil, or_assoc, or_false, false_or] at hp ⊢ <;> grind)))⟩, rfl⟩
               case measure => (show os.length - (intOf (.int .i64 (((i2 + 1) : Nat) : Int))).toNat < os.length - (intOf (.int .i64 ((i2 : Nat) : Int))).toNat); simp only [intOf]; omega
             | true =>
               have h5 : 40 < y2.rows.length := of_decide_eq_true hd5
               clear hd5
               refine wp_cond_true rfl ?_
               refine wp_seq ?_
               refine wp_region_L _ hW11 ?_
               refine lm (v := .bool false) rfl rfl ?_
               refine wpL_done (fun W13 hW13 => ?_)
               change Code.wp ..
               refine wp_ret ?_
               try simp only [inBlock_ret, then_ret]
               refine bodyPost_ret (v := .bool false) ?_ rfl ?_
               · kernel_rfl
               · exact ⟨(bool_is (few8_no fun e => by have h9 := e.2.2.2 y2 (List.mem_of_getElem? hy2); omega).symm), hW13.1⟩
       | true =>
         have h3 : i < cs.length := of_decide_eq_true hd3
         clear hd3
         refine wp_cond_true rfl ?_
         refine wp_skip ?_
         change Code.wp ..
         refine wp_seq ?_
         refine wp_block ?_
         refine wp_seq ?_
         refine wp_region_L _ hW5 ?_
         obtain ⟨y5, g5_, f5_, hy5, hp5, hc5⟩ := RL.at (RL.base HC.out) colC_len (by decide) (hW5.sub (fun _ h => by cases h)) (k := i) Tw.om
         refine lp (v := .pointer (some ⟨g5_, f5_ + i * 12, none⟩)) rfl rfl (run_idxQ (p := pc) (cap := cc) (n := cs.length) (j := .i64) (k := i) (sz := 12) rfl Tryd.underlying22 Tw.kr Tw.kr hp5 Tw.kr Tw.om) ?_
         refine lv (v := .agg (colC y5).toArray) rfl rfl (yb_rs (off := f5_ + i * 12) (cs := colC y5) rfl Tw.kr (fun W hW => hc5 W (hW.sub (fun _ h => by cases h))) Tryd.underlying65 rfl Tw.kr) ?_
         refine wpL_new (fun g => .pointer (some ⟨g, 0, none⟩)) (obi := .cells #[.int .i64 0, .int .i64 0, .bool false, .int .i64 0, .int .i64 0, .int .i64 0, .int .i64 0, .int .i64 0, .slice none 0 0, .int .i64 0, .int .i64 0, .int .i64 0] 65 (0, 0)) rfl rfl Tw.kf Tw.pf fun g6 Bg6 Fg6 => ?_
         obtain dj7_0 : g1 ≠ g6 := Tw.dkf Fg6
         refine wpL_s [(g6, .cells (colC y5).toArray 65 (0, 0)), (g1, .cells (shC (.slice pc cs.length cc) (.slice po os.length co) t).toArray 32 (0, 0))] rfl rfl (st_row (off := 0) (v := .agg (colC y5).toArray) rfl Tw.kr Tw.kr Tw.m0 Bg6 Tw.kr (by first | (simp [Value.cells]; done) | exact Nat.le_of_ble_eq_true rfl) (fun v hv => colC_one y5 v hv) Tw.kr (List.forall_mem_cons.2 ⟨.inl rfl, (List.forall_mem_cons.2 ⟨.inr ⟨Tw.m1, Tw.nee⟩, (List.forall_mem_nil _)⟩)⟩)) ?_
         refine wpL_done (fun W14 hW14 => ?_)
         change Code.wp ..
         refine wp_seq ?_
         refine wp_region_L _ hW14 ?_
         refine lm (v := .pointer (some ⟨g6, 8, none⟩)) rfl rfl ?_
         refine lv (v := .slice y5.pp y5.plugs.length y5.pc) rfl rfl (yb_cell (off := 8) rfl Tw.kr Tw.m0 Tryd.underlying63 rfl Tw.kr) ?_
         refine lp (v := .int .i64 ((y5.plugs.length : Nat) : Int)) rfl rfl (run_lenL (p := y5.pp) (cap := y5.pc) (n := y5.plugs.length) rfl Tryd.underlying63 Tw.kr) ?_
         refine lp (v := .bool (decide (12 < y5.plugs.length))) rfl rfl (run_bin rfl (vx := (.int .i64 ((y5.plugs.length : Nat) : Int))) (vy := (.int .i64 ((12 : Nat) : Int))) Tw.kr Tw.kr fun w => bn_gtr rfl w) ?_
         refine lm (v := .bool (decide (12 < y5.plugs.length))) rfl rfl ?_
         cases hd6 : (decide (12 < y5.plugs.length)) with
         | false =>
           have h6 : ¬ (12 < y5.plugs.length) := of_decide_eq_false hd6
           clear hd6
           refine lm (v := .pointer (some ⟨g6, 3, none⟩)) rfl rfl ?_
           refine lv (v := .int .i64 y5.tiers) rfl rfl (yb_cell (off := 3) rfl Tw.kr Tw.m0 Tryd.underlying3 rfl Tw.kr) ?_
           refine lp (v := .bool (decide (12 < y5.tiers))) rfl rfl (run_bin rfl (vx := (.int .i64 y5.tiers)) (vy := (.int .i64 12)) Tw.kr Tw.kr fun w => bi_gtr rfl w) ?_
           refine lm (v := .bool (decide (12 < y5.tiers))) rfl rfl ?_
           refine wpL_done (fun W15 hW15 => ?_)
           change Code.wp ..
           cases hd7 : (decide (12 < y5.tiers)) with
           | false =>
             have h7 : ¬ (12 < y5.tiers) := of_decide_eq_false hd7
             clear hd7
             refine wp_cond_false rfl ?_
             refine wp_skip ?_
             change Code.wp ..
             refine wp_region_L _ hW15 ?_
             refine lp (v := .int .i64 (((i + 1) : Nat) : Int)) rfl rfl (run_bin rfl (vx := (.int .i64 ((i : Nat) : Int))) (vy := (.int .i64 ((1 : Nat) : Int))) Tw.kr Tw.kr fun w => bn_add (z := (i + 1)) rfl (wr_i64 Tw.om) w) ?_
             refine lm (v := .int .i64 (((i + 1) : Nat) : Int)) rfl rfl ?_
             refine wpL_done (fun W16 hW16 => ?_)
             go_roundw
             case rel =>
               repeat apply Exists.intro
               exact ⟨⟨i + 1, Tw.om, (few8_c hF hy5 h6 h7), rfl, (hW16.sub (fun p hp => by first | exact hp | (simp only [List.mem_cons, List.mem_append, List.nil_append, List.not_mem_nil, or_assoc, or_false, false_or] at hp ⊢ <;> grind)))⟩, rfl⟩
             case measure => (show cs.length - (intOf (.int .i64 (((i + 1) : Nat) : Int))).toNat < cs.length - (intOf (.int .i64 ((i : Nat) : Int))).toNat); simp only [intOf]; omega
           | true =>
             have h7 : 12 < y5.tiers := of_decide_eq_true hd7
             clear hd7
             refine wp_cond_true rfl ?_
             refine wp_seq ?_
             refine wp_region_L _ hW15 ?_
             refine lm (v := .bool false) rfl rfl ?_
             refine wpL_done (fun W17 hW17 => ?_)
             change Code.wp ..
             refine wp_ret ?_
             try simp only [inBlock_ret, then_ret]
             refine bodyPost_ret (v := .bool false) ?_ rfl ?_
             · kernel_rfl
             · exact ⟨(bool_is (few8_no fun e => by have h9 := e.2.2.1 y5 (List.mem_of_getElem? hy5); omega).symm), hW17.1⟩
         | true =>
           have h6 : 12 < y5.plugs.length := of_decide_eq_true hd6
           clear hd6
           refine ln rfl ?_
           refine ln rfl ?_
           refine ln rfl ?_
           refine lm (v := .bool true) rfl rfl ?_
           refine wpL_done (fun W18 hW18 => ?_)
           change Code.wp ..
           refine wp_cond_true rfl ?_
           refine wp_seq ?_
           refine wp_region_L _ hW18 ?_
           refine lm (v := .bool false) rfl rfl ?_
           refine wpL_done (fun W19 hW19 => ?_)
           change Code.wp ..
           refine wp_ret ?_
           try simp only [inBlock_ret, then_ret]
           refine bodyPost_ret (v := .bool false) ?_ rfl ?_
           · kernel_rfl
           · exact ⟨(bool_is (few8_no fun e => by have h9 := e.2.2.1 y5 (List.mem_of_getElem? hy5); omega).symm), hW19.1⟩
   | true =>
     have h2 : 50 < os.length := of_decide_eq_true hd2
     clear hd2
     refine wp_cond_true rfl ?_
     refine wp_seq ?_
     refine wp_region_L _ hW2 ?_
     refine lm (v := .bool false) rfl rfl ?_
     refine wpL_done (fun W20 hW20 => ?_)
     change Code.wp ..
     refine wp_ret ?_
     try simp only [inBlock_ret, then_ret]
     refine bodyPost_ret (v := .bool false) ?_ rfl ?_
     · kernel_rfl
     · exact ⟨(bool_is (few8_no fun e => by omega).symm), hW20.1⟩
 | true =>
   have h1 : 60 < cs.length := of_decide_eq_true hd1
   clear hd1
   refine ln rfl ?_
   refine ln rfl ?_
   refine ln rfl ?_
   refine ln rfl ?_
   refine lm (v := .bool true) rfl rfl ?_
   refine wpL_done (fun W21 hW21 => ?_)
   change Code.wp ..
   refine wp_cond_true rfl ?_
   refine wp_seq ?_
   refine wp_region_L _ hW21 ?_
   refine lm (v := .bool false) rfl rfl ?_
   refine wpL_done (fun W22 hW22 => ?_)
   change Code.wp ..
   refine wp_ret ?_
   try simp only [inBlock_ret, then_ret]
   refine bodyPost_ret (v := .bool false) ?_ rfl ?_
   · kernel_rfl
   · exact ⟨(bool_is (few8_no fun e => by omega).symm), hW22.1⟩
end Go.Proofs.YtlinjngifacmoaaDoor
/- Paths of a walk that come together again, where some of them have returned before. -/
namespace Tw
open Go Go.RowKit Go.Proofs.YtlinjngifacmoaaDoor
def preQ (P : Program) (Q : Exit → Act → World → Prop) (R : Act → World → Prop) : Nat → Code → Act → World → Prop
 | 0, _, a, w => R a w
 | n + 1, .seq x y, a, w => x.wp P (Exit.then (preQ P Q R n y) Q) a w
 | _ + 1, _, _, _ => False
theorem wp_joinsQ {P : Program} {Q : Exit → Act → World → Prop} (R : Act → World → Prop) : ∀ (n : Nat) {c : Code} {a : Act} {w : World}, preQ P Q R n c a w → (∀ a' w', R a' w' → (cutT n c).wp P Q a' w') → c.wp P Q a w
 | 0, c, a, w, h1, h2 => by
   have := h2 a w h1
   cases c <;> exact this
 | n + 1, c, a, w, h1, h2 => by
   cases c with
   | seq x y =>
     refine wp_seq (wp_mono h1 ?_)
     rintro e a' w' hq
     cases e with
     | normal => exact wp_joinsQ R n hq h2
     | _ => exact hq
   | _ => exact h1.elim
end Tw
/- Names of a lent ship; the reference's text. -/
namespace Go.Proofs.YtlinjngifacmoaaDoor
open Go Go.RowKit Tw
theorem nameX_e (cs : List Col) (x : Slt) : nameX (cs.map eC) x = nameX cs x := by
 unfold nameX
 rw [elC_e eC col0 rfl]; rfl
theorem isSlot_e (cs : List Col) (x : Slt) : isSlot (cs.map eC) x = isSlot cs x := by
 unfold isSlot
 rw [rightS_e, rightS_e]
theorem nameR_e (cs : List Col) (os : List Cov) (x : Slt) : nameR (cs.map eC) (os.map eO) x = nameR cs os x := by
 unfold nameR
 rw [right_e, isSlot_e, nameX_e]
theorem findC_e (cs : List Col) (l : List UInt8) : findC (cs.map eC) l = findC cs l := find_e _ _ _ cs
theorem findR_e (cs : List Col) (os : List Cov) (l : List UInt8) : findR (cs.map eC) (os.map eO) l = findR cs os l := by
 unfold findR foundB slotOf
 rw [right_e, findC_e, ex_e]
theorem lent_names {s t : Sp} {T : List (Nat × Obj)} (h : LentSp s t T) : (∀ x, nameR t.cs t.os x = nameR s.cs s.os x) ∧ ∀ l, findR t.cs t.os l = findR s.cs s.os l := by
 have e := lentC_e h.cs.2.1 h.cs.1
 have f := lentO_e h.os.2.1 h.os.1
 exact ⟨fun x => by rw [← nameR_e t.cs, e, f, nameR_e], fun l => by rw [← findR_e t.cs, e, f, findR_e]⟩
-- the reference's text
def colN (b r : Nat) (z : Col) : Col := { z with bay := ((b : Nat) : Int), row := ((r : Nat) : Int) }
theorem col_nat {y : Col} (h1 : 0 ≤ y.bay) (h2 : 0 ≤ y.row) : ∃ (b r : Nat) (z : Col), y = colN b r z ∧ z.deck = y.deck := by
 obtain ⟨b, hb⟩ := Int.eq_ofNat_of_zero_le h1
 obtain ⟨r, hr⟩ := Int.eq_ofNat_of_zero_le h2
 refine ⟨b, r, y, ?_, rfl⟩
 cases y
 simp only at hb hr
 subst hb hr
 rfl
theorem name_bytes {b r t h : Nat} {d : Bool} (hb : b ≤ 39) (hr : r ≤ 30) (ht : t ≤ 9) : txtN (numN b r t d h) = [UInt8.ofNat (48 + (4 * b + codeN h) / 100), UInt8.ofNat (48 + (4 * b + codeN h) / 10 % 10), UInt8.ofNat (48 + (4 * b + codeN h) % 10), UInt8.ofNat (48 + r / 10), UInt8.ofNat (48 + r % 10), UInt8.ofNat (48 + tierN t d / 10), UInt8.ofNat (48 + tierN t d % 10)] := by
 have hc := codeN_le h
 have hT := (tier_num (d := d) ht).2.2.2
 unfold txtN dgB numN
 obtain ⟨q, hq⟩ : ∃ q, 4 * b + codeN h = q := ⟨_, rfl⟩
 obtain ⟨T, hT2⟩ : ∃ T, tierN t d = T := ⟨_, rfl⟩
 rw [hq, hT2]
 rw [hT2] at hT
 have hq2 : q ≤ 159 := by omega
 rw [show (q * 10000 + r * 100 + T) / 1000000 % 10 = q / 100 from by omega, show (q * 10000 + r * 100 + T) / 100000 % 10 = q / 10 % 10 from by omega, show (q * 10000 + r * 100 + T) / 10000 % 10 = q % 10 from by omega,
   show (q * 10000 + r * 100 + T) / 1000 % 10 = r / 10 from by omega, show (q * 10000 + r * 100 + T) / 100 % 10 = r % 10 from by omega, show (q * 10000 + r * 100 + T) / 10 % 10 = T / 10 from by omega, show (q * 10000 + r * 100 + T) % 10 = T % 10 from by omega]
end Go.Proofs.YtlinjngifacmoaaDoor
/- What the reference finds. -/
namespace Go.Proofs.YtlinjngifacmoaaDoor
open Go Go.RowKit Tw
theorem half_iff {k : Nat} (h : k < 4) : halfB k = true ↔ ¬ k = 0 := by
 unfold halfB
 simp only [Bool.or_eq_true, decide_eq_true_eq]
 omega
theorem tier_iff {n : Nat} (h : n ≤ 99) : tierB n = true ↔ ¬ n % 2 = 1 ∧ ¬ (20 < n ∧ n < 82) := by
 have key : tierR n = if n = 0 then 20 else if 80 < n then n - 80 else n := by
   unfold tierR tierM
   by_cases h0 : n = 0
   · rw [if_pos h0, if_pos h0]; rfl
   · rw [if_neg h0, if_neg h0]
 unfold tierB
 rw [key]
 simp only [Bool.and_eq_true, decide_eq_true_eq]
 split
 · omega
 · split <;> omega
theorem place_dig {b0 b1 b2 b3 b4 b5 b6 : UInt8} (k0 : 48 ≤ b0.toNat ∧ b0.toNat ≤ 57) (k1 : 48 ≤ b1.toNat ∧ b1.toNat ≤ 57) (k2 : 48 ≤ b2.toNat ∧ b2.toNat ≤ 57) (k3 : 48 ≤ b3.toNat ∧ b3.toNat ≤ 57) (k4 : 48 ≤ b4.toNat ∧ b4.toNat ≤ 57) (k5 : 48 ≤ b5.toNat ∧ b5.toNat ≤ 57) (k6 : 48 ≤ b6.toNat ∧ b6.toNat ≤ 57) (hd : digsOk [b0, b1, b2, b3, b4, b5, b6] = true) :
   placeB [b0, b1, b2, b3, b4, b5, b6] = true ↔ ¬ ((b0.toNat - 48) * 100 + (b1.toNat - 48) * 10 + (b2.toNat - 48)) % 4 = 0 ∧ ¬ ((b5.toNat - 48) * 10 + (b6.toNat - 48)) % 2 = 1 ∧ ¬ (20 < (b5.toNat - 48) * 10 + (b6.toNat - 48) ∧ (b5.toNat - 48) * 10 + (b6.toNat - 48) < 82) := by
 have e1 : decN [b0, b1, b2, b3, b4, b5, b6] / 10000 % 4 = ((b0.toNat - 48) * 100 + (b1.toNat - 48) * 10 + (b2.toNat - 48)) % 4 := by
   simp only [decN, List.foldl_cons, List.foldl_nil]
   omega
 have e2 : decN [b0, b1, b2, b3, b4, b5, b6] % 100 = (b5.toNat - 48) * 10 + (b6.toNat - 48) := by
   simp only [decN, List.foldl_cons, List.foldl_nil]
   omega
 unfold placeB
 rw [hd, Bool.true_and, Bool.and_eq_true, e1, e2, half_iff Tw.om, tier_iff Tw.om]
theorem slot_of8 {cs : List Col} {z i : Nat} {y : Slt} (hz : z = 20 ∨ z = 40) (hy : (slotsX cs z)[i]? = some y) : isSlot cs y = true := by
 have h := slots_mem.1 (List.mem_of_getElem? hy)
 unfold isSlot
 rcases hz with rfl | rfl
 · rw [h]; rfl
 · rw [h, Bool.or_true]
theorem nameR_slot {cs : List Col} {os : List Cov} {z i : Nat} {y : Slt} (hr : rightX cs os = true) (hz : z = 20 ∨ z = 40) (hy : (slotsX cs z)[i]? = some y) : nameR cs os y = (nameX cs y, 0) := by
 unfold nameR
 rw [if_pos hr, if_pos (slot_of8 hz hy)]
theorem slot_found {cs : List Col} {os : List Cov} {l : List UInt8} {z i : Nat} {y : Slt} (hr : rightX cs os = true) (hz : z = 20 ∨ z = 40) (hy : (slotsX cs z)[i]? = some y) (he : nameX cs y = l) : findR cs os l = (y, 0) :=
 he ▸ find_name hr (slot_of8 hz hy)
theorem slot_lost {cs : List Col} {os : List Cov} {l : List UInt8} {k m : Nat} (hr : rightX cs os = true) (hp : placeB l = true) (h2 : ∀ j, j < k → ∀ y, (slotsX cs 20)[j]? = some y → ¬ nameX cs y = l) (hk : ¬ k < (slotsX cs 20).length) (h4 : ∀ j, j < m → ∀ y, (slotsX cs 40)[j]? = some y → ¬ nameX cs y = l) (hm : ¬ m < (slotsX cs 40).length) : findR cs os l = (slt0, 6) := by
 rcases find_cases cs os l with ⟨h, _⟩ | ⟨_, h, _⟩ | ⟨_, _, h⟩ | ⟨_, _, h⟩
 · rw [hr] at h; cases h
 · rw [hp] at h; cases h
 · exfalso
   obtain ⟨q1, q2, _⟩ := name_find (x := (findR cs os l).1) hr (Prod.ext rfl h)
   unfold isSlot at q1
   rw [Bool.or_eq_true] at q1
   rcases q1 with q | q
   · obtain ⟨j, hj⟩ := List.getElem?_of_mem (slots_mem.2 q)
     exact h2 j (by have := (List.getElem?_eq_some_iff.1 hj).1; omega) _ hj q2
   · obtain ⟨j, hj⟩ := List.getElem?_of_mem (slots_mem.2 q)
     exact h4 j (by have := (List.getElem?_eq_some_iff.1 hj).1; omega) _ hj q2
 · exact h
theorem names_step {cs : List Col} {l : List UInt8} {z k : Nat} {y : Slt} (hN : ∀ j, j < k → ∀ y, (slotsX cs z)[j]? = some y → ¬ nameX cs y = l) (hy : (slotsX cs z)[k]? = some y) (he : ¬ nameX cs y = l) : ∀ j, j < k + 1 → ∀ y, (slotsX cs z)[j]? = some y → ¬ nameX cs y = l := fun j hj x hx => by
 by_cases e : j = k
 · subst e
   rw [hy] at hx
   cases hx
   exact he
 · exact hN j Tw.om x hx
theorem slots_few8 {cs : List Col} {os : List Cov} (h : rightX cs os = true) (z : Nat) : (slotsX cs z).length ≤ 4000 := by
 rw [slots_len]
 obtain ⟨h1, _, h3⟩ := right_cols h
 have h4 := posT_le (cs := cs) (m := 10) fun c hc => by have := colx_in (h1 c hc); omega
 have h5 := hsX_len z
 have h6 : posT cs * (hsX z).length ≤ 2000 * 2 := Nat.mul_le_mul Tw.om h5
 omega
theorem dig_step {l : List UInt8} {i : Nat} {c : UInt8} (hD : ∀ j, j < i → ∀ b, l[j]? = some b → isDg b = true) (hc : l[i]? = some c) (h : isDg c = true) : ∀ j, j < i + 1 → ∀ b, l[j]? = some b → isDg b = true := fun j hj b hb => by
 by_cases e : j = i
 · subst e
   rw [hc] at hb
   cases hb
   exact h
 · exact hD j Tw.om b hb
theorem digs_all {l : List UInt8} (hl : l.length = 7) (h : ∀ j, j < 7 → ∀ b, l[j]? = some b → isDg b = true) : digsOk l = true := by
 unfold digsOk
 rw [decide_eq_true hl, Bool.true_and, List.all_eq_true]
 intro b hb
 obtain ⟨j, hj⟩ := List.getElem?_of_mem hb
 exact h j (by have := (List.getElem?_eq_some_iff.1 hj).1; omega) b hj
end Go.Proofs.YtlinjngifacmoaaDoor
/- The reference of slots: plain facts. -/
namespace Go.Proofs.YtlinjngifacmoaaDoor
open Go Go.RowKit Tw
theorem hasH_eq (z h : Nat) : hasH z h = ((decide (z = 40) && decide (h = 0)) || (decide (z = 20) && (decide (h = 1) || decide (h = 2)))) := by
 rw [Bool.eq_iff_iff, hasH_iff]
 simp only [Bool.or_eq_true, Bool.and_eq_true, decide_eq_true_eq]
 constructor
 · intro hm
   rcases hsX_mem hm with ⟨h1, h2⟩ | ⟨h1, h2⟩
   · exact .inr ⟨h1, h2⟩
   · exact .inl ⟨h1, h2⟩
 · rintro (⟨rfl, rfl⟩ | ⟨rfl, rfl | rfl⟩)
   · exact .head _
   · exact .head _
   · exact .tail _ Tw.m0
theorem ex_col8 {cs : List Col} {n t : Int} (h : n < 0 ∨ ((cs.length : Nat) : Int) ≤ n) : exS cs n t = false := by
 cases hq : exS cs n t with
 | false => rfl
 | true =>
   obtain ⟨j, c, hj, hn, _⟩ := exS_iff.1 hq
   have := (List.getElem?_eq_some_iff.1 hj).1
   omega
theorem ex_neg8 {cs : List Col} {n t : Int} (h : t < 0) : exS cs n t = false := by
 cases hq : exS cs n t with
 | false => rfl
 | true =>
   obtain ⟨j, c, hj, hn, h2, _⟩ := exS_iff.1 hq
   omega
theorem ex_at8 {cs : List Col} {m : Nat} {t : Int} {y : Col} (hy : cs[m]? = some y) (h0 : ¬ t < 0) : exS cs ((m : Nat) : Int) t = decide (t < y.tiers) := by
 rw [Bool.eq_iff_iff, decide_eq_true_iff, exS_iff]
 constructor
 · rintro ⟨j, c, hj, hn, _, h2⟩
   have : j = m := by omega
   subst this
   rw [hy] at hj; cases hj
   exact h2
 · exact fun h => ⟨m, y, hy, rfl, by omega, h⟩
theorem right_no8 {cs : List Col} {x : Slt} {z : Nat} (h : exS cs x.col x.tier = false) : rightS cs x z = false := by unfold rightS; rw [h]; rfl
theorem right_is8 {cs : List Col} {x : Slt} {z : Nat} (h : exS cs x.col x.tier = true) : rightS cs x z = ((decide (z = 40) && decide (x.half = 0)) || (decide (z = 20) && (decide (x.half = 1) || decide (x.half = 2)))) := by unfold rightS; rw [h, hasH_eq]; rfl
-- the list of all slots, as the reference makes it
theorem slotsF_snoc {z : Nat} {c : Col} {cs : List Col} : ∀ {k : Nat}, slotsF z k (cs ++ [c]) = slotsF z k cs ++ colSl z (k + cs.length) c.tiers := by
 induction cs with
 | nil => intro k; simp [slotsF]
 | cons d cs ih =>
   intro k
   simp only [List.cons_append, slotsF, ih, List.append_assoc, List.length_cons]
   rw [show k + 1 + cs.length = k + (cs.length + 1) from by omega]
theorem slotsF_take {z : Nat} {cs : List Col} {k : Nat} {c : Col} (h : cs[k]? = some c) : slotsF z 0 (cs.take (k + 1)) = slotsF z 0 (cs.take k) ++ colSl z k c.tiers := by
 obtain ⟨hk, rfl⟩ := List.getElem?_eq_some_iff.1 h
 rw [List.take_succ_eq_append_getElem hk, slotsF_snoc, List.length_take, Nat.min_eq_left Tw.om, Nat.zero_add]
def upT (z k t : Nat) : List Slt := (List.range t).flatMap (tierS z k)
def upH (z k t h : Nat) : List Slt := ((List.range h).filter (hasH z)).map fun h => ⟨((k : Nat) : Int), ((t : Nat) : Int), h⟩
theorem upT_all {z k : Nat} {n : Int} {t : Nat} (h : ¬ ((t : Nat) : Int) < n) (h2 : ((t : Nat) : Int) ≤ n ∨ t = 0) : upT z k t = colSl z k n := by
 unfold upT colSl
 rw [show n.toNat = t from by omega]
theorem upT_snoc (z k t : Nat) : upT z k (t + 1) = upT z k t ++ tierS z k t := by
 unfold upT
 rw [List.range_succ, List.flatMap_append, List.flatMap_singleton]
theorem upH_yes {z k t h : Nat} (hh : hasH z h = true) : upH z k t (h + 1) = upH z k t h ++ [⟨((k : Nat) : Int), ((t : Nat) : Int), h⟩] := by
 unfold upH
 rw [List.range_succ, List.filter_append, List.filter_cons_of_pos hh, List.filter_nil, List.map_append]; rfl
theorem upH_no {z k t h : Nat} (hh : hasH z h = false) : upH z k t (h + 1) = upH z k t h := by
 unfold upH
 rw [List.range_succ, List.filter_append, List.filter_cons_of_neg (by rw [hh]; decide), List.filter_nil, List.append_nil]
theorem upH_all (z k t : Nat) : upH z k t 3 = tierS z k t := by
 have e : (List.range 3).filter (hasH z) = hsX z := by
   have r : List.range 3 = [0, 1, 2] := rfl
   rw [r]
   by_cases h2 : z = 20
   · subst h2; rfl
   · by_cases h4 : z = 40
     · subst h4; rfl
     · have h0 : hsX z = [] := by unfold hsX; rw [if_neg h2, if_neg h4]
       have hn : ∀ h, hasH z h = false := fun h => by
         cases hq : hasH z h with
         | false => rfl
         | true => have := hasH_iff.1 hq; rw [h0] at this; cases this
       simp [hn, h0]
 unfold upH tierS
 rw [e]
end Go.Proofs.YtlinjngifacmoaaDoor
namespace Go.Proofs.YtlinjngifacmoaaDoor
open Go Go.RowKit Tw
end Go.Proofs.YtlinjngifacmoaaDoor
namespace Go.Proofs.YtlinjngifacmoaaDoor
open Go Go.RowKit Tw
set_option maxRecDepth 100000 in
set_option maxHeartbeats 4000000 in
theorem R8Right_any (cs : List Col) (pc : Option Addr) (cc : Nat) (lc : cs.length ≤ 4000000000) (os : List Cov) (po : Option Addr) (co : Nat) (lo : os.length ≤ 4000000000) (t : Tl) (xc xt : Int) (xh z : Nat) (w : World) (hc : SLV w pc (cs.flatMap colC)) (ho : SLV w po (os.flatMap covC)) : Calls Tryd.prog 15 #[.agg (shC (.slice pc cs.length cc) (.slice po os.length co) t).toArray, .agg #[.int .i64 xc, .int .i64 xt, .int .u8 ((xh : Nat) : Int)], .int .i64 ((z : Nat) : Int)] w fun e w' => e = .returned (.bool (rightS cs (⟨xc, xt, xh⟩ : Slt) z)) ∧ Below w.heap.size w w' := by
 have HC := Lib.hid hc
 clear hc
 have HO := Lib.hid ho
 clear ho
 go_enter Tryd.func15, Tryd.ntmps15
 refine wp_seq ?_
 refine wp_region_L [] (KS.start w) ?_
 refine wpL_new (fun g => .pointer (some ⟨g, 0, none⟩)) (obi := .cells (shC (.slice pc cs.length cc) (.slice po os.length co) t).toArray 32 (0, 0)) rfl rfl Tw.kf Tw.pf fun g1 Bg1 Fg1 => ?_
 refine wpL_new (fun g => .pointer (some ⟨g, 0, none⟩)) (obi := .cells #[.int .i64 xc, .int .i64 xt, .int .u8 ((xh : Nat) : Int)] 34 (0, 0)) rfl rfl Tw.kf Tw.pf fun g2 Bg2 Fg2 => ?_
 obtain dj3_0 : g1 ≠ g2 := Tw.dkf Fg2
 refine lm (v := .bool false) rfl rfl ?_
 refine wpL_done (fun W1 hW1 => ?_)
 change Code.wp ..
 refine wp_seq ?_
 refine wp_seq ?_
 refine wp_region_V _ Tw.kr hW1 ?_
 refine vm (i := 0) (v := .pointer (some ⟨g2, 0, none⟩)) rfl rfl rfl ?_
 refine vv (i := 1) (v := .int .i64 xc) rfl rfl rfl (yb_cell (off := 0) rfl Tw.kr Tw.m0 Tryd.underlying3 rfl Tw.kr) ?_
 refine vp (i := 2) (v := .bool (decide (xc < 0))) rfl rfl rfl (run_bin rfl (vx := (.int .i64 xc)) (vy := (.int .i64 0)) Tw.kr Tw.kr fun w => bi_lss rfl w) ?_
 refine vm (i := 3) (v := .bool (decide (xc < 0))) rfl rfl rfl ?_
 cases hd1 : (decide (xc < 0)) with
 | false =>
   have h1 : ¬ (xc < 0) := of_decide_eq_false hd1
   clear hd1
   refine vm (i := 4) (v := .pointer (some ⟨g2, 0, none⟩)) rfl rfl rfl ?_
   refine vv (i := 5) (v := .int .i64 xc) rfl rfl rfl (yb_cell (off := 0) rfl Tw.kr Tw.m0 Tryd.underlying3 rfl Tw.kr) ?_
   refine vm (i := 6) (v := .pointer (some ⟨g1, 0, none⟩)) rfl rfl rfl ?_
   refine vv (i := 7) (v := .slice pc cs.length cc) rfl rfl rfl (yb_cell (off := 0) rfl Tw.kr Tw.m1 Tryd.underlying22 rfl Tw.kr) ?_
   refine vp (i := 8) (v := .int .i64 ((cs.length : Nat) : Int)) rfl rfl rfl (run_lenL (p := pc) (cap := cc) (n := cs.length) rfl Tryd.underlying22 Tw.kr) ?_
   refine vp (i := 9) (v := .bool (!(decide (xc < ((cs.length : Nat) : Int))))) rfl rfl rfl (run_bin rfl (vx := (.int .i64 xc)) (vy := (.int .i64 ((cs.length : Nat) : Int))) Tw.kr Tw.kr fun w => bi_geq rfl w) ?_
   refine vm (i := 10) (v := .bool (!(decide (xc < ((cs.length : Nat) : Int))))) rfl rfl rfl ?_
   refine vm (i := 11) (v := .bool (!(decide (xc < ((cs.length : Nat) : Int))))) rfl rfl rfl ?_
   cases hd2 : (decide (xc < ((cs.length : Nat) : Int))) with
   | false =>
     have h2 : ¬ (xc < ((cs.length : Nat) : Int)) := of_decide_eq_false hd2
     clear hd2
     refine vn (i := 12) rfl rfl ?_
     refine vn (i := 13) rfl rfl ?_
     refine vn (i := 14) rfl rfl ?_
     refine vm (i := 15) (v := .bool true) rfl rfl rfl ?_
     refine vm (i := 16) (v := .bool true) rfl rfl rfl ?_
     refine vn (i := 17) rfl rfl ?_
     refine vn (i := 18) rfl rfl ?_
     refine vn (i := 19) rfl rfl ?_
     refine vn (i := 20) rfl rfl ?_
     refine vn (i := 21) rfl rfl ?_
     refine vn (i := 22) rfl rfl ?_
     refine vn (i := 23) rfl rfl ?_
     refine vn (i := 24) rfl rfl ?_
     refine vn (i := 25) rfl rfl ?_
     refine vn (i := 26) rfl rfl ?_
     refine vm (i := 27) (v := .bool true) rfl rfl rfl ?_
     refine wpV_done Tw.kr (fun W2 hW2 => ?_) _
     change Code.wp ..
     refine wp_cond_true rfl ?_
     refine wp_seq ?_
     refine wp_region_L _ hW2 ?_
     refine lm (v := .bool false) rfl rfl ?_
     refine wpL_done (fun W3 hW3 => ?_)
     change Code.wp ..
     refine wp_ret ?_
     try simp only [inBlock_ret, then_ret]
     refine bodyPost_ret (v := .bool false) ?_ rfl ?_
     · kernel_rfl
     · exact ⟨(bool_is (right_no8 (x := (⟨xc, xt, xh⟩ : Slt)) (ex_col8 (by simp only; omega))).symm), hW3.1⟩
   | true =>
     have h2 : xc < ((cs.length : Nat) : Int) := of_decide_eq_true hd2
     clear hd2
     refine vm (i := 12) (v := .pointer (some ⟨g2, 1, none⟩)) rfl rfl rfl ?_
     refine vv (i := 13) (v := .int .i64 xt) rfl rfl rfl (yb_cell (off := 1) rfl Tw.kr Tw.m0 Tryd.underlying3 rfl Tw.kr) ?_
     refine vp (i := 14) (v := .bool (decide (xt < 0))) rfl rfl rfl (run_bin rfl (vx := (.int .i64 xt)) (vy := (.int .i64 0)) Tw.kr Tw.kr fun w => bi_lss rfl w) ?_
     refine vm (i := 15) (v := .bool (decide (xt < 0))) rfl rfl rfl ?_
     refine vm (i := 16) (v := .bool (decide (xt < 0))) rfl rfl rfl ?_
     cases hd3 : (decide (xt < 0)) with
     | false =>
       have h3 : ¬ (xt < 0) := of_decide_eq_false hd3
       clear hd3
       refine vm (i := 17) (v := .pointer (some ⟨g2, 1, none⟩)) rfl rfl rfl ?_
       refine vv (i := 18) (v := .int .i64 xt) rfl rfl rfl (yb_cell (off := 1) rfl Tw.kr Tw.m0 Tryd.underlying3 rfl Tw.kr) ?_
       refine vm (i := 19) (v := .pointer (some ⟨g1, 0, none⟩)) rfl rfl rfl ?_
       refine vv (i := 20) (v := .slice pc cs.length cc) rfl rfl rfl (yb_cell (off := 0) rfl Tw.kr Tw.m1 Tryd.underlying22 rfl Tw.kr) ?_
       refine vm (i := 21) (v := .pointer (some ⟨g2, 0, none⟩)) rfl rfl rfl ?_
       refine vv (i := 22) (v := .int .i64 xc) rfl rfl rfl (yb_cell (off := 0) rfl Tw.kr Tw.m0 Tryd.underlying3 rfl Tw.kr) ?_
       obtain ⟨m, hm⟩ : ∃ m : Nat, xc = (m : Int) := ⟨xc.toNat, by omega⟩
       subst hm
       obtain ⟨y4, g4_, f4_, hy4, hp4, hc4⟩ := RL.at (RL.base HC.out) colC_len (by decide) (hW1.sub (fun _ h => by cases h)) (k := m) Tw.om
       refine vp (i := 23) (v := .pointer (some ⟨g4_, f4_ + m * 12, none⟩)) rfl rfl rfl (run_idxQ (p := pc) (cap := cc) (n := cs.length) (j := .i64) (k := m) (sz := 12) rfl Tryd.underlying22 Tw.kr Tw.kr hp4 Tw.kr Tw.om) ?_
       refine vm (i := 24) (v := .pointer (some ⟨g4_, f4_ + m * 12 + 3, none⟩)) rfl rfl rfl ?_
       refine vb (i := 25) (v := .int .i64 y4.tiers) rfl rfl rfl (yb_rf (v := .int .i64 y4.tiers) rfl Tw.kr (fun W hW => hc4 W (hW.sub (fun _ h => by cases h)) 3 _ rfl) Tryd.underlying3 rfl) ?_
       refine vp (i := 26) (v := .bool (!(decide (xt < y4.tiers)))) rfl rfl rfl (run_bin rfl (vx := (.int .i64 xt)) (vy := (.int .i64 y4.tiers)) Tw.kr Tw.kr fun w => bi_geq rfl w) ?_
       refine vm (i := 27) (v := .bool (!(decide (xt < y4.tiers)))) rfl rfl rfl ?_
       refine wpV_done Tw.kr (fun W4 hW4 => ?_) _
       change Code.wp ..
       cases hd4 : (decide (xt < y4.tiers)) with
       | false =>
         have h4 : ¬ (xt < y4.tiers) := of_decide_eq_false hd4
         clear hd4
         refine wp_cond_true rfl ?_
         refine wp_seq ?_
         refine wp_region_L _ hW4 ?_
         refine lm (v := .bool false) rfl rfl ?_
         refine wpL_done (fun W5 hW5 => ?_)
         change Code.wp ..
         refine wp_ret ?_
         try simp only [inBlock_ret, then_ret]
         refine bodyPost_ret (v := .bool false) ?_ rfl ?_
         · kernel_rfl
         · exact ⟨(bool_is (right_no8 (x := (⟨((m : Nat) : Int), xt, xh⟩ : Slt)) ((ex_at8 hy4 h3).trans (decide_eq_false h4))).symm), hW5.1⟩
       | true =>
         have h4 : xt < y4.tiers := of_decide_eq_true hd4
         clear hd4
         refine wp_cond_false rfl ?_
         refine wp_skip ?_
         change Code.wp ..
         refine wp_seq ?_
         refine wp_region_L _ hW4 ?_
         refine lm (v := .int .i64 ((z : Nat) : Int)) rfl rfl ?_
         refine lp (v := .bool (decide (z = 40))) rfl rfl (run_bin rfl (vx := (.int .i64 ((z : Nat) : Int))) (vy := (.int .i64 ((40 : Nat) : Int))) Tw.kr Tw.kr fun w => bn_eql rfl w) ?_
         refine lm (v := .bool (decide (z = 40))) rfl rfl ?_
         cases hd5 : (decide (z = 40)) with
         | false =>
           have h5 : ¬ (z = 40) := of_decide_eq_false hd5
           clear hd5
           refine ln rfl ?_
           refine ln rfl ?_
           refine ln rfl ?_
           refine lm (v := .bool false) rfl rfl ?_
           refine lm (v := .bool false) rfl rfl ?_
           refine lm (v := .int .i64 ((z : Nat) : Int)) rfl rfl ?_
           refine lp (v := .bool (decide (z = 20))) rfl rfl (run_bin rfl (vx := (.int .i64 ((z : Nat) : Int))) (vy := (.int .i64 ((20 : Nat) : Int))) Tw.kr Tw.kr fun w => bn_eql rfl w) ?_
           refine lm (v := .bool (decide (z = 20))) rfl rfl ?_
           cases hd6 : (decide (z = 20)) with
           | false =>
             have h6 : ¬ (z = 20) := of_decide_eq_false hd6
             clear hd6
             refine ln rfl ?_
             refine ln rfl ?_
             refine ln rfl ?_
             refine ln rfl ?_
             refine ln rfl ?_
             refine ln rfl ?_
             refine ln rfl ?_
             refine ln rfl ?_
             refine lm (v := .bool false) rfl rfl ?_
             refine lm (v := .bool false) rfl rfl ?_
             refine lm (v := .bool false) rfl rfl ?_
             refine wpL_done (fun W6 hW6 => ?_)
             change Code.wp ..
             refine wp_ret ?_
             try simp only [inBlock_ret, then_ret]
             refine bodyPost_ret (v := .bool false) ?_ rfl ?_
             · kernel_rfl
             · exact ⟨(bool_is (by rw [right_is8 (x := (⟨((m : Nat) : Int), xt, xh⟩ : Slt)) ((ex_at8 hy4 h3).trans (decide_eq_true h4))]; simp [decide_eq_false h5, decide_eq_false h6])), hW6.1⟩
           | true =>
             have h6 : z = 20 := of_decide_eq_true hd6
             clear hd6
             refine lm (v := .pointer (some ⟨g2, 2, none⟩)) rfl rfl ?_
             refine lv (v := .int .u8 ((xh : Nat) : Int)) rfl rfl (yb_cell (off := 2) rfl Tw.kr Tw.m0 Tryd.underlying5 rfl Tw.kr) ?_
             refine lp (v := .bool (decide (xh = 1))) rfl rfl (run_bin rfl (vx := (.int .u8 ((xh : Nat) : Int))) (vy := (.int .u8 ((1 : Nat) : Int))) Tw.kr Tw.kr fun w => bn_eql rfl w) ?_
             refine lm (v := .bool (decide (xh = 1))) rfl rfl ?_
             cases hd7 : (decide (xh = 1)) with
             | false =>
               have h7 : ¬ (xh = 1) := of_decide_eq_false hd7
               clear hd7
               refine lm (v := .pointer (some ⟨g2, 2, none⟩)) rfl rfl ?_
               refine lv (v := .int .u8 ((xh : Nat) : Int)) rfl rfl (yb_cell (off := 2) rfl Tw.kr Tw.m0 Tryd.underlying5 rfl Tw.kr) ?_
               refine lp (v := .bool (decide (xh = 2))) rfl rfl (run_bin rfl (vx := (.int .u8 ((xh : Nat) : Int))) (vy := (.int .u8 ((2 : Nat) : Int))) Tw.kr Tw.kr fun w => bn_eql rfl w) ?_
               refine lm (v := .bool (decide (xh = 2))) rfl rfl ?_
               refine lm (v := .bool (decide (xh = 2))) rfl rfl ?_
               refine lm (v := .bool (decide (xh = 2))) rfl rfl ?_
               refine lm (v := .bool (decide (xh = 2))) rfl rfl ?_
               refine wpL_done (fun W7 hW7 => ?_)
               change Code.wp ..
               refine wp_ret ?_
               try simp only [inBlock_ret, then_ret]
               refine bodyPost_ret (v := .bool (decide (xh = 2))) ?_ rfl ?_
               · kernel_rfl
               · exact ⟨(bool_is (by rw [right_is8 (x := (⟨((m : Nat) : Int), xt, xh⟩ : Slt)) ((ex_at8 hy4 h3).trans (decide_eq_true h4))]; simp [decide_eq_false h5, decide_eq_true h6, decide_eq_false h7])), hW7.1⟩
             | true =>
               have h7 : xh = 1 := of_decide_eq_true hd7
               clear hd7
               refine ln rfl ?_
               refine ln rfl ?_
               refine ln rfl ?_
               refine lm (v := .bool true) rfl rfl ?_
               refine lm (v := .bool true) rfl rfl ?_
               refine lm (v := .bool true) rfl rfl ?_
               refine lm (v := .bool true) rfl rfl ?_
               refine wpL_done (fun W8 hW8 => ?_)
               change Code.wp ..
               refine wp_ret ?_
               try simp only [inBlock_ret, then_ret]
               refine bodyPost_ret (v := .bool true) ?_ rfl ?_
               · kernel_rfl
               · exact ⟨(bool_is (by rw [right_is8 (x := (⟨((m : Nat) : Int), xt, xh⟩ : Slt)) ((ex_at8 hy4 h3).trans (decide_eq_true h4))]; simp [decide_eq_false h5, decide_eq_true h6, decide_eq_true h7])), hW8.1⟩
         | true =>
           have h5 : z = 40 := of_decide_eq_true hd5
           clear hd5
           refine lm (v := .pointer (some ⟨g2, 2, none⟩)) rfl rfl ?_
           refine lv (v := .int .u8 ((xh : Nat) : Int)) rfl rfl (yb_cell (off := 2) rfl Tw.kr Tw.m0 Tryd.underlying5 rfl Tw.kr) ?_
           refine lp (v := .bool (decide (xh = 0))) rfl rfl (run_bin rfl (vx := (.int .u8 ((xh : Nat) : Int))) (vy := (.int .u8 ((0 : Nat) : Int))) Tw.kr Tw.kr fun w => bn_eql rfl w) ?_
           refine lm (v := .bool (decide (xh = 0))) rfl rfl ?_
           refine lm (v := .bool (decide (xh = 0))) rfl rfl ?_
           cases hd8 : (decide (xh = 0)) with
           | false =>
             have h8 : ¬ (xh = 0) := of_decide_eq_false hd8
             clear hd8
             refine lm (v := .int .i64 ((z : Nat) : Int)) rfl rfl ?_
             refine lp (v := .bool (decide (z = 20))) rfl rfl (run_bin rfl (vx := (.int .i64 ((z : Nat) : Int))) (vy := (.int .i64 ((20 : Nat) : Int))) Tw.kr Tw.kr fun w => bn_eql rfl w) ?_
             refine lm (v := .bool (decide (z = 20))) rfl rfl ?_
             cases hd9 : (decide (z = 20)) with
             | false =>
               have h9 : ¬ (z = 20) := of_decide_eq_false hd9
               clear hd9
               refine ln rfl ?_
               refine ln rfl ?_
               refine ln rfl ?_
               refine ln rfl ?_
               refine ln rfl ?_
               refine ln rfl ?_
               refine ln rfl ?_
               refine ln rfl ?_
               refine lm (v := .bool false) rfl rfl ?_
               refine lm (v := .bool false) rfl rfl ?_
               refine lm (v := .bool false) rfl rfl ?_
               refine wpL_done (fun W9 hW9 => ?_)
               change Code.wp ..
               refine wp_ret ?_
               try simp only [inBlock_ret, then_ret]
               refine bodyPost_ret (v := .bool false) ?_ rfl ?_
               · kernel_rfl
               · exact ⟨(bool_is (by rw [right_is8 (x := (⟨((m : Nat) : Int), xt, xh⟩ : Slt)) ((ex_at8 hy4 h3).trans (decide_eq_true h4))]; simp [decide_eq_true h5, decide_eq_false h8, decide_eq_false h9])), hW9.1⟩
             | true =>
               have h9 : z = 20 := of_decide_eq_true hd9
               clear hd9
               refine lm (v := .pointer (some ⟨g2, 2, none⟩)) rfl rfl ?_
               refine lv (v := .int .u8 ((xh : Nat) : Int)) rfl rfl (yb_cell (off := 2) rfl Tw.kr Tw.m0 Tryd.underlying5 rfl Tw.kr) ?_
               refine lp (v := .bool (decide (xh = 1))) rfl rfl (run_bin rfl (vx := (.int .u8 ((xh : Nat) : Int))) (vy := (.int .u8 ((1 : Nat) : Int))) Tw.kr Tw.kr fun w => bn_eql rfl w) ?_
               refine lm (v := .bool (decide (xh = 1))) rfl rfl ?_
               cases hd10 : (decide (xh = 1)) with
               | false =>
                 have h10 : ¬ (xh = 1) := of_decide_eq_false hd10
                 clear hd10
                 refine lm (v := .pointer (some ⟨g2, 2, none⟩)) rfl rfl ?_
                 refine lv (v := .int .u8 ((xh : Nat) : Int)) rfl rfl (yb_cell (off := 2) rfl Tw.kr Tw.m0 Tryd.underlying5 rfl Tw.kr) ?_
                 refine lp (v := .bool (decide (xh = 2))) rfl rfl (run_bin rfl (vx := (.int .u8 ((xh : Nat) : Int))) (vy := (.int .u8 ((2 : Nat) : Int))) Tw.kr Tw.kr fun w => bn_eql rfl w) ?_
                 refine lm (v := .bool (decide (xh = 2))) rfl rfl ?_
                 refine lm (v := .bool (decide (xh = 2))) rfl rfl ?_
                 refine lm (v := .bool (decide (xh = 2))) rfl rfl ?_
                 refine lm (v := .bool (decide (xh = 2))) rfl rfl ?_
                 refine wpL_done (fun W10 hW10 => ?_)
                 change Code.wp ..
                 refine wp_ret ?_
                 try simp only [inBlock_ret, then_ret]
                 refine bodyPost_ret (v := .bool (decide (xh = 2))) ?_ rfl ?_
                 · kernel_rfl
                 · exact ⟨(bool_is (by rw [right_is8 (x := (⟨((m : Nat) : Int), xt, xh⟩ : Slt)) ((ex_at8 hy4 h3).trans (decide_eq_true h4))]; simp [decide_eq_true h5, decide_eq_false h8, decide_eq_true h9, decide_eq_false h10])), hW10.1⟩
               | true =>
                 have h10 : xh = 1 := of_decide_eq_true hd10
                 clear hd10
                 refine ln rfl ?_
                 refine ln rfl ?_
                 refine ln rfl ?_
                 refine lm (v := .bool true) rfl rfl ?_
                 refine lm (v := .bool true) rfl rfl ?_
                 refine lm (v := .bool true) rfl rfl ?_
                 refine lm (v := .bool true) rfl rfl ?_
                 refine wpL_done (fun W11 hW11 => ?_)
                 change Code.wp ..
                 refine wp_ret ?_
                 try simp only [inBlock_ret, then_ret]
                 refine bodyPost_ret (v := .bool true) ?_ rfl ?_
                 · kernel_rfl
                 · exact ⟨(bool_is (by rw [right_is8 (x := (⟨((m : Nat) : Int), xt, xh⟩ : Slt)) ((ex_at8 hy4 h3).trans (decide_eq_true h4))]; simp [decide_eq_true h5, decide_eq_false h8, decide_eq_true h9, decide_eq_true h10])), hW11.1⟩
           | true =>
             have h8 : xh = 0 := of_decide_eq_true hd8
             clear hd8
             refine ln rfl ?_
             refine ln rfl ?_
             refine ln rfl ?_
             refine ln rfl ?_
             refine ln rfl ?_
             refine ln rfl ?_
             refine ln rfl ?_
             refine ln rfl ?_
             refine ln rfl ?_
             refine ln rfl ?_
             refine ln rfl ?_
             refine ln rfl ?_
             refine lm (v := .bool true) rfl rfl ?_
             refine lm (v := .bool true) rfl rfl ?_
             refine wpL_done (fun W12 hW12 => ?_)
             change Code.wp ..
             refine wp_ret ?_
             try simp only [inBlock_ret, then_ret]
             refine bodyPost_ret (v := .bool true) ?_ rfl ?_
             · kernel_rfl
             · exact ⟨(bool_is (by rw [right_is8 (x := (⟨((m : Nat) : Int), xt, xh⟩ : Slt)) ((ex_at8 hy4 h3).trans (decide_eq_true h4))]; simp [decide_eq_true h5, decide_eq_true h8])), hW12.1⟩
     | true =>
       have h3 : xt < 0 := of_decide_eq_true hd3
       clear hd3
       refine vn (i := 17) rfl rfl ?_
       refine vn (i := 18) rfl rfl ?_
       refine vn (i := 19) rfl rfl ?_
       refine vn (i := 20) rfl rfl ?_
       refine vn (i := 21) rfl rfl ?_
       refine vn (i := 22) rfl rfl ?_
       refine vn (i := 23) rfl rfl ?_
       refine vn (i := 24) rfl rfl ?_
       refine vn (i := 25) rfl rfl ?_
       refine vn (i := 26) rfl rfl ?_
       refine vm (i := 27) (v := .bool true) rfl rfl rfl ?_
       refine wpV_done Tw.kr (fun W13 hW13 => ?_) _
       change Code.wp ..
       refine wp_cond_true rfl ?_
       refine wp_seq ?_
       refine wp_region_L _ hW13 ?_
       refine lm (v := .bool false) rfl rfl ?_
       refine wpL_done (fun W14 hW14 => ?_)
       change Code.wp ..
       refine wp_ret ?_
       try simp only [inBlock_ret, then_ret]
       refine bodyPost_ret (v := .bool false) ?_ rfl ?_
       · kernel_rfl
       · exact ⟨(bool_is (right_no8 (x := (⟨xc, xt, xh⟩ : Slt)) (ex_neg8 h3)).symm), hW14.1⟩
 | true =>
   have h1 : xc < 0 := of_decide_eq_true hd1
   clear hd1
   refine vn (i := 4) rfl rfl ?_
   refine vn (i := 5) rfl rfl ?_
   refine vn (i := 6) rfl rfl ?_
   refine vn (i := 7) rfl rfl ?_
   refine vn (i := 8) rfl rfl ?_
   refine vn (i := 9) rfl rfl ?_
   refine vm (i := 10) (v := .bool true) rfl rfl rfl ?_
   refine vm (i := 11) (v := .bool true) rfl rfl rfl ?_
   refine vn (i := 12) rfl rfl ?_
   refine vn (i := 13) rfl rfl ?_
   refine vn (i := 14) rfl rfl ?_
   refine vm (i := 15) (v := .bool true) rfl rfl rfl ?_
   refine vm (i := 16) (v := .bool true) rfl rfl rfl ?_
   refine vn (i := 17) rfl rfl ?_
   refine vn (i := 18) rfl rfl ?_
   refine vn (i := 19) rfl rfl ?_
   refine vn (i := 20) rfl rfl ?_
   refine vn (i := 21) rfl rfl ?_
   refine vn (i := 22) rfl rfl ?_
   refine vn (i := 23) rfl rfl ?_
   refine vn (i := 24) rfl rfl ?_
   refine vn (i := 25) rfl rfl ?_
   refine vn (i := 26) rfl rfl ?_
   refine vm (i := 27) (v := .bool true) rfl rfl rfl ?_
   refine wpV_done Tw.kr (fun W15 hW15 => ?_) _
   change Code.wp ..
   refine wp_cond_true rfl ?_
   refine wp_seq ?_
   refine wp_region_L _ hW15 ?_
   refine lm (v := .bool false) rfl rfl ?_
   refine wpL_done (fun W16 hW16 => ?_)
   change Code.wp ..
   refine wp_ret ?_
   try simp only [inBlock_ret, then_ret]
   refine bodyPost_ret (v := .bool false) ?_ rfl ?_
   · kernel_rfl
   · exact ⟨(bool_is (right_no8 (x := (⟨xc, xt, xh⟩ : Slt)) (ex_col8 (by simp only; omega))).symm), hW16.1⟩
end Go.Proofs.YtlinjngifacmoaaDoor
/- The reference of ship: plain facts. -/
namespace Go.Proofs.YtlinjngifacmoaaDoor
open Go Go.RowKit Tw
def inR (n a b : Int) : Bool := !decide (n < a) && !decide (b < n)
theorem colX_is (c : Col) : colX c = (rgsX (rangesX c) && incX c.plugs (c.tiers - 1)) := by
 unfold colX
 cases h : rgsX (rangesX c) with
 | false => rfl
 | true =>
   have h1 : 1 ≤ c.tiers ∧ c.tiers ≤ 10 := by
     unfold rangesX at h
     simp only [rgsX, Bool.and_eq_true, Bool.not_eq_true', decide_eq_false_iff_not] at h
     omega
   rw [wi_i64 Tw.om]
def plB (c : Col) : Bool := inR c.x (-500000) 500000 && (inR c.y (-500000) 500000 && inR c.z (-500000) 500000)
def ldB (c : Col) : Bool := inR c.k20 0 500000000 && (inR c.k40 0 500000000 && inR c.lash 0 1000000000000)
theorem rgs_in (c : Col) : rgsX (rangesX c) = (inR c.bay 0 39 && (inR c.row 0 30 && (inR c.tiers 1 10 && (inR c.height 0 40000 && (ldB c && plB c))))) := by
 unfold rangesX plB ldB inR
 simp only [rgsX]
 rw [Bool.eq_iff_iff]
 simp only [Bool.and_eq_true, Bool.not_eq_true', decide_eq_false_iff_not, and_true]
 constructor
 · intro h
   repeat' apply And.intro
   all_goals omega
 · intro h
   repeat' apply And.intro
   all_goals first | omega | trivial
theorem has_yes {l : List Int} {n : Int} {k : Nat} {y : Int} (h : fstF (fun m => decide (n = m)) 0 (l.take k) = none) (hy : l[k]? = some y) (e : y = n) : hasN l n = true := by
 rw [has_fst, fst_here h hy (decide_eq_true e.symm)]; rfl
theorem has_no {l : List Int} {n : Int} {k : Nat} (h : fstF (fun m => decide (n = m)) 0 (l.take k) = none) (hk : ¬ k < l.length) : hasN l n = false := by
 rw [has_fst, fst_end h hk]; rfl
section
variable {cs : List Col} {os : List Cov} {n : Int}
end
section
variable {cs : List Col} {a b : Int}
end
def rowOk (c : Col) : Prop := -9223372036854775808 ≤ c.row ∧ c.row ≤ 9223372036854775807
end Go.Proofs.YtlinjngifacmoaaDoor
namespace Go.Proofs.YtlinjngifacmoaaDoor
open Go Go.RowKit Tw
set_option maxRecDepth 100000 in
set_option maxHeartbeats 4000000 in
theorem within_any (n a b : Int) (w : World) : Calls Tryd.prog 100 #[.int .i64 n, .int .i64 a, .int .i64 b] w fun e w' => e = .returned (.bool (inR n a b)) ∧ Below w.heap.size w w' := by
 go_enter Tryd.func100, Tryd.ntmps100
 refine wp_seq ?_
 refine wp_region_L [] (KS.start w) ?_
 refine lm (v := .bool false) rfl rfl ?_
 refine wpL_done (fun W1 hW1 => ?_)
 change Code.wp ..
 refine wp_seq ?_
 refine wp_region_L _ hW1 ?_
 refine lm (v := .int .i64 n) rfl rfl ?_
 refine lm (v := .int .i64 a) rfl rfl ?_
 refine lp (v := .bool (!(decide (n < a)))) rfl rfl (run_bin rfl (vx := (.int .i64 n)) (vy := (.int .i64 a)) Tw.kr Tw.kr fun w => bi_geq rfl w) ?_
 refine lm (v := .bool (!(decide (n < a)))) rfl rfl ?_
 cases hd1 : (decide (n < a)) with
 | false =>
   have h1 : ¬ (n < a) := of_decide_eq_false hd1
   clear hd1
   refine lm (v := .int .i64 n) rfl rfl ?_
   refine lm (v := .int .i64 b) rfl rfl ?_
   refine lp (v := .bool (!(decide (b < n)))) rfl rfl (run_bin rfl (vx := (.int .i64 n)) (vy := (.int .i64 b)) Tw.kr Tw.kr fun w => bi_leq rfl w) ?_
   refine lm (v := .bool (!(decide (b < n)))) rfl rfl ?_
   refine lm (v := .bool (!(decide (b < n)))) rfl rfl ?_
   refine wpL_done (fun W2 hW2 => ?_)
   change Code.wp ..
   refine wp_ret ?_
   try simp only [inBlock_ret, then_ret]
   refine bodyPost_ret (v := .bool (!(decide (b < n)))) ?_ rfl ?_
   · kernel_rfl
   · exact ⟨(bool_is (by unfold inR; simp [*])), hW2.1⟩
 | true =>
   have h1 : n < a := of_decide_eq_true hd1
   clear hd1
   refine ln rfl ?_
   refine ln rfl ?_
   refine ln rfl ?_
   refine lm (v := .bool false) rfl rfl ?_
   refine lm (v := .bool false) rfl rfl ?_
   refine wpL_done (fun W3 hW3 => ?_)
   change Code.wp ..
   refine wp_ret ?_
   try simp only [inBlock_ret, then_ret]
   refine bodyPost_ret (v := .bool false) ?_ rfl ?_
   · kernel_rfl
   · exact ⟨(bool_is (by unfold inR; simp [*])), hW3.1⟩
set_option maxRecDepth 100000 in
set_option maxHeartbeats 4000000 in
theorem inside_any (l : List Int) (p : Option Addr) (c : Nat) (n : Int) (hl : l.length ≤ 4000000000) (w : World) (hp : SLV w p (l.flatMap inC)) : Calls Tryd.prog 102 #[.slice p l.length c, .int .i64 n] w fun e w' => e = .returned (.bool (hasN l n)) ∧ Below w.heap.size w w' := by
 have HP := Lib.hid hp
 clear hp
 go_enter Tryd.func102, Tryd.ntmps102
 refine wp_seq ?_
 refine wp_region_L [] (KS.start w) ?_
 refine lm (v := .bool false) rfl rfl ?_
 refine wpL_done (fun W1 hW1 => ?_)
 change Code.wp ..
 refine wp_seq ?_
 refine wp_seq ?_
 refine wp_region_L _ hW1 ?_
 refine lm (v := .int .i64 0) rfl rfl ?_
 refine wpL_done (fun W2 hW2 => ?_)
 change Code.wp ..
 refine wp_block ?_
 go_loopw [5] (fun u5 wr => ∃ (k : Nat), (k ≤ l.length) ∧ (fstF (fun m => decide (n = m)) 0 (l.take k) = none) ∧ u5 = .int .i64 ((k : Nat) : Int) ∧ KS w [] wr) (fun u5 _ => l.length - (intOf u5).toNat)
 case atStart => exact ⟨0, (Nat.zero_le _), fst_zero, rfl, (hW2.sub (fun p hp => by first | exact hp | (simp only [List.mem_cons, List.mem_append, List.nil_append, List.not_mem_nil, or_assoc, or_false, false_or] at hp ⊢ <;> grind)))⟩
 case round =>
   obtain ⟨k, hk, hF, rfl, hL3⟩ := hrel
   refine wp_seq ?_
   refine wp_seq ?_
   refine wp_region_L _ hL3 ?_
   refine lm (v := .int .i64 ((k : Nat) : Int)) rfl rfl ?_
   refine lm (v := .slice p l.length c) rfl rfl ?_
   refine lp (v := .int .i64 ((l.length : Nat) : Int)) rfl rfl (run_lenL (p := p) (cap := c) (n := l.length) rfl Tryd.underlying63 Tw.kr) ?_
   refine lp (v := .bool (decide (k < l.length))) rfl rfl (run_bin rfl (vx := (.int .i64 ((k : Nat) : Int))) (vy := (.int .i64 ((l.length : Nat) : Int))) Tw.kr Tw.kr fun w => bn_lss rfl w) ?_
   refine wpL_done (fun W4 hW4 => ?_)
   change Code.wp ..
   cases hd1 : (decide (k < l.length)) with
   | false =>
     have h1 : ¬ (k < l.length) := of_decide_eq_false hd1
     clear hd1
     refine wp_cond_false rfl ?_
     refine wp_exit ?_
     change Code.wp ..
     refine wp_seq ?_
     refine wp_region_L _ hW4 ?_
     refine lm (v := .bool false) rfl rfl ?_
     refine wpL_done (fun W5 hW5 => ?_)
     change Code.wp ..
     refine wp_ret ?_
     try simp only [inBlock_ret, then_ret]
     refine bodyPost_ret (v := .bool false) ?_ rfl ?_
     · kernel_rfl
     · exact ⟨(bool_is (has_no hF h1).symm), hW5.1⟩
   | true =>
     have h1 : k < l.length := of_decide_eq_true hd1
     clear hd1
     refine wp_cond_true rfl ?_
     refine wp_skip ?_
     change Code.wp ..
     refine wp_seq ?_
     refine wp_block ?_
     refine wp_seq ?_
     refine wp_region_L _ hW4 ?_
     refine lm (v := .slice p l.length c) rfl rfl ?_
     refine lm (v := .int .i64 ((k : Nat) : Int)) rfl rfl ?_
     obtain ⟨y1, g1_, f1_, hy1, hp1, hc1⟩ := RL.at (RL.base HP.out) inC_len (by decide) (hW4.sub (fun _ h => by cases h)) (k := k) Tw.om
     refine lp (v := .pointer (some ⟨g1_, f1_ + k * 1, none⟩)) rfl rfl (run_idxQ (p := p) (cap := c) (n := l.length) (j := .i64) (k := k) (sz := 1) rfl Tryd.underlying63 Tw.kr Tw.kr hp1 Tw.kr Tw.om) ?_
     refine lv (v := .int .i64 y1) rfl rfl (yb_rf (v := .int .i64 y1) rfl Tw.kr (fun W hW => hc1 W (hW.sub (fun _ h => by cases h)) 0 _ rfl) Tryd.underlying3 rfl) ?_
     refine lm (v := .int .i64 n) rfl rfl ?_
     refine lp (v := .bool (decide (y1 = n))) rfl rfl (run_bin rfl (vx := (.int .i64 y1)) (vy := (.int .i64 n)) Tw.kr Tw.kr fun w => bi_eql rfl w) ?_
     refine wpL_done (fun W6 hW6 => ?_)
     change Code.wp ..
     cases hd2 : (decide (y1 = n)) with
     | false =>
       have h2 : ¬ (y1 = n) := of_decide_eq_false hd2
       clear hd2
       refine wp_cond_false rfl ?_
       refine wp_skip ?_
       change Code.wp ..
       refine wp_region_L _ hW6 ?_
       refine lm (v := .int .i64 ((k : Nat) : Int)) rfl rfl ?_
       refine lp (v := .int .i64 (((k + 1) : Nat) : Int)) rfl rfl (run_bin rfl (vx := (.int .i64 ((k : Nat) : Int))) (vy := (.int .i64 ((1 : Nat) : Int))) Tw.kr Tw.kr fun w => bn_add (z := (k + 1)) rfl (wr_i64 Tw.om) w) ?_
       refine lm (v := .int .i64 (((k + 1) : Nat) : Int)) rfl rfl ?_
       refine wpL_done (fun W7 hW7 => ?_)
       go_roundw
       case rel =>
         repeat apply Exists.intro
         exact ⟨⟨k + 1, Tw.om, (fst_next hF hy1 (decide_eq_false (fun e => h2 e.symm))), rfl, (hW7.sub (fun p hp => by first | exact hp | (simp only [List.mem_cons, List.mem_append, List.nil_append, List.not_mem_nil, or_assoc, or_false, false_or] at hp ⊢ <;> grind)))⟩, rfl⟩
       case measure => (show l.length - (intOf (.int .i64 (((k + 1) : Nat) : Int))).toNat < l.length - (intOf (.int .i64 ((k : Nat) : Int))).toNat); simp only [intOf]; omega
     | true =>
       have h2 : y1 = n := of_decide_eq_true hd2
       clear hd2
       refine wp_cond_true rfl ?_
       refine wp_seq ?_
       refine wp_region_L _ hW6 ?_
       refine lm (v := .bool true) rfl rfl ?_
       refine wpL_done (fun W8 hW8 => ?_)
       change Code.wp ..
       refine wp_ret ?_
       try simp only [inBlock_ret, then_ret]
       refine bodyPost_ret (v := .bool true) ?_ rfl ?_
       · kernel_rfl
       · exact ⟨(bool_is (has_yes hF hy1 h2).symm), hW8.1⟩
set_option maxRecDepth 100000 in
set_option maxHeartbeats 4000000 in
theorem column_any (c : Col) (hl : c.plugs.length ≤ 4000000000) (w : World) (hp : SLV w c.pp (c.plugs.flatMap inC)) : Calls Tryd.prog 101 #[.agg (colC c).toArray] w fun e w' => e = .returned (.bool (colX c)) ∧ Below w.heap.size w w' := by
 have HP := Lib.hid hp
 clear hp
 go_enter Tryd.func101, Tryd.ntmps101
 refine wp_seq ?_
 refine wp_region_L [] (KS.start w) ?_
 refine wpL_new (fun g => .pointer (some ⟨g, 0, none⟩)) (obi := .cells (colC c).toArray 65 (0, 0)) rfl rfl Tw.kf Tw.pf fun g1 Bg1 Fg1 => ?_
 refine lm (v := .bool false) rfl rfl ?_
 refine wpL_done (fun W1 hW1 => ?_)
 change Code.wp ..
 refine wp_seq ?_
 refine wp_seq ?_
 refine wp_region_L _ hW1 ?_
 refine lm (v := .int .i64 0) rfl rfl ?_
 refine wpL_done (fun W2 hW2 => ?_)
 change Code.wp ..
 refine wp_block ?_
 go_loopw [3] (fun u3 wr => ∃ (k : Nat) (z : Int), (k ≤ c.plugs.length) ∧ (incX c.plugs (c.tiers - 1) = incF (c.tiers - 1) z (c.plugs.drop k)) ∧ ((k = 0 ∧ z = -1) ∨ (0 < k ∧ 0 ≤ z ∧ c.plugs[k - 1]? = some z)) ∧ u3 = .int .i64 ((k : Nat) : Int) ∧ KS w [(g1, .cells (colC c).toArray 65 (0, 0))] wr) (fun u3 _ => c.plugs.length - (intOf u3).toNat)
 case atStart => exact ⟨0, (-1), (Nat.zero_le _), rfl, (.inl ⟨rfl, rfl⟩), rfl, (hW2.sub (fun p hp => by first | exact hp | (simp only [List.mem_cons, List.mem_append, List.nil_append, List.not_mem_nil, or_assoc, or_false, false_or] at hp ⊢ <;> grind)))⟩
 case round =>
   obtain ⟨k, z, hk, hR, hz, rfl, hL3⟩ := hrel
   refine wp_seq ?_
   refine wp_seq ?_
   refine wp_region_L _ hL3 ?_
   refine lm (v := .int .i64 ((k : Nat) : Int)) rfl rfl ?_
   refine lm (v := .pointer (some ⟨g1, 8, none⟩)) rfl rfl ?_
   refine lv (v := .slice c.pp c.plugs.length c.pc) rfl rfl (yb_cell (off := 8) rfl Tw.kr Tw.m0 Tryd.underlying63 rfl Tw.kr) ?_
   refine lp (v := .int .i64 ((c.plugs.length : Nat) : Int)) rfl rfl (run_lenL (p := c.pp) (cap := c.pc) (n := c.plugs.length) rfl Tryd.underlying63 Tw.kr) ?_
   refine lp (v := .bool (decide (k < c.plugs.length))) rfl rfl (run_bin rfl (vx := (.int .i64 ((k : Nat) : Int))) (vy := (.int .i64 ((c.plugs.length : Nat) : Int))) Tw.kr Tw.kr fun w => bn_lss rfl w) ?_
   refine wpL_done (fun W4 hW4 => ?_)
   change Code.wp ..
   cases hd1 : (decide (k < c.plugs.length)) with
   | false =>
     have h1 : ¬ (k < c.plugs.length) := of_decide_eq_false hd1
     clear hd1
     refine wp_cond_false rfl ?_
     refine wp_exit ?_
     change Code.wp ..
     refine wp_joins (JoinR (fun z => List.toArray ((.agg (colC c).toArray) :: (.pointer (some ⟨g1, 0, none⟩)) :: z 2 :: (.int .i64 ((k : Nat) : Int)) :: (.bool (plB c)) :: undef :: (.int .i64 ((k : Nat) : Int)) :: (.pointer (some ⟨g1, 8, none⟩)) :: (.slice c.pp c.plugs.length c.pc) :: (.int .i64 ((c.plugs.length : Nat) : Int)) :: (.bool false) :: z 11 :: z 12 :: z 13 :: z 14 :: z 15 :: z 16 :: z 17 :: z 18 :: z 19 :: z 20 :: z 21 :: z 22 :: z 23 :: z 24 :: z 25 :: z 26 :: z 27 :: z 28 :: z 29 :: z 30 :: z 31 :: z 32 :: z 33 :: z 34 :: z 35 :: z 36 :: z 37 :: z 38 :: z 39 :: z 40 :: z 41 :: z 42 :: z 43 :: z 44 :: z 45 :: z 46 :: z 47 :: z 48 :: z 49 :: z 50 :: z 51 :: z 52 :: z 53 :: z 54 :: z 55 :: z 56 :: z 57 :: undef :: undef :: undef :: undef :: undef :: undef :: undef :: undef :: undef :: undef :: undef :: undef :: undef :: undef :: undef :: undef :: undef :: undef :: undef :: undef :: undef :: undef :: undef :: undef :: undef :: undef :: undef :: undef :: undef :: undef :: undef :: undef :: undef :: undef :: undef :: undef :: undef :: [])) w [(g1, .cells (colC c).toArray 65 (0, 0))]) 1 ?_ ?_
     · change Code.wp ..
       refine wp_region_L _ hW4 ?_
       refine lm (v := .pointer (some ⟨g1, 9, none⟩)) rfl rfl ?_
       refine lv (v := .int .i64 c.x) rfl rfl (yb_cell (off := 9) rfl Tw.kr Tw.m0 Tryd.underlying3 rfl Tw.kr) ?_
       refine lv (v := .bool (inR c.x (-500000) 500000)) rfl rfl (yb_call (f := 100) (args := #[.int .i64 c.x, .int .i64 (-500000), .int .i64 500000]) Tw.kf fun W hW => within_any c.x (-500000) 500000 W) ?_
       refine lm (v := .bool (inR c.x (-500000) 500000)) rfl rfl ?_
       cases h2 : (inR c.x (-500000) 500000) with
       | false =>
         refine ln rfl ?_
         refine ln rfl ?_
         refine ln rfl ?_
         refine lm (v := .bool false) rfl rfl ?_
         refine lm (v := .bool false) rfl rfl ?_
         refine ln rfl ?_
         refine ln rfl ?_
         refine ln rfl ?_
         refine lm (v := .bool false) rfl rfl ?_
         refine lm (v := .bool false) rfl rfl ?_
         refine wpL_done (fun W5 hW5 => ?_)
         exact join_mk (by rw [show plB c = false from by unfold plB; simp [h2]]; kernel_rfl) (hW5.sub (fun p hp => by first | exact hp | (simp only [List.mem_cons, List.mem_append, List.nil_append, List.not_mem_nil, or_assoc, or_false, false_or] at hp ⊢ <;> grind)))
       | true =>
         refine lm (v := .pointer (some ⟨g1, 10, none⟩)) rfl rfl ?_
         refine lv (v := .int .i64 c.y) rfl rfl (yb_cell (off := 10) rfl Tw.kr Tw.m0 Tryd.underlying3 rfl Tw.kr) ?_
         refine lv (v := .bool (inR c.y (-500000) 500000)) rfl rfl (yb_call (f := 100) (args := #[.int .i64 c.y, .int .i64 (-500000), .int .i64 500000]) Tw.kf fun W hW => within_any c.y (-500000) 500000 W) ?_
         refine lm (v := .bool (inR c.y (-500000) 500000)) rfl rfl ?_
         refine lm (v := .bool (inR c.y (-500000) 500000)) rfl rfl ?_
         cases h3 : (inR c.y (-500000) 500000) with
         | false =>
           refine ln rfl ?_
           refine ln rfl ?_
           refine ln rfl ?_
           refine lm (v := .bool false) rfl rfl ?_
           refine lm (v := .bool false) rfl rfl ?_
           refine wpL_done (fun W6 hW6 => ?_)
           exact join_mk (by rw [show plB c = false from by unfold plB; simp [h2, h3]]; kernel_rfl) (hW6.sub (fun p hp => by first | exact hp | (simp only [List.mem_cons, List.mem_append, List.nil_append, List.not_mem_nil, or_assoc, or_false, false_or] at hp ⊢ <;> grind)))
         | true =>
           refine lm (v := .pointer (some ⟨g1, 11, none⟩)) rfl rfl ?_
           refine lv (v := .int .i64 c.z) rfl rfl (yb_cell (off := 11) rfl Tw.kr Tw.m0 Tryd.underlying3 rfl Tw.kr) ?_
           refine lv (v := .bool (inR c.z (-500000) 500000)) rfl rfl (yb_call (f := 100) (args := #[.int .i64 c.z, .int .i64 (-500000), .int .i64 500000]) Tw.kf fun W hW => within_any c.z (-500000) 500000 W) ?_
           refine lm (v := .bool (inR c.z (-500000) 500000)) rfl rfl ?_
           refine lm (v := .bool (inR c.z (-500000) 500000)) rfl rfl ?_
           refine wpL_done (fun W7 hW7 => ?_)
           exact join_mk (by rw [show plB c = (inR c.z (-500000) 500000) from by unfold plB; simp [h2, h3]]; kernel_rfl) (hW7.sub (fun p hp => by first | exact hp | (simp only [List.mem_cons, List.mem_append, List.nil_append, List.not_mem_nil, or_assoc, or_false, false_or] at hp ⊢ <;> grind)))
     · rintro a1 W1j ⟨⟨z, rfl⟩, hW1j⟩
       dsimp only [cutT]
       refine wp_joins (JoinR (fun z => List.toArray ((.agg (colC c).toArray) :: (.pointer (some ⟨g1, 0, none⟩)) :: z 2 :: (.int .i64 ((k : Nat) : Int)) :: (.bool (plB c)) :: (.bool (ldB c)) :: (.int .i64 ((k : Nat) : Int)) :: (.pointer (some ⟨g1, 8, none⟩)) :: (.slice c.pp c.plugs.length c.pc) :: (.int .i64 ((c.plugs.length : Nat) : Int)) :: (.bool false) :: z 11 :: z 12 :: z 13 :: z 14 :: z 15 :: z 16 :: z 17 :: z 18 :: z 19 :: z 20 :: z 21 :: z 22 :: z 23 :: z 24 :: z 25 :: z 26 :: z 27 :: z 28 :: z 29 :: z 30 :: z 31 :: z 32 :: z 33 :: z 34 :: z 35 :: z 36 :: z 37 :: z 38 :: z 39 :: z 40 :: z 41 :: z 42 :: z 43 :: z 44 :: z 45 :: z 46 :: z 47 :: z 48 :: z 49 :: z 50 :: z 51 :: z 52 :: z 53 :: z 54 :: z 55 :: z 56 :: z 57 :: z 58 :: z 59 :: z 60 :: z 61 :: z 62 :: z 63 :: z 64 :: z 65 :: z 66 :: z 67 :: z 68 :: z 69 :: z 70 :: undef :: undef :: undef :: undef :: undef :: undef :: undef :: undef :: undef :: undef :: undef :: undef :: undef :: undef :: undef :: undef :: undef :: undef :: undef :: undef :: undef :: undef :: undef :: undef :: [])) w [(g1, .cells (colC c).toArray 65 (0, 0))]) 1 ?_ ?_
       · change Code.wp ..
         refine wp_region_L _ hW1j ?_
         refine lm (v := .pointer (some ⟨g1, 5, none⟩)) rfl rfl ?_
         refine lv (v := .int .i64 c.k20) rfl rfl (yb_cell (off := 5) rfl Tw.kr Tw.m0 Tryd.underlying3 rfl Tw.kr) ?_
         refine lv (v := .bool (inR c.k20 0 500000000)) rfl rfl (yb_call (f := 100) (args := #[.int .i64 c.k20, .int .i64 0, .int .i64 500000000]) Tw.kf fun W hW => within_any c.k20 0 500000000 W) ?_
         refine lm (v := .bool (inR c.k20 0 500000000)) rfl rfl ?_
         cases h4 : (inR c.k20 0 500000000) with
         | false =>
           refine ln rfl ?_
           refine ln rfl ?_
           refine ln rfl ?_
           refine lm (v := .bool false) rfl rfl ?_
           refine lm (v := .bool false) rfl rfl ?_
           refine ln rfl ?_
           refine ln rfl ?_
           refine ln rfl ?_
           refine lm (v := .bool false) rfl rfl ?_
           refine lm (v := .bool false) rfl rfl ?_
           refine wpL_done (fun W8 hW8 => ?_)
           exact join_mk (by rw [show ldB c = false from by unfold ldB; simp [h4]]; kernel_rfl) (hW8.sub (fun p hp => by first | exact hp | (simp only [List.mem_cons, List.mem_append, List.nil_append, List.not_mem_nil, or_assoc, or_false, false_or] at hp ⊢ <;> grind)))
         | true =>
           refine lm (v := .pointer (some ⟨g1, 6, none⟩)) rfl rfl ?_
           refine lv (v := .int .i64 c.k40) rfl rfl (yb_cell (off := 6) rfl Tw.kr Tw.m0 Tryd.underlying3 rfl Tw.kr) ?_
           refine lv (v := .bool (inR c.k40 0 500000000)) rfl rfl (yb_call (f := 100) (args := #[.int .i64 c.k40, .int .i64 0, .int .i64 500000000]) Tw.kf fun W hW => within_any c.k40 0 500000000 W) ?_
           refine lm (v := .bool (inR c.k40 0 500000000)) rfl rfl ?_
           refine lm (v := .bool (inR c.k40 0 500000000)) rfl rfl ?_
           cases h5 : (inR c.k40 0 500000000) with
           | false =>
             refine ln rfl ?_
             refine ln rfl ?_
             refine ln rfl ?_
             refine lm (v := .bool false) rfl rfl ?_
             refine lm (v := .bool false) rfl rfl ?_
             refine wpL_done (fun W9 hW9 => ?_)
             exact join_mk (by rw [show ldB c = false from by unfold ldB; simp [h4, h5]]; kernel_rfl) (hW9.sub (fun p hp => by first | exact hp | (simp only [List.mem_cons, List.mem_append, List.nil_append, List.not_mem_nil, or_assoc, or_false, false_or] at hp ⊢ <;> grind)))
           | true =>
             refine lm (v := .pointer (some ⟨g1, 7, none⟩)) rfl rfl ?_
             refine lv (v := .int .i64 c.lash) rfl rfl (yb_cell (off := 7) rfl Tw.kr Tw.m0 Tryd.underlying3 rfl Tw.kr) ?_
             refine lv (v := .bool (inR c.lash 0 1000000000000)) rfl rfl (yb_call (f := 100) (args := #[.int .i64 c.lash, .int .i64 0, .int .i64 1000000000000]) Tw.kf fun W hW => within_any c.lash 0 1000000000000 W) ?_
             refine lm (v := .bool (inR c.lash 0 1000000000000)) rfl rfl ?_
             refine lm (v := .bool (inR c.lash 0 1000000000000)) rfl rfl ?_
             refine wpL_done (fun W10 hW10 => ?_)
             exact join_mk (by rw [show ldB c = (inR c.lash 0 1000000000000) from by unfold ldB; simp [h4, h5]]; kernel_rfl) (hW10.sub (fun p hp => by first | exact hp | (simp only [List.mem_cons, List.mem_append, List.nil_append, List.not_mem_nil, or_assoc, or_false, false_or] at hp ⊢ <;> grind)))
       · rintro a2 W2j ⟨⟨z, rfl⟩, hW2j⟩
         dsimp only [cutT]
         refine wp_seq ?_
         refine wp_region_L _ hW2j ?_
         refine lm (v := .pointer (some ⟨g1, 0, none⟩)) rfl rfl ?_
         refine lv (v := .int .i64 c.bay) rfl rfl (yb_cell (off := 0) rfl Tw.kr Tw.m0 Tryd.underlying3 rfl Tw.kr) ?_
         refine lv (v := .bool (inR c.bay 0 39)) rfl rfl (yb_call (f := 100) (args := #[.int .i64 c.bay, .int .i64 0, .int .i64 39]) Tw.kf fun W hW => within_any c.bay 0 39 W) ?_
         refine lm (v := .bool (inR c.bay 0 39)) rfl rfl ?_
         cases h6 : (inR c.bay 0 39) with
         | false =>
           refine ln rfl ?_
           refine ln rfl ?_
           refine ln rfl ?_
           refine lm (v := .bool false) rfl rfl ?_
           refine lm (v := .bool false) rfl rfl ?_
           refine ln rfl ?_
           refine ln rfl ?_
           refine ln rfl ?_
           refine lm (v := .bool false) rfl rfl ?_
           refine lm (v := .bool false) rfl rfl ?_
           refine ln rfl ?_
           refine ln rfl ?_
           refine ln rfl ?_
           refine lm (v := .bool false) rfl rfl ?_
           refine lm (v := .bool false) rfl rfl ?_
           refine ln rfl ?_
           refine lm (v := .bool false) rfl rfl ?_
           refine lm (v := .bool false) rfl rfl ?_
           refine ln rfl ?_
           refine lm (v := .bool false) rfl rfl ?_
           refine lm (v := .bool false) rfl rfl ?_
           refine wpL_done (fun W11 hW11 => ?_)
           change Code.wp ..
           refine wp_ret ?_
           try simp only [inBlock_ret, then_ret]
           refine bodyPost_ret (v := .bool false) ?_ rfl ?_
           · kernel_rfl
           · exact ⟨(bool_is (by rw [colX_is, hR, inc_end h1, rgs_in]; simp [*])), hW11.1⟩
         | true =>
           refine lm (v := .pointer (some ⟨g1, 1, none⟩)) rfl rfl ?_
           refine lv (v := .int .i64 c.row) rfl rfl (yb_cell (off := 1) rfl Tw.kr Tw.m0 Tryd.underlying3 rfl Tw.kr) ?_
           refine lv (v := .bool (inR c.row 0 30)) rfl rfl (yb_call (f := 100) (args := #[.int .i64 c.row, .int .i64 0, .int .i64 30]) Tw.kf fun W hW => within_any c.row 0 30 W) ?_
           refine lm (v := .bool (inR c.row 0 30)) rfl rfl ?_
           refine lm (v := .bool (inR c.row 0 30)) rfl rfl ?_
           cases h7 : (inR c.row 0 30) with
           | false =>
             refine ln rfl ?_
             refine ln rfl ?_
             refine ln rfl ?_
             refine lm (v := .bool false) rfl rfl ?_
             refine lm (v := .bool false) rfl rfl ?_
             refine ln rfl ?_
             refine ln rfl ?_
             refine ln rfl ?_
             refine lm (v := .bool false) rfl rfl ?_
             refine lm (v := .bool false) rfl rfl ?_
             refine ln rfl ?_
             refine lm (v := .bool false) rfl rfl ?_
             refine lm (v := .bool false) rfl rfl ?_
             refine ln rfl ?_
             refine lm (v := .bool false) rfl rfl ?_
             refine lm (v := .bool false) rfl rfl ?_
             refine wpL_done (fun W12 hW12 => ?_)
             change Code.wp ..
             refine wp_ret ?_
             try simp only [inBlock_ret, then_ret]
             refine bodyPost_ret (v := .bool false) ?_ rfl ?_
             · kernel_rfl
             · exact ⟨(bool_is (by rw [colX_is, hR, inc_end h1, rgs_in]; simp [*])), hW12.1⟩
           | true =>
             refine lm (v := .pointer (some ⟨g1, 3, none⟩)) rfl rfl ?_
             refine lv (v := .int .i64 c.tiers) rfl rfl (yb_cell (off := 3) rfl Tw.kr Tw.m0 Tryd.underlying3 rfl Tw.kr) ?_
             refine lv (v := .bool (inR c.tiers 1 10)) rfl rfl (yb_call (f := 100) (args := #[.int .i64 c.tiers, .int .i64 1, .int .i64 10]) Tw.kf fun W hW => within_any c.tiers 1 10 W) ?_
             refine lm (v := .bool (inR c.tiers 1 10)) rfl rfl ?_
             refine lm (v := .bool (inR c.tiers 1 10)) rfl rfl ?_
             cases h8 : (inR c.tiers 1 10) with
             | false =>
               refine ln rfl ?_
               refine ln rfl ?_
               refine ln rfl ?_
               refine lm (v := .bool false) rfl rfl ?_
               refine lm (v := .bool false) rfl rfl ?_
               refine ln rfl ?_
               refine lm (v := .bool false) rfl rfl ?_
               refine lm (v := .bool false) rfl rfl ?_
               refine ln rfl ?_
               refine lm (v := .bool false) rfl rfl ?_
               refine lm (v := .bool false) rfl rfl ?_
               refine wpL_done (fun W13 hW13 => ?_)
               change Code.wp ..
               refine wp_ret ?_
               try simp only [inBlock_ret, then_ret]
               refine bodyPost_ret (v := .bool false) ?_ rfl ?_
               · kernel_rfl
               · exact ⟨(bool_is (by rw [colX_is, hR, inc_end h1, rgs_in]; simp [*])), hW13.1⟩
             | true =>
               refine lm (v := .pointer (some ⟨g1, 4, none⟩)) rfl rfl ?_
               refine lv (v := .int .i64 c.height) rfl rfl (yb_cell (off := 4) rfl Tw.kr Tw.m0 Tryd.underlying3 rfl Tw.kr) ?_
               refine lv (v := .bool (inR c.height 0 40000)) rfl rfl (yb_call (f := 100) (args := #[.int .i64 c.height, .int .i64 0, .int .i64 40000]) Tw.kf fun W hW => within_any c.height 0 40000 W) ?_
               refine lm (v := .bool (inR c.height 0 40000)) rfl rfl ?_
               refine lm (v := .bool (inR c.height 0 40000)) rfl rfl ?_
               cases h9 : (inR c.height 0 40000) with
               | false =>
                 refine ln rfl ?_
                 refine lm (v := .bool false) rfl rfl ?_
                 refine lm (v := .bool false) rfl rfl ?_
                 refine ln rfl ?_
                 refine lm (v := .bool false) rfl rfl ?_
                 refine lm (v := .bool false) rfl rfl ?_
                 refine wpL_done (fun W14 hW14 => ?_)
                 change Code.wp ..
                 refine wp_ret ?_
                 try simp only [inBlock_ret, then_ret]
                 refine bodyPost_ret (v := .bool false) ?_ rfl ?_
                 · kernel_rfl
                 · exact ⟨(bool_is (by rw [colX_is, hR, inc_end h1, rgs_in]; simp [*])), hW14.1⟩
               | true =>
                 refine lm (v := .bool (ldB c)) rfl rfl ?_
                 refine lm (v := .bool (ldB c)) rfl rfl ?_
                 refine lm (v := .bool (ldB c)) rfl rfl ?_
                 cases h10 : (ldB c) with
                 | false =>
                   refine ln rfl ?_
                   refine lm (v := .bool false) rfl rfl ?_
                   refine lm (v := .bool false) rfl rfl ?_
                   refine wpL_done (fun W15 hW15 => ?_)
                   change Code.wp ..
                   refine wp_ret ?_
                   try simp only [inBlock_ret, then_ret]
                   refine bodyPost_ret (v := .bool false) ?_ rfl ?_
                   · kernel_rfl
                   · exact ⟨(bool_is (by rw [colX_is, hR, inc_end h1, rgs_in]; simp [*])), hW15.1⟩
                 | true =>
                   refine lm (v := .bool (plB c)) rfl rfl ?_
                   refine lm (v := .bool (plB c)) rfl rfl ?_
                   refine lm (v := .bool (plB c)) rfl rfl ?_
                   refine wpL_done (fun W16 hW16 => ?_)
                   change Code.wp ..
                   refine wp_ret ?_
                   try simp only [inBlock_ret, then_ret]
                   refine bodyPost_ret (v := .bool (plB c)) ?_ rfl ?_
                   · kernel_rfl
                   · exact ⟨(bool_is (by rw [colX_is, hR, inc_end h1, rgs_in]; simp [*])), hW16.1⟩
   | true =>
     have h1 : k < c.plugs.length := of_decide_eq_true hd1
     clear hd1
     refine wp_cond_true rfl ?_
     refine wp_skip ?_
     change Code.wp ..
     refine wp_seq ?_
     refine wp_block ?_
     refine wp_seq ?_
     refine wp_seq ?_
     refine wp_region_V _ Tw.kr hW4 ?_
     refine vm (i := 0) (v := .pointer (some ⟨g1, 8, none⟩)) rfl rfl rfl ?_
     refine vv (i := 1) (v := .slice c.pp c.plugs.length c.pc) rfl rfl rfl (yb_cell (off := 8) rfl Tw.kr Tw.m0 Tryd.underlying63 rfl Tw.kr) ?_
     refine vm (i := 2) (v := .int .i64 ((k : Nat) : Int)) rfl rfl rfl ?_
     obtain ⟨y2, g2_, f2_, hy2, hp2, hc2⟩ := RL.at (RL.base HP.out) inC_len (by decide) (hW4.sub (fun _ h => by cases h)) (k := k) Tw.om
     refine vp (i := 3) (v := .pointer (some ⟨g2_, f2_ + k * 1, none⟩)) rfl rfl rfl (run_idxQ (p := c.pp) (cap := c.pc) (n := c.plugs.length) (j := .i64) (k := k) (sz := 1) rfl Tryd.underlying63 Tw.kr Tw.kr hp2 Tw.kr Tw.om) ?_
     refine vb (i := 4) (v := .int .i64 y2) rfl rfl rfl (yb_rf (v := .int .i64 y2) rfl Tw.kr (fun W hW => hc2 W (hW.sub (fun _ h => by cases h)) 0 _ rfl) Tryd.underlying3 rfl) ?_
     refine vp (i := 5) (v := .bool (decide (y2 < 0))) rfl rfl rfl (run_bin rfl (vx := (.int .i64 y2)) (vy := (.int .i64 0)) Tw.kr Tw.kr fun w => bi_lss rfl w) ?_
     refine vm (i := 6) (v := .bool (decide (y2 < 0))) rfl rfl rfl ?_
     cases hd11 : (decide (y2 < 0)) with
     | false =>
       have h11 : ¬ (y2 < 0) := of_decide_eq_false hd11
       clear hd11
       refine vm (i := 7) (v := .pointer (some ⟨g1, 8, none⟩)) rfl rfl rfl ?_
       refine vv (i := 8) (v := .slice c.pp c.plugs.length c.pc) rfl rfl rfl (yb_cell (off := 8) rfl Tw.kr Tw.m0 Tryd.underlying63 rfl Tw.kr) ?_
       refine vm (i := 9) (v := .int .i64 ((k : Nat) : Int)) rfl rfl rfl ?_
       refine vp (i := 10) (v := .pointer (some ⟨g2_, f2_ + k * 1, none⟩)) rfl rfl rfl (run_idxQ (p := c.pp) (cap := c.pc) (n := c.plugs.length) (j := .i64) (k := k) (sz := 1) rfl Tryd.underlying63 Tw.kr Tw.kr hp2 Tw.kr Tw.om) ?_
       refine vb (i := 11) (v := .int .i64 y2) rfl rfl rfl (yb_rf (v := .int .i64 y2) rfl Tw.kr (fun W hW => hc2 W (hW.sub (fun _ h => by cases h)) 0 _ rfl) Tryd.underlying3 rfl) ?_
       refine vm (i := 12) (v := .pointer (some ⟨g1, 3, none⟩)) rfl rfl rfl ?_
       refine vv (i := 13) (v := .int .i64 c.tiers) rfl rfl rfl (yb_cell (off := 3) rfl Tw.kr Tw.m0 Tryd.underlying3 rfl Tw.kr) ?_
       refine vp (i := 14) (v := .bool (!(decide (y2 < c.tiers)))) rfl rfl rfl (run_bin rfl (vx := (.int .i64 y2)) (vy := (.int .i64 c.tiers)) Tw.kr Tw.kr fun w => bi_geq rfl w) ?_
       refine vm (i := 15) (v := .bool (!(decide (y2 < c.tiers)))) rfl rfl rfl ?_
       refine wpV_done Tw.kr (fun W17 hW17 => ?_) _
       change Code.wp ..
       cases hd12 : (decide (y2 < c.tiers)) with
       | false =>
         have h12 : ¬ (y2 < c.tiers) := of_decide_eq_false hd12
         clear hd12
         refine wp_cond_true rfl ?_
         refine wp_seq ?_
         refine wp_region_L _ hW17 ?_
         refine lm (v := .bool false) rfl rfl ?_
         refine wpL_done (fun W18 hW18 => ?_)
         change Code.wp ..
         refine wp_ret ?_
         try simp only [inBlock_ret, then_ret]
         refine bodyPost_ret (v := .bool false) ?_ rfl ?_
         · kernel_rfl
         · exact ⟨(bool_is (by rw [colX_is, hR, inc_step hy2]; by_cases g1 : z < y2 <;> by_cases g2 : y2 ≤ c.tiers - 1 <;> simp [g1, g2] <;> omega)), hW18.1⟩
       | true =>
         have h12 : y2 < c.tiers := of_decide_eq_true hd12
         clear hd12
         refine wp_cond_false rfl ?_
         refine wp_skip ?_
         change Code.wp ..
         refine wp_seq ?_
         refine wp_region_V _ Tw.kr hW17 ?_
         refine vm (i := 0) (v := .int .i64 ((k : Nat) : Int)) rfl rfl rfl ?_
         refine vp (i := 1) (v := .bool (decide (0 < k))) rfl rfl rfl (run_bin rfl (vx := (.int .i64 ((k : Nat) : Int))) (vy := (.int .i64 ((0 : Nat) : Int))) Tw.kr Tw.kr fun w => bn_gtr rfl w) ?_
         refine vm (i := 2) (v := .bool (decide (0 < k))) rfl rfl rfl ?_
         cases hd13 : (decide (0 < k)) with
         | false =>
           have h13 : ¬ (0 < k) := of_decide_eq_false hd13
           clear hd13
           refine vn (i := 3) rfl rfl ?_
           refine vn (i := 4) rfl rfl ?_
           refine vn (i := 5) rfl rfl ?_
           refine vn (i := 6) rfl rfl ?_
           refine vn (i := 7) rfl rfl ?_
           refine vn (i := 8) rfl rfl ?_
           refine vn (i := 9) rfl rfl ?_
           refine vn (i := 10) rfl rfl ?_
           refine vn (i := 11) rfl rfl ?_
           refine vn (i := 12) rfl rfl ?_
           refine vn (i := 13) rfl rfl ?_
           refine vn (i := 14) rfl rfl ?_
           refine vm (i := 15) (v := .bool false) rfl rfl rfl ?_
           refine wpV_done Tw.kr (fun W19 hW19 => ?_) _
           change Code.wp ..
           refine wp_cond_false rfl ?_
           refine wp_skip ?_
           change Code.wp ..
           refine wp_region_L _ hW19 ?_
           refine lm (v := .int .i64 ((k : Nat) : Int)) rfl rfl ?_
           refine lp (v := .int .i64 (((k + 1) : Nat) : Int)) rfl rfl (run_bin rfl (vx := (.int .i64 ((k : Nat) : Int))) (vy := (.int .i64 ((1 : Nat) : Int))) Tw.kr Tw.kr fun w => bn_add (z := (k + 1)) rfl (wr_i64 Tw.om) w) ?_
           refine lm (v := .int .i64 (((k + 1) : Nat) : Int)) rfl rfl ?_
           refine wpL_done (fun W20 hW20 => ?_)
           go_roundw
           case rel =>
             repeat apply Exists.intro
             exact ⟨⟨k + 1, y2, Tw.om, (by rw [hR, inc_step hy2, decide_eq_true (show z < y2 by omega), decide_eq_true (show y2 ≤ c.tiers - 1 by omega)]; rfl), (.inr ⟨by omega, by omega, by rw [Nat.add_sub_cancel]; exact hy2⟩), rfl, (hW20.sub (fun p hp => by first | exact hp | (simp only [List.mem_cons, List.mem_append, List.nil_append, List.not_mem_nil, or_assoc, or_false, false_or] at hp ⊢ <;> grind)))⟩, rfl⟩
           case measure => (show c.plugs.length - (intOf (.int .i64 (((k + 1) : Nat) : Int))).toNat < c.plugs.length - (intOf (.int .i64 ((k : Nat) : Int))).toNat); simp only [intOf]; omega
         | true =>
           have h13 : 0 < k := of_decide_eq_true hd13
           clear hd13
           refine vm (i := 3) (v := .pointer (some ⟨g1, 8, none⟩)) rfl rfl rfl ?_
           refine vv (i := 4) (v := .slice c.pp c.plugs.length c.pc) rfl rfl rfl (yb_cell (off := 8) rfl Tw.kr Tw.m0 Tryd.underlying63 rfl Tw.kr) ?_
           refine vm (i := 5) (v := .int .i64 ((k : Nat) : Int)) rfl rfl rfl ?_
           refine vp (i := 6) (v := .int .i64 (((k - 1) : Nat) : Int)) rfl rfl rfl (run_bin rfl (vx := (.int .i64 ((k : Nat) : Int))) (vy := (.int .i64 ((1 : Nat) : Int))) Tw.kr Tw.kr fun w => bn_sub (z := (k - 1)) rfl Tw.om (wr_i64 Tw.om) w) ?_
           obtain ⟨y3, g3_, f3_, hy3, hp3, hc3⟩ := RL.at (RL.base HP.out) inC_len (by decide) (hW17.sub (fun _ h => by cases h)) (k := (k - 1)) Tw.om
           have ez3 : y3 = z := by
             rcases hz with ⟨h8, _⟩ | ⟨_, _, h8⟩
             · omega
             · rw [h8] at hy3; exact (Option.some.inj hy3).symm
           refine vp (i := 7) (v := .pointer (some ⟨g3_, f3_ + (k - 1) * 1, none⟩)) rfl rfl rfl (run_idxQ (p := c.pp) (cap := c.pc) (n := c.plugs.length) (j := .i64) (k := (k - 1)) (sz := 1) rfl Tryd.underlying63 Tw.kr Tw.kr hp3 Tw.kr Tw.om) ?_
           refine vb (i := 8) (v := .int .i64 y3) rfl rfl rfl (yb_rf (v := .int .i64 y3) rfl Tw.kr (fun W hW => hc3 W (hW.sub (fun _ h => by cases h)) 0 _ rfl) Tryd.underlying3 rfl) ?_
           refine vm (i := 9) (v := .pointer (some ⟨g1, 8, none⟩)) rfl rfl rfl ?_
           refine vv (i := 10) (v := .slice c.pp c.plugs.length c.pc) rfl rfl rfl (yb_cell (off := 8) rfl Tw.kr Tw.m0 Tryd.underlying63 rfl Tw.kr) ?_
           refine vm (i := 11) (v := .int .i64 ((k : Nat) : Int)) rfl rfl rfl ?_
           refine vp (i := 12) (v := .pointer (some ⟨g2_, f2_ + k * 1, none⟩)) rfl rfl rfl (run_idxQ (p := c.pp) (cap := c.pc) (n := c.plugs.length) (j := .i64) (k := k) (sz := 1) rfl Tryd.underlying63 Tw.kr Tw.kr hp2 Tw.kr Tw.om) ?_
           refine vb (i := 13) (v := .int .i64 y2) rfl rfl rfl (yb_rf (v := .int .i64 y2) rfl Tw.kr (fun W hW => hc2 W (hW.sub (fun _ h => by cases h)) 0 _ rfl) Tryd.underlying3 rfl) ?_
           refine vp (i := 14) (v := .bool (!(decide (y3 < y2)))) rfl rfl rfl (run_bin rfl (vx := (.int .i64 y3)) (vy := (.int .i64 y2)) Tw.kr Tw.kr fun w => bi_geq rfl w) ?_
           refine vm (i := 15) (v := .bool (!(decide (y3 < y2)))) rfl rfl rfl ?_
           refine wpV_done Tw.kr (fun W21 hW21 => ?_) _
           change Code.wp ..
           cases hd14 : (decide (y3 < y2)) with
           | false =>
             have h14 : ¬ (y3 < y2) := of_decide_eq_false hd14
             clear hd14
             refine wp_cond_true rfl ?_
             refine wp_seq ?_
             refine wp_region_L _ hW21 ?_
             refine lm (v := .bool false) rfl rfl ?_
             refine wpL_done (fun W22 hW22 => ?_)
             change Code.wp ..
             refine wp_ret ?_
             try simp only [inBlock_ret, then_ret]
             refine bodyPost_ret (v := .bool false) ?_ rfl ?_
             · kernel_rfl
             · exact ⟨(bool_is (by rw [colX_is, hR, inc_step hy2]; by_cases g1 : z < y2 <;> by_cases g2 : y2 ≤ c.tiers - 1 <;> simp [g1, g2] <;> omega)), hW22.1⟩
           | true =>
             have h14 : y3 < y2 := of_decide_eq_true hd14
             clear hd14
             refine wp_cond_false rfl ?_
             refine wp_skip ?_
             change Code.wp ..
             refine wp_region_L _ hW21 ?_
             refine lm (v := .int .i64 ((k : Nat) : Int)) rfl rfl ?_
             refine lp (v := .int .i64 (((k + 1) : Nat) : Int)) rfl rfl (run_bin rfl (vx := (.int .i64 ((k : Nat) : Int))) (vy := (.int .i64 ((1 : Nat) : Int))) Tw.kr Tw.kr fun w => bn_add (z := (k + 1)) rfl (wr_i64 Tw.om) w) ?_
             refine lm (v := .int .i64 (((k + 1) : Nat) : Int)) rfl rfl ?_
             refine wpL_done (fun W23 hW23 => ?_)
             go_roundw
             case rel =>
               repeat apply Exists.intro
               exact ⟨⟨k + 1, y2, Tw.om, (by rw [hR, inc_step hy2, decide_eq_true (show z < y2 by omega), decide_eq_true (show y2 ≤ c.tiers - 1 by omega)]; rfl), (.inr ⟨by omega, by omega, by rw [Nat.add_sub_cancel]; exact hy2⟩), rfl, (hW23.sub (fun p hp => by first | exact hp | (simp only [List.mem_cons, List.mem_append, List.nil_append, List.not_mem_nil, or_assoc, or_false, false_or] at hp ⊢ <;> grind)))⟩, rfl⟩
             case measure => (show c.plugs.length - (intOf (.int .i64 (((k + 1) : Nat) : Int))).toNat < c.plugs.length - (intOf (.int .i64 ((k : Nat) : Int))).toNat); simp only [intOf]; omega
     | true =>
       have h11 : y2 < 0 := of_decide_eq_true hd11
       clear hd11
       refine vn (i := 7) rfl rfl ?_
       refine vn (i := 8) rfl rfl ?_
       refine vn (i := 9) rfl rfl ?_
       refine vn (i := 10) rfl rfl ?_
       refine vn (i := 11) rfl rfl ?_
       refine vn (i := 12) rfl rfl ?_
       refine vn (i := 13) rfl rfl ?_
       refine vn (i := 14) rfl rfl ?_
       refine vm (i := 15) (v := .bool true) rfl rfl rfl ?_
       refine wpV_done Tw.kr (fun W24 hW24 => ?_) _
       change Code.wp ..
       refine wp_cond_true rfl ?_
       refine wp_seq ?_
       refine wp_region_L _ hW24 ?_
       refine lm (v := .bool false) rfl rfl ?_
       refine wpL_done (fun W25 hW25 => ?_)
       change Code.wp ..
       refine wp_ret ?_
       try simp only [inBlock_ret, then_ret]
       refine bodyPost_ret (v := .bool false) ?_ rfl ?_
       · kernel_rfl
       · exact ⟨(bool_is (by rw [colX_is, hR, inc_step hy2]; by_cases g1 : z < y2 <;> by_cases g2 : y2 ≤ c.tiers - 1 <;> simp [g1, g2] <;> omega)), hW25.1⟩
end Go.Proofs.YtlinjngifacmoaaDoor
namespace Go.Proofs.YtlinjngifacmoaaDoor
open Go Go.RowKit Tw
end Go.Proofs.YtlinjngifacmoaaDoor
/- Records in a block that are written; ships that are not right: plain facts. -/
namespace Go.Proofs.YtlinjngifacmoaaDoor
open Go Go.RowKit Tw
def RowR {α : Type} (cells : α → List Value) (cur : Array Value) (l : List α) : Prop := ∃ rest, cur.toList = l.flatMap cells ++ rest
section
variable {α : Type} {cells : α → List Value} {sz : Nat} {cur : Array Value} {l : List α} {k j : Nat} {c c' : α} {v : Value}
theorem RowR.get (h : RowR cells cur l) (hc : ∀ y, (cells y).length = sz) (hk : l[k]? = some c) : ∀ (j : Nat) (v : Value), (cells c)[j]? = some v → cur[0 + k * sz + j]? = some v := fun j v hv => by
 obtain ⟨rest, h⟩ := h
 have h1 := flat_get hc hk hv
 rw [← Array.getElem?_toList, h, Nat.zero_add, List.getElem?_append_left (List.getElem?_eq_some_iff.1 h1).1, h1]
theorem flat_set (hc : ∀ y, (cells y).length = sz) (hk : l[k]? = some c) (hj : j < sz) (he : cells c' = (cells c).set j v) : (l.flatMap cells).set (k * sz + j) v = (l.set k c').flatMap cells := by
 obtain ⟨hkl, hkc⟩ := List.getElem?_eq_some_iff.1 hk
 have e1 := er_split hk
 have hl : ((l.take k).flatMap cells).length = k * sz := by rw [flat_len hc, List.length_take, Nat.min_eq_left Tw.om]
 rw [show l.set k c' = l.take k ++ c' :: l.drop (k + 1) from by rw [List.set_eq_take_append_cons_drop, if_pos hkl], List.flatMap_append, List.flatMap_cons, he]
 conv => lhs; rw [e1, List.flatMap_append, List.flatMap_cons]
 rw [List.set_append_right _ _ (by rw [hl]; omega), hl, Nat.add_sub_cancel_left, List.set_append_left _ _ (by rw [hc]; exact hj)]
theorem RowR.set (h : RowR cells cur l) (hc : ∀ y, (cells y).length = sz) (hk : l[k]? = some c) (hj : j < sz) (he : cells c' = (cells c).set j v) : RowR cells (cur.setIfInBounds (0 + k * sz + j) v) (l.set k c') := by
 obtain ⟨rest, h⟩ := h
 refine ⟨rest, ?_⟩
 have hkl := (List.getElem?_eq_some_iff.1 hk).1
 have hlt : k * sz + j < (l.flatMap cells).length := by
   rw [flat_len hc]
   have : (k + 1) * sz ≤ l.length * sz := Nat.mul_le_mul_right _ hkl
   rw [Nat.succ_mul] at this; omega
 rw [Array.toList_setIfInBounds, h, Nat.zero_add, List.set_append_left _ _ hlt, flat_set hc hk hj he]
end
-- what is wrong
section
variable {cs : List Col} {os : List Cov}
theorem cols_f {c : Col} (hc : c ∈ cs) (hx : colX c = false) : colsX cs = false := by
 unfold colsX
 have : colsF [] cs = false := by
   cases h : colsF [] cs with
   | false => rfl
   | true => have := (cols_iff.1 h).1 c hc; rw [hx] at this; cases this
 rw [this]; simp
theorem cols_dup (h : ¬ (cs.map placeX).Nodup) : colsX cs = false := by
 unfold colsX
 have : colsF [] cs = false := by
   cases h2 : colsF [] cs with
   | false => rfl
   | true => exact absurd (cols_iff.1 h2).2.1 h
 rw [this]; simp
theorem right_c (h : colsX cs = false) : rightX cs os = false := by unfold rightX; rw [h]; rfl
theorem right_o (h : ovsX os = false) : rightX cs os = false := by unfold rightX; rw [h, Bool.and_false]
theorem ovs_t {os : List Cov} : ∀ {L : List I2}, ovsF L os = true → (∀ o ∈ os, ovX o = true) ∧ (keysO (os.map fun o => (o.bay, o.rows))).Nodup ∧ ∀ k ∈ keysO (os.map fun o => (o.bay, o.rows)), k ∉ L := by
 induction os with
 | nil => intro L _; exact ⟨fun _ h => (by cases h), by simp [keysO], fun _ h => (by simp [keysO] at h)⟩
 | cons o os ih =>
   intro L h
   have h : (ovX o && (freshF o.bay L o.rows && ovsF (L ++ o.rows.map (fun r => (o.bay, r))) os)) = true := h
   simp only [Bool.and_eq_true] at h
   obtain ⟨h1, h2, h3⟩ := h
   obtain ⟨f1, f2⟩ := fresh_iff.1 h2
   obtain ⟨i1, i2, i3⟩ := ih h3
   have e : keysO ((o :: os).map fun o => (o.bay, o.rows)) = (o.rows.map fun r => (o.bay, r)) ++ keysO (os.map fun o => (o.bay, o.rows)) := rfl
   rw [e]
   refine ⟨fun x hx => ?_, ?_, fun k hk => ?_⟩
   · rcases List.mem_cons.1 hx with rfl | hx
     · exact h1
     · exact i1 x hx
   · rw [List.nodup_append]
     refine ⟨?_, i2, fun a ha b hb e => ?_⟩
     · rw [List.Nodup, List.pairwise_map]
       exact f1.imp fun {a b} hn e => hn (Prod.mk.inj e).2
     · subst e
       exact i3 a hb (List.mem_append_right _ ha)
   · rcases List.mem_append.1 hk with hk | hk
     · obtain ⟨r, hr, rfl⟩ := List.mem_map.1 hk
       exact f2 r hr
     · exact fun hL => i3 k hk (List.mem_append_left _ hL)
theorem ov_bad {o : Cov} (ho : o ∈ os) (h : ovX o = false) : rightX cs os = false := right_o (by
 unfold ovsX
 have : ovsF [] os = false := by
   cases h2 : ovsF [] os with
   | false => rfl
   | true => have := (ovs_t h2).1 o ho; rw [h] at this; cases this
 rw [this, Bool.and_false])
end
end Go.Proofs.YtlinjngifacmoaaDoor
/- Lists of numbers that are read, cut and handed on: over any program. -/
namespace Tw
open Go Go.RowKit Go.Proofs.YtlinjngifacmoaaDoor
def nums (l : List Nat) : List Value := l.map fun n => .int .i64 ((n : Nat) : Int)
theorem nums_len (l : List Nat) : (nums l).length = l.length := by simp [nums]
theorem nums_app (l m : List Nat) : nums (l ++ m) = nums l ++ nums m := by simp [nums]
theorem nums_get {l : List Nat} {k x : Nat} (h : l[k]? = some x) : (nums l)[k]? = some (.int .i64 ((x : Nat) : Int)) := by simp [nums, h]
theorem nums_take (l : List Nat) (k : Nat) : nums (l.take k) = (nums l).take k := by simp [nums, List.map_take]
theorem nums_drop (l : List Nat) (k : Nat) : nums (l.drop k) = (nums l).drop k := by simp [nums, List.map_drop]
theorem slv_take {W : World} {p : Option Addr} {xs : List Value} (h : SLV W p xs) (k : Nat) : SLV W p (xs.take k) := by
 rcases h with rfl | ⟨b, off, rfl, hlt, hc⟩
 · exact .inl (by simp)
 · refine .inr ⟨b, off, rfl, hlt, fun i u hu => hc i u ?_⟩
   rw [List.getElem?_take] at hu
   split at hu
   · exact hu
   · cases hu
def NS (W0 : Base) (p : Option Addr) (l : List Nat) (T : List (Nat × Obj)) : Prop := ∀ W, KS W0 T W → SLV W p (nums l)
section
variable {W0 : Base} {p : Option Addr} {l : List Nat} {K T : List (Nat × Obj)}
theorem NS.mono (h : NS W0 p l T) (hs : ∀ q ∈ T, q ∈ K) : NS W0 p l K := fun W hW => h W (hW.sub hs)
theorem NS.take (h : NS W0 p l T) (k : Nat) : NS W0 p (l.take k) T := fun W hW => by rw [nums_take]; exact slv_take (h W hW) k
theorem NS.nil : NS W0 p [] T := fun _ _ => .inl rfl
theorem NS.base {W : World} (h : SLV W p (nums l)) : NS (W : Base) p l [] := fun _ hW => h.keep hW.1
theorem NS.at {W : World} {k : Nat} (h : NS W0 p l T) (hW : KS W0 T W) (hk : k < l.length) : ∃ b off, p = some ⟨b, off, none⟩ ∧ ∀ W, KS W0 T W → ∀ (i x : Nat), l[i]? = some x → W.cell? ⟨b, off + i * 1, none⟩ = some (.int .i64 ((x : Nat) : Int)) := by
 have hne : nums l ≠ [] := fun e => by have := nums_len l; rw [e] at this; simp at this; omega
 rcases h W hW with h0 | ⟨b, off, rfl, _, _⟩
 · exact absurd h0 hne
 · refine ⟨b, off, rfl, fun W2 hW2 i x hx => ?_⟩
   rcases h W2 hW2 with h0 | ⟨b', off', he, _, hc⟩
   · exact absurd h0 hne
   · cases he
     rw [Nat.mul_one]
     exact hc i _ (nums_get hx)
theorem NS.drop {W : World} {c k : Nat} (h : NS W0 p l T) (hW : KS W0 T W) (hc : l.length ≤ c) : NS W0 (if c = k then p else p.map (·.add (k * 1))) (l.drop k) T := by
 rcases Nat.lt_or_ge k l.length with h1 | h1
 · obtain ⟨b, off, rfl, h2⟩ := h.at hW h1
   rw [if_neg Tw.om]
   intro W2 hW2
   rcases h W2 hW2 with h0 | ⟨b', off', he, hlt, hc⟩
   · have := nums_len l; rw [h0] at this; simp at this; omega
   · cases he
     refine .inr ⟨b, off + k * 1, by simp [addr_add], hlt, fun i u hu => ?_⟩
     rw [nums_drop, List.getElem?_drop] at hu
     rw [Nat.mul_one, Nat.add_assoc]
     exact hc _ u hu
 · rw [List.drop_of_length_le h1]; exact NS.nil
theorem cell_same {w w2 : World} {b off : Nat} (h : w.heap[b]? = w2.heap[b]?) : w.cell? ⟨b, off, none⟩ = w2.cell? ⟨b, off, none⟩ := by
 unfold World.cell?; simp only [h]
def SLF (W w2 : World) (p : Option Addr) (xs : List Value) : Prop := xs = [] ∨ ∃ b off, p = some ⟨b, off, none⟩ ∧ W.heap.size ≤ b ∧ b < w2.heap.size ∧ Cel w2 b off xs
theorem SLF.slv {W w2 : World} {xs : List Value} (h : SLF W w2 p xs) : SLV w2 p xs := h.imp id fun ⟨b, off, h1, _, h2, h3⟩ => ⟨b, off, h1, h2, h3⟩
theorem SLF.take {W w2 : World} {xs : List Value} (h : SLF W w2 p xs) (k : Nat) : SLF W w2 p (xs.take k) := by
 rcases h with rfl | ⟨b, off, rfl, h1, h2, hc⟩
 · exact .inl (by simp)
 · refine .inr ⟨b, off, rfl, h1, h2, fun i u hu => hc i u ?_⟩
   rw [List.getElem?_take] at hu
   split at hu
   · exact hu
   · cases hu
theorem ns_new {W w2 : World} (hW : KS W0 K W) (hB : Below W.heap.size W w2) (hs : SLF W w2 p (nums l)) : ∃ T, KS W0 (K ++ T) w2 ∧ Dj K T ∧ NS W0 p l T ∧ ∀ W3, KS W0 T W3 → W0.B = W0.w.heap.size → SLF W0.w W3 p (nums l) := by
 have hK := hW.below hB
 rcases hs with h0 | ⟨b, off, rfl, hge, hlt, hc⟩
 · exact ⟨[], by rw [List.append_nil]; exact hK, fun _ _ _ h => (by cases h), fun _ _ => .inl h0, fun _ _ _ => .inl h0⟩
 · have hb : w2.heap[b]? = some (w2.heap[b]) := Array.getElem?_eq_getElem hlt
   refine ⟨[(b, w2.heap[b])], ⟨hK.1, fun q hq => ?_⟩, fun q hq r hr e => ?_, fun W3 hW3 => .inr ⟨b, off, rfl, ?_, fun i u hu => ?_⟩, fun W3 hW3 e => .inr ⟨b, off, rfl, ?_, ?_, fun i u hu => ?_⟩⟩
   · rcases List.mem_append.1 hq with h | h
     · exact hK.2 q h
     · cases List.mem_singleton.1 h; exact hb
   · cases List.mem_singleton.1 hr
     have := lt_of_block (hW.2 q hq)
     have e' : b = q.1 := e
     omega
   · have := hW3.2 _ Tw.m0; exact lt_of_block this
   · rw [cell_same (w2 := w2) (by rw [hW3.2 _ Tw.m0]; exact hb.symm)]; exact hc i u hu
   · have := hW.size; omega
   · have := hW3.2 _ Tw.m0; exact lt_of_block this
   · rw [cell_same (w2 := w2) (by rw [hW3.2 _ Tw.m0]; exact hb.symm)]; exact hc i u hu
end
section
variable {P : Program} {T E : TypeId} {W0 : Base}
end
def Ans (w : World) (l : List Nat) (e : Ending) (w' : World) : Prop := ∃ q d, e = .returned (.slice q l.length d) ∧ l.length ≤ d ∧ SLF w w' q (nums l) ∧ Below w.heap.size w w'
def AnsV (w : World) (l : List Nat) (e : Ending) (w' : World) : Prop := ∃ q d, e = .returned (.slice q l.length d) ∧ l.length ≤ d ∧ SLV w' q (nums l) ∧ Below w.heap.size w w'
def AnsG (W0 : Base) (K : List (Nat × Obj)) (l : List Nat) (v : Value) (K2 : List (Nat × Obj)) : Prop := ∃ q d T, v = .slice q l.length d ∧ l.length ≤ d ∧ NS W0 q l T ∧ (∀ W3, KS W0 T W3 → W0.B = W0.w.heap.size → SLF W0.w W3 q (nums l)) ∧ Dj K T ∧ K2 = K ++ T
def AnsW (W0 : Base) (K : List (Nat × Obj)) (l : List Nat) (v : Value) (K2 : List (Nat × Obj)) : Prop := ∃ q d T, v = .slice q l.length d ∧ l.length ≤ d ∧ NS W0 q l T ∧ K2 = K ++ T
def Ans2 (w : World) (l m : List Nat) (e : Ending) (w' : World) : Prop := ∃ q d q2 d2, e = .returned (.tuple #[.slice q l.length d, .slice q2 m.length d2]) ∧ l.length ≤ d ∧ m.length ≤ d2 ∧ SLV w' q (nums l) ∧ SLV w' q2 (nums m) ∧ Below w.heap.size w w'
def AnsW2 (W0 : Base) (K : List (Nat × Obj)) (l m : List Nat) (v : Value) (K2 : List (Nat × Obj)) : Prop := ∃ q d q2 d2 T, v = .tuple #[.slice q l.length d, .slice q2 m.length d2] ∧ l.length ≤ d ∧ m.length ≤ d2 ∧ NS W0 q l T ∧ NS W0 q2 m T ∧ K2 = K ++ T
section
variable {W0 : Base} {K : List (Nat × Obj)} {W w2 : World} {l m : List Nat} {e : Ending}
theorem Ans.v (h : Ans W l e w2) : AnsV W l e w2 := by
 obtain ⟨q, d, h1, h2, h3, h4⟩ := h
 exact ⟨q, d, h1, h2, h3.slv, h4⟩
theorem Ans.g (h : Ans W l e w2) (hW : KS W0 K W) : ∃ v K2, e = .returned v ∧ KS W0 K2 w2 ∧ AnsG W0 K l v K2 := by
 obtain ⟨q, d, h1, h2, h3, h4⟩ := h
 obtain ⟨T, a1, a2, a3, a4⟩ := ns_new hW h4 h3
 exact ⟨_, _, h1, a1, q, d, T, rfl, h2, a3, a4, a2, rfl⟩
theorem ns_of' {p : Option Addr} (hW : KS W0 K W) (hB : Below W.heap.size W w2) (hs : SLV w2 p (nums l)) : ∃ T, KS W0 (K ++ T) w2 ∧ NS W0 p l T := by
 have hK := hW.below hB
 rcases hs with h0 | ⟨b, off, rfl, hlt, hc⟩
 · exact ⟨[], by rw [List.append_nil]; exact hK, fun _ _ => .inl h0⟩
 · have hb : w2.heap[b]? = some (w2.heap[b]) := Array.getElem?_eq_getElem hlt
   refine ⟨[(b, w2.heap[b])], ⟨hK.1, fun q hq => ?_⟩, fun W3 hW3 => .inr ⟨b, off, rfl, ?_, fun i u hu => ?_⟩⟩
   · rcases List.mem_append.1 hq with h | h
     · exact hK.2 q h
     · cases List.mem_singleton.1 h; exact hb
   · have := hW3.2 _ Tw.m0; exact lt_of_block this
   · rw [cell_same (w2 := w2) (by rw [hW3.2 _ Tw.m0]; exact hb.symm)]; exact hc i u hu
theorem AnsV.g (h : AnsV W l e w2) (hW : KS W0 K W) : ∃ v K2, e = .returned v ∧ KS W0 K2 w2 ∧ AnsW W0 K l v K2 := by
 obtain ⟨q, d, h1, h2, h3, h4⟩ := h
 obtain ⟨T, a1, a3⟩ := ns_of' hW h4 h3
 exact ⟨_, _, h1, a1, q, d, T, rfl, h2, a3, rfl⟩
theorem Ans2.g (h : Ans2 W l m e w2) (hW : KS W0 K W) : ∃ v K2, e = .returned v ∧ KS W0 K2 w2 ∧ AnsW2 W0 K l m v K2 := by
 obtain ⟨q, d, q2, d2, h1, h2, h3, h4, h5, h6⟩ := h
 obtain ⟨T, a1, a3⟩ := ns_of' hW h6 h4
 obtain ⟨U, b1, b3⟩ := ns_of' a1 (Below.refl _ _) h5
 refine ⟨_, _, h1, b1, q, d, q2, d2, T ++ U, rfl, h2, h3, a3.mono (fun q hq => List.mem_append_left _ hq), b3.mono (fun q hq => List.mem_append_right _ hq), by rw [List.append_assoc]⟩
theorem own_snoc {E : TypeId} {v : Value} {n d : Nat} (h : OwnL W0 E 1 v n (nums l ++ [.int .i64 ((d : Nat) : Int)]) K) : OwnL W0 E 1 v n (nums (l ++ [d])) K := by
 rw [nums_app]; exact h
end
section
variable {P : Program} {W0 : Base}
end
end Tw
/- Which columns have which cover; how often a column is met: plain facts. -/
namespace Go.Proofs.YtlinjngifacmoaaDoor
open Go Go.RowKit Tw
section
variable {cs : List Col} {os : List Cov}
theorem keys_uni : ∀ {ov : List (Int × List Int)} {a b : Nat} {o1 o2 : Int × List Int} {r : Int}, (keysO ov).Nodup → ov[a]? = some o1 → ov[b]? = some o2 → r ∈ o1.2 → r ∈ o2.2 → o1.1 = o2.1 → a = b
 | [], _, _, _, _, _, _, h, _, _, _, _ => by simp at h
 | o :: ov, a, b, o1, o2, r, hn, h1, h2, r1, r2, e => by
   have hk : keysO (o :: ov) = (o.2.map fun r => (o.1, r)) ++ keysO ov := rfl
   rw [hk] at hn
   obtain ⟨n1, n2, n3⟩ := List.nodup_append.1 hn
   have hin : ∀ {j : Nat} {x : Int × List Int}, ov[j]? = some x → ∀ {r : Int}, r ∈ x.2 → (x.1, r) ∈ keysO ov := fun {j x} hx {r} hr => List.mem_flatMap.2 ⟨x, List.mem_of_getElem? hx, List.mem_map.2 ⟨r, hr, rfl⟩⟩
   cases a with
   | zero =>
     cases b with
     | zero => rfl
     | succ b =>
       simp at h1 h2
       subst h1
       exact absurd (by rw [e]) (n3 (o.1, r) (List.mem_map.2 ⟨r, r1, rfl⟩) (o2.1, r) (hin h2 r2))
   | succ a =>
     cases b with
     | zero =>
       simp at h1 h2
       subst h2
       exact absurd (by rw [e]) (n3 (o.1, r) (List.mem_map.2 ⟨r, r2, rfl⟩) (o1.1, r) (hin h1 r1))
     | succ b =>
       simp at h1 h2
       rw [keys_uni n2 h1 h2 r1 r2 e]
section
variable {n m k j x : Nat} {f : Nat → Nat} {sl : List Nat} {L : List Int}
end
end
end Go.Proofs.YtlinjngifacmoaaDoor
/- Right ships, found pair by pair: plain facts. -/
namespace Go.Proofs.YtlinjngifacmoaaDoor
open Go Go.RowKit Tw
section
variable {cs : List Col} {os : List Cov}
theorem place_inj {a b : Col} (h : placeX a = placeX b) : a.bay = b.bay ∧ a.row = b.row ∧ a.deck = b.deck := by
 unfold placeX at h
 simp only [Prod.mk.injEq] at h
 refine ⟨h.1, h.2.1, ?_⟩
 have h3 := h.2.2
 cases ha : a.deck <;> cases hb : b.deck <;> simp [ha, hb] at h3 ⊢
theorem dup_at {i k : Nat} {y z : Col} (hz : cs[k]? = some z) (hy : cs[i]? = some y) (hki : k < i) (he : placeX z = placeX y) : rightX cs os = false := right_c (cols_dup fun hn => by
 have h1 : (cs.map placeX)[k]? = some (placeX y) := by rw [List.getElem?_map, hz, ← he]; rfl
 have h2 : (cs.map placeX)[i]? = some (placeX y) := by rw [List.getElem?_map, hy]; rfl
 have hk := (List.getElem?_eq_some_iff.1 h1).1
 have := (List.getElem?_inj hk hn).1 (h1.trans h2.symm)
 omega)
def ColsT (cs : List Col) (i : Nat) : Prop := (∀ c ∈ cs.take i, colX c = true) ∧ ((cs.take i).map placeX).Nodup
theorem colsT_0 : ColsT cs 0 := ⟨fun _ h => (by cases h), by simp⟩
theorem colsT_s {i k : Nat} {y : Col} (h : ColsT cs i) (hy : cs[i]? = some y) (hx : colX y = true) (hk : ¬ k < i) (hn : ∀ j z, j < k → cs[j]? = some z → placeX z ≠ placeX y) : ColsT cs (i + 1) := by
 obtain ⟨hi, rfl⟩ := List.getElem?_eq_some_iff.1 hy
 unfold ColsT
 rw [List.take_succ_eq_append_getElem hi]
 refine ⟨fun c hc => ?_, ?_⟩
 · rcases List.mem_append.1 hc with hc | hc
   · exact h.1 c hc
   · cases List.mem_singleton.1 hc; exact hx
 · rw [List.map_append, List.nodup_append]
   refine ⟨h.2, by simp, fun x hx' z hz e => ?_⟩
   obtain ⟨c, hc, rfl⟩ := List.mem_map.1 hx'
   have hz : z = placeX cs[i] := by simpa using hz
   subst hz
   obtain ⟨j, hj⟩ := List.mem_iff_getElem?.1 hc
   rw [List.getElem?_take] at hj
   split at hj
   · rename_i hji
     exact hn j c Tw.om hj e
   · cases hj
theorem colsT_e {i : Nat} (h : ColsT cs i) (hi : ¬ i < cs.length) (hl : inR ((cs.length : Nat) : Int) 1 200 = true) : colsX cs = true := by
 unfold ColsT at h
 rw [List.take_of_length_le Tw.om] at h
 unfold inR at hl
 simp only [Bool.and_eq_true, Bool.not_eq_true', decide_eq_false_iff_not] at hl
 unfold colsX
 rw [decide_eq_false Tw.om, decide_eq_false Tw.om]
 exact cols_iff.2 ⟨h.1, h.2, fun _ _ h => by cases h⟩
theorem len_bad (h : inR ((cs.length : Nat) : Int) 1 200 = false) : rightX cs os = false := right_c (by
 unfold colsX
 by_cases h1 : cs.length = 0
 · rw [decide_eq_true h1]; rfl
 · have h2 : 200 < cs.length := by
     unfold inR at h
     rw [decide_eq_false Tw.om] at h
     have : decide ((200 : Int) < ((cs.length : Nat) : Int)) = true := by simpa using h
     have := of_decide_eq_true this
     omega
   rw [decide_eq_true h2]; simp)
theorem many_bad (h : 40 < os.length) : rightX cs os = false := right_o (by unfold ovsX; rw [decide_eq_true h]; rfl)
theorem ov_dup_at {i k : Nat} {a b : Cov} {r : Int} (ha : os[k]? = some a) (hb : os[i]? = some b) (hki : k < i) (h : a.bay = b.bay) (h1 : hasN a.rows r = true) (h2 : r ∈ b.rows) : rightX cs os = false := right_o (by
 unfold ovsX
 have : ovsF [] os = false := by
   cases hf : ovsF [] os with
   | false => rfl
   | true =>
     exfalso
     have hn := (ovs_t hf).2.1
     have key : ∀ {ov : List (Int × List Int)} {a b : Nat} {o1 o2 : Int × List Int} {r : Int}, (keysO ov).Nodup → ov[a]? = some o1 → ov[b]? = some o2 → r ∈ o1.2 → r ∈ o2.2 → o1.1 = o2.1 → a = b := keys_uni
     have e := key hn (a := k) (b := i) (o1 := (a.bay, a.rows)) (o2 := (b.bay, b.rows)) (by rw [List.getElem?_map, ha]; rfl) (by rw [List.getElem?_map, hb]; rfl) (of_decide_eq_true h1) h2 h
     omega
 rw [this, Bool.and_false])
def OvsT (os : List Cov) (i : Nat) : Prop := (∀ o ∈ os.take i, ovX o = true) ∧ (keysO ((os.take i).map fun o => (o.bay, o.rows))).Nodup
theorem ovsT_0 : OvsT os 0 := ⟨fun _ h => (by cases h), by simp [keysO]⟩
def FreeR (os : List Cov) (i : Nat) (o : Cov) (l : List Int) : Prop := ∀ r ∈ l, ∀ k z, k < i → os[k]? = some z → ¬ (z.bay = o.bay ∧ hasN z.rows r = true)
theorem inc_nodup {l : List Int} : ∀ {last most : Int}, incF most last l = true → l.Nodup ∧ ∀ n ∈ l, last < n := by
 induction l with
 | nil => intro _ _ _; exact ⟨by simp, fun _ h => (by cases h)⟩
 | cons x l ih =>
   intro last most h
   have h : (decide (last < x) && (decide (x ≤ most) && incF most x l)) = true := h
   simp only [Bool.and_eq_true, decide_eq_true_eq] at h
   obtain ⟨i1, i2⟩ := ih h.2.2
   refine ⟨List.nodup_cons.2 ⟨fun hx => by have := i2 x hx; omega, i1⟩, fun n hn => ?_⟩
   rcases List.mem_cons.1 hn with rfl | hn
   · exact h.1
   · have := i2 n hn; omega
theorem ovsT_s {i : Nat} {o : Cov} (h : OvsT os i) (ho : os[i]? = some o) (hx : ovX o = true) (hf : FreeR os i o o.rows) : OvsT os (i + 1) := by
 obtain ⟨hi, rfl⟩ := List.getElem?_eq_some_iff.1 ho
 unfold OvsT
 rw [List.take_succ_eq_append_getElem hi]
 refine ⟨fun c hc => ?_, ?_⟩
 · rcases List.mem_append.1 hc with hc | hc
   · exact h.1 c hc
   · cases List.mem_singleton.1 hc; exact hx
 · have e : keysO ((os.take i ++ [os[i]]).map fun o => (o.bay, o.rows)) = keysO ((os.take i).map fun o => (o.bay, o.rows)) ++ (os[i].rows.map fun r => (os[i].bay, r)) := by
     unfold keysO
     rw [List.map_append, List.flatMap_append]
     simp
   rw [e, List.nodup_append]
   refine ⟨h.2, ?_, fun x hx' z hz he => ?_⟩
   · have hi2 : incX os[i].rows 30 = true := by
       unfold ovX at hx
       simp only [Bool.and_eq_true] at hx
       exact hx.2.2.2
     rw [List.Nodup, List.pairwise_map]
     exact (inc_nodup hi2).1.imp fun {a b} hn e => hn (Prod.mk.inj e).2
   · subst he
     obtain ⟨r, hr, hz2⟩ := List.mem_map.1 hz
     obtain ⟨p, hp, hk⟩ := List.mem_flatMap.1 hx'
     obtain ⟨c, hc, rfl⟩ := List.mem_map.1 hp
     obtain ⟨r2, hr2, he2⟩ := List.mem_map.1 hk
     obtain ⟨j, hj⟩ := List.mem_iff_getElem?.1 hc
     rw [List.getElem?_take] at hj
     split at hj
     · rename_i hji
       have e3 : (c.bay, r2) = (os[i].bay, r) := he2.trans hz2.symm
       obtain ⟨e4, e5⟩ := Prod.mk.inj e3
       have hr2 : r2 ∈ c.rows := hr2
       refine hf r hr j c hji hj ⟨e4, ?_⟩
       unfold hasN
       rw [← e5]
       exact decide_eq_true hr2
     · cases hj
theorem ovsT_e {i : Nat} (h : OvsT os i) (hi : ¬ i < os.length) (hl : ¬ 40 < os.length) : ovsX os = true := by
 unfold OvsT at h
 rw [List.take_of_length_le Tw.om] at h
 exact ovs_right rfl (fun p hp => by obtain ⟨o, ho, rfl⟩ := List.mem_map.1 hp; exact h.1 o ho) h.2 (by rw [List.length_map]; omega)
theorem right_t (h : colsX cs = true) (h2 : ovsX os = true) : rightX cs os = true := by unfold rightX; rw [h, h2]; rfl
theorem ov_bay {o : Cov} (h : inR o.bay 0 39 = false) : ovX o = false := by
 unfold ovX
 by_cases h1 : 0 ≤ o.bay
 · have h2 : ¬ o.bay ≤ 39 := by
     unfold inR at h
     rw [decide_eq_false Tw.om] at h
     have := of_decide_eq_true (show decide ((39 : Int) < o.bay) = true by simpa using h)
     omega
   rw [decide_eq_false h2]; simp
 · rw [decide_eq_false h1]; rfl
theorem ov_len {o : Cov} (h : o.rows.length = 0) : ovX o = false := by unfold ovX; rw [decide_eq_false (show ¬ 0 < o.rows.length by omega)]; simp
theorem ov_inc {o : Cov} (h : incX o.rows 30 = false) : ovX o = false := by unfold ovX; rw [h]; simp
theorem ov_ok {o : Cov} (h : inR o.bay 0 39 = true) (h2 : ¬ o.rows.length = 0) (h3 : incX o.rows 30 = true) : ovX o = true := by
 unfold inR at h
 simp only [Bool.and_eq_true, Bool.not_eq_true', decide_eq_false_iff_not] at h
 unfold ovX
 rw [decide_eq_true (show 0 ≤ o.bay by omega), decide_eq_true (show o.bay ≤ 39 by omega), decide_eq_true (show 0 < o.rows.length by omega), h3]; rfl
theorem inR_t {n a b : Int} (h : inR n a b = true) : a ≤ n ∧ n ≤ b := by
 unfold inR at h
 simp only [Bool.and_eq_true, Bool.not_eq_true', decide_eq_false_iff_not] at h
 omega
theorem inR_f {n a b : Int} (h : inR n a b = false) : n < a ∨ b < n := by
 unfold inR at h
 by_cases h1 : n < a
 · exact .inl h1
 · rw [decide_eq_false h1] at h
   exact .inr (of_decide_eq_true (show decide (b < n) = true by simpa using h))
theorem free_s {i j k : Nat} {o : Cov} {r : Int} (h : FreeR os i o (o.rows.take j)) (hr : o.rows[j]? = some r) (hk : ¬ k < i) (hn : ∀ q z, q < k → os[q]? = some z → ¬ (z.bay = o.bay ∧ hasN z.rows r = true)) : FreeR os i o (o.rows.take (j + 1)) := by
 obtain ⟨hj, rfl⟩ := List.getElem?_eq_some_iff.1 hr
 rw [List.take_succ_eq_append_getElem hj]
 intro x hx q z hq hz
 rcases List.mem_append.1 hx with hx | hx
 · exact h x hx q z hq hz
 · cases List.mem_singleton.1 hx
   exact hn q z Tw.om hz
theorem free_e {i j : Nat} {o : Cov} (h : FreeR os i o (o.rows.take j)) (hj : ¬ j < o.rows.length) : FreeR os i o o.rows := by rwa [List.take_of_length_le Tw.om] at h
theorem ne_s {P : Cov → Prop} {k : Nat} {z : Cov} (h : ∀ q z, q < k → os[q]? = some z → ¬ P z) (hz : os[k]? = some z) (hn : ¬ P z) : ∀ q z, q < k + 1 → os[q]? = some z → ¬ P z := fun q x hq hx => by
 rcases Nat.lt_or_eq_of_le (Nat.le_of_lt_succ hq) with h1 | rfl
 · exact h q x h1 hx
 · rw [hz] at hx; cases hx; exact hn
theorem ne_c {y : Col} {k : Nat} {z : Col} (h : ∀ q z, q < k → cs[q]? = some z → placeX z ≠ placeX y) (hz : cs[k]? = some z) (hn : placeX z ≠ placeX y) : ∀ q z, q < k + 1 → cs[q]? = some z → placeX z ≠ placeX y := fun q x hq hx => by
 rcases Nat.lt_or_eq_of_le (Nat.le_of_lt_succ hq) with h1 | rfl
 · exact h q x h1 hx
 · rw [hz] at hx; cases hx; exact hn
end
end Go.Proofs.YtlinjngifacmoaaDoor
