import Derived.Test.YtbceajgipmjmlaaDoorG02
/- IsoSwaps: the law holds for every input; no condition but the row's own. -/
set_option linter.unusedVariables false
set_option linter.unusedSimpArgs false
set_option linter.unusedSectionVars false
namespace Go.Proofs.YtbceajgipmjmlaaDoor
open Go Go.RowKit Tw
theorem chk_eq (l : List UInt8) : chkN l = 48 + remL l % 10 ∧ remL l < 11 := ⟨rfl, Nat.mod_lt _ (by omega)⟩
theorem judge_app {q : List UInt8} {d : UInt8} (hq : fitB q 10 = true) (hd : 48 ≤ d.toNat ∧ d.toNat ≤ 57) : judgeN (q ++ [d]) = if chkN q = d.toNat then 0 else 31 := by
  have hl := fit_len hq
  have hf : fitB (q ++ [d]) 11 = true := by
    unfold fitB
    rw [fitF_app, fit_fit hq]
    simp [hl, fitF, mayB, isDig, hd]
  have ha : agrB (q ++ [d]) = decide (chkN q = d.toNat) := by
    unfold agrB
    rw [List.take_left' hl, List.getD_eq_getElem?_getD, List.getElem?_append_right (by omega), hl]
    rfl
  unfold judgeN
  rw [hf, ha]
  by_cases h : chkN q = d.toNat <;> simp [h]
def GMd (K : List (Nat × Obj)) (v : Value) (K' : List (Nat × Obj)) : Prop := ∃ (p : List UInt8) (d : UInt8), v = .tuple #[strV p, .int .u8 ((d.toNat : Nat) : Int), .bool true] ∧ fitB p 10 = true ∧ d.toNat = chkN p ∧ K' = K
theorem calls_md {W0 : Base} {W : World} {K : List (Nat × Obj)} (n : Nat) (hn : n ≤ 18446744073709551615) (hW : KS W0 K W) : Calls Tryd.prog 17 #[.int .u64 ((n : Nat) : Int)] W fun e w' => ∃ v K', e = .returned v ∧ KS W0 K' w' ∧ GMd K v K' :=
  (Made_any n hn W).mono fun e w' ⟨l, he, hf, hb⟩ => by
    have hc := chkN_le l
    have e1 : (UInt8.ofNat (chkN l)).toNat = chkN l := by rw [UInt8.toNat_ofNat']; omega
    exact ⟨_, K, he, hW.below hb, l, UInt8.ofNat (chkN l), by rw [e1], hf, e1, rfl⟩
end Go.Proofs.YtbceajgipmjmlaaDoor
namespace Go.Proofs.YtbceajgipmjmlaaDoor
open Go Go.RowKit Tw
set_option maxRecDepth 100000 in
set_option maxHeartbeats 40000000 in
theorem IsoSwaps_law (w : World) (hE : Env w) (a0 : Int) (rr0 : 0 ≤ a0 ∧ a0 ≤ 18446744073709551615) (a1 : Int) (rr1 : -9223372036854775808 ≤ a1 ∧ a1 ≤ 9223372036854775807) (a2 : Int) (rr2 : -9223372036854775808 ≤ a2 ∧ a2 ≤ 9223372036854775807) : Calls Tryd.prog 8 #[.int .u64 a0, .int .i64 a1, .int .i64 a2] w fun e w' => e = .returned (.bool true) ∧ Below w.heap.size w w' := by
  have HE := Lib.hid hE
  clear hE
  obtain ⟨n, rfl⟩ : ∃ n : Nat, a0 = (n : Int) := ⟨a0.toNat, by omega⟩
  go_enter Tryd.func8, Tryd.ntmps8
  refine wp_seq ?_
  refine wp_region_L (W0 := w) [] (KS.start w) ?_
  refine lm (v := .bool false) rfl rfl ?_
  refine wpL_done (fun W1 hW1 => ?_)
  refine (show Code.wp _ _ _ _ _ from ?_)
  refine wp_seq ?_
  refine wp_seq ?_
  refine wp_region_L (W0 := w) [] (hW1) ?_
  refine lv (v := .bool true) rfl rfl (yb_call (f := 12) (args := #[]) (fun _ => by kernel_rfl) fun W hW => awake_any W (HE.out.keep hW.1)) ?_
  refine lm (v := .bool false) rfl rfl ?_
  refine wpL_done (fun W2 hW2 => ?_)
  refine (show Code.wp _ _ _ _ _ from ?_)
  refine wp_cond_false rfl ?_
  refine wp_skip ?_
  refine (show Code.wp _ _ _ _ _ from ?_)
  refine wp_seq ?_
  refine wp_region_L (W0 := w) [] (hW2) ?_
  refine lm (v := .int .u64 ((n : Nat) : Int)) rfl rfl ?_
  refine wpL_c (f := 17) (args := #[.int .u64 ((n : Nat) : Int)]) (GMd []) rfl (by kernel_rfl) (fun _ => (by kernel_rfl)) (fun W hW => calls_md n (by omega) hW) (fun _ => by simp only [List.setIfInBounds_toArray, List.set_cons_succ, List.set_cons_zero] <;> rfl) ?_
  rintro v K9 ⟨p, d, rfl, hfp, hdp, rfl⟩
  have hlp := fit_len hfp
  have hch := chkN_le p
  have ld := d.toNat_lt
  refine lm (v := .tuple #[strV p, .int .u8 ((d.toNat : Nat) : Int), .bool true]) rfl rfl ?_
  refine lm (v := strV p) rfl rfl ?_
  refine lm (v := .int .u8 ((d.toNat : Nat) : Int)) rfl rfl ?_
  refine lm (v := .bool true) rfl rfl ?_
  refine lm (v := strV p) rfl rfl ?_
  refine lm (v := .int .u8 ((d.toNat : Nat) : Int)) rfl rfl ?_
  refine lm (v := .bool true) rfl rfl ?_
  refine wpL_done (fun W3 hW3 => ?_)
  refine (show Code.wp _ _ _ _ _ from ?_)
  refine wp_seq ?_
  refine wp_seq ?_
  refine wp_region_L (W0 := w) [] (hW3) ?_
  refine lm (v := .bool true) rfl rfl ?_
  refine lm (v := .bool false) rfl rfl ?_
  refine wpL_done (fun W4 hW4 => ?_)
  refine (show Code.wp _ _ _ _ _ from ?_)
  refine wp_cond_false rfl ?_
  refine wp_skip ?_
  refine (show Code.wp _ _ _ _ _ from ?_)
  refine wp_seq ?_
  refine wp_region_L (W0 := w) [] (hW4) ?_
  refine lm (v := strV p) rfl rfl ?_
  refine wpL_g (ConvB w 5 [] p) rfl rfl (conv_bytes rfl Tryd.underlying31 Tryd.underlying5 Tryd.underlying9 (by kernel_rfl)) (fun _ => by simp only [List.setIfInBounds_toArray, List.set_cons_succ, List.set_cons_zero] <;> rfl) ?_
  rintro v K9 ⟨g1, capg1, curg1, frg1, rfl, Bg1, Fg1, Rg1, Zg1, Yg1, rfl⟩
  refine lm (v := .slice (some ⟨g1, 0, none⟩) p.length capg1) rfl rfl ?_
  refine wpL_done (fun W5 hW5 => ?_)
  refine (show Code.wp _ _ _ _ _ from ?_)
  refine wp_seq ?_
  refine wp_region_L (W0 := w) [(g1, .cells curg1 5 frg1)] (hW5) ?_
  refine lm (v := .int .i64 a1) rfl rfl ?_
  refine lv (v := .int .i64 (((pickN a1 10) : Nat) : Int)) rfl rfl (yb_call (f := 19) (args := #[.int .i64 a1, .int .i64 10]) (fun _ => by kernel_rfl) fun W hW => Pick_any a1 (by omega) 10 (by omega) (by omega) W) ?_
  refine lm (v := .int .i64 a2) rfl rfl ?_
  refine lv (v := .int .i64 (((pickN a2 10) : Nat) : Int)) rfl rfl (yb_call (f := 19) (args := #[.int .i64 a2, .int .i64 10]) (fun _ => by kernel_rfl) fun W hW => Pick_any a2 (by omega) 10 (by omega) (by omega) W) ?_
  obtain ⟨i, hi⟩ : ∃ i, pickN a1 10 = i := ⟨_, rfl⟩
  obtain ⟨j, hj⟩ : ∃ j, pickN a2 10 = j := ⟨_, rfl⟩
  have li := pickN_lt (x := a1) (m := 10) (by omega)
  have lj := pickN_lt (x := a2) (m := 10) (by omega)
  rw [hi] at li ⊢
  rw [hj] at lj ⊢
  refine lm (v := .int .i64 ((i : Nat) : Int)) rfl rfl ?_
  refine lm (v := .int .i64 ((j : Nat) : Int)) rfl rfl ?_
  refine wpL_done (fun W6 hW6 => ?_)
  refine (show Code.wp _ _ _ _ _ from ?_)
  refine wp_seq ?_
  refine wp_region_V (W0 := w) [(g1, .cells curg1 5 frg1)] (by kernel_rfl) (hW6) ?_
  refine vm (i := 0) (v := .slice (some ⟨g1, 0, none⟩) p.length capg1) rfl rfl rfl ?_
  refine vm (i := 1) (v := .int .i64 ((i : Nat) : Int)) rfl rfl rfl ?_
  refine vm (i := 2) (v := .slice (some ⟨g1, 0, none⟩) p.length capg1) rfl rfl rfl ?_
  refine vm (i := 3) (v := .int .i64 ((j : Nat) : Int)) rfl rfl rfl ?_
  refine vm (i := 4) (v := .slice (some ⟨g1, 0, none⟩) p.length capg1) rfl rfl rfl ?_
  refine vm (i := 5) (v := .int .i64 ((j : Nat) : Int)) rfl rfl rfl ?_
  refine vp (i := 6) (v := .pointer (some ⟨g1, 0 + j * 1, none⟩)) rfl rfl rfl (run_idxL (j := .i64) (n := p.length) (cap := capg1) (b := g1) (off := 0) (k := j) (sz := 1) rfl Tryd.underlying31 (by kernel_rfl) (by kernel_rfl) (by kernel_rfl) (by omega)) ?_
  obtain ⟨b2, hb2⟩ : ∃ b, (p : List UInt8)[j]? = some b := ⟨_, List.getElem?_eq_getElem (by omega)⟩
  have lb2 := b2.toNat_lt
  refine vv (i := 7) (v := .int .u8 ((b2.toNat : Nat) : Int)) rfl rfl rfl (yb_cell rfl (by kernel_rfl) (.head _) Tryd.underlying5 rfl (rowb_get Rg1 hb2)) ?_
  refine vm (i := 8) (v := .slice (some ⟨g1, 0, none⟩) p.length capg1) rfl rfl rfl ?_
  refine vm (i := 9) (v := .int .i64 ((i : Nat) : Int)) rfl rfl rfl ?_
  refine vp (i := 10) (v := .pointer (some ⟨g1, 0 + i * 1, none⟩)) rfl rfl rfl (run_idxL (j := .i64) (n := p.length) (cap := capg1) (b := g1) (off := 0) (k := i) (sz := 1) rfl Tryd.underlying31 (by kernel_rfl) (by kernel_rfl) (by kernel_rfl) (by omega)) ?_
  obtain ⟨b3, hb3⟩ : ∃ b, (p : List UInt8)[i]? = some b := ⟨_, List.getElem?_eq_getElem (by omega)⟩
  have lb3 := b3.toNat_lt
  refine vv (i := 11) (v := .int .u8 ((b3.toNat : Nat) : Int)) rfl rfl rfl (yb_cell rfl (by kernel_rfl) (.head _) Tryd.underlying5 rfl (rowb_get Rg1 hb3)) ?_
  refine vp (i := 12) (v := .pointer (some ⟨g1, 0 + i * 1, none⟩)) rfl rfl rfl (run_idxL (j := .i64) (n := p.length) (cap := capg1) (b := g1) (off := 0) (k := i) (sz := 1) rfl Tryd.underlying31 (by kernel_rfl) (by kernel_rfl) (by kernel_rfl) (by omega)) ?_
  have Lcur4 : (p.set i b2).length = p.length := List.length_set
  have Rcur4 : RowB (curg1.setIfInBounds (0 + i * 1) (.int .u8 ((b2.toNat : Nat) : Int))) (p.set i b2) := rowb_set Rg1 Zg1 (by omega)
  have Zcur4 : (p.set i b2).length ≤ (curg1.setIfInBounds (0 + i * 1) (.int .u8 ((b2.toNat : Nat) : Int))).size := by simpa using Zg1
  have Ycur4 : (curg1.setIfInBounds (0 + i * 1) (.int .u8 ((b2.toNat : Nat) : Int))).size ≤ frg1.1 := by simpa using Yg1
  refine wpV_s [(g1, .cells (curg1.setIfInBounds (0 + i * 1) (.int .u8 ((b2.toNat : Nat) : Int))) 5 frg1)] (i := 13) rfl (by kernel_rfl) rfl rfl rfl (st_at (off := 0 + i * 1) (v := .int .u8 ((b2.toNat : Nat) : Int)) rfl (by kernel_rfl) (by kernel_rfl) (.head _) Bg1 (by kernel_rfl) rfl rfl (by have := Zg1; omega) (.inl Yg1) (List.forall_mem_cons.2 ⟨.inl rfl, (List.forall_mem_nil _)⟩)) ?_
  refine vp (i := 14) (v := .pointer (some ⟨g1, 0 + j * 1, none⟩)) rfl rfl rfl (run_idxL (j := .i64) (n := p.length) (cap := capg1) (b := g1) (off := 0) (k := j) (sz := 1) rfl Tryd.underlying31 (by kernel_rfl) (by kernel_rfl) (by kernel_rfl) (by omega)) ?_
  have Lcur5 : ((p.set i b2).set j b3).length = (p.set i b2).length := List.length_set
  have Rcur5 : RowB ((curg1.setIfInBounds (0 + i * 1) (.int .u8 ((b2.toNat : Nat) : Int))).setIfInBounds (0 + j * 1) (.int .u8 ((b3.toNat : Nat) : Int))) ((p.set i b2).set j b3) := rowb_set Rcur4 Zcur4 (by omega)
  have Zcur5 : ((p.set i b2).set j b3).length ≤ ((curg1.setIfInBounds (0 + i * 1) (.int .u8 ((b2.toNat : Nat) : Int))).setIfInBounds (0 + j * 1) (.int .u8 ((b3.toNat : Nat) : Int))).size := by simpa using Zcur4
  have Ycur5 : ((curg1.setIfInBounds (0 + i * 1) (.int .u8 ((b2.toNat : Nat) : Int))).setIfInBounds (0 + j * 1) (.int .u8 ((b3.toNat : Nat) : Int))).size ≤ frg1.1 := by simpa using Ycur4
  refine wpV_s [(g1, .cells ((curg1.setIfInBounds (0 + i * 1) (.int .u8 ((b2.toNat : Nat) : Int))).setIfInBounds (0 + j * 1) (.int .u8 ((b3.toNat : Nat) : Int))) 5 frg1)] (i := 15) rfl (by kernel_rfl) rfl rfl rfl (st_at (off := 0 + j * 1) (v := .int .u8 ((b3.toNat : Nat) : Int)) rfl (by kernel_rfl) (by kernel_rfl) (.head _) Bg1 (by kernel_rfl) rfl rfl (by have := Zcur4; omega) (.inl Ycur4) (List.forall_mem_cons.2 ⟨.inl rfl, (List.forall_mem_nil _)⟩)) ?_
  refine wpV_done (by kernel_rfl) (fun W7 hW7 => ?_) _
  refine (show Code.wp _ _ _ _ _ from ?_)
  refine wp_seq ?_
  refine wp_region_L (W0 := w) [(g1, .cells ((curg1.setIfInBounds (0 + i * 1) (.int .u8 ((b2.toNat : Nat) : Int))).setIfInBounds (0 + j * 1) (.int .u8 ((b3.toNat : Nat) : Int))) 5 frg1)] (hW7) ?_
  refine lm (v := .slice (some ⟨g1, 0, none⟩) p.length capg1) rfl rfl ?_
  obtain ⟨q, hq⟩ : ∃ q, ((p.set i b2).set j b3) = q := ⟨_, rfl⟩
  have hlq : q.length = 10 := by rw [← hq]; simp [hlp]
  rw [hq] at Rcur5
  refine lv (v := strV q) rfl rfl (yb_str (n := p.length) (cap := capg1) (l := q) rfl Tryd.underlying31 Tryd.underlying5 Tryd.underlying9 (by kernel_rfl) (by omega) (.head _) Rcur5) ?_
  cases h1 : (fitB q 10) with
  | false =>
    refine lv (v := .tuple #[.int .u8 0, .int .i64 30]) rfl rfl (yb_call (f := 24) (args := #[strV q]) (fun _ => by kernel_rfl) fun W hW => Check_no h1 W) ?_
    refine lm (v := .tuple #[.int .u8 0, .int .i64 30]) rfl rfl ?_
    refine lm (v := .int .u8 0) rfl rfl ?_
    refine lm (v := .int .i64 30) rfl rfl ?_
    refine lm (v := .int .u8 0) rfl rfl ?_
    refine lm (v := .int .i64 30) rfl rfl ?_
    refine wpL_done (fun W8 hW8 => ?_)
    refine (show Code.wp _ _ _ _ _ from ?_)
    refine wp_seq ?_
    refine wp_seq ?_
    refine wp_region_L (W0 := w) [(g1, .cells ((curg1.setIfInBounds (0 + i * 1) (.int .u8 ((b2.toNat : Nat) : Int))).setIfInBounds (0 + j * 1) (.int .u8 ((b3.toNat : Nat) : Int))) 5 frg1)] (hW8) ?_
    refine lm (v := .int .i64 30) rfl rfl ?_
    refine lm (v := .bool true) rfl rfl ?_
    refine wpL_done (fun W9 hW9 => ?_)
    refine (show Code.wp _ _ _ _ _ from ?_)
    refine wp_cond_true rfl ?_
    refine wp_seq ?_
    refine wp_region_L (W0 := w) [(g1, .cells ((curg1.setIfInBounds (0 + i * 1) (.int .u8 ((b2.toNat : Nat) : Int))).setIfInBounds (0 + j * 1) (.int .u8 ((b3.toNat : Nat) : Int))) 5 frg1)] (hW9) ?_
    refine lm (v := .int .i64 30) rfl rfl ?_
    refine lm (v := .bool true) rfl rfl ?_
    refine lm (v := .bool true) rfl rfl ?_
    refine lm (v := .int .u8 0) rfl rfl ?_
    refine lm (v := .bool true) rfl rfl ?_
    refine lm (v := .bool true) rfl rfl ?_
    refine lm (v := .bool true) rfl rfl ?_
    refine wpL_done (fun W10 hW10 => ?_)
    refine (show Code.wp _ _ _ _ _ from ?_)
    refine wp_ret ?_
    try simp only [inBlock_ret, then_ret]
    refine bodyPost_ret (v := .bool true) ?_ rfl ?_
    · kernel_rfl
    · exact ⟨rfl, hW10.1⟩
  | true =>
    have hjq := judge_app h1 (d := d) (by omega)
    refine lv (v := .tuple #[.int .u8 (((chkN q) : Nat) : Int), .int .i64 0]) rfl rfl (yb_call (f := 24) (args := #[strV q]) (fun _ => by kernel_rfl) fun W hW => Check_ok h1 W) ?_
    refine lm (v := .tuple #[.int .u8 (((chkN q) : Nat) : Int), .int .i64 0]) rfl rfl ?_
    refine lm (v := .int .u8 (((chkN q) : Nat) : Int)) rfl rfl ?_
    refine lm (v := .int .i64 0) rfl rfl ?_
    refine lm (v := .int .u8 (((chkN q) : Nat) : Int)) rfl rfl ?_
    refine lm (v := .int .i64 0) rfl rfl ?_
    refine wpL_done (fun W11 hW11 => ?_)
    refine (show Code.wp _ _ _ _ _ from ?_)
    refine wp_seq ?_
    refine wp_seq ?_
    refine wp_region_L (W0 := w) [(g1, .cells ((curg1.setIfInBounds (0 + i * 1) (.int .u8 ((b2.toNat : Nat) : Int))).setIfInBounds (0 + j * 1) (.int .u8 ((b3.toNat : Nat) : Int))) 5 frg1)] (hW11) ?_
    refine lm (v := .int .i64 0) rfl rfl ?_
    refine lm (v := .bool false) rfl rfl ?_
    refine wpL_done (fun W12 hW12 => ?_)
    refine (show Code.wp _ _ _ _ _ from ?_)
    refine wp_cond_false rfl ?_
    refine wp_skip ?_
    refine (show Code.wp _ _ _ _ _ from ?_)
    refine wp_seq ?_
    refine wp_region_V (W0 := w) [(g1, .cells ((curg1.setIfInBounds (0 + i * 1) (.int .u8 ((b2.toNat : Nat) : Int))).setIfInBounds (0 + j * 1) (.int .u8 ((b3.toNat : Nat) : Int))) 5 frg1)] (by kernel_rfl) (hW12) ?_
    refine vm (i := 0) (v := strV p) rfl rfl rfl ?_
    refine vv (i := 1) (v := .int .i64 (((remL p) : Nat) : Int)) rfl rfl rfl (yb_call (f := 21) (args := #[strV p]) (fun _ => by kernel_rfl) fun W hW => remainder_any p (by omega) W) ?_
    refine vm (i := 2) (v := .slice (some ⟨g1, 0, none⟩) p.length capg1) rfl rfl rfl ?_
    refine vv (i := 3) (v := strV q) rfl rfl rfl (yb_str (n := p.length) (cap := capg1) (l := q) rfl Tryd.underlying31 Tryd.underlying5 Tryd.underlying9 (by kernel_rfl) (by omega) (.head _) Rcur5) ?_
    refine vv (i := 4) (v := .int .i64 (((remL q) : Nat) : Int)) rfl rfl rfl (yb_call (f := 21) (args := #[strV q]) (fun _ => by kernel_rfl) fun W hW => remainder_any q (by omega) W) ?_
    refine vm (i := 5) (v := .int .i64 (((remL p) : Nat) : Int)) rfl rfl rfl ?_
    refine vm (i := 6) (v := .int .i64 (((remL q) : Nat) : Int)) rfl rfl rfl ?_
    refine wpV_done (by kernel_rfl) (fun W13 hW13 => ?_) _
    refine (show Code.wp _ _ _ _ _ from ?_)
    refine wp_seq ?_
    refine wp_region_L (W0 := w) [(g1, .cells ((curg1.setIfInBounds (0 + i * 1) (.int .u8 ((b2.toNat : Nat) : Int))).setIfInBounds (0 + j * 1) (.int .u8 ((b3.toNat : Nat) : Int))) 5 frg1)] (hW13) ?_
    refine lm (v := .int .u8 (((chkN q) : Nat) : Int)) rfl rfl ?_
    refine lm (v := .int .u8 ((d.toNat : Nat) : Int)) rfl rfl ?_
    refine lp (v := .bool (decide ((chkN q) = d.toNat))) rfl rfl (run_bin rfl (vx := (.int .u8 (((chkN q) : Nat) : Int))) (vy := (.int .u8 ((d.toNat : Nat) : Int))) (by kernel_rfl) (by kernel_rfl) fun w => bn_eql rfl w) ?_
    refine lm (v := .int .i64 (((remL p) : Nat) : Int)) rfl rfl ?_
    refine lm (v := .int .i64 (((remL q) : Nat) : Int)) rfl rfl ?_
    refine lp (v := .bool (decide ((remL p) = (remL q)))) rfl rfl (run_bin rfl (vx := (.int .i64 (((remL p) : Nat) : Int))) (vy := (.int .i64 (((remL q) : Nat) : Int))) (by kernel_rfl) (by kernel_rfl) fun w => bn_eql rfl w) ?_
    refine lm (v := .bool (decide ((remL p) = (remL q)))) rfl rfl ?_
    cases hd2 : (decide ((remL p) = (remL q))) with
    | false =>
      have h2 : ¬ ((remL p) = (remL q)) := of_decide_eq_false hd2
      clear hd2
      refine lm (v := .int .i64 (((remL p) : Nat) : Int)) rfl rfl ?_
      refine lp (v := .int .i64 ((((remL p) % 10) : Nat) : Int)) rfl rfl (run_bin rfl (vx := (.int .i64 (((remL p) : Nat) : Int))) (vy := (.int .i64 ((10 : Nat) : Int))) (by kernel_rfl) (by kernel_rfl) fun w => bn_rem (z := ((remL p) % 10)) rfl (by omega) w) ?_
      refine lp (v := .bool (decide (((remL p) % 10) = 0))) rfl rfl (run_bin rfl (vx := (.int .i64 ((((remL p) % 10) : Nat) : Int))) (vy := (.int .i64 ((0 : Nat) : Int))) (by kernel_rfl) (by kernel_rfl) fun w => bn_eql rfl w) ?_
      refine lm (v := .bool (decide (((remL p) % 10) = 0))) rfl rfl ?_
      cases hd3 : (decide (((remL p) % 10) = 0)) with
      | false =>
        have h3 : ¬ (((remL p) % 10) = 0) := of_decide_eq_false hd3
        clear hd3
        refine ln rfl ?_
        refine ln rfl ?_
        refine ln rfl ?_
        refine lm (v := .bool false) rfl rfl ?_
        refine lm (v := .bool false) rfl rfl ?_
        cases hd4 : (decide ((chkN q) = d.toNat)) with
        | false =>
          have h4 : ¬ ((chkN q) = d.toNat) := of_decide_eq_false hd4
          clear hd4
          refine lm (v := .bool true) rfl rfl ?_
          refine lm (v := .bool true) rfl rfl ?_
          refine lm (v := .slice (some ⟨g1, 0, none⟩) p.length capg1) rfl rfl ?_
          refine lv (v := strV q) rfl rfl (yb_str (n := p.length) (cap := capg1) (l := q) rfl Tryd.underlying31 Tryd.underlying5 Tryd.underlying9 (by kernel_rfl) (by omega) (.head _) Rcur5) ?_
          refine lm (v := .int .u8 ((d.toNat : Nat) : Int)) rfl rfl ?_
          refine wpL_newg (fun g => .slice (some ⟨g, 0, none⟩) 1 1) (obi := .cells #[.int .u8 ((d.toNat : Nat) : Int)] 5 (0, 0)) rfl (by kernel_rfl) (fun _ => by kernel_rfl) (fun _ => by simp only [List.setIfInBounds_toArray, List.set_cons_succ, List.set_cons_zero] <;> rfl) fun g6 Bg6 Fg6 => ?_
          refine lv (v := strV [d]) rfl rfl (yb_str (n := 1) (cap := 1) (l := [d]) rfl Tryd.underlying31 Tryd.underlying5 Tryd.underlying9 (by kernel_rfl) rfl (.head _) (by first | rfl | (simp [RowB, u8s]; omega))) ?_
          refine lp (v := strV (q ++ [d])) rfl rfl (run_bin rfl (vx := strV q) (vy := strV [d]) (by kernel_rfl) (by kernel_rfl) fun w => bs_add (c := (q ++ [d])) rfl (by first | omega | (simp; omega)) w) ?_
          refine lv (v := .bool (decide (judgeN (q ++ [d]) = 0))) rfl rfl (yb_call (f := 18) (args := #[strV (q ++ [d])]) (fun _ => by kernel_rfl) fun W hW => Right_any (q ++ [d]) W) ?_
          refine lm (v := .int .u8 (((chkN q) : Nat) : Int)) rfl rfl ?_
          refine lm (v := .int .u8 ((d.toNat : Nat) : Int)) rfl rfl ?_
          refine lp (v := .bool false) rfl rfl (run_bin rfl (vx := (.int .u8 (((chkN q) : Nat) : Int))) (vy := (.int .u8 ((d.toNat : Nat) : Int))) (by kernel_rfl) (by kernel_rfl) fun w => bn_eql (decide_eq_false (by assumption)) w) ?_
          cases hd5 : (decide (judgeN (q ++ [d]) = 0)) with
          | false =>
            have h5 : ¬ (judgeN (q ++ [d]) = 0) := of_decide_eq_false hd5
            clear hd5
            refine lm (v := .bool true) rfl rfl ?_
            refine lm (v := .bool true) rfl rfl ?_
            refine lm (v := .bool true) rfl rfl ?_
            refine wpL_done (fun W14 hW14 => ?_)
            refine (show Code.wp _ _ _ _ _ from ?_)
            refine wp_ret ?_
            try simp only [inBlock_ret, then_ret]
            refine bodyPost_ret (v := .bool true) ?_ rfl ?_
            · kernel_rfl
            · exact ⟨rfl, hW14.1⟩
          | true =>
            have h5 : judgeN (q ++ [d]) = 0 := of_decide_eq_true hd5
            clear hd5
            refine lm (v := .bool false) rfl rfl ?_
            refine lm (v := .bool false) rfl rfl ?_
            refine lm (v := .bool false) rfl rfl ?_
            refine wpL_done (fun W15 hW15 => ?_)
            refine (show Code.wp _ _ _ _ _ from ?_)
            refine wp_ret ?_
            exfalso
            have e1 := chk_eq p
            have e2 := chk_eq q
            split at hjq <;> omega
        | true =>
          have h4 : (chkN q) = d.toNat := of_decide_eq_true hd4
          clear hd4
          refine lm (v := .bool false) rfl rfl ?_
          refine lm (v := .bool false) rfl rfl ?_
          refine ln rfl ?_
          refine ln rfl ?_
          refine ln rfl ?_
          refine ln rfl ?_
          refine ln rfl ?_
          refine ln rfl ?_
          refine ln rfl ?_
          refine ln rfl ?_
          refine ln rfl ?_
          refine ln rfl ?_
          refine ln rfl ?_
          refine lm (v := .bool false) rfl rfl ?_
          refine lm (v := .bool false) rfl rfl ?_
          refine wpL_done (fun W16 hW16 => ?_)
          refine (show Code.wp _ _ _ _ _ from ?_)
          refine wp_ret ?_
          exfalso
          have e1 := chk_eq p
          have e2 := chk_eq q
          split at hjq <;> omega
      | true =>
        have h3 : ((remL p) % 10) = 0 := of_decide_eq_true hd3
        clear hd3
        refine lm (v := .int .i64 (((remL q) : Nat) : Int)) rfl rfl ?_
        refine lp (v := .int .i64 ((((remL q) % 10) : Nat) : Int)) rfl rfl (run_bin rfl (vx := (.int .i64 (((remL q) : Nat) : Int))) (vy := (.int .i64 ((10 : Nat) : Int))) (by kernel_rfl) (by kernel_rfl) fun w => bn_rem (z := ((remL q) % 10)) rfl (by omega) w) ?_
        refine lp (v := .bool (decide (((remL q) % 10) = 0))) rfl rfl (run_bin rfl (vx := (.int .i64 ((((remL q) % 10) : Nat) : Int))) (vy := (.int .i64 ((0 : Nat) : Int))) (by kernel_rfl) (by kernel_rfl) fun w => bn_eql rfl w) ?_
        refine lm (v := .bool (decide (((remL q) % 10) = 0))) rfl rfl ?_
        refine lm (v := .bool (decide (((remL q) % 10) = 0))) rfl rfl ?_
        cases hd6 : (decide ((chkN q) = d.toNat)) with
        | false =>
          have h6 : ¬ ((chkN q) = d.toNat) := of_decide_eq_false hd6
          clear hd6
          cases hd7 : (decide (((remL q) % 10) = 0)) with
          | false =>
            have h7 : ¬ (((remL q) % 10) = 0) := of_decide_eq_false hd7
            clear hd7
            refine lm (v := .bool true) rfl rfl ?_
            refine lm (v := .bool true) rfl rfl ?_
            refine lm (v := .slice (some ⟨g1, 0, none⟩) p.length capg1) rfl rfl ?_
            refine lv (v := strV q) rfl rfl (yb_str (n := p.length) (cap := capg1) (l := q) rfl Tryd.underlying31 Tryd.underlying5 Tryd.underlying9 (by kernel_rfl) (by omega) (.head _) Rcur5) ?_
            refine lm (v := .int .u8 ((d.toNat : Nat) : Int)) rfl rfl ?_
            refine wpL_newg (fun g => .slice (some ⟨g, 0, none⟩) 1 1) (obi := .cells #[.int .u8 ((d.toNat : Nat) : Int)] 5 (0, 0)) rfl (by kernel_rfl) (fun _ => by kernel_rfl) (fun _ => by simp only [List.setIfInBounds_toArray, List.set_cons_succ, List.set_cons_zero] <;> rfl) fun g7 Bg7 Fg7 => ?_
            refine lv (v := strV [d]) rfl rfl (yb_str (n := 1) (cap := 1) (l := [d]) rfl Tryd.underlying31 Tryd.underlying5 Tryd.underlying9 (by kernel_rfl) rfl (.head _) (by first | rfl | (simp [RowB, u8s]; omega))) ?_
            refine lp (v := strV (q ++ [d])) rfl rfl (run_bin rfl (vx := strV q) (vy := strV [d]) (by kernel_rfl) (by kernel_rfl) fun w => bs_add (c := (q ++ [d])) rfl (by first | omega | (simp; omega)) w) ?_
            refine lv (v := .bool (decide (judgeN (q ++ [d]) = 0))) rfl rfl (yb_call (f := 18) (args := #[strV (q ++ [d])]) (fun _ => by kernel_rfl) fun W hW => Right_any (q ++ [d]) W) ?_
            refine lm (v := .int .u8 (((chkN q) : Nat) : Int)) rfl rfl ?_
            refine lm (v := .int .u8 ((d.toNat : Nat) : Int)) rfl rfl ?_
            refine lp (v := .bool false) rfl rfl (run_bin rfl (vx := (.int .u8 (((chkN q) : Nat) : Int))) (vy := (.int .u8 ((d.toNat : Nat) : Int))) (by kernel_rfl) (by kernel_rfl) fun w => bn_eql (decide_eq_false (by assumption)) w) ?_
            cases hd8 : (decide (judgeN (q ++ [d]) = 0)) with
            | false =>
              have h8 : ¬ (judgeN (q ++ [d]) = 0) := of_decide_eq_false hd8
              clear hd8
              refine lm (v := .bool true) rfl rfl ?_
              refine lm (v := .bool true) rfl rfl ?_
              refine lm (v := .bool true) rfl rfl ?_
              refine wpL_done (fun W17 hW17 => ?_)
              refine (show Code.wp _ _ _ _ _ from ?_)
              refine wp_ret ?_
              try simp only [inBlock_ret, then_ret]
              refine bodyPost_ret (v := .bool true) ?_ rfl ?_
              · kernel_rfl
              · exact ⟨rfl, hW17.1⟩
            | true =>
              have h8 : judgeN (q ++ [d]) = 0 := of_decide_eq_true hd8
              clear hd8
              refine lm (v := .bool false) rfl rfl ?_
              refine lm (v := .bool false) rfl rfl ?_
              refine lm (v := .bool false) rfl rfl ?_
              refine wpL_done (fun W18 hW18 => ?_)
              refine (show Code.wp _ _ _ _ _ from ?_)
              refine wp_ret ?_
              exfalso
              have e1 := chk_eq p
              have e2 := chk_eq q
              split at hjq <;> omega
          | true =>
            have h7 : ((remL q) % 10) = 0 := of_decide_eq_true hd7
            clear hd7
            refine lm (v := .bool false) rfl rfl ?_
            refine lm (v := .bool false) rfl rfl ?_
            refine ln rfl ?_
            refine ln rfl ?_
            refine ln rfl ?_
            refine ln rfl ?_
            refine ln rfl ?_
            refine ln rfl ?_
            refine ln rfl ?_
            refine ln rfl ?_
            refine ln rfl ?_
            refine ln rfl ?_
            refine ln rfl ?_
            refine lm (v := .bool false) rfl rfl ?_
            refine lm (v := .bool false) rfl rfl ?_
            refine wpL_done (fun W19 hW19 => ?_)
            refine (show Code.wp _ _ _ _ _ from ?_)
            refine wp_ret ?_
            exfalso
            have e1 := chk_eq p
            have e2 := chk_eq q
            split at hjq <;> omega
        | true =>
          have h6 : (chkN q) = d.toNat := of_decide_eq_true hd6
          clear hd6
          cases hd9 : (decide (((remL q) % 10) = 0)) with
          | false =>
            have h9 : ¬ (((remL q) % 10) = 0) := of_decide_eq_false hd9
            clear hd9
            refine lm (v := .bool false) rfl rfl ?_
            refine lm (v := .bool false) rfl rfl ?_
            refine ln rfl ?_
            refine ln rfl ?_
            refine ln rfl ?_
            refine ln rfl ?_
            refine ln rfl ?_
            refine ln rfl ?_
            refine ln rfl ?_
            refine ln rfl ?_
            refine ln rfl ?_
            refine ln rfl ?_
            refine ln rfl ?_
            refine lm (v := .bool false) rfl rfl ?_
            refine lm (v := .bool false) rfl rfl ?_
            refine wpL_done (fun W20 hW20 => ?_)
            refine (show Code.wp _ _ _ _ _ from ?_)
            refine wp_ret ?_
            exfalso
            have e1 := chk_eq p
            have e2 := chk_eq q
            split at hjq <;> omega
          | true =>
            have h9 : ((remL q) % 10) = 0 := of_decide_eq_true hd9
            clear hd9
            refine lm (v := .bool true) rfl rfl ?_
            refine lm (v := .bool true) rfl rfl ?_
            refine lm (v := .slice (some ⟨g1, 0, none⟩) p.length capg1) rfl rfl ?_
            refine lv (v := strV q) rfl rfl (yb_str (n := p.length) (cap := capg1) (l := q) rfl Tryd.underlying31 Tryd.underlying5 Tryd.underlying9 (by kernel_rfl) (by omega) (.head _) Rcur5) ?_
            refine lm (v := .int .u8 ((d.toNat : Nat) : Int)) rfl rfl ?_
            refine wpL_newg (fun g => .slice (some ⟨g, 0, none⟩) 1 1) (obi := .cells #[.int .u8 ((d.toNat : Nat) : Int)] 5 (0, 0)) rfl (by kernel_rfl) (fun _ => by kernel_rfl) (fun _ => by simp only [List.setIfInBounds_toArray, List.set_cons_succ, List.set_cons_zero] <;> rfl) fun g8 Bg8 Fg8 => ?_
            refine lv (v := strV [d]) rfl rfl (yb_str (n := 1) (cap := 1) (l := [d]) rfl Tryd.underlying31 Tryd.underlying5 Tryd.underlying9 (by kernel_rfl) rfl (.head _) (by first | rfl | (simp [RowB, u8s]; omega))) ?_
            refine lp (v := strV (q ++ [d])) rfl rfl (run_bin rfl (vx := strV q) (vy := strV [d]) (by kernel_rfl) (by kernel_rfl) fun w => bs_add (c := (q ++ [d])) rfl (by first | omega | (simp; omega)) w) ?_
            refine lv (v := .bool (decide (judgeN (q ++ [d]) = 0))) rfl rfl (yb_call (f := 18) (args := #[strV (q ++ [d])]) (fun _ => by kernel_rfl) fun W hW => Right_any (q ++ [d]) W) ?_
            refine lm (v := .int .u8 (((chkN q) : Nat) : Int)) rfl rfl ?_
            refine lm (v := .int .u8 ((d.toNat : Nat) : Int)) rfl rfl ?_
            refine lp (v := .bool true) rfl rfl (run_bin rfl (vx := (.int .u8 (((chkN q) : Nat) : Int))) (vy := (.int .u8 ((d.toNat : Nat) : Int))) (by kernel_rfl) (by kernel_rfl) fun w => bn_eql (decide_eq_true (by assumption)) w) ?_
            cases hd10 : (decide (judgeN (q ++ [d]) = 0)) with
            | false =>
              have h10 : ¬ (judgeN (q ++ [d]) = 0) := of_decide_eq_false hd10
              clear hd10
              refine lm (v := .bool false) rfl rfl ?_
              refine lm (v := .bool false) rfl rfl ?_
              refine lm (v := .bool false) rfl rfl ?_
              refine wpL_done (fun W21 hW21 => ?_)
              refine (show Code.wp _ _ _ _ _ from ?_)
              refine wp_ret ?_
              exfalso
              have e1 := chk_eq p
              have e2 := chk_eq q
              split at hjq <;> omega
            | true =>
              have h10 : judgeN (q ++ [d]) = 0 := of_decide_eq_true hd10
              clear hd10
              refine lm (v := .bool true) rfl rfl ?_
              refine lm (v := .bool true) rfl rfl ?_
              refine lm (v := .bool true) rfl rfl ?_
              refine wpL_done (fun W22 hW22 => ?_)
              refine (show Code.wp _ _ _ _ _ from ?_)
              refine wp_ret ?_
              try simp only [inBlock_ret, then_ret]
              refine bodyPost_ret (v := .bool true) ?_ rfl ?_
              · kernel_rfl
              · exact ⟨rfl, hW22.1⟩
    | true =>
      have h2 : (remL p) = (remL q) := of_decide_eq_true hd2
      clear hd2
      refine ln rfl ?_
      refine ln rfl ?_
      refine ln rfl ?_
      refine ln rfl ?_
      refine ln rfl ?_
      refine ln rfl ?_
      refine ln rfl ?_
      refine ln rfl ?_
      refine lm (v := .bool true) rfl rfl ?_
      cases hd11 : (decide ((chkN q) = d.toNat)) with
      | false =>
        have h11 : ¬ ((chkN q) = d.toNat) := of_decide_eq_false hd11
        clear hd11
        refine lm (v := .bool false) rfl rfl ?_
        refine lm (v := .bool false) rfl rfl ?_
        refine ln rfl ?_
        refine ln rfl ?_
        refine ln rfl ?_
        refine ln rfl ?_
        refine ln rfl ?_
        refine ln rfl ?_
        refine ln rfl ?_
        refine ln rfl ?_
        refine ln rfl ?_
        refine ln rfl ?_
        refine ln rfl ?_
        refine lm (v := .bool false) rfl rfl ?_
        refine lm (v := .bool false) rfl rfl ?_
        refine wpL_done (fun W23 hW23 => ?_)
        refine (show Code.wp _ _ _ _ _ from ?_)
        refine wp_ret ?_
        exfalso
        have e1 := chk_eq p
        have e2 := chk_eq q
        split at hjq <;> omega
      | true =>
        have h11 : (chkN q) = d.toNat := of_decide_eq_true hd11
        clear hd11
        refine lm (v := .bool true) rfl rfl ?_
        refine lm (v := .bool true) rfl rfl ?_
        refine lm (v := .slice (some ⟨g1, 0, none⟩) p.length capg1) rfl rfl ?_
        refine lv (v := strV q) rfl rfl (yb_str (n := p.length) (cap := capg1) (l := q) rfl Tryd.underlying31 Tryd.underlying5 Tryd.underlying9 (by kernel_rfl) (by omega) (.head _) Rcur5) ?_
        refine lm (v := .int .u8 ((d.toNat : Nat) : Int)) rfl rfl ?_
        refine wpL_newg (fun g => .slice (some ⟨g, 0, none⟩) 1 1) (obi := .cells #[.int .u8 ((d.toNat : Nat) : Int)] 5 (0, 0)) rfl (by kernel_rfl) (fun _ => by kernel_rfl) (fun _ => by simp only [List.setIfInBounds_toArray, List.set_cons_succ, List.set_cons_zero] <;> rfl) fun g9 Bg9 Fg9 => ?_
        refine lv (v := strV [d]) rfl rfl (yb_str (n := 1) (cap := 1) (l := [d]) rfl Tryd.underlying31 Tryd.underlying5 Tryd.underlying9 (by kernel_rfl) rfl (.head _) (by first | rfl | (simp [RowB, u8s]; omega))) ?_
        refine lp (v := strV (q ++ [d])) rfl rfl (run_bin rfl (vx := strV q) (vy := strV [d]) (by kernel_rfl) (by kernel_rfl) fun w => bs_add (c := (q ++ [d])) rfl (by first | omega | (simp; omega)) w) ?_
        refine lv (v := .bool (decide (judgeN (q ++ [d]) = 0))) rfl rfl (yb_call (f := 18) (args := #[strV (q ++ [d])]) (fun _ => by kernel_rfl) fun W hW => Right_any (q ++ [d]) W) ?_
        refine lm (v := .int .u8 (((chkN q) : Nat) : Int)) rfl rfl ?_
        refine lm (v := .int .u8 ((d.toNat : Nat) : Int)) rfl rfl ?_
        refine lp (v := .bool true) rfl rfl (run_bin rfl (vx := (.int .u8 (((chkN q) : Nat) : Int))) (vy := (.int .u8 ((d.toNat : Nat) : Int))) (by kernel_rfl) (by kernel_rfl) fun w => bn_eql (decide_eq_true (by assumption)) w) ?_
        cases hd12 : (decide (judgeN (q ++ [d]) = 0)) with
        | false =>
          have h12 : ¬ (judgeN (q ++ [d]) = 0) := of_decide_eq_false hd12
          clear hd12
          refine lm (v := .bool false) rfl rfl ?_
          refine lm (v := .bool false) rfl rfl ?_
          refine lm (v := .bool false) rfl rfl ?_
          refine wpL_done (fun W24 hW24 => ?_)
          refine (show Code.wp _ _ _ _ _ from ?_)
          refine wp_ret ?_
          exfalso
          have e1 := chk_eq p
          have e2 := chk_eq q
          split at hjq <;> omega
        | true =>
          have h12 : judgeN (q ++ [d]) = 0 := of_decide_eq_true hd12
          clear hd12
          refine lm (v := .bool true) rfl rfl ?_
          refine lm (v := .bool true) rfl rfl ?_
          refine lm (v := .bool true) rfl rfl ?_
          refine wpL_done (fun W25 hW25 => ?_)
          refine (show Code.wp _ _ _ _ _ from ?_)
          refine wp_ret ?_
          try simp only [inBlock_ret, then_ret]
          refine bodyPost_ret (v := .bool true) ?_ rfl ?_
          · kernel_rfl
          · exact ⟨rfl, hW25.1⟩
end Go.Proofs.YtbceajgipmjmlaaDoor
/- IsoSwaps holds for every input: the program's own answer is true, wherever the listed variables are as the program's text lays them; each argument reads afterwards as it read before. -/
namespace Go.Proofs.YtbceajgipmjmlaaDoor
open Go.ChangeShapes Go.WideShapes Go.ChangeAt Go.RowKit Tw
set_option maxRecDepth 100000 in
theorem isoSwaps_lifted (os : Os) (started : os.Started) (H : Type) (enc : TypeId × Value → H) :
    ReturnsInHanded {} Tryd.checked os 8 .any (fun w args => (Rows.isoSwapsSpec.pre enc Tryd.prog Tryd.f8 Rows.isoSwapsRow.domain false w args ∧ laidMetH Tryd.prog laidN w) ∧ sizedMet enc Tryd.prog Tryd.f8 (OpenSpec.ofChange Rows.isoSwapsSpec) false w args) (Rows.isoSwapsSpec.post enc Tryd.prog Tryd.f8 false true false false) := by
  refine handed_and_sized (C := Tryd.checked) (X := fun w => laidMetH Tryd.prog laidN w) (fun _ _ hh h => h.of_heap hh) own started (by kernel_rfl) Tryd.func8
    (ChangeSpec.witness_shaped (enc := enc) (C := Tryd.checked) (os := os) (X := fun w _ => laidMetH Tryd.prog laidN w) false (World.doorLaid Tryd.prog 1000 os) #[.int .u64 0, .int .i64 0, .int .i64 0] 8 rfl (World.shaped_of_RefB (by kernel_rfl) (by kernel_rfl)) (by kernel_rfl) (by kernel_rfl) (by kernel_rfl) (door_met os _)) ?_
  intro W base args ds gs before hval0 hW hL hsh hsz
  have hval : ∀ (j : Nat) t v, Tryd.f8.params[j]? = some t → args[j]? = some v → Value.okWide Tryd.prog W .any base t v := hval0
  have hW2 := hW
  obtain ⟨p, q, hA0, hV, rfl, hfz, hnd⟩ := hW2
  have hA : DataW.TrodAll enc Tryd.prog W 0 (fun _ => true) true Tryd.f8.params.toList args.toList ds p := hA0
  rw [Tryd.params8] at hA hval
  obtain ⟨v0, vs0, d0, ds0, p0, q0, hargs, rfl, rfl, h0, r0⟩ := trodAll_cons hA
  obtain ⟨v1, vs1, d1, ds1, p1, q1, rfl, rfl, rfl, h1, r1⟩ := trodAll_cons r0
  obtain ⟨v2, vs2, d2, ds2, p2, q2, rfl, rfl, rfl, h2, r2⟩ := trodAll_cons r1
  obtain ⟨rfl, rfl, rfl⟩ := trodAll_nil r2
  obtain rfl : args = #[v0, v1, v2] := by cases args; simp_all
  obtain ⟨rfl, rfl⟩ := trodVars_none hV
  obtain ⟨a0, rfl, rfl, rfl, w0⟩ := open_int Tryd.underlying33 (hval 0 33 v0 rfl rfl) h0
  have rr0 : 0 ≤ a0 ∧ a0 ≤ 18446744073709551615 := of_wf w0
  obtain ⟨a1, rfl, rfl, rfl, w1⟩ := open_int Tryd.underlying3 (hval 1 3 v1 rfl rfl) h1
  have rr1 : -9223372036854775808 ≤ a1 ∧ a1 ≤ 9223372036854775807 := of_wf w1
  obtain ⟨a2, rfl, rfl, rfl, w2⟩ := open_int Tryd.underlying3 (hval 2 3 v2 rfl rfl) h2
  have rr2 : -9223372036854775808 ≤ a2 ∧ a2 ≤ 9223372036854775807 := of_wf w2
  clear hA0 hval0
  simp only [List.append_nil] at hW
  refine (IsoSwaps_law W (env_of hL) a0 rr0 a1 rr1 a2 rr2).mono fun e W' ⟨he, bel⟩ => ?_
  subst he
  exact ⟨_, rfl, _, _, _, [], [], [], hW, (trodAll_cons_mk (shut_bool Tryd.underlying4 _) trodAll_mk0), (trodAll_cons_mk (shut_int Tryd.underlying33 w0) (trodAll_cons_mk (shut_int Tryd.underlying3 w1) (trodAll_cons_mk (shut_int Tryd.underlying3 w2) trodAll_mk0))), rfl, bel.frame _, fun h => by cases h⟩
theorem isoSwaps_said : Rows.IsoSwapsSaid :=
  OpenClaim.holds_of_wide 8 Tryd.f8 rfl rfl rfl rfl rfl rfl rfl ⟨rfl, rfl, rfl, rfl, rfl⟩ rfl rfl rfl rfl rfl (by kernel_rfl) Tryd.func8 (by kernel_rfl)
    (of_decide_eq_true (by kernel_rfl)) (by unfold Func.isWrapper; first | (rw [if_pos (by decide +kernel)]; kernel_rfl) | (rw [if_neg (by decide +kernel)]; exact ⟨rfl, rfl⟩))
    (fun os started H enc _ => isoSwaps_lifted os started H enc)
theorem isoSwaps_proved : Rows.IsoSwapsCardSaid :=
  Claim7.holds_tied_plain_at .later [] [.data] true Rows.isoSwapsCard.stood.harness Rows.isoSwapsCard.stood.looks
    isoSwaps_said (fun _ h => by cases h) (by kernel_rfl) (fun _ h => by cases h) isoSwaps_row_tie rfl ⟨rfl, rfl⟩ (by kernel_rfl) rfl
    (fun f fn hf hfn => by
      obtain rfl : f = 8 := Option.some.inj ((show Tryd.prog.funcNamed "twistlock/twistlocklaw03.IsoSwaps" = some 8 by kernel_rfl).symm.trans hf) |>.symm
      obtain rfl : fn = Tryd.f8 := (Option.some.inj (Tryd.func8.symm.trans hfn)).symm
      exact ⟨by kernel_rfl, fun j t ht => by
        rw [Tryd.params8] at ht
        have hm : t ∈ [33, 3, 3] := by simpa using Array.mem_of_getElem? ht
        have hall : ([33, 3, 3].all fun u => !Tryd.prog.wantsStandIn u) = true := by kernel_rfl
        exact (show Tryd.prog.wantsStandIn t = false by simpa using List.all_eq_true.1 hall t hm)⟩)
    (by kernel_rfl)
#print axioms isoSwaps_proved
end Go.Proofs.YtbceajgipmjmlaaDoor
