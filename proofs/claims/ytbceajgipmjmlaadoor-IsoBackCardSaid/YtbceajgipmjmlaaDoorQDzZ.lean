import Derived.Test.YtbceajgipmjmlaaDoorG02
/- IsoBack: the law holds for every input; no condition but the row's own. -/
set_option linter.unusedVariables false
set_option linter.unusedSimpArgs false
set_option linter.unusedSectionVars false
namespace Go.Proofs.YtbceajgipmjmlaaDoor
open Go Go.RowKit Tw
theorem chk_eq (l : List UInt8) : chkN l = 48 + remL l % 10 ∧ remL l < 11 := ⟨rfl, Nat.mod_lt _ (by omega)⟩
theorem judge_app {q : List UInt8} {d : UInt8} (hq : fitB q 10 = true) (hd : 48 ≤ d.toNat ∧ d.toNat ≤ 57) : judgeN (q ++ [d]) = if chkN q = d.toNat then 0 else 31 := by
  have hl := fit_len hq
  have hf : fitB (q ++ [d]) 11 = true := by
    unfold fitB
    rw [fitF_app, fit_fit hq]
    simp [hl, fitF, mayB, isDig, hd]
  have ha : agrB (q ++ [d]) = decide (chkN q = d.toNat) := by
    unfold agrB
    rw [List.take_left' hl, List.getD_eq_getElem?_getD, List.getElem?_append_right (by omega), hl]
    rfl
  unfold judgeN
  rw [hf, ha]
  by_cases h : chkN q = d.toNat <;> simp [h]
def GMd (K : List (Nat × Obj)) (v : Value) (K' : List (Nat × Obj)) : Prop := ∃ (p : List UInt8) (d : UInt8), v = .tuple #[strV p, .int .u8 ((d.toNat : Nat) : Int), .bool true] ∧ fitB p 10 = true ∧ d.toNat = chkN p ∧ K' = K
theorem calls_md {W0 : Base} {W : World} {K : List (Nat × Obj)} (n : Nat) (hn : n ≤ 18446744073709551615) (hW : KS W0 K W) : Calls Tryd.prog 17 #[.int .u64 ((n : Nat) : Int)] W fun e w' => ∃ v K', e = .returned v ∧ KS W0 K' w' ∧ GMd K v K' :=
  (Made_any n hn W).mono fun e w' ⟨l, he, hf, hb⟩ => by
    have hc := chkN_le l
    have e1 : (UInt8.ofNat (chkN l)).toNat = chkN l := by rw [UInt8.toNat_ofNat']; omega
    exact ⟨_, K, he, hW.below hb, l, UInt8.ofNat (chkN l), by rw [e1], hf, e1, rfl⟩
end Go.Proofs.YtbceajgipmjmlaaDoor
namespace Go.Proofs.YtbceajgipmjmlaaDoor
open Go Go.RowKit Tw
theorem up_cap {b : UInt8} (h : ¬ (97 ≤ b.toNat ∧ b.toNat ≤ 122)) : up b = b := by unfold up; rw [if_neg h]
def okB (b : UInt8) : Bool := isDig b || isCap b || blankB b
theorem okB_up {b : UInt8} (h : okB b = true) (hb : blankB b = false) : up b = b := by
  refine up_cap fun h2 => ?_
  unfold okB isDig isCap at h
  rw [hb] at h
  simp at h
  omega
theorem may_ok {i : Nat} {b : UInt8} (h : mayB i b = true) : okB b = true := by
  unfold mayB at h
  unfold okB
  split at h
  · rw [h]; simp
  · split at h
    · have : isCap b = true := by unfold isCat at h; unfold isCap; simp at h ⊢; omega
      rw [this]; simp
    · rw [h]; simp
theorem may_solid {i : Nat} {b : UInt8} (h : mayB i b = true) : blankB b = false := by
  unfold mayB at h
  unfold blankB
  split at h
  · unfold isCap at h; simp at h ⊢; omega
  · split at h
    · unfold isCat at h; simp at h ⊢; omega
    · unfold isDig at h; simp at h ⊢; omega
theorem fit_strip : ∀ (l : List UInt8) (i : Nat), fitF i l = true → stripL l = l ∧ l.all okB = true
  | [], _, _ => ⟨rfl, rfl⟩
  | b :: l, i, h => by
    simp only [fitF, Bool.and_eq_true] at h
    obtain ⟨h1, h2⟩ := fit_strip l (i + 1) h.2
    have e : stripL [b] = [b] := by rw [strip_one, if_neg (by rw [may_solid h.1]; decide), okB_up (may_ok h.1) (may_solid h.1)]
    refine ⟨?_, by simp [may_ok h.1, h2]⟩
    rw [show b :: l = [b] ++ l from rfl, strip_app, e, h1]
theorem strip_blank {l : List UInt8} {k : Nat} {c : UInt8} (hc : blankB c = true) : stripL (l.take k ++ [c] ++ l.drop k) = stripL l := by
  rw [strip_app, strip_app, strip_one, if_pos hc, List.append_nil, ← strip_app, List.take_append_drop]
def lowB (i : Nat) (b : UInt8) : UInt8 := if isCap b = true ∧ i % 2 = 0 then UInt8.ofNat (b.toNat + 32) else b
def lowL (l : List UInt8) : List UInt8 := l.mapIdx lowB
theorem low_up {i : Nat} {b : UInt8} (h : okB b = true) : stripL [lowB i b] = stripL [b] := by
  unfold lowB
  split
  · rename_i hc
    have hcap := hc.1
    unfold isCap at hcap
    simp at hcap
    have e : (UInt8.ofNat (b.toNat + 32)).toNat = b.toNat + 32 := by rw [UInt8.toNat_ofNat']; omega
    have n1 : blankB (UInt8.ofNat (b.toNat + 32)) = false := by unfold blankB; rw [e]; simp; omega
    have n2 : blankB b = false := by unfold blankB; simp; omega
    rw [strip_one, strip_one, n1, n2]
    simp only [Bool.false_eq_true, if_false]
    congr 1
    apply UInt8.toNat_inj.1
    rw [okB_up h n2]
    unfold up
    rw [if_pos (by rw [e]; omega), UInt8.toNat_ofNat', e]
    omega
  · rfl
theorem low_take {l : List UInt8} {k : Nat} {b : UInt8} (h : l[k]? = some b) : (lowL l).take (k + 1) = (lowL l).take k ++ [lowB k b] := by
  have : (lowL l)[k]? = some (lowB k b) := by unfold lowL; rw [List.getElem?_mapIdx, h]; rfl
  exact take_snoc this
theorem low_strip (l : List UInt8) (h : l.all okB = true) : ∀ k, k ≤ l.length → stripL ((lowL l).take k) = stripL (l.take k)
  | 0, _ => by simp
  | k + 1, hk => by
    have hb : l[k]? = some l[k] := List.getElem?_eq_getElem (by omega)
    rw [low_take hb, take_snoc hb, strip_app, strip_app, low_strip l h k (by omega), low_up (List.all_eq_true.1 h _ (List.getElem_mem _))]
theorem low_len (l : List UInt8) : (lowL l).length = l.length := by unfold lowL; simp
theorem low_all {l : List UInt8} (h : l.all okB = true) : stripL (lowL l) = stripL l := by
  have := low_strip l h l.length (Nat.le_refl _)
  rwa [List.take_of_length_le (by rw [low_len]; omega), List.take_of_length_le (by omega)] at this
theorem read_ok {w s : List UInt8} (hw : w.length ≤ 40) (hs : stripL w = s) (hj : judgeN s = 0) : readL w = s ∧ readE w = 0 := by
  unfold readL readE
  simp [show ¬ (40 < w.length) by omega, hs, hj]
theorem read_no {w s : List UInt8} (hw : w.length ≤ 40) (hs : stripL w = s) (hj : judgeN s = 31) : readL w = [] ∧ readE w = 31 := by
  unfold readL readE
  simp [show ¬ (40 < w.length) by omega, hs, hj]
theorem Read_at {w s : List UInt8} {e : Nat} (h : readL w = s ∧ readE w = e) (W : World) : Calls Tryd.prog 23 #[strV w] W fun x w' => x = .returned (.tuple #[strV s, .int .i64 ((e : Nat) : Int)]) ∧ Below W.heap.size W w' := by
  have := Read_any w W
  rw [h.1, h.2] at this
  exact this
def writL (l : List UInt8) : List UInt8 := l.take 4 ++ [32] ++ (l.take 10).drop 4 ++ [32] ++ l.drop 10
theorem Write_at {l : List UInt8} (h : judgeN l = 0) (W : World) : Calls Tryd.prog 22 #[strV l] W fun x w' => x = .returned (.tuple #[strV (writL l), .int .i64 0]) ∧ Below W.heap.size W w' := by
  have := Write_any l W
  rw [if_pos h] at this
  exact this
theorem writ_strip (l : List UInt8) : stripL (writL l) = stripL l := by
  unfold writL
  have e : stripL [32] = [] := rfl
  simp only [strip_app, e, List.append_nil]
  rw [← strip_app, ← strip_app]
  congr 1
  have h1 : l.take 4 = (l.take 10).take 4 := by rw [List.take_take]; rfl
  rw [h1, List.take_append_drop, List.take_append_drop]
theorem writ_ok {l : List UInt8} (h : l.all okB = true) : (writL l).all okB = true := by
  have ht : ∀ n, (l.take n).all okB = true := fun n => List.all_eq_true.2 fun x hx => List.all_eq_true.1 h x (List.mem_of_mem_take hx)
  have hd : ∀ n, (l.drop n).all okB = true := fun n => List.all_eq_true.2 fun x hx => List.all_eq_true.1 h x (List.mem_of_mem_drop hx)
  have htd : ((l.take 10).drop 4).all okB = true := List.all_eq_true.2 fun x hx => List.all_eq_true.1 (ht 10) x (List.mem_of_mem_drop hx)
  unfold writL
  simp only [List.all_append, ht, hd, htd]
  rfl
theorem writ_len {l : List UInt8} (h : l.length = 11) : (writL l).length = 13 := by unfold writL; simp; omega
theorem ins_ok {l : List UInt8} {k : Nat} {c : UInt8} (h : l.all okB = true) (hc : okB c = true) : (l.take k ++ [c] ++ l.drop k).all okB = true := by
  simp only [List.all_append, Bool.and_eq_true]
  exact ⟨⟨List.all_eq_true.2 fun x hx => List.all_eq_true.1 h x (List.mem_of_mem_take hx), by simp [hc]⟩, List.all_eq_true.2 fun x hx => List.all_eq_true.1 h x (List.mem_of_mem_drop hx)⟩
theorem sep_at {i : Nat} : ∃ c : UInt8, (([32, 45] : List UInt8).take (i % 2 + 1)).drop (i % 2) = [c] ∧ blankB c = true := by
  rcases Nat.mod_two_eq_zero_or_one i with h | h <;> rw [h]
  · exact ⟨32, rfl, rfl⟩
  · exact ⟨45, rfl, rfl⟩
theorem blank_ok {c : UInt8} (h : blankB c = true) : okB c = true := by unfold okB; rw [h]; simp
end Go.Proofs.YtbceajgipmjmlaaDoor
namespace Go.Proofs.YtbceajgipmjmlaaDoor
open Go Go.RowKit Tw
set_option maxRecDepth 100000 in
set_option maxHeartbeats 40000000 in
theorem IsoBack_law (w : World) (hE : Env w) (a0 : Int) (rr0 : 0 ≤ a0 ∧ a0 ≤ 18446744073709551615) (l1 : List Int) (p1 : Option Addr) (c1 : Nat) (hb1 : IL w p1 l1) : Calls Tryd.prog 7 #[.int .u64 a0, .slice p1 l1.length c1] w fun e w' => e = .returned (.bool true) ∧ Below w.heap.size w w' := by
  have HE := Lib.hid hE
  clear hE
  obtain ⟨n, rfl⟩ : ∃ n : Nat, a0 = (n : Int) := ⟨a0.toNat, by omega⟩
  have HB := Lib.hid hb1
  clear hb1
  go_enter Tryd.func7, Tryd.ntmps7
  refine wp_seq ?_
  refine wp_region_L (W0 := w) [] (KS.start w) ?_
  refine lm (v := .bool false) rfl rfl ?_
  refine wpL_done (fun W1 hW1 => ?_)
  refine (show Code.wp _ _ _ _ _ from ?_)
  refine wp_seq ?_
  refine wp_seq ?_
  refine wp_region_L (W0 := w) [] (hW1) ?_
  refine lv (v := .bool true) rfl rfl (yb_call (f := 12) (args := #[]) (fun _ => by kernel_rfl) fun W hW => awake_any W (HE.out.keep hW.1)) ?_
  refine lm (v := .bool false) rfl rfl ?_
  refine wpL_done (fun W2 hW2 => ?_)
  refine (show Code.wp _ _ _ _ _ from ?_)
  refine wp_cond_false rfl ?_
  refine wp_skip ?_
  refine (show Code.wp _ _ _ _ _ from ?_)
  refine wp_seq ?_
  refine wp_region_L (W0 := w) [] (hW2) ?_
  refine lm (v := .int .u64 ((n : Nat) : Int)) rfl rfl ?_
  refine wpL_c (f := 17) (args := #[.int .u64 ((n : Nat) : Int)]) (GMd []) rfl (by kernel_rfl) (fun _ => (by kernel_rfl)) (fun W hW => calls_md n (by omega) hW) (fun _ => by simp only [List.setIfInBounds_toArray, List.set_cons_succ, List.set_cons_zero] <;> rfl) ?_
  rintro v K9 ⟨p, d, rfl, hfp, hdp, rfl⟩
  have hlp := fit_len hfp
  have hch := chkN_le p
  have ld := d.toNat_lt
  refine lm (v := .tuple #[strV p, .int .u8 ((d.toNat : Nat) : Int), .bool true]) rfl rfl ?_
  refine lm (v := strV p) rfl rfl ?_
  refine lm (v := .int .u8 ((d.toNat : Nat) : Int)) rfl rfl ?_
  refine lm (v := .bool true) rfl rfl ?_
  refine lm (v := strV p) rfl rfl ?_
  refine lm (v := .int .u8 ((d.toNat : Nat) : Int)) rfl rfl ?_
  refine lm (v := .bool true) rfl rfl ?_
  refine wpL_done (fun W3 hW3 => ?_)
  refine (show Code.wp _ _ _ _ _ from ?_)
  refine wp_seq ?_
  refine wp_region_L (W0 := w) [] (hW3) ?_
  refine lm (v := strV p) rfl rfl ?_
  refine lm (v := .int .u8 ((d.toNat : Nat) : Int)) rfl rfl ?_
  refine wpL_new (fun g => .slice (some ⟨g, 0, none⟩) 1 1) (obi := .cells #[.int .u8 ((d.toNat : Nat) : Int)] 5 (0, 0)) rfl rfl (fun _ => by kernel_rfl) (fun _ => by simp only [List.setIfInBounds_toArray, List.set_cons_succ, List.set_cons_zero] <;> rfl) fun g1 Bg1 Fg1 => ?_
  refine lv (v := strV [d]) rfl rfl (yb_str (n := 1) (cap := 1) (l := [d]) rfl Tryd.underlying31 Tryd.underlying5 Tryd.underlying9 (by kernel_rfl) rfl (.head _) (by first | rfl | (simp [RowB, u8s]; omega))) ?_
  refine lp (v := strV (p ++ [d])) rfl rfl (run_bin rfl (vx := strV p) (vy := strV [d]) (by kernel_rfl) (by kernel_rfl) fun w => bs_add (c := (p ++ [d])) rfl (by simp; omega) w) ?_
  obtain ⟨s, hs⟩ : ∃ s, (p ++ [d]) = s := ⟨_, rfl⟩
  have hjs : judgeN s = 0 := by rw [← hs, judge_app hfp (d := d) (by omega), if_pos hdp.symm]
  have hls : s.length = 11 := judge_len hjs
  have hfs : fitF 0 s = true := by rw [← hs, fitF_app, fit_fit hfp]; simp [fitF, mayB, isDig, hlp]; omega
  rw [hs]
  refine lm (v := strV s) rfl rfl ?_
  refine wpL_done (fun W4 hW4 => ?_)
  refine (show Code.wp _ _ _ _ _ from ?_)
  refine wp_seq ?_
  refine wp_region_L (W0 := w) [(g1, .cells #[.int .u8 ((d.toNat : Nat) : Int)] 5 (0, 0))] (hW4) ?_
  refine lm (v := strV s) rfl rfl ?_
  refine lv (v := .tuple #[strV (writL s), .int .i64 0]) rfl rfl (yb_call (f := 22) (args := #[strV s]) (fun _ => by kernel_rfl) fun W hW => Write_at hjs W) ?_
  refine lm (v := .tuple #[strV (writL s), .int .i64 0]) rfl rfl ?_
  refine lm (v := strV (writL s)) rfl rfl ?_
  refine lm (v := .int .i64 0) rfl rfl ?_
  refine lm (v := strV (writL s)) rfl rfl ?_
  refine lm (v := .int .i64 0) rfl rfl ?_
  refine wpL_done (fun W5 hW5 => ?_)
  refine (show Code.wp _ _ _ _ _ from ?_)
  refine wp_seq ?_
  refine wp_region_L (W0 := w) [(g1, .cells #[.int .u8 ((d.toNat : Nat) : Int)] 5 (0, 0))] (hW5) ?_
  refine lm (v := strV (writL s)) rfl rfl ?_
  refine lv (v := .tuple #[strV s, .int .i64 0]) rfl rfl (yb_call (f := 23) (args := #[strV (writL s)]) (fun _ => by kernel_rfl) fun W hW => Read_at (read_ok (by have := writ_len hls; omega) (by rw [writ_strip]; exact (fit_strip s 0 hfs).1) hjs) W) ?_
  refine lm (v := .tuple #[strV s, .int .i64 0]) rfl rfl ?_
  refine lm (v := strV s) rfl rfl ?_
  refine lm (v := .int .i64 0) rfl rfl ?_
  refine lm (v := strV s) rfl rfl ?_
  refine lm (v := .int .i64 0) rfl rfl ?_
  refine wpL_done (fun W6 hW6 => ?_)
  refine (show Code.wp _ _ _ _ _ from ?_)
  refine wp_seq ?_
  refine wp_seq ?_
  refine wp_region_L (W0 := w) [(g1, .cells #[.int .u8 ((d.toNat : Nat) : Int)] 5 (0, 0))] (hW6) ?_
  refine lm (v := .bool true) rfl rfl ?_
  refine lm (v := .bool false) rfl rfl ?_
  refine lm (v := .bool false) rfl rfl ?_
  refine lm (v := .int .i64 0) rfl rfl ?_
  refine lm (v := .bool false) rfl rfl ?_
  refine lm (v := .bool false) rfl rfl ?_
  refine lm (v := .bool false) rfl rfl ?_
  refine lm (v := .int .i64 0) rfl rfl ?_
  refine lm (v := .bool false) rfl rfl ?_
  refine lm (v := .bool false) rfl rfl ?_
  refine lm (v := .bool false) rfl rfl ?_
  refine lm (v := strV s) rfl rfl ?_
  refine lm (v := strV s) rfl rfl ?_
  refine lp (v := .bool false) rfl rfl (run_bin rfl (vx := strV s) (vy := strV s) (by kernel_rfl) (by kernel_rfl) fun w => bs_neq (decide_eq_true rfl) w) ?_
  refine lm (v := .bool false) rfl rfl ?_
  refine lm (v := .bool false) rfl rfl ?_
  refine lm (v := strV (writL s)) rfl rfl ?_
  refine lp (v := .int .i64 13) rfl rfl (fun w => (run_lenS (l := (writL s)) rfl Tryd.underlying9 (by kernel_rfl) w).trans (by rw [(writ_len hls)] <;> rfl)) ?_
  refine lm (v := .bool false) rfl rfl ?_
  refine lm (v := .bool false) rfl rfl ?_
  refine wpL_done (fun W7 hW7 => ?_)
  refine (show Code.wp _ _ _ _ _ from ?_)
  refine wp_cond_false rfl ?_
  refine wp_skip ?_
  refine (show Code.wp _ _ _ _ _ from ?_)
  refine wp_seq ?_
  refine wp_seq ?_
  refine wp_region_L (W0 := w) [(g1, .cells #[.int .u8 ((d.toNat : Nat) : Int)] 5 (0, 0))] (hW7) ?_
  refine lm (v := .int .i64 0) rfl rfl ?_
  refine wpL_done (fun W8 hW8 => ?_)
  refine (show Code.wp _ _ _ _ _ from ?_)
  refine wp_block ?_
  go_loopw [9, 13] (fun u9 u13 wr => ∃ (k : Nat) (v : List UInt8), (k ≤ 20) ∧ (v.length = 13 + k) ∧ (stripL v = s) ∧ (v.all okB = true) ∧ u9 = strV v ∧ u13 = .int .i64 ((k : Nat) : Int) ∧ KS w [(g1, .cells #[.int .u8 ((d.toNat : Nat) : Int)] 5 (0, 0))] wr) (fun _ u13 _ => 20 - (intOf u13).toNat)
  case atStart => exact ⟨0, (writL s), (Nat.zero_le _), (writ_len hls), (by rw [writ_strip]; exact (fit_strip s 0 hfs).1), (writ_ok (fit_strip s 0 hfs).2), rfl, rfl, hW8⟩
  case round =>
    obtain ⟨k, v, hk, hlv, hst, hok, rfl, rfl, hL9⟩ := hrel
    refine wp_seq ?_
    refine wp_seq ?_
    refine wp_region_L (W0 := w) [(g1, .cells #[.int .u8 ((d.toNat : Nat) : Int)] 5 (0, 0))] (hL9) ?_
    refine lm (v := .int .i64 ((k : Nat) : Int)) rfl rfl ?_
    refine lm (v := .slice p1 l1.length c1) rfl rfl ?_
    refine lp (v := .int .i64 ((l1.length : Nat) : Int)) rfl rfl (run_lenL (p := p1) (cap := c1) (n := l1.length) rfl Tryd.underlying45 (by kernel_rfl)) ?_
    refine lp (v := .bool (decide (k < l1.length))) rfl rfl (run_bin rfl (vx := (.int .i64 ((k : Nat) : Int))) (vy := (.int .i64 ((l1.length : Nat) : Int))) (by kernel_rfl) (by kernel_rfl) fun w => bn_lss rfl w) ?_
    refine lm (v := .bool (decide (k < l1.length))) rfl rfl ?_
    cases hd1 : (decide (k < l1.length)) with
    | false =>
      have h1 : ¬ (k < l1.length) := of_decide_eq_false hd1
      clear hd1
      refine ln rfl ?_
      refine ln rfl ?_
      refine lm (v := .bool false) rfl rfl ?_
      refine wpL_done (fun W10 hW10 => ?_)
      refine (show Code.wp _ _ _ _ _ from ?_)
      refine wp_cond_false rfl ?_
      refine wp_exit ?_
      refine (show Code.wp _ _ _ _ _ from ?_)
      refine wp_seq ?_
      refine wp_region_L (W0 := w) [(g1, .cells #[.int .u8 ((d.toNat : Nat) : Int)] 5 (0, 0))] (hW10) ?_
      refine lm (v := .slice none 0 0) rfl rfl ?_
      refine wpL_done (fun W11 hW11 => ?_)
      refine (show Code.wp _ _ _ _ _ from ?_)
      refine wp_seq ?_
      refine wp_seq ?_
      refine wp_region_L (W0 := w) [(g1, .cells #[.int .u8 ((d.toNat : Nat) : Int)] 5 (0, 0))] (hW11) ?_
      refine lm (v := .int .i64 0) rfl rfl ?_
      refine wpL_done (fun W12 hW12 => ?_)
      refine (show Code.wp _ _ _ _ _ from ?_)
      refine wp_block ?_
      have hll := low_len v
      go_loopw [15, 16] (fun u15 u16 wr => ∃ (k2 : Nat) (va : Value) (Kl : List (Nat × Obj)), (k2 ≤ v.length) ∧ (OwnL w 5 1 va ((lowL v).take k2).length (u8s ((lowL v).take k2)) Kl) ∧ va = u15 ∧ u16 = .int .i64 ((k2 : Nat) : Int) ∧ KS w Kl wr) (fun _ u16 _ => v.length - (intOf u16).toNat)
      case atStart => exact ⟨0, (.slice none 0 0), [], (Nat.zero_le _), (OwnL.nil _ _ _), rfl, rfl, (hW12.sub (fun p hp => (.tail _ hp)))⟩
      case round =>
        obtain ⟨k2, va, Kl, hk2, hO, rfl, rfl, hL13⟩ := hrel
        have htk : ((lowL v).take k2).length = k2 := by rw [List.length_take, hll]; omega
        refine wp_seq ?_
        refine wp_seq ?_
        refine wp_region_L (W0 := w) Kl (hL13) ?_
        refine lm (v := .int .i64 ((k2 : Nat) : Int)) rfl rfl ?_
        refine lm (v := strV v) rfl rfl ?_
        refine lp (v := .int .i64 ((v.length : Nat) : Int)) rfl rfl (run_lenS (l := v) rfl Tryd.underlying9 (by kernel_rfl)) ?_
        refine lp (v := .bool (decide (k2 < v.length))) rfl rfl (run_bin rfl (vx := (.int .i64 ((k2 : Nat) : Int))) (vy := (.int .i64 ((v.length : Nat) : Int))) (by kernel_rfl) (by kernel_rfl) fun w => bn_lss rfl w) ?_
        refine wpL_done (fun W14 hW14 => ?_)
        refine (show Code.wp _ _ _ _ _ from ?_)
        cases hd2 : (decide (k2 < v.length)) with
        | false =>
          have h2 : ¬ (k2 < v.length) := of_decide_eq_false hd2
          clear hd2
          rw [List.take_of_length_le (by omega)] at hO
          refine wp_cond_false rfl ?_
          refine wp_exit ?_
          refine (show Code.wp _ _ _ _ _ from ?_)
          refine wp_seq ?_
          refine wp_region_L (W0 := w) Kl (hW14) ?_
          refine lm (v := strV v) rfl rfl ?_
          refine lv (v := .tuple #[strV s, .int .i64 0]) rfl rfl (yb_call (f := 23) (args := #[strV v]) (fun _ => by kernel_rfl) fun W hW => Read_at (read_ok (by omega) hst hjs) W) ?_
          refine lm (v := .tuple #[strV s, .int .i64 0]) rfl rfl ?_
          refine lm (v := strV s) rfl rfl ?_
          refine lm (v := .int .i64 0) rfl rfl ?_
          refine lm (v := strV s) rfl rfl ?_
          refine lm (v := .int .i64 0) rfl rfl ?_
          refine wpL_done (fun W15 hW15 => ?_)
          refine (show Code.wp _ _ _ _ _ from ?_)
          refine wp_seq ?_
          refine wp_region_L (W0 := w) Kl (hW15) ?_
          refine lm (v := va) rfl rfl ?_
          refine lv (v := strV (lowL v)) rfl rfl (yb_strO (W0 := w) (l := (lowL v)) rfl Tryd.underlying31 Tryd.underlying5 Tryd.underlying9 (by kernel_rfl) hO (fun p hp => hp)) ?_
          refine lv (v := .tuple #[strV s, .int .i64 0]) rfl rfl (yb_call (f := 23) (args := #[strV (lowL v)]) (fun _ => by kernel_rfl) fun W hW => Read_at (read_ok (by omega) (by rw [low_all hok]; exact hst) hjs) W) ?_
          refine lm (v := .tuple #[strV s, .int .i64 0]) rfl rfl ?_
          refine lm (v := strV s) rfl rfl ?_
          refine lm (v := .int .i64 0) rfl rfl ?_
          refine lm (v := strV s) rfl rfl ?_
          refine lm (v := .int .i64 0) rfl rfl ?_
          refine wpL_done (fun W16 hW16 => ?_)
          refine (show Code.wp _ _ _ _ _ from ?_)
          refine wp_seq ?_
          refine wp_seq ?_
          refine wp_region_L (W0 := w) Kl (hW16) ?_
          refine lm (v := strV s) rfl rfl ?_
          refine lm (v := strV s) rfl rfl ?_
          refine lp (v := .bool false) rfl rfl (run_bin rfl (vx := strV s) (vy := strV s) (by kernel_rfl) (by kernel_rfl) fun w => bs_neq (decide_eq_true rfl) w) ?_
          refine lm (v := .bool false) rfl rfl ?_
          refine lm (v := .int .i64 0) rfl rfl ?_
          refine lm (v := .bool false) rfl rfl ?_
          refine lm (v := .bool false) rfl rfl ?_
          refine lm (v := .bool false) rfl rfl ?_
          refine lm (v := strV s) rfl rfl ?_
          refine lm (v := strV s) rfl rfl ?_
          refine lp (v := .bool false) rfl rfl (run_bin rfl (vx := strV s) (vy := strV s) (by kernel_rfl) (by kernel_rfl) fun w => bs_neq (decide_eq_true rfl) w) ?_
          refine lm (v := .bool false) rfl rfl ?_
          refine lm (v := .bool false) rfl rfl ?_
          refine lm (v := .int .i64 0) rfl rfl ?_
          refine lm (v := .bool false) rfl rfl ?_
          refine lm (v := .bool false) rfl rfl ?_
          refine wpL_done (fun W17 hW17 => ?_)
          refine (show Code.wp _ _ _ _ _ from ?_)
          refine wp_cond_false rfl ?_
          refine wp_skip ?_
          refine (show Code.wp _ _ _ _ _ from ?_)
          refine wp_seq ?_
          refine wp_seq ?_
          refine wp_region_L (W0 := w) Kl (hW17) ?_
          refine lm (v := .int .u8 48) rfl rfl ?_
          refine wpL_done (fun W18 hW18 => ?_)
          refine (show Code.wp _ _ _ _ _ from ?_)
          refine wp_block ?_
          go_loopw [19] (fun u19 wr => ∃ (cn : Nat), (48 ≤ cn ∧ cn ≤ 58) ∧ u19 = .int .u8 ((cn : Nat) : Int) ∧ KS w Kl wr) (fun u19 _ => 58 - (intOf u19).toNat)
          case atStart => exact ⟨48, (by decide), rfl, hW18⟩
          case round =>
            obtain ⟨cn, hc1, rfl, hL19⟩ := hrel
            obtain ⟨c, rfl⟩ : ∃ c : UInt8, cn = c.toNat := ⟨UInt8.ofNat cn, by rw [UInt8.toNat_ofNat']; omega⟩
            have lc := c.toNat_lt
            refine wp_seq ?_
            refine wp_seq ?_
            refine wp_region_L (W0 := w) Kl (hL19) ?_
            refine lm (v := .int .u8 ((c.toNat : Nat) : Int)) rfl rfl ?_
            refine lp (v := .bool (!(decide (57 < c.toNat)))) rfl rfl (run_bin rfl (vx := (.int .u8 ((c.toNat : Nat) : Int))) (vy := (.int .u8 ((57 : Nat) : Int))) (by kernel_rfl) (by kernel_rfl) fun w => bn_leq rfl w) ?_
            refine wpL_done (fun W20 hW20 => ?_)
            refine (show Code.wp _ _ _ _ _ from ?_)
            cases hd3 : (decide (57 < c.toNat)) with
            | false =>
              have h3 : ¬ (57 < c.toNat) := of_decide_eq_false hd3
              clear hd3
              have hjc := judge_app hfp (d := c) (by omega)
              have hsc : stripL (p ++ [c]) = p ++ [c] := (fit_strip _ 0 (by rw [fitF_app, fit_fit hfp]; simp [fitF, mayB, isDig, hlp]; omega)).1
              have hlc : (p ++ [c]).length ≤ 40 := by simp [hlp]
              refine wp_cond_true rfl ?_
              refine wp_skip ?_
              refine (show Code.wp _ _ _ _ _ from ?_)
              refine wp_seq ?_
              refine wp_block ?_
              refine wp_seq ?_
              refine wp_region_L (W0 := w) Kl (hW20) ?_
              refine lm (v := strV p) rfl rfl ?_
              refine lm (v := .int .u8 ((c.toNat : Nat) : Int)) rfl rfl ?_
              refine wpL_new (fun g => .slice (some ⟨g, 0, none⟩) 1 1) (obi := .cells #[.int .u8 ((c.toNat : Nat) : Int)] 5 (0, 0)) rfl rfl (fun _ => by kernel_rfl) (fun _ => by simp only [List.setIfInBounds_toArray, List.set_cons_succ, List.set_cons_zero] <;> rfl) fun g2 Bg2 Fg2 => ?_
              refine lv (v := strV [c]) rfl rfl (yb_str (n := 1) (cap := 1) (l := [c]) rfl Tryd.underlying31 Tryd.underlying5 Tryd.underlying9 (by kernel_rfl) rfl (.head _) (by first | rfl | (simp [RowB, u8s]; omega))) ?_
              refine lp (v := strV (p ++ [c])) rfl rfl (run_bin rfl (vx := strV p) (vy := strV [c]) (by kernel_rfl) (by kernel_rfl) fun w => bs_add (c := (p ++ [c])) rfl (by simp; omega) w) ?_
              cases hd4 : (decide (c.toNat = d.toNat)) with
              | false =>
                have h4 : ¬ (c.toNat = d.toNat) := of_decide_eq_false hd4
                clear hd4
                rw [if_neg (by omega)] at hjc
                refine lv (v := .tuple #[strV [], .int .i64 31]) rfl rfl (yb_call (f := 23) (args := #[strV (p ++ [c])]) (fun _ => by kernel_rfl) fun W hW => Read_at (read_no hlc hsc hjc) W) ?_
                refine lm (v := .tuple #[strV [], .int .i64 31]) rfl rfl ?_
                refine lm (v := strV []) rfl rfl ?_
                refine lm (v := .int .i64 31) rfl rfl ?_
                refine lm (v := strV []) rfl rfl ?_
                refine lm (v := .int .i64 31) rfl rfl ?_
                refine wpL_done (fun W21 hW21 => ?_)
                refine (show Code.wp _ _ _ _ _ from ?_)
                refine wp_seq ?_
                refine wp_region_L (W0 := w) ((g2, .cells #[.int .u8 ((c.toNat : Nat) : Int)] 5 (0, 0)) :: Kl) (hW21) ?_
                refine lm (v := .int .i64 31) rfl rfl ?_
                refine lm (v := .bool false) rfl rfl ?_
                refine lm (v := .int .u8 ((c.toNat : Nat) : Int)) rfl rfl ?_
                refine lm (v := .int .u8 ((d.toNat : Nat) : Int)) rfl rfl ?_
                refine lp (v := .bool false) rfl rfl (run_bin rfl (vx := (.int .u8 ((c.toNat : Nat) : Int))) (vy := (.int .u8 ((d.toNat : Nat) : Int))) (by kernel_rfl) (by kernel_rfl) fun w => bn_eql (decide_eq_false (by assumption)) w) ?_
                refine lm (v := .bool false) rfl rfl ?_
                refine lm (v := .bool false) rfl rfl ?_
                refine lm (v := .int .i64 31) rfl rfl ?_
                refine lm (v := .bool true) rfl rfl ?_
                refine lm (v := .bool true) rfl rfl ?_
                refine lm (v := .int .i64 31) rfl rfl ?_
                refine lm (v := .bool false) rfl rfl ?_
                refine lm (v := .bool false) rfl rfl ?_
                refine lm (v := strV []) rfl rfl ?_
                refine lp (v := .bool false) rfl rfl (run_bin rfl (vx := strV []) (vy := strV []) (by kernel_rfl) (by kernel_rfl) fun w => bs_neq (decide_eq_true rfl) w) ?_
                refine lm (v := .bool false) rfl rfl ?_
                refine lm (v := .bool false) rfl rfl ?_
                refine lm (v := .bool false) rfl rfl ?_
                refine wpL_done (fun W22 hW22 => ?_)
                refine (show Code.wp _ _ _ _ _ from ?_)
                refine wp_cond_false rfl ?_
                refine wp_skip ?_
                refine (show Code.wp _ _ _ _ _ from ?_)
                refine wp_region_L (W0 := w) ((g2, .cells #[.int .u8 ((c.toNat : Nat) : Int)] 5 (0, 0)) :: Kl) (hW22) ?_
                refine lm (v := .int .u8 ((c.toNat : Nat) : Int)) rfl rfl ?_
                refine lp (v := .int .u8 (((c.toNat + 1) : Nat) : Int)) rfl rfl (run_bin rfl (vx := (.int .u8 ((c.toNat : Nat) : Int))) (vy := (.int .u8 ((1 : Nat) : Int))) (by kernel_rfl) (by kernel_rfl) fun w => bn_add (z := (c.toNat + 1)) rfl (wr_u8 (by omega)) w) ?_
                refine lm (v := .int .u8 (((c.toNat + 1) : Nat) : Int)) rfl rfl ?_
                refine wpL_done (fun W23 hW23 => ?_)
                go_roundw
                case rel =>
                  repeat apply Exists.intro
                  exact ⟨⟨(c.toNat + 1), (by omega), rfl, (hW23.sub (fun p hp => (.tail _ hp)))⟩, rfl⟩
                case measure => (show 58 - (intOf (.int .u8 (((c.toNat + 1) : Nat) : Int))).toNat < 58 - (intOf (.int .u8 ((c.toNat : Nat) : Int))).toNat); simp only [intOf]; omega
              | true =>
                have h4 : c.toNat = d.toNat := of_decide_eq_true hd4
                clear hd4
                rw [if_pos (by omega)] at hjc
                refine lv (v := .tuple #[strV (p ++ [c]), .int .i64 0]) rfl rfl (yb_call (f := 23) (args := #[strV (p ++ [c])]) (fun _ => by kernel_rfl) fun W hW => Read_at (read_ok hlc hsc hjc) W) ?_
                refine lm (v := .tuple #[strV (p ++ [c]), .int .i64 0]) rfl rfl ?_
                refine lm (v := strV (p ++ [c])) rfl rfl ?_
                refine lm (v := .int .i64 0) rfl rfl ?_
                refine lm (v := strV (p ++ [c])) rfl rfl ?_
                refine lm (v := .int .i64 0) rfl rfl ?_
                refine wpL_done (fun W24 hW24 => ?_)
                refine (show Code.wp _ _ _ _ _ from ?_)
                refine wp_seq ?_
                refine wp_region_L (W0 := w) ((g2, .cells #[.int .u8 ((c.toNat : Nat) : Int)] 5 (0, 0)) :: Kl) (hW24) ?_
                refine lm (v := .int .i64 0) rfl rfl ?_
                refine lm (v := .bool true) rfl rfl ?_
                refine lm (v := .int .u8 ((c.toNat : Nat) : Int)) rfl rfl ?_
                refine lm (v := .int .u8 ((d.toNat : Nat) : Int)) rfl rfl ?_
                refine lp (v := .bool true) rfl rfl (run_bin rfl (vx := (.int .u8 ((c.toNat : Nat) : Int))) (vy := (.int .u8 ((d.toNat : Nat) : Int))) (by kernel_rfl) (by kernel_rfl) fun w => bn_eql (decide_eq_true (by assumption)) w) ?_
                refine lm (v := .bool false) rfl rfl ?_
                refine lm (v := .bool false) rfl rfl ?_
                refine lm (v := .int .i64 0) rfl rfl ?_
                refine lm (v := .bool false) rfl rfl ?_
                refine lm (v := .bool false) rfl rfl ?_
                refine ln rfl ?_
                refine ln rfl ?_
                refine ln rfl ?_
                refine ln rfl ?_
                refine ln rfl ?_
                refine ln rfl ?_
                refine lm (v := .bool false) rfl rfl ?_
                refine lm (v := .bool false) rfl rfl ?_
                refine wpL_done (fun W25 hW25 => ?_)
                refine (show Code.wp _ _ _ _ _ from ?_)
                refine wp_cond_false rfl ?_
                refine wp_skip ?_
                refine (show Code.wp _ _ _ _ _ from ?_)
                refine wp_region_L (W0 := w) ((g2, .cells #[.int .u8 ((c.toNat : Nat) : Int)] 5 (0, 0)) :: Kl) (hW25) ?_
                refine lm (v := .int .u8 ((c.toNat : Nat) : Int)) rfl rfl ?_
                refine lp (v := .int .u8 (((c.toNat + 1) : Nat) : Int)) rfl rfl (run_bin rfl (vx := (.int .u8 ((c.toNat : Nat) : Int))) (vy := (.int .u8 ((1 : Nat) : Int))) (by kernel_rfl) (by kernel_rfl) fun w => bn_add (z := (c.toNat + 1)) rfl (wr_u8 (by omega)) w) ?_
                refine lm (v := .int .u8 (((c.toNat + 1) : Nat) : Int)) rfl rfl ?_
                refine wpL_done (fun W26 hW26 => ?_)
                go_roundw
                case rel =>
                  repeat apply Exists.intro
                  exact ⟨⟨(c.toNat + 1), (by omega), rfl, (hW26.sub (fun p hp => (.tail _ hp)))⟩, rfl⟩
                case measure => (show 58 - (intOf (.int .u8 (((c.toNat + 1) : Nat) : Int))).toNat < 58 - (intOf (.int .u8 ((c.toNat : Nat) : Int))).toNat); simp only [intOf]; omega
            | true =>
              have h3 : 57 < c.toNat := of_decide_eq_true hd3
              clear hd3
              refine wp_cond_false rfl ?_
              refine wp_exit ?_
              refine (show Code.wp _ _ _ _ _ from ?_)
              refine wp_seq ?_
              refine wp_region_L (W0 := w) Kl (hW20) ?_
              refine lm (v := .bool true) rfl rfl ?_
              refine wpL_done (fun W27 hW27 => ?_)
              refine (show Code.wp _ _ _ _ _ from ?_)
              refine wp_ret ?_
              try simp only [inBlock_ret, then_ret]
              refine bodyPost_ret (v := .bool true) ?_ rfl ?_
              · kernel_rfl
              · exact ⟨rfl, hW27.1⟩
        | true =>
          have h2 : k2 < v.length := of_decide_eq_true hd2
          clear hd2
          refine wp_cond_true rfl ?_
          refine wp_skip ?_
          refine (show Code.wp _ _ _ _ _ from ?_)
          refine wp_seq ?_
          refine wp_block ?_
          refine wp_seq ?_
          refine wp_region_L (W0 := w) Kl (hW14) ?_
          refine lm (v := strV v) rfl rfl ?_
          refine lm (v := .int .i64 ((k2 : Nat) : Int)) rfl rfl ?_
          obtain ⟨b3, hb3⟩ : ∃ b, (v : List UInt8)[k2]? = some b := ⟨_, List.getElem?_eq_getElem (by omega)⟩
          have lb3 := b3.toNat_lt
          refine lp (v := .int .u8 ((b3.toNat : Nat) : Int)) rfl rfl (run_idxS (j := .i64) (l := v) (k := k2) (b := b3) rfl Tryd.underlying9 (by kernel_rfl) (by kernel_rfl) hb3) ?_
          refine lp (v := .bool (!(decide (b3.toNat < 65)))) rfl rfl (run_bin rfl (vx := (.int .u8 ((b3.toNat : Nat) : Int))) (vy := (.int .u8 ((65 : Nat) : Int))) (by kernel_rfl) (by kernel_rfl) fun w => bn_geq rfl w) ?_
          refine lm (v := .bool (!(decide (b3.toNat < 65)))) rfl rfl ?_
          cases hd5 : (decide (b3.toNat < 65)) with
          | false =>
            have h5 : ¬ (b3.toNat < 65) := of_decide_eq_false hd5
            clear hd5
            refine lm (v := strV v) rfl rfl ?_
            refine lm (v := .int .i64 ((k2 : Nat) : Int)) rfl rfl ?_
            refine lp (v := .int .u8 ((b3.toNat : Nat) : Int)) rfl rfl (run_idxS (j := .i64) (l := v) (k := k2) (b := b3) rfl Tryd.underlying9 (by kernel_rfl) (by kernel_rfl) hb3) ?_
            refine lp (v := .bool (!(decide (90 < b3.toNat)))) rfl rfl (run_bin rfl (vx := (.int .u8 ((b3.toNat : Nat) : Int))) (vy := (.int .u8 ((90 : Nat) : Int))) (by kernel_rfl) (by kernel_rfl) fun w => bn_leq rfl w) ?_
            refine lm (v := .bool (!(decide (90 < b3.toNat)))) rfl rfl ?_
            refine lm (v := .bool (!(decide (90 < b3.toNat)))) rfl rfl ?_
            cases hd6 : (decide (90 < b3.toNat)) with
            | false =>
              have h6 : ¬ (90 < b3.toNat) := of_decide_eq_false hd6
              clear hd6
              refine lm (v := .int .i64 ((k2 : Nat) : Int)) rfl rfl ?_
              refine lp (v := .int .i64 (((k2 % 2) : Nat) : Int)) rfl rfl (run_bin rfl (vx := (.int .i64 ((k2 : Nat) : Int))) (vy := (.int .i64 ((2 : Nat) : Int))) (by kernel_rfl) (by kernel_rfl) fun w => bn_rem (z := (k2 % 2)) rfl (by omega) w) ?_
              refine lp (v := .bool (decide ((k2 % 2) = 0))) rfl rfl (run_bin rfl (vx := (.int .i64 (((k2 % 2) : Nat) : Int))) (vy := (.int .i64 ((0 : Nat) : Int))) (by kernel_rfl) (by kernel_rfl) fun w => bn_eql rfl w) ?_
              refine lm (v := .bool (decide ((k2 % 2) = 0))) rfl rfl ?_
              refine wpL_done (fun W28 hW28 => ?_)
              refine (show Code.wp _ _ _ _ _ from ?_)
              cases hd7 : (decide ((k2 % 2) = 0)) with
              | false =>
                have h7 : ¬ ((k2 % 2) = 0) := of_decide_eq_false hd7
                clear hd7
                refine wp_cond_false rfl ?_
                refine wp_region_L (W0 := w) Kl (hW28) ?_
                refine lm (v := va) rfl rfl ?_
                refine lm (v := strV v) rfl rfl ?_
                refine lm (v := .int .i64 ((k2 : Nat) : Int)) rfl rfl ?_
                refine lp (v := .int .u8 ((b3.toNat : Nat) : Int)) rfl rfl (run_idxS (j := .i64) (l := v) (k := k2) (b := b3) rfl Tryd.underlying9 (by kernel_rfl) (by kernel_rfl) hb3) ?_
                refine wpL_new (fun g => .slice (some ⟨g, 0, none⟩) 1 1) (obi := .cells #[.int .u8 ((b3.toNat : Nat) : Int)] 5 (0, 0)) rfl rfl (fun _ => by kernel_rfl) (fun _ => by simp only [List.setIfInBounds_toArray, List.set_cons_succ, List.set_cons_zero] <;> rfl) fun g4 Bg4 Fg4 => ?_
                refine wpL_g (AppO w 5 1 [] ((((lowL v).take k2).length) + 1) ((u8s ((lowL v).take k2)) ++ [.int .u8 ((b3.toNat : Nat) : Int)])) rfl rfl (app_own el_u8 (m := 1) (c := 1) (news := [.int .u8 ((b3.toNat : Nat) : Int)]) rfl (by kernel_rfl) (by kernel_rfl) (.head _) hO (fun p hp => (.tail _ hp)) (List.forall_mem_nil _) rfl (by simp [Value.oneCell']) (by omega) (by omega) (by omega)) (fun _ => by simp only [List.setIfInBounds_toArray, List.set_cons_succ, List.set_cons_zero] <;> rfl) ?_
                rintro v5 Kl5 ⟨_, O5, N5, rfl⟩
                refine lm (v := v5) rfl rfl ?_
                refine wpL_done (fun W29 hW29 => ?_)
                refine (show Code.wp _ _ _ _ _ from ?_)
                refine wp_region_L (W0 := w) Kl5 (hW29) ?_
                refine lm (v := .int .i64 ((k2 : Nat) : Int)) rfl rfl ?_
                refine lp (v := .int .i64 (((k2 + 1) : Nat) : Int)) rfl rfl (run_bin rfl (vx := (.int .i64 ((k2 : Nat) : Int))) (vy := (.int .i64 ((1 : Nat) : Int))) (by kernel_rfl) (by kernel_rfl) fun w => bn_add (z := (k2 + 1)) rfl (wr_i64 (by omega)) w) ?_
                refine lm (v := .int .i64 (((k2 + 1) : Nat) : Int)) rfl rfl ?_
                refine wpL_done (fun W30 hW30 => ?_)
                go_roundw
                case rel =>
                  repeat apply Exists.intro
                  exact ⟨⟨k2 + 1, v5, Kl5, (by omega), (own_snoc O5 (by unfold lowB; rw [if_neg (by omega)]) (low_take hb3)), rfl, rfl, hW30⟩, rfl⟩
                case measure => (show v.length - (intOf (.int .i64 (((k2 + 1) : Nat) : Int))).toNat < v.length - (intOf (.int .i64 ((k2 : Nat) : Int))).toNat); simp only [intOf]; omega
              | true =>
                have h7 : (k2 % 2) = 0 := of_decide_eq_true hd7
                clear hd7
                refine wp_cond_true rfl ?_
                refine wp_region_L (W0 := w) Kl (hW28) ?_
                refine lm (v := va) rfl rfl ?_
                refine lm (v := strV v) rfl rfl ?_
                refine lm (v := .int .i64 ((k2 : Nat) : Int)) rfl rfl ?_
                refine lp (v := .int .u8 ((b3.toNat : Nat) : Int)) rfl rfl (run_idxS (j := .i64) (l := v) (k := k2) (b := b3) rfl Tryd.underlying9 (by kernel_rfl) (by kernel_rfl) hb3) ?_
                refine lp (v := .int .u8 (((b3.toNat + 32) : Nat) : Int)) rfl rfl (run_bin rfl (vx := (.int .u8 ((b3.toNat : Nat) : Int))) (vy := (.int .u8 ((32 : Nat) : Int))) (by kernel_rfl) (by kernel_rfl) fun w => bn_add (z := (b3.toNat + 32)) rfl (wr_u8 (by omega)) w) ?_
                refine wpL_new (fun g => .slice (some ⟨g, 0, none⟩) 1 1) (obi := .cells #[.int .u8 (((b3.toNat + 32) : Nat) : Int)] 5 (0, 0)) rfl rfl (fun _ => by kernel_rfl) (fun _ => by simp only [List.setIfInBounds_toArray, List.set_cons_succ, List.set_cons_zero] <;> rfl) fun g6 Bg6 Fg6 => ?_
                refine wpL_g (AppO w 5 1 [] ((((lowL v).take k2).length) + 1) ((u8s ((lowL v).take k2)) ++ [.int .u8 (((b3.toNat + 32) : Nat) : Int)])) rfl rfl (app_own el_u8 (m := 1) (c := 1) (news := [.int .u8 (((b3.toNat + 32) : Nat) : Int)]) rfl (by kernel_rfl) (by kernel_rfl) (.head _) hO (fun p hp => (.tail _ hp)) (List.forall_mem_nil _) rfl (by simp [Value.oneCell']) (by omega) (by omega) (by omega)) (fun _ => by simp only [List.setIfInBounds_toArray, List.set_cons_succ, List.set_cons_zero] <;> rfl) ?_
                rintro v7 Kl7 ⟨_, O7, N7, rfl⟩
                refine lm (v := v7) rfl rfl ?_
                refine wpL_done (fun W31 hW31 => ?_)
                refine (show Code.wp _ _ _ _ _ from ?_)
                refine wp_region_L (W0 := w) Kl7 (hW31) ?_
                refine lm (v := .int .i64 ((k2 : Nat) : Int)) rfl rfl ?_
                refine lp (v := .int .i64 (((k2 + 1) : Nat) : Int)) rfl rfl (run_bin rfl (vx := (.int .i64 ((k2 : Nat) : Int))) (vy := (.int .i64 ((1 : Nat) : Int))) (by kernel_rfl) (by kernel_rfl) fun w => bn_add (z := (k2 + 1)) rfl (wr_i64 (by omega)) w) ?_
                refine lm (v := .int .i64 (((k2 + 1) : Nat) : Int)) rfl rfl ?_
                refine wpL_done (fun W32 hW32 => ?_)
                go_roundw
                case rel =>
                  repeat apply Exists.intro
                  exact ⟨⟨k2 + 1, v7, Kl7, (by omega), (own_snoc O7 (by unfold lowB; rw [if_pos ⟨by unfold isCap; simp; omega, by omega⟩, UInt8.toNat_ofNat']; omega) (low_take hb3)), rfl, rfl, hW32⟩, rfl⟩
                case measure => (show v.length - (intOf (.int .i64 (((k2 + 1) : Nat) : Int))).toNat < v.length - (intOf (.int .i64 ((k2 : Nat) : Int))).toNat); simp only [intOf]; omega
            | true =>
              have h6 : 90 < b3.toNat := of_decide_eq_true hd6
              clear hd6
              refine ln rfl ?_
              refine ln rfl ?_
              refine ln rfl ?_
              refine lm (v := .bool false) rfl rfl ?_
              refine wpL_done (fun W33 hW33 => ?_)
              refine (show Code.wp _ _ _ _ _ from ?_)
              refine wp_cond_false rfl ?_
              refine wp_region_L (W0 := w) Kl (hW33) ?_
              refine lm (v := va) rfl rfl ?_
              refine lm (v := strV v) rfl rfl ?_
              refine lm (v := .int .i64 ((k2 : Nat) : Int)) rfl rfl ?_
              refine lp (v := .int .u8 ((b3.toNat : Nat) : Int)) rfl rfl (run_idxS (j := .i64) (l := v) (k := k2) (b := b3) rfl Tryd.underlying9 (by kernel_rfl) (by kernel_rfl) hb3) ?_
              refine wpL_new (fun g => .slice (some ⟨g, 0, none⟩) 1 1) (obi := .cells #[.int .u8 ((b3.toNat : Nat) : Int)] 5 (0, 0)) rfl rfl (fun _ => by kernel_rfl) (fun _ => by simp only [List.setIfInBounds_toArray, List.set_cons_succ, List.set_cons_zero] <;> rfl) fun g8 Bg8 Fg8 => ?_
              refine wpL_g (AppO w 5 1 [] ((((lowL v).take k2).length) + 1) ((u8s ((lowL v).take k2)) ++ [.int .u8 ((b3.toNat : Nat) : Int)])) rfl rfl (app_own el_u8 (m := 1) (c := 1) (news := [.int .u8 ((b3.toNat : Nat) : Int)]) rfl (by kernel_rfl) (by kernel_rfl) (.head _) hO (fun p hp => (.tail _ hp)) (List.forall_mem_nil _) rfl (by simp [Value.oneCell']) (by omega) (by omega) (by omega)) (fun _ => by simp only [List.setIfInBounds_toArray, List.set_cons_succ, List.set_cons_zero] <;> rfl) ?_
              rintro v9 Kl9 ⟨_, O9, N9, rfl⟩
              refine lm (v := v9) rfl rfl ?_
              refine wpL_done (fun W34 hW34 => ?_)
              refine (show Code.wp _ _ _ _ _ from ?_)
              refine wp_region_L (W0 := w) Kl9 (hW34) ?_
              refine lm (v := .int .i64 ((k2 : Nat) : Int)) rfl rfl ?_
              refine lp (v := .int .i64 (((k2 + 1) : Nat) : Int)) rfl rfl (run_bin rfl (vx := (.int .i64 ((k2 : Nat) : Int))) (vy := (.int .i64 ((1 : Nat) : Int))) (by kernel_rfl) (by kernel_rfl) fun w => bn_add (z := (k2 + 1)) rfl (wr_i64 (by omega)) w) ?_
              refine lm (v := .int .i64 (((k2 + 1) : Nat) : Int)) rfl rfl ?_
              refine wpL_done (fun W35 hW35 => ?_)
              go_roundw
              case rel =>
                repeat apply Exists.intro
                exact ⟨⟨k2 + 1, v9, Kl9, (by omega), (own_snoc O9 (by unfold lowB; rw [if_neg (by unfold isCap; simp; omega)]) (low_take hb3)), rfl, rfl, hW35⟩, rfl⟩
              case measure => (show v.length - (intOf (.int .i64 (((k2 + 1) : Nat) : Int))).toNat < v.length - (intOf (.int .i64 ((k2 : Nat) : Int))).toNat); simp only [intOf]; omega
          | true =>
            have h5 : b3.toNat < 65 := of_decide_eq_true hd5
            clear hd5
            refine ln rfl ?_
            refine ln rfl ?_
            refine ln rfl ?_
            refine ln rfl ?_
            refine lm (v := .bool false) rfl rfl ?_
            refine lm (v := .bool false) rfl rfl ?_
            refine ln rfl ?_
            refine ln rfl ?_
            refine ln rfl ?_
            refine lm (v := .bool false) rfl rfl ?_
            refine wpL_done (fun W36 hW36 => ?_)
            refine (show Code.wp _ _ _ _ _ from ?_)
            refine wp_cond_false rfl ?_
            refine wp_region_L (W0 := w) Kl (hW36) ?_
            refine lm (v := va) rfl rfl ?_
            refine lm (v := strV v) rfl rfl ?_
            refine lm (v := .int .i64 ((k2 : Nat) : Int)) rfl rfl ?_
            refine lp (v := .int .u8 ((b3.toNat : Nat) : Int)) rfl rfl (run_idxS (j := .i64) (l := v) (k := k2) (b := b3) rfl Tryd.underlying9 (by kernel_rfl) (by kernel_rfl) hb3) ?_
            refine wpL_new (fun g => .slice (some ⟨g, 0, none⟩) 1 1) (obi := .cells #[.int .u8 ((b3.toNat : Nat) : Int)] 5 (0, 0)) rfl rfl (fun _ => by kernel_rfl) (fun _ => by simp only [List.setIfInBounds_toArray, List.set_cons_succ, List.set_cons_zero] <;> rfl) fun g10 Bg10 Fg10 => ?_
            refine wpL_g (AppO w 5 1 [] ((((lowL v).take k2).length) + 1) ((u8s ((lowL v).take k2)) ++ [.int .u8 ((b3.toNat : Nat) : Int)])) rfl rfl (app_own el_u8 (m := 1) (c := 1) (news := [.int .u8 ((b3.toNat : Nat) : Int)]) rfl (by kernel_rfl) (by kernel_rfl) (.head _) hO (fun p hp => (.tail _ hp)) (List.forall_mem_nil _) rfl (by simp [Value.oneCell']) (by omega) (by omega) (by omega)) (fun _ => by simp only [List.setIfInBounds_toArray, List.set_cons_succ, List.set_cons_zero] <;> rfl) ?_
            rintro v11 Kl11 ⟨_, O11, N11, rfl⟩
            refine lm (v := v11) rfl rfl ?_
            refine wpL_done (fun W37 hW37 => ?_)
            refine (show Code.wp _ _ _ _ _ from ?_)
            refine wp_region_L (W0 := w) Kl11 (hW37) ?_
            refine lm (v := .int .i64 ((k2 : Nat) : Int)) rfl rfl ?_
            refine lp (v := .int .i64 (((k2 + 1) : Nat) : Int)) rfl rfl (run_bin rfl (vx := (.int .i64 ((k2 : Nat) : Int))) (vy := (.int .i64 ((1 : Nat) : Int))) (by kernel_rfl) (by kernel_rfl) fun w => bn_add (z := (k2 + 1)) rfl (wr_i64 (by omega)) w) ?_
            refine lm (v := .int .i64 (((k2 + 1) : Nat) : Int)) rfl rfl ?_
            refine wpL_done (fun W38 hW38 => ?_)
            go_roundw
            case rel =>
              repeat apply Exists.intro
              exact ⟨⟨k2 + 1, v11, Kl11, (by omega), (own_snoc O11 (by unfold lowB; rw [if_neg (by unfold isCap; simp; omega)]) (low_take hb3)), rfl, rfl, hW38⟩, rfl⟩
            case measure => (show v.length - (intOf (.int .i64 (((k2 + 1) : Nat) : Int))).toNat < v.length - (intOf (.int .i64 ((k2 : Nat) : Int))).toNat); simp only [intOf]; omega
    | true =>
      have h1 : k < l1.length := of_decide_eq_true hd1
      clear hd1
      refine lm (v := .int .i64 ((k : Nat) : Int)) rfl rfl ?_
      refine lp (v := .bool (decide (k < 20))) rfl rfl (run_bin rfl (vx := (.int .i64 ((k : Nat) : Int))) (vy := (.int .i64 ((20 : Nat) : Int))) (by kernel_rfl) (by kernel_rfl) fun w => bn_lss rfl w) ?_
      refine lm (v := .bool (decide (k < 20))) rfl rfl ?_
      refine wpL_done (fun W39 hW39 => ?_)
      refine (show Code.wp _ _ _ _ _ from ?_)
      cases hd8 : (decide (k < 20)) with
      | false =>
        have h8 : ¬ (k < 20) := of_decide_eq_false hd8
        clear hd8
        refine wp_cond_false rfl ?_
        refine wp_exit ?_
        refine (show Code.wp _ _ _ _ _ from ?_)
        refine wp_seq ?_
        refine wp_region_L (W0 := w) [(g1, .cells #[.int .u8 ((d.toNat : Nat) : Int)] 5 (0, 0))] (hW39) ?_
        refine lm (v := .slice none 0 0) rfl rfl ?_
        refine wpL_done (fun W40 hW40 => ?_)
        refine (show Code.wp _ _ _ _ _ from ?_)
        refine wp_seq ?_
        refine wp_seq ?_
        refine wp_region_L (W0 := w) [(g1, .cells #[.int .u8 ((d.toNat : Nat) : Int)] 5 (0, 0))] (hW40) ?_
        refine lm (v := .int .i64 0) rfl rfl ?_
        refine wpL_done (fun W41 hW41 => ?_)
        refine (show Code.wp _ _ _ _ _ from ?_)
        refine wp_block ?_
        have hll := low_len v
        go_loopw [15, 16] (fun u15 u16 wr => ∃ (k2 : Nat) (va : Value) (Kl : List (Nat × Obj)), (k2 ≤ v.length) ∧ (OwnL w 5 1 va ((lowL v).take k2).length (u8s ((lowL v).take k2)) Kl) ∧ va = u15 ∧ u16 = .int .i64 ((k2 : Nat) : Int) ∧ KS w Kl wr) (fun _ u16 _ => v.length - (intOf u16).toNat)
        case atStart => exact ⟨0, (.slice none 0 0), [], (Nat.zero_le _), (OwnL.nil _ _ _), rfl, rfl, (hW41.sub (fun p hp => (.tail _ hp)))⟩
        case round =>
          obtain ⟨k2, va, Kl, hk2, hO, rfl, rfl, hL42⟩ := hrel
          have htk : ((lowL v).take k2).length = k2 := by rw [List.length_take, hll]; omega
          refine wp_seq ?_
          refine wp_seq ?_
          refine wp_region_L (W0 := w) Kl (hL42) ?_
          refine lm (v := .int .i64 ((k2 : Nat) : Int)) rfl rfl ?_
          refine lm (v := strV v) rfl rfl ?_
          refine lp (v := .int .i64 ((v.length : Nat) : Int)) rfl rfl (run_lenS (l := v) rfl Tryd.underlying9 (by kernel_rfl)) ?_
          refine lp (v := .bool (decide (k2 < v.length))) rfl rfl (run_bin rfl (vx := (.int .i64 ((k2 : Nat) : Int))) (vy := (.int .i64 ((v.length : Nat) : Int))) (by kernel_rfl) (by kernel_rfl) fun w => bn_lss rfl w) ?_
          refine wpL_done (fun W43 hW43 => ?_)
          refine (show Code.wp _ _ _ _ _ from ?_)
          cases hd9 : (decide (k2 < v.length)) with
          | false =>
            have h9 : ¬ (k2 < v.length) := of_decide_eq_false hd9
            clear hd9
            rw [List.take_of_length_le (by omega)] at hO
            refine wp_cond_false rfl ?_
            refine wp_exit ?_
            refine (show Code.wp _ _ _ _ _ from ?_)
            refine wp_seq ?_
            refine wp_region_L (W0 := w) Kl (hW43) ?_
            refine lm (v := strV v) rfl rfl ?_
            refine lv (v := .tuple #[strV s, .int .i64 0]) rfl rfl (yb_call (f := 23) (args := #[strV v]) (fun _ => by kernel_rfl) fun W hW => Read_at (read_ok (by omega) hst hjs) W) ?_
            refine lm (v := .tuple #[strV s, .int .i64 0]) rfl rfl ?_
            refine lm (v := strV s) rfl rfl ?_
            refine lm (v := .int .i64 0) rfl rfl ?_
            refine lm (v := strV s) rfl rfl ?_
            refine lm (v := .int .i64 0) rfl rfl ?_
            refine wpL_done (fun W44 hW44 => ?_)
            refine (show Code.wp _ _ _ _ _ from ?_)
            refine wp_seq ?_
            refine wp_region_L (W0 := w) Kl (hW44) ?_
            refine lm (v := va) rfl rfl ?_
            refine lv (v := strV (lowL v)) rfl rfl (yb_strO (W0 := w) (l := (lowL v)) rfl Tryd.underlying31 Tryd.underlying5 Tryd.underlying9 (by kernel_rfl) hO (fun p hp => hp)) ?_
            refine lv (v := .tuple #[strV s, .int .i64 0]) rfl rfl (yb_call (f := 23) (args := #[strV (lowL v)]) (fun _ => by kernel_rfl) fun W hW => Read_at (read_ok (by omega) (by rw [low_all hok]; exact hst) hjs) W) ?_
            refine lm (v := .tuple #[strV s, .int .i64 0]) rfl rfl ?_
            refine lm (v := strV s) rfl rfl ?_
            refine lm (v := .int .i64 0) rfl rfl ?_
            refine lm (v := strV s) rfl rfl ?_
            refine lm (v := .int .i64 0) rfl rfl ?_
            refine wpL_done (fun W45 hW45 => ?_)
            refine (show Code.wp _ _ _ _ _ from ?_)
            refine wp_seq ?_
            refine wp_seq ?_
            refine wp_region_L (W0 := w) Kl (hW45) ?_
            refine lm (v := strV s) rfl rfl ?_
            refine lm (v := strV s) rfl rfl ?_
            refine lp (v := .bool false) rfl rfl (run_bin rfl (vx := strV s) (vy := strV s) (by kernel_rfl) (by kernel_rfl) fun w => bs_neq (decide_eq_true rfl) w) ?_
            refine lm (v := .bool false) rfl rfl ?_
            refine lm (v := .int .i64 0) rfl rfl ?_
            refine lm (v := .bool false) rfl rfl ?_
            refine lm (v := .bool false) rfl rfl ?_
            refine lm (v := .bool false) rfl rfl ?_
            refine lm (v := strV s) rfl rfl ?_
            refine lm (v := strV s) rfl rfl ?_
            refine lp (v := .bool false) rfl rfl (run_bin rfl (vx := strV s) (vy := strV s) (by kernel_rfl) (by kernel_rfl) fun w => bs_neq (decide_eq_true rfl) w) ?_
            refine lm (v := .bool false) rfl rfl ?_
            refine lm (v := .bool false) rfl rfl ?_
            refine lm (v := .int .i64 0) rfl rfl ?_
            refine lm (v := .bool false) rfl rfl ?_
            refine lm (v := .bool false) rfl rfl ?_
            refine wpL_done (fun W46 hW46 => ?_)
            refine (show Code.wp _ _ _ _ _ from ?_)
            refine wp_cond_false rfl ?_
            refine wp_skip ?_
            refine (show Code.wp _ _ _ _ _ from ?_)
            refine wp_seq ?_
            refine wp_seq ?_
            refine wp_region_L (W0 := w) Kl (hW46) ?_
            refine lm (v := .int .u8 48) rfl rfl ?_
            refine wpL_done (fun W47 hW47 => ?_)
            refine (show Code.wp _ _ _ _ _ from ?_)
            refine wp_block ?_
            go_loopw [19] (fun u19 wr => ∃ (cn : Nat), (48 ≤ cn ∧ cn ≤ 58) ∧ u19 = .int .u8 ((cn : Nat) : Int) ∧ KS w Kl wr) (fun u19 _ => 58 - (intOf u19).toNat)
            case atStart => exact ⟨48, (by decide), rfl, hW47⟩
            case round =>
              obtain ⟨cn, hc1, rfl, hL48⟩ := hrel
              obtain ⟨c, rfl⟩ : ∃ c : UInt8, cn = c.toNat := ⟨UInt8.ofNat cn, by rw [UInt8.toNat_ofNat']; omega⟩
              have lc := c.toNat_lt
              refine wp_seq ?_
              refine wp_seq ?_
              refine wp_region_L (W0 := w) Kl (hL48) ?_
              refine lm (v := .int .u8 ((c.toNat : Nat) : Int)) rfl rfl ?_
              refine lp (v := .bool (!(decide (57 < c.toNat)))) rfl rfl (run_bin rfl (vx := (.int .u8 ((c.toNat : Nat) : Int))) (vy := (.int .u8 ((57 : Nat) : Int))) (by kernel_rfl) (by kernel_rfl) fun w => bn_leq rfl w) ?_
              refine wpL_done (fun W49 hW49 => ?_)
              refine (show Code.wp _ _ _ _ _ from ?_)
              cases hd10 : (decide (57 < c.toNat)) with
              | false =>
                have h10 : ¬ (57 < c.toNat) := of_decide_eq_false hd10
                clear hd10
                have hjc := judge_app hfp (d := c) (by omega)
                have hsc : stripL (p ++ [c]) = p ++ [c] := (fit_strip _ 0 (by rw [fitF_app, fit_fit hfp]; simp [fitF, mayB, isDig, hlp]; omega)).1
                have hlc : (p ++ [c]).length ≤ 40 := by simp [hlp]
                refine wp_cond_true rfl ?_
                refine wp_skip ?_
                refine (show Code.wp _ _ _ _ _ from ?_)
                refine wp_seq ?_
                refine wp_block ?_
                refine wp_seq ?_
                refine wp_region_L (W0 := w) Kl (hW49) ?_
                refine lm (v := strV p) rfl rfl ?_
                refine lm (v := .int .u8 ((c.toNat : Nat) : Int)) rfl rfl ?_
                refine wpL_new (fun g => .slice (some ⟨g, 0, none⟩) 1 1) (obi := .cells #[.int .u8 ((c.toNat : Nat) : Int)] 5 (0, 0)) rfl rfl (fun _ => by kernel_rfl) (fun _ => by simp only [List.setIfInBounds_toArray, List.set_cons_succ, List.set_cons_zero] <;> rfl) fun g12 Bg12 Fg12 => ?_
                refine lv (v := strV [c]) rfl rfl (yb_str (n := 1) (cap := 1) (l := [c]) rfl Tryd.underlying31 Tryd.underlying5 Tryd.underlying9 (by kernel_rfl) rfl (.head _) (by first | rfl | (simp [RowB, u8s]; omega))) ?_
                refine lp (v := strV (p ++ [c])) rfl rfl (run_bin rfl (vx := strV p) (vy := strV [c]) (by kernel_rfl) (by kernel_rfl) fun w => bs_add (c := (p ++ [c])) rfl (by simp; omega) w) ?_
                cases hd11 : (decide (c.toNat = d.toNat)) with
                | false =>
                  have h11 : ¬ (c.toNat = d.toNat) := of_decide_eq_false hd11
                  clear hd11
                  rw [if_neg (by omega)] at hjc
                  refine lv (v := .tuple #[strV [], .int .i64 31]) rfl rfl (yb_call (f := 23) (args := #[strV (p ++ [c])]) (fun _ => by kernel_rfl) fun W hW => Read_at (read_no hlc hsc hjc) W) ?_
                  refine lm (v := .tuple #[strV [], .int .i64 31]) rfl rfl ?_
                  refine lm (v := strV []) rfl rfl ?_
                  refine lm (v := .int .i64 31) rfl rfl ?_
                  refine lm (v := strV []) rfl rfl ?_
                  refine lm (v := .int .i64 31) rfl rfl ?_
                  refine wpL_done (fun W50 hW50 => ?_)
                  refine (show Code.wp _ _ _ _ _ from ?_)
                  refine wp_seq ?_
                  refine wp_region_L (W0 := w) ((g12, .cells #[.int .u8 ((c.toNat : Nat) : Int)] 5 (0, 0)) :: Kl) (hW50) ?_
                  refine lm (v := .int .i64 31) rfl rfl ?_
                  refine lm (v := .bool false) rfl rfl ?_
                  refine lm (v := .int .u8 ((c.toNat : Nat) : Int)) rfl rfl ?_
                  refine lm (v := .int .u8 ((d.toNat : Nat) : Int)) rfl rfl ?_
                  refine lp (v := .bool false) rfl rfl (run_bin rfl (vx := (.int .u8 ((c.toNat : Nat) : Int))) (vy := (.int .u8 ((d.toNat : Nat) : Int))) (by kernel_rfl) (by kernel_rfl) fun w => bn_eql (decide_eq_false (by assumption)) w) ?_
                  refine lm (v := .bool false) rfl rfl ?_
                  refine lm (v := .bool false) rfl rfl ?_
                  refine lm (v := .int .i64 31) rfl rfl ?_
                  refine lm (v := .bool true) rfl rfl ?_
                  refine lm (v := .bool true) rfl rfl ?_
                  refine lm (v := .int .i64 31) rfl rfl ?_
                  refine lm (v := .bool false) rfl rfl ?_
                  refine lm (v := .bool false) rfl rfl ?_
                  refine lm (v := strV []) rfl rfl ?_
                  refine lp (v := .bool false) rfl rfl (run_bin rfl (vx := strV []) (vy := strV []) (by kernel_rfl) (by kernel_rfl) fun w => bs_neq (decide_eq_true rfl) w) ?_
                  refine lm (v := .bool false) rfl rfl ?_
                  refine lm (v := .bool false) rfl rfl ?_
                  refine lm (v := .bool false) rfl rfl ?_
                  refine wpL_done (fun W51 hW51 => ?_)
                  refine (show Code.wp _ _ _ _ _ from ?_)
                  refine wp_cond_false rfl ?_
                  refine wp_skip ?_
                  refine (show Code.wp _ _ _ _ _ from ?_)
                  refine wp_region_L (W0 := w) ((g12, .cells #[.int .u8 ((c.toNat : Nat) : Int)] 5 (0, 0)) :: Kl) (hW51) ?_
                  refine lm (v := .int .u8 ((c.toNat : Nat) : Int)) rfl rfl ?_
                  refine lp (v := .int .u8 (((c.toNat + 1) : Nat) : Int)) rfl rfl (run_bin rfl (vx := (.int .u8 ((c.toNat : Nat) : Int))) (vy := (.int .u8 ((1 : Nat) : Int))) (by kernel_rfl) (by kernel_rfl) fun w => bn_add (z := (c.toNat + 1)) rfl (wr_u8 (by omega)) w) ?_
                  refine lm (v := .int .u8 (((c.toNat + 1) : Nat) : Int)) rfl rfl ?_
                  refine wpL_done (fun W52 hW52 => ?_)
                  go_roundw
                  case rel =>
                    repeat apply Exists.intro
                    exact ⟨⟨(c.toNat + 1), (by omega), rfl, (hW52.sub (fun p hp => (.tail _ hp)))⟩, rfl⟩
                  case measure => (show 58 - (intOf (.int .u8 (((c.toNat + 1) : Nat) : Int))).toNat < 58 - (intOf (.int .u8 ((c.toNat : Nat) : Int))).toNat); simp only [intOf]; omega
                | true =>
                  have h11 : c.toNat = d.toNat := of_decide_eq_true hd11
                  clear hd11
                  rw [if_pos (by omega)] at hjc
                  refine lv (v := .tuple #[strV (p ++ [c]), .int .i64 0]) rfl rfl (yb_call (f := 23) (args := #[strV (p ++ [c])]) (fun _ => by kernel_rfl) fun W hW => Read_at (read_ok hlc hsc hjc) W) ?_
                  refine lm (v := .tuple #[strV (p ++ [c]), .int .i64 0]) rfl rfl ?_
                  refine lm (v := strV (p ++ [c])) rfl rfl ?_
                  refine lm (v := .int .i64 0) rfl rfl ?_
                  refine lm (v := strV (p ++ [c])) rfl rfl ?_
                  refine lm (v := .int .i64 0) rfl rfl ?_
                  refine wpL_done (fun W53 hW53 => ?_)
                  refine (show Code.wp _ _ _ _ _ from ?_)
                  refine wp_seq ?_
                  refine wp_region_L (W0 := w) ((g12, .cells #[.int .u8 ((c.toNat : Nat) : Int)] 5 (0, 0)) :: Kl) (hW53) ?_
                  refine lm (v := .int .i64 0) rfl rfl ?_
                  refine lm (v := .bool true) rfl rfl ?_
                  refine lm (v := .int .u8 ((c.toNat : Nat) : Int)) rfl rfl ?_
                  refine lm (v := .int .u8 ((d.toNat : Nat) : Int)) rfl rfl ?_
                  refine lp (v := .bool true) rfl rfl (run_bin rfl (vx := (.int .u8 ((c.toNat : Nat) : Int))) (vy := (.int .u8 ((d.toNat : Nat) : Int))) (by kernel_rfl) (by kernel_rfl) fun w => bn_eql (decide_eq_true (by assumption)) w) ?_
                  refine lm (v := .bool false) rfl rfl ?_
                  refine lm (v := .bool false) rfl rfl ?_
                  refine lm (v := .int .i64 0) rfl rfl ?_
                  refine lm (v := .bool false) rfl rfl ?_
                  refine lm (v := .bool false) rfl rfl ?_
                  refine ln rfl ?_
                  refine ln rfl ?_
                  refine ln rfl ?_
                  refine ln rfl ?_
                  refine ln rfl ?_
                  refine ln rfl ?_
                  refine lm (v := .bool false) rfl rfl ?_
                  refine lm (v := .bool false) rfl rfl ?_
                  refine wpL_done (fun W54 hW54 => ?_)
                  refine (show Code.wp _ _ _ _ _ from ?_)
                  refine wp_cond_false rfl ?_
                  refine wp_skip ?_
                  refine (show Code.wp _ _ _ _ _ from ?_)
                  refine wp_region_L (W0 := w) ((g12, .cells #[.int .u8 ((c.toNat : Nat) : Int)] 5 (0, 0)) :: Kl) (hW54) ?_
                  refine lm (v := .int .u8 ((c.toNat : Nat) : Int)) rfl rfl ?_
                  refine lp (v := .int .u8 (((c.toNat + 1) : Nat) : Int)) rfl rfl (run_bin rfl (vx := (.int .u8 ((c.toNat : Nat) : Int))) (vy := (.int .u8 ((1 : Nat) : Int))) (by kernel_rfl) (by kernel_rfl) fun w => bn_add (z := (c.toNat + 1)) rfl (wr_u8 (by omega)) w) ?_
                  refine lm (v := .int .u8 (((c.toNat + 1) : Nat) : Int)) rfl rfl ?_
                  refine wpL_done (fun W55 hW55 => ?_)
                  go_roundw
                  case rel =>
                    repeat apply Exists.intro
                    exact ⟨⟨(c.toNat + 1), (by omega), rfl, (hW55.sub (fun p hp => (.tail _ hp)))⟩, rfl⟩
                  case measure => (show 58 - (intOf (.int .u8 (((c.toNat + 1) : Nat) : Int))).toNat < 58 - (intOf (.int .u8 ((c.toNat : Nat) : Int))).toNat); simp only [intOf]; omega
              | true =>
                have h10 : 57 < c.toNat := of_decide_eq_true hd10
                clear hd10
                refine wp_cond_false rfl ?_
                refine wp_exit ?_
                refine (show Code.wp _ _ _ _ _ from ?_)
                refine wp_seq ?_
                refine wp_region_L (W0 := w) Kl (hW49) ?_
                refine lm (v := .bool true) rfl rfl ?_
                refine wpL_done (fun W56 hW56 => ?_)
                refine (show Code.wp _ _ _ _ _ from ?_)
                refine wp_ret ?_
                try simp only [inBlock_ret, then_ret]
                refine bodyPost_ret (v := .bool true) ?_ rfl ?_
                · kernel_rfl
                · exact ⟨rfl, hW56.1⟩
          | true =>
            have h9 : k2 < v.length := of_decide_eq_true hd9
            clear hd9
            refine wp_cond_true rfl ?_
            refine wp_skip ?_
            refine (show Code.wp _ _ _ _ _ from ?_)
            refine wp_seq ?_
            refine wp_block ?_
            refine wp_seq ?_
            refine wp_region_L (W0 := w) Kl (hW43) ?_
            refine lm (v := strV v) rfl rfl ?_
            refine lm (v := .int .i64 ((k2 : Nat) : Int)) rfl rfl ?_
            obtain ⟨b13, hb13⟩ : ∃ b, (v : List UInt8)[k2]? = some b := ⟨_, List.getElem?_eq_getElem (by omega)⟩
            have lb13 := b13.toNat_lt
            refine lp (v := .int .u8 ((b13.toNat : Nat) : Int)) rfl rfl (run_idxS (j := .i64) (l := v) (k := k2) (b := b13) rfl Tryd.underlying9 (by kernel_rfl) (by kernel_rfl) hb13) ?_
            refine lp (v := .bool (!(decide (b13.toNat < 65)))) rfl rfl (run_bin rfl (vx := (.int .u8 ((b13.toNat : Nat) : Int))) (vy := (.int .u8 ((65 : Nat) : Int))) (by kernel_rfl) (by kernel_rfl) fun w => bn_geq rfl w) ?_
            refine lm (v := .bool (!(decide (b13.toNat < 65)))) rfl rfl ?_
            cases hd12 : (decide (b13.toNat < 65)) with
            | false =>
              have h12 : ¬ (b13.toNat < 65) := of_decide_eq_false hd12
              clear hd12
              refine lm (v := strV v) rfl rfl ?_
              refine lm (v := .int .i64 ((k2 : Nat) : Int)) rfl rfl ?_
              refine lp (v := .int .u8 ((b13.toNat : Nat) : Int)) rfl rfl (run_idxS (j := .i64) (l := v) (k := k2) (b := b13) rfl Tryd.underlying9 (by kernel_rfl) (by kernel_rfl) hb13) ?_
              refine lp (v := .bool (!(decide (90 < b13.toNat)))) rfl rfl (run_bin rfl (vx := (.int .u8 ((b13.toNat : Nat) : Int))) (vy := (.int .u8 ((90 : Nat) : Int))) (by kernel_rfl) (by kernel_rfl) fun w => bn_leq rfl w) ?_
              refine lm (v := .bool (!(decide (90 < b13.toNat)))) rfl rfl ?_
              refine lm (v := .bool (!(decide (90 < b13.toNat)))) rfl rfl ?_
              cases hd13 : (decide (90 < b13.toNat)) with
              | false =>
                have h13 : ¬ (90 < b13.toNat) := of_decide_eq_false hd13
                clear hd13
                refine lm (v := .int .i64 ((k2 : Nat) : Int)) rfl rfl ?_
                refine lp (v := .int .i64 (((k2 % 2) : Nat) : Int)) rfl rfl (run_bin rfl (vx := (.int .i64 ((k2 : Nat) : Int))) (vy := (.int .i64 ((2 : Nat) : Int))) (by kernel_rfl) (by kernel_rfl) fun w => bn_rem (z := (k2 % 2)) rfl (by omega) w) ?_
                refine lp (v := .bool (decide ((k2 % 2) = 0))) rfl rfl (run_bin rfl (vx := (.int .i64 (((k2 % 2) : Nat) : Int))) (vy := (.int .i64 ((0 : Nat) : Int))) (by kernel_rfl) (by kernel_rfl) fun w => bn_eql rfl w) ?_
                refine lm (v := .bool (decide ((k2 % 2) = 0))) rfl rfl ?_
                refine wpL_done (fun W57 hW57 => ?_)
                refine (show Code.wp _ _ _ _ _ from ?_)
                cases hd14 : (decide ((k2 % 2) = 0)) with
                | false =>
                  have h14 : ¬ ((k2 % 2) = 0) := of_decide_eq_false hd14
                  clear hd14
                  refine wp_cond_false rfl ?_
                  refine wp_region_L (W0 := w) Kl (hW57) ?_
                  refine lm (v := va) rfl rfl ?_
                  refine lm (v := strV v) rfl rfl ?_
                  refine lm (v := .int .i64 ((k2 : Nat) : Int)) rfl rfl ?_
                  refine lp (v := .int .u8 ((b13.toNat : Nat) : Int)) rfl rfl (run_idxS (j := .i64) (l := v) (k := k2) (b := b13) rfl Tryd.underlying9 (by kernel_rfl) (by kernel_rfl) hb13) ?_
                  refine wpL_new (fun g => .slice (some ⟨g, 0, none⟩) 1 1) (obi := .cells #[.int .u8 ((b13.toNat : Nat) : Int)] 5 (0, 0)) rfl rfl (fun _ => by kernel_rfl) (fun _ => by simp only [List.setIfInBounds_toArray, List.set_cons_succ, List.set_cons_zero] <;> rfl) fun g14 Bg14 Fg14 => ?_
                  refine wpL_g (AppO w 5 1 [] ((((lowL v).take k2).length) + 1) ((u8s ((lowL v).take k2)) ++ [.int .u8 ((b13.toNat : Nat) : Int)])) rfl rfl (app_own el_u8 (m := 1) (c := 1) (news := [.int .u8 ((b13.toNat : Nat) : Int)]) rfl (by kernel_rfl) (by kernel_rfl) (.head _) hO (fun p hp => (.tail _ hp)) (List.forall_mem_nil _) rfl (by simp [Value.oneCell']) (by omega) (by omega) (by omega)) (fun _ => by simp only [List.setIfInBounds_toArray, List.set_cons_succ, List.set_cons_zero] <;> rfl) ?_
                  rintro v15 Kl15 ⟨_, O15, N15, rfl⟩
                  refine lm (v := v15) rfl rfl ?_
                  refine wpL_done (fun W58 hW58 => ?_)
                  refine (show Code.wp _ _ _ _ _ from ?_)
                  refine wp_region_L (W0 := w) Kl15 (hW58) ?_
                  refine lm (v := .int .i64 ((k2 : Nat) : Int)) rfl rfl ?_
                  refine lp (v := .int .i64 (((k2 + 1) : Nat) : Int)) rfl rfl (run_bin rfl (vx := (.int .i64 ((k2 : Nat) : Int))) (vy := (.int .i64 ((1 : Nat) : Int))) (by kernel_rfl) (by kernel_rfl) fun w => bn_add (z := (k2 + 1)) rfl (wr_i64 (by omega)) w) ?_
                  refine lm (v := .int .i64 (((k2 + 1) : Nat) : Int)) rfl rfl ?_
                  refine wpL_done (fun W59 hW59 => ?_)
                  go_roundw
                  case rel =>
                    repeat apply Exists.intro
                    exact ⟨⟨k2 + 1, v15, Kl15, (by omega), (own_snoc O15 (by unfold lowB; rw [if_neg (by omega)]) (low_take hb13)), rfl, rfl, hW59⟩, rfl⟩
                  case measure => (show v.length - (intOf (.int .i64 (((k2 + 1) : Nat) : Int))).toNat < v.length - (intOf (.int .i64 ((k2 : Nat) : Int))).toNat); simp only [intOf]; omega
                | true =>
                  have h14 : (k2 % 2) = 0 := of_decide_eq_true hd14
                  clear hd14
                  refine wp_cond_true rfl ?_
                  refine wp_region_L (W0 := w) Kl (hW57) ?_
                  refine lm (v := va) rfl rfl ?_
                  refine lm (v := strV v) rfl rfl ?_
                  refine lm (v := .int .i64 ((k2 : Nat) : Int)) rfl rfl ?_
                  refine lp (v := .int .u8 ((b13.toNat : Nat) : Int)) rfl rfl (run_idxS (j := .i64) (l := v) (k := k2) (b := b13) rfl Tryd.underlying9 (by kernel_rfl) (by kernel_rfl) hb13) ?_
                  refine lp (v := .int .u8 (((b13.toNat + 32) : Nat) : Int)) rfl rfl (run_bin rfl (vx := (.int .u8 ((b13.toNat : Nat) : Int))) (vy := (.int .u8 ((32 : Nat) : Int))) (by kernel_rfl) (by kernel_rfl) fun w => bn_add (z := (b13.toNat + 32)) rfl (wr_u8 (by omega)) w) ?_
                  refine wpL_new (fun g => .slice (some ⟨g, 0, none⟩) 1 1) (obi := .cells #[.int .u8 (((b13.toNat + 32) : Nat) : Int)] 5 (0, 0)) rfl rfl (fun _ => by kernel_rfl) (fun _ => by simp only [List.setIfInBounds_toArray, List.set_cons_succ, List.set_cons_zero] <;> rfl) fun g16 Bg16 Fg16 => ?_
                  refine wpL_g (AppO w 5 1 [] ((((lowL v).take k2).length) + 1) ((u8s ((lowL v).take k2)) ++ [.int .u8 (((b13.toNat + 32) : Nat) : Int)])) rfl rfl (app_own el_u8 (m := 1) (c := 1) (news := [.int .u8 (((b13.toNat + 32) : Nat) : Int)]) rfl (by kernel_rfl) (by kernel_rfl) (.head _) hO (fun p hp => (.tail _ hp)) (List.forall_mem_nil _) rfl (by simp [Value.oneCell']) (by omega) (by omega) (by omega)) (fun _ => by simp only [List.setIfInBounds_toArray, List.set_cons_succ, List.set_cons_zero] <;> rfl) ?_
                  rintro v17 Kl17 ⟨_, O17, N17, rfl⟩
                  refine lm (v := v17) rfl rfl ?_
                  refine wpL_done (fun W60 hW60 => ?_)
                  refine (show Code.wp _ _ _ _ _ from ?_)
                  refine wp_region_L (W0 := w) Kl17 (hW60) ?_
                  refine lm (v := .int .i64 ((k2 : Nat) : Int)) rfl rfl ?_
                  refine lp (v := .int .i64 (((k2 + 1) : Nat) : Int)) rfl rfl (run_bin rfl (vx := (.int .i64 ((k2 : Nat) : Int))) (vy := (.int .i64 ((1 : Nat) : Int))) (by kernel_rfl) (by kernel_rfl) fun w => bn_add (z := (k2 + 1)) rfl (wr_i64 (by omega)) w) ?_
                  refine lm (v := .int .i64 (((k2 + 1) : Nat) : Int)) rfl rfl ?_
                  refine wpL_done (fun W61 hW61 => ?_)
                  go_roundw
                  case rel =>
                    repeat apply Exists.intro
                    exact ⟨⟨k2 + 1, v17, Kl17, (by omega), (own_snoc O17 (by unfold lowB; rw [if_pos ⟨by unfold isCap; simp; omega, by omega⟩, UInt8.toNat_ofNat']; omega) (low_take hb13)), rfl, rfl, hW61⟩, rfl⟩
                  case measure => (show v.length - (intOf (.int .i64 (((k2 + 1) : Nat) : Int))).toNat < v.length - (intOf (.int .i64 ((k2 : Nat) : Int))).toNat); simp only [intOf]; omega
              | true =>
                have h13 : 90 < b13.toNat := of_decide_eq_true hd13
                clear hd13
                refine ln rfl ?_
                refine ln rfl ?_
                refine ln rfl ?_
                refine lm (v := .bool false) rfl rfl ?_
                refine wpL_done (fun W62 hW62 => ?_)
                refine (show Code.wp _ _ _ _ _ from ?_)
                refine wp_cond_false rfl ?_
                refine wp_region_L (W0 := w) Kl (hW62) ?_
                refine lm (v := va) rfl rfl ?_
                refine lm (v := strV v) rfl rfl ?_
                refine lm (v := .int .i64 ((k2 : Nat) : Int)) rfl rfl ?_
                refine lp (v := .int .u8 ((b13.toNat : Nat) : Int)) rfl rfl (run_idxS (j := .i64) (l := v) (k := k2) (b := b13) rfl Tryd.underlying9 (by kernel_rfl) (by kernel_rfl) hb13) ?_
                refine wpL_new (fun g => .slice (some ⟨g, 0, none⟩) 1 1) (obi := .cells #[.int .u8 ((b13.toNat : Nat) : Int)] 5 (0, 0)) rfl rfl (fun _ => by kernel_rfl) (fun _ => by simp only [List.setIfInBounds_toArray, List.set_cons_succ, List.set_cons_zero] <;> rfl) fun g18 Bg18 Fg18 => ?_
                refine wpL_g (AppO w 5 1 [] ((((lowL v).take k2).length) + 1) ((u8s ((lowL v).take k2)) ++ [.int .u8 ((b13.toNat : Nat) : Int)])) rfl rfl (app_own el_u8 (m := 1) (c := 1) (news := [.int .u8 ((b13.toNat : Nat) : Int)]) rfl (by kernel_rfl) (by kernel_rfl) (.head _) hO (fun p hp => (.tail _ hp)) (List.forall_mem_nil _) rfl (by simp [Value.oneCell']) (by omega) (by omega) (by omega)) (fun _ => by simp only [List.setIfInBounds_toArray, List.set_cons_succ, List.set_cons_zero] <;> rfl) ?_
                rintro v19 Kl19 ⟨_, O19, N19, rfl⟩
                refine lm (v := v19) rfl rfl ?_
                refine wpL_done (fun W63 hW63 => ?_)
                refine (show Code.wp _ _ _ _ _ from ?_)
                refine wp_region_L (W0 := w) Kl19 (hW63) ?_
                refine lm (v := .int .i64 ((k2 : Nat) : Int)) rfl rfl ?_
                refine lp (v := .int .i64 (((k2 + 1) : Nat) : Int)) rfl rfl (run_bin rfl (vx := (.int .i64 ((k2 : Nat) : Int))) (vy := (.int .i64 ((1 : Nat) : Int))) (by kernel_rfl) (by kernel_rfl) fun w => bn_add (z := (k2 + 1)) rfl (wr_i64 (by omega)) w) ?_
                refine lm (v := .int .i64 (((k2 + 1) : Nat) : Int)) rfl rfl ?_
                refine wpL_done (fun W64 hW64 => ?_)
                go_roundw
                case rel =>
                  repeat apply Exists.intro
                  exact ⟨⟨k2 + 1, v19, Kl19, (by omega), (own_snoc O19 (by unfold lowB; rw [if_neg (by unfold isCap; simp; omega)]) (low_take hb13)), rfl, rfl, hW64⟩, rfl⟩
                case measure => (show v.length - (intOf (.int .i64 (((k2 + 1) : Nat) : Int))).toNat < v.length - (intOf (.int .i64 ((k2 : Nat) : Int))).toNat); simp only [intOf]; omega
            | true =>
              have h12 : b13.toNat < 65 := of_decide_eq_true hd12
              clear hd12
              refine ln rfl ?_
              refine ln rfl ?_
              refine ln rfl ?_
              refine ln rfl ?_
              refine lm (v := .bool false) rfl rfl ?_
              refine lm (v := .bool false) rfl rfl ?_
              refine ln rfl ?_
              refine ln rfl ?_
              refine ln rfl ?_
              refine lm (v := .bool false) rfl rfl ?_
              refine wpL_done (fun W65 hW65 => ?_)
              refine (show Code.wp _ _ _ _ _ from ?_)
              refine wp_cond_false rfl ?_
              refine wp_region_L (W0 := w) Kl (hW65) ?_
              refine lm (v := va) rfl rfl ?_
              refine lm (v := strV v) rfl rfl ?_
              refine lm (v := .int .i64 ((k2 : Nat) : Int)) rfl rfl ?_
              refine lp (v := .int .u8 ((b13.toNat : Nat) : Int)) rfl rfl (run_idxS (j := .i64) (l := v) (k := k2) (b := b13) rfl Tryd.underlying9 (by kernel_rfl) (by kernel_rfl) hb13) ?_
              refine wpL_new (fun g => .slice (some ⟨g, 0, none⟩) 1 1) (obi := .cells #[.int .u8 ((b13.toNat : Nat) : Int)] 5 (0, 0)) rfl rfl (fun _ => by kernel_rfl) (fun _ => by simp only [List.setIfInBounds_toArray, List.set_cons_succ, List.set_cons_zero] <;> rfl) fun g20 Bg20 Fg20 => ?_
              refine wpL_g (AppO w 5 1 [] ((((lowL v).take k2).length) + 1) ((u8s ((lowL v).take k2)) ++ [.int .u8 ((b13.toNat : Nat) : Int)])) rfl rfl (app_own el_u8 (m := 1) (c := 1) (news := [.int .u8 ((b13.toNat : Nat) : Int)]) rfl (by kernel_rfl) (by kernel_rfl) (.head _) hO (fun p hp => (.tail _ hp)) (List.forall_mem_nil _) rfl (by simp [Value.oneCell']) (by omega) (by omega) (by omega)) (fun _ => by simp only [List.setIfInBounds_toArray, List.set_cons_succ, List.set_cons_zero] <;> rfl) ?_
              rintro v21 Kl21 ⟨_, O21, N21, rfl⟩
              refine lm (v := v21) rfl rfl ?_
              refine wpL_done (fun W66 hW66 => ?_)
              refine (show Code.wp _ _ _ _ _ from ?_)
              refine wp_region_L (W0 := w) Kl21 (hW66) ?_
              refine lm (v := .int .i64 ((k2 : Nat) : Int)) rfl rfl ?_
              refine lp (v := .int .i64 (((k2 + 1) : Nat) : Int)) rfl rfl (run_bin rfl (vx := (.int .i64 ((k2 : Nat) : Int))) (vy := (.int .i64 ((1 : Nat) : Int))) (by kernel_rfl) (by kernel_rfl) fun w => bn_add (z := (k2 + 1)) rfl (wr_i64 (by omega)) w) ?_
              refine lm (v := .int .i64 (((k2 + 1) : Nat) : Int)) rfl rfl ?_
              refine wpL_done (fun W67 hW67 => ?_)
              go_roundw
              case rel =>
                repeat apply Exists.intro
                exact ⟨⟨k2 + 1, v21, Kl21, (by omega), (own_snoc O21 (by unfold lowB; rw [if_neg (by unfold isCap; simp; omega)]) (low_take hb13)), rfl, rfl, hW67⟩, rfl⟩
              case measure => (show v.length - (intOf (.int .i64 (((k2 + 1) : Nat) : Int))).toNat < v.length - (intOf (.int .i64 ((k2 : Nat) : Int))).toNat); simp only [intOf]; omega
      | true =>
        have h8 : k < 20 := of_decide_eq_true hd8
        clear hd8
        refine wp_cond_true rfl ?_
        refine wp_skip ?_
        refine (show Code.wp _ _ _ _ _ from ?_)
        refine wp_seq ?_
        refine wp_block ?_
        refine wp_seq ?_
        refine wp_region_L (W0 := w) [(g1, .cells #[.int .u8 ((d.toNat : Nat) : Int)] 5 (0, 0))] (hW39) ?_
        refine lm (v := .slice p1 l1.length c1) rfl rfl ?_
        refine lm (v := .int .i64 ((k : Nat) : Int)) rfl rfl ?_
        obtain ⟨y, hy⟩ : ∃ y, l1[k]? = some y := ⟨_, List.getElem?_eq_getElem (by omega)⟩
        obtain ⟨bb, ob, hpb, hcb⟩ := HB.out.2.resolve_left (fun e => by rw [e] at hy; simp at hy)
        have hyc := hcb k y hy
        have hyr := HB.out.1 y (List.mem_of_getElem? hy)
        have ltb := World.block_lt_of_cell? _ _ hyc
        refine lp (v := .pointer (some ⟨bb, ob + k * 1, none⟩)) rfl rfl (run_idxQ (p := p1) (cap := c1) (n := l1.length) (j := .i64) (k := k) (sz := 1) rfl Tryd.underlying45 (by kernel_rfl) (by kernel_rfl) hpb (by kernel_rfl) (by omega)) ?_
        refine lv (v := .int .i64 y) rfl rfl (yb_old (off := ob + k * 1) rfl (by kernel_rfl) (by rw [Nat.mul_one]; exact hyc) ltb Tryd.underlying3 rfl) ?_
        refine lm (v := strV v) rfl rfl ?_
        refine lp (v := .int .i64 ((v.length : Nat) : Int)) rfl rfl (run_lenS (l := v) rfl Tryd.underlying9 (by kernel_rfl)) ?_
        refine lp (v := .int .i64 (((v.length + 1) : Nat) : Int)) rfl rfl (run_bin rfl (vx := (.int .i64 ((v.length : Nat) : Int))) (vy := (.int .i64 ((1 : Nat) : Int))) (by kernel_rfl) (by kernel_rfl) fun w => bn_add (z := (v.length + 1)) rfl (wr_i64 (by omega)) w) ?_
        refine lv (v := .int .i64 (((pickN y (v.length + 1)) : Nat) : Int)) rfl rfl (yb_call (f := 19) (args := #[.int .i64 y, .int .i64 (((v.length + 1) : Nat) : Int)]) (fun _ => by kernel_rfl) fun W hW => Pick_any y (by omega) (v.length + 1) (by omega) (by omega) W) ?_
        obtain ⟨at_, hat⟩ : ∃ z, pickN y (v.length + 1) = z := ⟨_, rfl⟩
        have lat := pickN_lt (x := y) (m := v.length + 1) (by omega)
        rw [hat] at lat ⊢
        refine lm (v := .int .i64 ((at_ : Nat) : Int)) rfl rfl ?_
        refine wpL_done (fun W68 hW68 => ?_)
        refine (show Code.wp _ _ _ _ _ from ?_)
        refine wp_region_V (W0 := w) [(g1, .cells #[.int .u8 ((d.toNat : Nat) : Int)] 5 (0, 0))] (by kernel_rfl) (hW68) ?_
        refine vm (i := 0) (v := strV v) rfl rfl rfl ?_
        refine vm (i := 1) (v := .int .i64 ((at_ : Nat) : Int)) rfl rfl rfl ?_
        refine vp (i := 2) (v := strV (v.take at_)) rfl rfl rfl (run_slH (k2 := .i64) (l := v) (r := (v.take at_)) (j := at_) rfl Tryd.underlying9 (by kernel_rfl) (by kernel_rfl) (by omega) rfl) ?_
        refine vm (i := 3) (v := .int .i64 ((k : Nat) : Int)) rfl rfl rfl ?_
        refine vp (i := 4) (v := .int .i64 (((k % 2) : Nat) : Int)) rfl rfl rfl (run_bin rfl (vx := (.int .i64 ((k : Nat) : Int))) (vy := (.int .i64 ((2 : Nat) : Int))) (by kernel_rfl) (by kernel_rfl) fun w => bn_rem (z := (k % 2)) rfl (by omega) w) ?_
        refine vm (i := 5) (v := .int .i64 ((k : Nat) : Int)) rfl rfl rfl ?_
        refine vp (i := 6) (v := .int .i64 (((k % 2) : Nat) : Int)) rfl rfl rfl (run_bin rfl (vx := (.int .i64 ((k : Nat) : Int))) (vy := (.int .i64 ((2 : Nat) : Int))) (by kernel_rfl) (by kernel_rfl) fun w => bn_rem (z := (k % 2)) rfl (by omega) w) ?_
        refine vp (i := 7) (v := .int .i64 ((((k % 2) + 1) : Nat) : Int)) rfl rfl rfl (run_bin rfl (vx := (.int .i64 (((k % 2) : Nat) : Int))) (vy := (.int .i64 ((1 : Nat) : Int))) (by kernel_rfl) (by kernel_rfl) fun w => bn_add (z := ((k % 2) + 1)) rfl (wr_i64 (by omega)) w) ?_
        obtain ⟨c, hcs, hcb⟩ := sep_at (i := k)
        refine vp (i := 8) (v := strV [c]) rfl rfl rfl (run_slT (k1 := .i64) (k2 := .i64) (l := [32, 45]) (r := [c]) (i := (k % 2)) (j := ((k % 2) + 1)) rfl Tryd.underlying9 (by kernel_rfl) (by kernel_rfl) (by kernel_rfl) (by omega) (by simp; omega) hcs) ?_
        refine vp (i := 9) (v := strV ((v.take at_) ++ [c])) rfl rfl rfl (run_bin rfl (vx := strV (v.take at_)) (vy := strV [c]) (by kernel_rfl) (by kernel_rfl) fun w => bs_add (c := ((v.take at_) ++ [c])) rfl (by simp; omega) w) ?_
        refine vm (i := 10) (v := strV v) rfl rfl rfl ?_
        refine vm (i := 11) (v := .int .i64 ((at_ : Nat) : Int)) rfl rfl rfl ?_
        refine vp (i := 12) (v := strV (v.drop at_)) rfl rfl rfl (run_slL (k1 := .i64) (l := v) (r := (v.drop at_)) (i := at_) rfl Tryd.underlying9 (by kernel_rfl) (by kernel_rfl) (by omega) rfl) ?_
        refine vp (i := 13) (v := strV (((v.take at_) ++ [c]) ++ (v.drop at_))) rfl rfl rfl (run_bin rfl (vx := strV ((v.take at_) ++ [c])) (vy := strV (v.drop at_)) (by kernel_rfl) (by kernel_rfl) fun w => bs_add (c := (((v.take at_) ++ [c]) ++ (v.drop at_))) rfl (by simp; omega) w) ?_
        refine vm (i := 14) (v := strV (((v.take at_) ++ [c]) ++ (v.drop at_))) rfl rfl rfl ?_
        refine wpV_done (by kernel_rfl) (fun W69 hW69 => ?_) _
        refine (show Code.wp _ _ _ _ _ from ?_)
        refine wp_region_L (W0 := w) [(g1, .cells #[.int .u8 ((d.toNat : Nat) : Int)] 5 (0, 0))] (hW69) ?_
        refine lm (v := .int .i64 ((k : Nat) : Int)) rfl rfl ?_
        refine lp (v := .int .i64 (((k + 1) : Nat) : Int)) rfl rfl (run_bin rfl (vx := (.int .i64 ((k : Nat) : Int))) (vy := (.int .i64 ((1 : Nat) : Int))) (by kernel_rfl) (by kernel_rfl) fun w => bn_add (z := (k + 1)) rfl (wr_i64 (by omega)) w) ?_
        refine lm (v := .int .i64 (((k + 1) : Nat) : Int)) rfl rfl ?_
        refine wpL_done (fun W70 hW70 => ?_)
        go_roundw
        case rel =>
          repeat apply Exists.intro
          exact ⟨⟨k + 1, (((v.take at_) ++ [c]) ++ (v.drop at_)), (by omega), (by simp; omega), (by rw [strip_blank hcb]; exact hst), (ins_ok hok (blank_ok hcb)), rfl, rfl, hW70⟩, rfl⟩
        case measure => (show 20 - (intOf (.int .i64 (((k + 1) : Nat) : Int))).toNat < 20 - (intOf (.int .i64 ((k : Nat) : Int))).toNat); simp only [intOf]; omega
end Go.Proofs.YtbceajgipmjmlaaDoor
/- IsoBack holds for every input: the program's own answer is true, wherever the listed variables are as the program's text lays them; each argument reads afterwards as it read before. -/
namespace Go.Proofs.YtbceajgipmjmlaaDoor
open Go.ChangeShapes Go.WideShapes Go.ChangeAt Go.RowKit Tw
set_option maxRecDepth 100000 in
theorem isoBack_lifted (os : Os) (started : os.Started) (H : Type) (enc : TypeId × Value → H) :
    ReturnsInHanded {} Tryd.checked os 7 .any (fun w args => (Rows.isoBackSpec.pre enc Tryd.prog Tryd.f7 Rows.isoBackRow.domain false w args ∧ laidMetH Tryd.prog laidN w) ∧ sizedMet enc Tryd.prog Tryd.f7 (OpenSpec.ofChange Rows.isoBackSpec) false w args) (Rows.isoBackSpec.post enc Tryd.prog Tryd.f7 false true false false) := by
  refine handed_and_sized (C := Tryd.checked) (X := fun w => laidMetH Tryd.prog laidN w) (fun _ _ hh h => h.of_heap hh) own started (by kernel_rfl) Tryd.func7
    (ChangeSpec.witness_shaped (enc := enc) (C := Tryd.checked) (os := os) (X := fun w _ => laidMetH Tryd.prog laidN w) false (World.doorLaid Tryd.prog 1000 os) #[.int .u64 0, .slice none 0 0] 8 rfl (World.shaped_of_RefB (by kernel_rfl) (by kernel_rfl)) (by kernel_rfl) (by kernel_rfl) (by kernel_rfl) (door_met os _)) ?_
  intro W base args ds gs before hval0 hW hL hsh hsz
  have hval : ∀ (j : Nat) t v, Tryd.f7.params[j]? = some t → args[j]? = some v → Value.okWide Tryd.prog W .any base t v := hval0
  have hW2 := hW
  obtain ⟨p, q, hA0, hV, rfl, hfz, hnd⟩ := hW2
  have hA : DataW.TrodAll enc Tryd.prog W 0 (fun _ => true) true Tryd.f7.params.toList args.toList ds p := hA0
  rw [Tryd.params7] at hA hval
  obtain ⟨v0, vs0, d0, ds0, p0, q0, hargs, rfl, rfl, h0, r0⟩ := trodAll_cons hA
  obtain ⟨v1, vs1, d1, ds1, p1, q1, rfl, rfl, rfl, h1, r1⟩ := trodAll_cons r0
  obtain ⟨rfl, rfl, rfl⟩ := trodAll_nil r1
  obtain rfl : args = #[v0, v1] := by cases args; simp_all
  obtain ⟨rfl, rfl⟩ := trodVars_none hV
  obtain ⟨a0, rfl, rfl, rfl, w0⟩ := open_int Tryd.underlying33 (hval 0 33 v0 rfl rfl) h0
  have rr0 : 0 ≤ a0 ∧ a0 ≤ 18446744073709551615 := of_wf w0
  have k1 := h1
  have lt1 : ∀ x ∈ p1, x.block < W.heap.size := by obtain ⟨m, hm⟩ := k1; exact DataW.trod_lt m _ _ _ hm
  obtain ⟨p1_, c1, l1, rfl, hb1⟩ := open_nums (hval 1 45 v1 rfl rfl) h1
  clear hA0 hval0
  refine (IsoBack_law W (env_of hL) a0 rr0 l1 p1_ c1 hb1).mono fun e W' ⟨he, bel⟩ => ?_
  subst he
  exact ⟨_, rfl, _, _, _, [], _, [], hW, (trodAll_cons_mk (shut_bool Tryd.underlying4 _) trodAll_mk0), (trodAll_cons_mk (shut_int Tryd.underlying33 w0) (trodAll_cons_mk (Below.trod laidOut (by kernel_rfl) (of_decide_eq_true (by kernel_rfl)) k1 bel lt1) trodAll_mk0)), rfl, bel.frame _, fun h => by cases h⟩
theorem isoBack_said : Rows.IsoBackSaid :=
  OpenClaim.holds_of_wide 7 Tryd.f7 rfl rfl rfl rfl rfl rfl rfl ⟨rfl, rfl, rfl, rfl, rfl⟩ rfl rfl rfl rfl rfl (by kernel_rfl) Tryd.func7 (by kernel_rfl)
    (of_decide_eq_true (by kernel_rfl)) (by unfold Func.isWrapper; first | (rw [if_pos (by decide +kernel)]; kernel_rfl) | (rw [if_neg (by decide +kernel)]; exact ⟨rfl, rfl⟩))
    (fun os started H enc _ => isoBack_lifted os started H enc)
theorem isoBack_proved : Rows.IsoBackCardSaid :=
  Claim7.holds_tied_plain_at .later [] [.data] true Rows.isoBackCard.stood.harness Rows.isoBackCard.stood.looks
    isoBack_said (fun _ h => by cases h) (by kernel_rfl) (fun _ h => by cases h) isoBack_row_tie rfl ⟨rfl, rfl⟩ (by kernel_rfl) rfl
    (fun f fn hf hfn => by
      obtain rfl : f = 7 := Option.some.inj ((show Tryd.prog.funcNamed "twistlock/twistlocklaw03.IsoBack" = some 7 by kernel_rfl).symm.trans hf) |>.symm
      obtain rfl : fn = Tryd.f7 := (Option.some.inj (Tryd.func7.symm.trans hfn)).symm
      exact ⟨by kernel_rfl, fun j t ht => by
        rw [Tryd.params7] at ht
        have hm : t ∈ [33, 45] := by simpa using Array.mem_of_getElem? ht
        have hall : ([33, 45].all fun u => !Tryd.prog.wantsStandIn u) = true := by kernel_rfl
        exact (show Tryd.prog.wantsStandIn t = false by simpa using List.all_eq_true.1 hall t hm)⟩)
    (by kernel_rfl)
#print axioms isoBack_proved
end Go.Proofs.YtbceajgipmjmlaaDoor
