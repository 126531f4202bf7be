import Derived.Test.YtjmcelgdjpdacaaDoorG00
/- Part of the proof: Ce, Id, Ie, Ja, Jb, If, Jc, Jd, Jx. -/
set_option linter.unusedVariables false
set_option linter.unusedSimpArgs false
set_option linter.unusedSectionVars false
namespace Go.Proofs.YtjmcelgdjpdacaaDoor
open Go.RowKit Tw
theorem ap_get : ∀ {l : List (Int × Int)} {bef : Int} {k : Nat} {f t : Int}, apFrom bef l = true → l[k]? = some (f, t) → bef < f ∧ f < t ∧ t ≤ 100000000
  | [], _, _, _, _, _, h => by simp at h
  | s :: l, bef, 0, f, t, h, hg => by
    simp only [List.getElem?_cons_zero, Option.some.injEq] at hg
    subst hg
    simp only [apFrom, Bool.and_eq_true, decide_eq_true_eq] at h
    exact ⟨h.1.1.1, h.1.1.2, h.1.2⟩
  | s :: l, bef, k + 1, f, t, h, hg => by
    simp only [apFrom, Bool.and_eq_true, decide_eq_true_eq] at h
    rw [List.getElem?_cons_succ] at hg
    have := ap_get h.2 hg
    omega
theorem apart_get {l : List (Int × Int)} {k : Nat} {f t : Int} (h : apart l = true) (hg : l[k]? = some (f, t)) : 0 ≤ f ∧ f < t ∧ t ≤ 100000000 := by
  unfold apart at h
  simp only [Bool.and_eq_true, decide_eq_true_eq] at h
  have := ap_get h.2 hg
  omega
theorem apart_len {l : List (Int × Int)} (h : apart l = true) : l.length ≤ 1000 := by
  unfold apart at h
  simp only [Bool.and_eq_true, decide_eq_true_eq] at h
  exact h.1
theorem isT_range {n : Int} (h : isT n = true) : 0 ≤ n ∧ n ≤ 100000000 := by
  unfold isT at h
  simpa using h
def btw (x y : Int) : List (Int × Int) → Int
  | [] => 0
  | s :: l => max 0 (min s.2 y - max s.1 x) + btw x y l
theorem btw_drop {l : List (Int × Int)} {k : Nat} {f t x y : Int} (h : l[k]? = some (f, t)) : btw x y (l.drop k) = max 0 (min t y - max f x) + btw x y (l.drop (k + 1)) := by
  rw [drop_get h]; rfl
set_option maxRecDepth 100000 in
set_option maxHeartbeats 2000000 in
theorem isWork_any (p : Option Addr) (cap : Nat) (l : List (Int × Int)) (w : World) (hcell : SL w p l) (hlen : (l.length : Int) ≤ 9223372036854775806) (x m : Int) : Calls Tryd.prog 57 #[.slice p l.length cap, .int .i64 x, .int .i64 m] w fun e w' => e = .returned (.bool (apart l && isT x && decide (1 ≤ m) && decide (m ≤ 100000000))) ∧ Below w.heap.size w w' := by
  by_cases ha : apart l = true
  · by_cases ht : isT x = true
    · by_cases h1 : 1 ≤ m
      · by_cases h2 : m ≤ 100000000
        · have hap := fun (W : World) (hc : SL W p l) => Apart_any p cap l W hc hlen
          simp only [ha] at hap
          have htm := fun W => isTime_any x W
          simp only [ht] at htm
          have hr : (apart l && isT x && decide (1 ≤ m) && decide (m ≤ 100000000)) = true := by simp [ha, ht, h1, h2]
          rw [hr]
          go_enter Tryd.func57, Tryd.ntmps57
          refine wp_seq ?_
          refine wp_region_L (W0 := w) [] (KS.start w) ?_
          refine lm (v := .bool false) rfl rfl ?_
          refine wpL_done (fun W1 hW1 => ?_)
          refine (show Code.wp _ _ _ _ _ from ?_)
          refine wp_seq ?_
          refine wp_region_L (W0 := w) [] (hW1) ?_
          refine lm (v := .slice p l.length cap) rfl rfl ?_
          refine lv (v := .bool true) rfl rfl (yb_call (f := 27) (args := #[.slice p l.length cap]) (fun _ => by kernel_rfl) fun W hW => hap W (sl_keep hcell hW.1)) ?_
          refine lm (v := .bool true) rfl rfl ?_
          refine lm (v := .int .i64 x) rfl rfl ?_
          refine lv (v := .bool true) rfl rfl (yb_call (f := 64) (args := #[.int .i64 x]) (fun _ => by kernel_rfl) fun W hW => htm W) ?_
          refine lm (v := .bool true) rfl rfl ?_
          refine lm (v := .bool true) rfl rfl ?_
          refine lm (v := .int .i64 m) rfl rfl ?_
          refine lp (v := .bool true) rfl rfl (run_bin rfl (vx := .int .i64 m) (vy := .int .i64 1) (by kernel_rfl) (by kernel_rfl) fun w => run_geqI (decide_eq_true h1) w) ?_
          refine lm (v := .bool true) rfl rfl ?_
          refine lm (v := .bool true) rfl rfl ?_
          refine lm (v := .int .i64 m) rfl rfl ?_
          refine lp (v := .bool true) rfl rfl (run_bin rfl (vx := .int .i64 m) (vy := .int .i64 100000000) (by kernel_rfl) (by kernel_rfl) fun w => run_leqI (decide_eq_true h2) w) ?_
          refine lm (v := .bool true) rfl rfl ?_
          refine lm (v := .bool true) rfl rfl ?_
          refine wpL_done (fun W2 hW2 => ?_)
          clear hW1
          refine (show Code.wp _ _ _ _ _ from ?_)
          refine wp_ret ?_
          try simp only [inBlock_ret, then_ret]
          go_ret
          exact ⟨rfl, hW2.1⟩
        · have hap := fun (W : World) (hc : SL W p l) => Apart_any p cap l W hc hlen
          simp only [ha] at hap
          have htm := fun W => isTime_any x W
          simp only [ht] at htm
          have hr : (apart l && isT x && decide (1 ≤ m) && decide (m ≤ 100000000)) = false := by simp [ha, ht, h1, h2]
          rw [hr]
          go_enter Tryd.func57, Tryd.ntmps57
          refine wp_seq ?_
          refine wp_region_L (W0 := w) [] (KS.start w) ?_
          refine lm (v := .bool false) rfl rfl ?_
          refine wpL_done (fun W1 hW1 => ?_)
          refine (show Code.wp _ _ _ _ _ from ?_)
          refine wp_seq ?_
          refine wp_region_L (W0 := w) [] (hW1) ?_
          refine lm (v := .slice p l.length cap) rfl rfl ?_
          refine lv (v := .bool true) rfl rfl (yb_call (f := 27) (args := #[.slice p l.length cap]) (fun _ => by kernel_rfl) fun W hW => hap W (sl_keep hcell hW.1)) ?_
          refine lm (v := .bool true) rfl rfl ?_
          refine lm (v := .int .i64 x) rfl rfl ?_
          refine lv (v := .bool true) rfl rfl (yb_call (f := 64) (args := #[.int .i64 x]) (fun _ => by kernel_rfl) fun W hW => htm W) ?_
          refine lm (v := .bool true) rfl rfl ?_
          refine lm (v := .bool true) rfl rfl ?_
          refine lm (v := .int .i64 m) rfl rfl ?_
          refine lp (v := .bool true) rfl rfl (run_bin rfl (vx := .int .i64 m) (vy := .int .i64 1) (by kernel_rfl) (by kernel_rfl) fun w => run_geqI (decide_eq_true h1) w) ?_
          refine lm (v := .bool true) rfl rfl ?_
          refine lm (v := .bool true) rfl rfl ?_
          refine lm (v := .int .i64 m) rfl rfl ?_
          refine lp (v := .bool false) rfl rfl (run_bin rfl (vx := .int .i64 m) (vy := .int .i64 100000000) (by kernel_rfl) (by kernel_rfl) fun w => run_leqI (decide_eq_false h2) w) ?_
          refine lm (v := .bool false) rfl rfl ?_
          refine lm (v := .bool false) rfl rfl ?_
          refine wpL_done (fun W2 hW2 => ?_)
          clear hW1
          refine (show Code.wp _ _ _ _ _ from ?_)
          refine wp_ret ?_
          try simp only [inBlock_ret, then_ret]
          go_ret
          exact ⟨rfl, hW2.1⟩
      · have hap := fun (W : World) (hc : SL W p l) => Apart_any p cap l W hc hlen
        simp only [ha] at hap
        have htm := fun W => isTime_any x W
        simp only [ht] at htm
        have hr : (apart l && isT x && decide (1 ≤ m) && decide (m ≤ 100000000)) = false := by simp [ha, ht, h1]
        rw [hr]
        go_enter Tryd.func57, Tryd.ntmps57
        refine wp_seq ?_
        refine wp_region_L (W0 := w) [] (KS.start w) ?_
        refine lm (v := .bool false) rfl rfl ?_
        refine wpL_done (fun W1 hW1 => ?_)
        refine (show Code.wp _ _ _ _ _ from ?_)
        refine wp_seq ?_
        refine wp_region_L (W0 := w) [] (hW1) ?_
        refine lm (v := .slice p l.length cap) rfl rfl ?_
        refine lv (v := .bool true) rfl rfl (yb_call (f := 27) (args := #[.slice p l.length cap]) (fun _ => by kernel_rfl) fun W hW => hap W (sl_keep hcell hW.1)) ?_
        refine lm (v := .bool true) rfl rfl ?_
        refine lm (v := .int .i64 x) rfl rfl ?_
        refine lv (v := .bool true) rfl rfl (yb_call (f := 64) (args := #[.int .i64 x]) (fun _ => by kernel_rfl) fun W hW => htm W) ?_
        refine lm (v := .bool true) rfl rfl ?_
        refine lm (v := .bool true) rfl rfl ?_
        refine lm (v := .int .i64 m) rfl rfl ?_
        refine lp (v := .bool false) rfl rfl (run_bin rfl (vx := .int .i64 m) (vy := .int .i64 1) (by kernel_rfl) (by kernel_rfl) fun w => run_geqI (decide_eq_false h1) w) ?_
        refine lm (v := .bool false) rfl rfl ?_
        refine lm (v := .bool false) rfl rfl ?_
        refine ln rfl ?_
        refine ln rfl ?_
        refine lm (v := .bool false) rfl rfl ?_
        refine lm (v := .bool false) rfl rfl ?_
        refine wpL_done (fun W2 hW2 => ?_)
        clear hW1
        refine (show Code.wp _ _ _ _ _ from ?_)
        refine wp_ret ?_
        try simp only [inBlock_ret, then_ret]
        go_ret
        exact ⟨rfl, hW2.1⟩
    · have hap := fun (W : World) (hc : SL W p l) => Apart_any p cap l W hc hlen
      simp only [ha] at hap
      have htm := fun W => isTime_any x W
      simp only [(Bool.not_eq_true _).mp ht] at htm
      have hr : (apart l && isT x && decide (1 ≤ m) && decide (m ≤ 100000000)) = false := by simp [ha, (Bool.not_eq_true _).mp ht]
      rw [hr]
      go_enter Tryd.func57, Tryd.ntmps57
      refine wp_seq ?_
      refine wp_region_L (W0 := w) [] (KS.start w) ?_
      refine lm (v := .bool false) rfl rfl ?_
      refine wpL_done (fun W1 hW1 => ?_)
      refine (show Code.wp _ _ _ _ _ from ?_)
      refine wp_seq ?_
      refine wp_region_L (W0 := w) [] (hW1) ?_
      refine lm (v := .slice p l.length cap) rfl rfl ?_
      refine lv (v := .bool true) rfl rfl (yb_call (f := 27) (args := #[.slice p l.length cap]) (fun _ => by kernel_rfl) fun W hW => hap W (sl_keep hcell hW.1)) ?_
      refine lm (v := .bool true) rfl rfl ?_
      refine lm (v := .int .i64 x) rfl rfl ?_
      refine lv (v := .bool false) rfl rfl (yb_call (f := 64) (args := #[.int .i64 x]) (fun _ => by kernel_rfl) fun W hW => htm W) ?_
      refine lm (v := .bool false) rfl rfl ?_
      refine lm (v := .bool false) rfl rfl ?_
      refine ln rfl ?_
      refine ln rfl ?_
      refine lm (v := .bool false) rfl rfl ?_
      refine lm (v := .bool false) rfl rfl ?_
      refine ln rfl ?_
      refine ln rfl ?_
      refine lm (v := .bool false) rfl rfl ?_
      refine lm (v := .bool false) rfl rfl ?_
      refine wpL_done (fun W2 hW2 => ?_)
      clear hW1
      refine (show Code.wp _ _ _ _ _ from ?_)
      refine wp_ret ?_
      try simp only [inBlock_ret, then_ret]
      go_ret
      exact ⟨rfl, hW2.1⟩
  · have hap := fun (W : World) (hc : SL W p l) => Apart_any p cap l W hc hlen
    simp only [(Bool.not_eq_true _).mp ha] at hap
    have hr : (apart l && isT x && decide (1 ≤ m) && decide (m ≤ 100000000)) = false := by simp [(Bool.not_eq_true _).mp ha]
    rw [hr]
    go_enter Tryd.func57, Tryd.ntmps57
    refine wp_seq ?_
    refine wp_region_L (W0 := w) [] (KS.start w) ?_
    refine lm (v := .bool false) rfl rfl ?_
    refine wpL_done (fun W1 hW1 => ?_)
    refine (show Code.wp _ _ _ _ _ from ?_)
    refine wp_seq ?_
    refine wp_region_L (W0 := w) [] (hW1) ?_
    refine lm (v := .slice p l.length cap) rfl rfl ?_
    refine lv (v := .bool false) rfl rfl (yb_call (f := 27) (args := #[.slice p l.length cap]) (fun _ => by kernel_rfl) fun W hW => hap W (sl_keep hcell hW.1)) ?_
    refine lm (v := .bool false) rfl rfl ?_
    refine ln rfl ?_
    refine ln rfl ?_
    refine lm (v := .bool false) rfl rfl ?_
    refine lm (v := .bool false) rfl rfl ?_
    refine ln rfl ?_
    refine ln rfl ?_
    refine lm (v := .bool false) rfl rfl ?_
    refine lm (v := .bool false) rfl rfl ?_
    refine ln rfl ?_
    refine ln rfl ?_
    refine lm (v := .bool false) rfl rfl ?_
    refine lm (v := .bool false) rfl rfl ?_
    refine wpL_done (fun W2 hW2 => ?_)
    clear hW1
    refine (show Code.wp _ _ _ _ _ from ?_)
    refine wp_ret ?_
    try simp only [inBlock_ret, then_ret]
    go_ret
    exact ⟨rfl, hW2.1⟩
set_option maxRecDepth 100000 in
set_option maxHeartbeats 2000000 in
theorem Between_any (p : Option Addr) (cap : Nat) (l : List (Int × Int)) (w : World) (hcell : SL w p l) (hlen : (l.length : Int) ≤ 9223372036854775806) (x y : Int) : Calls Tryd.prog 21 #[.slice p l.length cap, .int .i64 x, .int .i64 y] w fun e w' => e = .returned (if apart l = true ∧ isT x = true ∧ isT y = true ∧ x ≤ y then .tuple #[.int .i64 (btw x y l), .int .i64 0] else .tuple #[.int .i64 0, .int .i64 2]) ∧ Below w.heap.size w w' := by
  by_cases ha : apart l = true
  · by_cases ho : isT x = true ∧ isT y = true ∧ x ≤ y
    · have hap := fun (W : World) (hc : SL W p l) => Apart_any p cap l W hc hlen
      simp only [ha] at hap
      have hio := fun W => inOrder_any x y W
      rw [show (isT x && isT y && decide (x ≤ y)) = true from by simp [ho]] at hio
      rw [if_pos ⟨ha, ho⟩]
      have hx := isT_range ho.1
      have hy := isT_range ho.2.1
      have HC := Lib.hid hcell
      clear hcell
      go_enter Tryd.func21, Tryd.ntmps21
      refine wp_seq ?_
      refine wp_region_L (W0 := w) [] (KS.start w) ?_
      refine lm (v := .int .i64 0) rfl rfl ?_
      refine lm (v := .int .i64 0) rfl rfl ?_
      refine wpL_done (fun W1 hW1 => ?_)
      refine (show Code.wp _ _ _ _ _ from ?_)
      refine wp_seq ?_
      refine wp_seq ?_
      refine wp_region_L (W0 := w) [] (hW1) ?_
      refine lm (v := .slice p l.length cap) rfl rfl ?_
      refine lv (v := .bool true) rfl rfl (yb_call (f := 27) (args := #[.slice p l.length cap]) (fun _ => by kernel_rfl) fun W hW => hap W (sl_keep HC.out hW.1)) ?_
      refine lm (v := .bool false) rfl rfl ?_
      refine lm (v := .bool false) rfl rfl ?_
      refine lm (v := .int .i64 x) rfl rfl ?_
      refine lm (v := .int .i64 y) rfl rfl ?_
      refine lv (v := .bool true) rfl rfl (yb_call (f := 58) (args := #[.int .i64 x, .int .i64 y]) (fun _ => by kernel_rfl) fun W hW => hio W) ?_
      refine lm (v := .bool false) rfl rfl ?_
      refine lm (v := .bool false) rfl rfl ?_
      refine wpL_done (fun W2 hW2 => ?_)
      clear hW1
      refine (show Code.wp _ _ _ _ _ from ?_)
      refine wp_cond_false rfl ?_
      refine wp_skip ?_
      refine (show Code.wp _ _ _ _ _ from ?_)
      refine wp_seq ?_
      refine wp_region_L (W0 := w) [] (hW2) ?_
      refine lm (v := .int .i64 0) rfl rfl ?_
      refine wpL_done (fun W3 hW3 => ?_)
      clear hW2
      refine (show Code.wp _ _ _ _ _ from ?_)
      refine wp_seq ?_
      refine wp_seq ?_
      refine wp_region_L (W0 := w) [] (hW3) ?_
      refine lm (v := .slice p l.length cap) rfl rfl ?_
      refine lm (v := .int .i64 (l.length : Int)) rfl rfl ?_
      refine lm (v := .int .i64 0) rfl rfl ?_
      refine wpL_done (fun W4 hW4 => ?_)
      clear hW3
      refine (show Code.wp _ _ _ _ _ from ?_)
      refine wp_block ?_
      go_loopw [23, 8] (fun u uacc wr => ∃ (k : Nat) (acc : Int), k ≤ l.length ∧ (acc + btw x y (l.drop k) = btw x y l ∧ 0 ≤ acc ∧ acc ≤ 100000000 * k) ∧ u = .int .i64 (k : Int) ∧ uacc = .int .i64 acc ∧ KS w [] wr) (fun u _ _ => (l.length - intOf u).toNat)
      case atStart => exact ⟨0, 0, by omega, ⟨by simp, by omega, by omega⟩, rfl, rfl, ks_none (hW4)⟩
      case round =>
        obtain ⟨k, acc, hk, hin, rfl, rfl, hKS⟩ := hrel
        by_cases hkn : k < l.length
        · obtain ⟨⟨f, t⟩, hget⟩ : ∃ s, l[k]? = some s := ⟨_, List.getElem?_eq_getElem hkn⟩
          obtain ⟨b, off, hp, hcell⟩ := HC.out.resolve_left (fun e => by rw [e] at hkn; simp at hkn)
          obtain ⟨hin1, hin2, hin3⟩ := hin
          rw [btw_drop hget] at hin1
          have hg := apart_get ha hget
          have hkk := apart_len ha
          have ho2 := ho
          by_cases he : min t y ≤ max f x
          · have hem := fun W => empty_any (max f x) (min t y) W
            rw [decide_eq_true he] at hem
            refine wp_seq ?_
            refine wp_region_L (W0 := w) [] (hKS) ?_
            refine lp (v := .bool true) rfl rfl (run_bin rfl (vx := .int .i64 (k : Int)) (vy := .int .i64 (l.length : Int)) (by kernel_rfl) (by kernel_rfl) fun w => run_lssI (decide_eq_true (by omega)) w) ?_
            refine wpL_done (fun W5 hW5 => ?_)
            refine (show Code.wp _ _ _ _ _ from ?_)
            refine wp_seq ?_
            refine wp_cond_true rfl ?_
            refine wp_skip ?_
            refine (show Code.wp _ _ _ _ _ from ?_)
            refine wp_seq ?_
            refine wp_block ?_
            refine wp_seq ?_
            refine wp_region_L (W0 := w) [] (hW5) ?_
            refine lp (v := .pointer (some ⟨b, off + 2 * k, none⟩)) rfl rfl (run_idxp (b := b) (off := off) (n := l.length) (cap := cap) (k := k) rfl (by kernel_rfl) hp (by kernel_rfl) hkn) ?_
            refine lv (v := .agg #[.int .i64 f, .int .i64 t]) rfl rfl (yb_load2 rfl (by kernel_rfl) (hcell k (f, t) hget).1 (hcell k (f, t) hget).2 (World.block_lt_of_cell? _ _ (hcell k (f, t) hget).1)) ?_
            refine wpL_new (fun g => .pointer (some ⟨g, 0, none⟩)) (obi := .cells #[.int .i64 0, .int .i64 0] 41 (0, 0)) rfl rfl (fun _ => by kernel_rfl) (fun _ => by simp only [List.setIfInBounds_toArray, List.set_cons_succ, List.set_cons_zero] <;> rfl) fun g1 Bg1 Fg1 => ?_
            try simp only [List.forall_mem_cons] at Fg1
            refine wpL_s [(g1, .cells #[.int .i64 f, .int .i64 t] 41 (0, 0))] rfl rfl (st_span rfl (by kernel_rfl) (by kernel_rfl) (.head _) (by omega) (List.forall_mem_cons.2 ⟨.inl rfl, (List.forall_mem_nil _)⟩)) ?_
            refine wpL_done (fun W6 hW6 => ?_)
            clear hW5
            refine (show Code.wp _ _ _ _ _ from ?_)
            refine wp_seq ?_
            refine wp_region_L (W0 := w) [(g1, .cells #[.int .i64 f, .int .i64 t] 41 (0, 0))] (hW6) ?_
            refine lv (v := .agg #[.int .i64 f, .int .i64 t]) rfl rfl (yb_load (n := 2) (off := 0) rfl (by kernel_rfl) (.head _) Tryd.underlying41 rfl size_span (by simp) (by kernel_rfl)) ?_
            refine lm (v := .int .i64 x) rfl rfl ?_
            refine lm (v := .int .i64 y) rfl rfl ?_
            refine lm (v := .agg #[.int .i64 x, .int .i64 y]) rfl rfl ?_
            refine lv (v := .agg #[.int .i64 (max f x), .int .i64 (min t y)]) rfl rfl (yb_call (f := 59) (args := #[.agg #[.int .i64 f, .int .i64 t], .agg #[.int .i64 x, .int .i64 y]]) (fun _ => by kernel_rfl) fun W hW => both_any f t x y W) ?_
            refine wpL_new (fun g => .pointer (some ⟨g, 0, none⟩)) (obi := .cells #[.int .i64 0, .int .i64 0] 41 (0, 0)) rfl rfl (fun _ => by kernel_rfl) (fun _ => by simp only [List.setIfInBounds_toArray, List.set_cons_succ, List.set_cons_zero] <;> rfl) fun g2 Bg2 Fg2 => ?_
            try simp only [List.forall_mem_cons] at Fg2
            refine wpL_s [(g2, .cells #[.int .i64 (max f x), .int .i64 (min t y)] 41 (0, 0)), (g1, .cells #[.int .i64 f, .int .i64 t] 41 (0, 0))] rfl rfl (st_span rfl (by kernel_rfl) (by kernel_rfl) (.head _) (by omega) (List.forall_mem_cons.2 ⟨.inl rfl, (List.forall_mem_cons.2 ⟨.inr ⟨(.tail _ (.head _)), Fg2.1⟩, (List.forall_mem_nil _)⟩)⟩)) ?_
            refine wpL_done (fun W7 hW7 => ?_)
            clear hW6
            refine (show Code.wp _ _ _ _ _ from ?_)
            refine wp_seq ?_
            refine wp_region_L (W0 := w) [(g2, .cells #[.int .i64 (max f x), .int .i64 (min t y)] 41 (0, 0)), (g1, .cells #[.int .i64 f, .int .i64 t] 41 (0, 0))] (hW7) ?_
            refine lv (v := .agg #[.int .i64 (max f x), .int .i64 (min t y)]) rfl rfl (yb_load (n := 2) (off := 0) rfl (by kernel_rfl) (.head _) Tryd.underlying41 rfl size_span (by simp) (by kernel_rfl)) ?_
            refine lv (v := .bool true) rfl rfl (yb_call (f := 60) (args := #[.agg #[.int .i64 (max f x), .int .i64 (min t y)]]) (fun _ => by kernel_rfl) fun W hW => hem W) ?_
            refine lm (v := .bool false) rfl rfl ?_
            refine wpL_done (fun W8 hW8 => ?_)
            clear hW7
            refine (show Code.wp _ _ _ _ _ from ?_)
            refine wp_cond_false rfl ?_
            refine wp_skip ?_
            refine (show Code.wp _ _ _ _ _ from ?_)
            refine wp_region_L (W0 := w) [(g2, .cells #[.int .i64 (max f x), .int .i64 (min t y)] 41 (0, 0)), (g1, .cells #[.int .i64 f, .int .i64 t] 41 (0, 0))] (hW8) ?_
            refine lp (v := .int .i64 ((k + 1 : Nat) : Int)) rfl rfl (run_bin rfl (vx := .int .i64 (k : Int)) (vy := .int .i64 1) (by kernel_rfl) (by kernel_rfl) fun w => run_addI (z := ((k + 1 : Nat) : Int)) rfl (len_range hlen (by omega)) w) ?_
            refine lm (v := .int .i64 ((k + 1 : Nat) : Int)) rfl rfl ?_
            refine wpL_done (fun W9 hW9 => ?_)
            clear hW8
            go_roundw
            case rel =>
              repeat apply Exists.intro
              exact ⟨⟨k + 1, acc, by omega, ⟨by omega, by omega, by omega⟩, rfl, rfl, ks_none hW9⟩, rfl⟩
            case measure => (show (l.length - intOf (.int .i64 ((k + 1 : Nat) : Int))).toNat < (l.length - intOf (.int .i64 (k : Int))).toNat); simp only [intOf]; omega
          · have hem := fun W => empty_any (max f x) (min t y) W
            rw [decide_eq_false he] at hem
            refine wp_seq ?_
            refine wp_region_L (W0 := w) [] (hKS) ?_
            refine lp (v := .bool true) rfl rfl (run_bin rfl (vx := .int .i64 (k : Int)) (vy := .int .i64 (l.length : Int)) (by kernel_rfl) (by kernel_rfl) fun w => run_lssI (decide_eq_true (by omega)) w) ?_
            refine wpL_done (fun W5 hW5 => ?_)
            refine (show Code.wp _ _ _ _ _ from ?_)
            refine wp_seq ?_
            refine wp_cond_true rfl ?_
            refine wp_skip ?_
            refine (show Code.wp _ _ _ _ _ from ?_)
            refine wp_seq ?_
            refine wp_block ?_
            refine wp_seq ?_
            refine wp_region_L (W0 := w) [] (hW5) ?_
            refine lp (v := .pointer (some ⟨b, off + 2 * k, none⟩)) rfl rfl (run_idxp (b := b) (off := off) (n := l.length) (cap := cap) (k := k) rfl (by kernel_rfl) hp (by kernel_rfl) hkn) ?_
            refine lv (v := .agg #[.int .i64 f, .int .i64 t]) rfl rfl (yb_load2 rfl (by kernel_rfl) (hcell k (f, t) hget).1 (hcell k (f, t) hget).2 (World.block_lt_of_cell? _ _ (hcell k (f, t) hget).1)) ?_
            refine wpL_new (fun g => .pointer (some ⟨g, 0, none⟩)) (obi := .cells #[.int .i64 0, .int .i64 0] 41 (0, 0)) rfl rfl (fun _ => by kernel_rfl) (fun _ => by simp only [List.setIfInBounds_toArray, List.set_cons_succ, List.set_cons_zero] <;> rfl) fun g1 Bg1 Fg1 => ?_
            try simp only [List.forall_mem_cons] at Fg1
            refine wpL_s [(g1, .cells #[.int .i64 f, .int .i64 t] 41 (0, 0))] rfl rfl (st_span rfl (by kernel_rfl) (by kernel_rfl) (.head _) (by omega) (List.forall_mem_cons.2 ⟨.inl rfl, (List.forall_mem_nil _)⟩)) ?_
            refine wpL_done (fun W6 hW6 => ?_)
            clear hW5
            refine (show Code.wp _ _ _ _ _ from ?_)
            refine wp_seq ?_
            refine wp_region_L (W0 := w) [(g1, .cells #[.int .i64 f, .int .i64 t] 41 (0, 0))] (hW6) ?_
            refine lv (v := .agg #[.int .i64 f, .int .i64 t]) rfl rfl (yb_load (n := 2) (off := 0) rfl (by kernel_rfl) (.head _) Tryd.underlying41 rfl size_span (by simp) (by kernel_rfl)) ?_
            refine lm (v := .int .i64 x) rfl rfl ?_
            refine lm (v := .int .i64 y) rfl rfl ?_
            refine lm (v := .agg #[.int .i64 x, .int .i64 y]) rfl rfl ?_
            refine lv (v := .agg #[.int .i64 (max f x), .int .i64 (min t y)]) rfl rfl (yb_call (f := 59) (args := #[.agg #[.int .i64 f, .int .i64 t], .agg #[.int .i64 x, .int .i64 y]]) (fun _ => by kernel_rfl) fun W hW => both_any f t x y W) ?_
            refine wpL_new (fun g => .pointer (some ⟨g, 0, none⟩)) (obi := .cells #[.int .i64 0, .int .i64 0] 41 (0, 0)) rfl rfl (fun _ => by kernel_rfl) (fun _ => by simp only [List.setIfInBounds_toArray, List.set_cons_succ, List.set_cons_zero] <;> rfl) fun g2 Bg2 Fg2 => ?_
            try simp only [List.forall_mem_cons] at Fg2
            refine wpL_s [(g2, .cells #[.int .i64 (max f x), .int .i64 (min t y)] 41 (0, 0)), (g1, .cells #[.int .i64 f, .int .i64 t] 41 (0, 0))] rfl rfl (st_span rfl (by kernel_rfl) (by kernel_rfl) (.head _) (by omega) (List.forall_mem_cons.2 ⟨.inl rfl, (List.forall_mem_cons.2 ⟨.inr ⟨(.tail _ (.head _)), Fg2.1⟩, (List.forall_mem_nil _)⟩)⟩)) ?_
            refine wpL_done (fun W7 hW7 => ?_)
            clear hW6
            refine (show Code.wp _ _ _ _ _ from ?_)
            refine wp_seq ?_
            refine wp_region_L (W0 := w) [(g2, .cells #[.int .i64 (max f x), .int .i64 (min t y)] 41 (0, 0)), (g1, .cells #[.int .i64 f, .int .i64 t] 41 (0, 0))] (hW7) ?_
            refine lv (v := .agg #[.int .i64 (max f x), .int .i64 (min t y)]) rfl rfl (yb_load (n := 2) (off := 0) rfl (by kernel_rfl) (.head _) Tryd.underlying41 rfl size_span (by simp) (by kernel_rfl)) ?_
            refine lv (v := .bool false) rfl rfl (yb_call (f := 60) (args := #[.agg #[.int .i64 (max f x), .int .i64 (min t y)]]) (fun _ => by kernel_rfl) fun W hW => hem W) ?_
            refine lm (v := .bool true) rfl rfl ?_
            refine wpL_done (fun W8 hW8 => ?_)
            clear hW7
            refine (show Code.wp _ _ _ _ _ from ?_)
            refine wp_cond_true rfl ?_
            refine wp_region_L (W0 := w) [(g2, .cells #[.int .i64 (max f x), .int .i64 (min t y)] 41 (0, 0)), (g1, .cells #[.int .i64 f, .int .i64 t] 41 (0, 0))] (hW8) ?_
            refine lm (v := .int .i64 acc) rfl rfl ?_
            refine lm (v := .pointer (some ⟨g2, 1, none⟩)) rfl rfl ?_
            refine lv (v := .int .i64 (min t y)) rfl rfl (yb_loadc (off := 1) rfl (by kernel_rfl) (.head _) Tryd.underlying3 rfl (by kernel_rfl)) ?_
            refine lm (v := .pointer (some ⟨g2, 0, none⟩)) rfl rfl ?_
            refine lv (v := .int .i64 (max f x)) rfl rfl (yb_loadc (off := 0) rfl (by kernel_rfl) (.head _) Tryd.underlying3 rfl (by kernel_rfl)) ?_
            refine lp (v := .int .i64 (min t y - max f x)) rfl rfl (run_bin rfl (vx := .int .i64 (min t y)) (vy := .int .i64 (max f x)) (by kernel_rfl) (by kernel_rfl) fun w => run_subI (z := (min t y - max f x)) rfl (by omega) w) ?_
            refine lp (v := .int .i64 (acc + (min t y - max f x))) rfl rfl (run_bin rfl (vx := .int .i64 acc) (vy := .int .i64 (min t y - max f x)) (by kernel_rfl) (by kernel_rfl) fun w => run_addI (z := (acc + (min t y - max f x))) rfl (by omega) w) ?_
            refine lm (v := .int .i64 (acc + (min t y - max f x))) rfl rfl ?_
            refine wpL_done (fun W9 hW9 => ?_)
            clear hW8
            refine (show Code.wp _ _ _ _ _ from ?_)
            refine wp_region_L (W0 := w) [(g2, .cells #[.int .i64 (max f x), .int .i64 (min t y)] 41 (0, 0)), (g1, .cells #[.int .i64 f, .int .i64 t] 41 (0, 0))] (hW9) ?_
            refine lp (v := .int .i64 ((k + 1 : Nat) : Int)) rfl rfl (run_bin rfl (vx := .int .i64 (k : Int)) (vy := .int .i64 1) (by kernel_rfl) (by kernel_rfl) fun w => run_addI (z := ((k + 1 : Nat) : Int)) rfl (len_range hlen (by omega)) w) ?_
            refine lm (v := .int .i64 ((k + 1 : Nat) : Int)) rfl rfl ?_
            refine wpL_done (fun W10 hW10 => ?_)
            clear hW9
            go_roundw
            case rel =>
              repeat apply Exists.intro
              exact ⟨⟨k + 1, acc + (min t y - max f x), by omega, ⟨by omega, by omega, by omega⟩, rfl, rfl, ks_none hW10⟩, rfl⟩
            case measure => (show (l.length - intOf (.int .i64 ((k + 1 : Nat) : Int))).toNat < (l.length - intOf (.int .i64 (k : Int))).toNat); simp only [intOf]; omega
        · have hnil : l.drop k = [] := List.drop_eq_nil_of_le (by omega)
          obtain ⟨hin1, hin2, hin3⟩ := hin
          rw [hnil] at hin1
          have hacc : btw x y l = acc := by rw [← hin1]; simp [btw]
          refine wp_seq ?_
          refine wp_region_L (W0 := w) [] (hKS) ?_
          refine lp (v := .bool false) rfl rfl (run_bin rfl (vx := .int .i64 (k : Int)) (vy := .int .i64 (l.length : Int)) (by kernel_rfl) (by kernel_rfl) fun w => run_lssI (decide_eq_false (by omega)) w) ?_
          refine wpL_done (fun W5 hW5 => ?_)
          refine (show Code.wp _ _ _ _ _ from ?_)
          refine wp_seq ?_
          refine wp_cond_false rfl ?_
          refine wp_exit ?_
          refine (show Code.wp _ _ _ _ _ from ?_)
          refine wp_seq ?_
          refine wp_region_L (W0 := w) [] (hW5) ?_
          refine lm (v := .int .i64 acc) rfl rfl ?_
          refine lm (v := .int .i64 acc) rfl rfl ?_
          refine lm (v := .int .i64 0) rfl rfl ?_
          refine wpL_done (fun W6 hW6 => ?_)
          clear hW5
          refine (show Code.wp _ _ _ _ _ from ?_)
          refine wp_ret ?_
          try simp only [inBlock_ret, then_ret]
          exact bodyPost_ret (results_tmp2 rfl _ _ _) rfl ⟨by first | rfl | (rw [hacc]; rfl), hW6.1⟩
    · have hap := fun (W : World) (hc : SL W p l) => Apart_any p cap l W hc hlen
      simp only [ha] at hap
      have hio := fun W => inOrder_any x y W
      rw [show (isT x && isT y && decide (x ≤ y)) = false from by simpa using ho] at hio
      rw [if_neg (fun h => ho h.2)]
      have HC := Lib.hid hcell
      clear hcell
      go_enter Tryd.func21, Tryd.ntmps21
      refine wp_seq ?_
      refine wp_region_L (W0 := w) [] (KS.start w) ?_
      refine lm (v := .int .i64 0) rfl rfl ?_
      refine lm (v := .int .i64 0) rfl rfl ?_
      refine wpL_done (fun W1 hW1 => ?_)
      refine (show Code.wp _ _ _ _ _ from ?_)
      refine wp_seq ?_
      refine wp_seq ?_
      refine wp_region_L (W0 := w) [] (hW1) ?_
      refine lm (v := .slice p l.length cap) rfl rfl ?_
      refine lv (v := .bool true) rfl rfl (yb_call (f := 27) (args := #[.slice p l.length cap]) (fun _ => by kernel_rfl) fun W hW => hap W (sl_keep HC.out hW.1)) ?_
      refine lm (v := .bool false) rfl rfl ?_
      refine lm (v := .bool false) rfl rfl ?_
      refine lm (v := .int .i64 x) rfl rfl ?_
      refine lm (v := .int .i64 y) rfl rfl ?_
      refine lv (v := .bool false) rfl rfl (yb_call (f := 58) (args := #[.int .i64 x, .int .i64 y]) (fun _ => by kernel_rfl) fun W hW => hio W) ?_
      refine lm (v := .bool true) rfl rfl ?_
      refine lm (v := .bool true) rfl rfl ?_
      refine wpL_done (fun W2 hW2 => ?_)
      clear hW1
      refine (show Code.wp _ _ _ _ _ from ?_)
      refine wp_cond_true rfl ?_
      refine wp_seq ?_
      refine wp_region_L (W0 := w) [] (hW2) ?_
      refine lm (v := .int .i64 0) rfl rfl ?_
      refine lm (v := .int .i64 2) rfl rfl ?_
      refine wpL_done (fun W3 hW3 => ?_)
      clear hW2
      refine (show Code.wp _ _ _ _ _ from ?_)
      refine wp_ret ?_
      try simp only [inBlock_ret, then_ret]
      exact bodyPost_ret (results_tmp2 rfl _ _ _) rfl ⟨by first | rfl | (rw [hacc]; rfl), hW3.1⟩
  · have hap := fun (W : World) (hc : SL W p l) => Apart_any p cap l W hc hlen
    simp only [(Bool.not_eq_true _).mp ha] at hap
    rw [if_neg (fun h => ha h.1)]
    have HC := Lib.hid hcell
    clear hcell
    go_enter Tryd.func21, Tryd.ntmps21
    refine wp_seq ?_
    refine wp_region_L (W0 := w) [] (KS.start w) ?_
    refine lm (v := .int .i64 0) rfl rfl ?_
    refine lm (v := .int .i64 0) rfl rfl ?_
    refine wpL_done (fun W1 hW1 => ?_)
    refine (show Code.wp _ _ _ _ _ from ?_)
    refine wp_seq ?_
    refine wp_seq ?_
    refine wp_region_L (W0 := w) [] (hW1) ?_
    refine lm (v := .slice p l.length cap) rfl rfl ?_
    refine lv (v := .bool false) rfl rfl (yb_call (f := 27) (args := #[.slice p l.length cap]) (fun _ => by kernel_rfl) fun W hW => hap W (sl_keep HC.out hW.1)) ?_
    refine lm (v := .bool true) rfl rfl ?_
    refine lm (v := .bool true) rfl rfl ?_
    refine ln rfl ?_
    refine ln rfl ?_
    refine ln rfl ?_
    refine ln rfl ?_
    refine lm (v := .bool true) rfl rfl ?_
    refine wpL_done (fun W2 hW2 => ?_)
    clear hW1
    refine (show Code.wp _ _ _ _ _ from ?_)
    refine wp_cond_true rfl ?_
    refine wp_seq ?_
    refine wp_region_L (W0 := w) [] (hW2) ?_
    refine lm (v := .int .i64 0) rfl rfl ?_
    refine lm (v := .int .i64 2) rfl rfl ?_
    refine wpL_done (fun W3 hW3 => ?_)
    clear hW2
    refine (show Code.wp _ _ _ _ _ from ?_)
    refine wp_ret ?_
    try simp only [inBlock_ret, then_ret]
    exact bodyPost_ret (results_tmp2 rfl _ _ _) rfl ⟨by first | rfl | (rw [hacc]; rfl), hW3.1⟩
end Go.Proofs.YtjmcelgdjpdacaaDoor
/- Rows of spans; what gather makes of spans that come one after the other. -/
namespace Go.Proofs.YtjmcelgdjpdacaaDoor
open Go.RowKit Tw
def flat : List (Int × Int) → List Value
  | [] => []
  | s :: l => .int .i64 s.1 :: .int .i64 s.2 :: flat l
theorem flat_length : ∀ l : List (Int × Int), (flat l).length = l.length * 2
  | [] => rfl
  | s :: l => by simp only [flat, List.length_cons, flat_length l]; omega
theorem flat_append : ∀ (l m : List (Int × Int)), flat (l ++ m) = flat l ++ flat m
  | [], _ => rfl
  | s :: l, m => by simp only [List.cons_append, flat, flat_append l m]
theorem flat_get : ∀ (l : List (Int × Int)) (i : Nat) (s : Int × Int), l[i]? = some s → (flat l)[2 * i]? = some (.int .i64 s.1) ∧ (flat l)[2 * i + 1]? = some (.int .i64 s.2)
  | [], _, _, h => by simp at h
  | x :: l, 0, s, h => by
    simp only [List.getElem?_cons_zero, Option.some.injEq] at h
    subst h
    exact ⟨rfl, rfl⟩
  | x :: l, i + 1, s, h => by
    rw [List.getElem?_cons_succ] at h
    have := flat_get l i s h
    rw [show 2 * (i + 1) = 2 * i + 1 + 1 from by omega, flat]
    simpa using this
def addM (m : List (Int × Int)) (x : Int × Int) : List (Int × Int) := match m.getLast? with
  | some l => if l.2 = x.1 then m.dropLast ++ [(l.1, x.2)] else m ++ [x]
  | none => [x]
def mergeL (pre : List (Int × Int)) : List (Int × Int) := pre.foldl addM []
theorem merge_snoc (pre : List (Int × Int)) (x : Int × Int) : mergeL (pre ++ [x]) = addM (mergeL pre) x := by unfold mergeL; rw [List.foldl_append]; rfl
theorem addM_nil (x : Int × Int) : addM [] x = [x] := rfl
theorem addM_touch (m0 : List (Int × Int)) (a b : Int) (x : Int × Int) (h : b = x.1) : addM (m0 ++ [(a, b)]) x = m0 ++ [(a, x.2)] := by unfold addM; simp [h]
theorem addM_apart (m0 : List (Int × Int)) (a b : Int) (x : Int × Int) (h : ¬ b = x.1) : addM (m0 ++ [(a, b)]) x = m0 ++ [(a, b)] ++ [x] := by unfold addM; simp [h]
theorem addM_len (m : List (Int × Int)) (x : Int × Int) : (addM m x).length ≤ m.length + 1 := by
  rcases List.eq_nil_or_concat m with rfl | ⟨m0, ⟨a, b⟩, rfl⟩
  · rw [addM_nil]; simp
  · rw [List.concat_eq_append]
    by_cases h : b = x.1
    · rw [addM_touch m0 a b x h]; simp
    · rw [addM_apart m0 a b x h]; simp
theorem fold_len : ∀ (pre m : List (Int × Int)), (pre.foldl addM m).length ≤ m.length + pre.length
  | [], m => by simp
  | x :: l, m => by
    have h1 := fold_len l (addM m x)
    have h2 := addM_len m x
    simp only [List.foldl_cons, List.length_cons]
    omega
theorem merge_len (pre : List (Int × Int)) : (mergeL pre).length ≤ pre.length := by
  have := fold_len pre []
  unfold mergeL
  simpa using this
theorem row_get {cur : Array Value} {cap n : Nat} {m : List (Int × Int)} (h : Row cur cap n (flat m)) {i : Nat} {s : Int × Int} (hi : m[i]? = some s) : cur[2 * i]? = some (.int .i64 s.1) ∧ cur[2 * i + 1]? = some (.int .i64 s.2) := by
  obtain ⟨_, _, _, h4, h5⟩ := h
  obtain ⟨h1, h2⟩ := flat_get m i s hi
  rw [← h5] at h1 h2
  rw [List.getElem?_take] at h1 h2
  constructor
  · split at h1
    · simpa using h1
    · cases h1
  · split at h2
    · simpa using h2
    · cases h2
theorem row_cells {W : World} {g cap n : Nat} {cur : Array Value} {m : List (Int × Int)} (h : W.heap[g]? = some (.cells cur 41 (0, 0))) (hR : Row cur cap n (flat m)) : Cells W g 0 m := fun i s hs => by
  obtain ⟨h1, h2⟩ := row_get hR hs
  rw [Nat.zero_add, cell_of_row W g (2 * i) cur _ (0, 0) h, cell_of_row W g (2 * i + 1) cur _ (0, 0) h]
  exact ⟨h1, h2⟩
theorem row_set {cur : Array Value} {cap n0 : Nat} {m0 : List (Int × Int)} {a b c : Int} (hn : m0.length = n0) (h : Row cur cap (n0 + 1) (flat (m0 ++ [(a, b)]))) :
    Row (cur.toList.take (2 * n0 + 1) ++ [Value.int .i64 c] ++ cur.toList.drop (2 * n0 + 2)).toArray cap (n0 + 1) (flat (m0 ++ [(a, c)])) := by
  obtain ⟨h1, h2, h3, h4, h5⟩ := h
  have hlen : cur.toList.length = cap * 2 := by rw [Array.length_toList, h1]
  refine ⟨?_, h2, h3, by rw [flat_length]; simp; omega, ?_⟩
  · simp only [List.size_toArray, List.length_append, List.length_take, List.length_drop, Array.length_toList, List.length_cons, List.length_nil, h1]
    omega
  · have hfl := flat_length m0
    have e1 : cur.toList.take (2 * n0 + 1) = flat m0 ++ [Value.int .i64 a] := by
      have : cur.toList.take (2 * n0 + 1) = (cur.toList.take ((n0 + 1) * 2)).take (2 * n0 + 1) := by rw [List.take_take]; congr 1; omega
      rw [this, h5, flat_append, List.take_append, List.take_of_length_le (by rw [hfl]; omega)]
      rw [hfl, hn, show 2 * n0 + 1 - n0 * 2 = 1 from by omega]
      rfl
    simp only
    rw [e1, flat_append]
    simp only [flat]
    rw [List.take_append]
    have : (n0 + 1) * 2 = (flat m0 ++ [Value.int .i64 a] ++ [Value.int .i64 c]).length := by simp [hfl]; omega
    rw [this, List.take_of_length_le (Nat.le_refl _), Nat.sub_self, List.take_zero]
    simp
end Go.Proofs.YtjmcelgdjpdacaaDoor
namespace Go.Proofs.YtjmcelgdjpdacaaDoor
open Go.RowKit Tw
open Go
def OutL (w w' : World) (v : Value) (m : List (Int × Int)) : Prop := (m = [] ∧ v = .slice none 0 0) ∨ ∃ g cap cur, v = .slice (some ⟨g, 0, none⟩) m.length cap ∧ w'.heap[g]? = some (.cells cur 41 (0, 0)) ∧ Row cur cap m.length (flat m) ∧ w.heap.size ≤ g
theorem run_loadVar_cell {P : Program} {g : Nat} {v : Value} {t ty : TypeId} {d : TypeDesc} {w : World} (hg : w.heap[g]? = some (.cells #[v] t (0, 0))) (hu : P.underlying ty = some d) (hd : aggD d = false) : (loadVar ty ⟨g, 0, none⟩).run P w = .ok v w := by
  have hc : w.cell? ⟨g, 0, none⟩ = some v := by rw [cell_of_row w g 0 #[v] t (0, 0) hg]; rfl
  have hagg : (isAgg ty).run P w = .ok false w := by
    unfold isAgg
    rw [Sem.run_bind, run_underlying hu w]
    unfold aggD at hd
    cases d <;> simp_all
  simp [loadVar, Sem.run_bind, hagg, hc]
theorem res_cells_s {P : Program} {fn : Func} {p q : Tmp} {ty uy : TypeId} (h : fn.results = #[.cell p ty, .cell q uy]) {tmps : Array Value} {w : World} {g g' : Nat} {t t' : TypeId} {u u' : Value} {d d' : TypeDesc}
    (hp : tmps.getD p undef = .pointer (some ⟨g, 0, none⟩)) (hg : w.heap[g]? = some (.cells #[u] t (0, 0))) (hu : P.underlying ty = some d) (hd : aggD d = false)
    (hq : tmps.getD q undef = .pointer (some ⟨g', 0, none⟩)) (hg' : w.heap[g']? = some (.cells #[u'] t' (0, 0))) (hu' : P.underlying uy = some d') (hd' : aggD d' = false) :
    (results fn tmps).run P w = .ok (.tuple #[u, u']) w := by
  have hp' : tmps[p]?.getD undef = .pointer (some ⟨g, 0, none⟩) := by simpa using hp
  have hq' : tmps[q]?.getD undef = .pointer (some ⟨g', 0, none⟩) := by simpa using hq
  simp [results, h, hp', hq', asAddr, run_loadVar_cell hg hu hd, run_loadVar_cell hg' hu' hd']
def encS (x : Int × Int) : Array Value := #[.agg #[.int .i64 x.1, .int .i64 x.2]]
theorem run_eqlI {x y : Int} {b : Bool} (h : decide (x = y) = b) {px py : Operand} (w : World) : (do eqGuard .eql 3 px py (.int .i64 x) (.int .i64 y); binOp .eql 3 (.int .i64 x) (.int .i64 y) : Sem Value).run Tryd.prog w = .ok (.bool b) w := by
  subst h; go_simp
  rfl
theorem st_cell {W0 : Base} {o : Oper} {a : Act} {K K' : List (Nat × Obj)} {ty : TypeId} {x y : Operand} {g : Nat} {u v : Value} (ho : o.op = .store ty x y) (hx : a.eval x = .pointer (some ⟨g, 0, none⟩)) (hv : a.eval y = v)
    (hm : (g, .cells #[u] ty (0, 0)) ∈ K) (hB : W0.B ≤ g) (hi : (Tryd.prog.info? ty).map (·.size) = some 1) (h1 : v.cells = #[v] ∧ v.oneCell' = true) (hK : ∀ p ∈ K', p = (g, .cells #[v] ty (0, 0)) ∨ (p ∈ K ∧ p.1 ≠ g)) : ∀ w, KS W0 K w → ∃ w', (execOp a.eval o).run Tryd.prog w = .ok .skip w' ∧ KS W0 K' w' :=
  st_row ho hx hv hm hB (by rw [hi, h1.1]; rfl) (by rw [h1.1]; simp) (by rw [h1.1]; intro v' hv'; simp at hv'; subst hv'; exact h1.2) (by rw [h1.1]; rfl) hK
def GI (w : World) (g1 g2 g3 : Nat) (m : List (Int × Int)) (W : World) : Prop :=
  ∃ (u : Value) (Kx : List (Nat × Obj)), KS w ((g3, .cells #[u] 22 (0, 0)) :: (g2, .cells #[.int .i64 0] 36 (0, 0)) :: (g1, .cells #[.slice none 0 0] 22 (0, 0)) :: Kx) W ∧
    ((m = [] ∧ u = .slice none 0 0 ∧ Kx = []) ∨ ∃ g cap cur m0 a b, m = m0 ++ [(a, b)] ∧ Row cur cap (m0.length + 1) (flat (m0 ++ [(a, b)])) ∧ u = .slice (some ⟨g, 0, none⟩) (m0.length + 1) cap ∧ w.heap.size ≤ g ∧ g1 ≠ g ∧ g2 ≠ g ∧ g3 ≠ g ∧ Kx = [(g, .cells cur 41 (0, 0))])
def GA (w : World) (g1 g2 g3 : Nat) (fv : Value) (x : Int × Int) (a : Act) (W : World) : Prop :=
  ∃ (b5 : Nat) (u : Value), w.heap.size ≤ b5 ∧ g1 ≠ b5 ∧ g2 ≠ b5 ∧ g3 ≠ b5 ∧ W.heap[b5]? = some (.cells #[.int .i64 x.1, .int .i64 x.2] 41 (0, 0)) ∧ W.heap[g3]? = some (.cells #[u] 22 (0, 0)) ∧
    (∀ g n cap, u = .slice (some ⟨g, 0, none⟩) n cap → g ≠ b5) ∧ a = { tmps := #[fv, undef, .pointer (some ⟨g1, 0, none⟩), .pointer (some ⟨g2, 0, none⟩), .pointer (some ⟨g3, 0, none⟩), .pointer (some ⟨b5, 0, none⟩), undef, fv, .agg #[.int .i64 x.1, .int .i64 x.2], undef, undef, undef, undef, undef, undef, undef, undef, undef, undef, undef, undef, undef, undef, undef, undef, undef, undef, undef, undef, undef, undef, undef, undef, undef, undef, undef, undef, undef], defers := [] }
theorem gi_own {w : World} {g1 g2 g3 B : Nat} (hB : w.heap.size ≤ B) : OwnFrom B (fun (pre : List (Int × Int)) W => GI w g1 g2 g3 (mergeL pre) W) := by
  rintro s W W' row ⟨u, Kx, hK, hc⟩ hg hr
  refine ⟨u, Kx, ks_own hK ?_ hg hr hB, hc⟩
  intro p hp
  rcases hc with ⟨_, _, rfl⟩ | ⟨g, cap, cur, m0, a, b, _, _, _, _, _, _, _, rfl⟩ <;> simp only [List.mem_cons, List.not_mem_nil, or_false] at hp
  · rcases hp with rfl | rfl | rfl <;> rfl
  · rcases hp with rfl | rfl | rfl | rfl <;> rfl
theorem cells_kept {W W' : World} {B g : Nat} {cs : Array Value} {t : TypeId} {row : Option Nat} (h : W.heap[g]? = some (.cells cs t (0, 0))) (hg : W.grownBy W' row) (hr : ∀ r, row = some r → B ≤ r ∧ ∃ o : Obj, W.heap[r]? = some o ∧ o.isCells = false) : W'.heap[g]? = some (.cells cs t (0, 0)) := by
  rw [hg.block g (lt_of_block h) (fun e => by
    obtain ⟨_, o, ho, hn⟩ := hr g e.symm
    rw [h] at ho
    cases ho
    cases hn)]
  exact h
theorem ga_own {w : World} {g1 g2 g3 B : Nat} (fv : Value) (x : Int × Int) (a : Act) : OwnFrom B (fun (_ : Unit) W => GA w g1 g2 g3 fv x a W) := by
  rintro s W W' row ⟨b5, u, h1, h2, h3, h4, h5, h6, h7, h8⟩ hg hr
  exact ⟨b5, u, h1, h2, h3, h4, cells_kept h5 hg hr, cells_kept h6 hg hr, h7, h8⟩
set_option maxRecDepth 100000 in
set_option maxHeartbeats 2000000 in
theorem gather_any (gf : Nat) (lb : Array Value) (xs : List (Int × Int)) (N : Nat) (hN : N ≤ 1000) (w : World) (eg : ∀ args W, (callFunc gf args).run Tryd.prog W = .ok (.enter gf args) W)
    (hseq : ∀ W, Below w.heap.size w W → SeqStopsK Fence.wide (3 - 1) Tryd.prog gf lb encS (Below w.heap.size) (fun ys => ys = xs) (fun _ => True) N W) :
    Calls Tryd.prog 61 #[.func (.func gf) #[] lb] w fun e w' => ∃ v, e = .returned (.tuple #[v, .int .i64 0]) ∧ OutL w w' v (mergeL xs) ∧ Below w.heap.size w w' := by
  refine (callsIn_wide (n := 3)).1 ?_
  refine callsIn_of_wp_marks Tryd.func61 rfl trivial ?_
  simp only [Tryd.ntmps61, List.size_toArray, List.length_cons, List.length_nil, Nat.reduceAdd, Nat.reduceSub, Array.replicate_succ, Array.replicate_zero, List.push_toArray, List.append_toArray, List.nil_append, List.cons_append]
  refine wpIn_seq ?_
  refine wp_region_LI (W0 := w) [] (by kernel_rfl) (KS.start w) ?_
  refine wpL_new (fun g => .pointer (some ⟨g, 0, none⟩)) (obi := .cells #[.slice none 0 0] 22 (0, 0)) rfl rfl (fun _ => by kernel_rfl) (fun _ => by simp only [List.setIfInBounds_toArray, List.set_cons_succ, List.set_cons_zero] <;> rfl) fun g1 Bg1 Fg1 => ?_
  try simp only [List.forall_mem_cons] at Fg1
  refine wpL_new (fun g => .pointer (some ⟨g, 0, none⟩)) (obi := .cells #[.int .i64 0] 36 (0, 0)) rfl rfl (fun _ => by kernel_rfl) (fun _ => by simp only [List.setIfInBounds_toArray, List.set_cons_succ, List.set_cons_zero] <;> rfl) fun g2 Bg2 Fg2 => ?_
  try simp only [List.forall_mem_cons] at Fg2
  refine wpL_done (fun W1 hW1 => ?_)
  refine (show Code.wpIn _ _ _ _ _ _ _ from ?_)
  refine wpIn_seq ?_
  refine wp_region_LI (W0 := w) [(g2, .cells #[.int .i64 0] 36 (0, 0)), (g1, .cells #[.slice none 0 0] 22 (0, 0))] (by kernel_rfl) (hW1) ?_
  refine wpL_new (fun g => .pointer (some ⟨g, 0, none⟩)) (obi := .cells #[.slice none 0 0] 22 (0, 0)) rfl rfl (fun _ => by kernel_rfl) (fun _ => by simp only [List.setIfInBounds_toArray, List.set_cons_succ, List.set_cons_zero] <;> rfl) fun g3 Bg3 Fg3 => ?_
  try simp only [List.forall_mem_cons] at Fg3
  refine wpL_done (fun W2 hW2 => ?_)
  clear hW1
  refine (show Code.wpIn _ _ _ _ _ _ _ from ?_)
  refine wpIn_seq ?_
  refine wpIn_seq ?_
  refine wp_region_LI (W0 := w) [(g3, .cells #[.slice none 0 0] 22 (0, 0)), (g2, .cells #[.int .i64 0] 36 (0, 0)), (g1, .cells #[.slice none 0 0] 22 (0, 0))] (by kernel_rfl) (hW2) ?_
  refine lm (v := .func (.func gf) #[] lb) rfl rfl ?_
  refine wpL_done (fun W3 hW3 => ?_)
  clear hW2
  refine (show Code.wpIn _ _ _ _ _ _ _ from ?_)
  refine wpIn_block ?_
  refine wpIn_rangeFunc_ownH (α := Int × Int) (F := Fence.wide) rfl (by omega) (gf := gf) (lb := lb) (by kernel_rfl) trivial eg (encs := encS) (Kp := Below w.heap.size) (S := fun ys => ys = xs) (Sp := fun _ => True) (N := N) (hseq W3 hW3.1) belowK_t (belowK_b hW3.1.size) (Below.refl _ _) (fun _ => rfl)
    (fun pre W => GI w g1 g2 g3 (mergeL pre) W) (fun _ _ _ => False) (gi_own hW3.1.size) (fun _ _ _ _ _ hs _ _ => hs) ⟨_, [], hW3, .inl ⟨rfl, rfl, rfl⟩⟩ (fun x a W => GA w g1 g2 g3 (.func (.func gf) #[] lb) x a W) (fun x a => ga_own _ x a) ?assign ?body ?done ?stop
  case assign =>
    rintro l pre x W K hi hKK
    have hi2 := hi
    obtain ⟨u, Kx, hK, hc⟩ := hi2
    have hn : w.heap.size ≤ W.heap.size := hK.1.size
    have hb := rnd_start hn hK
    generalize hF : Array.foldl _ _ _ _ _ = F
    obtain rfl : F = #[.func (.func gf) #[] lb, undef, .pointer (some ⟨g1, 0, none⟩), .pointer (some ⟨g2, 0, none⟩), .pointer (some ⟨g3, 0, none⟩), undef, undef, .func (.func gf) #[] lb, .agg #[.int .i64 x.1, .int .i64 x.2], undef, undef, undef, undef, undef, undef, undef, undef, undef, undef, undef, undef, undef, undef, undef, undef, undef, undef, undef, undef, undef, undef, undef, undef, undef, undef, undef, undef, undef] := hF.symm.trans (by kernel_rfl)
    clear hF
    refine wp_region_LI (W0 := (rnd W w.heap.size hn)) ((g3, .cells #[u] 22 (0, 0)) :: (g2, .cells #[.int .i64 0] 36 (0, 0)) :: (g1, .cells #[.slice none 0 0] 22 (0, 0)) :: (Kx ++ restOf W)) (by kernel_rfl) (hb) ?_
    refine wpL_new (fun g => .pointer (some ⟨g, 0, none⟩)) (obi := .cells #[.int .i64 0, .int .i64 0] 41 (0, 0)) rfl rfl (fun _ => by kernel_rfl) (fun _ => by simp only [List.setIfInBounds_toArray, List.set_cons_succ, List.set_cons_zero] <;> rfl) fun g11 Bg11 Fg11 => ?_
    try simp only [List.forall_mem_cons] at Fg11
    refine wpL_s ((g11, .cells #[.int .i64 x.1, .int .i64 x.2] 41 (0, 0)) :: (g3, .cells #[u] 22 (0, 0)) :: (g2, .cells #[.int .i64 0] 36 (0, 0)) :: (g1, .cells #[.slice none 0 0] 22 (0, 0)) :: (Kx ++ restOf W)) rfl rfl (st_span rfl (by kernel_rfl) (by kernel_rfl) (.head _) (by omega) (List.forall_mem_cons.2 ⟨.inl rfl, (List.forall_mem_cons.2 ⟨.inr ⟨(.tail _ (.head _)), Fg11.1⟩, (List.forall_mem_cons.2 ⟨.inr ⟨(.tail _ (.tail _ (.head _))), Fg11.2.1⟩, (List.forall_mem_cons.2 ⟨.inr ⟨(.tail _ (.tail _ (.tail _ (.head _)))), Fg11.2.2.1⟩, (fun p hp => .inr ⟨(.tail _ (.tail _ (.tail _ (.tail _ hp)))), Fg11.2.2.2 p hp⟩)⟩)⟩)⟩)⟩)) ?_
    refine wpL_done (fun W4 hW4 => ?_)
    obtain ⟨Fa, Fb, Fc, Fd⟩ := Fg11
    refine hKK _ _ (keeps_of _ hW4 (fun p hp => .tail _ (.tail _ (.tail _ (.tail _ (List.mem_append_right _ hp)))))) (below_of hW4) ⟨u, Kx, (rnd_back hK hW4).sub (fun p hp => by rcases List.mem_cons.1 hp with rfl | hp; exact .tail _ (.head _); rcases List.mem_cons.1 hp with rfl | hp; exact .tail _ (.tail _ (.head _)); rcases List.mem_cons.1 hp with rfl | hp; exact .tail _ (.tail _ (.tail _ (.head _))); exact .tail _ (.tail _ (.tail _ (.tail _ (List.mem_append_left _ hp))))), hc⟩ ?_
    refine ⟨g11, u, Bg11, Fc, Fb, Fa, hW4.2 _ (.head _), hW4.2 _ (.tail _ (.head _)), ?_, rfl⟩
    rintro g n cap rfl
    rcases hc with ⟨_, hu, _⟩ | ⟨g', cap', cur, m0, a, b, _, _, hu, _, _, _, _, rfl⟩
    · cases hu
    · cases hu
      exact Fd _ (List.mem_append_left _ (.head _))
  case body =>
    rintro l pre x a' W hBl hrl ⟨u, Kx, hK, hc⟩ ⟨b5, u', hb5, n1, n2, n3, hsp, hu3, hne, rfl⟩ hlt
    have hml := merge_len pre
    have hn : w.heap.size ≤ W.heap.size := hK.1.size
    obtain rfl : u' = u := by have h := hK.2 _ (.head _); rw [show W.heap[g3]? = _ from hu3] at h; cases h; rfl
    have B1 : (rnd W w.heap.size hn).B ≤ g1 := Bg1
    have B2 : (rnd W w.heap.size hn).B ≤ g2 := Bg2
    have B3 : (rnd W w.heap.size hn).B ≤ g3 := Bg3
    have B5 : (rnd W w.heap.size hn).B ≤ b5 := hb5
    have N5 := rest_ne hsp rfl
    have N3 := rest_ne (hK.2 _ (.head _)) rfl
    have N2 := rest_ne (hK.2 _ (.tail _ (.head _))) rfl
    have N1 := rest_ne (hK.2 _ (.tail _ (.tail _ (.head _)))) rfl
    rcases hc with ⟨hm, rfl, rfl⟩ | ⟨g, cap, cur, m0, a, b, hm, hR, rfl, hBg, m1, m2, m3, rfl⟩
    · have hb : KS (rnd W w.heap.size hn) ((b5, .cells #[.int .i64 x.1, .int .i64 x.2] 41 (0, 0)) :: (g3, .cells #[.slice none 0 0] 22 (0, 0)) :: (g2, .cells #[.int .i64 0] 36 (0, 0)) :: (g1, .cells #[.slice none 0 0] 22 (0, 0)) :: (restOf W)) W := ⟨Below.refl _ _, fun p hp => by rcases List.mem_cons.1 hp with rfl | hp; exact hsp; exact (ks_rest hK).2 p hp⟩
      refine wpIn_block ?_
      refine wpIn_seq ?_
      refine wp_region_LI (W0 := (rnd W w.heap.size hn)) ((b5, .cells #[.int .i64 x.1, .int .i64 x.2] 41 (0, 0)) :: (g3, .cells #[.slice none 0 0] 22 (0, 0)) :: (g2, .cells #[.int .i64 0] 36 (0, 0)) :: (g1, .cells #[.slice none 0 0] 22 (0, 0)) :: (restOf W)) (by kernel_rfl) (hb) ?_
      refine lv (v := .slice none 0 0) rfl rfl (yb_loadc (off := 0) rfl (by kernel_rfl) (.tail _ (.head _)) Tryd.underlying22 rfl (by kernel_rfl)) ?_
      refine lm (v := .int .i64 0) rfl rfl ?_
      refine lm (v := .int .i64 (-1)) rfl rfl ?_
      refine lm (v := .int .i64 (-1)) rfl rfl ?_
      refine wpL_done (fun W4 hW4 => ?_)
      refine (show Code.wpIn _ _ _ _ _ _ _ from ?_)
      refine wpIn_seq ?_
      refine wp_region_VI (W0 := (rnd W w.heap.size hn)) ((b5, .cells #[.int .i64 x.1, .int .i64 x.2] 41 (0, 0)) :: (g3, .cells #[.slice none 0 0] 22 (0, 0)) :: (g2, .cells #[.int .i64 0] 36 (0, 0)) :: (g1, .cells #[.slice none 0 0] 22 (0, 0)) :: (restOf W)) (by kernel_rfl) (by kernel_rfl) (hW4) ?_
      refine vm (i := 0) (v := .int .i64 (-1)) rfl rfl rfl ?_
      refine vm (i := 1) (v := .bool false) rfl rfl rfl ?_
      refine vm (i := 2) (v := .bool false) rfl rfl rfl ?_
      refine vn (i := 3) rfl rfl ?_
      refine vn (i := 4) rfl rfl ?_
      refine vn (i := 5) rfl rfl ?_
      refine vn (i := 6) rfl rfl ?_
      refine vn (i := 7) rfl rfl ?_
      refine vn (i := 8) rfl rfl ?_
      refine vn (i := 9) rfl rfl ?_
      refine vn (i := 10) rfl rfl ?_
      refine vm (i := 11) (v := .bool false) rfl rfl rfl ?_
      refine wpV_done (by kernel_rfl) (fun W5 hW5 => ?_) _
      clear hW4
      refine (show Code.wpIn _ _ _ _ _ _ _ from ?_)
      refine wpIn_cond_false rfl ?_
      refine wpIn_seq ?_
      refine wp_region_LI (W0 := (rnd W w.heap.size hn)) ((b5, .cells #[.int .i64 x.1, .int .i64 x.2] 41 (0, 0)) :: (g3, .cells #[.slice none 0 0] 22 (0, 0)) :: (g2, .cells #[.int .i64 0] 36 (0, 0)) :: (g1, .cells #[.slice none 0 0] 22 (0, 0)) :: (restOf W)) (by kernel_rfl) (hW5) ?_
      refine lv (v := .slice none 0 0) rfl rfl (yb_loadc (off := 0) rfl (by kernel_rfl) (.tail _ (.head _)) Tryd.underlying22 rfl (by kernel_rfl)) ?_
      refine lm (v := .int .i64 0) rfl rfl ?_
      refine lm (v := .bool false) rfl rfl ?_
      refine wpL_done (fun W6 hW6 => ?_)
      clear hW5
      refine (show Code.wpIn _ _ _ _ _ _ _ from ?_)
      refine wpIn_cond_false rfl ?_
      refine wp_region_LI (W0 := (rnd W w.heap.size hn)) ((b5, .cells #[.int .i64 x.1, .int .i64 x.2] 41 (0, 0)) :: (g3, .cells #[.slice none 0 0] 22 (0, 0)) :: (g2, .cells #[.int .i64 0] 36 (0, 0)) :: (g1, .cells #[.slice none 0 0] 22 (0, 0)) :: (restOf W)) (by kernel_rfl) (hW6) ?_
      refine lv (v := .slice none 0 0) rfl rfl (yb_loadc (off := 0) rfl (by kernel_rfl) (.tail _ (.head _)) Tryd.underlying22 rfl (by kernel_rfl)) ?_
      refine lv (v := .agg #[.int .i64 x.1, .int .i64 x.2]) rfl rfl (yb_load (n := 2) (off := 0) rfl (by kernel_rfl) (.head _) Tryd.underlying41 rfl size_span (by simp) (by kernel_rfl)) ?_
      refine wpL_new (fun g => .slice (some ⟨g, 0, none⟩) 1 1) (obi := .cells #[.int .i64 x.1, .int .i64 x.2] 41 (0, 0)) rfl rfl (fun _ => by kernel_rfl) (fun _ => by simp only [List.setIfInBounds_toArray, List.set_cons_succ, List.set_cons_zero] <;> rfl) fun g21 Bg21 Fg21 => ?_
      try simp only [List.forall_mem_cons] at Fg21
      refine wpL_g (AppG (rnd W w.heap.size hn) ((g21, .cells #[.int .i64 x.1, .int .i64 x.2] 41 (0, 0)) :: (b5, .cells #[.int .i64 x.1, .int .i64 x.2] 41 (0, 0)) :: (g3, .cells #[.slice none 0 0] 22 (0, 0)) :: (g2, .cells #[.int .i64 0] 36 (0, 0)) :: (g1, .cells #[.slice none 0 0] 22 (0, 0)) :: (restOf W)) 1 [.int .i64 x.1, .int .i64 x.2]) rfl (by kernel_rfl) (app_nil rfl (by kernel_rfl) (by kernel_rfl) (.head _)) (fun _ => by simp only [List.setIfInBounds_toArray, List.set_cons_succ, List.set_cons_zero] <;> rfl) ?_
      rintro v K9 ⟨g9, cap9, cur9, rfl, Bg9, Fg9, hR9, rfl⟩
      simp only [List.forall_mem_cons] at Fg9
      refine wpL_s ((g9, .cells cur9 41 (0, 0)) :: (g21, .cells #[.int .i64 x.1, .int .i64 x.2] 41 (0, 0)) :: (b5, .cells #[.int .i64 x.1, .int .i64 x.2] 41 (0, 0)) :: (g3, .cells #[.slice (some ⟨g9, 0, none⟩) 1 cap9] 22 (0, 0)) :: (g2, .cells #[.int .i64 0] 36 (0, 0)) :: (g1, .cells #[.slice none 0 0] 22 (0, 0)) :: (restOf W)) rfl rfl (st_cell rfl (by kernel_rfl) (by kernel_rfl) (.tail _ (.tail _ (.tail _ (.head _)))) (by omega) (by kernel_rfl) ⟨rfl, rfl⟩ (List.forall_mem_cons.2 ⟨.inr ⟨(.head _), (Ne.symm Fg9.2.2.1)⟩, (List.forall_mem_cons.2 ⟨.inr ⟨(.tail _ (.head _)), (Ne.symm Fg21.2.1)⟩, (List.forall_mem_cons.2 ⟨.inr ⟨(.tail _ (.tail _ (.head _))), n3.symm⟩, (List.forall_mem_cons.2 ⟨.inl rfl, (List.forall_mem_cons.2 ⟨.inr ⟨(.tail _ (.tail _ (.tail _ (.tail _ (.head _))))), Fg3.1⟩, (List.forall_mem_cons.2 ⟨.inr ⟨(.tail _ (.tail _ (.tail _ (.tail _ (.tail _ (.head _)))))), Fg3.2.1⟩, (fun p hp => .inr ⟨(.tail _ (.tail _ (.tail _ (.tail _ (.tail _ (.tail _ hp)))))), N3 p hp⟩)⟩)⟩)⟩)⟩)⟩)⟩)) ?_
      refine wpL_done (fun W7 hW7 => ?_)
      clear hW6
      exact ⟨(keeps_of _ hW7 (fun p hp => (.tail _ (.tail _ (.tail _ (.tail _ (.tail _ (.tail _ hp)))))))), below_of hW7, .slice (some ⟨g9, 0, none⟩) 1 cap9, [(g9, .cells cur9 41 (0, 0))], ((rnd_back hK hW7).sub (List.forall_mem_cons.2 ⟨(.tail _ (.tail _ (.tail _ (.head _)))), (List.forall_mem_cons.2 ⟨(.tail _ (.tail _ (.tail _ (.tail _ (.head _))))), (List.forall_mem_cons.2 ⟨(.tail _ (.tail _ (.tail _ (.tail _ (.tail _ (.head _)))))), (List.forall_mem_cons.2 ⟨(.head _), (fun _ hp => by cases hp)⟩)⟩)⟩)⟩)), .inr ⟨g9, cap9, cur9, [], x.1, x.2, by rw [merge_snoc, hm]; rfl, hR9, rfl, Bg9, Fg9.2.2.2.2.1, Fg9.2.2.2.1, Fg9.2.2.1, rfl⟩⟩
    · have hcap := hR.2.2.1
      have n6 : g ≠ b5 := hne g _ cap rfl
      have Bg : (rnd W w.heap.size hn).B ≤ g := hBg
      have Ng := rest_ne (hK.2 (g, _) (.tail _ (.tail _ (.tail _ (.head _))))) rfl
      have hml2 : m0.length + 1 ≤ pre.length := by rw [hm] at hml; simpa using hml
      obtain ⟨n0, hn0⟩ : ∃ n0, m0.length = n0 := ⟨_, rfl⟩
      rw [hn0] at hml2 hK hR hu3 hne
      have hget := row_get hR (i := n0) (s := (a, b)) (by rw [← hn0]; simp)
      have hb : KS (rnd W w.heap.size hn) ((b5, .cells #[.int .i64 x.1, .int .i64 x.2] 41 (0, 0)) :: (g, .cells cur 41 (0, 0)) :: (g3, .cells #[.slice (some ⟨g, 0, none⟩) (n0 + 1) cap] 22 (0, 0)) :: (g2, .cells #[.int .i64 0] 36 (0, 0)) :: (g1, .cells #[.slice none 0 0] 22 (0, 0)) :: (restOf W)) W := ⟨Below.refl _ _, fun p hp => by rcases List.mem_cons.1 hp with rfl | hp; exact hsp; rcases List.mem_cons.1 hp with rfl | hp; exact hK.2 _ (.tail _ (.tail _ (.tail _ (.head _)))); rcases List.mem_cons.1 hp with rfl | hp; exact hK.2 _ (.head _); rcases List.mem_cons.1 hp with rfl | hp; exact hK.2 _ (.tail _ (.head _)); rcases List.mem_cons.1 hp with rfl | hp; exact hK.2 _ (.tail _ (.tail _ (.head _))); exact (rest_mem.1 hp).1⟩
      by_cases heq : b = x.1
      · refine wpIn_block ?_
        refine wpIn_seq ?_
        refine wp_region_LI (W0 := (rnd W w.heap.size hn)) ((b5, .cells #[.int .i64 x.1, .int .i64 x.2] 41 (0, 0)) :: (g, .cells cur 41 (0, 0)) :: (g3, .cells #[.slice (some ⟨g, 0, none⟩) (n0 + 1) cap] 22 (0, 0)) :: (g2, .cells #[.int .i64 0] 36 (0, 0)) :: (g1, .cells #[.slice none 0 0] 22 (0, 0)) :: (restOf W)) (by kernel_rfl) (hb) ?_
        refine lv (v := .slice (some ⟨g, 0, none⟩) (n0 + 1) cap) rfl rfl (yb_loadc (off := 0) rfl (by kernel_rfl) (.tail _ (.tail _ (.head _))) Tryd.underlying22 rfl (by kernel_rfl)) ?_
        refine lm (v := .int .i64 ((n0 + 1 : Nat) : Int)) rfl rfl ?_
        refine lp (v := .int .i64 (n0 : Int)) rfl rfl (run_bin rfl (vx := .int .i64 ((n0 + 1 : Nat) : Int)) (vy := .int .i64 1) (by kernel_rfl) (by kernel_rfl) fun w => run_subI (z := (n0 : Int)) (by omega) (by omega) w) ?_
        refine lm (v := .int .i64 (n0 : Int)) rfl rfl ?_
        refine wpL_done (fun W4 hW4 => ?_)
        refine (show Code.wpIn _ _ _ _ _ _ _ from ?_)
        refine wpIn_seq ?_
        refine wp_region_VI (W0 := (rnd W w.heap.size hn)) ((b5, .cells #[.int .i64 x.1, .int .i64 x.2] 41 (0, 0)) :: (g, .cells cur 41 (0, 0)) :: (g3, .cells #[.slice (some ⟨g, 0, none⟩) (n0 + 1) cap] 22 (0, 0)) :: (g2, .cells #[.int .i64 0] 36 (0, 0)) :: (g1, .cells #[.slice none 0 0] 22 (0, 0)) :: (restOf W)) (by kernel_rfl) (by kernel_rfl) (hW4) ?_
        refine vm (i := 0) (v := .int .i64 (n0 : Int)) rfl rfl rfl ?_
        refine vp (i := 1) (v := .bool true) rfl rfl rfl (run_bin rfl (vx := .int .i64 (n0 : Int)) (vy := .int .i64 0) (by kernel_rfl) (by kernel_rfl) fun w => run_geqI (decide_eq_true (by omega)) w) ?_
        refine vm (i := 2) (v := .bool true) rfl rfl rfl ?_
        refine vv (i := 3) (v := .slice (some ⟨g, 0, none⟩) (n0 + 1) cap) rfl rfl rfl (yb_loadc (off := 0) rfl (by kernel_rfl) (.tail _ (.tail _ (.head _))) Tryd.underlying22 rfl (by kernel_rfl)) ?_
        refine vm (i := 4) (v := .int .i64 (n0 : Int)) rfl rfl rfl ?_
        refine vp (i := 5) (v := .pointer (some ⟨g, 0 + 2 * n0, none⟩)) rfl rfl rfl (run_idx (b := g) (off := 0) (n := n0 + 1) (cap := cap) (k := n0) rfl (by kernel_rfl) (by kernel_rfl) (by omega)) ?_
        refine vm (i := 6) (v := .pointer (some ⟨g, 0 + 2 * n0 + 1, none⟩)) rfl rfl rfl ?_
        refine vv (i := 7) (v := .int .i64 b) rfl rfl rfl (yb_loadc (off := 0 + 2 * n0 + 1) rfl (by kernel_rfl) (.tail _ (.head _)) Tryd.underlying3 rfl (by rw [show 0 + 2 * n0 + 1 = 2 * n0 + 1 from by omega]; exact hget.2)) ?_
        refine vm (i := 8) (v := .pointer (some ⟨b5, 0, none⟩)) rfl rfl rfl ?_
        refine vv (i := 9) (v := .int .i64 x.1) rfl rfl rfl (yb_loadc (off := 0) rfl (by kernel_rfl) (.head _) Tryd.underlying3 rfl (by kernel_rfl)) ?_
        refine vp (i := 10) (v := .bool true) rfl rfl rfl (run_bin rfl (vx := .int .i64 b) (vy := .int .i64 x.1) (by kernel_rfl) (by kernel_rfl) fun w => run_eqlI (decide_eq_true heq) w) ?_
        refine vm (i := 11) (v := .bool true) rfl rfl rfl ?_
        refine wpV_done (by kernel_rfl) (fun W5 hW5 => ?_) _
        clear hW4
        refine (show Code.wpIn _ _ _ _ _ _ _ from ?_)
        refine wpIn_cond_true rfl ?_
        refine wp_region_LI (W0 := (rnd W w.heap.size hn)) ((b5, .cells #[.int .i64 x.1, .int .i64 x.2] 41 (0, 0)) :: (g, .cells cur 41 (0, 0)) :: (g3, .cells #[.slice (some ⟨g, 0, none⟩) (n0 + 1) cap] 22 (0, 0)) :: (g2, .cells #[.int .i64 0] 36 (0, 0)) :: (g1, .cells #[.slice none 0 0] 22 (0, 0)) :: (restOf W)) (by kernel_rfl) (hW5) ?_
        refine lv (v := .slice (some ⟨g, 0, none⟩) (n0 + 1) cap) rfl rfl (yb_loadc (off := 0) rfl (by kernel_rfl) (.tail _ (.tail _ (.head _))) Tryd.underlying22 rfl (by kernel_rfl)) ?_
        refine lm (v := .int .i64 (n0 : Int)) rfl rfl ?_
        refine lm (v := .pointer (some ⟨b5, 1, none⟩)) rfl rfl ?_
        refine lv (v := .int .i64 x.2) rfl rfl (yb_loadc (off := 1) rfl (by kernel_rfl) (.head _) Tryd.underlying3 rfl (by kernel_rfl)) ?_
        refine lp (v := .pointer (some ⟨g, 0 + 2 * n0, none⟩)) rfl rfl (run_idx (b := g) (off := 0) (n := n0 + 1) (cap := cap) (k := n0) rfl (by kernel_rfl) (by kernel_rfl) (by omega)) ?_
        refine lm (v := .pointer (some ⟨g, 0 + 2 * n0 + 1, none⟩)) rfl rfl ?_
        refine wpL_s ((b5, .cells #[.int .i64 x.1, .int .i64 x.2] 41 (0, 0)) :: (g, .cells (cur.toList.take (0 + 2 * n0 + 1) ++ [Value.int .i64 x.2] ++ cur.toList.drop (0 + 2 * n0 + 1 + 1)).toArray 41 (0, 0)) :: (g3, .cells #[.slice (some ⟨g, 0, none⟩) (n0 + 1) cap] 22 (0, 0)) :: (g2, .cells #[.int .i64 0] 36 (0, 0)) :: (g1, .cells #[.slice none 0 0] 22 (0, 0)) :: (restOf W)) rfl rfl (st_row (off := 0 + 2 * n0 + 1) (v := .int .i64 x.2) rfl (by kernel_rfl) (by kernel_rfl) (.tail _ (.head _)) (by omega) (by kernel_rfl) (by simp [Value.cells, hR.1]; omega) (by intro v hv; simp [Value.cells] at hv; subst hv; rfl) rfl (List.forall_mem_cons.2 ⟨.inr ⟨(.head _), n6.symm⟩, (List.forall_mem_cons.2 ⟨.inl rfl, (List.forall_mem_cons.2 ⟨.inr ⟨(.tail _ (.tail _ (.head _))), m3⟩, (List.forall_mem_cons.2 ⟨.inr ⟨(.tail _ (.tail _ (.tail _ (.head _)))), m2⟩, (List.forall_mem_cons.2 ⟨.inr ⟨(.tail _ (.tail _ (.tail _ (.tail _ (.head _))))), m1⟩, (fun p hp => .inr ⟨(.tail _ (.tail _ (.tail _ (.tail _ (.tail _ hp))))), Ng p hp⟩)⟩)⟩)⟩)⟩)⟩)) ?_
        refine wpL_done (fun W6 hW6 => ?_)
        clear hW5
        subst hn0
        have hRs := row_set (c := x.2) rfl hR
        rw [show 2 * m0.length + 1 = 0 + 2 * m0.length + 1 from by omega, show 2 * m0.length + 2 = 0 + 2 * m0.length + 1 + 1 from by omega] at hRs
        exact ⟨(keeps_of _ hW6 (fun p hp => (.tail _ (.tail _ (.tail _ (.tail _ (.tail _ hp))))))), below_of hW6, .slice (some ⟨g, 0, none⟩) (m0.length + 1) cap, [(g, .cells (cur.toList.take (0 + 2 * m0.length + 1) ++ [Value.int .i64 x.2] ++ cur.toList.drop (0 + 2 * m0.length + 1 + 1)).toArray 41 (0, 0))], ((rnd_back hK hW6).sub (List.forall_mem_cons.2 ⟨(.tail _ (.tail _ (.head _))), (List.forall_mem_cons.2 ⟨(.tail _ (.tail _ (.tail _ (.head _)))), (List.forall_mem_cons.2 ⟨(.tail _ (.tail _ (.tail _ (.tail _ (.head _))))), (List.forall_mem_cons.2 ⟨(.tail _ (.head _)), (fun _ hp => by cases hp)⟩)⟩)⟩)⟩)), .inr ⟨g, cap, _, m0, a, x.2, by rw [merge_snoc, hm, addM_touch m0 a b x heq], hRs, rfl, hBg, m1, m2, m3, rfl⟩⟩
      · refine wpIn_block ?_
        refine wpIn_seq ?_
        refine wp_region_LI (W0 := (rnd W w.heap.size hn)) ((b5, .cells #[.int .i64 x.1, .int .i64 x.2] 41 (0, 0)) :: (g, .cells cur 41 (0, 0)) :: (g3, .cells #[.slice (some ⟨g, 0, none⟩) (n0 + 1) cap] 22 (0, 0)) :: (g2, .cells #[.int .i64 0] 36 (0, 0)) :: (g1, .cells #[.slice none 0 0] 22 (0, 0)) :: (restOf W)) (by kernel_rfl) (hb) ?_
        refine lv (v := .slice (some ⟨g, 0, none⟩) (n0 + 1) cap) rfl rfl (yb_loadc (off := 0) rfl (by kernel_rfl) (.tail _ (.tail _ (.head _))) Tryd.underlying22 rfl (by kernel_rfl)) ?_
        refine lm (v := .int .i64 ((n0 + 1 : Nat) : Int)) rfl rfl ?_
        refine lp (v := .int .i64 (n0 : Int)) rfl rfl (run_bin rfl (vx := .int .i64 ((n0 + 1 : Nat) : Int)) (vy := .int .i64 1) (by kernel_rfl) (by kernel_rfl) fun w => run_subI (z := (n0 : Int)) (by omega) (by omega) w) ?_
        refine lm (v := .int .i64 (n0 : Int)) rfl rfl ?_
        refine wpL_done (fun W4 hW4 => ?_)
        refine (show Code.wpIn _ _ _ _ _ _ _ from ?_)
        refine wpIn_seq ?_
        refine wp_region_VI (W0 := (rnd W w.heap.size hn)) ((b5, .cells #[.int .i64 x.1, .int .i64 x.2] 41 (0, 0)) :: (g, .cells cur 41 (0, 0)) :: (g3, .cells #[.slice (some ⟨g, 0, none⟩) (n0 + 1) cap] 22 (0, 0)) :: (g2, .cells #[.int .i64 0] 36 (0, 0)) :: (g1, .cells #[.slice none 0 0] 22 (0, 0)) :: (restOf W)) (by kernel_rfl) (by kernel_rfl) (hW4) ?_
        refine vm (i := 0) (v := .int .i64 (n0 : Int)) rfl rfl rfl ?_
        refine vp (i := 1) (v := .bool true) rfl rfl rfl (run_bin rfl (vx := .int .i64 (n0 : Int)) (vy := .int .i64 0) (by kernel_rfl) (by kernel_rfl) fun w => run_geqI (decide_eq_true (by omega)) w) ?_
        refine vm (i := 2) (v := .bool true) rfl rfl rfl ?_
        refine vv (i := 3) (v := .slice (some ⟨g, 0, none⟩) (n0 + 1) cap) rfl rfl rfl (yb_loadc (off := 0) rfl (by kernel_rfl) (.tail _ (.tail _ (.head _))) Tryd.underlying22 rfl (by kernel_rfl)) ?_
        refine vm (i := 4) (v := .int .i64 (n0 : Int)) rfl rfl rfl ?_
        refine vp (i := 5) (v := .pointer (some ⟨g, 0 + 2 * n0, none⟩)) rfl rfl rfl (run_idx (b := g) (off := 0) (n := n0 + 1) (cap := cap) (k := n0) rfl (by kernel_rfl) (by kernel_rfl) (by omega)) ?_
        refine vm (i := 6) (v := .pointer (some ⟨g, 0 + 2 * n0 + 1, none⟩)) rfl rfl rfl ?_
        refine vv (i := 7) (v := .int .i64 b) rfl rfl rfl (yb_loadc (off := 0 + 2 * n0 + 1) rfl (by kernel_rfl) (.tail _ (.head _)) Tryd.underlying3 rfl (by rw [show 0 + 2 * n0 + 1 = 2 * n0 + 1 from by omega]; exact hget.2)) ?_
        refine vm (i := 8) (v := .pointer (some ⟨b5, 0, none⟩)) rfl rfl rfl ?_
        refine vv (i := 9) (v := .int .i64 x.1) rfl rfl rfl (yb_loadc (off := 0) rfl (by kernel_rfl) (.head _) Tryd.underlying3 rfl (by kernel_rfl)) ?_
        refine vp (i := 10) (v := .bool false) rfl rfl rfl (run_bin rfl (vx := .int .i64 b) (vy := .int .i64 x.1) (by kernel_rfl) (by kernel_rfl) fun w => run_eqlI (decide_eq_false heq) w) ?_
        refine vm (i := 11) (v := .bool false) rfl rfl rfl ?_
        refine wpV_done (by kernel_rfl) (fun W5 hW5 => ?_) _
        clear hW4
        refine (show Code.wpIn _ _ _ _ _ _ _ from ?_)
        refine wpIn_cond_false rfl ?_
        refine wpIn_seq ?_
        refine wp_region_LI (W0 := (rnd W w.heap.size hn)) ((b5, .cells #[.int .i64 x.1, .int .i64 x.2] 41 (0, 0)) :: (g, .cells cur 41 (0, 0)) :: (g3, .cells #[.slice (some ⟨g, 0, none⟩) (n0 + 1) cap] 22 (0, 0)) :: (g2, .cells #[.int .i64 0] 36 (0, 0)) :: (g1, .cells #[.slice none 0 0] 22 (0, 0)) :: (restOf W)) (by kernel_rfl) (hW5) ?_
        refine lv (v := .slice (some ⟨g, 0, none⟩) (n0 + 1) cap) rfl rfl (yb_loadc (off := 0) rfl (by kernel_rfl) (.tail _ (.tail _ (.head _))) Tryd.underlying22 rfl (by kernel_rfl)) ?_
        refine lm (v := .int .i64 ((n0 + 1 : Nat) : Int)) rfl rfl ?_
        refine lp (v := .bool false) rfl rfl (run_bin rfl (vx := .int .i64 ((n0 + 1 : Nat) : Int)) (vy := .int .i64 1000) (by kernel_rfl) (by kernel_rfl) fun w => run_eqlI (decide_eq_false (by omega)) w) ?_
        refine wpL_done (fun W6 hW6 => ?_)
        clear hW5
        refine (show Code.wpIn _ _ _ _ _ _ _ from ?_)
        refine wpIn_cond_false rfl ?_
        refine wp_region_LI (W0 := (rnd W w.heap.size hn)) ((b5, .cells #[.int .i64 x.1, .int .i64 x.2] 41 (0, 0)) :: (g, .cells cur 41 (0, 0)) :: (g3, .cells #[.slice (some ⟨g, 0, none⟩) (n0 + 1) cap] 22 (0, 0)) :: (g2, .cells #[.int .i64 0] 36 (0, 0)) :: (g1, .cells #[.slice none 0 0] 22 (0, 0)) :: (restOf W)) (by kernel_rfl) (hW6) ?_
        refine lv (v := .slice (some ⟨g, 0, none⟩) (n0 + 1) cap) rfl rfl (yb_loadc (off := 0) rfl (by kernel_rfl) (.tail _ (.tail _ (.head _))) Tryd.underlying22 rfl (by kernel_rfl)) ?_
        refine lv (v := .agg #[.int .i64 x.1, .int .i64 x.2]) rfl rfl (yb_load (n := 2) (off := 0) rfl (by kernel_rfl) (.head _) Tryd.underlying41 rfl size_span (by simp) (by kernel_rfl)) ?_
        refine wpL_new (fun g => .slice (some ⟨g, 0, none⟩) 1 1) (obi := .cells #[.int .i64 x.1, .int .i64 x.2] 41 (0, 0)) rfl rfl (fun _ => by kernel_rfl) (fun _ => by simp only [List.setIfInBounds_toArray, List.set_cons_succ, List.set_cons_zero] <;> rfl) fun g21 Bg21 Fg21 => ?_
        try simp only [List.forall_mem_cons] at Fg21
        refine wpL_g (AppG (rnd W w.heap.size hn) ((g21, .cells #[.int .i64 x.1, .int .i64 x.2] 41 (0, 0)) :: (b5, .cells #[.int .i64 x.1, .int .i64 x.2] 41 (0, 0)) :: (g3, .cells #[.slice (some ⟨g, 0, none⟩) (n0 + 1) cap] 22 (0, 0)) :: (g2, .cells #[.int .i64 0] 36 (0, 0)) :: (g1, .cells #[.slice none 0 0] 22 (0, 0)) :: (restOf W)) (n0 + 1 + 1) (flat (m0 ++ [(a, b)]) ++ [.int .i64 x.1, .int .i64 x.2])) rfl (by kernel_rfl) (app_row rfl (by kernel_rfl) (by kernel_rfl) (.head _) (.tail _ (.tail _ (.head _))) (by omega) hR (by omega) ⟨rfl, rfl⟩ (List.forall_mem_cons.2 ⟨⟨(.head _), (Ne.symm Fg21.2.1)⟩, (List.forall_mem_cons.2 ⟨⟨(.tail _ (.head _)), n6.symm⟩, (List.forall_mem_cons.2 ⟨⟨(.tail _ (.tail _ (.tail _ (.head _)))), m3⟩, (List.forall_mem_cons.2 ⟨⟨(.tail _ (.tail _ (.tail _ (.tail _ (.head _))))), m2⟩, (List.forall_mem_cons.2 ⟨⟨(.tail _ (.tail _ (.tail _ (.tail _ (.tail _ (.head _)))))), m1⟩, (fun p hp => ⟨(.tail _ (.tail _ (.tail _ (.tail _ (.tail _ (.tail _ hp)))))), Ng p hp⟩)⟩)⟩)⟩)⟩)⟩)) (fun _ => by simp only [List.setIfInBounds_toArray, List.set_cons_succ, List.set_cons_zero] <;> rfl) ?_
        rintro v K9 ⟨g9, cap9, cur9, rfl, Bg9, Fg9, hR9, rfl⟩
        simp only [List.forall_mem_cons] at Fg9
        refine wpL_s ((g9, .cells cur9 41 (0, 0)) :: (g21, .cells #[.int .i64 x.1, .int .i64 x.2] 41 (0, 0)) :: (b5, .cells #[.int .i64 x.1, .int .i64 x.2] 41 (0, 0)) :: (g3, .cells #[.slice (some ⟨g9, 0, none⟩) (n0 + 1 + 1) cap9] 22 (0, 0)) :: (g2, .cells #[.int .i64 0] 36 (0, 0)) :: (g1, .cells #[.slice none 0 0] 22 (0, 0)) :: (restOf W)) rfl rfl (st_cell rfl (by kernel_rfl) (by kernel_rfl) (.tail _ (.tail _ (.tail _ (.head _)))) (by omega) (by kernel_rfl) ⟨rfl, rfl⟩ (List.forall_mem_cons.2 ⟨.inr ⟨(.head _), (Ne.symm Fg9.2.2.1)⟩, (List.forall_mem_cons.2 ⟨.inr ⟨(.tail _ (.head _)), (Ne.symm Fg21.2.2.1)⟩, (List.forall_mem_cons.2 ⟨.inr ⟨(.tail _ (.tail _ (.head _))), n3.symm⟩, (List.forall_mem_cons.2 ⟨.inl rfl, (List.forall_mem_cons.2 ⟨.inr ⟨(.tail _ (.tail _ (.tail _ (.tail _ (.head _))))), Fg3.1⟩, (List.forall_mem_cons.2 ⟨.inr ⟨(.tail _ (.tail _ (.tail _ (.tail _ (.tail _ (.head _)))))), Fg3.2.1⟩, (fun p hp => .inr ⟨(.tail _ (.tail _ (.tail _ (.tail _ (.tail _ (.tail _ hp)))))), N3 p hp⟩)⟩)⟩)⟩)⟩)⟩)⟩)) ?_
        refine wpL_done (fun W7 hW7 => ?_)
        clear hW6
        subst hn0
        have hl1 : (m0 ++ [(a, b)]).length = m0.length + 1 := by simp
        exact ⟨(keeps_of _ hW7 (fun p hp => (.tail _ (.tail _ (.tail _ (.tail _ (.tail _ (.tail _ hp)))))))), below_of hW7, .slice (some ⟨g9, 0, none⟩) (m0.length + 1 + 1) cap9, [(g9, .cells cur9 41 (0, 0))], ((rnd_back hK hW7).sub (List.forall_mem_cons.2 ⟨(.tail _ (.tail _ (.tail _ (.head _)))), (List.forall_mem_cons.2 ⟨(.tail _ (.tail _ (.tail _ (.tail _ (.head _))))), (List.forall_mem_cons.2 ⟨(.tail _ (.tail _ (.tail _ (.tail _ (.tail _ (.head _)))))), (List.forall_mem_cons.2 ⟨(.head _), (fun _ hp => by cases hp)⟩)⟩)⟩)⟩)), .inr ⟨g9, cap9, cur9, m0 ++ [(a, b)], x.1, x.2, by rw [merge_snoc, hm, addM_apart m0 a b x heq], by rw [hl1, flat_append (m0 ++ [(a, b)])]; exact hR9, by rw [hl1], Bg9, Fg9.2.2.2.2.1, Fg9.2.2.2.1, Fg9.2.2.1, rfl⟩⟩
  case done =>
    rintro D ys W hD rfl ⟨u, Kx, hK, hc⟩ hDef
    have hu1 : u.cells = #[u] ∧ u.oneCell' = true := by rcases hc with ⟨_, rfl, _⟩ | ⟨g, cap, cur, m0, a, b, _, _, rfl, _⟩ <;> exact ⟨rfl, rfl⟩
    have hK2 := hK.2
    have N2 : ∀ p ∈ ((D, Obj.deferred (some [])) :: Kx), p.1 ≠ g2 := by
      intro p hp; rcases List.mem_cons.1 hp with rfl | hp
      · exact fun e => by have h := hK.2 _ (.tail _ (.head _)); rw [← show D = g2 from e, hDef] at h; cases h
      · rcases hc with ⟨_, _, rfl⟩ | ⟨g, cap, cur, m0, a, b, _, _, _, _, m1, m2, m3, rfl⟩
        · cases hp
        · simp only [List.mem_cons, List.not_mem_nil, or_false] at hp; subst hp; exact m2.symm
    have N1 : ∀ p ∈ ((D, Obj.deferred (some [])) :: Kx), p.1 ≠ g1 := by
      intro p hp; rcases List.mem_cons.1 hp with rfl | hp
      · exact fun e => by have h := hK.2 _ (.tail _ (.tail _ (.head _))); rw [← show D = g1 from e, hDef] at h; cases h
      · rcases hc with ⟨_, _, rfl⟩ | ⟨g, cap, cur, m0, a, b, _, _, _, _, m1, m2, m3, rfl⟩
        · cases hp
        · simp only [List.mem_cons, List.not_mem_nil, or_false] at hp; subst hp; exact m1.symm
    have hb : KS w ((g3, .cells #[u] 22 (0, 0)) :: (g2, .cells #[.int .i64 0] 36 (0, 0)) :: (g1, .cells #[.slice none 0 0] 22 (0, 0)) :: ((D, .deferred (some [])) :: Kx)) W := ⟨hK.1, fun p hp => by rcases List.mem_cons.1 hp with rfl | hp; exact hK.2 _ (.head _); rcases List.mem_cons.1 hp with rfl | hp; exact hK.2 _ (.tail _ (.head _)); rcases List.mem_cons.1 hp with rfl | hp; exact hK.2 _ (.tail _ (.tail _ (.head _))); rcases List.mem_cons.1 hp with rfl | hp; exact hDef; exact hK.2 _ (.tail _ (.tail _ (.tail _ hp)))⟩
    refine (show Code.wpIn _ _ _ _ _ _ _ from ?_)
    refine (show Code.wpIn _ _ _ _ _ _ _ from ?_)
    refine wpIn_seq ?_
    refine wp_region_LI (W0 := w) ((g3, .cells #[u] 22 (0, 0)) :: (g2, .cells #[.int .i64 0] 36 (0, 0)) :: (g1, .cells #[.slice none 0 0] 22 (0, 0)) :: ((D, .deferred (some [])) :: Kx)) (by kernel_rfl) (hb) ?_
    refine lv (v := u) rfl rfl (yb_loadc (off := 0) rfl (by kernel_rfl) (.head _) Tryd.underlying22 rfl (by kernel_rfl)) ?_
    refine wpL_s ((g3, .cells #[u] 22 (0, 0)) :: (g2, .cells #[.int .i64 0] 36 (0, 0)) :: (g1, .cells #[u] 22 (0, 0)) :: ((D, .deferred (some [])) :: Kx)) rfl rfl (st_cell rfl (by kernel_rfl) (by kernel_rfl) (.tail _ (.tail _ (.head _))) (by omega) (by kernel_rfl) hu1 (List.forall_mem_cons.2 ⟨.inr ⟨(.head _), Fg3.2.1.symm⟩, (List.forall_mem_cons.2 ⟨.inr ⟨(.tail _ (.head _)), Fg2.1.symm⟩, (List.forall_mem_cons.2 ⟨.inl rfl, (fun p hp => .inr ⟨(.tail _ (.tail _ (.tail _ hp))), N1 p hp⟩)⟩)⟩)⟩)) ?_
    refine wpL_s ((g3, .cells #[u] 22 (0, 0)) :: (g2, .cells #[.int .i64 0] 36 (0, 0)) :: (g1, .cells #[u] 22 (0, 0)) :: ((D, .deferred (some [])) :: Kx)) rfl rfl (st_cell rfl (by kernel_rfl) (by kernel_rfl) (.tail _ (.head _)) (by omega) (by kernel_rfl) ⟨rfl, rfl⟩ (List.forall_mem_cons.2 ⟨.inr ⟨(.head _), Fg3.1.symm⟩, (List.forall_mem_cons.2 ⟨.inl rfl, (List.forall_mem_cons.2 ⟨.inr ⟨(.tail _ (.tail _ (.head _))), Fg2.1⟩, (fun p hp => .inr ⟨(.tail _ (.tail _ (.tail _ hp))), N2 p hp⟩)⟩)⟩)⟩)) ?_
    refine wpL_done (fun W4 hW4 => ?_)
    refine (show Code.wpIn _ _ _ _ _ _ _ from ?_)
    refine wpIn_ret ?_
    have hD4 := hW4.2 (D, _) (.tail _ (.tail _ (.tail _ (.head _))))
    refine ⟨by simp, .inl ⟨_, _, rfl, run_takeDeferred hD4, ?_⟩⟩
    have hg1 := hW4.2 _ (.tail _ (.tail _ (.head _)))
    have hg2 := hW4.2 _ (.tail _ (.head _))
    have k1 : D ≠ g1 := N1 _ (.head _)
    have k2 : D ≠ g2 := N2 _ (.head _)
    refine ⟨_, res_cells_s rfl rfl ((World.putObj_heap_other (fun e => k1 e.symm)).trans hg1) Tryd.underlying22 rfl rfl ((World.putObj_heap_other (fun e => k2 e.symm)).trans hg2) Tryd.underlying36 rfl, u, rfl, ?_, ?_⟩
    · rcases hc with ⟨hm, rfl, _⟩ | ⟨g, cap, cur, m0, a, b, hm, hR, rfl, hBg, m1, m2, m3, rfl⟩
      · exact .inl ⟨hm, rfl⟩
      · refine .inr ⟨g, cap, cur, by rw [hm]; simp, ?_, by rw [hm, List.length_append]; exact hR, hBg⟩
        have hgg := hW4.2 _ (.tail _ (.tail _ (.tail _ (.tail _ (.head _)))))
        have k3 : D ≠ g := fun e => by rw [show g = D from e.symm, hD4] at hgg; cases hgg
        exact (World.putObj_heap_other (fun e => k3 e.symm)).trans hgg
    · exact hW4.1.trans (belowK_b (w := w) (Nat.le_refl _) _ D _ _ (Nat.le_trans hW3.1.size hD) hD4 rfl rfl)
  case stop =>
    rintro D c pre W hD _ hf
    exact hf.elim
end Go.Proofs.YtjmcelgdjpdacaaDoor
/- A loop over an iterator, where both parties say which blocks are theirs. Nothing of the program. -/
namespace Tw
open Go Go.RowKit Go.Proofs.YtjmcelgdjpdacaaDoor
theorem fx_room {r : Option Nat} (k : Nat) : (FX r).room k := fun _ h => by cases h
theorem callsAny {P : Program} {r s : Option Nat} {n m : Nat} {f : FuncId} {args : Array Value} {w : World} {R : Ending → World → Prop} (h : CallsIn (FX r) n P f args w R) : CallsIn (FX s) m P f args w R := ⟨trivial, fun cs _ => h.2 cs (fx_room _)⟩
theorem roundAny {P : Program} {r s : Option Nat} {n m l : Nat} {f : FuncId} {tmps : Array Value} {assign body : Code} {w : World} {R : Ending → World → Prop} (h : RoundIn (FX r) n P l f tmps assign body w R) : RoundIn (FX s) m P l f tmps assign body w R := ⟨trivial, fun c cs _ => h.2 c cs (fx_room _)⟩
theorem yieldAny {P : Program} {r s : Option Nat} {n m l : Nat} {args : Array Value} {w : World} {R : Ending → World → Prop} (h : YieldAt (FX r) n P l args w R) : YieldAt (FX s) m P l args w R := by
  obtain ⟨fn, tmps, assign, body, hy, hr⟩ := h
  exact ⟨fn, tmps, assign, body, hy, roundAny hr⟩
structure Fr (S S' : List Nat) (W W' : World) : Prop where
  below : Below 0 W W'
  kept : ∀ k, k < W.heap.size → k ∉ S → W'.heap[k]? = W.heap[k]?
  own : ∀ k ∈ S', k < W'.heap.size ∧ (k ∈ S ∨ W.heap.size ≤ k)
theorem Fr.refl {S : List Nat} {W : World} (h : ∀ k ∈ S, k < W.heap.size) : Fr S S W W := ⟨Below.refl _ _, fun _ _ _ => rfl, fun k hk => ⟨h k hk, .inl hk⟩⟩
theorem Fr.trans {S S1 S2 : List Nat} {W W1 W2 : World} (h : Fr S S1 W W1) (h' : Fr S1 S2 W1 W2) : Fr S S2 W W2 :=
  ⟨h.below.trans h'.below, fun k hk hn => (h'.kept k (Nat.lt_of_lt_of_le hk h.below.size) (fun hm => by rcases (h.own k hm).2 with hc | hc; exact hn hc; omega)).trans (h.kept k hk hn),
   fun k hk => ⟨(h'.own k hk).1, by
    rcases (h'.own k hk).2 with hc | hc
    · exact (h.own k hc).2
    · exact .inr (Nat.le_trans h.below.size hc)⟩⟩
theorem Fr.lower {S S' : List Nat} {W W' : World} {n₀ : Nat} (h : Fr S S' W W') (hS : ∀ k ∈ S, n₀ ≤ k) (hn : n₀ ≤ W.heap.size) : Below n₀ W W' :=
  ⟨h.below.os, h.below.tape, h.below.output, h.below.size, fun k hk => h.kept k (by omega) (fun hm => by have := hS k hm; omega)⟩
theorem Fr.low {S S' : List Nat} {W W' : World} {n₀ : Nat} (h : Fr S S' W W') (hS : ∀ k ∈ S, n₀ ≤ k) (hn : n₀ ≤ W.heap.size) : ∀ k ∈ S', n₀ ≤ k := fun k hk => by
  rcases (h.own k hk).2 with hc | hc
  · exact hS k hc
  · omega
def Stab {β : Type} (B : Nat) (J : β → List Nat → World → Prop) : Prop :=
  ∀ s S W W', J s S W → Below 0 W W' → (∀ k, (k < B ∨ k ∈ S) → k < W.heap.size → W'.heap[k]? = W.heap[k]?) → J s S W'
theorem Stab.put {β : Type} {B : Nat} {J : β → List Nat → World → Prop} (h : Stab B J) {s : β} {S : List Nat} {W : World} {L : Nat} (o : Obj) (hj : J s S W) (hB : B ≤ L) (hL : L ∉ S) : J s S (W.putObj L o) :=
  h s S W _ hj ⟨rfl, rfl, rfl, by simp, fun k hk => by omega⟩ (fun k hk _ => World.putObj_heap_other (fun e => by subst e; rcases hk with hk | hk; omega; exact hL hk))
def SeqF {α : Type} (P : Program) (g : Nat) (lb : Array Value) (encs : α → Array Value) (n₀ : Nat) (w : World) (xs : List α) : Prop :=
  ∀ (l B : Nat) (J Jx : List α → List Nat → World → Prop) (S : List Nat) (W : World), Below n₀ w W → n₀ ≤ B → B ≤ W.heap.size → (∀ k ∈ S, n₀ ≤ k ∧ k < W.heap.size) → Stab B J → Stab B Jx →
    (∀ pre x S1 W1, J pre S1 W1 → (∀ k ∈ S1, n₀ ≤ k ∧ k < W1.heap.size) → (pre ++ [x]) <+: xs → YieldAt (FX none) 0 P l (encs x) W1 fun e W' =>
      ∃ S2, Fr S1 S2 W1 W' ∧ ((e = .returned (.bool true) ∧ J (pre ++ [x]) S2 W') ∨ (e = .returned (.bool false) ∧ Jx (pre ++ [x]) S2 W'))) →
    J [] S W →
    CallsIn (FX none) 0 P g (#[.func (.yield l) #[] #[]] ++ lb) W fun e W' => (∃ v, e = .returned v) ∧ ∃ S', Fr S S' W W' ∧ (J xs S' W' ∨ ∃ pre, Jx pre S' W')
def roundQ {α : Type} (I Ix : List α → List Nat → World → Prop) (S1 : List Nat) (W : World) (L : Nat) (o : Obj) (ys : List α) : Exit → Act → World → Prop
  | .normal, _, W3 => W3.heap[L]? = some o ∧ Below 0 W W3 ∧ ∃ S3, (∀ k, k < W.heap.size → k ∉ S1 → k ≠ L → W3.heap[k]? = W.heap[k]?) ∧ (∀ k ∈ S3, k < W3.heap.size ∧ (k ∈ S1 ∨ W.heap.size ≤ k)) ∧ I ys S3 W3
  | .ret, _, W3 => W3.heap[L]? = some o ∧ Below 0 W W3 ∧ ∃ S3, (∀ k, k < W.heap.size → k ∉ S1 → k ≠ L → W3.heap[k]? = W.heap[k]?) ∧ (∀ k ∈ S3, k < W3.heap.size ∧ (k ∈ S1 ∨ W.heap.size ≤ k)) ∧ Ix ys S3 W3
  | _, _, _ => False
theorem range_own {α : Type} {P : Program} {g : Operand} {ps : Array Tmp} {assign body : Code} {Q : Exit → Act → World → Prop} {a : Act} {w : World}
    {gf : Nat} {lb : Array Value} (hg : a.eval g = .func (.func gf) #[] lb) (eg : ∀ args w, (callFunc gf args).run P w = .ok (.enter gf args) w)
    {encs : α → Array Value} {n₀ : Nat} {w0 : World} {xs : List α} (hseq : SeqF P gf lb encs n₀ w0 xs) (hb0 : Below n₀ w0 w) (hps : ∀ x, (encs x).size = ps.size)
    (B : Nat) (hnB : n₀ ≤ B) (hB : B ≤ w.heap.size) (I Ix : List α → List Nat → World → Prop) (hI : Stab B I) (hIx : Stab B Ix) (S : List Nat) (hS : ∀ k ∈ S, n₀ ≤ k ∧ k < w.heap.size) (h0 : I [] S w)
    (hround : ∀ (L : Nat) (r : Loop) (pre : List α) (x : α) (S1 : List Nat) (W : World), w.heap.size < L → L ∉ S1 → W.heap[L]? = some (.loop r) → I pre S1 W → (∀ k ∈ S1, n₀ ≤ k ∧ k < W.heap.size) → (pre ++ [x]) <+: xs →
      assign.wpIn (FX (some L)) 0 P (Exit.then (fun a' W2 => W2.heap[L]? = W.heap[L]? ∧ ∀ o, body.wpIn (FX (some L)) 0 P (roundQ I Ix S1 W L o (pre ++ [x])) a' (W2.putObj L o)) (fun _ _ _ => False))
        { tmps := (ps.zip (encs x)).foldl (fun t (p, v) => t.setIfInBounds p v) a.tmps, defers := [] } W)
    (hdone : ∀ (D : Nat) (S' : List Nat) (W : World), Fr S S' w W → I xs S' W → w.heap.size ≤ D → D ∉ S' → W.heap[D]? = some (.deferred (some [])) → Q .normal { a with defers := { target := .collected D, args := #[] } :: a.defers } W)
    (hstop : ∀ (D : Nat) (pre : List α) (S' : List Nat) (W : World), Fr S S' w W → Ix pre S' W → w.heap.size ≤ D → D ∉ S' → W.heap[D]? = some (.deferred (some [])) → Code.ret.wpIn (FX none) 0 P Q { a with defers := { target := .collected D, args := #[] } :: a.defers } W) :
    (Code.rangeFunc g ps assign body).wpIn (FX none) 0 P Q a w := by
  refine wpIn_rangeFunc ?_
  intro fn _
  obtain ⟨rec, hrec⟩ : ∃ rec : LoopState → Option Code → Loop, rec = fun st pe => { state := st, pending := pe, fn, tmps := a.tmps, params := ps, assign, body, defers := w.heap.size } := ⟨_, rfl⟩
  obtain ⟨W1, hW1⟩ : ∃ W1, (w.alloc (.deferred (some []))).alloc (.loop (rec .ready none)) = W1 := ⟨_, rfl⟩
  have hz1 : W1.heap.size = w.heap.size + 2 := by rw [← hW1]; simp
  have hL1 : W1.heap[w.heap.size + 1]? = some (.loop (rec .ready none)) := by
    rw [← hW1]; have := World.alloc_heap_new (w.alloc (.deferred (some []))) (.loop (rec .ready none)); rwa [World.size_alloc] at this
  have hD1 : W1.heap[w.heap.size]? = some (.deferred (some [])) := by
    rw [← hW1]; exact (Below.heap_alloc _ _ _ (by simp)).trans (World.alloc_heap_new w _)
  have hk1 : ∀ k, k < w.heap.size → W1.heap[k]? = w.heap[k]? := fun k hk => by
    rw [← hW1]; exact (Below.heap_alloc _ _ _ (by simp; omega)).trans (Below.heap_alloc _ _ _ hk)
  have hw1 : Below w.heap.size w W1 := by rw [← hW1]; exact ((Below.refl _ w).alloc (Nat.le_refl _) _).alloc (by simp) _
  have hL0 : ∀ {T : List Nat}, (∀ k ∈ T, k < w.heap.size) → w.heap.size + 1 ∉ T ∧ w.heap.size ∉ T := fun h => ⟨fun hm => by have := h _ hm; omega, fun hm => by have := h _ hm; omega⟩
  refine ⟨w.heap.size + 1, [{ target := .collected w.heap.size, args := #[] }], W1, { target := .fn (.func gf) lb, args := #[.func (.yield (w.heap.size + 1)) #[] #[]] }, W1, gf,
    #[.func (.yield (w.heap.size + 1)) #[] #[]] ++ lb, W1, ?_, ?_, fun _ _ => trivial, ?_, (fun h => by cases h), ?_⟩
  · rw [← hW1, hrec]; exact run_enterLoop_outer _ _ _ _ _
  · simp only [resolve, hg]
    simp [go_sem]
  · simp [invoke, go_sem, eg]
  · refine ((callsAny (hseq (w.heap.size + 1) B
      (fun pre T W => ∃ S1, T = (w.heap.size + 1) :: w.heap.size :: S1 ∧ I pre S1 W ∧ w.heap.size + 1 ∉ S1 ∧ w.heap.size ∉ S1 ∧ W.heap[w.heap.size + 1]? = some (.loop (rec .ready none)) ∧ W.heap[w.heap.size]? = some (.deferred (some [])))
      (fun pre T W => ∃ S1, T = (w.heap.size + 1) :: w.heap.size :: S1 ∧ Ix pre S1 W ∧ w.heap.size + 1 ∉ S1 ∧ w.heap.size ∉ S1 ∧ W.heap[w.heap.size + 1]? = some (.loop (rec .done (some .ret))) ∧ W.heap[w.heap.size]? = some (.deferred (some [])))
      ((w.heap.size + 1) :: w.heap.size :: S) W1 (hb0.trans (hw1.mono (Nat.le_trans hnB hB))) hnB (by omega) ?_ ?_ ?_ ?_ ?_) : CallsIn (FX none) (0 - 1) P gf _ W1 _)).mono ?_
    · intro k hk
      rcases List.mem_cons.1 hk with rfl | hk
      · omega
      rcases List.mem_cons.1 hk with rfl | hk
      · omega
      have := hS k hk; omega
    · rintro pre T W W' ⟨S1, rfl, h1, h2, h3, h4, h5⟩ hb hk
      exact ⟨S1, rfl, hI _ _ _ _ h1 hb (fun k hk' => hk k (hk'.imp id (fun h => .tail _ (.tail _ h)))), h2, h3, (hk _ (.inr (.head _)) (lt_of_block h4)).trans h4, (hk _ (.inr (.tail _ (.head _))) (lt_of_block h5)).trans h5⟩
    · rintro pre T W W' ⟨S1, rfl, h1, h2, h3, h4, h5⟩ hb hk
      exact ⟨S1, rfl, hIx _ _ _ _ h1 hb (fun k hk' => hk k (hk'.imp id (fun h => .tail _ (.tail _ h)))), h2, h3, (hk _ (.inr (.head _)) (lt_of_block h4)).trans h4, (hk _ (.inr (.tail _ (.head _))) (lt_of_block h5)).trans h5⟩
    · rintro pre x T W ⟨S1, rfl, hi, n1, n2, hl, hd⟩ hT hpre
      have hy := run_yield (P := P) (args := encs x) hl (by rw [hrec]; exact hps x)
      rw [hrec] at hy
      refine ⟨fn, _, assign, body, hy, roundIn_of_wpIn (F := FX none) trivial (wpIn_mono (hround _ _ pre x S1 W (by omega) n1 hl hi (fun k hk => hT k (.tail _ (.tail _ hk))) hpre) ?_)⟩
      clear hy
      rintro e a' W2 hq
      cases e with
      | normal =>
        obtain ⟨hl2, hq⟩ := hq
        rw [hl] at hl2
        refine ⟨_, run_beginRound hl2 (by rw [hrec]), ?_⟩
        refine wpIn_mono (hq _) ?_
        clear hq
        have fin : ∀ (jump : Option Code) (W3 : World), W3.heap[w.heap.size + 1]? = some (.loop { rec .ready none with state := .busy }) →
            (Instr.endRound (w.heap.size + 1) jump).run P W3 = .ok (.bool jump.isNone) (W3.putObj (w.heap.size + 1) (.loop (rec (if jump.isNone then .ready else .done) jump))) := fun jump W3 hl3 => by
          have := run_endRound (P := P) jump hl3
          rw [hrec] at this ⊢
          exact this
        have after : ∀ (W3 : World) (S3 : List Nat) (o : Obj), W3.heap[w.heap.size + 1]? = some (.loop { rec .ready none with state := .busy }) → Below 0 W W3 →
            (∀ k, k < W.heap.size → k ∉ S1 → k ≠ w.heap.size + 1 → W3.heap[k]? = W.heap[k]?) → (∀ k ∈ S3, k < W3.heap.size ∧ (k ∈ S1 ∨ W.heap.size ≤ k)) →
            w.heap.size + 1 ∉ S3 ∧ w.heap.size ∉ S3 ∧ (W3.putObj (w.heap.size + 1) o).heap[w.heap.size + 1]? = some o ∧ (W3.putObj (w.heap.size + 1) o).heap[w.heap.size]? = some (.deferred (some [])) ∧ Fr ((w.heap.size + 1) :: w.heap.size :: S1) ((w.heap.size + 1) :: w.heap.size :: S3) W (W3.putObj (w.heap.size + 1) o) := by
          intro W3 S3 o hl3 hb3 hk3 hs3
          have l1 := lt_of_block hl
          have l2 := lt_of_block hd
          have l3 := lt_of_block hl3
          refine ⟨fun hm => ?_, fun hm => ?_, World.putObj_heap_same l3, (World.putObj_heap_other (by omega)).trans ((hk3 _ l2 n2 (by omega)).trans hd), ⟨hb3.os, hb3.tape, hb3.output, by simpa using hb3.size, fun k hk => by omega⟩, fun k hk hn => ?_, fun k hk => ?_⟩
          · rcases (hs3 _ hm).2 with h | h
            · exact n1 h
            · omega
          · rcases (hs3 _ hm).2 with h | h
            · exact n2 h
            · omega
          · simp only [List.mem_cons, not_or] at hn
            exact (World.putObj_heap_other hn.1).trans (hk3 k hk hn.2.2 hn.1)
          · rw [World.putObj_size]
            have hsz := hb3.size
            rcases List.mem_cons.1 hk with rfl | hk
            · exact ⟨by omega, .inl (.head _)⟩
            rcases List.mem_cons.1 hk with rfl | hk
            · exact ⟨by omega, .inl (.tail _ (.head _))⟩
            exact ⟨(hs3 k hk).1, (hs3 k hk).2.imp (fun h => .tail _ (.tail _ h)) id⟩
        rintro e a3 W3 hp
        cases e with
        | normal =>
          obtain ⟨hl3, hb3, S3, hk3, hs3, hi3⟩ := hp
          obtain ⟨q1, q2, q3, q4, q5⟩ := after W3 S3 (.loop (rec .ready none)) hl3 hb3 hk3 hs3
          exact ⟨_, _, fin none W3 hl3, _, q5, .inl ⟨rfl, S3, rfl, hI.put _ hi3 (by omega) q1, q1, q2, q3, q4⟩⟩
        | ret =>
          obtain ⟨hl3, hb3, S3, hk3, hs3, hi3⟩ := hp
          obtain ⟨q1, q2, q3, q4, q5⟩ := after W3 S3 (.loop (rec .done (some .ret))) hl3 hb3 hk3 hs3
          exact ⟨_, _, fin (some .ret) W3 hl3, _, q5, .inr ⟨rfl, S3, rfl, hIx.put _ hi3 (by omega) q1, q1, q2, q3, q4⟩⟩
        | exit id => exact hp.elim
        | goto t => exact hp.elim
        | panic ch => exact hp.elim
        | outgrown => exact hp.elim
      | ret => exact hq.elim
      | exit id => exact hq.elim
      | goto t => exact hq.elim
      | panic ch => exact hq.elim
      | outgrown => exact hq.elim
    · exact ⟨S, rfl, hI _ _ _ _ h0 (hw1.mono (Nat.zero_le _)) (fun k _ hk => hk1 k hk), (hL0 fun k hk => (hS k hk).2).1, (hL0 fun k hk => (hS k hk).2).2, hL1, hD1⟩
    · have last : ∀ (W2 : World) (T S1 : List Nat) (o : Obj), Fr ((w.heap.size + 1) :: w.heap.size :: S) T W1 W2 → T = (w.heap.size + 1) :: w.heap.size :: S1 → w.heap.size + 1 ∉ S1 → w.heap.size ∉ S1 → Fr S S1 w (W2.putObj (w.heap.size + 1) o) := by
        rintro W2 T S1 o hf rfl n1 n2
        have hb := hf.below
        have hsz := hb.size
        refine ⟨⟨hb.os.trans hw1.os, hb.tape.trans hw1.tape, hb.output.trans hw1.output, by rw [World.putObj_size]; omega, fun k hk => by omega⟩, fun k hk hn => ?_, fun k hk => ?_⟩
        · refine (World.putObj_heap_other (by omega)).trans ((hf.kept k (by omega) ?_).trans (hk1 k hk))
          intro hm
          rcases List.mem_cons.1 hm with rfl | hm
          · omega
          rcases List.mem_cons.1 hm with rfl | hm
          · omega
          exact hn hm
        · rw [World.putObj_size]
          have := hf.own k (.tail _ (.tail _ hk))
          refine ⟨this.1, ?_⟩
          rcases this.2 with hm | hm
          · rcases List.mem_cons.1 hm with rfl | hm
            · exact (n1 hk).elim
            rcases List.mem_cons.1 hm with rfl | hm
            · exact (n2 hk).elim
            exact .inl hm
          · exact .inr (by omega)
      rintro e W2 ⟨⟨v, rfl⟩, T, hf, (⟨S1, hT, hi, n1, n2, hl, hd⟩ | ⟨pre, S1, hT, hi, n1, n2, hl, hd⟩)⟩
      · exact ⟨none, _, by have := run_endLoop (P := P) hl (by rw [hrec]; simp); rw [hrec] at this; exact this, hdone _ S1 _ (last W2 T S1 _ hf hT n1 n2) (hI.put _ hi (by omega) n1) (Nat.le_refl _) n2 ((World.putObj_heap_other (by omega)).trans hd)⟩
      · exact ⟨some .ret, _, by have := run_endLoop (P := P) hl (by rw [hrec]; simp); rw [hrec] at this; exact this, hstop _ pre S1 _ (last W2 T S1 _ hf hT n1 n2) (hIx.put _ hi (by omega) n1) (Nat.le_refl _) n2 ((World.putObj_heap_other (by omega)).trans hd)⟩
def oth (W : World) (S : List Nat) : List (Nat × Obj) := (List.range W.heap.size).filterMap fun k => if k ∈ S then none else (W.heap[k]?).map fun o => (k, o)
theorem oth_mem {W : World} {S : List Nat} {p : Nat × Obj} : p ∈ oth W S ↔ W.heap[p.1]? = some p.2 ∧ p.1 ∉ S := by
  unfold oth
  rw [List.mem_filterMap]
  constructor
  · rintro ⟨k, hk, h⟩
    split at h
    · cases h
    · rename_i hn
      cases ho : W.heap[k]? with
      | none => rw [ho] at h; cases h
      | some o => rw [ho] at h; cases h; exact ⟨ho, hn⟩
  · rintro ⟨h1, h2⟩
    exact ⟨p.1, List.mem_range.2 (lt_of_block h1), by rw [if_neg h2, h1]; rfl⟩
theorem oth_ne {W : World} {S : List Nat} {g : Nat} (h : g ∈ S) : ∀ p ∈ oth W S, p.1 ≠ g := fun _ hp e => (oth_mem.1 hp).2 (e ▸ h)
theorem oth_new {W : World} {S : List Nat} {g : Nat} (h : W.heap.size ≤ g) : ∀ p ∈ oth W S, p.1 ≠ g := fun _ hp e => by have := lt_of_block (oth_mem.1 hp).1; omega
theorem oth_kept {W W' : World} {S : List Nat} {b : Base} {K : List (Nat × Obj)} (h : KS b K W') (hs : ∀ p ∈ oth W S, p ∈ K) : ∀ k, k < W.heap.size → k ∉ S → W'.heap[k]? = W.heap[k]? := fun k hk hn => by
  have hg : W.heap[k]? = some W.heap[k] := Array.getElem?_eq_getElem hk
  rw [hg]
  exact h.2 (k, W.heap[k]) (hs _ (oth_mem.2 ⟨hg, hn⟩))
theorem ks_oth {W : World} {S : List Nat} {n₀ : Nat} {hn : n₀ ≤ W.heap.size} {K : List (Nat × Obj)} (h : ∀ p ∈ K, W.heap[p.1]? = some p.2) : KS (rnd W n₀ hn) (K ++ oth W S) W := ⟨Below.refl _ _, fun p hp => by
  rcases List.mem_append.1 hp with hp | hp
  · exact h p hp
  · exact (oth_mem.1 hp).1⟩
theorem ks_put {W0 : Base} {K K' : List (Nat × Obj)} {W : World} {L : Nat} {o : Obj} (h : KS W0 K W) (hB : W0.B ≤ L) (hL : L < W.heap.size) (hs : ∀ p ∈ K', p = (L, o) ∨ (p ∈ K ∧ p.1 ≠ L)) : KS W0 K' (W.putObj L o) :=
  ⟨⟨h.1.os, h.1.tape, h.1.output, by simpa using h.1.size, fun k hk => (World.putObj_heap_other (by omega)).trans (h.1.block k hk)⟩, fun p hp => by
    rcases hs p hp with rfl | ⟨h1, h2⟩
    · exact World.putObj_heap_same hL
    · exact (World.putObj_heap_other h2).trans (h.2 p h1)⟩
def othL (W : World) (S : List Nat) (L : Nat) (o : Obj) : List (Nat × Obj) := (L, o) :: oth W (L :: S)
theorem othL_rec {W : World} {S : List Nat} {L : Nat} {o : Obj} : (L, o) ∈ othL W S L o := .head _
theorem othL_from {W : World} {S : List Nat} {L : Nat} {o : Obj} {K : List (Nat × Obj)} (hs : ∀ p ∈ oth W S, p ∈ K) : ∀ p ∈ othL W S L o, p = (L, o) ∨ (p ∈ K ∧ p.1 ≠ L) := fun p hp => by
  rcases List.mem_cons.1 hp with rfl | hp
  · exact .inl rfl
  · obtain ⟨h1, h2⟩ := oth_mem.1 hp
    exact .inr ⟨hs p (oth_mem.2 ⟨h1, fun h => h2 (.tail _ h)⟩), fun e => h2 (by rw [e]; exact .head _)⟩
theorem othL_ne {W : World} {S : List Nat} {L g : Nat} {o : Obj} (h1 : L ≠ g) (h2 : ∀ p ∈ oth W S, p.1 ≠ g) : ∀ p ∈ othL W S L o, p.1 ≠ g := fun p hp => by
  rcases List.mem_cons.1 hp with rfl | hp
  · exact h1
  · obtain ⟨h3, h4⟩ := oth_mem.1 hp
    exact h2 p (oth_mem.2 ⟨h3, fun h => h4 (.tail _ h)⟩)
theorem othL_kept {W W' : World} {S : List Nat} {L : Nat} {o : Obj} {b : Base} {K : List (Nat × Obj)} (h : KS b K W') (hs : ∀ p ∈ othL W S L o, p ∈ K) : ∀ k, k < W.heap.size → k ∉ S → k ≠ L → W'.heap[k]? = W.heap[k]? := fun k hk hn hl =>
  oth_kept (S := L :: S) h (fun p hp => hs p (.tail _ hp)) k hk (fun hm => by rcases List.mem_cons.1 hm with rfl | hm; exact hl rfl; exact hn hm)
theorem new_of_ne {W : World} {S : List Nat} {L g : Nat} {o : Obj} (h : ∀ p ∈ othL W S L o, p.1 ≠ g) (hS : ∀ k ∈ S, k ≠ g) : W.heap.size ≤ g := by
  by_cases hl : g < W.heap.size
  · refine (h (g, W.heap[g]) (.tail _ (oth_mem.2 ⟨Array.getElem?_eq_getElem hl, fun hm => ?_⟩)) rfl).elim
    rcases List.mem_cons.1 hm with e | hm
    · exact h (L, o) (.head _) e.symm
    · exact hS g hm rfl
  · omega
end Tw
namespace Go.Proofs.YtjmcelgdjpdacaaDoor
open Go.RowKit Tw
open Go
def GJ (w : World) (g1 g2 g3 : Nat) (m : List (Int × Int)) (S : List Nat) (W : World) : Prop :=
  ∃ (u : Value) (Kx : List (Nat × Obj)), S = g3 :: g2 :: g1 :: Kx.map Prod.fst ∧ KS w ((g3, .cells #[u] 22 (0, 0)) :: (g2, .cells #[.int .i64 0] 36 (0, 0)) :: (g1, .cells #[.slice none 0 0] 22 (0, 0)) :: Kx) W ∧
    ((m = [] ∧ u = .slice none 0 0 ∧ Kx = []) ∨ ∃ g cap cur m0 a b, m = m0 ++ [(a, b)] ∧ Row cur cap (m0.length + 1) (flat (m0 ++ [(a, b)])) ∧ u = .slice (some ⟨g, 0, none⟩) (m0.length + 1) cap ∧ w.heap.size ≤ g ∧ g1 ≠ g ∧ g2 ≠ g ∧ g3 ≠ g ∧ Kx = [(g, .cells cur 41 (0, 0))])
theorem gj_stab (w : World) (g1 g2 g3 : Nat) : Stab w.heap.size (fun (pre : List (Int × Int)) S W => GJ w g1 g2 g3 (mergeL pre) S W) := by
  rintro s S W W' ⟨u, Kx, rfl, hK, hc⟩ hb hk
  refine ⟨u, Kx, rfl, ⟨⟨hb.os.trans hK.1.os, hb.tape.trans hK.1.tape, hb.output.trans hK.1.output, Nat.le_trans hK.1.size hb.size, fun k hk' => ?_⟩, fun p hp => ?_⟩, hc⟩
  · exact (hk k (.inl hk') (Nat.lt_of_lt_of_le hk' hK.1.size)).trans (hK.1.block k hk')
  · have h1 := hK.2 p hp
    refine (hk p.1 (.inr ?_) (lt_of_block h1)).trans h1
    rcases List.mem_cons.1 hp with rfl | hp
    · exact .head _
    rcases List.mem_cons.1 hp with rfl | hp
    · exact .tail _ (.head _)
    rcases List.mem_cons.1 hp with rfl | hp
    · exact .tail _ (.tail _ (.head _))
    exact .tail _ (.tail _ (.tail _ (List.mem_map_of_mem hp)))
set_option maxRecDepth 100000 in
set_option maxHeartbeats 2000000 in
theorem gather_own (gf : Nat) (lb : Array Value) (xs : List (Int × Int)) (hN : xs.length ≤ 1000) (w : World) (eg : ∀ args W, (callFunc gf args).run Tryd.prog W = .ok (.enter gf args) W)
    (hseq : SeqF Tryd.prog gf lb encS w.heap.size w xs) :
    Calls Tryd.prog 61 #[.func (.func gf) #[] lb] w fun e w' => ∃ v, e = .returned (.tuple #[v, .int .i64 0]) ∧ OutL w w' v (mergeL xs) ∧ Below w.heap.size w w' := by
  refine (callsIn_wide (n := 0)).1 ?_
  refine callsIn_of_wp_marks Tryd.func61 rfl trivial ?_
  simp only [Tryd.ntmps61, List.size_toArray, List.length_cons, List.length_nil, Nat.reduceAdd, Nat.reduceSub, Array.replicate_succ, Array.replicate_zero, List.push_toArray, List.append_toArray, List.nil_append, List.cons_append]
  refine wpIn_seq ?_
  refine wp_region_LI (W0 := w) [] (by kernel_rfl) (KS.start w) ?_
  refine wpL_new (fun g => .pointer (some ⟨g, 0, none⟩)) (obi := .cells #[.slice none 0 0] 22 (0, 0)) rfl rfl (fun _ => by kernel_rfl) (fun _ => by simp only [List.setIfInBounds_toArray, List.set_cons_succ, List.set_cons_zero] <;> rfl) fun g1 Bg1 Fg1 => ?_
  try simp only [List.forall_mem_cons] at Fg1
  refine wpL_new (fun g => .pointer (some ⟨g, 0, none⟩)) (obi := .cells #[.int .i64 0] 36 (0, 0)) rfl rfl (fun _ => by kernel_rfl) (fun _ => by simp only [List.setIfInBounds_toArray, List.set_cons_succ, List.set_cons_zero] <;> rfl) fun g2 Bg2 Fg2 => ?_
  try simp only [List.forall_mem_cons] at Fg2
  refine wpL_done (fun W1 hW1 => ?_)
  refine (show Code.wpIn _ _ _ _ _ _ _ from ?_)
  refine wpIn_seq ?_
  refine wp_region_LI (W0 := w) [(g2, .cells #[.int .i64 0] 36 (0, 0)), (g1, .cells #[.slice none 0 0] 22 (0, 0))] (by kernel_rfl) (hW1) ?_
  refine wpL_new (fun g => .pointer (some ⟨g, 0, none⟩)) (obi := .cells #[.slice none 0 0] 22 (0, 0)) rfl rfl (fun _ => by kernel_rfl) (fun _ => by simp only [List.setIfInBounds_toArray, List.set_cons_succ, List.set_cons_zero] <;> rfl) fun g3 Bg3 Fg3 => ?_
  try simp only [List.forall_mem_cons] at Fg3
  refine wpL_done (fun W2 hW2 => ?_)
  clear hW1
  refine (show Code.wpIn _ _ _ _ _ _ _ from ?_)
  refine wpIn_seq ?_
  refine wpIn_seq ?_
  refine wp_region_LI (W0 := w) [(g3, .cells #[.slice none 0 0] 22 (0, 0)), (g2, .cells #[.int .i64 0] 36 (0, 0)), (g1, .cells #[.slice none 0 0] 22 (0, 0))] (by kernel_rfl) (hW2) ?_
  refine lm (v := .func (.func gf) #[] lb) rfl rfl ?_
  refine wpL_done (fun W3 hW3 => ?_)
  clear hW2
  refine (show Code.wpIn _ _ _ _ _ _ _ from ?_)
  refine wpIn_block ?_
  have hsz : w.heap.size ≤ W3.heap.size := hW3.1.size
  have lt1 := lt_of_block (hW3.2 _ (.tail _ (.tail _ (.head _)))); have lt2 := lt_of_block (hW3.2 _ (.tail _ (.head _))); have lt3 := lt_of_block (hW3.2 _ (.head _))
  refine range_own (α := Int × Int) (gf := gf) (lb := lb) (by kernel_rfl) eg (encs := encS) hseq hW3.1 (fun _ => rfl) w.heap.size (Nat.le_refl _) hsz
    (fun pre S W => GJ w g1 g2 g3 (mergeL pre) S W) (fun _ _ _ => False) (gj_stab w g1 g2 g3) (fun _ _ _ _ h _ _ => h) [g3, g2, g1] (List.forall_mem_cons.2 ⟨⟨Bg3, lt3⟩, List.forall_mem_cons.2 ⟨⟨Bg2, lt2⟩, List.forall_mem_cons.2 ⟨⟨Bg1, lt1⟩, List.forall_mem_nil _⟩⟩⟩) ⟨_, [], rfl, hW3, .inl ⟨rfl, rfl, rfl⟩⟩ ?round ?done ?stop
  case round =>
    rintro L r pre x S1 W hLw hLS hL ⟨u, Kx, rfl, hK, hc⟩ hS1 hpre
    have hlt : pre.length < 1000 := by have := hpre.length_le; simp at this; omega
    have hml := merge_len pre
    have hn : w.heap.size ≤ W.heap.size := hK.1.size
    generalize hF : Array.foldl _ _ _ _ _ = F
    obtain rfl : F = #[.func (.func gf) #[] lb, undef, .pointer (some ⟨g1, 0, none⟩), .pointer (some ⟨g2, 0, none⟩), .pointer (some ⟨g3, 0, none⟩), undef, undef, .func (.func gf) #[] lb, .agg #[.int .i64 x.1, .int .i64 x.2], undef, undef, undef, undef, undef, undef, undef, undef, undef, undef, undef, undef, undef, undef, undef, undef, undef, undef, undef, undef, undef, undef, undef, undef, undef, undef, undef, undef, undef] := hF.symm.trans (by kernel_rfl)
    clear hF
    have B1 : (rnd W w.heap.size hn).B ≤ g1 := Bg1
    have B2 : (rnd W w.heap.size hn).B ≤ g2 := Bg2
    have B3 : (rnd W w.heap.size hn).B ≤ g3 := Bg3
    rcases hc with ⟨hm, rfl, rfl⟩ | ⟨g, cap, cur, m0, a, b, hm, hR, rfl, hBg, m1, m2, m3, rfl⟩
    · have nL : L ∉ [g3, g2, g1] := hLS
      simp only [List.mem_cons, List.not_mem_nil, or_false, not_or] at nL
      have N_g3 := oth_ne (W := W) (S := [g3, g2, g1]) (g := g3) (.head _)
      have N_g2 := oth_ne (W := W) (S := [g3, g2, g1]) (g := g2) (.tail _ (.head _))
      have N_g1 := oth_ne (W := W) (S := [g3, g2, g1]) (g := g1) (.tail _ (.tail _ (.head _)))
      have hb : KS (rnd W w.heap.size hn) ((g3, .cells #[.slice none 0 0] 22 (0, 0)) :: (g2, .cells #[.int .i64 0] 36 (0, 0)) :: (g1, .cells #[.slice none 0 0] 22 (0, 0)) :: (oth W [g3, g2, g1])) W := ks_oth (K := [(g3, .cells #[.slice none 0 0] 22 (0, 0)), (g2, .cells #[.int .i64 0] 36 (0, 0)), (g1, .cells #[.slice none 0 0] 22 (0, 0))]) hK.2
      refine wp_region_LI (W0 := (rnd W w.heap.size hn)) ((g3, .cells #[.slice none 0 0] 22 (0, 0)) :: (g2, .cells #[.int .i64 0] 36 (0, 0)) :: (g1, .cells #[.slice none 0 0] 22 (0, 0)) :: (oth W [g3, g2, g1])) (by kernel_rfl) (hb) ?_
      refine wpL_new (fun g => .pointer (some ⟨g, 0, none⟩)) (obi := .cells #[.int .i64 0, .int .i64 0] 41 (0, 0)) rfl rfl (fun _ => by kernel_rfl) (fun _ => by simp only [List.setIfInBounds_toArray, List.set_cons_succ, List.set_cons_zero] <;> rfl) fun g11 Bg11 Fg11 => ?_
      try simp only [List.forall_mem_cons] at Fg11
      refine wpL_s ((g11, .cells #[.int .i64 x.1, .int .i64 x.2] 41 (0, 0)) :: (g3, .cells #[.slice none 0 0] 22 (0, 0)) :: (g2, .cells #[.int .i64 0] 36 (0, 0)) :: (g1, .cells #[.slice none 0 0] 22 (0, 0)) :: (oth W [g3, g2, g1])) rfl rfl (st_span rfl (by kernel_rfl) (by kernel_rfl) (.head _) (by omega) (List.forall_mem_cons.2 ⟨.inl rfl, (List.forall_mem_cons.2 ⟨.inr ⟨(.tail _ (.head _)), Fg11.1⟩, (List.forall_mem_cons.2 ⟨.inr ⟨(.tail _ (.tail _ (.head _))), Fg11.2.1⟩, (List.forall_mem_cons.2 ⟨.inr ⟨(.tail _ (.tail _ (.tail _ (.head _)))), Fg11.2.2.1⟩, (fun p hp => .inr ⟨(.tail _ (.tail _ (.tail _ (.tail _ hp)))), Fg11.2.2.2 p hp⟩)⟩)⟩)⟩)⟩)) ?_
      refine wpL_done (fun W4 hW4 => ?_)
      refine ⟨(hW4.2 (L, .loop r) (.tail _ (.tail _ (.tail _ (.tail _ (oth_mem.2 ⟨hL, hLS⟩)))))).trans hL.symm, fun o => ?_⟩
      have nb5 : L ≠ g11 := Fg11.2.2.2 (L, .loop r) (oth_mem.2 ⟨hL, hLS⟩)
      have lL := lt_of_block (hW4.2 (L, .loop r) (.tail _ (.tail _ (.tail _ (.tail _ (oth_mem.2 ⟨hL, hLS⟩))))))
      have hP : KS (rnd W w.heap.size hn) ((g11, .cells #[.int .i64 x.1, .int .i64 x.2] 41 (0, 0)) :: (g3, .cells #[.slice none 0 0] 22 (0, 0)) :: (g2, .cells #[.int .i64 0] 36 (0, 0)) :: (g1, .cells #[.slice none 0 0] 22 (0, 0)) :: (othL W [g3, g2, g1] L o)) (_ : World) := ks_put (o := o) hW4 (show w.heap.size ≤ L by omega) lL (List.forall_mem_cons.2 ⟨.inr ⟨(.head _), nb5.symm⟩, (List.forall_mem_cons.2 ⟨.inr ⟨(.tail _ (.head _)), (fun e => nL.1 e.symm)⟩, (List.forall_mem_cons.2 ⟨.inr ⟨(.tail _ (.tail _ (.head _))), (fun e => nL.2.1 e.symm)⟩, (List.forall_mem_cons.2 ⟨.inr ⟨(.tail _ (.tail _ (.tail _ (.head _)))), (fun e => nL.2.2 e.symm)⟩, (othL_from (fun p hp => (.tail _ (.tail _ (.tail _ (.tail _ hp))))))⟩)⟩)⟩)⟩)
      have M_g3 : ∀ p ∈ (othL W [g3, g2, g1] L o), p.1 ≠ g3 := othL_ne nL.1 N_g3
      have M_g2 : ∀ p ∈ (othL W [g3, g2, g1] L o), p.1 ≠ g2 := othL_ne nL.2.1 N_g2
      have M_g1 : ∀ p ∈ (othL W [g3, g2, g1] L o), p.1 ≠ g1 := othL_ne nL.2.2 N_g1
      have M_b : ∀ p ∈ (othL W [g3, g2, g1] L o), p.1 ≠ g11 := othL_ne nb5 Fg11.2.2.2
      refine wpIn_block ?_
      refine wpIn_seq ?_
      refine wp_region_LI (W0 := (rnd W w.heap.size hn)) ((g11, .cells #[.int .i64 x.1, .int .i64 x.2] 41 (0, 0)) :: (g3, .cells #[.slice none 0 0] 22 (0, 0)) :: (g2, .cells #[.int .i64 0] 36 (0, 0)) :: (g1, .cells #[.slice none 0 0] 22 (0, 0)) :: (othL W [g3, g2, g1] L o)) (by kernel_rfl) (hP) ?_
      refine lv (v := .slice none 0 0) rfl rfl (yb_loadc (off := 0) rfl (by kernel_rfl) (.tail _ (.head _)) Tryd.underlying22 rfl (by kernel_rfl)) ?_
      refine lm (v := .int .i64 0) rfl rfl ?_
      refine lm (v := .int .i64 (-1)) rfl rfl ?_
      refine lm (v := .int .i64 (-1)) rfl rfl ?_
      refine wpL_done (fun W6 hW6 => ?_)
      refine (show Code.wpIn _ _ _ _ _ _ _ from ?_)
      refine wpIn_seq ?_
      refine wp_region_VI (W0 := (rnd W w.heap.size hn)) ((g11, .cells #[.int .i64 x.1, .int .i64 x.2] 41 (0, 0)) :: (g3, .cells #[.slice none 0 0] 22 (0, 0)) :: (g2, .cells #[.int .i64 0] 36 (0, 0)) :: (g1, .cells #[.slice none 0 0] 22 (0, 0)) :: (othL W [g3, g2, g1] L o)) (by kernel_rfl) (by kernel_rfl) (hW6) ?_
      refine vm (i := 0) (v := .int .i64 (-1)) rfl rfl rfl ?_
      refine vm (i := 1) (v := .bool false) rfl rfl rfl ?_
      refine vm (i := 2) (v := .bool false) rfl rfl rfl ?_
      refine vn (i := 3) rfl rfl ?_
      refine vn (i := 4) rfl rfl ?_
      refine vn (i := 5) rfl rfl ?_
      refine vn (i := 6) rfl rfl ?_
      refine vn (i := 7) rfl rfl ?_
      refine vn (i := 8) rfl rfl ?_
      refine vn (i := 9) rfl rfl ?_
      refine vn (i := 10) rfl rfl ?_
      refine vm (i := 11) (v := .bool false) rfl rfl rfl ?_
      refine wpV_done (by kernel_rfl) (fun W7 hW7 => ?_) _
      clear hW6
      refine (show Code.wpIn _ _ _ _ _ _ _ from ?_)
      refine wpIn_cond_false rfl ?_
      refine wpIn_seq ?_
      refine wp_region_LI (W0 := (rnd W w.heap.size hn)) ((g11, .cells #[.int .i64 x.1, .int .i64 x.2] 41 (0, 0)) :: (g3, .cells #[.slice none 0 0] 22 (0, 0)) :: (g2, .cells #[.int .i64 0] 36 (0, 0)) :: (g1, .cells #[.slice none 0 0] 22 (0, 0)) :: (othL W [g3, g2, g1] L o)) (by kernel_rfl) (hW7) ?_
      refine lv (v := .slice none 0 0) rfl rfl (yb_loadc (off := 0) rfl (by kernel_rfl) (.tail _ (.head _)) Tryd.underlying22 rfl (by kernel_rfl)) ?_
      refine lm (v := .int .i64 0) rfl rfl ?_
      refine lm (v := .bool false) rfl rfl ?_
      refine wpL_done (fun W8 hW8 => ?_)
      clear hW7
      refine (show Code.wpIn _ _ _ _ _ _ _ from ?_)
      refine wpIn_cond_false rfl ?_
      refine wp_region_LI (W0 := (rnd W w.heap.size hn)) ((g11, .cells #[.int .i64 x.1, .int .i64 x.2] 41 (0, 0)) :: (g3, .cells #[.slice none 0 0] 22 (0, 0)) :: (g2, .cells #[.int .i64 0] 36 (0, 0)) :: (g1, .cells #[.slice none 0 0] 22 (0, 0)) :: (othL W [g3, g2, g1] L o)) (by kernel_rfl) (hW8) ?_
      refine lv (v := .slice none 0 0) rfl rfl (yb_loadc (off := 0) rfl (by kernel_rfl) (.tail _ (.head _)) Tryd.underlying22 rfl (by kernel_rfl)) ?_
      refine lv (v := .agg #[.int .i64 x.1, .int .i64 x.2]) rfl rfl (yb_load (n := 2) (off := 0) rfl (by kernel_rfl) (.head _) Tryd.underlying41 rfl size_span (by simp) (by kernel_rfl)) ?_
      refine wpL_new (fun g => .slice (some ⟨g, 0, none⟩) 1 1) (obi := .cells #[.int .i64 x.1, .int .i64 x.2] 41 (0, 0)) rfl rfl (fun _ => by kernel_rfl) (fun _ => by simp only [List.setIfInBounds_toArray, List.set_cons_succ, List.set_cons_zero] <;> rfl) fun g21 Bg21 Fg21 => ?_
      try simp only [List.forall_mem_cons] at Fg21
      refine wpL_g (AppG (rnd W w.heap.size hn) ((g21, .cells #[.int .i64 x.1, .int .i64 x.2] 41 (0, 0)) :: (g11, .cells #[.int .i64 x.1, .int .i64 x.2] 41 (0, 0)) :: (g3, .cells #[.slice none 0 0] 22 (0, 0)) :: (g2, .cells #[.int .i64 0] 36 (0, 0)) :: (g1, .cells #[.slice none 0 0] 22 (0, 0)) :: (othL W [g3, g2, g1] L o)) 1 [.int .i64 x.1, .int .i64 x.2]) rfl (by kernel_rfl) (app_nil rfl (by kernel_rfl) (by kernel_rfl) (.head _)) (fun _ => by simp only [List.setIfInBounds_toArray, List.set_cons_succ, List.set_cons_zero] <;> rfl) ?_
      rintro v K9 ⟨g9, cap9, cur9, rfl, Bg9, Fg9, hR9, rfl⟩
      simp only [List.forall_mem_cons] at Fg9
      refine wpL_s ((g9, .cells cur9 41 (0, 0)) :: (g21, .cells #[.int .i64 x.1, .int .i64 x.2] 41 (0, 0)) :: (g11, .cells #[.int .i64 x.1, .int .i64 x.2] 41 (0, 0)) :: (g3, .cells #[.slice (some ⟨g9, 0, none⟩) 1 cap9] 22 (0, 0)) :: (g2, .cells #[.int .i64 0] 36 (0, 0)) :: (g1, .cells #[.slice none 0 0] 22 (0, 0)) :: (othL W [g3, g2, g1] L o)) rfl rfl (st_cell rfl (by kernel_rfl) (by kernel_rfl) (.tail _ (.tail _ (.tail _ (.head _)))) (by omega) (by kernel_rfl) ⟨rfl, rfl⟩ (List.forall_mem_cons.2 ⟨.inr ⟨(.head _), (Ne.symm Fg9.2.2.1)⟩, (List.forall_mem_cons.2 ⟨.inr ⟨(.tail _ (.head _)), (Ne.symm Fg21.2.1)⟩, (List.forall_mem_cons.2 ⟨.inr ⟨(.tail _ (.tail _ (.head _))), Fg11.1.symm⟩, (List.forall_mem_cons.2 ⟨.inl rfl, (List.forall_mem_cons.2 ⟨.inr ⟨(.tail _ (.tail _ (.tail _ (.tail _ (.head _))))), Fg3.1⟩, (List.forall_mem_cons.2 ⟨.inr ⟨(.tail _ (.tail _ (.tail _ (.tail _ (.tail _ (.head _)))))), Fg3.2.1⟩, (fun p hp => .inr ⟨(.tail _ (.tail _ (.tail _ (.tail _ (.tail _ (.tail _ hp)))))), M_g3 p hp⟩)⟩)⟩)⟩)⟩)⟩)⟩)) ?_
      refine wpL_done (fun W9 hW9 => ?_)
      clear hW8
      have new9 : g9 ∈ [g3, g2, g1] ∨ W.heap.size ≤ g9 := .inr (new_of_ne (S := [g3, g2, g1]) Fg9.2.2.2.2.2 (List.forall_mem_cons.2 ⟨Fg9.2.2.1, (List.forall_mem_cons.2 ⟨Fg9.2.2.2.1, (List.forall_mem_cons.2 ⟨Fg9.2.2.2.2.1, (List.forall_mem_nil _)⟩)⟩)⟩))
      exact ⟨hW9.2 (L, o) (.tail _ (.tail _ (.tail _ (.tail _ (.tail _ (.tail _ othL_rec)))))), hW9.1.mono (Nat.zero_le _), [g3, g2, g1, g9], othL_kept (S := [g3, g2, g1]) hW9 (fun p hp => (.tail _ (.tail _ (.tail _ (.tail _ (.tail _ (.tail _ hp))))))), List.forall_mem_cons.2 ⟨⟨lt_of_block (hW9.2 _ (.tail _ (.tail _ (.tail _ (.head _))))), .inl (.head _)⟩, List.forall_mem_cons.2 ⟨⟨lt_of_block (hW9.2 _ (.tail _ (.tail _ (.tail _ (.tail _ (.head _)))))), .inl (.tail _ (.head _))⟩, List.forall_mem_cons.2 ⟨⟨lt_of_block (hW9.2 _ (.tail _ (.tail _ (.tail _ (.tail _ (.tail _ (.head _))))))), .inl (.tail _ (.tail _ (.head _)))⟩, List.forall_mem_cons.2 ⟨⟨lt_of_block (hW9.2 _ (.head _)), new9⟩, List.forall_mem_nil _⟩⟩⟩⟩, .slice (some ⟨g9, 0, none⟩) 1 cap9, [(g9, .cells cur9 41 (0, 0))], rfl, ((rnd_back hK hW9).sub (List.forall_mem_cons.2 ⟨(.tail _ (.tail _ (.tail _ (.head _)))), (List.forall_mem_cons.2 ⟨(.tail _ (.tail _ (.tail _ (.tail _ (.head _))))), (List.forall_mem_cons.2 ⟨(.tail _ (.tail _ (.tail _ (.tail _ (.tail _ (.head _)))))), (List.forall_mem_cons.2 ⟨(.head _), (fun _ hp => by cases hp)⟩)⟩)⟩)⟩)), .inr ⟨g9, cap9, cur9, [], x.1, x.2, by rw [merge_snoc, hm]; rfl, hR9, rfl, Bg9, Fg9.2.2.2.2.1, Fg9.2.2.2.1, Fg9.2.2.1, rfl⟩⟩
    · have hcap := hR.2.2.1
      have Bg : (rnd W w.heap.size hn).B ≤ g := hBg
      have hml2 : m0.length + 1 ≤ pre.length := by rw [hm] at hml; simpa using hml
      obtain ⟨n0, hn0⟩ : ∃ n0, m0.length = n0 := ⟨_, rfl⟩
      rw [hn0] at hml2 hK hR
      have hget := row_get hR (i := n0) (s := (a, b)) (by rw [← hn0]; simp)
      have nL : L ∉ [g3, g2, g1, g] := hLS
      simp only [List.mem_cons, List.not_mem_nil, or_false, not_or] at nL
      have N_g3 := oth_ne (W := W) (S := [g3, g2, g1, g]) (g := g3) (.head _)
      have N_g2 := oth_ne (W := W) (S := [g3, g2, g1, g]) (g := g2) (.tail _ (.head _))
      have N_g1 := oth_ne (W := W) (S := [g3, g2, g1, g]) (g := g1) (.tail _ (.tail _ (.head _)))
      have N_g := oth_ne (W := W) (S := [g3, g2, g1, g]) (g := g) (.tail _ (.tail _ (.tail _ (.head _))))
      have hb : KS (rnd W w.heap.size hn) ((g3, .cells #[.slice (some ⟨g, 0, none⟩) (n0 + 1) cap] 22 (0, 0)) :: (g2, .cells #[.int .i64 0] 36 (0, 0)) :: (g1, .cells #[.slice none 0 0] 22 (0, 0)) :: (g, .cells cur 41 (0, 0)) :: (oth W [g3, g2, g1, g])) W := ks_oth (K := [(g3, .cells #[.slice (some ⟨g, 0, none⟩) (n0 + 1) cap] 22 (0, 0)), (g2, .cells #[.int .i64 0] 36 (0, 0)), (g1, .cells #[.slice none 0 0] 22 (0, 0)), (g, .cells cur 41 (0, 0))]) hK.2
      refine wp_region_LI (W0 := (rnd W w.heap.size hn)) ((g3, .cells #[.slice (some ⟨g, 0, none⟩) (n0 + 1) cap] 22 (0, 0)) :: (g2, .cells #[.int .i64 0] 36 (0, 0)) :: (g1, .cells #[.slice none 0 0] 22 (0, 0)) :: (g, .cells cur 41 (0, 0)) :: (oth W [g3, g2, g1, g])) (by kernel_rfl) (hb) ?_
      refine wpL_new (fun g => .pointer (some ⟨g, 0, none⟩)) (obi := .cells #[.int .i64 0, .int .i64 0] 41 (0, 0)) rfl rfl (fun _ => by kernel_rfl) (fun _ => by simp only [List.setIfInBounds_toArray, List.set_cons_succ, List.set_cons_zero] <;> rfl) fun g11 Bg11 Fg11 => ?_
      try simp only [List.forall_mem_cons] at Fg11
      refine wpL_s ((g11, .cells #[.int .i64 x.1, .int .i64 x.2] 41 (0, 0)) :: (g3, .cells #[.slice (some ⟨g, 0, none⟩) (n0 + 1) cap] 22 (0, 0)) :: (g2, .cells #[.int .i64 0] 36 (0, 0)) :: (g1, .cells #[.slice none 0 0] 22 (0, 0)) :: (g, .cells cur 41 (0, 0)) :: (oth W [g3, g2, g1, g])) rfl rfl (st_span rfl (by kernel_rfl) (by kernel_rfl) (.head _) (by omega) (List.forall_mem_cons.2 ⟨.inl rfl, (List.forall_mem_cons.2 ⟨.inr ⟨(.tail _ (.head _)), Fg11.1⟩, (List.forall_mem_cons.2 ⟨.inr ⟨(.tail _ (.tail _ (.head _))), Fg11.2.1⟩, (List.forall_mem_cons.2 ⟨.inr ⟨(.tail _ (.tail _ (.tail _ (.head _)))), Fg11.2.2.1⟩, (List.forall_mem_cons.2 ⟨.inr ⟨(.tail _ (.tail _ (.tail _ (.tail _ (.head _))))), Fg11.2.2.2.1⟩, (fun p hp => .inr ⟨(.tail _ (.tail _ (.tail _ (.tail _ (.tail _ hp))))), Fg11.2.2.2.2 p hp⟩)⟩)⟩)⟩)⟩)⟩)) ?_
      refine wpL_done (fun W4 hW4 => ?_)
      refine ⟨(hW4.2 (L, .loop r) (.tail _ (.tail _ (.tail _ (.tail _ (.tail _ (oth_mem.2 ⟨hL, hLS⟩))))))).trans hL.symm, fun o => ?_⟩
      have nb5 : L ≠ g11 := Fg11.2.2.2.2 (L, .loop r) (oth_mem.2 ⟨hL, hLS⟩)
      have lL := lt_of_block (hW4.2 (L, .loop r) (.tail _ (.tail _ (.tail _ (.tail _ (.tail _ (oth_mem.2 ⟨hL, hLS⟩)))))))
      have hP : KS (rnd W w.heap.size hn) ((g11, .cells #[.int .i64 x.1, .int .i64 x.2] 41 (0, 0)) :: (g3, .cells #[.slice (some ⟨g, 0, none⟩) (n0 + 1) cap] 22 (0, 0)) :: (g2, .cells #[.int .i64 0] 36 (0, 0)) :: (g1, .cells #[.slice none 0 0] 22 (0, 0)) :: (g, .cells cur 41 (0, 0)) :: (othL W [g3, g2, g1, g] L o)) (_ : World) := ks_put (o := o) hW4 (show w.heap.size ≤ L by omega) lL (List.forall_mem_cons.2 ⟨.inr ⟨(.head _), nb5.symm⟩, (List.forall_mem_cons.2 ⟨.inr ⟨(.tail _ (.head _)), (fun e => nL.1 e.symm)⟩, (List.forall_mem_cons.2 ⟨.inr ⟨(.tail _ (.tail _ (.head _))), (fun e => nL.2.1 e.symm)⟩, (List.forall_mem_cons.2 ⟨.inr ⟨(.tail _ (.tail _ (.tail _ (.head _)))), (fun e => nL.2.2.1 e.symm)⟩, (List.forall_mem_cons.2 ⟨.inr ⟨(.tail _ (.tail _ (.tail _ (.tail _ (.head _))))), (fun e => nL.2.2.2 e.symm)⟩, (othL_from (fun p hp => (.tail _ (.tail _ (.tail _ (.tail _ (.tail _ hp)))))))⟩)⟩)⟩)⟩)⟩)
      have M_g3 : ∀ p ∈ (othL W [g3, g2, g1, g] L o), p.1 ≠ g3 := othL_ne nL.1 N_g3
      have M_g2 : ∀ p ∈ (othL W [g3, g2, g1, g] L o), p.1 ≠ g2 := othL_ne nL.2.1 N_g2
      have M_g1 : ∀ p ∈ (othL W [g3, g2, g1, g] L o), p.1 ≠ g1 := othL_ne nL.2.2.1 N_g1
      have M_g : ∀ p ∈ (othL W [g3, g2, g1, g] L o), p.1 ≠ g := othL_ne nL.2.2.2 N_g
      have M_b : ∀ p ∈ (othL W [g3, g2, g1, g] L o), p.1 ≠ g11 := othL_ne nb5 Fg11.2.2.2.2
      by_cases heq : b = x.1
      · refine wpIn_block ?_
        refine wpIn_seq ?_
        refine wp_region_LI (W0 := (rnd W w.heap.size hn)) ((g11, .cells #[.int .i64 x.1, .int .i64 x.2] 41 (0, 0)) :: (g3, .cells #[.slice (some ⟨g, 0, none⟩) (n0 + 1) cap] 22 (0, 0)) :: (g2, .cells #[.int .i64 0] 36 (0, 0)) :: (g1, .cells #[.slice none 0 0] 22 (0, 0)) :: (g, .cells cur 41 (0, 0)) :: (othL W [g3, g2, g1, g] L o)) (by kernel_rfl) (hP) ?_
        refine lv (v := .slice (some ⟨g, 0, none⟩) (n0 + 1) cap) rfl rfl (yb_loadc (off := 0) rfl (by kernel_rfl) (.tail _ (.head _)) Tryd.underlying22 rfl (by kernel_rfl)) ?_
        refine lm (v := .int .i64 ((n0 + 1 : Nat) : Int)) rfl rfl ?_
        refine lp (v := .int .i64 (n0 : Int)) rfl rfl (run_bin rfl (vx := .int .i64 ((n0 + 1 : Nat) : Int)) (vy := .int .i64 1) (by kernel_rfl) (by kernel_rfl) fun w => run_subI (z := (n0 : Int)) (by omega) (by omega) w) ?_
        refine lm (v := .int .i64 (n0 : Int)) rfl rfl ?_
        refine wpL_done (fun W6 hW6 => ?_)
        refine (show Code.wpIn _ _ _ _ _ _ _ from ?_)
        refine wpIn_seq ?_
        refine wp_region_VI (W0 := (rnd W w.heap.size hn)) ((g11, .cells #[.int .i64 x.1, .int .i64 x.2] 41 (0, 0)) :: (g3, .cells #[.slice (some ⟨g, 0, none⟩) (n0 + 1) cap] 22 (0, 0)) :: (g2, .cells #[.int .i64 0] 36 (0, 0)) :: (g1, .cells #[.slice none 0 0] 22 (0, 0)) :: (g, .cells cur 41 (0, 0)) :: (othL W [g3, g2, g1, g] L o)) (by kernel_rfl) (by kernel_rfl) (hW6) ?_
        refine vm (i := 0) (v := .int .i64 (n0 : Int)) rfl rfl rfl ?_
        refine vp (i := 1) (v := .bool true) rfl rfl rfl (run_bin rfl (vx := .int .i64 (n0 : Int)) (vy := .int .i64 0) (by kernel_rfl) (by kernel_rfl) fun w => run_geqI (decide_eq_true (by omega)) w) ?_
        refine vm (i := 2) (v := .bool true) rfl rfl rfl ?_
        refine vv (i := 3) (v := .slice (some ⟨g, 0, none⟩) (n0 + 1) cap) rfl rfl rfl (yb_loadc (off := 0) rfl (by kernel_rfl) (.tail _ (.head _)) Tryd.underlying22 rfl (by kernel_rfl)) ?_
        refine vm (i := 4) (v := .int .i64 (n0 : Int)) rfl rfl rfl ?_
        refine vp (i := 5) (v := .pointer (some ⟨g, 0 + 2 * n0, none⟩)) rfl rfl rfl (run_idx (b := g) (off := 0) (n := n0 + 1) (cap := cap) (k := n0) rfl (by kernel_rfl) (by kernel_rfl) (by omega)) ?_
        refine vm (i := 6) (v := .pointer (some ⟨g, 0 + 2 * n0 + 1, none⟩)) rfl rfl rfl ?_
        refine vv (i := 7) (v := .int .i64 b) rfl rfl rfl (yb_loadc (off := 0 + 2 * n0 + 1) rfl (by kernel_rfl) (.tail _ (.tail _ (.tail _ (.tail _ (.head _))))) Tryd.underlying3 rfl (by rw [show 0 + 2 * n0 + 1 = 2 * n0 + 1 from by omega]; exact hget.2)) ?_
        refine vm (i := 8) (v := .pointer (some ⟨g11, 0, none⟩)) rfl rfl rfl ?_
        refine vv (i := 9) (v := .int .i64 x.1) rfl rfl rfl (yb_loadc (off := 0) rfl (by kernel_rfl) (.head _) Tryd.underlying3 rfl (by kernel_rfl)) ?_
        refine vp (i := 10) (v := .bool true) rfl rfl rfl (run_bin rfl (vx := .int .i64 b) (vy := .int .i64 x.1) (by kernel_rfl) (by kernel_rfl) fun w => run_eqlI (decide_eq_true heq) w) ?_
        refine vm (i := 11) (v := .bool true) rfl rfl rfl ?_
        refine wpV_done (by kernel_rfl) (fun W7 hW7 => ?_) _
        clear hW6
        refine (show Code.wpIn _ _ _ _ _ _ _ from ?_)
        refine wpIn_cond_true rfl ?_
        refine wp_region_LI (W0 := (rnd W w.heap.size hn)) ((g11, .cells #[.int .i64 x.1, .int .i64 x.2] 41 (0, 0)) :: (g3, .cells #[.slice (some ⟨g, 0, none⟩) (n0 + 1) cap] 22 (0, 0)) :: (g2, .cells #[.int .i64 0] 36 (0, 0)) :: (g1, .cells #[.slice none 0 0] 22 (0, 0)) :: (g, .cells cur 41 (0, 0)) :: (othL W [g3, g2, g1, g] L o)) (by kernel_rfl) (hW7) ?_
        refine lv (v := .slice (some ⟨g, 0, none⟩) (n0 + 1) cap) rfl rfl (yb_loadc (off := 0) rfl (by kernel_rfl) (.tail _ (.head _)) Tryd.underlying22 rfl (by kernel_rfl)) ?_
        refine lm (v := .int .i64 (n0 : Int)) rfl rfl ?_
        refine lm (v := .pointer (some ⟨g11, 1, none⟩)) rfl rfl ?_
        refine lv (v := .int .i64 x.2) rfl rfl (yb_loadc (off := 1) rfl (by kernel_rfl) (.head _) Tryd.underlying3 rfl (by kernel_rfl)) ?_
        refine lp (v := .pointer (some ⟨g, 0 + 2 * n0, none⟩)) rfl rfl (run_idx (b := g) (off := 0) (n := n0 + 1) (cap := cap) (k := n0) rfl (by kernel_rfl) (by kernel_rfl) (by omega)) ?_
        refine lm (v := .pointer (some ⟨g, 0 + 2 * n0 + 1, none⟩)) rfl rfl ?_
        refine wpL_s ((g11, .cells #[.int .i64 x.1, .int .i64 x.2] 41 (0, 0)) :: (g3, .cells #[.slice (some ⟨g, 0, none⟩) (n0 + 1) cap] 22 (0, 0)) :: (g2, .cells #[.int .i64 0] 36 (0, 0)) :: (g1, .cells #[.slice none 0 0] 22 (0, 0)) :: (g, .cells (cur.toList.take (0 + 2 * n0 + 1) ++ [Value.int .i64 x.2] ++ cur.toList.drop (0 + 2 * n0 + 1 + 1)).toArray 41 (0, 0)) :: (othL W [g3, g2, g1, g] L o)) rfl rfl (st_row (off := 0 + 2 * n0 + 1) (v := .int .i64 x.2) rfl (by kernel_rfl) (by kernel_rfl) (.tail _ (.tail _ (.tail _ (.tail _ (.head _))))) (by omega) (by kernel_rfl) (by simp [Value.cells, hR.1]; omega) (by intro v hv; simp [Value.cells] at hv; subst hv; rfl) rfl (List.forall_mem_cons.2 ⟨.inr ⟨(.head _), Fg11.2.2.2.1.symm⟩, (List.forall_mem_cons.2 ⟨.inr ⟨(.tail _ (.head _)), m3⟩, (List.forall_mem_cons.2 ⟨.inr ⟨(.tail _ (.tail _ (.head _))), m2⟩, (List.forall_mem_cons.2 ⟨.inr ⟨(.tail _ (.tail _ (.tail _ (.head _)))), m1⟩, (List.forall_mem_cons.2 ⟨.inl rfl, (fun p hp => .inr ⟨(.tail _ (.tail _ (.tail _ (.tail _ (.tail _ hp))))), M_g p hp⟩)⟩)⟩)⟩)⟩)⟩)) ?_
        refine wpL_done (fun W8 hW8 => ?_)
        clear hW7
        subst hn0
        have hRs := row_set (c := x.2) rfl hR
        rw [show 2 * m0.length + 1 = 0 + 2 * m0.length + 1 from by omega, show 2 * m0.length + 2 = 0 + 2 * m0.length + 1 + 1 from by omega] at hRs
        exact ⟨hW8.2 (L, o) (.tail _ (.tail _ (.tail _ (.tail _ (.tail _ othL_rec))))), hW8.1.mono (Nat.zero_le _), [g3, g2, g1, g], othL_kept (S := [g3, g2, g1, g]) hW8 (fun p hp => (.tail _ (.tail _ (.tail _ (.tail _ (.tail _ hp)))))), List.forall_mem_cons.2 ⟨⟨lt_of_block (hW8.2 _ (.tail _ (.head _))), .inl (.head _)⟩, List.forall_mem_cons.2 ⟨⟨lt_of_block (hW8.2 _ (.tail _ (.tail _ (.head _)))), .inl (.tail _ (.head _))⟩, List.forall_mem_cons.2 ⟨⟨lt_of_block (hW8.2 _ (.tail _ (.tail _ (.tail _ (.head _))))), .inl (.tail _ (.tail _ (.head _)))⟩, List.forall_mem_cons.2 ⟨⟨lt_of_block (hW8.2 _ (.tail _ (.tail _ (.tail _ (.tail _ (.head _)))))), .inl (.tail _ (.tail _ (.tail _ (.head _))))⟩, List.forall_mem_nil _⟩⟩⟩⟩, .slice (some ⟨g, 0, none⟩) (m0.length + 1) cap, [(g, .cells (cur.toList.take (0 + 2 * m0.length + 1) ++ [Value.int .i64 x.2] ++ cur.toList.drop (0 + 2 * m0.length + 1 + 1)).toArray 41 (0, 0))], rfl, ((rnd_back hK hW8).sub (List.forall_mem_cons.2 ⟨(.tail _ (.head _)), (List.forall_mem_cons.2 ⟨(.tail _ (.tail _ (.head _))), (List.forall_mem_cons.2 ⟨(.tail _ (.tail _ (.tail _ (.head _)))), (List.forall_mem_cons.2 ⟨(.tail _ (.tail _ (.tail _ (.tail _ (.head _))))), (fun _ hp => by cases hp)⟩)⟩)⟩)⟩)), .inr ⟨g, cap, _, m0, a, x.2, by rw [merge_snoc, hm, addM_touch m0 a b x heq], hRs, rfl, hBg, m1, m2, m3, rfl⟩⟩
      · refine wpIn_block ?_
        refine wpIn_seq ?_
        refine wp_region_LI (W0 := (rnd W w.heap.size hn)) ((g11, .cells #[.int .i64 x.1, .int .i64 x.2] 41 (0, 0)) :: (g3, .cells #[.slice (some ⟨g, 0, none⟩) (n0 + 1) cap] 22 (0, 0)) :: (g2, .cells #[.int .i64 0] 36 (0, 0)) :: (g1, .cells #[.slice none 0 0] 22 (0, 0)) :: (g, .cells cur 41 (0, 0)) :: (othL W [g3, g2, g1, g] L o)) (by kernel_rfl) (hP) ?_
        refine lv (v := .slice (some ⟨g, 0, none⟩) (n0 + 1) cap) rfl rfl (yb_loadc (off := 0) rfl (by kernel_rfl) (.tail _ (.head _)) Tryd.underlying22 rfl (by kernel_rfl)) ?_
        refine lm (v := .int .i64 ((n0 + 1 : Nat) : Int)) rfl rfl ?_
        refine lp (v := .int .i64 (n0 : Int)) rfl rfl (run_bin rfl (vx := .int .i64 ((n0 + 1 : Nat) : Int)) (vy := .int .i64 1) (by kernel_rfl) (by kernel_rfl) fun w => run_subI (z := (n0 : Int)) (by omega) (by omega) w) ?_
        refine lm (v := .int .i64 (n0 : Int)) rfl rfl ?_
        refine wpL_done (fun W6 hW6 => ?_)
        refine (show Code.wpIn _ _ _ _ _ _ _ from ?_)
        refine wpIn_seq ?_
        refine wp_region_VI (W0 := (rnd W w.heap.size hn)) ((g11, .cells #[.int .i64 x.1, .int .i64 x.2] 41 (0, 0)) :: (g3, .cells #[.slice (some ⟨g, 0, none⟩) (n0 + 1) cap] 22 (0, 0)) :: (g2, .cells #[.int .i64 0] 36 (0, 0)) :: (g1, .cells #[.slice none 0 0] 22 (0, 0)) :: (g, .cells cur 41 (0, 0)) :: (othL W [g3, g2, g1, g] L o)) (by kernel_rfl) (by kernel_rfl) (hW6) ?_
        refine vm (i := 0) (v := .int .i64 (n0 : Int)) rfl rfl rfl ?_
        refine vp (i := 1) (v := .bool true) rfl rfl rfl (run_bin rfl (vx := .int .i64 (n0 : Int)) (vy := .int .i64 0) (by kernel_rfl) (by kernel_rfl) fun w => run_geqI (decide_eq_true (by omega)) w) ?_
        refine vm (i := 2) (v := .bool true) rfl rfl rfl ?_
        refine vv (i := 3) (v := .slice (some ⟨g, 0, none⟩) (n0 + 1) cap) rfl rfl rfl (yb_loadc (off := 0) rfl (by kernel_rfl) (.tail _ (.head _)) Tryd.underlying22 rfl (by kernel_rfl)) ?_
        refine vm (i := 4) (v := .int .i64 (n0 : Int)) rfl rfl rfl ?_
        refine vp (i := 5) (v := .pointer (some ⟨g, 0 + 2 * n0, none⟩)) rfl rfl rfl (run_idx (b := g) (off := 0) (n := n0 + 1) (cap := cap) (k := n0) rfl (by kernel_rfl) (by kernel_rfl) (by omega)) ?_
        refine vm (i := 6) (v := .pointer (some ⟨g, 0 + 2 * n0 + 1, none⟩)) rfl rfl rfl ?_
        refine vv (i := 7) (v := .int .i64 b) rfl rfl rfl (yb_loadc (off := 0 + 2 * n0 + 1) rfl (by kernel_rfl) (.tail _ (.tail _ (.tail _ (.tail _ (.head _))))) Tryd.underlying3 rfl (by rw [show 0 + 2 * n0 + 1 = 2 * n0 + 1 from by omega]; exact hget.2)) ?_
        refine vm (i := 8) (v := .pointer (some ⟨g11, 0, none⟩)) rfl rfl rfl ?_
        refine vv (i := 9) (v := .int .i64 x.1) rfl rfl rfl (yb_loadc (off := 0) rfl (by kernel_rfl) (.head _) Tryd.underlying3 rfl (by kernel_rfl)) ?_
        refine vp (i := 10) (v := .bool false) rfl rfl rfl (run_bin rfl (vx := .int .i64 b) (vy := .int .i64 x.1) (by kernel_rfl) (by kernel_rfl) fun w => run_eqlI (decide_eq_false heq) w) ?_
        refine vm (i := 11) (v := .bool false) rfl rfl rfl ?_
        refine wpV_done (by kernel_rfl) (fun W7 hW7 => ?_) _
        clear hW6
        refine (show Code.wpIn _ _ _ _ _ _ _ from ?_)
        refine wpIn_cond_false rfl ?_
        refine wpIn_seq ?_
        refine wp_region_LI (W0 := (rnd W w.heap.size hn)) ((g11, .cells #[.int .i64 x.1, .int .i64 x.2] 41 (0, 0)) :: (g3, .cells #[.slice (some ⟨g, 0, none⟩) (n0 + 1) cap] 22 (0, 0)) :: (g2, .cells #[.int .i64 0] 36 (0, 0)) :: (g1, .cells #[.slice none 0 0] 22 (0, 0)) :: (g, .cells cur 41 (0, 0)) :: (othL W [g3, g2, g1, g] L o)) (by kernel_rfl) (hW7) ?_
        refine lv (v := .slice (some ⟨g, 0, none⟩) (n0 + 1) cap) rfl rfl (yb_loadc (off := 0) rfl (by kernel_rfl) (.tail _ (.head _)) Tryd.underlying22 rfl (by kernel_rfl)) ?_
        refine lm (v := .int .i64 ((n0 + 1 : Nat) : Int)) rfl rfl ?_
        refine lp (v := .bool false) rfl rfl (run_bin rfl (vx := .int .i64 ((n0 + 1 : Nat) : Int)) (vy := .int .i64 1000) (by kernel_rfl) (by kernel_rfl) fun w => run_eqlI (decide_eq_false (by omega)) w) ?_
        refine wpL_done (fun W8 hW8 => ?_)
        clear hW7
        refine (show Code.wpIn _ _ _ _ _ _ _ from ?_)
        refine wpIn_cond_false rfl ?_
        refine wp_region_LI (W0 := (rnd W w.heap.size hn)) ((g11, .cells #[.int .i64 x.1, .int .i64 x.2] 41 (0, 0)) :: (g3, .cells #[.slice (some ⟨g, 0, none⟩) (n0 + 1) cap] 22 (0, 0)) :: (g2, .cells #[.int .i64 0] 36 (0, 0)) :: (g1, .cells #[.slice none 0 0] 22 (0, 0)) :: (g, .cells cur 41 (0, 0)) :: (othL W [g3, g2, g1, g] L o)) (by kernel_rfl) (hW8) ?_
        refine lv (v := .slice (some ⟨g, 0, none⟩) (n0 + 1) cap) rfl rfl (yb_loadc (off := 0) rfl (by kernel_rfl) (.tail _ (.head _)) Tryd.underlying22 rfl (by kernel_rfl)) ?_
        refine lv (v := .agg #[.int .i64 x.1, .int .i64 x.2]) rfl rfl (yb_load (n := 2) (off := 0) rfl (by kernel_rfl) (.head _) Tryd.underlying41 rfl size_span (by simp) (by kernel_rfl)) ?_
        refine wpL_new (fun g => .slice (some ⟨g, 0, none⟩) 1 1) (obi := .cells #[.int .i64 x.1, .int .i64 x.2] 41 (0, 0)) rfl rfl (fun _ => by kernel_rfl) (fun _ => by simp only [List.setIfInBounds_toArray, List.set_cons_succ, List.set_cons_zero] <;> rfl) fun g21 Bg21 Fg21 => ?_
        try simp only [List.forall_mem_cons] at Fg21
        refine wpL_g (AppG (rnd W w.heap.size hn) ((g21, .cells #[.int .i64 x.1, .int .i64 x.2] 41 (0, 0)) :: (g11, .cells #[.int .i64 x.1, .int .i64 x.2] 41 (0, 0)) :: (g3, .cells #[.slice (some ⟨g, 0, none⟩) (n0 + 1) cap] 22 (0, 0)) :: (g2, .cells #[.int .i64 0] 36 (0, 0)) :: (g1, .cells #[.slice none 0 0] 22 (0, 0)) :: (othL W [g3, g2, g1, g] L o)) (n0 + 1 + 1) (flat (m0 ++ [(a, b)]) ++ [.int .i64 x.1, .int .i64 x.2])) rfl (by kernel_rfl) (app_row rfl (by kernel_rfl) (by kernel_rfl) (.head _) (.tail _ (.tail _ (.tail _ (.tail _ (.tail _ (.head _)))))) (by omega) hR (by omega) ⟨rfl, rfl⟩ (List.forall_mem_cons.2 ⟨⟨(.head _), (Ne.symm Fg21.2.2.2.2.1)⟩, (List.forall_mem_cons.2 ⟨⟨(.tail _ (.head _)), Fg11.2.2.2.1.symm⟩, (List.forall_mem_cons.2 ⟨⟨(.tail _ (.tail _ (.head _))), m3⟩, (List.forall_mem_cons.2 ⟨⟨(.tail _ (.tail _ (.tail _ (.head _)))), m2⟩, (List.forall_mem_cons.2 ⟨⟨(.tail _ (.tail _ (.tail _ (.tail _ (.head _))))), m1⟩, (fun p hp => ⟨(.tail _ (.tail _ (.tail _ (.tail _ (.tail _ (.tail _ hp)))))), M_g p hp⟩)⟩)⟩)⟩)⟩)⟩)) (fun _ => by simp only [List.setIfInBounds_toArray, List.set_cons_succ, List.set_cons_zero] <;> rfl) ?_
        rintro v K9 ⟨g9, cap9, cur9, rfl, Bg9, Fg9, hR9, rfl⟩
        simp only [List.forall_mem_cons] at Fg9
        refine wpL_s ((g9, .cells cur9 41 (0, 0)) :: (g21, .cells #[.int .i64 x.1, .int .i64 x.2] 41 (0, 0)) :: (g11, .cells #[.int .i64 x.1, .int .i64 x.2] 41 (0, 0)) :: (g3, .cells #[.slice (some ⟨g9, 0, none⟩) (n0 + 1 + 1) cap9] 22 (0, 0)) :: (g2, .cells #[.int .i64 0] 36 (0, 0)) :: (g1, .cells #[.slice none 0 0] 22 (0, 0)) :: (othL W [g3, g2, g1, g] L o)) rfl rfl (st_cell rfl (by kernel_rfl) (by kernel_rfl) (.tail _ (.tail _ (.tail _ (.head _)))) (by omega) (by kernel_rfl) ⟨rfl, rfl⟩ (List.forall_mem_cons.2 ⟨.inr ⟨(.head _), (Ne.symm Fg9.2.2.1)⟩, (List.forall_mem_cons.2 ⟨.inr ⟨(.tail _ (.head _)), (Ne.symm Fg21.2.1)⟩, (List.forall_mem_cons.2 ⟨.inr ⟨(.tail _ (.tail _ (.head _))), Fg11.1.symm⟩, (List.forall_mem_cons.2 ⟨.inl rfl, (List.forall_mem_cons.2 ⟨.inr ⟨(.tail _ (.tail _ (.tail _ (.tail _ (.head _))))), Fg3.1⟩, (List.forall_mem_cons.2 ⟨.inr ⟨(.tail _ (.tail _ (.tail _ (.tail _ (.tail _ (.head _)))))), Fg3.2.1⟩, (fun p hp => .inr ⟨(.tail _ (.tail _ (.tail _ (.tail _ (.tail _ (.tail _ hp)))))), M_g3 p hp⟩)⟩)⟩)⟩)⟩)⟩)⟩)) ?_
        refine wpL_done (fun W9 hW9 => ?_)
        clear hW8
        subst hn0
        have new9 : g9 ∈ [g3, g2, g1, g] ∨ W.heap.size ≤ g9 := by
          by_cases e9 : g9 = g
          · exact .inl (by rw [e9]; exact (.tail _ (.tail _ (.tail _ (.head _)))))
          · exact .inr (new_of_ne (S := [g3, g2, g1, g]) Fg9.2.2.2.2.2 (List.forall_mem_cons.2 ⟨Fg9.2.2.1, (List.forall_mem_cons.2 ⟨Fg9.2.2.2.1, (List.forall_mem_cons.2 ⟨Fg9.2.2.2.2.1, (List.forall_mem_cons.2 ⟨(fun e => e9 e.symm), (List.forall_mem_nil _)⟩)⟩)⟩)⟩))
        have hl1 : (m0 ++ [(a, b)]).length = m0.length + 1 := by simp
        exact ⟨hW9.2 (L, o) (.tail _ (.tail _ (.tail _ (.tail _ (.tail _ (.tail _ othL_rec)))))), hW9.1.mono (Nat.zero_le _), [g3, g2, g1, g9], othL_kept (S := [g3, g2, g1, g]) hW9 (fun p hp => (.tail _ (.tail _ (.tail _ (.tail _ (.tail _ (.tail _ hp))))))), List.forall_mem_cons.2 ⟨⟨lt_of_block (hW9.2 _ (.tail _ (.tail _ (.tail _ (.head _))))), .inl (.head _)⟩, List.forall_mem_cons.2 ⟨⟨lt_of_block (hW9.2 _ (.tail _ (.tail _ (.tail _ (.tail _ (.head _)))))), .inl (.tail _ (.head _))⟩, List.forall_mem_cons.2 ⟨⟨lt_of_block (hW9.2 _ (.tail _ (.tail _ (.tail _ (.tail _ (.tail _ (.head _))))))), .inl (.tail _ (.tail _ (.head _)))⟩, List.forall_mem_cons.2 ⟨⟨lt_of_block (hW9.2 _ (.head _)), new9⟩, List.forall_mem_nil _⟩⟩⟩⟩, .slice (some ⟨g9, 0, none⟩) (m0.length + 1 + 1) cap9, [(g9, .cells cur9 41 (0, 0))], rfl, ((rnd_back hK hW9).sub (List.forall_mem_cons.2 ⟨(.tail _ (.tail _ (.tail _ (.head _)))), (List.forall_mem_cons.2 ⟨(.tail _ (.tail _ (.tail _ (.tail _ (.head _))))), (List.forall_mem_cons.2 ⟨(.tail _ (.tail _ (.tail _ (.tail _ (.tail _ (.head _)))))), (List.forall_mem_cons.2 ⟨(.head _), (fun _ hp => by cases hp)⟩)⟩)⟩)⟩)), .inr ⟨g9, cap9, cur9, m0 ++ [(a, b)], x.1, x.2, by rw [merge_snoc, hm, addM_apart m0 a b x heq], by rw [hl1, flat_append (m0 ++ [(a, b)])]; exact hR9, by rw [hl1], Bg9, Fg9.2.2.2.2.1, Fg9.2.2.2.1, Fg9.2.2.1, rfl⟩⟩
  case done =>
    rintro D S' W hFr ⟨u, Kx, rfl, hK, hc⟩ hD hDS hDef
    have hu1 : u.cells = #[u] ∧ u.oneCell' = true := by rcases hc with ⟨_, rfl, _⟩ | ⟨g, cap, cur, m0, a, b, _, _, rfl, _⟩ <;> exact ⟨rfl, rfl⟩
    have N2 : ∀ p ∈ ((D, Obj.deferred (some [])) :: Kx), p.1 ≠ g2 := by
      intro p hp; rcases List.mem_cons.1 hp with rfl | hp
      · exact fun e => hDS (by rw [show D = g2 from e]; exact .tail _ (.head _))
      · rcases hc with ⟨_, _, rfl⟩ | ⟨g, cap, cur, m0, a, b, _, _, _, _, m1, m2, m3, rfl⟩
        · cases hp
        · simp only [List.mem_cons, List.not_mem_nil, or_false] at hp; subst hp; exact m2.symm
    have N1 : ∀ p ∈ ((D, Obj.deferred (some [])) :: Kx), p.1 ≠ g1 := by
      intro p hp; rcases List.mem_cons.1 hp with rfl | hp
      · exact fun e => hDS (by rw [show D = g1 from e]; exact .tail _ (.tail _ (.head _)))
      · rcases hc with ⟨_, _, rfl⟩ | ⟨g, cap, cur, m0, a, b, _, _, _, _, m1, m2, m3, rfl⟩
        · cases hp
        · simp only [List.mem_cons, List.not_mem_nil, or_false] at hp; subst hp; exact m1.symm
    have hb : KS w ((g3, .cells #[u] 22 (0, 0)) :: (g2, .cells #[.int .i64 0] 36 (0, 0)) :: (g1, .cells #[.slice none 0 0] 22 (0, 0)) :: ((D, .deferred (some [])) :: Kx)) W := ⟨hK.1, fun p hp => by rcases List.mem_cons.1 hp with rfl | hp; exact hK.2 _ (.head _); rcases List.mem_cons.1 hp with rfl | hp; exact hK.2 _ (.tail _ (.head _)); rcases List.mem_cons.1 hp with rfl | hp; exact hK.2 _ (.tail _ (.tail _ (.head _))); rcases List.mem_cons.1 hp with rfl | hp; exact hDef; exact hK.2 _ (.tail _ (.tail _ (.tail _ hp)))⟩
    refine (show Code.wpIn _ _ _ _ _ _ _ from ?_)
    refine (show Code.wpIn _ _ _ _ _ _ _ from ?_)
    refine wpIn_seq ?_
    refine wp_region_LI (W0 := w) ((g3, .cells #[u] 22 (0, 0)) :: (g2, .cells #[.int .i64 0] 36 (0, 0)) :: (g1, .cells #[.slice none 0 0] 22 (0, 0)) :: ((D, .deferred (some [])) :: Kx)) (by kernel_rfl) (hb) ?_
    refine lv (v := u) rfl rfl (yb_loadc (off := 0) rfl (by kernel_rfl) (.head _) Tryd.underlying22 rfl (by kernel_rfl)) ?_
    refine wpL_s ((g3, .cells #[u] 22 (0, 0)) :: (g2, .cells #[.int .i64 0] 36 (0, 0)) :: (g1, .cells #[u] 22 (0, 0)) :: ((D, .deferred (some [])) :: Kx)) rfl rfl (st_cell rfl (by kernel_rfl) (by kernel_rfl) (.tail _ (.tail _ (.head _))) (by omega) (by kernel_rfl) hu1 (List.forall_mem_cons.2 ⟨.inr ⟨(.head _), Fg3.2.1.symm⟩, (List.forall_mem_cons.2 ⟨.inr ⟨(.tail _ (.head _)), Fg2.1.symm⟩, (List.forall_mem_cons.2 ⟨.inl rfl, (fun p hp => .inr ⟨(.tail _ (.tail _ (.tail _ hp))), N1 p hp⟩)⟩)⟩)⟩)) ?_
    refine wpL_s ((g3, .cells #[u] 22 (0, 0)) :: (g2, .cells #[.int .i64 0] 36 (0, 0)) :: (g1, .cells #[u] 22 (0, 0)) :: ((D, .deferred (some [])) :: Kx)) rfl rfl (st_cell rfl (by kernel_rfl) (by kernel_rfl) (.tail _ (.head _)) (by omega) (by kernel_rfl) ⟨rfl, rfl⟩ (List.forall_mem_cons.2 ⟨.inr ⟨(.head _), Fg3.1.symm⟩, (List.forall_mem_cons.2 ⟨.inl rfl, (List.forall_mem_cons.2 ⟨.inr ⟨(.tail _ (.tail _ (.head _))), Fg2.1⟩, (fun p hp => .inr ⟨(.tail _ (.tail _ (.tail _ hp))), N2 p hp⟩)⟩)⟩)⟩)) ?_
    refine wpL_done (fun W4 hW4 => ?_)
    refine (show Code.wpIn _ _ _ _ _ _ _ from ?_)
    refine wpIn_ret ?_
    have hD4 := hW4.2 (D, _) (.tail _ (.tail _ (.tail _ (.head _))))
    refine ⟨by simp, .inl ⟨_, _, rfl, run_takeDeferred hD4, ?_⟩⟩
    have hg1 := hW4.2 _ (.tail _ (.tail _ (.head _)))
    have hg2 := hW4.2 _ (.tail _ (.head _))
    have k1 : D ≠ g1 := N1 _ (.head _)
    have k2 : D ≠ g2 := N2 _ (.head _)
    refine ⟨_, res_cells_s rfl rfl ((World.putObj_heap_other (fun e => k1 e.symm)).trans hg1) Tryd.underlying22 rfl rfl ((World.putObj_heap_other (fun e => k2 e.symm)).trans hg2) Tryd.underlying36 rfl, u, rfl, ?_, ?_⟩
    · rcases hc with ⟨hm, rfl, _⟩ | ⟨g, cap, cur, m0, a, b, hm, hR, rfl, hBg, m1, m2, m3, rfl⟩
      · exact .inl ⟨hm, rfl⟩
      · refine .inr ⟨g, cap, cur, by rw [hm]; simp, ?_, by rw [hm, List.length_append]; exact hR, hBg⟩
        have hgg := hW4.2 _ (.tail _ (.tail _ (.tail _ (.tail _ (.head _)))))
        have k3 : D ≠ g := fun e => by rw [show g = D from e.symm, hD4] at hgg; cases hgg
        exact (World.putObj_heap_other (fun e => k3 e.symm)).trans hgg
    · exact hW4.1.trans (belowK_b (w := w) (Nat.le_refl _) _ D _ _ (Nat.le_trans hW3.1.size hD) hD4 rfl rfl)
  case stop =>
    rintro D pre S' W _ hf
    exact hf.elim
end Go.Proofs.YtjmcelgdjpdacaaDoor
/- A region that calls the round of a loop over an iterator (yield). Nothing of the program. -/
namespace Tw
open Go Go.RowKit Go.Proofs.YtjmcelgdjpdacaaDoor
def onlyR (K : Act → World → Prop) : Exit → Act → World → Prop
  | .normal, a, w => K a w
  | _, _, _ => False
theorem onlyR_N (K : Act → World → Prop) : onlyR K = onlyN (onlyR K) := by funext e a w; cases e <;> rfl
section
variable {P : Program} {n : Nat} {r : Option Nat} {ops : Array Oper} {Q : Exit → Act → World → Prop}
theorem list_app (rest : List Oper) : ∀ (pre : List Oper) (a : Act) (w : World), pre.all noDefer = true → wpList P ops (onlyR (wpListIn (FX r) n P ops Q rest)) pre a w → wpListIn (FX r) n P ops Q (pre ++ rest) a w
  | [], _, _, _, h => h
  | o :: pre, a, w, hd, h => by
    simp only [List.all_cons, Bool.and_eq_true] at hd
    rw [List.cons_append]
    unfold wpList at h
    unfold wpListIn
    split
    · rename_i hw
      rw [if_pos hw] at h
      rcases h with h | ⟨_, h⟩
      · rw [onlyR_N] at h
        refine Oper.wpIn_mono (fun a w hh => list_app rest pre a w hd.2 ?_) (oper_round (noDefer_ne hd.1) h)
        rw [onlyR_N]
        exact hh
      · rw [onlyR_N] at h
        exact (lets_onlyN h).elim
    · rename_i hw
      rw [if_neg hw] at h
      exact ⟨fun _ _ => trivial, list_app rest pre _ w hd.2 h⟩
theorem wp_region_S {id : Nat} {l : List Oper} {a : Act} {w : World} {W0 : Base} (pre rest : List Oper) (K : List (Nat × Obj)) (hl : l = pre ++ rest) (hd : pre.all noDefer = true) (hK : KS W0 K w) (h : wpL P l.toArray (onlyR (wpListIn (FX r) n P l.toArray Q rest)) W0 pre a K) : (Code.region id l.toArray false).wpIn (FX r) n P Q a w := by
  refine wpIn_region_lit ?_
  have h1 := list_app rest pre a w hd (h.of w hK)
  rw [← hl] at h1
  exact h1
theorem wpl_rest {rest : List Oper} {a : Act} {w : World} {W0 : Base} (K : List (Nat × Obj)) (hd : rest.all noDefer = true) (hK : KS W0 K w) (h : wpL P ops (onlyN Q) W0 rest a K) : wpListIn (FX r) n P ops Q rest a w := list_round rest a w hd (h.of w hK)
theorem wpl_yield {o : Oper} {rest : List Oper} {a : Act} {w : World} {c x : Operand} {tt : TypeId} {l d : Nat} {v : Value} {A B : World → Prop} {tm : Array Value} {df : List Deferred} {T1 T2 : Array Value} (ha : a = ⟨tm, df⟩) (ho : o.op = .call { callee := .value c, args := #[x], argTypes := #[tt] }) (hc : a.eval c = .func (.yield l) #[] #[]) (hx : a.eval x = v)
    (hw : Region.wanted o (yielded ops a.tmps) = true) (hd : o.dst = some d) (hY : YieldAt (FX r) (n - 1) P l #[v] w fun e W' => (e = .returned (.bool true) ∧ A W') ∨ (e = .returned (.bool false) ∧ B W'))
    (hT1 : tm.setIfInBounds d (.bool true) = T1) (hT2 : tm.setIfInBounds d (.bool false) = T2)
    (h1 : ∀ W', A W' → wpListIn (FX r) n P ops Q rest ⟨T1, df⟩ W') (h2 : ∀ W', B W' → wpListIn (FX r) n P ops Q rest ⟨T2, df⟩ W') : wpListIn (FX r) n P ops Q (o :: rest) a w := by
  subst ha
  obtain ⟨fn, tmps, assign, body, hy, hR⟩ := hY
  refine wpListIn_step fun K hK => ?_
  rw [if_pos hw]
  refine ⟨fun _ _ => trivial, ?_⟩
  rw [Oper.semAt_eq _ _ _ (fun c' e => by rw [ho] at e; cases e)]
  have hrun : (execOp (Act.eval ⟨tm, df⟩) o).run P w = .ok (.round l fn tmps assign body) w := by
    generalize Act.eval ⟨tm, df⟩ = ev at hc hx
    simp [execOp, ho, resolve, invoke, hc, hx, hy, Deferred.ofValue]
  rw [hrun]
  refine ⟨(fun hh => by cases hh), hR.mono ?_⟩
  rintro e W' (⟨rfl, hA⟩ | ⟨rfl, hB⟩)
  · refine hK _ _ ?_
    rw [hd]
    simp only [Act.put]
    rw [hT1]
    exact h1 W' hA
  · refine hK _ _ ?_
    rw [hd]
    simp only [Act.put]
    rw [hT2]
    exact h2 W' hB
end
end Tw
namespace Go.Proofs.YtjmcelgdjpdacaaDoor
open Go.RowKit Tw
open Go
theorem inBlock_exit (id : Nat) (Q : Exit → Act → World → Prop) (a : Act) (w : World) : Exit.inBlock id Q (.exit id) a w = Q .normal a w := by simp [Exit.inBlock]
theorem then_exit (id : Nat) (f : Act → World → Prop) (Q : Exit → Act → World → Prop) (a : Act) (w : World) : Exit.then f Q (.exit id) a w = Q (.exit id) a w := rfl
def weekPart (from_ to_ mon : Int) : List (Int × Int) → List (Int × Int)
  | [] => []
  | s :: l => (if min (mon + s.2) to_ ≤ max (mon + s.1) from_ then [] else [(max (mon + s.1) from_, min (mon + s.2) to_)]) ++ weekPart from_ to_ mon l
def weeksL (from_ to_ : Int) (week : List (Int × Int)) : Nat → Int → List (Int × Int)
  | 0, _ => []
  | n + 1, mon => if mon < to_ then weekPart from_ to_ mon week ++ weeksL from_ to_ week n (mon + 10080) else []
theorem part_drop {l : List (Int × Int)} {k : Nat} {f t a b mon : Int} (h : l[k]? = some (f, t)) : weekPart a b mon (l.drop k) = (if min (mon + t) b ≤ max (mon + f) a then [] else [(max (mon + f) a, min (mon + t) b)]) ++ weekPart a b mon (l.drop (k + 1)) := by
  rw [drop_get h]; rfl
theorem cells_low {W W' : World} {n₀ b off : Nat} {l : List (Int × Int)} (h : Cells W b off l) (hB : Below n₀ W W') (hb : b < n₀) : Cells W' b off l := fun i s hs => by
  obtain ⟨h1, h2⟩ := h i s hs
  exact ⟨by rw [hB.cell (p := ⟨b, off + 2 * i, none⟩) hb]; exact h1, by rw [hB.cell (p := ⟨b, off + 2 * i + 1, none⟩) hb]; exact h2⟩
theorem run_remI {x y z : Int} (h : x % y = z) (h0 : 0 ≤ x) (hy : 0 < y) (hx : x ≤ 9223372036854775807) {px py : Operand} (w : World) : (do eqGuard .rem 3 px py (.int .i64 x) (.int .i64 y); binOp .rem 3 (.int .i64 x) (.int .i64 y) : Sem Value).run Tryd.prog w = .ok (.int .i64 z) w := by
  subst h
  have hne : y ≠ 0 := by omega
  go_simp
  rw [Int.tmod_eq_emod_of_nonneg h0]
theorem abideF {β : Type} {J : β → List Nat → World → Prop} {B : Nat} (hJa : Stab B J) {pre : β} {S0 S : List Nat} {W1 W W' : World} {K : List (Nat × Obj)} (hJ : J pre S W) (hB : Fr S0 S W1 W) (h : KS (W : World) K W') : J pre S W' ∧ Fr S0 S W1 W' :=
  ⟨hJa pre S W W' hJ (Below.mono h.1 (Nat.zero_le _)) (fun k _ hk => h.1.block k hk), hB.trans ⟨Below.mono h.1 (Nat.zero_le _), fun k hk _ => h.1.block k hk, fun k hk => ⟨Nat.lt_of_lt_of_le (hB.own k hk).1 h.1.size, .inl hk⟩⟩⟩
theorem yieldF {P : Program} {n m l : Nat} {s r : Option Nat} {args : Array Value} {W : World} {S1 : List Nat} {A X : List Nat → World → Prop}
    (h : YieldAt (FX s) n P l args W fun e W' => ∃ S2, Fr S1 S2 W W' ∧ ((e = .returned (.bool true) ∧ A S2 W') ∨ (e = .returned (.bool false) ∧ X S2 W'))) :
    YieldAt (FX r) m P l args W fun e W' => (e = .returned (.bool true) ∧ ∃ S2, Fr S1 S2 W W' ∧ A S2 W') ∨ (e = .returned (.bool false) ∧ ∃ S2, Fr S1 S2 W W' ∧ X S2 W') :=
  (yieldAny h).mono fun e W' ⟨S2, hf, hc⟩ => hc.imp (fun h => ⟨h.1, S2, hf, h.2⟩) (fun h => ⟨h.1, S2, hf, h.2⟩)
theorem pre_of {α : Type} {xs pre : List α} {x : α} {rest : List α} (h : xs = pre ++ x :: rest) : pre ++ [x] <+: xs := ⟨rest, by rw [h]; simp⟩
set_option maxRecDepth 100000 in
set_option maxHeartbeats 2000000 in
theorem weekly_seq (n₀ b1 b2 b3 capw : Nat) (pw : Option Addr) (from_ to_ : Int) (week : List (Int × Int)) (fuel0 : Nat) (W0 : World) (hn : n₀ ≤ W0.heap.size) (hb1 : b1 < n₀ ∧ W0.heap[b1]? = some (.cells #[.int .i64 from_] 3 (0, 0))) (hb2 : b2 < n₀ ∧ W0.heap[b2]? = some (.cells #[.int .i64 to_] 3 (0, 0)))
    (hb3 : b3 < n₀ ∧ W0.heap[b3]? = some (.cells #[.slice pw week.length capw] 22 (0, 0))) (hAVw : AV W0 n₀ week pw capw) (hf0 : 0 ≤ from_ ∧ from_ ≤ to_ ∧ to_ ≤ 100000000) (hwl : week.length ≤ 1000) (hwk : ∀ (k : Nat) (f t : Int), week[k]? = some (f, t) → 0 ≤ f ∧ f < t ∧ t ≤ 100000000)
    (hfu0 : to_ - (from_ - from_ % 10080) ≤ 10080 * fuel0) :
    SeqF Tryd.prog 82 #[.pointer (some ⟨b1, 0, none⟩), .pointer (some ⟨b2, 0, none⟩), .pointer (some ⟨b3, 0, none⟩)] encS n₀ W0 (weeksL from_ to_ week fuel0 (from_ - from_ % 10080)) := by
  intro l B J Jx S0 W1 hB0 hnB hBW hS0 hJa hJxa hYd hJ0
  have hn0 : n₀ ≤ W1.heap.size := Nat.le_trans hn hB0.size
  have hB0r : Fr S0 S0 W1 W1 := Fr.refl fun k hk => (hS0 k hk).2
  have hLow : ∀ {S : List Nat} {W : World}, Fr S0 S W1 W → Below n₀ W1 W := fun h => h.lower (fun k hk => (hS0 k hk).1) hn0
  have hMem : ∀ {S : List Nat} {W : World}, Fr S0 S W1 W → ∀ k ∈ S, n₀ ≤ k ∧ k < W.heap.size := fun h k hk => ⟨h.low (fun k hk => (hS0 k hk).1) hn0 k hk, (h.own k hk).1⟩
  have low : ∀ (b : Nat) (o : Obj), b < n₀ → W0.heap[b]? = some o → ∀ W, Below n₀ W1 W → W.heap[b]? = some o := fun b o hb h W hW => by
    rw [hW.block b hb, hB0.block b hb]; exact h
  have boxes : ∀ {S : List Nat} (W : World), Fr S0 S W1 W → KS (W : World) [(b1, .cells #[.int .i64 from_] 3 (0, 0)), (b2, .cells #[.int .i64 to_] 3 (0, 0)), (b3, .cells #[.slice pw week.length capw] 22 (0, 0))] W := fun W hF => ⟨Below.refl _ _, List.forall_mem_cons.2 ⟨low _ _ hb1.1 hb1.2 W (hLow hF), List.forall_mem_cons.2 ⟨low _ _ hb2.1 hb2.2 W (hLow hF), List.forall_mem_cons.2 ⟨low _ _ hb3.1 hb3.2 W (hLow hF), List.forall_mem_nil _⟩⟩⟩⟩
  refine callsIn_of_wp Tryd.func82 rfl trivial ?_ rfl
  simp only [Tryd.ntmps82, List.size_toArray, List.length_cons, List.length_nil, Nat.reduceAdd, Nat.reduceSub, Array.replicate_succ, Array.replicate_zero, List.push_toArray, List.append_toArray, List.nil_append, List.cons_append]
  refine wpIn_seq ?_
  refine wp_region_LI (W0 := (W1 : World)) [(b1, .cells #[.int .i64 from_] 3 (0, 0)), (b2, .cells #[.int .i64 to_] 3 (0, 0)), (b3, .cells #[.slice pw week.length capw] 22 (0, 0))] (by kernel_rfl) ((boxes W1 hB0r)) ?_
  refine lv (v := .int .i64 from_) rfl rfl (yb_loadc (off := 0) rfl (by kernel_rfl) (.head _) Tryd.underlying3 rfl (by kernel_rfl)) ?_
  refine lv (v := .int .i64 from_) rfl rfl (yb_loadc (off := 0) rfl (by kernel_rfl) (.head _) Tryd.underlying3 rfl (by kernel_rfl)) ?_
  refine lp (v := .int .i64 (from_ % 10080)) rfl rfl (run_bin rfl (vx := .int .i64 from_) (vy := .int .i64 10080) (by kernel_rfl) (by kernel_rfl) fun w => run_remI rfl (by omega) (by omega) (by omega) w) ?_
  refine lp (v := .int .i64 (from_ - from_ % 10080)) rfl rfl (run_bin rfl (vx := .int .i64 from_) (vy := .int .i64 (from_ % 10080)) (by kernel_rfl) (by kernel_rfl) fun w => run_subI (z := (from_ - from_ % 10080)) rfl (by omega) w) ?_
  refine lm (v := .int .i64 (from_ - from_ % 10080)) rfl rfl ?_
  refine wpL_done (fun W2 hW2 => ?_)
  have hR2 : KS (W2 : World) [(b1, .cells #[.int .i64 from_] 3 (0, 0)), (b2, .cells #[.int .i64 to_] 3 (0, 0)), (b3, .cells #[.slice pw week.length capw] 22 (0, 0))] W2 := ⟨Below.refl _ _, hW2.2⟩
  obtain ⟨hJ2, hB2⟩ := abideF hJa hJ0 hB0r hW2
  refine (show Code.wpIn _ _ _ _ _ _ _ from ?_)
  refine wpIn_block ?_
  gi_loopw [5] (fun u wr => ∃ (mon : Int) (fuel : Nat) (pre : List (Int × Int)) (S : List Nat), (weeksL from_ to_ week fuel0 (from_ - from_ % 10080)) = pre ++ weeksL from_ to_ week fuel mon ∧ to_ - mon ≤ 10080 * fuel ∧ 0 ≤ mon ∧ mon ≤ 100010080 ∧ u = .int .i64 mon ∧ J pre S wr ∧ Fr S0 S W1 wr) (fun u _ => (to_ - intOf u).toNat)
  case atStart => exact ⟨_, fuel0, [], _, rfl, by omega, by omega, by omega, rfl, hJ2, hB2⟩
  case round =>
    obtain ⟨mon, fuel, pre, S, hxs, hfu, hmo0, hmo1, rfl, hJr, hBr⟩ := hrel
    by_cases hmt : mon < to_
    · obtain ⟨fuel, rfl⟩ : ∃ f, fuel = f + 1 := ⟨fuel - 1, by omega⟩
      rw [weeksL, if_pos hmt] at hxs
      refine wpIn_seq ?_
      refine wpIn_seq ?_
      refine wp_region_LI (W0 := (wr : World)) [(b1, .cells #[.int .i64 from_] 3 (0, 0)), (b2, .cells #[.int .i64 to_] 3 (0, 0)), (b3, .cells #[.slice pw week.length capw] 22 (0, 0))] (by kernel_rfl) ((boxes wr hBr)) ?_
      refine lm (v := .int .i64 mon) rfl rfl ?_
      refine lv (v := .int .i64 to_) rfl rfl (yb_loadc (off := 0) rfl (by kernel_rfl) (.tail _ (.head _)) Tryd.underlying3 rfl (by kernel_rfl)) ?_
      refine lp (v := .bool true) rfl rfl (run_bin rfl (vx := .int .i64 mon) (vy := .int .i64 to_) (by kernel_rfl) (by kernel_rfl) fun w => run_lssI (decide_eq_true hmt) w) ?_
      refine wpL_done (fun W3 hW3 => ?_)
      have hR3 : KS (W3 : World) [(b1, .cells #[.int .i64 from_] 3 (0, 0)), (b2, .cells #[.int .i64 to_] 3 (0, 0)), (b3, .cells #[.slice pw week.length capw] 22 (0, 0))] W3 := ⟨Below.refl _ _, hW3.2⟩
      obtain ⟨hJ3, hB3⟩ := abideF hJa hJr hBr hW3
      refine (show Code.wpIn _ _ _ _ _ _ _ from ?_)
      refine wpIn_cond_true rfl ?_
      refine wpIn_skip ?_
      refine (show Code.wpIn _ _ _ _ _ _ _ from ?_)
      refine wpIn_seq ?_
      refine wpIn_block ?_
      refine wpIn_seq ?_
      refine wp_region_LI (W0 := (W3 : World)) [(b1, .cells #[.int .i64 from_] 3 (0, 0)), (b2, .cells #[.int .i64 to_] 3 (0, 0)), (b3, .cells #[.slice pw week.length capw] 22 (0, 0))] (by kernel_rfl) (hR3) ?_
      refine lv (v := .slice pw week.length capw) rfl rfl (yb_loadc (off := 0) rfl (by kernel_rfl) (.tail _ (.tail _ (.head _))) Tryd.underlying22 rfl (by kernel_rfl)) ?_
      refine lm (v := .int .i64 (week.length : Int)) rfl rfl ?_
      refine lm (v := .int .i64 0) rfl rfl ?_
      refine wpL_done (fun W4 hW4 => ?_)
      have hR4 : KS (W4 : World) [(b1, .cells #[.int .i64 from_] 3 (0, 0)), (b2, .cells #[.int .i64 to_] 3 (0, 0)), (b3, .cells #[.slice pw week.length capw] 22 (0, 0))] W4 := ⟨Below.refl _ _, hW4.2⟩
      obtain ⟨hJ4, hB4⟩ := abideF hJa hJ3 hB3 hW4
      refine (show Code.wpIn _ _ _ _ _ _ _ from ?_)
      refine wpIn_block ?_
      gi_loopw [20] (fun u wr => ∃ (k : Nat) (pre : List (Int × Int)) (S : List Nat), (weeksL from_ to_ week fuel0 (from_ - from_ % 10080)) = pre ++ (weekPart from_ to_ mon (week.drop k) ++ weeksL from_ to_ week fuel (mon + 10080)) ∧ k ≤ week.length ∧ u = .int .i64 (k : Int) ∧ J pre S wr ∧ Fr S0 S W1 wr) (fun u _ => (week.length - intOf u).toNat)
      case atStart => exact ⟨0, pre, _, hxs, by omega, rfl, hJ4, hB4⟩
      case round =>
        obtain ⟨k, pre2, S2, hxs2, hk, rfl, hJs, hBs⟩ := hrel
        by_cases hkn : k < week.length
        · obtain ⟨⟨f, t⟩, hget⟩ : ∃ s, week[k]? = some s := ⟨_, List.getElem?_eq_getElem hkn⟩
          obtain ⟨bw, offw, hp, hbw, hcw⟩ := hAVw.2.resolve_left (fun e => by rw [e] at hkn; simp at hkn)
          have hcell1 : Cells W1 bw offw week := cells_low hcw hB0 hbw
          have hr := hwk k f t hget
          rw [part_drop hget] at hxs2
          by_cases he : min (mon + t) to_ ≤ max (mon + f) from_
          · have hem := fun W => empty_any (max (mon + f) from_) (min (mon + t) to_) W
            rw [decide_eq_true he] at hem
            refine wpIn_seq ?_
            refine wp_region_LI (W0 := _) [(b1, .cells #[.int .i64 from_] 3 (0, 0)), (b2, .cells #[.int .i64 to_] 3 (0, 0)), (b3, .cells #[.slice pw week.length capw] 22 (0, 0))] (by kernel_rfl) ((boxes _ hBs)) ?_
            refine lp (v := .bool true) rfl rfl (run_bin rfl (vx := .int .i64 (k : Int)) (vy := .int .i64 (week.length : Int)) (by kernel_rfl) (by kernel_rfl) fun w => run_lssI (decide_eq_true (by omega)) w) ?_
            refine wpL_done (fun W5 hW5 => ?_)
            have hR5 : KS (W5 : World) [(b1, .cells #[.int .i64 from_] 3 (0, 0)), (b2, .cells #[.int .i64 to_] 3 (0, 0)), (b3, .cells #[.slice pw week.length capw] 22 (0, 0))] W5 := ⟨Below.refl _ _, hW5.2⟩
            obtain ⟨hJ5, hB5⟩ := abideF hJa hJs hBs hW5
            refine (show Code.wpIn _ _ _ _ _ _ _ from ?_)
            refine wpIn_seq ?_
            refine wpIn_cond_true rfl ?_
            refine wpIn_skip ?_
            refine (show Code.wpIn _ _ _ _ _ _ _ from ?_)
            refine wpIn_seq ?_
            refine wpIn_block ?_
            refine wpIn_seq ?_
            have hcell := cells_low hcell1 (hLow hB5) hbw
            refine wp_region_LI (W0 := (W5 : World)) [(b1, .cells #[.int .i64 from_] 3 (0, 0)), (b2, .cells #[.int .i64 to_] 3 (0, 0)), (b3, .cells #[.slice pw week.length capw] 22 (0, 0))] (by kernel_rfl) (hR5) ?_
            refine lp (v := .pointer (some ⟨bw, offw + 2 * k, none⟩)) rfl rfl (run_idxp (b := bw) (off := offw) (n := week.length) (cap := capw) (k := k) rfl (by kernel_rfl) hp (by kernel_rfl) hkn) ?_
            refine lv (v := .agg #[.int .i64 f, .int .i64 t]) rfl rfl (yb_load2 rfl (by kernel_rfl) (hcell k (f, t) hget).1 (hcell k (f, t) hget).2 (World.block_lt_of_cell? _ _ (hcell k (f, t) hget).1)) ?_
            refine wpL_new (fun g => .pointer (some ⟨g, 0, none⟩)) (obi := .cells #[.int .i64 0, .int .i64 0] 41 (0, 0)) rfl rfl (fun _ => by kernel_rfl) (fun _ => by simp only [List.setIfInBounds_toArray, List.set_cons_succ, List.set_cons_zero] <;> rfl) fun g1 Bg1 Fg1 => ?_
            try simp only [List.forall_mem_cons] at Fg1
            refine wpL_s [(g1, .cells #[.int .i64 f, .int .i64 t] 41 (0, 0)), (b1, .cells #[.int .i64 from_] 3 (0, 0)), (b2, .cells #[.int .i64 to_] 3 (0, 0)), (b3, .cells #[.slice pw week.length capw] 22 (0, 0))] rfl rfl (st_span rfl (by kernel_rfl) (by kernel_rfl) (.head _) (by omega) (List.forall_mem_cons.2 ⟨.inl rfl, (List.forall_mem_cons.2 ⟨.inr ⟨(.tail _ (.head _)), Fg1.1⟩, (List.forall_mem_cons.2 ⟨.inr ⟨(.tail _ (.tail _ (.head _))), Fg1.2.1⟩, (List.forall_mem_cons.2 ⟨.inr ⟨(.tail _ (.tail _ (.tail _ (.head _)))), Fg1.2.2.1⟩, (List.forall_mem_nil _)⟩)⟩)⟩)⟩)) ?_
            refine wpL_done (fun W6 hW6 => ?_)
            have hR6 : KS (W6 : World) [(g1, .cells #[.int .i64 f, .int .i64 t] 41 (0, 0)), (b1, .cells #[.int .i64 from_] 3 (0, 0)), (b2, .cells #[.int .i64 to_] 3 (0, 0)), (b3, .cells #[.slice pw week.length capw] 22 (0, 0))] W6 := ⟨Below.refl _ _, hW6.2⟩
            obtain ⟨hJ6, hB6⟩ := abideF hJa hJ5 hB5 hW6
            refine (show Code.wpIn _ _ _ _ _ _ _ from ?_)
            refine wpIn_seq ?_
            refine wp_region_LI (W0 := (W6 : World)) [(g1, .cells #[.int .i64 f, .int .i64 t] 41 (0, 0)), (b1, .cells #[.int .i64 from_] 3 (0, 0)), (b2, .cells #[.int .i64 to_] 3 (0, 0)), (b3, .cells #[.slice pw week.length capw] 22 (0, 0))] (by kernel_rfl) (hR6) ?_
            refine lm (v := .int .i64 mon) rfl rfl ?_
            refine lm (v := .pointer (some ⟨g1, 0, none⟩)) rfl rfl ?_
            refine lv (v := .int .i64 f) rfl rfl (yb_loadc (off := 0) rfl (by kernel_rfl) (.head _) Tryd.underlying3 rfl (by kernel_rfl)) ?_
            refine lp (v := .int .i64 (mon + f)) rfl rfl (run_bin rfl (vx := .int .i64 mon) (vy := .int .i64 f) (by kernel_rfl) (by kernel_rfl) fun w => run_addI (z := (mon + f)) rfl (by omega) w) ?_
            refine lm (v := .int .i64 mon) rfl rfl ?_
            refine lm (v := .pointer (some ⟨g1, 1, none⟩)) rfl rfl ?_
            refine lv (v := .int .i64 t) rfl rfl (yb_loadc (off := 1) rfl (by kernel_rfl) (.head _) Tryd.underlying3 rfl (by kernel_rfl)) ?_
            refine lp (v := .int .i64 (mon + t)) rfl rfl (run_bin rfl (vx := .int .i64 mon) (vy := .int .i64 t) (by kernel_rfl) (by kernel_rfl) fun w => run_addI (z := (mon + t)) rfl (by omega) w) ?_
            refine lm (v := .agg #[.int .i64 (mon + f), .int .i64 (mon + t)]) rfl rfl ?_
            refine lv (v := .int .i64 from_) rfl rfl (yb_loadc (off := 0) rfl (by kernel_rfl) (.tail _ (.head _)) Tryd.underlying3 rfl (by kernel_rfl)) ?_
            refine lv (v := .int .i64 to_) rfl rfl (yb_loadc (off := 0) rfl (by kernel_rfl) (.tail _ (.tail _ (.head _))) Tryd.underlying3 rfl (by kernel_rfl)) ?_
            refine lm (v := .agg #[.int .i64 from_, .int .i64 to_]) rfl rfl ?_
            refine lv (v := .agg #[.int .i64 (max (mon + f) from_), .int .i64 (min (mon + t) to_)]) rfl rfl (yb_call (f := 59) (args := #[.agg #[.int .i64 (mon + f), .int .i64 (mon + t)], .agg #[.int .i64 from_, .int .i64 to_]]) (fun _ => by kernel_rfl) fun W hW => both_any (mon + f) (mon + t) from_ to_ W) ?_
            refine wpL_new (fun g => .pointer (some ⟨g, 0, none⟩)) (obi := .cells #[.int .i64 0, .int .i64 0] 41 (0, 0)) rfl rfl (fun _ => by kernel_rfl) (fun _ => by simp only [List.setIfInBounds_toArray, List.set_cons_succ, List.set_cons_zero] <;> rfl) fun g2 Bg2 Fg2 => ?_
            try simp only [List.forall_mem_cons] at Fg2
            refine wpL_s [(g2, .cells #[.int .i64 (max (mon + f) from_), .int .i64 (min (mon + t) to_)] 41 (0, 0)), (g1, .cells #[.int .i64 f, .int .i64 t] 41 (0, 0)), (b1, .cells #[.int .i64 from_] 3 (0, 0)), (b2, .cells #[.int .i64 to_] 3 (0, 0)), (b3, .cells #[.slice pw week.length capw] 22 (0, 0))] rfl rfl (st_span rfl (by kernel_rfl) (by kernel_rfl) (.head _) (by omega) (List.forall_mem_cons.2 ⟨.inl rfl, (List.forall_mem_cons.2 ⟨.inr ⟨(.tail _ (.head _)), Fg2.1⟩, (List.forall_mem_cons.2 ⟨.inr ⟨(.tail _ (.tail _ (.head _))), Fg2.2.1⟩, (List.forall_mem_cons.2 ⟨.inr ⟨(.tail _ (.tail _ (.tail _ (.head _)))), Fg2.2.2.1⟩, (List.forall_mem_cons.2 ⟨.inr ⟨(.tail _ (.tail _ (.tail _ (.tail _ (.head _))))), Fg2.2.2.2.1⟩, (List.forall_mem_nil _)⟩)⟩)⟩)⟩)⟩)) ?_
            refine wpL_done (fun W7 hW7 => ?_)
            have hR7 : KS (W7 : World) [(g2, .cells #[.int .i64 (max (mon + f) from_), .int .i64 (min (mon + t) to_)] 41 (0, 0)), (g1, .cells #[.int .i64 f, .int .i64 t] 41 (0, 0)), (b1, .cells #[.int .i64 from_] 3 (0, 0)), (b2, .cells #[.int .i64 to_] 3 (0, 0)), (b3, .cells #[.slice pw week.length capw] 22 (0, 0))] W7 := ⟨Below.refl _ _, hW7.2⟩
            obtain ⟨hJ7, hB7⟩ := abideF hJa hJ6 hB6 hW7
            refine (show Code.wpIn _ _ _ _ _ _ _ from ?_)
            refine wpIn_seq ?_
            refine wp_region_LI (W0 := (W7 : World)) [(g2, .cells #[.int .i64 (max (mon + f) from_), .int .i64 (min (mon + t) to_)] 41 (0, 0)), (g1, .cells #[.int .i64 f, .int .i64 t] 41 (0, 0)), (b1, .cells #[.int .i64 from_] 3 (0, 0)), (b2, .cells #[.int .i64 to_] 3 (0, 0)), (b3, .cells #[.slice pw week.length capw] 22 (0, 0))] (by kernel_rfl) (hR7) ?_
            refine lv (v := .agg #[.int .i64 (max (mon + f) from_), .int .i64 (min (mon + t) to_)]) rfl rfl (yb_load (n := 2) (off := 0) rfl (by kernel_rfl) (.head _) Tryd.underlying41 rfl size_span (by simp) (by kernel_rfl)) ?_
            refine lv (v := .bool true) rfl rfl (yb_call (f := 60) (args := #[.agg #[.int .i64 (max (mon + f) from_), .int .i64 (min (mon + t) to_)]]) (fun _ => by kernel_rfl) fun W hW => hem W) ?_
            refine lm (v := .bool false) rfl rfl ?_
            refine lm (v := .bool false) rfl rfl ?_
            refine ln rfl ?_
            refine ln rfl ?_
            refine ln rfl ?_
            refine ln rfl ?_
            refine lm (v := .bool false) rfl rfl ?_
            refine wpL_done (fun W8 hW8 => ?_)
            have hR8 : KS (W8 : World) [(g2, .cells #[.int .i64 (max (mon + f) from_), .int .i64 (min (mon + t) to_)] 41 (0, 0)), (g1, .cells #[.int .i64 f, .int .i64 t] 41 (0, 0)), (b1, .cells #[.int .i64 from_] 3 (0, 0)), (b2, .cells #[.int .i64 to_] 3 (0, 0)), (b3, .cells #[.slice pw week.length capw] 22 (0, 0))] W8 := ⟨Below.refl _ _, hW8.2⟩
            obtain ⟨hJ8, hB8⟩ := abideF hJa hJ7 hB7 hW8
            refine (show Code.wpIn _ _ _ _ _ _ _ from ?_)
            refine wpIn_cond_false rfl ?_
            refine wpIn_skip ?_
            refine (show Code.wpIn _ _ _ _ _ _ _ from ?_)
            refine wp_region_LI (W0 := (W8 : World)) [(g2, .cells #[.int .i64 (max (mon + f) from_), .int .i64 (min (mon + t) to_)] 41 (0, 0)), (g1, .cells #[.int .i64 f, .int .i64 t] 41 (0, 0)), (b1, .cells #[.int .i64 from_] 3 (0, 0)), (b2, .cells #[.int .i64 to_] 3 (0, 0)), (b3, .cells #[.slice pw week.length capw] 22 (0, 0))] (by kernel_rfl) (hR8) ?_
            refine lp (v := .int .i64 ((k + 1 : Nat) : Int)) rfl rfl (run_bin rfl (vx := .int .i64 (k : Int)) (vy := .int .i64 1) (by kernel_rfl) (by kernel_rfl) fun w => run_addI (z := ((k + 1 : Nat) : Int)) rfl (by omega) w) ?_
            refine lm (v := .int .i64 ((k + 1 : Nat) : Int)) rfl rfl ?_
            refine wpL_done (fun W9 hW9 => ?_)
            have hR9 : KS (W9 : World) [(g2, .cells #[.int .i64 (max (mon + f) from_), .int .i64 (min (mon + t) to_)] 41 (0, 0)), (g1, .cells #[.int .i64 f, .int .i64 t] 41 (0, 0)), (b1, .cells #[.int .i64 from_] 3 (0, 0)), (b2, .cells #[.int .i64 to_] 3 (0, 0)), (b3, .cells #[.slice pw week.length capw] 22 (0, 0))] W9 := ⟨Below.refl _ _, hW9.2⟩
            obtain ⟨hJ9, hB9⟩ := abideF hJa hJ8 hB8 hW9
            go_roundw
            case rel =>
              repeat apply Exists.intro
              exact ⟨⟨k + 1, pre2, _, by rw [hxs2, if_pos he]; simp, by omega, rfl, hJ9, hB9⟩, rfl⟩
            case measure => (show (week.length - intOf (.int .i64 ((k + 1 : Nat) : Int))).toNat < (week.length - intOf (.int .i64 (k : Int))).toNat); simp only [intOf]; omega
          · have hem := fun W => empty_any (max (mon + f) from_) (min (mon + t) to_) W
            rw [decide_eq_false he] at hem
            refine wpIn_seq ?_
            refine wp_region_LI (W0 := _) [(b1, .cells #[.int .i64 from_] 3 (0, 0)), (b2, .cells #[.int .i64 to_] 3 (0, 0)), (b3, .cells #[.slice pw week.length capw] 22 (0, 0))] (by kernel_rfl) ((boxes _ hBs)) ?_
            refine lp (v := .bool true) rfl rfl (run_bin rfl (vx := .int .i64 (k : Int)) (vy := .int .i64 (week.length : Int)) (by kernel_rfl) (by kernel_rfl) fun w => run_lssI (decide_eq_true (by omega)) w) ?_
            refine wpL_done (fun W5 hW5 => ?_)
            have hR5 : KS (W5 : World) [(b1, .cells #[.int .i64 from_] 3 (0, 0)), (b2, .cells #[.int .i64 to_] 3 (0, 0)), (b3, .cells #[.slice pw week.length capw] 22 (0, 0))] W5 := ⟨Below.refl _ _, hW5.2⟩
            obtain ⟨hJ5, hB5⟩ := abideF hJa hJs hBs hW5
            refine (show Code.wpIn _ _ _ _ _ _ _ from ?_)
            refine wpIn_seq ?_
            refine wpIn_cond_true rfl ?_
            refine wpIn_skip ?_
            refine (show Code.wpIn _ _ _ _ _ _ _ from ?_)
            refine wpIn_seq ?_
            refine wpIn_block ?_
            refine wpIn_seq ?_
            have hcell := cells_low hcell1 (hLow hB5) hbw
            refine wp_region_LI (W0 := (W5 : World)) [(b1, .cells #[.int .i64 from_] 3 (0, 0)), (b2, .cells #[.int .i64 to_] 3 (0, 0)), (b3, .cells #[.slice pw week.length capw] 22 (0, 0))] (by kernel_rfl) (hR5) ?_
            refine lp (v := .pointer (some ⟨bw, offw + 2 * k, none⟩)) rfl rfl (run_idxp (b := bw) (off := offw) (n := week.length) (cap := capw) (k := k) rfl (by kernel_rfl) hp (by kernel_rfl) hkn) ?_
            refine lv (v := .agg #[.int .i64 f, .int .i64 t]) rfl rfl (yb_load2 rfl (by kernel_rfl) (hcell k (f, t) hget).1 (hcell k (f, t) hget).2 (World.block_lt_of_cell? _ _ (hcell k (f, t) hget).1)) ?_
            refine wpL_new (fun g => .pointer (some ⟨g, 0, none⟩)) (obi := .cells #[.int .i64 0, .int .i64 0] 41 (0, 0)) rfl rfl (fun _ => by kernel_rfl) (fun _ => by simp only [List.setIfInBounds_toArray, List.set_cons_succ, List.set_cons_zero] <;> rfl) fun g1 Bg1 Fg1 => ?_
            try simp only [List.forall_mem_cons] at Fg1
            refine wpL_s [(g1, .cells #[.int .i64 f, .int .i64 t] 41 (0, 0)), (b1, .cells #[.int .i64 from_] 3 (0, 0)), (b2, .cells #[.int .i64 to_] 3 (0, 0)), (b3, .cells #[.slice pw week.length capw] 22 (0, 0))] rfl rfl (st_span rfl (by kernel_rfl) (by kernel_rfl) (.head _) (by omega) (List.forall_mem_cons.2 ⟨.inl rfl, (List.forall_mem_cons.2 ⟨.inr ⟨(.tail _ (.head _)), Fg1.1⟩, (List.forall_mem_cons.2 ⟨.inr ⟨(.tail _ (.tail _ (.head _))), Fg1.2.1⟩, (List.forall_mem_cons.2 ⟨.inr ⟨(.tail _ (.tail _ (.tail _ (.head _)))), Fg1.2.2.1⟩, (List.forall_mem_nil _)⟩)⟩)⟩)⟩)) ?_
            refine wpL_done (fun W6 hW6 => ?_)
            have hR6 : KS (W6 : World) [(g1, .cells #[.int .i64 f, .int .i64 t] 41 (0, 0)), (b1, .cells #[.int .i64 from_] 3 (0, 0)), (b2, .cells #[.int .i64 to_] 3 (0, 0)), (b3, .cells #[.slice pw week.length capw] 22 (0, 0))] W6 := ⟨Below.refl _ _, hW6.2⟩
            obtain ⟨hJ6, hB6⟩ := abideF hJa hJ5 hB5 hW6
            refine (show Code.wpIn _ _ _ _ _ _ _ from ?_)
            refine wpIn_seq ?_
            refine wp_region_LI (W0 := (W6 : World)) [(g1, .cells #[.int .i64 f, .int .i64 t] 41 (0, 0)), (b1, .cells #[.int .i64 from_] 3 (0, 0)), (b2, .cells #[.int .i64 to_] 3 (0, 0)), (b3, .cells #[.slice pw week.length capw] 22 (0, 0))] (by kernel_rfl) (hR6) ?_
            refine lm (v := .int .i64 mon) rfl rfl ?_
            refine lm (v := .pointer (some ⟨g1, 0, none⟩)) rfl rfl ?_
            refine lv (v := .int .i64 f) rfl rfl (yb_loadc (off := 0) rfl (by kernel_rfl) (.head _) Tryd.underlying3 rfl (by kernel_rfl)) ?_
            refine lp (v := .int .i64 (mon + f)) rfl rfl (run_bin rfl (vx := .int .i64 mon) (vy := .int .i64 f) (by kernel_rfl) (by kernel_rfl) fun w => run_addI (z := (mon + f)) rfl (by omega) w) ?_
            refine lm (v := .int .i64 mon) rfl rfl ?_
            refine lm (v := .pointer (some ⟨g1, 1, none⟩)) rfl rfl ?_
            refine lv (v := .int .i64 t) rfl rfl (yb_loadc (off := 1) rfl (by kernel_rfl) (.head _) Tryd.underlying3 rfl (by kernel_rfl)) ?_
            refine lp (v := .int .i64 (mon + t)) rfl rfl (run_bin rfl (vx := .int .i64 mon) (vy := .int .i64 t) (by kernel_rfl) (by kernel_rfl) fun w => run_addI (z := (mon + t)) rfl (by omega) w) ?_
            refine lm (v := .agg #[.int .i64 (mon + f), .int .i64 (mon + t)]) rfl rfl ?_
            refine lv (v := .int .i64 from_) rfl rfl (yb_loadc (off := 0) rfl (by kernel_rfl) (.tail _ (.head _)) Tryd.underlying3 rfl (by kernel_rfl)) ?_
            refine lv (v := .int .i64 to_) rfl rfl (yb_loadc (off := 0) rfl (by kernel_rfl) (.tail _ (.tail _ (.head _))) Tryd.underlying3 rfl (by kernel_rfl)) ?_
            refine lm (v := .agg #[.int .i64 from_, .int .i64 to_]) rfl rfl ?_
            refine lv (v := .agg #[.int .i64 (max (mon + f) from_), .int .i64 (min (mon + t) to_)]) rfl rfl (yb_call (f := 59) (args := #[.agg #[.int .i64 (mon + f), .int .i64 (mon + t)], .agg #[.int .i64 from_, .int .i64 to_]]) (fun _ => by kernel_rfl) fun W hW => both_any (mon + f) (mon + t) from_ to_ W) ?_
            refine wpL_new (fun g => .pointer (some ⟨g, 0, none⟩)) (obi := .cells #[.int .i64 0, .int .i64 0] 41 (0, 0)) rfl rfl (fun _ => by kernel_rfl) (fun _ => by simp only [List.setIfInBounds_toArray, List.set_cons_succ, List.set_cons_zero] <;> rfl) fun g2 Bg2 Fg2 => ?_
            try simp only [List.forall_mem_cons] at Fg2
            refine wpL_s [(g2, .cells #[.int .i64 (max (mon + f) from_), .int .i64 (min (mon + t) to_)] 41 (0, 0)), (g1, .cells #[.int .i64 f, .int .i64 t] 41 (0, 0)), (b1, .cells #[.int .i64 from_] 3 (0, 0)), (b2, .cells #[.int .i64 to_] 3 (0, 0)), (b3, .cells #[.slice pw week.length capw] 22 (0, 0))] rfl rfl (st_span rfl (by kernel_rfl) (by kernel_rfl) (.head _) (by omega) (List.forall_mem_cons.2 ⟨.inl rfl, (List.forall_mem_cons.2 ⟨.inr ⟨(.tail _ (.head _)), Fg2.1⟩, (List.forall_mem_cons.2 ⟨.inr ⟨(.tail _ (.tail _ (.head _))), Fg2.2.1⟩, (List.forall_mem_cons.2 ⟨.inr ⟨(.tail _ (.tail _ (.tail _ (.head _)))), Fg2.2.2.1⟩, (List.forall_mem_cons.2 ⟨.inr ⟨(.tail _ (.tail _ (.tail _ (.tail _ (.head _))))), Fg2.2.2.2.1⟩, (List.forall_mem_nil _)⟩)⟩)⟩)⟩)⟩)) ?_
            refine wpL_done (fun W7 hW7 => ?_)
            have hR7 : KS (W7 : World) [(g2, .cells #[.int .i64 (max (mon + f) from_), .int .i64 (min (mon + t) to_)] 41 (0, 0)), (g1, .cells #[.int .i64 f, .int .i64 t] 41 (0, 0)), (b1, .cells #[.int .i64 from_] 3 (0, 0)), (b2, .cells #[.int .i64 to_] 3 (0, 0)), (b3, .cells #[.slice pw week.length capw] 22 (0, 0))] W7 := ⟨Below.refl _ _, hW7.2⟩
            obtain ⟨hJ7, hB7⟩ := abideF hJa hJ6 hB6 hW7
            refine (show Code.wpIn _ _ _ _ _ _ _ from ?_)
            refine wpIn_seq ?_
            refine wp_region_S (W0 := (W7 : World)) (List.take 6 _) (List.drop 6 _) [(g2, .cells #[.int .i64 (max (mon + f) from_), .int .i64 (min (mon + t) to_)] 41 (0, 0)), (g1, .cells #[.int .i64 f, .int .i64 t] 41 (0, 0)), (b1, .cells #[.int .i64 from_] 3 (0, 0)), (b2, .cells #[.int .i64 to_] 3 (0, 0)), (b3, .cells #[.slice pw week.length capw] 22 (0, 0))] (List.take_append_drop 6 _).symm (by kernel_rfl) (hR7) ?_
            simp only [List.take_succ_cons, List.take_zero, List.drop_succ_cons, List.drop_zero]
            refine lv (v := .agg #[.int .i64 (max (mon + f) from_), .int .i64 (min (mon + t) to_)]) rfl rfl (yb_load (n := 2) (off := 0) rfl (by kernel_rfl) (.head _) Tryd.underlying41 rfl size_span (by simp) (by kernel_rfl)) ?_
            refine lv (v := .bool false) rfl rfl (yb_call (f := 60) (args := #[.agg #[.int .i64 (max (mon + f) from_), .int .i64 (min (mon + t) to_)]]) (fun _ => by kernel_rfl) fun W hW => hem W) ?_
            refine lm (v := .bool true) rfl rfl ?_
            refine lm (v := .bool true) rfl rfl ?_
            refine lm (v := .func (.yield l) #[] #[]) rfl rfl ?_
            refine lv (v := .agg #[.int .i64 (max (mon + f) from_), .int .i64 (min (mon + t) to_)]) rfl rfl (yb_load (n := 2) (off := 0) rfl (by kernel_rfl) (.head _) Tryd.underlying41 rfl size_span (by simp) (by kernel_rfl)) ?_
            refine wpL_done (fun W8 hW8 => ?_)
            have hR8 : KS (W8 : World) [(g2, .cells #[.int .i64 (max (mon + f) from_), .int .i64 (min (mon + t) to_)] 41 (0, 0)), (g1, .cells #[.int .i64 f, .int .i64 t] 41 (0, 0)), (b1, .cells #[.int .i64 from_] 3 (0, 0)), (b2, .cells #[.int .i64 to_] 3 (0, 0)), (b3, .cells #[.slice pw week.length capw] 22 (0, 0))] W8 := ⟨Below.refl _ _, hW8.2⟩
            obtain ⟨hJ8, hB8⟩ := abideF hJa hJ7 hB7 hW8
            refine (show wpListIn _ _ _ _ _ _ _ _ from ?_)
            have hYY := yieldF (m := 0) (r := none) (hYd pre2 ((max (mon + f) from_), (min (mon + t) to_)) _ W8 hJ8 (hMem hB8) (pre_of (rest := weekPart from_ to_ mon (week.drop (k + 1)) ++ weeksL from_ to_ week fuel (mon + 10080)) (by rw [hxs2, if_neg he]; simp)))
            refine wpl_yield rfl rfl (by kernel_rfl) (by kernel_rfl) (by kernel_rfl) rfl hYY (by simp only [List.setIfInBounds_toArray, List.set_cons_succ, List.set_cons_zero] <;> rfl) (by simp only [List.setIfInBounds_toArray, List.set_cons_succ, List.set_cons_zero] <;> rfl) (fun W9 hA9 => ?_) (fun W9 hX9 => ?_)
            · obtain ⟨Sy, hBy, hJy⟩ := hA9
              have hBy2 := hB8.trans hBy
              have hKy : KS (W9 : World) [(b1, .cells #[.int .i64 from_] 3 (0, 0)), (b2, .cells #[.int .i64 to_] 3 (0, 0)), (b3, .cells #[.slice pw week.length capw] 22 (0, 0))] W9 := boxes W9 hBy2
              refine wpl_rest (W0 := (W9 : World)) [(b1, .cells #[.int .i64 from_] 3 (0, 0)), (b2, .cells #[.int .i64 to_] 3 (0, 0)), (b3, .cells #[.slice pw week.length capw] 22 (0, 0))] (by kernel_rfl) (hKy) ?_
              refine lm (v := .bool false) rfl rfl ?_
              refine lm (v := .bool false) rfl rfl ?_
              refine wpL_done (fun W10 hW10 => ?_)
              have hR10 : KS (W10 : World) [(b1, .cells #[.int .i64 from_] 3 (0, 0)), (b2, .cells #[.int .i64 to_] 3 (0, 0)), (b3, .cells #[.slice pw week.length capw] 22 (0, 0))] W10 := ⟨Below.refl _ _, hW10.2⟩
              obtain ⟨hJ10, hB10⟩ := abideF hJa hJy hBy2 hW10
              refine (show Code.wpIn _ _ _ _ _ _ _ from ?_)
              refine wpIn_cond_false rfl ?_
              refine wpIn_skip ?_
              refine (show Code.wpIn _ _ _ _ _ _ _ from ?_)
              refine wp_region_LI (W0 := (W10 : World)) [(b1, .cells #[.int .i64 from_] 3 (0, 0)), (b2, .cells #[.int .i64 to_] 3 (0, 0)), (b3, .cells #[.slice pw week.length capw] 22 (0, 0))] (by kernel_rfl) (hR10) ?_
              refine lp (v := .int .i64 ((k + 1 : Nat) : Int)) rfl rfl (run_bin rfl (vx := .int .i64 (k : Int)) (vy := .int .i64 1) (by kernel_rfl) (by kernel_rfl) fun w => run_addI (z := ((k + 1 : Nat) : Int)) rfl (by omega) w) ?_
              refine lm (v := .int .i64 ((k + 1 : Nat) : Int)) rfl rfl ?_
              refine wpL_done (fun W11 hW11 => ?_)
              have hR11 : KS (W11 : World) [(b1, .cells #[.int .i64 from_] 3 (0, 0)), (b2, .cells #[.int .i64 to_] 3 (0, 0)), (b3, .cells #[.slice pw week.length capw] 22 (0, 0))] W11 := ⟨Below.refl _ _, hW11.2⟩
              obtain ⟨hJ11, hB11⟩ := abideF hJa hJ10 hB10 hW11
              go_roundw
              case rel =>
                repeat apply Exists.intro
                exact ⟨⟨k + 1, (pre2 ++ [((max (mon + f) from_), (min (mon + t) to_))]), _, by rw [hxs2, if_neg he]; simp, by omega, rfl, hJ11, hB11⟩, rfl⟩
              case measure => (show (week.length - intOf (.int .i64 ((k + 1 : Nat) : Int))).toNat < (week.length - intOf (.int .i64 (k : Int))).toNat); simp only [intOf]; omega
            · obtain ⟨Sy, hBy, hJy⟩ := hX9
              have hBy2 := hB8.trans hBy
              have hKy : KS (W9 : World) [] W9 := KS.start _
              refine wpl_rest (W0 := (W9 : World)) [] (by kernel_rfl) (hKy) ?_
              refine lm (v := .bool true) rfl rfl ?_
              refine lm (v := .bool true) rfl rfl ?_
              refine wpL_done (fun W10 hW10 => ?_)
              refine (show Code.wpIn _ _ _ _ _ _ _ from ?_)
              refine wpIn_cond_true rfl ?_
              refine wpIn_ret ?_
              try simp only [inBlock_ret, then_ret]
              refine bodyPost_ret (results_none rfl _ _ _) rfl ?_
              obtain ⟨hJz, hBz⟩ := abideF hJxa hJy hBy2 hW10
              exact ⟨⟨_, rfl⟩, _, hBz, .inr ⟨_, hJz⟩⟩
        · have hnil : weekPart from_ to_ mon (week.drop k) = [] := by rw [List.drop_eq_nil_of_le (by omega)]; rfl
          refine wpIn_seq ?_
          refine wp_region_LI (W0 := _) [(b1, .cells #[.int .i64 from_] 3 (0, 0)), (b2, .cells #[.int .i64 to_] 3 (0, 0)), (b3, .cells #[.slice pw week.length capw] 22 (0, 0))] (by kernel_rfl) ((boxes _ hBs)) ?_
          refine lp (v := .bool false) rfl rfl (run_bin rfl (vx := .int .i64 (k : Int)) (vy := .int .i64 (week.length : Int)) (by kernel_rfl) (by kernel_rfl) fun w => run_lssI (decide_eq_false (by omega)) w) ?_
          refine wpL_done (fun W5 hW5 => ?_)
          have hR5 : KS (W5 : World) [(b1, .cells #[.int .i64 from_] 3 (0, 0)), (b2, .cells #[.int .i64 to_] 3 (0, 0)), (b3, .cells #[.slice pw week.length capw] 22 (0, 0))] W5 := ⟨Below.refl _ _, hW5.2⟩
          obtain ⟨hJ5, hB5⟩ := abideF hJa hJs hBs hW5
          refine (show Code.wpIn _ _ _ _ _ _ _ from ?_)
          refine wpIn_seq ?_
          refine wpIn_cond_false rfl ?_
          refine wpIn_exit ?_
          refine (show Code.wpIn _ _ _ _ _ _ _ from ?_)
          refine wp_region_LI (W0 := (W5 : World)) [(b1, .cells #[.int .i64 from_] 3 (0, 0)), (b2, .cells #[.int .i64 to_] 3 (0, 0)), (b3, .cells #[.slice pw week.length capw] 22 (0, 0))] (by kernel_rfl) (hR5) ?_
          refine lm (v := .int .i64 mon) rfl rfl ?_
          refine lp (v := .int .i64 (mon + 10080)) rfl rfl (run_bin rfl (vx := .int .i64 mon) (vy := .int .i64 10080) (by kernel_rfl) (by kernel_rfl) fun w => run_addI (z := (mon + 10080)) rfl (by omega) w) ?_
          refine lm (v := .int .i64 (mon + 10080)) rfl rfl ?_
          refine wpL_done (fun W6 hW6 => ?_)
          have hR6 : KS (W6 : World) [(b1, .cells #[.int .i64 from_] 3 (0, 0)), (b2, .cells #[.int .i64 to_] 3 (0, 0)), (b3, .cells #[.slice pw week.length capw] 22 (0, 0))] W6 := ⟨Below.refl _ _, hW6.2⟩
          obtain ⟨hJ6, hB6⟩ := abideF hJa hJ5 hB5 hW6
          go_roundw
          case rel =>
            repeat apply Exists.intro
            exact ⟨⟨mon + 10080, fuel, pre2, _, by rw [hxs2, hnil]; rfl, by omega, by omega, by omega, rfl, hJ6, hB6⟩, rfl⟩
          case measure => (show (to_ - intOf (.int .i64 (mon + 10080))).toNat < (to_ - intOf (.int .i64 mon)).toNat); simp only [intOf]; omega
    · have hend : weeksL from_ to_ week fuel mon = [] := by cases fuel with | zero => rfl | succ f => rw [weeksL, if_neg hmt]
      rw [hend, List.append_nil] at hxs
      refine wpIn_seq ?_
      refine wpIn_seq ?_
      refine wp_region_LI (W0 := (wr : World)) [(b1, .cells #[.int .i64 from_] 3 (0, 0)), (b2, .cells #[.int .i64 to_] 3 (0, 0)), (b3, .cells #[.slice pw week.length capw] 22 (0, 0))] (by kernel_rfl) ((boxes wr hBr)) ?_
      refine lm (v := .int .i64 mon) rfl rfl ?_
      refine lv (v := .int .i64 to_) rfl rfl (yb_loadc (off := 0) rfl (by kernel_rfl) (.tail _ (.head _)) Tryd.underlying3 rfl (by kernel_rfl)) ?_
      refine lp (v := .bool false) rfl rfl (run_bin rfl (vx := .int .i64 mon) (vy := .int .i64 to_) (by kernel_rfl) (by kernel_rfl) fun w => run_lssI (decide_eq_false hmt) w) ?_
      refine wpL_done (fun W3 hW3 => ?_)
      have hR3 : KS (W3 : World) [(b1, .cells #[.int .i64 from_] 3 (0, 0)), (b2, .cells #[.int .i64 to_] 3 (0, 0)), (b3, .cells #[.slice pw week.length capw] 22 (0, 0))] W3 := ⟨Below.refl _ _, hW3.2⟩
      obtain ⟨hJ3, hB3⟩ := abideF hJa hJr hBr hW3
      refine (show Code.wpIn _ _ _ _ _ _ _ from ?_)
      refine wpIn_cond_false rfl ?_
      refine wpIn_exit ?_
      simp only [then_exit, inBlock_exit]
      refine bodyPost_end (results_none rfl _ _ _) rfl ?_
      exact ⟨⟨_, rfl⟩, _, hB3, .inl (hxs.symm ▸ hJ3)⟩
end Go.Proofs.YtjmcelgdjpdacaaDoor
/- Work of a function that owns the blocks of O, within what is not its own. Nothing of the program. -/
namespace Tw
open Go Go.RowKit Go.Proofs.YtjmcelgdjpdacaaDoor
structure Own (n₀ B : Nat) (R O So : List Nat) (Wr W : World) : Prop where
  fr : Fr R (O ++ So) Wr W
  apart : ∀ k ∈ O, B ≤ k ∧ k ∉ So
  lo : ∀ k ∈ So, n₀ ≤ k
  nB : n₀ ≤ B
  hB : B ≤ W.heap.size
  below : Below n₀ Wr W
section
variable {n₀ B : Nat} {R O O' So S2 : List Nat} {Wr W W' : World}
theorem Own.hn (h : Own n₀ B R O So Wr W) : n₀ ≤ W.heap.size := Nat.le_trans h.nB h.hB
theorem Own.ge (h : Own n₀ B R O So Wr W) {k : Nat} (hk : k ∈ O) : n₀ ≤ k := Nat.le_trans h.nB (h.apart k hk).1
theorem Own.lt (h : Own n₀ B R O So Wr W) {k : Nat} (hk : k ∈ O) : k < W.heap.size := (h.fr.own k (List.mem_append_left _ hk)).1
theorem Own.mem (h : Own n₀ B R O So Wr W) : ∀ k ∈ So, n₀ ≤ k ∧ k < W.heap.size := fun k hk => ⟨h.lo k hk, (h.fr.own k (List.mem_append_right _ hk)).1⟩
theorem Own.all (h : Own n₀ B R O So Wr W) : ∀ k ∈ O ++ So, n₀ ≤ k ∧ k < W.heap.size := fun k hk => ⟨(List.mem_append.1 hk).elim (fun hk => h.ge hk) (h.lo k), (h.fr.own k hk).1⟩
theorem Own.start (hS : ∀ k ∈ So, n₀ ≤ k ∧ k < W.heap.size) (nB : n₀ ≤ B) (hB : B ≤ W.heap.size) : Own n₀ B So [] So W W := ⟨Fr.refl fun k hk => (hS k hk).2, (fun _ h => by cases h), fun k hk => (hS k hk).1, nB, hB, Below.refl _ _⟩
theorem Own.work {β : Type} {J : β → List Nat → World → Prop} {s : β} {K : List (Nat × Obj)} {hn : n₀ ≤ W.heap.size} (hJa : Stab B J) (ho : Own n₀ B R O So Wr W) (hJ : J s So W) (h : KS (rnd W n₀ hn) K W') (hs : ∀ p ∈ oth W O, p ∈ K)
    (hO' : ∀ k ∈ O', k ∈ O ∨ (W.heap.size ≤ k ∧ k < W'.heap.size)) : Own n₀ B R O' So Wr W' ∧ J s So W' := by
  have h1 : Below n₀ W W' := h.1
  have h0 : Below 0 W W' := h1.mono (Nat.zero_le _)
  refine ⟨⟨ho.fr.trans ⟨h0, fun k hk hn => oth_kept h hs k hk (fun hm => hn (List.mem_append_left _ hm)), fun k hk => ?_⟩, fun k hk => ?_, ho.lo, ho.nB, Nat.le_trans ho.hB h0.size, ho.below.trans h1⟩, hJa _ _ _ _ hJ h0 (fun k hk hlt => oth_kept h hs k hlt (fun hm => ?_))⟩
  · rcases List.mem_append.1 hk with hk | hk
    · rcases hO' k hk with hm | ⟨h1, h2⟩
      · exact ⟨Nat.lt_of_lt_of_le (ho.lt hm) h0.size, .inl (List.mem_append_left _ hm)⟩
      · exact ⟨h2, .inr h1⟩
    · exact ⟨Nat.lt_of_lt_of_le (ho.mem k hk).2 h0.size, .inl (List.mem_append_right _ hk)⟩
  · rcases hO' k hk with hm | ⟨h1, h2⟩
    · exact ho.apart k hm
    · exact ⟨Nat.le_trans ho.hB h1, fun hm => by have := (ho.mem k hm).2; omega⟩
  · have := ho.apart k hm
    rcases hk with hk | hk
    · omega
    · exact this.2 hk
theorem Own.yielded (ho : Own n₀ B R O So Wr W) (hf : Fr So S2 W W') : Own n₀ B R O S2 Wr W' := by
  refine ⟨ho.fr.trans ⟨hf.below, fun k hk hn => hf.kept k hk (fun hm => hn (List.mem_append_right _ hm)), fun k hk => ?_⟩, fun k hk => ⟨(ho.apart k hk).1, fun hm => ?_⟩, hf.low ho.lo ho.hn, ho.nB, Nat.le_trans ho.hB hf.below.size, ho.below.trans (hf.lower ho.lo ho.hn)⟩
  · rcases List.mem_append.1 hk with hk | hk
    · exact ⟨Nat.lt_of_lt_of_le (ho.lt hk) hf.below.size, .inl (List.mem_append_left _ hk)⟩
    · exact ⟨(hf.own k hk).1, (hf.own k hk).2.imp (List.mem_append_right _) id⟩
  · rcases (hf.own k hm).2 with h | h
    · exact (ho.apart k hk).2 h
    · have := ho.lt hk; omega
theorem Own.kept {K : List (Nat × Obj)} (ho : Own n₀ B R O So Wr W) (hf : Fr So S2 W W') (hK : ∀ p ∈ K, W.heap[p.1]? = some p.2) (hp : ∀ p ∈ K, p.1 ∈ O ∨ p.1 < n₀) : ∀ p ∈ K, W'.heap[p.1]? = some p.2 := fun p h =>
  (hf.kept p.1 (lt_of_block (hK p h)) (fun hm => by
    rcases hp p h with h1 | h1
    · exact (ho.apart _ h1).2 hm
    · have := ho.lo _ hm; omega)).trans (hK p h)
theorem Own.put {β : Type} {J : β → List Nat → World → Prop} {s : β} {L : Nat} (o : Obj) (hJa : Stab B J) (ho : Own n₀ B R O So Wr W) (hJ : J s So W) (hL : L ∈ O) : Own n₀ B R O So Wr (W.putObj L o) ∧ J s So (W.putObj L o) := by
  refine ⟨⟨ho.fr.trans ⟨⟨rfl, rfl, rfl, by simp, fun k hk => by omega⟩, fun k hk hn => World.putObj_heap_other (fun e => hn (by rw [e]; exact List.mem_append_left _ hL)), fun k hk => ?_⟩, ho.apart, ho.lo, ho.nB, by rw [World.putObj_size]; exact ho.hB, ho.below.trans ⟨rfl, rfl, rfl, by simp, fun k hk => World.putObj_heap_other (fun e => by have := ho.ge hL; omega)⟩⟩, hJa.put o hJ (ho.apart L hL).1 (ho.apart L hL).2⟩
  rw [World.putObj_size]
  exact ⟨(ho.fr.own k hk).1, .inl hk⟩
theorem Own.fewer (ho : Own n₀ B R O So Wr W) (h : ∀ k ∈ O', k ∈ O) : Own n₀ B R O' So Wr W := by
  refine ⟨⟨ho.fr.below, ho.fr.kept, fun k hk => ho.fr.own k ?_⟩, fun k hk => ho.apart k (h k hk), ho.lo, ho.nB, ho.hB, ho.below⟩
  rcases List.mem_append.1 hk with hk | hk
  · exact List.mem_append_left _ (h k hk)
  · exact List.mem_append_right _ hk
theorem oth_own {O : List Nat} {g : Nat} (h : g ∈ O) : ∀ p ∈ oth W O, p.1 ≠ g := oth_ne h
theorem new_oth {g : Nat} (h : ∀ p ∈ oth W O, p.1 ≠ g) (hO : ∀ k ∈ O, k ≠ g) : W.heap.size ≤ g := by
  by_cases hl : g < W.heap.size
  · exact (h (g, W.heap[g]) (oth_mem.2 ⟨Array.getElem?_eq_getElem hl, fun hm => hO g hm rfl⟩) rfl).elim
  · omega
theorem round_end {α : Type} {I Ix : List α → List Nat → World → Prop} {S1 : List Nat} {L : Nat} {o : Obj} {ys : List α} {a : Act} (ho : Own n₀ B (L :: S1) (L :: O) So Wr W) (hl : W.heap[L]? = some o) (hL : L ∉ O) (hI : I ys (O ++ So) W) : roundQ I Ix S1 Wr L o ys .normal a W := by
  have hL2 : L ∉ O ++ So := fun hm => by
    rcases List.mem_append.1 hm with hm | hm
    · exact hL hm
    · exact (ho.apart L (.head _)).2 hm
  refine ⟨hl, ho.fr.below, O ++ So, fun k hk h1 h2 => ho.fr.kept k hk (fun hm => by rcases List.mem_cons.1 hm with rfl | hm; exact h2 rfl; exact h1 hm), fun k hk => ⟨(ho.fr.own k (.tail _ hk)).1, ?_⟩, hI⟩
  rcases (ho.fr.own k (.tail _ hk)).2 with hm | hm
  · rcases List.mem_cons.1 hm with rfl | hm
    · exact (hL2 hk).elim
    · exact .inl hm
  · exact .inr hm
theorem round_stop {α : Type} {I Ix : List α → List Nat → World → Prop} {S1 : List Nat} {L : Nat} {o : Obj} {ys : List α} {a : Act} (ho : Own n₀ B (L :: S1) (L :: O) So Wr W) (hl : W.heap[L]? = some o) (hL : L ∉ O) (hI : Ix ys (O ++ So) W) : roundQ I Ix S1 Wr L o ys .ret a W :=
  round_end (I := Ix) (Ix := Ix) (a := a) ho hl hL hI
theorem Own.finish {S0 : List Nat} {W1 W3 : World} {D : Nat} (o : Obj) (ho : Own n₀ B S0 O S0 W1 W3) (hF : Fr (O ++ S0) (O ++ So) W3 W) (hD : W3.heap.size ≤ D) : Fr S0 So W1 (W.putObj D o) := by
  have hf := ho.fr.trans hF
  have h3 := ho.fr.below.size
  refine ⟨⟨hf.below.os, hf.below.tape, hf.below.output, by rw [World.putObj_size]; exact hf.below.size, fun k hk => by omega⟩, fun k hk hn => (World.putObj_heap_other (by omega)).trans (hf.kept k hk hn), fun k hk => ?_⟩
  rw [World.putObj_size]
  exact hf.own k (List.mem_append_right _ hk)
end
end Tw
namespace Go.Proofs.YtjmcelgdjpdacaaDoor
open Go.RowKit Tw
open Go
def skipL (x : Int) : List (Int × Int) → List (Int × Int)
  | [] => []
  | c :: l => if c.2 ≤ x then skipL x l else c :: l
def lastL (f t : Int) : List (Int × Int) := if t ≤ f then [] else [(f, t)]
def cutL (t : Int) : Int → List (Int × Int) → List (Int × Int)
  | f, [] => lastL f t
  | f, c :: l => if t ≤ c.1 then lastL f t else (if f < c.1 then [(f, c.1)] else []) ++ cutL t c.2 l
def withoutL : List (Int × Int) → List (Int × Int) → List (Int × Int)
  | _, [] => []
  | ls, x :: xs => cutL x.2 x.1 (skipL x.1 ls) ++ withoutL (skipL x.1 ls) xs
theorem cut_drop {l : List (Int × Int)} {k : Nat} {cf ct f t : Int} (h : l[k]? = some (cf, ct)) : cutL t f (l.drop k) = if t ≤ cf then lastL f t else (if f < cf then [(f, cf)] else []) ++ cutL t ct (l.drop (k + 1)) := by
  rw [drop_get h]; rfl
theorem skip_get {l : List (Int × Int)} {cf ct x : Int} (h : l[0]? = some (cf, ct)) : skipL x l = if ct ≤ x then skipL x (l.drop 1) else l := by
  cases l with
  | nil => simp at h
  | cons a l =>
    simp only [List.getElem?_cons_zero, Option.some.injEq] at h
    subst h
    rfl
theorem AV.tail {W1 : World} {n₀ : Nat} {ls : List (Int × Int)} {p : Option Addr} {cap : Nat} (h : AV W1 n₀ ls p cap) (hl : 0 < ls.length) : AV W1 n₀ (ls.drop 1) (if cap = 1 then p else p.map (·.add (1 * 2))) (cap - 1) := by
  obtain ⟨h1, h2⟩ := h
  refine ⟨by rw [List.length_drop]; omega, ?_⟩
  rcases h2 with rfl | ⟨b, off, rfl, hb, hc⟩
  · exact .inl rfl
  · by_cases hcap : cap = 1
    · refine .inl (List.eq_nil_of_length_eq_zero ?_)
      rw [List.length_drop]; omega
    · refine .inr ⟨b, off + 2, ?_, hb, fun i s hs => ?_⟩
      · rw [if_neg hcap]; rfl
      · rw [List.getElem?_drop] at hs
        have := hc _ _ hs
        rw [show off + 2 + 2 * i = off + 2 * (1 + i) from by omega, show off + 2 * (1 + i) + 1 = off + 2 * (1 + i) + 1 from rfl]
        exact this
set_option maxRecDepth 100000 in
theorem run_tl {o : Oper} {a : Act} {p : Option Addr} {n cap : Nat} {px : Operand} (ho : o.op = .slice 22 px (some (.const (.int .i64 1))) none none) (hx : a.eval px = .slice p n cap) (hk : 0 < n) (w : World) : (execOp a.eval o).run Tryd.prog w = .ok (.value (.slice (if cap = 1 then p else p.map (·.add (1 * 2))) (n - 1) (cap - 1))) w := by
  have h := run_slice_l (P := Tryd.prog) (w := w) 22 p n cap Tryd.underlying22 .i64 1 (by omega) (by omega)
  have hs : (sizeOf (Tryd.prog.elem 22)).run Tryd.prog w = .ok 2 w := by kernel_rfl
  rw [hs] at h
  have h2 : (Instr.sliceAt 22 (.slice p n cap) (some (.int .i64 1)) none none).run Tryd.prog w = .ok (.slice (if cap = 1 then p else p.map (·.add (1 * 2))) (n - 1) (cap - 1)) w := by
    rw [run_sliceAt_slice (t := 22) (h := Tryd.underlying22), h]
    rfl
  unfold execOp
  rw [ho]
  simp only [hx, Option.map_some, Option.map_none, show a.eval (.const (.int .i64 1)) = .int .i64 1 from rfl, Sem.run_bind, h2, Result.andThen_ok, Sem.run_pure]
theorem yb_load1 {P : Program} {W0 : Base} {o : Oper} {a : Act} {K : List (Nat × Obj)} {ty : TypeId} {x : Operand} {b off : Nat} {v : Value} {d : TypeDesc} (ho : o.op = .load ty x) (hx : a.eval x = .pointer (some ⟨b, off, none⟩))
    (hf : W0.w.cell? ⟨b, off, none⟩ = some v) (hlt : b < W0.B) (hu : P.underlying ty = some d) (hd : aggD d = false) :
    ∀ w, KS W0 K w → ∀ K' : Act → World → Prop, (∀ w', Below w.heap.size w w' → K' (a.put o.dst v) w') → Oper.wp P o a w K' (fun _ _ _ => False) := by
  intro w hw K' hk
  have hc : w.cell? ⟨b, off, none⟩ = some v := by rw [hw.1.cell (p := ⟨b, off, none⟩) hlt]; exact hf
  have hagg : (isAgg ty).run P w = .ok false w := by
    unfold isAgg
    rw [Sem.run_bind, run_underlying hu w]
    unfold aggD at hd
    cases d <;> simp_all
  have hr : (loadVar ty ⟨b, off, none⟩).run P w = .ok v w := by simp [loadVar, Sem.run_bind, hagg, hc]
  unfold Oper.wp
  have he : (execOp a.eval o).run P w = .ok (.value v) w := by
    unfold execOp
    rw [ho]
    simp only [hx, Instr.loadAt, Instr.sureAddr, Sem.run_bind, Sem.run_pure, Result.andThen_ok, hr]
  rw [he]
  exact hk w (Below.refl _ _)
def lenAt (W : World) (g : Nat) : Nat := match W.heap[g]? with
  | some (.cells cs _ _) => (match cs[0]? with | some (Value.slice _ n _) => n | _ => 0)
  | _ => 0
theorem lenAt_of {W : World} {g : Nat} {p : Option Addr} {n c : Nat} {t : TypeId} {o : Nat × Nat} (h : W.heap[g]? = some (.cells #[.slice p n c] t o)) : lenAt W g = n := by
  unfold lenAt
  rw [h]
  rfl
def WI (J : List (Int × Int) → List Nat → World → Prop) (n₀ g1 g2 l : Nat) (W1 : World) (closed xs : List (Int × Int)) (pre : List (Int × Int)) (S : List Nat) (W : World) : Prop :=
  ∃ (So : List Nat) (os ls : List (Int × Int)) (p : Option Addr) (cap : Nat), S = g2 :: g1 :: So ∧ withoutL closed xs = os ++ withoutL ls (xs.drop pre.length) ∧ ls.length ≤ 1000 ∧ J os So W ∧ AV W1 n₀ ls p cap ∧ Below n₀ W1 W ∧ g2 ∉ So ∧ g1 ∉ So ∧ (∀ k ∈ So, n₀ ≤ k) ∧
    W.heap[g2]? = some (.cells #[.slice p ls.length cap] 22 (0, 0)) ∧ W.heap[g1]? = some (.cells #[.func (.yield l) #[] #[]] 95 (0, 0))
def WX (Jx : List (Int × Int) → List Nat → World → Prop) (g1 g2 : Nat) (_ : List (Int × Int)) (S : List Nat) (W : World) : Prop := ∃ (So : List Nat) (os : List (Int × Int)), S = g2 :: g1 :: So ∧ Jx os So W
theorem below_stab {n₀ B : Nat} {S : List Nat} {W1 W W' : World} (h : Below n₀ W1 W) (hB : n₀ ≤ B) (hb : Below 0 W W') (hn : n₀ ≤ W1.heap.size) (hk : ∀ k, (k < B ∨ k ∈ S) → k < W.heap.size → W'.heap[k]? = W.heap[k]?) : Below n₀ W1 W' :=
  ⟨hb.os.trans h.os, hb.tape.trans h.tape, hb.output.trans h.output, Nat.le_trans h.size hb.size, fun k hk' => (hk k (.inl (by omega)) (by have := h.size; omega)).trans (h.block k hk')⟩
theorem wi_stab {J : List (Int × Int) → List Nat → World → Prop} {n₀ B g1 g2 l : Nat} {W1 : World} {closed xs : List (Int × Int)} (hJ : Stab B J) (hB : n₀ ≤ B) (hn : n₀ ≤ W1.heap.size) : Stab B (WI J n₀ g1 g2 l W1 closed xs) := by
  rintro pre S W W' ⟨So, os, ls, p, cap, rfl, h1, h2, h3, h4, h5, h6, h7, h8, h9, h10⟩ hb hk
  exact ⟨So, os, ls, p, cap, rfl, h1, h2, hJ _ _ _ _ h3 hb (fun k hk' => hk k (hk'.imp id (fun h => .tail _ (.tail _ h)))), h4, below_stab h5 hB hb hn hk, h6, h7, h8, (hk _ (.inr (.head _)) (lt_of_block h9)).trans h9, (hk _ (.inr (.tail _ (.head _))) (lt_of_block h10)).trans h10⟩
theorem wx_stab {Jx : List (Int × Int) → List Nat → World → Prop} {B g1 g2 : Nat} (hJ : Stab B Jx) : Stab B (WX Jx g1 g2) := by
  rintro pre S W W' ⟨So, os, rfl, h3⟩ hb hk
  exact ⟨So, os, rfl, hJ _ _ _ _ h3 hb (fun k hk' => hk k (hk'.imp id (fun h => .tail _ (.tail _ h))))⟩
end Go.Proofs.YtjmcelgdjpdacaaDoor
