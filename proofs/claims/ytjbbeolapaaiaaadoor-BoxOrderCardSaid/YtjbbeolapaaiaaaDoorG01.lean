import Derived.Test.YtjbbeolapaaiaaaDoorG00
/- Part of the proof: Q3, HB, HC, HA, HD. -/
set_option linter.unusedVariables false
set_option linter.unusedSimpArgs false
set_option linter.unusedSectionVars false
namespace Go.Proofs.YtjbbeolapaaiaaaDoor
open Go Go.RowKit Tw
theorem fit_len {l : List UInt8} {n : Nat} (h : fitB l n = true) : l.length = n := by unfold fitB at h; simp at h; exact h.1
theorem fit_fit {l : List UInt8} {n : Nat} (h : fitB l n = true) : fitF 0 l = true := by unfold fitB at h; simp at h; exact h.2
def rangeV (a b : Nat) : Value := .func (.func 75) #[] #[.pointer (some ⟨a, 0, none⟩), .pointer (some ⟨b, 0, none⟩)]
def catV : Value := .func (.func 76) #[] #[]
def placeAt (a b c d k : Nat) : Value := if k < 3 then rangeV a b else if k = 3 then catV else rangeV c d
def placesV (a b c d : Nat) : Array Value := #[rangeV a b, rangeV a b, rangeV a b, catV, rangeV c d, rangeV c d, rangeV c d, rangeV c d, rangeV c d, rangeV c d, rangeV c d]
theorem places_get {a b c d k : Nat} (h : k < 11) : (placesV a b c d)[0 + k * 1]? = some (placeAt a b c d k) := by
  rcases k with _ | _ | _ | _ | _ | _ | _ | _ | _ | _ | _ | k
  all_goals first | rfl | omega
theorem places_get0 {a b c d k : Nat} (h : k < 11) : (placesV a b c d)[k]? = some (placeAt a b c d k) := by
  rcases k with _ | _ | _ | _ | _ | _ | _ | _ | _ | _ | _ | k
  all_goals first | rfl | omega
def plK (a b c d : Nat) (K : List (Nat × Obj)) : List (Nat × Obj) := (d, .cells #[.int .u8 57] 5 (0, 0)) :: (c, .cells #[.int .u8 48] 5 (0, 0)) :: (b, .cells #[.int .u8 90] 5 (0, 0)) :: (a, .cells #[.int .u8 65] 5 (0, 0)) :: K
set_option maxRecDepth 100000 in
set_option maxHeartbeats 4000000 in
theorem between_in (b : UInt8) (x y : Nat) (p q : Nat) (w : World) (hp : w.cell? ⟨p, 0, none⟩ = some (.int .u8 ((x : Nat) : Int))) (hq : w.cell? ⟨q, 0, none⟩ = some (.int .u8 ((y : Nat) : Int))) :
    Calls Tryd.prog 75 #[.int .u8 ((b.toNat : Nat) : Int), .pointer (some ⟨p, 0, none⟩), .pointer (some ⟨q, 0, none⟩)] w fun e w' => e = .returned (.bool (decide (x ≤ b.toNat) && decide (b.toNat ≤ y))) ∧ Below w.heap.size w w' := by
  have HP := Lib.hid hp
  have HQ := Lib.hid hq
  have ltp := World.block_lt_of_cell? _ _ hp
  have ltq := World.block_lt_of_cell? _ _ hq
  clear hp hq
  go_enter Tryd.func75, Tryd.ntmps75
  refine wp_seq ?_
  refine wp_region_L (W0 := w) [] (KS.start w) ?_
  refine lm (v := .bool false) rfl rfl ?_
  refine wpL_done (fun W1 hW1 => ?_)
  refine (show Code.wp _ _ _ _ _ from ?_)
  refine wp_seq ?_
  refine wp_region_L (W0 := w) [] (hW1) ?_
  refine lv (v := .int .u8 ((x : Nat) : Int)) rfl rfl (yb_old (off := 0) rfl (by kernel_rfl) HP.out ltp Tryd.underlying5 rfl) ?_
  refine lm (v := .int .u8 ((b.toNat : Nat) : Int)) rfl rfl ?_
  refine lp (v := .bool (!(decide (b.toNat < x)))) rfl rfl (run_bin rfl (vx := (.int .u8 ((x : Nat) : Int))) (vy := (.int .u8 ((b.toNat : Nat) : Int))) (by kernel_rfl) (by kernel_rfl) fun w => bn_leq rfl w) ?_
  refine lm (v := .bool (!(decide (b.toNat < x)))) rfl rfl ?_
  cases hd1 : (decide (b.toNat < x)) with
  | false =>
    have h1 : ¬ (b.toNat < x) := of_decide_eq_false hd1
    clear hd1
    refine lm (v := .int .u8 ((b.toNat : Nat) : Int)) rfl rfl ?_
    refine lv (v := .int .u8 ((y : Nat) : Int)) rfl rfl (yb_old (off := 0) rfl (by kernel_rfl) HQ.out ltq Tryd.underlying5 rfl) ?_
    refine lp (v := .bool (!(decide (y < b.toNat)))) rfl rfl (run_bin rfl (vx := (.int .u8 ((b.toNat : Nat) : Int))) (vy := (.int .u8 ((y : Nat) : Int))) (by kernel_rfl) (by kernel_rfl) fun w => bn_leq rfl w) ?_
    refine lm (v := .bool (!(decide (y < b.toNat)))) rfl rfl ?_
    refine lm (v := .bool (!(decide (y < b.toNat)))) rfl rfl ?_
    refine wpL_done (fun W2 hW2 => ?_)
    refine (show Code.wp _ _ _ _ _ from ?_)
    refine wp_ret ?_
    try simp only [inBlock_ret, then_ret]
    refine bodyPost_ret (v := .bool (!(decide (y < b.toNat)))) ?_ rfl ?_
    · kernel_rfl
    · exact ⟨(bool_is (by rw [Bool.eq_iff_iff]; simp <;> omega)), hW2.1⟩
  | true =>
    have h1 : b.toNat < x := of_decide_eq_true hd1
    clear hd1
    refine ln rfl ?_
    refine ln rfl ?_
    refine ln rfl ?_
    refine lm (v := .bool false) rfl rfl ?_
    refine lm (v := .bool false) rfl rfl ?_
    refine wpL_done (fun W3 hW3 => ?_)
    refine (show Code.wp _ _ _ _ _ from ?_)
    refine wp_ret ?_
    try simp only [inBlock_ret, then_ret]
    refine bodyPost_ret (v := .bool false) ?_ rfl ?_
    · kernel_rfl
    · exact ⟨(bool_is (by rw [Bool.eq_iff_iff]; simp <;> omega)), hW3.1⟩
set_option maxRecDepth 100000 in
set_option maxHeartbeats 4000000 in
theorem cat_any (b : UInt8) (w : World) : Calls Tryd.prog 76 #[.int .u8 ((b.toNat : Nat) : Int)] w fun e w' => e = .returned (.bool (isCat b)) ∧ Below w.heap.size w w' := by
  go_enter Tryd.func76, Tryd.ntmps76
  refine wp_seq ?_
  refine wp_region_L (W0 := w) [] (KS.start w) ?_
  refine lm (v := .bool false) rfl rfl ?_
  refine wpL_done (fun W1 hW1 => ?_)
  refine (show Code.wp _ _ _ _ _ from ?_)
  refine wp_seq ?_
  refine wp_region_L (W0 := w) [] (hW1) ?_
  refine lm (v := .int .u8 ((b.toNat : Nat) : Int)) rfl rfl ?_
  refine lp (v := .bool (decide (b.toNat = 85))) rfl rfl (run_bin rfl (vx := (.int .u8 ((b.toNat : Nat) : Int))) (vy := (.int .u8 ((85 : Nat) : Int))) (by kernel_rfl) (by kernel_rfl) fun w => bn_eql rfl w) ?_
  refine lm (v := .bool (decide (b.toNat = 85))) rfl rfl ?_
  cases hd1 : (decide (b.toNat = 85)) with
  | false =>
    have h1 : ¬ (b.toNat = 85) := of_decide_eq_false hd1
    clear hd1
    refine lm (v := .int .u8 ((b.toNat : Nat) : Int)) rfl rfl ?_
    refine lp (v := .bool (decide (b.toNat = 74))) rfl rfl (run_bin rfl (vx := (.int .u8 ((b.toNat : Nat) : Int))) (vy := (.int .u8 ((74 : Nat) : Int))) (by kernel_rfl) (by kernel_rfl) fun w => bn_eql rfl w) ?_
    refine lm (v := .bool (decide (b.toNat = 74))) rfl rfl ?_
    refine lm (v := .bool (decide (b.toNat = 74))) rfl rfl ?_
    cases hd2 : (decide (b.toNat = 74)) with
    | false =>
      have h2 : ¬ (b.toNat = 74) := of_decide_eq_false hd2
      clear hd2
      refine lm (v := .int .u8 ((b.toNat : Nat) : Int)) rfl rfl ?_
      refine lp (v := .bool (decide (b.toNat = 90))) rfl rfl (run_bin rfl (vx := (.int .u8 ((b.toNat : Nat) : Int))) (vy := (.int .u8 ((90 : Nat) : Int))) (by kernel_rfl) (by kernel_rfl) fun w => bn_eql rfl w) ?_
      refine lm (v := .bool (decide (b.toNat = 90))) rfl rfl ?_
      refine lm (v := .bool (decide (b.toNat = 90))) rfl rfl ?_
      refine wpL_done (fun W2 hW2 => ?_)
      refine (show Code.wp _ _ _ _ _ from ?_)
      refine wp_ret ?_
      try simp only [inBlock_ret, then_ret]
      refine bodyPost_ret (v := .bool (decide (b.toNat = 90))) ?_ rfl ?_
      · kernel_rfl
      · exact ⟨(bool_is (by unfold isCat; simp [*])), hW2.1⟩
    | true =>
      have h2 : b.toNat = 74 := of_decide_eq_true hd2
      clear hd2
      refine ln rfl ?_
      refine ln rfl ?_
      refine lm (v := .bool true) rfl rfl ?_
      refine lm (v := .bool true) rfl rfl ?_
      refine wpL_done (fun W3 hW3 => ?_)
      refine (show Code.wp _ _ _ _ _ from ?_)
      refine wp_ret ?_
      try simp only [inBlock_ret, then_ret]
      refine bodyPost_ret (v := .bool true) ?_ rfl ?_
      · kernel_rfl
      · exact ⟨(bool_is (by unfold isCat; simp [*])), hW3.1⟩
  | true =>
    have h1 : b.toNat = 85 := of_decide_eq_true hd1
    clear hd1
    refine ln rfl ?_
    refine ln rfl ?_
    refine lm (v := .bool true) rfl rfl ?_
    refine lm (v := .bool true) rfl rfl ?_
    refine ln rfl ?_
    refine ln rfl ?_
    refine lm (v := .bool true) rfl rfl ?_
    refine lm (v := .bool true) rfl rfl ?_
    refine wpL_done (fun W4 hW4 => ?_)
    refine (show Code.wp _ _ _ _ _ from ?_)
    refine wp_ret ?_
    try simp only [inBlock_ret, then_ret]
    refine bodyPost_ret (v := .bool true) ?_ rfl ?_
    · kernel_rfl
    · exact ⟨(bool_is (by unfold isCat; simp [*])), hW4.1⟩
set_option maxRecDepth 100000 in
set_option maxHeartbeats 4000000 in
theorem between_any (x y : Int) (w : World) : Calls Tryd.prog 74 #[.int .u8 x, .int .u8 y] w fun e w' => ∃ a b, e = .returned (rangeV a b) ∧ w.heap.size ≤ a ∧ w.heap.size ≤ b ∧ w'.heap[a]? = some (.cells #[.int .u8 x] 5 (0, 0)) ∧ w'.heap[b]? = some (.cells #[.int .u8 y] 5 (0, 0)) ∧ Below w.heap.size w w' := by
  go_enter Tryd.func74, Tryd.ntmps74
  refine wp_seq ?_
  refine wp_region_L (W0 := w) [] (KS.start w) ?_
  refine wpL_new (fun g => .pointer (some ⟨g, 0, none⟩)) (obi := .cells #[.int .u8 x] 5 (0, 0)) rfl rfl (fun _ => by kernel_rfl) (fun _ => by simp only [List.setIfInBounds_toArray, List.set_cons_succ, List.set_cons_zero] <;> rfl) fun g1 Bg1 Fg1 => ?_
  refine wpL_new (fun g => .pointer (some ⟨g, 0, none⟩)) (obi := .cells #[.int .u8 y] 5 (0, 0)) rfl rfl (fun _ => by kernel_rfl) (fun _ => by simp only [List.setIfInBounds_toArray, List.set_cons_succ, List.set_cons_zero] <;> rfl) fun g2 Bg2 Fg2 => ?_
  refine lm (v := .nilFunc) rfl rfl ?_
  refine wpL_done (fun W1 hW1 => ?_)
  refine (show Code.wp _ _ _ _ _ from ?_)
  refine wp_seq ?_
  refine wp_region_L (W0 := w) [(g2, .cells #[.int .u8 y] 5 (0, 0)), (g1, .cells #[.int .u8 x] 5 (0, 0))] (hW1) ?_
  refine lm (v := .func (.func 75) #[] #[.pointer (some ⟨g1, 0, none⟩), .pointer (some ⟨g2, 0, none⟩)]) rfl rfl ?_
  refine lm (v := .func (.func 75) #[] #[.pointer (some ⟨g1, 0, none⟩), .pointer (some ⟨g2, 0, none⟩)]) rfl rfl ?_
  refine wpL_done (fun W2 hW2 => ?_)
  refine (show Code.wp _ _ _ _ _ from ?_)
  refine wp_ret ?_
  try simp only [inBlock_ret, then_ret]
  refine bodyPost_ret (v := .func (.func 75) #[] #[.pointer (some ⟨g1, 0, none⟩), .pointer (some ⟨g2, 0, none⟩)]) ?_ rfl ?_
  · kernel_rfl
  · exact ⟨g1, g2, rfl, Bg1, Bg2, hW2.2 _ (.tail _ (.head _)), hW2.2 _ (.head _), hW2.1⟩
def GB (W0 : Base) (K : List (Nat × Obj)) (x y : Int) (v : Value) (K' : List (Nat × Obj)) : Prop := ∃ a b, v = rangeV a b ∧ W0.B ≤ a ∧ W0.B ≤ b ∧ (∀ p ∈ K, p.1 ≠ a) ∧ (∀ p ∈ K, p.1 ≠ b) ∧ K' = (b, .cells #[.int .u8 y] 5 (0, 0)) :: (a, .cells #[.int .u8 x] 5 (0, 0)) :: K
theorem calls_gb {W0 : Base} {W : World} {K : List (Nat × Obj)} (x y : Int) (hW : KS W0 K W) : Calls Tryd.prog 74 #[.int .u8 x, .int .u8 y] W fun e w' => ∃ v K', e = .returned v ∧ KS W0 K' w' ∧ GB W0 K x y v K' :=
  (between_any x y W).mono fun e w' ⟨a, b, he, ha, hb, h1, h2, hbel⟩ => by
    have hK := hW.below hbel
    refine ⟨_, _, he, ⟨hK.1, ?_⟩, a, b, rfl, Nat.le_trans hW.size ha, Nat.le_trans hW.size hb, fun p hp e => ?_, fun p hp e => ?_, rfl⟩
    · intro p hp
      rcases List.mem_cons.1 hp with rfl | hp
      · exact h2
      · rcases List.mem_cons.1 hp with rfl | hp
        · exact h1
        · exact hK.2 p hp
    · have := lt_of_block (hW.2 p hp); omega
    · have := lt_of_block (hW.2 p hp); omega
set_option maxRecDepth 100000 in
set_option maxHeartbeats 4000000 in
theorem places_any (w : World) : Calls Tryd.prog 68 #[] w fun e w' => ∃ a b c d, e = .returned (.agg (placesV a b c d)) ∧ w.heap.size ≤ a ∧ w.heap.size ≤ b ∧ w.heap.size ≤ c ∧ w.heap.size ≤ d ∧ (∀ p ∈ plK a b c d [], w'.heap[p.1]? = some p.2) ∧ Below w.heap.size w w' := by
  go_enter Tryd.func68, Tryd.ntmps68
  refine wp_seq ?_
  refine wp_region_L (W0 := w) [] (KS.start w) ?_
  refine wpL_new (fun g => .pointer (some ⟨g, 0, none⟩)) (obi := .cells #[.nilFunc, .nilFunc, .nilFunc, .nilFunc, .nilFunc, .nilFunc, .nilFunc, .nilFunc, .nilFunc, .nilFunc, .nilFunc] 98 (0, 0)) rfl rfl (fun _ => by kernel_rfl) (fun _ => by simp only [List.setIfInBounds_toArray, List.set_cons_succ, List.set_cons_zero] <;> rfl) fun g1 Bg1 Fg1 => ?_
  refine wpL_done (fun W1 hW1 => ?_)
  refine (show Code.wp _ _ _ _ _ from ?_)
  refine wp_seq ?_
  refine wp_region_L (W0 := w) [(g1, .cells #[.nilFunc, .nilFunc, .nilFunc, .nilFunc, .nilFunc, .nilFunc, .nilFunc, .nilFunc, .nilFunc, .nilFunc, .nilFunc] 98 (0, 0))] (hW1) ?_
  refine lm (v := .func (.func 74) #[] #[]) rfl rfl ?_
  refine wpL_done (fun W2 hW2 => ?_)
  refine (show Code.wp _ _ _ _ _ from ?_)
  refine wp_seq ?_
  refine wp_region_L (W0 := w) [(g1, .cells #[.nilFunc, .nilFunc, .nilFunc, .nilFunc, .nilFunc, .nilFunc, .nilFunc, .nilFunc, .nilFunc, .nilFunc, .nilFunc] 98 (0, 0))] (hW2) ?_
  refine lm (v := .func (.func 74) #[] #[]) rfl rfl ?_
  refine wpL_c (f := 74) (args := #[.int .u8 65, .int .u8 90]) (GB w [(g1, .cells #[.nilFunc, .nilFunc, .nilFunc, .nilFunc, .nilFunc, .nilFunc, .nilFunc, .nilFunc, .nilFunc, .nilFunc, .nilFunc] 98 (0, 0))] 65 90) rfl (by kernel_rfl) (fun _ => (by kernel_rfl)) (fun W hW => calls_gb 65 90 hW) (fun _ => by simp only [List.setIfInBounds_toArray, List.set_cons_succ, List.set_cons_zero] <;> rfl) ?_
  rintro v K9 ⟨g2, g3, rfl, Bg2, Bg3, Fg2, Fg3, rfl⟩
  refine lm (v := .func (.func 74) #[] #[]) rfl rfl ?_
  refine wpL_c (f := 74) (args := #[.int .u8 48, .int .u8 57]) (GB w [(g3, .cells #[.int .u8 90] 5 (0, 0)), (g2, .cells #[.int .u8 65] 5 (0, 0)), (g1, .cells #[.nilFunc, .nilFunc, .nilFunc, .nilFunc, .nilFunc, .nilFunc, .nilFunc, .nilFunc, .nilFunc, .nilFunc, .nilFunc] 98 (0, 0))] 48 57) rfl (by kernel_rfl) (fun _ => (by kernel_rfl)) (fun W hW => calls_gb 48 57 hW) (fun _ => by simp only [List.setIfInBounds_toArray, List.set_cons_succ, List.set_cons_zero] <;> rfl) ?_
  rintro v K9 ⟨g4, g5, rfl, Bg4, Bg5, Fg4, Fg5, rfl⟩
  refine lm (v := rangeV g2 g3) rfl rfl ?_
  refine lm (v := rangeV g4 g5) rfl rfl ?_
  refine wpL_done (fun W3 hW3 => ?_)
  refine (show Code.wp _ _ _ _ _ from ?_)
  refine wp_seq ?_
  refine wp_region_L (W0 := w) [(g5, .cells #[.int .u8 57] 5 (0, 0)), (g4, .cells #[.int .u8 48] 5 (0, 0)), (g3, .cells #[.int .u8 90] 5 (0, 0)), (g2, .cells #[.int .u8 65] 5 (0, 0)), (g1, .cells #[.nilFunc, .nilFunc, .nilFunc, .nilFunc, .nilFunc, .nilFunc, .nilFunc, .nilFunc, .nilFunc, .nilFunc, .nilFunc] 98 (0, 0))] (hW3) ?_
  refine lm (v := catV) rfl rfl ?_
  refine wpL_done (fun W4 hW4 => ?_)
  refine (show Code.wp _ _ _ _ _ from ?_)
  refine wp_seq ?_
  refine wp_region_L (W0 := w) [(g5, .cells #[.int .u8 57] 5 (0, 0)), (g4, .cells #[.int .u8 48] 5 (0, 0)), (g3, .cells #[.int .u8 90] 5 (0, 0)), (g2, .cells #[.int .u8 65] 5 (0, 0)), (g1, .cells #[.nilFunc, .nilFunc, .nilFunc, .nilFunc, .nilFunc, .nilFunc, .nilFunc, .nilFunc, .nilFunc, .nilFunc, .nilFunc] 98 (0, 0))] (hW4) ?_
  refine lm (v := rangeV g2 g3) rfl rfl ?_
  refine lm (v := rangeV g2 g3) rfl rfl ?_
  refine lm (v := rangeV g2 g3) rfl rfl ?_
  refine lm (v := catV) rfl rfl ?_
  refine lm (v := rangeV g4 g5) rfl rfl ?_
  refine lm (v := rangeV g4 g5) rfl rfl ?_
  refine lm (v := rangeV g4 g5) rfl rfl ?_
  refine lm (v := rangeV g4 g5) rfl rfl ?_
  refine lm (v := rangeV g4 g5) rfl rfl ?_
  refine lm (v := rangeV g4 g5) rfl rfl ?_
  refine lm (v := rangeV g4 g5) rfl rfl ?_
  refine lm (v := .agg #[rangeV g2 g3, rangeV g2 g3, rangeV g2 g3, catV, rangeV g4 g5, rangeV g4 g5, rangeV g4 g5, rangeV g4 g5, rangeV g4 g5, rangeV g4 g5, rangeV g4 g5]) rfl rfl ?_
  refine wpL_s [(g5, .cells #[.int .u8 57] 5 (0, 0)), (g4, .cells #[.int .u8 48] 5 (0, 0)), (g3, .cells #[.int .u8 90] 5 (0, 0)), (g2, .cells #[.int .u8 65] 5 (0, 0)), (g1, .cells #[rangeV g2 g3, rangeV g2 g3, rangeV g2 g3, catV, rangeV g4 g5, rangeV g4 g5, rangeV g4 g5, rangeV g4 g5, rangeV g4 g5, rangeV g4 g5, rangeV g4 g5] 98 (0, 0))] rfl rfl (st_row (off := 0) (v := .agg #[rangeV g2 g3, rangeV g2 g3, rangeV g2 g3, catV, rangeV g4 g5, rangeV g4 g5, rangeV g4 g5, rangeV g4 g5, rangeV g4 g5, rangeV g4 g5, rangeV g4 g5]) rfl (by kernel_rfl) (by kernel_rfl) (.tail _ (.tail _ (.tail _ (.tail _ (.head _))))) Bg1 (by kernel_rfl) (by simp [Value.cells]) (by intro v hv; simp [Value.cells] at hv; first | (subst hv; rfl) | (rcases hv with rfl | rfl | rfl | rfl | rfl | rfl | rfl | rfl | rfl | rfl | rfl <;> rfl)) (by kernel_rfl) (List.forall_mem_cons.2 ⟨.inr ⟨(.head _), (Ne.symm (Fg5 _ (.tail _ (.tail _ (.head _)))))⟩, (List.forall_mem_cons.2 ⟨.inr ⟨(.tail _ (.head _)), (Ne.symm (Fg4 _ (.tail _ (.tail _ (.head _)))))⟩, (List.forall_mem_cons.2 ⟨.inr ⟨(.tail _ (.tail _ (.head _))), (Ne.symm (Fg3 _ (.head _)))⟩, (List.forall_mem_cons.2 ⟨.inr ⟨(.tail _ (.tail _ (.tail _ (.head _)))), (Ne.symm (Fg2 _ (.head _)))⟩, (List.forall_mem_cons.2 ⟨.inl rfl, (List.forall_mem_nil _)⟩)⟩)⟩)⟩)⟩)) ?_
  refine wpL_done (fun W5 hW5 => ?_)
  refine (show Code.wp _ _ _ _ _ from ?_)
  refine wp_ret ?_
  try simp only [inBlock_ret, then_ret]
  refine bodyPost_ret (v := .agg #[rangeV g2 g3, rangeV g2 g3, rangeV g2 g3, catV, rangeV g4 g5, rangeV g4 g5, rangeV g4 g5, rangeV g4 g5, rangeV g4 g5, rangeV g4 g5, rangeV g4 g5]) ?_ rfl ?_
  · exact (res_cell rfl rfl (hW5.2 _ (.tail _ (.tail _ (.tail _ (.tail _ (.head _)))))) Tryd.underlying98 rfl (by kernel_rfl))
  · exact ⟨g2, g3, g4, g5, rfl, Bg2, Bg3, Bg4, Bg5, List.forall_mem_cons.2 ⟨hW5.2 _ (.head _), List.forall_mem_cons.2 ⟨hW5.2 _ (.tail _ (.head _)), List.forall_mem_cons.2 ⟨hW5.2 _ (.tail _ (.tail _ (.head _))), List.forall_mem_cons.2 ⟨hW5.2 _ (.tail _ (.tail _ (.tail _ (.head _)))), List.forall_mem_nil _⟩⟩⟩⟩, hW5.1⟩
def GPl (W0 : Base) (K : List (Nat × Obj)) (v : Value) (K' : List (Nat × Obj)) : Prop := ∃ a b c d, v = .agg (placesV a b c d) ∧ W0.B ≤ a ∧ W0.B ≤ b ∧ W0.B ≤ c ∧ W0.B ≤ d ∧ (∀ p ∈ K, p.1 ≠ a) ∧ (∀ p ∈ K, p.1 ≠ b) ∧ (∀ p ∈ K, p.1 ≠ c) ∧ (∀ p ∈ K, p.1 ≠ d) ∧ K' = plK a b c d K
theorem calls_pl {W0 : Base} {W : World} {K : List (Nat × Obj)} (hW : KS W0 K W) : Calls Tryd.prog 68 #[] W fun e w' => ∃ v K', e = .returned v ∧ KS W0 K' w' ∧ GPl W0 K v K' :=
  (places_any W).mono fun e w' ⟨a, b, c, d, he, ha, hb, hc, hd, h1, hbel⟩ => by
    have hK := hW.below hbel
    have hz := hW.size
    refine ⟨_, _, he, ⟨hK.1, ?_⟩, a, b, c, d, rfl, by omega, by omega, by omega, by omega, fun p hp e => ?_, fun p hp e => ?_, fun p hp e => ?_, fun p hp e => ?_, rfl⟩
    · intro p hp
      unfold plK at hp h1
      rcases List.mem_cons.1 hp with rfl | hp
      · exact h1 _ (.head _)
      rcases List.mem_cons.1 hp with rfl | hp
      · exact h1 _ (.tail _ (.head _))
      rcases List.mem_cons.1 hp with rfl | hp
      · exact h1 _ (.tail _ (.tail _ (.head _)))
      rcases List.mem_cons.1 hp with rfl | hp
      · exact h1 _ (.tail _ (.tail _ (.tail _ (.head _))))
      · exact hK.2 p hp
    all_goals (have := lt_of_block (hW.2 p hp); omega)
theorem yb_may {W0 : Base} {o : Oper} {a : Act} {K : List (Nat × Obj)} {x y : Operand} {tt : Array TypeId} {p q r s k : Nat} {b : UInt8} (ho : o.op = .call { callee := .value x, args := #[y], argTypes := tt }) (hx : a.eval x = placeAt p q r s k) (hy : a.eval y = .int .u8 ((b.toNat : Nat) : Int))
    (h1 : (p, .cells #[.int .u8 65] 5 (0, 0)) ∈ K) (h2 : (q, .cells #[.int .u8 90] 5 (0, 0)) ∈ K) (h3 : (r, .cells #[.int .u8 48] 5 (0, 0)) ∈ K) (h4 : (s, .cells #[.int .u8 57] 5 (0, 0)) ∈ K) :
    ∀ w, KS W0 K w → ∀ K' : Act → World → Prop, (∀ w', Below w.heap.size w w' → K' (a.put o.dst (.bool (mayB k b))) w') → Oper.wp Tryd.prog o a w K' (fun _ _ _ => False) := by
  have cell : ∀ (w : World), KS W0 K w → ∀ (g : Nat) (v : Value), (g, .cells #[v] 5 (0, 0)) ∈ K → w.cell? ⟨g, 0, none⟩ = some v := fun w hw g v hm => by rw [cell_of_row w g 0 _ _ (0, 0) (hw.2 _ hm)]; rfl
  unfold placeAt at hx
  split at hx
  · rename_i hk
    rw [show mayB k b = (decide (65 ≤ b.toNat) && decide (b.toNat ≤ 90)) from by unfold mayB; rw [if_pos hk]; rfl]
    exact yb_call (fun w => run_callv ho hx hy (fun _ _ => by kernel_rfl) w) fun w hw => between_in b 65 90 p q w (cell w hw _ _ h1) (cell w hw _ _ h2)
  · split at hx
    · rename_i hk hk2
      rw [show mayB k b = isCat b from by unfold mayB; rw [if_neg hk, if_pos hk2]]
      exact yb_call (fun w => run_callv ho hx hy (fun _ _ => by kernel_rfl) w) fun w hw => cat_any b w
    · rename_i hk hk2
      rw [show mayB k b = (decide (48 ≤ b.toNat) && decide (b.toNat ≤ 57)) from by unfold mayB; rw [if_neg hk, if_neg hk2]; rfl]
      exact yb_call (fun w => run_callv ho hx hy (fun _ _ => by kernel_rfl) w) fun w hw => between_in b 48 57 r s w (cell w hw _ _ h3) (cell w hw _ _ h4)
end Go.Proofs.YtjbbeolapaaiaaaDoor
namespace Go.Proofs.YtjbbeolapaaiaaaDoor
open Go Go.RowKit Tw
theorem judge_len {l : List UInt8} (h : judgeN l = 0) : l.length = 11 := by
  unfold judgeN at h
  split at h
  · exact fit_len (by assumption)
  · omega
set_option maxRecDepth 100000 in
set_option maxHeartbeats 4000000 in
theorem fits_any (l : List UInt8) (n : Nat) (hn : n ≤ 11) (w : World) : Calls Tryd.prog 51 #[strV l, .int .i64 ((n : Nat) : Int)] w fun e w' => e = .returned (.bool (fitB l n)) ∧ Below w.heap.size w w' := by
  go_enter Tryd.func51, Tryd.ntmps51
  refine wp_seq ?_
  refine wp_region_L (W0 := w) [] (KS.start w) ?_
  refine lm (v := .bool false) rfl rfl ?_
  refine wpL_done (fun W1 hW1 => ?_)
  refine (show Code.wp _ _ _ _ _ from ?_)
  refine wp_seq ?_
  refine wp_seq ?_
  refine wp_region_L (W0 := w) [] (hW1) ?_
  refine lm (v := strV l) rfl rfl ?_
  refine lp (v := .int .i64 ((l.length : Nat) : Int)) rfl rfl (run_lenS (l := l) rfl Tryd.underlying9 (by kernel_rfl)) ?_
  refine lm (v := .int .i64 ((n : Nat) : Int)) rfl rfl ?_
  refine lp (v := .bool (!(decide (l.length = n)))) rfl rfl (run_bin rfl (vx := (.int .i64 ((l.length : Nat) : Int))) (vy := (.int .i64 ((n : Nat) : Int))) (by kernel_rfl) (by kernel_rfl) fun w => bn_neq rfl w) ?_
  refine wpL_done (fun W2 hW2 => ?_)
  refine (show Code.wp _ _ _ _ _ from ?_)
  cases hd1 : (decide (l.length = n)) with
  | false =>
    have h1 : ¬ (l.length = n) := of_decide_eq_false hd1
    clear hd1
    refine wp_cond_true rfl ?_
    refine wp_seq ?_
    refine wp_region_L (W0 := w) [] (hW2) ?_
    refine lm (v := .bool false) rfl rfl ?_
    refine wpL_done (fun W3 hW3 => ?_)
    refine (show Code.wp _ _ _ _ _ from ?_)
    refine wp_ret ?_
    try simp only [inBlock_ret, then_ret]
    refine bodyPost_ret (v := .bool false) ?_ rfl ?_
    · kernel_rfl
    · exact ⟨(bool_is (by unfold fitB; simp [*])), hW3.1⟩
  | true =>
    have h1 : l.length = n := of_decide_eq_true hd1
    clear hd1
    refine wp_cond_false rfl ?_
    refine wp_skip ?_
    refine (show Code.wp _ _ _ _ _ from ?_)
    refine wp_seq ?_
    refine wp_region_L (W0 := w) [] (hW2) ?_
    refine wpL_c (f := 68) (args := #[]) (GPl w []) rfl (by kernel_rfl) (fun _ => (by kernel_rfl)) (fun W hW => calls_pl hW) (fun _ => by simp only [List.setIfInBounds_toArray, List.set_cons_succ, List.set_cons_zero] <;> rfl) ?_
    rintro v K9 ⟨g1, g2, g3, g4, rfl, Bg1, Bg2, Bg3, Bg4, Fg1, Fg2, Fg3, Fg4, rfl⟩
    unfold plK
    refine wpL_new (fun g => .pointer (some ⟨g, 0, none⟩)) (obi := .cells #[.nilFunc, .nilFunc, .nilFunc, .nilFunc, .nilFunc, .nilFunc, .nilFunc, .nilFunc, .nilFunc, .nilFunc, .nilFunc] 98 (0, 0)) rfl rfl (fun _ => by kernel_rfl) (fun _ => by simp only [List.setIfInBounds_toArray, List.set_cons_succ, List.set_cons_zero] <;> rfl) fun g5 Bg5 Fg5 => ?_
    refine wpL_s [(g5, .cells (placesV g1 g2 g3 g4) 98 (0, 0)), (g4, .cells #[.int .u8 57] 5 (0, 0)), (g3, .cells #[.int .u8 48] 5 (0, 0)), (g2, .cells #[.int .u8 90] 5 (0, 0)), (g1, .cells #[.int .u8 65] 5 (0, 0))] rfl rfl (st_row (off := 0) (v := .agg (placesV g1 g2 g3 g4)) rfl (by kernel_rfl) (by kernel_rfl) (.head _) Bg5 (by kernel_rfl) (by simp [Value.cells, placesV]) (by intro v hv; simp [Value.cells, placesV] at hv; rcases hv with rfl | rfl | rfl | rfl | rfl | rfl | rfl | rfl | rfl | rfl | rfl <;> rfl) (by kernel_rfl) (List.forall_mem_cons.2 ⟨.inl rfl, (List.forall_mem_cons.2 ⟨.inr ⟨(.tail _ (.head _)), (Fg5 _ (.head _))⟩, (List.forall_mem_cons.2 ⟨.inr ⟨(.tail _ (.tail _ (.head _))), (Fg5 _ (.tail _ (.head _)))⟩, (List.forall_mem_cons.2 ⟨.inr ⟨(.tail _ (.tail _ (.tail _ (.head _)))), (Fg5 _ (.tail _ (.tail _ (.head _))))⟩, (List.forall_mem_cons.2 ⟨.inr ⟨(.tail _ (.tail _ (.tail _ (.tail _ (.head _))))), (Fg5 _ (.tail _ (.tail _ (.tail _ (.head _)))))⟩, (List.forall_mem_nil _)⟩)⟩)⟩)⟩)⟩)) ?_
    refine wpL_done (fun W4 hW4 => ?_)
    refine (show Code.wp _ _ _ _ _ from ?_)
    refine wp_seq ?_
    refine wp_seq ?_
    refine wp_region_L (W0 := w) [(g5, .cells (placesV g1 g2 g3 g4) 98 (0, 0)), (g4, .cells #[.int .u8 57] 5 (0, 0)), (g3, .cells #[.int .u8 48] 5 (0, 0)), (g2, .cells #[.int .u8 90] 5 (0, 0)), (g1, .cells #[.int .u8 65] 5 (0, 0))] (hW4) ?_
    refine lm (v := .int .i64 ((n : Nat) : Int)) rfl rfl ?_
    refine lm (v := .int .i64 0) rfl rfl ?_
    refine wpL_done (fun W5 hW5 => ?_)
    refine (show Code.wp _ _ _ _ _ from ?_)
    refine wp_block ?_
    go_loopw [13] (fun u13 wr => ∃ (k : Nat), (k ≤ n) ∧ (fitF 0 l = fitF k (l.drop k)) ∧ u13 = .int .i64 ((k : Nat) : Int) ∧ KS w [(g5, .cells (placesV g1 g2 g3 g4) 98 (0, 0)), (g4, .cells #[.int .u8 57] 5 (0, 0)), (g3, .cells #[.int .u8 48] 5 (0, 0)), (g2, .cells #[.int .u8 90] 5 (0, 0)), (g1, .cells #[.int .u8 65] 5 (0, 0))] wr) (fun u13 _ => n - (intOf u13).toNat)
    case atStart => exact ⟨0, (Nat.zero_le _), rfl, rfl, hW5⟩
    case round =>
      obtain ⟨k, hk, hf, rfl, hL6⟩ := hrel
      refine wp_seq ?_
      refine wp_region_L (W0 := w) [(g5, .cells (placesV g1 g2 g3 g4) 98 (0, 0)), (g4, .cells #[.int .u8 57] 5 (0, 0)), (g3, .cells #[.int .u8 48] 5 (0, 0)), (g2, .cells #[.int .u8 90] 5 (0, 0)), (g1, .cells #[.int .u8 65] 5 (0, 0))] (hL6) ?_
      refine lp (v := .bool (decide (k < n))) rfl rfl (run_bin rfl (vx := (.int .i64 ((k : Nat) : Int))) (vy := (.int .i64 ((n : Nat) : Int))) (by kernel_rfl) (by kernel_rfl) fun w => bn_lss rfl w) ?_
      refine wpL_done (fun W7 hW7 => ?_)
      refine (show Code.wp _ _ _ _ _ from ?_)
      refine wp_seq ?_
      cases hd2 : (decide (k < n)) with
      | false =>
        have h2 : ¬ (k < n) := of_decide_eq_false hd2
        clear hd2
        have hff : fitF 0 l = true := by rw [hf, List.drop_eq_nil_of_le (by omega)]; rfl
        refine wp_cond_false rfl ?_
        refine wp_exit ?_
        refine (show Code.wp _ _ _ _ _ from ?_)
        refine wp_seq ?_
        refine wp_region_L (W0 := w) [(g5, .cells (placesV g1 g2 g3 g4) 98 (0, 0)), (g4, .cells #[.int .u8 57] 5 (0, 0)), (g3, .cells #[.int .u8 48] 5 (0, 0)), (g2, .cells #[.int .u8 90] 5 (0, 0)), (g1, .cells #[.int .u8 65] 5 (0, 0))] (hW7) ?_
        refine lm (v := .bool true) rfl rfl ?_
        refine wpL_done (fun W8 hW8 => ?_)
        refine (show Code.wp _ _ _ _ _ from ?_)
        refine wp_ret ?_
        try simp only [inBlock_ret, then_ret]
        refine bodyPost_ret (v := .bool true) ?_ rfl ?_
        · kernel_rfl
        · exact ⟨(bool_is (by unfold fitB; rw [hff]; simp [*])), hW8.1⟩
      | true =>
        have h2 : k < n := of_decide_eq_true hd2
        clear hd2
        refine wp_cond_true rfl ?_
        refine wp_skip ?_
        refine (show Code.wp _ _ _ _ _ from ?_)
        refine wp_seq ?_
        refine wp_block ?_
        refine wp_seq ?_
        refine wp_region_L (W0 := w) [(g5, .cells (placesV g1 g2 g3 g4) 98 (0, 0)), (g4, .cells #[.int .u8 57] 5 (0, 0)), (g3, .cells #[.int .u8 48] 5 (0, 0)), (g2, .cells #[.int .u8 90] 5 (0, 0)), (g1, .cells #[.int .u8 65] 5 (0, 0))] (hW7) ?_
        refine lm (v := .int .i64 ((k : Nat) : Int)) rfl rfl ?_
        refine lm (v := .int .i64 ((k : Nat) : Int)) rfl rfl ?_
        refine wpL_done (fun W9 hW9 => ?_)
        refine (show Code.wp _ _ _ _ _ from ?_)
        refine wp_seq ?_
        refine wp_region_V (W0 := w) [(g5, .cells (placesV g1 g2 g3 g4) 98 (0, 0)), (g4, .cells #[.int .u8 57] 5 (0, 0)), (g3, .cells #[.int .u8 48] 5 (0, 0)), (g2, .cells #[.int .u8 90] 5 (0, 0)), (g1, .cells #[.int .u8 65] 5 (0, 0))] (by kernel_rfl) (hW9) ?_
        refine vm (i := 0) (v := .int .i64 ((k : Nat) : Int)) rfl rfl rfl ?_
        refine vp (i := 1) (v := .pointer (some ⟨g5, 0 + k * 1, none⟩)) rfl rfl rfl (run_idxA (j := .i64) (b := g5) (off := 0) (k := k) (sz := 1) rfl Tryd.underlying98 (by kernel_rfl) (by kernel_rfl) (by kernel_rfl) (by omega)) ?_
        refine vv (i := 2) (v := placeAt g1 g2 g3 g4 k) rfl rfl rfl (yb_cell rfl (by kernel_rfl) (.head _) Tryd.underlying97 rfl (places_get (by omega))) ?_
        refine vm (i := 3) (v := strV l) rfl rfl rfl ?_
        refine vm (i := 4) (v := .int .i64 ((k : Nat) : Int)) rfl rfl rfl ?_
        obtain ⟨b6, hb6⟩ : ∃ b, l[k]? = some b := ⟨_, List.getElem?_eq_getElem (by omega)⟩
        have lb6 := b6.toNat_lt
        refine vp (i := 5) (v := .int .u8 ((b6.toNat : Nat) : Int)) rfl rfl rfl (run_idxS (j := .i64) (l := l) (k := k) (b := b6) rfl Tryd.underlying9 (by kernel_rfl) (by kernel_rfl) hb6) ?_
        refine vv (i := 6) (v := .bool (mayB k b6)) rfl rfl rfl (yb_may (k := k) (b := b6) rfl (by kernel_rfl) (by kernel_rfl) (.tail _ (.tail _ (.tail _ (.tail _ (.head _))))) (.tail _ (.tail _ (.tail _ (.head _)))) (.tail _ (.tail _ (.head _))) (.tail _ (.head _))) ?_
        refine vp (i := 7) (v := .bool (!(mayB k b6))) rfl rfl rfl (run_un rfl (by kernel_rfl) fun w => un_not w) ?_
        refine wpV_done (by kernel_rfl) (fun W10 hW10 => ?_) _
        refine (show Code.wp _ _ _ _ _ from ?_)
        cases h3 : (mayB k b6) with
        | false =>
          have hff : fitF 0 l = false := by rw [hf, fitF_drop hb6, h3]; rfl
          refine wp_cond_true rfl ?_
          refine wp_seq ?_
          refine wp_region_L (W0 := w) [(g5, .cells (placesV g1 g2 g3 g4) 98 (0, 0)), (g4, .cells #[.int .u8 57] 5 (0, 0)), (g3, .cells #[.int .u8 48] 5 (0, 0)), (g2, .cells #[.int .u8 90] 5 (0, 0)), (g1, .cells #[.int .u8 65] 5 (0, 0))] (hW10) ?_
          refine lm (v := .bool false) rfl rfl ?_
          refine wpL_done (fun W11 hW11 => ?_)
          refine (show Code.wp _ _ _ _ _ from ?_)
          refine wp_ret ?_
          try simp only [inBlock_ret, then_ret]
          refine bodyPost_ret (v := .bool false) ?_ rfl ?_
          · kernel_rfl
          · exact ⟨(bool_is (by unfold fitB; rw [hff]; simp [*])), hW11.1⟩
        | true =>
          refine wp_cond_false rfl ?_
          refine wp_skip ?_
          refine (show Code.wp _ _ _ _ _ from ?_)
          refine wp_region_L (W0 := w) [(g5, .cells (placesV g1 g2 g3 g4) 98 (0, 0)), (g4, .cells #[.int .u8 57] 5 (0, 0)), (g3, .cells #[.int .u8 48] 5 (0, 0)), (g2, .cells #[.int .u8 90] 5 (0, 0)), (g1, .cells #[.int .u8 65] 5 (0, 0))] (hW10) ?_
          refine lp (v := .int .i64 (((k + 1) : Nat) : Int)) rfl rfl (run_bin rfl (vx := (.int .i64 ((k : Nat) : Int))) (vy := (.int .i64 ((1 : Nat) : Int))) (by kernel_rfl) (by kernel_rfl) fun w => bn_add (z := (k + 1)) rfl (wr_i64 (by omega)) w) ?_
          refine lm (v := .int .i64 (((k + 1) : Nat) : Int)) rfl rfl ?_
          refine wpL_done (fun W12 hW12 => ?_)
          go_roundw
          case rel =>
            repeat apply Exists.intro
            exact ⟨⟨k + 1, (by omega), (by rw [hf, fitF_drop hb6, h3]; rfl), rfl, hW12⟩, rfl⟩
          case measure => (show n - (intOf (.int .i64 (((k + 1) : Nat) : Int))).toNat < n - (intOf (.int .i64 ((k : Nat) : Int))).toNat); simp only [intOf]; omega
set_option maxRecDepth 100000 in
set_option maxHeartbeats 4000000 in
theorem agrees_any (l : List UInt8) (hl : l.length = 11) (w : World) : Calls Tryd.prog 77 #[strV l] w fun e w' => e = .returned (.bool (agrB l)) ∧ Below w.heap.size w w' := by
  go_enter Tryd.func77, Tryd.ntmps77
  refine wp_seq ?_
  refine wp_region_L (W0 := w) [] (KS.start w) ?_
  refine lm (v := .bool false) rfl rfl ?_
  refine wpL_done (fun W1 hW1 => ?_)
  refine (show Code.wp _ _ _ _ _ from ?_)
  refine wp_seq ?_
  refine wp_region_V (W0 := w) [] (by kernel_rfl) (hW1) ?_
  refine vm (i := 0) (v := strV l) rfl rfl rfl ?_
  refine vp (i := 1) (v := strV (l.take 10)) rfl rfl rfl (run_slH (k2 := .i64) (l := l) (r := (l.take 10)) (j := 10) rfl Tryd.underlying9 (by kernel_rfl) (by kernel_rfl) (by first | omega | (simp; omega)) rfl) ?_
  refine vv (i := 2) (v := .int .u8 (((chkN (l.take 10)) : Nat) : Int)) rfl rfl rfl (yb_call (f := 52) (args := #[strV (l.take 10)]) (fun _ => by kernel_rfl) fun W hW => checkDigit_any (l.take 10) (by simp; omega) W) ?_
  refine vm (i := 3) (v := strV l) rfl rfl rfl ?_
  obtain ⟨b1, hb1⟩ : ∃ b, l[10]? = some b := ⟨_, List.getElem?_eq_getElem (by omega)⟩
  have lb1 := b1.toNat_lt
  refine vp (i := 4) (v := .int .u8 ((b1.toNat : Nat) : Int)) rfl rfl rfl (run_idxS (j := .i64) (l := l) (k := 10) (b := b1) rfl Tryd.underlying9 (by kernel_rfl) (by kernel_rfl) hb1) ?_
  refine vp (i := 5) (v := .bool (decide ((chkN (l.take 10)) = b1.toNat))) rfl rfl rfl (run_bin rfl (vx := (.int .u8 (((chkN (l.take 10)) : Nat) : Int))) (vy := (.int .u8 ((b1.toNat : Nat) : Int))) (by kernel_rfl) (by kernel_rfl) fun w => bn_eql rfl w) ?_
  refine vm (i := 6) (v := .bool (decide ((chkN (l.take 10)) = b1.toNat))) rfl rfl rfl ?_
  refine wpV_done (by kernel_rfl) (fun W2 hW2 => ?_) _
  refine (show Code.wp _ _ _ _ _ from ?_)
  refine wp_ret ?_
  try simp only [inBlock_ret, then_ret]
  refine bodyPost_ret (v := .bool (decide ((chkN (l.take 10)) = b1.toNat))) ?_ rfl ?_
  · kernel_rfl
  · exact ⟨(bool_is (by unfold agrB; rw [show l.getD 10 0 = b1 from by rw [List.getD_eq_getElem?_getD, hb1]; rfl])), hW2.1⟩
set_option maxRecDepth 100000 in
set_option maxHeartbeats 4000000 in
theorem judge_any (l : List UInt8) (w : World) : Calls Tryd.prog 70 #[strV l] w fun e w' => e = .returned (.int .i64 (((judgeN l) : Nat) : Int)) ∧ Below w.heap.size w w' := by
  go_enter Tryd.func70, Tryd.ntmps70
  refine wp_seq ?_
  refine wp_region_L (W0 := w) [] (KS.start w) ?_
  refine lm (v := .int .i64 0) rfl rfl ?_
  refine wpL_done (fun W1 hW1 => ?_)
  refine (show Code.wp _ _ _ _ _ from ?_)
  refine wp_seq ?_
  refine wp_seq ?_
  refine wp_region_L (W0 := w) [] (hW1) ?_
  refine lm (v := strV l) rfl rfl ?_
  refine lv (v := .bool (fitB l 11)) rfl rfl (yb_call (f := 51) (args := #[strV l, .int .i64 11]) (fun _ => by kernel_rfl) fun W hW => fits_any l 11 (by omega) W) ?_
  refine lp (v := .bool (!(fitB l 11))) rfl rfl (run_un rfl (by kernel_rfl) fun w => un_not w) ?_
  refine wpL_done (fun W2 hW2 => ?_)
  refine (show Code.wp _ _ _ _ _ from ?_)
  cases h1 : (fitB l 11) with
  | false =>
    refine wp_cond_true rfl ?_
    refine wp_seq ?_
    refine wp_region_L (W0 := w) [] (hW2) ?_
    refine lm (v := .int .i64 30) rfl rfl ?_
    refine wpL_done (fun W3 hW3 => ?_)
    refine (show Code.wp _ _ _ _ _ from ?_)
    refine wp_ret ?_
    try simp only [inBlock_ret, then_ret]
    refine bodyPost_ret (v := .int .i64 30) ?_ rfl ?_
    · kernel_rfl
    · exact ⟨(int_is (m := 30) (by unfold judgeN; simp [*])), hW3.1⟩
  | true =>
    have hlen := fit_len h1
    refine wp_cond_false rfl ?_
    refine wp_skip ?_
    refine (show Code.wp _ _ _ _ _ from ?_)
    refine wp_seq ?_
    refine wp_seq ?_
    refine wp_region_L (W0 := w) [] (hW2) ?_
    refine lm (v := strV l) rfl rfl ?_
    refine lv (v := .bool (agrB l)) rfl rfl (yb_call (f := 77) (args := #[strV l]) (fun _ => by kernel_rfl) fun W hW => agrees_any l (by omega) W) ?_
    refine lp (v := .bool (!(agrB l))) rfl rfl (run_un rfl (by kernel_rfl) fun w => un_not w) ?_
    refine wpL_done (fun W4 hW4 => ?_)
    refine (show Code.wp _ _ _ _ _ from ?_)
    cases h2 : (agrB l) with
    | false =>
      refine wp_cond_true rfl ?_
      refine wp_seq ?_
      refine wp_region_L (W0 := w) [] (hW4) ?_
      refine lm (v := .int .i64 31) rfl rfl ?_
      refine wpL_done (fun W5 hW5 => ?_)
      refine (show Code.wp _ _ _ _ _ from ?_)
      refine wp_ret ?_
      try simp only [inBlock_ret, then_ret]
      refine bodyPost_ret (v := .int .i64 31) ?_ rfl ?_
      · kernel_rfl
      · exact ⟨(int_is (m := 31) (by unfold judgeN; simp [*])), hW5.1⟩
    | true =>
      refine wp_cond_false rfl ?_
      refine wp_skip ?_
      refine (show Code.wp _ _ _ _ _ from ?_)
      refine wp_seq ?_
      refine wp_region_L (W0 := w) [] (hW4) ?_
      refine lm (v := .int .i64 0) rfl rfl ?_
      refine wpL_done (fun W6 hW6 => ?_)
      refine (show Code.wp _ _ _ _ _ from ?_)
      refine wp_ret ?_
      try simp only [inBlock_ret, then_ret]
      refine bodyPost_ret (v := .int .i64 0) ?_ rfl ?_
      · kernel_rfl
      · exact ⟨(int_is (m := 0) (by unfold judgeN; simp [*])), hW6.1⟩
set_option maxRecDepth 100000 in
set_option maxHeartbeats 4000000 in
theorem Check_any (l : List UInt8) (w : World) : Calls Tryd.prog 42 #[strV l] w fun e w' => e = .returned ((if fitB l 10 = true then .tuple #[.int .u8 (((chkN l) : Nat) : Int), .int .i64 0] else .tuple #[.int .u8 0, .int .i64 30])) ∧ Below w.heap.size w w' := by
  go_enter Tryd.func42, Tryd.ntmps42
  refine wp_seq ?_
  refine wp_region_L (W0 := w) [] (KS.start w) ?_
  refine lm (v := .int .u8 0) rfl rfl ?_
  refine lm (v := .int .i64 0) rfl rfl ?_
  refine wpL_done (fun W1 hW1 => ?_)
  refine (show Code.wp _ _ _ _ _ from ?_)
  refine wp_seq ?_
  refine wp_seq ?_
  refine wp_region_L (W0 := w) [] (hW1) ?_
  refine lm (v := strV l) rfl rfl ?_
  refine lv (v := .bool (fitB l 10)) rfl rfl (yb_call (f := 51) (args := #[strV l, .int .i64 10]) (fun _ => by kernel_rfl) fun W hW => fits_any l 10 (by omega) W) ?_
  refine lp (v := .bool (!(fitB l 10))) rfl rfl (run_un rfl (by kernel_rfl) fun w => un_not w) ?_
  refine wpL_done (fun W2 hW2 => ?_)
  refine (show Code.wp _ _ _ _ _ from ?_)
  cases h1 : (fitB l 10) with
  | false =>
    refine wp_cond_true rfl ?_
    refine wp_seq ?_
    refine wp_region_L (W0 := w) [] (hW2) ?_
    refine lm (v := .int .u8 0) rfl rfl ?_
    refine lm (v := .int .i64 30) rfl rfl ?_
    refine wpL_done (fun W3 hW3 => ?_)
    refine (show Code.wp _ _ _ _ _ from ?_)
    refine wp_ret ?_
    try simp only [inBlock_ret, then_ret]
    refine bodyPost_ret (v := .tuple #[.int .u8 0, .int .i64 30]) ?_ rfl ?_
    · kernel_rfl
    · exact ⟨(by simp), hW3.1⟩
  | true =>
    have hlen := fit_len h1
    refine wp_cond_false rfl ?_
    refine wp_skip ?_
    refine (show Code.wp _ _ _ _ _ from ?_)
    refine wp_seq ?_
    refine wp_region_L (W0 := w) [] (hW2) ?_
    refine lm (v := strV l) rfl rfl ?_
    refine lv (v := .int .u8 (((chkN l) : Nat) : Int)) rfl rfl (yb_call (f := 52) (args := #[strV l]) (fun _ => by kernel_rfl) fun W hW => checkDigit_any l (by omega) W) ?_
    refine lm (v := .int .u8 (((chkN l) : Nat) : Int)) rfl rfl ?_
    refine lm (v := .int .i64 0) rfl rfl ?_
    refine wpL_done (fun W4 hW4 => ?_)
    refine (show Code.wp _ _ _ _ _ from ?_)
    refine wp_ret ?_
    try simp only [inBlock_ret, then_ret]
    refine bodyPost_ret (v := .tuple #[.int .u8 (((chkN l) : Nat) : Int), .int .i64 0]) ?_ rfl ?_
    · kernel_rfl
    · exact ⟨(by simp), hW4.1⟩
set_option maxRecDepth 100000 in
set_option maxHeartbeats 4000000 in
theorem Right_any (l : List UInt8) (w : World) : Calls Tryd.prog 57 #[strV l] w fun e w' => e = .returned (.bool (decide (judgeN l = 0))) ∧ Below w.heap.size w w' := by
  go_enter Tryd.func57, Tryd.ntmps57
  refine wp_seq ?_
  refine wp_region_L (W0 := w) [] (KS.start w) ?_
  refine lm (v := .bool false) rfl rfl ?_
  refine wpL_done (fun W1 hW1 => ?_)
  refine (show Code.wp _ _ _ _ _ from ?_)
  refine wp_seq ?_
  refine wp_region_L (W0 := w) [] (hW1) ?_
  refine lm (v := strV l) rfl rfl ?_
  refine lv (v := .int .i64 (((judgeN l) : Nat) : Int)) rfl rfl (yb_call (f := 70) (args := #[strV l]) (fun _ => by kernel_rfl) fun W hW => judge_any l W) ?_
  refine lp (v := .bool (decide ((judgeN l) = 0))) rfl rfl (run_bin rfl (vx := (.int .i64 (((judgeN l) : Nat) : Int))) (vy := (.int .i64 ((0 : Nat) : Int))) (by kernel_rfl) (by kernel_rfl) fun w => bn_eql rfl w) ?_
  refine lm (v := .bool (decide ((judgeN l) = 0))) rfl rfl ?_
  refine wpL_done (fun W2 hW2 => ?_)
  refine (show Code.wp _ _ _ _ _ from ?_)
  refine wp_ret ?_
  try simp only [inBlock_ret, then_ret]
  refine bodyPost_ret (v := .bool (decide ((judgeN l) = 0))) ?_ rfl ?_
  · kernel_rfl
  · exact ⟨rfl, hW2.1⟩
end Go.Proofs.YtjbbeolapaaiaaaDoor
namespace Go.Proofs.YtjbbeolapaaiaaaDoor
open Go Go.RowKit Tw
def kindsL : List Value := [strV [50, 50, 71, 49], .int .u8 20, .bool false, .bool false, strV [50, 50, 82, 49], .int .u8 20, .bool false, .bool true, strV [52, 50, 71, 49], .int .u8 40, .bool false, .bool false, strV [52, 50, 82, 49], .int .u8 40, .bool false, .bool true, strV [52, 53, 71, 49], .int .u8 40, .bool true, .bool false, strV [52, 53, 82, 49], .int .u8 40, .bool true, .bool true]
structure Env (w : World) : Prop where
  kinds : w.var? Tryd.prog "twistlock/iso.kinds" = some kindsL.toArray
theorem var_keep {P : Program} {w w' : World} {n : String} {cs : Array Value} (h : w.var? P n = some cs) (hb : Below w.heap.size w w') : w'.var? P n = some cs := by
  unfold World.var? at *
  cases hg : P.globalNamed n with
  | none => rw [hg] at h; cases h
  | some g =>
    rw [hg] at h
    simp only [Option.bind_some] at h ⊢
    cases hh : w.heap[g]? with
    | none => rw [hh] at h; cases h
    | some o => rw [hb.block g (lt_of_block hh)]; exact h
theorem Env.keep {w w' : World} (h : Env w) (hb : Below w.heap.size w w') : Env w' := ⟨var_keep h.kinds hb⟩
theorem gKinds : Tryd.prog.globalNamed "twistlock/iso.kinds" = some 0 := by kernel_rfl
theorem Env.cells {w : World} (h : Env w) : ∀ (j : Nat) (v : Value), kindsL[j]? = some v → w.cell? ⟨0, 0 + j, none⟩ = some v := fun j v hv => by
  rw [Nat.zero_add, World.var?_cell gKinds h.kinds j]
  simpa using hv
theorem Env.lt {w : World} (h : Env w) : 0 < w.heap.size := World.block_lt_of_cell? _ _ (h.cells 0 (strV [50, 50, 71, 49]) rfl)
def sizeV (l : List UInt8) : Value := if [50, 50, 71, 49] = l then .tuple #[.agg #[.int .u8 20, .bool false, .bool false], .int .i64 0] else if [50, 50, 82, 49] = l then .tuple #[.agg #[.int .u8 20, .bool false, .bool true], .int .i64 0] else if [52, 50, 71, 49] = l then .tuple #[.agg #[.int .u8 40, .bool false, .bool false], .int .i64 0] else if [52, 50, 82, 49] = l then .tuple #[.agg #[.int .u8 40, .bool false, .bool true], .int .i64 0] else if [52, 53, 71, 49] = l then .tuple #[.agg #[.int .u8 40, .bool true, .bool false], .int .i64 0] else if [52, 53, 82, 49] = l then .tuple #[.agg #[.int .u8 40, .bool true, .bool true], .int .i64 0] else .tuple #[.agg #[.int .u8 0, .bool false, .bool false], .int .i64 32]
def codeV (n : Nat) (h r : Bool) : Value := if 20 = n ∧ false = h ∧ false = r then .tuple #[strV [50, 50, 71, 49], .int .i64 0] else if 20 = n ∧ false = h ∧ true = r then .tuple #[strV [50, 50, 82, 49], .int .i64 0] else if 40 = n ∧ false = h ∧ false = r then .tuple #[strV [52, 50, 71, 49], .int .i64 0] else if 40 = n ∧ false = h ∧ true = r then .tuple #[strV [52, 50, 82, 49], .int .i64 0] else if 40 = n ∧ true = h ∧ false = r then .tuple #[strV [52, 53, 71, 49], .int .i64 0] else if 40 = n ∧ true = h ∧ true = r then .tuple #[strV [52, 53, 82, 49], .int .i64 0] else .tuple #[strV [], .int .i64 32]
theorem eq_kind {x y : Nat} {a b c d e : Bool} {px py : Operand} (h : decide (x = y ∧ a = c ∧ b = d) = e) (w : World) : (do eqGuard .eql 37 px py (.agg #[.int .u8 ((x : Nat) : Int), .bool a, .bool b]) (.agg #[.int .u8 ((y : Nat) : Int), .bool c, .bool d]); binOp .eql 37 (.agg #[.int .u8 ((x : Nat) : Int), .bool a, .bool b]) (.agg #[.int .u8 ((y : Nat) : Int), .bool c, .bool d]) : Sem Value).run Tryd.prog w = .ok (.bool e) w := by
  subst h
  go_simp
  have e1 : ((x : Int) = (y : Int)) = (x = y) := by apply propext; omega
  simp only [e1]
  by_cases h1 : x = y <;> by_cases h2 : a = c <;> by_cases h3 : b = d <;> simp [h1, h2, h3]
set_option maxRecDepth 100000 in
set_option maxHeartbeats 4000000 in
theorem Size_any (l : List UInt8) (w : World) (hE : Env w) : Calls Tryd.prog 19 #[strV l] w fun e w' => e = .returned (sizeV l) ∧ Below w.heap.size w w' := by
  have HE := Lib.hid hE
  clear hE
  go_enter Tryd.func19, Tryd.ntmps19
  refine wp_seq ?_
  refine wp_region_L (W0 := w) [] (KS.start w) ?_
  refine wpL_new (fun g => .pointer (some ⟨g, 0, none⟩)) (obi := .cells #[.int .u8 0, .bool false, .bool false] 37 (0, 0)) rfl rfl (fun _ => by kernel_rfl) (fun _ => by simp only [List.setIfInBounds_toArray, List.set_cons_succ, List.set_cons_zero] <;> rfl) fun g1 Bg1 Fg1 => ?_
  refine lm (v := .int .i64 0) rfl rfl ?_
  refine wpL_done (fun W1 hW1 => ?_)
  refine (show Code.wp _ _ _ _ _ from ?_)
  refine wp_seq ?_
  refine wp_seq ?_
  refine wp_region_L (W0 := w) [(g1, .cells #[.int .u8 0, .bool false, .bool false] 37 (0, 0))] (hW1) ?_
  refine lv (v := .agg #[strV [50, 50, 71, 49], .int .u8 20, .bool false, .bool false, strV [50, 50, 82, 49], .int .u8 20, .bool false, .bool true, strV [52, 50, 71, 49], .int .u8 40, .bool false, .bool false, strV [52, 50, 82, 49], .int .u8 40, .bool false, .bool true, strV [52, 53, 71, 49], .int .u8 40, .bool true, .bool false, strV [52, 53, 82, 49], .int .u8 40, .bool true, .bool true]) rfl rfl (yb_olds (cs := kindsL) rfl (by kernel_rfl) HE.out.cells HE.out.lt Tryd.underlying78 rfl (by kernel_rfl)) ?_
  refine lm (v := .int .i64 0) rfl rfl ?_
  refine wpL_done (fun W2 hW2 => ?_)
  refine (show Code.wp _ _ _ _ _ from ?_)
  refine wp_block ?_
  refine wp_loop_rounds 7 ?_
  refine (show Code.wp _ _ _ _ _ from ?_)
  refine wp_seq ?_
  refine wp_region_L (W0 := w) [(g1, .cells #[.int .u8 0, .bool false, .bool false] 37 (0, 0))] (hW2) ?_
  refine lm (v := .bool true) rfl rfl ?_
  refine wpL_done (fun W3 hW3 => ?_)
  refine (show Code.wp _ _ _ _ _ from ?_)
  refine wp_seq ?_
  refine wp_cond_true rfl ?_
  refine wp_skip ?_
  refine (show Code.wp _ _ _ _ _ from ?_)
  refine wp_seq ?_
  refine wp_block ?_
  refine wp_seq ?_
  refine wp_region_L (W0 := w) [(g1, .cells #[.int .u8 0, .bool false, .bool false] 37 (0, 0))] (hW3) ?_
  refine lm (v := .agg #[strV [50, 50, 71, 49], .int .u8 20, .bool false, .bool false]) rfl rfl ?_
  refine wpL_new (fun g => .pointer (some ⟨g, 0, none⟩)) (obi := .cells #[strV [], .int .u8 0, .bool false, .bool false] 77 (0, 0)) rfl rfl (fun _ => by kernel_rfl) (fun _ => by simp only [List.setIfInBounds_toArray, List.set_cons_succ, List.set_cons_zero] <;> rfl) fun g2 Bg2 Fg2 => ?_
  refine wpL_s [(g2, .cells #[strV [50, 50, 71, 49], .int .u8 20, .bool false, .bool false] 77 (0, 0)), (g1, .cells #[.int .u8 0, .bool false, .bool false] 37 (0, 0))] rfl rfl (st_row (off := 0) (v := .agg #[strV [50, 50, 71, 49], .int .u8 20, .bool false, .bool false]) rfl (by kernel_rfl) (by kernel_rfl) (.head _) Bg2 (by kernel_rfl) (by simp [Value.cells]) (by intro v hv; simp [Value.cells] at hv; first | (subst hv; rfl) | (rcases hv with rfl | rfl | rfl | rfl <;> rfl)) (by kernel_rfl) (List.forall_mem_cons.2 ⟨.inl rfl, (List.forall_mem_cons.2 ⟨.inr ⟨(.tail _ (.head _)), (Fg2 _ (.head _))⟩, (List.forall_mem_nil _)⟩)⟩)) ?_
  refine wpL_done (fun W4 hW4 => ?_)
  refine (show Code.wp _ _ _ _ _ from ?_)
  refine wp_seq ?_
  refine wp_region_L (W0 := w) [(g2, .cells #[strV [50, 50, 71, 49], .int .u8 20, .bool false, .bool false] 77 (0, 0)), (g1, .cells #[.int .u8 0, .bool false, .bool false] 37 (0, 0))] (hW4) ?_
  refine lm (v := .pointer (some ⟨g2, 0, none⟩)) rfl rfl ?_
  refine lv (v := strV [50, 50, 71, 49]) rfl rfl (yb_cell (off := 0) rfl (by kernel_rfl) (.head _) Tryd.underlying9 rfl (by kernel_rfl)) ?_
  refine lm (v := strV l) rfl rfl ?_
  refine lp (v := .bool (decide ([50, 50, 71, 49] = l))) rfl rfl (run_bin rfl (vx := strV [50, 50, 71, 49]) (vy := strV l) (by kernel_rfl) (by kernel_rfl) fun w => bs_eql rfl w) ?_
  refine wpL_done (fun W5 hW5 => ?_)
  refine (show Code.wp _ _ _ _ _ from ?_)
  cases hd1 : (decide ([50, 50, 71, 49] = l)) with
  | false =>
    have h1 : ¬ ([50, 50, 71, 49] = l) := of_decide_eq_false hd1
    clear hd1
    refine wp_cond_false rfl ?_
    refine wp_skip ?_
    refine (show Code.wp _ _ _ _ _ from ?_)
    refine wp_region_L (W0 := w) [(g2, .cells #[strV [50, 50, 71, 49], .int .u8 20, .bool false, .bool false] 77 (0, 0)), (g1, .cells #[.int .u8 0, .bool false, .bool false] 37 (0, 0))] (hW5) ?_
    refine lm (v := .int .i64 1) rfl rfl ?_
    refine lm (v := .int .i64 1) rfl rfl ?_
    refine wpL_done (fun W6 hW6 => ?_)
    refine (show Code.wp _ _ _ _ _ from ?_)
    refine wp_seq ?_
    refine wp_region_L (W0 := w) [(g2, .cells #[strV [50, 50, 71, 49], .int .u8 20, .bool false, .bool false] 77 (0, 0)), (g1, .cells #[.int .u8 0, .bool false, .bool false] 37 (0, 0))] (hW6) ?_
    refine lm (v := .bool true) rfl rfl ?_
    refine wpL_done (fun W7 hW7 => ?_)
    refine (show Code.wp _ _ _ _ _ from ?_)
    refine wp_seq ?_
    refine wp_cond_true rfl ?_
    refine wp_skip ?_
    refine (show Code.wp _ _ _ _ _ from ?_)
    refine wp_seq ?_
    refine wp_block ?_
    refine wp_seq ?_
    refine wp_region_L (W0 := w) [(g2, .cells #[strV [50, 50, 71, 49], .int .u8 20, .bool false, .bool false] 77 (0, 0)), (g1, .cells #[.int .u8 0, .bool false, .bool false] 37 (0, 0))] (hW7) ?_
    refine lm (v := .agg #[strV [50, 50, 82, 49], .int .u8 20, .bool false, .bool true]) rfl rfl ?_
    refine wpL_new (fun g => .pointer (some ⟨g, 0, none⟩)) (obi := .cells #[strV [], .int .u8 0, .bool false, .bool false] 77 (0, 0)) rfl rfl (fun _ => by kernel_rfl) (fun _ => by simp only [List.setIfInBounds_toArray, List.set_cons_succ, List.set_cons_zero] <;> rfl) fun g3 Bg3 Fg3 => ?_
    refine wpL_s [(g3, .cells #[strV [50, 50, 82, 49], .int .u8 20, .bool false, .bool true] 77 (0, 0)), (g2, .cells #[strV [50, 50, 71, 49], .int .u8 20, .bool false, .bool false] 77 (0, 0)), (g1, .cells #[.int .u8 0, .bool false, .bool false] 37 (0, 0))] rfl rfl (st_row (off := 0) (v := .agg #[strV [50, 50, 82, 49], .int .u8 20, .bool false, .bool true]) rfl (by kernel_rfl) (by kernel_rfl) (.head _) Bg3 (by kernel_rfl) (by simp [Value.cells]) (by intro v hv; simp [Value.cells] at hv; first | (subst hv; rfl) | (rcases hv with rfl | rfl | rfl | rfl <;> rfl)) (by kernel_rfl) (List.forall_mem_cons.2 ⟨.inl rfl, (List.forall_mem_cons.2 ⟨.inr ⟨(.tail _ (.head _)), (Fg3 _ (.head _))⟩, (List.forall_mem_cons.2 ⟨.inr ⟨(.tail _ (.tail _ (.head _))), (Fg3 _ (.tail _ (.head _)))⟩, (List.forall_mem_nil _)⟩)⟩)⟩)) ?_
    refine wpL_done (fun W8 hW8 => ?_)
    refine (show Code.wp _ _ _ _ _ from ?_)
    refine wp_seq ?_
    refine wp_region_L (W0 := w) [(g3, .cells #[strV [50, 50, 82, 49], .int .u8 20, .bool false, .bool true] 77 (0, 0)), (g2, .cells #[strV [50, 50, 71, 49], .int .u8 20, .bool false, .bool false] 77 (0, 0)), (g1, .cells #[.int .u8 0, .bool false, .bool false] 37 (0, 0))] (hW8) ?_
    refine lm (v := .pointer (some ⟨g3, 0, none⟩)) rfl rfl ?_
    refine lv (v := strV [50, 50, 82, 49]) rfl rfl (yb_cell (off := 0) rfl (by kernel_rfl) (.head _) Tryd.underlying9 rfl (by kernel_rfl)) ?_
    refine lm (v := strV l) rfl rfl ?_
    refine lp (v := .bool (decide ([50, 50, 82, 49] = l))) rfl rfl (run_bin rfl (vx := strV [50, 50, 82, 49]) (vy := strV l) (by kernel_rfl) (by kernel_rfl) fun w => bs_eql rfl w) ?_
    refine wpL_done (fun W9 hW9 => ?_)
    refine (show Code.wp _ _ _ _ _ from ?_)
    cases hd2 : (decide ([50, 50, 82, 49] = l)) with
    | false =>
      have h2 : ¬ ([50, 50, 82, 49] = l) := of_decide_eq_false hd2
      clear hd2
      refine wp_cond_false rfl ?_
      refine wp_skip ?_
      refine (show Code.wp _ _ _ _ _ from ?_)
      refine wp_region_L (W0 := w) [(g3, .cells #[strV [50, 50, 82, 49], .int .u8 20, .bool false, .bool true] 77 (0, 0)), (g2, .cells #[strV [50, 50, 71, 49], .int .u8 20, .bool false, .bool false] 77 (0, 0)), (g1, .cells #[.int .u8 0, .bool false, .bool false] 37 (0, 0))] (hW9) ?_
      refine lm (v := .int .i64 2) rfl rfl ?_
      refine lm (v := .int .i64 2) rfl rfl ?_
      refine wpL_done (fun W10 hW10 => ?_)
      refine (show Code.wp _ _ _ _ _ from ?_)
      refine wp_seq ?_
      refine wp_region_L (W0 := w) [(g3, .cells #[strV [50, 50, 82, 49], .int .u8 20, .bool false, .bool true] 77 (0, 0)), (g2, .cells #[strV [50, 50, 71, 49], .int .u8 20, .bool false, .bool false] 77 (0, 0)), (g1, .cells #[.int .u8 0, .bool false, .bool false] 37 (0, 0))] (hW10) ?_
      refine lm (v := .bool true) rfl rfl ?_
      refine wpL_done (fun W11 hW11 => ?_)
      refine (show Code.wp _ _ _ _ _ from ?_)
      refine wp_seq ?_
      refine wp_cond_true rfl ?_
      refine wp_skip ?_
      refine (show Code.wp _ _ _ _ _ from ?_)
      refine wp_seq ?_
      refine wp_block ?_
      refine wp_seq ?_
      refine wp_region_L (W0 := w) [(g3, .cells #[strV [50, 50, 82, 49], .int .u8 20, .bool false, .bool true] 77 (0, 0)), (g2, .cells #[strV [50, 50, 71, 49], .int .u8 20, .bool false, .bool false] 77 (0, 0)), (g1, .cells #[.int .u8 0, .bool false, .bool false] 37 (0, 0))] (hW11) ?_
      refine lm (v := .agg #[strV [52, 50, 71, 49], .int .u8 40, .bool false, .bool false]) rfl rfl ?_
      refine wpL_new (fun g => .pointer (some ⟨g, 0, none⟩)) (obi := .cells #[strV [], .int .u8 0, .bool false, .bool false] 77 (0, 0)) rfl rfl (fun _ => by kernel_rfl) (fun _ => by simp only [List.setIfInBounds_toArray, List.set_cons_succ, List.set_cons_zero] <;> rfl) fun g4 Bg4 Fg4 => ?_
      refine wpL_s [(g4, .cells #[strV [52, 50, 71, 49], .int .u8 40, .bool false, .bool false] 77 (0, 0)), (g3, .cells #[strV [50, 50, 82, 49], .int .u8 20, .bool false, .bool true] 77 (0, 0)), (g2, .cells #[strV [50, 50, 71, 49], .int .u8 20, .bool false, .bool false] 77 (0, 0)), (g1, .cells #[.int .u8 0, .bool false, .bool false] 37 (0, 0))] rfl rfl (st_row (off := 0) (v := .agg #[strV [52, 50, 71, 49], .int .u8 40, .bool false, .bool false]) rfl (by kernel_rfl) (by kernel_rfl) (.head _) Bg4 (by kernel_rfl) (by simp [Value.cells]) (by intro v hv; simp [Value.cells] at hv; first | (subst hv; rfl) | (rcases hv with rfl | rfl | rfl | rfl <;> rfl)) (by kernel_rfl) (List.forall_mem_cons.2 ⟨.inl rfl, (List.forall_mem_cons.2 ⟨.inr ⟨(.tail _ (.head _)), (Fg4 _ (.head _))⟩, (List.forall_mem_cons.2 ⟨.inr ⟨(.tail _ (.tail _ (.head _))), (Fg4 _ (.tail _ (.head _)))⟩, (List.forall_mem_cons.2 ⟨.inr ⟨(.tail _ (.tail _ (.tail _ (.head _)))), (Fg4 _ (.tail _ (.tail _ (.head _))))⟩, (List.forall_mem_nil _)⟩)⟩)⟩)⟩)) ?_
      refine wpL_done (fun W12 hW12 => ?_)
      refine (show Code.wp _ _ _ _ _ from ?_)
      refine wp_seq ?_
      refine wp_region_L (W0 := w) [(g4, .cells #[strV [52, 50, 71, 49], .int .u8 40, .bool false, .bool false] 77 (0, 0)), (g3, .cells #[strV [50, 50, 82, 49], .int .u8 20, .bool false, .bool true] 77 (0, 0)), (g2, .cells #[strV [50, 50, 71, 49], .int .u8 20, .bool false, .bool false] 77 (0, 0)), (g1, .cells #[.int .u8 0, .bool false, .bool false] 37 (0, 0))] (hW12) ?_
      refine lm (v := .pointer (some ⟨g4, 0, none⟩)) rfl rfl ?_
      refine lv (v := strV [52, 50, 71, 49]) rfl rfl (yb_cell (off := 0) rfl (by kernel_rfl) (.head _) Tryd.underlying9 rfl (by kernel_rfl)) ?_
      refine lm (v := strV l) rfl rfl ?_
      refine lp (v := .bool (decide ([52, 50, 71, 49] = l))) rfl rfl (run_bin rfl (vx := strV [52, 50, 71, 49]) (vy := strV l) (by kernel_rfl) (by kernel_rfl) fun w => bs_eql rfl w) ?_
      refine wpL_done (fun W13 hW13 => ?_)
      refine (show Code.wp _ _ _ _ _ from ?_)
      cases hd3 : (decide ([52, 50, 71, 49] = l)) with
      | false =>
        have h3 : ¬ ([52, 50, 71, 49] = l) := of_decide_eq_false hd3
        clear hd3
        refine wp_cond_false rfl ?_
        refine wp_skip ?_
        refine (show Code.wp _ _ _ _ _ from ?_)
        refine wp_region_L (W0 := w) [(g4, .cells #[strV [52, 50, 71, 49], .int .u8 40, .bool false, .bool false] 77 (0, 0)), (g3, .cells #[strV [50, 50, 82, 49], .int .u8 20, .bool false, .bool true] 77 (0, 0)), (g2, .cells #[strV [50, 50, 71, 49], .int .u8 20, .bool false, .bool false] 77 (0, 0)), (g1, .cells #[.int .u8 0, .bool false, .bool false] 37 (0, 0))] (hW13) ?_
        refine lm (v := .int .i64 3) rfl rfl ?_
        refine lm (v := .int .i64 3) rfl rfl ?_
        refine wpL_done (fun W14 hW14 => ?_)
        refine (show Code.wp _ _ _ _ _ from ?_)
        refine wp_seq ?_
        refine wp_region_L (W0 := w) [(g4, .cells #[strV [52, 50, 71, 49], .int .u8 40, .bool false, .bool false] 77 (0, 0)), (g3, .cells #[strV [50, 50, 82, 49], .int .u8 20, .bool false, .bool true] 77 (0, 0)), (g2, .cells #[strV [50, 50, 71, 49], .int .u8 20, .bool false, .bool false] 77 (0, 0)), (g1, .cells #[.int .u8 0, .bool false, .bool false] 37 (0, 0))] (hW14) ?_
        refine lm (v := .bool true) rfl rfl ?_
        refine wpL_done (fun W15 hW15 => ?_)
        refine (show Code.wp _ _ _ _ _ from ?_)
        refine wp_seq ?_
        refine wp_cond_true rfl ?_
        refine wp_skip ?_
        refine (show Code.wp _ _ _ _ _ from ?_)
        refine wp_seq ?_
        refine wp_block ?_
        refine wp_seq ?_
        refine wp_region_L (W0 := w) [(g4, .cells #[strV [52, 50, 71, 49], .int .u8 40, .bool false, .bool false] 77 (0, 0)), (g3, .cells #[strV [50, 50, 82, 49], .int .u8 20, .bool false, .bool true] 77 (0, 0)), (g2, .cells #[strV [50, 50, 71, 49], .int .u8 20, .bool false, .bool false] 77 (0, 0)), (g1, .cells #[.int .u8 0, .bool false, .bool false] 37 (0, 0))] (hW15) ?_
        refine lm (v := .agg #[strV [52, 50, 82, 49], .int .u8 40, .bool false, .bool true]) rfl rfl ?_
        refine wpL_new (fun g => .pointer (some ⟨g, 0, none⟩)) (obi := .cells #[strV [], .int .u8 0, .bool false, .bool false] 77 (0, 0)) rfl rfl (fun _ => by kernel_rfl) (fun _ => by simp only [List.setIfInBounds_toArray, List.set_cons_succ, List.set_cons_zero] <;> rfl) fun g5 Bg5 Fg5 => ?_
        refine wpL_s [(g5, .cells #[strV [52, 50, 82, 49], .int .u8 40, .bool false, .bool true] 77 (0, 0)), (g4, .cells #[strV [52, 50, 71, 49], .int .u8 40, .bool false, .bool false] 77 (0, 0)), (g3, .cells #[strV [50, 50, 82, 49], .int .u8 20, .bool false, .bool true] 77 (0, 0)), (g2, .cells #[strV [50, 50, 71, 49], .int .u8 20, .bool false, .bool false] 77 (0, 0)), (g1, .cells #[.int .u8 0, .bool false, .bool false] 37 (0, 0))] rfl rfl (st_row (off := 0) (v := .agg #[strV [52, 50, 82, 49], .int .u8 40, .bool false, .bool true]) rfl (by kernel_rfl) (by kernel_rfl) (.head _) Bg5 (by kernel_rfl) (by simp [Value.cells]) (by intro v hv; simp [Value.cells] at hv; first | (subst hv; rfl) | (rcases hv with rfl | rfl | rfl | rfl <;> rfl)) (by kernel_rfl) (List.forall_mem_cons.2 ⟨.inl rfl, (List.forall_mem_cons.2 ⟨.inr ⟨(.tail _ (.head _)), (Fg5 _ (.head _))⟩, (List.forall_mem_cons.2 ⟨.inr ⟨(.tail _ (.tail _ (.head _))), (Fg5 _ (.tail _ (.head _)))⟩, (List.forall_mem_cons.2 ⟨.inr ⟨(.tail _ (.tail _ (.tail _ (.head _)))), (Fg5 _ (.tail _ (.tail _ (.head _))))⟩, (List.forall_mem_cons.2 ⟨.inr ⟨(.tail _ (.tail _ (.tail _ (.tail _ (.head _))))), (Fg5 _ (.tail _ (.tail _ (.tail _ (.head _)))))⟩, (List.forall_mem_nil _)⟩)⟩)⟩)⟩)⟩)) ?_
        refine wpL_done (fun W16 hW16 => ?_)
        refine (show Code.wp _ _ _ _ _ from ?_)
        refine wp_seq ?_
        refine wp_region_L (W0 := w) [(g5, .cells #[strV [52, 50, 82, 49], .int .u8 40, .bool false, .bool true] 77 (0, 0)), (g4, .cells #[strV [52, 50, 71, 49], .int .u8 40, .bool false, .bool false] 77 (0, 0)), (g3, .cells #[strV [50, 50, 82, 49], .int .u8 20, .bool false, .bool true] 77 (0, 0)), (g2, .cells #[strV [50, 50, 71, 49], .int .u8 20, .bool false, .bool false] 77 (0, 0)), (g1, .cells #[.int .u8 0, .bool false, .bool false] 37 (0, 0))] (hW16) ?_
        refine lm (v := .pointer (some ⟨g5, 0, none⟩)) rfl rfl ?_
        refine lv (v := strV [52, 50, 82, 49]) rfl rfl (yb_cell (off := 0) rfl (by kernel_rfl) (.head _) Tryd.underlying9 rfl (by kernel_rfl)) ?_
        refine lm (v := strV l) rfl rfl ?_
        refine lp (v := .bool (decide ([52, 50, 82, 49] = l))) rfl rfl (run_bin rfl (vx := strV [52, 50, 82, 49]) (vy := strV l) (by kernel_rfl) (by kernel_rfl) fun w => bs_eql rfl w) ?_
        refine wpL_done (fun W17 hW17 => ?_)
        refine (show Code.wp _ _ _ _ _ from ?_)
        cases hd4 : (decide ([52, 50, 82, 49] = l)) with
        | false =>
          have h4 : ¬ ([52, 50, 82, 49] = l) := of_decide_eq_false hd4
          clear hd4
          refine wp_cond_false rfl ?_
          refine wp_skip ?_
          refine (show Code.wp _ _ _ _ _ from ?_)
          refine wp_region_L (W0 := w) [(g5, .cells #[strV [52, 50, 82, 49], .int .u8 40, .bool false, .bool true] 77 (0, 0)), (g4, .cells #[strV [52, 50, 71, 49], .int .u8 40, .bool false, .bool false] 77 (0, 0)), (g3, .cells #[strV [50, 50, 82, 49], .int .u8 20, .bool false, .bool true] 77 (0, 0)), (g2, .cells #[strV [50, 50, 71, 49], .int .u8 20, .bool false, .bool false] 77 (0, 0)), (g1, .cells #[.int .u8 0, .bool false, .bool false] 37 (0, 0))] (hW17) ?_
          refine lm (v := .int .i64 4) rfl rfl ?_
          refine lm (v := .int .i64 4) rfl rfl ?_
          refine wpL_done (fun W18 hW18 => ?_)
          refine (show Code.wp _ _ _ _ _ from ?_)
          refine wp_seq ?_
          refine wp_region_L (W0 := w) [(g5, .cells #[strV [52, 50, 82, 49], .int .u8 40, .bool false, .bool true] 77 (0, 0)), (g4, .cells #[strV [52, 50, 71, 49], .int .u8 40, .bool false, .bool false] 77 (0, 0)), (g3, .cells #[strV [50, 50, 82, 49], .int .u8 20, .bool false, .bool true] 77 (0, 0)), (g2, .cells #[strV [50, 50, 71, 49], .int .u8 20, .bool false, .bool false] 77 (0, 0)), (g1, .cells #[.int .u8 0, .bool false, .bool false] 37 (0, 0))] (hW18) ?_
          refine lm (v := .bool true) rfl rfl ?_
          refine wpL_done (fun W19 hW19 => ?_)
          refine (show Code.wp _ _ _ _ _ from ?_)
          refine wp_seq ?_
          refine wp_cond_true rfl ?_
          refine wp_skip ?_
          refine (show Code.wp _ _ _ _ _ from ?_)
          refine wp_seq ?_
          refine wp_block ?_
          refine wp_seq ?_
          refine wp_region_L (W0 := w) [(g5, .cells #[strV [52, 50, 82, 49], .int .u8 40, .bool false, .bool true] 77 (0, 0)), (g4, .cells #[strV [52, 50, 71, 49], .int .u8 40, .bool false, .bool false] 77 (0, 0)), (g3, .cells #[strV [50, 50, 82, 49], .int .u8 20, .bool false, .bool true] 77 (0, 0)), (g2, .cells #[strV [50, 50, 71, 49], .int .u8 20, .bool false, .bool false] 77 (0, 0)), (g1, .cells #[.int .u8 0, .bool false, .bool false] 37 (0, 0))] (hW19) ?_
          refine lm (v := .agg #[strV [52, 53, 71, 49], .int .u8 40, .bool true, .bool false]) rfl rfl ?_
          refine wpL_new (fun g => .pointer (some ⟨g, 0, none⟩)) (obi := .cells #[strV [], .int .u8 0, .bool false, .bool false] 77 (0, 0)) rfl rfl (fun _ => by kernel_rfl) (fun _ => by simp only [List.setIfInBounds_toArray, List.set_cons_succ, List.set_cons_zero] <;> rfl) fun g6 Bg6 Fg6 => ?_
          refine wpL_s [(g6, .cells #[strV [52, 53, 71, 49], .int .u8 40, .bool true, .bool false] 77 (0, 0)), (g5, .cells #[strV [52, 50, 82, 49], .int .u8 40, .bool false, .bool true] 77 (0, 0)), (g4, .cells #[strV [52, 50, 71, 49], .int .u8 40, .bool false, .bool false] 77 (0, 0)), (g3, .cells #[strV [50, 50, 82, 49], .int .u8 20, .bool false, .bool true] 77 (0, 0)), (g2, .cells #[strV [50, 50, 71, 49], .int .u8 20, .bool false, .bool false] 77 (0, 0)), (g1, .cells #[.int .u8 0, .bool false, .bool false] 37 (0, 0))] rfl rfl (st_row (off := 0) (v := .agg #[strV [52, 53, 71, 49], .int .u8 40, .bool true, .bool false]) rfl (by kernel_rfl) (by kernel_rfl) (.head _) Bg6 (by kernel_rfl) (by simp [Value.cells]) (by intro v hv; simp [Value.cells] at hv; first | (subst hv; rfl) | (rcases hv with rfl | rfl | rfl | rfl <;> rfl)) (by kernel_rfl) (List.forall_mem_cons.2 ⟨.inl rfl, (List.forall_mem_cons.2 ⟨.inr ⟨(.tail _ (.head _)), (Fg6 _ (.head _))⟩, (List.forall_mem_cons.2 ⟨.inr ⟨(.tail _ (.tail _ (.head _))), (Fg6 _ (.tail _ (.head _)))⟩, (List.forall_mem_cons.2 ⟨.inr ⟨(.tail _ (.tail _ (.tail _ (.head _)))), (Fg6 _ (.tail _ (.tail _ (.head _))))⟩, (List.forall_mem_cons.2 ⟨.inr ⟨(.tail _ (.tail _ (.tail _ (.tail _ (.head _))))), (Fg6 _ (.tail _ (.tail _ (.tail _ (.head _)))))⟩, (List.forall_mem_cons.2 ⟨.inr ⟨(.tail _ (.tail _ (.tail _ (.tail _ (.tail _ (.head _)))))), (Fg6 _ (.tail _ (.tail _ (.tail _ (.tail _ (.head _))))))⟩, (List.forall_mem_nil _)⟩)⟩)⟩)⟩)⟩)⟩)) ?_
          refine wpL_done (fun W20 hW20 => ?_)
          refine (show Code.wp _ _ _ _ _ from ?_)
          refine wp_seq ?_
          refine wp_region_L (W0 := w) [(g6, .cells #[strV [52, 53, 71, 49], .int .u8 40, .bool true, .bool false] 77 (0, 0)), (g5, .cells #[strV [52, 50, 82, 49], .int .u8 40, .bool false, .bool true] 77 (0, 0)), (g4, .cells #[strV [52, 50, 71, 49], .int .u8 40, .bool false, .bool false] 77 (0, 0)), (g3, .cells #[strV [50, 50, 82, 49], .int .u8 20, .bool false, .bool true] 77 (0, 0)), (g2, .cells #[strV [50, 50, 71, 49], .int .u8 20, .bool false, .bool false] 77 (0, 0)), (g1, .cells #[.int .u8 0, .bool false, .bool false] 37 (0, 0))] (hW20) ?_
          refine lm (v := .pointer (some ⟨g6, 0, none⟩)) rfl rfl ?_
          refine lv (v := strV [52, 53, 71, 49]) rfl rfl (yb_cell (off := 0) rfl (by kernel_rfl) (.head _) Tryd.underlying9 rfl (by kernel_rfl)) ?_
          refine lm (v := strV l) rfl rfl ?_
          refine lp (v := .bool (decide ([52, 53, 71, 49] = l))) rfl rfl (run_bin rfl (vx := strV [52, 53, 71, 49]) (vy := strV l) (by kernel_rfl) (by kernel_rfl) fun w => bs_eql rfl w) ?_
          refine wpL_done (fun W21 hW21 => ?_)
          refine (show Code.wp _ _ _ _ _ from ?_)
          cases hd5 : (decide ([52, 53, 71, 49] = l)) with
          | false =>
            have h5 : ¬ ([52, 53, 71, 49] = l) := of_decide_eq_false hd5
            clear hd5
            refine wp_cond_false rfl ?_
            refine wp_skip ?_
            refine (show Code.wp _ _ _ _ _ from ?_)
            refine wp_region_L (W0 := w) [(g6, .cells #[strV [52, 53, 71, 49], .int .u8 40, .bool true, .bool false] 77 (0, 0)), (g5, .cells #[strV [52, 50, 82, 49], .int .u8 40, .bool false, .bool true] 77 (0, 0)), (g4, .cells #[strV [52, 50, 71, 49], .int .u8 40, .bool false, .bool false] 77 (0, 0)), (g3, .cells #[strV [50, 50, 82, 49], .int .u8 20, .bool false, .bool true] 77 (0, 0)), (g2, .cells #[strV [50, 50, 71, 49], .int .u8 20, .bool false, .bool false] 77 (0, 0)), (g1, .cells #[.int .u8 0, .bool false, .bool false] 37 (0, 0))] (hW21) ?_
            refine lm (v := .int .i64 5) rfl rfl ?_
            refine lm (v := .int .i64 5) rfl rfl ?_
            refine wpL_done (fun W22 hW22 => ?_)
            refine (show Code.wp _ _ _ _ _ from ?_)
            refine wp_seq ?_
            refine wp_region_L (W0 := w) [(g6, .cells #[strV [52, 53, 71, 49], .int .u8 40, .bool true, .bool false] 77 (0, 0)), (g5, .cells #[strV [52, 50, 82, 49], .int .u8 40, .bool false, .bool true] 77 (0, 0)), (g4, .cells #[strV [52, 50, 71, 49], .int .u8 40, .bool false, .bool false] 77 (0, 0)), (g3, .cells #[strV [50, 50, 82, 49], .int .u8 20, .bool false, .bool true] 77 (0, 0)), (g2, .cells #[strV [50, 50, 71, 49], .int .u8 20, .bool false, .bool false] 77 (0, 0)), (g1, .cells #[.int .u8 0, .bool false, .bool false] 37 (0, 0))] (hW22) ?_
            refine lm (v := .bool true) rfl rfl ?_
            refine wpL_done (fun W23 hW23 => ?_)
            refine (show Code.wp _ _ _ _ _ from ?_)
            refine wp_seq ?_
            refine wp_cond_true rfl ?_
            refine wp_skip ?_
            refine (show Code.wp _ _ _ _ _ from ?_)
            refine wp_seq ?_
            refine wp_block ?_
            refine wp_seq ?_
            refine wp_region_L (W0 := w) [(g6, .cells #[strV [52, 53, 71, 49], .int .u8 40, .bool true, .bool false] 77 (0, 0)), (g5, .cells #[strV [52, 50, 82, 49], .int .u8 40, .bool false, .bool true] 77 (0, 0)), (g4, .cells #[strV [52, 50, 71, 49], .int .u8 40, .bool false, .bool false] 77 (0, 0)), (g3, .cells #[strV [50, 50, 82, 49], .int .u8 20, .bool false, .bool true] 77 (0, 0)), (g2, .cells #[strV [50, 50, 71, 49], .int .u8 20, .bool false, .bool false] 77 (0, 0)), (g1, .cells #[.int .u8 0, .bool false, .bool false] 37 (0, 0))] (hW23) ?_
            refine lm (v := .agg #[strV [52, 53, 82, 49], .int .u8 40, .bool true, .bool true]) rfl rfl ?_
            refine wpL_new (fun g => .pointer (some ⟨g, 0, none⟩)) (obi := .cells #[strV [], .int .u8 0, .bool false, .bool false] 77 (0, 0)) rfl rfl (fun _ => by kernel_rfl) (fun _ => by simp only [List.setIfInBounds_toArray, List.set_cons_succ, List.set_cons_zero] <;> rfl) fun g7 Bg7 Fg7 => ?_
            refine wpL_s [(g7, .cells #[strV [52, 53, 82, 49], .int .u8 40, .bool true, .bool true] 77 (0, 0)), (g6, .cells #[strV [52, 53, 71, 49], .int .u8 40, .bool true, .bool false] 77 (0, 0)), (g5, .cells #[strV [52, 50, 82, 49], .int .u8 40, .bool false, .bool true] 77 (0, 0)), (g4, .cells #[strV [52, 50, 71, 49], .int .u8 40, .bool false, .bool false] 77 (0, 0)), (g3, .cells #[strV [50, 50, 82, 49], .int .u8 20, .bool false, .bool true] 77 (0, 0)), (g2, .cells #[strV [50, 50, 71, 49], .int .u8 20, .bool false, .bool false] 77 (0, 0)), (g1, .cells #[.int .u8 0, .bool false, .bool false] 37 (0, 0))] rfl rfl (st_row (off := 0) (v := .agg #[strV [52, 53, 82, 49], .int .u8 40, .bool true, .bool true]) rfl (by kernel_rfl) (by kernel_rfl) (.head _) Bg7 (by kernel_rfl) (by simp [Value.cells]) (by intro v hv; simp [Value.cells] at hv; first | (subst hv; rfl) | (rcases hv with rfl | rfl | rfl | rfl <;> rfl)) (by kernel_rfl) (List.forall_mem_cons.2 ⟨.inl rfl, (List.forall_mem_cons.2 ⟨.inr ⟨(.tail _ (.head _)), (Fg7 _ (.head _))⟩, (List.forall_mem_cons.2 ⟨.inr ⟨(.tail _ (.tail _ (.head _))), (Fg7 _ (.tail _ (.head _)))⟩, (List.forall_mem_cons.2 ⟨.inr ⟨(.tail _ (.tail _ (.tail _ (.head _)))), (Fg7 _ (.tail _ (.tail _ (.head _))))⟩, (List.forall_mem_cons.2 ⟨.inr ⟨(.tail _ (.tail _ (.tail _ (.tail _ (.head _))))), (Fg7 _ (.tail _ (.tail _ (.tail _ (.head _)))))⟩, (List.forall_mem_cons.2 ⟨.inr ⟨(.tail _ (.tail _ (.tail _ (.tail _ (.tail _ (.head _)))))), (Fg7 _ (.tail _ (.tail _ (.tail _ (.tail _ (.head _))))))⟩, (List.forall_mem_cons.2 ⟨.inr ⟨(.tail _ (.tail _ (.tail _ (.tail _ (.tail _ (.tail _ (.head _))))))), (Fg7 _ (.tail _ (.tail _ (.tail _ (.tail _ (.tail _ (.head _)))))))⟩, (List.forall_mem_nil _)⟩)⟩)⟩)⟩)⟩)⟩)⟩)) ?_
            refine wpL_done (fun W24 hW24 => ?_)
            refine (show Code.wp _ _ _ _ _ from ?_)
            refine wp_seq ?_
            refine wp_region_L (W0 := w) [(g7, .cells #[strV [52, 53, 82, 49], .int .u8 40, .bool true, .bool true] 77 (0, 0)), (g6, .cells #[strV [52, 53, 71, 49], .int .u8 40, .bool true, .bool false] 77 (0, 0)), (g5, .cells #[strV [52, 50, 82, 49], .int .u8 40, .bool false, .bool true] 77 (0, 0)), (g4, .cells #[strV [52, 50, 71, 49], .int .u8 40, .bool false, .bool false] 77 (0, 0)), (g3, .cells #[strV [50, 50, 82, 49], .int .u8 20, .bool false, .bool true] 77 (0, 0)), (g2, .cells #[strV [50, 50, 71, 49], .int .u8 20, .bool false, .bool false] 77 (0, 0)), (g1, .cells #[.int .u8 0, .bool false, .bool false] 37 (0, 0))] (hW24) ?_
            refine lm (v := .pointer (some ⟨g7, 0, none⟩)) rfl rfl ?_
            refine lv (v := strV [52, 53, 82, 49]) rfl rfl (yb_cell (off := 0) rfl (by kernel_rfl) (.head _) Tryd.underlying9 rfl (by kernel_rfl)) ?_
            refine lm (v := strV l) rfl rfl ?_
            refine lp (v := .bool (decide ([52, 53, 82, 49] = l))) rfl rfl (run_bin rfl (vx := strV [52, 53, 82, 49]) (vy := strV l) (by kernel_rfl) (by kernel_rfl) fun w => bs_eql rfl w) ?_
            refine wpL_done (fun W25 hW25 => ?_)
            refine (show Code.wp _ _ _ _ _ from ?_)
            cases hd6 : (decide ([52, 53, 82, 49] = l)) with
            | false =>
              have h6 : ¬ ([52, 53, 82, 49] = l) := of_decide_eq_false hd6
              clear hd6
              refine wp_cond_false rfl ?_
              refine wp_skip ?_
              refine (show Code.wp _ _ _ _ _ from ?_)
              refine wp_region_L (W0 := w) [(g7, .cells #[strV [52, 53, 82, 49], .int .u8 40, .bool true, .bool true] 77 (0, 0)), (g6, .cells #[strV [52, 53, 71, 49], .int .u8 40, .bool true, .bool false] 77 (0, 0)), (g5, .cells #[strV [52, 50, 82, 49], .int .u8 40, .bool false, .bool true] 77 (0, 0)), (g4, .cells #[strV [52, 50, 71, 49], .int .u8 40, .bool false, .bool false] 77 (0, 0)), (g3, .cells #[strV [50, 50, 82, 49], .int .u8 20, .bool false, .bool true] 77 (0, 0)), (g2, .cells #[strV [50, 50, 71, 49], .int .u8 20, .bool false, .bool false] 77 (0, 0)), (g1, .cells #[.int .u8 0, .bool false, .bool false] 37 (0, 0))] (hW25) ?_
              refine lm (v := .int .i64 6) rfl rfl ?_
              refine lm (v := .int .i64 6) rfl rfl ?_
              refine wpL_done (fun W26 hW26 => ?_)
              refine (show Code.wp _ _ _ _ _ from ?_)
              refine wp_seq ?_
              refine wp_region_L (W0 := w) [(g7, .cells #[strV [52, 53, 82, 49], .int .u8 40, .bool true, .bool true] 77 (0, 0)), (g6, .cells #[strV [52, 53, 71, 49], .int .u8 40, .bool true, .bool false] 77 (0, 0)), (g5, .cells #[strV [52, 50, 82, 49], .int .u8 40, .bool false, .bool true] 77 (0, 0)), (g4, .cells #[strV [52, 50, 71, 49], .int .u8 40, .bool false, .bool false] 77 (0, 0)), (g3, .cells #[strV [50, 50, 82, 49], .int .u8 20, .bool false, .bool true] 77 (0, 0)), (g2, .cells #[strV [50, 50, 71, 49], .int .u8 20, .bool false, .bool false] 77 (0, 0)), (g1, .cells #[.int .u8 0, .bool false, .bool false] 37 (0, 0))] (hW26) ?_
              refine lm (v := .bool false) rfl rfl ?_
              refine wpL_done (fun W27 hW27 => ?_)
              refine (show Code.wp _ _ _ _ _ from ?_)
              refine wp_seq ?_
              refine wp_cond_false rfl ?_
              refine wp_exit ?_
              refine (show Code.wp _ _ _ _ _ from ?_)
              refine wp_seq ?_
              refine wp_region_L (W0 := w) [(g7, .cells #[strV [52, 53, 82, 49], .int .u8 40, .bool true, .bool true] 77 (0, 0)), (g6, .cells #[strV [52, 53, 71, 49], .int .u8 40, .bool true, .bool false] 77 (0, 0)), (g5, .cells #[strV [52, 50, 82, 49], .int .u8 40, .bool false, .bool true] 77 (0, 0)), (g4, .cells #[strV [52, 50, 71, 49], .int .u8 40, .bool false, .bool false] 77 (0, 0)), (g3, .cells #[strV [50, 50, 82, 49], .int .u8 20, .bool false, .bool true] 77 (0, 0)), (g2, .cells #[strV [50, 50, 71, 49], .int .u8 20, .bool false, .bool false] 77 (0, 0)), (g1, .cells #[.int .u8 0, .bool false, .bool false] 37 (0, 0))] (hW27) ?_
              refine lm (v := .agg #[.int .u8 0, .bool false, .bool false]) rfl rfl ?_
              refine wpL_s [(g7, .cells #[strV [52, 53, 82, 49], .int .u8 40, .bool true, .bool true] 77 (0, 0)), (g6, .cells #[strV [52, 53, 71, 49], .int .u8 40, .bool true, .bool false] 77 (0, 0)), (g5, .cells #[strV [52, 50, 82, 49], .int .u8 40, .bool false, .bool true] 77 (0, 0)), (g4, .cells #[strV [52, 50, 71, 49], .int .u8 40, .bool false, .bool false] 77 (0, 0)), (g3, .cells #[strV [50, 50, 82, 49], .int .u8 20, .bool false, .bool true] 77 (0, 0)), (g2, .cells #[strV [50, 50, 71, 49], .int .u8 20, .bool false, .bool false] 77 (0, 0)), (g1, .cells #[.int .u8 0, .bool false, .bool false] 37 (0, 0))] rfl rfl (st_row (off := 0) (v := .agg #[.int .u8 0, .bool false, .bool false]) rfl (by kernel_rfl) (by kernel_rfl) (.tail _ (.tail _ (.tail _ (.tail _ (.tail _ (.tail _ (.head _))))))) Bg1 (by kernel_rfl) (by simp [Value.cells]) (by intro v hv; simp [Value.cells] at hv; first | (subst hv; rfl) | (rcases hv with rfl | rfl | rfl <;> rfl)) (by kernel_rfl) (List.forall_mem_cons.2 ⟨.inr ⟨(.head _), (Ne.symm (Fg7 _ (.tail _ (.tail _ (.tail _ (.tail _ (.tail _ (.head _))))))))⟩, (List.forall_mem_cons.2 ⟨.inr ⟨(.tail _ (.head _)), (Ne.symm (Fg6 _ (.tail _ (.tail _ (.tail _ (.tail _ (.head _)))))))⟩, (List.forall_mem_cons.2 ⟨.inr ⟨(.tail _ (.tail _ (.head _))), (Ne.symm (Fg5 _ (.tail _ (.tail _ (.tail _ (.head _))))))⟩, (List.forall_mem_cons.2 ⟨.inr ⟨(.tail _ (.tail _ (.tail _ (.head _)))), (Ne.symm (Fg4 _ (.tail _ (.tail _ (.head _)))))⟩, (List.forall_mem_cons.2 ⟨.inr ⟨(.tail _ (.tail _ (.tail _ (.tail _ (.head _))))), (Ne.symm (Fg3 _ (.tail _ (.head _))))⟩, (List.forall_mem_cons.2 ⟨.inr ⟨(.tail _ (.tail _ (.tail _ (.tail _ (.tail _ (.head _)))))), (Ne.symm (Fg2 _ (.head _)))⟩, (List.forall_mem_cons.2 ⟨.inl rfl, (List.forall_mem_nil _)⟩)⟩)⟩)⟩)⟩)⟩)⟩)) ?_
              refine lm (v := .int .i64 32) rfl rfl ?_
              refine wpL_done (fun W28 hW28 => ?_)
              refine (show Code.wp _ _ _ _ _ from ?_)
              refine wp_ret ?_
              try simp only [inBlock_ret, then_ret]
              refine bodyPost_ret (v := .tuple #[.agg #[.int .u8 0, .bool false, .bool false], .int .i64 32]) ?_ rfl ?_
              · exact (res_cell_tmp (p := 2) (q := 3) rfl rfl (hW28.2 _ (.tail _ (.tail _ (.tail _ (.tail _ (.tail _ (.tail _ (.head _)))))))) Tryd.underlying37 rfl (by kernel_rfl))
              · exact ⟨(by unfold sizeV; rw [if_neg h1, if_neg h2, if_neg h3, if_neg h4, if_neg h5, if_neg h6]), hW28.1⟩
            | true =>
              have h6 : [52, 53, 82, 49] = l := of_decide_eq_true hd6
              clear hd6
              refine wp_cond_true rfl ?_
              refine wp_seq ?_
              refine wp_region_L (W0 := w) [(g7, .cells #[strV [52, 53, 82, 49], .int .u8 40, .bool true, .bool true] 77 (0, 0)), (g6, .cells #[strV [52, 53, 71, 49], .int .u8 40, .bool true, .bool false] 77 (0, 0)), (g5, .cells #[strV [52, 50, 82, 49], .int .u8 40, .bool false, .bool true] 77 (0, 0)), (g4, .cells #[strV [52, 50, 71, 49], .int .u8 40, .bool false, .bool false] 77 (0, 0)), (g3, .cells #[strV [50, 50, 82, 49], .int .u8 20, .bool false, .bool true] 77 (0, 0)), (g2, .cells #[strV [50, 50, 71, 49], .int .u8 20, .bool false, .bool false] 77 (0, 0)), (g1, .cells #[.int .u8 0, .bool false, .bool false] 37 (0, 0))] (hW25) ?_
              refine lm (v := .pointer (some ⟨g7, 1, none⟩)) rfl rfl ?_
              refine lv (v := .agg #[.int .u8 40, .bool true, .bool true]) rfl rfl (yb_load (n := 3) (off := 1) rfl (by kernel_rfl) (.head _) Tryd.underlying37 rfl (by kernel_rfl) (by simp) (by kernel_rfl)) ?_
              refine wpL_s [(g7, .cells #[strV [52, 53, 82, 49], .int .u8 40, .bool true, .bool true] 77 (0, 0)), (g6, .cells #[strV [52, 53, 71, 49], .int .u8 40, .bool true, .bool false] 77 (0, 0)), (g5, .cells #[strV [52, 50, 82, 49], .int .u8 40, .bool false, .bool true] 77 (0, 0)), (g4, .cells #[strV [52, 50, 71, 49], .int .u8 40, .bool false, .bool false] 77 (0, 0)), (g3, .cells #[strV [50, 50, 82, 49], .int .u8 20, .bool false, .bool true] 77 (0, 0)), (g2, .cells #[strV [50, 50, 71, 49], .int .u8 20, .bool false, .bool false] 77 (0, 0)), (g1, .cells #[.int .u8 40, .bool true, .bool true] 37 (0, 0))] rfl rfl (st_row (off := 0) (v := .agg #[.int .u8 40, .bool true, .bool true]) rfl (by kernel_rfl) (by kernel_rfl) (.tail _ (.tail _ (.tail _ (.tail _ (.tail _ (.tail _ (.head _))))))) Bg1 (by kernel_rfl) (by simp [Value.cells]) (by intro v hv; simp [Value.cells] at hv; first | (subst hv; rfl) | (rcases hv with rfl | rfl | rfl <;> rfl)) (by kernel_rfl) (List.forall_mem_cons.2 ⟨.inr ⟨(.head _), (Ne.symm (Fg7 _ (.tail _ (.tail _ (.tail _ (.tail _ (.tail _ (.head _))))))))⟩, (List.forall_mem_cons.2 ⟨.inr ⟨(.tail _ (.head _)), (Ne.symm (Fg6 _ (.tail _ (.tail _ (.tail _ (.tail _ (.head _)))))))⟩, (List.forall_mem_cons.2 ⟨.inr ⟨(.tail _ (.tail _ (.head _))), (Ne.symm (Fg5 _ (.tail _ (.tail _ (.tail _ (.head _))))))⟩, (List.forall_mem_cons.2 ⟨.inr ⟨(.tail _ (.tail _ (.tail _ (.head _)))), (Ne.symm (Fg4 _ (.tail _ (.tail _ (.head _)))))⟩, (List.forall_mem_cons.2 ⟨.inr ⟨(.tail _ (.tail _ (.tail _ (.tail _ (.head _))))), (Ne.symm (Fg3 _ (.tail _ (.head _))))⟩, (List.forall_mem_cons.2 ⟨.inr ⟨(.tail _ (.tail _ (.tail _ (.tail _ (.tail _ (.head _)))))), (Ne.symm (Fg2 _ (.head _)))⟩, (List.forall_mem_cons.2 ⟨.inl rfl, (List.forall_mem_nil _)⟩)⟩)⟩)⟩)⟩)⟩)⟩)) ?_
              refine lm (v := .int .i64 0) rfl rfl ?_
              refine wpL_done (fun W29 hW29 => ?_)
              refine (show Code.wp _ _ _ _ _ from ?_)
              refine wp_ret ?_
              try simp only [inBlock_ret, then_ret]
              refine bodyPost_ret (v := .tuple #[.agg #[.int .u8 40, .bool true, .bool true], .int .i64 0]) ?_ rfl ?_
              · exact (res_cell_tmp (p := 2) (q := 3) rfl rfl (hW29.2 _ (.tail _ (.tail _ (.tail _ (.tail _ (.tail _ (.tail _ (.head _)))))))) Tryd.underlying37 rfl (by kernel_rfl))
              · exact ⟨(by unfold sizeV; rw [if_neg h1, if_neg h2, if_neg h3, if_neg h4, if_neg h5, if_pos h6]), hW29.1⟩
          | true =>
            have h5 : [52, 53, 71, 49] = l := of_decide_eq_true hd5
            clear hd5
            refine wp_cond_true rfl ?_
            refine wp_seq ?_
            refine wp_region_L (W0 := w) [(g6, .cells #[strV [52, 53, 71, 49], .int .u8 40, .bool true, .bool false] 77 (0, 0)), (g5, .cells #[strV [52, 50, 82, 49], .int .u8 40, .bool false, .bool true] 77 (0, 0)), (g4, .cells #[strV [52, 50, 71, 49], .int .u8 40, .bool false, .bool false] 77 (0, 0)), (g3, .cells #[strV [50, 50, 82, 49], .int .u8 20, .bool false, .bool true] 77 (0, 0)), (g2, .cells #[strV [50, 50, 71, 49], .int .u8 20, .bool false, .bool false] 77 (0, 0)), (g1, .cells #[.int .u8 0, .bool false, .bool false] 37 (0, 0))] (hW21) ?_
            refine lm (v := .pointer (some ⟨g6, 1, none⟩)) rfl rfl ?_
            refine lv (v := .agg #[.int .u8 40, .bool true, .bool false]) rfl rfl (yb_load (n := 3) (off := 1) rfl (by kernel_rfl) (.head _) Tryd.underlying37 rfl (by kernel_rfl) (by simp) (by kernel_rfl)) ?_
            refine wpL_s [(g6, .cells #[strV [52, 53, 71, 49], .int .u8 40, .bool true, .bool false] 77 (0, 0)), (g5, .cells #[strV [52, 50, 82, 49], .int .u8 40, .bool false, .bool true] 77 (0, 0)), (g4, .cells #[strV [52, 50, 71, 49], .int .u8 40, .bool false, .bool false] 77 (0, 0)), (g3, .cells #[strV [50, 50, 82, 49], .int .u8 20, .bool false, .bool true] 77 (0, 0)), (g2, .cells #[strV [50, 50, 71, 49], .int .u8 20, .bool false, .bool false] 77 (0, 0)), (g1, .cells #[.int .u8 40, .bool true, .bool false] 37 (0, 0))] rfl rfl (st_row (off := 0) (v := .agg #[.int .u8 40, .bool true, .bool false]) rfl (by kernel_rfl) (by kernel_rfl) (.tail _ (.tail _ (.tail _ (.tail _ (.tail _ (.head _)))))) Bg1 (by kernel_rfl) (by simp [Value.cells]) (by intro v hv; simp [Value.cells] at hv; first | (subst hv; rfl) | (rcases hv with rfl | rfl | rfl <;> rfl)) (by kernel_rfl) (List.forall_mem_cons.2 ⟨.inr ⟨(.head _), (Ne.symm (Fg6 _ (.tail _ (.tail _ (.tail _ (.tail _ (.head _)))))))⟩, (List.forall_mem_cons.2 ⟨.inr ⟨(.tail _ (.head _)), (Ne.symm (Fg5 _ (.tail _ (.tail _ (.tail _ (.head _))))))⟩, (List.forall_mem_cons.2 ⟨.inr ⟨(.tail _ (.tail _ (.head _))), (Ne.symm (Fg4 _ (.tail _ (.tail _ (.head _)))))⟩, (List.forall_mem_cons.2 ⟨.inr ⟨(.tail _ (.tail _ (.tail _ (.head _)))), (Ne.symm (Fg3 _ (.tail _ (.head _))))⟩, (List.forall_mem_cons.2 ⟨.inr ⟨(.tail _ (.tail _ (.tail _ (.tail _ (.head _))))), (Ne.symm (Fg2 _ (.head _)))⟩, (List.forall_mem_cons.2 ⟨.inl rfl, (List.forall_mem_nil _)⟩)⟩)⟩)⟩)⟩)⟩)) ?_
            refine lm (v := .int .i64 0) rfl rfl ?_
            refine wpL_done (fun W30 hW30 => ?_)
            refine (show Code.wp _ _ _ _ _ from ?_)
            refine wp_ret ?_
            try simp only [inBlock_ret, then_ret]
            refine bodyPost_ret (v := .tuple #[.agg #[.int .u8 40, .bool true, .bool false], .int .i64 0]) ?_ rfl ?_
            · exact (res_cell_tmp (p := 2) (q := 3) rfl rfl (hW30.2 _ (.tail _ (.tail _ (.tail _ (.tail _ (.tail _ (.head _))))))) Tryd.underlying37 rfl (by kernel_rfl))
            · exact ⟨(by unfold sizeV; rw [if_neg h1, if_neg h2, if_neg h3, if_neg h4, if_pos h5]), hW30.1⟩
        | true =>
          have h4 : [52, 50, 82, 49] = l := of_decide_eq_true hd4
          clear hd4
          refine wp_cond_true rfl ?_
          refine wp_seq ?_
          refine wp_region_L (W0 := w) [(g5, .cells #[strV [52, 50, 82, 49], .int .u8 40, .bool false, .bool true] 77 (0, 0)), (g4, .cells #[strV [52, 50, 71, 49], .int .u8 40, .bool false, .bool false] 77 (0, 0)), (g3, .cells #[strV [50, 50, 82, 49], .int .u8 20, .bool false, .bool true] 77 (0, 0)), (g2, .cells #[strV [50, 50, 71, 49], .int .u8 20, .bool false, .bool false] 77 (0, 0)), (g1, .cells #[.int .u8 0, .bool false, .bool false] 37 (0, 0))] (hW17) ?_
          refine lm (v := .pointer (some ⟨g5, 1, none⟩)) rfl rfl ?_
          refine lv (v := .agg #[.int .u8 40, .bool false, .bool true]) rfl rfl (yb_load (n := 3) (off := 1) rfl (by kernel_rfl) (.head _) Tryd.underlying37 rfl (by kernel_rfl) (by simp) (by kernel_rfl)) ?_
          refine wpL_s [(g5, .cells #[strV [52, 50, 82, 49], .int .u8 40, .bool false, .bool true] 77 (0, 0)), (g4, .cells #[strV [52, 50, 71, 49], .int .u8 40, .bool false, .bool false] 77 (0, 0)), (g3, .cells #[strV [50, 50, 82, 49], .int .u8 20, .bool false, .bool true] 77 (0, 0)), (g2, .cells #[strV [50, 50, 71, 49], .int .u8 20, .bool false, .bool false] 77 (0, 0)), (g1, .cells #[.int .u8 40, .bool false, .bool true] 37 (0, 0))] rfl rfl (st_row (off := 0) (v := .agg #[.int .u8 40, .bool false, .bool true]) rfl (by kernel_rfl) (by kernel_rfl) (.tail _ (.tail _ (.tail _ (.tail _ (.head _))))) Bg1 (by kernel_rfl) (by simp [Value.cells]) (by intro v hv; simp [Value.cells] at hv; first | (subst hv; rfl) | (rcases hv with rfl | rfl | rfl <;> rfl)) (by kernel_rfl) (List.forall_mem_cons.2 ⟨.inr ⟨(.head _), (Ne.symm (Fg5 _ (.tail _ (.tail _ (.tail _ (.head _))))))⟩, (List.forall_mem_cons.2 ⟨.inr ⟨(.tail _ (.head _)), (Ne.symm (Fg4 _ (.tail _ (.tail _ (.head _)))))⟩, (List.forall_mem_cons.2 ⟨.inr ⟨(.tail _ (.tail _ (.head _))), (Ne.symm (Fg3 _ (.tail _ (.head _))))⟩, (List.forall_mem_cons.2 ⟨.inr ⟨(.tail _ (.tail _ (.tail _ (.head _)))), (Ne.symm (Fg2 _ (.head _)))⟩, (List.forall_mem_cons.2 ⟨.inl rfl, (List.forall_mem_nil _)⟩)⟩)⟩)⟩)⟩)) ?_
          refine lm (v := .int .i64 0) rfl rfl ?_
          refine wpL_done (fun W31 hW31 => ?_)
          refine (show Code.wp _ _ _ _ _ from ?_)
          refine wp_ret ?_
          try simp only [inBlock_ret, then_ret]
          refine bodyPost_ret (v := .tuple #[.agg #[.int .u8 40, .bool false, .bool true], .int .i64 0]) ?_ rfl ?_
          · exact (res_cell_tmp (p := 2) (q := 3) rfl rfl (hW31.2 _ (.tail _ (.tail _ (.tail _ (.tail _ (.head _)))))) Tryd.underlying37 rfl (by kernel_rfl))
          · exact ⟨(by unfold sizeV; rw [if_neg h1, if_neg h2, if_neg h3, if_pos h4]), hW31.1⟩
      | true =>
        have h3 : [52, 50, 71, 49] = l := of_decide_eq_true hd3
        clear hd3
        refine wp_cond_true rfl ?_
        refine wp_seq ?_
        refine wp_region_L (W0 := w) [(g4, .cells #[strV [52, 50, 71, 49], .int .u8 40, .bool false, .bool false] 77 (0, 0)), (g3, .cells #[strV [50, 50, 82, 49], .int .u8 20, .bool false, .bool true] 77 (0, 0)), (g2, .cells #[strV [50, 50, 71, 49], .int .u8 20, .bool false, .bool false] 77 (0, 0)), (g1, .cells #[.int .u8 0, .bool false, .bool false] 37 (0, 0))] (hW13) ?_
        refine lm (v := .pointer (some ⟨g4, 1, none⟩)) rfl rfl ?_
        refine lv (v := .agg #[.int .u8 40, .bool false, .bool false]) rfl rfl (yb_load (n := 3) (off := 1) rfl (by kernel_rfl) (.head _) Tryd.underlying37 rfl (by kernel_rfl) (by simp) (by kernel_rfl)) ?_
        refine wpL_s [(g4, .cells #[strV [52, 50, 71, 49], .int .u8 40, .bool false, .bool false] 77 (0, 0)), (g3, .cells #[strV [50, 50, 82, 49], .int .u8 20, .bool false, .bool true] 77 (0, 0)), (g2, .cells #[strV [50, 50, 71, 49], .int .u8 20, .bool false, .bool false] 77 (0, 0)), (g1, .cells #[.int .u8 40, .bool false, .bool false] 37 (0, 0))] rfl rfl (st_row (off := 0) (v := .agg #[.int .u8 40, .bool false, .bool false]) rfl (by kernel_rfl) (by kernel_rfl) (.tail _ (.tail _ (.tail _ (.head _)))) Bg1 (by kernel_rfl) (by simp [Value.cells]) (by intro v hv; simp [Value.cells] at hv; first | (subst hv; rfl) | (rcases hv with rfl | rfl | rfl <;> rfl)) (by kernel_rfl) (List.forall_mem_cons.2 ⟨.inr ⟨(.head _), (Ne.symm (Fg4 _ (.tail _ (.tail _ (.head _)))))⟩, (List.forall_mem_cons.2 ⟨.inr ⟨(.tail _ (.head _)), (Ne.symm (Fg3 _ (.tail _ (.head _))))⟩, (List.forall_mem_cons.2 ⟨.inr ⟨(.tail _ (.tail _ (.head _))), (Ne.symm (Fg2 _ (.head _)))⟩, (List.forall_mem_cons.2 ⟨.inl rfl, (List.forall_mem_nil _)⟩)⟩)⟩)⟩)) ?_
        refine lm (v := .int .i64 0) rfl rfl ?_
        refine wpL_done (fun W32 hW32 => ?_)
        refine (show Code.wp _ _ _ _ _ from ?_)
        refine wp_ret ?_
        try simp only [inBlock_ret, then_ret]
        refine bodyPost_ret (v := .tuple #[.agg #[.int .u8 40, .bool false, .bool false], .int .i64 0]) ?_ rfl ?_
        · exact (res_cell_tmp (p := 2) (q := 3) rfl rfl (hW32.2 _ (.tail _ (.tail _ (.tail _ (.head _))))) Tryd.underlying37 rfl (by kernel_rfl))
        · exact ⟨(by unfold sizeV; rw [if_neg h1, if_neg h2, if_pos h3]), hW32.1⟩
    | true =>
      have h2 : [50, 50, 82, 49] = l := of_decide_eq_true hd2
      clear hd2
      refine wp_cond_true rfl ?_
      refine wp_seq ?_
      refine wp_region_L (W0 := w) [(g3, .cells #[strV [50, 50, 82, 49], .int .u8 20, .bool false, .bool true] 77 (0, 0)), (g2, .cells #[strV [50, 50, 71, 49], .int .u8 20, .bool false, .bool false] 77 (0, 0)), (g1, .cells #[.int .u8 0, .bool false, .bool false] 37 (0, 0))] (hW9) ?_
      refine lm (v := .pointer (some ⟨g3, 1, none⟩)) rfl rfl ?_
      refine lv (v := .agg #[.int .u8 20, .bool false, .bool true]) rfl rfl (yb_load (n := 3) (off := 1) rfl (by kernel_rfl) (.head _) Tryd.underlying37 rfl (by kernel_rfl) (by simp) (by kernel_rfl)) ?_
      refine wpL_s [(g3, .cells #[strV [50, 50, 82, 49], .int .u8 20, .bool false, .bool true] 77 (0, 0)), (g2, .cells #[strV [50, 50, 71, 49], .int .u8 20, .bool false, .bool false] 77 (0, 0)), (g1, .cells #[.int .u8 20, .bool false, .bool true] 37 (0, 0))] rfl rfl (st_row (off := 0) (v := .agg #[.int .u8 20, .bool false, .bool true]) rfl (by kernel_rfl) (by kernel_rfl) (.tail _ (.tail _ (.head _))) Bg1 (by kernel_rfl) (by simp [Value.cells]) (by intro v hv; simp [Value.cells] at hv; first | (subst hv; rfl) | (rcases hv with rfl | rfl | rfl <;> rfl)) (by kernel_rfl) (List.forall_mem_cons.2 ⟨.inr ⟨(.head _), (Ne.symm (Fg3 _ (.tail _ (.head _))))⟩, (List.forall_mem_cons.2 ⟨.inr ⟨(.tail _ (.head _)), (Ne.symm (Fg2 _ (.head _)))⟩, (List.forall_mem_cons.2 ⟨.inl rfl, (List.forall_mem_nil _)⟩)⟩)⟩)) ?_
      refine lm (v := .int .i64 0) rfl rfl ?_
      refine wpL_done (fun W33 hW33 => ?_)
      refine (show Code.wp _ _ _ _ _ from ?_)
      refine wp_ret ?_
      try simp only [inBlock_ret, then_ret]
      refine bodyPost_ret (v := .tuple #[.agg #[.int .u8 20, .bool false, .bool true], .int .i64 0]) ?_ rfl ?_
      · exact (res_cell_tmp (p := 2) (q := 3) rfl rfl (hW33.2 _ (.tail _ (.tail _ (.head _)))) Tryd.underlying37 rfl (by kernel_rfl))
      · exact ⟨(by unfold sizeV; rw [if_neg h1, if_pos h2]), hW33.1⟩
  | true =>
    have h1 : [50, 50, 71, 49] = l := of_decide_eq_true hd1
    clear hd1
    refine wp_cond_true rfl ?_
    refine wp_seq ?_
    refine wp_region_L (W0 := w) [(g2, .cells #[strV [50, 50, 71, 49], .int .u8 20, .bool false, .bool false] 77 (0, 0)), (g1, .cells #[.int .u8 0, .bool false, .bool false] 37 (0, 0))] (hW5) ?_
    refine lm (v := .pointer (some ⟨g2, 1, none⟩)) rfl rfl ?_
    refine lv (v := .agg #[.int .u8 20, .bool false, .bool false]) rfl rfl (yb_load (n := 3) (off := 1) rfl (by kernel_rfl) (.head _) Tryd.underlying37 rfl (by kernel_rfl) (by simp) (by kernel_rfl)) ?_
    refine wpL_s [(g2, .cells #[strV [50, 50, 71, 49], .int .u8 20, .bool false, .bool false] 77 (0, 0)), (g1, .cells #[.int .u8 20, .bool false, .bool false] 37 (0, 0))] rfl rfl (st_row (off := 0) (v := .agg #[.int .u8 20, .bool false, .bool false]) rfl (by kernel_rfl) (by kernel_rfl) (.tail _ (.head _)) Bg1 (by kernel_rfl) (by simp [Value.cells]) (by intro v hv; simp [Value.cells] at hv; first | (subst hv; rfl) | (rcases hv with rfl | rfl | rfl <;> rfl)) (by kernel_rfl) (List.forall_mem_cons.2 ⟨.inr ⟨(.head _), (Ne.symm (Fg2 _ (.head _)))⟩, (List.forall_mem_cons.2 ⟨.inl rfl, (List.forall_mem_nil _)⟩)⟩)) ?_
    refine lm (v := .int .i64 0) rfl rfl ?_
    refine wpL_done (fun W34 hW34 => ?_)
    refine (show Code.wp _ _ _ _ _ from ?_)
    refine wp_ret ?_
    try simp only [inBlock_ret, then_ret]
    refine bodyPost_ret (v := .tuple #[.agg #[.int .u8 20, .bool false, .bool false], .int .i64 0]) ?_ rfl ?_
    · exact (res_cell_tmp (p := 2) (q := 3) rfl rfl (hW34.2 _ (.tail _ (.head _))) Tryd.underlying37 rfl (by kernel_rfl))
    · exact ⟨(by unfold sizeV; rw [if_pos h1]), hW34.1⟩
set_option maxRecDepth 100000 in
set_option maxHeartbeats 4000000 in
theorem Code_any (n : Nat) (h r : Bool) (w : World) (hE : Env w) : Calls Tryd.prog 43 #[.agg #[.int .u8 ((n : Nat) : Int), .bool h, .bool r]] w fun e w' => e = .returned (codeV n h r) ∧ Below w.heap.size w w' := by
  have HE := Lib.hid hE
  clear hE
  go_enter Tryd.func43, Tryd.ntmps43
  refine wp_seq ?_
  refine wp_region_L (W0 := w) [] (KS.start w) ?_
  refine wpL_new (fun g => .pointer (some ⟨g, 0, none⟩)) (obi := .cells #[.int .u8 ((n : Nat) : Int), .bool h, .bool r] 37 (0, 0)) rfl rfl (fun _ => by kernel_rfl) (fun _ => by simp only [List.setIfInBounds_toArray, List.set_cons_succ, List.set_cons_zero] <;> rfl) fun g1 Bg1 Fg1 => ?_
  refine lm (v := strV []) rfl rfl ?_
  refine lm (v := .int .i64 0) rfl rfl ?_
  refine wpL_done (fun W1 hW1 => ?_)
  refine (show Code.wp _ _ _ _ _ from ?_)
  refine wp_seq ?_
  refine wp_seq ?_
  refine wp_region_L (W0 := w) [(g1, .cells #[.int .u8 ((n : Nat) : Int), .bool h, .bool r] 37 (0, 0))] (hW1) ?_
  refine lv (v := .agg #[strV [50, 50, 71, 49], .int .u8 20, .bool false, .bool false, strV [50, 50, 82, 49], .int .u8 20, .bool false, .bool true, strV [52, 50, 71, 49], .int .u8 40, .bool false, .bool false, strV [52, 50, 82, 49], .int .u8 40, .bool false, .bool true, strV [52, 53, 71, 49], .int .u8 40, .bool true, .bool false, strV [52, 53, 82, 49], .int .u8 40, .bool true, .bool true]) rfl rfl (yb_olds (cs := kindsL) rfl (by kernel_rfl) HE.out.cells HE.out.lt Tryd.underlying78 rfl (by kernel_rfl)) ?_
  refine lm (v := .int .i64 0) rfl rfl ?_
  refine wpL_done (fun W2 hW2 => ?_)
  refine (show Code.wp _ _ _ _ _ from ?_)
  refine wp_block ?_
  refine wp_loop_rounds 7 ?_
  refine (show Code.wp _ _ _ _ _ from ?_)
  refine wp_seq ?_
  refine wp_region_L (W0 := w) [(g1, .cells #[.int .u8 ((n : Nat) : Int), .bool h, .bool r] 37 (0, 0))] (hW2) ?_
  refine lm (v := .bool true) rfl rfl ?_
  refine wpL_done (fun W3 hW3 => ?_)
  refine (show Code.wp _ _ _ _ _ from ?_)
  refine wp_seq ?_
  refine wp_cond_true rfl ?_
  refine wp_skip ?_
  refine (show Code.wp _ _ _ _ _ from ?_)
  refine wp_seq ?_
  refine wp_block ?_
  refine wp_seq ?_
  refine wp_region_L (W0 := w) [(g1, .cells #[.int .u8 ((n : Nat) : Int), .bool h, .bool r] 37 (0, 0))] (hW3) ?_
  refine lm (v := .agg #[strV [50, 50, 71, 49], .int .u8 20, .bool false, .bool false]) rfl rfl ?_
  refine wpL_new (fun g => .pointer (some ⟨g, 0, none⟩)) (obi := .cells #[strV [], .int .u8 0, .bool false, .bool false] 77 (0, 0)) rfl rfl (fun _ => by kernel_rfl) (fun _ => by simp only [List.setIfInBounds_toArray, List.set_cons_succ, List.set_cons_zero] <;> rfl) fun g2 Bg2 Fg2 => ?_
  refine wpL_s [(g2, .cells #[strV [50, 50, 71, 49], .int .u8 20, .bool false, .bool false] 77 (0, 0)), (g1, .cells #[.int .u8 ((n : Nat) : Int), .bool h, .bool r] 37 (0, 0))] rfl rfl (st_row (off := 0) (v := .agg #[strV [50, 50, 71, 49], .int .u8 20, .bool false, .bool false]) rfl (by kernel_rfl) (by kernel_rfl) (.head _) Bg2 (by kernel_rfl) (by simp [Value.cells]) (by intro v hv; simp [Value.cells] at hv; first | (subst hv; rfl) | (rcases hv with rfl | rfl | rfl | rfl <;> rfl)) (by kernel_rfl) (List.forall_mem_cons.2 ⟨.inl rfl, (List.forall_mem_cons.2 ⟨.inr ⟨(.tail _ (.head _)), (Fg2 _ (.head _))⟩, (List.forall_mem_nil _)⟩)⟩)) ?_
  refine wpL_done (fun W4 hW4 => ?_)
  refine (show Code.wp _ _ _ _ _ from ?_)
  refine wp_seq ?_
  refine wp_region_L (W0 := w) [(g2, .cells #[strV [50, 50, 71, 49], .int .u8 20, .bool false, .bool false] 77 (0, 0)), (g1, .cells #[.int .u8 ((n : Nat) : Int), .bool h, .bool r] 37 (0, 0))] (hW4) ?_
  refine lm (v := .pointer (some ⟨g2, 1, none⟩)) rfl rfl ?_
  refine lv (v := .agg #[.int .u8 20, .bool false, .bool false]) rfl rfl (yb_load (n := 3) (off := 1) rfl (by kernel_rfl) (.head _) Tryd.underlying37 rfl (by kernel_rfl) (by simp) (by kernel_rfl)) ?_
  refine lv (v := .agg #[.int .u8 ((n : Nat) : Int), .bool h, .bool r]) rfl rfl (yb_load (n := 3) (off := 0) rfl (by kernel_rfl) (.tail _ (.head _)) Tryd.underlying37 rfl (by kernel_rfl) (by simp) (by kernel_rfl)) ?_
  refine lp (v := .bool (decide (20 = n ∧ false = h ∧ false = r))) rfl rfl (run_bin rfl (vx := .agg #[.int .u8 ((20 : Nat) : Int), .bool false, .bool false]) (vy := .agg #[.int .u8 ((n : Nat) : Int), .bool h, .bool r]) (by kernel_rfl) (by kernel_rfl) fun w => eq_kind rfl w) ?_
  refine wpL_done (fun W5 hW5 => ?_)
  refine (show Code.wp _ _ _ _ _ from ?_)
  cases hd1 : (decide (20 = n ∧ false = h ∧ false = r)) with
  | false =>
    have h1 : ¬ (20 = n ∧ false = h ∧ false = r) := of_decide_eq_false hd1
    clear hd1
    refine wp_cond_false rfl ?_
    refine wp_skip ?_
    refine (show Code.wp _ _ _ _ _ from ?_)
    refine wp_region_L (W0 := w) [(g2, .cells #[strV [50, 50, 71, 49], .int .u8 20, .bool false, .bool false] 77 (0, 0)), (g1, .cells #[.int .u8 ((n : Nat) : Int), .bool h, .bool r] 37 (0, 0))] (hW5) ?_
    refine lm (v := .int .i64 1) rfl rfl ?_
    refine lm (v := .int .i64 1) rfl rfl ?_
    refine wpL_done (fun W6 hW6 => ?_)
    refine (show Code.wp _ _ _ _ _ from ?_)
    refine wp_seq ?_
    refine wp_region_L (W0 := w) [(g2, .cells #[strV [50, 50, 71, 49], .int .u8 20, .bool false, .bool false] 77 (0, 0)), (g1, .cells #[.int .u8 ((n : Nat) : Int), .bool h, .bool r] 37 (0, 0))] (hW6) ?_
    refine lm (v := .bool true) rfl rfl ?_
    refine wpL_done (fun W7 hW7 => ?_)
    refine (show Code.wp _ _ _ _ _ from ?_)
    refine wp_seq ?_
    refine wp_cond_true rfl ?_
    refine wp_skip ?_
    refine (show Code.wp _ _ _ _ _ from ?_)
    refine wp_seq ?_
    refine wp_block ?_
    refine wp_seq ?_
    refine wp_region_L (W0 := w) [(g2, .cells #[strV [50, 50, 71, 49], .int .u8 20, .bool false, .bool false] 77 (0, 0)), (g1, .cells #[.int .u8 ((n : Nat) : Int), .bool h, .bool r] 37 (0, 0))] (hW7) ?_
    refine lm (v := .agg #[strV [50, 50, 82, 49], .int .u8 20, .bool false, .bool true]) rfl rfl ?_
    refine wpL_new (fun g => .pointer (some ⟨g, 0, none⟩)) (obi := .cells #[strV [], .int .u8 0, .bool false, .bool false] 77 (0, 0)) rfl rfl (fun _ => by kernel_rfl) (fun _ => by simp only [List.setIfInBounds_toArray, List.set_cons_succ, List.set_cons_zero] <;> rfl) fun g3 Bg3 Fg3 => ?_
    refine wpL_s [(g3, .cells #[strV [50, 50, 82, 49], .int .u8 20, .bool false, .bool true] 77 (0, 0)), (g2, .cells #[strV [50, 50, 71, 49], .int .u8 20, .bool false, .bool false] 77 (0, 0)), (g1, .cells #[.int .u8 ((n : Nat) : Int), .bool h, .bool r] 37 (0, 0))] rfl rfl (st_row (off := 0) (v := .agg #[strV [50, 50, 82, 49], .int .u8 20, .bool false, .bool true]) rfl (by kernel_rfl) (by kernel_rfl) (.head _) Bg3 (by kernel_rfl) (by simp [Value.cells]) (by intro v hv; simp [Value.cells] at hv; first | (subst hv; rfl) | (rcases hv with rfl | rfl | rfl | rfl <;> rfl)) (by kernel_rfl) (List.forall_mem_cons.2 ⟨.inl rfl, (List.forall_mem_cons.2 ⟨.inr ⟨(.tail _ (.head _)), (Fg3 _ (.head _))⟩, (List.forall_mem_cons.2 ⟨.inr ⟨(.tail _ (.tail _ (.head _))), (Fg3 _ (.tail _ (.head _)))⟩, (List.forall_mem_nil _)⟩)⟩)⟩)) ?_
    refine wpL_done (fun W8 hW8 => ?_)
    refine (show Code.wp _ _ _ _ _ from ?_)
    refine wp_seq ?_
    refine wp_region_L (W0 := w) [(g3, .cells #[strV [50, 50, 82, 49], .int .u8 20, .bool false, .bool true] 77 (0, 0)), (g2, .cells #[strV [50, 50, 71, 49], .int .u8 20, .bool false, .bool false] 77 (0, 0)), (g1, .cells #[.int .u8 ((n : Nat) : Int), .bool h, .bool r] 37 (0, 0))] (hW8) ?_
    refine lm (v := .pointer (some ⟨g3, 1, none⟩)) rfl rfl ?_
    refine lv (v := .agg #[.int .u8 20, .bool false, .bool true]) rfl rfl (yb_load (n := 3) (off := 1) rfl (by kernel_rfl) (.head _) Tryd.underlying37 rfl (by kernel_rfl) (by simp) (by kernel_rfl)) ?_
    refine lv (v := .agg #[.int .u8 ((n : Nat) : Int), .bool h, .bool r]) rfl rfl (yb_load (n := 3) (off := 0) rfl (by kernel_rfl) (.tail _ (.tail _ (.head _))) Tryd.underlying37 rfl (by kernel_rfl) (by simp) (by kernel_rfl)) ?_
    refine lp (v := .bool (decide (20 = n ∧ false = h ∧ true = r))) rfl rfl (run_bin rfl (vx := .agg #[.int .u8 ((20 : Nat) : Int), .bool false, .bool true]) (vy := .agg #[.int .u8 ((n : Nat) : Int), .bool h, .bool r]) (by kernel_rfl) (by kernel_rfl) fun w => eq_kind rfl w) ?_
    refine wpL_done (fun W9 hW9 => ?_)
    refine (show Code.wp _ _ _ _ _ from ?_)
    cases hd2 : (decide (20 = n ∧ false = h ∧ true = r)) with
    | false =>
      have h2 : ¬ (20 = n ∧ false = h ∧ true = r) := of_decide_eq_false hd2
      clear hd2
      refine wp_cond_false rfl ?_
      refine wp_skip ?_
      refine (show Code.wp _ _ _ _ _ from ?_)
      refine wp_region_L (W0 := w) [(g3, .cells #[strV [50, 50, 82, 49], .int .u8 20, .bool false, .bool true] 77 (0, 0)), (g2, .cells #[strV [50, 50, 71, 49], .int .u8 20, .bool false, .bool false] 77 (0, 0)), (g1, .cells #[.int .u8 ((n : Nat) : Int), .bool h, .bool r] 37 (0, 0))] (hW9) ?_
      refine lm (v := .int .i64 2) rfl rfl ?_
      refine lm (v := .int .i64 2) rfl rfl ?_
      refine wpL_done (fun W10 hW10 => ?_)
      refine (show Code.wp _ _ _ _ _ from ?_)
      refine wp_seq ?_
      refine wp_region_L (W0 := w) [(g3, .cells #[strV [50, 50, 82, 49], .int .u8 20, .bool false, .bool true] 77 (0, 0)), (g2, .cells #[strV [50, 50, 71, 49], .int .u8 20, .bool false, .bool false] 77 (0, 0)), (g1, .cells #[.int .u8 ((n : Nat) : Int), .bool h, .bool r] 37 (0, 0))] (hW10) ?_
      refine lm (v := .bool true) rfl rfl ?_
      refine wpL_done (fun W11 hW11 => ?_)
      refine (show Code.wp _ _ _ _ _ from ?_)
      refine wp_seq ?_
      refine wp_cond_true rfl ?_
      refine wp_skip ?_
      refine (show Code.wp _ _ _ _ _ from ?_)
      refine wp_seq ?_
      refine wp_block ?_
      refine wp_seq ?_
      refine wp_region_L (W0 := w) [(g3, .cells #[strV [50, 50, 82, 49], .int .u8 20, .bool false, .bool true] 77 (0, 0)), (g2, .cells #[strV [50, 50, 71, 49], .int .u8 20, .bool false, .bool false] 77 (0, 0)), (g1, .cells #[.int .u8 ((n : Nat) : Int), .bool h, .bool r] 37 (0, 0))] (hW11) ?_
      refine lm (v := .agg #[strV [52, 50, 71, 49], .int .u8 40, .bool false, .bool false]) rfl rfl ?_
      refine wpL_new (fun g => .pointer (some ⟨g, 0, none⟩)) (obi := .cells #[strV [], .int .u8 0, .bool false, .bool false] 77 (0, 0)) rfl rfl (fun _ => by kernel_rfl) (fun _ => by simp only [List.setIfInBounds_toArray, List.set_cons_succ, List.set_cons_zero] <;> rfl) fun g4 Bg4 Fg4 => ?_
      refine wpL_s [(g4, .cells #[strV [52, 50, 71, 49], .int .u8 40, .bool false, .bool false] 77 (0, 0)), (g3, .cells #[strV [50, 50, 82, 49], .int .u8 20, .bool false, .bool true] 77 (0, 0)), (g2, .cells #[strV [50, 50, 71, 49], .int .u8 20, .bool false, .bool false] 77 (0, 0)), (g1, .cells #[.int .u8 ((n : Nat) : Int), .bool h, .bool r] 37 (0, 0))] rfl rfl (st_row (off := 0) (v := .agg #[strV [52, 50, 71, 49], .int .u8 40, .bool false, .bool false]) rfl (by kernel_rfl) (by kernel_rfl) (.head _) Bg4 (by kernel_rfl) (by simp [Value.cells]) (by intro v hv; simp [Value.cells] at hv; first | (subst hv; rfl) | (rcases hv with rfl | rfl | rfl | rfl <;> rfl)) (by kernel_rfl) (List.forall_mem_cons.2 ⟨.inl rfl, (List.forall_mem_cons.2 ⟨.inr ⟨(.tail _ (.head _)), (Fg4 _ (.head _))⟩, (List.forall_mem_cons.2 ⟨.inr ⟨(.tail _ (.tail _ (.head _))), (Fg4 _ (.tail _ (.head _)))⟩, (List.forall_mem_cons.2 ⟨.inr ⟨(.tail _ (.tail _ (.tail _ (.head _)))), (Fg4 _ (.tail _ (.tail _ (.head _))))⟩, (List.forall_mem_nil _)⟩)⟩)⟩)⟩)) ?_
      refine wpL_done (fun W12 hW12 => ?_)
      refine (show Code.wp _ _ _ _ _ from ?_)
      refine wp_seq ?_
      refine wp_region_L (W0 := w) [(g4, .cells #[strV [52, 50, 71, 49], .int .u8 40, .bool false, .bool false] 77 (0, 0)), (g3, .cells #[strV [50, 50, 82, 49], .int .u8 20, .bool false, .bool true] 77 (0, 0)), (g2, .cells #[strV [50, 50, 71, 49], .int .u8 20, .bool false, .bool false] 77 (0, 0)), (g1, .cells #[.int .u8 ((n : Nat) : Int), .bool h, .bool r] 37 (0, 0))] (hW12) ?_
      refine lm (v := .pointer (some ⟨g4, 1, none⟩)) rfl rfl ?_
      refine lv (v := .agg #[.int .u8 40, .bool false, .bool false]) rfl rfl (yb_load (n := 3) (off := 1) rfl (by kernel_rfl) (.head _) Tryd.underlying37 rfl (by kernel_rfl) (by simp) (by kernel_rfl)) ?_
      refine lv (v := .agg #[.int .u8 ((n : Nat) : Int), .bool h, .bool r]) rfl rfl (yb_load (n := 3) (off := 0) rfl (by kernel_rfl) (.tail _ (.tail _ (.tail _ (.head _)))) Tryd.underlying37 rfl (by kernel_rfl) (by simp) (by kernel_rfl)) ?_
      refine lp (v := .bool (decide (40 = n ∧ false = h ∧ false = r))) rfl rfl (run_bin rfl (vx := .agg #[.int .u8 ((40 : Nat) : Int), .bool false, .bool false]) (vy := .agg #[.int .u8 ((n : Nat) : Int), .bool h, .bool r]) (by kernel_rfl) (by kernel_rfl) fun w => eq_kind rfl w) ?_
      refine wpL_done (fun W13 hW13 => ?_)
      refine (show Code.wp _ _ _ _ _ from ?_)
      cases hd3 : (decide (40 = n ∧ false = h ∧ false = r)) with
      | false =>
        have h3 : ¬ (40 = n ∧ false = h ∧ false = r) := of_decide_eq_false hd3
        clear hd3
        refine wp_cond_false rfl ?_
        refine wp_skip ?_
        refine (show Code.wp _ _ _ _ _ from ?_)
        refine wp_region_L (W0 := w) [(g4, .cells #[strV [52, 50, 71, 49], .int .u8 40, .bool false, .bool false] 77 (0, 0)), (g3, .cells #[strV [50, 50, 82, 49], .int .u8 20, .bool false, .bool true] 77 (0, 0)), (g2, .cells #[strV [50, 50, 71, 49], .int .u8 20, .bool false, .bool false] 77 (0, 0)), (g1, .cells #[.int .u8 ((n : Nat) : Int), .bool h, .bool r] 37 (0, 0))] (hW13) ?_
        refine lm (v := .int .i64 3) rfl rfl ?_
        refine lm (v := .int .i64 3) rfl rfl ?_
        refine wpL_done (fun W14 hW14 => ?_)
        refine (show Code.wp _ _ _ _ _ from ?_)
        refine wp_seq ?_
        refine wp_region_L (W0 := w) [(g4, .cells #[strV [52, 50, 71, 49], .int .u8 40, .bool false, .bool false] 77 (0, 0)), (g3, .cells #[strV [50, 50, 82, 49], .int .u8 20, .bool false, .bool true] 77 (0, 0)), (g2, .cells #[strV [50, 50, 71, 49], .int .u8 20, .bool false, .bool false] 77 (0, 0)), (g1, .cells #[.int .u8 ((n : Nat) : Int), .bool h, .bool r] 37 (0, 0))] (hW14) ?_
        refine lm (v := .bool true) rfl rfl ?_
        refine wpL_done (fun W15 hW15 => ?_)
        refine (show Code.wp _ _ _ _ _ from ?_)
        refine wp_seq ?_
        refine wp_cond_true rfl ?_
        refine wp_skip ?_
        refine (show Code.wp _ _ _ _ _ from ?_)
        refine wp_seq ?_
        refine wp_block ?_
        refine wp_seq ?_
        refine wp_region_L (W0 := w) [(g4, .cells #[strV [52, 50, 71, 49], .int .u8 40, .bool false, .bool false] 77 (0, 0)), (g3, .cells #[strV [50, 50, 82, 49], .int .u8 20, .bool false, .bool true] 77 (0, 0)), (g2, .cells #[strV [50, 50, 71, 49], .int .u8 20, .bool false, .bool false] 77 (0, 0)), (g1, .cells #[.int .u8 ((n : Nat) : Int), .bool h, .bool r] 37 (0, 0))] (hW15) ?_
        refine lm (v := .agg #[strV [52, 50, 82, 49], .int .u8 40, .bool false, .bool true]) rfl rfl ?_
        refine wpL_new (fun g => .pointer (some ⟨g, 0, none⟩)) (obi := .cells #[strV [], .int .u8 0, .bool false, .bool false] 77 (0, 0)) rfl rfl (fun _ => by kernel_rfl) (fun _ => by simp only [List.setIfInBounds_toArray, List.set_cons_succ, List.set_cons_zero] <;> rfl) fun g5 Bg5 Fg5 => ?_
        refine wpL_s [(g5, .cells #[strV [52, 50, 82, 49], .int .u8 40, .bool false, .bool true] 77 (0, 0)), (g4, .cells #[strV [52, 50, 71, 49], .int .u8 40, .bool false, .bool false] 77 (0, 0)), (g3, .cells #[strV [50, 50, 82, 49], .int .u8 20, .bool false, .bool true] 77 (0, 0)), (g2, .cells #[strV [50, 50, 71, 49], .int .u8 20, .bool false, .bool false] 77 (0, 0)), (g1, .cells #[.int .u8 ((n : Nat) : Int), .bool h, .bool r] 37 (0, 0))] rfl rfl (st_row (off := 0) (v := .agg #[strV [52, 50, 82, 49], .int .u8 40, .bool false, .bool true]) rfl (by kernel_rfl) (by kernel_rfl) (.head _) Bg5 (by kernel_rfl) (by simp [Value.cells]) (by intro v hv; simp [Value.cells] at hv; first | (subst hv; rfl) | (rcases hv with rfl | rfl | rfl | rfl <;> rfl)) (by kernel_rfl) (List.forall_mem_cons.2 ⟨.inl rfl, (List.forall_mem_cons.2 ⟨.inr ⟨(.tail _ (.head _)), (Fg5 _ (.head _))⟩, (List.forall_mem_cons.2 ⟨.inr ⟨(.tail _ (.tail _ (.head _))), (Fg5 _ (.tail _ (.head _)))⟩, (List.forall_mem_cons.2 ⟨.inr ⟨(.tail _ (.tail _ (.tail _ (.head _)))), (Fg5 _ (.tail _ (.tail _ (.head _))))⟩, (List.forall_mem_cons.2 ⟨.inr ⟨(.tail _ (.tail _ (.tail _ (.tail _ (.head _))))), (Fg5 _ (.tail _ (.tail _ (.tail _ (.head _)))))⟩, (List.forall_mem_nil _)⟩)⟩)⟩)⟩)⟩)) ?_
        refine wpL_done (fun W16 hW16 => ?_)
        refine (show Code.wp _ _ _ _ _ from ?_)
        refine wp_seq ?_
        refine wp_region_L (W0 := w) [(g5, .cells #[strV [52, 50, 82, 49], .int .u8 40, .bool false, .bool true] 77 (0, 0)), (g4, .cells #[strV [52, 50, 71, 49], .int .u8 40, .bool false, .bool false] 77 (0, 0)), (g3, .cells #[strV [50, 50, 82, 49], .int .u8 20, .bool false, .bool true] 77 (0, 0)), (g2, .cells #[strV [50, 50, 71, 49], .int .u8 20, .bool false, .bool false] 77 (0, 0)), (g1, .cells #[.int .u8 ((n : Nat) : Int), .bool h, .bool r] 37 (0, 0))] (hW16) ?_
        refine lm (v := .pointer (some ⟨g5, 1, none⟩)) rfl rfl ?_
        refine lv (v := .agg #[.int .u8 40, .bool false, .bool true]) rfl rfl (yb_load (n := 3) (off := 1) rfl (by kernel_rfl) (.head _) Tryd.underlying37 rfl (by kernel_rfl) (by simp) (by kernel_rfl)) ?_
        refine lv (v := .agg #[.int .u8 ((n : Nat) : Int), .bool h, .bool r]) rfl rfl (yb_load (n := 3) (off := 0) rfl (by kernel_rfl) (.tail _ (.tail _ (.tail _ (.tail _ (.head _))))) Tryd.underlying37 rfl (by kernel_rfl) (by simp) (by kernel_rfl)) ?_
        refine lp (v := .bool (decide (40 = n ∧ false = h ∧ true = r))) rfl rfl (run_bin rfl (vx := .agg #[.int .u8 ((40 : Nat) : Int), .bool false, .bool true]) (vy := .agg #[.int .u8 ((n : Nat) : Int), .bool h, .bool r]) (by kernel_rfl) (by kernel_rfl) fun w => eq_kind rfl w) ?_
        refine wpL_done (fun W17 hW17 => ?_)
        refine (show Code.wp _ _ _ _ _ from ?_)
        cases hd4 : (decide (40 = n ∧ false = h ∧ true = r)) with
        | false =>
          have h4 : ¬ (40 = n ∧ false = h ∧ true = r) := of_decide_eq_false hd4
          clear hd4
          refine wp_cond_false rfl ?_
          refine wp_skip ?_
          refine (show Code.wp _ _ _ _ _ from ?_)
          refine wp_region_L (W0 := w) [(g5, .cells #[strV [52, 50, 82, 49], .int .u8 40, .bool false, .bool true] 77 (0, 0)), (g4, .cells #[strV [52, 50, 71, 49], .int .u8 40, .bool false, .bool false] 77 (0, 0)), (g3, .cells #[strV [50, 50, 82, 49], .int .u8 20, .bool false, .bool true] 77 (0, 0)), (g2, .cells #[strV [50, 50, 71, 49], .int .u8 20, .bool false, .bool false] 77 (0, 0)), (g1, .cells #[.int .u8 ((n : Nat) : Int), .bool h, .bool r] 37 (0, 0))] (hW17) ?_
          refine lm (v := .int .i64 4) rfl rfl ?_
          refine lm (v := .int .i64 4) rfl rfl ?_
          refine wpL_done (fun W18 hW18 => ?_)
          refine (show Code.wp _ _ _ _ _ from ?_)
          refine wp_seq ?_
          refine wp_region_L (W0 := w) [(g5, .cells #[strV [52, 50, 82, 49], .int .u8 40, .bool false, .bool true] 77 (0, 0)), (g4, .cells #[strV [52, 50, 71, 49], .int .u8 40, .bool false, .bool false] 77 (0, 0)), (g3, .cells #[strV [50, 50, 82, 49], .int .u8 20, .bool false, .bool true] 77 (0, 0)), (g2, .cells #[strV [50, 50, 71, 49], .int .u8 20, .bool false, .bool false] 77 (0, 0)), (g1, .cells #[.int .u8 ((n : Nat) : Int), .bool h, .bool r] 37 (0, 0))] (hW18) ?_
          refine lm (v := .bool true) rfl rfl ?_
          refine wpL_done (fun W19 hW19 => ?_)
          refine (show Code.wp _ _ _ _ _ from ?_)
          refine wp_seq ?_
          refine wp_cond_true rfl ?_
          refine wp_skip ?_
          refine (show Code.wp _ _ _ _ _ from ?_)
          refine wp_seq ?_
          refine wp_block ?_
          refine wp_seq ?_
          refine wp_region_L (W0 := w) [(g5, .cells #[strV [52, 50, 82, 49], .int .u8 40, .bool false, .bool true] 77 (0, 0)), (g4, .cells #[strV [52, 50, 71, 49], .int .u8 40, .bool false, .bool false] 77 (0, 0)), (g3, .cells #[strV [50, 50, 82, 49], .int .u8 20, .bool false, .bool true] 77 (0, 0)), (g2, .cells #[strV [50, 50, 71, 49], .int .u8 20, .bool false, .bool false] 77 (0, 0)), (g1, .cells #[.int .u8 ((n : Nat) : Int), .bool h, .bool r] 37 (0, 0))] (hW19) ?_
          refine lm (v := .agg #[strV [52, 53, 71, 49], .int .u8 40, .bool true, .bool false]) rfl rfl ?_
          refine wpL_new (fun g => .pointer (some ⟨g, 0, none⟩)) (obi := .cells #[strV [], .int .u8 0, .bool false, .bool false] 77 (0, 0)) rfl rfl (fun _ => by kernel_rfl) (fun _ => by simp only [List.setIfInBounds_toArray, List.set_cons_succ, List.set_cons_zero] <;> rfl) fun g6 Bg6 Fg6 => ?_
          refine wpL_s [(g6, .cells #[strV [52, 53, 71, 49], .int .u8 40, .bool true, .bool false] 77 (0, 0)), (g5, .cells #[strV [52, 50, 82, 49], .int .u8 40, .bool false, .bool true] 77 (0, 0)), (g4, .cells #[strV [52, 50, 71, 49], .int .u8 40, .bool false, .bool false] 77 (0, 0)), (g3, .cells #[strV [50, 50, 82, 49], .int .u8 20, .bool false, .bool true] 77 (0, 0)), (g2, .cells #[strV [50, 50, 71, 49], .int .u8 20, .bool false, .bool false] 77 (0, 0)), (g1, .cells #[.int .u8 ((n : Nat) : Int), .bool h, .bool r] 37 (0, 0))] rfl rfl (st_row (off := 0) (v := .agg #[strV [52, 53, 71, 49], .int .u8 40, .bool true, .bool false]) rfl (by kernel_rfl) (by kernel_rfl) (.head _) Bg6 (by kernel_rfl) (by simp [Value.cells]) (by intro v hv; simp [Value.cells] at hv; first | (subst hv; rfl) | (rcases hv with rfl | rfl | rfl | rfl <;> rfl)) (by kernel_rfl) (List.forall_mem_cons.2 ⟨.inl rfl, (List.forall_mem_cons.2 ⟨.inr ⟨(.tail _ (.head _)), (Fg6 _ (.head _))⟩, (List.forall_mem_cons.2 ⟨.inr ⟨(.tail _ (.tail _ (.head _))), (Fg6 _ (.tail _ (.head _)))⟩, (List.forall_mem_cons.2 ⟨.inr ⟨(.tail _ (.tail _ (.tail _ (.head _)))), (Fg6 _ (.tail _ (.tail _ (.head _))))⟩, (List.forall_mem_cons.2 ⟨.inr ⟨(.tail _ (.tail _ (.tail _ (.tail _ (.head _))))), (Fg6 _ (.tail _ (.tail _ (.tail _ (.head _)))))⟩, (List.forall_mem_cons.2 ⟨.inr ⟨(.tail _ (.tail _ (.tail _ (.tail _ (.tail _ (.head _)))))), (Fg6 _ (.tail _ (.tail _ (.tail _ (.tail _ (.head _))))))⟩, (List.forall_mem_nil _)⟩)⟩)⟩)⟩)⟩)⟩)) ?_
          refine wpL_done (fun W20 hW20 => ?_)
          refine (show Code.wp _ _ _ _ _ from ?_)
          refine wp_seq ?_
          refine wp_region_L (W0 := w) [(g6, .cells #[strV [52, 53, 71, 49], .int .u8 40, .bool true, .bool false] 77 (0, 0)), (g5, .cells #[strV [52, 50, 82, 49], .int .u8 40, .bool false, .bool true] 77 (0, 0)), (g4, .cells #[strV [52, 50, 71, 49], .int .u8 40, .bool false, .bool false] 77 (0, 0)), (g3, .cells #[strV [50, 50, 82, 49], .int .u8 20, .bool false, .bool true] 77 (0, 0)), (g2, .cells #[strV [50, 50, 71, 49], .int .u8 20, .bool false, .bool false] 77 (0, 0)), (g1, .cells #[.int .u8 ((n : Nat) : Int), .bool h, .bool r] 37 (0, 0))] (hW20) ?_
          refine lm (v := .pointer (some ⟨g6, 1, none⟩)) rfl rfl ?_
          refine lv (v := .agg #[.int .u8 40, .bool true, .bool false]) rfl rfl (yb_load (n := 3) (off := 1) rfl (by kernel_rfl) (.head _) Tryd.underlying37 rfl (by kernel_rfl) (by simp) (by kernel_rfl)) ?_
          refine lv (v := .agg #[.int .u8 ((n : Nat) : Int), .bool h, .bool r]) rfl rfl (yb_load (n := 3) (off := 0) rfl (by kernel_rfl) (.tail _ (.tail _ (.tail _ (.tail _ (.tail _ (.head _)))))) Tryd.underlying37 rfl (by kernel_rfl) (by simp) (by kernel_rfl)) ?_
          refine lp (v := .bool (decide (40 = n ∧ true = h ∧ false = r))) rfl rfl (run_bin rfl (vx := .agg #[.int .u8 ((40 : Nat) : Int), .bool true, .bool false]) (vy := .agg #[.int .u8 ((n : Nat) : Int), .bool h, .bool r]) (by kernel_rfl) (by kernel_rfl) fun w => eq_kind rfl w) ?_
          refine wpL_done (fun W21 hW21 => ?_)
          refine (show Code.wp _ _ _ _ _ from ?_)
          cases hd5 : (decide (40 = n ∧ true = h ∧ false = r)) with
          | false =>
            have h5 : ¬ (40 = n ∧ true = h ∧ false = r) := of_decide_eq_false hd5
            clear hd5
            refine wp_cond_false rfl ?_
            refine wp_skip ?_
            refine (show Code.wp _ _ _ _ _ from ?_)
            refine wp_region_L (W0 := w) [(g6, .cells #[strV [52, 53, 71, 49], .int .u8 40, .bool true, .bool false] 77 (0, 0)), (g5, .cells #[strV [52, 50, 82, 49], .int .u8 40, .bool false, .bool true] 77 (0, 0)), (g4, .cells #[strV [52, 50, 71, 49], .int .u8 40, .bool false, .bool false] 77 (0, 0)), (g3, .cells #[strV [50, 50, 82, 49], .int .u8 20, .bool false, .bool true] 77 (0, 0)), (g2, .cells #[strV [50, 50, 71, 49], .int .u8 20, .bool false, .bool false] 77 (0, 0)), (g1, .cells #[.int .u8 ((n : Nat) : Int), .bool h, .bool r] 37 (0, 0))] (hW21) ?_
            refine lm (v := .int .i64 5) rfl rfl ?_
            refine lm (v := .int .i64 5) rfl rfl ?_
            refine wpL_done (fun W22 hW22 => ?_)
            refine (show Code.wp _ _ _ _ _ from ?_)
            refine wp_seq ?_
            refine wp_region_L (W0 := w) [(g6, .cells #[strV [52, 53, 71, 49], .int .u8 40, .bool true, .bool false] 77 (0, 0)), (g5, .cells #[strV [52, 50, 82, 49], .int .u8 40, .bool false, .bool true] 77 (0, 0)), (g4, .cells #[strV [52, 50, 71, 49], .int .u8 40, .bool false, .bool false] 77 (0, 0)), (g3, .cells #[strV [50, 50, 82, 49], .int .u8 20, .bool false, .bool true] 77 (0, 0)), (g2, .cells #[strV [50, 50, 71, 49], .int .u8 20, .bool false, .bool false] 77 (0, 0)), (g1, .cells #[.int .u8 ((n : Nat) : Int), .bool h, .bool r] 37 (0, 0))] (hW22) ?_
            refine lm (v := .bool true) rfl rfl ?_
            refine wpL_done (fun W23 hW23 => ?_)
            refine (show Code.wp _ _ _ _ _ from ?_)
            refine wp_seq ?_
            refine wp_cond_true rfl ?_
            refine wp_skip ?_
            refine (show Code.wp _ _ _ _ _ from ?_)
            refine wp_seq ?_
            refine wp_block ?_
            refine wp_seq ?_
            refine wp_region_L (W0 := w) [(g6, .cells #[strV [52, 53, 71, 49], .int .u8 40, .bool true, .bool false] 77 (0, 0)), (g5, .cells #[strV [52, 50, 82, 49], .int .u8 40, .bool false, .bool true] 77 (0, 0)), (g4, .cells #[strV [52, 50, 71, 49], .int .u8 40, .bool false, .bool false] 77 (0, 0)), (g3, .cells #[strV [50, 50, 82, 49], .int .u8 20, .bool false, .bool true] 77 (0, 0)), (g2, .cells #[strV [50, 50, 71, 49], .int .u8 20, .bool false, .bool false] 77 (0, 0)), (g1, .cells #[.int .u8 ((n : Nat) : Int), .bool h, .bool r] 37 (0, 0))] (hW23) ?_
            refine lm (v := .agg #[strV [52, 53, 82, 49], .int .u8 40, .bool true, .bool true]) rfl rfl ?_
            refine wpL_new (fun g => .pointer (some ⟨g, 0, none⟩)) (obi := .cells #[strV [], .int .u8 0, .bool false, .bool false] 77 (0, 0)) rfl rfl (fun _ => by kernel_rfl) (fun _ => by simp only [List.setIfInBounds_toArray, List.set_cons_succ, List.set_cons_zero] <;> rfl) fun g7 Bg7 Fg7 => ?_
            refine wpL_s [(g7, .cells #[strV [52, 53, 82, 49], .int .u8 40, .bool true, .bool true] 77 (0, 0)), (g6, .cells #[strV [52, 53, 71, 49], .int .u8 40, .bool true, .bool false] 77 (0, 0)), (g5, .cells #[strV [52, 50, 82, 49], .int .u8 40, .bool false, .bool true] 77 (0, 0)), (g4, .cells #[strV [52, 50, 71, 49], .int .u8 40, .bool false, .bool false] 77 (0, 0)), (g3, .cells #[strV [50, 50, 82, 49], .int .u8 20, .bool false, .bool true] 77 (0, 0)), (g2, .cells #[strV [50, 50, 71, 49], .int .u8 20, .bool false, .bool false] 77 (0, 0)), (g1, .cells #[.int .u8 ((n : Nat) : Int), .bool h, .bool r] 37 (0, 0))] rfl rfl (st_row (off := 0) (v := .agg #[strV [52, 53, 82, 49], .int .u8 40, .bool true, .bool true]) rfl (by kernel_rfl) (by kernel_rfl) (.head _) Bg7 (by kernel_rfl) (by simp [Value.cells]) (by intro v hv; simp [Value.cells] at hv; first | (subst hv; rfl) | (rcases hv with rfl | rfl | rfl | rfl <;> rfl)) (by kernel_rfl) (List.forall_mem_cons.2 ⟨.inl rfl, (List.forall_mem_cons.2 ⟨.inr ⟨(.tail _ (.head _)), (Fg7 _ (.head _))⟩, (List.forall_mem_cons.2 ⟨.inr ⟨(.tail _ (.tail _ (.head _))), (Fg7 _ (.tail _ (.head _)))⟩, (List.forall_mem_cons.2 ⟨.inr ⟨(.tail _ (.tail _ (.tail _ (.head _)))), (Fg7 _ (.tail _ (.tail _ (.head _))))⟩, (List.forall_mem_cons.2 ⟨.inr ⟨(.tail _ (.tail _ (.tail _ (.tail _ (.head _))))), (Fg7 _ (.tail _ (.tail _ (.tail _ (.head _)))))⟩, (List.forall_mem_cons.2 ⟨.inr ⟨(.tail _ (.tail _ (.tail _ (.tail _ (.tail _ (.head _)))))), (Fg7 _ (.tail _ (.tail _ (.tail _ (.tail _ (.head _))))))⟩, (List.forall_mem_cons.2 ⟨.inr ⟨(.tail _ (.tail _ (.tail _ (.tail _ (.tail _ (.tail _ (.head _))))))), (Fg7 _ (.tail _ (.tail _ (.tail _ (.tail _ (.tail _ (.head _)))))))⟩, (List.forall_mem_nil _)⟩)⟩)⟩)⟩)⟩)⟩)⟩)) ?_
            refine wpL_done (fun W24 hW24 => ?_)
            refine (show Code.wp _ _ _ _ _ from ?_)
            refine wp_seq ?_
            refine wp_region_L (W0 := w) [(g7, .cells #[strV [52, 53, 82, 49], .int .u8 40, .bool true, .bool true] 77 (0, 0)), (g6, .cells #[strV [52, 53, 71, 49], .int .u8 40, .bool true, .bool false] 77 (0, 0)), (g5, .cells #[strV [52, 50, 82, 49], .int .u8 40, .bool false, .bool true] 77 (0, 0)), (g4, .cells #[strV [52, 50, 71, 49], .int .u8 40, .bool false, .bool false] 77 (0, 0)), (g3, .cells #[strV [50, 50, 82, 49], .int .u8 20, .bool false, .bool true] 77 (0, 0)), (g2, .cells #[strV [50, 50, 71, 49], .int .u8 20, .bool false, .bool false] 77 (0, 0)), (g1, .cells #[.int .u8 ((n : Nat) : Int), .bool h, .bool r] 37 (0, 0))] (hW24) ?_
            refine lm (v := .pointer (some ⟨g7, 1, none⟩)) rfl rfl ?_
            refine lv (v := .agg #[.int .u8 40, .bool true, .bool true]) rfl rfl (yb_load (n := 3) (off := 1) rfl (by kernel_rfl) (.head _) Tryd.underlying37 rfl (by kernel_rfl) (by simp) (by kernel_rfl)) ?_
            refine lv (v := .agg #[.int .u8 ((n : Nat) : Int), .bool h, .bool r]) rfl rfl (yb_load (n := 3) (off := 0) rfl (by kernel_rfl) (.tail _ (.tail _ (.tail _ (.tail _ (.tail _ (.tail _ (.head _))))))) Tryd.underlying37 rfl (by kernel_rfl) (by simp) (by kernel_rfl)) ?_
            refine lp (v := .bool (decide (40 = n ∧ true = h ∧ true = r))) rfl rfl (run_bin rfl (vx := .agg #[.int .u8 ((40 : Nat) : Int), .bool true, .bool true]) (vy := .agg #[.int .u8 ((n : Nat) : Int), .bool h, .bool r]) (by kernel_rfl) (by kernel_rfl) fun w => eq_kind rfl w) ?_
            refine wpL_done (fun W25 hW25 => ?_)
            refine (show Code.wp _ _ _ _ _ from ?_)
            cases hd6 : (decide (40 = n ∧ true = h ∧ true = r)) with
            | false =>
              have h6 : ¬ (40 = n ∧ true = h ∧ true = r) := of_decide_eq_false hd6
              clear hd6
              refine wp_cond_false rfl ?_
              refine wp_skip ?_
              refine (show Code.wp _ _ _ _ _ from ?_)
              refine wp_region_L (W0 := w) [(g7, .cells #[strV [52, 53, 82, 49], .int .u8 40, .bool true, .bool true] 77 (0, 0)), (g6, .cells #[strV [52, 53, 71, 49], .int .u8 40, .bool true, .bool false] 77 (0, 0)), (g5, .cells #[strV [52, 50, 82, 49], .int .u8 40, .bool false, .bool true] 77 (0, 0)), (g4, .cells #[strV [52, 50, 71, 49], .int .u8 40, .bool false, .bool false] 77 (0, 0)), (g3, .cells #[strV [50, 50, 82, 49], .int .u8 20, .bool false, .bool true] 77 (0, 0)), (g2, .cells #[strV [50, 50, 71, 49], .int .u8 20, .bool false, .bool false] 77 (0, 0)), (g1, .cells #[.int .u8 ((n : Nat) : Int), .bool h, .bool r] 37 (0, 0))] (hW25) ?_
              refine lm (v := .int .i64 6) rfl rfl ?_
              refine lm (v := .int .i64 6) rfl rfl ?_
              refine wpL_done (fun W26 hW26 => ?_)
              refine (show Code.wp _ _ _ _ _ from ?_)
              refine wp_seq ?_
              refine wp_region_L (W0 := w) [(g7, .cells #[strV [52, 53, 82, 49], .int .u8 40, .bool true, .bool true] 77 (0, 0)), (g6, .cells #[strV [52, 53, 71, 49], .int .u8 40, .bool true, .bool false] 77 (0, 0)), (g5, .cells #[strV [52, 50, 82, 49], .int .u8 40, .bool false, .bool true] 77 (0, 0)), (g4, .cells #[strV [52, 50, 71, 49], .int .u8 40, .bool false, .bool false] 77 (0, 0)), (g3, .cells #[strV [50, 50, 82, 49], .int .u8 20, .bool false, .bool true] 77 (0, 0)), (g2, .cells #[strV [50, 50, 71, 49], .int .u8 20, .bool false, .bool false] 77 (0, 0)), (g1, .cells #[.int .u8 ((n : Nat) : Int), .bool h, .bool r] 37 (0, 0))] (hW26) ?_
              refine lm (v := .bool false) rfl rfl ?_
              refine wpL_done (fun W27 hW27 => ?_)
              refine (show Code.wp _ _ _ _ _ from ?_)
              refine wp_seq ?_
              refine wp_cond_false rfl ?_
              refine wp_exit ?_
              refine (show Code.wp _ _ _ _ _ from ?_)
              refine wp_seq ?_
              refine wp_region_L (W0 := w) [(g7, .cells #[strV [52, 53, 82, 49], .int .u8 40, .bool true, .bool true] 77 (0, 0)), (g6, .cells #[strV [52, 53, 71, 49], .int .u8 40, .bool true, .bool false] 77 (0, 0)), (g5, .cells #[strV [52, 50, 82, 49], .int .u8 40, .bool false, .bool true] 77 (0, 0)), (g4, .cells #[strV [52, 50, 71, 49], .int .u8 40, .bool false, .bool false] 77 (0, 0)), (g3, .cells #[strV [50, 50, 82, 49], .int .u8 20, .bool false, .bool true] 77 (0, 0)), (g2, .cells #[strV [50, 50, 71, 49], .int .u8 20, .bool false, .bool false] 77 (0, 0)), (g1, .cells #[.int .u8 ((n : Nat) : Int), .bool h, .bool r] 37 (0, 0))] (hW27) ?_
              refine lm (v := strV []) rfl rfl ?_
              refine lm (v := .int .i64 32) rfl rfl ?_
              refine wpL_done (fun W28 hW28 => ?_)
              refine (show Code.wp _ _ _ _ _ from ?_)
              refine wp_ret ?_
              try simp only [inBlock_ret, then_ret]
              refine bodyPost_ret (v := .tuple #[strV [], .int .i64 32]) ?_ rfl ?_
              · kernel_rfl
              · exact ⟨(by unfold codeV; rw [if_neg h1, if_neg h2, if_neg h3, if_neg h4, if_neg h5, if_neg h6]), hW28.1⟩
            | true =>
              have h6 : 40 = n ∧ true = h ∧ true = r := of_decide_eq_true hd6
              clear hd6
              refine wp_cond_true rfl ?_
              refine wp_seq ?_
              refine wp_region_L (W0 := w) [(g7, .cells #[strV [52, 53, 82, 49], .int .u8 40, .bool true, .bool true] 77 (0, 0)), (g6, .cells #[strV [52, 53, 71, 49], .int .u8 40, .bool true, .bool false] 77 (0, 0)), (g5, .cells #[strV [52, 50, 82, 49], .int .u8 40, .bool false, .bool true] 77 (0, 0)), (g4, .cells #[strV [52, 50, 71, 49], .int .u8 40, .bool false, .bool false] 77 (0, 0)), (g3, .cells #[strV [50, 50, 82, 49], .int .u8 20, .bool false, .bool true] 77 (0, 0)), (g2, .cells #[strV [50, 50, 71, 49], .int .u8 20, .bool false, .bool false] 77 (0, 0)), (g1, .cells #[.int .u8 ((n : Nat) : Int), .bool h, .bool r] 37 (0, 0))] (hW25) ?_
              refine lm (v := .pointer (some ⟨g7, 0, none⟩)) rfl rfl ?_
              refine lv (v := strV [52, 53, 82, 49]) rfl rfl (yb_cell (off := 0) rfl (by kernel_rfl) (.head _) Tryd.underlying9 rfl (by kernel_rfl)) ?_
              refine lm (v := strV [52, 53, 82, 49]) rfl rfl ?_
              refine lm (v := .int .i64 0) rfl rfl ?_
              refine wpL_done (fun W29 hW29 => ?_)
              refine (show Code.wp _ _ _ _ _ from ?_)
              refine wp_ret ?_
              try simp only [inBlock_ret, then_ret]
              refine bodyPost_ret (v := .tuple #[strV [52, 53, 82, 49], .int .i64 0]) ?_ rfl ?_
              · kernel_rfl
              · exact ⟨(by unfold codeV; rw [if_neg h1, if_neg h2, if_neg h3, if_neg h4, if_neg h5, if_pos h6]), hW29.1⟩
          | true =>
            have h5 : 40 = n ∧ true = h ∧ false = r := of_decide_eq_true hd5
            clear hd5
            refine wp_cond_true rfl ?_
            refine wp_seq ?_
            refine wp_region_L (W0 := w) [(g6, .cells #[strV [52, 53, 71, 49], .int .u8 40, .bool true, .bool false] 77 (0, 0)), (g5, .cells #[strV [52, 50, 82, 49], .int .u8 40, .bool false, .bool true] 77 (0, 0)), (g4, .cells #[strV [52, 50, 71, 49], .int .u8 40, .bool false, .bool false] 77 (0, 0)), (g3, .cells #[strV [50, 50, 82, 49], .int .u8 20, .bool false, .bool true] 77 (0, 0)), (g2, .cells #[strV [50, 50, 71, 49], .int .u8 20, .bool false, .bool false] 77 (0, 0)), (g1, .cells #[.int .u8 ((n : Nat) : Int), .bool h, .bool r] 37 (0, 0))] (hW21) ?_
            refine lm (v := .pointer (some ⟨g6, 0, none⟩)) rfl rfl ?_
            refine lv (v := strV [52, 53, 71, 49]) rfl rfl (yb_cell (off := 0) rfl (by kernel_rfl) (.head _) Tryd.underlying9 rfl (by kernel_rfl)) ?_
            refine lm (v := strV [52, 53, 71, 49]) rfl rfl ?_
            refine lm (v := .int .i64 0) rfl rfl ?_
            refine wpL_done (fun W30 hW30 => ?_)
            refine (show Code.wp _ _ _ _ _ from ?_)
            refine wp_ret ?_
            try simp only [inBlock_ret, then_ret]
            refine bodyPost_ret (v := .tuple #[strV [52, 53, 71, 49], .int .i64 0]) ?_ rfl ?_
            · kernel_rfl
            · exact ⟨(by unfold codeV; rw [if_neg h1, if_neg h2, if_neg h3, if_neg h4, if_pos h5]), hW30.1⟩
        | true =>
          have h4 : 40 = n ∧ false = h ∧ true = r := of_decide_eq_true hd4
          clear hd4
          refine wp_cond_true rfl ?_
          refine wp_seq ?_
          refine wp_region_L (W0 := w) [(g5, .cells #[strV [52, 50, 82, 49], .int .u8 40, .bool false, .bool true] 77 (0, 0)), (g4, .cells #[strV [52, 50, 71, 49], .int .u8 40, .bool false, .bool false] 77 (0, 0)), (g3, .cells #[strV [50, 50, 82, 49], .int .u8 20, .bool false, .bool true] 77 (0, 0)), (g2, .cells #[strV [50, 50, 71, 49], .int .u8 20, .bool false, .bool false] 77 (0, 0)), (g1, .cells #[.int .u8 ((n : Nat) : Int), .bool h, .bool r] 37 (0, 0))] (hW17) ?_
          refine lm (v := .pointer (some ⟨g5, 0, none⟩)) rfl rfl ?_
          refine lv (v := strV [52, 50, 82, 49]) rfl rfl (yb_cell (off := 0) rfl (by kernel_rfl) (.head _) Tryd.underlying9 rfl (by kernel_rfl)) ?_
          refine lm (v := strV [52, 50, 82, 49]) rfl rfl ?_
          refine lm (v := .int .i64 0) rfl rfl ?_
          refine wpL_done (fun W31 hW31 => ?_)
          refine (show Code.wp _ _ _ _ _ from ?_)
          refine wp_ret ?_
          try simp only [inBlock_ret, then_ret]
          refine bodyPost_ret (v := .tuple #[strV [52, 50, 82, 49], .int .i64 0]) ?_ rfl ?_
          · kernel_rfl
          · exact ⟨(by unfold codeV; rw [if_neg h1, if_neg h2, if_neg h3, if_pos h4]), hW31.1⟩
      | true =>
        have h3 : 40 = n ∧ false = h ∧ false = r := of_decide_eq_true hd3
        clear hd3
        refine wp_cond_true rfl ?_
        refine wp_seq ?_
        refine wp_region_L (W0 := w) [(g4, .cells #[strV [52, 50, 71, 49], .int .u8 40, .bool false, .bool false] 77 (0, 0)), (g3, .cells #[strV [50, 50, 82, 49], .int .u8 20, .bool false, .bool true] 77 (0, 0)), (g2, .cells #[strV [50, 50, 71, 49], .int .u8 20, .bool false, .bool false] 77 (0, 0)), (g1, .cells #[.int .u8 ((n : Nat) : Int), .bool h, .bool r] 37 (0, 0))] (hW13) ?_
        refine lm (v := .pointer (some ⟨g4, 0, none⟩)) rfl rfl ?_
        refine lv (v := strV [52, 50, 71, 49]) rfl rfl (yb_cell (off := 0) rfl (by kernel_rfl) (.head _) Tryd.underlying9 rfl (by kernel_rfl)) ?_
        refine lm (v := strV [52, 50, 71, 49]) rfl rfl ?_
        refine lm (v := .int .i64 0) rfl rfl ?_
        refine wpL_done (fun W32 hW32 => ?_)
        refine (show Code.wp _ _ _ _ _ from ?_)
        refine wp_ret ?_
        try simp only [inBlock_ret, then_ret]
        refine bodyPost_ret (v := .tuple #[strV [52, 50, 71, 49], .int .i64 0]) ?_ rfl ?_
        · kernel_rfl
        · exact ⟨(by unfold codeV; rw [if_neg h1, if_neg h2, if_pos h3]), hW32.1⟩
    | true =>
      have h2 : 20 = n ∧ false = h ∧ true = r := of_decide_eq_true hd2
      clear hd2
      refine wp_cond_true rfl ?_
      refine wp_seq ?_
      refine wp_region_L (W0 := w) [(g3, .cells #[strV [50, 50, 82, 49], .int .u8 20, .bool false, .bool true] 77 (0, 0)), (g2, .cells #[strV [50, 50, 71, 49], .int .u8 20, .bool false, .bool false] 77 (0, 0)), (g1, .cells #[.int .u8 ((n : Nat) : Int), .bool h, .bool r] 37 (0, 0))] (hW9) ?_
      refine lm (v := .pointer (some ⟨g3, 0, none⟩)) rfl rfl ?_
      refine lv (v := strV [50, 50, 82, 49]) rfl rfl (yb_cell (off := 0) rfl (by kernel_rfl) (.head _) Tryd.underlying9 rfl (by kernel_rfl)) ?_
      refine lm (v := strV [50, 50, 82, 49]) rfl rfl ?_
      refine lm (v := .int .i64 0) rfl rfl ?_
      refine wpL_done (fun W33 hW33 => ?_)
      refine (show Code.wp _ _ _ _ _ from ?_)
      refine wp_ret ?_
      try simp only [inBlock_ret, then_ret]
      refine bodyPost_ret (v := .tuple #[strV [50, 50, 82, 49], .int .i64 0]) ?_ rfl ?_
      · kernel_rfl
      · exact ⟨(by unfold codeV; rw [if_neg h1, if_pos h2]), hW33.1⟩
  | true =>
    have h1 : 20 = n ∧ false = h ∧ false = r := of_decide_eq_true hd1
    clear hd1
    refine wp_cond_true rfl ?_
    refine wp_seq ?_
    refine wp_region_L (W0 := w) [(g2, .cells #[strV [50, 50, 71, 49], .int .u8 20, .bool false, .bool false] 77 (0, 0)), (g1, .cells #[.int .u8 ((n : Nat) : Int), .bool h, .bool r] 37 (0, 0))] (hW5) ?_
    refine lm (v := .pointer (some ⟨g2, 0, none⟩)) rfl rfl ?_
    refine lv (v := strV [50, 50, 71, 49]) rfl rfl (yb_cell (off := 0) rfl (by kernel_rfl) (.head _) Tryd.underlying9 rfl (by kernel_rfl)) ?_
    refine lm (v := strV [50, 50, 71, 49]) rfl rfl ?_
    refine lm (v := .int .i64 0) rfl rfl ?_
    refine wpL_done (fun W34 hW34 => ?_)
    refine (show Code.wp _ _ _ _ _ from ?_)
    refine wp_ret ?_
    try simp only [inBlock_ret, then_ret]
    refine bodyPost_ret (v := .tuple #[strV [50, 50, 71, 49], .int .i64 0]) ?_ rfl ?_
    · kernel_rfl
    · exact ⟨(by unfold codeV; rw [if_pos h1]), hW34.1⟩
end Go.Proofs.YtjbbeolapaaiaaaDoor
/- Boxes in plain data: which are right, lists of them, what they add up to, their order. Nothing of the program. -/
namespace Go.Proofs.YtjbbeolapaaiaaaDoor
open Go
structure Bx where
  id : Int
  num : List UInt8
  size : Nat
  high : Bool
  kilos : Int
  load : Int
  dis : Int
  cls : Nat
  rf : Bool
def heightX (b : Bx) : Nat := if b.high = true then 2896 else 2591
def halvesX (b : Bx) : Nat := if b.size = 20 then 1 else if b.size = 40 then 2 else 0
def aboardX (b : Bx) (c : Int) : Bool := decide (b.load ≤ c) && decide (c < b.dis)
def rul1 (b : Bx) : Bool := decide (1 ≤ b.id) && decide (b.id ≤ 999999)
def rul2 (b : Bx) : Bool := decide (b.num = []) || decide (judgeN b.num = 0)
def rul3 (b : Bx) : Bool := decide (b.size = 20) || decide (b.size = 40)
def rul4 (b : Bx) : Bool := !b.high || decide (b.size = 40)
def rul5 (b : Bx) : Bool := decide (1 ≤ b.kilos)
def rulW (n m : Nat) (b : Bx) : Bool := !(decide (b.size = n)) || decide (b.kilos ≤ (m : Int))
def rul8 (b : Bx) : Bool := decide (0 ≤ b.load) && decide (b.load < b.dis)
def rul9 (b : Bx) : Bool := decide (b.dis < 20)
def rul10 (b : Bx) : Bool := decide (b.cls ≤ 9)
def rightX (b : Bx) : Bool := rul1 b && (rul2 b && (rul3 b && (rul4 b && (rul5 b && (rulW 20 32000 b && (rulW 40 40000 b && (rul8 b && (rul9 b && rul10 b))))))))
theorem right_kilos {b : Bx} (h : rightX b = true) : 1 ≤ b.kilos ∧ b.kilos ≤ 40000 := by
  unfold rightX rul5 rul3 rulW at h
  simp only [Bool.and_eq_true, Bool.or_eq_true, Bool.not_eq_true', decide_eq_true_eq, decide_eq_false_iff_not] at h
  omega
theorem halves_le (b : Bx) : halvesX b ≤ 2 := by unfold halvesX; repeat' split
                                                 all_goals omega
-- totals
structure Sm where
  n : Nat
  h : Nat
  k : Int
  r : Nat
  d : Nat
def sm0 : Sm := ⟨0, 0, 0, 0, 0⟩
def addX (s : Sm) (b : Bx) : Sm := if rightX b = true then ⟨s.n + 1, s.h + halvesX b, s.k + b.kilos, s.r + (if b.rf = true then 1 else 0), s.d + (if b.cls = 0 then 0 else 1)⟩ else s
def totalX (l : List Bx) : Sm := l.foldl addX sm0
def plusX (a b : Sm) : Sm := ⟨a.n + b.n, a.h + b.h, a.k + b.k, a.r + b.r, a.d + b.d⟩
theorem total_snoc {l : List Bx} {k : Nat} {b : Bx} (h : l[k]? = some b) : totalX (l.take (k + 1)) = addX (totalX (l.take k)) b := by
  obtain ⟨hk, rfl⟩ := List.getElem?_eq_some_iff.1 h
  unfold totalX
  rw [List.take_succ_eq_append_getElem hk, List.foldl_append]
  rfl
theorem add_plus (s t : Sm) (b : Bx) : addX (plusX s t) b = plusX s (addX t b) := by
  unfold addX plusX
  split
  · simp only [Sm.mk.injEq]; omega
  · rfl
theorem foldl_plus (l : List Bx) : ∀ s t : Sm, l.foldl addX (plusX s t) = plusX s (l.foldl addX t) := by
  induction l with
  | nil => intro s t; rfl
  | cons b l ih => intro s t; rw [List.foldl_cons, List.foldl_cons, add_plus, ih]
theorem plus_zero (s : Sm) : plusX s sm0 = s := by unfold plusX sm0; simp
theorem plus_comm (s t : Sm) : plusX s t = plusX t s := by unfold plusX; simp only [Sm.mk.injEq]; omega
theorem plus_assoc (s t u : Sm) : plusX (plusX s t) u = plusX s (plusX t u) := by unfold plusX; simp only [Sm.mk.injEq]; omega
theorem total_app (l m : List Bx) : totalX (l ++ m) = plusX (totalX l) (totalX m) := by
  unfold totalX
  rw [List.foldl_append, ← foldl_plus, plus_zero]
theorem total_cons (b : Bx) (l : List Bx) : totalX (b :: l) = plusX (totalX [b]) (totalX l) := total_app [b] l
theorem total_le (l : List Bx) : (totalX l).n ≤ l.length ∧ (totalX l).h ≤ 2 * l.length ∧ 0 ≤ (totalX l).k ∧ (totalX l).k ≤ 40000 * l.length ∧ (totalX l).r ≤ l.length ∧ (totalX l).d ≤ l.length := by
  induction l with
  | nil => decide
  | cons b l ih =>
    rw [total_cons]
    obtain ⟨h1, h2, h3, h4, h5, h6⟩ := ih
    have hh := halves_le b
    have : (totalX [b]).n ≤ 1 ∧ (totalX [b]).h ≤ 2 ∧ 0 ≤ (totalX [b]).k ∧ (totalX [b]).k ≤ 40000 ∧ (totalX [b]).r ≤ 1 ∧ (totalX [b]).d ≤ 1 := by
      show (addX sm0 b).n ≤ 1 ∧ (addX sm0 b).h ≤ 2 ∧ 0 ≤ (addX sm0 b).k ∧ (addX sm0 b).k ≤ 40000 ∧ (addX sm0 b).r ≤ 1 ∧ (addX sm0 b).d ≤ 1
      unfold addX sm0
      split
      · rename_i hr
        have := right_kilos hr
        dsimp only
        refine ⟨by omega, by omega, by omega, by omega, ?_, ?_⟩
        · split <;> omega
        · split <;> omega
      · dsimp only; omega
    unfold plusX
    simp only [List.length_cons, Int.natCast_add]
    omega
-- lists
def seenX (l : List Bx) (k : Nat) (n : List UInt8) : Bool := decide (n ≠ []) && (l.take k).any (fun b => decide (b.num = n))
def prevX (l : List Bx) (k : Nat) (b : Bx) : Bool := decide (0 < k) && (match l[k - 1]? with | some c => decide (b.id ≤ c.id) | none => false)
def badX (l : List Bx) (k : Nat) : Bool := match l[k]? with | some b => !rightX b || seenX l k b.num || prevX l k b | none => false
def firstBad (l : List Bx) : Option Nat := (List.range l.length).find? (badX l)
theorem find_range {p : Nat → Bool} {n k : Nat} (hk : k < n) (h : ∀ j, j < k → p j = false) (hp : p k = true) : (List.range n).find? p = some k := by
  rw [List.find?_eq_some_iff_append]
  refine ⟨hp, List.range k, (List.range (n - k - 1)).map (k + 1 + ·), ?_, fun a ha => ?_⟩
  · rw [show n = k + (1 + (n - k - 1)) from by omega, List.range_add, List.range_add]
    simp [Function.comp_def, Nat.add_assoc, List.range_succ]
  · rw [h a (List.mem_range.1 ha)]; rfl
theorem find_none {p : Nat → Bool} {n : Nat} (h : ∀ j, j < n → p j = false) : (List.range n).find? p = none := by
  rw [List.find?_eq_none]
  intro x hx
  rw [h x (List.mem_range.1 hx)]
  decide
theorem firstBad_some {l : List Bx} {k : Nat} (hk : k < l.length) (h : ∀ j, j < k → badX l j = false) (hp : badX l k = true) : firstBad l = some k := find_range hk h hp
theorem firstBad_none {l : List Bx} (h : ∀ j, j < l.length → badX l j = false) : firstBad l = none := find_none h
-- order
def before (a b : Bx) : Bool := decide (b.dis < a.dis) || decide (a.dis = b.dis) && (decide (b.kilos < a.kilos) || decide (a.kilos = b.kilos) && decide (a.id < b.id))
theorem before_iff (a b : Bx) : before a b = true ↔ b.dis < a.dis ∨ a.dis = b.dis ∧ (b.kilos < a.kilos ∨ a.kilos = b.kilos ∧ a.id < b.id) := by
  unfold before
  simp only [Bool.and_eq_true, Bool.or_eq_true, decide_eq_true_eq]
theorem nbefore_iff (a b : Bx) : before a b = false ↔ ¬ (b.dis < a.dis ∨ a.dis = b.dis ∧ (b.kilos < a.kilos ∨ a.kilos = b.kilos ∧ a.id < b.id)) := by
  rw [← before_iff, Bool.not_eq_true]
theorem before_le {a b c : Bx} (h1 : before b a = false) (h2 : before c b = false) : before c a = false := by
  rw [nbefore_iff] at *
  omega
theorem before_as {a b : Bx} (h : before a b = true) : before b a = false := by
  rw [nbefore_iff]
  rw [before_iff] at h
  omega
theorem before_ir (a : Bx) : before a a = false := by rw [nbefore_iff]; omega
def eqv (a b : Bx) : Bool := !before a b && !before b a
def SortedX (l : List Bx) : Prop := l.Pairwise fun a b => before b a = false
def insB (x : Bx) : List Bx → List Bx
  | [] => [x]
  | y :: r => if before x y = true then x :: y :: r else y :: insB x r
def orderX (l : List Bx) : List Bx := l.foldl (fun acc x => insB x acc) []
theorem insB_len (x : Bx) (l : List Bx) : (insB x l).length = l.length + 1 := by
  induction l with
  | nil => rfl
  | cons y r ih => unfold insB; split <;> simp [ih]
theorem insB_mem {x z : Bx} {l : List Bx} : z ∈ insB x l ↔ z = x ∨ z ∈ l := by
  induction l with
  | nil => simp [insB]
  | cons y r ih =>
    unfold insB
    split
    · simp
    · simp only [List.mem_cons, ih]
      constructor
      · rintro (h | h | h)
        · exact .inr (.inl h)
        · exact .inl h
        · exact .inr (.inr h)
      · rintro (h | h | h)
        · exact .inr (.inl h)
        · exact .inl h
        · exact .inr (.inr h)
theorem insB_sorted {x : Bx} {l : List Bx} (h : SortedX l) : SortedX (insB x l) := by
  unfold SortedX at *
  induction l with
  | nil => simp [insB]
  | cons y r ih =>
    rw [List.pairwise_cons] at h
    unfold insB
    split
    · rename_i hb
      rw [List.pairwise_cons, List.pairwise_cons]
      refine ⟨fun z hz => ?_, h⟩
      rcases List.mem_cons.1 hz with rfl | hz
      · exact before_as hb
      · exact before_le (before_as hb) (h.1 z hz)
    · rename_i hb
      rw [List.pairwise_cons]
      refine ⟨fun z hz => ?_, ih h.2⟩
      rcases insB_mem.1 hz with rfl | hz
      · simpa using hb
      · exact h.1 z hz
theorem insB_split {x : Bx} {A B : List Bx} (hA : ∀ y ∈ A, before x y = false) (hB : ∀ y ∈ B, before x y = true) : insB x (A ++ B) = A ++ x :: B := by
  induction A with
  | nil =>
    cases B with
    | nil => rfl
    | cons y r => show insB x (y :: r) = _; unfold insB; rw [if_pos (hB y (.head _))]; rfl
  | cons y r ih =>
    show insB x (y :: (r ++ B)) = _
    unfold insB
    rw [if_neg (by rw [hA y (.head _)]; decide), ih (fun z hz => hA z (.tail _ hz))]
    rfl
theorem order_snoc (l : List Bx) (x : Bx) : orderX (l ++ [x]) = insB x (orderX l) := by unfold orderX; rw [List.foldl_append]; rfl
theorem order_take {l : List Bx} {k : Nat} {b : Bx} (h : l[k]? = some b) : orderX (l.take (k + 1)) = insB b (orderX (l.take k)) := by
  obtain ⟨hk, rfl⟩ := List.getElem?_eq_some_iff.1 h
  rw [List.take_succ_eq_append_getElem hk, order_snoc]
theorem order_len (l : List Bx) : (orderX l).length = l.length := by
  rw [← List.reverse_reverse l]
  induction l.reverse with
  | nil => rfl
  | cons x l ih => rw [List.reverse_cons, order_snoc, insB_len, ih]; simp
theorem order_sorted (l : List Bx) : SortedX (orderX l) := by
  rw [← List.reverse_reverse l]
  induction l.reverse with
  | nil => exact List.Pairwise.nil
  | cons x l ih => rw [List.reverse_cons, order_snoc]; exact insB_sorted ih
theorem order_mem {z : Bx} {l : List Bx} : z ∈ orderX l ↔ z ∈ l := by
  rw [← List.reverse_reverse l]
  induction l.reverse with
  | nil => exact Iff.rfl
  | cons x l ih => rw [List.reverse_cons, order_snoc, insB_mem, ih]; simp [or_comm]
theorem eqv_before {z x y : Bx} (h : eqv z x = true) (hb : before x y = true) : eqv z y = false := by
  unfold eqv at *
  simp only [Bool.and_eq_true, Bool.not_eq_true', Bool.and_eq_false_iff, Bool.not_eq_false'] at *
  rw [nbefore_iff] at h
  rw [before_iff] at *
  rw [nbefore_iff] at h
  rw [before_iff]
  omega
theorem insB_filter {x : Bx} {l : List Bx} (h : SortedX l) (z : Bx) : (insB x l).filter (eqv z) = l.filter (eqv z) ++ [x].filter (eqv z) := by
  unfold SortedX at h
  induction l with
  | nil => simp [insB]
  | cons y r ih =>
    rw [List.pairwise_cons] at h
    unfold insB
    split
    · rename_i hb
      cases hz : eqv z x with
      | false => simp [List.filter_cons, hz]
      | true =>
        have h0 : (y :: r).filter (eqv z) = [] := by
          rw [List.filter_eq_nil_iff]
          intro w hw
          rw [Bool.not_eq_true]
          rcases List.mem_cons.1 hw with rfl | hw
          · exact eqv_before hz hb
          · refine eqv_before (x := x) hz ?_
            have h1 := h.1 w hw
            rw [nbefore_iff] at h1
            rw [before_iff] at *
            omega
        rw [List.filter_cons, if_pos hz, h0]
        simp [hz]
    · rw [List.filter_cons, List.filter_cons]
      split
      · rw [ih h.2]; rfl
      · exact ih h.2
theorem order_filter (l : List Bx) (z : Bx) : (orderX l).filter (eqv z) = l.filter (eqv z) := by
  rw [← List.reverse_reverse l]
  induction l.reverse with
  | nil => rfl
  | cons x l ih => rw [List.reverse_cons, order_snoc, insB_filter (order_sorted _), ih, List.filter_append]
theorem eqv_refl (a : Bx) : eqv a a = true := by unfold eqv; rw [before_ir]; rfl
theorem sorted_eq : ∀ {A B : List Bx}, SortedX A → SortedX B → (∀ z, A.filter (eqv z) = B.filter (eqv z)) → A = B
  | [], [], _, _, _ => rfl
  | [], y :: B, _, _, h => by have := h y; rw [List.filter_cons, if_pos (eqv_refl y)] at this; cases this
  | x :: A, [], _, _, h => by have := h x; rw [List.filter_cons, if_pos (eqv_refl x)] at this; cases this
  | x :: A, y :: B, hA, hB, h => by
    unfold SortedX at hA hB
    have hA' := List.pairwise_cons.1 hA
    have hB' := List.pairwise_cons.1 hB
    have h1 : before y x = false := by
      have hy : y ∈ (x :: A).filter (eqv y) := by rw [h y]; exact List.mem_filter.2 ⟨.head _, eqv_refl y⟩
      rcases List.mem_cons.1 (List.mem_filter.1 hy).1 with e | hy
      · rw [e]; exact before_ir x
      · exact hA'.1 y hy
    have h2 : before x y = false := by
      have hx : x ∈ (y :: B).filter (eqv x) := by rw [← h x]; exact List.mem_filter.2 ⟨.head _, eqv_refl x⟩
      rcases List.mem_cons.1 (List.mem_filter.1 hx).1 with e | hx
      · rw [e]; exact before_ir y
      · exact hB'.1 x hx
    have he : eqv x y = true := by unfold eqv; rw [h1, h2]; rfl
    have h3 := h x
    rw [List.filter_cons, List.filter_cons, if_pos (eqv_refl x), if_pos he] at h3
    obtain rfl := (List.cons.inj h3).1
    congr 1
    refine sorted_eq hA'.2 hB'.2 fun z => ?_
    have h4 := h z
    rw [List.filter_cons, List.filter_cons] at h4
    split at h4
    · exact (List.cons.inj h4).2
    · exact h4
theorem order_is {l R : List Bx} (h1 : SortedX R) (h2 : ∀ z, R.filter (eqv z) = l.filter (eqv z)) : R = orderX l := sorted_eq h1 (order_sorted l) fun z => by rw [h2, order_filter]
theorem order_idem {l : List Bx} (h : SortedX l) : orderX l = l := (order_is h fun _ => rfl).symm
end Go.Proofs.YtjbbeolapaaiaaaDoor
/- Boxes as values of the program, and lists of them that are read. -/
namespace Go.Proofs.YtjbbeolapaaiaaaDoor
open Go Go.RowKit Tw
theorem z_is {k : IntKind} {m n : Int} (h : m = n) : Ending.returned (.int k m) = .returned (.int k n) := by rw [h]
theorem ret_v {u v : Value} (h : u = v) : Ending.returned u = .returned v := by rw [h]
def bxC (b : Bx) : Array Value := #[.int .i64 b.id, strV b.num, .int .u8 ((b.size : Nat) : Int), .bool b.high, .int .i64 b.kilos, .int .i64 b.load, .int .i64 b.dis, .int .u8 ((b.cls : Nat) : Int), .bool b.rf]
def bxV (b : Bx) : Value := .agg (bxC b)
def bx0 : Bx := ⟨0, [], 0, false, 0, 0, 0, 0, false⟩
def bcs (l : List Bx) : List Value := l.flatMap fun b => (bxC b).toList
theorem bcs_len (l : List Bx) : (bcs l).length = l.length * 9 := by
  induction l with
  | nil => rfl
  | cons b l ih => show ((bxC b).toList ++ bcs l).length = _; rw [List.length_append, ih]; show 9 + l.length * 9 = (l.length + 1) * 9; omega
theorem bcs_app (l m : List Bx) : bcs (l ++ m) = bcs l ++ bcs m := by unfold bcs; rw [List.flatMap_append]
theorem bcs_one (b : Bx) : bcs [b] = (bxC b).toList := by unfold bcs; simp
theorem bcs_take (l : List Bx) (k : Nat) : (bcs l).take (k * 9) = bcs (l.take k) := by
  rcases Nat.le_total k l.length with hk | hk
  · conv => lhs; rw [← List.take_append_drop k l, bcs_app]
    exact List.take_left' (by rw [bcs_len, List.length_take, Nat.min_eq_left hk])
  · rw [List.take_of_length_le hk, List.take_of_length_le (by rw [bcs_len]; omega)]
theorem bcs_drop (l : List Bx) (k : Nat) : (bcs l).drop (k * 9) = bcs (l.drop k) := by
  rcases Nat.le_total k l.length with hk | hk
  · conv => lhs; rw [← List.take_append_drop k l, bcs_app]
    exact List.drop_left' (by rw [bcs_len, List.length_take, Nat.min_eq_left hk])
  · rw [List.drop_eq_nil_of_le hk, List.drop_eq_nil_of_le (by rw [bcs_len]; omega)]; rfl
theorem bcs_get {l : List Bx} {k j : Nat} {b : Bx} {v : Value} (h : l[k]? = some b) (hv : (bxC b).toList[j]? = some v) : (bcs l)[k * 9 + j]? = some v := by
  obtain ⟨hk, rfl⟩ := List.getElem?_eq_some_iff.1 h
  rw [← List.getElem?_drop, bcs_drop, List.drop_eq_getElem_cons hk]
  show ((bxC l[k]).toList ++ bcs (l.drop (k + 1)))[j]? = some v
  rw [List.getElem?_append_left (List.getElem?_eq_some_iff.1 hv).1]
  exact hv
theorem bcs_onec (l : List Bx) : ∀ v ∈ bcs l, v.oneCell' = true := by
  intro v hv
  obtain ⟨b, _, hb⟩ := List.mem_flatMap.1 hv
  unfold bxC strV at hb
  simp only [List.mem_cons, List.not_mem_nil, or_false] at hb
  rcases hb with rfl | rfl | rfl | rfl | rfl | rfl | rfl | rfl | rfl <;> rfl
theorem bl_at {W : World} {p : Option Addr} {l : List Bx} {k : Nat} (h : SLV W p (bcs l)) (hk : k < l.length) :
    ∃ b g off, l[k]? = some b ∧ p = some ⟨g, off, none⟩ ∧ g < W.heap.size ∧ ∀ (j : Nat) (v : Value), (bxC b).toList[j]? = some v → W.cell? ⟨g, off + k * 9 + j, none⟩ = some v := by
  have hy : l[k]? = some l[k] := List.getElem?_eq_getElem hk
  rcases h with h | ⟨g, off, rfl, hlt, hc⟩
  · have := bcs_len l; rw [h] at this; simp at this; omega
  · exact ⟨_, g, off, hy, rfl, hlt, fun j v hv => by rw [Nat.add_assoc]; exact hc _ v (bcs_get hy hv)⟩
theorem slv_take {W : World} {p : Option Addr} {l : List Bx} (n : Nat) (h : SLV W p (bcs l)) : SLV W p (bcs (l.take n)) := by
  rcases h with h | ⟨g, off, rfl, hlt, hc⟩
  · left; rw [← bcs_take, h]; simp
  · right; refine ⟨g, off, rfl, hlt, fun i u hu => hc i u ?_⟩
    rw [← bcs_take, List.getElem?_take] at hu
    split at hu
    · exact hu
    · cases hu
theorem st_bx {W0 : Base} {o : Oper} {a : Act} {K K' : List (Nat × Obj)} {ty t : TypeId} {x y : Operand} {g : Nat} {cs : Array Value} {b : Bx} (ho : o.op = .store ty x y) (hx : a.eval x = .pointer (some ⟨g, 0, none⟩)) (hv : a.eval y = bxV b)
    (hm : (g, .cells cs t (0, 0)) ∈ K) (hc : cs.size = 9) (hB : W0.B ≤ g) (hi : (Tryd.prog.info? ty).map (·.size) = some 9)
    (hK : ∀ p ∈ K', p = (g, .cells (bxC b) t (0, 0)) ∨ (p ∈ K ∧ p.1 ≠ g)) : ∀ w, KS W0 K w → ∃ w', (execOp a.eval o).run Tryd.prog w = .ok .skip w' ∧ KS W0 K' w' :=
  st_row (off := 0) (v := bxV b) ho hx hv hm hB hi (by rw [hc]; exact Nat.le_refl 9) (by show ∀ x ∈ (bxC b).toList, x.oneCell' = true; rw [← bcs_one]; exact bcs_onec _) (by
    have h9 : cs.toList.length = 9 := by simpa using hc
    show bxC b = (cs.toList.take 0 ++ (bxC b).toList ++ cs.toList.drop (0 + 9)).toArray
    rw [List.drop_eq_nil_of_le (by omega)]; simp) hK
theorem el_bx : Elem Tryd.prog 22 26 9 64 (bxV bx0) := Elem.mk' Tryd.underlying22 (by kernel_rfl) rfl
end Go.Proofs.YtjbbeolapaaiaaaDoor
