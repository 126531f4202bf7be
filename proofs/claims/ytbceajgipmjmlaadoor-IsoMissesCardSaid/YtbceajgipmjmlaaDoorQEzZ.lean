import Derived.Test.YtbceajgipmjmlaaDoorG02
/- IsoMisses: the law holds for every input; no condition but the row's own. -/
set_option linter.unusedVariables false
set_option linter.unusedSimpArgs false
set_option linter.unusedSectionVars false
namespace Go.Proofs.YtbceajgipmjmlaaDoor
open Go Go.RowKit Tw
theorem chk_eq (l : List UInt8) : chkN l = 48 + remL l % 10 ∧ remL l < 11 := ⟨rfl, Nat.mod_lt _ (by omega)⟩
theorem judge_app {q : List UInt8} {d : UInt8} (hq : fitB q 10 = true) (hd : 48 ≤ d.toNat ∧ d.toNat ≤ 57) : judgeN (q ++ [d]) = if chkN q = d.toNat then 0 else 31 := by
  have hl := fit_len hq
  have hf : fitB (q ++ [d]) 11 = true := by
    unfold fitB
    rw [fitF_app, fit_fit hq]
    simp [hl, fitF, mayB, isDig, hd]
  have ha : agrB (q ++ [d]) = decide (chkN q = d.toNat) := by
    unfold agrB
    rw [List.take_left' hl, List.getD_eq_getElem?_getD, List.getElem?_append_right (by omega), hl]
    rfl
  unfold judgeN
  rw [hf, ha]
  by_cases h : chkN q = d.toNat <;> simp [h]
def GMd (K : List (Nat × Obj)) (v : Value) (K' : List (Nat × Obj)) : Prop := ∃ (p : List UInt8) (d : UInt8), v = .tuple #[strV p, .int .u8 ((d.toNat : Nat) : Int), .bool true] ∧ fitB p 10 = true ∧ d.toNat = chkN p ∧ K' = K
theorem calls_md {W0 : Base} {W : World} {K : List (Nat × Obj)} (n : Nat) (hn : n ≤ 18446744073709551615) (hW : KS W0 K W) : Calls Tryd.prog 17 #[.int .u64 ((n : Nat) : Int)] W fun e w' => ∃ v K', e = .returned v ∧ KS W0 K' w' ∧ GMd K v K' :=
  (Made_any n hn W).mono fun e w' ⟨l, he, hf, hb⟩ => by
    have hc := chkN_le l
    have e1 : (UInt8.ofNat (chkN l)).toNat = chkN l := by rw [UInt8.toNat_ofNat']; omega
    exact ⟨_, K, he, hW.below hb, l, UInt8.ofNat (chkN l), by rw [e1], hf, e1, rfl⟩
end Go.Proofs.YtbceajgipmjmlaaDoor
namespace Go.Proofs.YtbceajgipmjmlaaDoor
open Go Go.RowKit Tw
def ltM (y x : Nat × UInt8) : Prop := y.1 < x.1 ∨ (y.1 = x.1 ∧ y.2.toNat < x.2.toNat)
theorem row_sorted (l : List UInt8) (i k : Nat) (hk : k ≤ 256) : (rowM l i k).Pairwise ltM := by
  unfold rowM
  rw [List.pairwise_map]
  refine List.Pairwise.sublist List.filter_sublist ?_
  rw [List.pairwise_map]
  refine List.Pairwise.imp_of_mem ?_ (List.pairwise_lt_range (n := k))
  intro a b ha hb hab
  rw [List.mem_range] at ha hb
  refine .inr ⟨rfl, ?_⟩
  rw [UInt8.toNat_ofNat', UInt8.toNat_ofNat']
  show a % 256 < b % 256
  omega
theorem row_fst {l : List UInt8} {i k : Nat} {x : Nat × UInt8} (h : x ∈ rowM l i k) : x.1 = i := by
  unfold rowM at h
  obtain ⟨b, _, rfl⟩ := List.mem_map.1 h
  rfl
theorem miss_pair (l : List UInt8) : (missL l).Pairwise ltM := by
  unfold missL missTo
  rw [List.pairwise_flatMap]
  refine ⟨fun i _ => row_sorted l i 256 (Nat.le_refl _), ?_⟩
  refine List.Pairwise.imp ?_ (List.pairwise_lt_range (n := 11))
  intro a b hab x hx y hy
  exact .inl (by rw [row_fst hx, row_fst hy]; exact hab)
theorem miss_sorted {l M : List (Nat × UInt8)} {j k : Nat} {x y : Nat × UInt8} (h : M.Pairwise ltM) (hx : M[k]? = some x) (hy : M[j]? = some y) (hjk : j < k) : ltM y x := by
  obtain ⟨h1, rfl⟩ := List.getElem?_eq_some_iff.1 hx
  obtain ⟨h2, rfl⟩ := List.getElem?_eq_some_iff.1 hy
  exact (List.pairwise_iff_getElem.1 h) _ _ _ _ hjk
theorem miss_mem {l : List UInt8} {i : Nat} {c : UInt8} (hi : i < 11) : (i, c) ∈ missL l ↔ hitB l i c = true := by
  unfold missL missTo
  rw [List.mem_flatMap]
  constructor
  · rintro ⟨j, hj, hx⟩
    have hji : i = j := row_fst hx
    subst hji
    unfold rowM at hx
    obtain ⟨b, hb, he⟩ := List.mem_map.1 hx
    cases he
    exact (List.mem_filter.1 hb).2
  · intro h
    refine ⟨i, List.mem_range.2 hi, List.mem_map.2 ⟨c, List.mem_filter.2 ⟨List.mem_map.2 ⟨c.toNat, List.mem_range.2 c.toNat_lt, by simp⟩, h⟩, rfl⟩⟩
theorem mem_take {M : List (Nat × UInt8)} {k : Nat} {x y : Nat × UInt8} (hx : M[k]? = some x) : y ∈ M.take (k + 1) ↔ (y ∈ M.take k ∨ y = x) := by
  obtain ⟨h1, rfl⟩ := List.getElem?_eq_some_iff.1 hx
  rw [List.take_succ_eq_append_getElem h1, List.mem_append, List.mem_singleton]
theorem mem_mono {M : List (Nat × UInt8)} {k : Nat} {y : Nat × UInt8} (h : y ∈ M.take k) : y ∈ M.take (k + 1) := by rw [List.take_add_one]; exact List.mem_append_left _ h
def badB (s : List UInt8) (i : Nat) (c : UInt8) : Bool := decide (c.toNat = (s.getD i 0).toNat) || !mayB i c
theorem hit_is (s : List UInt8) (i : Nat) (c : UInt8) : hitB s i c = (!badB s i c && agrB (s.set i c)) := by
  unfold hitB badB
  simp
theorem sum_set : ∀ {p : List UInt8} {i : Nat} {b c : UInt8} (j : Nat), p[i]? = some b → sumF j (p.set i c) + vN b * 2 ^ (j + i) = sumF j p + vN c * 2 ^ (j + i)
  | [], _, _, _, _, h => by simp at h
  | x :: p, 0, b, c, j, h => by
    simp only [List.getElem?_cons_zero, Option.some.injEq] at h
    subst h
    simp only [List.set_cons_zero, sumF, Nat.add_zero]
    omega
  | x :: p, i + 1, b, c, j, h => by
    simp only [List.getElem?_cons_succ] at h
    have := sum_set (c := c) (j + 1) h
    simp only [List.set_cons_succ, sumF]
    rw [show j + (i + 1) = j + 1 + i from by omega]
    omega
theorem rem_digit {p : List UInt8} {i : Nat} {b c : UInt8} (hb : p[i]? = some b) (h3 : 3 < i) (h10 : i < 10) (hd : isDig b = true) (hc : isDig c = true) (h : remL p = remL (p.set i c)) : c.toNat = b.toNat := by
  have hs := sum_set (c := c) 0 hb
  have hv : ∀ {x : UInt8}, isDig x = true → vN x = x.toNat - 48 ∧ 48 ≤ x.toNat ∧ x.toNat ≤ 57 := fun {x} hx => by
    unfold vN
    rw [if_pos hx]
    unfold isDig at hx
    simp at hx
    exact ⟨rfl, hx⟩
  obtain ⟨e1, e2, e3⟩ := hv hd
  obtain ⟨f1, f2, f3⟩ := hv hc
  rw [e1, f1, Nat.zero_add] at hs
  unfold remL at h
  rcases (show i = 4 ∨ i = 5 ∨ i = 6 ∨ i = 7 ∨ i = 8 ∨ i = 9 by omega) with rfl | rfl | rfl | rfl | rfl | rfl <;> simp only [Nat.reducePow] at hs <;> omega
theorem fitF_get : ∀ {p : List UInt8} {i : Nat} {b : UInt8} (j : Nat), fitF j p = true → p[i]? = some b → mayB (j + i) b = true
  | [], _, _, _, _, h => by simp at h
  | x :: p, 0, b, j, hf, h => by
    simp only [List.getElem?_cons_zero, Option.some.injEq] at h
    subst h
    simp only [fitF, Bool.and_eq_true] at hf
    exact hf.1
  | x :: p, i + 1, b, j, hf, h => by
    simp only [List.getElem?_cons_succ] at h
    simp only [fitF, Bool.and_eq_true] at hf
    rw [show j + (i + 1) = j + 1 + i from by omega]
    exact fitF_get (j + 1) hf.2 h
theorem fitF_set : ∀ {p : List UInt8} {i : Nat} {c : UInt8} (j : Nat), fitF j p = true → mayB (j + i) c = true → fitF j (p.set i c) = true
  | [], _, _, _, h, _ => by simpa using h
  | x :: p, 0, c, j, hf, h => by
    simp only [fitF, Bool.and_eq_true] at hf
    simp only [List.set_cons_zero, fitF, Bool.and_eq_true]
    exact ⟨h, hf.2⟩
  | x :: p, i + 1, c, j, hf, h => by
    simp only [fitF, Bool.and_eq_true] at hf
    simp only [List.set_cons_succ, fitF, Bool.and_eq_true]
    exact ⟨hf.1, fitF_set (j + 1) hf.2 (by rwa [show j + 1 + i = j + (i + 1) from by omega])⟩
theorem fit_set {p : List UInt8} {i : Nat} {c : UInt8} (hf : fitB p 10 = true) (h : mayB i c = true) : fitB (p.set i c) 10 = true := by
  unfold fitB
  rw [fitF_set 0 (fit_fit hf) (by rwa [Nat.zero_add]), List.length_set, fit_len hf]
  rfl
theorem set_app {p : List UInt8} {i : Nat} {c d : UInt8} (hi : i < p.length) : (p ++ [d]).set i c = p.set i c ++ [d] := by rw [List.set_append_left _ _ hi]
theorem agr_app {q : List UInt8} {d : UInt8} (hl : q.length = 10) : agrB (q ++ [d]) = decide (chkN q = d.toNat) := by
  unfold agrB
  rw [List.take_left' hl, List.getD_eq_getElem?_getD, List.getElem?_append_right (by omega), hl]
  rfl
theorem agr_last {p : List UInt8} {c d : UInt8} (hl : p.length = 10) : agrB ((p ++ [d]).set 10 c) = decide (chkN p = c.toNat) := by
  rw [List.set_append_right _ _ (by omega), hl]
  exact agr_app hl
theorem dig_not {i : Nat} {c : UInt8} (h : mayB i c = true) (hd : isDig c = true) : 3 < i := by
  refine Nat.lt_of_not_le fun hi => ?_
  unfold mayB isCap isCat at h
  unfold isDig at hd
  simp at hd
  split at h
  · simp at h; omega
  · split at h
    · simp at h; omega
    · omega
theorem may_dig {i : Nat} {c : UInt8} (h : mayB i c = true) (hi : 3 < i) : isDig c = true := by
  unfold mayB at h
  rwa [if_neg (by omega), if_neg (by omega)] at h
theorem set_mid {p : List UInt8} {i : Nat} {c : UInt8} (hi : i < p.length) : p.take i ++ [c] ++ p.drop (i + 1) = p.set i c := by
  rw [List.set_eq_take_append_cons_drop, if_pos hi, List.append_assoc]
  rfl
end Go.Proofs.YtbceajgipmjmlaaDoor
namespace Go.Proofs.YtbceajgipmjmlaaDoor
open Go Go.RowKit Tw
set_option maxRecDepth 100000 in
set_option maxHeartbeats 40000000 in
theorem IsoMisses_law (w : World) (hE : Env w) (a0 : Int) (rr0 : 0 ≤ a0 ∧ a0 ≤ 18446744073709551615) (a1 : Int) (rr1 : -9223372036854775808 ≤ a1 ∧ a1 ≤ 9223372036854775807) (a2 : Int) (rr2 : 0 ≤ a2 ∧ a2 ≤ 255) : Calls Tryd.prog 6 #[.int .u64 a0, .int .i64 a1, .int .u8 a2] w fun e w' => e = .returned (.bool true) ∧ Below w.heap.size w w' := by
  have HE := Lib.hid hE
  clear hE
  obtain ⟨n, rfl⟩ : ∃ n : Nat, a0 = (n : Int) := ⟨a0.toNat, by omega⟩
  obtain ⟨c, rfl⟩ : ∃ c : UInt8, a2 = (c.toNat : Int) := ⟨UInt8.ofNat a2.toNat, by rw [UInt8.toNat_ofNat']; omega⟩
  have lc := c.toNat_lt
  go_enter Tryd.func6, Tryd.ntmps6
  refine wp_seq ?_
  refine wp_region_L (W0 := w) [] (KS.start w) ?_
  refine lm (v := .bool false) rfl rfl ?_
  refine wpL_done (fun W1 hW1 => ?_)
  refine (show Code.wp _ _ _ _ _ from ?_)
  refine wp_seq ?_
  refine wp_seq ?_
  refine wp_region_L (W0 := w) [] (hW1) ?_
  refine lv (v := .bool true) rfl rfl (yb_call (f := 12) (args := #[]) (fun _ => by kernel_rfl) fun W hW => awake_any W (HE.out.keep hW.1)) ?_
  refine lm (v := .bool false) rfl rfl ?_
  refine wpL_done (fun W2 hW2 => ?_)
  refine (show Code.wp _ _ _ _ _ from ?_)
  refine wp_cond_false rfl ?_
  refine wp_skip ?_
  refine (show Code.wp _ _ _ _ _ from ?_)
  refine wp_seq ?_
  refine wp_region_L (W0 := w) [] (hW2) ?_
  refine lm (v := .int .u64 ((n : Nat) : Int)) rfl rfl ?_
  refine wpL_c (f := 17) (args := #[.int .u64 ((n : Nat) : Int)]) (GMd []) rfl (by kernel_rfl) (fun _ => (by kernel_rfl)) (fun W hW => calls_md n (by omega) hW) (fun _ => by simp only [List.setIfInBounds_toArray, List.set_cons_succ, List.set_cons_zero] <;> rfl) ?_
  rintro v K9 ⟨p, d, rfl, hfp, hdp, rfl⟩
  have hlp := fit_len hfp
  have hch := chkN_le p
  have ld := d.toNat_lt
  refine lm (v := .tuple #[strV p, .int .u8 ((d.toNat : Nat) : Int), .bool true]) rfl rfl ?_
  refine lm (v := strV p) rfl rfl ?_
  refine lm (v := .int .u8 ((d.toNat : Nat) : Int)) rfl rfl ?_
  refine lm (v := .bool true) rfl rfl ?_
  refine lm (v := strV p) rfl rfl ?_
  refine lm (v := .int .u8 ((d.toNat : Nat) : Int)) rfl rfl ?_
  refine lm (v := .bool true) rfl rfl ?_
  refine wpL_done (fun W3 hW3 => ?_)
  refine (show Code.wp _ _ _ _ _ from ?_)
  refine wp_seq ?_
  refine wp_region_L (W0 := w) [] (hW3) ?_
  refine lm (v := strV p) rfl rfl ?_
  refine lm (v := .int .u8 ((d.toNat : Nat) : Int)) rfl rfl ?_
  refine wpL_new (fun g => .slice (some ⟨g, 0, none⟩) 1 1) (obi := .cells #[.int .u8 ((d.toNat : Nat) : Int)] 5 (0, 0)) rfl rfl (fun _ => by kernel_rfl) (fun _ => by simp only [List.setIfInBounds_toArray, List.set_cons_succ, List.set_cons_zero] <;> rfl) fun g1 Bg1 Fg1 => ?_
  refine lv (v := strV [d]) rfl rfl (yb_str (n := 1) (cap := 1) (l := [d]) rfl Tryd.underlying31 Tryd.underlying5 Tryd.underlying9 (by kernel_rfl) rfl (.head _) (by first | rfl | (simp [RowB, u8s]; omega))) ?_
  refine lp (v := strV (p ++ [d])) rfl rfl (run_bin rfl (vx := strV p) (vy := strV [d]) (by kernel_rfl) (by kernel_rfl) fun w => bs_add (c := (p ++ [d])) rfl (by first | omega | (simp; omega)) w) ?_
  obtain ⟨s, hs⟩ : ∃ s, (p ++ [d]) = s := ⟨_, rfl⟩
  have hjs : judgeN s = 0 := by rw [← hs, judge_app hfp (d := d) (by omega), if_pos hdp.symm]
  have hls : s.length = 11 := judge_len hjs
  have hms : missOf s = missL s := by unfold missOf; rw [if_pos hjs]
  obtain ⟨M, hM⟩ : ∃ M, missL s = M := ⟨_, rfl⟩
  have hpw := miss_pair s
  rw [hM] at hms hpw
  have hlM : M.length ≤ 2816 := by rw [← hM]; exact missTo_len s 11
  have hcat := hs
  rw [hs]
  refine lm (v := strV s) rfl rfl ?_
  refine wpL_done (fun W4 hW4 => ?_)
  refine (show Code.wp _ _ _ _ _ from ?_)
  refine wp_seq ?_
  refine wp_seq ?_
  refine wp_region_L (W0 := w) [(g1, .cells #[.int .u8 ((d.toNat : Nat) : Int)] 5 (0, 0))] (hW4) ?_
  refine lm (v := .bool true) rfl rfl ?_
  refine lm (v := .bool false) rfl rfl ?_
  refine lm (v := .bool false) rfl rfl ?_
  refine lm (v := strV s) rfl rfl ?_
  refine lv (v := .bool true) rfl rfl (yb_call (f := 18) (args := #[strV s]) (fun _ => by kernel_rfl) fun W hW => (by have h := Right_any s W; rw [decide_eq_true hjs] at h; exact h)) ?_
  refine lm (v := .bool false) rfl rfl ?_
  refine lm (v := .bool false) rfl rfl ?_
  refine wpL_done (fun W5 hW5 => ?_)
  refine (show Code.wp _ _ _ _ _ from ?_)
  refine wp_cond_false rfl ?_
  refine wp_skip ?_
  refine (show Code.wp _ _ _ _ _ from ?_)
  refine wp_seq ?_
  refine wp_region_L (W0 := w) [(g1, .cells #[.int .u8 ((d.toNat : Nat) : Int)] 5 (0, 0))] (hW5) ?_
  refine lm (v := .int .i64 a1) rfl rfl ?_
  refine lv (v := .int .i64 (((pickN a1 11) : Nat) : Int)) rfl rfl (yb_call (f := 19) (args := #[.int .i64 a1, .int .i64 11]) (fun _ => by kernel_rfl) fun W hW => Pick_any a1 (by omega) 11 (by omega) (by omega) W) ?_
  obtain ⟨i, hi⟩ : ∃ i, pickN a1 11 = i := ⟨_, rfl⟩
  have li := pickN_lt (x := a1) (m := 11) (by omega)
  rw [hi] at li ⊢
  refine lm (v := .int .i64 ((i : Nat) : Int)) rfl rfl ?_
  refine wpL_done (fun W6 hW6 => ?_)
  refine (show Code.wp _ _ _ _ _ from ?_)
  refine wp_seq ?_
  refine wp_region_L (W0 := w) [(g1, .cells #[.int .u8 ((d.toNat : Nat) : Int)] 5 (0, 0))] (hW6) ?_
  refine lm (v := strV s) rfl rfl ?_
  refine wpL_c (f := 20) (args := #[strV s]) (GM w [(g1, .cells #[.int .u8 ((d.toNat : Nat) : Int)] 5 (0, 0))] M 0) rfl (by kernel_rfl) (fun _ => (by kernel_rfl)) (fun W hW => (by have h := calls_gm s hW; rw [hms, hjs] at h; exact h)) (fun _ => by simp only [List.setIfInBounds_toArray, List.set_cons_succ, List.set_cons_zero] <;> rfl) ?_
  rintro v K9 ⟨p1, c1, Kl1, rfl, HM1, N1, rfl⟩
  have HM1 := Lib.hid HM1
  refine lm (v := .tuple #[.slice p1 M.length c1, .int .i64 0]) rfl rfl ?_
  refine lm (v := .slice p1 M.length c1) rfl rfl ?_
  refine lm (v := .int .i64 0) rfl rfl ?_
  refine lm (v := .slice p1 M.length c1) rfl rfl ?_
  refine lm (v := .int .i64 0) rfl rfl ?_
  refine wpL_done (fun W7 hW7 => ?_)
  have hm1 := HM1.out W7 hW7
  have hbw := hW7.1
  have hre : KS W7 [(g1, .cells #[.int .u8 ((d.toNat : Nat) : Int)] 5 (0, 0))] W7 := ⟨Below.refl _ _, fun p hp => hW7.2 p (List.mem_append_left _ hp)⟩
  clear HM1
  refine (show Code.wp _ _ _ _ _ from ?_)
  refine wp_seq ?_
  refine wp_seq ?_
  refine wp_region_L (W0 := W7) [(g1, .cells #[.int .u8 ((d.toNat : Nat) : Int)] 5 (0, 0))] (hre) ?_
  refine lm (v := .int .i64 0) rfl rfl ?_
  refine lm (v := .bool false) rfl rfl ?_
  refine wpL_done (fun W8 hW8 => ?_)
  refine (show Code.wp _ _ _ _ _ from ?_)
  refine wp_cond_false rfl ?_
  refine wp_skip ?_
  refine (show Code.wp _ _ _ _ _ from ?_)
  refine wp_seq ?_
  refine wp_region_L (W0 := W7) [(g1, .cells #[.int .u8 ((d.toNat : Nat) : Int)] 5 (0, 0))] (hW8) ?_
  refine lm (v := .bool false) rfl rfl ?_
  refine wpL_done (fun W9 hW9 => ?_)
  refine (show Code.wp _ _ _ _ _ from ?_)
  refine wp_seq ?_
  refine wp_seq ?_
  refine wp_region_L (W0 := W7) [(g1, .cells #[.int .u8 ((d.toNat : Nat) : Int)] 5 (0, 0))] (hW9) ?_
  refine lm (v := .int .i64 0) rfl rfl ?_
  refine wpL_done (fun W10 hW10 => ?_)
  refine (show Code.wp _ _ _ _ _ from ?_)
  refine wp_block ?_
  go_loopw [14, 15] (fun u14 u15 wr => ∃ (k : Nat) (told : Bool), (k ≤ M.length) ∧ (told = decide ((i, c) ∈ M.take k)) ∧ u14 = .bool told ∧ u15 = .int .i64 ((k : Nat) : Int) ∧ KS W7 [(g1, .cells #[.int .u8 ((d.toNat : Nat) : Int)] 5 (0, 0))] wr) (fun _ u15 _ => M.length - (intOf u15).toNat)
  case atStart => exact ⟨0, false, (Nat.zero_le _), (by simp), rfl, rfl, hW10⟩
  case round =>
    obtain ⟨k, told, hk, ht, rfl, rfl, hL11⟩ := hrel
    refine wp_seq ?_
    refine wp_seq ?_
    refine wp_region_L (W0 := W7) [(g1, .cells #[.int .u8 ((d.toNat : Nat) : Int)] 5 (0, 0))] (hL11) ?_
    refine lm (v := .int .i64 ((k : Nat) : Int)) rfl rfl ?_
    refine lm (v := .slice p1 M.length c1) rfl rfl ?_
    refine lp (v := .int .i64 ((M.length : Nat) : Int)) rfl rfl (run_lenL (p := p1) (cap := c1) (n := M.length) rfl Tryd.underlying37 (by kernel_rfl)) ?_
    refine lp (v := .bool (decide (k < M.length))) rfl rfl (run_bin rfl (vx := (.int .i64 ((k : Nat) : Int))) (vy := (.int .i64 ((M.length : Nat) : Int))) (by kernel_rfl) (by kernel_rfl) fun w => bn_lss rfl w) ?_
    refine wpL_done (fun W12 hW12 => ?_)
    refine (show Code.wp _ _ _ _ _ from ?_)
    cases hd1 : (decide (k < M.length)) with
    | false =>
      have h1 : ¬ (k < M.length) := of_decide_eq_false hd1
      clear hd1
      have ht2 : told = hitB s i c := by rw [ht, List.take_of_length_le (by omega), ← hM, Bool.eq_iff_iff, decide_eq_true_iff]; exact miss_mem (by omega)
      rw [hit_is] at ht2
      obtain ⟨b2, hb2⟩ : ∃ b, (s : List UInt8)[i]? = some b := ⟨_, List.getElem?_eq_getElem (by omega)⟩
      have lb2 := b2.toNat_lt
      refine wp_cond_false rfl ?_
      refine wp_exit ?_
      refine (show Code.wp _ _ _ _ _ from ?_)
      refine wp_joins (JoinR (fun z => List.toArray ((.int .u64 ((n : Nat) : Int)) :: z 1 :: (.int .u8 ((c.toNat : Nat) : Int)) :: z 3 :: z 4 :: z 5 :: z 6 :: (strV p) :: (.int .u8 ((d.toNat : Nat) : Int)) :: z 9 :: (strV s) :: (.int .i64 ((i : Nat) : Int)) :: z 12 :: z 13 :: (.bool told) :: z 15 :: (.bool (isCap c)) :: (.bool (isDig c)) :: z 18 :: z 19 :: z 20 :: z 21 :: z 22 :: z 23 :: z 24 :: z 25 :: z 26 :: z 27 :: z 28 :: z 29 :: z 30 :: z 31 :: z 32 :: z 33 :: z 34 :: z 35 :: z 36 :: z 37 :: z 38 :: z 39 :: z 40 :: z 41 :: z 42 :: z 43 :: z 44 :: z 45 :: z 46 :: z 47 :: z 48 :: z 49 :: z 50 :: z 51 :: z 52 :: z 53 :: z 54 :: z 55 :: z 56 :: z 57 :: z 58 :: z 59 :: z 60 :: z 61 :: z 62 :: z 63 :: z 64 :: z 65 :: z 66 :: z 67 :: z 68 :: z 69 :: z 70 :: z 71 :: z 72 :: z 73 :: z 74 :: z 75 :: z 76 :: z 77 :: z 78 :: z 79 :: z 80 :: z 81 :: z 82 :: z 83 :: z 84 :: z 85 :: z 86 :: z 87 :: z 88 :: z 89 :: z 90 :: z 91 :: z 92 :: z 93 :: z 94 :: z 95 :: z 96 :: z 97 :: z 98 :: z 99 :: z 100 :: z 101 :: z 102 :: z 103 :: z 104 :: z 105 :: z 106 :: z 107 :: z 108 :: z 109 :: z 110 :: z 111 :: z 112 :: z 113 :: z 114 :: z 115 :: z 116 :: z 117 :: z 118 :: z 119 :: z 120 :: z 121 :: z 122 :: z 123 :: z 124 :: z 125 :: z 126 :: z 127 :: z 128 :: z 129 :: z 130 :: z 131 :: z 132 :: z 133 :: z 134 :: z 135 :: z 136 :: z 137 :: z 138 :: z 139 :: z 140 :: z 141 :: z 142 :: z 143 :: z 144 :: z 145 :: z 146 :: z 147 :: z 148 :: z 149 :: z 150 :: z 151 :: z 152 :: z 153 :: z 154 :: z 155 :: z 156 :: z 157 :: z 158 :: z 159 :: z 160 :: z 161 :: z 162 :: z 163 :: z 164 :: z 165 :: z 166 :: z 167 :: z 168 :: z 169 :: z 170 :: z 171 :: z 172 :: z 173 :: z 174 :: z 175 :: z 176 :: z 177 :: z 178 :: z 179 :: z 180 :: z 181 :: z 182 :: z 183 :: z 184 :: z 185 :: z 186 :: z 187 :: z 188 :: z 189 :: z 190 :: z 191 :: z 192 :: z 193 :: z 194 :: z 195 :: z 196 :: z 197 :: z 198 :: z 199 :: z 200 :: z 201 :: z 202 :: z 203 :: z 204 :: z 205 :: z 206 :: z 207 :: z 208 :: z 209 :: z 210 :: z 211 :: z 212 :: z 213 :: z 214 :: z 215 :: z 216 :: z 217 :: z 218 :: z 219 :: z 220 :: z 221 :: z 222 :: z 223 :: z 224 :: z 225 :: z 226 :: z 227 :: z 228 :: z 229 :: [])) W7 [(g1, .cells #[.int .u8 ((d.toNat : Nat) : Int)] 5 (0, 0))]) 1 ?_ ?_
      · refine (show Code.wp _ _ _ _ _ from ?_)
        refine wp_region_L (W0 := W7) [(g1, .cells #[.int .u8 ((d.toNat : Nat) : Int)] 5 (0, 0))] (hW12) ?_
        refine lm (v := .int .u8 ((c.toNat : Nat) : Int)) rfl rfl ?_
        refine lp (v := .bool (!(decide (c.toNat < 65)))) rfl rfl (run_bin rfl (vx := (.int .u8 ((c.toNat : Nat) : Int))) (vy := (.int .u8 ((65 : Nat) : Int))) (by kernel_rfl) (by kernel_rfl) fun w => bn_geq rfl w) ?_
        refine lm (v := .bool (!(decide (c.toNat < 65)))) rfl rfl ?_
        cases hd2 : (decide (c.toNat < 65)) with
        | false =>
          have h2 : ¬ (c.toNat < 65) := of_decide_eq_false hd2
          clear hd2
          refine lm (v := .int .u8 ((c.toNat : Nat) : Int)) rfl rfl ?_
          refine lp (v := .bool (!(decide (90 < c.toNat)))) rfl rfl (run_bin rfl (vx := (.int .u8 ((c.toNat : Nat) : Int))) (vy := (.int .u8 ((90 : Nat) : Int))) (by kernel_rfl) (by kernel_rfl) fun w => bn_leq rfl w) ?_
          refine lm (v := .bool (!(decide (90 < c.toNat)))) rfl rfl ?_
          refine lm (v := .int .u8 ((c.toNat : Nat) : Int)) rfl rfl ?_
          refine lp (v := .bool (!(decide (c.toNat < 48)))) rfl rfl (run_bin rfl (vx := (.int .u8 ((c.toNat : Nat) : Int))) (vy := (.int .u8 ((48 : Nat) : Int))) (by kernel_rfl) (by kernel_rfl) fun w => bn_geq rfl w) ?_
          refine lm (v := .bool (!(decide (c.toNat < 48)))) rfl rfl ?_
          cases hd3 : (decide (c.toNat < 48)) with
          | false =>
            have h3 : ¬ (c.toNat < 48) := of_decide_eq_false hd3
            clear hd3
            refine lm (v := .int .u8 ((c.toNat : Nat) : Int)) rfl rfl ?_
            refine lp (v := .bool (!(decide (57 < c.toNat)))) rfl rfl (run_bin rfl (vx := (.int .u8 ((c.toNat : Nat) : Int))) (vy := (.int .u8 ((57 : Nat) : Int))) (by kernel_rfl) (by kernel_rfl) fun w => bn_leq rfl w) ?_
            refine lm (v := .bool (!(decide (57 < c.toNat)))) rfl rfl ?_
            refine lm (v := .bool (!(decide (90 < c.toNat)))) rfl rfl ?_
            refine lm (v := .bool (!(decide (57 < c.toNat)))) rfl rfl ?_
            refine wpL_done (fun W13 hW13 => ?_)
            have e16 : isCap c = (!(decide (90 < c.toNat))) := by unfold isCap; rw [Bool.eq_iff_iff]; simp <;> omega
            have e17 : isDig c = (!(decide (57 < c.toNat))) := by unfold isDig; rw [Bool.eq_iff_iff]; simp <;> omega
            exact join_mk (by rw [e16, e17]; kernel_rfl) hW13
          | true =>
            have h3 : c.toNat < 48 := of_decide_eq_true hd3
            clear hd3
            refine ln rfl ?_
            refine ln rfl ?_
            refine lm (v := .bool false) rfl rfl ?_
            refine lm (v := .bool (!(decide (90 < c.toNat)))) rfl rfl ?_
            refine lm (v := .bool false) rfl rfl ?_
            refine wpL_done (fun W14 hW14 => ?_)
            have e16 : isCap c = (!(decide (90 < c.toNat))) := by unfold isCap; rw [Bool.eq_iff_iff]; simp <;> omega
            have e17 : isDig c = false := by unfold isDig; rw [Bool.eq_iff_iff]; simp <;> omega
            exact join_mk (by rw [e16, e17]; kernel_rfl) hW14
        | true =>
          have h2 : c.toNat < 65 := of_decide_eq_true hd2
          clear hd2
          refine ln rfl ?_
          refine ln rfl ?_
          refine lm (v := .bool false) rfl rfl ?_
          refine lm (v := .int .u8 ((c.toNat : Nat) : Int)) rfl rfl ?_
          refine lp (v := .bool (!(decide (c.toNat < 48)))) rfl rfl (run_bin rfl (vx := (.int .u8 ((c.toNat : Nat) : Int))) (vy := (.int .u8 ((48 : Nat) : Int))) (by kernel_rfl) (by kernel_rfl) fun w => bn_geq rfl w) ?_
          refine lm (v := .bool (!(decide (c.toNat < 48)))) rfl rfl ?_
          cases hd4 : (decide (c.toNat < 48)) with
          | false =>
            have h4 : ¬ (c.toNat < 48) := of_decide_eq_false hd4
            clear hd4
            refine lm (v := .int .u8 ((c.toNat : Nat) : Int)) rfl rfl ?_
            refine lp (v := .bool (!(decide (57 < c.toNat)))) rfl rfl (run_bin rfl (vx := (.int .u8 ((c.toNat : Nat) : Int))) (vy := (.int .u8 ((57 : Nat) : Int))) (by kernel_rfl) (by kernel_rfl) fun w => bn_leq rfl w) ?_
            refine lm (v := .bool (!(decide (57 < c.toNat)))) rfl rfl ?_
            refine lm (v := .bool false) rfl rfl ?_
            refine lm (v := .bool (!(decide (57 < c.toNat)))) rfl rfl ?_
            refine wpL_done (fun W15 hW15 => ?_)
            have e16 : isCap c = false := by unfold isCap; rw [Bool.eq_iff_iff]; simp <;> omega
            have e17 : isDig c = (!(decide (57 < c.toNat))) := by unfold isDig; rw [Bool.eq_iff_iff]; simp <;> omega
            exact join_mk (by rw [e16, e17]; kernel_rfl) hW15
          | true =>
            have h4 : c.toNat < 48 := of_decide_eq_true hd4
            clear hd4
            refine ln rfl ?_
            refine ln rfl ?_
            refine lm (v := .bool false) rfl rfl ?_
            refine lm (v := .bool false) rfl rfl ?_
            refine lm (v := .bool false) rfl rfl ?_
            refine wpL_done (fun W16 hW16 => ?_)
            have e16 : isCap c = false := by unfold isCap; rw [Bool.eq_iff_iff]; simp <;> omega
            have e17 : isDig c = false := by unfold isDig; rw [Bool.eq_iff_iff]; simp <;> omega
            exact join_mk (by rw [e16, e17]; kernel_rfl) hW16
      · rintro a1 W1j ⟨⟨z, rfl⟩, hW1j⟩
        dsimp only [cutT]
        refine wp_seq ?_
        refine wp_joins (JoinR (fun z => List.toArray ((.int .u64 ((n : Nat) : Int)) :: z 1 :: (.int .u8 ((c.toNat : Nat) : Int)) :: z 3 :: z 4 :: z 5 :: z 6 :: (strV p) :: (.int .u8 ((d.toNat : Nat) : Int)) :: z 9 :: (strV s) :: (.int .i64 ((i : Nat) : Int)) :: z 12 :: z 13 :: (.bool told) :: z 15 :: (.bool (isCap c)) :: (.bool (isDig c)) :: z 18 :: z 19 :: z 20 :: z 21 :: z 22 :: z 23 :: z 24 :: z 25 :: z 26 :: z 27 :: z 28 :: z 29 :: z 30 :: z 31 :: z 32 :: z 33 :: z 34 :: z 35 :: z 36 :: z 37 :: z 38 :: z 39 :: z 40 :: z 41 :: z 42 :: z 43 :: z 44 :: z 45 :: z 46 :: z 47 :: z 48 :: z 49 :: z 50 :: z 51 :: z 52 :: z 53 :: z 54 :: z 55 :: z 56 :: z 57 :: z 58 :: z 59 :: z 60 :: z 61 :: z 62 :: z 63 :: z 64 :: z 65 :: z 66 :: z 67 :: z 68 :: z 69 :: z 70 :: z 71 :: z 72 :: z 73 :: z 74 :: z 75 :: z 76 :: z 77 :: z 78 :: z 79 :: z 80 :: z 81 :: z 82 :: z 83 :: z 84 :: z 85 :: z 86 :: z 87 :: z 88 :: z 89 :: z 90 :: z 91 :: z 92 :: z 93 :: z 94 :: z 95 :: z 96 :: z 97 :: z 98 :: z 99 :: z 100 :: z 101 :: z 102 :: z 103 :: z 104 :: z 105 :: z 106 :: z 107 :: z 108 :: z 109 :: z 110 :: z 111 :: z 112 :: z 113 :: z 114 :: z 115 :: z 116 :: z 117 :: z 118 :: z 119 :: z 120 :: z 121 :: z 122 :: z 123 :: z 124 :: z 125 :: z 126 :: z 127 :: z 128 :: z 129 :: z 130 :: z 131 :: z 132 :: z 133 :: z 134 :: z 135 :: z 136 :: z 137 :: z 138 :: z 139 :: z 140 :: z 141 :: z 142 :: z 143 :: z 144 :: z 145 :: z 146 :: z 147 :: z 148 :: z 149 :: z 150 :: z 151 :: z 152 :: z 153 :: z 154 :: z 155 :: z 156 :: z 157 :: z 158 :: z 159 :: (.bool (badB s i c)) :: z 161 :: z 162 :: z 163 :: z 164 :: z 165 :: z 166 :: z 167 :: z 168 :: z 169 :: z 170 :: z 171 :: z 172 :: z 173 :: z 174 :: z 175 :: z 176 :: z 177 :: z 178 :: z 179 :: z 180 :: z 181 :: z 182 :: z 183 :: z 184 :: z 185 :: z 186 :: z 187 :: z 188 :: z 189 :: z 190 :: z 191 :: z 192 :: z 193 :: z 194 :: z 195 :: z 196 :: z 197 :: z 198 :: z 199 :: z 200 :: z 201 :: z 202 :: z 203 :: z 204 :: z 205 :: z 206 :: z 207 :: z 208 :: z 209 :: z 210 :: z 211 :: z 212 :: z 213 :: z 214 :: z 215 :: z 216 :: z 217 :: z 218 :: z 219 :: z 220 :: z 221 :: z 222 :: z 223 :: z 224 :: z 225 :: z 226 :: z 227 :: z 228 :: z 229 :: [])) W7 [(g1, .cells #[.int .u8 ((d.toNat : Nat) : Int)] 5 (0, 0))]) 1 ?_ ?_
        · refine (show Code.wp _ _ _ _ _ from ?_)
          refine wp_region_L (W0 := W7) [(g1, .cells #[.int .u8 ((d.toNat : Nat) : Int)] 5 (0, 0))] (hW1j) ?_
          refine lm (v := .int .u8 ((c.toNat : Nat) : Int)) rfl rfl ?_
          refine lm (v := strV s) rfl rfl ?_
          refine lm (v := .int .i64 ((i : Nat) : Int)) rfl rfl ?_
          refine lp (v := .int .u8 ((b2.toNat : Nat) : Int)) rfl rfl (run_idxS (j := .i64) (l := s) (k := i) (b := b2) rfl Tryd.underlying9 (by kernel_rfl) (by kernel_rfl) hb2) ?_
          refine lp (v := .bool (decide (c.toNat = b2.toNat))) rfl rfl (run_bin rfl (vx := (.int .u8 ((c.toNat : Nat) : Int))) (vy := (.int .u8 ((b2.toNat : Nat) : Int))) (by kernel_rfl) (by kernel_rfl) fun w => bn_eql rfl w) ?_
          refine lm (v := .bool (decide (c.toNat = b2.toNat))) rfl rfl ?_
          cases hd5 : (decide (c.toNat = b2.toNat)) with
          | false =>
            have h5 : ¬ (c.toNat = b2.toNat) := of_decide_eq_false hd5
            clear hd5
            refine lm (v := .int .i64 ((i : Nat) : Int)) rfl rfl ?_
            refine lp (v := .bool (decide (i < 3))) rfl rfl (run_bin rfl (vx := (.int .i64 ((i : Nat) : Int))) (vy := (.int .i64 ((3 : Nat) : Int))) (by kernel_rfl) (by kernel_rfl) fun w => bn_lss rfl w) ?_
            refine lm (v := .bool (decide (i < 3))) rfl rfl ?_
            cases hd6 : (decide (i < 3)) with
            | false =>
              have h6 : ¬ (i < 3) := of_decide_eq_false hd6
              clear hd6
              refine ln rfl ?_
              refine ln rfl ?_
              refine lm (v := .bool false) rfl rfl ?_
              refine lm (v := .bool false) rfl rfl ?_
              refine lm (v := .bool false) rfl rfl ?_
              refine lm (v := .int .i64 ((i : Nat) : Int)) rfl rfl ?_
              refine lp (v := .bool (decide (i = 3))) rfl rfl (run_bin rfl (vx := (.int .i64 ((i : Nat) : Int))) (vy := (.int .i64 ((3 : Nat) : Int))) (by kernel_rfl) (by kernel_rfl) fun w => bn_eql rfl w) ?_
              refine lm (v := .bool (decide (i = 3))) rfl rfl ?_
              cases hd7 : (decide (i = 3)) with
              | false =>
                have h7 : ¬ (i = 3) := of_decide_eq_false hd7
                clear hd7
                refine ln rfl ?_
                refine ln rfl ?_
                refine lm (v := .bool false) rfl rfl ?_
                refine lm (v := .bool false) rfl rfl ?_
                refine ln rfl ?_
                refine ln rfl ?_
                refine lm (v := .bool false) rfl rfl ?_
                refine lm (v := .bool false) rfl rfl ?_
                refine ln rfl ?_
                refine ln rfl ?_
                refine lm (v := .bool false) rfl rfl ?_
                refine lm (v := .bool false) rfl rfl ?_
                refine lm (v := .bool false) rfl rfl ?_
                refine lm (v := .int .i64 ((i : Nat) : Int)) rfl rfl ?_
                refine lp (v := .bool true) rfl rfl (run_bin rfl (vx := (.int .i64 ((i : Nat) : Int))) (vy := (.int .i64 ((3 : Nat) : Int))) (by kernel_rfl) (by kernel_rfl) fun w => bn_gtr (decide_eq_true (by omega)) w) ?_
                refine lm (v := .bool true) rfl rfl ?_
                refine lm (v := .bool (isDig c)) rfl rfl ?_
                refine lp (v := .bool (!(isDig c))) rfl rfl (run_un rfl (by kernel_rfl) fun w => un_not w) ?_
                refine lm (v := .bool (!(isDig c))) rfl rfl ?_
                refine lm (v := .bool (!(isDig c))) rfl rfl ?_
                refine wpL_done (fun W17 hW17 => ?_)
                have e160 : badB s i c = (!(isDig c)) := by unfold badB mayB isCat; rw [getD_some hb2]; simp [h5, h6, h7] <;> omega
                exact join_mk (by rw [e160]; kernel_rfl) hW17
              | true =>
                have h7 : i = 3 := of_decide_eq_true hd7
                clear hd7
                refine lm (v := .int .u8 ((c.toNat : Nat) : Int)) rfl rfl ?_
                refine lp (v := .bool (!(decide (c.toNat = 85)))) rfl rfl (run_bin rfl (vx := (.int .u8 ((c.toNat : Nat) : Int))) (vy := (.int .u8 ((85 : Nat) : Int))) (by kernel_rfl) (by kernel_rfl) fun w => bn_neq rfl w) ?_
                refine lm (v := .bool (!(decide (c.toNat = 85)))) rfl rfl ?_
                refine lm (v := .bool (!(decide (c.toNat = 85)))) rfl rfl ?_
                cases hd8 : (decide (c.toNat = 85)) with
                | false =>
                  have h8 : ¬ (c.toNat = 85) := of_decide_eq_false hd8
                  clear hd8
                  refine lm (v := .int .u8 ((c.toNat : Nat) : Int)) rfl rfl ?_
                  refine lp (v := .bool (!(decide (c.toNat = 74)))) rfl rfl (run_bin rfl (vx := (.int .u8 ((c.toNat : Nat) : Int))) (vy := (.int .u8 ((74 : Nat) : Int))) (by kernel_rfl) (by kernel_rfl) fun w => bn_neq rfl w) ?_
                  refine lm (v := .bool (!(decide (c.toNat = 74)))) rfl rfl ?_
                  refine lm (v := .bool (!(decide (c.toNat = 74)))) rfl rfl ?_
                  cases hd9 : (decide (c.toNat = 74)) with
                  | false =>
                    have h9 : ¬ (c.toNat = 74) := of_decide_eq_false hd9
                    clear hd9
                    refine lm (v := .int .u8 ((c.toNat : Nat) : Int)) rfl rfl ?_
                    refine lp (v := .bool (!(decide (c.toNat = 90)))) rfl rfl (run_bin rfl (vx := (.int .u8 ((c.toNat : Nat) : Int))) (vy := (.int .u8 ((90 : Nat) : Int))) (by kernel_rfl) (by kernel_rfl) fun w => bn_neq rfl w) ?_
                    refine lm (v := .bool (!(decide (c.toNat = 90)))) rfl rfl ?_
                    refine lm (v := .bool (!(decide (c.toNat = 90)))) rfl rfl ?_
                    refine lm (v := .bool (!(decide (c.toNat = 90)))) rfl rfl ?_
                    cases hd10 : (decide (c.toNat = 90)) with
                    | false =>
                      have h10 : ¬ (c.toNat = 90) := of_decide_eq_false hd10
                      clear hd10
                      refine ln rfl ?_
                      refine ln rfl ?_
                      refine ln rfl ?_
                      refine ln rfl ?_
                      refine ln rfl ?_
                      refine ln rfl ?_
                      refine lm (v := .bool true) rfl rfl ?_
                      refine wpL_done (fun W18 hW18 => ?_)
                      have e160 : badB s i c = true := by unfold badB mayB isCat; rw [getD_some hb2]; simp [h5, h6, h7, h8, h9, h10] <;> omega
                      exact join_mk (by rw [e160]; kernel_rfl) hW18
                    | true =>
                      have h10 : c.toNat = 90 := of_decide_eq_true hd10
                      clear hd10
                      refine lm (v := .int .i64 ((i : Nat) : Int)) rfl rfl ?_
                      refine lp (v := .bool false) rfl rfl (run_bin rfl (vx := (.int .i64 ((i : Nat) : Int))) (vy := (.int .i64 ((3 : Nat) : Int))) (by kernel_rfl) (by kernel_rfl) fun w => bn_gtr (decide_eq_false (by omega)) w) ?_
                      refine lm (v := .bool false) rfl rfl ?_
                      refine ln rfl ?_
                      refine ln rfl ?_
                      refine lm (v := .bool false) rfl rfl ?_
                      refine lm (v := .bool false) rfl rfl ?_
                      refine wpL_done (fun W19 hW19 => ?_)
                      have e160 : badB s i c = false := by unfold badB mayB isCat; rw [getD_some hb2]; simp [h5, h6, h7, h8, h9, h10] <;> omega
                      exact join_mk (by rw [e160]; kernel_rfl) hW19
                  | true =>
                    have h9 : c.toNat = 74 := of_decide_eq_true hd9
                    clear hd9
                    refine ln rfl ?_
                    refine ln rfl ?_
                    refine lm (v := .bool false) rfl rfl ?_
                    refine lm (v := .bool false) rfl rfl ?_
                    refine lm (v := .bool false) rfl rfl ?_
                    refine lm (v := .int .i64 ((i : Nat) : Int)) rfl rfl ?_
                    refine lp (v := .bool false) rfl rfl (run_bin rfl (vx := (.int .i64 ((i : Nat) : Int))) (vy := (.int .i64 ((3 : Nat) : Int))) (by kernel_rfl) (by kernel_rfl) fun w => bn_gtr (decide_eq_false (by omega)) w) ?_
                    refine lm (v := .bool false) rfl rfl ?_
                    refine ln rfl ?_
                    refine ln rfl ?_
                    refine lm (v := .bool false) rfl rfl ?_
                    refine lm (v := .bool false) rfl rfl ?_
                    refine wpL_done (fun W20 hW20 => ?_)
                    have e160 : badB s i c = false := by unfold badB mayB isCat; rw [getD_some hb2]; simp [h5, h6, h7, h8, h9] <;> omega
                    exact join_mk (by rw [e160]; kernel_rfl) hW20
                | true =>
                  have h8 : c.toNat = 85 := of_decide_eq_true hd8
                  clear hd8
                  refine ln rfl ?_
                  refine ln rfl ?_
                  refine lm (v := .bool false) rfl rfl ?_
                  refine lm (v := .bool false) rfl rfl ?_
                  refine ln rfl ?_
                  refine ln rfl ?_
                  refine lm (v := .bool false) rfl rfl ?_
                  refine lm (v := .bool false) rfl rfl ?_
                  refine lm (v := .bool false) rfl rfl ?_
                  refine lm (v := .int .i64 ((i : Nat) : Int)) rfl rfl ?_
                  refine lp (v := .bool false) rfl rfl (run_bin rfl (vx := (.int .i64 ((i : Nat) : Int))) (vy := (.int .i64 ((3 : Nat) : Int))) (by kernel_rfl) (by kernel_rfl) fun w => bn_gtr (decide_eq_false (by omega)) w) ?_
                  refine lm (v := .bool false) rfl rfl ?_
                  refine ln rfl ?_
                  refine ln rfl ?_
                  refine lm (v := .bool false) rfl rfl ?_
                  refine lm (v := .bool false) rfl rfl ?_
                  refine wpL_done (fun W21 hW21 => ?_)
                  have e160 : badB s i c = false := by unfold badB mayB isCat; rw [getD_some hb2]; simp [h5, h6, h7, h8] <;> omega
                  exact join_mk (by rw [e160]; kernel_rfl) hW21
            | true =>
              have h6 : i < 3 := of_decide_eq_true hd6
              clear hd6
              refine lm (v := .bool (isCap c)) rfl rfl ?_
              refine lp (v := .bool (!(isCap c))) rfl rfl (run_un rfl (by kernel_rfl) fun w => un_not w) ?_
              refine lm (v := .bool (!(isCap c))) rfl rfl ?_
              refine lm (v := .bool (!(isCap c))) rfl rfl ?_
              refine lm (v := .bool (!(isCap c))) rfl rfl ?_
              cases h11 : (isCap c) with
              | false =>
                refine ln rfl ?_
                refine ln rfl ?_
                refine ln rfl ?_
                refine ln rfl ?_
                refine ln rfl ?_
                refine ln rfl ?_
                refine ln rfl ?_
                refine ln rfl ?_
                refine ln rfl ?_
                refine ln rfl ?_
                refine ln rfl ?_
                refine ln rfl ?_
                refine ln rfl ?_
                refine ln rfl ?_
                refine lm (v := .bool true) rfl rfl ?_
                refine lm (v := .bool true) rfl rfl ?_
                refine ln rfl ?_
                refine ln rfl ?_
                refine ln rfl ?_
                refine ln rfl ?_
                refine ln rfl ?_
                refine ln rfl ?_
                refine lm (v := .bool true) rfl rfl ?_
                refine wpL_done (fun W22 hW22 => ?_)
                have e160 : badB s i c = true := by unfold badB mayB isCat; rw [getD_some hb2]; simp [h5, h6, h11] <;> omega
                exact join_mk (by rw [e160]; kernel_rfl) hW22
              | true =>
                refine lm (v := .int .i64 ((i : Nat) : Int)) rfl rfl ?_
                refine lp (v := .bool false) rfl rfl (run_bin rfl (vx := (.int .i64 ((i : Nat) : Int))) (vy := (.int .i64 ((3 : Nat) : Int))) (by kernel_rfl) (by kernel_rfl) fun w => bn_eql (decide_eq_false (by omega)) w) ?_
                refine lm (v := .bool false) rfl rfl ?_
                refine ln rfl ?_
                refine ln rfl ?_
                refine lm (v := .bool false) rfl rfl ?_
                refine lm (v := .bool false) rfl rfl ?_
                refine ln rfl ?_
                refine ln rfl ?_
                refine lm (v := .bool false) rfl rfl ?_
                refine lm (v := .bool false) rfl rfl ?_
                refine ln rfl ?_
                refine ln rfl ?_
                refine lm (v := .bool false) rfl rfl ?_
                refine lm (v := .bool false) rfl rfl ?_
                refine lm (v := .bool false) rfl rfl ?_
                refine lm (v := .int .i64 ((i : Nat) : Int)) rfl rfl ?_
                refine lp (v := .bool false) rfl rfl (run_bin rfl (vx := (.int .i64 ((i : Nat) : Int))) (vy := (.int .i64 ((3 : Nat) : Int))) (by kernel_rfl) (by kernel_rfl) fun w => bn_gtr (decide_eq_false (by omega)) w) ?_
                refine lm (v := .bool false) rfl rfl ?_
                refine ln rfl ?_
                refine ln rfl ?_
                refine lm (v := .bool false) rfl rfl ?_
                refine lm (v := .bool false) rfl rfl ?_
                refine wpL_done (fun W23 hW23 => ?_)
                have e160 : badB s i c = false := by unfold badB mayB isCat; rw [getD_some hb2]; simp [h5, h6, h11] <;> omega
                exact join_mk (by rw [e160]; kernel_rfl) hW23
          | true =>
            have h5 : c.toNat = b2.toNat := of_decide_eq_true hd5
            clear hd5
            refine ln rfl ?_
            refine ln rfl ?_
            refine ln rfl ?_
            refine ln rfl ?_
            refine ln rfl ?_
            refine ln rfl ?_
            refine lm (v := .bool true) rfl rfl ?_
            refine lm (v := .bool true) rfl rfl ?_
            refine ln rfl ?_
            refine ln rfl ?_
            refine ln rfl ?_
            refine ln rfl ?_
            refine ln rfl ?_
            refine ln rfl ?_
            refine ln rfl ?_
            refine ln rfl ?_
            refine ln rfl ?_
            refine ln rfl ?_
            refine ln rfl ?_
            refine ln rfl ?_
            refine ln rfl ?_
            refine ln rfl ?_
            refine lm (v := .bool true) rfl rfl ?_
            refine lm (v := .bool true) rfl rfl ?_
            refine ln rfl ?_
            refine ln rfl ?_
            refine ln rfl ?_
            refine ln rfl ?_
            refine ln rfl ?_
            refine ln rfl ?_
            refine lm (v := .bool true) rfl rfl ?_
            refine wpL_done (fun W24 hW24 => ?_)
            have e160 : badB s i c = true := by unfold badB mayB isCat; rw [getD_some hb2]; simp [h5] <;> omega
            exact join_mk (by rw [e160]; kernel_rfl) hW24
        · rintro a2 W2j ⟨⟨z, rfl⟩, hW2j⟩
          dsimp only [cutT]
          cases h12 : (badB s i c) with
          | false =>
            have hne : ¬ (c.toNat = b2.toNat) := by intro e; unfold badB at h12; rw [getD_some hb2] at h12; simp [e] at h12
            have hmay : mayB i c = true := by unfold badB at h12; simp at h12; exact h12.2
            have htd : told = agrB (s.set i c) := by rw [ht2, h12]; simp
            refine wp_cond_false rfl ?_
            refine wp_skip ?_
            refine (show Code.wp _ _ _ _ _ from ?_)
            refine wp_seq ?_
            refine wp_seq ?_
            refine wp_region_L (W0 := W7) [(g1, .cells #[.int .u8 ((d.toNat : Nat) : Int)] 5 (0, 0))] (hW2j) ?_
            refine lm (v := .int .i64 ((i : Nat) : Int)) rfl rfl ?_
            refine lp (v := .bool (decide (i = 10))) rfl rfl (run_bin rfl (vx := (.int .i64 ((i : Nat) : Int))) (vy := (.int .i64 ((10 : Nat) : Int))) (by kernel_rfl) (by kernel_rfl) fun w => bn_eql rfl w) ?_
            refine wpL_done (fun W25 hW25 => ?_)
            refine (show Code.wp _ _ _ _ _ from ?_)
            cases hd13 : (decide (i = 10)) with
            | false =>
              have h13 : ¬ (i = 10) := of_decide_eq_false hd13
              clear hd13
              have li9 : i < 10 := by omega
              refine wp_cond_false rfl ?_
              refine wp_skip ?_
              refine (show Code.wp _ _ _ _ _ from ?_)
              refine wp_seq ?_
              refine wp_region_V (W0 := W7) [(g1, .cells #[.int .u8 ((d.toNat : Nat) : Int)] 5 (0, 0))] (by kernel_rfl) (hW25) ?_
              refine vm (i := 0) (v := strV p) rfl rfl rfl ?_
              refine vm (i := 1) (v := .int .i64 ((i : Nat) : Int)) rfl rfl rfl ?_
              refine vp (i := 2) (v := strV (p.take i)) rfl rfl rfl (run_slH (k2 := .i64) (l := p) (r := (p.take i)) (j := i) rfl Tryd.underlying9 (by kernel_rfl) (by kernel_rfl) (by first | omega | (simp; omega)) rfl) ?_
              refine vm (i := 3) (v := .int .u8 ((c.toNat : Nat) : Int)) rfl rfl rfl ?_
              refine vm (i := 7) (v := strV p) rfl rfl rfl ?_
              refine vm (i := 8) (v := .int .i64 ((i : Nat) : Int)) rfl rfl rfl ?_
              refine vp (i := 9) (v := .int .i64 (((i + 1) : Nat) : Int)) rfl rfl rfl (run_bin rfl (vx := (.int .i64 ((i : Nat) : Int))) (vy := (.int .i64 ((1 : Nat) : Int))) (by kernel_rfl) (by kernel_rfl) fun w => bn_add (z := (i + 1)) rfl (wr_i64 (by omega)) w) ?_
              refine vp (i := 10) (v := strV (p.drop (i + 1))) rfl rfl rfl (run_slL (k1 := .i64) (l := p) (r := (p.drop (i + 1))) (i := (i + 1)) rfl Tryd.underlying9 (by kernel_rfl) (by kernel_rfl) (by first | omega | (simp; omega)) rfl) ?_
              refine wpV_ns (fun g => .slice (some ⟨g, 0, none⟩) 1 1) (i := 4) (obi := .cells #[.int .u8 ((c.toNat : Nat) : Int)] 5 (0, 0)) rfl rfl rfl (by kernel_rfl) (fun _ => by kernel_rfl) (fun _ => by simp only [List.setIfInBounds_toArray, List.set_cons_succ, List.set_cons_zero] <;> rfl) fun g3 Bg3 Fg3 => ?_
              refine vv (i := 5) (v := strV [c]) rfl rfl rfl (yb_str (n := 1) (cap := 1) (l := [c]) rfl Tryd.underlying31 Tryd.underlying5 Tryd.underlying9 (by kernel_rfl) rfl (.head _) (by first | rfl | (simp [RowB, u8s]; omega))) ?_
              refine vp (i := 6) (v := strV ((p.take i) ++ [c])) rfl rfl rfl (run_bin rfl (vx := strV (p.take i)) (vy := strV [c]) (by kernel_rfl) (by kernel_rfl) fun w => bs_add (c := ((p.take i) ++ [c])) rfl (by first | omega | (simp; omega)) w) ?_
              obtain ⟨q, hq⟩ : ∃ q, p.set i c = q := ⟨_, rfl⟩
              refine vp (i := 11) (v := strV q) rfl rfl rfl (run_bin rfl (vx := strV ((p.take i) ++ [c])) (vy := strV (p.drop (i + 1))) (by kernel_rfl) (by kernel_rfl) fun w => bs_add (c := q) ((set_mid (by omega)).trans hq) (by first | omega | (simp; omega)) w) ?_
              have hfq : fitB q 10 = true := by rw [← hq]; exact fit_set hfp hmay
              have hlq := fit_len hfq
              have hjq := judge_app hfq (d := d) (by omega)
              have hset : s.set i c = q ++ [d] := by rw [← hs, set_app (by omega), hq]
              rw [hset, agr_app hlq] at htd
              obtain ⟨b4, hb4⟩ : ∃ b, (p : List UInt8)[i]? = some b := ⟨_, List.getElem?_eq_getElem (by omega)⟩
              have lb4 := b4.toNat_lt
              have hdig : isDig c = true → ¬ (remL p = remL q) := fun h1 h2 => by
                have h3 := dig_not hmay h1
                have h4 := may_dig (fitF_get 0 (fit_fit hfp) hb4) (by omega)
                have h5 : s[i]? = some b4 := by rw [← hs, List.getElem?_append_left (by omega)]; exact hb4
                rw [hb2] at h5
                cases h5
                rw [← hq] at h2
                exact hne (rem_digit hb4 h3 (by omega) h4 h1 h2)
              obtain rfl : told = decide (chkN q = d.toNat) := htd
              refine vm (i := 12) (v := strV q) rfl rfl rfl ?_
              refine wpV_done (by kernel_rfl) (fun W26 hW26 => ?_) _
              refine (show Code.wp _ _ _ _ _ from ?_)
              refine wp_seq ?_
              refine wp_region_L (W0 := W7) [(g3, .cells #[.int .u8 ((c.toNat : Nat) : Int)] 5 (0, 0)), (g1, .cells #[.int .u8 ((d.toNat : Nat) : Int)] 5 (0, 0))] (hW26) ?_
              refine lm (v := strV p) rfl rfl ?_
              refine lv (v := .int .i64 (((remL p) : Nat) : Int)) rfl rfl (yb_call (f := 21) (args := #[strV p]) (fun _ => by kernel_rfl) fun W hW => remainder_any p (by omega) W) ?_
              refine lm (v := strV q) rfl rfl ?_
              refine lv (v := .int .i64 (((remL q) : Nat) : Int)) rfl rfl (yb_call (f := 21) (args := #[strV q]) (fun _ => by kernel_rfl) fun W hW => remainder_any q (by omega) W) ?_
              refine lm (v := .int .i64 (((remL p) : Nat) : Int)) rfl rfl ?_
              refine lm (v := .int .i64 (((remL q) : Nat) : Int)) rfl rfl ?_
              refine wpL_done (fun W27 hW27 => ?_)
              refine (show Code.wp _ _ _ _ _ from ?_)
              refine wp_seq ?_
              refine wp_region_L (W0 := W7) [(g3, .cells #[.int .u8 ((c.toNat : Nat) : Int)] 5 (0, 0)), (g1, .cells #[.int .u8 ((d.toNat : Nat) : Int)] 5 (0, 0))] (hW27) ?_
              refine lm (v := .int .i64 (((remL p) : Nat) : Int)) rfl rfl ?_
              refine lm (v := .int .i64 (((remL q) : Nat) : Int)) rfl rfl ?_
              refine lp (v := .bool (decide ((remL p) = (remL q)))) rfl rfl (run_bin rfl (vx := (.int .i64 (((remL p) : Nat) : Int))) (vy := (.int .i64 (((remL q) : Nat) : Int))) (by kernel_rfl) (by kernel_rfl) fun w => bn_eql rfl w) ?_
              refine lm (v := .bool (decide ((remL p) = (remL q)))) rfl rfl ?_
              cases hd14 : (decide ((remL p) = (remL q))) with
              | false =>
                have h14 : ¬ ((remL p) = (remL q)) := of_decide_eq_false hd14
                clear hd14
                refine lm (v := .int .i64 (((remL p) : Nat) : Int)) rfl rfl ?_
                refine lp (v := .int .i64 ((((remL p) % 10) : Nat) : Int)) rfl rfl (run_bin rfl (vx := (.int .i64 (((remL p) : Nat) : Int))) (vy := (.int .i64 ((10 : Nat) : Int))) (by kernel_rfl) (by kernel_rfl) fun w => bn_rem (z := ((remL p) % 10)) rfl (by omega) w) ?_
                refine lp (v := .bool (decide (((remL p) % 10) = 0))) rfl rfl (run_bin rfl (vx := (.int .i64 ((((remL p) % 10) : Nat) : Int))) (vy := (.int .i64 ((0 : Nat) : Int))) (by kernel_rfl) (by kernel_rfl) fun w => bn_eql rfl w) ?_
                refine lm (v := .bool (decide (((remL p) % 10) = 0))) rfl rfl ?_
                cases hd15 : (decide (((remL p) % 10) = 0)) with
                | false =>
                  have h15 : ¬ (((remL p) % 10) = 0) := of_decide_eq_false hd15
                  clear hd15
                  refine ln rfl ?_
                  refine ln rfl ?_
                  refine ln rfl ?_
                  refine lm (v := .bool false) rfl rfl ?_
                  refine lm (v := .bool false) rfl rfl ?_
                  refine lm (v := .bool false) rfl rfl ?_
                  refine wpL_done (fun W28 hW28 => ?_)
                  refine (show Code.wp _ _ _ _ _ from ?_)
                  refine wp_seq ?_
                  refine wp_region_L (W0 := W7) [(g3, .cells #[.int .u8 ((c.toNat : Nat) : Int)] 5 (0, 0)), (g1, .cells #[.int .u8 ((d.toNat : Nat) : Int)] 5 (0, 0))] (hW28) ?_
                  refine lm (v := .bool (decide (chkN q = d.toNat))) rfl rfl ?_
                  refine lm (v := .bool false) rfl rfl ?_
                  cases hd16 : (decide (chkN q = d.toNat)) with
                  | false =>
                    have h16 : ¬ (chkN q = d.toNat) := of_decide_eq_false hd16
                    clear hd16
                    refine lm (v := .bool true) rfl rfl ?_
                    refine lm (v := .bool true) rfl rfl ?_
                    refine lm (v := strV q) rfl rfl ?_
                    refine lm (v := strV s) rfl rfl ?_
                    refine lp (v := strV [d]) rfl rfl (run_slL (k1 := .i64) (l := s) (r := [d]) (i := 10) rfl Tryd.underlying9 (by kernel_rfl) (by kernel_rfl) (by first | omega | (simp; omega)) (by rw [← hs, List.drop_left' hlp])) ?_
                    refine lp (v := strV (q ++ [d])) rfl rfl (run_bin rfl (vx := strV q) (vy := strV [d]) (by kernel_rfl) (by kernel_rfl) fun w => bs_add (c := (q ++ [d])) rfl (by first | omega | (simp; omega)) w) ?_
                    refine lv (v := .bool (decide (judgeN (q ++ [d]) = 0))) rfl rfl (yb_call (f := 18) (args := #[strV (q ++ [d])]) (fun _ => by kernel_rfl) fun W hW => Right_any (q ++ [d]) W) ?_
                    refine lm (v := .bool false) rfl rfl ?_
                    cases hd17 : (decide (judgeN (q ++ [d]) = 0)) with
                    | false =>
                      have h17 : ¬ (judgeN (q ++ [d]) = 0) := of_decide_eq_false hd17
                      clear hd17
                      refine lm (v := .bool true) rfl rfl ?_
                      refine lm (v := .bool true) rfl rfl ?_
                      refine lm (v := .bool true) rfl rfl ?_
                      refine lm (v := .bool (isDig c)) rfl rfl ?_
                      refine lp (v := .bool (!(isDig c))) rfl rfl (run_un rfl (by kernel_rfl) fun w => un_not w) ?_
                      refine lm (v := .bool (!(isDig c))) rfl rfl ?_
                      cases h18 : (isDig c) with
                      | false =>
                        refine ln rfl ?_
                        refine ln rfl ?_
                        refine lm (v := .bool true) rfl rfl ?_
                        refine lm (v := .bool true) rfl rfl ?_
                        refine ln rfl ?_
                        refine ln rfl ?_
                        refine ln rfl ?_
                        refine lm (v := .bool true) rfl rfl ?_
                        refine lm (v := .bool true) rfl rfl ?_
                        refine lm (v := .bool true) rfl rfl ?_
                        refine wpL_done (fun W29 hW29 => ?_)
                        refine (show Code.wp _ _ _ _ _ from ?_)
                        refine wp_ret ?_
                        try simp only [inBlock_ret, then_ret]
                        refine bodyPost_ret (v := .bool true) ?_ rfl ?_
                        · kernel_rfl
                        · exact ⟨rfl, (hbw.trans (hW29.1.mono hbw.size))⟩
                      | true =>
                        refine lm (v := .bool false) rfl rfl ?_
                        refine lm (v := .bool true) rfl rfl ?_
                        refine lm (v := .bool true) rfl rfl ?_
                        refine lm (v := .bool true) rfl rfl ?_
                        refine ln rfl ?_
                        refine ln rfl ?_
                        refine ln rfl ?_
                        refine lm (v := .bool true) rfl rfl ?_
                        refine lm (v := .bool true) rfl rfl ?_
                        refine lm (v := .bool true) rfl rfl ?_
                        refine wpL_done (fun W30 hW30 => ?_)
                        refine (show Code.wp _ _ _ _ _ from ?_)
                        refine wp_ret ?_
                        try simp only [inBlock_ret, then_ret]
                        refine bodyPost_ret (v := .bool true) ?_ rfl ?_
                        · kernel_rfl
                        · exact ⟨rfl, (hbw.trans (hW30.1.mono hbw.size))⟩
                    | true =>
                      have h17 : judgeN (q ++ [d]) = 0 := of_decide_eq_true hd17
                      clear hd17
                      refine lm (v := .bool false) rfl rfl ?_
                      refine lm (v := .bool false) rfl rfl ?_
                      refine lm (v := .bool false) rfl rfl ?_
                      refine ln rfl ?_
                      refine ln rfl ?_
                      refine ln rfl ?_
                      refine ln rfl ?_
                      refine ln rfl ?_
                      refine ln rfl ?_
                      refine ln rfl ?_
                      refine ln rfl ?_
                      refine ln rfl ?_
                      refine ln rfl ?_
                      refine ln rfl ?_
                      refine lm (v := .bool false) rfl rfl ?_
                      refine lm (v := .bool false) rfl rfl ?_
                      refine wpL_done (fun W31 hW31 => ?_)
                      refine (show Code.wp _ _ _ _ _ from ?_)
                      refine wp_ret ?_
                      exfalso
                      have e1 := chk_eq p
                      have e2 := chk_eq q
                      first | (split at hjq <;> omega) | exact hdig (by assumption) (by assumption)
                  | true =>
                    have h16 : chkN q = d.toNat := of_decide_eq_true hd16
                    clear hd16
                    refine lm (v := .bool false) rfl rfl ?_
                    refine lm (v := .bool false) rfl rfl ?_
                    refine ln rfl ?_
                    refine ln rfl ?_
                    refine ln rfl ?_
                    refine ln rfl ?_
                    refine ln rfl ?_
                    refine ln rfl ?_
                    refine ln rfl ?_
                    refine lm (v := .bool false) rfl rfl ?_
                    refine lm (v := .bool false) rfl rfl ?_
                    refine ln rfl ?_
                    refine ln rfl ?_
                    refine ln rfl ?_
                    refine ln rfl ?_
                    refine ln rfl ?_
                    refine ln rfl ?_
                    refine ln rfl ?_
                    refine ln rfl ?_
                    refine ln rfl ?_
                    refine ln rfl ?_
                    refine ln rfl ?_
                    refine lm (v := .bool false) rfl rfl ?_
                    refine lm (v := .bool false) rfl rfl ?_
                    refine wpL_done (fun W32 hW32 => ?_)
                    refine (show Code.wp _ _ _ _ _ from ?_)
                    refine wp_ret ?_
                    exfalso
                    have e1 := chk_eq p
                    have e2 := chk_eq q
                    first | (split at hjq <;> omega) | exact hdig (by assumption) (by assumption)
                | true =>
                  have h15 : ((remL p) % 10) = 0 := of_decide_eq_true hd15
                  clear hd15
                  refine lm (v := .int .i64 (((remL q) : Nat) : Int)) rfl rfl ?_
                  refine lp (v := .int .i64 ((((remL q) % 10) : Nat) : Int)) rfl rfl (run_bin rfl (vx := (.int .i64 (((remL q) : Nat) : Int))) (vy := (.int .i64 ((10 : Nat) : Int))) (by kernel_rfl) (by kernel_rfl) fun w => bn_rem (z := ((remL q) % 10)) rfl (by omega) w) ?_
                  refine lp (v := .bool (decide (((remL q) % 10) = 0))) rfl rfl (run_bin rfl (vx := (.int .i64 ((((remL q) % 10) : Nat) : Int))) (vy := (.int .i64 ((0 : Nat) : Int))) (by kernel_rfl) (by kernel_rfl) fun w => bn_eql rfl w) ?_
                  refine lm (v := .bool (decide (((remL q) % 10) = 0))) rfl rfl ?_
                  refine lm (v := .bool (decide (((remL q) % 10) = 0))) rfl rfl ?_
                  refine lm (v := .bool (decide (((remL q) % 10) = 0))) rfl rfl ?_
                  refine wpL_done (fun W33 hW33 => ?_)
                  refine (show Code.wp _ _ _ _ _ from ?_)
                  refine wp_seq ?_
                  refine wp_region_L (W0 := W7) [(g3, .cells #[.int .u8 ((c.toNat : Nat) : Int)] 5 (0, 0)), (g1, .cells #[.int .u8 ((d.toNat : Nat) : Int)] 5 (0, 0))] (hW33) ?_
                  refine lm (v := .bool (decide (chkN q = d.toNat))) rfl rfl ?_
                  refine lm (v := .bool (decide (((remL q) % 10) = 0))) rfl rfl ?_
                  cases hd19 : (decide (chkN q = d.toNat)) with
                  | false =>
                    have h19 : ¬ (chkN q = d.toNat) := of_decide_eq_false hd19
                    clear hd19
                    cases hd20 : (decide (((remL q) % 10) = 0)) with
                    | false =>
                      have h20 : ¬ (((remL q) % 10) = 0) := of_decide_eq_false hd20
                      clear hd20
                      refine lm (v := .bool true) rfl rfl ?_
                      refine lm (v := .bool true) rfl rfl ?_
                      refine lm (v := strV q) rfl rfl ?_
                      refine lm (v := strV s) rfl rfl ?_
                      refine lp (v := strV [d]) rfl rfl (run_slL (k1 := .i64) (l := s) (r := [d]) (i := 10) rfl Tryd.underlying9 (by kernel_rfl) (by kernel_rfl) (by first | omega | (simp; omega)) (by rw [← hs, List.drop_left' hlp])) ?_
                      refine lp (v := strV (q ++ [d])) rfl rfl (run_bin rfl (vx := strV q) (vy := strV [d]) (by kernel_rfl) (by kernel_rfl) fun w => bs_add (c := (q ++ [d])) rfl (by first | omega | (simp; omega)) w) ?_
                      refine lv (v := .bool (decide (judgeN (q ++ [d]) = 0))) rfl rfl (yb_call (f := 18) (args := #[strV (q ++ [d])]) (fun _ => by kernel_rfl) fun W hW => Right_any (q ++ [d]) W) ?_
                      refine lm (v := .bool false) rfl rfl ?_
                      cases hd21 : (decide (judgeN (q ++ [d]) = 0)) with
                      | false =>
                        have h21 : ¬ (judgeN (q ++ [d]) = 0) := of_decide_eq_false hd21
                        clear hd21
                        refine lm (v := .bool true) rfl rfl ?_
                        refine lm (v := .bool true) rfl rfl ?_
                        refine lm (v := .bool true) rfl rfl ?_
                        refine lm (v := .bool (isDig c)) rfl rfl ?_
                        refine lp (v := .bool (!(isDig c))) rfl rfl (run_un rfl (by kernel_rfl) fun w => un_not w) ?_
                        refine lm (v := .bool (!(isDig c))) rfl rfl ?_
                        cases h22 : (isDig c) with
                        | false =>
                          refine ln rfl ?_
                          refine ln rfl ?_
                          refine lm (v := .bool true) rfl rfl ?_
                          refine lm (v := .bool true) rfl rfl ?_
                          refine ln rfl ?_
                          refine ln rfl ?_
                          refine ln rfl ?_
                          refine lm (v := .bool true) rfl rfl ?_
                          refine lm (v := .bool true) rfl rfl ?_
                          refine lm (v := .bool true) rfl rfl ?_
                          refine wpL_done (fun W34 hW34 => ?_)
                          refine (show Code.wp _ _ _ _ _ from ?_)
                          refine wp_ret ?_
                          try simp only [inBlock_ret, then_ret]
                          refine bodyPost_ret (v := .bool true) ?_ rfl ?_
                          · kernel_rfl
                          · exact ⟨rfl, (hbw.trans (hW34.1.mono hbw.size))⟩
                        | true =>
                          refine lm (v := .bool false) rfl rfl ?_
                          refine lm (v := .bool true) rfl rfl ?_
                          refine lm (v := .bool true) rfl rfl ?_
                          refine lm (v := .bool true) rfl rfl ?_
                          refine ln rfl ?_
                          refine ln rfl ?_
                          refine ln rfl ?_
                          refine lm (v := .bool true) rfl rfl ?_
                          refine lm (v := .bool true) rfl rfl ?_
                          refine lm (v := .bool true) rfl rfl ?_
                          refine wpL_done (fun W35 hW35 => ?_)
                          refine (show Code.wp _ _ _ _ _ from ?_)
                          refine wp_ret ?_
                          try simp only [inBlock_ret, then_ret]
                          refine bodyPost_ret (v := .bool true) ?_ rfl ?_
                          · kernel_rfl
                          · exact ⟨rfl, (hbw.trans (hW35.1.mono hbw.size))⟩
                      | true =>
                        have h21 : judgeN (q ++ [d]) = 0 := of_decide_eq_true hd21
                        clear hd21
                        refine lm (v := .bool false) rfl rfl ?_
                        refine lm (v := .bool false) rfl rfl ?_
                        refine lm (v := .bool false) rfl rfl ?_
                        refine ln rfl ?_
                        refine ln rfl ?_
                        refine ln rfl ?_
                        refine ln rfl ?_
                        refine ln rfl ?_
                        refine ln rfl ?_
                        refine ln rfl ?_
                        refine ln rfl ?_
                        refine ln rfl ?_
                        refine ln rfl ?_
                        refine ln rfl ?_
                        refine lm (v := .bool false) rfl rfl ?_
                        refine lm (v := .bool false) rfl rfl ?_
                        refine wpL_done (fun W36 hW36 => ?_)
                        refine (show Code.wp _ _ _ _ _ from ?_)
                        refine wp_ret ?_
                        exfalso
                        have e1 := chk_eq p
                        have e2 := chk_eq q
                        first | (split at hjq <;> omega) | exact hdig (by assumption) (by assumption)
                    | true =>
                      have h20 : ((remL q) % 10) = 0 := of_decide_eq_true hd20
                      clear hd20
                      refine lm (v := .bool false) rfl rfl ?_
                      refine lm (v := .bool false) rfl rfl ?_
                      refine ln rfl ?_
                      refine ln rfl ?_
                      refine ln rfl ?_
                      refine ln rfl ?_
                      refine ln rfl ?_
                      refine ln rfl ?_
                      refine ln rfl ?_
                      refine lm (v := .bool false) rfl rfl ?_
                      refine lm (v := .bool false) rfl rfl ?_
                      refine ln rfl ?_
                      refine ln rfl ?_
                      refine ln rfl ?_
                      refine ln rfl ?_
                      refine ln rfl ?_
                      refine ln rfl ?_
                      refine ln rfl ?_
                      refine ln rfl ?_
                      refine ln rfl ?_
                      refine ln rfl ?_
                      refine ln rfl ?_
                      refine lm (v := .bool false) rfl rfl ?_
                      refine lm (v := .bool false) rfl rfl ?_
                      refine wpL_done (fun W37 hW37 => ?_)
                      refine (show Code.wp _ _ _ _ _ from ?_)
                      refine wp_ret ?_
                      exfalso
                      have e1 := chk_eq p
                      have e2 := chk_eq q
                      first | (split at hjq <;> omega) | exact hdig (by assumption) (by assumption)
                  | true =>
                    have h19 : chkN q = d.toNat := of_decide_eq_true hd19
                    clear hd19
                    cases hd23 : (decide (((remL q) % 10) = 0)) with
                    | false =>
                      have h23 : ¬ (((remL q) % 10) = 0) := of_decide_eq_false hd23
                      clear hd23
                      refine lm (v := .bool false) rfl rfl ?_
                      refine lm (v := .bool false) rfl rfl ?_
                      refine ln rfl ?_
                      refine ln rfl ?_
                      refine ln rfl ?_
                      refine ln rfl ?_
                      refine ln rfl ?_
                      refine ln rfl ?_
                      refine ln rfl ?_
                      refine lm (v := .bool false) rfl rfl ?_
                      refine lm (v := .bool false) rfl rfl ?_
                      refine ln rfl ?_
                      refine ln rfl ?_
                      refine ln rfl ?_
                      refine ln rfl ?_
                      refine ln rfl ?_
                      refine ln rfl ?_
                      refine ln rfl ?_
                      refine ln rfl ?_
                      refine ln rfl ?_
                      refine ln rfl ?_
                      refine ln rfl ?_
                      refine lm (v := .bool false) rfl rfl ?_
                      refine lm (v := .bool false) rfl rfl ?_
                      refine wpL_done (fun W38 hW38 => ?_)
                      refine (show Code.wp _ _ _ _ _ from ?_)
                      refine wp_ret ?_
                      exfalso
                      have e1 := chk_eq p
                      have e2 := chk_eq q
                      first | (split at hjq <;> omega) | exact hdig (by assumption) (by assumption)
                    | true =>
                      have h23 : ((remL q) % 10) = 0 := of_decide_eq_true hd23
                      clear hd23
                      refine lm (v := .bool true) rfl rfl ?_
                      refine lm (v := .bool true) rfl rfl ?_
                      refine lm (v := strV q) rfl rfl ?_
                      refine lm (v := strV s) rfl rfl ?_
                      refine lp (v := strV [d]) rfl rfl (run_slL (k1 := .i64) (l := s) (r := [d]) (i := 10) rfl Tryd.underlying9 (by kernel_rfl) (by kernel_rfl) (by first | omega | (simp; omega)) (by rw [← hs, List.drop_left' hlp])) ?_
                      refine lp (v := strV (q ++ [d])) rfl rfl (run_bin rfl (vx := strV q) (vy := strV [d]) (by kernel_rfl) (by kernel_rfl) fun w => bs_add (c := (q ++ [d])) rfl (by first | omega | (simp; omega)) w) ?_
                      refine lv (v := .bool (decide (judgeN (q ++ [d]) = 0))) rfl rfl (yb_call (f := 18) (args := #[strV (q ++ [d])]) (fun _ => by kernel_rfl) fun W hW => Right_any (q ++ [d]) W) ?_
                      refine lm (v := .bool true) rfl rfl ?_
                      cases hd24 : (decide (judgeN (q ++ [d]) = 0)) with
                      | false =>
                        have h24 : ¬ (judgeN (q ++ [d]) = 0) := of_decide_eq_false hd24
                        clear hd24
                        refine lm (v := .bool false) rfl rfl ?_
                        refine lm (v := .bool false) rfl rfl ?_
                        refine lm (v := .bool false) rfl rfl ?_
                        refine ln rfl ?_
                        refine ln rfl ?_
                        refine ln rfl ?_
                        refine ln rfl ?_
                        refine ln rfl ?_
                        refine ln rfl ?_
                        refine ln rfl ?_
                        refine ln rfl ?_
                        refine ln rfl ?_
                        refine ln rfl ?_
                        refine ln rfl ?_
                        refine lm (v := .bool false) rfl rfl ?_
                        refine lm (v := .bool false) rfl rfl ?_
                        refine wpL_done (fun W39 hW39 => ?_)
                        refine (show Code.wp _ _ _ _ _ from ?_)
                        refine wp_ret ?_
                        exfalso
                        have e1 := chk_eq p
                        have e2 := chk_eq q
                        first | (split at hjq <;> omega) | exact hdig (by assumption) (by assumption)
                      | true =>
                        have h24 : judgeN (q ++ [d]) = 0 := of_decide_eq_true hd24
                        clear hd24
                        refine lm (v := .bool true) rfl rfl ?_
                        refine lm (v := .bool true) rfl rfl ?_
                        refine lm (v := .bool true) rfl rfl ?_
                        refine lm (v := .bool (isDig c)) rfl rfl ?_
                        refine lp (v := .bool (!(isDig c))) rfl rfl (run_un rfl (by kernel_rfl) fun w => un_not w) ?_
                        refine lm (v := .bool (!(isDig c))) rfl rfl ?_
                        cases h25 : (isDig c) with
                        | false =>
                          refine ln rfl ?_
                          refine ln rfl ?_
                          refine lm (v := .bool true) rfl rfl ?_
                          refine lm (v := .bool true) rfl rfl ?_
                          refine ln rfl ?_
                          refine ln rfl ?_
                          refine ln rfl ?_
                          refine lm (v := .bool true) rfl rfl ?_
                          refine lm (v := .bool true) rfl rfl ?_
                          refine lm (v := .bool true) rfl rfl ?_
                          refine wpL_done (fun W40 hW40 => ?_)
                          refine (show Code.wp _ _ _ _ _ from ?_)
                          refine wp_ret ?_
                          try simp only [inBlock_ret, then_ret]
                          refine bodyPost_ret (v := .bool true) ?_ rfl ?_
                          · kernel_rfl
                          · exact ⟨rfl, (hbw.trans (hW40.1.mono hbw.size))⟩
                        | true =>
                          refine lm (v := .bool true) rfl rfl ?_
                          refine lm (v := .bool false) rfl rfl ?_
                          refine lm (v := .bool false) rfl rfl ?_
                          refine lm (v := .bool false) rfl rfl ?_
                          refine lm (v := .int .i64 (((remL p) : Nat) : Int)) rfl rfl ?_
                          refine lm (v := .int .i64 (((remL q) : Nat) : Int)) rfl rfl ?_
                          refine lp (v := .bool true) rfl rfl (run_bin rfl (vx := (.int .i64 (((remL p) : Nat) : Int))) (vy := (.int .i64 (((remL q) : Nat) : Int))) (by kernel_rfl) (by kernel_rfl) fun w => bn_neq (decide_eq_false (by assumption)) w) ?_
                          refine lm (v := .bool true) rfl rfl ?_
                          refine lm (v := .bool true) rfl rfl ?_
                          refine lm (v := .bool true) rfl rfl ?_
                          refine wpL_done (fun W41 hW41 => ?_)
                          refine (show Code.wp _ _ _ _ _ from ?_)
                          refine wp_ret ?_
                          try simp only [inBlock_ret, then_ret]
                          refine bodyPost_ret (v := .bool true) ?_ rfl ?_
                          · kernel_rfl
                          · exact ⟨rfl, (hbw.trans (hW41.1.mono hbw.size))⟩
              | true =>
                have h14 : (remL p) = (remL q) := of_decide_eq_true hd14
                clear hd14
                refine ln rfl ?_
                refine ln rfl ?_
                refine ln rfl ?_
                refine ln rfl ?_
                refine ln rfl ?_
                refine ln rfl ?_
                refine ln rfl ?_
                refine ln rfl ?_
                refine lm (v := .bool true) rfl rfl ?_
                refine lm (v := .bool true) rfl rfl ?_
                refine wpL_done (fun W42 hW42 => ?_)
                refine (show Code.wp _ _ _ _ _ from ?_)
                refine wp_seq ?_
                refine wp_region_L (W0 := W7) [(g3, .cells #[.int .u8 ((c.toNat : Nat) : Int)] 5 (0, 0)), (g1, .cells #[.int .u8 ((d.toNat : Nat) : Int)] 5 (0, 0))] (hW42) ?_
                refine lm (v := .bool (decide (chkN q = d.toNat))) rfl rfl ?_
                refine lm (v := .bool true) rfl rfl ?_
                cases hd26 : (decide (chkN q = d.toNat)) with
                | false =>
                  have h26 : ¬ (chkN q = d.toNat) := of_decide_eq_false hd26
                  clear hd26
                  refine lm (v := .bool false) rfl rfl ?_
                  refine lm (v := .bool false) rfl rfl ?_
                  refine ln rfl ?_
                  refine ln rfl ?_
                  refine ln rfl ?_
                  refine ln rfl ?_
                  refine ln rfl ?_
                  refine ln rfl ?_
                  refine ln rfl ?_
                  refine lm (v := .bool false) rfl rfl ?_
                  refine lm (v := .bool false) rfl rfl ?_
                  refine ln rfl ?_
                  refine ln rfl ?_
                  refine ln rfl ?_
                  refine ln rfl ?_
                  refine ln rfl ?_
                  refine ln rfl ?_
                  refine ln rfl ?_
                  refine ln rfl ?_
                  refine ln rfl ?_
                  refine ln rfl ?_
                  refine ln rfl ?_
                  refine lm (v := .bool false) rfl rfl ?_
                  refine lm (v := .bool false) rfl rfl ?_
                  refine wpL_done (fun W43 hW43 => ?_)
                  refine (show Code.wp _ _ _ _ _ from ?_)
                  refine wp_ret ?_
                  exfalso
                  have e1 := chk_eq p
                  have e2 := chk_eq q
                  first | (split at hjq <;> omega) | exact hdig (by assumption) (by assumption)
                | true =>
                  have h26 : chkN q = d.toNat := of_decide_eq_true hd26
                  clear hd26
                  refine lm (v := .bool true) rfl rfl ?_
                  refine lm (v := .bool true) rfl rfl ?_
                  refine lm (v := strV q) rfl rfl ?_
                  refine lm (v := strV s) rfl rfl ?_
                  refine lp (v := strV [d]) rfl rfl (run_slL (k1 := .i64) (l := s) (r := [d]) (i := 10) rfl Tryd.underlying9 (by kernel_rfl) (by kernel_rfl) (by first | omega | (simp; omega)) (by rw [← hs, List.drop_left' hlp])) ?_
                  refine lp (v := strV (q ++ [d])) rfl rfl (run_bin rfl (vx := strV q) (vy := strV [d]) (by kernel_rfl) (by kernel_rfl) fun w => bs_add (c := (q ++ [d])) rfl (by first | omega | (simp; omega)) w) ?_
                  refine lv (v := .bool (decide (judgeN (q ++ [d]) = 0))) rfl rfl (yb_call (f := 18) (args := #[strV (q ++ [d])]) (fun _ => by kernel_rfl) fun W hW => Right_any (q ++ [d]) W) ?_
                  refine lm (v := .bool true) rfl rfl ?_
                  cases hd27 : (decide (judgeN (q ++ [d]) = 0)) with
                  | false =>
                    have h27 : ¬ (judgeN (q ++ [d]) = 0) := of_decide_eq_false hd27
                    clear hd27
                    refine lm (v := .bool false) rfl rfl ?_
                    refine lm (v := .bool false) rfl rfl ?_
                    refine lm (v := .bool false) rfl rfl ?_
                    refine ln rfl ?_
                    refine ln rfl ?_
                    refine ln rfl ?_
                    refine ln rfl ?_
                    refine ln rfl ?_
                    refine ln rfl ?_
                    refine ln rfl ?_
                    refine ln rfl ?_
                    refine ln rfl ?_
                    refine ln rfl ?_
                    refine ln rfl ?_
                    refine lm (v := .bool false) rfl rfl ?_
                    refine lm (v := .bool false) rfl rfl ?_
                    refine wpL_done (fun W44 hW44 => ?_)
                    refine (show Code.wp _ _ _ _ _ from ?_)
                    refine wp_ret ?_
                    exfalso
                    have e1 := chk_eq p
                    have e2 := chk_eq q
                    first | (split at hjq <;> omega) | exact hdig (by assumption) (by assumption)
                  | true =>
                    have h27 : judgeN (q ++ [d]) = 0 := of_decide_eq_true hd27
                    clear hd27
                    refine lm (v := .bool true) rfl rfl ?_
                    refine lm (v := .bool true) rfl rfl ?_
                    refine lm (v := .bool true) rfl rfl ?_
                    refine lm (v := .bool (isDig c)) rfl rfl ?_
                    refine lp (v := .bool (!(isDig c))) rfl rfl (run_un rfl (by kernel_rfl) fun w => un_not w) ?_
                    refine lm (v := .bool (!(isDig c))) rfl rfl ?_
                    cases h28 : (isDig c) with
                    | false =>
                      refine ln rfl ?_
                      refine ln rfl ?_
                      refine lm (v := .bool true) rfl rfl ?_
                      refine lm (v := .bool true) rfl rfl ?_
                      refine ln rfl ?_
                      refine ln rfl ?_
                      refine ln rfl ?_
                      refine lm (v := .bool true) rfl rfl ?_
                      refine lm (v := .bool true) rfl rfl ?_
                      refine lm (v := .bool true) rfl rfl ?_
                      refine wpL_done (fun W45 hW45 => ?_)
                      refine (show Code.wp _ _ _ _ _ from ?_)
                      refine wp_ret ?_
                      try simp only [inBlock_ret, then_ret]
                      refine bodyPost_ret (v := .bool true) ?_ rfl ?_
                      · kernel_rfl
                      · exact ⟨rfl, (hbw.trans (hW45.1.mono hbw.size))⟩
                    | true =>
                      refine lm (v := .bool true) rfl rfl ?_
                      refine lm (v := .bool false) rfl rfl ?_
                      refine lm (v := .bool false) rfl rfl ?_
                      refine lm (v := .bool false) rfl rfl ?_
                      refine lm (v := .int .i64 (((remL p) : Nat) : Int)) rfl rfl ?_
                      refine lm (v := .int .i64 (((remL q) : Nat) : Int)) rfl rfl ?_
                      refine lp (v := .bool false) rfl rfl (run_bin rfl (vx := (.int .i64 (((remL p) : Nat) : Int))) (vy := (.int .i64 (((remL q) : Nat) : Int))) (by kernel_rfl) (by kernel_rfl) fun w => bn_neq (decide_eq_true (by assumption)) w) ?_
                      refine lm (v := .bool false) rfl rfl ?_
                      refine lm (v := .bool false) rfl rfl ?_
                      refine lm (v := .bool false) rfl rfl ?_
                      refine wpL_done (fun W46 hW46 => ?_)
                      refine (show Code.wp _ _ _ _ _ from ?_)
                      refine wp_ret ?_
                      exfalso
                      have e1 := chk_eq p
                      have e2 := chk_eq q
                      first | (split at hjq <;> omega) | exact hdig (by assumption) (by assumption)
            | true =>
              have h13 : i = 10 := of_decide_eq_true hd13
              clear hd13
              obtain rfl : i = 10 := h13
              have hd10 : b2 = d := by rw [← hs, List.getElem?_append_right (by omega), hlp] at hb2; simp at hb2; exact hb2.symm
              have hcn : ¬ (chkN p = c.toNat) := by rw [← hdp, ← hd10]; exact fun e => hne e.symm
              obtain rfl : told = false := by rw [htd, ← hs, agr_last hlp]; simp [hcn]
              have hc10 := may_dig hmay (by omega)
              unfold isDig at hc10
              simp at hc10
              have hjn : ¬ (judgeN (p ++ [c]) = 0) := by rw [judge_app hfp hc10, if_neg hcn]; decide
              refine wp_cond_true rfl ?_
              refine wp_seq ?_
              refine wp_region_L (W0 := W7) [(g1, .cells #[.int .u8 ((d.toNat : Nat) : Int)] 5 (0, 0))] (hW25) ?_
              refine lm (v := .bool false) rfl rfl ?_
              refine lm (v := .bool true) rfl rfl ?_
              refine lm (v := .bool true) rfl rfl ?_
              refine lm (v := strV p) rfl rfl ?_
              refine lm (v := .int .u8 ((c.toNat : Nat) : Int)) rfl rfl ?_
              refine wpL_newg (fun g => .slice (some ⟨g, 0, none⟩) 1 1) (obi := .cells #[.int .u8 ((c.toNat : Nat) : Int)] 5 (0, 0)) rfl (by kernel_rfl) (fun _ => by kernel_rfl) (fun _ => by simp only [List.setIfInBounds_toArray, List.set_cons_succ, List.set_cons_zero] <;> rfl) fun g5 Bg5 Fg5 => ?_
              refine lv (v := strV [c]) rfl rfl (yb_str (n := 1) (cap := 1) (l := [c]) rfl Tryd.underlying31 Tryd.underlying5 Tryd.underlying9 (by kernel_rfl) rfl (.head _) (by first | rfl | (simp [RowB, u8s]; omega))) ?_
              refine lp (v := strV (p ++ [c])) rfl rfl (run_bin rfl (vx := strV p) (vy := strV [c]) (by kernel_rfl) (by kernel_rfl) fun w => bs_add (c := (p ++ [c])) rfl (by first | omega | (simp; omega)) w) ?_
              refine lv (v := .bool false) rfl rfl (yb_call (f := 18) (args := #[strV (p ++ [c])]) (fun _ => by kernel_rfl) fun W hW => (by have h := Right_any (p ++ [c]) W; rw [decide_eq_false hjn] at h; exact h)) ?_
              refine lm (v := .bool true) rfl rfl ?_
              refine lm (v := .bool true) rfl rfl ?_
              refine lm (v := .bool true) rfl rfl ?_
              refine wpL_done (fun W47 hW47 => ?_)
              refine (show Code.wp _ _ _ _ _ from ?_)
              refine wp_ret ?_
              try simp only [inBlock_ret, then_ret]
              refine bodyPost_ret (v := .bool true) ?_ rfl ?_
              · kernel_rfl
              · exact ⟨rfl, (hbw.trans (hW47.1.mono hbw.size))⟩
          | true =>
            obtain rfl : told = false := by rw [ht2, h12]; rfl
            refine wp_cond_true rfl ?_
            refine wp_seq ?_
            refine wp_region_L (W0 := W7) [(g1, .cells #[.int .u8 ((d.toNat : Nat) : Int)] 5 (0, 0))] (hW2j) ?_
            refine lm (v := .bool false) rfl rfl ?_
            refine lm (v := .bool true) rfl rfl ?_
            refine lm (v := .bool true) rfl rfl ?_
            refine wpL_done (fun W48 hW48 => ?_)
            refine (show Code.wp _ _ _ _ _ from ?_)
            refine wp_ret ?_
            try simp only [inBlock_ret, then_ret]
            refine bodyPost_ret (v := .bool true) ?_ rfl ?_
            · kernel_rfl
            · exact ⟨rfl, (hbw.trans (hW48.1.mono hbw.size))⟩
    | true =>
      have h1 : k < M.length := of_decide_eq_true hd1
      clear hd1
      refine wp_cond_true rfl ?_
      refine wp_skip ?_
      refine (show Code.wp _ _ _ _ _ from ?_)
      refine wp_seq ?_
      refine wp_block ?_
      refine wp_seq ?_
      refine wp_region_L (W0 := W7) [(g1, .cells #[.int .u8 ((d.toNat : Nat) : Int)] 5 (0, 0))] (hW12) ?_
      refine lm (v := .bool told) rfl rfl ?_
      refine lm (v := .bool told) rfl rfl ?_
      cases h29 : told with
      | false =>
        refine lm (v := .slice p1 M.length c1) rfl rfl ?_
        refine lm (v := .int .i64 ((k : Nat) : Int)) rfl rfl ?_
        obtain ⟨x6, b6, f6, hx6, hp6, lt6, hc6⟩ := miss_at (k := k) hm1 (by omega)
        have lx6 := x6.2.toNat_lt
        refine lp (v := .pointer (some ⟨b6, f6 + k * 2, none⟩)) rfl rfl (run_idxQ (p := p1) (cap := c1) (n := M.length) (j := .i64) (k := k) (sz := 2) rfl Tryd.underlying37 (by kernel_rfl) (by kernel_rfl) hp6 (by kernel_rfl) (by omega)) ?_
        refine lv (v := .agg #[.int .i64 ((x6.1 : Nat) : Int), .int .u8 ((x6.2.toNat : Nat) : Int)]) rfl rfl (yb_olds (cs := [.int .i64 ((x6.1 : Nat) : Int), .int .u8 ((x6.2.toNat : Nat) : Int)]) rfl (by kernel_rfl) hc6 lt6 Tryd.underlying42 rfl (by kernel_rfl)) ?_
        refine lm (v := .int .i64 ((i : Nat) : Int)) rfl rfl ?_
        refine lm (v := .int .u8 ((c.toNat : Nat) : Int)) rfl rfl ?_
        refine lm (v := .agg #[.int .i64 ((i : Nat) : Int), .int .u8 ((c.toNat : Nat) : Int)]) rfl rfl ?_
        refine lp (v := .bool (decide (x6.1 = i ∧ x6.2.toNat = c.toNat))) rfl rfl (run_bin rfl (vx := .agg #[.int .i64 ((x6.1 : Nat) : Int), .int .u8 ((x6.2.toNat : Nat) : Int)]) (vy := .agg #[.int .i64 ((i : Nat) : Int), .int .u8 ((c.toNat : Nat) : Int)]) (by kernel_rfl) (by kernel_rfl) fun w => eq_miss rfl w) ?_
        refine lm (v := .bool (decide (x6.1 = i ∧ x6.2.toNat = c.toNat))) rfl rfl ?_
        refine lm (v := .bool (decide (x6.1 = i ∧ x6.2.toNat = c.toNat))) rfl rfl ?_
        refine wpL_done (fun W49 hW49 => ?_)
        refine (show Code.wp _ _ _ _ _ from ?_)
        refine wp_seq ?_
        refine wp_region_V (W0 := W7) [(g1, .cells #[.int .u8 ((d.toNat : Nat) : Int)] 5 (0, 0))] (by kernel_rfl) (hW49) ?_
        refine vm (i := 0) (v := .int .i64 ((k : Nat) : Int)) rfl rfl rfl ?_
        refine vp (i := 1) (v := .bool (decide (0 < k))) rfl rfl rfl (run_bin rfl (vx := (.int .i64 ((k : Nat) : Int))) (vy := (.int .i64 ((0 : Nat) : Int))) (by kernel_rfl) (by kernel_rfl) fun w => bn_gtr rfl w) ?_
        refine vm (i := 2) (v := .bool (decide (0 < k))) rfl rfl rfl ?_
        cases hd30 : (decide (0 < k)) with
        | false =>
          have h30 : ¬ (0 < k) := of_decide_eq_false hd30
          clear hd30
          refine vn (i := 3) rfl rfl ?_
          refine vn (i := 4) rfl rfl ?_
          refine vn (i := 5) rfl rfl ?_
          refine vn (i := 6) rfl rfl ?_
          refine vn (i := 7) rfl rfl ?_
          refine vn (i := 8) rfl rfl ?_
          refine vn (i := 9) rfl rfl ?_
          refine vn (i := 10) rfl rfl ?_
          refine vn (i := 11) rfl rfl ?_
          refine vn (i := 12) rfl rfl ?_
          refine vn (i := 13) rfl rfl ?_
          refine vn (i := 14) rfl rfl ?_
          refine vn (i := 15) rfl rfl ?_
          refine vn (i := 16) rfl rfl ?_
          refine vn (i := 17) rfl rfl ?_
          refine vn (i := 18) rfl rfl ?_
          refine vn (i := 19) rfl rfl ?_
          refine vn (i := 20) rfl rfl ?_
          refine vn (i := 21) rfl rfl ?_
          refine vn (i := 22) rfl rfl ?_
          refine vn (i := 23) rfl rfl ?_
          refine vn (i := 24) rfl rfl ?_
          refine vn (i := 25) rfl rfl ?_
          refine vn (i := 26) rfl rfl ?_
          refine vn (i := 27) rfl rfl ?_
          refine vn (i := 28) rfl rfl ?_
          refine vn (i := 29) rfl rfl ?_
          refine vn (i := 30) rfl rfl ?_
          refine vn (i := 31) rfl rfl ?_
          refine vn (i := 32) rfl rfl ?_
          refine vn (i := 33) rfl rfl ?_
          refine vn (i := 34) rfl rfl ?_
          refine vn (i := 35) rfl rfl ?_
          refine vn (i := 36) rfl rfl ?_
          refine vn (i := 37) rfl rfl ?_
          refine vn (i := 38) rfl rfl ?_
          refine vn (i := 39) rfl rfl ?_
          refine vn (i := 40) rfl rfl ?_
          refine vn (i := 41) rfl rfl ?_
          refine vn (i := 42) rfl rfl ?_
          refine vm (i := 43) (v := .bool false) rfl rfl rfl ?_
          refine wpV_done (by kernel_rfl) (fun W50 hW50 => ?_) _
          refine (show Code.wp _ _ _ _ _ from ?_)
          refine wp_cond_false rfl ?_
          refine wp_skip ?_
          refine (show Code.wp _ _ _ _ _ from ?_)
          refine wp_region_L (W0 := W7) [(g1, .cells #[.int .u8 ((d.toNat : Nat) : Int)] 5 (0, 0))] (hW50) ?_
          refine lm (v := .int .i64 ((k : Nat) : Int)) rfl rfl ?_
          refine lp (v := .int .i64 (((k + 1) : Nat) : Int)) rfl rfl (run_bin rfl (vx := (.int .i64 ((k : Nat) : Int))) (vy := (.int .i64 ((1 : Nat) : Int))) (by kernel_rfl) (by kernel_rfl) fun w => bn_add (z := (k + 1)) rfl (wr_i64 (by omega)) w) ?_
          refine lm (v := .int .i64 (((k + 1) : Nat) : Int)) rfl rfl ?_
          refine wpL_done (fun W51 hW51 => ?_)
          go_roundw
          case rel =>
            repeat apply Exists.intro
            exact ⟨⟨k + 1, (decide (x6.1 = i ∧ x6.2.toNat = c.toNat)), (by omega), (by rw [h29] at ht; have ht2 := of_decide_eq_false ht.symm; rw [decide_eq_decide, mem_take hx6]; exact ⟨fun h => .inr (miss_eq ⟨h.1.symm, h.2.symm⟩), fun h => by rcases h with h | rfl; exact absurd h ht2; exact ⟨rfl, rfl⟩⟩), rfl, rfl, hW51⟩, rfl⟩
          case measure => (show M.length - (intOf (.int .i64 (((k + 1) : Nat) : Int))).toNat < M.length - (intOf (.int .i64 ((k : Nat) : Int))).toNat); simp only [intOf]; omega
        | true =>
          have h30 : 0 < k := of_decide_eq_true hd30
          clear hd30
          refine vm (i := 3) (v := .slice p1 M.length c1) rfl rfl rfl ?_
          refine vm (i := 4) (v := .int .i64 ((k : Nat) : Int)) rfl rfl rfl ?_
          refine vp (i := 5) (v := .pointer (some ⟨b6, f6 + k * 2, none⟩)) rfl rfl rfl (run_idxQ (p := p1) (cap := c1) (n := M.length) (j := .i64) (k := k) (sz := 2) rfl Tryd.underlying37 (by kernel_rfl) (by kernel_rfl) hp6 (by kernel_rfl) (by omega)) ?_
          refine vm (i := 6) (v := .pointer (some ⟨b6, f6 + k * 2, none⟩)) rfl rfl rfl ?_
          refine vv (i := 7) (v := .int .i64 ((x6.1 : Nat) : Int)) rfl rfl rfl (yb_old (off := f6 + k * 2) rfl (by kernel_rfl) (hc6 0 _ rfl) lt6 Tryd.underlying3 rfl) ?_
          refine vm (i := 8) (v := .slice p1 M.length c1) rfl rfl rfl ?_
          refine vm (i := 9) (v := .int .i64 ((k : Nat) : Int)) rfl rfl rfl ?_
          refine vp (i := 10) (v := .int .i64 (((k - 1) : Nat) : Int)) rfl rfl rfl (run_bin rfl (vx := (.int .i64 ((k : Nat) : Int))) (vy := (.int .i64 ((1 : Nat) : Int))) (by kernel_rfl) (by kernel_rfl) fun w => bn_sub (z := (k - 1)) rfl (by omega) (wr_i64 (by omega)) w) ?_
          obtain ⟨x7, b7, f7, hx7, hp7, lt7, hc7⟩ := miss_at (k := (k - 1)) hm1 (by omega)
          have lx7 := x7.2.toNat_lt
          refine vp (i := 11) (v := .pointer (some ⟨b7, f7 + (k - 1) * 2, none⟩)) rfl rfl rfl (run_idxQ (p := p1) (cap := c1) (n := M.length) (j := .i64) (k := (k - 1)) (sz := 2) rfl Tryd.underlying37 (by kernel_rfl) (by kernel_rfl) hp7 (by kernel_rfl) (by omega)) ?_
          refine vm (i := 12) (v := .pointer (some ⟨b7, f7 + (k - 1) * 2, none⟩)) rfl rfl rfl ?_
          refine vv (i := 13) (v := .int .i64 ((x7.1 : Nat) : Int)) rfl rfl rfl (yb_old (off := f7 + (k - 1) * 2) rfl (by kernel_rfl) (hc7 0 _ rfl) lt7 Tryd.underlying3 rfl) ?_
          refine vp (i := 14) (v := .bool false) rfl rfl rfl (run_bin rfl (vx := (.int .i64 ((x6.1 : Nat) : Int))) (vy := (.int .i64 ((x7.1 : Nat) : Int))) (by kernel_rfl) (by kernel_rfl) fun w => bn_lss (decide_eq_false (by have h := miss_sorted (l := M) hpw hx6 hx7 (by omega); unfold ltM at h; omega)) w) ?_
          refine vm (i := 15) (v := .bool false) rfl rfl rfl ?_
          refine vm (i := 16) (v := .slice p1 M.length c1) rfl rfl rfl ?_
          refine vm (i := 17) (v := .int .i64 ((k : Nat) : Int)) rfl rfl rfl ?_
          refine vp (i := 18) (v := .pointer (some ⟨b6, f6 + k * 2, none⟩)) rfl rfl rfl (run_idxQ (p := p1) (cap := c1) (n := M.length) (j := .i64) (k := k) (sz := 2) rfl Tryd.underlying37 (by kernel_rfl) (by kernel_rfl) hp6 (by kernel_rfl) (by omega)) ?_
          refine vm (i := 19) (v := .pointer (some ⟨b6, f6 + k * 2, none⟩)) rfl rfl rfl ?_
          refine vv (i := 20) (v := .int .i64 ((x6.1 : Nat) : Int)) rfl rfl rfl (yb_old (off := f6 + k * 2) rfl (by kernel_rfl) (hc6 0 _ rfl) lt6 Tryd.underlying3 rfl) ?_
          refine vm (i := 21) (v := .slice p1 M.length c1) rfl rfl rfl ?_
          refine vm (i := 22) (v := .int .i64 ((k : Nat) : Int)) rfl rfl rfl ?_
          refine vp (i := 23) (v := .int .i64 (((k - 1) : Nat) : Int)) rfl rfl rfl (run_bin rfl (vx := (.int .i64 ((k : Nat) : Int))) (vy := (.int .i64 ((1 : Nat) : Int))) (by kernel_rfl) (by kernel_rfl) fun w => bn_sub (z := (k - 1)) rfl (by omega) (wr_i64 (by omega)) w) ?_
          refine vp (i := 24) (v := .pointer (some ⟨b7, f7 + (k - 1) * 2, none⟩)) rfl rfl rfl (run_idxQ (p := p1) (cap := c1) (n := M.length) (j := .i64) (k := (k - 1)) (sz := 2) rfl Tryd.underlying37 (by kernel_rfl) (by kernel_rfl) hp7 (by kernel_rfl) (by omega)) ?_
          refine vm (i := 25) (v := .pointer (some ⟨b7, f7 + (k - 1) * 2, none⟩)) rfl rfl rfl ?_
          refine vv (i := 26) (v := .int .i64 ((x7.1 : Nat) : Int)) rfl rfl rfl (yb_old (off := f7 + (k - 1) * 2) rfl (by kernel_rfl) (hc7 0 _ rfl) lt7 Tryd.underlying3 rfl) ?_
          refine vp (i := 27) (v := .bool (decide (x6.1 = x7.1))) rfl rfl rfl (run_bin rfl (vx := (.int .i64 ((x6.1 : Nat) : Int))) (vy := (.int .i64 ((x7.1 : Nat) : Int))) (by kernel_rfl) (by kernel_rfl) fun w => bn_eql rfl w) ?_
          refine vm (i := 28) (v := .bool (decide (x6.1 = x7.1))) rfl rfl rfl ?_
          cases hd31 : (decide (x6.1 = x7.1)) with
          | false =>
            have h31 : ¬ (x6.1 = x7.1) := of_decide_eq_false hd31
            clear hd31
            refine vn (i := 29) rfl rfl ?_
            refine vn (i := 30) rfl rfl ?_
            refine vn (i := 31) rfl rfl ?_
            refine vn (i := 32) rfl rfl ?_
            refine vn (i := 33) rfl rfl ?_
            refine vn (i := 34) rfl rfl ?_
            refine vn (i := 35) rfl rfl ?_
            refine vn (i := 36) rfl rfl ?_
            refine vn (i := 37) rfl rfl ?_
            refine vn (i := 38) rfl rfl ?_
            refine vn (i := 39) rfl rfl ?_
            refine vn (i := 40) rfl rfl ?_
            refine vm (i := 41) (v := .bool false) rfl rfl rfl ?_
            refine vm (i := 42) (v := .bool false) rfl rfl rfl ?_
            refine vm (i := 43) (v := .bool false) rfl rfl rfl ?_
            refine wpV_done (by kernel_rfl) (fun W52 hW52 => ?_) _
            refine (show Code.wp _ _ _ _ _ from ?_)
            refine wp_cond_false rfl ?_
            refine wp_skip ?_
            refine (show Code.wp _ _ _ _ _ from ?_)
            refine wp_region_L (W0 := W7) [(g1, .cells #[.int .u8 ((d.toNat : Nat) : Int)] 5 (0, 0))] (hW52) ?_
            refine lm (v := .int .i64 ((k : Nat) : Int)) rfl rfl ?_
            refine lp (v := .int .i64 (((k + 1) : Nat) : Int)) rfl rfl (run_bin rfl (vx := (.int .i64 ((k : Nat) : Int))) (vy := (.int .i64 ((1 : Nat) : Int))) (by kernel_rfl) (by kernel_rfl) fun w => bn_add (z := (k + 1)) rfl (wr_i64 (by omega)) w) ?_
            refine lm (v := .int .i64 (((k + 1) : Nat) : Int)) rfl rfl ?_
            refine wpL_done (fun W53 hW53 => ?_)
            go_roundw
            case rel =>
              repeat apply Exists.intro
              exact ⟨⟨k + 1, (decide (x6.1 = i ∧ x6.2.toNat = c.toNat)), (by omega), (by rw [h29] at ht; have ht2 := of_decide_eq_false ht.symm; rw [decide_eq_decide, mem_take hx6]; exact ⟨fun h => .inr (miss_eq ⟨h.1.symm, h.2.symm⟩), fun h => by rcases h with h | rfl; exact absurd h ht2; exact ⟨rfl, rfl⟩⟩), rfl, rfl, hW53⟩, rfl⟩
            case measure => (show M.length - (intOf (.int .i64 (((k + 1) : Nat) : Int))).toNat < M.length - (intOf (.int .i64 ((k : Nat) : Int))).toNat); simp only [intOf]; omega
          | true =>
            have h31 : x6.1 = x7.1 := of_decide_eq_true hd31
            clear hd31
            refine vm (i := 29) (v := .slice p1 M.length c1) rfl rfl rfl ?_
            refine vm (i := 30) (v := .int .i64 ((k : Nat) : Int)) rfl rfl rfl ?_
            refine vp (i := 31) (v := .pointer (some ⟨b6, f6 + k * 2, none⟩)) rfl rfl rfl (run_idxQ (p := p1) (cap := c1) (n := M.length) (j := .i64) (k := k) (sz := 2) rfl Tryd.underlying37 (by kernel_rfl) (by kernel_rfl) hp6 (by kernel_rfl) (by omega)) ?_
            refine vm (i := 32) (v := .pointer (some ⟨b6, f6 + k * 2 + 1, none⟩)) rfl rfl rfl ?_
            refine vv (i := 33) (v := .int .u8 ((x6.2.toNat : Nat) : Int)) rfl rfl rfl (yb_old (off := f6 + k * 2 + 1) rfl (by kernel_rfl) (hc6 1 _ rfl) lt6 Tryd.underlying5 rfl) ?_
            refine vm (i := 34) (v := .slice p1 M.length c1) rfl rfl rfl ?_
            refine vm (i := 35) (v := .int .i64 ((k : Nat) : Int)) rfl rfl rfl ?_
            refine vp (i := 36) (v := .int .i64 (((k - 1) : Nat) : Int)) rfl rfl rfl (run_bin rfl (vx := (.int .i64 ((k : Nat) : Int))) (vy := (.int .i64 ((1 : Nat) : Int))) (by kernel_rfl) (by kernel_rfl) fun w => bn_sub (z := (k - 1)) rfl (by omega) (wr_i64 (by omega)) w) ?_
            refine vp (i := 37) (v := .pointer (some ⟨b7, f7 + (k - 1) * 2, none⟩)) rfl rfl rfl (run_idxQ (p := p1) (cap := c1) (n := M.length) (j := .i64) (k := (k - 1)) (sz := 2) rfl Tryd.underlying37 (by kernel_rfl) (by kernel_rfl) hp7 (by kernel_rfl) (by omega)) ?_
            refine vm (i := 38) (v := .pointer (some ⟨b7, f7 + (k - 1) * 2 + 1, none⟩)) rfl rfl rfl ?_
            refine vv (i := 39) (v := .int .u8 ((x7.2.toNat : Nat) : Int)) rfl rfl rfl (yb_old (off := f7 + (k - 1) * 2 + 1) rfl (by kernel_rfl) (hc7 1 _ rfl) lt7 Tryd.underlying5 rfl) ?_
            refine vp (i := 40) (v := .bool false) rfl rfl rfl (run_bin rfl (vx := (.int .u8 ((x6.2.toNat : Nat) : Int))) (vy := (.int .u8 ((x7.2.toNat : Nat) : Int))) (by kernel_rfl) (by kernel_rfl) fun w => bn_leq (decide_eq_true (by have h := miss_sorted (l := M) hpw hx6 hx7 (by omega); unfold ltM at h; omega)) w) ?_
            refine vm (i := 41) (v := .bool false) rfl rfl rfl ?_
            refine vm (i := 42) (v := .bool false) rfl rfl rfl ?_
            refine vm (i := 43) (v := .bool false) rfl rfl rfl ?_
            refine wpV_done (by kernel_rfl) (fun W54 hW54 => ?_) _
            refine (show Code.wp _ _ _ _ _ from ?_)
            refine wp_cond_false rfl ?_
            refine wp_skip ?_
            refine (show Code.wp _ _ _ _ _ from ?_)
            refine wp_region_L (W0 := W7) [(g1, .cells #[.int .u8 ((d.toNat : Nat) : Int)] 5 (0, 0))] (hW54) ?_
            refine lm (v := .int .i64 ((k : Nat) : Int)) rfl rfl ?_
            refine lp (v := .int .i64 (((k + 1) : Nat) : Int)) rfl rfl (run_bin rfl (vx := (.int .i64 ((k : Nat) : Int))) (vy := (.int .i64 ((1 : Nat) : Int))) (by kernel_rfl) (by kernel_rfl) fun w => bn_add (z := (k + 1)) rfl (wr_i64 (by omega)) w) ?_
            refine lm (v := .int .i64 (((k + 1) : Nat) : Int)) rfl rfl ?_
            refine wpL_done (fun W55 hW55 => ?_)
            go_roundw
            case rel =>
              repeat apply Exists.intro
              exact ⟨⟨k + 1, (decide (x6.1 = i ∧ x6.2.toNat = c.toNat)), (by omega), (by rw [h29] at ht; have ht2 := of_decide_eq_false ht.symm; rw [decide_eq_decide, mem_take hx6]; exact ⟨fun h => .inr (miss_eq ⟨h.1.symm, h.2.symm⟩), fun h => by rcases h with h | rfl; exact absurd h ht2; exact ⟨rfl, rfl⟩⟩), rfl, rfl, hW55⟩, rfl⟩
            case measure => (show M.length - (intOf (.int .i64 (((k + 1) : Nat) : Int))).toNat < M.length - (intOf (.int .i64 ((k : Nat) : Int))).toNat); simp only [intOf]; omega
      | true =>
        refine ln rfl ?_
        refine ln rfl ?_
        refine ln rfl ?_
        refine ln rfl ?_
        refine ln rfl ?_
        refine ln rfl ?_
        refine ln rfl ?_
        refine ln rfl ?_
        refine lm (v := .bool true) rfl rfl ?_
        refine lm (v := .bool true) rfl rfl ?_
        refine wpL_done (fun W56 hW56 => ?_)
        refine (show Code.wp _ _ _ _ _ from ?_)
        refine wp_seq ?_
        refine wp_region_V (W0 := W7) [(g1, .cells #[.int .u8 ((d.toNat : Nat) : Int)] 5 (0, 0))] (by kernel_rfl) (hW56) ?_
        refine vm (i := 0) (v := .int .i64 ((k : Nat) : Int)) rfl rfl rfl ?_
        refine vp (i := 1) (v := .bool (decide (0 < k))) rfl rfl rfl (run_bin rfl (vx := (.int .i64 ((k : Nat) : Int))) (vy := (.int .i64 ((0 : Nat) : Int))) (by kernel_rfl) (by kernel_rfl) fun w => bn_gtr rfl w) ?_
        refine vm (i := 2) (v := .bool (decide (0 < k))) rfl rfl rfl ?_
        cases hd32 : (decide (0 < k)) with
        | false =>
          have h32 : ¬ (0 < k) := of_decide_eq_false hd32
          clear hd32
          refine vn (i := 3) rfl rfl ?_
          refine vn (i := 4) rfl rfl ?_
          refine vn (i := 5) rfl rfl ?_
          refine vn (i := 6) rfl rfl ?_
          refine vn (i := 7) rfl rfl ?_
          refine vn (i := 8) rfl rfl ?_
          refine vn (i := 9) rfl rfl ?_
          refine vn (i := 10) rfl rfl ?_
          refine vn (i := 11) rfl rfl ?_
          refine vn (i := 12) rfl rfl ?_
          refine vn (i := 13) rfl rfl ?_
          refine vn (i := 14) rfl rfl ?_
          refine vn (i := 15) rfl rfl ?_
          refine vn (i := 16) rfl rfl ?_
          refine vn (i := 17) rfl rfl ?_
          refine vn (i := 18) rfl rfl ?_
          refine vn (i := 19) rfl rfl ?_
          refine vn (i := 20) rfl rfl ?_
          refine vn (i := 21) rfl rfl ?_
          refine vn (i := 22) rfl rfl ?_
          refine vn (i := 23) rfl rfl ?_
          refine vn (i := 24) rfl rfl ?_
          refine vn (i := 25) rfl rfl ?_
          refine vn (i := 26) rfl rfl ?_
          refine vn (i := 27) rfl rfl ?_
          refine vn (i := 28) rfl rfl ?_
          refine vn (i := 29) rfl rfl ?_
          refine vn (i := 30) rfl rfl ?_
          refine vn (i := 31) rfl rfl ?_
          refine vn (i := 32) rfl rfl ?_
          refine vn (i := 33) rfl rfl ?_
          refine vn (i := 34) rfl rfl ?_
          refine vn (i := 35) rfl rfl ?_
          refine vn (i := 36) rfl rfl ?_
          refine vn (i := 37) rfl rfl ?_
          refine vn (i := 38) rfl rfl ?_
          refine vn (i := 39) rfl rfl ?_
          refine vn (i := 40) rfl rfl ?_
          refine vn (i := 41) rfl rfl ?_
          refine vn (i := 42) rfl rfl ?_
          refine vm (i := 43) (v := .bool false) rfl rfl rfl ?_
          refine wpV_done (by kernel_rfl) (fun W57 hW57 => ?_) _
          refine (show Code.wp _ _ _ _ _ from ?_)
          refine wp_cond_false rfl ?_
          refine wp_skip ?_
          refine (show Code.wp _ _ _ _ _ from ?_)
          refine wp_region_L (W0 := W7) [(g1, .cells #[.int .u8 ((d.toNat : Nat) : Int)] 5 (0, 0))] (hW57) ?_
          refine lm (v := .int .i64 ((k : Nat) : Int)) rfl rfl ?_
          refine lp (v := .int .i64 (((k + 1) : Nat) : Int)) rfl rfl (run_bin rfl (vx := (.int .i64 ((k : Nat) : Int))) (vy := (.int .i64 ((1 : Nat) : Int))) (by kernel_rfl) (by kernel_rfl) fun w => bn_add (z := (k + 1)) rfl (wr_i64 (by omega)) w) ?_
          refine lm (v := .int .i64 (((k + 1) : Nat) : Int)) rfl rfl ?_
          refine wpL_done (fun W58 hW58 => ?_)
          go_roundw
          case rel =>
            repeat apply Exists.intro
            exact ⟨⟨k + 1, true, (by omega), (by rw [h29] at ht; rw [eq_comm, decide_eq_true_iff]; exact mem_mono (of_decide_eq_true ht.symm)), rfl, rfl, hW58⟩, rfl⟩
          case measure => (show M.length - (intOf (.int .i64 (((k + 1) : Nat) : Int))).toNat < M.length - (intOf (.int .i64 ((k : Nat) : Int))).toNat); simp only [intOf]; omega
        | true =>
          have h32 : 0 < k := of_decide_eq_true hd32
          clear hd32
          refine vm (i := 3) (v := .slice p1 M.length c1) rfl rfl rfl ?_
          refine vm (i := 4) (v := .int .i64 ((k : Nat) : Int)) rfl rfl rfl ?_
          obtain ⟨x8, b8, f8, hx8, hp8, lt8, hc8⟩ := miss_at (k := k) hm1 (by omega)
          have lx8 := x8.2.toNat_lt
          refine vp (i := 5) (v := .pointer (some ⟨b8, f8 + k * 2, none⟩)) rfl rfl rfl (run_idxQ (p := p1) (cap := c1) (n := M.length) (j := .i64) (k := k) (sz := 2) rfl Tryd.underlying37 (by kernel_rfl) (by kernel_rfl) hp8 (by kernel_rfl) (by omega)) ?_
          refine vm (i := 6) (v := .pointer (some ⟨b8, f8 + k * 2, none⟩)) rfl rfl rfl ?_
          refine vv (i := 7) (v := .int .i64 ((x8.1 : Nat) : Int)) rfl rfl rfl (yb_old (off := f8 + k * 2) rfl (by kernel_rfl) (hc8 0 _ rfl) lt8 Tryd.underlying3 rfl) ?_
          refine vm (i := 8) (v := .slice p1 M.length c1) rfl rfl rfl ?_
          refine vm (i := 9) (v := .int .i64 ((k : Nat) : Int)) rfl rfl rfl ?_
          refine vp (i := 10) (v := .int .i64 (((k - 1) : Nat) : Int)) rfl rfl rfl (run_bin rfl (vx := (.int .i64 ((k : Nat) : Int))) (vy := (.int .i64 ((1 : Nat) : Int))) (by kernel_rfl) (by kernel_rfl) fun w => bn_sub (z := (k - 1)) rfl (by omega) (wr_i64 (by omega)) w) ?_
          obtain ⟨x9, b9, f9, hx9, hp9, lt9, hc9⟩ := miss_at (k := (k - 1)) hm1 (by omega)
          have lx9 := x9.2.toNat_lt
          refine vp (i := 11) (v := .pointer (some ⟨b9, f9 + (k - 1) * 2, none⟩)) rfl rfl rfl (run_idxQ (p := p1) (cap := c1) (n := M.length) (j := .i64) (k := (k - 1)) (sz := 2) rfl Tryd.underlying37 (by kernel_rfl) (by kernel_rfl) hp9 (by kernel_rfl) (by omega)) ?_
          refine vm (i := 12) (v := .pointer (some ⟨b9, f9 + (k - 1) * 2, none⟩)) rfl rfl rfl ?_
          refine vv (i := 13) (v := .int .i64 ((x9.1 : Nat) : Int)) rfl rfl rfl (yb_old (off := f9 + (k - 1) * 2) rfl (by kernel_rfl) (hc9 0 _ rfl) lt9 Tryd.underlying3 rfl) ?_
          refine vp (i := 14) (v := .bool false) rfl rfl rfl (run_bin rfl (vx := (.int .i64 ((x8.1 : Nat) : Int))) (vy := (.int .i64 ((x9.1 : Nat) : Int))) (by kernel_rfl) (by kernel_rfl) fun w => bn_lss (decide_eq_false (by have h := miss_sorted (l := M) hpw hx8 hx9 (by omega); unfold ltM at h; omega)) w) ?_
          refine vm (i := 15) (v := .bool false) rfl rfl rfl ?_
          refine vm (i := 16) (v := .slice p1 M.length c1) rfl rfl rfl ?_
          refine vm (i := 17) (v := .int .i64 ((k : Nat) : Int)) rfl rfl rfl ?_
          refine vp (i := 18) (v := .pointer (some ⟨b8, f8 + k * 2, none⟩)) rfl rfl rfl (run_idxQ (p := p1) (cap := c1) (n := M.length) (j := .i64) (k := k) (sz := 2) rfl Tryd.underlying37 (by kernel_rfl) (by kernel_rfl) hp8 (by kernel_rfl) (by omega)) ?_
          refine vm (i := 19) (v := .pointer (some ⟨b8, f8 + k * 2, none⟩)) rfl rfl rfl ?_
          refine vv (i := 20) (v := .int .i64 ((x8.1 : Nat) : Int)) rfl rfl rfl (yb_old (off := f8 + k * 2) rfl (by kernel_rfl) (hc8 0 _ rfl) lt8 Tryd.underlying3 rfl) ?_
          refine vm (i := 21) (v := .slice p1 M.length c1) rfl rfl rfl ?_
          refine vm (i := 22) (v := .int .i64 ((k : Nat) : Int)) rfl rfl rfl ?_
          refine vp (i := 23) (v := .int .i64 (((k - 1) : Nat) : Int)) rfl rfl rfl (run_bin rfl (vx := (.int .i64 ((k : Nat) : Int))) (vy := (.int .i64 ((1 : Nat) : Int))) (by kernel_rfl) (by kernel_rfl) fun w => bn_sub (z := (k - 1)) rfl (by omega) (wr_i64 (by omega)) w) ?_
          refine vp (i := 24) (v := .pointer (some ⟨b9, f9 + (k - 1) * 2, none⟩)) rfl rfl rfl (run_idxQ (p := p1) (cap := c1) (n := M.length) (j := .i64) (k := (k - 1)) (sz := 2) rfl Tryd.underlying37 (by kernel_rfl) (by kernel_rfl) hp9 (by kernel_rfl) (by omega)) ?_
          refine vm (i := 25) (v := .pointer (some ⟨b9, f9 + (k - 1) * 2, none⟩)) rfl rfl rfl ?_
          refine vv (i := 26) (v := .int .i64 ((x9.1 : Nat) : Int)) rfl rfl rfl (yb_old (off := f9 + (k - 1) * 2) rfl (by kernel_rfl) (hc9 0 _ rfl) lt9 Tryd.underlying3 rfl) ?_
          refine vp (i := 27) (v := .bool (decide (x8.1 = x9.1))) rfl rfl rfl (run_bin rfl (vx := (.int .i64 ((x8.1 : Nat) : Int))) (vy := (.int .i64 ((x9.1 : Nat) : Int))) (by kernel_rfl) (by kernel_rfl) fun w => bn_eql rfl w) ?_
          refine vm (i := 28) (v := .bool (decide (x8.1 = x9.1))) rfl rfl rfl ?_
          cases hd33 : (decide (x8.1 = x9.1)) with
          | false =>
            have h33 : ¬ (x8.1 = x9.1) := of_decide_eq_false hd33
            clear hd33
            refine vn (i := 29) rfl rfl ?_
            refine vn (i := 30) rfl rfl ?_
            refine vn (i := 31) rfl rfl ?_
            refine vn (i := 32) rfl rfl ?_
            refine vn (i := 33) rfl rfl ?_
            refine vn (i := 34) rfl rfl ?_
            refine vn (i := 35) rfl rfl ?_
            refine vn (i := 36) rfl rfl ?_
            refine vn (i := 37) rfl rfl ?_
            refine vn (i := 38) rfl rfl ?_
            refine vn (i := 39) rfl rfl ?_
            refine vn (i := 40) rfl rfl ?_
            refine vm (i := 41) (v := .bool false) rfl rfl rfl ?_
            refine vm (i := 42) (v := .bool false) rfl rfl rfl ?_
            refine vm (i := 43) (v := .bool false) rfl rfl rfl ?_
            refine wpV_done (by kernel_rfl) (fun W59 hW59 => ?_) _
            refine (show Code.wp _ _ _ _ _ from ?_)
            refine wp_cond_false rfl ?_
            refine wp_skip ?_
            refine (show Code.wp _ _ _ _ _ from ?_)
            refine wp_region_L (W0 := W7) [(g1, .cells #[.int .u8 ((d.toNat : Nat) : Int)] 5 (0, 0))] (hW59) ?_
            refine lm (v := .int .i64 ((k : Nat) : Int)) rfl rfl ?_
            refine lp (v := .int .i64 (((k + 1) : Nat) : Int)) rfl rfl (run_bin rfl (vx := (.int .i64 ((k : Nat) : Int))) (vy := (.int .i64 ((1 : Nat) : Int))) (by kernel_rfl) (by kernel_rfl) fun w => bn_add (z := (k + 1)) rfl (wr_i64 (by omega)) w) ?_
            refine lm (v := .int .i64 (((k + 1) : Nat) : Int)) rfl rfl ?_
            refine wpL_done (fun W60 hW60 => ?_)
            go_roundw
            case rel =>
              repeat apply Exists.intro
              exact ⟨⟨k + 1, true, (by omega), (by rw [h29] at ht; rw [eq_comm, decide_eq_true_iff]; exact mem_mono (of_decide_eq_true ht.symm)), rfl, rfl, hW60⟩, rfl⟩
            case measure => (show M.length - (intOf (.int .i64 (((k + 1) : Nat) : Int))).toNat < M.length - (intOf (.int .i64 ((k : Nat) : Int))).toNat); simp only [intOf]; omega
          | true =>
            have h33 : x8.1 = x9.1 := of_decide_eq_true hd33
            clear hd33
            refine vm (i := 29) (v := .slice p1 M.length c1) rfl rfl rfl ?_
            refine vm (i := 30) (v := .int .i64 ((k : Nat) : Int)) rfl rfl rfl ?_
            refine vp (i := 31) (v := .pointer (some ⟨b8, f8 + k * 2, none⟩)) rfl rfl rfl (run_idxQ (p := p1) (cap := c1) (n := M.length) (j := .i64) (k := k) (sz := 2) rfl Tryd.underlying37 (by kernel_rfl) (by kernel_rfl) hp8 (by kernel_rfl) (by omega)) ?_
            refine vm (i := 32) (v := .pointer (some ⟨b8, f8 + k * 2 + 1, none⟩)) rfl rfl rfl ?_
            refine vv (i := 33) (v := .int .u8 ((x8.2.toNat : Nat) : Int)) rfl rfl rfl (yb_old (off := f8 + k * 2 + 1) rfl (by kernel_rfl) (hc8 1 _ rfl) lt8 Tryd.underlying5 rfl) ?_
            refine vm (i := 34) (v := .slice p1 M.length c1) rfl rfl rfl ?_
            refine vm (i := 35) (v := .int .i64 ((k : Nat) : Int)) rfl rfl rfl ?_
            refine vp (i := 36) (v := .int .i64 (((k - 1) : Nat) : Int)) rfl rfl rfl (run_bin rfl (vx := (.int .i64 ((k : Nat) : Int))) (vy := (.int .i64 ((1 : Nat) : Int))) (by kernel_rfl) (by kernel_rfl) fun w => bn_sub (z := (k - 1)) rfl (by omega) (wr_i64 (by omega)) w) ?_
            refine vp (i := 37) (v := .pointer (some ⟨b9, f9 + (k - 1) * 2, none⟩)) rfl rfl rfl (run_idxQ (p := p1) (cap := c1) (n := M.length) (j := .i64) (k := (k - 1)) (sz := 2) rfl Tryd.underlying37 (by kernel_rfl) (by kernel_rfl) hp9 (by kernel_rfl) (by omega)) ?_
            refine vm (i := 38) (v := .pointer (some ⟨b9, f9 + (k - 1) * 2 + 1, none⟩)) rfl rfl rfl ?_
            refine vv (i := 39) (v := .int .u8 ((x9.2.toNat : Nat) : Int)) rfl rfl rfl (yb_old (off := f9 + (k - 1) * 2 + 1) rfl (by kernel_rfl) (hc9 1 _ rfl) lt9 Tryd.underlying5 rfl) ?_
            refine vp (i := 40) (v := .bool false) rfl rfl rfl (run_bin rfl (vx := (.int .u8 ((x8.2.toNat : Nat) : Int))) (vy := (.int .u8 ((x9.2.toNat : Nat) : Int))) (by kernel_rfl) (by kernel_rfl) fun w => bn_leq (decide_eq_true (by have h := miss_sorted (l := M) hpw hx8 hx9 (by omega); unfold ltM at h; omega)) w) ?_
            refine vm (i := 41) (v := .bool false) rfl rfl rfl ?_
            refine vm (i := 42) (v := .bool false) rfl rfl rfl ?_
            refine vm (i := 43) (v := .bool false) rfl rfl rfl ?_
            refine wpV_done (by kernel_rfl) (fun W61 hW61 => ?_) _
            refine (show Code.wp _ _ _ _ _ from ?_)
            refine wp_cond_false rfl ?_
            refine wp_skip ?_
            refine (show Code.wp _ _ _ _ _ from ?_)
            refine wp_region_L (W0 := W7) [(g1, .cells #[.int .u8 ((d.toNat : Nat) : Int)] 5 (0, 0))] (hW61) ?_
            refine lm (v := .int .i64 ((k : Nat) : Int)) rfl rfl ?_
            refine lp (v := .int .i64 (((k + 1) : Nat) : Int)) rfl rfl (run_bin rfl (vx := (.int .i64 ((k : Nat) : Int))) (vy := (.int .i64 ((1 : Nat) : Int))) (by kernel_rfl) (by kernel_rfl) fun w => bn_add (z := (k + 1)) rfl (wr_i64 (by omega)) w) ?_
            refine lm (v := .int .i64 (((k + 1) : Nat) : Int)) rfl rfl ?_
            refine wpL_done (fun W62 hW62 => ?_)
            go_roundw
            case rel =>
              repeat apply Exists.intro
              exact ⟨⟨k + 1, true, (by omega), (by rw [h29] at ht; rw [eq_comm, decide_eq_true_iff]; exact mem_mono (of_decide_eq_true ht.symm)), rfl, rfl, hW62⟩, rfl⟩
            case measure => (show M.length - (intOf (.int .i64 (((k + 1) : Nat) : Int))).toNat < M.length - (intOf (.int .i64 ((k : Nat) : Int))).toNat); simp only [intOf]; omega
end Go.Proofs.YtbceajgipmjmlaaDoor
/- IsoMisses holds for every input: the program's own answer is true, wherever the listed variables are as the program's text lays them; each argument reads afterwards as it read before. -/
namespace Go.Proofs.YtbceajgipmjmlaaDoor
open Go.ChangeShapes Go.WideShapes Go.ChangeAt Go.RowKit Tw
set_option maxRecDepth 100000 in
theorem isoMisses_lifted (os : Os) (started : os.Started) (H : Type) (enc : TypeId × Value → H) :
    ReturnsInHanded {} Tryd.checked os 6 .any (fun w args => (Rows.isoMissesSpec.pre enc Tryd.prog Tryd.f6 Rows.isoMissesRow.domain false w args ∧ laidMetH Tryd.prog laidN w) ∧ sizedMet enc Tryd.prog Tryd.f6 (OpenSpec.ofChange Rows.isoMissesSpec) false w args) (Rows.isoMissesSpec.post enc Tryd.prog Tryd.f6 false true false false) := by
  refine handed_and_sized (C := Tryd.checked) (X := fun w => laidMetH Tryd.prog laidN w) (fun _ _ hh h => h.of_heap hh) own started (by kernel_rfl) Tryd.func6
    (ChangeSpec.witness_shaped (enc := enc) (C := Tryd.checked) (os := os) (X := fun w _ => laidMetH Tryd.prog laidN w) false (World.doorLaid Tryd.prog 1000 os) #[.int .u64 0, .int .i64 0, .int .u8 0] 8 rfl (World.shaped_of_RefB (by kernel_rfl) (by kernel_rfl)) (by kernel_rfl) (by kernel_rfl) (by kernel_rfl) (door_met os _)) ?_
  intro W base args ds gs before hval0 hW hL hsh hsz
  have hval : ∀ (j : Nat) t v, Tryd.f6.params[j]? = some t → args[j]? = some v → Value.okWide Tryd.prog W .any base t v := hval0
  have hW2 := hW
  obtain ⟨p, q, hA0, hV, rfl, hfz, hnd⟩ := hW2
  have hA : DataW.TrodAll enc Tryd.prog W 0 (fun _ => true) true Tryd.f6.params.toList args.toList ds p := hA0
  rw [Tryd.params6] at hA hval
  obtain ⟨v0, vs0, d0, ds0, p0, q0, hargs, rfl, rfl, h0, r0⟩ := trodAll_cons hA
  obtain ⟨v1, vs1, d1, ds1, p1, q1, rfl, rfl, rfl, h1, r1⟩ := trodAll_cons r0
  obtain ⟨v2, vs2, d2, ds2, p2, q2, rfl, rfl, rfl, h2, r2⟩ := trodAll_cons r1
  obtain ⟨rfl, rfl, rfl⟩ := trodAll_nil r2
  obtain rfl : args = #[v0, v1, v2] := by cases args; simp_all
  obtain ⟨rfl, rfl⟩ := trodVars_none hV
  obtain ⟨a0, rfl, rfl, rfl, w0⟩ := open_int Tryd.underlying33 (hval 0 33 v0 rfl rfl) h0
  have rr0 : 0 ≤ a0 ∧ a0 ≤ 18446744073709551615 := of_wf w0
  obtain ⟨a1, rfl, rfl, rfl, w1⟩ := open_int Tryd.underlying3 (hval 1 3 v1 rfl rfl) h1
  have rr1 : -9223372036854775808 ≤ a1 ∧ a1 ≤ 9223372036854775807 := of_wf w1
  obtain ⟨a2, rfl, rfl, rfl, w2⟩ := open_int Tryd.underlying5 (hval 2 5 v2 rfl rfl) h2
  have rr2 : 0 ≤ a2 ∧ a2 ≤ 255 := of_wf w2
  clear hA0 hval0
  simp only [List.append_nil] at hW
  refine (IsoMisses_law W (env_of hL) a0 rr0 a1 rr1 a2 rr2).mono fun e W' ⟨he, bel⟩ => ?_
  subst he
  exact ⟨_, rfl, _, _, _, [], [], [], hW, (trodAll_cons_mk (shut_bool Tryd.underlying4 _) trodAll_mk0), (trodAll_cons_mk (shut_int Tryd.underlying33 w0) (trodAll_cons_mk (shut_int Tryd.underlying3 w1) (trodAll_cons_mk (shut_int Tryd.underlying5 w2) trodAll_mk0))), rfl, bel.frame _, fun h => by cases h⟩
theorem isoMisses_said : Rows.IsoMissesSaid :=
  OpenClaim.holds_of_wide 6 Tryd.f6 rfl rfl rfl rfl rfl rfl rfl ⟨rfl, rfl, rfl, rfl, rfl⟩ rfl rfl rfl rfl rfl (by kernel_rfl) Tryd.func6 (by kernel_rfl)
    (of_decide_eq_true (by kernel_rfl)) (by unfold Func.isWrapper; first | (rw [if_pos (by decide +kernel)]; kernel_rfl) | (rw [if_neg (by decide +kernel)]; exact ⟨rfl, rfl⟩))
    (fun os started H enc _ => isoMisses_lifted os started H enc)
theorem isoMisses_proved : Rows.IsoMissesCardSaid :=
  Claim7.holds_tied_plain_at .later [] [.data] true Rows.isoMissesCard.stood.harness Rows.isoMissesCard.stood.looks
    isoMisses_said (fun _ h => by cases h) (by kernel_rfl) (fun _ h => by cases h) isoMisses_row_tie rfl ⟨rfl, rfl⟩ (by kernel_rfl) rfl
    (fun f fn hf hfn => by
      obtain rfl : f = 6 := Option.some.inj ((show Tryd.prog.funcNamed "twistlock/twistlocklaw03.IsoMisses" = some 6 by kernel_rfl).symm.trans hf) |>.symm
      obtain rfl : fn = Tryd.f6 := (Option.some.inj (Tryd.func6.symm.trans hfn)).symm
      exact ⟨by kernel_rfl, fun j t ht => by
        rw [Tryd.params6] at ht
        have hm : t ∈ [33, 3, 5] := by simpa using Array.mem_of_getElem? ht
        have hall : ([33, 3, 5].all fun u => !Tryd.prog.wantsStandIn u) = true := by kernel_rfl
        exact (show Tryd.prog.wantsStandIn t = false by simpa using List.all_eq_true.1 hall t hm)⟩)
    (by kernel_rfl)
#print axioms isoMisses_proved
end Go.Proofs.YtbceajgipmjmlaaDoor
