import Derived.Test.YtjmcelgdjpdacaaDoorG04
import Derived.Test.YtjmcelgdjpdacaaDoorG05
import Derived.Test.YtjmcelgdjpdacaaDoorG02
import Derived.Test.YtjmcelgdjpdacaaDoorG03
/- Part of the proof: Jj, Ve, Vf, Vg, Vc. -/
set_option linter.unusedVariables false
set_option linter.unusedSimpArgs false
set_option linter.unusedSectionVars false
namespace Go.Proofs.YtjmcelgdjpdacaaDoor
open Go.RowKit Tw
open Go
def GGath (W0 : Base) (K : List (Nat × Obj)) (m : List (Int × Int)) (v : Value) (K' : List (Nat × Obj)) : Prop := ∃ u, v = .tuple #[u, .int .i64 0] ∧ OutK W0 K m u K'
theorem gather_g {W0 : Base} {K : List (Nat × Obj)} (gf : Nat) (lb : Array Value) (xs : List (Int × Int)) (hN : xs.length ≤ 1000) (W : World) (hW : KS W0 K W) (eg : ∀ args W, (callFunc gf args).run Tryd.prog W = .ok (.enter gf args) W)
    (hseq : SeqF Tryd.prog gf lb encS W.heap.size W xs) : Calls Tryd.prog 61 #[.func (.func gf) #[] lb] W fun e w' => ∃ v K', e = .returned v ∧ KS W0 K' w' ∧ GGath W0 K (mergeL xs) v K' :=
  (gather_own gf lb xs hN W eg hseq).mono fun e w' ⟨v, he, hO, hb⟩ => by
    obtain ⟨K', h1, h2⟩ := hO.known hW hb
    exact ⟨_, K', he, h1, v, rfl, h2⟩
theorem GGath.sub {W0 : Base} {K K' : List (Nat × Obj)} {m : List (Int × Int)} {v : Value} (h : GGath W0 K m v K') : ∀ p ∈ K, p ∈ K' := by
  obtain ⟨u, _, ho⟩ := h
  exact ho.sub
theorem ks_lt {W0 : Base} {K : List (Nat × Obj)} {W : World} {g : Nat} {o : Obj} (h : KS W0 K W) (hm : (g, o) ∈ K) : g < W.heap.size ∧ W.heap[g]? = some o := ⟨lt_of_block (h.2 _ hm), h.2 _ hm⟩
theorem right_parts {week closed : List (Int × Int)} (h : rightS week closed = true) : week.length ≤ 50 ∧ closed.length ≤ 200 ∧ (∀ (k : Nat) (f t : Int), week[k]? = some (f, t) → 0 ≤ f ∧ f < t ∧ t ≤ 100000000) ∧ apart closed = true := by
  unfold rightS at h
  simp only [Bool.and_eq_true, decide_eq_true_eq] at h
  exact ⟨h.1.1.1.1, h.1.1.1.2, fun k f t hk => apart_get h.1.1.2 hk, h.1.2⟩
set_option maxRecDepth 100000 in
set_option maxHeartbeats 2000000 in
theorem Spans_ok (week closed : List (Int × Int)) (p1 p2 : Option Addr) (c1 c2 : Nat) (x y : Int) (fuel : Nat) (w : World) (h1 : AV w w.heap.size week p1 c1) (h2 : AV w w.heap.size closed p2 c2) (hr : rightS week closed = true) (hx : 0 ≤ x) (hxy : x ≤ y) (hy : y ≤ 100000000) (hfu : y - (x - x % 10080) ≤ 10080 * fuel)
    (hN : (withoutL closed (weeksL x y week fuel (x - x % 10080))).length ≤ 1000) : Calls Tryd.prog 25 #[.agg #[.slice p1 week.length c1, .slice p2 closed.length c2], .int .i64 x, .int .i64 y] w fun e w' => ∃ v, e = .returned (.tuple #[v, .int .i64 0]) ∧ OutL w w' v (mergeL (withoutL closed (weeksL x y week fuel (x - x % 10080)))) ∧ Below w.heap.size w w' := by
  have hri := fun (W : World) (h1 : SL W p1 week) (h2 : SL W p2 closed) => Right_any week closed p1 p2 c1 c2 W h1 h2
  simp only [hr] at hri
  have hio := fun W => inOrder_any x y W
  simp only [show (isT x && isT y && decide (x ≤ y)) = true from by simp [isT]; omega] at hio
  obtain ⟨r1, r2, r3, r4⟩ := right_parts hr
  have HC := Lib.hid (And.intro h1 h2)
  clear h1 h2
  go_enter Tryd.func25, Tryd.ntmps25
  refine wp_seq ?_
  refine wp_region_L (W0 := w) [] (KS.start w) ?_
  refine wpL_new (fun g => .pointer (some ⟨g, 0, none⟩)) (obi := .cells #[.slice p1 week.length c1, .slice p2 closed.length c2] 24 (0, 0)) rfl rfl (fun _ => by kernel_rfl) (fun _ => by simp only [List.setIfInBounds_toArray, List.set_cons_succ, List.set_cons_zero] <;> rfl) fun g1 Bg1 Fg1 => ?_
  try simp only [List.forall_mem_cons] at Fg1
  refine lm (v := .slice none 0 0) rfl rfl ?_
  refine lm (v := .int .i64 0) rfl rfl ?_
  refine wpL_done (fun W1 hW1 => ?_)
  refine (show Code.wp _ _ _ _ _ from ?_)
  refine wp_seq ?_
  refine wp_seq ?_
  refine wp_region_L (W0 := w) [(g1, .cells #[.slice p1 week.length c1, .slice p2 closed.length c2] 24 (0, 0))] (hW1) ?_
  refine lv (v := .agg #[.slice p1 week.length c1, .slice p2 closed.length c2]) rfl rfl (yb_load (n := 2) (off := 0) rfl (by kernel_rfl) (.head _) Tryd.underlying24 rfl size_cal (by simp) (by kernel_rfl)) ?_
  refine lv (v := .bool true) rfl rfl (yb_call (f := 26) (args := #[.agg #[.slice p1 week.length c1, .slice p2 closed.length c2]]) (fun _ => by kernel_rfl) fun W hW => hri W (sl_keep HC.out.1.sl hW.1) (sl_keep HC.out.2.sl hW.1)) ?_
  refine lm (v := .bool false) rfl rfl ?_
  refine lm (v := .bool false) rfl rfl ?_
  refine lm (v := .int .i64 x) rfl rfl ?_
  refine lm (v := .int .i64 y) rfl rfl ?_
  refine lv (v := .bool true) rfl rfl (yb_call (f := 58) (args := #[.int .i64 x, .int .i64 y]) (fun _ => by kernel_rfl) fun W hW => hio W) ?_
  refine lm (v := .bool false) rfl rfl ?_
  refine lm (v := .bool false) rfl rfl ?_
  refine wpL_done (fun W2 hW2 => ?_)
  clear hW1
  refine (show Code.wp _ _ _ _ _ from ?_)
  refine wp_cond_false rfl ?_
  refine wp_skip ?_
  refine (show Code.wp _ _ _ _ _ from ?_)
  refine wp_seq ?_
  refine wp_region_V (W0 := w) [(g1, .cells #[.slice p1 week.length c1, .slice p2 closed.length c2] 24 (0, 0))] (by kernel_rfl) (hW2) ?_
  refine vm (i := 0) (v := .pointer (some ⟨g1, 0, none⟩)) rfl rfl rfl ?_
  refine vv (i := 1) (v := .slice p1 week.length c1) rfl rfl rfl (yb_loadc (off := 0) rfl (by kernel_rfl) (.head _) Tryd.underlying22 rfl (by kernel_rfl)) ?_
  refine vm (i := 2) (v := .int .i64 x) rfl rfl rfl ?_
  refine vm (i := 3) (v := .int .i64 y) rfl rfl rfl ?_
  refine vm (i := 5) (v := .pointer (some ⟨g1, 1, none⟩)) rfl rfl rfl ?_
  refine vv (i := 6) (v := .slice p2 closed.length c2) rfl rfl rfl (yb_loadc (off := 1) rfl (by kernel_rfl) (.head _) Tryd.underlying22 rfl (by kernel_rfl)) ?_
  refine wpV_c (i := 4) (Gweekly p1 c1 week x y (w : World) [(g1, .cells #[.slice p1 week.length c1, .slice p2 closed.length c2] 24 (0, 0))]) rfl rfl (by kernel_rfl) (by kernel_rfl) (fun _ => (by kernel_rfl)) (fun W hW => weekly_g p1 c1 week x y W hW) (fun v K9 ⟨_, _, _, _, _, _, _, e⟩ p hp => by subst e; exact (.tail _ (.tail _ (.tail _ hp)))) (fun _ => by simp only [List.setIfInBounds_toArray, List.set_cons_succ, List.set_cons_zero] <;> rfl) ?_
  rintro v K9 ⟨ga, gb, gc, rfl, Bga, Bgb, Bgc, rfl⟩
  refine wpV_c (i := 7) (Gwithout 82 #[.pointer (some ⟨gb, 0, none⟩), .pointer (some ⟨gc, 0, none⟩), .pointer (some ⟨ga, 0, none⟩)] p2 c2 closed (w : World) [(ga, .cells #[.slice p1 week.length c1] 22 (0, 0)), (gb, .cells #[.int .i64 x] 3 (0, 0)), (gc, .cells #[.int .i64 y] 3 (0, 0)), (g1, .cells #[.slice p1 week.length c1, .slice p2 closed.length c2] 24 (0, 0))]) rfl rfl (by kernel_rfl) (by kernel_rfl) (fun _ => (by kernel_rfl)) (fun W hW => without_g 82 #[.pointer (some ⟨gb, 0, none⟩), .pointer (some ⟨gc, 0, none⟩), .pointer (some ⟨ga, 0, none⟩)] p2 c2 closed W hW) (fun v K9 ⟨_, _, _, _, _, e⟩ p hp => by subst e; exact (.tail _ (.tail _ hp))) (fun _ => by simp only [List.setIfInBounds_toArray, List.set_cons_succ, List.set_cons_zero] <;> rfl) ?_
  rintro v K9 ⟨gd, ge, rfl, Bgd, Bge, rfl⟩
  refine wpV_c (i := 8) (GGath (w : World) [(gd, .cells #[.func (.func 82) #[] #[.pointer (some ⟨gb, 0, none⟩), .pointer (some ⟨gc, 0, none⟩), .pointer (some ⟨ga, 0, none⟩)]] 98 (0, 0)), (ge, .cells #[.slice p2 closed.length c2] 22 (0, 0)), (ga, .cells #[.slice p1 week.length c1] 22 (0, 0)), (gb, .cells #[.int .i64 x] 3 (0, 0)), (gc, .cells #[.int .i64 y] 3 (0, 0)), (g1, .cells #[.slice p1 week.length c1, .slice p2 closed.length c2] 24 (0, 0))] (mergeL (withoutL closed (weeksL x y week fuel (x - x % 10080))))) rfl rfl (by kernel_rfl) (by kernel_rfl) (fun _ => (by kernel_rfl)) (fun W hW => gather_g 81 #[.pointer (some ⟨ge, 0, none⟩), .pointer (some ⟨gd, 0, none⟩)] (withoutL closed (weeksL x y week fuel (x - x % 10080))) hN W hW (fun _ _ => by kernel_rfl) (without_seq W.heap.size W.heap.size ge gd 82 #[.pointer (some ⟨gb, 0, none⟩), .pointer (some ⟨gc, 0, none⟩), .pointer (some ⟨ga, 0, none⟩)] closed (weeksL x y week fuel (x - x % 10080)) p2 c2 W W (Nat.le_refl _) (ks_lt hW (.tail _ (.head _))) (ks_lt hW (.head _)) (AV.keep HC.out.2 hW.1) (by omega) (fun _ _ => by kernel_rfl) (weekly_seq W.heap.size gb gc ga c1 p1 x y week fuel W (Nat.le_refl _) (ks_lt hW (.tail _ (.tail _ (.tail _ (.head _))))) (ks_lt hW (.tail _ (.tail _ (.tail _ (.tail _ (.head _)))))) (ks_lt hW (.tail _ (.tail _ (.head _)))) (AV.keep HC.out.1 hW.1) ⟨hx, hxy, hy⟩ (by omega) r3 hfu) (Nat.le_refl _) (Below.refl _ _))) (fun _ _ h => h.sub) (fun _ => by simp only [List.setIfInBounds_toArray, List.set_cons_succ, List.set_cons_zero] <;> rfl) ?_
  rintro v Kz hG
  obtain ⟨u, rfl, hO⟩ := hG
  refine vm (i := 9) (v := u) rfl rfl rfl ?_
  refine vm (i := 10) (v := .int .i64 0) rfl rfl rfl ?_
  refine vm (i := 11) (v := u) rfl rfl rfl ?_
  refine vm (i := 12) (v := .int .i64 0) rfl rfl rfl ?_
  refine wpV_done (by kernel_rfl) (fun W3 hW3 => ?_) _
  clear hW2
  refine (show Code.wp _ _ _ _ _ from ?_)
  refine wp_ret ?_
  try simp only [inBlock_ret, then_ret]
  exact bodyPost_ret (results_tmp2 rfl _ _ _) rfl ⟨_, rfl, hO.out hW3, hW3.1⟩
set_option maxRecDepth 100000 in
set_option maxHeartbeats 2000000 in
theorem Windows_ok (F N D B A : Int) (hN' : -9223372036854775808 ≤ N ∧ N ≤ 9223372036854775807) (hT : TideR F N D B A) (x y : Int) (fuel : Nat) (w : World) (hx : 0 ≤ x) (hxy : x ≤ y) (hy : y ≤ 100000000) (hfu : y - (highV F N D (firstV F N D (x - A)) - B) ≤ fuel)
    (hN : (windowsL F N D B A x y fuel (firstV F N D (x - A))).length ≤ 1000) : Calls Tryd.prog 30 #[.agg #[.int .i64 F, .int .i64 N, .int .i64 D, .int .i64 B, .int .i64 A], .int .i64 x, .int .i64 y] w fun e w' => ∃ v, e = .returned (.tuple #[v, .int .i64 0]) ∧ OutL w w' v (mergeL (windowsL F N D B A x y fuel (firstV F N D (x - A)))) ∧ Below w.heap.size w w' := by
  have htd := fun W => Tidal_any F N D B A hN' W
  simp only [tidal_iff.2 hT] at htd
  have hio := fun W => inOrder_any x y W
  simp only [show (isT x && isT y && decide (x ≤ y)) = true from by simp [isT]; omega] at hio
  go_enter Tryd.func30, Tryd.ntmps30
  refine wp_seq ?_
  refine wp_region_L (W0 := w) [] (KS.start w) ?_
  refine wpL_new (fun g => .pointer (some ⟨g, 0, none⟩)) (obi := .cells #[.int .i64 F, .int .i64 N, .int .i64 D, .int .i64 B, .int .i64 A] 28 (0, 0)) rfl rfl (fun _ => by kernel_rfl) (fun _ => by simp only [List.setIfInBounds_toArray, List.set_cons_succ, List.set_cons_zero] <;> rfl) fun g1 Bg1 Fg1 => ?_
  try simp only [List.forall_mem_cons] at Fg1
  refine lm (v := .slice none 0 0) rfl rfl ?_
  refine lm (v := .int .i64 0) rfl rfl ?_
  refine wpL_done (fun W1 hW1 => ?_)
  refine (show Code.wp _ _ _ _ _ from ?_)
  refine wp_seq ?_
  refine wp_seq ?_
  refine wp_region_L (W0 := w) [(g1, .cells #[.int .i64 F, .int .i64 N, .int .i64 D, .int .i64 B, .int .i64 A] 28 (0, 0))] (hW1) ?_
  refine lv (v := .agg #[.int .i64 F, .int .i64 N, .int .i64 D, .int .i64 B, .int .i64 A]) rfl rfl (yb_load (n := 5) (off := 0) rfl (by kernel_rfl) (.head _) Tryd.underlying28 rfl size_tide (by simp) (by kernel_rfl)) ?_
  refine lv (v := .bool true) rfl rfl (yb_call (f := 31) (args := #[.agg #[.int .i64 F, .int .i64 N, .int .i64 D, .int .i64 B, .int .i64 A]]) (fun _ => by kernel_rfl) fun W hW => htd W) ?_
  refine lm (v := .bool false) rfl rfl ?_
  refine lm (v := .bool false) rfl rfl ?_
  refine lm (v := .int .i64 x) rfl rfl ?_
  refine lm (v := .int .i64 y) rfl rfl ?_
  refine lv (v := .bool true) rfl rfl (yb_call (f := 58) (args := #[.int .i64 x, .int .i64 y]) (fun _ => by kernel_rfl) fun W hW => hio W) ?_
  refine lm (v := .bool false) rfl rfl ?_
  refine lm (v := .bool false) rfl rfl ?_
  refine wpL_done (fun W2 hW2 => ?_)
  clear hW1
  refine (show Code.wp _ _ _ _ _ from ?_)
  refine wp_cond_false rfl ?_
  refine wp_skip ?_
  refine (show Code.wp _ _ _ _ _ from ?_)
  refine wp_seq ?_
  refine wp_region_L (W0 := w) [(g1, .cells #[.int .i64 F, .int .i64 N, .int .i64 D, .int .i64 B, .int .i64 A] 28 (0, 0))] (hW2) ?_
  refine lv (v := .agg #[.int .i64 F, .int .i64 N, .int .i64 D, .int .i64 B, .int .i64 A]) rfl rfl (yb_load (n := 5) (off := 0) rfl (by kernel_rfl) (.head _) Tryd.underlying28 rfl size_tide (by simp) (by kernel_rfl)) ?_
  refine lm (v := .int .i64 x) rfl rfl ?_
  refine lm (v := .int .i64 y) rfl rfl ?_
  refine wpL_c (Gwindows F N D B A x y (w : World) [(g1, .cells #[.int .i64 F, .int .i64 N, .int .i64 D, .int .i64 B, .int .i64 A] 28 (0, 0))]) rfl (by kernel_rfl) (fun _ => (by kernel_rfl)) (fun W hW => windows_g F N D B A x y W hW) (fun _ => by simp only [List.setIfInBounds_toArray, List.set_cons_succ, List.set_cons_zero] <;> rfl) ?_
  rintro v K9 ⟨ga, gb, gc, rfl, Bga, Bgb, Bgc, rfl⟩
  refine wpL_c (GGath (w : World) [(ga, .cells #[.int .i64 F, .int .i64 N, .int .i64 D, .int .i64 B, .int .i64 A] 28 (0, 0)), (gb, .cells #[.int .i64 x] 3 (0, 0)), (gc, .cells #[.int .i64 y] 3 (0, 0)), (g1, .cells #[.int .i64 F, .int .i64 N, .int .i64 D, .int .i64 B, .int .i64 A] 28 (0, 0))] (mergeL (windowsL F N D B A x y fuel (firstV F N D (x - A))))) rfl (by kernel_rfl) (fun _ => (by kernel_rfl)) (fun W hW => gather_g 83 #[.pointer (some ⟨ga, 0, none⟩), .pointer (some ⟨gb, 0, none⟩), .pointer (some ⟨gc, 0, none⟩)] (windowsL F N D B A x y fuel (firstV F N D (x - A))) hN W hW (fun _ _ => by kernel_rfl) (windows_seq W.heap.size ga gb gc F N D B A hT x y fuel W (Nat.le_refl _) (ks_lt hW (.head _)) (ks_lt hW (.tail _ (.head _))) (ks_lt hW (.tail _ (.tail _ (.head _)))) ⟨hx, hxy, hy⟩ hfu)) (fun _ => by simp only [List.setIfInBounds_toArray, List.set_cons_succ, List.set_cons_zero] <;> rfl) ?_
  rintro v Kz hG
  obtain ⟨u, rfl, hO⟩ := hG
  refine lm (v := u) rfl rfl ?_
  refine lm (v := .int .i64 0) rfl rfl ?_
  refine lm (v := u) rfl rfl ?_
  refine lm (v := .int .i64 0) rfl rfl ?_
  refine wpL_done (fun W3 hW3 => ?_)
  clear hW2
  refine (show Code.wp _ _ _ _ _ from ?_)
  refine wp_ret ?_
  try simp only [inBlock_ret, then_ret]
  exact bodyPost_ret (results_tmp2 rfl _ _ _) rfl ⟨_, rfl, hO.out hW3, hW3.1⟩
set_option maxRecDepth 100000 in
set_option maxHeartbeats 2000000 in
theorem Both_ok (l m : List (Int × Int)) (p q : Option Addr) (cap cp : Nat) (w : World) (h1 : AV w w.heap.size l p cap) (h2 : AV w w.heap.size m q cp) (ha : apart l = true) (hb : apart m = true)
    (hN : (commonL (l.length + m.length) l m).length ≤ 1000) : Calls Tryd.prog 32 #[.slice p l.length cap, .slice q m.length cp] w fun e w' => ∃ v, e = .returned (.tuple #[v, .int .i64 0]) ∧ OutL w w' v (mergeL (commonL (l.length + m.length) l m)) ∧ Below w.heap.size w w' := by
  have hl1 := apart_len ha
  have hl2 := apart_len hb
  have hap := fun (W : World) (hc : SL W p l) => Apart_any p cap l W hc (by omega)
  have hbp := fun (W : World) (hc : SL W q m) => Apart_any q cp m W hc (by omega)
  simp only [ha] at hap
  simp only [hb] at hbp
  have HC := Lib.hid (And.intro h1 h2)
  clear h1 h2
  go_enter Tryd.func32, Tryd.ntmps32
  refine wp_seq ?_
  refine wp_region_L (W0 := w) [] (KS.start w) ?_
  refine lm (v := .slice none 0 0) rfl rfl ?_
  refine lm (v := .int .i64 0) rfl rfl ?_
  refine wpL_done (fun W1 hW1 => ?_)
  refine (show Code.wp _ _ _ _ _ from ?_)
  refine wp_seq ?_
  refine wp_seq ?_
  refine wp_region_L (W0 := w) [] (hW1) ?_
  refine lm (v := .slice p l.length cap) rfl rfl ?_
  refine lv (v := .bool true) rfl rfl (yb_call (f := 27) (args := #[.slice p l.length cap]) (fun _ => by kernel_rfl) fun W hW => hap W (sl_keep HC.out.1.sl hW.1)) ?_
  refine lm (v := .bool false) rfl rfl ?_
  refine lm (v := .bool false) rfl rfl ?_
  refine lm (v := .slice q m.length cp) rfl rfl ?_
  refine lv (v := .bool true) rfl rfl (yb_call (f := 27) (args := #[.slice q m.length cp]) (fun _ => by kernel_rfl) fun W hW => hbp W (sl_keep HC.out.2.sl hW.1)) ?_
  refine lm (v := .bool false) rfl rfl ?_
  refine lm (v := .bool false) rfl rfl ?_
  refine wpL_done (fun W2 hW2 => ?_)
  clear hW1
  refine (show Code.wp _ _ _ _ _ from ?_)
  refine wp_cond_false rfl ?_
  refine wp_skip ?_
  refine (show Code.wp _ _ _ _ _ from ?_)
  refine wp_seq ?_
  refine wp_region_L (W0 := w) [] (hW2) ?_
  refine lm (v := .slice p l.length cap) rfl rfl ?_
  refine lm (v := .slice q m.length cp) rfl rfl ?_
  refine wpL_c (Gcommon p q cap cp l m (w : World) []) rfl (by kernel_rfl) (fun _ => (by kernel_rfl)) (fun W hW => common_g p q cap cp l m W hW) (fun _ => by simp only [List.setIfInBounds_toArray, List.set_cons_succ, List.set_cons_zero] <;> rfl) ?_
  rintro v K9 ⟨ga, gb, rfl, Bga, Bgb, rfl⟩
  refine wpL_c (GGath (w : World) [(ga, .cells #[.slice p l.length cap] 22 (0, 0)), (gb, .cells #[.slice q m.length cp] 22 (0, 0))] (mergeL (commonL (l.length + m.length) l m))) rfl (by kernel_rfl) (fun _ => (by kernel_rfl)) (fun W hW => gather_g 84 #[.pointer (some ⟨ga, 0, none⟩), .pointer (some ⟨gb, 0, none⟩)] (commonL (l.length + m.length) l m) hN W hW (fun _ _ => by kernel_rfl) (common_seq W.heap.size ga gb cap cp p q l m (l.length + m.length) W (Nat.le_refl _) (ks_lt hW (.head _)) (ks_lt hW (.tail _ (.head _))) (AV.keep HC.out.1 hW.1) (AV.keep HC.out.2 hW.1) (by omega) (by omega) (Nat.le_refl _))) (fun _ => by simp only [List.setIfInBounds_toArray, List.set_cons_succ, List.set_cons_zero] <;> rfl) ?_
  rintro v Kz hG
  obtain ⟨u, rfl, hO⟩ := hG
  refine lm (v := u) rfl rfl ?_
  refine lm (v := .int .i64 0) rfl rfl ?_
  refine lm (v := u) rfl rfl ?_
  refine lm (v := .int .i64 0) rfl rfl ?_
  refine wpL_done (fun W3 hW3 => ?_)
  clear hW2
  refine (show Code.wp _ _ _ _ _ from ?_)
  refine wp_ret ?_
  try simp only [inBlock_ret, then_ret]
  exact bodyPost_ret (results_tmp2 rfl _ _ _) rfl ⟨_, rfl, hO.out hW3, hW3.1⟩
end Go.Proofs.YtjmcelgdjpdacaaDoor
/- Steps of regions whose order is drawn and that append; bytes; lists among known blocks. -/
namespace Go.Proofs.YtjmcelgdjpdacaaDoor
open Go.RowKit Tw
open Go
section
variable {P : Program} {md : Region.Mode} {ops : Array Oper} {Q : Exit → Act → World → Prop} {W0 : Base}
theorem stepV_n {i : Nat} {oi : Oper} {d : Nat} {obi : Obj} {n : Nat} {listed : Array Bool} {tm : Array Value} {df : List Deferred} {K : List (Nat × Obj)} {T : Nat → Array Value} (mk : Nat → Value)
    (hi : ops[i]? = some oi) (hdi : oi.dst = some d) (hgi : oi.guard = none) (hai : ∀ w, (execOp (Act.eval ⟨tm, df⟩) oi).run P w = .ok (.value (mk w.heap.size)) (w.alloc obi))
    (hT : ∀ g, (tm.setIfInBounds d (mk g)) = T g)
    (h : ∀ g, W0.B ≤ g → (∀ p ∈ K, p.1 ≠ g) → wpV P md ops Q W0 n (listed.setIfInBounds i true) ⟨T g, df⟩ ((g, obi) :: K)) : StepV P md ops Q W0 n listed ⟨tm, df⟩ K i := by
  refine stepV_alloc mk hi (wanted_no hgi) hai fun g hg hf => ?_
  rw [hdi]
  simp only [Act.put]
  rw [hT g]
  exact h g hg hf
theorem stepV_gg {i : Nat} {oi : Oper} {d n : Nat} {listed : Array Bool} {tm : Array Value} {df : List Deferred} {K : List (Nat × Obj)} {T : Value → Array Value} (G : Value → List (Nat × Obj) → Prop)
    (hi : ops[i]? = some oi) (hdi : oi.dst = some d) (hs : isStore oi = true) (hw : Region.wanted oi (yielded ops tm) = true)
    (hg : ∀ w, KS W0 K w → ∃ v K' w', (execOp (Act.eval ⟨tm, df⟩) oi).run P w = .ok (.value v) w' ∧ KS W0 K' w' ∧ G v K')
    (hT : ∀ v, tm.setIfInBounds d v = T v)
    (h : ∀ v K', G v K' → wpV P md ops Q W0 n (listed.setIfInBounds i true) ⟨T v, df⟩ K') : StepV P md ops Q W0 n listed ⟨tm, df⟩ K i := by
  refine ⟨oi, hi, .inr (.inr (.inr ⟨G, .inl hs, ⟨hw, fun w hK => (let ⟨_, K', _, h1, h2, h3⟩ := hg w hK; oto_of_run h1 ⟨K', h2, h3⟩)⟩, fun v K' hG => ?_⟩))⟩
  rw [hdi]
  simp only [Act.put]
  rw [hT v]
  exact h v K' hG
theorem wpL_newg {rest : List Oper} {oi : Oper} {d : Nat} {obi : Obj} {tm : Array Value} {df : List Deferred} {K : List (Nat × Obj)} {T : Nat → Array Value} (mk : Nat → Value)
    (hdi : oi.dst = some d) (hw : Region.wanted oi (yielded ops tm) = true)
    (hai : ∀ w, (execOp (Act.eval ⟨tm, df⟩) oi).run P w = .ok (.value (mk w.heap.size)) (w.alloc obi))
    (hT : ∀ g, (tm.setIfInBounds d (mk g)) = T g)
    (h : ∀ g, W0.B ≤ g → (∀ p ∈ K, p.1 ≠ g) → wpL P ops Q W0 rest ⟨T g, df⟩ ((g, obi) :: K)) : wpL P ops Q W0 (oi :: rest) ⟨tm, df⟩ K := by
  refine ⟨fun w hK => ?_⟩
  refine wpList_step fun K' hK' => ?_
  rw [if_pos hw]
  unfold Oper.wp
  rw [hai w]
  refine hK' _ _ ?_
  rw [hdi]
  simp only [Act.put]
  rw [hT w.heap.size]
  exact (h w.heap.size hK.size (fun p hp => by have := lt_of_block (hK.2 p hp); omega)).of _ (hK.alloc obi)
end
def BL (w : World) (p : Option Addr) (l : List Int) : Prop := (∀ x ∈ l, 0 ≤ x ∧ x ≤ 255) ∧ (l = [] ∨ ∃ b off, p = some ⟨b, off, none⟩ ∧ ∀ (i : Nat) (x : Int), l[i]? = some x → w.cell? ⟨b, off + i, none⟩ = some (.int .u8 x))
theorem bl_keep {w W : World} {p : Option Addr} {l : List Int} (h : BL w p l) (hB : Below w.heap.size w W) : BL W p l := ⟨h.1, h.2.imp id fun ⟨b, off, hp, hc⟩ => ⟨b, off, hp, fun i x hx => by
  have h1 := hc i x hx
  have hlt : b < w.heap.size := World.block_lt_of_cell? _ _ h1
  rw [hB.cell (p := ⟨b, off + i, none⟩) hlt]; exact h1⟩⟩
theorem run_idxb {o : Oper} {a : Act} {p : Option Addr} {b off n cap k : Nat} {px py : Operand} (ho : o.op = .indexAddr 32 px py) (hx : a.eval px = .slice p n cap) (hp : p = some ⟨b, off, none⟩) (hy : a.eval py = .int .i64 (k : Int)) (hk : k < n) (w : World) : (execOp a.eval o).run Tryd.prog w = .ok (.value (.pointer (some ⟨b, off + k, none⟩))) w := by
  subst hp
  unfold execOp
  rw [ho]
  simp only [hx, hy]
  have h1 : (k : Int) < (n : Int) := by omega
  go_simp
theorem run_cvb {o : Oper} {a : Act} {x : Int} {px : Operand} (ho : o.op = .convert 5 3 px) (hx : a.eval px = .int .u8 x) (hr : 0 ≤ x ∧ x ≤ 255) (w : World) : (execOp a.eval o).run Tryd.prog w = .ok (.value (.int .i64 x)) w := by
  unfold execOp
  rw [ho]
  simp only [hx]
  have := wrap_in (z := x) (by omega)
  go_simp
theorem run_cvh {o : Oper} {a : Act} {x : Int} {px : Operand} (ho : o.op = .convert 33 3 px) (hx : a.eval px = .int .u16 x) (hr : 0 ≤ x ∧ x ≤ 65535) (w : World) : (execOp a.eval o).run Tryd.prog w = .ok (.value (.int .i64 x)) w := by
  unfold execOp
  rw [ho]
  simp only [hx]
  have := wrap_in (z := x) (by omega)
  go_simp
theorem run_neSpan {f t : Int} {x y : Operand} (w : World) : (do eqGuard .neq 41 x y (.agg #[.int .i64 f, .int .i64 t]) (.agg #[.int .i64 f, .int .i64 t]); binOp .neq 41 (.agg #[.int .i64 f, .int .i64 t]) (.agg #[.int .i64 f, .int .i64 t]) : Sem Value).run Tryd.prog w = .ok (.bool false) w := by
  go_simp
def HasL (W0 : Base) (K : List (Nat × Obj)) (m : List (Int × Int)) (p : Option Addr) (cap : Nat) : Prop := ∀ W, KS W0 K W → AV W W.heap.size m p cap
theorem HasL.more {W0 : Base} {K K' : List (Nat × Obj)} {m : List (Int × Int)} {p : Option Addr} {cap : Nat} (h : HasL W0 K m p cap) (hs : ∀ q ∈ K, q ∈ K') : HasL W0 K' m p cap := fun W hW => h W (hW.sub hs)
theorem av_len {W : World} {n : Nat} {l : List (Int × Int)} {p : Option Addr} {cap : Nat} (h : AV W n l p cap) : l.length ≤ cap := h.1
theorem HasL.old {w : World} {K : List (Nat × Obj)} {m : List (Int × Int)} {p : Option Addr} {cap : Nat} (h : AV w w.heap.size m p cap) : HasL w K m p cap := fun _ hW => AV.keep h hW.1
theorem OutK.has {w : World} {K K' : List (Nat × Obj)} {m : List (Int × Int)} {u : Value} (h : OutK w K m u K') : ∃ p cap, u = .slice p m.length cap ∧ HasL w K' m p cap := by
  rcases h with ⟨rfl, rfl, rfl⟩ | ⟨g, cap, cur, rfl, hR, _, _, rfl⟩
  · exact ⟨none, 0, rfl, fun W _ => AV.nil W _⟩
  · exact ⟨_, cap, rfl, fun W hW => AV.of_row (hW.2 _ (.head _)) hR⟩
def GL (W0 : Base) (K : List (Nat × Obj)) (m : List (Int × Int)) (v : Value) (K' : List (Nat × Obj)) : Prop := ∃ p cap, v = .slice p m.length cap ∧ HasL W0 K' m p cap ∧ ∀ q ∈ K, q ∈ K'
def GT (W0 : Base) (K : List (Nat × Obj)) (m : List (Int × Int)) (v : Value) (K' : List (Nat × Obj)) : Prop := ∃ p cap, v = .tuple #[.slice p m.length cap, .int .i64 0] ∧ HasL W0 K' m p cap ∧ ∀ q ∈ K, q ∈ K'
theorem calls_gt {w W : World} {K : List (Nat × Obj)} {m : List (Int × Int)} {f : FuncId} {args : Array Value} (hW : KS w K W)
    (h : Calls Tryd.prog f args W fun e w' => ∃ v, e = .returned (.tuple #[v, .int .i64 0]) ∧ OutL W w' v m ∧ Below W.heap.size W w') : Calls Tryd.prog f args W fun e w' => ∃ v K', e = .returned v ∧ KS w K' w' ∧ GT w K m v K' :=
  h.mono fun e w' ⟨v, he, hO, hb⟩ => by
    obtain ⟨K', h1, h2⟩ := hO.known hW hb
    obtain ⟨p, cap, rfl, h3⟩ := h2.has
    exact ⟨_, K', he, h1, p, cap, rfl, h3, h2.sub⟩
theorem calls_gl {w W : World} {K : List (Nat × Obj)} {m : List (Int × Int)} {f : FuncId} {args : Array Value} (hW : KS w K W)
    (h : Calls Tryd.prog f args W fun e w' => ∃ v, e = .returned v ∧ OutL W w' v m ∧ Below W.heap.size W w') : Calls Tryd.prog f args W fun e w' => ∃ v K', e = .returned v ∧ KS w K' w' ∧ GL w K m v K' :=
  h.mono fun e w' ⟨v, he, hO, hb⟩ => by
    obtain ⟨K', h1, h2⟩ := hO.known hW hb
    obtain ⟨p, cap, rfl, h3⟩ := h2.has
    exact ⟨_, K', he, h1, p, cap, rfl, h3, h2.sub⟩
theorem lit_av {W : World} {g : Nat} {m : List (Int × Int)} (h : W.heap[g]? = some (.cells (flat m).toArray 41 (0, 0))) (hm : m.length ≤ 1000) : AV W W.heap.size m (some ⟨g, 0, none⟩) m.length :=
  AV.of_row h ⟨by rw [List.size_toArray, flat_length], by unfold maxLen; omega, Nat.le_refl _, flat_length m, by rw [← flat_length, List.take_length]⟩
def portW : List (Int × Int) := [(360, 1320), (1800, 2760), (3240, 4200), (4680, 5640), (6120, 7080)]
def GP (W0 : Base) (K : List (Nat × Obj)) (v : Value) (K' : List (Nat × Obj)) : Prop := ∃ p1 c1 p2 c2, v = .agg #[.slice p1 portW.length c1, .slice p2 [((1800 : Int), (2000 : Int))].length c2] ∧ HasL W0 K' portW p1 c1 ∧ HasL W0 K' [(1800, 2000)] p2 c2 ∧ ∀ q ∈ K, q ∈ K'
def madeFrom : Int → Nat → List Int → List (Int × Int)
  | _, 0, _ => []
  | at_, n + 1, x :: y :: l => (at_ + x, at_ + x + 1 + y) :: madeFrom (at_ + x + 1 + y + 1) n l
  | _, _ + 1, _ => []
def madeL (l : List Int) : List (Int × Int) := madeFrom 0 40 l
theorem made_end {at_ : Int} {n : Nat} {l : List Int} (h : n = 0 ∨ l.length ≤ 1) : madeFrom at_ n l = [] := by
  cases n with
  | zero => rfl
  | succ n =>
    match l, h with
    | [], _ => rfl
    | [_], _ => rfl
    | _ :: _ :: l, h => simp at h
theorem made_round {at_ : Int} {k : Nat} {l : List Int} {x y : Int} (hk : k < 40) (hx : l[2 * k]? = some x) (hy : l[2 * k + 1]? = some y) : madeFrom at_ (40 - k) (l.drop (2 * k)) = (at_ + x, at_ + x + 1 + y) :: madeFrom (at_ + x + 1 + y + 1) (40 - (k + 1)) (l.drop (2 * (k + 1))) := by
  obtain ⟨h1, rfl⟩ := List.getElem?_eq_some_iff.1 hx
  obtain ⟨h2, rfl⟩ := List.getElem?_eq_some_iff.1 hy
  rw [List.drop_eq_getElem_cons h1, List.drop_eq_getElem_cons h2, show 40 - k = (40 - (k + 1)) + 1 from by omega, madeFrom, show 2 * k + 1 + 1 = 2 * (k + 1) from by omega]
theorem made_len : ∀ (n : Nat) (at_ : Int) (l : List Int), (madeFrom at_ n l).length ≤ n
  | 0, _, _ => Nat.le_refl _
  | n + 1, _, [] => Nat.zero_le _
  | n + 1, _, [_] => Nat.zero_le _
  | n + 1, at_, x :: y :: l => by
    have := made_len n (at_ + x + 1 + y + 1) l
    simp only [madeFrom, List.length_cons]
    omega
end Go.Proofs.YtjmcelgdjpdacaaDoor
namespace Go.Proofs.YtjmcelgdjpdacaaDoor
open Go.RowKit Tw
open Go
theorem run_neqI {x y : Int} {b : Bool} (h : decide (x = y) = b) {px py : Operand} (w : World) : (do eqGuard .neq 3 px py (.int .i64 x) (.int .i64 y); binOp .neq 3 (.int .i64 x) (.int .i64 y) : Sem Value).run Tryd.prog w = .ok (.bool (!b)) w := by
  subst h; go_simp
  rfl
set_option maxRecDepth 100000 in
set_option maxHeartbeats 2000000 in
theorem same_true (l : List (Int × Int)) (p q : Option Addr) (cap cp : Nat) (w : World) (h1 : SL w p l) (h2 : SL w q l) (hlen : (l.length : Int) ≤ 9223372036854775806) : Calls Tryd.prog 33 #[.slice p l.length cap, .slice q l.length cp] w fun e w' => e = .returned (.bool true) ∧ Below w.heap.size w w' := by
  have HC := Lib.hid h1
  have HD := Lib.hid h2
  clear h1 h2
  go_enter Tryd.func33, Tryd.ntmps33
  refine wp_seq ?_
  refine wp_region_L (W0 := w) [] (KS.start w) ?_
  refine lm (v := .bool false) rfl rfl ?_
  refine wpL_done (fun W1 hW1 => ?_)
  refine (show Code.wp _ _ _ _ _ from ?_)
  refine wp_seq ?_
  refine wp_seq ?_
  refine wp_region_L (W0 := w) [] (hW1) ?_
  refine lm (v := .slice p l.length cap) rfl rfl ?_
  refine lm (v := .int .i64 (l.length : Int)) rfl rfl ?_
  refine lm (v := .slice q l.length cp) rfl rfl ?_
  refine lm (v := .int .i64 (l.length : Int)) rfl rfl ?_
  refine lp (v := .bool false) rfl rfl (run_bin rfl (vx := .int .i64 (l.length : Int)) (vy := .int .i64 (l.length : Int)) (by kernel_rfl) (by kernel_rfl) fun w => run_neqI (decide_eq_true rfl) w) ?_
  refine wpL_done (fun W2 hW2 => ?_)
  clear hW1
  refine (show Code.wp _ _ _ _ _ from ?_)
  refine wp_cond_false rfl ?_
  refine wp_skip ?_
  refine (show Code.wp _ _ _ _ _ from ?_)
  refine wp_seq ?_
  refine wp_seq ?_
  refine wp_region_L (W0 := w) [] (hW2) ?_
  refine lm (v := .slice p l.length cap) rfl rfl ?_
  refine lm (v := .int .i64 (l.length : Int)) rfl rfl ?_
  refine lm (v := .int .i64 0) rfl rfl ?_
  refine wpL_done (fun W3 hW3 => ?_)
  clear hW2
  refine (show Code.wp _ _ _ _ _ from ?_)
  refine wp_block ?_
  go_loopw [13] (fun u wr => ∃ (k : Nat), k ≤ l.length ∧ (True) ∧ u = .int .i64 (k : Int) ∧ KS w [] wr) (fun u _ => (l.length - intOf u).toNat)
  case atStart => exact ⟨0, by omega, trivial, rfl, ks_none (hW3)⟩
  case round =>
    obtain ⟨k, hk, hin, rfl, hKS⟩ := hrel
    by_cases hkn : k < l.length
    · obtain ⟨⟨f, t⟩, hget⟩ : ∃ s, l[k]? = some s := ⟨_, List.getElem?_eq_getElem hkn⟩
      obtain ⟨b, off, hp, hcell⟩ := HC.out.resolve_left (fun e => by rw [e] at hkn; simp at hkn)
      obtain ⟨b2, o2, hp2, hcell2⟩ := HD.out.resolve_left (fun e => by rw [e] at hkn; simp at hkn)
      refine wp_seq ?_
      refine wp_region_L (W0 := w) [] (hKS) ?_
      refine lp (v := .bool true) rfl rfl (run_bin rfl (vx := .int .i64 (k : Int)) (vy := .int .i64 (l.length : Int)) (by kernel_rfl) (by kernel_rfl) fun w => run_lssI (decide_eq_true (by omega)) w) ?_
      refine wpL_done (fun W4 hW4 => ?_)
      refine (show Code.wp _ _ _ _ _ from ?_)
      refine wp_seq ?_
      refine wp_cond_true rfl ?_
      refine wp_skip ?_
      refine (show Code.wp _ _ _ _ _ from ?_)
      refine wp_seq ?_
      refine wp_block ?_
      refine wp_seq ?_
      refine wp_region_L (W0 := w) [] (hW4) ?_
      refine lm (v := .int .i64 (k : Int)) rfl rfl ?_
      refine lm (v := .int .i64 (k : Int)) rfl rfl ?_
      refine wpL_done (fun W5 hW5 => ?_)
      clear hW4
      refine (show Code.wp _ _ _ _ _ from ?_)
      refine wp_seq ?_
      refine wp_region_V (W0 := w) [] (by kernel_rfl) (hW5) ?_
      refine vm (i := 0) (v := .slice p l.length cap) rfl rfl rfl ?_
      refine vm (i := 1) (v := .int .i64 (k : Int)) rfl rfl rfl ?_
      refine vp (i := 2) (v := .pointer (some ⟨b, off + 2 * k, none⟩)) rfl rfl rfl (run_idxp (b := b) (off := off) (n := l.length) (cap := cap) (k := k) rfl (by kernel_rfl) hp (by kernel_rfl) hkn) ?_
      refine vv (i := 3) (v := .agg #[.int .i64 f, .int .i64 t]) rfl rfl rfl (yb_load2 rfl (by kernel_rfl) (hcell k (f, t) hget).1 (hcell k (f, t) hget).2 (World.block_lt_of_cell? _ _ (hcell k (f, t) hget).1)) ?_
      refine vm (i := 4) (v := .slice q l.length cp) rfl rfl rfl ?_
      refine vm (i := 5) (v := .int .i64 (k : Int)) rfl rfl rfl ?_
      refine vp (i := 6) (v := .pointer (some ⟨b2, o2 + 2 * k, none⟩)) rfl rfl rfl (run_idxp (b := b2) (off := o2) (n := l.length) (cap := cp) (k := k) rfl (by kernel_rfl) hp2 (by kernel_rfl) hkn) ?_
      refine vv (i := 7) (v := .agg #[.int .i64 f, .int .i64 t]) rfl rfl rfl (yb_load2 rfl (by kernel_rfl) (hcell2 k (f, t) hget).1 (hcell2 k (f, t) hget).2 (World.block_lt_of_cell? _ _ (hcell2 k (f, t) hget).1)) ?_
      refine vp (i := 8) (v := .bool false) rfl rfl rfl (run_bin rfl (vx := .agg #[.int .i64 f, .int .i64 t]) (vy := .agg #[.int .i64 f, .int .i64 t]) (by kernel_rfl) (by kernel_rfl) fun w => run_neSpan w) ?_
      refine wpV_done (by kernel_rfl) (fun W6 hW6 => ?_) _
      clear hW5
      refine (show Code.wp _ _ _ _ _ from ?_)
      refine wp_cond_false rfl ?_
      refine wp_skip ?_
      refine (show Code.wp _ _ _ _ _ from ?_)
      refine wp_region_L (W0 := w) [] (hW6) ?_
      refine lp (v := .int .i64 ((k + 1 : Nat) : Int)) rfl rfl (run_bin rfl (vx := .int .i64 (k : Int)) (vy := .int .i64 1) (by kernel_rfl) (by kernel_rfl) fun w => run_addI (z := ((k + 1 : Nat) : Int)) rfl (len_range hlen (by omega)) w) ?_
      refine lm (v := .int .i64 ((k + 1 : Nat) : Int)) rfl rfl ?_
      refine wpL_done (fun W7 hW7 => ?_)
      clear hW6
      go_roundw
      case rel =>
        repeat apply Exists.intro
        exact ⟨⟨k + 1, by omega, trivial, rfl, ks_none hW7⟩, rfl⟩
      case measure => (show (l.length - intOf (.int .i64 ((k + 1 : Nat) : Int))).toNat < (l.length - intOf (.int .i64 (k : Int))).toNat); simp only [intOf]; omega
    · have hnil : l.drop k = [] := List.drop_eq_nil_of_le (by omega)
      refine wp_seq ?_
      refine wp_region_L (W0 := w) [] (hKS) ?_
      refine lp (v := .bool false) rfl rfl (run_bin rfl (vx := .int .i64 (k : Int)) (vy := .int .i64 (l.length : Int)) (by kernel_rfl) (by kernel_rfl) fun w => run_lssI (decide_eq_false (by omega)) w) ?_
      refine wpL_done (fun W4 hW4 => ?_)
      refine (show Code.wp _ _ _ _ _ from ?_)
      refine wp_seq ?_
      refine wp_cond_false rfl ?_
      refine wp_exit ?_
      refine (show Code.wp _ _ _ _ _ from ?_)
      refine wp_seq ?_
      refine wp_region_L (W0 := w) [] (hW4) ?_
      refine lm (v := .bool true) rfl rfl ?_
      refine wpL_done (fun W5 hW5 => ?_)
      clear hW4
      refine (show Code.wp _ _ _ _ _ from ?_)
      refine wp_ret ?_
      try simp only [inBlock_ret, then_ret]
      go_ret
      exact ⟨rfl, hW5.1⟩
set_option maxRecDepth 100000 in
set_option maxHeartbeats 8000000 in
theorem Made_any (l : List Int) (p : Option Addr) (cap : Nat) (w : World) (hb : BL w p l) : Calls Tryd.prog 19 #[.slice p l.length cap] w fun e w' => ∃ v, e = .returned v ∧ OutL w w' v (madeL l) ∧ Below w.heap.size w w' := by
  have hx0 := hb.1
  have HC := Lib.hid hb.2
  clear hb
  go_enter Tryd.func19, Tryd.ntmps19
  refine wp_seq ?_
  refine wp_region_L (W0 := w) [] (KS.start w) ?_
  refine lm (v := .slice none 0 0) rfl rfl ?_
  refine wpL_done (fun W1 hW1 => ?_)
  refine (show Code.wp _ _ _ _ _ from ?_)
  refine wp_seq ?_
  refine wp_region_L (W0 := w) [] (hW1) ?_
  refine lm (v := .slice none 0 0) rfl rfl ?_
  refine wpL_done (fun W2 hW2 => ?_)
  clear hW1
  refine (show Code.wp _ _ _ _ _ from ?_)
  refine wp_seq ?_
  refine wp_region_L (W0 := w) [] (hW2) ?_
  refine lm (v := .int .i64 0) rfl rfl ?_
  refine wpL_done (fun W3 hW3 => ?_)
  clear hW2
  refine (show Code.wp _ _ _ _ _ from ?_)
  refine wp_seq ?_
  refine wp_seq ?_
  refine wp_region_L (W0 := w) [] (hW3) ?_
  refine lm (v := .int .i64 0) rfl rfl ?_
  refine wpL_done (fun W4 hW4 => ?_)
  clear hW3
  refine (show Code.wp _ _ _ _ _ from ?_)
  refine wp_block ?_
  go_loopw [3, 4, 5] (fun u va vi wr => ∃ (k : Nat) (at_ : Int) (m : List (Int × Int)) (Kx : List (Nat × Obj)) (u0 : Value), k ≤ 40 ∧ madeL l = m ++ madeFrom at_ (40 - k) (l.drop (2 * k)) ∧ m.length ≤ k ∧ 0 ≤ at_ ∧ at_ ≤ 600 * k ∧ OutK w [] m u0 Kx ∧ u0 = u ∧ va = .int .i64 at_ ∧ vi = .int .i64 ((2 * k : Nat) : Int) ∧ KS w Kx wr) (fun _ _ vi _ => (80 - intOf vi).toNat)
  case atStart => exact ⟨0, 0, [], [], _, by omega, rfl, Nat.le_refl _, by omega, by omega, .inl ⟨rfl, rfl, rfl⟩, rfl, rfl, rfl, hW4⟩
  case round =>
    obtain ⟨k, at_, m, Kx, u, hk40, hin, hml, ha0, ha1, hO, rfl, rfl, rfl, hKS⟩ := hrel
    by_cases hk1 : 2 * k + 1 < l.length
    · by_cases hk2 : k < 40
      · obtain ⟨x, hx⟩ : ∃ x, l[2 * k]? = some x := ⟨_, List.getElem?_eq_getElem (by omega)⟩
        obtain ⟨y, hy⟩ : ∃ y, l[2 * k + 1]? = some y := ⟨_, List.getElem?_eq_getElem (by omega)⟩
        have hxr := hx0 x (List.mem_of_getElem? hx)
        have hyr := hx0 y (List.mem_of_getElem? hy)
        rw [made_round (by omega) hx hy] at hin
        obtain ⟨b, off, hp, hcell⟩ := HC.out.resolve_left (fun e => by rw [e] at hk1; simp at hk1)
        rcases hO with ⟨rfl, rfl, rfl⟩ | ⟨g, cap0, cur, rfl, hR, hBg, _, rfl⟩
        · refine wp_seq ?_
          refine wp_seq ?_
          refine wp_region_L (W0 := w) [] (hKS) ?_
          refine lm (v := .int .i64 ((2 * k : Nat) : Int)) rfl rfl ?_
          refine lp (v := .int .i64 ((2 * k + 1 : Nat) : Int)) rfl rfl (run_bin rfl (vx := .int .i64 ((2 * k : Nat) : Int)) (vy := .int .i64 1) (by kernel_rfl) (by kernel_rfl) fun w => run_addI (z := ((2 * k + 1 : Nat) : Int)) (by omega) (by omega) w) ?_
          refine lm (v := .slice p l.length cap) rfl rfl ?_
          refine lm (v := .int .i64 (l.length : Int)) rfl rfl ?_
          refine lp (v := .bool true) rfl rfl (run_bin rfl (vx := .int .i64 ((2 * k + 1 : Nat) : Int)) (vy := .int .i64 (l.length : Int)) (by kernel_rfl) (by kernel_rfl) fun w => run_lssI (decide_eq_true (by omega)) w) ?_
          refine lm (v := .bool true) rfl rfl ?_
          refine lm (v := .int .i64 ((2 * k : Nat) : Int)) rfl rfl ?_
          refine lp (v := .bool true) rfl rfl (run_bin rfl (vx := .int .i64 ((2 * k : Nat) : Int)) (vy := .int .i64 80) (by kernel_rfl) (by kernel_rfl) fun w => run_lssI (decide_eq_true (by omega)) w) ?_
          refine lm (v := .bool true) rfl rfl ?_
          refine wpL_done (fun W5 hW5 => ?_)
          refine (show Code.wp _ _ _ _ _ from ?_)
          refine wp_cond_true rfl ?_
          refine wp_skip ?_
          refine (show Code.wp _ _ _ _ _ from ?_)
          refine wp_seq ?_
          refine wp_block ?_
          refine wp_seq ?_
          refine wp_region_V (W0 := w) [] (by kernel_rfl) (hW5) ?_
          refine vm (i := 0) (v := .int .i64 at_) rfl rfl rfl ?_
          refine vm (i := 1) (v := .slice p l.length cap) rfl rfl rfl ?_
          refine vm (i := 2) (v := .int .i64 ((2 * k : Nat) : Int)) rfl rfl rfl ?_
          refine vp (i := 3) (v := .pointer (some ⟨b, off + (2 * k), none⟩)) rfl rfl rfl (run_idxb (p := p) (b := b) (off := off) (n := l.length) (cap := cap) (k := (2 * k)) rfl (by kernel_rfl) hp (by kernel_rfl) (by omega)) ?_
          refine vv (i := 4) (v := .int .u8 x) rfl rfl rfl (yb_load1 rfl (by kernel_rfl) (hcell (2 * k) x hx) (World.block_lt_of_cell? _ _ (hcell (2 * k) x hx)) Tryd.underlying5 rfl) ?_
          refine vp (i := 5) (v := .int .i64 x) rfl rfl rfl (run_cvb rfl (by kernel_rfl) (hx0 x (List.mem_of_getElem? hx))) ?_
          refine vp (i := 6) (v := .int .i64 (at_ + x)) rfl rfl rfl (run_bin rfl (vx := .int .i64 at_) (vy := .int .i64 x) (by kernel_rfl) (by kernel_rfl) fun w => run_addI (z := (at_ + x)) rfl (by omega) w) ?_
          refine vm (i := 7) (v := .int .i64 at_) rfl rfl rfl ?_
          refine vm (i := 8) (v := .slice p l.length cap) rfl rfl rfl ?_
          refine vm (i := 9) (v := .int .i64 ((2 * k : Nat) : Int)) rfl rfl rfl ?_
          refine vp (i := 10) (v := .pointer (some ⟨b, off + (2 * k), none⟩)) rfl rfl rfl (run_idxb (p := p) (b := b) (off := off) (n := l.length) (cap := cap) (k := (2 * k)) rfl (by kernel_rfl) hp (by kernel_rfl) (by omega)) ?_
          refine vv (i := 11) (v := .int .u8 x) rfl rfl rfl (yb_load1 rfl (by kernel_rfl) (hcell (2 * k) x hx) (World.block_lt_of_cell? _ _ (hcell (2 * k) x hx)) Tryd.underlying5 rfl) ?_
          refine vp (i := 12) (v := .int .i64 x) rfl rfl rfl (run_cvb rfl (by kernel_rfl) (hx0 x (List.mem_of_getElem? hx))) ?_
          refine vp (i := 13) (v := .int .i64 (at_ + x)) rfl rfl rfl (run_bin rfl (vx := .int .i64 at_) (vy := .int .i64 x) (by kernel_rfl) (by kernel_rfl) fun w => run_addI (z := (at_ + x)) rfl (by omega) w) ?_
          refine vp (i := 14) (v := .int .i64 (at_ + x + 1)) rfl rfl rfl (run_bin rfl (vx := .int .i64 (at_ + x)) (vy := .int .i64 1) (by kernel_rfl) (by kernel_rfl) fun w => run_addI (z := (at_ + x + 1)) rfl (by omega) w) ?_
          refine vm (i := 15) (v := .slice p l.length cap) rfl rfl rfl ?_
          refine vm (i := 16) (v := .int .i64 ((2 * k : Nat) : Int)) rfl rfl rfl ?_
          refine vp (i := 17) (v := .int .i64 ((2 * k + 1 : Nat) : Int)) rfl rfl rfl (run_bin rfl (vx := .int .i64 ((2 * k : Nat) : Int)) (vy := .int .i64 1) (by kernel_rfl) (by kernel_rfl) fun w => run_addI (z := ((2 * k + 1 : Nat) : Int)) (by omega) (by omega) w) ?_
          refine vp (i := 18) (v := .pointer (some ⟨b, off + (2 * k + 1), none⟩)) rfl rfl rfl (run_idxb (p := p) (b := b) (off := off) (n := l.length) (cap := cap) (k := (2 * k + 1)) rfl (by kernel_rfl) hp (by kernel_rfl) (by omega)) ?_
          refine vv (i := 19) (v := .int .u8 y) rfl rfl rfl (yb_load1 rfl (by kernel_rfl) (hcell (2 * k + 1) y hy) (World.block_lt_of_cell? _ _ (hcell (2 * k + 1) y hy)) Tryd.underlying5 rfl) ?_
          refine vp (i := 20) (v := .int .i64 y) rfl rfl rfl (run_cvb rfl (by kernel_rfl) (hx0 y (List.mem_of_getElem? hy))) ?_
          refine vp (i := 21) (v := .int .i64 (at_ + x + 1 + y)) rfl rfl rfl (run_bin rfl (vx := .int .i64 (at_ + x + 1)) (vy := .int .i64 y) (by kernel_rfl) (by kernel_rfl) fun w => run_addI (z := (at_ + x + 1 + y)) rfl (by omega) w) ?_
          refine vm (i := 22) (v := .agg #[.int .i64 (at_ + x), .int .i64 (at_ + x + 1 + y)]) rfl rfl rfl ?_
          refine wpV_ns (fun g => .pointer (some ⟨g, 0, none⟩)) (i := 23) (obi := .cells #[.int .i64 0, .int .i64 0] 41 (0, 0)) rfl rfl rfl (by kernel_rfl) (fun _ => by kernel_rfl) (fun _ => by simp only [List.setIfInBounds_toArray, List.set_cons_succ, List.set_cons_zero] <;> rfl) fun g1 Bg1 Fg1 => ?_
          try simp only [List.forall_mem_cons] at Fg1
          refine wpV_s [(g1, .cells #[.int .i64 (at_ + x), .int .i64 (at_ + x + 1 + y)] 41 (0, 0))] (i := 24) rfl (by kernel_rfl) rfl rfl rfl (st_span rfl (by kernel_rfl) (by kernel_rfl) (.head _) (by omega) (List.forall_mem_cons.2 ⟨.inl rfl, (List.forall_mem_nil _)⟩)) ?_
          refine wpV_done (by kernel_rfl) (fun W6 hW6 => ?_) _
          clear hW5
          refine (show Code.wp _ _ _ _ _ from ?_)
          refine wp_region_V (W0 := w) [(g1, .cells #[.int .i64 (at_ + x), .int .i64 (at_ + x + 1 + y)] 41 (0, 0))] (by kernel_rfl) (hW6) ?_
          refine vm (i := 0) (v := .slice none 0 0) rfl rfl rfl ?_
          refine vv (i := 1) (v := .agg #[.int .i64 (at_ + x), .int .i64 (at_ + x + 1 + y)]) rfl rfl rfl (yb_load (n := 2) (off := 0) rfl (by kernel_rfl) (.head _) Tryd.underlying41 rfl size_span (by simp) (by kernel_rfl)) ?_
          refine vm (i := 4) (v := .pointer (some ⟨g1, 1, none⟩)) rfl rfl rfl ?_
          refine wpV_2 (i := 2) (j := 5) (by kernel_rfl) ?_ ?_
          · refine stepV_n (fun g => .slice (some ⟨g, 0, none⟩) 1 1) (i := 2) (obi := .cells #[.int .i64 (at_ + x), .int .i64 (at_ + x + 1 + y)] 41 (0, 0)) rfl rfl rfl (fun _ => by kernel_rfl) (fun _ => by simp only [List.setIfInBounds_toArray, List.set_cons_succ, List.set_cons_zero] <;> rfl) fun g2 Bg2 Fg2 => ?_
            try simp only [List.forall_mem_cons] at Fg2
            refine wpV_2 (i := 3) (j := 5) (by kernel_rfl) ?_ ?_
            · refine stepV_gg (i := 3) (AppG w [(g2, .cells #[.int .i64 (at_ + x), .int .i64 (at_ + x + 1 + y)] 41 (0, 0)), (g1, .cells #[.int .i64 (at_ + x), .int .i64 (at_ + x + 1 + y)] 41 (0, 0))] 1 [.int .i64 (at_ + x), .int .i64 (at_ + x + 1 + y)]) rfl rfl (by kernel_rfl) (by kernel_rfl) (app_nil rfl (by kernel_rfl) (by kernel_rfl) (.head _)) (fun _ => by simp only [List.setIfInBounds_toArray, List.set_cons_succ, List.set_cons_zero] <;> rfl) ?_
              rintro v K9 ⟨ga1, cap1, cur1, rfl, B1, F1, R1, rfl⟩
              simp only [List.forall_mem_cons] at F1
              refine vm (i := 7) (v := .slice (some ⟨ga1, 0, none⟩) 1 cap1) rfl rfl rfl ?_
              refine wpV_1 (i := 5) (by kernel_rfl) ?_
              refine stepV_v (i := 5) (v := .int .i64 (at_ + x + 1 + y)) rfl rfl (by kernel_rfl) rfl (yb_loadc (off := 1) rfl (by kernel_rfl) (.tail _ (.tail _ (.head _))) Tryd.underlying3 rfl (by kernel_rfl)) (by simp only [List.setIfInBounds_toArray, List.set_cons_succ, List.set_cons_zero] <;> rfl) ?_
              refine vp (i := 6) (v := .int .i64 (at_ + x + 1 + y + 1)) rfl rfl rfl (run_bin rfl (vx := .int .i64 (at_ + x + 1 + y)) (vy := .int .i64 1) (by kernel_rfl) (by kernel_rfl) fun w => run_addI (z := (at_ + x + 1 + y + 1)) rfl (by omega) w) ?_
              refine vm (i := 8) (v := .int .i64 (at_ + x + 1 + y + 1)) rfl rfl rfl ?_
              refine wpV_done (by kernel_rfl) (fun W7 hW7 => ?_) _
              refine (show Code.wp _ _ _ _ _ from ?_)
              refine wp_region_L (W0 := w) [(ga1, .cells cur1 41 (0, 0)), (g2, .cells #[.int .i64 (at_ + x), .int .i64 (at_ + x + 1 + y)] 41 (0, 0)), (g1, .cells #[.int .i64 (at_ + x), .int .i64 (at_ + x + 1 + y)] 41 (0, 0))] (hW7) ?_
              refine lm (v := .int .i64 ((2 * k : Nat) : Int)) rfl rfl ?_
              refine lp (v := .int .i64 ((2 * (k + 1) : Nat) : Int)) rfl rfl (run_bin rfl (vx := .int .i64 ((2 * k : Nat) : Int)) (vy := .int .i64 2) (by kernel_rfl) (by kernel_rfl) fun w => run_addI (z := ((2 * (k + 1) : Nat) : Int)) (by omega) (by omega) w) ?_
              refine lm (v := .int .i64 ((2 * (k + 1) : Nat) : Int)) rfl rfl ?_
              refine wpL_done (fun W8 hW8 => ?_)
              clear hW7
              go_roundw
              case rel =>
                repeat apply Exists.intro
                exact ⟨⟨k + 1, at_ + x + 1 + y + 1, [(at_ + x, at_ + x + 1 + y)], _, _, by omega, by rw [hin]; simp, by simp, by omega, by omega, .inr ⟨ga1, cap1, cur1, rfl, R1, B1, (fun _ h => by cases h), rfl⟩, rfl, rfl, rfl, ⟨hW8.1, List.forall_mem_cons.2 ⟨hW8.2 _ (.head _), List.forall_mem_nil _⟩⟩⟩, rfl⟩
              case measure => (show (80 - intOf (.int .i64 ((2 * (k + 1) : Nat) : Int))).toNat < (80 - intOf (.int .i64 ((2 * k : Nat) : Int))).toNat); simp only [intOf]; omega
            · refine stepV_v (i := 5) (v := .int .i64 (at_ + x + 1 + y)) rfl rfl (by kernel_rfl) rfl (yb_loadc (off := 1) rfl (by kernel_rfl) (.tail _ (.head _)) Tryd.underlying3 rfl (by kernel_rfl)) (by simp only [List.setIfInBounds_toArray, List.set_cons_succ, List.set_cons_zero] <;> rfl) ?_
              refine vp (i := 6) (v := .int .i64 (at_ + x + 1 + y + 1)) rfl rfl rfl (run_bin rfl (vx := .int .i64 (at_ + x + 1 + y)) (vy := .int .i64 1) (by kernel_rfl) (by kernel_rfl) fun w => run_addI (z := (at_ + x + 1 + y + 1)) rfl (by omega) w) ?_
              refine wpV_1 (i := 3) (by kernel_rfl) ?_
              refine stepV_gg (i := 3) (AppG w [(g2, .cells #[.int .i64 (at_ + x), .int .i64 (at_ + x + 1 + y)] 41 (0, 0)), (g1, .cells #[.int .i64 (at_ + x), .int .i64 (at_ + x + 1 + y)] 41 (0, 0))] 1 [.int .i64 (at_ + x), .int .i64 (at_ + x + 1 + y)]) rfl rfl (by kernel_rfl) (by kernel_rfl) (app_nil rfl (by kernel_rfl) (by kernel_rfl) (.head _)) (fun _ => by simp only [List.setIfInBounds_toArray, List.set_cons_succ, List.set_cons_zero] <;> rfl) ?_
              rintro v K9 ⟨ga2, cap2, cur2, rfl, B2, F2, R2, rfl⟩
              simp only [List.forall_mem_cons] at F2
              refine vm (i := 7) (v := .slice (some ⟨ga2, 0, none⟩) 1 cap2) rfl rfl rfl ?_
              refine vm (i := 8) (v := .int .i64 (at_ + x + 1 + y + 1)) rfl rfl rfl ?_
              refine wpV_done (by kernel_rfl) (fun W7 hW7 => ?_) _
              refine (show Code.wp _ _ _ _ _ from ?_)
              refine wp_region_L (W0 := w) [(ga2, .cells cur2 41 (0, 0)), (g2, .cells #[.int .i64 (at_ + x), .int .i64 (at_ + x + 1 + y)] 41 (0, 0)), (g1, .cells #[.int .i64 (at_ + x), .int .i64 (at_ + x + 1 + y)] 41 (0, 0))] (hW7) ?_
              refine lm (v := .int .i64 ((2 * k : Nat) : Int)) rfl rfl ?_
              refine lp (v := .int .i64 ((2 * (k + 1) : Nat) : Int)) rfl rfl (run_bin rfl (vx := .int .i64 ((2 * k : Nat) : Int)) (vy := .int .i64 2) (by kernel_rfl) (by kernel_rfl) fun w => run_addI (z := ((2 * (k + 1) : Nat) : Int)) (by omega) (by omega) w) ?_
              refine lm (v := .int .i64 ((2 * (k + 1) : Nat) : Int)) rfl rfl ?_
              refine wpL_done (fun W8 hW8 => ?_)
              clear hW7
              go_roundw
              case rel =>
                repeat apply Exists.intro
                exact ⟨⟨k + 1, at_ + x + 1 + y + 1, [(at_ + x, at_ + x + 1 + y)], _, _, by omega, by rw [hin]; simp, by simp, by omega, by omega, .inr ⟨ga2, cap2, cur2, rfl, R2, B2, (fun _ h => by cases h), rfl⟩, rfl, rfl, rfl, ⟨hW8.1, List.forall_mem_cons.2 ⟨hW8.2 _ (.head _), List.forall_mem_nil _⟩⟩⟩, rfl⟩
              case measure => (show (80 - intOf (.int .i64 ((2 * (k + 1) : Nat) : Int))).toNat < (80 - intOf (.int .i64 ((2 * k : Nat) : Int))).toNat); simp only [intOf]; omega
          · refine stepV_v (i := 5) (v := .int .i64 (at_ + x + 1 + y)) rfl rfl (by kernel_rfl) rfl (yb_loadc (off := 1) rfl (by kernel_rfl) (.head _) Tryd.underlying3 rfl (by kernel_rfl)) (by simp only [List.setIfInBounds_toArray, List.set_cons_succ, List.set_cons_zero] <;> rfl) ?_
            refine vp (i := 6) (v := .int .i64 (at_ + x + 1 + y + 1)) rfl rfl rfl (run_bin rfl (vx := .int .i64 (at_ + x + 1 + y)) (vy := .int .i64 1) (by kernel_rfl) (by kernel_rfl) fun w => run_addI (z := (at_ + x + 1 + y + 1)) rfl (by omega) w) ?_
            refine wpV_1 (i := 2) (by kernel_rfl) ?_
            refine stepV_n (fun g => .slice (some ⟨g, 0, none⟩) 1 1) (i := 2) (obi := .cells #[.int .i64 (at_ + x), .int .i64 (at_ + x + 1 + y)] 41 (0, 0)) rfl rfl rfl (fun _ => by kernel_rfl) (fun _ => by simp only [List.setIfInBounds_toArray, List.set_cons_succ, List.set_cons_zero] <;> rfl) fun g2 Bg2 Fg2 => ?_
            try simp only [List.forall_mem_cons] at Fg2
            refine wpV_1 (i := 3) (by kernel_rfl) ?_
            refine stepV_gg (i := 3) (AppG w [(g2, .cells #[.int .i64 (at_ + x), .int .i64 (at_ + x + 1 + y)] 41 (0, 0)), (g1, .cells #[.int .i64 (at_ + x), .int .i64 (at_ + x + 1 + y)] 41 (0, 0))] 1 [.int .i64 (at_ + x), .int .i64 (at_ + x + 1 + y)]) rfl rfl (by kernel_rfl) (by kernel_rfl) (app_nil rfl (by kernel_rfl) (by kernel_rfl) (.head _)) (fun _ => by simp only [List.setIfInBounds_toArray, List.set_cons_succ, List.set_cons_zero] <;> rfl) ?_
            rintro v K9 ⟨ga3, cap3, cur3, rfl, B3, F3, R3, rfl⟩
            simp only [List.forall_mem_cons] at F3
            refine vm (i := 7) (v := .slice (some ⟨ga3, 0, none⟩) 1 cap3) rfl rfl rfl ?_
            refine vm (i := 8) (v := .int .i64 (at_ + x + 1 + y + 1)) rfl rfl rfl ?_
            refine wpV_done (by kernel_rfl) (fun W7 hW7 => ?_) _
            refine (show Code.wp _ _ _ _ _ from ?_)
            refine wp_region_L (W0 := w) [(ga3, .cells cur3 41 (0, 0)), (g2, .cells #[.int .i64 (at_ + x), .int .i64 (at_ + x + 1 + y)] 41 (0, 0)), (g1, .cells #[.int .i64 (at_ + x), .int .i64 (at_ + x + 1 + y)] 41 (0, 0))] (hW7) ?_
            refine lm (v := .int .i64 ((2 * k : Nat) : Int)) rfl rfl ?_
            refine lp (v := .int .i64 ((2 * (k + 1) : Nat) : Int)) rfl rfl (run_bin rfl (vx := .int .i64 ((2 * k : Nat) : Int)) (vy := .int .i64 2) (by kernel_rfl) (by kernel_rfl) fun w => run_addI (z := ((2 * (k + 1) : Nat) : Int)) (by omega) (by omega) w) ?_
            refine lm (v := .int .i64 ((2 * (k + 1) : Nat) : Int)) rfl rfl ?_
            refine wpL_done (fun W8 hW8 => ?_)
            clear hW7
            go_roundw
            case rel =>
              repeat apply Exists.intro
              exact ⟨⟨k + 1, at_ + x + 1 + y + 1, [(at_ + x, at_ + x + 1 + y)], _, _, by omega, by rw [hin]; simp, by simp, by omega, by omega, .inr ⟨ga3, cap3, cur3, rfl, R3, B3, (fun _ h => by cases h), rfl⟩, rfl, rfl, rfl, ⟨hW8.1, List.forall_mem_cons.2 ⟨hW8.2 _ (.head _), List.forall_mem_nil _⟩⟩⟩, rfl⟩
            case measure => (show (80 - intOf (.int .i64 ((2 * (k + 1) : Nat) : Int))).toNat < (80 - intOf (.int .i64 ((2 * k : Nat) : Int))).toNat); simp only [intOf]; omega
        · refine wp_seq ?_
          refine wp_seq ?_
          refine wp_region_L (W0 := w) [(g, .cells cur 41 (0, 0))] (hKS) ?_
          refine lm (v := .int .i64 ((2 * k : Nat) : Int)) rfl rfl ?_
          refine lp (v := .int .i64 ((2 * k + 1 : Nat) : Int)) rfl rfl (run_bin rfl (vx := .int .i64 ((2 * k : Nat) : Int)) (vy := .int .i64 1) (by kernel_rfl) (by kernel_rfl) fun w => run_addI (z := ((2 * k + 1 : Nat) : Int)) (by omega) (by omega) w) ?_
          refine lm (v := .slice p l.length cap) rfl rfl ?_
          refine lm (v := .int .i64 (l.length : Int)) rfl rfl ?_
          refine lp (v := .bool true) rfl rfl (run_bin rfl (vx := .int .i64 ((2 * k + 1 : Nat) : Int)) (vy := .int .i64 (l.length : Int)) (by kernel_rfl) (by kernel_rfl) fun w => run_lssI (decide_eq_true (by omega)) w) ?_
          refine lm (v := .bool true) rfl rfl ?_
          refine lm (v := .int .i64 ((2 * k : Nat) : Int)) rfl rfl ?_
          refine lp (v := .bool true) rfl rfl (run_bin rfl (vx := .int .i64 ((2 * k : Nat) : Int)) (vy := .int .i64 80) (by kernel_rfl) (by kernel_rfl) fun w => run_lssI (decide_eq_true (by omega)) w) ?_
          refine lm (v := .bool true) rfl rfl ?_
          refine wpL_done (fun W5 hW5 => ?_)
          refine (show Code.wp _ _ _ _ _ from ?_)
          refine wp_cond_true rfl ?_
          refine wp_skip ?_
          refine (show Code.wp _ _ _ _ _ from ?_)
          refine wp_seq ?_
          refine wp_block ?_
          refine wp_seq ?_
          refine wp_region_V (W0 := w) [(g, .cells cur 41 (0, 0))] (by kernel_rfl) (hW5) ?_
          refine vm (i := 0) (v := .int .i64 at_) rfl rfl rfl ?_
          refine vm (i := 1) (v := .slice p l.length cap) rfl rfl rfl ?_
          refine vm (i := 2) (v := .int .i64 ((2 * k : Nat) : Int)) rfl rfl rfl ?_
          refine vp (i := 3) (v := .pointer (some ⟨b, off + (2 * k), none⟩)) rfl rfl rfl (run_idxb (p := p) (b := b) (off := off) (n := l.length) (cap := cap) (k := (2 * k)) rfl (by kernel_rfl) hp (by kernel_rfl) (by omega)) ?_
          refine vv (i := 4) (v := .int .u8 x) rfl rfl rfl (yb_load1 rfl (by kernel_rfl) (hcell (2 * k) x hx) (World.block_lt_of_cell? _ _ (hcell (2 * k) x hx)) Tryd.underlying5 rfl) ?_
          refine vp (i := 5) (v := .int .i64 x) rfl rfl rfl (run_cvb rfl (by kernel_rfl) (hx0 x (List.mem_of_getElem? hx))) ?_
          refine vp (i := 6) (v := .int .i64 (at_ + x)) rfl rfl rfl (run_bin rfl (vx := .int .i64 at_) (vy := .int .i64 x) (by kernel_rfl) (by kernel_rfl) fun w => run_addI (z := (at_ + x)) rfl (by omega) w) ?_
          refine vm (i := 7) (v := .int .i64 at_) rfl rfl rfl ?_
          refine vm (i := 8) (v := .slice p l.length cap) rfl rfl rfl ?_
          refine vm (i := 9) (v := .int .i64 ((2 * k : Nat) : Int)) rfl rfl rfl ?_
          refine vp (i := 10) (v := .pointer (some ⟨b, off + (2 * k), none⟩)) rfl rfl rfl (run_idxb (p := p) (b := b) (off := off) (n := l.length) (cap := cap) (k := (2 * k)) rfl (by kernel_rfl) hp (by kernel_rfl) (by omega)) ?_
          refine vv (i := 11) (v := .int .u8 x) rfl rfl rfl (yb_load1 rfl (by kernel_rfl) (hcell (2 * k) x hx) (World.block_lt_of_cell? _ _ (hcell (2 * k) x hx)) Tryd.underlying5 rfl) ?_
          refine vp (i := 12) (v := .int .i64 x) rfl rfl rfl (run_cvb rfl (by kernel_rfl) (hx0 x (List.mem_of_getElem? hx))) ?_
          refine vp (i := 13) (v := .int .i64 (at_ + x)) rfl rfl rfl (run_bin rfl (vx := .int .i64 at_) (vy := .int .i64 x) (by kernel_rfl) (by kernel_rfl) fun w => run_addI (z := (at_ + x)) rfl (by omega) w) ?_
          refine vp (i := 14) (v := .int .i64 (at_ + x + 1)) rfl rfl rfl (run_bin rfl (vx := .int .i64 (at_ + x)) (vy := .int .i64 1) (by kernel_rfl) (by kernel_rfl) fun w => run_addI (z := (at_ + x + 1)) rfl (by omega) w) ?_
          refine vm (i := 15) (v := .slice p l.length cap) rfl rfl rfl ?_
          refine vm (i := 16) (v := .int .i64 ((2 * k : Nat) : Int)) rfl rfl rfl ?_
          refine vp (i := 17) (v := .int .i64 ((2 * k + 1 : Nat) : Int)) rfl rfl rfl (run_bin rfl (vx := .int .i64 ((2 * k : Nat) : Int)) (vy := .int .i64 1) (by kernel_rfl) (by kernel_rfl) fun w => run_addI (z := ((2 * k + 1 : Nat) : Int)) (by omega) (by omega) w) ?_
          refine vp (i := 18) (v := .pointer (some ⟨b, off + (2 * k + 1), none⟩)) rfl rfl rfl (run_idxb (p := p) (b := b) (off := off) (n := l.length) (cap := cap) (k := (2 * k + 1)) rfl (by kernel_rfl) hp (by kernel_rfl) (by omega)) ?_
          refine vv (i := 19) (v := .int .u8 y) rfl rfl rfl (yb_load1 rfl (by kernel_rfl) (hcell (2 * k + 1) y hy) (World.block_lt_of_cell? _ _ (hcell (2 * k + 1) y hy)) Tryd.underlying5 rfl) ?_
          refine vp (i := 20) (v := .int .i64 y) rfl rfl rfl (run_cvb rfl (by kernel_rfl) (hx0 y (List.mem_of_getElem? hy))) ?_
          refine vp (i := 21) (v := .int .i64 (at_ + x + 1 + y)) rfl rfl rfl (run_bin rfl (vx := .int .i64 (at_ + x + 1)) (vy := .int .i64 y) (by kernel_rfl) (by kernel_rfl) fun w => run_addI (z := (at_ + x + 1 + y)) rfl (by omega) w) ?_
          refine vm (i := 22) (v := .agg #[.int .i64 (at_ + x), .int .i64 (at_ + x + 1 + y)]) rfl rfl rfl ?_
          refine wpV_ns (fun g => .pointer (some ⟨g, 0, none⟩)) (i := 23) (obi := .cells #[.int .i64 0, .int .i64 0] 41 (0, 0)) rfl rfl rfl (by kernel_rfl) (fun _ => by kernel_rfl) (fun _ => by simp only [List.setIfInBounds_toArray, List.set_cons_succ, List.set_cons_zero] <;> rfl) fun g1 Bg1 Fg1 => ?_
          try simp only [List.forall_mem_cons] at Fg1
          refine wpV_s [(g1, .cells #[.int .i64 (at_ + x), .int .i64 (at_ + x + 1 + y)] 41 (0, 0)), (g, .cells cur 41 (0, 0))] (i := 24) rfl (by kernel_rfl) rfl rfl rfl (st_span rfl (by kernel_rfl) (by kernel_rfl) (.head _) (by omega) (List.forall_mem_cons.2 ⟨.inl rfl, (List.forall_mem_cons.2 ⟨.inr ⟨(.tail _ (.head _)), Fg1.1⟩, (List.forall_mem_nil _)⟩)⟩)) ?_
          refine wpV_done (by kernel_rfl) (fun W6 hW6 => ?_) _
          clear hW5
          refine (show Code.wp _ _ _ _ _ from ?_)
          refine wp_region_V (W0 := w) [(g1, .cells #[.int .i64 (at_ + x), .int .i64 (at_ + x + 1 + y)] 41 (0, 0)), (g, .cells cur 41 (0, 0))] (by kernel_rfl) (hW6) ?_
          refine vm (i := 0) (v := .slice (some ⟨g, 0, none⟩) m.length cap0) rfl rfl rfl ?_
          refine vv (i := 1) (v := .agg #[.int .i64 (at_ + x), .int .i64 (at_ + x + 1 + y)]) rfl rfl rfl (yb_load (n := 2) (off := 0) rfl (by kernel_rfl) (.head _) Tryd.underlying41 rfl size_span (by simp) (by kernel_rfl)) ?_
          refine vm (i := 4) (v := .pointer (some ⟨g1, 1, none⟩)) rfl rfl rfl ?_
          refine wpV_2 (i := 2) (j := 5) (by kernel_rfl) ?_ ?_
          · refine stepV_n (fun g => .slice (some ⟨g, 0, none⟩) 1 1) (i := 2) (obi := .cells #[.int .i64 (at_ + x), .int .i64 (at_ + x + 1 + y)] 41 (0, 0)) rfl rfl rfl (fun _ => by kernel_rfl) (fun _ => by simp only [List.setIfInBounds_toArray, List.set_cons_succ, List.set_cons_zero] <;> rfl) fun g2 Bg2 Fg2 => ?_
            try simp only [List.forall_mem_cons] at Fg2
            refine wpV_2 (i := 3) (j := 5) (by kernel_rfl) ?_ ?_
            · refine stepV_gg (i := 3) (AppG w [(g2, .cells #[.int .i64 (at_ + x), .int .i64 (at_ + x + 1 + y)] 41 (0, 0)), (g1, .cells #[.int .i64 (at_ + x), .int .i64 (at_ + x + 1 + y)] 41 (0, 0))] (m.length + 1) (flat m ++ [.int .i64 (at_ + x), .int .i64 (at_ + x + 1 + y)])) rfl rfl (by kernel_rfl) (by kernel_rfl) (app_row rfl (by kernel_rfl) (by kernel_rfl) (.head _) (.tail _ (.tail _ (.head _))) hBg hR (by omega) ⟨rfl, rfl⟩ (List.forall_mem_cons.2 ⟨⟨(.head _), (Ne.symm Fg2.2.1)⟩, (List.forall_mem_cons.2 ⟨⟨(.tail _ (.head _)), (Ne.symm Fg1.1)⟩, (List.forall_mem_nil _)⟩)⟩)) (fun _ => by simp only [List.setIfInBounds_toArray, List.set_cons_succ, List.set_cons_zero] <;> rfl) ?_
              rintro v K9 ⟨ga4, cap4, cur4, rfl, B4, F4, R4, rfl⟩
              simp only [List.forall_mem_cons] at F4
              refine vm (i := 7) (v := .slice (some ⟨ga4, 0, none⟩) (m.length + 1) cap4) rfl rfl rfl ?_
              refine wpV_1 (i := 5) (by kernel_rfl) ?_
              refine stepV_v (i := 5) (v := .int .i64 (at_ + x + 1 + y)) rfl rfl (by kernel_rfl) rfl (yb_loadc (off := 1) rfl (by kernel_rfl) (.tail _ (.tail _ (.head _))) Tryd.underlying3 rfl (by kernel_rfl)) (by simp only [List.setIfInBounds_toArray, List.set_cons_succ, List.set_cons_zero] <;> rfl) ?_
              refine vp (i := 6) (v := .int .i64 (at_ + x + 1 + y + 1)) rfl rfl rfl (run_bin rfl (vx := .int .i64 (at_ + x + 1 + y)) (vy := .int .i64 1) (by kernel_rfl) (by kernel_rfl) fun w => run_addI (z := (at_ + x + 1 + y + 1)) rfl (by omega) w) ?_
              refine vm (i := 8) (v := .int .i64 (at_ + x + 1 + y + 1)) rfl rfl rfl ?_
              refine wpV_done (by kernel_rfl) (fun W7 hW7 => ?_) _
              refine (show Code.wp _ _ _ _ _ from ?_)
              refine wp_region_L (W0 := w) [(ga4, .cells cur4 41 (0, 0)), (g2, .cells #[.int .i64 (at_ + x), .int .i64 (at_ + x + 1 + y)] 41 (0, 0)), (g1, .cells #[.int .i64 (at_ + x), .int .i64 (at_ + x + 1 + y)] 41 (0, 0))] (hW7) ?_
              refine lm (v := .int .i64 ((2 * k : Nat) : Int)) rfl rfl ?_
              refine lp (v := .int .i64 ((2 * (k + 1) : Nat) : Int)) rfl rfl (run_bin rfl (vx := .int .i64 ((2 * k : Nat) : Int)) (vy := .int .i64 2) (by kernel_rfl) (by kernel_rfl) fun w => run_addI (z := ((2 * (k + 1) : Nat) : Int)) (by omega) (by omega) w) ?_
              refine lm (v := .int .i64 ((2 * (k + 1) : Nat) : Int)) rfl rfl ?_
              refine wpL_done (fun W8 hW8 => ?_)
              clear hW7
              go_roundw
              case rel =>
                repeat apply Exists.intro
                exact ⟨⟨k + 1, at_ + x + 1 + y + 1, m ++ [(at_ + x, at_ + x + 1 + y)], _, _, by omega, by rw [hin]; simp, by rw [List.length_append]; simp; omega, by omega, by omega, .inr ⟨ga4, cap4, cur4, by rw [List.length_append]; rfl, by rw [List.length_append, flat_append]; exact R4, B4, (fun _ h => by cases h), rfl⟩, rfl, rfl, rfl, ⟨hW8.1, List.forall_mem_cons.2 ⟨hW8.2 _ (.head _), List.forall_mem_nil _⟩⟩⟩, rfl⟩
              case measure => (show (80 - intOf (.int .i64 ((2 * (k + 1) : Nat) : Int))).toNat < (80 - intOf (.int .i64 ((2 * k : Nat) : Int))).toNat); simp only [intOf]; omega
            · refine stepV_v (i := 5) (v := .int .i64 (at_ + x + 1 + y)) rfl rfl (by kernel_rfl) rfl (yb_loadc (off := 1) rfl (by kernel_rfl) (.tail _ (.head _)) Tryd.underlying3 rfl (by kernel_rfl)) (by simp only [List.setIfInBounds_toArray, List.set_cons_succ, List.set_cons_zero] <;> rfl) ?_
              refine vp (i := 6) (v := .int .i64 (at_ + x + 1 + y + 1)) rfl rfl rfl (run_bin rfl (vx := .int .i64 (at_ + x + 1 + y)) (vy := .int .i64 1) (by kernel_rfl) (by kernel_rfl) fun w => run_addI (z := (at_ + x + 1 + y + 1)) rfl (by omega) w) ?_
              refine wpV_1 (i := 3) (by kernel_rfl) ?_
              refine stepV_gg (i := 3) (AppG w [(g2, .cells #[.int .i64 (at_ + x), .int .i64 (at_ + x + 1 + y)] 41 (0, 0)), (g1, .cells #[.int .i64 (at_ + x), .int .i64 (at_ + x + 1 + y)] 41 (0, 0))] (m.length + 1) (flat m ++ [.int .i64 (at_ + x), .int .i64 (at_ + x + 1 + y)])) rfl rfl (by kernel_rfl) (by kernel_rfl) (app_row rfl (by kernel_rfl) (by kernel_rfl) (.head _) (.tail _ (.tail _ (.head _))) hBg hR (by omega) ⟨rfl, rfl⟩ (List.forall_mem_cons.2 ⟨⟨(.head _), (Ne.symm Fg2.2.1)⟩, (List.forall_mem_cons.2 ⟨⟨(.tail _ (.head _)), (Ne.symm Fg1.1)⟩, (List.forall_mem_nil _)⟩)⟩)) (fun _ => by simp only [List.setIfInBounds_toArray, List.set_cons_succ, List.set_cons_zero] <;> rfl) ?_
              rintro v K9 ⟨ga5, cap5, cur5, rfl, B5, F5, R5, rfl⟩
              simp only [List.forall_mem_cons] at F5
              refine vm (i := 7) (v := .slice (some ⟨ga5, 0, none⟩) (m.length + 1) cap5) rfl rfl rfl ?_
              refine vm (i := 8) (v := .int .i64 (at_ + x + 1 + y + 1)) rfl rfl rfl ?_
              refine wpV_done (by kernel_rfl) (fun W7 hW7 => ?_) _
              refine (show Code.wp _ _ _ _ _ from ?_)
              refine wp_region_L (W0 := w) [(ga5, .cells cur5 41 (0, 0)), (g2, .cells #[.int .i64 (at_ + x), .int .i64 (at_ + x + 1 + y)] 41 (0, 0)), (g1, .cells #[.int .i64 (at_ + x), .int .i64 (at_ + x + 1 + y)] 41 (0, 0))] (hW7) ?_
              refine lm (v := .int .i64 ((2 * k : Nat) : Int)) rfl rfl ?_
              refine lp (v := .int .i64 ((2 * (k + 1) : Nat) : Int)) rfl rfl (run_bin rfl (vx := .int .i64 ((2 * k : Nat) : Int)) (vy := .int .i64 2) (by kernel_rfl) (by kernel_rfl) fun w => run_addI (z := ((2 * (k + 1) : Nat) : Int)) (by omega) (by omega) w) ?_
              refine lm (v := .int .i64 ((2 * (k + 1) : Nat) : Int)) rfl rfl ?_
              refine wpL_done (fun W8 hW8 => ?_)
              clear hW7
              go_roundw
              case rel =>
                repeat apply Exists.intro
                exact ⟨⟨k + 1, at_ + x + 1 + y + 1, m ++ [(at_ + x, at_ + x + 1 + y)], _, _, by omega, by rw [hin]; simp, by rw [List.length_append]; simp; omega, by omega, by omega, .inr ⟨ga5, cap5, cur5, by rw [List.length_append]; rfl, by rw [List.length_append, flat_append]; exact R5, B5, (fun _ h => by cases h), rfl⟩, rfl, rfl, rfl, ⟨hW8.1, List.forall_mem_cons.2 ⟨hW8.2 _ (.head _), List.forall_mem_nil _⟩⟩⟩, rfl⟩
              case measure => (show (80 - intOf (.int .i64 ((2 * (k + 1) : Nat) : Int))).toNat < (80 - intOf (.int .i64 ((2 * k : Nat) : Int))).toNat); simp only [intOf]; omega
          · refine stepV_v (i := 5) (v := .int .i64 (at_ + x + 1 + y)) rfl rfl (by kernel_rfl) rfl (yb_loadc (off := 1) rfl (by kernel_rfl) (.head _) Tryd.underlying3 rfl (by kernel_rfl)) (by simp only [List.setIfInBounds_toArray, List.set_cons_succ, List.set_cons_zero] <;> rfl) ?_
            refine vp (i := 6) (v := .int .i64 (at_ + x + 1 + y + 1)) rfl rfl rfl (run_bin rfl (vx := .int .i64 (at_ + x + 1 + y)) (vy := .int .i64 1) (by kernel_rfl) (by kernel_rfl) fun w => run_addI (z := (at_ + x + 1 + y + 1)) rfl (by omega) w) ?_
            refine wpV_1 (i := 2) (by kernel_rfl) ?_
            refine stepV_n (fun g => .slice (some ⟨g, 0, none⟩) 1 1) (i := 2) (obi := .cells #[.int .i64 (at_ + x), .int .i64 (at_ + x + 1 + y)] 41 (0, 0)) rfl rfl rfl (fun _ => by kernel_rfl) (fun _ => by simp only [List.setIfInBounds_toArray, List.set_cons_succ, List.set_cons_zero] <;> rfl) fun g2 Bg2 Fg2 => ?_
            try simp only [List.forall_mem_cons] at Fg2
            refine wpV_1 (i := 3) (by kernel_rfl) ?_
            refine stepV_gg (i := 3) (AppG w [(g2, .cells #[.int .i64 (at_ + x), .int .i64 (at_ + x + 1 + y)] 41 (0, 0)), (g1, .cells #[.int .i64 (at_ + x), .int .i64 (at_ + x + 1 + y)] 41 (0, 0))] (m.length + 1) (flat m ++ [.int .i64 (at_ + x), .int .i64 (at_ + x + 1 + y)])) rfl rfl (by kernel_rfl) (by kernel_rfl) (app_row rfl (by kernel_rfl) (by kernel_rfl) (.head _) (.tail _ (.tail _ (.head _))) hBg hR (by omega) ⟨rfl, rfl⟩ (List.forall_mem_cons.2 ⟨⟨(.head _), (Ne.symm Fg2.2.1)⟩, (List.forall_mem_cons.2 ⟨⟨(.tail _ (.head _)), (Ne.symm Fg1.1)⟩, (List.forall_mem_nil _)⟩)⟩)) (fun _ => by simp only [List.setIfInBounds_toArray, List.set_cons_succ, List.set_cons_zero] <;> rfl) ?_
            rintro v K9 ⟨ga6, cap6, cur6, rfl, B6, F6, R6, rfl⟩
            simp only [List.forall_mem_cons] at F6
            refine vm (i := 7) (v := .slice (some ⟨ga6, 0, none⟩) (m.length + 1) cap6) rfl rfl rfl ?_
            refine vm (i := 8) (v := .int .i64 (at_ + x + 1 + y + 1)) rfl rfl rfl ?_
            refine wpV_done (by kernel_rfl) (fun W7 hW7 => ?_) _
            refine (show Code.wp _ _ _ _ _ from ?_)
            refine wp_region_L (W0 := w) [(ga6, .cells cur6 41 (0, 0)), (g2, .cells #[.int .i64 (at_ + x), .int .i64 (at_ + x + 1 + y)] 41 (0, 0)), (g1, .cells #[.int .i64 (at_ + x), .int .i64 (at_ + x + 1 + y)] 41 (0, 0))] (hW7) ?_
            refine lm (v := .int .i64 ((2 * k : Nat) : Int)) rfl rfl ?_
            refine lp (v := .int .i64 ((2 * (k + 1) : Nat) : Int)) rfl rfl (run_bin rfl (vx := .int .i64 ((2 * k : Nat) : Int)) (vy := .int .i64 2) (by kernel_rfl) (by kernel_rfl) fun w => run_addI (z := ((2 * (k + 1) : Nat) : Int)) (by omega) (by omega) w) ?_
            refine lm (v := .int .i64 ((2 * (k + 1) : Nat) : Int)) rfl rfl ?_
            refine wpL_done (fun W8 hW8 => ?_)
            clear hW7
            go_roundw
            case rel =>
              repeat apply Exists.intro
              exact ⟨⟨k + 1, at_ + x + 1 + y + 1, m ++ [(at_ + x, at_ + x + 1 + y)], _, _, by omega, by rw [hin]; simp, by rw [List.length_append]; simp; omega, by omega, by omega, .inr ⟨ga6, cap6, cur6, by rw [List.length_append]; rfl, by rw [List.length_append, flat_append]; exact R6, B6, (fun _ h => by cases h), rfl⟩, rfl, rfl, rfl, ⟨hW8.1, List.forall_mem_cons.2 ⟨hW8.2 _ (.head _), List.forall_mem_nil _⟩⟩⟩, rfl⟩
            case measure => (show (80 - intOf (.int .i64 ((2 * (k + 1) : Nat) : Int))).toNat < (80 - intOf (.int .i64 ((2 * k : Nat) : Int))).toNat); simp only [intOf]; omega
      · have hend : madeL l = m := by rw [hin, made_end (by omega), List.append_nil]
        refine wp_seq ?_
        refine wp_seq ?_
        refine wp_region_L (W0 := w) Kx (hKS) ?_
        refine lm (v := .int .i64 ((2 * k : Nat) : Int)) rfl rfl ?_
        refine lp (v := .int .i64 ((2 * k + 1 : Nat) : Int)) rfl rfl (run_bin rfl (vx := .int .i64 ((2 * k : Nat) : Int)) (vy := .int .i64 1) (by kernel_rfl) (by kernel_rfl) fun w => run_addI (z := ((2 * k + 1 : Nat) : Int)) (by omega) (by omega) w) ?_
        refine lm (v := .slice p l.length cap) rfl rfl ?_
        refine lm (v := .int .i64 (l.length : Int)) rfl rfl ?_
        refine lp (v := .bool true) rfl rfl (run_bin rfl (vx := .int .i64 ((2 * k + 1 : Nat) : Int)) (vy := .int .i64 (l.length : Int)) (by kernel_rfl) (by kernel_rfl) fun w => run_lssI (decide_eq_true (by omega)) w) ?_
        refine lm (v := .bool true) rfl rfl ?_
        refine lm (v := .int .i64 ((2 * k : Nat) : Int)) rfl rfl ?_
        refine lp (v := .bool false) rfl rfl (run_bin rfl (vx := .int .i64 ((2 * k : Nat) : Int)) (vy := .int .i64 80) (by kernel_rfl) (by kernel_rfl) fun w => run_lssI (decide_eq_false (by omega)) w) ?_
        refine lm (v := .bool false) rfl rfl ?_
        refine wpL_done (fun W5 hW5 => ?_)
        refine (show Code.wp _ _ _ _ _ from ?_)
        refine wp_cond_false rfl ?_
        refine wp_exit ?_
        refine (show Code.wp _ _ _ _ _ from ?_)
        refine wp_seq ?_
        refine wp_region_L (W0 := w) Kx (hW5) ?_
        refine lm (v := u) rfl rfl ?_
        refine lm (v := u) rfl rfl ?_
        refine wpL_done (fun W6 hW6 => ?_)
        clear hW5
        refine (show Code.wp _ _ _ _ _ from ?_)
        refine wp_ret ?_
        try simp only [inBlock_ret, then_ret]
        go_ret
        exact ⟨u, rfl, hend ▸ hO.out hW6, hW6.1⟩
    · have hend : madeL l = m := by rw [hin, made_end (by rw [List.length_drop]; omega), List.append_nil]
      refine wp_seq ?_
      refine wp_seq ?_
      refine wp_region_L (W0 := w) Kx (hKS) ?_
      refine lm (v := .int .i64 ((2 * k : Nat) : Int)) rfl rfl ?_
      refine lp (v := .int .i64 ((2 * k + 1 : Nat) : Int)) rfl rfl (run_bin rfl (vx := .int .i64 ((2 * k : Nat) : Int)) (vy := .int .i64 1) (by kernel_rfl) (by kernel_rfl) fun w => run_addI (z := ((2 * k + 1 : Nat) : Int)) (by omega) (by omega) w) ?_
      refine lm (v := .slice p l.length cap) rfl rfl ?_
      refine lm (v := .int .i64 (l.length : Int)) rfl rfl ?_
      refine lp (v := .bool false) rfl rfl (run_bin rfl (vx := .int .i64 ((2 * k + 1 : Nat) : Int)) (vy := .int .i64 (l.length : Int)) (by kernel_rfl) (by kernel_rfl) fun w => run_lssI (decide_eq_false (by omega)) w) ?_
      refine lm (v := .bool false) rfl rfl ?_
      refine ln rfl ?_
      refine ln rfl ?_
      refine lm (v := .bool false) rfl rfl ?_
      refine wpL_done (fun W5 hW5 => ?_)
      refine (show Code.wp _ _ _ _ _ from ?_)
      refine wp_cond_false rfl ?_
      refine wp_exit ?_
      refine (show Code.wp _ _ _ _ _ from ?_)
      refine wp_seq ?_
      refine wp_region_L (W0 := w) Kx (hW5) ?_
      refine lm (v := u) rfl rfl ?_
      refine lm (v := u) rfl rfl ?_
      refine wpL_done (fun W6 hW6 => ?_)
      clear hW5
      refine (show Code.wp _ _ _ _ _ from ?_)
      refine wp_ret ?_
      try simp only [inBlock_ret, then_ret]
      go_ret
      exact ⟨u, rfl, hend ▸ hO.out hW6, hW6.1⟩
set_option maxRecDepth 100000 in
set_option maxHeartbeats 2000000 in
theorem in_any (p : Option Addr) (cap : Nat) (l : List (Int × Int)) (w : World) (hcell : SL w p l) (hlen0 : (l.length : Int) ≤ 9223372036854775806) (x : Int) : Calls Tryd.prog 23 #[.slice p l.length cap, .int .i64 x] w fun e w' => e = .returned (.bool (inL l x)) ∧ Below w.heap.size w w' := by
  have HC := Lib.hid hcell
  clear hcell
  go_enter Tryd.func23, Tryd.ntmps23
  have hlen : (l.length : Int) ≤ 9223372036854775806 := hlen0
  refine wp_seq ?_
  refine wp_region_L (W0 := w) [] (KS.start w) ?_
  refine lm (v := .bool false) rfl rfl ?_
  refine wpL_done (fun W1 hW1 => ?_)
  refine (show Code.wp _ _ _ _ _ from ?_)
  refine wp_seq ?_
  refine wp_seq ?_
  refine wp_region_L (W0 := w) [] (hW1) ?_
  refine lm (v := .slice p l.length cap) rfl rfl ?_
  refine lm (v := .int .i64 (l.length : Int)) rfl rfl ?_
  refine lm (v := .int .i64 0) rfl rfl ?_
  refine wpL_done (fun W2 hW2 => ?_)
  clear hW1
  refine (show Code.wp _ _ _ _ _ from ?_)
  refine wp_block ?_
  go_loopw [9] (fun u wr => ∃ k : Nat, k ≤ l.length ∧ inL l x = inL (l.drop k) x ∧ u = .int .i64 (k : Int) ∧ KS w [] wr) (fun u _ => (l.length - intOf u).toNat)
  case atStart => exact ⟨0, by omega, rfl, rfl, ks_none (hW2)⟩
  case round =>
    obtain ⟨k, hk, hin, rfl, hKS⟩ := hrel
    by_cases hkn : k < l.length
    · obtain ⟨⟨f, t⟩, hget⟩ : ∃ s, l[k]? = some s := ⟨_, List.getElem?_eq_getElem hkn⟩
      obtain ⟨b, off, hp, hcell⟩ := HC.out.resolve_left (fun e => by rw [e] at hkn; simp at hkn)
      rw [in_drop hget] at hin
      by_cases h1 : f ≤ x
      · by_cases h2 : x < t
        · rw [show inL l x = true from by rw [hin]; simp [h1, h2]]
          refine wp_seq ?_
          refine wp_region_L (W0 := w) [] (hKS) ?_
          refine lp (v := .bool true) rfl rfl (run_bin rfl (vx := .int .i64 (k : Int)) (vy := .int .i64 (l.length : Int)) (by kernel_rfl) (by kernel_rfl) fun w => run_lssI (decide_eq_true (by omega)) w) ?_
          refine wpL_done (fun W3 hW3 => ?_)
          refine (show Code.wp _ _ _ _ _ from ?_)
          refine wp_seq ?_
          refine wp_cond_true rfl ?_
          refine wp_skip ?_
          refine (show Code.wp _ _ _ _ _ from ?_)
          refine wp_seq ?_
          refine wp_block ?_
          refine wp_seq ?_
          refine wp_region_L (W0 := w) [] (hW3) ?_
          refine lp (v := .pointer (some ⟨b, off + 2 * k, none⟩)) rfl rfl (run_idxp (b := b) (off := off) (n := l.length) (cap := cap) (k := k) rfl (by kernel_rfl) hp (by kernel_rfl) hkn) ?_
          refine lv (v := .agg #[.int .i64 f, .int .i64 t]) rfl rfl (yb_load2 rfl (by kernel_rfl) (hcell k (f, t) hget).1 (hcell k (f, t) hget).2 (World.block_lt_of_cell? _ _ (hcell k (f, t) hget).1)) ?_
          refine wpL_new (fun g => .pointer (some ⟨g, 0, none⟩)) (obi := .cells #[.int .i64 0, .int .i64 0] 41 (0, 0)) rfl rfl (fun _ => by kernel_rfl) (fun _ => by simp only [List.setIfInBounds_toArray, List.set_cons_succ, List.set_cons_zero] <;> rfl) fun g1 Bg1 Fg1 => ?_
          try simp only [List.forall_mem_cons] at Fg1
          refine wpL_s [(g1, .cells #[.int .i64 f, .int .i64 t] 41 (0, 0))] rfl rfl (st_span rfl (by kernel_rfl) (by kernel_rfl) (.head _) (by omega) (List.forall_mem_cons.2 ⟨.inl rfl, (List.forall_mem_nil _)⟩)) ?_
          refine wpL_done (fun W4 hW4 => ?_)
          clear hW3
          refine (show Code.wp _ _ _ _ _ from ?_)
          refine wp_seq ?_
          refine wp_region_L (W0 := w) [(g1, .cells #[.int .i64 f, .int .i64 t] 41 (0, 0))] (hW4) ?_
          refine lm (v := .pointer (some ⟨g1, 0, none⟩)) rfl rfl ?_
          refine lv (v := .int .i64 f) rfl rfl (yb_loadc (off := 0) rfl (by kernel_rfl) (.head _) Tryd.underlying3 rfl (by kernel_rfl)) ?_
          refine lm (v := .int .i64 x) rfl rfl ?_
          refine lp (v := .bool true) rfl rfl (run_bin rfl (vx := .int .i64 f) (vy := .int .i64 x) (by kernel_rfl) (by kernel_rfl) fun w => run_leqI (decide_eq_true h1) w) ?_
          refine lm (v := .bool true) rfl rfl ?_
          refine lm (v := .int .i64 x) rfl rfl ?_
          refine lm (v := .pointer (some ⟨g1, 1, none⟩)) rfl rfl ?_
          refine lv (v := .int .i64 t) rfl rfl (yb_loadc (off := 1) rfl (by kernel_rfl) (.head _) Tryd.underlying3 rfl (by kernel_rfl)) ?_
          refine lp (v := .bool true) rfl rfl (run_bin rfl (vx := .int .i64 x) (vy := .int .i64 t) (by kernel_rfl) (by kernel_rfl) fun w => run_lssI (decide_eq_true h2) w) ?_
          refine lm (v := .bool true) rfl rfl ?_
          refine wpL_done (fun W5 hW5 => ?_)
          clear hW4
          refine (show Code.wp _ _ _ _ _ from ?_)
          refine wp_cond_true rfl ?_
          refine wp_seq ?_
          refine wp_region_L (W0 := w) [(g1, .cells #[.int .i64 f, .int .i64 t] 41 (0, 0))] (hW5) ?_
          refine lm (v := .bool true) rfl rfl ?_
          refine wpL_done (fun W6 hW6 => ?_)
          clear hW5
          refine (show Code.wp _ _ _ _ _ from ?_)
          refine wp_ret ?_
          try simp only [inBlock_ret, then_ret]
          go_ret
          exact ⟨rfl, hW6.1⟩
        · refine wp_seq ?_
          refine wp_region_L (W0 := w) [] (hKS) ?_
          refine lp (v := .bool true) rfl rfl (run_bin rfl (vx := .int .i64 (k : Int)) (vy := .int .i64 (l.length : Int)) (by kernel_rfl) (by kernel_rfl) fun w => run_lssI (decide_eq_true (by omega)) w) ?_
          refine wpL_done (fun W3 hW3 => ?_)
          refine (show Code.wp _ _ _ _ _ from ?_)
          refine wp_seq ?_
          refine wp_cond_true rfl ?_
          refine wp_skip ?_
          refine (show Code.wp _ _ _ _ _ from ?_)
          refine wp_seq ?_
          refine wp_block ?_
          refine wp_seq ?_
          refine wp_region_L (W0 := w) [] (hW3) ?_
          refine lp (v := .pointer (some ⟨b, off + 2 * k, none⟩)) rfl rfl (run_idxp (b := b) (off := off) (n := l.length) (cap := cap) (k := k) rfl (by kernel_rfl) hp (by kernel_rfl) hkn) ?_
          refine lv (v := .agg #[.int .i64 f, .int .i64 t]) rfl rfl (yb_load2 rfl (by kernel_rfl) (hcell k (f, t) hget).1 (hcell k (f, t) hget).2 (World.block_lt_of_cell? _ _ (hcell k (f, t) hget).1)) ?_
          refine wpL_new (fun g => .pointer (some ⟨g, 0, none⟩)) (obi := .cells #[.int .i64 0, .int .i64 0] 41 (0, 0)) rfl rfl (fun _ => by kernel_rfl) (fun _ => by simp only [List.setIfInBounds_toArray, List.set_cons_succ, List.set_cons_zero] <;> rfl) fun g1 Bg1 Fg1 => ?_
          try simp only [List.forall_mem_cons] at Fg1
          refine wpL_s [(g1, .cells #[.int .i64 f, .int .i64 t] 41 (0, 0))] rfl rfl (st_span rfl (by kernel_rfl) (by kernel_rfl) (.head _) (by omega) (List.forall_mem_cons.2 ⟨.inl rfl, (List.forall_mem_nil _)⟩)) ?_
          refine wpL_done (fun W4 hW4 => ?_)
          clear hW3
          refine (show Code.wp _ _ _ _ _ from ?_)
          refine wp_seq ?_
          refine wp_region_L (W0 := w) [(g1, .cells #[.int .i64 f, .int .i64 t] 41 (0, 0))] (hW4) ?_
          refine lm (v := .pointer (some ⟨g1, 0, none⟩)) rfl rfl ?_
          refine lv (v := .int .i64 f) rfl rfl (yb_loadc (off := 0) rfl (by kernel_rfl) (.head _) Tryd.underlying3 rfl (by kernel_rfl)) ?_
          refine lm (v := .int .i64 x) rfl rfl ?_
          refine lp (v := .bool true) rfl rfl (run_bin rfl (vx := .int .i64 f) (vy := .int .i64 x) (by kernel_rfl) (by kernel_rfl) fun w => run_leqI (decide_eq_true h1) w) ?_
          refine lm (v := .bool true) rfl rfl ?_
          refine lm (v := .int .i64 x) rfl rfl ?_
          refine lm (v := .pointer (some ⟨g1, 1, none⟩)) rfl rfl ?_
          refine lv (v := .int .i64 t) rfl rfl (yb_loadc (off := 1) rfl (by kernel_rfl) (.head _) Tryd.underlying3 rfl (by kernel_rfl)) ?_
          refine lp (v := .bool false) rfl rfl (run_bin rfl (vx := .int .i64 x) (vy := .int .i64 t) (by kernel_rfl) (by kernel_rfl) fun w => run_lssI (decide_eq_false h2) w) ?_
          refine lm (v := .bool false) rfl rfl ?_
          refine wpL_done (fun W5 hW5 => ?_)
          clear hW4
          refine (show Code.wp _ _ _ _ _ from ?_)
          refine wp_cond_false rfl ?_
          refine wp_skip ?_
          refine (show Code.wp _ _ _ _ _ from ?_)
          refine wp_region_L (W0 := w) [(g1, .cells #[.int .i64 f, .int .i64 t] 41 (0, 0))] (hW5) ?_
          refine lp (v := .int .i64 ((k + 1 : Nat) : Int)) rfl rfl (run_bin rfl (vx := .int .i64 (k : Int)) (vy := .int .i64 1) (by kernel_rfl) (by kernel_rfl) fun w => run_addI (z := ((k + 1 : Nat) : Int)) rfl (len_range hlen (by omega)) w) ?_
          refine lm (v := .int .i64 ((k + 1 : Nat) : Int)) rfl rfl ?_
          refine wpL_done (fun W6 hW6 => ?_)
          clear hW5
          go_roundw
          case rel =>
            repeat apply Exists.intro
            exact ⟨⟨k + 1, by omega, by rw [hin]; simp [h2], rfl, ks_none hW6⟩, rfl⟩
          case measure => (show (l.length - intOf (.int .i64 ((k + 1 : Nat) : Int))).toNat < (l.length - intOf (.int .i64 (k : Int))).toNat); simp only [intOf]; omega
      · refine wp_seq ?_
        refine wp_region_L (W0 := w) [] (hKS) ?_
        refine lp (v := .bool true) rfl rfl (run_bin rfl (vx := .int .i64 (k : Int)) (vy := .int .i64 (l.length : Int)) (by kernel_rfl) (by kernel_rfl) fun w => run_lssI (decide_eq_true (by omega)) w) ?_
        refine wpL_done (fun W3 hW3 => ?_)
        refine (show Code.wp _ _ _ _ _ from ?_)
        refine wp_seq ?_
        refine wp_cond_true rfl ?_
        refine wp_skip ?_
        refine (show Code.wp _ _ _ _ _ from ?_)
        refine wp_seq ?_
        refine wp_block ?_
        refine wp_seq ?_
        refine wp_region_L (W0 := w) [] (hW3) ?_
        refine lp (v := .pointer (some ⟨b, off + 2 * k, none⟩)) rfl rfl (run_idxp (b := b) (off := off) (n := l.length) (cap := cap) (k := k) rfl (by kernel_rfl) hp (by kernel_rfl) hkn) ?_
        refine lv (v := .agg #[.int .i64 f, .int .i64 t]) rfl rfl (yb_load2 rfl (by kernel_rfl) (hcell k (f, t) hget).1 (hcell k (f, t) hget).2 (World.block_lt_of_cell? _ _ (hcell k (f, t) hget).1)) ?_
        refine wpL_new (fun g => .pointer (some ⟨g, 0, none⟩)) (obi := .cells #[.int .i64 0, .int .i64 0] 41 (0, 0)) rfl rfl (fun _ => by kernel_rfl) (fun _ => by simp only [List.setIfInBounds_toArray, List.set_cons_succ, List.set_cons_zero] <;> rfl) fun g1 Bg1 Fg1 => ?_
        try simp only [List.forall_mem_cons] at Fg1
        refine wpL_s [(g1, .cells #[.int .i64 f, .int .i64 t] 41 (0, 0))] rfl rfl (st_span rfl (by kernel_rfl) (by kernel_rfl) (.head _) (by omega) (List.forall_mem_cons.2 ⟨.inl rfl, (List.forall_mem_nil _)⟩)) ?_
        refine wpL_done (fun W4 hW4 => ?_)
        clear hW3
        refine (show Code.wp _ _ _ _ _ from ?_)
        refine wp_seq ?_
        refine wp_region_L (W0 := w) [(g1, .cells #[.int .i64 f, .int .i64 t] 41 (0, 0))] (hW4) ?_
        refine lm (v := .pointer (some ⟨g1, 0, none⟩)) rfl rfl ?_
        refine lv (v := .int .i64 f) rfl rfl (yb_loadc (off := 0) rfl (by kernel_rfl) (.head _) Tryd.underlying3 rfl (by kernel_rfl)) ?_
        refine lm (v := .int .i64 x) rfl rfl ?_
        refine lp (v := .bool false) rfl rfl (run_bin rfl (vx := .int .i64 f) (vy := .int .i64 x) (by kernel_rfl) (by kernel_rfl) fun w => run_leqI (decide_eq_false h1) w) ?_
        refine lm (v := .bool false) rfl rfl ?_
        refine ln rfl ?_
        refine ln rfl ?_
        refine ln rfl ?_
        refine ln rfl ?_
        refine lm (v := .bool false) rfl rfl ?_
        refine wpL_done (fun W5 hW5 => ?_)
        clear hW4
        refine (show Code.wp _ _ _ _ _ from ?_)
        refine wp_cond_false rfl ?_
        refine wp_skip ?_
        refine (show Code.wp _ _ _ _ _ from ?_)
        refine wp_region_L (W0 := w) [(g1, .cells #[.int .i64 f, .int .i64 t] 41 (0, 0))] (hW5) ?_
        refine lp (v := .int .i64 ((k + 1 : Nat) : Int)) rfl rfl (run_bin rfl (vx := .int .i64 (k : Int)) (vy := .int .i64 1) (by kernel_rfl) (by kernel_rfl) fun w => run_addI (z := ((k + 1 : Nat) : Int)) rfl (len_range hlen (by omega)) w) ?_
        refine lm (v := .int .i64 ((k + 1 : Nat) : Int)) rfl rfl ?_
        refine wpL_done (fun W6 hW6 => ?_)
        clear hW5
        go_roundw
        case rel =>
          repeat apply Exists.intro
          exact ⟨⟨k + 1, by omega, by rw [hin]; simp [h1], rfl, ks_none hW6⟩, rfl⟩
        case measure => (show (l.length - intOf (.int .i64 ((k + 1 : Nat) : Int))).toNat < (l.length - intOf (.int .i64 (k : Int))).toNat); simp only [intOf]; omega
    · rw [show inL l x = false from by rw [hin, List.drop_eq_nil_of_le (by omega)]; rfl]
      refine wp_seq ?_
      refine wp_region_L (W0 := w) [] (hKS) ?_
      refine lp (v := .bool false) rfl rfl (run_bin rfl (vx := .int .i64 (k : Int)) (vy := .int .i64 (l.length : Int)) (by kernel_rfl) (by kernel_rfl) fun w => run_lssI (decide_eq_false (by omega)) w) ?_
      refine wpL_done (fun W3 hW3 => ?_)
      refine (show Code.wp _ _ _ _ _ from ?_)
      refine wp_seq ?_
      refine wp_cond_false rfl ?_
      refine wp_exit ?_
      refine (show Code.wp _ _ _ _ _ from ?_)
      refine wp_seq ?_
      refine wp_region_L (W0 := w) [] (hW3) ?_
      refine lm (v := .bool false) rfl rfl ?_
      refine wpL_done (fun W4 hW4 => ?_)
      clear hW3
      refine (show Code.wp _ _ _ _ _ from ?_)
      refine wp_ret ?_
      try simp only [inBlock_ret, then_ret]
      go_ret
      exact ⟨rfl, hW4.1⟩
end Go.Proofs.YtjmcelgdjpdacaaDoor
namespace Go.Proofs.YtjmcelgdjpdacaaDoor
open Go.RowKit Tw
open Go
set_option maxRecDepth 100000 in
set_option maxHeartbeats 8000000 in
theorem port_blk (w : World) : Calls Tryd.prog 46 #[] w fun e w' => ∃ g cap cur h, e = .returned (.agg #[.slice (some ⟨g, 0, none⟩) 5 cap, .slice (some ⟨h, 0, none⟩) 1 1]) ∧ w'.heap[g]? = some (.cells cur 41 (0, 0)) ∧ Row cur cap 5 (flat portW) ∧ w'.heap[h]? = some (.cells #[.int .i64 1800, .int .i64 2000] 41 (0, 0)) ∧ Below w.heap.size w w' := by
  go_enter Tryd.func46, Tryd.ntmps46
  refine wp_seq ?_
  refine wp_region_L (W0 := w) [] (KS.start w) ?_
  refine wpL_new (fun g => .pointer (some ⟨g, 0, none⟩)) (obi := .cells #[.slice none 0 0, .slice none 0 0] 24 (0, 0)) rfl rfl (fun _ => by kernel_rfl) (fun _ => by simp only [List.setIfInBounds_toArray, List.set_cons_succ, List.set_cons_zero] <;> rfl) fun g1 Bg1 Fg1 => ?_
  try simp only [List.forall_mem_cons] at Fg1
  refine wpL_done (fun W1 hW1 => ?_)
  refine (show Code.wp _ _ _ _ _ from ?_)
  refine wp_seq ?_
  refine wp_region_L (W0 := w) [(g1, .cells #[.slice none 0 0, .slice none 0 0] 24 (0, 0))] (hW1) ?_
  refine lm (v := .slice none 0 0) rfl rfl ?_
  refine wpL_done (fun W2 hW2 => ?_)
  clear hW1
  refine (show Code.wp _ _ _ _ _ from ?_)
  refine wp_seq ?_
  refine wp_seq ?_
  refine wp_region_L (W0 := w) [(g1, .cells #[.slice none 0 0, .slice none 0 0] 24 (0, 0))] (hW2) ?_
  refine lm (v := .int .i64 0) rfl rfl ?_
  refine wpL_done (fun W3 hW3 => ?_)
  clear hW2
  refine (show Code.wp _ _ _ _ _ from ?_)
  refine wp_block ?_
  refine wp_loop_rounds 6 ?_
  refine (show Code.wp _ _ _ _ _ from ?_)
  refine wp_seq ?_
  refine wp_seq ?_
  refine wp_region_L (W0 := w) [(g1, .cells #[.slice none 0 0, .slice none 0 0] 24 (0, 0))] (hW3) ?_
  refine lm (v := .int .i64 0) rfl rfl ?_
  refine lm (v := .bool true) rfl rfl ?_
  refine wpL_done (fun W4 hW4 => ?_)
  clear hW3
  refine (show Code.wp _ _ _ _ _ from ?_)
  refine wp_cond_true rfl ?_
  refine wp_skip ?_
  refine (show Code.wp _ _ _ _ _ from ?_)
  refine wp_seq ?_
  refine wp_block ?_
  refine wp_region_L (W0 := w) [(g1, .cells #[.slice none 0 0, .slice none 0 0] 24 (0, 0))] (hW4) ?_
  refine lm (v := .slice none 0 0) rfl rfl ?_
  refine lm (v := .int .i64 0) rfl rfl ?_
  refine lm (v := .int .i64 0) rfl rfl ?_
  refine lm (v := .int .i64 360) rfl rfl ?_
  refine lm (v := .int .i64 0) rfl rfl ?_
  refine lm (v := .int .i64 0) rfl rfl ?_
  refine lm (v := .int .i64 1320) rfl rfl ?_
  refine lm (v := .agg #[.int .i64 360, .int .i64 1320]) rfl rfl ?_
  refine wpL_new (fun g => .slice (some ⟨g, 0, none⟩) 1 1) (obi := .cells #[.int .i64 360, .int .i64 1320] 41 (0, 0)) rfl rfl (fun _ => by kernel_rfl) (fun _ => by simp only [List.setIfInBounds_toArray, List.set_cons_succ, List.set_cons_zero] <;> rfl) fun g2 Bg2 Fg2 => ?_
  try simp only [List.forall_mem_cons] at Fg2
  refine wpL_g (AppG w [(g2, .cells #[.int .i64 360, .int .i64 1320] 41 (0, 0)), (g1, .cells #[.slice none 0 0, .slice none 0 0] 24 (0, 0))] 1 [.int .i64 360, .int .i64 1320]) rfl (by kernel_rfl) (app_nil rfl (by kernel_rfl) (by kernel_rfl) (.head _)) (fun _ => by simp only [List.setIfInBounds_toArray, List.set_cons_succ, List.set_cons_zero] <;> rfl) ?_
  rintro v K9 ⟨ga1, cap1, cur1, rfl, B1, F1, R1, rfl⟩
  simp only [List.forall_mem_cons] at F1
  refine lm (v := .slice (some ⟨ga1, 0, none⟩) 1 cap1) rfl rfl ?_
  refine wpL_done (fun W5 hW5 => ?_)
  clear hW4
  refine (show Code.wp _ _ _ _ _ from ?_)
  refine wp_region_L (W0 := w) [(ga1, .cells cur1 41 (0, 0)), (g2, .cells #[.int .i64 360, .int .i64 1320] 41 (0, 0)), (g1, .cells #[.slice none 0 0, .slice none 0 0] 24 (0, 0))] (hW5) ?_
  refine lm (v := .int .i64 0) rfl rfl ?_
  refine lm (v := .int .i64 1) rfl rfl ?_
  refine lm (v := .int .i64 1) rfl rfl ?_
  refine wpL_done (fun W6 hW6 => ?_)
  clear hW5
  refine (show Code.wp _ _ _ _ _ from ?_)
  refine wp_seq ?_
  refine wp_seq ?_
  refine wp_region_L (W0 := w) [(ga1, .cells cur1 41 (0, 0)), (g2, .cells #[.int .i64 360, .int .i64 1320] 41 (0, 0)), (g1, .cells #[.slice none 0 0, .slice none 0 0] 24 (0, 0))] (hW6) ?_
  refine lm (v := .int .i64 1) rfl rfl ?_
  refine lm (v := .bool true) rfl rfl ?_
  refine wpL_done (fun W7 hW7 => ?_)
  clear hW6
  refine (show Code.wp _ _ _ _ _ from ?_)
  refine wp_cond_true rfl ?_
  refine wp_skip ?_
  refine (show Code.wp _ _ _ _ _ from ?_)
  refine wp_seq ?_
  refine wp_block ?_
  refine wp_region_L (W0 := w) [(ga1, .cells cur1 41 (0, 0)), (g2, .cells #[.int .i64 360, .int .i64 1320] 41 (0, 0)), (g1, .cells #[.slice none 0 0, .slice none 0 0] 24 (0, 0))] (hW7) ?_
  refine lm (v := .slice (some ⟨ga1, 0, none⟩) 1 cap1) rfl rfl ?_
  refine lm (v := .int .i64 1) rfl rfl ?_
  refine lm (v := .int .i64 1440) rfl rfl ?_
  refine lm (v := .int .i64 1800) rfl rfl ?_
  refine lm (v := .int .i64 1) rfl rfl ?_
  refine lm (v := .int .i64 1440) rfl rfl ?_
  refine lm (v := .int .i64 2760) rfl rfl ?_
  refine lm (v := .agg #[.int .i64 1800, .int .i64 2760]) rfl rfl ?_
  refine wpL_new (fun g => .slice (some ⟨g, 0, none⟩) 1 1) (obi := .cells #[.int .i64 1800, .int .i64 2760] 41 (0, 0)) rfl rfl (fun _ => by kernel_rfl) (fun _ => by simp only [List.setIfInBounds_toArray, List.set_cons_succ, List.set_cons_zero] <;> rfl) fun g3 Bg3 Fg3 => ?_
  try simp only [List.forall_mem_cons] at Fg3
  refine wpL_g (AppG w [(g3, .cells #[.int .i64 1800, .int .i64 2760] 41 (0, 0)), (g2, .cells #[.int .i64 360, .int .i64 1320] 41 (0, 0)), (g1, .cells #[.slice none 0 0, .slice none 0 0] 24 (0, 0))] (1 + 1) ([.int .i64 360, .int .i64 1320] ++ [.int .i64 1800, .int .i64 2760])) rfl (by kernel_rfl) (app_row rfl (by kernel_rfl) (by kernel_rfl) (.head _) (.tail _ (.head _)) B1 R1 (by omega) ⟨rfl, rfl⟩ (List.forall_mem_cons.2 ⟨⟨(.head _), (Ne.symm Fg3.1)⟩, (List.forall_mem_cons.2 ⟨⟨(.tail _ (.tail _ (.head _))), F1.1⟩, (List.forall_mem_cons.2 ⟨⟨(.tail _ (.tail _ (.tail _ (.head _)))), F1.2.1⟩, (List.forall_mem_nil _)⟩)⟩)⟩)) (fun _ => by simp only [List.setIfInBounds_toArray, List.set_cons_succ, List.set_cons_zero] <;> rfl) ?_
  rintro v K9 ⟨ga2, cap2, cur2, rfl, B2, F2, R2, rfl⟩
  simp only [List.forall_mem_cons] at F2
  refine lm (v := .slice (some ⟨ga2, 0, none⟩) (1 + 1) cap2) rfl rfl ?_
  refine wpL_done (fun W8 hW8 => ?_)
  clear hW7
  refine (show Code.wp _ _ _ _ _ from ?_)
  refine wp_region_L (W0 := w) [(ga2, .cells cur2 41 (0, 0)), (g3, .cells #[.int .i64 1800, .int .i64 2760] 41 (0, 0)), (g2, .cells #[.int .i64 360, .int .i64 1320] 41 (0, 0)), (g1, .cells #[.slice none 0 0, .slice none 0 0] 24 (0, 0))] (hW8) ?_
  refine lm (v := .int .i64 1) rfl rfl ?_
  refine lm (v := .int .i64 2) rfl rfl ?_
  refine lm (v := .int .i64 2) rfl rfl ?_
  refine wpL_done (fun W9 hW9 => ?_)
  clear hW8
  refine (show Code.wp _ _ _ _ _ from ?_)
  refine wp_seq ?_
  refine wp_seq ?_
  refine wp_region_L (W0 := w) [(ga2, .cells cur2 41 (0, 0)), (g3, .cells #[.int .i64 1800, .int .i64 2760] 41 (0, 0)), (g2, .cells #[.int .i64 360, .int .i64 1320] 41 (0, 0)), (g1, .cells #[.slice none 0 0, .slice none 0 0] 24 (0, 0))] (hW9) ?_
  refine lm (v := .int .i64 2) rfl rfl ?_
  refine lm (v := .bool true) rfl rfl ?_
  refine wpL_done (fun W10 hW10 => ?_)
  clear hW9
  refine (show Code.wp _ _ _ _ _ from ?_)
  refine wp_cond_true rfl ?_
  refine wp_skip ?_
  refine (show Code.wp _ _ _ _ _ from ?_)
  refine wp_seq ?_
  refine wp_block ?_
  refine wp_region_L (W0 := w) [(ga2, .cells cur2 41 (0, 0)), (g3, .cells #[.int .i64 1800, .int .i64 2760] 41 (0, 0)), (g2, .cells #[.int .i64 360, .int .i64 1320] 41 (0, 0)), (g1, .cells #[.slice none 0 0, .slice none 0 0] 24 (0, 0))] (hW10) ?_
  refine lm (v := .slice (some ⟨ga2, 0, none⟩) (1 + 1) cap2) rfl rfl ?_
  refine lm (v := .int .i64 2) rfl rfl ?_
  refine lm (v := .int .i64 2880) rfl rfl ?_
  refine lm (v := .int .i64 3240) rfl rfl ?_
  refine lm (v := .int .i64 2) rfl rfl ?_
  refine lm (v := .int .i64 2880) rfl rfl ?_
  refine lm (v := .int .i64 4200) rfl rfl ?_
  refine lm (v := .agg #[.int .i64 3240, .int .i64 4200]) rfl rfl ?_
  refine wpL_new (fun g => .slice (some ⟨g, 0, none⟩) 1 1) (obi := .cells #[.int .i64 3240, .int .i64 4200] 41 (0, 0)) rfl rfl (fun _ => by kernel_rfl) (fun _ => by simp only [List.setIfInBounds_toArray, List.set_cons_succ, List.set_cons_zero] <;> rfl) fun g4 Bg4 Fg4 => ?_
  try simp only [List.forall_mem_cons] at Fg4
  refine wpL_g (AppG w [(g4, .cells #[.int .i64 3240, .int .i64 4200] 41 (0, 0)), (g3, .cells #[.int .i64 1800, .int .i64 2760] 41 (0, 0)), (g2, .cells #[.int .i64 360, .int .i64 1320] 41 (0, 0)), (g1, .cells #[.slice none 0 0, .slice none 0 0] 24 (0, 0))] ((1 + 1) + 1) (([.int .i64 360, .int .i64 1320] ++ [.int .i64 1800, .int .i64 2760]) ++ [.int .i64 3240, .int .i64 4200])) rfl (by kernel_rfl) (app_row rfl (by kernel_rfl) (by kernel_rfl) (.head _) (.tail _ (.head _)) B2 R2 (by omega) ⟨rfl, rfl⟩ (List.forall_mem_cons.2 ⟨⟨(.head _), (Ne.symm Fg4.1)⟩, (List.forall_mem_cons.2 ⟨⟨(.tail _ (.tail _ (.head _))), F2.1⟩, (List.forall_mem_cons.2 ⟨⟨(.tail _ (.tail _ (.tail _ (.head _)))), F2.2.1⟩, (List.forall_mem_cons.2 ⟨⟨(.tail _ (.tail _ (.tail _ (.tail _ (.head _))))), F2.2.2.1⟩, (List.forall_mem_nil _)⟩)⟩)⟩)⟩)) (fun _ => by simp only [List.setIfInBounds_toArray, List.set_cons_succ, List.set_cons_zero] <;> rfl) ?_
  rintro v K9 ⟨ga3, cap3, cur3, rfl, B3, F3, R3, rfl⟩
  simp only [List.forall_mem_cons] at F3
  refine lm (v := .slice (some ⟨ga3, 0, none⟩) ((1 + 1) + 1) cap3) rfl rfl ?_
  refine wpL_done (fun W11 hW11 => ?_)
  clear hW10
  refine (show Code.wp _ _ _ _ _ from ?_)
  refine wp_region_L (W0 := w) [(ga3, .cells cur3 41 (0, 0)), (g4, .cells #[.int .i64 3240, .int .i64 4200] 41 (0, 0)), (g3, .cells #[.int .i64 1800, .int .i64 2760] 41 (0, 0)), (g2, .cells #[.int .i64 360, .int .i64 1320] 41 (0, 0)), (g1, .cells #[.slice none 0 0, .slice none 0 0] 24 (0, 0))] (hW11) ?_
  refine lm (v := .int .i64 2) rfl rfl ?_
  refine lm (v := .int .i64 3) rfl rfl ?_
  refine lm (v := .int .i64 3) rfl rfl ?_
  refine wpL_done (fun W12 hW12 => ?_)
  clear hW11
  refine (show Code.wp _ _ _ _ _ from ?_)
  refine wp_seq ?_
  refine wp_seq ?_
  refine wp_region_L (W0 := w) [(ga3, .cells cur3 41 (0, 0)), (g4, .cells #[.int .i64 3240, .int .i64 4200] 41 (0, 0)), (g3, .cells #[.int .i64 1800, .int .i64 2760] 41 (0, 0)), (g2, .cells #[.int .i64 360, .int .i64 1320] 41 (0, 0)), (g1, .cells #[.slice none 0 0, .slice none 0 0] 24 (0, 0))] (hW12) ?_
  refine lm (v := .int .i64 3) rfl rfl ?_
  refine lm (v := .bool true) rfl rfl ?_
  refine wpL_done (fun W13 hW13 => ?_)
  clear hW12
  refine (show Code.wp _ _ _ _ _ from ?_)
  refine wp_cond_true rfl ?_
  refine wp_skip ?_
  refine (show Code.wp _ _ _ _ _ from ?_)
  refine wp_seq ?_
  refine wp_block ?_
  refine wp_region_L (W0 := w) [(ga3, .cells cur3 41 (0, 0)), (g4, .cells #[.int .i64 3240, .int .i64 4200] 41 (0, 0)), (g3, .cells #[.int .i64 1800, .int .i64 2760] 41 (0, 0)), (g2, .cells #[.int .i64 360, .int .i64 1320] 41 (0, 0)), (g1, .cells #[.slice none 0 0, .slice none 0 0] 24 (0, 0))] (hW13) ?_
  refine lm (v := .slice (some ⟨ga3, 0, none⟩) ((1 + 1) + 1) cap3) rfl rfl ?_
  refine lm (v := .int .i64 3) rfl rfl ?_
  refine lm (v := .int .i64 4320) rfl rfl ?_
  refine lm (v := .int .i64 4680) rfl rfl ?_
  refine lm (v := .int .i64 3) rfl rfl ?_
  refine lm (v := .int .i64 4320) rfl rfl ?_
  refine lm (v := .int .i64 5640) rfl rfl ?_
  refine lm (v := .agg #[.int .i64 4680, .int .i64 5640]) rfl rfl ?_
  refine wpL_new (fun g => .slice (some ⟨g, 0, none⟩) 1 1) (obi := .cells #[.int .i64 4680, .int .i64 5640] 41 (0, 0)) rfl rfl (fun _ => by kernel_rfl) (fun _ => by simp only [List.setIfInBounds_toArray, List.set_cons_succ, List.set_cons_zero] <;> rfl) fun g5 Bg5 Fg5 => ?_
  try simp only [List.forall_mem_cons] at Fg5
  refine wpL_g (AppG w [(g5, .cells #[.int .i64 4680, .int .i64 5640] 41 (0, 0)), (g4, .cells #[.int .i64 3240, .int .i64 4200] 41 (0, 0)), (g3, .cells #[.int .i64 1800, .int .i64 2760] 41 (0, 0)), (g2, .cells #[.int .i64 360, .int .i64 1320] 41 (0, 0)), (g1, .cells #[.slice none 0 0, .slice none 0 0] 24 (0, 0))] (((1 + 1) + 1) + 1) ((([.int .i64 360, .int .i64 1320] ++ [.int .i64 1800, .int .i64 2760]) ++ [.int .i64 3240, .int .i64 4200]) ++ [.int .i64 4680, .int .i64 5640])) rfl (by kernel_rfl) (app_row rfl (by kernel_rfl) (by kernel_rfl) (.head _) (.tail _ (.head _)) B3 R3 (by omega) ⟨rfl, rfl⟩ (List.forall_mem_cons.2 ⟨⟨(.head _), (Ne.symm Fg5.1)⟩, (List.forall_mem_cons.2 ⟨⟨(.tail _ (.tail _ (.head _))), F3.1⟩, (List.forall_mem_cons.2 ⟨⟨(.tail _ (.tail _ (.tail _ (.head _)))), F3.2.1⟩, (List.forall_mem_cons.2 ⟨⟨(.tail _ (.tail _ (.tail _ (.tail _ (.head _))))), F3.2.2.1⟩, (List.forall_mem_cons.2 ⟨⟨(.tail _ (.tail _ (.tail _ (.tail _ (.tail _ (.head _)))))), F3.2.2.2.1⟩, (List.forall_mem_nil _)⟩)⟩)⟩)⟩)⟩)) (fun _ => by simp only [List.setIfInBounds_toArray, List.set_cons_succ, List.set_cons_zero] <;> rfl) ?_
  rintro v K9 ⟨ga4, cap4, cur4, rfl, B4, F4, R4, rfl⟩
  simp only [List.forall_mem_cons] at F4
  refine lm (v := .slice (some ⟨ga4, 0, none⟩) (((1 + 1) + 1) + 1) cap4) rfl rfl ?_
  refine wpL_done (fun W14 hW14 => ?_)
  clear hW13
  refine (show Code.wp _ _ _ _ _ from ?_)
  refine wp_region_L (W0 := w) [(ga4, .cells cur4 41 (0, 0)), (g5, .cells #[.int .i64 4680, .int .i64 5640] 41 (0, 0)), (g4, .cells #[.int .i64 3240, .int .i64 4200] 41 (0, 0)), (g3, .cells #[.int .i64 1800, .int .i64 2760] 41 (0, 0)), (g2, .cells #[.int .i64 360, .int .i64 1320] 41 (0, 0)), (g1, .cells #[.slice none 0 0, .slice none 0 0] 24 (0, 0))] (hW14) ?_
  refine lm (v := .int .i64 3) rfl rfl ?_
  refine lm (v := .int .i64 4) rfl rfl ?_
  refine lm (v := .int .i64 4) rfl rfl ?_
  refine wpL_done (fun W15 hW15 => ?_)
  clear hW14
  refine (show Code.wp _ _ _ _ _ from ?_)
  refine wp_seq ?_
  refine wp_seq ?_
  refine wp_region_L (W0 := w) [(ga4, .cells cur4 41 (0, 0)), (g5, .cells #[.int .i64 4680, .int .i64 5640] 41 (0, 0)), (g4, .cells #[.int .i64 3240, .int .i64 4200] 41 (0, 0)), (g3, .cells #[.int .i64 1800, .int .i64 2760] 41 (0, 0)), (g2, .cells #[.int .i64 360, .int .i64 1320] 41 (0, 0)), (g1, .cells #[.slice none 0 0, .slice none 0 0] 24 (0, 0))] (hW15) ?_
  refine lm (v := .int .i64 4) rfl rfl ?_
  refine lm (v := .bool true) rfl rfl ?_
  refine wpL_done (fun W16 hW16 => ?_)
  clear hW15
  refine (show Code.wp _ _ _ _ _ from ?_)
  refine wp_cond_true rfl ?_
  refine wp_skip ?_
  refine (show Code.wp _ _ _ _ _ from ?_)
  refine wp_seq ?_
  refine wp_block ?_
  refine wp_region_L (W0 := w) [(ga4, .cells cur4 41 (0, 0)), (g5, .cells #[.int .i64 4680, .int .i64 5640] 41 (0, 0)), (g4, .cells #[.int .i64 3240, .int .i64 4200] 41 (0, 0)), (g3, .cells #[.int .i64 1800, .int .i64 2760] 41 (0, 0)), (g2, .cells #[.int .i64 360, .int .i64 1320] 41 (0, 0)), (g1, .cells #[.slice none 0 0, .slice none 0 0] 24 (0, 0))] (hW16) ?_
  refine lm (v := .slice (some ⟨ga4, 0, none⟩) (((1 + 1) + 1) + 1) cap4) rfl rfl ?_
  refine lm (v := .int .i64 4) rfl rfl ?_
  refine lm (v := .int .i64 5760) rfl rfl ?_
  refine lm (v := .int .i64 6120) rfl rfl ?_
  refine lm (v := .int .i64 4) rfl rfl ?_
  refine lm (v := .int .i64 5760) rfl rfl ?_
  refine lm (v := .int .i64 7080) rfl rfl ?_
  refine lm (v := .agg #[.int .i64 6120, .int .i64 7080]) rfl rfl ?_
  refine wpL_new (fun g => .slice (some ⟨g, 0, none⟩) 1 1) (obi := .cells #[.int .i64 6120, .int .i64 7080] 41 (0, 0)) rfl rfl (fun _ => by kernel_rfl) (fun _ => by simp only [List.setIfInBounds_toArray, List.set_cons_succ, List.set_cons_zero] <;> rfl) fun g6 Bg6 Fg6 => ?_
  try simp only [List.forall_mem_cons] at Fg6
  refine wpL_g (AppG w [(g6, .cells #[.int .i64 6120, .int .i64 7080] 41 (0, 0)), (g5, .cells #[.int .i64 4680, .int .i64 5640] 41 (0, 0)), (g4, .cells #[.int .i64 3240, .int .i64 4200] 41 (0, 0)), (g3, .cells #[.int .i64 1800, .int .i64 2760] 41 (0, 0)), (g2, .cells #[.int .i64 360, .int .i64 1320] 41 (0, 0)), (g1, .cells #[.slice none 0 0, .slice none 0 0] 24 (0, 0))] ((((1 + 1) + 1) + 1) + 1) (((([.int .i64 360, .int .i64 1320] ++ [.int .i64 1800, .int .i64 2760]) ++ [.int .i64 3240, .int .i64 4200]) ++ [.int .i64 4680, .int .i64 5640]) ++ [.int .i64 6120, .int .i64 7080])) rfl (by kernel_rfl) (app_row rfl (by kernel_rfl) (by kernel_rfl) (.head _) (.tail _ (.head _)) B4 R4 (by omega) ⟨rfl, rfl⟩ (List.forall_mem_cons.2 ⟨⟨(.head _), (Ne.symm Fg6.1)⟩, (List.forall_mem_cons.2 ⟨⟨(.tail _ (.tail _ (.head _))), F4.1⟩, (List.forall_mem_cons.2 ⟨⟨(.tail _ (.tail _ (.tail _ (.head _)))), F4.2.1⟩, (List.forall_mem_cons.2 ⟨⟨(.tail _ (.tail _ (.tail _ (.tail _ (.head _))))), F4.2.2.1⟩, (List.forall_mem_cons.2 ⟨⟨(.tail _ (.tail _ (.tail _ (.tail _ (.tail _ (.head _)))))), F4.2.2.2.1⟩, (List.forall_mem_cons.2 ⟨⟨(.tail _ (.tail _ (.tail _ (.tail _ (.tail _ (.tail _ (.head _))))))), F4.2.2.2.2.1⟩, (List.forall_mem_nil _)⟩)⟩)⟩)⟩)⟩)⟩)) (fun _ => by simp only [List.setIfInBounds_toArray, List.set_cons_succ, List.set_cons_zero] <;> rfl) ?_
  rintro v K9 ⟨ga5, cap5, cur5, rfl, B5, F5, R5, rfl⟩
  simp only [List.forall_mem_cons] at F5
  refine lm (v := .slice (some ⟨ga5, 0, none⟩) ((((1 + 1) + 1) + 1) + 1) cap5) rfl rfl ?_
  refine wpL_done (fun W17 hW17 => ?_)
  clear hW16
  refine (show Code.wp _ _ _ _ _ from ?_)
  refine wp_region_L (W0 := w) [(ga5, .cells cur5 41 (0, 0)), (g6, .cells #[.int .i64 6120, .int .i64 7080] 41 (0, 0)), (g5, .cells #[.int .i64 4680, .int .i64 5640] 41 (0, 0)), (g4, .cells #[.int .i64 3240, .int .i64 4200] 41 (0, 0)), (g3, .cells #[.int .i64 1800, .int .i64 2760] 41 (0, 0)), (g2, .cells #[.int .i64 360, .int .i64 1320] 41 (0, 0)), (g1, .cells #[.slice none 0 0, .slice none 0 0] 24 (0, 0))] (hW17) ?_
  refine lm (v := .int .i64 4) rfl rfl ?_
  refine lm (v := .int .i64 5) rfl rfl ?_
  refine lm (v := .int .i64 5) rfl rfl ?_
  refine wpL_done (fun W18 hW18 => ?_)
  clear hW17
  refine (show Code.wp _ _ _ _ _ from ?_)
  refine wp_seq ?_
  refine wp_seq ?_
  refine wp_region_L (W0 := w) [(ga5, .cells cur5 41 (0, 0)), (g6, .cells #[.int .i64 6120, .int .i64 7080] 41 (0, 0)), (g5, .cells #[.int .i64 4680, .int .i64 5640] 41 (0, 0)), (g4, .cells #[.int .i64 3240, .int .i64 4200] 41 (0, 0)), (g3, .cells #[.int .i64 1800, .int .i64 2760] 41 (0, 0)), (g2, .cells #[.int .i64 360, .int .i64 1320] 41 (0, 0)), (g1, .cells #[.slice none 0 0, .slice none 0 0] 24 (0, 0))] (hW18) ?_
  refine lm (v := .int .i64 5) rfl rfl ?_
  refine lm (v := .bool false) rfl rfl ?_
  refine wpL_done (fun W19 hW19 => ?_)
  clear hW18
  refine (show Code.wp _ _ _ _ _ from ?_)
  refine wp_cond_false rfl ?_
  refine wp_exit ?_
  refine (show Code.wp _ _ _ _ _ from ?_)
  refine wp_seq ?_
  refine wp_region_L (W0 := w) [(ga5, .cells cur5 41 (0, 0)), (g6, .cells #[.int .i64 6120, .int .i64 7080] 41 (0, 0)), (g5, .cells #[.int .i64 4680, .int .i64 5640] 41 (0, 0)), (g4, .cells #[.int .i64 3240, .int .i64 4200] 41 (0, 0)), (g3, .cells #[.int .i64 1800, .int .i64 2760] 41 (0, 0)), (g2, .cells #[.int .i64 360, .int .i64 1320] 41 (0, 0)), (g1, .cells #[.slice none 0 0, .slice none 0 0] 24 (0, 0))] (hW19) ?_
  refine lm (v := .slice (some ⟨ga5, 0, none⟩) ((((1 + 1) + 1) + 1) + 1) cap5) rfl rfl ?_
  refine lm (v := .agg #[.int .i64 1800, .int .i64 2000]) rfl rfl ?_
  refine wpL_new (fun g => .slice (some ⟨g, 0, none⟩) 1 1) (obi := .cells #[.int .i64 1800, .int .i64 2000] 41 (0, 0)) rfl rfl (fun _ => by kernel_rfl) (fun _ => by simp only [List.setIfInBounds_toArray, List.set_cons_succ, List.set_cons_zero] <;> rfl) fun g7 Bg7 Fg7 => ?_
  try simp only [List.forall_mem_cons] at Fg7
  refine lm (v := .agg #[.slice (some ⟨ga5, 0, none⟩) ((((1 + 1) + 1) + 1) + 1) cap5, .slice (some ⟨g7, 0, none⟩) 1 1]) rfl rfl ?_
  refine wpL_s [(g7, .cells #[.int .i64 1800, .int .i64 2000] 41 (0, 0)), (ga5, .cells cur5 41 (0, 0)), (g6, .cells #[.int .i64 6120, .int .i64 7080] 41 (0, 0)), (g5, .cells #[.int .i64 4680, .int .i64 5640] 41 (0, 0)), (g4, .cells #[.int .i64 3240, .int .i64 4200] 41 (0, 0)), (g3, .cells #[.int .i64 1800, .int .i64 2760] 41 (0, 0)), (g2, .cells #[.int .i64 360, .int .i64 1320] 41 (0, 0)), (g1, .cells #[.slice (some ⟨ga5, 0, none⟩) ((((1 + 1) + 1) + 1) + 1) cap5, .slice (some ⟨g7, 0, none⟩) 1 1] 24 (0, 0))] rfl rfl (st_row (v := .agg #[.slice (some ⟨ga5, 0, none⟩) ((((1 + 1) + 1) + 1) + 1) cap5, .slice (some ⟨g7, 0, none⟩) 1 1]) (off := 0) rfl (by kernel_rfl) (by kernel_rfl) (.tail _ (.tail _ (.tail _ (.tail _ (.tail _ (.tail _ (.tail _ (.head _)))))))) (by omega) (by rw [size_cal]; rfl) (by simp [Value.cells]) (by intro v hv; simp [Value.cells] at hv; rcases hv with rfl | rfl <;> rfl) rfl (List.forall_mem_cons.2 ⟨.inr ⟨(.head _), (Ne.symm Fg7.2.2.2.2.2.2.1)⟩, (List.forall_mem_cons.2 ⟨.inr ⟨(.tail _ (.head _)), (Ne.symm F5.2.2.2.2.2.1)⟩, (List.forall_mem_cons.2 ⟨.inr ⟨(.tail _ (.tail _ (.head _))), (Ne.symm Fg6.2.2.2.2.2.1)⟩, (List.forall_mem_cons.2 ⟨.inr ⟨(.tail _ (.tail _ (.tail _ (.head _)))), (Ne.symm Fg5.2.2.2.2.1)⟩, (List.forall_mem_cons.2 ⟨.inr ⟨(.tail _ (.tail _ (.tail _ (.tail _ (.head _))))), (Ne.symm Fg4.2.2.2.1)⟩, (List.forall_mem_cons.2 ⟨.inr ⟨(.tail _ (.tail _ (.tail _ (.tail _ (.tail _ (.head _)))))), (Ne.symm Fg3.2.2.1)⟩, (List.forall_mem_cons.2 ⟨.inr ⟨(.tail _ (.tail _ (.tail _ (.tail _ (.tail _ (.tail _ (.head _))))))), (Ne.symm Fg2.1)⟩, (List.forall_mem_cons.2 ⟨.inl rfl, (List.forall_mem_nil _)⟩)⟩)⟩)⟩)⟩)⟩)⟩)⟩)) ?_
  refine wpL_done (fun W20 hW20 => ?_)
  clear hW19
  refine (show Code.wp _ _ _ _ _ from ?_)
  refine wp_ret ?_
  try simp only [inBlock_ret, then_ret]
  exact bodyPost_ret (res_cell rfl rfl (hW20.2 _ (.tail _ (.tail _ (.tail _ (.tail _ (.tail _ (.tail _ (.tail _ (.head _))))))))) Tryd.underlying24 rfl (by rw [size_cal]; rfl)) rfl ⟨ga5, cap5, cur5, g7, rfl, hW20.2 _ (.tail _ (.head _)), R5, hW20.2 _ (.head _), hW20.1⟩
theorem port_g {w W : World} {K : List (Nat × Obj)} (hW : KS w K W) : Calls Tryd.prog 46 #[] W fun e w' => ∃ v K', e = .returned v ∧ KS w K' w' ∧ GP w K v K' :=
  (port_blk W).mono fun e w' ⟨g, cap, cur, h, he, hg, hR, hh, hb⟩ => by
    refine ⟨_, (g, .cells cur 41 (0, 0)) :: (h, .cells #[.int .i64 1800, .int .i64 2000] 41 (0, 0)) :: K, he, ⟨(hW.below hb).1, List.forall_mem_cons.2 ⟨hg, List.forall_mem_cons.2 ⟨hh, (hW.below hb).2⟩⟩⟩, _, cap, _, 1, rfl, ?_, ?_, fun _ h => .tail _ (.tail _ h)⟩
    · exact fun W2 h2 => AV.of_row (h2.2 _ (.head _)) hR
    · exact fun W2 h2 => lit_av (m := [(1800, 2000)]) (h2.2 _ (.tail _ (.head _))) (by decide)
end Go.Proofs.YtjmcelgdjpdacaaDoor
namespace Go.Proofs.YtjmcelgdjpdacaaDoor
open Go.RowKit Tw
open Go
set_option maxRecDepth 100000 in
set_option maxHeartbeats 2000000 in
theorem two_any (n : Nat) (hn : n < 100) (w : World) (hE : Env w) : Calls Tryd.prog 71 #[.int .i64 (n : Int)] w fun e w' => e = .returned (strV (two n)) ∧ Below w.heap.size w w' := by
  have HE := Lib.hid hE
  clear hE
  have hln : 1 ≤ (Lib.decDigits (100 + n)).length := dec_pos _
  go_enter Tryd.func71, Tryd.ntmps71
  refine wp_seq ?_
  refine wp_region_L (W0 := w) [] (KS.start w) ?_
  refine lm (v := strV []) rfl rfl ?_
  refine wpL_done (fun W1 hW1 => ?_)
  refine (show Code.wp _ _ _ _ _ from ?_)
  refine wp_seq ?_
  refine wp_region_L (W0 := w) [] (hW1) ?_
  refine lm (v := .int .i64 (n : Int)) rfl rfl ?_
  refine lp (v := .int .i64 ((100 + n : Nat) : Int)) rfl rfl (run_bin rfl (vx := .int .i64 100) (vy := .int .i64 (n : Int)) (by kernel_rfl) (by kernel_rfl) fun w => run_addI (z := ((100 + n : Nat) : Int)) (by omega) (by omega) w) ?_
  refine lv (v := strV (Lib.decDigits (100 + n))) rfl rfl (yb_call (f := 70) (args := #[.int .i64 ((100 + n : Nat) : Int)]) (fun _ => by kernel_rfl) fun W hW => itoa_any (100 + n) (by omega) W (HE.out.keep hW.1)) ?_
  refine lp (v := strV (two n)) rfl rfl (run_sliceS (l := (Lib.decDigits (100 + n))) (k := 1) rfl (by kernel_rfl) (by kernel_rfl) hln) ?_
  refine lm (v := strV (two n)) rfl rfl ?_
  refine wpL_done (fun W2 hW2 => ?_)
  clear hW1
  refine (show Code.wp _ _ _ _ _ from ?_)
  refine wp_ret ?_
  try simp only [inBlock_ret, then_ret]
  go_ret
  exact ⟨rfl, hW2.1⟩
set_option maxRecDepth 100000 in
set_option maxHeartbeats 2000000 in
theorem Text_ok (t : Nat) (ht : t ≤ 100000000) (w : World) (hE : Env w) : Calls Tryd.prog 35 #[.int .i64 (t : Int)] w fun e w' => e = .returned (.tuple #[strV (textS t), .int .i64 0]) ∧ Below w.heap.size w w' := by
  have HE := Lib.hid hE
  clear hE
  have hit := fun W => isTime_any (t : Int) W
  simp only [show isT (t : Int) = true from by simp [isT]; omega] at hit
  have h2 := dec_length 3 (t / 10080) (by omega)
  have h3 := day_len (t % 10080 / 1440)
  have h4 := two_len (n := t % 1440 / 60) (by omega)
  have h5 := two_len (n := t % 1440 % 60) (by omega)
  have hi1 := fun W hW => itoa_any (t / 10080) (by omega) W hW
  have ht1 := fun W hW => two_any (t % 1440 / 60) (by omega) W hW
  have ht2 := fun W hW => two_any (t % 1440 % 60) (by omega) W hW
  have hS : textS t = Lib.decDigits (t / 10080) ++ [32] ++ dayL (t % 10080 / 1440) ++ [32] ++ two (t % 1440 / 60) ++ [58] ++ two (t % 1440 % 60) := rfl
  obtain ⟨la, hla⟩ : ∃ l, Lib.decDigits (t / 10080) = l := ⟨_, rfl⟩
  obtain ⟨ld, hld⟩ : ∃ l, dayL (t % 10080 / 1440) = l := ⟨_, rfl⟩
  obtain ⟨lh, hlh⟩ : ∃ l, two (t % 1440 / 60) = l := ⟨_, rfl⟩
  obtain ⟨lq, hlm⟩ : ∃ l, two (t % 1440 % 60) = l := ⟨_, rfl⟩
  rw [hla, hld, hlh, hlm] at hS
  rw [hla] at h2 hi1
  rw [hld] at h3
  rw [hlh] at h4 ht1
  rw [hlm] at h5 ht2
  obtain ⟨s1, E1⟩ : ∃ s, la ++ [32] = s := ⟨_, rfl⟩
  obtain ⟨s2, E2⟩ : ∃ s, s1 ++ ld = s := ⟨_, rfl⟩
  obtain ⟨s3, E3⟩ : ∃ s, s2 ++ [32] = s := ⟨_, rfl⟩
  obtain ⟨s4, E4⟩ : ∃ s, s3 ++ lh = s := ⟨_, rfl⟩
  obtain ⟨s5, E5⟩ : ∃ s, s4 ++ [58] = s := ⟨_, rfl⟩
  obtain ⟨s6, E6⟩ : ∃ s, s5 ++ lq = s := ⟨_, rfl⟩
  rw [E1, E2, E3, E4, E5, E6] at hS
  have q1 : s1.length ≤ 5 := by rw [← E1]; simp; omega
  have q2 : s2.length ≤ 8 := by rw [← E2]; simp; omega
  have q3 : s3.length ≤ 9 := by rw [← E3]; simp; omega
  have q4 : s4.length ≤ 11 := by rw [← E4]; simp; omega
  have q5 : s5.length ≤ 12 := by rw [← E5]; simp; omega
  rw [hS]
  go_enter Tryd.func35, Tryd.ntmps35
  refine wp_seq ?_
  refine wp_region_L (W0 := w) [] (KS.start w) ?_
  refine lm (v := strV []) rfl rfl ?_
  refine lm (v := .int .i64 0) rfl rfl ?_
  refine wpL_done (fun W1 hW1 => ?_)
  refine (show Code.wp _ _ _ _ _ from ?_)
  refine wp_seq ?_
  refine wp_seq ?_
  refine wp_region_L (W0 := w) [] (hW1) ?_
  refine lm (v := .int .i64 (t : Int)) rfl rfl ?_
  refine lv (v := .bool true) rfl rfl (yb_call (f := 64) (args := #[.int .i64 (t : Int)]) (fun _ => by kernel_rfl) fun W hW => hit W) ?_
  refine lm (v := .bool false) rfl rfl ?_
  refine wpL_done (fun W2 hW2 => ?_)
  clear hW1
  refine (show Code.wp _ _ _ _ _ from ?_)
  refine wp_cond_false rfl ?_
  refine wp_skip ?_
  refine (show Code.wp _ _ _ _ _ from ?_)
  refine wp_seq ?_
  refine wp_region_L (W0 := w) [] (hW2) ?_
  refine lm (v := .int .i64 (t : Int)) rfl rfl ?_
  refine lp (v := .int .i64 ((t / 10080 : Nat) : Int)) rfl rfl (run_bin rfl (vx := .int .i64 (t : Int)) (vy := .int .i64 10080) (by kernel_rfl) (by kernel_rfl) fun w => run_quoI (z := ((t / 10080 : Nat) : Int)) ((Int.tdiv_eq_ediv_of_nonneg (by omega)).trans (by omega)) (by omega) (by omega) w) ?_
  refine lm (v := .int .i64 (t : Int)) rfl rfl ?_
  refine lp (v := .int .i64 ((t % 1440 : Nat) : Int)) rfl rfl (run_bin rfl (vx := .int .i64 (t : Int)) (vy := .int .i64 1440) (by kernel_rfl) (by kernel_rfl) fun w => run_remI (z := ((t % 1440 : Nat) : Int)) (by omega) (by omega) (by omega) (by omega) w) ?_
  refine lm (v := .int .i64 ((t / 10080 : Nat) : Int)) rfl rfl ?_
  refine lm (v := .int .i64 ((t % 1440 : Nat) : Int)) rfl rfl ?_
  refine wpL_done (fun W3 hW3 => ?_)
  clear hW2
  refine (show Code.wp _ _ _ _ _ from ?_)
  refine wp_seq ?_
  refine wp_region_L (W0 := w) [] (hW3) ?_
  refine lm (v := .int .i64 (t : Int)) rfl rfl ?_
  refine lp (v := .int .i64 ((t % 10080 : Nat) : Int)) rfl rfl (run_bin rfl (vx := .int .i64 (t : Int)) (vy := .int .i64 10080) (by kernel_rfl) (by kernel_rfl) fun w => run_remI (z := ((t % 10080 : Nat) : Int)) (by omega) (by omega) (by omega) (by omega) w) ?_
  refine lp (v := .int .i64 ((t % 10080 / 1440 : Nat) : Int)) rfl rfl (run_bin rfl (vx := .int .i64 ((t % 10080 : Nat) : Int)) (vy := .int .i64 1440) (by kernel_rfl) (by kernel_rfl) fun w => run_quoI (z := ((t % 10080 / 1440 : Nat) : Int)) ((Int.tdiv_eq_ediv_of_nonneg (by omega)).trans (by omega)) (by omega) (by omega) w) ?_
  refine lp (v := .pointer (some ⟨0, (t % 10080 / 1440), none⟩)) rfl rfl (run_idxg (k := (t % 10080 / 1440)) rfl (by kernel_rfl) (by kernel_rfl) (by omega)) ?_
  refine lv (v := strV ld) rfl rfl (yb_load1 rfl (by kernel_rfl) (hld ▸ HE.out.day (i := t % 10080 / 1440) (by omega)) HE.out.glt Tryd.underlying9 rfl) ?_
  refine lm (v := strV ld) rfl rfl ?_
  refine wpL_done (fun W4 hW4 => ?_)
  clear hW3
  refine (show Code.wp _ _ _ _ _ from ?_)
  refine wp_seq ?_
  refine wp_region_L (W0 := w) [] (hW4) ?_
  refine lm (v := .int .i64 ((t / 10080 : Nat) : Int)) rfl rfl ?_
  refine lv (v := strV la) rfl rfl (yb_call (f := 70) (args := #[.int .i64 ((t / 10080 : Nat) : Int)]) (fun _ => by kernel_rfl) fun W hW => hi1 W (HE.out.keep hW.1)) ?_
  refine lp (v := strV s1) rfl rfl (run_bin rfl (vx := strV la) (vy := strV [32]) (by kernel_rfl) (by kernel_rfl) fun w => run_catS E1 (by first | omega | (simp; omega)) w) ?_
  refine lm (v := strV ld) rfl rfl ?_
  refine lp (v := strV s2) rfl rfl (run_bin rfl (vx := strV s1) (vy := strV ld) (by kernel_rfl) (by kernel_rfl) fun w => run_catS E2 (by first | omega | (simp; omega)) w) ?_
  refine lp (v := strV s3) rfl rfl (run_bin rfl (vx := strV s2) (vy := strV [32]) (by kernel_rfl) (by kernel_rfl) fun w => run_catS E3 (by first | omega | (simp; omega)) w) ?_
  refine lm (v := .int .i64 ((t % 1440 : Nat) : Int)) rfl rfl ?_
  refine lp (v := .int .i64 ((t % 1440 / 60 : Nat) : Int)) rfl rfl (run_bin rfl (vx := .int .i64 ((t % 1440 : Nat) : Int)) (vy := .int .i64 60) (by kernel_rfl) (by kernel_rfl) fun w => run_quoI (z := ((t % 1440 / 60 : Nat) : Int)) ((Int.tdiv_eq_ediv_of_nonneg (by omega)).trans (by omega)) (by omega) (by omega) w) ?_
  refine lv (v := strV lh) rfl rfl (yb_call (f := 71) (args := #[.int .i64 ((t % 1440 / 60 : Nat) : Int)]) (fun _ => by kernel_rfl) fun W hW => ht1 W (HE.out.keep hW.1)) ?_
  refine lp (v := strV s4) rfl rfl (run_bin rfl (vx := strV s3) (vy := strV lh) (by kernel_rfl) (by kernel_rfl) fun w => run_catS E4 (by first | omega | (simp; omega)) w) ?_
  refine lp (v := strV s5) rfl rfl (run_bin rfl (vx := strV s4) (vy := strV [58]) (by kernel_rfl) (by kernel_rfl) fun w => run_catS E5 (by first | omega | (simp; omega)) w) ?_
  refine lm (v := .int .i64 ((t % 1440 : Nat) : Int)) rfl rfl ?_
  refine lp (v := .int .i64 ((t % 1440 % 60 : Nat) : Int)) rfl rfl (run_bin rfl (vx := .int .i64 ((t % 1440 : Nat) : Int)) (vy := .int .i64 60) (by kernel_rfl) (by kernel_rfl) fun w => run_remI (z := ((t % 1440 % 60 : Nat) : Int)) (by omega) (by omega) (by omega) (by omega) w) ?_
  refine lv (v := strV lq) rfl rfl (yb_call (f := 71) (args := #[.int .i64 ((t % 1440 % 60 : Nat) : Int)]) (fun _ => by kernel_rfl) fun W hW => ht2 W (HE.out.keep hW.1)) ?_
  refine lp (v := strV s6) rfl rfl (run_bin rfl (vx := strV s5) (vy := strV lq) (by kernel_rfl) (by kernel_rfl) fun w => run_catS E6 (by first | omega | (simp; omega)) w) ?_
  refine lm (v := strV s6) rfl rfl ?_
  refine lm (v := .int .i64 0) rfl rfl ?_
  refine wpL_done (fun W5 hW5 => ?_)
  clear hW4
  refine (show Code.wp _ _ _ _ _ from ?_)
  refine wp_ret ?_
  try simp only [inBlock_ret, then_ret]
  exact bodyPost_ret (results_tmp2 rfl _ _ _) rfl ⟨by first | rfl, hW5.1⟩
set_option maxRecDepth 100000 in
set_option maxHeartbeats 2000000 in
theorem Text_err (n : Int) (h : isT n = false) (w : World) : Calls Tryd.prog 35 #[.int .i64 n] w fun e w' => e = .returned (.tuple #[strV [], .int .i64 2]) ∧ Below w.heap.size w w' := by
  have hit := fun W => isTime_any n W
  simp only [h] at hit
  go_enter Tryd.func35, Tryd.ntmps35
  refine wp_seq ?_
  refine wp_region_L (W0 := w) [] (KS.start w) ?_
  refine lm (v := strV []) rfl rfl ?_
  refine lm (v := .int .i64 0) rfl rfl ?_
  refine wpL_done (fun W1 hW1 => ?_)
  refine (show Code.wp _ _ _ _ _ from ?_)
  refine wp_seq ?_
  refine wp_seq ?_
  refine wp_region_L (W0 := w) [] (hW1) ?_
  refine lm (v := .int .i64 n) rfl rfl ?_
  refine lv (v := .bool false) rfl rfl (yb_call (f := 64) (args := #[.int .i64 n]) (fun _ => by kernel_rfl) fun W hW => hit W) ?_
  refine lm (v := .bool true) rfl rfl ?_
  refine wpL_done (fun W2 hW2 => ?_)
  clear hW1
  refine (show Code.wp _ _ _ _ _ from ?_)
  refine wp_cond_true rfl ?_
  refine wp_seq ?_
  refine wp_region_L (W0 := w) [] (hW2) ?_
  refine lm (v := strV []) rfl rfl ?_
  refine lm (v := .int .i64 2) rfl rfl ?_
  refine wpL_done (fun W3 hW3 => ?_)
  clear hW2
  refine (show Code.wp _ _ _ _ _ from ?_)
  refine wp_ret ?_
  try simp only [inBlock_ret, then_ret]
  exact bodyPost_ret (results_tmp2 rfl _ _ _) rfl ⟨by first | rfl, hW3.1⟩
end Go.Proofs.YtjmcelgdjpdacaaDoor
