import Derived.Test.YtjmcelgdjpdacaaDoorG03
import Derived.Test.YtjmcelgdjpdacaaDoorG01
/- Part of the proof: Ji, Jk. -/
set_option linter.unusedVariables false
set_option linter.unusedSimpArgs false
set_option linter.unusedSectionVars false
namespace Go.Proofs.YtjmcelgdjpdacaaDoor
open Go.RowKit Tw
open Go
theorem size_cal : (Tryd.prog.info? 24).map (·.size) = some 2 := by kernel_rfl
theorem AV.sl {W : World} {n : Nat} {l : List (Int × Int)} {p : Option Addr} {cap : Nat} (h : AV W n l p cap) : SL W p l := h.2.imp id fun ⟨b, off, hp, _, hc⟩ => ⟨b, off, hp, hc⟩
theorem AV.keep {w W : World} {l : List (Int × Int)} {p : Option Addr} {cap : Nat} (h : AV w w.heap.size l p cap) (hB : Below w.heap.size w W) : AV W W.heap.size l p cap :=
  ⟨h.1, h.2.imp id fun ⟨b, off, hp, hb, hc⟩ => ⟨b, off, hp, Nat.lt_of_lt_of_le hb hB.size, cells_low hc hB hb⟩⟩
theorem AV.of_row {W : World} {m : List (Int × Int)} {g cap : Nat} {cur : Array Value} (h : W.heap[g]? = some (.cells cur 41 (0, 0))) (hR : Row cur cap m.length (flat m)) : AV W W.heap.size m (some ⟨g, 0, none⟩) cap :=
  ⟨hR.2.2.1, .inr ⟨g, 0, rfl, lt_of_block h, row_cells h hR⟩⟩
theorem AV.nil (W : World) (n : Nat) : AV W n [] none 0 := ⟨Nat.le_refl _, .inl rfl⟩
def OutK (W0 : Base) (K : List (Nat × Obj)) (m : List (Int × Int)) (u : Value) (K' : List (Nat × Obj)) : Prop := (m = [] ∧ u = .slice none 0 0 ∧ K' = K) ∨ ∃ g cap cur, u = .slice (some ⟨g, 0, none⟩) m.length cap ∧ Row cur cap m.length (flat m) ∧ W0.B ≤ g ∧ (∀ p ∈ K, p.1 ≠ g) ∧ K' = (g, .cells cur 41 (0, 0)) :: K
theorem OutL.known {W0 : Base} {K : List (Nat × Obj)} {w w' : World} {u : Value} {m : List (Int × Int)} (h : OutL w w' u m) (hK : KS W0 K w) (hb : Below w.heap.size w w') : ∃ K', KS W0 K' w' ∧ OutK W0 K m u K' := by
  rcases h with ⟨rfl, rfl⟩ | ⟨g, cap, cur, rfl, hg, hR, hs⟩
  · exact ⟨K, hK.below hb, .inl ⟨rfl, rfl, rfl⟩⟩
  · exact ⟨(g, .cells cur 41 (0, 0)) :: K, ⟨(hK.below hb).1, List.forall_mem_cons.2 ⟨hg, (hK.below hb).2⟩⟩, .inr ⟨g, cap, cur, rfl, hR, Nat.le_trans hK.size hs, fun p hp e => by have := lt_of_block (hK.2 p hp); omega, rfl⟩⟩
theorem OutK.sub {W0 : Base} {K K' : List (Nat × Obj)} {m : List (Int × Int)} {u : Value} (h : OutK W0 K m u K') : ∀ p ∈ K, p ∈ K' := by
  rcases h with ⟨_, _, rfl⟩ | ⟨g, cap, cur, _, _, _, _, rfl⟩
  · exact fun _ h => h
  · exact fun _ h => .tail _ h
theorem OutK.out {w : World} {K K' : List (Nat × Obj)} {m : List (Int × Int)} {u : Value} (h : OutK w K m u K') {W : World} (hK : KS w K' W) : OutL w W u m := by
  rcases h with ⟨rfl, rfl, rfl⟩ | ⟨g, cap, cur, rfl, hR, hB, _, rfl⟩
  · exact .inl ⟨rfl, rfl⟩
  · exact .inr ⟨g, cap, cur, rfl, hK.2 _ (.head _), hR, hB⟩
theorem OutL.av {w w' : World} {u : Value} {m : List (Int × Int)} (h : OutL w w' u m) : ∃ p cap, u = .slice p m.length cap ∧ AV w' w'.heap.size m p cap := by
  rcases h with ⟨rfl, rfl⟩ | ⟨g, cap, cur, rfl, hg, hR, hs⟩
  · exact ⟨none, 0, rfl, AV.nil _ _⟩
  · exact ⟨_, cap, rfl, AV.of_row hg hR⟩
def rightS (week closed : List (Int × Int)) : Bool := decide (week.length ≤ 50) && decide (closed.length ≤ 200) && apart week && apart closed && (match week[week.length - 1]? with | some s => decide (s.2 ≤ 10080) | none => true)
set_option maxRecDepth 100000 in
set_option maxHeartbeats 2000000 in
theorem weekly_any (p : Option Addr) (cap : Nat) (l : List (Int × Int)) (x y : Int) (w : World) : Calls Tryd.prog 63 #[.slice p l.length cap, .int .i64 x, .int .i64 y] w fun e w' => ∃ g1 g2 g3 : Nat, e = .returned (.func (.func 82) #[] #[.pointer (some ⟨g2, 0, none⟩), .pointer (some ⟨g3, 0, none⟩), .pointer (some ⟨g1, 0, none⟩)]) ∧ w'.heap[g1]? = some (.cells #[.slice p l.length cap] 22 (0, 0)) ∧ w'.heap[g2]? = some (.cells #[.int .i64 x] 3 (0, 0)) ∧ w'.heap[g3]? = some (.cells #[.int .i64 y] 3 (0, 0)) ∧ w.heap.size ≤ g1 ∧ w.heap.size ≤ g2 ∧ w.heap.size ≤ g3 ∧ Below w.heap.size w w' := by
  go_enter Tryd.func63, Tryd.ntmps63
  refine wp_seq ?_
  refine wp_region_L (W0 := w) [] (KS.start w) ?_
  refine wpL_new (fun g => .pointer (some ⟨g, 0, none⟩)) (obi := .cells #[.slice p l.length cap] 22 (0, 0)) rfl rfl (fun _ => by kernel_rfl) (fun _ => by simp only [List.setIfInBounds_toArray, List.set_cons_succ, List.set_cons_zero] <;> rfl) fun g1 Bg1 Fg1 => ?_
  try simp only [List.forall_mem_cons] at Fg1
  refine wpL_new (fun g => .pointer (some ⟨g, 0, none⟩)) (obi := .cells #[.int .i64 x] 3 (0, 0)) rfl rfl (fun _ => by kernel_rfl) (fun _ => by simp only [List.setIfInBounds_toArray, List.set_cons_succ, List.set_cons_zero] <;> rfl) fun g2 Bg2 Fg2 => ?_
  try simp only [List.forall_mem_cons] at Fg2
  refine wpL_new (fun g => .pointer (some ⟨g, 0, none⟩)) (obi := .cells #[.int .i64 y] 3 (0, 0)) rfl rfl (fun _ => by kernel_rfl) (fun _ => by simp only [List.setIfInBounds_toArray, List.set_cons_succ, List.set_cons_zero] <;> rfl) fun g3 Bg3 Fg3 => ?_
  try simp only [List.forall_mem_cons] at Fg3
  refine lm (v := .nilFunc) rfl rfl ?_
  refine wpL_done (fun W1 hW1 => ?_)
  refine (show Code.wp _ _ _ _ _ from ?_)
  refine wp_seq ?_
  refine wp_region_L (W0 := w) [(g3, .cells #[.int .i64 y] 3 (0, 0)), (g2, .cells #[.int .i64 x] 3 (0, 0)), (g1, .cells #[.slice p l.length cap] 22 (0, 0))] (hW1) ?_
  refine lm (v := .func (.func 82) #[] #[.pointer (some ⟨g2, 0, none⟩), .pointer (some ⟨g3, 0, none⟩), .pointer (some ⟨g1, 0, none⟩)]) rfl rfl ?_
  refine lm (v := .func (.func 82) #[] #[.pointer (some ⟨g2, 0, none⟩), .pointer (some ⟨g3, 0, none⟩), .pointer (some ⟨g1, 0, none⟩)]) rfl rfl ?_
  refine wpL_done (fun W2 hW2 => ?_)
  clear hW1
  refine (show Code.wp _ _ _ _ _ from ?_)
  refine wp_ret ?_
  try simp only [inBlock_ret, then_ret]
  go_ret
  exact ⟨g1, g2, g3, rfl, hW2.2 _ (.tail _ (.tail _ (.head _))), hW2.2 _ (.tail _ (.head _)), hW2.2 _ (.head _), Bg1, Bg2, Bg3, hW2.1⟩
def Gweekly (p : Option Addr) (cap : Nat) (l : List (Int × Int)) (x y : Int) (W0 : Base) (K : List (Nat × Obj)) (v : Value) (K' : List (Nat × Obj)) : Prop := ∃ g1 g2 g3 : Nat, v = .func (.func 82) #[] #[.pointer (some ⟨g2, 0, none⟩), .pointer (some ⟨g3, 0, none⟩), .pointer (some ⟨g1, 0, none⟩)] ∧ W0.B ≤ g1 ∧ W0.B ≤ g2 ∧ W0.B ≤ g3 ∧ K' = (g1, .cells #[.slice p l.length cap] 22 (0, 0)) :: (g2, .cells #[.int .i64 x] 3 (0, 0)) :: (g3, .cells #[.int .i64 y] 3 (0, 0)) :: K
theorem weekly_g (p : Option Addr) (cap : Nat) (l : List (Int × Int)) (x y : Int) {W0 : Base} {K : List (Nat × Obj)} (w : World) (hK : KS W0 K w) : Calls Tryd.prog 63 #[.slice p l.length cap, .int .i64 x, .int .i64 y] w fun e w' => ∃ v K', e = .returned v ∧ KS W0 K' w' ∧ Gweekly p cap l x y W0 K v K' :=
  (weekly_any p cap l x y w).mono fun e w' ⟨g1, g2, g3, he, hg1, hg2, hg3, bg1, bg2, bg3, hb⟩ =>
    ⟨_, (g1, .cells #[.slice p l.length cap] 22 (0, 0)) :: (g2, .cells #[.int .i64 x] 3 (0, 0)) :: (g3, .cells #[.int .i64 y] 3 (0, 0)) :: K, he, ⟨(hK.below hb).1, (List.forall_mem_cons.2 ⟨hg1, (List.forall_mem_cons.2 ⟨hg2, (List.forall_mem_cons.2 ⟨hg3, (hK.below hb).2⟩)⟩)⟩)⟩, g1, g2, g3, rfl, Nat.le_trans hK.size bg1, Nat.le_trans hK.size bg2, Nat.le_trans hK.size bg3, rfl⟩
set_option maxRecDepth 100000 in
set_option maxHeartbeats 2000000 in
theorem without_any (gf : Nat) (lb : Array Value) (p : Option Addr) (cap : Nat) (l : List (Int × Int)) (w : World) : Calls Tryd.prog 62 #[.func (.func gf) #[] lb, .slice p l.length cap] w fun e w' => ∃ g1 g2 : Nat, e = .returned (.func (.func 81) #[] #[.pointer (some ⟨g2, 0, none⟩), .pointer (some ⟨g1, 0, none⟩)]) ∧ w'.heap[g1]? = some (.cells #[.func (.func gf) #[] lb] 98 (0, 0)) ∧ w'.heap[g2]? = some (.cells #[.slice p l.length cap] 22 (0, 0)) ∧ w.heap.size ≤ g1 ∧ w.heap.size ≤ g2 ∧ Below w.heap.size w w' := by
  go_enter Tryd.func62, Tryd.ntmps62
  refine wp_seq ?_
  refine wp_region_L (W0 := w) [] (KS.start w) ?_
  refine wpL_new (fun g => .pointer (some ⟨g, 0, none⟩)) (obi := .cells #[.func (.func gf) #[] lb] 98 (0, 0)) rfl rfl (fun _ => by kernel_rfl) (fun _ => by simp only [List.setIfInBounds_toArray, List.set_cons_succ, List.set_cons_zero] <;> rfl) fun g1 Bg1 Fg1 => ?_
  try simp only [List.forall_mem_cons] at Fg1
  refine wpL_new (fun g => .pointer (some ⟨g, 0, none⟩)) (obi := .cells #[.slice p l.length cap] 22 (0, 0)) rfl rfl (fun _ => by kernel_rfl) (fun _ => by simp only [List.setIfInBounds_toArray, List.set_cons_succ, List.set_cons_zero] <;> rfl) fun g2 Bg2 Fg2 => ?_
  try simp only [List.forall_mem_cons] at Fg2
  refine lm (v := .nilFunc) rfl rfl ?_
  refine wpL_done (fun W1 hW1 => ?_)
  refine (show Code.wp _ _ _ _ _ from ?_)
  refine wp_seq ?_
  refine wp_region_L (W0 := w) [(g2, .cells #[.slice p l.length cap] 22 (0, 0)), (g1, .cells #[.func (.func gf) #[] lb] 98 (0, 0))] (hW1) ?_
  refine lm (v := .func (.func 81) #[] #[.pointer (some ⟨g2, 0, none⟩), .pointer (some ⟨g1, 0, none⟩)]) rfl rfl ?_
  refine lm (v := .func (.func 81) #[] #[.pointer (some ⟨g2, 0, none⟩), .pointer (some ⟨g1, 0, none⟩)]) rfl rfl ?_
  refine wpL_done (fun W2 hW2 => ?_)
  clear hW1
  refine (show Code.wp _ _ _ _ _ from ?_)
  refine wp_ret ?_
  try simp only [inBlock_ret, then_ret]
  go_ret
  exact ⟨g1, g2, rfl, hW2.2 _ (.tail _ (.head _)), hW2.2 _ (.head _), Bg1, Bg2, hW2.1⟩
def Gwithout (gf : Nat) (lb : Array Value) (p : Option Addr) (cap : Nat) (l : List (Int × Int)) (W0 : Base) (K : List (Nat × Obj)) (v : Value) (K' : List (Nat × Obj)) : Prop := ∃ g1 g2 : Nat, v = .func (.func 81) #[] #[.pointer (some ⟨g2, 0, none⟩), .pointer (some ⟨g1, 0, none⟩)] ∧ W0.B ≤ g1 ∧ W0.B ≤ g2 ∧ K' = (g1, .cells #[.func (.func gf) #[] lb] 98 (0, 0)) :: (g2, .cells #[.slice p l.length cap] 22 (0, 0)) :: K
theorem without_g (gf : Nat) (lb : Array Value) (p : Option Addr) (cap : Nat) (l : List (Int × Int)) {W0 : Base} {K : List (Nat × Obj)} (w : World) (hK : KS W0 K w) : Calls Tryd.prog 62 #[.func (.func gf) #[] lb, .slice p l.length cap] w fun e w' => ∃ v K', e = .returned v ∧ KS W0 K' w' ∧ Gwithout gf lb p cap l W0 K v K' :=
  (without_any gf lb p cap l w).mono fun e w' ⟨g1, g2, he, hg1, hg2, bg1, bg2, hb⟩ =>
    ⟨_, (g1, .cells #[.func (.func gf) #[] lb] 98 (0, 0)) :: (g2, .cells #[.slice p l.length cap] 22 (0, 0)) :: K, he, ⟨(hK.below hb).1, (List.forall_mem_cons.2 ⟨hg1, (List.forall_mem_cons.2 ⟨hg2, (hK.below hb).2⟩)⟩)⟩, g1, g2, rfl, Nat.le_trans hK.size bg1, Nat.le_trans hK.size bg2, rfl⟩
set_option maxRecDepth 100000 in
set_option maxHeartbeats 2000000 in
theorem windows_any (F N D B A x y : Int) (w : World) : Calls Tryd.prog 68 #[.agg #[.int .i64 F, .int .i64 N, .int .i64 D, .int .i64 B, .int .i64 A], .int .i64 x, .int .i64 y] w fun e w' => ∃ g1 g2 g3 : Nat, e = .returned (.func (.func 83) #[] #[.pointer (some ⟨g1, 0, none⟩), .pointer (some ⟨g2, 0, none⟩), .pointer (some ⟨g3, 0, none⟩)]) ∧ w'.heap[g1]? = some (.cells #[.int .i64 F, .int .i64 N, .int .i64 D, .int .i64 B, .int .i64 A] 28 (0, 0)) ∧ w'.heap[g2]? = some (.cells #[.int .i64 x] 3 (0, 0)) ∧ w'.heap[g3]? = some (.cells #[.int .i64 y] 3 (0, 0)) ∧ w.heap.size ≤ g1 ∧ w.heap.size ≤ g2 ∧ w.heap.size ≤ g3 ∧ Below w.heap.size w w' := by
  go_enter Tryd.func68, Tryd.ntmps68
  refine wp_seq ?_
  refine wp_region_L (W0 := w) [] (KS.start w) ?_
  refine wpL_new (fun g => .pointer (some ⟨g, 0, none⟩)) (obi := .cells #[.int .i64 F, .int .i64 N, .int .i64 D, .int .i64 B, .int .i64 A] 28 (0, 0)) rfl rfl (fun _ => by kernel_rfl) (fun _ => by simp only [List.setIfInBounds_toArray, List.set_cons_succ, List.set_cons_zero] <;> rfl) fun g1 Bg1 Fg1 => ?_
  try simp only [List.forall_mem_cons] at Fg1
  refine wpL_new (fun g => .pointer (some ⟨g, 0, none⟩)) (obi := .cells #[.int .i64 x] 3 (0, 0)) rfl rfl (fun _ => by kernel_rfl) (fun _ => by simp only [List.setIfInBounds_toArray, List.set_cons_succ, List.set_cons_zero] <;> rfl) fun g2 Bg2 Fg2 => ?_
  try simp only [List.forall_mem_cons] at Fg2
  refine wpL_new (fun g => .pointer (some ⟨g, 0, none⟩)) (obi := .cells #[.int .i64 y] 3 (0, 0)) rfl rfl (fun _ => by kernel_rfl) (fun _ => by simp only [List.setIfInBounds_toArray, List.set_cons_succ, List.set_cons_zero] <;> rfl) fun g3 Bg3 Fg3 => ?_
  try simp only [List.forall_mem_cons] at Fg3
  refine lm (v := .nilFunc) rfl rfl ?_
  refine wpL_done (fun W1 hW1 => ?_)
  refine (show Code.wp _ _ _ _ _ from ?_)
  refine wp_seq ?_
  refine wp_region_L (W0 := w) [(g3, .cells #[.int .i64 y] 3 (0, 0)), (g2, .cells #[.int .i64 x] 3 (0, 0)), (g1, .cells #[.int .i64 F, .int .i64 N, .int .i64 D, .int .i64 B, .int .i64 A] 28 (0, 0))] (hW1) ?_
  refine lm (v := .func (.func 83) #[] #[.pointer (some ⟨g1, 0, none⟩), .pointer (some ⟨g2, 0, none⟩), .pointer (some ⟨g3, 0, none⟩)]) rfl rfl ?_
  refine lm (v := .func (.func 83) #[] #[.pointer (some ⟨g1, 0, none⟩), .pointer (some ⟨g2, 0, none⟩), .pointer (some ⟨g3, 0, none⟩)]) rfl rfl ?_
  refine wpL_done (fun W2 hW2 => ?_)
  clear hW1
  refine (show Code.wp _ _ _ _ _ from ?_)
  refine wp_ret ?_
  try simp only [inBlock_ret, then_ret]
  go_ret
  exact ⟨g1, g2, g3, rfl, hW2.2 _ (.tail _ (.tail _ (.head _))), hW2.2 _ (.tail _ (.head _)), hW2.2 _ (.head _), Bg1, Bg2, Bg3, hW2.1⟩
def Gwindows (F N D B A x y : Int) (W0 : Base) (K : List (Nat × Obj)) (v : Value) (K' : List (Nat × Obj)) : Prop := ∃ g1 g2 g3 : Nat, v = .func (.func 83) #[] #[.pointer (some ⟨g1, 0, none⟩), .pointer (some ⟨g2, 0, none⟩), .pointer (some ⟨g3, 0, none⟩)] ∧ W0.B ≤ g1 ∧ W0.B ≤ g2 ∧ W0.B ≤ g3 ∧ K' = (g1, .cells #[.int .i64 F, .int .i64 N, .int .i64 D, .int .i64 B, .int .i64 A] 28 (0, 0)) :: (g2, .cells #[.int .i64 x] 3 (0, 0)) :: (g3, .cells #[.int .i64 y] 3 (0, 0)) :: K
theorem windows_g (F N D B A x y : Int) {W0 : Base} {K : List (Nat × Obj)} (w : World) (hK : KS W0 K w) : Calls Tryd.prog 68 #[.agg #[.int .i64 F, .int .i64 N, .int .i64 D, .int .i64 B, .int .i64 A], .int .i64 x, .int .i64 y] w fun e w' => ∃ v K', e = .returned v ∧ KS W0 K' w' ∧ Gwindows F N D B A x y W0 K v K' :=
  (windows_any F N D B A x y w).mono fun e w' ⟨g1, g2, g3, he, hg1, hg2, hg3, bg1, bg2, bg3, hb⟩ =>
    ⟨_, (g1, .cells #[.int .i64 F, .int .i64 N, .int .i64 D, .int .i64 B, .int .i64 A] 28 (0, 0)) :: (g2, .cells #[.int .i64 x] 3 (0, 0)) :: (g3, .cells #[.int .i64 y] 3 (0, 0)) :: K, he, ⟨(hK.below hb).1, (List.forall_mem_cons.2 ⟨hg1, (List.forall_mem_cons.2 ⟨hg2, (List.forall_mem_cons.2 ⟨hg3, (hK.below hb).2⟩)⟩)⟩)⟩, g1, g2, g3, rfl, Nat.le_trans hK.size bg1, Nat.le_trans hK.size bg2, Nat.le_trans hK.size bg3, rfl⟩
set_option maxRecDepth 100000 in
set_option maxHeartbeats 2000000 in
theorem common_any (p q : Option Addr) (cap cp : Nat) (l m : List (Int × Int)) (w : World) : Calls Tryd.prog 69 #[.slice p l.length cap, .slice q m.length cp] w fun e w' => ∃ g1 g2 : Nat, e = .returned (.func (.func 84) #[] #[.pointer (some ⟨g1, 0, none⟩), .pointer (some ⟨g2, 0, none⟩)]) ∧ w'.heap[g1]? = some (.cells #[.slice p l.length cap] 22 (0, 0)) ∧ w'.heap[g2]? = some (.cells #[.slice q m.length cp] 22 (0, 0)) ∧ w.heap.size ≤ g1 ∧ w.heap.size ≤ g2 ∧ Below w.heap.size w w' := by
  go_enter Tryd.func69, Tryd.ntmps69
  refine wp_seq ?_
  refine wp_region_L (W0 := w) [] (KS.start w) ?_
  refine wpL_new (fun g => .pointer (some ⟨g, 0, none⟩)) (obi := .cells #[.slice p l.length cap] 22 (0, 0)) rfl rfl (fun _ => by kernel_rfl) (fun _ => by simp only [List.setIfInBounds_toArray, List.set_cons_succ, List.set_cons_zero] <;> rfl) fun g1 Bg1 Fg1 => ?_
  try simp only [List.forall_mem_cons] at Fg1
  refine wpL_new (fun g => .pointer (some ⟨g, 0, none⟩)) (obi := .cells #[.slice q m.length cp] 22 (0, 0)) rfl rfl (fun _ => by kernel_rfl) (fun _ => by simp only [List.setIfInBounds_toArray, List.set_cons_succ, List.set_cons_zero] <;> rfl) fun g2 Bg2 Fg2 => ?_
  try simp only [List.forall_mem_cons] at Fg2
  refine lm (v := .nilFunc) rfl rfl ?_
  refine wpL_done (fun W1 hW1 => ?_)
  refine (show Code.wp _ _ _ _ _ from ?_)
  refine wp_seq ?_
  refine wp_region_L (W0 := w) [(g2, .cells #[.slice q m.length cp] 22 (0, 0)), (g1, .cells #[.slice p l.length cap] 22 (0, 0))] (hW1) ?_
  refine lm (v := .func (.func 84) #[] #[.pointer (some ⟨g1, 0, none⟩), .pointer (some ⟨g2, 0, none⟩)]) rfl rfl ?_
  refine lm (v := .func (.func 84) #[] #[.pointer (some ⟨g1, 0, none⟩), .pointer (some ⟨g2, 0, none⟩)]) rfl rfl ?_
  refine wpL_done (fun W2 hW2 => ?_)
  clear hW1
  refine (show Code.wp _ _ _ _ _ from ?_)
  refine wp_ret ?_
  try simp only [inBlock_ret, then_ret]
  go_ret
  exact ⟨g1, g2, rfl, hW2.2 _ (.tail _ (.head _)), hW2.2 _ (.head _), Bg1, Bg2, hW2.1⟩
def Gcommon (p q : Option Addr) (cap cp : Nat) (l m : List (Int × Int)) (W0 : Base) (K : List (Nat × Obj)) (v : Value) (K' : List (Nat × Obj)) : Prop := ∃ g1 g2 : Nat, v = .func (.func 84) #[] #[.pointer (some ⟨g1, 0, none⟩), .pointer (some ⟨g2, 0, none⟩)] ∧ W0.B ≤ g1 ∧ W0.B ≤ g2 ∧ K' = (g1, .cells #[.slice p l.length cap] 22 (0, 0)) :: (g2, .cells #[.slice q m.length cp] 22 (0, 0)) :: K
theorem common_g (p q : Option Addr) (cap cp : Nat) (l m : List (Int × Int)) {W0 : Base} {K : List (Nat × Obj)} (w : World) (hK : KS W0 K w) : Calls Tryd.prog 69 #[.slice p l.length cap, .slice q m.length cp] w fun e w' => ∃ v K', e = .returned v ∧ KS W0 K' w' ∧ Gcommon p q cap cp l m W0 K v K' :=
  (common_any p q cap cp l m w).mono fun e w' ⟨g1, g2, he, hg1, hg2, bg1, bg2, hb⟩ =>
    ⟨_, (g1, .cells #[.slice p l.length cap] 22 (0, 0)) :: (g2, .cells #[.slice q m.length cp] 22 (0, 0)) :: K, he, ⟨(hK.below hb).1, (List.forall_mem_cons.2 ⟨hg1, (List.forall_mem_cons.2 ⟨hg2, (hK.below hb).2⟩)⟩)⟩, g1, g2, rfl, Nat.le_trans hK.size bg1, Nat.le_trans hK.size bg2, rfl⟩
end Go.Proofs.YtjmcelgdjpdacaaDoor
namespace Go.Proofs.YtjmcelgdjpdacaaDoor
open Go.RowKit Tw
open Go
set_option maxRecDepth 100000 in
set_option maxHeartbeats 20000000 in
theorem Right_any (week closed : List (Int × Int)) (p1 p2 : Option Addr) (c1 c2 : Nat) (w : World) (h1 : SL w p1 week) (h2 : SL w p2 closed) : Calls Tryd.prog 26 #[.agg #[.slice p1 week.length c1, .slice p2 closed.length c2]] w fun e w' => e = .returned (.bool (rightS week closed)) ∧ Below w.heap.size w w' := by
  by_cases hw50 : week.length ≤ 50
  · by_cases hc200 : closed.length ≤ 200
    · by_cases haw : apart week = true
      · by_cases hac : apart closed = true
        · by_cases hz : week.length = 0
          · have hapw := fun (W : World) (hc : SL W p1 week) => Apart_any p1 c1 week W hc (by omega)
            rw [haw] at hapw
            have hapc := fun (W : World) (hc : SL W p2 closed) => Apart_any p2 c2 closed W hc (by omega)
            rw [hac] at hapc
            have hr : rightS week closed = true := by unfold rightS; simp [hw50, hc200, haw, hac, hz, List.eq_nil_of_length_eq_zero hz, show apart [] = true from rfl]
            rw [hr]
            have HC := Lib.hid (And.intro h1 h2)
            clear h1 h2
            go_enter Tryd.func26, Tryd.ntmps26
            refine wp_seq ?_
            refine wp_region_L (W0 := w) [] (KS.start w) ?_
            refine wpL_new (fun g => .pointer (some ⟨g, 0, none⟩)) (obi := .cells #[.slice p1 week.length c1, .slice p2 closed.length c2] 24 (0, 0)) rfl rfl (fun _ => by kernel_rfl) (fun _ => by simp only [List.setIfInBounds_toArray, List.set_cons_succ, List.set_cons_zero] <;> rfl) fun g1 Bg1 Fg1 => ?_
            try simp only [List.forall_mem_cons] at Fg1
            refine lm (v := .bool false) rfl rfl ?_
            refine wpL_done (fun W1 hW1 => ?_)
            refine (show Code.wp _ _ _ _ _ from ?_)
            refine wp_seq ?_
            refine wp_seq ?_
            refine wp_region_L (W0 := w) [(g1, .cells #[.slice p1 week.length c1, .slice p2 closed.length c2] 24 (0, 0))] (hW1) ?_
            refine lm (v := .pointer (some ⟨g1, 0, none⟩)) rfl rfl ?_
            refine lv (v := .slice p1 week.length c1) rfl rfl (yb_loadc (off := 0) rfl (by kernel_rfl) (.head _) Tryd.underlying22 rfl (by kernel_rfl)) ?_
            refine lm (v := .int .i64 (week.length : Int)) rfl rfl ?_
            refine lp (v := .bool false) rfl rfl (run_bin rfl (vx := .int .i64 (week.length : Int)) (vy := .int .i64 50) (by kernel_rfl) (by kernel_rfl) fun w => run_gtrI (decide_eq_false (by omega)) w) ?_
            refine lm (v := .bool false) rfl rfl ?_
            refine lm (v := .pointer (some ⟨g1, 1, none⟩)) rfl rfl ?_
            refine lv (v := .slice p2 closed.length c2) rfl rfl (yb_loadc (off := 1) rfl (by kernel_rfl) (.head _) Tryd.underlying22 rfl (by kernel_rfl)) ?_
            refine lm (v := .int .i64 (closed.length : Int)) rfl rfl ?_
            refine lp (v := .bool false) rfl rfl (run_bin rfl (vx := .int .i64 (closed.length : Int)) (vy := .int .i64 200) (by kernel_rfl) (by kernel_rfl) fun w => run_gtrI (decide_eq_false (by omega)) w) ?_
            refine lm (v := .bool false) rfl rfl ?_
            refine lm (v := .bool false) rfl rfl ?_
            refine lm (v := .pointer (some ⟨g1, 0, none⟩)) rfl rfl ?_
            refine lv (v := .slice p1 week.length c1) rfl rfl (yb_loadc (off := 0) rfl (by kernel_rfl) (.head _) Tryd.underlying22 rfl (by kernel_rfl)) ?_
            refine lv (v := .bool true) rfl rfl (yb_call (f := 27) (args := #[.slice p1 week.length c1]) (fun _ => by kernel_rfl) fun W hW => hapw W (sl_keep HC.out.1 hW.1)) ?_
            refine lm (v := .bool false) rfl rfl ?_
            refine lm (v := .bool false) rfl rfl ?_
            refine lm (v := .bool false) rfl rfl ?_
            refine lm (v := .pointer (some ⟨g1, 1, none⟩)) rfl rfl ?_
            refine lv (v := .slice p2 closed.length c2) rfl rfl (yb_loadc (off := 1) rfl (by kernel_rfl) (.head _) Tryd.underlying22 rfl (by kernel_rfl)) ?_
            refine lv (v := .bool true) rfl rfl (yb_call (f := 27) (args := #[.slice p2 closed.length c2]) (fun _ => by kernel_rfl) fun W hW => hapc W (sl_keep HC.out.2 hW.1)) ?_
            refine lm (v := .bool false) rfl rfl ?_
            refine lm (v := .bool false) rfl rfl ?_
            refine wpL_done (fun W2 hW2 => ?_)
            clear hW1
            refine (show Code.wp _ _ _ _ _ from ?_)
            refine wp_cond_false rfl ?_
            refine wp_skip ?_
            refine (show Code.wp _ _ _ _ _ from ?_)
            refine wp_seq ?_
            refine wp_region_L (W0 := w) [(g1, .cells #[.slice p1 week.length c1, .slice p2 closed.length c2] 24 (0, 0))] (hW2) ?_
            refine lm (v := .pointer (some ⟨g1, 0, none⟩)) rfl rfl ?_
            refine lv (v := .slice p1 week.length c1) rfl rfl (yb_loadc (off := 0) rfl (by kernel_rfl) (.head _) Tryd.underlying22 rfl (by kernel_rfl)) ?_
            refine lm (v := .int .i64 (week.length : Int)) rfl rfl ?_
            refine lp (v := .bool true) rfl rfl (run_bin rfl (vx := .int .i64 (week.length : Int)) (vy := .int .i64 0) (by kernel_rfl) (by kernel_rfl) fun w => run_eqlI (decide_eq_true (by omega)) w) ?_
            refine lm (v := .bool true) rfl rfl ?_
            refine ln rfl ?_
            refine ln rfl ?_
            refine ln rfl ?_
            refine ln rfl ?_
            refine ln rfl ?_
            refine ln rfl ?_
            refine ln rfl ?_
            refine ln rfl ?_
            refine ln rfl ?_
            refine ln rfl ?_
            refine lm (v := .bool true) rfl rfl ?_
            refine lm (v := .bool true) rfl rfl ?_
            refine wpL_done (fun W3 hW3 => ?_)
            clear hW2
            refine (show Code.wp _ _ _ _ _ from ?_)
            refine wp_ret ?_
            try simp only [inBlock_ret, then_ret]
            go_ret
            exact ⟨rfl, hW3.1⟩
          · have hapw := fun (W : World) (hc : SL W p1 week) => Apart_any p1 c1 week W hc (by omega)
            rw [haw] at hapw
            have hapc := fun (W : World) (hc : SL W p2 closed) => Apart_any p2 c2 closed W hc (by omega)
            rw [hac] at hapc
            obtain ⟨⟨fl, tl⟩, hgl⟩ : ∃ s, week[week.length - 1]? = some s := ⟨_, List.getElem?_eq_getElem (by omega)⟩
            obtain ⟨bl, ol, hpl, hcl⟩ := h1.resolve_left (fun e => hz (by rw [e]; rfl))
            have hz2 : 1 ≤ week.length := by omega
            by_cases htl : tl ≤ 10080
            · have hr : rightS week closed = true := by unfold rightS; simp [hw50, hc200, haw, hac, hgl, htl]
              rw [hr]
              have HC := Lib.hid (And.intro h1 h2)
              clear h1 h2
              go_enter Tryd.func26, Tryd.ntmps26
              refine wp_seq ?_
              refine wp_region_L (W0 := w) [] (KS.start w) ?_
              refine wpL_new (fun g => .pointer (some ⟨g, 0, none⟩)) (obi := .cells #[.slice p1 week.length c1, .slice p2 closed.length c2] 24 (0, 0)) rfl rfl (fun _ => by kernel_rfl) (fun _ => by simp only [List.setIfInBounds_toArray, List.set_cons_succ, List.set_cons_zero] <;> rfl) fun g1 Bg1 Fg1 => ?_
              try simp only [List.forall_mem_cons] at Fg1
              refine lm (v := .bool false) rfl rfl ?_
              refine wpL_done (fun W1 hW1 => ?_)
              refine (show Code.wp _ _ _ _ _ from ?_)
              refine wp_seq ?_
              refine wp_seq ?_
              refine wp_region_L (W0 := w) [(g1, .cells #[.slice p1 week.length c1, .slice p2 closed.length c2] 24 (0, 0))] (hW1) ?_
              refine lm (v := .pointer (some ⟨g1, 0, none⟩)) rfl rfl ?_
              refine lv (v := .slice p1 week.length c1) rfl rfl (yb_loadc (off := 0) rfl (by kernel_rfl) (.head _) Tryd.underlying22 rfl (by kernel_rfl)) ?_
              refine lm (v := .int .i64 (week.length : Int)) rfl rfl ?_
              refine lp (v := .bool false) rfl rfl (run_bin rfl (vx := .int .i64 (week.length : Int)) (vy := .int .i64 50) (by kernel_rfl) (by kernel_rfl) fun w => run_gtrI (decide_eq_false (by omega)) w) ?_
              refine lm (v := .bool false) rfl rfl ?_
              refine lm (v := .pointer (some ⟨g1, 1, none⟩)) rfl rfl ?_
              refine lv (v := .slice p2 closed.length c2) rfl rfl (yb_loadc (off := 1) rfl (by kernel_rfl) (.head _) Tryd.underlying22 rfl (by kernel_rfl)) ?_
              refine lm (v := .int .i64 (closed.length : Int)) rfl rfl ?_
              refine lp (v := .bool false) rfl rfl (run_bin rfl (vx := .int .i64 (closed.length : Int)) (vy := .int .i64 200) (by kernel_rfl) (by kernel_rfl) fun w => run_gtrI (decide_eq_false (by omega)) w) ?_
              refine lm (v := .bool false) rfl rfl ?_
              refine lm (v := .bool false) rfl rfl ?_
              refine lm (v := .pointer (some ⟨g1, 0, none⟩)) rfl rfl ?_
              refine lv (v := .slice p1 week.length c1) rfl rfl (yb_loadc (off := 0) rfl (by kernel_rfl) (.head _) Tryd.underlying22 rfl (by kernel_rfl)) ?_
              refine lv (v := .bool true) rfl rfl (yb_call (f := 27) (args := #[.slice p1 week.length c1]) (fun _ => by kernel_rfl) fun W hW => hapw W (sl_keep HC.out.1 hW.1)) ?_
              refine lm (v := .bool false) rfl rfl ?_
              refine lm (v := .bool false) rfl rfl ?_
              refine lm (v := .bool false) rfl rfl ?_
              refine lm (v := .pointer (some ⟨g1, 1, none⟩)) rfl rfl ?_
              refine lv (v := .slice p2 closed.length c2) rfl rfl (yb_loadc (off := 1) rfl (by kernel_rfl) (.head _) Tryd.underlying22 rfl (by kernel_rfl)) ?_
              refine lv (v := .bool true) rfl rfl (yb_call (f := 27) (args := #[.slice p2 closed.length c2]) (fun _ => by kernel_rfl) fun W hW => hapc W (sl_keep HC.out.2 hW.1)) ?_
              refine lm (v := .bool false) rfl rfl ?_
              refine lm (v := .bool false) rfl rfl ?_
              refine wpL_done (fun W2 hW2 => ?_)
              clear hW1
              refine (show Code.wp _ _ _ _ _ from ?_)
              refine wp_cond_false rfl ?_
              refine wp_skip ?_
              refine (show Code.wp _ _ _ _ _ from ?_)
              refine wp_seq ?_
              refine wp_region_L (W0 := w) [(g1, .cells #[.slice p1 week.length c1, .slice p2 closed.length c2] 24 (0, 0))] (hW2) ?_
              refine lm (v := .pointer (some ⟨g1, 0, none⟩)) rfl rfl ?_
              refine lv (v := .slice p1 week.length c1) rfl rfl (yb_loadc (off := 0) rfl (by kernel_rfl) (.head _) Tryd.underlying22 rfl (by kernel_rfl)) ?_
              refine lm (v := .int .i64 (week.length : Int)) rfl rfl ?_
              refine lp (v := .bool false) rfl rfl (run_bin rfl (vx := .int .i64 (week.length : Int)) (vy := .int .i64 0) (by kernel_rfl) (by kernel_rfl) fun w => run_eqlI (decide_eq_false (by omega)) w) ?_
              refine lm (v := .bool false) rfl rfl ?_
              refine lm (v := .pointer (some ⟨g1, 0, none⟩)) rfl rfl ?_
              refine lv (v := .slice p1 week.length c1) rfl rfl (yb_loadc (off := 0) rfl (by kernel_rfl) (.head _) Tryd.underlying22 rfl (by kernel_rfl)) ?_
              refine lm (v := .pointer (some ⟨g1, 0, none⟩)) rfl rfl ?_
              refine lv (v := .slice p1 week.length c1) rfl rfl (yb_loadc (off := 0) rfl (by kernel_rfl) (.head _) Tryd.underlying22 rfl (by kernel_rfl)) ?_
              refine lm (v := .int .i64 (week.length : Int)) rfl rfl ?_
              refine lp (v := .int .i64 ((week.length - 1 : Nat) : Int)) rfl rfl (run_bin rfl (vx := .int .i64 (week.length : Int)) (vy := .int .i64 1) (by kernel_rfl) (by kernel_rfl) fun w => run_subI (z := ((week.length - 1 : Nat) : Int)) (by omega) (by omega) w) ?_
              refine lp (v := .pointer (some ⟨bl, ol + 2 * (week.length - 1), none⟩)) rfl rfl (run_idxp (b := bl) (off := ol) (n := week.length) (cap := c1) (k := week.length - 1) rfl (by kernel_rfl) hpl (by kernel_rfl) (by omega)) ?_
              refine lm (v := .pointer (some ⟨bl, ol + 2 * (week.length - 1) + 1, none⟩)) rfl rfl ?_
              refine lv (v := .int .i64 tl) rfl rfl (yb_load1 rfl (by kernel_rfl) (hcl (week.length - 1) (fl, tl) hgl).2 (World.block_lt_of_cell? _ _ (hcl (week.length - 1) (fl, tl) hgl).2) Tryd.underlying3 rfl) ?_
              refine lp (v := .bool true) rfl rfl (run_bin rfl (vx := .int .i64 tl) (vy := .int .i64 10080) (by kernel_rfl) (by kernel_rfl) fun w => run_leqI (decide_eq_true htl) w) ?_
              refine lm (v := .bool true) rfl rfl ?_
              refine lm (v := .bool true) rfl rfl ?_
              refine wpL_done (fun W3 hW3 => ?_)
              clear hW2
              refine (show Code.wp _ _ _ _ _ from ?_)
              refine wp_ret ?_
              try simp only [inBlock_ret, then_ret]
              go_ret
              exact ⟨rfl, hW3.1⟩
            · have hr : rightS week closed = false := by unfold rightS; simp [hw50, hc200, haw, hac, hgl, show ¬ tl ≤ 10080 from htl]
              rw [hr]
              have HC := Lib.hid (And.intro h1 h2)
              clear h1 h2
              go_enter Tryd.func26, Tryd.ntmps26
              refine wp_seq ?_
              refine wp_region_L (W0 := w) [] (KS.start w) ?_
              refine wpL_new (fun g => .pointer (some ⟨g, 0, none⟩)) (obi := .cells #[.slice p1 week.length c1, .slice p2 closed.length c2] 24 (0, 0)) rfl rfl (fun _ => by kernel_rfl) (fun _ => by simp only [List.setIfInBounds_toArray, List.set_cons_succ, List.set_cons_zero] <;> rfl) fun g1 Bg1 Fg1 => ?_
              try simp only [List.forall_mem_cons] at Fg1
              refine lm (v := .bool false) rfl rfl ?_
              refine wpL_done (fun W1 hW1 => ?_)
              refine (show Code.wp _ _ _ _ _ from ?_)
              refine wp_seq ?_
              refine wp_seq ?_
              refine wp_region_L (W0 := w) [(g1, .cells #[.slice p1 week.length c1, .slice p2 closed.length c2] 24 (0, 0))] (hW1) ?_
              refine lm (v := .pointer (some ⟨g1, 0, none⟩)) rfl rfl ?_
              refine lv (v := .slice p1 week.length c1) rfl rfl (yb_loadc (off := 0) rfl (by kernel_rfl) (.head _) Tryd.underlying22 rfl (by kernel_rfl)) ?_
              refine lm (v := .int .i64 (week.length : Int)) rfl rfl ?_
              refine lp (v := .bool false) rfl rfl (run_bin rfl (vx := .int .i64 (week.length : Int)) (vy := .int .i64 50) (by kernel_rfl) (by kernel_rfl) fun w => run_gtrI (decide_eq_false (by omega)) w) ?_
              refine lm (v := .bool false) rfl rfl ?_
              refine lm (v := .pointer (some ⟨g1, 1, none⟩)) rfl rfl ?_
              refine lv (v := .slice p2 closed.length c2) rfl rfl (yb_loadc (off := 1) rfl (by kernel_rfl) (.head _) Tryd.underlying22 rfl (by kernel_rfl)) ?_
              refine lm (v := .int .i64 (closed.length : Int)) rfl rfl ?_
              refine lp (v := .bool false) rfl rfl (run_bin rfl (vx := .int .i64 (closed.length : Int)) (vy := .int .i64 200) (by kernel_rfl) (by kernel_rfl) fun w => run_gtrI (decide_eq_false (by omega)) w) ?_
              refine lm (v := .bool false) rfl rfl ?_
              refine lm (v := .bool false) rfl rfl ?_
              refine lm (v := .pointer (some ⟨g1, 0, none⟩)) rfl rfl ?_
              refine lv (v := .slice p1 week.length c1) rfl rfl (yb_loadc (off := 0) rfl (by kernel_rfl) (.head _) Tryd.underlying22 rfl (by kernel_rfl)) ?_
              refine lv (v := .bool true) rfl rfl (yb_call (f := 27) (args := #[.slice p1 week.length c1]) (fun _ => by kernel_rfl) fun W hW => hapw W (sl_keep HC.out.1 hW.1)) ?_
              refine lm (v := .bool false) rfl rfl ?_
              refine lm (v := .bool false) rfl rfl ?_
              refine lm (v := .bool false) rfl rfl ?_
              refine lm (v := .pointer (some ⟨g1, 1, none⟩)) rfl rfl ?_
              refine lv (v := .slice p2 closed.length c2) rfl rfl (yb_loadc (off := 1) rfl (by kernel_rfl) (.head _) Tryd.underlying22 rfl (by kernel_rfl)) ?_
              refine lv (v := .bool true) rfl rfl (yb_call (f := 27) (args := #[.slice p2 closed.length c2]) (fun _ => by kernel_rfl) fun W hW => hapc W (sl_keep HC.out.2 hW.1)) ?_
              refine lm (v := .bool false) rfl rfl ?_
              refine lm (v := .bool false) rfl rfl ?_
              refine wpL_done (fun W2 hW2 => ?_)
              clear hW1
              refine (show Code.wp _ _ _ _ _ from ?_)
              refine wp_cond_false rfl ?_
              refine wp_skip ?_
              refine (show Code.wp _ _ _ _ _ from ?_)
              refine wp_seq ?_
              refine wp_region_L (W0 := w) [(g1, .cells #[.slice p1 week.length c1, .slice p2 closed.length c2] 24 (0, 0))] (hW2) ?_
              refine lm (v := .pointer (some ⟨g1, 0, none⟩)) rfl rfl ?_
              refine lv (v := .slice p1 week.length c1) rfl rfl (yb_loadc (off := 0) rfl (by kernel_rfl) (.head _) Tryd.underlying22 rfl (by kernel_rfl)) ?_
              refine lm (v := .int .i64 (week.length : Int)) rfl rfl ?_
              refine lp (v := .bool false) rfl rfl (run_bin rfl (vx := .int .i64 (week.length : Int)) (vy := .int .i64 0) (by kernel_rfl) (by kernel_rfl) fun w => run_eqlI (decide_eq_false (by omega)) w) ?_
              refine lm (v := .bool false) rfl rfl ?_
              refine lm (v := .pointer (some ⟨g1, 0, none⟩)) rfl rfl ?_
              refine lv (v := .slice p1 week.length c1) rfl rfl (yb_loadc (off := 0) rfl (by kernel_rfl) (.head _) Tryd.underlying22 rfl (by kernel_rfl)) ?_
              refine lm (v := .pointer (some ⟨g1, 0, none⟩)) rfl rfl ?_
              refine lv (v := .slice p1 week.length c1) rfl rfl (yb_loadc (off := 0) rfl (by kernel_rfl) (.head _) Tryd.underlying22 rfl (by kernel_rfl)) ?_
              refine lm (v := .int .i64 (week.length : Int)) rfl rfl ?_
              refine lp (v := .int .i64 ((week.length - 1 : Nat) : Int)) rfl rfl (run_bin rfl (vx := .int .i64 (week.length : Int)) (vy := .int .i64 1) (by kernel_rfl) (by kernel_rfl) fun w => run_subI (z := ((week.length - 1 : Nat) : Int)) (by omega) (by omega) w) ?_
              refine lp (v := .pointer (some ⟨bl, ol + 2 * (week.length - 1), none⟩)) rfl rfl (run_idxp (b := bl) (off := ol) (n := week.length) (cap := c1) (k := week.length - 1) rfl (by kernel_rfl) hpl (by kernel_rfl) (by omega)) ?_
              refine lm (v := .pointer (some ⟨bl, ol + 2 * (week.length - 1) + 1, none⟩)) rfl rfl ?_
              refine lv (v := .int .i64 tl) rfl rfl (yb_load1 rfl (by kernel_rfl) (hcl (week.length - 1) (fl, tl) hgl).2 (World.block_lt_of_cell? _ _ (hcl (week.length - 1) (fl, tl) hgl).2) Tryd.underlying3 rfl) ?_
              refine lp (v := .bool false) rfl rfl (run_bin rfl (vx := .int .i64 tl) (vy := .int .i64 10080) (by kernel_rfl) (by kernel_rfl) fun w => run_leqI (decide_eq_false htl) w) ?_
              refine lm (v := .bool false) rfl rfl ?_
              refine lm (v := .bool false) rfl rfl ?_
              refine wpL_done (fun W3 hW3 => ?_)
              clear hW2
              refine (show Code.wp _ _ _ _ _ from ?_)
              refine wp_ret ?_
              try simp only [inBlock_ret, then_ret]
              go_ret
              exact ⟨rfl, hW3.1⟩
        · have hapw := fun (W : World) (hc : SL W p1 week) => Apart_any p1 c1 week W hc (by omega)
          rw [haw] at hapw
          have hapc := fun (W : World) (hc : SL W p2 closed) => Apart_any p2 c2 closed W hc (by omega)
          rw [(Bool.not_eq_true _).mp hac] at hapc
          have hr : rightS week closed = false := by unfold rightS; simp [hw50, hc200, haw, (Bool.not_eq_true _).mp hac]
          rw [hr]
          have HC := Lib.hid (And.intro h1 h2)
          clear h1 h2
          go_enter Tryd.func26, Tryd.ntmps26
          refine wp_seq ?_
          refine wp_region_L (W0 := w) [] (KS.start w) ?_
          refine wpL_new (fun g => .pointer (some ⟨g, 0, none⟩)) (obi := .cells #[.slice p1 week.length c1, .slice p2 closed.length c2] 24 (0, 0)) rfl rfl (fun _ => by kernel_rfl) (fun _ => by simp only [List.setIfInBounds_toArray, List.set_cons_succ, List.set_cons_zero] <;> rfl) fun g1 Bg1 Fg1 => ?_
          try simp only [List.forall_mem_cons] at Fg1
          refine lm (v := .bool false) rfl rfl ?_
          refine wpL_done (fun W1 hW1 => ?_)
          refine (show Code.wp _ _ _ _ _ from ?_)
          refine wp_seq ?_
          refine wp_seq ?_
          refine wp_region_L (W0 := w) [(g1, .cells #[.slice p1 week.length c1, .slice p2 closed.length c2] 24 (0, 0))] (hW1) ?_
          refine lm (v := .pointer (some ⟨g1, 0, none⟩)) rfl rfl ?_
          refine lv (v := .slice p1 week.length c1) rfl rfl (yb_loadc (off := 0) rfl (by kernel_rfl) (.head _) Tryd.underlying22 rfl (by kernel_rfl)) ?_
          refine lm (v := .int .i64 (week.length : Int)) rfl rfl ?_
          refine lp (v := .bool false) rfl rfl (run_bin rfl (vx := .int .i64 (week.length : Int)) (vy := .int .i64 50) (by kernel_rfl) (by kernel_rfl) fun w => run_gtrI (decide_eq_false (by omega)) w) ?_
          refine lm (v := .bool false) rfl rfl ?_
          refine lm (v := .pointer (some ⟨g1, 1, none⟩)) rfl rfl ?_
          refine lv (v := .slice p2 closed.length c2) rfl rfl (yb_loadc (off := 1) rfl (by kernel_rfl) (.head _) Tryd.underlying22 rfl (by kernel_rfl)) ?_
          refine lm (v := .int .i64 (closed.length : Int)) rfl rfl ?_
          refine lp (v := .bool false) rfl rfl (run_bin rfl (vx := .int .i64 (closed.length : Int)) (vy := .int .i64 200) (by kernel_rfl) (by kernel_rfl) fun w => run_gtrI (decide_eq_false (by omega)) w) ?_
          refine lm (v := .bool false) rfl rfl ?_
          refine lm (v := .bool false) rfl rfl ?_
          refine lm (v := .pointer (some ⟨g1, 0, none⟩)) rfl rfl ?_
          refine lv (v := .slice p1 week.length c1) rfl rfl (yb_loadc (off := 0) rfl (by kernel_rfl) (.head _) Tryd.underlying22 rfl (by kernel_rfl)) ?_
          refine lv (v := .bool true) rfl rfl (yb_call (f := 27) (args := #[.slice p1 week.length c1]) (fun _ => by kernel_rfl) fun W hW => hapw W (sl_keep HC.out.1 hW.1)) ?_
          refine lm (v := .bool false) rfl rfl ?_
          refine lm (v := .bool false) rfl rfl ?_
          refine lm (v := .bool false) rfl rfl ?_
          refine lm (v := .pointer (some ⟨g1, 1, none⟩)) rfl rfl ?_
          refine lv (v := .slice p2 closed.length c2) rfl rfl (yb_loadc (off := 1) rfl (by kernel_rfl) (.head _) Tryd.underlying22 rfl (by kernel_rfl)) ?_
          refine lv (v := .bool false) rfl rfl (yb_call (f := 27) (args := #[.slice p2 closed.length c2]) (fun _ => by kernel_rfl) fun W hW => hapc W (sl_keep HC.out.2 hW.1)) ?_
          refine lm (v := .bool true) rfl rfl ?_
          refine lm (v := .bool true) rfl rfl ?_
          refine wpL_done (fun W2 hW2 => ?_)
          clear hW1
          refine (show Code.wp _ _ _ _ _ from ?_)
          refine wp_cond_true rfl ?_
          refine wp_seq ?_
          refine wp_region_L (W0 := w) [(g1, .cells #[.slice p1 week.length c1, .slice p2 closed.length c2] 24 (0, 0))] (hW2) ?_
          refine lm (v := .bool false) rfl rfl ?_
          refine wpL_done (fun W3 hW3 => ?_)
          clear hW2
          refine (show Code.wp _ _ _ _ _ from ?_)
          refine wp_ret ?_
          try simp only [inBlock_ret, then_ret]
          go_ret
          exact ⟨rfl, hW3.1⟩
      · have hapw := fun (W : World) (hc : SL W p1 week) => Apart_any p1 c1 week W hc (by omega)
        rw [(Bool.not_eq_true _).mp haw] at hapw
        have hr : rightS week closed = false := by unfold rightS; simp [hw50, hc200, (Bool.not_eq_true _).mp haw]
        rw [hr]
        have HC := Lib.hid (And.intro h1 h2)
        clear h1 h2
        go_enter Tryd.func26, Tryd.ntmps26
        refine wp_seq ?_
        refine wp_region_L (W0 := w) [] (KS.start w) ?_
        refine wpL_new (fun g => .pointer (some ⟨g, 0, none⟩)) (obi := .cells #[.slice p1 week.length c1, .slice p2 closed.length c2] 24 (0, 0)) rfl rfl (fun _ => by kernel_rfl) (fun _ => by simp only [List.setIfInBounds_toArray, List.set_cons_succ, List.set_cons_zero] <;> rfl) fun g1 Bg1 Fg1 => ?_
        try simp only [List.forall_mem_cons] at Fg1
        refine lm (v := .bool false) rfl rfl ?_
        refine wpL_done (fun W1 hW1 => ?_)
        refine (show Code.wp _ _ _ _ _ from ?_)
        refine wp_seq ?_
        refine wp_seq ?_
        refine wp_region_L (W0 := w) [(g1, .cells #[.slice p1 week.length c1, .slice p2 closed.length c2] 24 (0, 0))] (hW1) ?_
        refine lm (v := .pointer (some ⟨g1, 0, none⟩)) rfl rfl ?_
        refine lv (v := .slice p1 week.length c1) rfl rfl (yb_loadc (off := 0) rfl (by kernel_rfl) (.head _) Tryd.underlying22 rfl (by kernel_rfl)) ?_
        refine lm (v := .int .i64 (week.length : Int)) rfl rfl ?_
        refine lp (v := .bool false) rfl rfl (run_bin rfl (vx := .int .i64 (week.length : Int)) (vy := .int .i64 50) (by kernel_rfl) (by kernel_rfl) fun w => run_gtrI (decide_eq_false (by omega)) w) ?_
        refine lm (v := .bool false) rfl rfl ?_
        refine lm (v := .pointer (some ⟨g1, 1, none⟩)) rfl rfl ?_
        refine lv (v := .slice p2 closed.length c2) rfl rfl (yb_loadc (off := 1) rfl (by kernel_rfl) (.head _) Tryd.underlying22 rfl (by kernel_rfl)) ?_
        refine lm (v := .int .i64 (closed.length : Int)) rfl rfl ?_
        refine lp (v := .bool false) rfl rfl (run_bin rfl (vx := .int .i64 (closed.length : Int)) (vy := .int .i64 200) (by kernel_rfl) (by kernel_rfl) fun w => run_gtrI (decide_eq_false (by omega)) w) ?_
        refine lm (v := .bool false) rfl rfl ?_
        refine lm (v := .bool false) rfl rfl ?_
        refine lm (v := .pointer (some ⟨g1, 0, none⟩)) rfl rfl ?_
        refine lv (v := .slice p1 week.length c1) rfl rfl (yb_loadc (off := 0) rfl (by kernel_rfl) (.head _) Tryd.underlying22 rfl (by kernel_rfl)) ?_
        refine lv (v := .bool false) rfl rfl (yb_call (f := 27) (args := #[.slice p1 week.length c1]) (fun _ => by kernel_rfl) fun W hW => hapw W (sl_keep HC.out.1 hW.1)) ?_
        refine lm (v := .bool true) rfl rfl ?_
        refine lm (v := .bool true) rfl rfl ?_
        refine lm (v := .bool true) rfl rfl ?_
        refine ln rfl ?_
        refine ln rfl ?_
        refine ln rfl ?_
        refine ln rfl ?_
        refine lm (v := .bool true) rfl rfl ?_
        refine wpL_done (fun W2 hW2 => ?_)
        clear hW1
        refine (show Code.wp _ _ _ _ _ from ?_)
        refine wp_cond_true rfl ?_
        refine wp_seq ?_
        refine wp_region_L (W0 := w) [(g1, .cells #[.slice p1 week.length c1, .slice p2 closed.length c2] 24 (0, 0))] (hW2) ?_
        refine lm (v := .bool false) rfl rfl ?_
        refine wpL_done (fun W3 hW3 => ?_)
        clear hW2
        refine (show Code.wp _ _ _ _ _ from ?_)
        refine wp_ret ?_
        try simp only [inBlock_ret, then_ret]
        go_ret
        exact ⟨rfl, hW3.1⟩
    · have hr : rightS week closed = false := by unfold rightS; simp [hw50, hc200]
      rw [hr]
      have HC := Lib.hid (And.intro h1 h2)
      clear h1 h2
      go_enter Tryd.func26, Tryd.ntmps26
      refine wp_seq ?_
      refine wp_region_L (W0 := w) [] (KS.start w) ?_
      refine wpL_new (fun g => .pointer (some ⟨g, 0, none⟩)) (obi := .cells #[.slice p1 week.length c1, .slice p2 closed.length c2] 24 (0, 0)) rfl rfl (fun _ => by kernel_rfl) (fun _ => by simp only [List.setIfInBounds_toArray, List.set_cons_succ, List.set_cons_zero] <;> rfl) fun g1 Bg1 Fg1 => ?_
      try simp only [List.forall_mem_cons] at Fg1
      refine lm (v := .bool false) rfl rfl ?_
      refine wpL_done (fun W1 hW1 => ?_)
      refine (show Code.wp _ _ _ _ _ from ?_)
      refine wp_seq ?_
      refine wp_seq ?_
      refine wp_region_L (W0 := w) [(g1, .cells #[.slice p1 week.length c1, .slice p2 closed.length c2] 24 (0, 0))] (hW1) ?_
      refine lm (v := .pointer (some ⟨g1, 0, none⟩)) rfl rfl ?_
      refine lv (v := .slice p1 week.length c1) rfl rfl (yb_loadc (off := 0) rfl (by kernel_rfl) (.head _) Tryd.underlying22 rfl (by kernel_rfl)) ?_
      refine lm (v := .int .i64 (week.length : Int)) rfl rfl ?_
      refine lp (v := .bool false) rfl rfl (run_bin rfl (vx := .int .i64 (week.length : Int)) (vy := .int .i64 50) (by kernel_rfl) (by kernel_rfl) fun w => run_gtrI (decide_eq_false (by omega)) w) ?_
      refine lm (v := .bool false) rfl rfl ?_
      refine lm (v := .pointer (some ⟨g1, 1, none⟩)) rfl rfl ?_
      refine lv (v := .slice p2 closed.length c2) rfl rfl (yb_loadc (off := 1) rfl (by kernel_rfl) (.head _) Tryd.underlying22 rfl (by kernel_rfl)) ?_
      refine lm (v := .int .i64 (closed.length : Int)) rfl rfl ?_
      refine lp (v := .bool true) rfl rfl (run_bin rfl (vx := .int .i64 (closed.length : Int)) (vy := .int .i64 200) (by kernel_rfl) (by kernel_rfl) fun w => run_gtrI (decide_eq_true (by omega)) w) ?_
      refine lm (v := .bool true) rfl rfl ?_
      refine lm (v := .bool true) rfl rfl ?_
      refine ln rfl ?_
      refine ln rfl ?_
      refine ln rfl ?_
      refine ln rfl ?_
      refine lm (v := .bool true) rfl rfl ?_
      refine lm (v := .bool true) rfl rfl ?_
      refine ln rfl ?_
      refine ln rfl ?_
      refine ln rfl ?_
      refine ln rfl ?_
      refine lm (v := .bool true) rfl rfl ?_
      refine wpL_done (fun W2 hW2 => ?_)
      clear hW1
      refine (show Code.wp _ _ _ _ _ from ?_)
      refine wp_cond_true rfl ?_
      refine wp_seq ?_
      refine wp_region_L (W0 := w) [(g1, .cells #[.slice p1 week.length c1, .slice p2 closed.length c2] 24 (0, 0))] (hW2) ?_
      refine lm (v := .bool false) rfl rfl ?_
      refine wpL_done (fun W3 hW3 => ?_)
      clear hW2
      refine (show Code.wp _ _ _ _ _ from ?_)
      refine wp_ret ?_
      try simp only [inBlock_ret, then_ret]
      go_ret
      exact ⟨rfl, hW3.1⟩
  · have hr : rightS week closed = false := by unfold rightS; simp [hw50]
    rw [hr]
    have HC := Lib.hid (And.intro h1 h2)
    clear h1 h2
    go_enter Tryd.func26, Tryd.ntmps26
    refine wp_seq ?_
    refine wp_region_L (W0 := w) [] (KS.start w) ?_
    refine wpL_new (fun g => .pointer (some ⟨g, 0, none⟩)) (obi := .cells #[.slice p1 week.length c1, .slice p2 closed.length c2] 24 (0, 0)) rfl rfl (fun _ => by kernel_rfl) (fun _ => by simp only [List.setIfInBounds_toArray, List.set_cons_succ, List.set_cons_zero] <;> rfl) fun g1 Bg1 Fg1 => ?_
    try simp only [List.forall_mem_cons] at Fg1
    refine lm (v := .bool false) rfl rfl ?_
    refine wpL_done (fun W1 hW1 => ?_)
    refine (show Code.wp _ _ _ _ _ from ?_)
    refine wp_seq ?_
    refine wp_seq ?_
    refine wp_region_L (W0 := w) [(g1, .cells #[.slice p1 week.length c1, .slice p2 closed.length c2] 24 (0, 0))] (hW1) ?_
    refine lm (v := .pointer (some ⟨g1, 0, none⟩)) rfl rfl ?_
    refine lv (v := .slice p1 week.length c1) rfl rfl (yb_loadc (off := 0) rfl (by kernel_rfl) (.head _) Tryd.underlying22 rfl (by kernel_rfl)) ?_
    refine lm (v := .int .i64 (week.length : Int)) rfl rfl ?_
    refine lp (v := .bool true) rfl rfl (run_bin rfl (vx := .int .i64 (week.length : Int)) (vy := .int .i64 50) (by kernel_rfl) (by kernel_rfl) fun w => run_gtrI (decide_eq_true (by omega)) w) ?_
    refine lm (v := .bool true) rfl rfl ?_
    refine ln rfl ?_
    refine ln rfl ?_
    refine ln rfl ?_
    refine ln rfl ?_
    refine lm (v := .bool true) rfl rfl ?_
    refine lm (v := .bool true) rfl rfl ?_
    refine ln rfl ?_
    refine ln rfl ?_
    refine ln rfl ?_
    refine ln rfl ?_
    refine lm (v := .bool true) rfl rfl ?_
    refine lm (v := .bool true) rfl rfl ?_
    refine ln rfl ?_
    refine ln rfl ?_
    refine ln rfl ?_
    refine ln rfl ?_
    refine lm (v := .bool true) rfl rfl ?_
    refine wpL_done (fun W2 hW2 => ?_)
    clear hW1
    refine (show Code.wp _ _ _ _ _ from ?_)
    refine wp_cond_true rfl ?_
    refine wp_seq ?_
    refine wp_region_L (W0 := w) [(g1, .cells #[.slice p1 week.length c1, .slice p2 closed.length c2] 24 (0, 0))] (hW2) ?_
    refine lm (v := .bool false) rfl rfl ?_
    refine wpL_done (fun W3 hW3 => ?_)
    clear hW2
    refine (show Code.wp _ _ _ _ _ from ?_)
    refine wp_ret ?_
    try simp only [inBlock_ret, then_ret]
    go_ret
    exact ⟨rfl, hW3.1⟩
end Go.Proofs.YtjmcelgdjpdacaaDoor
