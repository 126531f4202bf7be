import Derived.Test.YthpooalhibedpaaTQ05
import Derived.Test.YthpooalhibedpaaTQ06
/- ShipTells: the law holds for every input; no condition but the row's own. -/
set_option linter.unusedVariables false
set_option linter.unusedSimpArgs false
set_option linter.unusedSectionVars false
namespace Go.Proofs.Ythpooalhibedpaa
open Go Go.RowKit Tw
theorem along_len (cs : List Col) (os : List Cov) (n : Int) (d : Bool) : (alongX cs os n d).length ≤ cs.length := by
  unfold alongX
  split
  · exact idxF_len _ cs 0
  · exact Nat.zero_le _
theorem lentOA_rw {W : World} {l X : List Cov} (h : LentOA W l X) : RwR W X := fun o ho => by
  obtain ⟨j, hj⟩ := List.getElem?_of_mem ho
  obtain ⟨y, q, d, _, rfl, _, h4⟩ := h j o hj
  exact slv_pre0 h4
theorem lentCA_pl {W : World} {l X : List Col} (h : LentCA W l X) : PlR W X := fun o ho => by
  obtain ⟨j, hj⟩ := List.getElem?_of_mem ho
  obtain ⟨y, q, d, _, rfl, _, h4⟩ := h j o hj
  exact slv_pre0 h4
theorem lentO_len {l X : List Cov} {T : List (Nat × Obj)} {m : Nat} (h : LentO l X T) (hl : ∀ o ∈ l, o.rows.length ≤ m) : ∀ o ∈ X, o.rows.length ≤ m := fun o ho => by
  obtain ⟨j, hj⟩ := List.getElem?_of_mem ho
  obtain ⟨y, q, d, h1, rfl, _, _⟩ := h j o hj
  exact hl y (List.mem_of_getElem? h1)
theorem lentC_len {l X : List Col} {T : List (Nat × Obj)} {m : Nat} (h : LentC l X T) (hl : ∀ o ∈ l, o.plugs.length ≤ m) : ∀ o ∈ X, o.plugs.length ≤ m := fun o ho => by
  obtain ⟨j, hj⟩ := List.getElem?_of_mem ho
  obtain ⟨y, q, d, h1, rfl, _, _⟩ := h j o hj
  exact hl y (List.mem_of_getElem? h1)
set_option maxRecDepth 100000 in
set_option maxHeartbeats 4000000 in
theorem ShipTells_law (s : Sp) (n1 : s.cs.length ≤ 17592186044403) (n2 : s.os.length ≤ 17592186044403) (lr : ∀ o ∈ s.os, o.rows.length ≤ 17592186044403) (lq : ∀ c ∈ s.cs, c.plugs.length ≤ 17592186044403) (hrow : ∀ c ∈ s.cs, rowOk c) (bay row n : Int) (deck : Bool) (w : World) (hc : SLV w s.pc (s.cs.flatMap colC)) (ho : SLV w s.po (s.os.flatMap covC)) (hin : fewX s.cs s.os = true → SpIn w s) : Calls Try.prog 3 #[.agg (spC s).toArray, .int .i64 bay, .int .i64 row, .int .i64 n, .bool deck] w fun e w' => e = .returned (.bool true) ∧ Below w.heap.size w w' := by
  go_enter Try.func3, Try.ntmps3
  refine wp_seq ?_
  refine wp_region_L (W0 := w) [] (KS.start w) ?_
  refine wpL_new (fun g => .pointer (some ⟨g, 0, none⟩)) (obi := .cells #[.slice s.pc s.cs.length s.cc, .slice s.po s.os.length s.co, .int .i64 s.li.a, .int .i64 s.li.b, .int .i64 s.li.c, .int .i64 s.li.d, .slice s.pr s.rs.length s.cr, .slice s.pf s.fs.length s.cf, .slice s.pt s.ts.length s.ct, .int .i64 s.lm.a, .int .i64 s.lm.b, .int .i64 s.lm.c, .int .i64 s.lm.d] 32 (0, 0)) rfl rfl (fun _ => by kernel_rfl) (fun _ => by simp only [List.setIfInBounds_toArray, List.set_cons_succ, List.set_cons_zero] <;> rfl) fun g1 Bg1 Fg1 => ?_
  refine lm (v := .bool false) rfl rfl ?_
  refine wpL_done (fun W1 hW1 => ?_)
  refine (show Code.wp _ _ _ _ _ from ?_)
  refine wp_seq ?_
  refine wp_seq ?_
  refine wp_region_L (W0 := w) [(g1, .cells #[.slice s.pc s.cs.length s.cc, .slice s.po s.os.length s.co, .int .i64 s.li.a, .int .i64 s.li.b, .int .i64 s.li.c, .int .i64 s.li.d, .slice s.pr s.rs.length s.cr, .slice s.pf s.fs.length s.cf, .slice s.pt s.ts.length s.ct, .int .i64 s.lm.a, .int .i64 s.lm.b, .int .i64 s.lm.c, .int .i64 s.lm.d] 32 (0, 0))] (hW1) ?_
  refine lv (v := .agg #[.slice s.pc s.cs.length s.cc, .slice s.po s.os.length s.co, .int .i64 s.li.a, .int .i64 s.li.b, .int .i64 s.li.c, .int .i64 s.li.d, .slice s.pr s.rs.length s.cr, .slice s.pf s.fs.length s.cf, .slice s.pt s.ts.length s.ct, .int .i64 s.lm.a, .int .i64 s.lm.b, .int .i64 s.lm.c, .int .i64 s.lm.d]) rfl rfl (yb_load (n := 13) (off := 0) rfl (by kernel_rfl) (.head _) Try.underlying32 rfl (by kernel_rfl) (by first | (simp [Value.cells]; done) | exact Nat.le_of_ble_eq_true rfl) (by kernel_rfl)) ?_
  refine lv (v := .bool (fewX s.cs s.os)) rfl rfl (yb_call (f := 5) (args := #[.agg #[.slice s.pc s.cs.length s.cc, .slice s.po s.os.length s.co, .int .i64 s.li.a, .int .i64 s.li.b, .int .i64 s.li.c, .int .i64 s.li.d, .slice s.pr s.rs.length s.cr, .slice s.pf s.fs.length s.cf, .slice s.pt s.ts.length s.ct, .int .i64 s.lm.a, .int .i64 s.lm.b, .int .i64 s.lm.c, .int .i64 s.lm.d]]) (fun _ => by kernel_rfl) fun W hW => fewL_any s.cs s.pc s.cc n1 s.os s.po s.co n2 (spT s) W ((hc).keep hW.1) ((ho).keep hW.1) lr lq) ?_
  refine lp (v := .bool (!(fewX s.cs s.os))) rfl rfl (run_un rfl (by kernel_rfl) fun w => un_not w) ?_
  refine wpL_done (fun W2 hW2 => ?_)
  refine (show Code.wp _ _ _ _ _ from ?_)
  cases h1 : (fewX s.cs s.os) with
  | false =>
    refine wp_cond_true rfl ?_
    refine wp_seq ?_
    refine wp_region_L (W0 := w) [(g1, .cells #[.slice s.pc s.cs.length s.cc, .slice s.po s.os.length s.co, .int .i64 s.li.a, .int .i64 s.li.b, .int .i64 s.li.c, .int .i64 s.li.d, .slice s.pr s.rs.length s.cr, .slice s.pf s.fs.length s.cf, .slice s.pt s.ts.length s.ct, .int .i64 s.lm.a, .int .i64 s.lm.b, .int .i64 s.lm.c, .int .i64 s.lm.d] 32 (0, 0))] (hW2) ?_
    refine lv (v := .bool true) rfl rfl (yb_call (f := 6) (args := #[]) (fun _ => by kernel_rfl) fun W hW => awake_any W) ?_
    refine lm (v := .bool true) rfl rfl ?_
    refine wpL_done (fun W3 hW3 => ?_)
    refine (show Code.wp _ _ _ _ _ from ?_)
    refine wp_ret ?_
    try simp only [inBlock_ret, then_ret]
    refine bodyPost_ret (v := .bool true) ?_ rfl ?_
    · kernel_rfl
    · exact ⟨rfl, hW3.1⟩
  | true =>
    refine wp_cond_false rfl ?_
    refine wp_skip ?_
    refine (show Code.wp _ _ _ _ _ from ?_)
    refine wp_seq ?_
    refine wp_region_L (W0 := w) [(g1, .cells #[.slice s.pc s.cs.length s.cc, .slice s.po s.os.length s.co, .int .i64 s.li.a, .int .i64 s.li.b, .int .i64 s.li.c, .int .i64 s.li.d, .slice s.pr s.rs.length s.cr, .slice s.pf s.fs.length s.cf, .slice s.pt s.ts.length s.ct, .int .i64 s.lm.a, .int .i64 s.lm.b, .int .i64 s.lm.c, .int .i64 s.lm.d] 32 (0, 0))] (hW2) ?_
    refine lv (v := .agg #[.slice s.pc s.cs.length s.cc, .slice s.po s.os.length s.co, .int .i64 s.li.a, .int .i64 s.li.b, .int .i64 s.li.c, .int .i64 s.li.d, .slice s.pr s.rs.length s.cr, .slice s.pf s.fs.length s.cf, .slice s.pt s.ts.length s.ct, .int .i64 s.lm.a, .int .i64 s.lm.b, .int .i64 s.lm.c, .int .i64 s.lm.d]) rfl rfl (yb_load (n := 13) (off := 0) rfl (by kernel_rfl) (.head _) Try.underlying32 rfl (by kernel_rfl) (by first | (simp [Value.cells]; done) | exact Nat.le_of_ble_eq_true rfl) (by kernel_rfl)) ?_
    have hI := hin (by simpa using h1)
    obtain ⟨k1, k2, _, _⟩ := few_is (by simpa using h1)
    have hs1 : s.cs.length ≤ 4000000000 := by omega
    have hs2 : s.os.length ≤ 4000000000 := by omega
    refine wpL_c (f := 7) (args := #[.agg #[.slice s.pc s.cs.length s.cc, .slice s.po s.os.length s.co, .int .i64 s.li.a, .int .i64 s.li.b, .int .i64 s.li.c, .int .i64 s.li.d, .slice s.pr s.rs.length s.cr, .slice s.pf s.fs.length s.cf, .slice s.pt s.ts.length s.ct, .int .i64 s.lm.a, .int .i64 s.lm.b, .int .i64 s.lm.c, .int .i64 s.lm.d]]) (NewF (fun T v => ∃ t : Sp, v = .agg #[.slice t.pc t.cs.length t.cc, .slice t.po t.os.length t.co, .int .i64 t.li.a, .int .i64 t.li.b, .int .i64 t.li.c, .int .i64 t.li.d, .slice t.pr t.rs.length t.cr, .slice t.pf t.fs.length t.cf, .slice t.pt t.ts.length t.ct, .int .i64 t.lm.a, .int .i64 t.lm.b, .int .i64 t.lm.c, .int .i64 t.lm.d] ∧ LentSp s t T) w [(g1, .cells #[.slice s.pc s.cs.length s.cc, .slice s.po s.os.length s.co, .int .i64 s.li.a, .int .i64 s.li.b, .int .i64 s.li.c, .int .i64 s.li.d, .slice s.pr s.rs.length s.cr, .slice s.pf s.fs.length s.cf, .slice s.pt s.ts.length s.ct, .int .i64 s.lm.a, .int .i64 s.lm.b, .int .i64 s.lm.c, .int .i64 s.lm.d] 32 (0, 0))]) rfl (by kernel_rfl) (fun _ => (by kernel_rfl)) (fun W hW => calls_new hW ((LentShip_any s W (hI.keep hW.1)).mono fun _ _ ⟨t, T, h1, h2, h3, h4⟩ => ⟨_, T, h1, ⟨t, rfl, h2⟩, h3, h4⟩)) (fun _ => by simp only [List.setIfInBounds_toArray, List.set_cons_succ, List.set_cons_zero] <;> rfl) ?_
    rintro _ _ ⟨TS, ⟨t, rfl, hL⟩, hTn, hTd, rfl⟩
    obtain dj2_0 : Dk g1 TS := by simpa only [dj_app_l, dj_app_r, dj_cons_l, dj_cons_r, dj_nil_l, dj_nil_r, dk_app, dk_cons, dk_nil, and_true, true_and, and_assoc] using (show Dj [(g1, .cells #[.slice s.pc s.cs.length s.cc, .slice s.po s.os.length s.co, .int .i64 s.li.a, .int .i64 s.li.b, .int .i64 s.li.c, .int .i64 s.li.d, .slice s.pr s.rs.length s.cr, .slice s.pf s.fs.length s.cf, .slice s.pt s.ts.length s.ct, .int .i64 s.lm.a, .int .i64 s.lm.b, .int .i64 s.lm.c, .int .i64 s.lm.d] 32 (0, 0))] TS from hTd)
    have ht1 : t.cs.length ≤ 4000000000 := by have := hL.cs.1; omega
    have ht2 : t.os.length ≤ 4000000000 := by have := hL.os.1; omega
    have hHC : ∀ W : World, (∀ b ∈ TS, W.heap[b.1]? = some b.2) → SLV W t.pc (t.cs.flatMap colC) := fun W hh => slv_preg (hL.cs.2.2.1 W hh)
    have hHO : ∀ W : World, (∀ b ∈ TS, W.heap[b.1]? = some b.2) → SLV W t.po (t.os.flatMap covC) := fun W hh => slv_preg (hL.os.2.2.1 W hh)
    obtain ⟨e1, e2, e3, e4, e5, e6, e7, e8, e9⟩ := lent_says hL
    obtain ⟨_, _, k3, k4⟩ := few_is (by simpa using h1)
    have ls3 : ∀ c ∈ s.cs, c.plugs.length ≤ 4000000000 := fun c hc => by have := k3 c hc; omega
    have ls4 : ∀ c ∈ s.os, c.rows.length ≤ 4000000000 := fun c hc => by have := k4 c hc; omega
    have lt3 := lentC_len hL.cs.2.1 ls3
    have lt4 := lentO_len hL.os.2.1 ls4
    refine wpL_new (fun g => .pointer (some ⟨g, 0, none⟩)) (obi := .cells (shC (.slice none 0 0) (.slice none 0 0) tl0).toArray 32 (0, 0)) rfl rfl (fun _ => by kernel_rfl) (fun _ => by simp only [List.setIfInBounds_toArray, List.set_cons_succ, List.set_cons_zero] <;> rfl) fun g3 Bg3 Fg3 => ?_
    obtain ⟨dj4_0, dj4_1⟩ : g1 ≠ g3 ∧ Dk g3 TS := by simpa only [dj_app_l, dj_app_r, dj_cons_l, dj_cons_r, dj_nil_l, dj_nil_r, dk_app, dk_cons, dk_nil, and_true, true_and, and_assoc] using (show Dk g3 ((g1, .cells #[.slice s.pc s.cs.length s.cc, .slice s.po s.os.length s.co, .int .i64 s.li.a, .int .i64 s.li.b, .int .i64 s.li.c, .int .i64 s.li.d, .slice s.pr s.rs.length s.cr, .slice s.pf s.fs.length s.cf, .slice s.pt s.ts.length s.ct, .int .i64 s.lm.a, .int .i64 s.lm.b, .int .i64 s.lm.c, .int .i64 s.lm.d] 32 (0, 0)) :: TS) from Fg3)
    refine wpL_s ((g3, .cells #[.slice t.pc t.cs.length t.cc, .slice t.po t.os.length t.co, .int .i64 t.li.a, .int .i64 t.li.b, .int .i64 t.li.c, .int .i64 t.li.d, .slice t.pr t.rs.length t.cr, .slice t.pf t.fs.length t.cf, .slice t.pt t.ts.length t.ct, .int .i64 t.lm.a, .int .i64 t.lm.b, .int .i64 t.lm.c, .int .i64 t.lm.d] 32 (0, 0)) :: (g1, .cells #[.slice s.pc s.cs.length s.cc, .slice s.po s.os.length s.co, .int .i64 s.li.a, .int .i64 s.li.b, .int .i64 s.li.c, .int .i64 s.li.d, .slice s.pr s.rs.length s.cr, .slice s.pf s.fs.length s.cf, .slice s.pt s.ts.length s.ct, .int .i64 s.lm.a, .int .i64 s.lm.b, .int .i64 s.lm.c, .int .i64 s.lm.d] 32 (0, 0)) :: TS) rfl rfl (st_row (off := 0) (v := .agg #[.slice t.pc t.cs.length t.cc, .slice t.po t.os.length t.co, .int .i64 t.li.a, .int .i64 t.li.b, .int .i64 t.li.c, .int .i64 t.li.d, .slice t.pr t.rs.length t.cr, .slice t.pf t.fs.length t.cf, .slice t.pt t.ts.length t.ct, .int .i64 t.lm.a, .int .i64 t.lm.b, .int .i64 t.lm.c, .int .i64 t.lm.d]) rfl (by kernel_rfl) (by kernel_rfl) (.head _) Bg3 (by kernel_rfl) (by first | (simp [Value.cells]; done) | exact Nat.le_of_ble_eq_true rfl) (by intro v hv; simp [Value.cells] at hv; first | (subst hv; rfl) | (rcases hv with rfl | rfl | rfl | rfl | rfl | rfl | rfl | rfl | rfl | rfl | rfl | rfl | rfl <;> rfl)) (by kernel_rfl) (List.forall_mem_cons.2 ⟨.inl rfl, (List.forall_mem_cons.2 ⟨.inr ⟨(.tail _ (.head _)), (by first | assumption | exact Ne.symm (by assumption))⟩, (fun p hp => .inr ⟨(.tail _ (.tail _ hp)), ((show Dk g3 TS from (by (try simp only [dj_app_l, dj_app_r, dj_cons_l, dj_cons_r, dj_nil_l, dj_nil_r, dk_app, dk_cons, dk_nil, and_true, true_and, and_assoc]); repeat' (first | trivial | assumption | exact Dj.symm (by assumption) | exact Ne.symm (by assumption) | apply And.intro))) _ hp)⟩)⟩)⟩)) ?_
    refine wpL_done (fun W4 hW4 => ?_)
    refine (show Code.wp _ _ _ _ _ from ?_)
    refine wp_seq ?_
    refine wp_region_L (W0 := w) ((g3, .cells #[.slice t.pc t.cs.length t.cc, .slice t.po t.os.length t.co, .int .i64 t.li.a, .int .i64 t.li.b, .int .i64 t.li.c, .int .i64 t.li.d, .slice t.pr t.rs.length t.cr, .slice t.pf t.fs.length t.cf, .slice t.pt t.ts.length t.ct, .int .i64 t.lm.a, .int .i64 t.lm.b, .int .i64 t.lm.c, .int .i64 t.lm.d] 32 (0, 0)) :: (g1, .cells #[.slice s.pc s.cs.length s.cc, .slice s.po s.os.length s.co, .int .i64 s.li.a, .int .i64 s.li.b, .int .i64 s.li.c, .int .i64 s.li.d, .slice s.pr s.rs.length s.cr, .slice s.pf s.fs.length s.cf, .slice s.pt s.ts.length s.ct, .int .i64 s.lm.a, .int .i64 s.lm.b, .int .i64 s.lm.c, .int .i64 s.lm.d] 32 (0, 0)) :: TS) (hW4) ?_
    refine lv (v := .agg #[.slice t.pc t.cs.length t.cc, .slice t.po t.os.length t.co, .int .i64 t.li.a, .int .i64 t.li.b, .int .i64 t.li.c, .int .i64 t.li.d, .slice t.pr t.rs.length t.cr, .slice t.pf t.fs.length t.cf, .slice t.pt t.ts.length t.ct, .int .i64 t.lm.a, .int .i64 t.lm.b, .int .i64 t.lm.c, .int .i64 t.lm.d]) rfl rfl (yb_load (n := 13) (off := 0) rfl (by kernel_rfl) (.head _) Try.underlying32 rfl (by kernel_rfl) (by first | (simp [Value.cells]; done) | exact Nat.le_of_ble_eq_true rfl) (by kernel_rfl)) ?_
    refine lm (v := .int .i64 bay) rfl rfl ?_
    refine lm (v := .int .i64 row) rfl rfl ?_
    refine lm (v := .bool deck) rfl rfl ?_
    refine lv (v := .tuple #[.int .i64 (findN (fst (isAt bay row deck) s.cs)), .bool ((fst (isAt bay row deck) s.cs).isSome)]) rfl rfl (yb_call (f := 8) (args := #[.agg #[.slice t.pc t.cs.length t.cc, .slice t.po t.os.length t.co, .int .i64 t.li.a, .int .i64 t.li.b, .int .i64 t.li.c, .int .i64 t.li.d, .slice t.pr t.rs.length t.cr, .slice t.pf t.fs.length t.cf, .slice t.pt t.ts.length t.ct, .int .i64 t.lm.a, .int .i64 t.lm.b, .int .i64 t.lm.c, .int .i64 t.lm.d], .int .i64 bay, .int .i64 row, .bool deck]) (fun _ => by kernel_rfl) fun W hW => (by have h9 := Find_any t.cs t.pc t.cc ht1 t.os t.po t.co ht2 (spT t) bay row deck W (hHC _ (fun b hb => hW.2 b (by simp only [List.mem_cons, List.mem_append, List.nil_append, List.not_mem_nil, or_assoc, or_false, false_or, hb, true_or, or_true]))) (hHO _ (fun b hb => hW.2 b (by simp only [List.mem_cons, List.mem_append, List.nil_append, List.not_mem_nil, or_assoc, or_false, false_or, hb, true_or, or_true]))); rw [e4] at h9; exact h9)) ?_
    refine lm (v := .tuple #[.int .i64 (findN (fst (isAt bay row deck) s.cs)), .bool ((fst (isAt bay row deck) s.cs).isSome)]) rfl rfl ?_
    refine lm (v := .int .i64 (findN (fst (isAt bay row deck) s.cs))) rfl rfl ?_
    refine lm (v := .bool ((fst (isAt bay row deck) s.cs).isSome)) rfl rfl ?_
    refine lm (v := .int .i64 (findN (fst (isAt bay row deck) s.cs))) rfl rfl ?_
    refine lm (v := .bool ((fst (isAt bay row deck) s.cs).isSome)) rfl rfl ?_
    refine wpL_done (fun W5 hW5 => ?_)
    refine (show Code.wp _ _ _ _ _ from ?_)
    refine wp_seq ?_
    refine wp_region_L (W0 := w) ((g3, .cells #[.slice t.pc t.cs.length t.cc, .slice t.po t.os.length t.co, .int .i64 t.li.a, .int .i64 t.li.b, .int .i64 t.li.c, .int .i64 t.li.d, .slice t.pr t.rs.length t.cr, .slice t.pf t.fs.length t.cf, .slice t.pt t.ts.length t.ct, .int .i64 t.lm.a, .int .i64 t.lm.b, .int .i64 t.lm.c, .int .i64 t.lm.d] 32 (0, 0)) :: (g1, .cells #[.slice s.pc s.cs.length s.cc, .slice s.po s.os.length s.co, .int .i64 s.li.a, .int .i64 s.li.b, .int .i64 s.li.c, .int .i64 s.li.d, .slice s.pr s.rs.length s.cr, .slice s.pf s.fs.length s.cf, .slice s.pt s.ts.length s.ct, .int .i64 s.lm.a, .int .i64 s.lm.b, .int .i64 s.lm.c, .int .i64 s.lm.d] 32 (0, 0)) :: TS) (hW5) ?_
    refine lv (v := .agg #[.slice s.pc s.cs.length s.cc, .slice s.po s.os.length s.co, .int .i64 s.li.a, .int .i64 s.li.b, .int .i64 s.li.c, .int .i64 s.li.d, .slice s.pr s.rs.length s.cr, .slice s.pf s.fs.length s.cf, .slice s.pt s.ts.length s.ct, .int .i64 s.lm.a, .int .i64 s.lm.b, .int .i64 s.lm.c, .int .i64 s.lm.d]) rfl rfl (yb_load (n := 13) (off := 0) rfl (by kernel_rfl) (.tail _ (.head _)) Try.underlying32 rfl (by kernel_rfl) (by first | (simp [Value.cells]; done) | exact Nat.le_of_ble_eq_true rfl) (by kernel_rfl)) ?_
    refine lm (v := .int .i64 bay) rfl rfl ?_
    refine lm (v := .int .i64 row) rfl rfl ?_
    refine lm (v := .bool deck) rfl rfl ?_
    refine lv (v := .tuple #[.int .i64 (findN (fst (isAt bay row deck) s.cs)), .bool ((fst (isAt bay row deck) s.cs).isSome)]) rfl rfl (yb_call (f := 9) (args := #[.agg #[.slice s.pc s.cs.length s.cc, .slice s.po s.os.length s.co, .int .i64 s.li.a, .int .i64 s.li.b, .int .i64 s.li.c, .int .i64 s.li.d, .slice s.pr s.rs.length s.cr, .slice s.pf s.fs.length s.cf, .slice s.pt s.ts.length s.ct, .int .i64 s.lm.a, .int .i64 s.lm.b, .int .i64 s.lm.c, .int .i64 s.lm.d], .int .i64 bay, .int .i64 row, .bool deck]) (fun _ => by kernel_rfl) fun W hW => RFind_any s.cs s.pc s.cc hs1 s.os s.po s.co hs2 (spT s) bay row deck W ((hc).keep hW.1) ((ho).keep hW.1)) ?_
    refine lm (v := .tuple #[.int .i64 (findN (fst (isAt bay row deck) s.cs)), .bool ((fst (isAt bay row deck) s.cs).isSome)]) rfl rfl ?_
    refine lm (v := .int .i64 (findN (fst (isAt bay row deck) s.cs))) rfl rfl ?_
    refine lm (v := .bool ((fst (isAt bay row deck) s.cs).isSome)) rfl rfl ?_
    refine lm (v := .int .i64 (findN (fst (isAt bay row deck) s.cs))) rfl rfl ?_
    refine lm (v := .bool ((fst (isAt bay row deck) s.cs).isSome)) rfl rfl ?_
    refine wpL_done (fun W6 hW6 => ?_)
    refine (show Code.wp _ _ _ _ _ from ?_)
    refine wp_seq ?_
    refine wp_seq ?_
    refine wp_region_V (W0 := w) ((g3, .cells #[.slice t.pc t.cs.length t.cc, .slice t.po t.os.length t.co, .int .i64 t.li.a, .int .i64 t.li.b, .int .i64 t.li.c, .int .i64 t.li.d, .slice t.pr t.rs.length t.cr, .slice t.pf t.fs.length t.cf, .slice t.pt t.ts.length t.ct, .int .i64 t.lm.a, .int .i64 t.lm.b, .int .i64 t.lm.c, .int .i64 t.lm.d] 32 (0, 0)) :: (g1, .cells #[.slice s.pc s.cs.length s.cc, .slice s.po s.os.length s.co, .int .i64 s.li.a, .int .i64 s.li.b, .int .i64 s.li.c, .int .i64 s.li.d, .slice s.pr s.rs.length s.cr, .slice s.pf s.fs.length s.cf, .slice s.pt s.ts.length s.ct, .int .i64 s.lm.a, .int .i64 s.lm.b, .int .i64 s.lm.c, .int .i64 s.lm.d] 32 (0, 0)) :: TS) (by kernel_rfl) (hW6) ?_
    refine vm (i := 0) (v := .int .i64 (findN (fst (isAt bay row deck) s.cs))) rfl rfl rfl ?_
    refine vm (i := 1) (v := .int .i64 (findN (fst (isAt bay row deck) s.cs))) rfl rfl rfl ?_
    refine vp (i := 2) (v := .bool false) rfl rfl rfl (run_bin rfl (vx := (.int .i64 (findN (fst (isAt bay row deck) s.cs)))) (vy := (.int .i64 (findN (fst (isAt bay row deck) s.cs)))) (by kernel_rfl) (by kernel_rfl) fun w => bi_neq (decide_eq_true rfl) w) ?_
    refine vm (i := 3) (v := .bool false) rfl rfl rfl ?_
    refine vm (i := 4) (v := .bool ((fst (isAt bay row deck) s.cs).isSome)) rfl rfl rfl ?_
    refine vm (i := 5) (v := .bool ((fst (isAt bay row deck) s.cs).isSome)) rfl rfl rfl ?_
    refine vp (i := 6) (v := .bool (!(((fst (isAt bay row deck) s.cs).isSome) == ((fst (isAt bay row deck) s.cs).isSome)))) rfl rfl rfl (run_bin rfl (vx := .bool ((fst (isAt bay row deck) s.cs).isSome)) (vy := .bool ((fst (isAt bay row deck) s.cs).isSome)) (by kernel_rfl) (by kernel_rfl) fun w => bn_bool_neq rfl Try.underlying4 w) ?_
    refine vm (i := 7) (v := .bool (!(((fst (isAt bay row deck) s.cs).isSome) == ((fst (isAt bay row deck) s.cs).isSome)))) rfl rfl rfl ?_
    refine vm (i := 8) (v := .bool (!(((fst (isAt bay row deck) s.cs).isSome) == ((fst (isAt bay row deck) s.cs).isSome)))) rfl rfl rfl ?_
    cases h2 : (((fst (isAt bay row deck) s.cs).isSome) == ((fst (isAt bay row deck) s.cs).isSome)) with
    | false =>
      exact absurd (show (((fst (isAt bay row deck) s.cs).isSome) == ((fst (isAt bay row deck) s.cs).isSome)) = true from beq_self_eq_true _) (by rw [h2]; exact Bool.false_ne_true)
    | true =>
      refine vv (i := 9) (v := .agg #[.slice t.pc t.cs.length t.cc, .slice t.po t.os.length t.co, .int .i64 t.li.a, .int .i64 t.li.b, .int .i64 t.li.c, .int .i64 t.li.d, .slice t.pr t.rs.length t.cr, .slice t.pf t.fs.length t.cf, .slice t.pt t.ts.length t.ct, .int .i64 t.lm.a, .int .i64 t.lm.b, .int .i64 t.lm.c, .int .i64 t.lm.d]) rfl rfl rfl (yb_load (n := 13) (off := 0) rfl (by kernel_rfl) (.head _) Try.underlying32 rfl (by kernel_rfl) (by first | (simp [Value.cells]; done) | exact Nat.le_of_ble_eq_true rfl) (by kernel_rfl)) ?_
      refine vv (i := 10) (v := .bool (rightX s.cs s.os)) rfl rfl rfl (yb_call (f := 10) (args := #[.agg #[.slice t.pc t.cs.length t.cc, .slice t.po t.os.length t.co, .int .i64 t.li.a, .int .i64 t.li.b, .int .i64 t.li.c, .int .i64 t.li.d, .slice t.pr t.rs.length t.cr, .slice t.pf t.fs.length t.cf, .slice t.pt t.ts.length t.ct, .int .i64 t.lm.a, .int .i64 t.lm.b, .int .i64 t.lm.c, .int .i64 t.lm.d]]) (fun _ => by kernel_rfl) fun W hW => (by have h9 := Right_any t.cs t.pc t.cc ht1 t.os t.po t.co ht2 (spT t) W (hHC _ (fun b hb => hW.2 b (by simp only [List.mem_cons, List.mem_append, List.nil_append, List.not_mem_nil, or_assoc, or_false, false_or, hb, true_or, or_true]))) (hHO _ (fun b hb => hW.2 b (by simp only [List.mem_cons, List.mem_append, List.nil_append, List.not_mem_nil, or_assoc, or_false, false_or, hb, true_or, or_true]))) (lentOA_rw (hL.os.2.1.at (fun b hb => hW.2 b (by simp only [List.mem_cons, List.mem_append, List.nil_append, List.not_mem_nil, or_assoc, or_false, false_or, hb, true_or, or_true])))) lt4 (lentCA_pl (hL.cs.2.1.at (fun b hb => hW.2 b (by simp only [List.mem_cons, List.mem_append, List.nil_append, List.not_mem_nil, or_assoc, or_false, false_or, hb, true_or, or_true])))) lt3; rw [e1] at h9; exact h9)) ?_
      refine vv (i := 11) (v := .agg #[.slice s.pc s.cs.length s.cc, .slice s.po s.os.length s.co, .int .i64 s.li.a, .int .i64 s.li.b, .int .i64 s.li.c, .int .i64 s.li.d, .slice s.pr s.rs.length s.cr, .slice s.pf s.fs.length s.cf, .slice s.pt s.ts.length s.ct, .int .i64 s.lm.a, .int .i64 s.lm.b, .int .i64 s.lm.c, .int .i64 s.lm.d]) rfl rfl rfl (yb_load (n := 13) (off := 0) rfl (by kernel_rfl) (.tail _ (.head _)) Try.underlying32 rfl (by kernel_rfl) (by first | (simp [Value.cells]; done) | exact Nat.le_of_ble_eq_true rfl) (by kernel_rfl)) ?_
      refine vv (i := 12) (v := .bool (rightX s.cs s.os)) rfl rfl rfl (yb_call (f := 11) (args := #[.agg #[.slice s.pc s.cs.length s.cc, .slice s.po s.os.length s.co, .int .i64 s.li.a, .int .i64 s.li.b, .int .i64 s.li.c, .int .i64 s.li.d, .slice s.pr s.rs.length s.cr, .slice s.pf s.fs.length s.cf, .slice s.pt s.ts.length s.ct, .int .i64 s.lm.a, .int .i64 s.lm.b, .int .i64 s.lm.c, .int .i64 s.lm.d]]) (fun _ => by kernel_rfl) fun W hW => RRight_any s.cs s.pc s.cc hs1 s.os s.po s.co hs2 (spT s) W ((hc).keep hW.1) ((ho).keep hW.1) ((hI.hr).keep hW.1) ls4 ((hI.hp).keep hW.1) ls3) ?_
      refine vp (i := 13) (v := .bool (!((rightX s.cs s.os) == (rightX s.cs s.os)))) rfl rfl rfl (run_bin rfl (vx := .bool (rightX s.cs s.os)) (vy := .bool (rightX s.cs s.os)) (by kernel_rfl) (by kernel_rfl) fun w => bn_bool_neq rfl Try.underlying4 w) ?_
      refine vm (i := 14) (v := .bool (!((rightX s.cs s.os) == (rightX s.cs s.os)))) rfl rfl rfl ?_
      refine vm (i := 15) (v := .bool (!((rightX s.cs s.os) == (rightX s.cs s.os)))) rfl rfl rfl ?_
      cases h3 : ((rightX s.cs s.os) == (rightX s.cs s.os)) with
      | false =>
        exact absurd (show ((rightX s.cs s.os) == (rightX s.cs s.os)) = true from beq_self_eq_true _) (by rw [h3]; exact Bool.false_ne_true)
      | true =>
        refine vv (i := 16) (v := .agg #[.slice t.pc t.cs.length t.cc, .slice t.po t.os.length t.co, .int .i64 t.li.a, .int .i64 t.li.b, .int .i64 t.li.c, .int .i64 t.li.d, .slice t.pr t.rs.length t.cr, .slice t.pf t.fs.length t.cf, .slice t.pt t.ts.length t.ct, .int .i64 t.lm.a, .int .i64 t.lm.b, .int .i64 t.lm.c, .int .i64 t.lm.d]) rfl rfl rfl (yb_load (n := 13) (off := 0) rfl (by kernel_rfl) (.head _) Try.underlying32 rfl (by kernel_rfl) (by first | (simp [Value.cells]; done) | exact Nat.le_of_ble_eq_true rfl) (by kernel_rfl)) ?_
        refine vm (i := 17) (v := .int .i64 n) rfl rfl rfl ?_
        refine vv (i := 18) (v := .int .i64 (fiN (covOf s.cs s.os n))) rfl rfl rfl (yb_call (f := 12) (args := #[.agg #[.slice t.pc t.cs.length t.cc, .slice t.po t.os.length t.co, .int .i64 t.li.a, .int .i64 t.li.b, .int .i64 t.li.c, .int .i64 t.li.d, .slice t.pr t.rs.length t.cr, .slice t.pf t.fs.length t.cf, .slice t.pt t.ts.length t.ct, .int .i64 t.lm.a, .int .i64 t.lm.b, .int .i64 t.lm.c, .int .i64 t.lm.d], .int .i64 n]) (fun _ => by kernel_rfl) fun W hW => (by have h9 := CoverOf_any t.cs t.pc t.cc ht1 t.os t.po t.co ht2 (spT t) n W (hHC _ (fun b hb => hW.2 b (by simp only [List.mem_cons, List.mem_append, List.nil_append, List.not_mem_nil, or_assoc, or_false, false_or, hb, true_or, or_true]))) (hHO _ (fun b hb => hW.2 b (by simp only [List.mem_cons, List.mem_append, List.nil_append, List.not_mem_nil, or_assoc, or_false, false_or, hb, true_or, or_true]))) (lentOA_rw (hL.os.2.1.at (fun b hb => hW.2 b (by simp only [List.mem_cons, List.mem_append, List.nil_append, List.not_mem_nil, or_assoc, or_false, false_or, hb, true_or, or_true])))) lt4; rw [e5] at h9; exact h9)) ?_
        refine vv (i := 19) (v := .agg #[.slice s.pc s.cs.length s.cc, .slice s.po s.os.length s.co, .int .i64 s.li.a, .int .i64 s.li.b, .int .i64 s.li.c, .int .i64 s.li.d, .slice s.pr s.rs.length s.cr, .slice s.pf s.fs.length s.cf, .slice s.pt s.ts.length s.ct, .int .i64 s.lm.a, .int .i64 s.lm.b, .int .i64 s.lm.c, .int .i64 s.lm.d]) rfl rfl rfl (yb_load (n := 13) (off := 0) rfl (by kernel_rfl) (.tail _ (.head _)) Try.underlying32 rfl (by kernel_rfl) (by first | (simp [Value.cells]; done) | exact Nat.le_of_ble_eq_true rfl) (by kernel_rfl)) ?_
        refine vm (i := 20) (v := .int .i64 n) rfl rfl rfl ?_
        refine vv (i := 21) (v := .int .i64 (fiN (covOf s.cs s.os n))) rfl rfl rfl (yb_call (f := 13) (args := #[.agg #[.slice s.pc s.cs.length s.cc, .slice s.po s.os.length s.co, .int .i64 s.li.a, .int .i64 s.li.b, .int .i64 s.li.c, .int .i64 s.li.d, .slice s.pr s.rs.length s.cr, .slice s.pf s.fs.length s.cf, .slice s.pt s.ts.length s.ct, .int .i64 s.lm.a, .int .i64 s.lm.b, .int .i64 s.lm.c, .int .i64 s.lm.d], .int .i64 n]) (fun _ => by kernel_rfl) fun W hW => RCoverOf_any s.cs s.pc s.cc hs1 s.os s.po s.co hs2 (spT s) n W ((hc).keep hW.1) ((ho).keep hW.1) ((hI.hr).keep hW.1) ls4) ?_
        refine vp (i := 22) (v := .bool false) rfl rfl rfl (run_bin rfl (vx := (.int .i64 (fiN (covOf s.cs s.os n)))) (vy := (.int .i64 (fiN (covOf s.cs s.os n)))) (by kernel_rfl) (by kernel_rfl) fun w => bi_neq (decide_eq_true rfl) w) ?_
        refine vm (i := 23) (v := .bool false) rfl rfl rfl ?_
        refine wpV_done (by kernel_rfl) (fun W7 hW7 => ?_) _
        refine (show Code.wp _ _ _ _ _ from ?_)
        refine wp_cond_false rfl ?_
        refine wp_skip ?_
        refine (show Code.wp _ _ _ _ _ from ?_)
        refine wp_seq ?_
        refine wp_region_V (W0 := w) ((g3, .cells #[.slice t.pc t.cs.length t.cc, .slice t.po t.os.length t.co, .int .i64 t.li.a, .int .i64 t.li.b, .int .i64 t.li.c, .int .i64 t.li.d, .slice t.pr t.rs.length t.cr, .slice t.pf t.fs.length t.cf, .slice t.pt t.ts.length t.ct, .int .i64 t.lm.a, .int .i64 t.lm.b, .int .i64 t.lm.c, .int .i64 t.lm.d] 32 (0, 0)) :: (g1, .cells #[.slice s.pc s.cs.length s.cc, .slice s.po s.os.length s.co, .int .i64 s.li.a, .int .i64 s.li.b, .int .i64 s.li.c, .int .i64 s.li.d, .slice s.pr s.rs.length s.cr, .slice s.pf s.fs.length s.cf, .slice s.pt s.ts.length s.ct, .int .i64 s.lm.a, .int .i64 s.lm.b, .int .i64 s.lm.c, .int .i64 s.lm.d] 32 (0, 0)) :: TS) (by kernel_rfl) (hW7) ?_
        refine vv (i := 0) (v := .agg #[.slice t.pc t.cs.length t.cc, .slice t.po t.os.length t.co, .int .i64 t.li.a, .int .i64 t.li.b, .int .i64 t.li.c, .int .i64 t.li.d, .slice t.pr t.rs.length t.cr, .slice t.pf t.fs.length t.cf, .slice t.pt t.ts.length t.ct, .int .i64 t.lm.a, .int .i64 t.lm.b, .int .i64 t.lm.c, .int .i64 t.lm.d]) rfl rfl rfl (yb_load (n := 13) (off := 0) rfl (by kernel_rfl) (.head _) Try.underlying32 rfl (by kernel_rfl) (by first | (simp [Value.cells]; done) | exact Nat.le_of_ble_eq_true rfl) (by kernel_rfl)) ?_
        refine vm (i := 1) (v := .int .i64 n) rfl rfl rfl ?_
        refine vv (i := 3) (v := .agg #[.slice t.pc t.cs.length t.cc, .slice t.po t.os.length t.co, .int .i64 t.li.a, .int .i64 t.li.b, .int .i64 t.li.c, .int .i64 t.li.d, .slice t.pr t.rs.length t.cr, .slice t.pf t.fs.length t.cf, .slice t.pt t.ts.length t.ct, .int .i64 t.lm.a, .int .i64 t.lm.b, .int .i64 t.lm.c, .int .i64 t.lm.d]) rfl rfl rfl (yb_load (n := 13) (off := 0) rfl (by kernel_rfl) (.head _) Try.underlying32 rfl (by kernel_rfl) (by first | (simp [Value.cells]; done) | exact Nat.le_of_ble_eq_true rfl) (by kernel_rfl)) ?_
        refine vm (i := 4) (v := .int .i64 n) rfl rfl rfl ?_
        refine wpV_c (i := 2) (OutRL inC w ((g3, .cells #[.slice t.pc t.cs.length t.cc, .slice t.po t.os.length t.co, .int .i64 t.li.a, .int .i64 t.li.b, .int .i64 t.li.c, .int .i64 t.li.d, .slice t.pr t.rs.length t.cr, .slice t.pf t.fs.length t.cf, .slice t.pt t.ts.length t.ct, .int .i64 t.lm.a, .int .i64 t.lm.b, .int .i64 t.lm.c, .int .i64 t.lm.d] 32 (0, 0)) :: (g1, .cells #[.slice s.pc s.cs.length s.cc, .slice s.po s.os.length s.co, .int .i64 s.li.a, .int .i64 s.li.b, .int .i64 s.li.c, .int .i64 s.li.d, .slice s.pr s.rs.length s.cr, .slice s.pf s.fs.length s.cf, .slice s.pt s.ts.length s.ct, .int .i64 s.lm.a, .int .i64 s.lm.b, .int .i64 s.lm.c, .int .i64 s.lm.d] 32 (0, 0)) :: TS) (alongX s.cs s.os n false)) rfl rfl (by kernel_rfl) (by kernel_rfl) (fun _ => (by kernel_rfl)) (fun W hW => calls_r hW ((by have h9 := Under_any t.cs t.pc t.cc ht1 t.os t.po t.co ht2 (spT t) n W (hHC _ (fun b hb => hW.2 b (by simp only [List.mem_cons, List.mem_append, List.nil_append, List.not_mem_nil, or_assoc, or_false, false_or, hb, true_or, or_true]))) (hHO _ (fun b hb => hW.2 b (by simp only [List.mem_cons, List.mem_append, List.nil_append, List.not_mem_nil, or_assoc, or_false, false_or, hb, true_or, or_true]))) (lentOA_rw (hL.os.2.1.at (fun b hb => hW.2 b (by simp only [List.mem_cons, List.mem_append, List.nil_append, List.not_mem_nil, or_assoc, or_false, false_or, hb, true_or, or_true])))) lt4; rw [e6] at h9; exact h9))) (fun v K9 hG => hG.sub) (fun _ => by simp only [List.setIfInBounds_toArray, List.set_cons_succ, List.set_cons_zero] <;> rfl) ?_
        rintro _ _ ⟨p5, c5, Kl5, rfl, n5, R5, N5, rfl⟩
        obtain ⟨dj6_0, dj6_1, dj6_2⟩ : Dk g3 Kl5 ∧ Dk g1 Kl5 ∧ Dj TS Kl5 := by simpa only [dj_app_l, dj_app_r, dj_cons_l, dj_cons_r, dj_nil_l, dj_nil_r, dk_app, dk_cons, dk_nil, and_true, true_and, and_assoc] using (show Dj ((g3, .cells #[.slice t.pc t.cs.length t.cc, .slice t.po t.os.length t.co, .int .i64 t.li.a, .int .i64 t.li.b, .int .i64 t.li.c, .int .i64 t.li.d, .slice t.pr t.rs.length t.cr, .slice t.pf t.fs.length t.cf, .slice t.pt t.ts.length t.ct, .int .i64 t.lm.a, .int .i64 t.lm.b, .int .i64 t.lm.c, .int .i64 t.lm.d] 32 (0, 0)) :: (g1, .cells #[.slice s.pc s.cs.length s.cc, .slice s.po s.os.length s.co, .int .i64 s.li.a, .int .i64 s.li.b, .int .i64 s.li.c, .int .i64 s.li.d, .slice s.pr s.rs.length s.cr, .slice s.pf s.fs.length s.cf, .slice s.pt s.ts.length s.ct, .int .i64 s.lm.a, .int .i64 s.lm.b, .int .i64 s.lm.c, .int .i64 s.lm.d] 32 (0, 0)) :: TS) Kl5 from N5)
        have hbl5 : (alongX s.cs s.os n false).length ≤ 4000000000 := by have := along_len s.cs s.os n false; omega
        refine wpV_c (i := 5) (OutRL inC w ((g3, .cells #[.slice t.pc t.cs.length t.cc, .slice t.po t.os.length t.co, .int .i64 t.li.a, .int .i64 t.li.b, .int .i64 t.li.c, .int .i64 t.li.d, .slice t.pr t.rs.length t.cr, .slice t.pf t.fs.length t.cf, .slice t.pt t.ts.length t.ct, .int .i64 t.lm.a, .int .i64 t.lm.b, .int .i64 t.lm.c, .int .i64 t.lm.d] 32 (0, 0)) :: (g1, .cells #[.slice s.pc s.cs.length s.cc, .slice s.po s.os.length s.co, .int .i64 s.li.a, .int .i64 s.li.b, .int .i64 s.li.c, .int .i64 s.li.d, .slice s.pr s.rs.length s.cr, .slice s.pf s.fs.length s.cf, .slice s.pt s.ts.length s.ct, .int .i64 s.lm.a, .int .i64 s.lm.b, .int .i64 s.lm.c, .int .i64 s.lm.d] 32 (0, 0)) :: (TS ++ Kl5)) (alongX s.cs s.os n true)) rfl rfl (by kernel_rfl) (by kernel_rfl) (fun _ => (by kernel_rfl)) (fun W hW => calls_r hW ((by have h9 := Upon_any t.cs t.pc t.cc ht1 t.os t.po t.co ht2 (spT t) n W (hHC _ (fun b hb => hW.2 b (by simp only [List.mem_cons, List.mem_append, List.nil_append, List.not_mem_nil, or_assoc, or_false, false_or, hb, true_or, or_true]))) (hHO _ (fun b hb => hW.2 b (by simp only [List.mem_cons, List.mem_append, List.nil_append, List.not_mem_nil, or_assoc, or_false, false_or, hb, true_or, or_true]))) (lentOA_rw (hL.os.2.1.at (fun b hb => hW.2 b (by simp only [List.mem_cons, List.mem_append, List.nil_append, List.not_mem_nil, or_assoc, or_false, false_or, hb, true_or, or_true])))) lt4; rw [e6] at h9; exact h9))) (fun v K9 hG => hG.sub) (fun _ => by simp only [List.setIfInBounds_toArray, List.set_cons_succ, List.set_cons_zero] <;> rfl) ?_
        rintro _ _ ⟨p7, c7, Kl7, rfl, n7, R7, N7, rfl⟩
        obtain ⟨dj8_0, dj8_1, dj8_2, dj8_3⟩ : Dk g3 Kl7 ∧ Dk g1 Kl7 ∧ Dj TS Kl7 ∧ Dj Kl5 Kl7 := by simpa only [dj_app_l, dj_app_r, dj_cons_l, dj_cons_r, dj_nil_l, dj_nil_r, dk_app, dk_cons, dk_nil, and_true, true_and, and_assoc] using (show Dj ((g3, .cells #[.slice t.pc t.cs.length t.cc, .slice t.po t.os.length t.co, .int .i64 t.li.a, .int .i64 t.li.b, .int .i64 t.li.c, .int .i64 t.li.d, .slice t.pr t.rs.length t.cr, .slice t.pf t.fs.length t.cf, .slice t.pt t.ts.length t.ct, .int .i64 t.lm.a, .int .i64 t.lm.b, .int .i64 t.lm.c, .int .i64 t.lm.d] 32 (0, 0)) :: (g1, .cells #[.slice s.pc s.cs.length s.cc, .slice s.po s.os.length s.co, .int .i64 s.li.a, .int .i64 s.li.b, .int .i64 s.li.c, .int .i64 s.li.d, .slice s.pr s.rs.length s.cr, .slice s.pf s.fs.length s.cf, .slice s.pt s.ts.length s.ct, .int .i64 s.lm.a, .int .i64 s.lm.b, .int .i64 s.lm.c, .int .i64 s.lm.d] 32 (0, 0)) :: (TS ++ Kl5)) Kl7 from N7)
        have hbl7 : (alongX s.cs s.os n true).length ≤ 4000000000 := by have := along_len s.cs s.os n true; omega
        refine vm (i := 6) (v := .slice p5 ((alongX s.cs s.os n false).length) c5) rfl rfl rfl ?_
        refine vm (i := 7) (v := .slice p7 ((alongX s.cs s.os n true).length) c7) rfl rfl rfl ?_
        refine wpV_done (by kernel_rfl) (fun W8 hW8 => ?_) _
        refine (show Code.wp _ _ _ _ _ from ?_)
        refine wp_seq ?_
        refine wp_seq ?_
        refine wp_region_L (W0 := w) ((g3, .cells #[.slice t.pc t.cs.length t.cc, .slice t.po t.os.length t.co, .int .i64 t.li.a, .int .i64 t.li.b, .int .i64 t.li.c, .int .i64 t.li.d, .slice t.pr t.rs.length t.cr, .slice t.pf t.fs.length t.cf, .slice t.pt t.ts.length t.ct, .int .i64 t.lm.a, .int .i64 t.lm.b, .int .i64 t.lm.c, .int .i64 t.lm.d] 32 (0, 0)) :: (g1, .cells #[.slice s.pc s.cs.length s.cc, .slice s.po s.os.length s.co, .int .i64 s.li.a, .int .i64 s.li.b, .int .i64 s.li.c, .int .i64 s.li.d, .slice s.pr s.rs.length s.cr, .slice s.pf s.fs.length s.cf, .slice s.pt s.ts.length s.ct, .int .i64 s.lm.a, .int .i64 s.lm.b, .int .i64 s.lm.c, .int .i64 s.lm.d] 32 (0, 0)) :: (TS ++ (Kl5 ++ Kl7))) (hW8.sub (fun p hp => by simp only [List.mem_cons, List.mem_append, or_assoc] at hp ⊢; exact hp)) ?_
        refine lm (v := .slice p5 ((alongX s.cs s.os n false).length) c5) rfl rfl ?_
        refine lv (v := .agg #[.slice s.pc s.cs.length s.cc, .slice s.po s.os.length s.co, .int .i64 s.li.a, .int .i64 s.li.b, .int .i64 s.li.c, .int .i64 s.li.d, .slice s.pr s.rs.length s.cr, .slice s.pf s.fs.length s.cf, .slice s.pt s.ts.length s.ct, .int .i64 s.lm.a, .int .i64 s.lm.b, .int .i64 s.lm.c, .int .i64 s.lm.d]) rfl rfl (yb_load (n := 13) (off := 0) rfl (by kernel_rfl) (.tail _ (.head _)) Try.underlying32 rfl (by kernel_rfl) (by first | (simp [Value.cells]; done) | exact Nat.le_of_ble_eq_true rfl) (by kernel_rfl)) ?_
        refine lm (v := .int .i64 n) rfl rfl ?_
        refine wpL_c (f := 17) (args := #[.agg #[.slice s.pc s.cs.length s.cc, .slice s.po s.os.length s.co, .int .i64 s.li.a, .int .i64 s.li.b, .int .i64 s.li.c, .int .i64 s.li.d, .slice s.pr s.rs.length s.cr, .slice s.pf s.fs.length s.cf, .slice s.pt s.ts.length s.ct, .int .i64 s.lm.a, .int .i64 s.lm.b, .int .i64 s.lm.c, .int .i64 s.lm.d], .int .i64 n, .bool false]) (OutRL inC w ((g3, .cells #[.slice t.pc t.cs.length t.cc, .slice t.po t.os.length t.co, .int .i64 t.li.a, .int .i64 t.li.b, .int .i64 t.li.c, .int .i64 t.li.d, .slice t.pr t.rs.length t.cr, .slice t.pf t.fs.length t.cf, .slice t.pt t.ts.length t.ct, .int .i64 t.lm.a, .int .i64 t.lm.b, .int .i64 t.lm.c, .int .i64 t.lm.d] 32 (0, 0)) :: (g1, .cells #[.slice s.pc s.cs.length s.cc, .slice s.po s.os.length s.co, .int .i64 s.li.a, .int .i64 s.li.b, .int .i64 s.li.c, .int .i64 s.li.d, .slice s.pr s.rs.length s.cr, .slice s.pf s.fs.length s.cf, .slice s.pt s.ts.length s.ct, .int .i64 s.lm.a, .int .i64 s.lm.b, .int .i64 s.lm.c, .int .i64 s.lm.d] 32 (0, 0)) :: (TS ++ (Kl5 ++ Kl7))) (alongX s.cs s.os n false)) rfl (by kernel_rfl) (fun _ => (by kernel_rfl)) (fun W hW => calls_r hW (Along_any s.cs s.pc s.cc hs1 s.os s.po s.co hs2 (spT s) n false W ((hc).keep hW.1) ((ho).keep hW.1) ((hI.hr).keep hW.1) ls4)) (fun _ => by simp only [List.setIfInBounds_toArray, List.set_cons_succ, List.set_cons_zero] <;> rfl) ?_
        rintro _ _ ⟨p9, c9, Kl9, rfl, n9, R9, N9, rfl⟩
        obtain ⟨dj10_0, dj10_1, dj10_2, dj10_3, dj10_4⟩ : Dk g3 Kl9 ∧ Dk g1 Kl9 ∧ Dj TS Kl9 ∧ Dj Kl5 Kl9 ∧ Dj Kl7 Kl9 := by simpa only [dj_app_l, dj_app_r, dj_cons_l, dj_cons_r, dj_nil_l, dj_nil_r, dk_app, dk_cons, dk_nil, and_true, true_and, and_assoc] using (show Dj ((g3, .cells #[.slice t.pc t.cs.length t.cc, .slice t.po t.os.length t.co, .int .i64 t.li.a, .int .i64 t.li.b, .int .i64 t.li.c, .int .i64 t.li.d, .slice t.pr t.rs.length t.cr, .slice t.pf t.fs.length t.cf, .slice t.pt t.ts.length t.ct, .int .i64 t.lm.a, .int .i64 t.lm.b, .int .i64 t.lm.c, .int .i64 t.lm.d] 32 (0, 0)) :: (g1, .cells #[.slice s.pc s.cs.length s.cc, .slice s.po s.os.length s.co, .int .i64 s.li.a, .int .i64 s.li.b, .int .i64 s.li.c, .int .i64 s.li.d, .slice s.pr s.rs.length s.cr, .slice s.pf s.fs.length s.cf, .slice s.pt s.ts.length s.ct, .int .i64 s.lm.a, .int .i64 s.lm.b, .int .i64 s.lm.c, .int .i64 s.lm.d] 32 (0, 0)) :: (TS ++ (Kl5 ++ Kl7))) Kl9 from N9)
        have hbl9 : (alongX s.cs s.os n false).length ≤ 4000000000 := by have := along_len s.cs s.os n false; omega
        refine wpL_sub (K2 := ((g3, .cells #[.slice t.pc t.cs.length t.cc, .slice t.po t.os.length t.co, .int .i64 t.li.a, .int .i64 t.li.b, .int .i64 t.li.c, .int .i64 t.li.d, .slice t.pr t.rs.length t.cr, .slice t.pf t.fs.length t.cf, .slice t.pt t.ts.length t.ct, .int .i64 t.lm.a, .int .i64 t.lm.b, .int .i64 t.lm.c, .int .i64 t.lm.d] 32 (0, 0)) :: (g1, .cells #[.slice s.pc s.cs.length s.cc, .slice s.po s.os.length s.co, .int .i64 s.li.a, .int .i64 s.li.b, .int .i64 s.li.c, .int .i64 s.li.d, .slice s.pr s.rs.length s.cr, .slice s.pf s.fs.length s.cf, .slice s.pt s.ts.length s.ct, .int .i64 s.lm.a, .int .i64 s.lm.b, .int .i64 s.lm.c, .int .i64 s.lm.d] 32 (0, 0)) :: (TS ++ (Kl5 ++ (Kl7 ++ Kl9))))) (fun p hp => by simp only [List.mem_cons, List.mem_append, or_assoc] at hp ⊢; exact hp) ?_
        refine lv (v := .bool true) rfl rfl (yb_call (f := 16) (args := #[.slice p5 ((alongX s.cs s.os n false).length) c5, .slice p9 ((alongX s.cs s.os n false).length) c9]) (fun _ => by kernel_rfl) fun W hW => SameInts_yes (alongX s.cs s.os n false) p5 p9 c5 c9 (by omega) W (R5 _ (hW.sub (fun p hp => by simp only [List.mem_cons, List.mem_append, List.nil_append, List.not_mem_nil, or_assoc, or_false, false_or, hp, true_or, or_true]))) (R9 _ (hW.sub (fun p hp => by simp only [List.mem_cons, List.mem_append, List.nil_append, List.not_mem_nil, or_assoc, or_false, false_or, hp, true_or, or_true])))) ?_
        refine lm (v := .bool false) rfl rfl ?_
        refine lm (v := .bool false) rfl rfl ?_
        refine lm (v := .slice p7 ((alongX s.cs s.os n true).length) c7) rfl rfl ?_
        refine lv (v := .agg #[.slice s.pc s.cs.length s.cc, .slice s.po s.os.length s.co, .int .i64 s.li.a, .int .i64 s.li.b, .int .i64 s.li.c, .int .i64 s.li.d, .slice s.pr s.rs.length s.cr, .slice s.pf s.fs.length s.cf, .slice s.pt s.ts.length s.ct, .int .i64 s.lm.a, .int .i64 s.lm.b, .int .i64 s.lm.c, .int .i64 s.lm.d]) rfl rfl (yb_load (n := 13) (off := 0) rfl (by kernel_rfl) (.tail _ (.head _)) Try.underlying32 rfl (by kernel_rfl) (by first | (simp [Value.cells]; done) | exact Nat.le_of_ble_eq_true rfl) (by kernel_rfl)) ?_
        refine lm (v := .int .i64 n) rfl rfl ?_
        refine wpL_c (f := 17) (args := #[.agg #[.slice s.pc s.cs.length s.cc, .slice s.po s.os.length s.co, .int .i64 s.li.a, .int .i64 s.li.b, .int .i64 s.li.c, .int .i64 s.li.d, .slice s.pr s.rs.length s.cr, .slice s.pf s.fs.length s.cf, .slice s.pt s.ts.length s.ct, .int .i64 s.lm.a, .int .i64 s.lm.b, .int .i64 s.lm.c, .int .i64 s.lm.d], .int .i64 n, .bool true]) (OutRL inC w ((g3, .cells #[.slice t.pc t.cs.length t.cc, .slice t.po t.os.length t.co, .int .i64 t.li.a, .int .i64 t.li.b, .int .i64 t.li.c, .int .i64 t.li.d, .slice t.pr t.rs.length t.cr, .slice t.pf t.fs.length t.cf, .slice t.pt t.ts.length t.ct, .int .i64 t.lm.a, .int .i64 t.lm.b, .int .i64 t.lm.c, .int .i64 t.lm.d] 32 (0, 0)) :: (g1, .cells #[.slice s.pc s.cs.length s.cc, .slice s.po s.os.length s.co, .int .i64 s.li.a, .int .i64 s.li.b, .int .i64 s.li.c, .int .i64 s.li.d, .slice s.pr s.rs.length s.cr, .slice s.pf s.fs.length s.cf, .slice s.pt s.ts.length s.ct, .int .i64 s.lm.a, .int .i64 s.lm.b, .int .i64 s.lm.c, .int .i64 s.lm.d] 32 (0, 0)) :: (TS ++ (Kl5 ++ (Kl7 ++ Kl9)))) (alongX s.cs s.os n true)) rfl (by kernel_rfl) (fun _ => (by kernel_rfl)) (fun W hW => calls_r hW (Along_any s.cs s.pc s.cc hs1 s.os s.po s.co hs2 (spT s) n true W ((hc).keep hW.1) ((ho).keep hW.1) ((hI.hr).keep hW.1) ls4)) (fun _ => by simp only [List.setIfInBounds_toArray, List.set_cons_succ, List.set_cons_zero] <;> rfl) ?_
        rintro _ _ ⟨p11, c11, Kl11, rfl, n11, R11, N11, rfl⟩
        obtain ⟨dj12_0, dj12_1, dj12_2, dj12_3, dj12_4, dj12_5⟩ : Dk g3 Kl11 ∧ Dk g1 Kl11 ∧ Dj TS Kl11 ∧ Dj Kl5 Kl11 ∧ Dj Kl7 Kl11 ∧ Dj Kl9 Kl11 := by simpa only [dj_app_l, dj_app_r, dj_cons_l, dj_cons_r, dj_nil_l, dj_nil_r, dk_app, dk_cons, dk_nil, and_true, true_and, and_assoc] using (show Dj ((g3, .cells #[.slice t.pc t.cs.length t.cc, .slice t.po t.os.length t.co, .int .i64 t.li.a, .int .i64 t.li.b, .int .i64 t.li.c, .int .i64 t.li.d, .slice t.pr t.rs.length t.cr, .slice t.pf t.fs.length t.cf, .slice t.pt t.ts.length t.ct, .int .i64 t.lm.a, .int .i64 t.lm.b, .int .i64 t.lm.c, .int .i64 t.lm.d] 32 (0, 0)) :: (g1, .cells #[.slice s.pc s.cs.length s.cc, .slice s.po s.os.length s.co, .int .i64 s.li.a, .int .i64 s.li.b, .int .i64 s.li.c, .int .i64 s.li.d, .slice s.pr s.rs.length s.cr, .slice s.pf s.fs.length s.cf, .slice s.pt s.ts.length s.ct, .int .i64 s.lm.a, .int .i64 s.lm.b, .int .i64 s.lm.c, .int .i64 s.lm.d] 32 (0, 0)) :: (TS ++ (Kl5 ++ (Kl7 ++ Kl9)))) Kl11 from N11)
        have hbl11 : (alongX s.cs s.os n true).length ≤ 4000000000 := by have := along_len s.cs s.os n true; omega
        refine wpL_sub (K2 := ((g3, .cells #[.slice t.pc t.cs.length t.cc, .slice t.po t.os.length t.co, .int .i64 t.li.a, .int .i64 t.li.b, .int .i64 t.li.c, .int .i64 t.li.d, .slice t.pr t.rs.length t.cr, .slice t.pf t.fs.length t.cf, .slice t.pt t.ts.length t.ct, .int .i64 t.lm.a, .int .i64 t.lm.b, .int .i64 t.lm.c, .int .i64 t.lm.d] 32 (0, 0)) :: (g1, .cells #[.slice s.pc s.cs.length s.cc, .slice s.po s.os.length s.co, .int .i64 s.li.a, .int .i64 s.li.b, .int .i64 s.li.c, .int .i64 s.li.d, .slice s.pr s.rs.length s.cr, .slice s.pf s.fs.length s.cf, .slice s.pt s.ts.length s.ct, .int .i64 s.lm.a, .int .i64 s.lm.b, .int .i64 s.lm.c, .int .i64 s.lm.d] 32 (0, 0)) :: (TS ++ (Kl5 ++ (Kl7 ++ (Kl9 ++ Kl11)))))) (fun p hp => by simp only [List.mem_cons, List.mem_append, or_assoc] at hp ⊢; exact hp) ?_
        refine lv (v := .bool true) rfl rfl (yb_call (f := 16) (args := #[.slice p7 ((alongX s.cs s.os n true).length) c7, .slice p11 ((alongX s.cs s.os n true).length) c11]) (fun _ => by kernel_rfl) fun W hW => SameInts_yes (alongX s.cs s.os n true) p7 p11 c7 c11 (by omega) W (R7 _ (hW.sub (fun p hp => by simp only [List.mem_cons, List.mem_append, List.nil_append, List.not_mem_nil, or_assoc, or_false, false_or, hp, true_or, or_true]))) (R11 _ (hW.sub (fun p hp => by simp only [List.mem_cons, List.mem_append, List.nil_append, List.not_mem_nil, or_assoc, or_false, false_or, hp, true_or, or_true])))) ?_
        refine lm (v := .bool false) rfl rfl ?_
        refine lm (v := .bool false) rfl rfl ?_
        refine wpL_done (fun W9 hW9 => ?_)
        refine (show Code.wp _ _ _ _ _ from ?_)
        refine wp_cond_false rfl ?_
        refine wp_skip ?_
        refine (show Code.wp _ _ _ _ _ from ?_)
        refine wp_seq ?_
        refine wp_region_V (W0 := w) ((g3, .cells #[.slice t.pc t.cs.length t.cc, .slice t.po t.os.length t.co, .int .i64 t.li.a, .int .i64 t.li.b, .int .i64 t.li.c, .int .i64 t.li.d, .slice t.pr t.rs.length t.cr, .slice t.pf t.fs.length t.cf, .slice t.pt t.ts.length t.ct, .int .i64 t.lm.a, .int .i64 t.lm.b, .int .i64 t.lm.c, .int .i64 t.lm.d] 32 (0, 0)) :: (g1, .cells #[.slice s.pc s.cs.length s.cc, .slice s.po s.os.length s.co, .int .i64 s.li.a, .int .i64 s.li.b, .int .i64 s.li.c, .int .i64 s.li.d, .slice s.pr s.rs.length s.cr, .slice s.pf s.fs.length s.cf, .slice s.pt s.ts.length s.ct, .int .i64 s.lm.a, .int .i64 s.lm.b, .int .i64 s.lm.c, .int .i64 s.lm.d] 32 (0, 0)) :: (TS ++ (Kl5 ++ (Kl7 ++ (Kl9 ++ Kl11))))) (by kernel_rfl) (hW9) ?_
        refine vv (i := 0) (v := .agg #[.slice t.pc t.cs.length t.cc, .slice t.po t.os.length t.co, .int .i64 t.li.a, .int .i64 t.li.b, .int .i64 t.li.c, .int .i64 t.li.d, .slice t.pr t.rs.length t.cr, .slice t.pf t.fs.length t.cf, .slice t.pt t.ts.length t.ct, .int .i64 t.lm.a, .int .i64 t.lm.b, .int .i64 t.lm.c, .int .i64 t.lm.d]) rfl rfl rfl (yb_load (n := 13) (off := 0) rfl (by kernel_rfl) (.head _) Try.underlying32 rfl (by kernel_rfl) (by first | (simp [Value.cells]; done) | exact Nat.le_of_ble_eq_true rfl) (by kernel_rfl)) ?_
        refine vv (i := 1) (v := .int .i64 (tallX s.cs)) rfl rfl rfl (yb_call (f := 18) (args := #[.agg #[.slice t.pc t.cs.length t.cc, .slice t.po t.os.length t.co, .int .i64 t.li.a, .int .i64 t.li.b, .int .i64 t.li.c, .int .i64 t.li.d, .slice t.pr t.rs.length t.cr, .slice t.pf t.fs.length t.cf, .slice t.pt t.ts.length t.ct, .int .i64 t.lm.a, .int .i64 t.lm.b, .int .i64 t.lm.c, .int .i64 t.lm.d]]) (fun _ => by kernel_rfl) fun W hW => (by have h9 := Tallest_any t.cs t.pc t.cc ht1 t.os t.po t.co ht2 (spT t) W (hHC _ (fun b hb => hW.2 b (by simp only [List.mem_cons, List.mem_append, List.nil_append, List.not_mem_nil, or_assoc, or_false, false_or, hb, true_or, or_true]))) (hHO _ (fun b hb => hW.2 b (by simp only [List.mem_cons, List.mem_append, List.nil_append, List.not_mem_nil, or_assoc, or_false, false_or, hb, true_or, or_true]))); rw [e2] at h9; exact h9)) ?_
        refine vv (i := 2) (v := .agg #[.slice s.pc s.cs.length s.cc, .slice s.po s.os.length s.co, .int .i64 s.li.a, .int .i64 s.li.b, .int .i64 s.li.c, .int .i64 s.li.d, .slice s.pr s.rs.length s.cr, .slice s.pf s.fs.length s.cf, .slice s.pt s.ts.length s.ct, .int .i64 s.lm.a, .int .i64 s.lm.b, .int .i64 s.lm.c, .int .i64 s.lm.d]) rfl rfl rfl (yb_load (n := 13) (off := 0) rfl (by kernel_rfl) (.tail _ (.head _)) Try.underlying32 rfl (by kernel_rfl) (by first | (simp [Value.cells]; done) | exact Nat.le_of_ble_eq_true rfl) (by kernel_rfl)) ?_
        refine vv (i := 3) (v := .int .i64 (tallX s.cs)) rfl rfl rfl (yb_call (f := 19) (args := #[.agg #[.slice s.pc s.cs.length s.cc, .slice s.po s.os.length s.co, .int .i64 s.li.a, .int .i64 s.li.b, .int .i64 s.li.c, .int .i64 s.li.d, .slice s.pr s.rs.length s.cr, .slice s.pf s.fs.length s.cf, .slice s.pt s.ts.length s.ct, .int .i64 s.lm.a, .int .i64 s.lm.b, .int .i64 s.lm.c, .int .i64 s.lm.d]]) (fun _ => by kernel_rfl) fun W hW => RTallest_any s.cs s.pc s.cc hs1 s.os s.po s.co hs2 (spT s) W ((hc).keep hW.1) ((ho).keep hW.1)) ?_
        refine vp (i := 4) (v := .bool true) rfl rfl rfl (run_bin rfl (vx := (.int .i64 (tallX s.cs))) (vy := (.int .i64 (tallX s.cs))) (by kernel_rfl) (by kernel_rfl) fun w => bi_eql (decide_eq_true rfl) w) ?_
        refine vm (i := 5) (v := .bool true) rfl rfl rfl ?_
        refine vv (i := 6) (v := .agg #[.slice t.pc t.cs.length t.cc, .slice t.po t.os.length t.co, .int .i64 t.li.a, .int .i64 t.li.b, .int .i64 t.li.c, .int .i64 t.li.d, .slice t.pr t.rs.length t.cr, .slice t.pf t.fs.length t.cf, .slice t.pt t.ts.length t.ct, .int .i64 t.lm.a, .int .i64 t.lm.b, .int .i64 t.lm.c, .int .i64 t.lm.d]) rfl rfl rfl (yb_load (n := 13) (off := 0) rfl (by kernel_rfl) (.head _) Try.underlying32 rfl (by kernel_rfl) (by first | (simp [Value.cells]; done) | exact Nat.le_of_ble_eq_true rfl) (by kernel_rfl)) ?_
        refine vv (i := 7) (v := .int .i64 (placesX s.cs)) rfl rfl rfl (yb_call (f := 20) (args := #[.agg #[.slice t.pc t.cs.length t.cc, .slice t.po t.os.length t.co, .int .i64 t.li.a, .int .i64 t.li.b, .int .i64 t.li.c, .int .i64 t.li.d, .slice t.pr t.rs.length t.cr, .slice t.pf t.fs.length t.cf, .slice t.pt t.ts.length t.ct, .int .i64 t.lm.a, .int .i64 t.lm.b, .int .i64 t.lm.c, .int .i64 t.lm.d]]) (fun _ => by kernel_rfl) fun W hW => (by have h9 := Places_any t.cs t.pc t.cc ht1 t.os t.po t.co ht2 (spT t) W (hHC _ (fun b hb => hW.2 b (by simp only [List.mem_cons, List.mem_append, List.nil_append, List.not_mem_nil, or_assoc, or_false, false_or, hb, true_or, or_true]))) (hHO _ (fun b hb => hW.2 b (by simp only [List.mem_cons, List.mem_append, List.nil_append, List.not_mem_nil, or_assoc, or_false, false_or, hb, true_or, or_true]))); rw [e3] at h9; exact h9)) ?_
        refine vv (i := 8) (v := .agg #[.slice s.pc s.cs.length s.cc, .slice s.po s.os.length s.co, .int .i64 s.li.a, .int .i64 s.li.b, .int .i64 s.li.c, .int .i64 s.li.d, .slice s.pr s.rs.length s.cr, .slice s.pf s.fs.length s.cf, .slice s.pt s.ts.length s.ct, .int .i64 s.lm.a, .int .i64 s.lm.b, .int .i64 s.lm.c, .int .i64 s.lm.d]) rfl rfl rfl (yb_load (n := 13) (off := 0) rfl (by kernel_rfl) (.tail _ (.head _)) Try.underlying32 rfl (by kernel_rfl) (by first | (simp [Value.cells]; done) | exact Nat.le_of_ble_eq_true rfl) (by kernel_rfl)) ?_
        refine vv (i := 9) (v := .int .i64 (placesX s.cs)) rfl rfl rfl (yb_call (f := 21) (args := #[.agg #[.slice s.pc s.cs.length s.cc, .slice s.po s.os.length s.co, .int .i64 s.li.a, .int .i64 s.li.b, .int .i64 s.li.c, .int .i64 s.li.d, .slice s.pr s.rs.length s.cr, .slice s.pf s.fs.length s.cf, .slice s.pt s.ts.length s.ct, .int .i64 s.lm.a, .int .i64 s.lm.b, .int .i64 s.lm.c, .int .i64 s.lm.d]]) (fun _ => by kernel_rfl) fun W hW => RPlaces_any s.cs s.pc s.cc hs1 s.os s.po s.co hs2 (spT s) W ((hc).keep hW.1) ((ho).keep hW.1)) ?_
        refine vp (i := 10) (v := .bool true) rfl rfl rfl (run_bin rfl (vx := (.int .i64 (placesX s.cs))) (vy := (.int .i64 (placesX s.cs))) (by kernel_rfl) (by kernel_rfl) fun w => bi_eql (decide_eq_true rfl) w) ?_
        refine vm (i := 11) (v := .bool true) rfl rfl rfl ?_
        refine vm (i := 12) (v := .bool true) rfl rfl rfl ?_
        refine vv (i := 13) (v := .agg #[.slice t.pc t.cs.length t.cc, .slice t.po t.os.length t.co, .int .i64 t.li.a, .int .i64 t.li.b, .int .i64 t.li.c, .int .i64 t.li.d, .slice t.pr t.rs.length t.cr, .slice t.pf t.fs.length t.cf, .slice t.pt t.ts.length t.ct, .int .i64 t.lm.a, .int .i64 t.lm.b, .int .i64 t.lm.c, .int .i64 t.lm.d]) rfl rfl rfl (yb_load (n := 13) (off := 0) rfl (by kernel_rfl) (.head _) Try.underlying32 rfl (by kernel_rfl) (by first | (simp [Value.cells]; done) | exact Nat.le_of_ble_eq_true rfl) (by kernel_rfl)) ?_
        refine vv (i := 14) (v := .agg #[.slice s.pc s.cs.length s.cc, .slice s.po s.os.length s.co, .int .i64 s.li.a, .int .i64 s.li.b, .int .i64 s.li.c, .int .i64 s.li.d, .slice s.pr s.rs.length s.cr, .slice s.pf s.fs.length s.cf, .slice s.pt s.ts.length s.ct, .int .i64 s.lm.a, .int .i64 s.lm.b, .int .i64 s.lm.c, .int .i64 s.lm.d]) rfl rfl rfl (yb_load (n := 13) (off := 0) rfl (by kernel_rfl) (.tail _ (.head _)) Try.underlying32 rfl (by kernel_rfl) (by first | (simp [Value.cells]; done) | exact Nat.le_of_ble_eq_true rfl) (by kernel_rfl)) ?_
        refine vv (i := 15) (v := .bool true) rfl rfl rfl (yb_call (f := 22) (args := #[.agg #[.slice t.pc t.cs.length t.cc, .slice t.po t.os.length t.co, .int .i64 t.li.a, .int .i64 t.li.b, .int .i64 t.li.c, .int .i64 t.li.d, .slice t.pr t.rs.length t.cr, .slice t.pf t.fs.length t.cf, .slice t.pt t.ts.length t.ct, .int .i64 t.lm.a, .int .i64 t.lm.b, .int .i64 t.lm.c, .int .i64 t.lm.d], .agg #[.slice s.pc s.cs.length s.cc, .slice s.po s.os.length s.co, .int .i64 s.li.a, .int .i64 s.li.b, .int .i64 s.li.c, .int .i64 s.li.d, .slice s.pr s.rs.length s.cr, .slice s.pf s.fs.length s.cf, .slice s.pt s.ts.length s.ct, .int .i64 s.lm.a, .int .i64 s.lm.b, .int .i64 s.lm.c, .int .i64 s.lm.d]]) (fun _ => by kernel_rfl) fun W hW => KeptShip_any s t TS W (hI.keep hW.1) hL (fun b hb => hW.2 b (by simp only [List.mem_cons, List.mem_append, List.nil_append, List.not_mem_nil, or_assoc, or_false, false_or, hb, true_or, or_true]))) ?_
        refine vm (i := 16) (v := .bool true) rfl rfl rfl ?_
        refine vm (i := 17) (v := .bool true) rfl rfl rfl ?_
        refine vv (i := 18) (v := .bool true) rfl rfl rfl (yb_call (f := 6) (args := #[]) (fun _ => by kernel_rfl) fun W hW => awake_any W) ?_
        refine vm (i := 19) (v := .bool true) rfl rfl rfl ?_
        refine vm (i := 20) (v := .bool true) rfl rfl rfl ?_
        refine wpV_done (by kernel_rfl) (fun W10 hW10 => ?_) _
        refine (show Code.wp _ _ _ _ _ from ?_)
        refine wp_ret ?_
        try simp only [inBlock_ret, then_ret]
        refine bodyPost_ret (v := .bool true) ?_ rfl ?_
        · kernel_rfl
        · exact ⟨rfl, hW10.1⟩
end Go.Proofs.Ythpooalhibedpaa
/- What came in: a ship, with its sizes. -/
namespace Go.Proofs.Ythpooalhibedpaa
open Go Go.RowKit Tw Go.ChangeShapes Go.WideShapes
def colS (w : World) (c : Col) : Prop := intOk w c.bay ∧ intOk w c.row ∧ intOk w c.tiers ∧ intOk w c.height ∧ intOk w c.k20 ∧ intOk w c.k40 ∧ intOk w c.lash ∧ ListS inC intOk 8 w c.pp c.pc c.plugs ∧ intOk w c.x ∧ intOk w c.y ∧ intOk w c.z
def covS (w : World) (o : Cov) : Prop := intOk w o.bay ∧ ListS inC intOk 8 w o.rp o.rc o.rows
def tkS (w : World) (t : Tk) : Prop := intOk w t.kilos ∧ intOk w t.x ∧ intOk w t.y ∧ intOk w t.z ∧ intOk w t.surface ∧ ListS inC intOk 8 w t.sp t.sc t.steps
set_option maxHeartbeats 1000000 in
theorem opensS_col : OpensS Try.prog 49 colC colS := by
  intro H enc w base sp held fuel cs x h hwt
  obtain ⟨hl, hf⟩ := trod_fldS Try.underlying49 h hwt
  have ci : Try.prog.cellsOf 3 = 1 := by kernel_rfl
  have cn : Try.prog.cellsOf 49 = 12 := by kernel_rfl
  rw [cn] at hl
  obtain ⟨v0, v1, v2, v3, v4, v5, v6, v7, v8, v9, v10, v11, rfl⟩ : ∃ v0 v1 v2 v3 v4 v5 v6 v7 v8 v9 v10 v11, cs = [v0, v1, v2, v3, v4, v5, v6, v7, v8, v9, v10, v11] := by
    rcases cs with _ | ⟨v0, _ | ⟨v1, _ | ⟨v2, _ | ⟨v3, _ | ⟨v4, _ | ⟨v5, _ | ⟨v6, _ | ⟨v7, _ | ⟨v8, _ | ⟨v9, _ | ⟨v10, _ | ⟨v11, _ | ⟨vx, cs⟩⟩⟩⟩⟩⟩⟩⟩⟩⟩⟩⟩⟩ <;> simp at hl
    exact ⟨v0, v1, v2, v3, v4, v5, v6, v7, v8, v9, v10, v11, rfl⟩
  have key : ∀ (i : Nat) (f : Field) (v : Value), (#[v0, v1, v2, v3, v4, v5, v6, v7, v8, v9, v10, v11] : Array Value)[i]? = some v → f.type = 3 → f.offset = i → (∃ n y, DataW.trod enc Try.prog w base sp held n f.type ((([v0, v1, v2, v3, v4, v5, v6, v7, v8, v9, v10, v11] : List Value).drop f.offset).take (Try.prog.cellsOf f.type)) = some y) → ∃ n : Int, v = .int .i64 n ∧ -9223372036854775808 ≤ n ∧ n ≤ 9223372036854775807 := by
    intro i f v hv ht ho ⟨n, y, hy⟩
    rw [ht, ci, ho] at hy
    obtain ⟨z, hz, hz1, hz2⟩ := fld_int (P := Try.prog) Try.underlying3 hy
    have hv2 : ([v0, v1, v2, v3, v4, v5, v6, v7, v8, v9, v10, v11] : List Value)[i]? = some v := by simpa using hv
    obtain ⟨hi, hvi⟩ := List.getElem?_eq_some_iff.1 hv2
    rw [List.drop_eq_getElem_cons hi, hvi] at hz
    have hz0 : v = .int .i64 z := by simpa using hz
    have m1 : IntKind.i64.min = -9223372036854775808 := by decide
    have m2 : IntKind.i64.max = 9223372036854775807 := by decide
    rw [m1] at hz1; rw [m2] at hz2
    exact ⟨z, hz0, hz1, hz2⟩
  obtain ⟨n0, e0, a0, b0⟩ := key 0 _ v0 rfl rfl rfl (by obtain ⟨n9, y9, h9, _⟩ := hf 0 _ rfl; exact ⟨n9, y9, h9⟩)
  subst e0
  obtain ⟨n1, e1, a1, b1⟩ := key 1 _ v1 rfl rfl rfl (by obtain ⟨n9, y9, h9, _⟩ := hf 1 _ rfl; exact ⟨n9, y9, h9⟩)
  subst e1
  obtain ⟨m2, y2, h2, w2⟩ := hf 2 _ rfl
  obtain ⟨n2, hd2⟩ := fld_bool (P := Try.prog) Try.underlying4 h2
  have c2 : Try.prog.cellsOf 4 = 1 := by kernel_rfl
  have e2 : v2 = .bool n2 := by
    have hd : (([.int .i64 n0, .int .i64 n1, v2, v3, v4, v5, v6, v7, v8, v9, v10, v11] : List Value).drop 2).take (Try.prog.cellsOf 4) = [.bool n2] := hd2
    rw [c2] at hd
    simpa using hd
  subst e2
  obtain ⟨n3, e3, a3, b3⟩ := key 3 _ v3 rfl rfl rfl (by obtain ⟨n9, y9, h9, _⟩ := hf 3 _ rfl; exact ⟨n9, y9, h9⟩)
  subst e3
  obtain ⟨n4, e4, a4, b4⟩ := key 4 _ v4 rfl rfl rfl (by obtain ⟨n9, y9, h9, _⟩ := hf 4 _ rfl; exact ⟨n9, y9, h9⟩)
  subst e4
  obtain ⟨n5, e5, a5, b5⟩ := key 5 _ v5 rfl rfl rfl (by obtain ⟨n9, y9, h9, _⟩ := hf 5 _ rfl; exact ⟨n9, y9, h9⟩)
  subst e5
  obtain ⟨n6, e6, a6, b6⟩ := key 6 _ v6 rfl rfl rfl (by obtain ⟨n9, y9, h9, _⟩ := hf 6 _ rfl; exact ⟨n9, y9, h9⟩)
  subst e6
  obtain ⟨n7, e7, a7, b7⟩ := key 7 _ v7 rfl rfl rfl (by obtain ⟨n9, y9, h9, _⟩ := hf 7 _ rfl; exact ⟨n9, y9, h9⟩)
  subst e7
  obtain ⟨m8, y8, h8, w8⟩ := hf 8 _ rfl
  obtain ⟨p8, q8, n8, hd8, ok8⟩ := trod_recsS (sz := 1) (by_ := 8) Try.underlying39 (OpensS.of opens_in) (by kernel_rfl) (by omega) (fun _ => rfl) (by kernel_rfl) h8 w8
  have c8 : Try.prog.cellsOf 39 = 1 := by kernel_rfl
  have e8 : v8 = .slice p8 n8.length q8 := by
    have hd : (([.int .i64 n0, .int .i64 n1, .bool n2, .int .i64 n3, .int .i64 n4, .int .i64 n5, .int .i64 n6, .int .i64 n7, v8, v9, v10, v11] : List Value).drop 8).take (Try.prog.cellsOf 39) = [.slice p8 n8.length q8] := hd8
    rw [c8] at hd
    simpa using hd
  subst e8
  obtain ⟨n9, e9, a9, b9⟩ := key 9 _ v9 rfl rfl rfl (by obtain ⟨n9, y9, h9, _⟩ := hf 9 _ rfl; exact ⟨n9, y9, h9⟩)
  subst e9
  obtain ⟨n10, e10, a10, b10⟩ := key 10 _ v10 rfl rfl rfl (by obtain ⟨n9, y9, h9, _⟩ := hf 10 _ rfl; exact ⟨n9, y9, h9⟩)
  subst e10
  obtain ⟨n11, e11, a11, b11⟩ := key 11 _ v11 rfl rfl rfl (by obtain ⟨n9, y9, h9, _⟩ := hf 11 _ rfl; exact ⟨n9, y9, h9⟩)
  subst e11
  exact ⟨⟨n0, n1, n2, n3, n4, n5, n6, n7, n8, p8, q8, n9, n10, n11⟩, rfl, ⟨a0, b0⟩, ⟨a1, b1⟩, ⟨a3, b3⟩, ⟨a4, b4⟩, ⟨a5, b5⟩, ⟨a6, b6⟩, ⟨a7, b7⟩, ok8, ⟨a9, b9⟩, ⟨a10, b10⟩, ⟨a11, b11⟩⟩
set_option maxHeartbeats 1000000 in
theorem opensS_cov : OpensS Try.prog 51 covC covS := by
  intro H enc w base sp held fuel cs x h hwt
  obtain ⟨hl, hf⟩ := trod_fldS Try.underlying51 h hwt
  have ci : Try.prog.cellsOf 3 = 1 := by kernel_rfl
  have cn : Try.prog.cellsOf 51 = 2 := by kernel_rfl
  rw [cn] at hl
  obtain ⟨v0, v1, rfl⟩ : ∃ v0 v1, cs = [v0, v1] := by
    rcases cs with _ | ⟨v0, _ | ⟨v1, _ | ⟨vx, cs⟩⟩⟩ <;> simp at hl
    exact ⟨v0, v1, rfl⟩
  have key : ∀ (i : Nat) (f : Field) (v : Value), (#[v0, v1] : Array Value)[i]? = some v → f.type = 3 → f.offset = i → (∃ n y, DataW.trod enc Try.prog w base sp held n f.type ((([v0, v1] : List Value).drop f.offset).take (Try.prog.cellsOf f.type)) = some y) → ∃ n : Int, v = .int .i64 n ∧ -9223372036854775808 ≤ n ∧ n ≤ 9223372036854775807 := by
    intro i f v hv ht ho ⟨n, y, hy⟩
    rw [ht, ci, ho] at hy
    obtain ⟨z, hz, hz1, hz2⟩ := fld_int (P := Try.prog) Try.underlying3 hy
    have hv2 : ([v0, v1] : List Value)[i]? = some v := by simpa using hv
    obtain ⟨hi, hvi⟩ := List.getElem?_eq_some_iff.1 hv2
    rw [List.drop_eq_getElem_cons hi, hvi] at hz
    have hz0 : v = .int .i64 z := by simpa using hz
    have m1 : IntKind.i64.min = -9223372036854775808 := by decide
    have m2 : IntKind.i64.max = 9223372036854775807 := by decide
    rw [m1] at hz1; rw [m2] at hz2
    exact ⟨z, hz0, hz1, hz2⟩
  obtain ⟨n0, e0, a0, b0⟩ := key 0 _ v0 rfl rfl rfl (by obtain ⟨n9, y9, h9, _⟩ := hf 0 _ rfl; exact ⟨n9, y9, h9⟩)
  subst e0
  obtain ⟨m1, y1, h1, w1⟩ := hf 1 _ rfl
  obtain ⟨p1, q1, n1, hd1, ok1⟩ := trod_recsS (sz := 1) (by_ := 8) Try.underlying39 (OpensS.of opens_in) (by kernel_rfl) (by omega) (fun _ => rfl) (by kernel_rfl) h1 w1
  have c1 : Try.prog.cellsOf 39 = 1 := by kernel_rfl
  have e1 : v1 = .slice p1 n1.length q1 := by
    have hd : (([.int .i64 n0, v1] : List Value).drop 1).take (Try.prog.cellsOf 39) = [.slice p1 n1.length q1] := hd1
    rw [c1] at hd
    simpa using hd
  subst e1
  exact ⟨⟨n0, n1, p1, q1⟩, rfl, ⟨a0, b0⟩, ok1⟩
set_option maxHeartbeats 1000000 in
theorem opensS_tk : OpensS Try.prog 88 tkC tkS := by
  intro H enc w base sp held fuel cs x h hwt
  obtain ⟨hl, hf⟩ := trod_fldS Try.underlying88 h hwt
  have ci : Try.prog.cellsOf 3 = 1 := by kernel_rfl
  have cn : Try.prog.cellsOf 88 = 6 := by kernel_rfl
  rw [cn] at hl
  obtain ⟨v0, v1, v2, v3, v4, v5, rfl⟩ : ∃ v0 v1 v2 v3 v4 v5, cs = [v0, v1, v2, v3, v4, v5] := by
    rcases cs with _ | ⟨v0, _ | ⟨v1, _ | ⟨v2, _ | ⟨v3, _ | ⟨v4, _ | ⟨v5, _ | ⟨vx, cs⟩⟩⟩⟩⟩⟩⟩ <;> simp at hl
    exact ⟨v0, v1, v2, v3, v4, v5, rfl⟩
  have key : ∀ (i : Nat) (f : Field) (v : Value), (#[v0, v1, v2, v3, v4, v5] : Array Value)[i]? = some v → f.type = 3 → f.offset = i → (∃ n y, DataW.trod enc Try.prog w base sp held n f.type ((([v0, v1, v2, v3, v4, v5] : List Value).drop f.offset).take (Try.prog.cellsOf f.type)) = some y) → ∃ n : Int, v = .int .i64 n ∧ -9223372036854775808 ≤ n ∧ n ≤ 9223372036854775807 := by
    intro i f v hv ht ho ⟨n, y, hy⟩
    rw [ht, ci, ho] at hy
    obtain ⟨z, hz, hz1, hz2⟩ := fld_int (P := Try.prog) Try.underlying3 hy
    have hv2 : ([v0, v1, v2, v3, v4, v5] : List Value)[i]? = some v := by simpa using hv
    obtain ⟨hi, hvi⟩ := List.getElem?_eq_some_iff.1 hv2
    rw [List.drop_eq_getElem_cons hi, hvi] at hz
    have hz0 : v = .int .i64 z := by simpa using hz
    have m1 : IntKind.i64.min = -9223372036854775808 := by decide
    have m2 : IntKind.i64.max = 9223372036854775807 := by decide
    rw [m1] at hz1; rw [m2] at hz2
    exact ⟨z, hz0, hz1, hz2⟩
  obtain ⟨n0, e0, a0, b0⟩ := key 0 _ v0 rfl rfl rfl (by obtain ⟨n9, y9, h9, _⟩ := hf 0 _ rfl; exact ⟨n9, y9, h9⟩)
  subst e0
  obtain ⟨n1, e1, a1, b1⟩ := key 1 _ v1 rfl rfl rfl (by obtain ⟨n9, y9, h9, _⟩ := hf 1 _ rfl; exact ⟨n9, y9, h9⟩)
  subst e1
  obtain ⟨n2, e2, a2, b2⟩ := key 2 _ v2 rfl rfl rfl (by obtain ⟨n9, y9, h9, _⟩ := hf 2 _ rfl; exact ⟨n9, y9, h9⟩)
  subst e2
  obtain ⟨n3, e3, a3, b3⟩ := key 3 _ v3 rfl rfl rfl (by obtain ⟨n9, y9, h9, _⟩ := hf 3 _ rfl; exact ⟨n9, y9, h9⟩)
  subst e3
  obtain ⟨n4, e4, a4, b4⟩ := key 4 _ v4 rfl rfl rfl (by obtain ⟨n9, y9, h9, _⟩ := hf 4 _ rfl; exact ⟨n9, y9, h9⟩)
  subst e4
  obtain ⟨m5, y5, h5, w5⟩ := hf 5 _ rfl
  obtain ⟨p5, q5, n5, hd5, ok5⟩ := trod_recsS (sz := 1) (by_ := 8) Try.underlying39 (OpensS.of opens_in) (by kernel_rfl) (by omega) (fun _ => rfl) (by kernel_rfl) h5 w5
  have c5 : Try.prog.cellsOf 39 = 1 := by kernel_rfl
  have e5 : v5 = .slice p5 n5.length q5 := by
    have hd : (([.int .i64 n0, .int .i64 n1, .int .i64 n2, .int .i64 n3, .int .i64 n4, v5] : List Value).drop 5).take (Try.prog.cellsOf 39) = [.slice p5 n5.length q5] := hd5
    rw [c5] at hd
    simpa using hd
  subst e5
  exact ⟨⟨n0, n1, n2, n3, n4, n5, p5, q5⟩, rfl, ⟨a0, b0⟩, ⟨a1, b1⟩, ⟨a2, b2⟩, ⟨a3, b3⟩, ⟨a4, b4⟩, ok5⟩
def spS (w : World) (s : Sp) : Prop := ListS colC colS 112 w s.pc s.cc s.cs ∧ ListS covC covS 32 w s.po s.co s.os ∧ n4Ok w s.li ∧ ListS n5C n5Ok 40 w s.pr s.cr s.rs ∧ ListS n5C n5Ok 40 w s.pf s.cf s.fs ∧ ListS tkC tkS 64 w s.pt s.ct s.ts ∧ n4Ok w s.lm
set_option maxHeartbeats 2000000 in
theorem opensS_ship : OpensS Try.prog 32 spC spS := by
  intro H enc w base sp held fuel cs x h hwt
  obtain ⟨hl, hf⟩ := trod_fldS Try.underlying32 h hwt
  have cn : Try.prog.cellsOf 32 = 13 := by kernel_rfl
  rw [cn] at hl
  obtain ⟨v0, v1, v2, v3, v4, v5, v6, v7, v8, v9, v10, v11, v12, rfl⟩ : ∃ v0 v1 v2 v3 v4 v5 v6 v7 v8 v9 v10 v11 v12, cs = [v0, v1, v2, v3, v4, v5, v6, v7, v8, v9, v10, v11, v12] := by
    rcases cs with _ | ⟨v0, _ | ⟨v1, _ | ⟨v2, _ | ⟨v3, _ | ⟨v4, _ | ⟨v5, _ | ⟨v6, _ | ⟨v7, _ | ⟨v8, _ | ⟨v9, _ | ⟨v10, _ | ⟨v11, _ | ⟨v12, _ | ⟨vx, cs⟩⟩⟩⟩⟩⟩⟩⟩⟩⟩⟩⟩⟩⟩ <;> simp at hl
    exact ⟨v0, v1, v2, v3, v4, v5, v6, v7, v8, v9, v10, v11, v12, rfl⟩
  obtain ⟨m0, y0, h0, w0⟩ := hf 0 _ rfl
  obtain ⟨p0, q0, n0, hd0, ok0⟩ := trod_recsS (sz := 12) (by_ := 112) Try.underlying22 opensS_col (by kernel_rfl) (by omega) (fun _ => rfl) (by kernel_rfl) h0 w0
  have e0 : v0 = .slice p0 n0.length q0 := by
    have c : Try.prog.cellsOf 22 = 1 := by kernel_rfl
    have hd : (([v0, v1, v2, v3, v4, v5, v6, v7, v8, v9, v10, v11, v12] : List Value).drop 0).take (Try.prog.cellsOf 22) = [.slice p0 n0.length q0] := hd0
    rw [c] at hd
    simpa using hd
  obtain ⟨m1, y1, h1, w1⟩ := hf 1 _ rfl
  obtain ⟨p1, q1, n1, hd1, ok1⟩ := trod_recsS (sz := 2) (by_ := 32) Try.underlying23 opensS_cov (by kernel_rfl) (by omega) (fun _ => rfl) (by kernel_rfl) h1 w1
  have e1 : v1 = .slice p1 n1.length q1 := by
    have c : Try.prog.cellsOf 23 = 1 := by kernel_rfl
    have hd : (([v0, v1, v2, v3, v4, v5, v6, v7, v8, v9, v10, v11, v12] : List Value).drop 1).take (Try.prog.cellsOf 23) = [.slice p1 n1.length q1] := hd1
    rw [c] at hd
    simpa using hd
  obtain ⟨m6, y6, h6, w6⟩ := hf 3 _ rfl
  obtain ⟨p6, q6, n6, hd6, ok6⟩ := trod_recsS (sz := 5) (by_ := 40) Try.underlying26 (OpensS.of opens_row) (by kernel_rfl) (by omega) (fun _ => rfl) (by kernel_rfl) h6 w6
  have e6 : v6 = .slice p6 n6.length q6 := by
    have c : Try.prog.cellsOf 26 = 1 := by kernel_rfl
    have hd : (([v0, v1, v2, v3, v4, v5, v6, v7, v8, v9, v10, v11, v12] : List Value).drop 6).take (Try.prog.cellsOf 26) = [.slice p6 n6.length q6] := hd6
    rw [c] at hd
    simpa using hd
  obtain ⟨m7, y7, h7, w7⟩ := hf 4 _ rfl
  obtain ⟨p7, q7, n7, hd7, ok7⟩ := trod_recsS (sz := 5) (by_ := 40) Try.underlying27 (OpensS.of opens_frame) (by kernel_rfl) (by omega) (fun _ => rfl) (by kernel_rfl) h7 w7
  have e7 : v7 = .slice p7 n7.length q7 := by
    have c : Try.prog.cellsOf 27 = 1 := by kernel_rfl
    have hd : (([v0, v1, v2, v3, v4, v5, v6, v7, v8, v9, v10, v11, v12] : List Value).drop 7).take (Try.prog.cellsOf 27) = [.slice p7 n7.length q7] := hd7
    rw [c] at hd
    simpa using hd
  obtain ⟨m8, y8, h8, w8⟩ := hf 5 _ rfl
  obtain ⟨p8, q8, n8, hd8, ok8⟩ := trod_recsS (sz := 6) (by_ := 64) Try.underlying28 opensS_tk (by kernel_rfl) (by omega) (fun _ => rfl) (by kernel_rfl) h8 w8
  have e8 : v8 = .slice p8 n8.length q8 := by
    have c : Try.prog.cellsOf 28 = 1 := by kernel_rfl
    have hd : (([v0, v1, v2, v3, v4, v5, v6, v7, v8, v9, v10, v11, v12] : List Value).drop 8).take (Try.prog.cellsOf 28) = [.slice p8 n8.length q8] := hd8
    rw [c] at hd
    simpa using hd
  obtain ⟨m2, y2, h2, w2⟩ := hf 2 _ rfl
  obtain ⟨r2, hd2, ok2⟩ := opens_light _ _ _ _ _ _ _ _ _ h2
  have e2 : v2 = .int .i64 r2.a ∧ v3 = .int .i64 r2.b ∧ v4 = .int .i64 r2.c ∧ v5 = .int .i64 r2.d := by
    have c : Try.prog.cellsOf 25 = 4 := by kernel_rfl
    have hd : (([v0, v1, v2, v3, v4, v5, v6, v7, v8, v9, v10, v11, v12] : List Value).drop 2).take (Try.prog.cellsOf 25) = n4C r2 := hd2
    rw [c] at hd
    unfold n4C at hd
    simpa using hd
  obtain ⟨m9, y9, h9, w9⟩ := hf 6 _ rfl
  obtain ⟨r9, hd9, ok9⟩ := opens_limits _ _ _ _ _ _ _ _ _ h9
  have e9 : v9 = .int .i64 r9.a ∧ v10 = .int .i64 r9.b ∧ v11 = .int .i64 r9.c ∧ v12 = .int .i64 r9.d := by
    have c : Try.prog.cellsOf 30 = 4 := by kernel_rfl
    have hd : (([v0, v1, v2, v3, v4, v5, v6, v7, v8, v9, v10, v11, v12] : List Value).drop 9).take (Try.prog.cellsOf 30) = n4C r9 := hd9
    rw [c] at hd
    unfold n4C at hd
    simpa using hd
  obtain ⟨f2, f3, f4, f5⟩ := e2
  obtain ⟨f9, f10, f11, f12⟩ := e9
  refine ⟨⟨n0, p0, q0, n1, p1, q1, r2, n6, p6, q6, n7, p7, q7, n8, p8, q8, r9⟩, ?_, ok0, ok1, ok2, ok6, ok7, ok8, ok9⟩
  rw [e0, e1, f2, f3, f4, f5, e6, e7, e8, f9, f10, f11, f12]
  rfl
theorem spS_in {w : World} {s : Sp} (h : spS w s) (hf : fewX s.cs s.os = true) : SpIn w s := by
  obtain ⟨f1, f2, f3, f4⟩ := few_is hf
  obtain ⟨⟨⟨c1, c2, _, _⟩, _⟩, ⟨⟨o1, o2, _, _⟩, _⟩, _, ⟨⟨r1, _, _, _⟩, r5⟩, ⟨⟨g1, _, _, _⟩, g5⟩, ⟨⟨t1, t2, _, _⟩, t5⟩, _⟩ := h
  unfold reachBytes at r5 g5 t5
  exact ⟨by omega, by omega, fun o ho => by have := f3 o ho; omega, fun o ho => by have := f4 o ho; omega, by omega, by omega, by omega,
    fun o ho => by have h8 := (t2 o ho).2.2.2.2.2.2; unfold reachBytes at h8; omega,
    c1, o1, fun o ho => (c2 o ho).2.2.2.2.2.2.2.1.1.1, fun o ho => (o2 o ho).2.1.1, r1, g1, t1, fun o ho => (t2 o ho).2.2.2.2.2.1.1⟩
theorem spS_law {w : World} {s : Sp} (h : spS w s) : s.cs.length ≤ 17592186044403 ∧ s.os.length ≤ 17592186044403 ∧ (∀ o ∈ s.os, o.rows.length ≤ 17592186044403) ∧ (∀ c ∈ s.cs, c.plugs.length ≤ 17592186044403) ∧ (∀ c ∈ s.cs, rowOk c) ∧ SLV w s.pc (s.cs.flatMap colC) ∧ SLV w s.po (s.os.flatMap covC) := by
  obtain ⟨⟨⟨c1, c2, _, _⟩, c5⟩, ⟨⟨o1, o2, _, _⟩, o5⟩, _⟩ := h
  unfold reachBytes at c5 o5
  exact ⟨by omega, by omega, fun o ho => by have h8 := (o2 o ho).2.2; unfold reachBytes at h8; omega, fun o ho => by have h8 := (c2 o ho).2.2.2.2.2.2.2.1.2; unfold reachBytes at h8; omega,
    fun c hc => (c2 c hc).2.1, c1, o1⟩
end Go.Proofs.Ythpooalhibedpaa
/- ShipTells holds for every input: the program's own answer is true; each argument reads afterwards as it read before. -/
namespace Go.Proofs.Ythpooalhibedpaa
open Go.ChangeShapes Go.WideShapes Go.ChangeAt Go.RowKit Tw
set_option maxRecDepth 100000 in
theorem shipTells_lifted (os : Os) (started : os.Started) (H : Type) (enc : TypeId × Value → H) :
    ReturnsInHanded {} Try.checked os 3 .any (Rows.shipTellsSpec.pre6 enc Try.prog Try.f3 Rows.shipTellsRow.domain false) (Rows.shipTellsSpec.post enc Try.prog Try.f3 false true false false) := by
  refine returnsInHanded_of_change_sized (C := Try.checked) own started (by kernel_rfl) Try.func3
    (ChangeSpec.witness6 (enc := enc) (C := Try.checked) false ⟨#[], #[.agg #[.slice none 0 0, .slice none 0 0, .int .i64 0, .int .i64 0, .int .i64 0, .int .i64 0, .slice none 0 0, .slice none 0 0, .slice none 0 0, .int .i64 0, .int .i64 0, .int .i64 0, .int .i64 0], .int .i64 0, .int .i64 0, .int .i64 0, .bool false], []⟩ 8 (by kernel_rfl) (by kernel_rfl) (by kernel_rfl) (by kernel_rfl)) ?_
  intro W base args ds gs before hval0 hW _ hsz _
  have hval : ∀ (j : Nat) t v, Try.f3.params[j]? = some t → args[j]? = some v → Value.okWide Try.prog W .any base t v := hval0
  have hW2 := hW
  obtain ⟨p, q, hA0, hV, rfl, hfz, hnd⟩ := hW2
  have hA : DataW.TrodAll enc Try.prog W 0 (fun _ => true) true Try.f3.params.toList args.toList ds p := hA0
  rw [Try.params3] at hA hval
  obtain ⟨v0, vs0, d0, ds0, p0, q0, hargs, rfl, rfl, h0, r0⟩ := trodAll_cons hA
  obtain ⟨v1, vs1, d1, ds1, p1, q1, rfl, rfl, rfl, h1, r1⟩ := trodAll_cons r0
  obtain ⟨v2, vs2, d2, ds2, p2, q2, rfl, rfl, rfl, h2, r2⟩ := trodAll_cons r1
  obtain ⟨v3, vs3, d3, ds3, p3, q3, rfl, rfl, rfl, h3, r3⟩ := trodAll_cons r2
  obtain ⟨v4, vs4, d4, ds4, p4, q4, rfl, rfl, rfl, h4, r4⟩ := trodAll_cons r3
  obtain ⟨rfl, rfl, rfl⟩ := trodAll_nil r4
  obtain rfl : args = #[v0, v1, v2, v3, v4] := by cases args; simp_all
  obtain ⟨rfl, rfl⟩ := trodVars_none hV
  have k0 := h0
  have lt0 : ∀ x ∈ p0, x.block < W.heap.size := by obtain ⟨m, hm⟩ := k0; exact DataW.trod_lt m _ _ _ hm
  obtain ⟨y0, rfl, ok0⟩ := open_recS Try.underlying32 opensS_ship (hval 0 32 v0 rfl rfl) h0 (sized_par (j := 0) (t := 32) hsz rfl rfl)
  obtain ⟨a1, rfl, rfl, rfl, w1⟩ := open_int Try.underlying3 (hval 1 3 v1 rfl rfl) h1
  have rr1 : -9223372036854775808 ≤ a1 ∧ a1 ≤ 9223372036854775807 := of_wf w1
  obtain ⟨a2, rfl, rfl, rfl, w2⟩ := open_int Try.underlying3 (hval 2 3 v2 rfl rfl) h2
  have rr2 : -9223372036854775808 ≤ a2 ∧ a2 ≤ 9223372036854775807 := of_wf w2
  obtain ⟨a3, rfl, rfl, rfl, w3⟩ := open_int Try.underlying3 (hval 3 3 v3 rfl rfl) h3
  have rr3 : -9223372036854775808 ≤ a3 ∧ a3 ≤ 9223372036854775807 := of_wf w3
  obtain ⟨a4, rfl, rfl, rfl⟩ := open_bool Try.underlying4 (hval 4 4 v4 rfl rfl) h4
  clear hA0 hval0
  refine (ShipTells_law y0 (spS_law ok0).1 (spS_law ok0).2.1 (spS_law ok0).2.2.1 (spS_law ok0).2.2.2.1 (spS_law ok0).2.2.2.2.1 a1 a2 a3 a4 W (spS_law ok0).2.2.2.2.2.1 (spS_law ok0).2.2.2.2.2.2 (spS_in ok0)).mono fun e W' ⟨he, bel⟩ => ?_
  subst he
  exact ⟨_, rfl, _, _, _, [], _, [], hW, (trodAll_cons_mk (shut_bool Try.underlying4 _) trodAll_mk0), (trodAll_cons_mk (Below.trod laidOut (by kernel_rfl) (of_decide_eq_true (by kernel_rfl)) k0 bel lt0) (trodAll_cons_mk (shut_int Try.underlying3 w1) (trodAll_cons_mk (shut_int Try.underlying3 w2) (trodAll_cons_mk (shut_int Try.underlying3 w3) (trodAll_cons_mk (shut_bool Try.underlying4 _) trodAll_mk0))))), rfl, bel.frame _, fun h => by cases h⟩
theorem shipTells_proved : Rows.ShipTellsSaid :=
  OpenClaim.holds_of_wide 3 Try.f3 rfl rfl rfl rfl rfl rfl rfl ⟨rfl, rfl, rfl, rfl, rfl⟩ rfl rfl rfl rfl rfl (by kernel_rfl) Try.func3 (by kernel_rfl)
    (of_decide_eq_true (by kernel_rfl)) (by unfold Func.isWrapper; first | (rw [if_pos (by decide +kernel)]; kernel_rfl) | (rw [if_neg (by decide +kernel)]; exact ⟨rfl, rfl⟩))
    (fun os started H enc _ => shipTells_lifted os started H enc)
#print axioms shipTells_proved
end Go.Proofs.Ythpooalhibedpaa
