import Derived.Test.YtlinjngifacmoaaDoorSN00
import Derived.Test.YtlinjngifacmoaaDoorLA102
import Derived.Test.YtlinjngifacmoaaDoorLA101
import Derived.Test.YtlinjngifacmoaaDoorSN03
import Derived.Test.YtlinjngifacmoaaDoorSN04
import Derived.Test.YtlinjngifacmoaaDoorLA100
/- SlotNames: the law holds for every input; no condition but the row's own. -/
set_option linter.unusedVariables false
set_option linter.unusedSimpArgs false
set_option linter.unusedSectionVars false
namespace Go.Proofs.YtlinjngifacmoaaDoor
open Go Go.RowKit Tw
theorem eq_light (r : N4) {px py : Operand} (w : World) : (do eqGuard .eql 25 px py (.agg (n4C r).toArray) (.agg (n4C r).toArray); binOp .eql 25 (.agg (n4C r).toArray) (.agg (n4C r).toArray) : Sem Value).run Tryd.prog w = .ok (.bool true) w := by
 unfold n4C
 go_simp
theorem eq_limits (r : N4) {px py : Operand} (w : World) : (do eqGuard .eql 30 px py (.agg (n4C r).toArray) (.agg (n4C r).toArray); binOp .eql 30 (.agg (n4C r).toArray) (.agg (n4C r).toArray) : Sem Value).run Tryd.prog w = .ok (.bool true) w := by
 unfold n4C
 go_simp
theorem slv_preg {α : Type} {cells : α → List Value} {W : World} {p : Option Addr} {l m : List α} (h : SLV W p ((l ++ m).flatMap cells)) : SLV W p (l.flatMap cells) := by
 rw [List.flatMap_append] at h
 refine h.elim (fun e => .inl (List.append_eq_nil_iff.1 e).1) fun ⟨b, off, hp, hlt, hc⟩ => .inr ⟨b, off, hp, hlt, fun i u hu => hc i u ?_⟩
 rw [List.getElem?_append_left (List.getElem?_eq_some_iff.1 hu).1]
 exact hu
theorem LentOA.keep {W W' : World} {l X : List Cov} (h : LentOA W l X) (hb : Below W.heap.size W W') : LentOA W' l X := fun j x hx => by
 obtain ⟨y, q, d, h1, h2, h3, h4⟩ := h j x hx
 exact ⟨y, q, d, h1, h2, h3, h4.keep hb⟩
theorem LentCA.keep {W W' : World} {l X : List Col} (h : LentCA W l X) (hb : Below W.heap.size W W') : LentCA W' l X := fun j x hx => by
 obtain ⟨y, q, d, h1, h2, h3, h4⟩ := h j x hx
 exact ⟨y, q, d, h1, h2, h3, h4.keep hb⟩
theorem LentTA.keep {W W' : World} {l X : List Tk} (h : LentTA W l X) (hb : Below W.heap.size W W') : LentTA W' l X := fun j x hx => by
 obtain ⟨y, q, d, h1, h2, h3, h4⟩ := h j x hx
 exact ⟨y, q, d, h1, h2, h3, h4.keep hb⟩
theorem held {W W' : World} {b : Nat × Obj} (hb : Below W.heap.size W W') (h : W.heap[b.1]? = some b.2) : W'.heap[b.1]? = some b.2 :=
 (KS.below (W0 := (W : Base)) (K := [b]) ⟨Below.refl _ _, fun p hp => by cases List.mem_singleton.1 hp; exact h⟩ hb).2 _ Tw.m0
theorem SpIn.keep {W W' : World} {s : Sp} (h : SpIn W s) (hb : Below W.heap.size W W') : SpIn W' s := ⟨h.nc, h.no, h.np, h.nr, h.nrs, h.nfs, h.nts, h.nst, h.hc.keep hb, h.ho.keep hb, h.hp.keep hb, h.hr.keep hb, h.hrs.keep hb, h.hfs.keep hb, h.hts.keep hb, h.hst.keep hb⟩
set_option maxRecDepth 100000 in
set_option maxHeartbeats 4000000 in
theorem SameShip_any (s t : Sp) (T : List (Nat × Obj)) (w : World) (hs : SpIn w s) (h : LentSp s t T) (hT : ∀ b ∈ T, w.heap[b.1]? = some b.2) : Calls Tryd.prog 60 #[.agg (spC t).toArray, .agg (spC s).toArray] w fun e w' => e = .returned (.bool true) ∧ Below w.heap.size w w' := by
 go_enter Tryd.func60, Tryd.ntmps60
 refine wp_seq ?_
 refine wp_region_L [] (KS.start w) ?_
 refine wpL_new (fun g => .pointer (some ⟨g, 0, none⟩)) (obi := .cells #[.slice t.pc t.cs.length t.cc, .slice t.po t.os.length t.co, .int .i64 t.li.a, .int .i64 t.li.b, .int .i64 t.li.c, .int .i64 t.li.d, .slice t.pr t.rs.length t.cr, .slice t.pf t.fs.length t.cf, .slice t.pt t.ts.length t.ct, .int .i64 t.lm.a, .int .i64 t.lm.b, .int .i64 t.lm.c, .int .i64 t.lm.d] 32 (0, 0)) rfl rfl Tw.kf Tw.pf fun g1 Bg1 Fg1 => ?_
 refine wpL_new (fun g => .pointer (some ⟨g, 0, none⟩)) (obi := .cells #[.slice s.pc s.cs.length s.cc, .slice s.po s.os.length s.co, .int .i64 s.li.a, .int .i64 s.li.b, .int .i64 s.li.c, .int .i64 s.li.d, .slice s.pr s.rs.length s.cr, .slice s.pf s.fs.length s.cf, .slice s.pt s.ts.length s.ct, .int .i64 s.lm.a, .int .i64 s.lm.b, .int .i64 s.lm.c, .int .i64 s.lm.d] 32 (0, 0)) rfl rfl Tw.kf Tw.pf fun g2 Bg2 Fg2 => ?_
 obtain dj3_0 : g1 ≠ g2 := Tw.dkf Fg2
 refine lm (v := .bool false) rfl rfl ?_
 refine wpL_done (fun W1 hW1 => ?_)
 change Code.wp ..
 refine wp_seq ?_
 refine wp_region_L _ hW1 ?_
 refine lm (v := .pointer (some ⟨g1, 0, none⟩)) rfl rfl ?_
 refine lv (v := .slice t.pc t.cs.length t.cc) rfl rfl (yb_cell (off := 0) rfl Tw.kr Tw.m1 Tryd.underlying22 rfl Tw.kr) ?_
 refine lm (v := .pointer (some ⟨g2, 0, none⟩)) rfl rfl ?_
 refine lv (v := .slice s.pc s.cs.length s.cc) rfl rfl (yb_cell (off := 0) rfl Tw.kr Tw.m0 Tryd.underlying22 rfl Tw.kr) ?_
 refine lv (v := .bool true) rfl rfl (yb_call (f := 85) (args := #[.slice t.pc t.cs.length t.cc, .slice s.pc s.cs.length s.cc]) Tw.kf fun W hW => SameColumns_any s.cs t.cs t.pc s.pc t.cc s.cc hs.nc hs.np h.cs.1 W ((slv_preg (h.cs.2.2.1 w hT)).keep hW.1) ((h.cs.2.1.at hT).keep hW.1) ((hs.hc).keep hW.1) ((hs.hp).keep hW.1)) ?_
 refine lm (v := .bool true) rfl rfl ?_
 refine lm (v := .pointer (some ⟨g1, 1, none⟩)) rfl rfl ?_
 refine lv (v := .slice t.po t.os.length t.co) rfl rfl (yb_cell (off := 1) rfl Tw.kr Tw.m1 Tryd.underlying23 rfl Tw.kr) ?_
 refine lm (v := .pointer (some ⟨g2, 1, none⟩)) rfl rfl ?_
 refine lv (v := .slice s.po s.os.length s.co) rfl rfl (yb_cell (off := 1) rfl Tw.kr Tw.m0 Tryd.underlying23 rfl Tw.kr) ?_
 refine lv (v := .bool true) rfl rfl (yb_call (f := 86) (args := #[.slice t.po t.os.length t.co, .slice s.po s.os.length s.co]) Tw.kf fun W hW => SameCovers_any s.os t.os t.po s.po t.co s.co hs.no hs.nr h.os.1 W ((slv_preg (h.os.2.2.1 w hT)).keep hW.1) ((h.os.2.1.at hT).keep hW.1) ((hs.ho).keep hW.1) ((hs.hr).keep hW.1)) ?_
 refine lm (v := .bool true) rfl rfl ?_
 refine lm (v := .bool true) rfl rfl ?_
 refine lm (v := .pointer (some ⟨g1, 2, none⟩)) rfl rfl ?_
 refine lv (v := .agg #[.int .i64 t.li.a, .int .i64 t.li.b, .int .i64 t.li.c, .int .i64 t.li.d]) rfl rfl (yb_load (n := 4) (off := 2) rfl Tw.kr Tw.m1 Tryd.underlying25 rfl Tw.kr (by first | (simp [Value.cells]; done) | exact Nat.le_of_ble_eq_true rfl) Tw.kr) ?_
 refine lm (v := .pointer (some ⟨g2, 2, none⟩)) rfl rfl ?_
 refine lv (v := .agg #[.int .i64 s.li.a, .int .i64 s.li.b, .int .i64 s.li.c, .int .i64 s.li.d]) rfl rfl (yb_load (n := 4) (off := 2) rfl Tw.kr Tw.m0 Tryd.underlying25 rfl Tw.kr (by first | (simp [Value.cells]; done) | exact Nat.le_of_ble_eq_true rfl) Tw.kr) ?_
 refine lp (v := .bool true) rfl rfl (run_bin rfl (vx := .agg #[.int .i64 t.li.a, .int .i64 t.li.b, .int .i64 t.li.c, .int .i64 t.li.d]) (vy := .agg #[.int .i64 s.li.a, .int .i64 s.li.b, .int .i64 s.li.c, .int .i64 s.li.d]) Tw.kr Tw.kr fun w => (by rw [h.rest.1]; exact eq_light s.li w)) ?_
 refine lm (v := .bool true) rfl rfl ?_
 refine lm (v := .bool true) rfl rfl ?_
 refine lm (v := .pointer (some ⟨g1, 6, none⟩)) rfl rfl ?_
 refine lv (v := .slice t.pr t.rs.length t.cr) rfl rfl (yb_cell (off := 6) rfl Tw.kr Tw.m1 Tryd.underlying26 rfl Tw.kr) ?_
 refine lm (v := .pointer (some ⟨g2, 6, none⟩)) rfl rfl ?_
 refine lv (v := .slice s.pr s.rs.length s.cr) rfl rfl (yb_cell (off := 6) rfl Tw.kr Tw.m0 Tryd.underlying26 rfl Tw.kr) ?_
 refine lv (v := .bool true) rfl rfl (yb_call (f := 87) (args := #[.slice t.pr t.rs.length t.cr, .slice s.pr s.rs.length s.cr]) Tw.kf fun W hW => (by rw [h.rest.2.2.1]; exact SameRows_any s.rs t.pr s.pr t.cr s.cr hs.nrs W ((slv_preg (h.rs.1 w hT)).keep hW.1) ((hs.hrs).keep hW.1))) ?_
 refine lm (v := .bool true) rfl rfl ?_
 refine lm (v := .bool true) rfl rfl ?_
 refine lm (v := .pointer (some ⟨g1, 7, none⟩)) rfl rfl ?_
 refine lv (v := .slice t.pf t.fs.length t.cf) rfl rfl (yb_cell (off := 7) rfl Tw.kr Tw.m1 Tryd.underlying27 rfl Tw.kr) ?_
 refine lm (v := .pointer (some ⟨g2, 7, none⟩)) rfl rfl ?_
 refine lv (v := .slice s.pf s.fs.length s.cf) rfl rfl (yb_cell (off := 7) rfl Tw.kr Tw.m0 Tryd.underlying27 rfl Tw.kr) ?_
 refine lv (v := .bool true) rfl rfl (yb_call (f := 88) (args := #[.slice t.pf t.fs.length t.cf, .slice s.pf s.fs.length s.cf]) Tw.kf fun W hW => (by rw [h.rest.2.2.2]; exact SameFrames_any s.fs t.pf s.pf t.cf s.cf hs.nfs W ((slv_preg (h.fs.1 w hT)).keep hW.1) ((hs.hfs).keep hW.1))) ?_
 refine lm (v := .bool true) rfl rfl ?_
 refine lm (v := .bool true) rfl rfl ?_
 refine lm (v := .pointer (some ⟨g1, 8, none⟩)) rfl rfl ?_
 refine lv (v := .slice t.pt t.ts.length t.ct) rfl rfl (yb_cell (off := 8) rfl Tw.kr Tw.m1 Tryd.underlying28 rfl Tw.kr) ?_
 refine lm (v := .pointer (some ⟨g2, 8, none⟩)) rfl rfl ?_
 refine lv (v := .slice s.pt s.ts.length s.ct) rfl rfl (yb_cell (off := 8) rfl Tw.kr Tw.m0 Tryd.underlying28 rfl Tw.kr) ?_
 refine lv (v := .bool true) rfl rfl (yb_call (f := 89) (args := #[.slice t.pt t.ts.length t.ct, .slice s.pt s.ts.length s.ct]) Tw.kf fun W hW => SameTanks_any s.ts t.ts t.pt s.pt t.ct s.ct hs.nts hs.nst h.ts.1 W ((slv_preg (h.ts.2.2.1 w hT)).keep hW.1) ((h.ts.2.1.at hT).keep hW.1) ((hs.hts).keep hW.1) ((hs.hst).keep hW.1)) ?_
 refine lm (v := .bool true) rfl rfl ?_
 refine lm (v := .bool true) rfl rfl ?_
 refine lm (v := .pointer (some ⟨g1, 9, none⟩)) rfl rfl ?_
 refine lv (v := .agg #[.int .i64 t.lm.a, .int .i64 t.lm.b, .int .i64 t.lm.c, .int .i64 t.lm.d]) rfl rfl (yb_load (n := 4) (off := 9) rfl Tw.kr Tw.m1 Tryd.underlying30 rfl Tw.kr (by first | (simp [Value.cells]; done) | exact Nat.le_of_ble_eq_true rfl) Tw.kr) ?_
 refine lm (v := .pointer (some ⟨g2, 9, none⟩)) rfl rfl ?_
 refine lv (v := .agg #[.int .i64 s.lm.a, .int .i64 s.lm.b, .int .i64 s.lm.c, .int .i64 s.lm.d]) rfl rfl (yb_load (n := 4) (off := 9) rfl Tw.kr Tw.m0 Tryd.underlying30 rfl Tw.kr (by first | (simp [Value.cells]; done) | exact Nat.le_of_ble_eq_true rfl) Tw.kr) ?_
 refine lp (v := .bool true) rfl rfl (run_bin rfl (vx := .agg #[.int .i64 t.lm.a, .int .i64 t.lm.b, .int .i64 t.lm.c, .int .i64 t.lm.d]) (vy := .agg #[.int .i64 s.lm.a, .int .i64 s.lm.b, .int .i64 s.lm.c, .int .i64 s.lm.d]) Tw.kr Tw.kr fun w => (by rw [h.rest.2.1]; exact eq_limits s.lm w)) ?_
 refine lm (v := .bool true) rfl rfl ?_
 refine lm (v := .bool true) rfl rfl ?_
 refine wpL_done (fun W2 hW2 => ?_)
 change Code.wp ..
 refine wp_ret ?_
 try simp only [inBlock_ret, then_ret]
 refine bodyPost_ret (v := .bool true) ?_ rfl ?_
 · kernel_rfl
 · exact ⟨rfl, hW2.1⟩
set_option maxRecDepth 100000 in
set_option maxHeartbeats 4000000 in
theorem KeptShip_any (s t : Sp) (T : List (Nat × Obj)) (w : World) (hs : SpIn w s) (h : LentSp s t T) (hT : ∀ b ∈ T, w.heap[b.1]? = some b.2) : Calls Tryd.prog 27 #[.agg (spC t).toArray, .agg (spC s).toArray] w fun e w' => e = .returned (.bool true) ∧ Below w.heap.size w w' := by
 go_enter Tryd.func27, Tryd.ntmps27
 refine wp_seq ?_
 refine wp_region_L [] (KS.start w) ?_
 refine wpL_new (fun g => .pointer (some ⟨g, 0, none⟩)) (obi := .cells #[.slice t.pc t.cs.length t.cc, .slice t.po t.os.length t.co, .int .i64 t.li.a, .int .i64 t.li.b, .int .i64 t.li.c, .int .i64 t.li.d, .slice t.pr t.rs.length t.cr, .slice t.pf t.fs.length t.cf, .slice t.pt t.ts.length t.ct, .int .i64 t.lm.a, .int .i64 t.lm.b, .int .i64 t.lm.c, .int .i64 t.lm.d] 32 (0, 0)) rfl rfl Tw.kf Tw.pf fun g1 Bg1 Fg1 => ?_
 refine wpL_new (fun g => .pointer (some ⟨g, 0, none⟩)) (obi := .cells #[.slice s.pc s.cs.length s.cc, .slice s.po s.os.length s.co, .int .i64 s.li.a, .int .i64 s.li.b, .int .i64 s.li.c, .int .i64 s.li.d, .slice s.pr s.rs.length s.cr, .slice s.pf s.fs.length s.cf, .slice s.pt s.ts.length s.ct, .int .i64 s.lm.a, .int .i64 s.lm.b, .int .i64 s.lm.c, .int .i64 s.lm.d] 32 (0, 0)) rfl rfl Tw.kf Tw.pf fun g2 Bg2 Fg2 => ?_
 obtain dj3_0 : g1 ≠ g2 := Tw.dkf Fg2
 refine lm (v := .bool false) rfl rfl ?_
 refine wpL_done (fun W1 hW1 => ?_)
 change Code.wp ..
 refine wp_seq ?_
 refine wp_region_L _ hW1 ?_
 refine lv (v := .agg #[.slice t.pc t.cs.length t.cc, .slice t.po t.os.length t.co, .int .i64 t.li.a, .int .i64 t.li.b, .int .i64 t.li.c, .int .i64 t.li.d, .slice t.pr t.rs.length t.cr, .slice t.pf t.fs.length t.cf, .slice t.pt t.ts.length t.ct, .int .i64 t.lm.a, .int .i64 t.lm.b, .int .i64 t.lm.c, .int .i64 t.lm.d]) rfl rfl (yb_load (n := 13) (off := 0) rfl Tw.kr Tw.m1 Tryd.underlying32 rfl Tw.kr (by first | (simp [Value.cells]; done) | exact Nat.le_of_ble_eq_true rfl) Tw.kr) ?_
 refine lv (v := .agg #[.slice s.pc s.cs.length s.cc, .slice s.po s.os.length s.co, .int .i64 s.li.a, .int .i64 s.li.b, .int .i64 s.li.c, .int .i64 s.li.d, .slice s.pr s.rs.length s.cr, .slice s.pf s.fs.length s.cf, .slice s.pt s.ts.length s.ct, .int .i64 s.lm.a, .int .i64 s.lm.b, .int .i64 s.lm.c, .int .i64 s.lm.d]) rfl rfl (yb_load (n := 13) (off := 0) rfl Tw.kr Tw.m0 Tryd.underlying32 rfl Tw.kr (by first | (simp [Value.cells]; done) | exact Nat.le_of_ble_eq_true rfl) Tw.kr) ?_
 refine lv (v := .bool true) rfl rfl (yb_call (f := 60) (args := #[.agg #[.slice t.pc t.cs.length t.cc, .slice t.po t.os.length t.co, .int .i64 t.li.a, .int .i64 t.li.b, .int .i64 t.li.c, .int .i64 t.li.d, .slice t.pr t.rs.length t.cr, .slice t.pf t.fs.length t.cf, .slice t.pt t.ts.length t.ct, .int .i64 t.lm.a, .int .i64 t.lm.b, .int .i64 t.lm.c, .int .i64 t.lm.d], .agg #[.slice s.pc s.cs.length s.cc, .slice s.po s.os.length s.co, .int .i64 s.li.a, .int .i64 s.li.b, .int .i64 s.li.c, .int .i64 s.li.d, .slice s.pr s.rs.length s.cr, .slice s.pf s.fs.length s.cf, .slice s.pt s.ts.length s.ct, .int .i64 s.lm.a, .int .i64 s.lm.b, .int .i64 s.lm.c, .int .i64 s.lm.d]]) Tw.kf fun W hW => SameShip_any s t T W (hs.keep hW.1) h (fun b hb => held hW.1 (hT b hb))) ?_
 refine lm (v := .bool true) rfl rfl ?_
 refine lm (v := .pointer (some ⟨g1, 0, none⟩)) rfl rfl ?_
 refine lv (v := .slice t.pc t.cs.length t.cc) rfl rfl (yb_cell (off := 0) rfl Tw.kr Tw.m1 Tryd.underlying22 rfl Tw.kr) ?_
 refine lm (v := .pointer (some ⟨g2, 0, none⟩)) rfl rfl ?_
 refine lv (v := .slice s.pc s.cs.length s.cc) rfl rfl (yb_cell (off := 0) rfl Tw.kr Tw.m0 Tryd.underlying22 rfl Tw.kr) ?_
 refine lv (v := .bool true) rfl rfl (yb_call (f := 61) (args := #[.slice t.pc t.cs.length t.cc, .slice s.pc s.cs.length s.cc]) Tw.kf fun W hW => (by rw [h.cs.1]; exact KeptColumns_any s.cs t.cs t.pc s.pc t.cc s.cc hs.nc hs.np h.cs.1 h.cs.2.2.2 W ((h.cs.2.2.1 w hT).keep hW.1) ((h.cs.2.1.at hT).keep hW.1) ((hs.hc).keep hW.1) ((hs.hp).keep hW.1))) ?_
 refine lm (v := .bool true) rfl rfl ?_
 refine lm (v := .bool true) rfl rfl ?_
 refine lm (v := .pointer (some ⟨g1, 1, none⟩)) rfl rfl ?_
 refine lv (v := .slice t.po t.os.length t.co) rfl rfl (yb_cell (off := 1) rfl Tw.kr Tw.m1 Tryd.underlying23 rfl Tw.kr) ?_
 refine lm (v := .pointer (some ⟨g2, 1, none⟩)) rfl rfl ?_
 refine lv (v := .slice s.po s.os.length s.co) rfl rfl (yb_cell (off := 1) rfl Tw.kr Tw.m0 Tryd.underlying23 rfl Tw.kr) ?_
 refine lv (v := .bool true) rfl rfl (yb_call (f := 62) (args := #[.slice t.po t.os.length t.co, .slice s.po s.os.length s.co]) Tw.kf fun W hW => (by rw [h.os.1]; exact KeptCovers_any s.os t.os t.po s.po t.co s.co hs.no hs.nr h.os.1 h.os.2.2.2 W ((h.os.2.2.1 w hT).keep hW.1) ((h.os.2.1.at hT).keep hW.1) ((hs.ho).keep hW.1) ((hs.hr).keep hW.1))) ?_
 refine lm (v := .bool true) rfl rfl ?_
 refine lm (v := .bool true) rfl rfl ?_
 refine lm (v := .pointer (some ⟨g1, 6, none⟩)) rfl rfl ?_
 refine lv (v := .slice t.pr t.rs.length t.cr) rfl rfl (yb_cell (off := 6) rfl Tw.kr Tw.m1 Tryd.underlying26 rfl Tw.kr) ?_
 refine lm (v := .pointer (some ⟨g2, 6, none⟩)) rfl rfl ?_
 refine lv (v := .slice s.pr s.rs.length s.cr) rfl rfl (yb_cell (off := 6) rfl Tw.kr Tw.m0 Tryd.underlying26 rfl Tw.kr) ?_
 refine lv (v := .bool true) rfl rfl (yb_call (f := 63) (args := #[.slice t.pr t.rs.length t.cr, .slice s.pr s.rs.length s.cr]) Tw.kf fun W hW => (by rw [h.rest.2.2.1]; exact KeptRows_any s.rs t.pr s.pr t.cr s.cr hs.nrs h.rs.2 W ((h.rs.1 w hT).keep hW.1) ((hs.hrs).keep hW.1))) ?_
 refine lm (v := .bool true) rfl rfl ?_
 refine lm (v := .bool true) rfl rfl ?_
 refine lm (v := .pointer (some ⟨g1, 7, none⟩)) rfl rfl ?_
 refine lv (v := .slice t.pf t.fs.length t.cf) rfl rfl (yb_cell (off := 7) rfl Tw.kr Tw.m1 Tryd.underlying27 rfl Tw.kr) ?_
 refine lm (v := .pointer (some ⟨g2, 7, none⟩)) rfl rfl ?_
 refine lv (v := .slice s.pf s.fs.length s.cf) rfl rfl (yb_cell (off := 7) rfl Tw.kr Tw.m0 Tryd.underlying27 rfl Tw.kr) ?_
 refine lv (v := .bool true) rfl rfl (yb_call (f := 64) (args := #[.slice t.pf t.fs.length t.cf, .slice s.pf s.fs.length s.cf]) Tw.kf fun W hW => (by rw [h.rest.2.2.2]; exact KeptFrames_any s.fs t.pf s.pf t.cf s.cf hs.nfs h.fs.2 W ((h.fs.1 w hT).keep hW.1) ((hs.hfs).keep hW.1))) ?_
 refine lm (v := .bool true) rfl rfl ?_
 refine lm (v := .bool true) rfl rfl ?_
 refine lm (v := .pointer (some ⟨g1, 8, none⟩)) rfl rfl ?_
 refine lv (v := .slice t.pt t.ts.length t.ct) rfl rfl (yb_cell (off := 8) rfl Tw.kr Tw.m1 Tryd.underlying28 rfl Tw.kr) ?_
 refine lm (v := .pointer (some ⟨g2, 8, none⟩)) rfl rfl ?_
 refine lv (v := .slice s.pt s.ts.length s.ct) rfl rfl (yb_cell (off := 8) rfl Tw.kr Tw.m0 Tryd.underlying28 rfl Tw.kr) ?_
 refine lv (v := .bool true) rfl rfl (yb_call (f := 65) (args := #[.slice t.pt t.ts.length t.ct, .slice s.pt s.ts.length s.ct]) Tw.kf fun W hW => (by rw [h.ts.1]; exact KeptTanks_any s.ts t.ts t.pt s.pt t.ct s.ct hs.nts hs.nst h.ts.1 h.ts.2.2.2 W ((h.ts.2.2.1 w hT).keep hW.1) ((h.ts.2.1.at hT).keep hW.1) ((hs.hts).keep hW.1) ((hs.hst).keep hW.1))) ?_
 refine lm (v := .bool true) rfl rfl ?_
 refine lm (v := .bool true) rfl rfl ?_
 refine wpL_done (fun W2 hW2 => ?_)
 change Code.wp ..
 refine wp_ret ?_
 try simp only [inBlock_ret, then_ret]
 refine bodyPost_ret (v := .bool true) ?_ rfl ?_
 · kernel_rfl
 · exact ⟨rfl, hW2.1⟩
end Go.Proofs.YtlinjngifacmoaaDoor
namespace Go.Proofs.YtlinjngifacmoaaDoor
open Go Go.RowKit Tw
theorem lentOA_rw8 {W : World} {l X : List Cov} (h : LentOA W l X) : RwR W X := fun o ho => by
 obtain ⟨j, hj⟩ := List.getElem?_of_mem ho
 obtain ⟨y, q, d, _, rfl, _, h4⟩ := h j o hj
 exact slv_pre0 h4
theorem lentCA_pl8 {W : World} {l X : List Col} (h : LentCA W l X) : PlR W X := fun o ho => by
 obtain ⟨j, hj⟩ := List.getElem?_of_mem ho
 obtain ⟨y, q, d, _, rfl, _, h4⟩ := h j o hj
 exact slv_pre0 h4
theorem lentO_len8 {l X : List Cov} {T : List (Nat × Obj)} {m : Nat} (h : LentO l X T) (hl : ∀ o ∈ l, o.rows.length ≤ m) : ∀ o ∈ X, o.rows.length ≤ m := fun o ho => by
 obtain ⟨j, hj⟩ := List.getElem?_of_mem ho
 obtain ⟨y, q, d, h1, rfl, _, _⟩ := h j o hj
 exact hl y (List.mem_of_getElem? h1)
theorem lentC_len8 {l X : List Col} {T : List (Nat × Obj)} {m : Nat} (h : LentC l X T) (hl : ∀ o ∈ l, o.plugs.length ≤ m) : ∀ o ∈ X, o.plugs.length ≤ m := fun o ho => by
 obtain ⟨j, hj⟩ := List.getElem?_of_mem ho
 obtain ⟨y, q, d, h1, rfl, _, _⟩ := h j o hj
 exact hl y (List.mem_of_getElem? h1)
set_option maxRecDepth 100000 in
set_option maxHeartbeats 4000000 in
theorem SlotNames_any (s : Sp) (n1 : s.cs.length ≤ 17592186044403) (n2 : s.os.length ≤ 17592186044403) (lr : ∀ o ∈ s.os, o.rows.length ≤ 17592186044403) (lq : ∀ c ∈ s.cs, c.plugs.length ≤ 17592186044403) (x : Slt) (l : List UInt8) (hl : l.length ≤ 281474976710656) (w : World) (hc : SLV w s.pc (s.cs.flatMap colC)) (ho : SLV w s.po (s.os.flatMap covC)) (hin : fewX s.cs s.os = true → SpIn w s) (hE : Env w) : Calls Tryd.prog 4 #[.agg (spC s).toArray, .agg (sltC x).toArray, strV l] w fun e w' => e = .returned (.bool true) ∧ Below w.heap.size w w' := by
 have HE := Lib.hid hE
 clear hE
 go_enter Tryd.func4, Tryd.ntmps4
 refine wp_seq ?_
 refine wp_region_L [] (KS.start w) ?_
 refine wpL_new (fun g => .pointer (some ⟨g, 0, none⟩)) (obi := .cells #[.slice s.pc s.cs.length s.cc, .slice s.po s.os.length s.co, .int .i64 s.li.a, .int .i64 s.li.b, .int .i64 s.li.c, .int .i64 s.li.d, .slice s.pr s.rs.length s.cr, .slice s.pf s.fs.length s.cf, .slice s.pt s.ts.length s.ct, .int .i64 s.lm.a, .int .i64 s.lm.b, .int .i64 s.lm.c, .int .i64 s.lm.d] 32 (0, 0)) rfl rfl Tw.kf Tw.pf fun g1 Bg1 Fg1 => ?_
 refine wpL_new (fun g => .pointer (some ⟨g, 0, none⟩)) (obi := .cells (sltC x).toArray 34 (0, 0)) rfl rfl Tw.kf Tw.pf fun g2 Bg2 Fg2 => ?_
 obtain dj3_0 : g1 ≠ g2 := Tw.dkf Fg2
 refine lm (v := .bool false) rfl rfl ?_
 refine wpL_done (fun W1 hW1 => ?_)
 change Code.wp ..
 refine wp_seq ?_
 refine wp_seq ?_
 refine wp_region_L _ hW1 ?_
 refine lv (v := .agg #[.slice s.pc s.cs.length s.cc, .slice s.po s.os.length s.co, .int .i64 s.li.a, .int .i64 s.li.b, .int .i64 s.li.c, .int .i64 s.li.d, .slice s.pr s.rs.length s.cr, .slice s.pf s.fs.length s.cf, .slice s.pt s.ts.length s.ct, .int .i64 s.lm.a, .int .i64 s.lm.b, .int .i64 s.lm.c, .int .i64 s.lm.d]) rfl rfl (yb_load (n := 13) (off := 0) rfl Tw.kr Tw.m1 Tryd.underlying32 rfl Tw.kr (by first | (simp [Value.cells]; done) | exact Nat.le_of_ble_eq_true rfl) Tw.kr) ?_
 refine lv (v := .bool (few8X s.cs s.os)) rfl rfl (yb_call (f := 10) (args := #[.agg #[.slice s.pc s.cs.length s.cc, .slice s.po s.os.length s.co, .int .i64 s.li.a, .int .i64 s.li.b, .int .i64 s.li.c, .int .i64 s.li.d, .slice s.pr s.rs.length s.cr, .slice s.pf s.fs.length s.cf, .slice s.pt s.ts.length s.ct, .int .i64 s.lm.a, .int .i64 s.lm.b, .int .i64 s.lm.c, .int .i64 s.lm.d]]) Tw.kf fun W hW => few8_any s.cs s.pc s.cc n1 s.os s.po s.co n2 (spT s) W ((hc).keep hW.1) ((ho).keep hW.1) lr lq) ?_
 refine lp (v := .bool (!(few8X s.cs s.os))) rfl rfl (run_un rfl Tw.kr fun w => un_not w) ?_
 refine wpL_done (fun W2 hW2 => ?_)
 change Code.wp ..
 cases h1 : (few8X s.cs s.os) with
 | false =>
   refine wp_cond_true rfl ?_
   refine wp_seq ?_
   refine wp_region_L _ hW2 ?_
   refine lv (v := .bool true) rfl rfl (yb_call (f := 11) (args := #[]) Tw.kf fun W hW => awake8_any W (HE.out.keep hW.1)) ?_
   refine lm (v := .bool true) rfl rfl ?_
   refine wpL_done (fun W3 hW3 => ?_)
   change Code.wp ..
   refine wp_ret ?_
   try simp only [inBlock_ret, then_ret]
   refine bodyPost_ret (v := .bool true) ?_ rfl ?_
   · kernel_rfl
   · exact ⟨rfl, hW3.1⟩
 | true =>
   refine wp_cond_false rfl ?_
   refine wp_skip ?_
   change Code.wp ..
   refine wp_seq ?_
   refine wp_region_L _ hW2 ?_
   refine lv (v := .agg #[.slice s.pc s.cs.length s.cc, .slice s.po s.os.length s.co, .int .i64 s.li.a, .int .i64 s.li.b, .int .i64 s.li.c, .int .i64 s.li.d, .slice s.pr s.rs.length s.cr, .slice s.pf s.fs.length s.cf, .slice s.pt s.ts.length s.ct, .int .i64 s.lm.a, .int .i64 s.lm.b, .int .i64 s.lm.c, .int .i64 s.lm.d]) rfl rfl (yb_load (n := 13) (off := 0) rfl Tw.kr Tw.m1 Tryd.underlying32 rfl Tw.kr (by first | (simp [Value.cells]; done) | exact Nat.le_of_ble_eq_true rfl) Tw.kr) ?_
   obtain ⟨k1, k2, k3, k4⟩ := few8_is h1
   have hI := hin (few8_few h1)
   have hs1 : s.cs.length ≤ 4000000000 := by omega
   have hs2 : s.os.length ≤ 4000000000 := by omega
   have hsa : s.cs.length ≤ 1000 := by omega
   refine wpL_c (f := 12) (args := #[.agg #[.slice s.pc s.cs.length s.cc, .slice s.po s.os.length s.co, .int .i64 s.li.a, .int .i64 s.li.b, .int .i64 s.li.c, .int .i64 s.li.d, .slice s.pr s.rs.length s.cr, .slice s.pf s.fs.length s.cf, .slice s.pt s.ts.length s.ct, .int .i64 s.lm.a, .int .i64 s.lm.b, .int .i64 s.lm.c, .int .i64 s.lm.d]]) (NewF (fun T v => ∃ t : Sp, v = .agg #[.slice t.pc t.cs.length t.cc, .slice t.po t.os.length t.co, .int .i64 t.li.a, .int .i64 t.li.b, .int .i64 t.li.c, .int .i64 t.li.d, .slice t.pr t.rs.length t.cr, .slice t.pf t.fs.length t.cf, .slice t.pt t.ts.length t.ct, .int .i64 t.lm.a, .int .i64 t.lm.b, .int .i64 t.lm.c, .int .i64 t.lm.d] ∧ LentSp s t T) w [(g2, .cells (sltC x).toArray 34 (0, 0)), (g1, .cells #[.slice s.pc s.cs.length s.cc, .slice s.po s.os.length s.co, .int .i64 s.li.a, .int .i64 s.li.b, .int .i64 s.li.c, .int .i64 s.li.d, .slice s.pr s.rs.length s.cr, .slice s.pf s.fs.length s.cf, .slice s.pt s.ts.length s.ct, .int .i64 s.lm.a, .int .i64 s.lm.b, .int .i64 s.lm.c, .int .i64 s.lm.d] 32 (0, 0))]) rfl Tw.kr Tw.kf (fun W hW => calls_new hW ((LentShip_any s W (hI.keep hW.1)).mono fun _ _ ⟨t, T, h1, h2, h3, h4⟩ => ⟨_, T, h1, ⟨t, rfl, h2⟩, h3, h4⟩)) Tw.pf ?_
   rintro _ _ ⟨TS, ⟨t, rfl, hL⟩, hTn, hTd, rfl⟩
   obtain ⟨dj4_0, dj4_1⟩ : Dk g2 TS ∧ Dk g1 TS := Tw.djf hTd
   have ht1 : t.cs.length ≤ 4000000000 := by have := hL.cs.1; omega
   have ht2 : t.os.length ≤ 4000000000 := by have := hL.os.1; omega
   have hta : t.cs.length ≤ 1000 := by have := hL.cs.1; omega
   have hHC : ∀ W : World, (∀ b ∈ TS, W.heap[b.1]? = some b.2) → SLV W t.pc (t.cs.flatMap colC) := fun W hh => slv_preg (hL.cs.2.2.1 W hh)
   have hHO : ∀ W : World, (∀ b ∈ TS, W.heap[b.1]? = some b.2) → SLV W t.po (t.os.flatMap covC) := fun W hh => slv_preg (hL.os.2.2.1 W hh)
   obtain ⟨eR, eS, eT⟩ := lent_slots hL
   have e1 := (lent_says hL).1
   have ls3 : ∀ c ∈ s.cs, c.plugs.length ≤ 4000000000 := fun c hc => by have := (k3 c hc).1; omega
   have ls4 : ∀ c ∈ s.os, c.rows.length ≤ 4000000000 := fun c hc => by have := k4 c hc; omega
   have lt3 := lentC_len8 hL.cs.2.1 ls3
   have lt4 := lentO_len8 hL.os.2.1 ls4
   obtain ⟨en, ef⟩ := lent_names hL
   refine wpL_new (fun g => .pointer (some ⟨g, 0, none⟩)) (obi := .cells (shC (.slice none 0 0) (.slice none 0 0) tl0).toArray 32 (0, 0)) rfl rfl Tw.kf Tw.pf fun g5 Bg5 Fg5 => ?_
   obtain ⟨dj6_0, dj6_1, dj6_2⟩ : g2 ≠ g5 ∧ g1 ≠ g5 ∧ Dk g5 TS := Tw.dkf Fg5
   refine wpL_s ((g5, .cells #[.slice t.pc t.cs.length t.cc, .slice t.po t.os.length t.co, .int .i64 t.li.a, .int .i64 t.li.b, .int .i64 t.li.c, .int .i64 t.li.d, .slice t.pr t.rs.length t.cr, .slice t.pf t.fs.length t.cf, .slice t.pt t.ts.length t.ct, .int .i64 t.lm.a, .int .i64 t.lm.b, .int .i64 t.lm.c, .int .i64 t.lm.d] 32 (0, 0)) :: (g2, .cells (sltC x).toArray 34 (0, 0)) :: (g1, .cells #[.slice s.pc s.cs.length s.cc, .slice s.po s.os.length s.co, .int .i64 s.li.a, .int .i64 s.li.b, .int .i64 s.li.c, .int .i64 s.li.d, .slice s.pr s.rs.length s.cr, .slice s.pf s.fs.length s.cf, .slice s.pt s.ts.length s.ct, .int .i64 s.lm.a, .int .i64 s.lm.b, .int .i64 s.lm.c, .int .i64 s.lm.d] 32 (0, 0)) :: TS) rfl rfl (st_row (off := 0) (v := .agg #[.slice t.pc t.cs.length t.cc, .slice t.po t.os.length t.co, .int .i64 t.li.a, .int .i64 t.li.b, .int .i64 t.li.c, .int .i64 t.li.d, .slice t.pr t.rs.length t.cr, .slice t.pf t.fs.length t.cf, .slice t.pt t.ts.length t.ct, .int .i64 t.lm.a, .int .i64 t.lm.b, .int .i64 t.lm.c, .int .i64 t.lm.d]) rfl Tw.kr Tw.kr Tw.m0 Bg5 Tw.kr (by first | (simp [Value.cells]; done) | exact Nat.le_of_ble_eq_true rfl) (by intro v hv; simp [Value.cells] at hv; first | (subst hv; rfl) | (rcases hv with rfl | rfl | rfl | rfl | rfl | rfl | rfl | rfl | rfl | rfl | rfl | rfl | rfl <;> rfl)) Tw.kr (List.forall_mem_cons.2 ⟨.inl rfl, (List.forall_mem_cons.2 ⟨.inr ⟨Tw.m1, Tw.nee⟩, (List.forall_mem_cons.2 ⟨.inr ⟨Tw.m2, Tw.nee⟩, (fun p hp => .inr ⟨(.tail _ (.tail _ (.tail _ hp))), ((show Dk g5 TS from Tw.djt) _ hp)⟩)⟩)⟩)⟩)) ?_
   refine wpL_done (fun W4 hW4 => ?_)
   change Code.wp ..
   refine wp_seq ?_
   refine wp_region_L _ hW4 ?_
   refine lv (v := .agg #[.slice t.pc t.cs.length t.cc, .slice t.po t.os.length t.co, .int .i64 t.li.a, .int .i64 t.li.b, .int .i64 t.li.c, .int .i64 t.li.d, .slice t.pr t.rs.length t.cr, .slice t.pf t.fs.length t.cf, .slice t.pt t.ts.length t.ct, .int .i64 t.lm.a, .int .i64 t.lm.b, .int .i64 t.lm.c, .int .i64 t.lm.d]) rfl rfl (yb_load (n := 13) (off := 0) rfl Tw.kr Tw.m0 Tryd.underlying32 rfl Tw.kr (by first | (simp [Value.cells]; done) | exact Nat.le_of_ble_eq_true rfl) Tw.kr) ?_
   refine lv (v := .agg (sltC x).toArray) rfl rfl (yb_load (n := 3) (off := 0) rfl Tw.kr Tw.m1 Tryd.underlying34 rfl Tw.kr (by first | (simp [Value.cells]; done) | exact Nat.le_of_ble_eq_true rfl) Tw.kr) ?_
   refine lv (v := .tuple #[strV ((nameR s.cs s.os x).1), .int .i64 ((((nameR s.cs s.os x).2) : Nat) : Int)]) rfl rfl (yb_call (f := 29) (args := #[.agg #[.slice t.pc t.cs.length t.cc, .slice t.po t.os.length t.co, .int .i64 t.li.a, .int .i64 t.li.b, .int .i64 t.li.c, .int .i64 t.li.d, .slice t.pr t.rs.length t.cr, .slice t.pf t.fs.length t.cf, .slice t.pt t.ts.length t.ct, .int .i64 t.lm.a, .int .i64 t.lm.b, .int .i64 t.lm.c, .int .i64 t.lm.d], .agg (sltC x).toArray]) Tw.kf fun W hW => (by have h9 := SName_any t.cs t.pc t.cc ht1 t.os t.po t.co ht2 (spT t) x.col x.tier x.half W (hHC _ (fun b hb => hW.2 b (by simp only [List.mem_cons, List.mem_append, List.nil_append, List.not_mem_nil, or_assoc, or_false, false_or, hb, true_or, or_true]))) (hHO _ (fun b hb => hW.2 b (by simp only [List.mem_cons, List.mem_append, List.nil_append, List.not_mem_nil, or_assoc, or_false, false_or, hb, true_or, or_true]))) (lentOA_rw8 (hL.os.2.1.at (fun b hb => hW.2 b (by simp only [List.mem_cons, List.mem_append, List.nil_append, List.not_mem_nil, or_assoc, or_false, false_or, hb, true_or, or_true])))) lt4 (lentCA_pl8 (hL.cs.2.1.at (fun b hb => hW.2 b (by simp only [List.mem_cons, List.mem_append, List.nil_append, List.not_mem_nil, or_assoc, or_false, false_or, hb, true_or, or_true])))) lt3 (HE.out.keep hW.1); rw [en] at h9; exact h9)) ?_
   refine lm (v := .tuple #[strV ((nameR s.cs s.os x).1), .int .i64 ((((nameR s.cs s.os x).2) : Nat) : Int)]) rfl rfl ?_
   refine lm (v := strV ((nameR s.cs s.os x).1)) rfl rfl ?_
   refine lm (v := .int .i64 ((((nameR s.cs s.os x).2) : Nat) : Int)) rfl rfl ?_
   refine lm (v := strV ((nameR s.cs s.os x).1)) rfl rfl ?_
   refine lm (v := .int .i64 ((((nameR s.cs s.os x).2) : Nat) : Int)) rfl rfl ?_
   refine wpL_done (fun W5 hW5 => ?_)
   change Code.wp ..
   refine wp_seq ?_
   refine wp_region_L _ hW5 ?_
   refine lv (v := .agg #[.slice s.pc s.cs.length s.cc, .slice s.po s.os.length s.co, .int .i64 s.li.a, .int .i64 s.li.b, .int .i64 s.li.c, .int .i64 s.li.d, .slice s.pr s.rs.length s.cr, .slice s.pf s.fs.length s.cf, .slice s.pt s.ts.length s.ct, .int .i64 s.lm.a, .int .i64 s.lm.b, .int .i64 s.lm.c, .int .i64 s.lm.d]) rfl rfl (yb_load (n := 13) (off := 0) rfl Tw.kr Tw.m2 Tryd.underlying32 rfl Tw.kr (by first | (simp [Value.cells]; done) | exact Nat.le_of_ble_eq_true rfl) Tw.kr) ?_
   refine lv (v := .agg (sltC x).toArray) rfl rfl (yb_load (n := 3) (off := 0) rfl Tw.kr Tw.m1 Tryd.underlying34 rfl Tw.kr (by first | (simp [Value.cells]; done) | exact Nat.le_of_ble_eq_true rfl) Tw.kr) ?_
   refine lv (v := .tuple #[strV ((nameR s.cs s.os x).1), .int .i64 ((((nameR s.cs s.os x).2) : Nat) : Int)]) rfl rfl (yb_call (f := 30) (args := #[.agg #[.slice s.pc s.cs.length s.cc, .slice s.po s.os.length s.co, .int .i64 s.li.a, .int .i64 s.li.b, .int .i64 s.li.c, .int .i64 s.li.d, .slice s.pr s.rs.length s.cr, .slice s.pf s.fs.length s.cf, .slice s.pt s.ts.length s.ct, .int .i64 s.lm.a, .int .i64 s.lm.b, .int .i64 s.lm.c, .int .i64 s.lm.d], .agg (sltC x).toArray]) Tw.kf fun W hW => R8Name_any s.cs s.pc s.cc hs1 s.os s.po s.co hs2 (spT s) x.col x.tier x.half W ((hc).keep hW.1) ((ho).keep hW.1) ((hI.hr).keep hW.1) ls4 ((hI.hp).keep hW.1) ls3) ?_
   refine lm (v := .tuple #[strV ((nameR s.cs s.os x).1), .int .i64 ((((nameR s.cs s.os x).2) : Nat) : Int)]) rfl rfl ?_
   refine lm (v := strV ((nameR s.cs s.os x).1)) rfl rfl ?_
   refine lm (v := .int .i64 ((((nameR s.cs s.os x).2) : Nat) : Int)) rfl rfl ?_
   refine lm (v := strV ((nameR s.cs s.os x).1)) rfl rfl ?_
   refine lm (v := .int .i64 ((((nameR s.cs s.os x).2) : Nat) : Int)) rfl rfl ?_
   refine wpL_done (fun W6 hW6 => ?_)
   change Code.wp ..
   refine wp_seq ?_
   refine wp_region_L _ hW6 ?_
   refine lv (v := .agg #[.slice t.pc t.cs.length t.cc, .slice t.po t.os.length t.co, .int .i64 t.li.a, .int .i64 t.li.b, .int .i64 t.li.c, .int .i64 t.li.d, .slice t.pr t.rs.length t.cr, .slice t.pf t.fs.length t.cf, .slice t.pt t.ts.length t.ct, .int .i64 t.lm.a, .int .i64 t.lm.b, .int .i64 t.lm.c, .int .i64 t.lm.d]) rfl rfl (yb_load (n := 13) (off := 0) rfl Tw.kr Tw.m0 Tryd.underlying32 rfl Tw.kr (by first | (simp [Value.cells]; done) | exact Nat.le_of_ble_eq_true rfl) Tw.kr) ?_
   refine lm (v := strV l) rfl rfl ?_
   refine lv (v := .tuple #[.agg (sltC ((findR s.cs s.os l).1)).toArray, .int .i64 ((((findR s.cs s.os l).2) : Nat) : Int)]) rfl rfl (yb_call (f := 31) (args := #[.agg #[.slice t.pc t.cs.length t.cc, .slice t.po t.os.length t.co, .int .i64 t.li.a, .int .i64 t.li.b, .int .i64 t.li.c, .int .i64 t.li.d, .slice t.pr t.rs.length t.cr, .slice t.pf t.fs.length t.cf, .slice t.pt t.ts.length t.ct, .int .i64 t.lm.a, .int .i64 t.lm.b, .int .i64 t.lm.c, .int .i64 t.lm.d], strV l]) Tw.kf fun W hW => (by have h9 := SFind_any t.cs t.pc t.cc ht1 t.os t.po t.co ht2 (spT t) l hl W (hHC _ (fun b hb => hW.2 b (by simp only [List.mem_cons, List.mem_append, List.nil_append, List.not_mem_nil, or_assoc, or_false, false_or, hb, true_or, or_true]))) (hHO _ (fun b hb => hW.2 b (by simp only [List.mem_cons, List.mem_append, List.nil_append, List.not_mem_nil, or_assoc, or_false, false_or, hb, true_or, or_true]))) (lentOA_rw8 (hL.os.2.1.at (fun b hb => hW.2 b (by simp only [List.mem_cons, List.mem_append, List.nil_append, List.not_mem_nil, or_assoc, or_false, false_or, hb, true_or, or_true])))) lt4 (lentCA_pl8 (hL.cs.2.1.at (fun b hb => hW.2 b (by simp only [List.mem_cons, List.mem_append, List.nil_append, List.not_mem_nil, or_assoc, or_false, false_or, hb, true_or, or_true])))) lt3 (HE.out.keep hW.1); rw [ef] at h9; exact h9)) ?_
   refine lm (v := .tuple #[.agg (sltC ((findR s.cs s.os l).1)).toArray, .int .i64 ((((findR s.cs s.os l).2) : Nat) : Int)]) rfl rfl ?_
   refine lm (v := .agg (sltC ((findR s.cs s.os l).1)).toArray) rfl rfl ?_
   refine lm (v := .int .i64 ((((findR s.cs s.os l).2) : Nat) : Int)) rfl rfl ?_
   refine wpL_new (fun g => .pointer (some ⟨g, 0, none⟩)) (obi := .cells #[.int .i64 0, .int .i64 0, .int .u8 0] 34 (0, 0)) rfl rfl Tw.kf Tw.pf fun g7 Bg7 Fg7 => ?_
   obtain ⟨dj8_0, dj8_1, dj8_2, dj8_3⟩ : g5 ≠ g7 ∧ g2 ≠ g7 ∧ g1 ≠ g7 ∧ Dk g7 TS := Tw.dkf Fg7
   refine wpL_s ((g7, .cells (sltC ((findR s.cs s.os l).1)).toArray 34 (0, 0)) :: (g5, .cells #[.slice t.pc t.cs.length t.cc, .slice t.po t.os.length t.co, .int .i64 t.li.a, .int .i64 t.li.b, .int .i64 t.li.c, .int .i64 t.li.d, .slice t.pr t.rs.length t.cr, .slice t.pf t.fs.length t.cf, .slice t.pt t.ts.length t.ct, .int .i64 t.lm.a, .int .i64 t.lm.b, .int .i64 t.lm.c, .int .i64 t.lm.d] 32 (0, 0)) :: (g2, .cells (sltC x).toArray 34 (0, 0)) :: (g1, .cells #[.slice s.pc s.cs.length s.cc, .slice s.po s.os.length s.co, .int .i64 s.li.a, .int .i64 s.li.b, .int .i64 s.li.c, .int .i64 s.li.d, .slice s.pr s.rs.length s.cr, .slice s.pf s.fs.length s.cf, .slice s.pt s.ts.length s.ct, .int .i64 s.lm.a, .int .i64 s.lm.b, .int .i64 s.lm.c, .int .i64 s.lm.d] 32 (0, 0)) :: TS) rfl rfl (st_row (off := 0) (v := .agg (sltC ((findR s.cs s.os l).1)).toArray) rfl Tw.kr Tw.kr Tw.m0 Bg7 Tw.kr (by first | (simp [Value.cells]; done) | exact Nat.le_of_ble_eq_true rfl) (fun v hv => sltC_one ((findR s.cs s.os l).1) v hv) Tw.kr (List.forall_mem_cons.2 ⟨.inl rfl, (List.forall_mem_cons.2 ⟨.inr ⟨Tw.m1, Tw.nee⟩, (List.forall_mem_cons.2 ⟨.inr ⟨Tw.m2, Tw.nee⟩, (List.forall_mem_cons.2 ⟨.inr ⟨Tw.m3, Tw.nee⟩, (fun p hp => .inr ⟨(.tail _ (.tail _ (.tail _ (.tail _ hp)))), ((show Dk g7 TS from Tw.djt) _ hp)⟩)⟩)⟩)⟩)⟩)) ?_
   refine lm (v := .int .i64 ((((findR s.cs s.os l).2) : Nat) : Int)) rfl rfl ?_
   refine wpL_done (fun W7 hW7 => ?_)
   change Code.wp ..
   refine wp_seq ?_
   refine wp_region_L _ hW7 ?_
   refine lv (v := .agg #[.slice s.pc s.cs.length s.cc, .slice s.po s.os.length s.co, .int .i64 s.li.a, .int .i64 s.li.b, .int .i64 s.li.c, .int .i64 s.li.d, .slice s.pr s.rs.length s.cr, .slice s.pf s.fs.length s.cf, .slice s.pt s.ts.length s.ct, .int .i64 s.lm.a, .int .i64 s.lm.b, .int .i64 s.lm.c, .int .i64 s.lm.d]) rfl rfl (yb_load (n := 13) (off := 0) rfl Tw.kr Tw.m3 Tryd.underlying32 rfl Tw.kr (by first | (simp [Value.cells]; done) | exact Nat.le_of_ble_eq_true rfl) Tw.kr) ?_
   refine lm (v := strV l) rfl rfl ?_
   refine lv (v := .tuple #[.agg (sltC ((findR s.cs s.os l).1)).toArray, .int .i64 ((((findR s.cs s.os l).2) : Nat) : Int)]) rfl rfl (yb_call (f := 32) (args := #[.agg #[.slice s.pc s.cs.length s.cc, .slice s.po s.os.length s.co, .int .i64 s.li.a, .int .i64 s.li.b, .int .i64 s.li.c, .int .i64 s.li.d, .slice s.pr s.rs.length s.cr, .slice s.pf s.fs.length s.cf, .slice s.pt s.ts.length s.ct, .int .i64 s.lm.a, .int .i64 s.lm.b, .int .i64 s.lm.c, .int .i64 s.lm.d], strV l]) Tw.kf fun W hW => R8Find_any s.cs s.pc s.cc hs1 s.os s.po s.co hs2 (spT s) l hl W ((hc).keep hW.1) ((ho).keep hW.1) ((hI.hr).keep hW.1) ls4 ((hI.hp).keep hW.1) ls3) ?_
   refine lm (v := .tuple #[.agg (sltC ((findR s.cs s.os l).1)).toArray, .int .i64 ((((findR s.cs s.os l).2) : Nat) : Int)]) rfl rfl ?_
   refine lm (v := .agg (sltC ((findR s.cs s.os l).1)).toArray) rfl rfl ?_
   refine lm (v := .int .i64 ((((findR s.cs s.os l).2) : Nat) : Int)) rfl rfl ?_
   refine wpL_new (fun g => .pointer (some ⟨g, 0, none⟩)) (obi := .cells #[.int .i64 0, .int .i64 0, .int .u8 0] 34 (0, 0)) rfl rfl Tw.kf Tw.pf fun g9 Bg9 Fg9 => ?_
   obtain ⟨dj10_0, dj10_1, dj10_2, dj10_3, dj10_4⟩ : g7 ≠ g9 ∧ g5 ≠ g9 ∧ g2 ≠ g9 ∧ g1 ≠ g9 ∧ Dk g9 TS := Tw.dkf Fg9
   refine wpL_s ((g9, .cells (sltC ((findR s.cs s.os l).1)).toArray 34 (0, 0)) :: (g7, .cells (sltC ((findR s.cs s.os l).1)).toArray 34 (0, 0)) :: (g5, .cells #[.slice t.pc t.cs.length t.cc, .slice t.po t.os.length t.co, .int .i64 t.li.a, .int .i64 t.li.b, .int .i64 t.li.c, .int .i64 t.li.d, .slice t.pr t.rs.length t.cr, .slice t.pf t.fs.length t.cf, .slice t.pt t.ts.length t.ct, .int .i64 t.lm.a, .int .i64 t.lm.b, .int .i64 t.lm.c, .int .i64 t.lm.d] 32 (0, 0)) :: (g2, .cells (sltC x).toArray 34 (0, 0)) :: (g1, .cells #[.slice s.pc s.cs.length s.cc, .slice s.po s.os.length s.co, .int .i64 s.li.a, .int .i64 s.li.b, .int .i64 s.li.c, .int .i64 s.li.d, .slice s.pr s.rs.length s.cr, .slice s.pf s.fs.length s.cf, .slice s.pt s.ts.length s.ct, .int .i64 s.lm.a, .int .i64 s.lm.b, .int .i64 s.lm.c, .int .i64 s.lm.d] 32 (0, 0)) :: TS) rfl rfl (st_row (off := 0) (v := .agg (sltC ((findR s.cs s.os l).1)).toArray) rfl Tw.kr Tw.kr Tw.m0 Bg9 Tw.kr (by first | (simp [Value.cells]; done) | exact Nat.le_of_ble_eq_true rfl) (fun v hv => sltC_one ((findR s.cs s.os l).1) v hv) Tw.kr (List.forall_mem_cons.2 ⟨.inl rfl, (List.forall_mem_cons.2 ⟨.inr ⟨Tw.m1, Tw.nee⟩, (List.forall_mem_cons.2 ⟨.inr ⟨Tw.m2, Tw.nee⟩, (List.forall_mem_cons.2 ⟨.inr ⟨Tw.m3, Tw.nee⟩, (List.forall_mem_cons.2 ⟨.inr ⟨Tw.m4, Tw.nee⟩, (fun p hp => .inr ⟨(.tail _ (.tail _ (.tail _ (.tail _ (.tail _ hp))))), ((show Dk g9 TS from Tw.djt) _ hp)⟩)⟩)⟩)⟩)⟩)⟩)) ?_
   refine lm (v := .int .i64 ((((findR s.cs s.os l).2) : Nat) : Int)) rfl rfl ?_
   refine wpL_done (fun W8 hW8 => ?_)
   change Code.wp ..
   refine wp_seq ?_
   refine wp_region_L _ hW8 ?_
   refine lm (v := strV ((nameR s.cs s.os x).1)) rfl rfl ?_
   refine lm (v := strV ((nameR s.cs s.os x).1)) rfl rfl ?_
   refine lp (v := .bool true) rfl rfl (run_bin rfl (vx := strV ((nameR s.cs s.os x).1)) (vy := strV ((nameR s.cs s.os x).1)) Tw.kr Tw.kr fun w => bs_eql (decide_eq_true rfl) w) ?_
   refine lm (v := .bool true) rfl rfl ?_
   refine lm (v := .int .i64 ((((nameR s.cs s.os x).2) : Nat) : Int)) rfl rfl ?_
   refine lm (v := .int .i64 ((((nameR s.cs s.os x).2) : Nat) : Int)) rfl rfl ?_
   refine lp (v := .bool true) rfl rfl (run_bin rfl (vx := (.int .i64 ((((nameR s.cs s.os x).2) : Nat) : Int))) (vy := (.int .i64 ((((nameR s.cs s.os x).2) : Nat) : Int))) Tw.kr Tw.kr fun w => bn_eql (decide_eq_true rfl) w) ?_
   refine lm (v := .bool true) rfl rfl ?_
   refine lm (v := .bool true) rfl rfl ?_
   refine lv (v := .agg (sltC ((findR s.cs s.os l).1)).toArray) rfl rfl (yb_load (n := 3) (off := 0) rfl Tw.kr Tw.m1 Tryd.underlying34 rfl Tw.kr (by first | (simp [Value.cells]; done) | exact Nat.le_of_ble_eq_true rfl) Tw.kr) ?_
   refine lv (v := .agg (sltC ((findR s.cs s.os l).1)).toArray) rfl rfl (yb_load (n := 3) (off := 0) rfl Tw.kr Tw.m0 Tryd.underlying34 rfl Tw.kr (by first | (simp [Value.cells]; done) | exact Nat.le_of_ble_eq_true rfl) Tw.kr) ?_
   refine lp (v := .bool true) rfl rfl (run_bin rfl (vx := .agg (sltC ((findR s.cs s.os l).1)).toArray) (vy := .agg (sltC ((findR s.cs s.os l).1)).toArray) Tw.kr Tw.kr fun w => (eqS_refl ((findR s.cs s.os l).1)) ▸ eq_slt w) ?_
   refine lm (v := .bool true) rfl rfl ?_
   refine lm (v := .bool true) rfl rfl ?_
   refine lm (v := .int .i64 ((((findR s.cs s.os l).2) : Nat) : Int)) rfl rfl ?_
   refine lm (v := .int .i64 ((((findR s.cs s.os l).2) : Nat) : Int)) rfl rfl ?_
   refine lp (v := .bool true) rfl rfl (run_bin rfl (vx := (.int .i64 ((((findR s.cs s.os l).2) : Nat) : Int))) (vy := (.int .i64 ((((findR s.cs s.os l).2) : Nat) : Int))) Tw.kr Tw.kr fun w => bn_eql (decide_eq_true rfl) w) ?_
   refine lm (v := .bool true) rfl rfl ?_
   refine lm (v := .bool true) rfl rfl ?_
   refine lv (v := .agg #[.slice t.pc t.cs.length t.cc, .slice t.po t.os.length t.co, .int .i64 t.li.a, .int .i64 t.li.b, .int .i64 t.li.c, .int .i64 t.li.d, .slice t.pr t.rs.length t.cr, .slice t.pf t.fs.length t.cf, .slice t.pt t.ts.length t.ct, .int .i64 t.lm.a, .int .i64 t.lm.b, .int .i64 t.lm.c, .int .i64 t.lm.d]) rfl rfl (yb_load (n := 13) (off := 0) rfl Tw.kr Tw.m2 Tryd.underlying32 rfl Tw.kr (by first | (simp [Value.cells]; done) | exact Nat.le_of_ble_eq_true rfl) Tw.kr) ?_
   refine lv (v := .agg #[.slice s.pc s.cs.length s.cc, .slice s.po s.os.length s.co, .int .i64 s.li.a, .int .i64 s.li.b, .int .i64 s.li.c, .int .i64 s.li.d, .slice s.pr s.rs.length s.cr, .slice s.pf s.fs.length s.cf, .slice s.pt s.ts.length s.ct, .int .i64 s.lm.a, .int .i64 s.lm.b, .int .i64 s.lm.c, .int .i64 s.lm.d]) rfl rfl (yb_load (n := 13) (off := 0) rfl Tw.kr Tw.m4 Tryd.underlying32 rfl Tw.kr (by first | (simp [Value.cells]; done) | exact Nat.le_of_ble_eq_true rfl) Tw.kr) ?_
   refine lv (v := .bool true) rfl rfl (yb_call (f := 27) (args := #[.agg #[.slice t.pc t.cs.length t.cc, .slice t.po t.os.length t.co, .int .i64 t.li.a, .int .i64 t.li.b, .int .i64 t.li.c, .int .i64 t.li.d, .slice t.pr t.rs.length t.cr, .slice t.pf t.fs.length t.cf, .slice t.pt t.ts.length t.ct, .int .i64 t.lm.a, .int .i64 t.lm.b, .int .i64 t.lm.c, .int .i64 t.lm.d], .agg #[.slice s.pc s.cs.length s.cc, .slice s.po s.os.length s.co, .int .i64 s.li.a, .int .i64 s.li.b, .int .i64 s.li.c, .int .i64 s.li.d, .slice s.pr s.rs.length s.cr, .slice s.pf s.fs.length s.cf, .slice s.pt s.ts.length s.ct, .int .i64 s.lm.a, .int .i64 s.lm.b, .int .i64 s.lm.c, .int .i64 s.lm.d]]) Tw.kf fun W hW => KeptShip_any s t TS W (hI.keep hW.1) hL (fun b hb => hW.2 b (by simp only [List.mem_cons, List.mem_append, List.nil_append, List.not_mem_nil, or_assoc, or_false, false_or, hb, true_or, or_true]))) ?_
   refine lm (v := .bool true) rfl rfl ?_
   refine lm (v := .bool true) rfl rfl ?_
   refine lv (v := .bool true) rfl rfl (yb_call (f := 11) (args := #[]) Tw.kf fun W hW => awake8_any W (HE.out.keep hW.1)) ?_
   refine lm (v := .bool true) rfl rfl ?_
   refine lm (v := .bool true) rfl rfl ?_
   refine wpL_done (fun W9 hW9 => ?_)
   change Code.wp ..
   refine wp_ret ?_
   try simp only [inBlock_ret, then_ret]
   refine bodyPost_ret (v := .bool true) ?_ rfl ?_
   · kernel_rfl
   · exact ⟨rfl, hW9.1⟩
end Go.Proofs.YtlinjngifacmoaaDoor
namespace Go.Proofs.YtlinjngifacmoaaDoor
open Go Go.RowKit Tw
end Go.Proofs.YtlinjngifacmoaaDoor
namespace Go.Proofs.YtlinjngifacmoaaDoor
open Go Go.RowKit Tw
end Go.Proofs.YtlinjngifacmoaaDoor
namespace Go.Proofs.YtlinjngifacmoaaDoor
open Go Go.RowKit Tw
end Go.Proofs.YtlinjngifacmoaaDoor
/- What came in: a ship, with its sizes. -/
namespace Go.Proofs.YtlinjngifacmoaaDoor
open Go Go.RowKit Tw Go.ChangeShapes Go.WideShapes
def colS (w : World) (c : Col) : Prop := intOk w c.bay ∧ intOk w c.row ∧ intOk w c.tiers ∧ intOk w c.height ∧ intOk w c.k20 ∧ intOk w c.k40 ∧ intOk w c.lash ∧ ListS inC intOk 8 w c.pp c.pc c.plugs ∧ intOk w c.x ∧ intOk w c.y ∧ intOk w c.z
def covS (w : World) (o : Cov) : Prop := intOk w o.bay ∧ ListS inC intOk 8 w o.rp o.rc o.rows
def tkS (w : World) (t : Tk) : Prop := intOk w t.kilos ∧ intOk w t.x ∧ intOk w t.y ∧ intOk w t.z ∧ intOk w t.surface ∧ ListS inC intOk 8 w t.sp t.sc t.steps
set_option maxHeartbeats 1000000 in
theorem opensS_col : OpensS Tryd.prog 65 colC colS := by
 intro H enc w base sp held fuel cs x h hwt
 obtain ⟨hl, hf⟩ := trod_fldS Tryd.underlying65 h hwt
 have ci : Tryd.prog.cellsOf 3 = 1 := by kernel_rfl
 have cn : Tryd.prog.cellsOf 65 = 12 := by kernel_rfl
 rw [cn] at hl
 obtain ⟨v0, v1, v2, v3, v4, v5, v6, v7, v8, v9, v10, v11, rfl⟩ : ∃ v0 v1 v2 v3 v4 v5 v6 v7 v8 v9 v10 v11, cs = [v0, v1, v2, v3, v4, v5, v6, v7, v8, v9, v10, v11] := by
   rcases cs with _ | ⟨v0, _ | ⟨v1, _ | ⟨v2, _ | ⟨v3, _ | ⟨v4, _ | ⟨v5, _ | ⟨v6, _ | ⟨v7, _ | ⟨v8, _ | ⟨v9, _ | ⟨v10, _ | ⟨v11, _ | ⟨vx, cs⟩⟩⟩⟩⟩⟩⟩⟩⟩⟩⟩⟩⟩ <;> simp at hl
   exact ⟨v0, v1, v2, v3, v4, v5, v6, v7, v8, v9, v10, v11, rfl⟩
 have key : ∀ (i : Nat) (f : Field) (v : Value), (#[v0, v1, v2, v3, v4, v5, v6, v7, v8, v9, v10, v11] : Array Value)[i]? = some v → f.type = 3 → f.offset = i → (∃ n y, DataW.trod enc Tryd.prog w base sp held n f.type ((([v0, v1, v2, v3, v4, v5, v6, v7, v8, v9, v10, v11] : List Value).drop f.offset).take (Tryd.prog.cellsOf f.type)) = some y) → ∃ n : Int, v = .int .i64 n ∧ -9223372036854775808 ≤ n ∧ n ≤ 9223372036854775807 := by
   intro i f v hv ht ho ⟨n, y, hy⟩
   rw [ht, ci, ho] at hy
   obtain ⟨z, hz, hz1, hz2⟩ := fld_int (P := Tryd.prog) Tryd.underlying3 hy
   have hv2 : ([v0, v1, v2, v3, v4, v5, v6, v7, v8, v9, v10, v11] : List Value)[i]? = some v := by simpa using hv
   obtain ⟨hi, hvi⟩ := List.getElem?_eq_some_iff.1 hv2
   rw [List.drop_eq_getElem_cons hi, hvi] at hz
   have hz0 : v = .int .i64 z := by simpa using hz
   have m1 : IntKind.i64.min = -9223372036854775808 := by decide
   have m2 : IntKind.i64.max = 9223372036854775807 := by decide
   rw [m1] at hz1; rw [m2] at hz2
   exact ⟨z, hz0, hz1, hz2⟩
 obtain ⟨n0, e0, a0, b0⟩ := key 0 _ v0 rfl rfl rfl (by obtain ⟨n9, y9, h9, _⟩ := hf 0 _ rfl; exact ⟨n9, y9, h9⟩)
 subst e0
 obtain ⟨n1, e1, a1, b1⟩ := key 1 _ v1 rfl rfl rfl (by obtain ⟨n9, y9, h9, _⟩ := hf 1 _ rfl; exact ⟨n9, y9, h9⟩)
 subst e1
 obtain ⟨m2, y2, h2, w2⟩ := hf 2 _ rfl
 obtain ⟨n2, hd2⟩ := fld_bool (P := Tryd.prog) Tryd.underlying4 h2
 have c2 : Tryd.prog.cellsOf 4 = 1 := by kernel_rfl
 have e2 : v2 = .bool n2 := by
   have hd : (([.int .i64 n0, .int .i64 n1, v2, v3, v4, v5, v6, v7, v8, v9, v10, v11] : List Value).drop 2).take (Tryd.prog.cellsOf 4) = [.bool n2] := hd2
   rw [c2] at hd
   simpa using hd
 subst e2
 obtain ⟨n3, e3, a3, b3⟩ := key 3 _ v3 rfl rfl rfl (by obtain ⟨n9, y9, h9, _⟩ := hf 3 _ rfl; exact ⟨n9, y9, h9⟩)
 subst e3
 obtain ⟨n4, e4, a4, b4⟩ := key 4 _ v4 rfl rfl rfl (by obtain ⟨n9, y9, h9, _⟩ := hf 4 _ rfl; exact ⟨n9, y9, h9⟩)
 subst e4
 obtain ⟨n5, e5, a5, b5⟩ := key 5 _ v5 rfl rfl rfl (by obtain ⟨n9, y9, h9, _⟩ := hf 5 _ rfl; exact ⟨n9, y9, h9⟩)
 subst e5
 obtain ⟨n6, e6, a6, b6⟩ := key 6 _ v6 rfl rfl rfl (by obtain ⟨n9, y9, h9, _⟩ := hf 6 _ rfl; exact ⟨n9, y9, h9⟩)
 subst e6
 obtain ⟨n7, e7, a7, b7⟩ := key 7 _ v7 rfl rfl rfl (by obtain ⟨n9, y9, h9, _⟩ := hf 7 _ rfl; exact ⟨n9, y9, h9⟩)
 subst e7
 obtain ⟨m8, y8, h8, w8⟩ := hf 8 _ rfl
 obtain ⟨p8, q8, n8, hd8, ok8⟩ := trod_recsS (sz := 1) (by_ := 8) Tryd.underlying63 (OpensS.of opens_in) Tw.kr Tw.om (fun _ => rfl) Tw.kr h8 w8
 have c8 : Tryd.prog.cellsOf 63 = 1 := by kernel_rfl
 have e8 : v8 = .slice p8 n8.length q8 := by
   have hd : (([.int .i64 n0, .int .i64 n1, .bool n2, .int .i64 n3, .int .i64 n4, .int .i64 n5, .int .i64 n6, .int .i64 n7, v8, v9, v10, v11] : List Value).drop 8).take (Tryd.prog.cellsOf 63) = [.slice p8 n8.length q8] := hd8
   rw [c8] at hd
   simpa using hd
 subst e8
 obtain ⟨n9, e9, a9, b9⟩ := key 9 _ v9 rfl rfl rfl (by obtain ⟨n9, y9, h9, _⟩ := hf 9 _ rfl; exact ⟨n9, y9, h9⟩)
 subst e9
 obtain ⟨n10, e10, a10, b10⟩ := key 10 _ v10 rfl rfl rfl (by obtain ⟨n9, y9, h9, _⟩ := hf 10 _ rfl; exact ⟨n9, y9, h9⟩)
 subst e10
 obtain ⟨n11, e11, a11, b11⟩ := key 11 _ v11 rfl rfl rfl (by obtain ⟨n9, y9, h9, _⟩ := hf 11 _ rfl; exact ⟨n9, y9, h9⟩)
 subst e11
 exact ⟨⟨n0, n1, n2, n3, n4, n5, n6, n7, n8, p8, q8, n9, n10, n11⟩, rfl, ⟨a0, b0⟩, ⟨a1, b1⟩, ⟨a3, b3⟩, ⟨a4, b4⟩, ⟨a5, b5⟩, ⟨a6, b6⟩, ⟨a7, b7⟩, ok8, ⟨a9, b9⟩, ⟨a10, b10⟩, ⟨a11, b11⟩⟩
set_option maxHeartbeats 1000000 in
theorem opensS_cov : OpensS Tryd.prog 67 covC covS := by
 intro H enc w base sp held fuel cs x h hwt
 obtain ⟨hl, hf⟩ := trod_fldS Tryd.underlying67 h hwt
 have ci : Tryd.prog.cellsOf 3 = 1 := by kernel_rfl
 have cn : Tryd.prog.cellsOf 67 = 2 := by kernel_rfl
 rw [cn] at hl
 obtain ⟨v0, v1, rfl⟩ : ∃ v0 v1, cs = [v0, v1] := by
   rcases cs with _ | ⟨v0, _ | ⟨v1, _ | ⟨vx, cs⟩⟩⟩ <;> simp at hl
   exact ⟨v0, v1, rfl⟩
 have key : ∀ (i : Nat) (f : Field) (v : Value), (#[v0, v1] : Array Value)[i]? = some v → f.type = 3 → f.offset = i → (∃ n y, DataW.trod enc Tryd.prog w base sp held n f.type ((([v0, v1] : List Value).drop f.offset).take (Tryd.prog.cellsOf f.type)) = some y) → ∃ n : Int, v = .int .i64 n ∧ -9223372036854775808 ≤ n ∧ n ≤ 9223372036854775807 := by
   intro i f v hv ht ho ⟨n, y, hy⟩
   rw [ht, ci, ho] at hy
   obtain ⟨z, hz, hz1, hz2⟩ := fld_int (P := Tryd.prog) Tryd.underlying3 hy
   have hv2 : ([v0, v1] : List Value)[i]? = some v := by simpa using hv
   obtain ⟨hi, hvi⟩ := List.getElem?_eq_some_iff.1 hv2
   rw [List.drop_eq_getElem_cons hi, hvi] at hz
   have hz0 : v = .int .i64 z := by simpa using hz
   have m1 : IntKind.i64.min = -9223372036854775808 := by decide
   have m2 : IntKind.i64.max = 9223372036854775807 := by decide
   rw [m1] at hz1; rw [m2] at hz2
   exact ⟨z, hz0, hz1, hz2⟩
 obtain ⟨n0, e0, a0, b0⟩ := key 0 _ v0 rfl rfl rfl (by obtain ⟨n9, y9, h9, _⟩ := hf 0 _ rfl; exact ⟨n9, y9, h9⟩)
 subst e0
 obtain ⟨m1, y1, h1, w1⟩ := hf 1 _ rfl
 obtain ⟨p1, q1, n1, hd1, ok1⟩ := trod_recsS (sz := 1) (by_ := 8) Tryd.underlying63 (OpensS.of opens_in) Tw.kr Tw.om (fun _ => rfl) Tw.kr h1 w1
 have c1 : Tryd.prog.cellsOf 63 = 1 := by kernel_rfl
 have e1 : v1 = .slice p1 n1.length q1 := by
   have hd : (([.int .i64 n0, v1] : List Value).drop 1).take (Tryd.prog.cellsOf 63) = [.slice p1 n1.length q1] := hd1
   rw [c1] at hd
   simpa using hd
 subst e1
 exact ⟨⟨n0, n1, p1, q1⟩, rfl, ⟨a0, b0⟩, ok1⟩
set_option maxHeartbeats 1000000 in
theorem opensS_tk : OpensS Tryd.prog 129 tkC tkS := by
 intro H enc w base sp held fuel cs x h hwt
 obtain ⟨hl, hf⟩ := trod_fldS Tryd.underlying129 h hwt
 have ci : Tryd.prog.cellsOf 3 = 1 := by kernel_rfl
 have cn : Tryd.prog.cellsOf 129 = 6 := by kernel_rfl
 rw [cn] at hl
 obtain ⟨v0, v1, v2, v3, v4, v5, rfl⟩ : ∃ v0 v1 v2 v3 v4 v5, cs = [v0, v1, v2, v3, v4, v5] := by
   rcases cs with _ | ⟨v0, _ | ⟨v1, _ | ⟨v2, _ | ⟨v3, _ | ⟨v4, _ | ⟨v5, _ | ⟨vx, cs⟩⟩⟩⟩⟩⟩⟩ <;> simp at hl
   exact ⟨v0, v1, v2, v3, v4, v5, rfl⟩
 have key : ∀ (i : Nat) (f : Field) (v : Value), (#[v0, v1, v2, v3, v4, v5] : Array Value)[i]? = some v → f.type = 3 → f.offset = i → (∃ n y, DataW.trod enc Tryd.prog w base sp held n f.type ((([v0, v1, v2, v3, v4, v5] : List Value).drop f.offset).take (Tryd.prog.cellsOf f.type)) = some y) → ∃ n : Int, v = .int .i64 n ∧ -9223372036854775808 ≤ n ∧ n ≤ 9223372036854775807 := by
   intro i f v hv ht ho ⟨n, y, hy⟩
   rw [ht, ci, ho] at hy
   obtain ⟨z, hz, hz1, hz2⟩ := fld_int (P := Tryd.prog) Tryd.underlying3 hy
   have hv2 : ([v0, v1, v2, v3, v4, v5] : List Value)[i]? = some v := by simpa using hv
   obtain ⟨hi, hvi⟩ := List.getElem?_eq_some_iff.1 hv2
   rw [List.drop_eq_getElem_cons hi, hvi] at hz
   have hz0 : v = .int .i64 z := by simpa using hz
   have m1 : IntKind.i64.min = -9223372036854775808 := by decide
   have m2 : IntKind.i64.max = 9223372036854775807 := by decide
   rw [m1] at hz1; rw [m2] at hz2
   exact ⟨z, hz0, hz1, hz2⟩
 obtain ⟨n0, e0, a0, b0⟩ := key 0 _ v0 rfl rfl rfl (by obtain ⟨n9, y9, h9, _⟩ := hf 0 _ rfl; exact ⟨n9, y9, h9⟩)
 subst e0
 obtain ⟨n1, e1, a1, b1⟩ := key 1 _ v1 rfl rfl rfl (by obtain ⟨n9, y9, h9, _⟩ := hf 1 _ rfl; exact ⟨n9, y9, h9⟩)
 subst e1
 obtain ⟨n2, e2, a2, b2⟩ := key 2 _ v2 rfl rfl rfl (by obtain ⟨n9, y9, h9, _⟩ := hf 2 _ rfl; exact ⟨n9, y9, h9⟩)
 subst e2
 obtain ⟨n3, e3, a3, b3⟩ := key 3 _ v3 rfl rfl rfl (by obtain ⟨n9, y9, h9, _⟩ := hf 3 _ rfl; exact ⟨n9, y9, h9⟩)
 subst e3
 obtain ⟨n4, e4, a4, b4⟩ := key 4 _ v4 rfl rfl rfl (by obtain ⟨n9, y9, h9, _⟩ := hf 4 _ rfl; exact ⟨n9, y9, h9⟩)
 subst e4
 obtain ⟨m5, y5, h5, w5⟩ := hf 5 _ rfl
 obtain ⟨p5, q5, n5, hd5, ok5⟩ := trod_recsS (sz := 1) (by_ := 8) Tryd.underlying63 (OpensS.of opens_in) Tw.kr Tw.om (fun _ => rfl) Tw.kr h5 w5
 have c5 : Tryd.prog.cellsOf 63 = 1 := by kernel_rfl
 have e5 : v5 = .slice p5 n5.length q5 := by
   have hd : (([.int .i64 n0, .int .i64 n1, .int .i64 n2, .int .i64 n3, .int .i64 n4, v5] : List Value).drop 5).take (Tryd.prog.cellsOf 63) = [.slice p5 n5.length q5] := hd5
   rw [c5] at hd
   simpa using hd
 subst e5
 exact ⟨⟨n0, n1, n2, n3, n4, n5, p5, q5⟩, rfl, ⟨a0, b0⟩, ⟨a1, b1⟩, ⟨a2, b2⟩, ⟨a3, b3⟩, ⟨a4, b4⟩, ok5⟩
def spS (w : World) (s : Sp) : Prop := ListS colC colS 112 w s.pc s.cc s.cs ∧ ListS covC covS 32 w s.po s.co s.os ∧ n4Ok w s.li ∧ ListS n5C n5Ok 40 w s.pr s.cr s.rs ∧ ListS n5C n5Ok 40 w s.pf s.cf s.fs ∧ ListS tkC tkS 64 w s.pt s.ct s.ts ∧ n4Ok w s.lm
set_option maxHeartbeats 2000000 in
theorem opensS_ship : OpensS Tryd.prog 32 spC spS := by
 intro H enc w base sp held fuel cs x h hwt
 obtain ⟨hl, hf⟩ := trod_fldS Tryd.underlying32 h hwt
 have cn : Tryd.prog.cellsOf 32 = 13 := by kernel_rfl
 rw [cn] at hl
 obtain ⟨v0, v1, v2, v3, v4, v5, v6, v7, v8, v9, v10, v11, v12, rfl⟩ : ∃ v0 v1 v2 v3 v4 v5 v6 v7 v8 v9 v10 v11 v12, cs = [v0, v1, v2, v3, v4, v5, v6, v7, v8, v9, v10, v11, v12] := by
   rcases cs with _ | ⟨v0, _ | ⟨v1, _ | ⟨v2, _ | ⟨v3, _ | ⟨v4, _ | ⟨v5, _ | ⟨v6, _ | ⟨v7, _ | ⟨v8, _ | ⟨v9, _ | ⟨v10, _ | ⟨v11, _ | ⟨v12, _ | ⟨vx, cs⟩⟩⟩⟩⟩⟩⟩⟩⟩⟩⟩⟩⟩⟩ <;> simp at hl
   exact ⟨v0, v1, v2, v3, v4, v5, v6, v7, v8, v9, v10, v11, v12, rfl⟩
 obtain ⟨m0, y0, h0, w0⟩ := hf 0 _ rfl
 obtain ⟨p0, q0, n0, hd0, ok0⟩ := trod_recsS (sz := 12) (by_ := 112) Tryd.underlying22 opensS_col Tw.kr Tw.om (fun _ => rfl) Tw.kr h0 w0
 have e0 : v0 = .slice p0 n0.length q0 := by
   have c : Tryd.prog.cellsOf 22 = 1 := by kernel_rfl
   have hd : (([v0, v1, v2, v3, v4, v5, v6, v7, v8, v9, v10, v11, v12] : List Value).drop 0).take (Tryd.prog.cellsOf 22) = [.slice p0 n0.length q0] := hd0
   rw [c] at hd
   simpa using hd
 obtain ⟨m1, y1, h1, w1⟩ := hf 1 _ rfl
 obtain ⟨p1, q1, n1, hd1, ok1⟩ := trod_recsS (sz := 2) (by_ := 32) Tryd.underlying23 opensS_cov Tw.kr Tw.om (fun _ => rfl) Tw.kr h1 w1
 have e1 : v1 = .slice p1 n1.length q1 := by
   have c : Tryd.prog.cellsOf 23 = 1 := by kernel_rfl
   have hd : (([v0, v1, v2, v3, v4, v5, v6, v7, v8, v9, v10, v11, v12] : List Value).drop 1).take (Tryd.prog.cellsOf 23) = [.slice p1 n1.length q1] := hd1
   rw [c] at hd
   simpa using hd
 obtain ⟨m6, y6, h6, w6⟩ := hf 3 _ rfl
 obtain ⟨p6, q6, n6, hd6, ok6⟩ := trod_recsS (sz := 5) (by_ := 40) Tryd.underlying26 (OpensS.of opens_row) Tw.kr Tw.om (fun _ => rfl) Tw.kr h6 w6
 have e6 : v6 = .slice p6 n6.length q6 := by
   have c : Tryd.prog.cellsOf 26 = 1 := by kernel_rfl
   have hd : (([v0, v1, v2, v3, v4, v5, v6, v7, v8, v9, v10, v11, v12] : List Value).drop 6).take (Tryd.prog.cellsOf 26) = [.slice p6 n6.length q6] := hd6
   rw [c] at hd
   simpa using hd
 obtain ⟨m7, y7, h7, w7⟩ := hf 4 _ rfl
 obtain ⟨p7, q7, n7, hd7, ok7⟩ := trod_recsS (sz := 5) (by_ := 40) Tryd.underlying27 (OpensS.of opens_frame) Tw.kr Tw.om (fun _ => rfl) Tw.kr h7 w7
 have e7 : v7 = .slice p7 n7.length q7 := by
   have c : Tryd.prog.cellsOf 27 = 1 := by kernel_rfl
   have hd : (([v0, v1, v2, v3, v4, v5, v6, v7, v8, v9, v10, v11, v12] : List Value).drop 7).take (Tryd.prog.cellsOf 27) = [.slice p7 n7.length q7] := hd7
   rw [c] at hd
   simpa using hd
 obtain ⟨m8, y8, h8, w8⟩ := hf 5 _ rfl
 obtain ⟨p8, q8, n8, hd8, ok8⟩ := trod_recsS (sz := 6) (by_ := 64) Tryd.underlying28 opensS_tk Tw.kr Tw.om (fun _ => rfl) Tw.kr h8 w8
 have e8 : v8 = .slice p8 n8.length q8 := by
   have c : Tryd.prog.cellsOf 28 = 1 := by kernel_rfl
   have hd : (([v0, v1, v2, v3, v4, v5, v6, v7, v8, v9, v10, v11, v12] : List Value).drop 8).take (Tryd.prog.cellsOf 28) = [.slice p8 n8.length q8] := hd8
   rw [c] at hd
   simpa using hd
 obtain ⟨m2, y2, h2, w2⟩ := hf 2 _ rfl
 obtain ⟨r2, hd2, ok2⟩ := opens_light _ _ _ _ _ _ _ _ _ h2
 have e2 : v2 = .int .i64 r2.a ∧ v3 = .int .i64 r2.b ∧ v4 = .int .i64 r2.c ∧ v5 = .int .i64 r2.d := by
   have c : Tryd.prog.cellsOf 25 = 4 := by kernel_rfl
   have hd : (([v0, v1, v2, v3, v4, v5, v6, v7, v8, v9, v10, v11, v12] : List Value).drop 2).take (Tryd.prog.cellsOf 25) = n4C r2 := hd2
   rw [c] at hd
   unfold n4C at hd
   simpa using hd
 obtain ⟨m9, y9, h9, w9⟩ := hf 6 _ rfl
 obtain ⟨r9, hd9, ok9⟩ := opens_limits _ _ _ _ _ _ _ _ _ h9
 have e9 : v9 = .int .i64 r9.a ∧ v10 = .int .i64 r9.b ∧ v11 = .int .i64 r9.c ∧ v12 = .int .i64 r9.d := by
   have c : Tryd.prog.cellsOf 30 = 4 := by kernel_rfl
   have hd : (([v0, v1, v2, v3, v4, v5, v6, v7, v8, v9, v10, v11, v12] : List Value).drop 9).take (Tryd.prog.cellsOf 30) = n4C r9 := hd9
   rw [c] at hd
   unfold n4C at hd
   simpa using hd
 obtain ⟨f2, f3, f4, f5⟩ := e2
 obtain ⟨f9, f10, f11, f12⟩ := e9
 refine ⟨⟨n0, p0, q0, n1, p1, q1, r2, n6, p6, q6, n7, p7, q7, n8, p8, q8, r9⟩, ?_, ok0, ok1, ok2, ok6, ok7, ok8, ok9⟩
 rw [e0, e1, f2, f3, f4, f5, e6, e7, e8, f9, f10, f11, f12]
 rfl
theorem spS_in {w : World} {s : Sp} (h : spS w s) (hf : fewX s.cs s.os = true) : SpIn w s := by
 obtain ⟨f1, f2, f3, f4⟩ := few_is hf
 obtain ⟨⟨⟨c1, c2, _, _⟩, _⟩, ⟨⟨o1, o2, _, _⟩, _⟩, _, ⟨⟨r1, _, _, _⟩, r5⟩, ⟨⟨g1, _, _, _⟩, g5⟩, ⟨⟨t1, t2, _, _⟩, t5⟩, _⟩ := h
 unfold reachBytes at r5 g5 t5
 exact ⟨by omega, by omega, fun o ho => by have := f3 o ho; omega, fun o ho => by have := f4 o ho; omega, by omega, by omega, by omega,
   fun o ho => by have h8 := (t2 o ho).2.2.2.2.2.2; unfold reachBytes at h8; omega,
   c1, o1, fun o ho => (c2 o ho).2.2.2.2.2.2.2.1.1.1, fun o ho => (o2 o ho).2.1.1, r1, g1, t1, fun o ho => (t2 o ho).2.2.2.2.2.1.1⟩
theorem spS_law {w : World} {s : Sp} (h : spS w s) : s.cs.length ≤ 17592186044403 ∧ s.os.length ≤ 17592186044403 ∧ (∀ o ∈ s.os, o.rows.length ≤ 17592186044403) ∧ (∀ c ∈ s.cs, c.plugs.length ≤ 17592186044403) ∧ (∀ c ∈ s.cs, rowOk c) ∧ SLV w s.pc (s.cs.flatMap colC) ∧ SLV w s.po (s.os.flatMap covC) := by
 obtain ⟨⟨⟨c1, c2, _, _⟩, c5⟩, ⟨⟨o1, o2, _, _⟩, o5⟩, _⟩ := h
 unfold reachBytes at c5 o5
 exact ⟨by omega, by omega, fun o ho => by have h8 := (o2 o ho).2.2; unfold reachBytes at h8; omega, fun o ho => by have h8 := (c2 o ho).2.2.2.2.2.2.2.1.2; unfold reachBytes at h8; omega,
   fun c hc => (c2 c hc).2.1, c1, o1⟩
end Go.Proofs.YtlinjngifacmoaaDoor
/- SlotNames holds for every input: the program's own answer is true, wherever the listed variables are as the program's text lays them; each argument reads afterwards as it read before. -/
namespace Go.Proofs.YtlinjngifacmoaaDoor
open Go.ChangeShapes Go.WideShapes Go.ChangeAt Go.RowKit Tw
set_option maxRecDepth 100000 in
theorem slotNames_lifted (os : Os) (started : os.Started) (H : Type) (enc : TypeId × Value → H) :
   ReturnsInHanded {} Tryd.checked os 4 .any (fun w args => (Rows.slotNamesSpec.pre enc Tryd.prog Tryd.f4 Rows.slotNamesRow.domain false w args ∧ laidMetH Tryd.prog laidN w) ∧ sizedMet enc Tryd.prog Tryd.f4 (OpenSpec.ofChange Rows.slotNamesSpec) false w args) (Rows.slotNamesSpec.post enc Tryd.prog Tryd.f4 false true false false) := by
 refine handed_and_sized (C := Tryd.checked) (X := fun w => laidMetH Tryd.prog laidN w) (fun _ _ hh h => h.of_heap hh) own started Tw.kr Tryd.func4
   (ChangeSpec.witness_shaped (enc := enc) (C := Tryd.checked) (os := os) (X := fun w _ => laidMetH Tryd.prog laidN w) false (World.doorLaid Tryd.prog 1000 os) #[.agg #[.slice none 0 0, .slice none 0 0, .int .i64 0, .int .i64 0, .int .i64 0, .int .i64 0, .slice none 0 0, .slice none 0 0, .slice none 0 0, .int .i64 0, .int .i64 0, .int .i64 0, .int .i64 0], .agg #[.int .i64 0, .int .i64 0, .int .u8 0], .string ByteArray.empty] 8 rfl (World.shaped_of_RefB Tw.kr Tw.kr) Tw.kr Tw.kr Tw.kr (door_met os _)) ?_
 intro W base args ds gs before hval0 hW hL hsh hsz
 have hval : ∀ (j : Nat) t v, Tryd.f4.params[j]? = some t → args[j]? = some v → Value.okWide Tryd.prog W .any base t v := hval0
 have hW2 := hW
 obtain ⟨p, q, hA0, hV, rfl, hfz, hnd⟩ := hW2
 have hA : DataW.TrodAll enc Tryd.prog W 0 (fun _ => true) true Tryd.f4.params.toList args.toList ds p := hA0
 rw [Tryd.params4] at hA hval
 obtain ⟨v0, vs0, d0, ds0, p0, q0, hargs, rfl, rfl, h0, r0⟩ := trodAll_cons hA
 obtain ⟨v1, vs1, d1, ds1, p1, q1, rfl, rfl, rfl, h1, r1⟩ := trodAll_cons r0
 obtain ⟨v2, vs2, d2, ds2, p2, q2, rfl, rfl, rfl, h2, r2⟩ := trodAll_cons r1
 obtain ⟨rfl, rfl, rfl⟩ := trodAll_nil r2
 obtain rfl : args = #[v0, v1, v2] := by cases args; simp_all
 obtain ⟨rfl, rfl⟩ := trodVars_none hV
 have k0 := h0
 have lt0 : ∀ x ∈ p0, x.block < W.heap.size := by obtain ⟨m, hm⟩ := k0; exact DataW.trod_lt m _ _ _ hm
 obtain ⟨y0, rfl, ok0⟩ := open_recS Tryd.underlying32 opensS_ship (hval 0 32 v0 rfl rfl) h0 (sized_par (j := 0) (t := 32) hsz rfl rfl)
 have k1 := h1
 have lt1 : ∀ x ∈ p1, x.block < W.heap.size := by obtain ⟨m, hm⟩ := k1; exact DataW.trod_lt m _ _ _ hm
 obtain ⟨y1, rfl, ok1⟩ := open_recS Tryd.underlying34 (OpensS.of opens_slt) (hval 1 34 v1 rfl rfl) h1 (sized_par (j := 1) (t := 34) hsz rfl rfl)
 obtain ⟨s2, rfl, rfl, rfl, w2⟩ := ChangeMaps.open_string Tryd.underlying9 (hval 2 9 v2 rfl rfl) h2
 have rr2 : s2.data.toList.length ≤ 281474976710656 := by have h1 := sized_string (j := 2) (t := 9) hsz rfl rfl; have h2 := reachBytes_lt; omega
 clear hA0 hval0
 refine (SlotNames_any y0 (spS_law ok0).1 (spS_law ok0).2.1 (spS_law ok0).2.2.1 (spS_law ok0).2.2.2.1 y1 s2.data.toList rr2 W (spS_law ok0).2.2.2.2.2.1 (spS_law ok0).2.2.2.2.2.2 (spS_in ok0) (env_of hL)).mono fun e W' ⟨he, bel⟩ => ?_
 subst he
 exact ⟨_, rfl, _, _, _, [], _, [], hW, (trodAll_cons_mk (shut_bool Tryd.underlying4 _) trodAll_mk0), (trodAll_cons_mk (Below.trod laidOut Tw.kr (of_decide_eq_true Tw.kr) k0 bel lt0) (trodAll_cons_mk (Below.trod laidOut Tw.kr (of_decide_eq_true Tw.kr) k1 bel lt1) (trodAll_cons_mk (ChangeMaps.shut_string Tryd.underlying9 w2) trodAll_mk0))), rfl, bel.frame _, fun h => by cases h⟩
theorem slotNames_said : Rows.SlotNamesSaid :=
 OpenClaim.holds_of_wide 4 Tryd.f4 rfl rfl rfl rfl rfl rfl rfl ⟨rfl, rfl, rfl, rfl, rfl⟩ rfl rfl rfl rfl rfl Tw.kr Tryd.func4 Tw.kr
   (of_decide_eq_true Tw.kr) (by unfold Func.isWrapper; first | (rw [if_pos (by decide +kernel)]; kernel_rfl) | (rw [if_neg (by decide +kernel)]; exact ⟨rfl, rfl⟩))
   (fun os started H enc _ => slotNames_lifted os started H enc)
theorem slotNames_proved : Rows.SlotNamesCardSaid :=
 Claim7.holds_tied_plain_at .later [] [.data] true Rows.slotNamesCard.stood.harness Rows.slotNamesCard.stood.looks
   slotNames_said (fun _ h => by cases h) Tw.kr (fun _ h => by cases h) slotNames_row_tie rfl ⟨rfl, rfl⟩ Tw.kr rfl
   (fun f fn hf hfn => by
     obtain rfl : f = 4 := Option.some.inj ((show Tryd.prog.funcNamed "twistlock/twistlocklaw08.SlotNames" = some 4 by kernel_rfl).symm.trans hf) |>.symm
     obtain rfl : fn = Tryd.f4 := (Option.some.inj (Tryd.func4.symm.trans hfn)).symm
     exact ⟨by kernel_rfl, fun j t ht => by
       rw [Tryd.params4] at ht
       have hm : t ∈ [32, 34, 9] := by simpa using Array.mem_of_getElem? ht
       have hall : ([32, 34, 9].all fun u => !Tryd.prog.wantsStandIn u) = true := by kernel_rfl
       exact (show Tryd.prog.wantsStandIn t = false by simpa using List.all_eq_true.1 hall t hm)⟩)
   Tw.kr
#print axioms slotNames_proved
end Go.Proofs.YtlinjngifacmoaaDoor
