import Derived.Test.YtnbfljcilojllaaSS00
import Derived.Test.YtnbfljcilojllaaVJz01
import Derived.Test.YtnbfljcilojllaaVJz00
import Derived.Test.YtnbfljcilojllaaSS01
/- Part of the proof: WL, WM, VB. -/
set_option linter.unusedVariables false
set_option linter.unusedSimpArgs false
set_option linter.unusedSectionVars false
namespace Go.Proofs.Ytnbfljcilojllaa
open Go Go.RowKit Tw
set_option maxRecDepth 100000 in
set_option maxHeartbeats 40000000 in
theorem load_any (cs : List Col) (pc : Option Addr) (cc : Nat) (lc : cs.length ≤ 4000000000) (os : List Cov) (po : Option Addr) (co : Nat) (lo : os.length ≤ 4000000000) (t : Tl) (bs : List Bo) (bp : Option Addr) (bc : Nat) (hl : bs.length ≤ 4000000000) (l : List Sd) (lq : Option Addr) (ld : Nat) (hm : l.length ≤ 4000000000) (w : World) (hc : SLV w pc (cs.flatMap colC)) (ho : SLV w po (os.flatMap covC)) (hr : RwR w os) (lr : ∀ o ∈ os, o.rows.length ≤ 4000000000) (hq : PlR w cs) (lq2 : ∀ c ∈ cs, c.plugs.length ≤ 4000000000) (hp : SLV w bp (bs.flatMap boC)) (hs : SLV w lq (l.flatMap sdC)) (hot : OneT t) : Calls Try.prog 44 #[.agg (shC (.slice pc cs.length cc) (.slice po os.length co) t).toArray, .slice bp bs.length bc, .slice lq l.length ld] w fun e w' => ∃ v K', e = .returned (.tuple #[v, .bool (loadX cs os bs l)]) ∧ KS (w : Base) K' w' ∧ LoadO (w : Base) (.slice pc cs.length cc) (.slice po os.length co) t cs.length (.slice lq l.length ld) bs l (loadX cs os bs l) v K' := by
 have HC := Lib.hid hc
 clear hc
 have HO := Lib.hid ho
 clear ho
 have HR := Lib.hid hr
 clear hr
 have HQ := Lib.hid hq
 clear hq
 have HBs := Lib.hid hp
 clear hp
 have HL := Lib.hid hs
 clear hs
 obtain ⟨hot0, hot1, hot2, hot3, hot4, hot5, hot6, hot7, hot8, hot9, hotA⟩ := hot
 go_enter Try.func44, Try.ntmps44
 refine wp_seq ?_
 refine wp_region_L [] (KS.start w) ?_
 refine wpL_new (fun g => .pointer (some ⟨g, 0, none⟩)) (obi := .cells (shC (.slice pc cs.length cc) (.slice po os.length co) t).toArray 32 (0, 0)) rfl rfl Tw.kf Tw.pf fun g1 Bg1 Fg1 => ?_
 refine wpL_new (fun g => .pointer (some ⟨g, 0, none⟩)) (obi := .cells #[.slice none 0 0, .slice none 0 0, .int .i64 0, .int .i64 0, .int .i64 0, .int .i64 0, .slice none 0 0, .slice none 0 0, .slice none 0 0, .int .i64 0, .int .i64 0, .int .i64 0, .int .i64 0, .slice none 0 0, .slice none 0 0] 110 (0, 0)) rfl rfl Tw.kf Tw.pf fun g2 Bg2 Fg2 => ?_
 obtain dj3_0 : g1 ≠ g2 := Tw.dkf Fg2
 refine lm (v := .bool false) rfl rfl ?_
 refine wpL_done (fun W1 hW1 => ?_)
 change Code.wp ..
 refine wp_seq ?_
 refine wp_seq ?_
 refine wp_region_L _ hW1 ?_
 refine lv (v := .agg (shC (.slice pc cs.length cc) (.slice po os.length co) t).toArray) rfl rfl (yb_load (n := 13) (off := 0) rfl Tw.kr Tw.m1 Try.underlying32 rfl Tw.kr (by first | (simp [Value.cells]; done) | exact Nat.le_of_ble_eq_true rfl) Tw.kr) ?_
 refine lv (v := .bool (rightX cs os)) rfl rfl (yb_call (f := 67) (args := #[.agg (shC (.slice pc cs.length cc) (.slice po os.length co) t).toArray]) Tw.kf fun W hW => Right_any cs pc cc Tw.om os po co Tw.om t W ((RL.base HC.out) _ (hW.sub (fun _ h => by cases h))) ((RL.base HO.out) _ (hW.sub (fun _ h => by cases h))) (HR.out.keep hW.1) lr (HQ.out.keep hW.1) lq2) ?_
 refine lp (v := .bool (!(rightX cs os))) rfl rfl (run_un rfl Tw.kr fun w => un_not w) ?_
 refine lm (v := .bool (!(rightX cs os))) rfl rfl ?_
 cases h1 : (rightX cs os) with
 | false =>
   refine ln rfl ?_
   refine ln rfl ?_
   refine ln rfl ?_
   refine lm (v := .bool true) rfl rfl ?_
   refine wpL_done (fun W2 hW2 => ?_)
   change Code.wp ..
   refine wp_cond_true rfl ?_
   refine wp_seq ?_
   refine wp_region_L _ hW2 ?_
   refine lm (v := .agg #[.slice none 0 0, .slice none 0 0, .int .i64 0, .int .i64 0, .int .i64 0, .int .i64 0, .slice none 0 0, .slice none 0 0, .slice none 0 0, .int .i64 0, .int .i64 0, .int .i64 0, .int .i64 0, .slice none 0 0, .slice none 0 0]) rfl rfl ?_
   refine wpL_s [(g2, .cells #[.slice none 0 0, .slice none 0 0, .int .i64 0, .int .i64 0, .int .i64 0, .int .i64 0, .slice none 0 0, .slice none 0 0, .slice none 0 0, .int .i64 0, .int .i64 0, .int .i64 0, .int .i64 0, .slice none 0 0, .slice none 0 0] 110 (0, 0)), (g1, .cells (shC (.slice pc cs.length cc) (.slice po os.length co) t).toArray 32 (0, 0))] rfl rfl (st_row (off := 0) (v := .agg #[.slice none 0 0, .slice none 0 0, .int .i64 0, .int .i64 0, .int .i64 0, .int .i64 0, .slice none 0 0, .slice none 0 0, .slice none 0 0, .int .i64 0, .int .i64 0, .int .i64 0, .int .i64 0, .slice none 0 0, .slice none 0 0]) rfl Tw.kr Tw.kr Tw.m0 Bg2 Tw.kr (by first | (simp [Value.cells]; done) | exact Nat.le_of_ble_eq_true rfl) (by intro v hv; simp [Value.cells] at hv; first | (subst hv; rfl) | (rcases hv with rfl | rfl | rfl | rfl | rfl | rfl | rfl | rfl | rfl | rfl | rfl | rfl | rfl | rfl | rfl <;> first | rfl | assumption)) Tw.kr (List.forall_mem_cons.2 ⟨.inl rfl, (List.forall_mem_cons.2 ⟨.inr ⟨Tw.m1, Tw.nee⟩, (List.forall_mem_nil _)⟩)⟩)) ?_
   refine lm (v := .bool false) rfl rfl ?_
   refine wpL_done (fun W3 hW3 => ?_)
   change Code.wp ..
   refine wp_ret ?_
   try simp only [inBlock_ret, then_ret]
   refine bodyPost_ret (v := .tuple #[.agg #[.slice none 0 0, .slice none 0 0, .int .i64 0, .int .i64 0, .int .i64 0, .int .i64 0, .slice none 0 0, .slice none 0 0, .slice none 0 0, .int .i64 0, .int .i64 0, .int .i64 0, .int .i64 0, .slice none 0 0, .slice none 0 0], .bool false]) ?_ rfl ?_
   · exact (res_cell_tmp (p := 6) (q := 7) rfl rfl (hW3.2 _ Tw.m0) Try.underlying110 rfl Tw.kr)
   · exact ⟨_, [], (by rw [load_no1 h1]; rfl), hW3.sub (fun _ h => by cases h), .inl ⟨load_no1 h1, rfl, rfl⟩⟩
 | true =>
   have hcl := cols_len h1
   refine lm (v := .slice lq l.length ld) rfl rfl ?_
   refine lv (v := .bool (incS l)) rfl rfl (yb_call (f := 68) (args := #[.slice lq l.length ld]) Tw.kf fun W hW => incr9_any l lq ld Tw.om W ((RL.base HL.out) _ (hW.sub (fun _ h => by cases h)))) ?_
   refine lp (v := .bool (!(incS l))) rfl rfl (run_un rfl Tw.kr fun w => un_not w) ?_
   refine lm (v := .bool (!(incS l))) rfl rfl ?_
   refine wpL_done (fun W4 hW4 => ?_)
   change Code.wp ..
   cases h2 : (incS l) with
   | false =>
     refine wp_cond_true rfl ?_
     refine wp_seq ?_
     refine wp_region_L _ hW4 ?_
     refine lm (v := .agg #[.slice none 0 0, .slice none 0 0, .int .i64 0, .int .i64 0, .int .i64 0, .int .i64 0, .slice none 0 0, .slice none 0 0, .slice none 0 0, .int .i64 0, .int .i64 0, .int .i64 0, .int .i64 0, .slice none 0 0, .slice none 0 0]) rfl rfl ?_
     refine wpL_s [(g2, .cells #[.slice none 0 0, .slice none 0 0, .int .i64 0, .int .i64 0, .int .i64 0, .int .i64 0, .slice none 0 0, .slice none 0 0, .slice none 0 0, .int .i64 0, .int .i64 0, .int .i64 0, .int .i64 0, .slice none 0 0, .slice none 0 0] 110 (0, 0)), (g1, .cells (shC (.slice pc cs.length cc) (.slice po os.length co) t).toArray 32 (0, 0))] rfl rfl (st_row (off := 0) (v := .agg #[.slice none 0 0, .slice none 0 0, .int .i64 0, .int .i64 0, .int .i64 0, .int .i64 0, .slice none 0 0, .slice none 0 0, .slice none 0 0, .int .i64 0, .int .i64 0, .int .i64 0, .int .i64 0, .slice none 0 0, .slice none 0 0]) rfl Tw.kr Tw.kr Tw.m0 Bg2 Tw.kr (by first | (simp [Value.cells]; done) | exact Nat.le_of_ble_eq_true rfl) (by intro v hv; simp [Value.cells] at hv; first | (subst hv; rfl) | (rcases hv with rfl | rfl | rfl | rfl | rfl | rfl | rfl | rfl | rfl | rfl | rfl | rfl | rfl | rfl | rfl <;> first | rfl | assumption)) Tw.kr (List.forall_mem_cons.2 ⟨.inl rfl, (List.forall_mem_cons.2 ⟨.inr ⟨Tw.m1, Tw.nee⟩, (List.forall_mem_nil _)⟩)⟩)) ?_
     refine lm (v := .bool false) rfl rfl ?_
     refine wpL_done (fun W5 hW5 => ?_)
     change Code.wp ..
     refine wp_ret ?_
     try simp only [inBlock_ret, then_ret]
     refine bodyPost_ret (v := .tuple #[.agg #[.slice none 0 0, .slice none 0 0, .int .i64 0, .int .i64 0, .int .i64 0, .int .i64 0, .slice none 0 0, .slice none 0 0, .slice none 0 0, .int .i64 0, .int .i64 0, .int .i64 0, .int .i64 0, .slice none 0 0, .slice none 0 0], .bool false]) ?_ rfl ?_
     · exact (res_cell_tmp (p := 6) (q := 7) rfl rfl (hW5.2 _ Tw.m0) Try.underlying110 rfl Tw.kr)
     · exact ⟨_, [], (by rw [load_no2 h2]; rfl), hW5.sub (fun _ h => by cases h), .inl ⟨load_no2 h2, rfl, rfl⟩⟩
   | true =>
     refine wp_cond_false rfl ?_
     refine wp_skip ?_
     change Code.wp ..
     refine wp_joins (fun az wz => ∃ (gP g8 : Nat), ((w : Base).B ≤ gP) ∧ ((w : Base).B ≤ g8) ∧ (g2 ≠ gP) ∧ (g1 ≠ gP) ∧ (g2 ≠ g8) ∧ (g1 ≠ g8) ∧ (gP ≠ g8) ∧ JoinR (fun zq => List.toArray ((.agg (shC (.slice pc cs.length cc) (.slice po os.length co) t).toArray) :: (.slice bp bs.length bc) :: (.slice lq l.length ld) :: (.pointer (some ⟨g1, 0, none⟩)) :: undef :: undef :: (.pointer (some ⟨g2, 0, none⟩)) :: (.bool false) :: (.pointer (some ⟨g8, 0, none⟩)) :: undef :: undef :: undef :: undef :: undef :: (.agg (shC (.slice pc cs.length cc) (.slice po os.length co) t).toArray) :: (.bool true) :: (.bool false) :: (.bool false) :: (.slice lq l.length ld) :: (.bool true) :: (.bool false) :: (.bool false) :: undef :: zq 23 :: zq 24 :: zq 25 :: zq 26 :: zq 27 :: zq 28 :: zq 29 :: undef :: undef :: undef :: undef :: undef :: undef :: undef :: undef :: undef :: undef :: undef :: undef :: undef :: undef :: undef :: undef :: undef :: undef :: undef :: undef :: undef :: undef :: undef :: undef :: undef :: undef :: undef :: undef :: undef :: undef :: undef :: undef :: undef :: undef :: undef :: undef :: undef :: undef :: undef :: undef :: undef :: undef :: undef :: undef :: undef :: undef :: undef :: undef :: undef :: undef :: undef :: undef :: undef :: undef :: undef :: undef :: undef :: undef :: undef :: undef :: undef :: undef :: undef :: undef :: undef :: undef :: undef :: undef :: undef :: undef :: undef :: undef :: [])) w [(gP, .cells ((List.replicate cs.length pil0).flatMap pilC).toArray 153 (0, 0)), (g8, .cells #[.slice pc cs.length cc, .slice po os.length co, t.a0, t.a1, t.a2, t.a3, t.a4, t.a5, t.a6, t.a7, t.a8, t.a9, t.aA, .slice lq l.length ld, .slice (some ⟨gP, 0, none⟩) cs.length cs.length] 110 (0, 0)), (g2, .cells #[.slice none 0 0, .slice none 0 0, .int .i64 0, .int .i64 0, .int .i64 0, .int .i64 0, .slice none 0 0, .slice none 0 0, .slice none 0 0, .int .i64 0, .int .i64 0, .int .i64 0, .int .i64 0, .slice none 0 0, .slice none 0 0] 110 (0, 0)), (g1, .cells (shC (.slice pc cs.length cc) (.slice po os.length co) t).toArray 32 (0, 0))] az wz) 1 ?_ ?_
     · change Code.wp ..
       refine wp_region_V _ Tw.kr hW4 ?_
       refine vv (i := 0) (v := .agg (shC (.slice pc cs.length cc) (.slice po os.length co) t).toArray) rfl rfl rfl (yb_load (n := 13) (off := 0) rfl Tw.kr Tw.m1 Try.underlying32 rfl Tw.kr (by first | (simp [Value.cells]; done) | exact Nat.le_of_ble_eq_true rfl) Tw.kr) ?_
       refine vm (i := 1) (v := .slice lq l.length ld) rfl rfl rfl ?_
       refine vm (i := 2) (v := .pointer (some ⟨g1, 0, none⟩)) rfl rfl rfl ?_
       refine vv (i := 3) (v := .slice pc cs.length cc) rfl rfl rfl (yb_cell (off := 0) rfl Tw.kr Tw.m1 Try.underlying22 rfl Tw.kr) ?_
       refine vp (i := 4) (v := .int .i64 ((cs.length : Nat) : Int)) rfl rfl rfl (run_lenL (p := pc) (cap := cc) (n := cs.length) rfl Try.underlying22 Tw.kr) ?_
       refine wpV_2 (i := 5) (j := 7) Tw.kr ?_ ?_
       · refine stepV_nsx (fun g => .slice (some ⟨g, 0, none⟩) cs.length cs.length) (i := 5) (obi := .cells ((List.replicate cs.length pil0).flatMap pilC).toArray 153 (0, 0)) rfl rfl rfl (run_mkR pil0 (n := cs.length) (sz := 2) (b := 48) rfl Try.underlying108 Tw.kr pilC_len (by decide) (by decide) (by decide) Tw.kr Tw.kr Tw.om) Tw.pf fun g4 Bg4 Fg4 => ?_
         obtain ⟨dj5_0, dj5_1⟩ : g2 ≠ g4 ∧ g1 ≠ g4 := Tw.dkf Fg4
         refine vm (i := 6) (v := .agg #[.slice pc cs.length cc, .slice po os.length co, t.a0, t.a1, t.a2, t.a3, t.a4, t.a5, t.a6, t.a7, t.a8, t.a9, t.aA, .slice lq l.length ld, .slice (some ⟨g4, 0, none⟩) cs.length cs.length]) rfl rfl rfl ?_
         refine wpV_ns (fun g => .pointer (some ⟨g, 0, none⟩)) (i := 7) (obi := .cells #[.slice none 0 0, .slice none 0 0, .int .i64 0, .int .i64 0, .int .i64 0, .int .i64 0, .slice none 0 0, .slice none 0 0, .slice none 0 0, .int .i64 0, .int .i64 0, .int .i64 0, .int .i64 0, .slice none 0 0, .slice none 0 0] 110 (0, 0)) rfl rfl rfl Tw.kr Tw.kf Tw.pf fun g6 Bg6 Fg6 => ?_
         obtain ⟨dj7_0, dj7_1, dj7_2⟩ : g4 ≠ g6 ∧ g2 ≠ g6 ∧ g1 ≠ g6 := Tw.dkf Fg6
         refine wpV_s [(g6, .cells #[.slice pc cs.length cc, .slice po os.length co, t.a0, t.a1, t.a2, t.a3, t.a4, t.a5, t.a6, t.a7, t.a8, t.a9, t.aA, .slice lq l.length ld, .slice (some ⟨g4, 0, none⟩) cs.length cs.length] 110 (0, 0)), (g4, .cells ((List.replicate cs.length pil0).flatMap pilC).toArray 153 (0, 0)), (g2, .cells #[.slice none 0 0, .slice none 0 0, .int .i64 0, .int .i64 0, .int .i64 0, .int .i64 0, .slice none 0 0, .slice none 0 0, .slice none 0 0, .int .i64 0, .int .i64 0, .int .i64 0, .int .i64 0, .slice none 0 0, .slice none 0 0] 110 (0, 0)), (g1, .cells (shC (.slice pc cs.length cc) (.slice po os.length co) t).toArray 32 (0, 0))] (i := 8) rfl Tw.kr rfl rfl rfl (st_row (off := 0) (v := .agg #[.slice pc cs.length cc, .slice po os.length co, t.a0, t.a1, t.a2, t.a3, t.a4, t.a5, t.a6, t.a7, t.a8, t.a9, t.aA, .slice lq l.length ld, .slice (some ⟨g4, 0, none⟩) cs.length cs.length]) rfl Tw.kr Tw.kr Tw.m0 Bg6 Tw.kr (by first | (simp [Value.cells]; done) | exact Nat.le_of_ble_eq_true rfl) (by intro v hv; simp [Value.cells] at hv; first | (subst hv; rfl) | (rcases hv with rfl | rfl | rfl | rfl | rfl | rfl | rfl | rfl | rfl | rfl | rfl | rfl | rfl | rfl | rfl <;> first | rfl | assumption)) Tw.kr (List.forall_mem_cons.2 ⟨.inl rfl, (List.forall_mem_cons.2 ⟨.inr ⟨Tw.m1, Tw.nee⟩, (List.forall_mem_cons.2 ⟨.inr ⟨Tw.m2, Tw.nee⟩, (List.forall_mem_cons.2 ⟨.inr ⟨Tw.m3, Tw.nee⟩, (List.forall_mem_nil _)⟩)⟩)⟩)⟩)) ?_
         refine wpV_done Tw.kr (fun W6 hW6 => ?_) _
         exact ⟨g4, g6, Bg4, Bg6, Tw.nee, Tw.nee, Tw.nee, Tw.nee, Tw.nee, join_mk Tw.kr (hW6.sub (fun p hp => by first | exact hp | (simp only [List.mem_cons, List.mem_append, List.nil_append, List.not_mem_nil, or_assoc, or_false, false_or] at hp ⊢ <;> grind)))⟩
       · refine stepV_nsx (fun g => .pointer (some ⟨g, 0, none⟩)) (i := 7) (obi := .cells #[.slice none 0 0, .slice none 0 0, .int .i64 0, .int .i64 0, .int .i64 0, .int .i64 0, .slice none 0 0, .slice none 0 0, .slice none 0 0, .int .i64 0, .int .i64 0, .int .i64 0, .int .i64 0, .slice none 0 0, .slice none 0 0] 110 (0, 0)) rfl rfl rfl Tw.kf Tw.pf fun g8 Bg8 Fg8 => ?_
         obtain ⟨dj9_0, dj9_1⟩ : g2 ≠ g8 ∧ g1 ≠ g8 := Tw.dkf Fg8
         refine wpV_ns (fun g => .slice (some ⟨g, 0, none⟩) cs.length cs.length) (i := 5) (obi := .cells ((List.replicate cs.length pil0).flatMap pilC).toArray 153 (0, 0)) rfl rfl rfl Tw.kr (run_mkR pil0 (n := cs.length) (sz := 2) (b := 48) rfl Try.underlying108 Tw.kr pilC_len (by decide) (by decide) (by decide) Tw.kr Tw.kr Tw.om) Tw.pf fun g10 Bg10 Fg10 => ?_
         obtain ⟨dj11_0, dj11_1, dj11_2⟩ : g8 ≠ g10 ∧ g2 ≠ g10 ∧ g1 ≠ g10 := Tw.dkf Fg10
         refine vm (i := 6) (v := .agg #[.slice pc cs.length cc, .slice po os.length co, t.a0, t.a1, t.a2, t.a3, t.a4, t.a5, t.a6, t.a7, t.a8, t.a9, t.aA, .slice lq l.length ld, .slice (some ⟨g10, 0, none⟩) cs.length cs.length]) rfl rfl rfl ?_
         refine wpV_s [(g10, .cells ((List.replicate cs.length pil0).flatMap pilC).toArray 153 (0, 0)), (g8, .cells #[.slice pc cs.length cc, .slice po os.length co, t.a0, t.a1, t.a2, t.a3, t.a4, t.a5, t.a6, t.a7, t.a8, t.a9, t.aA, .slice lq l.length ld, .slice (some ⟨g10, 0, none⟩) cs.length cs.length] 110 (0, 0)), (g2, .cells #[.slice none 0 0, .slice none 0 0, .int .i64 0, .int .i64 0, .int .i64 0, .int .i64 0, .slice none 0 0, .slice none 0 0, .slice none 0 0, .int .i64 0, .int .i64 0, .int .i64 0, .int .i64 0, .slice none 0 0, .slice none 0 0] 110 (0, 0)), (g1, .cells (shC (.slice pc cs.length cc) (.slice po os.length co) t).toArray 32 (0, 0))] (i := 8) rfl Tw.kr rfl rfl rfl (st_row (off := 0) (v := .agg #[.slice pc cs.length cc, .slice po os.length co, t.a0, t.a1, t.a2, t.a3, t.a4, t.a5, t.a6, t.a7, t.a8, t.a9, t.aA, .slice lq l.length ld, .slice (some ⟨g10, 0, none⟩) cs.length cs.length]) rfl Tw.kr Tw.kr Tw.m1 Bg8 Tw.kr (by first | (simp [Value.cells]; done) | exact Nat.le_of_ble_eq_true rfl) (by intro v hv; simp [Value.cells] at hv; first | (subst hv; rfl) | (rcases hv with rfl | rfl | rfl | rfl | rfl | rfl | rfl | rfl | rfl | rfl | rfl | rfl | rfl | rfl | rfl <;> first | rfl | assumption)) Tw.kr (List.forall_mem_cons.2 ⟨.inr ⟨Tw.m0, Tw.nee⟩, (List.forall_mem_cons.2 ⟨.inl rfl, (List.forall_mem_cons.2 ⟨.inr ⟨Tw.m2, Tw.nee⟩, (List.forall_mem_cons.2 ⟨.inr ⟨Tw.m3, Tw.nee⟩, (List.forall_mem_nil _)⟩)⟩)⟩)⟩)) ?_
         refine wpV_done Tw.kr (fun W7 hW7 => ?_) _
         exact ⟨g10, g8, Bg10, Bg8, Tw.nee, Tw.nee, Tw.nee, Tw.nee, Tw.nee, join_mk Tw.kr (hW7.sub (fun p hp => by first | exact hp | (simp only [List.mem_cons, List.mem_append, List.nil_append, List.not_mem_nil, or_assoc, or_false, false_or] at hp ⊢ <;> grind)))⟩
     · rintro a1 W1j ⟨gP, g8, bl_gP, bl_g8, nl_gP_0, nl_gP_1, nl_g8_0, nl_g8_1, nn_gP_g8, ⟨zx1, rfl⟩, hW1j⟩
       dsimp only [cutT]
       refine wp_seq ?_
       refine wp_seq ?_
       refine wp_region_L _ hW1j ?_
       refine lm (v := .slice bp bs.length bc) rfl rfl ?_
       refine lm (v := .slice lq l.length ld) rfl rfl ?_
       refine wpL_c (f := 69) (args := #[.slice bp bs.length bc, .slice lq l.length ld]) (OutRL boC w [(gP, .cells ((List.replicate cs.length pil0).flatMap pilC).toArray 153 (0, 0)), (g8, .cells #[.slice pc cs.length cc, .slice po os.length co, t.a0, t.a1, t.a2, t.a3, t.a4, t.a5, t.a6, t.a7, t.a8, t.a9, t.aA, .slice lq l.length ld, .slice (some ⟨gP, 0, none⟩) cs.length cs.length] 110 (0, 0)), (g2, .cells #[.slice none 0 0, .slice none 0 0, .int .i64 0, .int .i64 0, .int .i64 0, .int .i64 0, .slice none 0 0, .slice none 0 0, .slice none 0 0, .int .i64 0, .int .i64 0, .int .i64 0, .int .i64 0, .slice none 0 0, .slice none 0 0] 110 (0, 0)), (g1, .cells (shC (.slice pc cs.length cc) (.slice po os.length co) t).toArray 32 (0, 0))] (boxesL bs l)) rfl Tw.kr Tw.kf (fun W hW => calls_r hW ((by have h9 := named_any bs bp bc hl l lq ld hm h2 W ((RL.base HBs.out) _ (hW.sub (fun _ h => by cases h))) ((RL.base HL.out) _ (hW.sub (fun _ h => by cases h))); rw [named_is h2] at h9; exact h9))) Tw.pf ?_
       rintro _ _ ⟨p12, c12, Kl12, rfl, n12, R12, N12, rfl⟩
       obtain ⟨dj13_0, dj13_1, dj13_2, dj13_3⟩ : Dk gP Kl12 ∧ Dk g8 Kl12 ∧ Dk g2 Kl12 ∧ Dk g1 Kl12 := Tw.djf N12
       refine lp (v := .int .i64 ((((boxesL bs l).length) : Nat) : Int)) rfl rfl (run_lenL (p := p12) (cap := c12) (n := (boxesL bs l).length) rfl Try.underlying33 Tw.kr) ?_
       refine lm (v := .int .i64 0) rfl rfl ?_
       refine wpL_done (fun W8 hW8 => ?_)
       change Code.wp ..
       refine wp_block ?_
       have hbl := boxes_len bs l
       go_loopw [34] (fun u34 wr => ∃ (k : Nat) (ps : List PilV) (T : List (Nat × Obj)), (k ≤ (boxesL bs l).length) ∧ (ps.length = cs.length) ∧ (PAt bs l k ps) ∧ (PFam w T ps) ∧ (slotsOk cs bs l = slotsOk cs bs (l.drop k)) ∧ (Dk gP T) ∧ (Dk g8 T) ∧ (Dk g2 T) ∧ (Dk g1 T) ∧ (Dj Kl12 T) ∧ u34 = .int .i64 ((k : Nat) : Int) ∧ KS w ((gP, .cells (ps.flatMap pilC).toArray 153 (0, 0)) :: (g8, .cells #[.slice pc cs.length cc, .slice po os.length co, t.a0, t.a1, t.a2, t.a3, t.a4, t.a5, t.a6, t.a7, t.a8, t.a9, t.aA, .slice lq l.length ld, .slice (some ⟨gP, 0, none⟩) cs.length cs.length] 110 (0, 0)) :: (g2, .cells #[.slice none 0 0, .slice none 0 0, .int .i64 0, .int .i64 0, .int .i64 0, .int .i64 0, .slice none 0 0, .slice none 0 0, .slice none 0 0, .int .i64 0, .int .i64 0, .int .i64 0, .int .i64 0, .slice none 0 0, .slice none 0 0] 110 (0, 0)) :: (g1, .cells (shC (.slice pc cs.length cc) (.slice po os.length co) t).toArray 32 (0, 0)) :: (Kl12 ++ T)) wr) (fun u34 _ => (boxesL bs l).length - (intOf u34).toNat)
       case atStart => exact ⟨0, (List.replicate cs.length pil0), [], (Nat.zero_le _), (by simp), (pat_zero _ _ _), (PFam.start _), rfl, (show Dk gP [] from Tw.djt), (show Dk g8 [] from Tw.djt), (show Dk g2 [] from Tw.djt), (show Dk g1 [] from Tw.djt), (show Dj Kl12 [] from Tw.djt), rfl, (hW8.sub (fun p hp => by first | exact hp | (simp only [List.mem_cons, List.mem_append, List.nil_append, List.not_mem_nil, or_assoc, or_false, false_or] at hp ⊢ <;> grind)))⟩
       case round =>
         obtain ⟨k, ps, T, hk, hPL, hPA, hPF, hOk, dh14_0, dh14_1, dh14_2, dh14_3, dh14_4, rfl, hL9⟩ := hrel
         have hpl2 := hPL
         refine wp_seq ?_
         refine wp_region_L _ hL9 ?_
         refine lp (v := .bool (decide (k < ((boxesL bs l).length)))) rfl rfl (run_bin rfl (vx := (.int .i64 ((k : Nat) : Int))) (vy := (.int .i64 ((((boxesL bs l).length) : Nat) : Int))) Tw.kr Tw.kr fun w => bn_lss rfl w) ?_
         refine wpL_done (fun W10 hW10 => ?_)
         change Code.wp ..
         refine wp_seq ?_
         cases hd3 : (decide (k < ((boxesL bs l).length))) with
         | false =>
           have h3 : ¬ (k < ((boxesL bs l).length)) := of_decide_eq_false hd3
           clear hd3
           refine wp_cond_false rfl ?_
           refine wp_exit ?_
           change Code.wp ..
           refine wp_seq ?_
           refine wp_seq ?_
           refine wp_region_L _ hW10 ?_
           refine lm (v := .pointer (some ⟨g1, 0, none⟩)) rfl rfl ?_
           refine lv (v := .slice pc cs.length cc) rfl rfl (yb_cell (off := 0) rfl Tw.kr Tw.m3 Try.underlying22 rfl Tw.kr) ?_
           refine lp (v := .int .i64 ((cs.length : Nat) : Int)) rfl rfl (run_lenL (p := pc) (cap := cc) (n := cs.length) rfl Try.underlying22 Tw.kr) ?_
           refine lm (v := .int .i64 0) rfl rfl ?_
           refine wpL_done (fun W11 hW11 => ?_)
           change Code.wp ..
           refine wp_block ?_
           have hkl : k = l.length := by omega
           have hOk2 : slotsOk cs bs l = true := by rw [hOk, ok_end Tw.om]
           have hPA2 : ∀ (c : Nat) (p : PilV), ps[c]? = some p → p.l = pileL l c ∧ p.bs = boxesL bs p.l := fun c p hp => by have h9 := hPA c p hp; rw [hkl, List.take_length] at h9; exact h9
           go_loopw [86] (fun u86 wr => ∃ (m : Nat), (m ≤ cs.length) ∧ (pilesOk bs l 0 cs = pilesOk bs l m (cs.drop m)) ∧ u86 = .int .i64 ((m : Nat) : Int) ∧ KS w ((gP, .cells (ps.flatMap pilC).toArray 153 (0, 0)) :: (g8, .cells #[.slice pc cs.length cc, .slice po os.length co, t.a0, t.a1, t.a2, t.a3, t.a4, t.a5, t.a6, t.a7, t.a8, t.a9, t.aA, .slice lq l.length ld, .slice (some ⟨gP, 0, none⟩) cs.length cs.length] 110 (0, 0)) :: (g2, .cells #[.slice none 0 0, .slice none 0 0, .int .i64 0, .int .i64 0, .int .i64 0, .int .i64 0, .slice none 0 0, .slice none 0 0, .slice none 0 0, .int .i64 0, .int .i64 0, .int .i64 0, .int .i64 0, .slice none 0 0, .slice none 0 0] 110 (0, 0)) :: (g1, .cells (shC (.slice pc cs.length cc) (.slice po os.length co) t).toArray 32 (0, 0)) :: (Kl12 ++ T)) wr) (fun u86 _ => cs.length - (intOf u86).toNat)
           case atStart => exact ⟨0, (Nat.zero_le _), rfl, rfl, (hW11.sub (fun p hp => by first | exact hp | (simp only [List.mem_cons, List.mem_append, List.nil_append, List.not_mem_nil, or_assoc, or_false, false_or] at hp ⊢ <;> grind)))⟩
           case round =>
             obtain ⟨m, hmm, hPk, rfl, hL12⟩ := hrel
             refine wp_seq ?_
             refine wp_region_L _ hL12 ?_
             refine lp (v := .bool (decide (m < cs.length))) rfl rfl (run_bin rfl (vx := (.int .i64 ((m : Nat) : Int))) (vy := (.int .i64 ((cs.length : Nat) : Int))) Tw.kr Tw.kr fun w => bn_lss rfl w) ?_
             refine wpL_done (fun W13 hW13 => ?_)
             change Code.wp ..
             refine wp_seq ?_
             cases hd4 : (decide (m < cs.length)) with
             | false =>
               have h4 : ¬ (m < cs.length) := of_decide_eq_false hd4
               clear hd4
               refine wp_cond_false rfl ?_
               refine wp_exit ?_
               change Code.wp ..
               refine wp_seq ?_
               refine wp_region_L _ hW13 ?_
               refine lv (v := .agg #[.slice pc cs.length cc, .slice po os.length co, t.a0, t.a1, t.a2, t.a3, t.a4, t.a5, t.a6, t.a7, t.a8, t.a9, t.aA, .slice lq l.length ld, .slice (some ⟨gP, 0, none⟩) cs.length cs.length]) rfl rfl (yb_load (n := 15) (off := 0) rfl Tw.kr Tw.m1 Try.underlying110 rfl Tw.kr (by first | (simp [Value.cells]; done) | exact Nat.le_of_ble_eq_true rfl) Tw.kr) ?_
               refine wpL_s ((gP, .cells (ps.flatMap pilC).toArray 153 (0, 0)) :: (g8, .cells #[.slice pc cs.length cc, .slice po os.length co, t.a0, t.a1, t.a2, t.a3, t.a4, t.a5, t.a6, t.a7, t.a8, t.a9, t.aA, .slice lq l.length ld, .slice (some ⟨gP, 0, none⟩) cs.length cs.length] 110 (0, 0)) :: (g2, .cells #[.slice pc cs.length cc, .slice po os.length co, t.a0, t.a1, t.a2, t.a3, t.a4, t.a5, t.a6, t.a7, t.a8, t.a9, t.aA, .slice lq l.length ld, .slice (some ⟨gP, 0, none⟩) cs.length cs.length] 110 (0, 0)) :: (g1, .cells (shC (.slice pc cs.length cc) (.slice po os.length co) t).toArray 32 (0, 0)) :: (Kl12 ++ T)) rfl rfl (st_row (off := 0) (v := .agg #[.slice pc cs.length cc, .slice po os.length co, t.a0, t.a1, t.a2, t.a3, t.a4, t.a5, t.a6, t.a7, t.a8, t.a9, t.aA, .slice lq l.length ld, .slice (some ⟨gP, 0, none⟩) cs.length cs.length]) rfl Tw.kr Tw.kr Tw.m2 Bg2 Tw.kr (by first | (simp [Value.cells]; done) | exact Nat.le_of_ble_eq_true rfl) (by intro v hv; simp [Value.cells] at hv; first | (subst hv; rfl) | (rcases hv with rfl | rfl | rfl | rfl | rfl | rfl | rfl | rfl | rfl | rfl | rfl | rfl | rfl | rfl | rfl <;> first | rfl | assumption)) Tw.kr (List.forall_mem_cons.2 ⟨.inr ⟨Tw.m0, Tw.nee⟩, (List.forall_mem_cons.2 ⟨.inr ⟨Tw.m1, Tw.nee⟩, (List.forall_mem_cons.2 ⟨.inl rfl, (List.forall_mem_cons.2 ⟨.inr ⟨Tw.m3, Tw.nee⟩, (fun p hp => .inr ⟨(.tail _ (.tail _ (.tail _ (.tail _ hp)))), ((show Dk g2 (Kl12 ++ T) from Tw.djt) _ hp)⟩)⟩)⟩)⟩)⟩)) ?_
               refine lm (v := .bool true) rfl rfl ?_
               refine wpL_done (fun W14 hW14 => ?_)
               change Code.wp ..
               refine wp_ret ?_
               try simp only [inBlock_ret, then_ret]
               refine bodyPost_ret (v := .tuple #[.agg #[.slice pc cs.length cc, .slice po os.length co, t.a0, t.a1, t.a2, t.a3, t.a4, t.a5, t.a6, t.a7, t.a8, t.a9, t.aA, .slice lq l.length ld, .slice (some ⟨gP, 0, none⟩) cs.length cs.length], .bool true]) ?_ rfl ?_
               · exact (res_cell_tmp (p := 6) (q := 7) rfl rfl (hW14.2 _ Tw.m2) Try.underlying110 rfl Tw.kr)
               · exact ⟨_, _, (by rw [(load_yes h1 h2 hOk2 (by rw [hPk, pil_end Tw.om]))]; rfl), (hW14.sub (K' := (gP, .cells (ps.flatMap pilC).toArray 153 (0, 0)) :: T) (fun x hx => by simp only [List.mem_cons, List.mem_append] at hx ⊢; grind)), .inr ⟨(load_yes h1 h2 hOk2 (by rw [hPk, pil_end Tw.om])), gP, ps, T, rfl, rfl, hPL, hPF, (by rw [← hkl]; exact hPA), (show Dk gP T from Tw.djt), bl_gP⟩⟩
             | true =>
               have h4 : m < cs.length := of_decide_eq_true hd4
               clear hd4
               refine wp_cond_true rfl ?_
               refine wp_skip ?_
               change Code.wp ..
               refine wp_seq ?_
               refine wp_block ?_
               refine wp_seq ?_
               refine wp_region_L _ hW13 ?_
               refine lm (v := .int .i64 ((m : Nat) : Int)) rfl rfl ?_
               obtain ⟨y15, g15_, f15_, hy15, hp15, hc15⟩ := RL.at (RL.base HC.out) colC_len (by decide) (hW13.sub (fun _ h => by cases h)) (k := m) Tw.om
               refine lp (v := .pointer (some ⟨g15_, f15_ + m * 12, none⟩)) rfl rfl (run_idxQ (p := pc) (cap := cc) (n := cs.length) (j := .i64) (k := m) (sz := 12) rfl Try.underlying22 Tw.kr Tw.kr hp15 Tw.kr Tw.om) ?_
               refine lv (v := .agg (colC y15).toArray) rfl rfl (yb_rs (off := f15_ + m * 12) (cs := colC y15) rfl Tw.kr (fun W hW => hc15 W (hW.sub (fun _ h => by cases h))) Try.underlying46 rfl Tw.kr) ?_
               refine wpL_new (fun g => .pointer (some ⟨g, 0, none⟩)) (obi := .cells #[.int .i64 0, .int .i64 0, .bool false, .int .i64 0, .int .i64 0, .int .i64 0, .int .i64 0, .int .i64 0, .slice none 0 0, .int .i64 0, .int .i64 0, .int .i64 0] 46 (0, 0)) rfl rfl Tw.kf Tw.pf fun g16 Bg16 Fg16 => ?_
               obtain ⟨dj17_0, dj17_1, dj17_2, dj17_3, dj17_4, dj17_5⟩ : gP ≠ g16 ∧ g8 ≠ g16 ∧ g2 ≠ g16 ∧ g1 ≠ g16 ∧ Dk g16 Kl12 ∧ Dk g16 T := Tw.dkf Fg16
               refine lm (v := .int .i64 ((m : Nat) : Int)) rfl rfl ?_
               refine wpL_s ((g16, .cells (colC y15).toArray 46 (0, 0)) :: (gP, .cells (ps.flatMap pilC).toArray 153 (0, 0)) :: (g8, .cells #[.slice pc cs.length cc, .slice po os.length co, t.a0, t.a1, t.a2, t.a3, t.a4, t.a5, t.a6, t.a7, t.a8, t.a9, t.aA, .slice lq l.length ld, .slice (some ⟨gP, 0, none⟩) cs.length cs.length] 110 (0, 0)) :: (g2, .cells #[.slice none 0 0, .slice none 0 0, .int .i64 0, .int .i64 0, .int .i64 0, .int .i64 0, .slice none 0 0, .slice none 0 0, .slice none 0 0, .int .i64 0, .int .i64 0, .int .i64 0, .int .i64 0, .slice none 0 0, .slice none 0 0] 110 (0, 0)) :: (g1, .cells (shC (.slice pc cs.length cc) (.slice po os.length co) t).toArray 32 (0, 0)) :: (Kl12 ++ T)) rfl rfl (st_row (off := 0) (v := .agg (colC y15).toArray) rfl Tw.kr Tw.kr Tw.m0 Bg16 Tw.kr (by first | (simp [Value.cells]; done) | exact Nat.le_of_ble_eq_true rfl) (fun v hv => colC_one y15 v hv) Tw.kr (List.forall_mem_cons.2 ⟨.inl rfl, (List.forall_mem_cons.2 ⟨.inr ⟨Tw.m1, Tw.nee⟩, (List.forall_mem_cons.2 ⟨.inr ⟨Tw.m2, Tw.nee⟩, (List.forall_mem_cons.2 ⟨.inr ⟨Tw.m3, Tw.nee⟩, (List.forall_mem_cons.2 ⟨.inr ⟨Tw.m4, Tw.nee⟩, (fun p hp => .inr ⟨(.tail _ (.tail _ (.tail _ (.tail _ (.tail _ hp))))), ((show Dk g16 (Kl12 ++ T) from Tw.djt) _ hp)⟩)⟩)⟩)⟩)⟩)⟩)) ?_
               refine wpL_done (fun W15 hW15 => ?_)
               change Code.wp ..
               refine wp_seq ?_
               obtain ⟨pm, hpm⟩ : ∃ p, ps[m]? = some p := ⟨_, List.getElem?_eq_getElem Tw.om⟩
               obtain ⟨hp1, hp2⟩ := hPA2 m pm hpm
               obtain ⟨bp2, bc2, lq2_, ld2, e1, e2, hR1, hR2⟩ := hPF.read hpm
               have hbl1 : pm.l.length ≤ l.length := by rw [hp1]; exact pil_len l m
               have hbl2 : pm.bs.length = pm.l.length := by rw [hp2]; exact boxes_len _ _
               refine wp_region_V _ Tw.kr hW15 ?_
               refine vm (i := 0) (v := .pointer (some ⟨g8, 14, none⟩)) rfl rfl rfl ?_
               refine vv (i := 1) (v := .slice (some ⟨gP, 0, none⟩) cs.length cs.length) rfl rfl rfl (yb_cell (off := 14) rfl Tw.kr Tw.m2 Try.underlying108 rfl Tw.kr) ?_
               refine vm (i := 2) (v := .int .i64 ((m : Nat) : Int)) rfl rfl rfl ?_
               refine vp (i := 3) (v := .pointer (some ⟨gP, 0 + m * 2, none⟩)) rfl rfl rfl (run_idxL (j := .i64) (n := cs.length) (cap := cs.length) (b := gP) (off := 0) (k := m) (sz := 2) rfl Try.underlying108 Tw.kr Tw.kr Tw.kr Tw.om) ?_
               refine vv (i := 4) (v := .agg #[.slice bp2 pm.bs.length bc2, .slice lq2_ pm.l.length ld2]) rfl rfl rfl (yb_cells (off := 0 + m * 2) (cur := (ps.flatMap pilC).toArray) (cs := [.slice bp2 pm.bs.length bc2, .slice lq2_ pm.l.length ld2]) rfl Tw.kr Tw.m1 (pil_at hpm e1 e2) Try.underlying153 rfl Tw.kr) ?_
               refine vv (i := 5) (v := .agg (colC y15).toArray) rfl rfl rfl (yb_load (n := 12) (off := 0) rfl Tw.kr Tw.m0 Try.underlying46 rfl Tw.kr (by first | (simp [Value.cells]; done) | exact Nat.le_of_ble_eq_true rfl) Tw.kr) ?_
               refine vv (i := 6) (v := .bool (standX pm.bs pm.l y15.height)) rfl rfl rfl (yb_call (f := 71) (args := #[.agg #[.slice bp2 pm.bs.length bc2, .slice lq2_ pm.l.length ld2], .agg (colC y15).toArray]) Tw.kf fun W hW => stands_any pm.bs bp2 bc2 Tw.om pm.l lq2_ ld2 Tw.om (fun x hx => ok_tier h1 hOk2 x (pil_sub (show x ∈ pileL l m from hp1 ▸ hx))) y15 W (hR1 _ (hW.sub (fun p hp => by simp only [List.mem_cons, List.mem_append, List.nil_append, List.not_mem_nil, or_assoc, or_false, false_or, hp, true_or, or_true]))) (hR2 _ (hW.sub (fun p hp => by simp only [List.mem_cons, List.mem_append, List.nil_append, List.not_mem_nil, or_assoc, or_false, false_or, hp, true_or, or_true])))) ?_
               refine vp (i := 7) (v := .bool (!(standX pm.bs pm.l y15.height))) rfl rfl rfl (run_un rfl Tw.kr fun w => un_not w) ?_
               refine wpV_done Tw.kr (fun W16 hW16 => ?_) _
               change Code.wp ..
               cases h5 : (standX pm.bs pm.l y15.height) with
               | false =>
                 refine wp_cond_true rfl ?_
                 refine wp_seq ?_
                 refine wp_region_L _ hW16 ?_
                 refine lm (v := .agg #[.slice none 0 0, .slice none 0 0, .int .i64 0, .int .i64 0, .int .i64 0, .int .i64 0, .slice none 0 0, .slice none 0 0, .slice none 0 0, .int .i64 0, .int .i64 0, .int .i64 0, .int .i64 0, .slice none 0 0, .slice none 0 0]) rfl rfl ?_
                 refine wpL_s ((g16, .cells (colC y15).toArray 46 (0, 0)) :: (gP, .cells (ps.flatMap pilC).toArray 153 (0, 0)) :: (g8, .cells #[.slice pc cs.length cc, .slice po os.length co, t.a0, t.a1, t.a2, t.a3, t.a4, t.a5, t.a6, t.a7, t.a8, t.a9, t.aA, .slice lq l.length ld, .slice (some ⟨gP, 0, none⟩) cs.length cs.length] 110 (0, 0)) :: (g2, .cells #[.slice none 0 0, .slice none 0 0, .int .i64 0, .int .i64 0, .int .i64 0, .int .i64 0, .slice none 0 0, .slice none 0 0, .slice none 0 0, .int .i64 0, .int .i64 0, .int .i64 0, .int .i64 0, .slice none 0 0, .slice none 0 0] 110 (0, 0)) :: (g1, .cells (shC (.slice pc cs.length cc) (.slice po os.length co) t).toArray 32 (0, 0)) :: (Kl12 ++ T)) rfl rfl (st_row (off := 0) (v := .agg #[.slice none 0 0, .slice none 0 0, .int .i64 0, .int .i64 0, .int .i64 0, .int .i64 0, .slice none 0 0, .slice none 0 0, .slice none 0 0, .int .i64 0, .int .i64 0, .int .i64 0, .int .i64 0, .slice none 0 0, .slice none 0 0]) rfl Tw.kr Tw.kr Tw.m3 Bg2 Tw.kr (by first | (simp [Value.cells]; done) | exact Nat.le_of_ble_eq_true rfl) (by intro v hv; simp [Value.cells] at hv; first | (subst hv; rfl) | (rcases hv with rfl | rfl | rfl | rfl | rfl | rfl | rfl | rfl | rfl | rfl | rfl | rfl | rfl | rfl | rfl <;> first | rfl | assumption)) Tw.kr (List.forall_mem_cons.2 ⟨.inr ⟨Tw.m0, Tw.nee⟩, (List.forall_mem_cons.2 ⟨.inr ⟨Tw.m1, Tw.nee⟩, (List.forall_mem_cons.2 ⟨.inr ⟨Tw.m2, Tw.nee⟩, (List.forall_mem_cons.2 ⟨.inl rfl, (List.forall_mem_cons.2 ⟨.inr ⟨Tw.m4, Tw.nee⟩, (fun p hp => .inr ⟨(.tail _ (.tail _ (.tail _ (.tail _ (.tail _ hp))))), ((show Dk g2 (Kl12 ++ T) from Tw.djt) _ hp)⟩)⟩)⟩)⟩)⟩)⟩)) ?_
                 refine lm (v := .bool false) rfl rfl ?_
                 refine wpL_done (fun W17 hW17 => ?_)
                 change Code.wp ..
                 refine wp_ret ?_
                 try simp only [inBlock_ret, then_ret]
                 refine bodyPost_ret (v := .tuple #[.agg #[.slice none 0 0, .slice none 0 0, .int .i64 0, .int .i64 0, .int .i64 0, .int .i64 0, .slice none 0 0, .slice none 0 0, .slice none 0 0, .int .i64 0, .int .i64 0, .int .i64 0, .int .i64 0, .slice none 0 0, .slice none 0 0], .bool false]) ?_ rfl ?_
                 · exact (res_cell_tmp (p := 6) (q := 7) rfl rfl (hW17.2 _ Tw.m3) Try.underlying110 rfl Tw.kr)
                 · exact ⟨_, [], (by rw [load_no4 (by rw [hPk, pil_step hy15, ← hp1, ← hp2, h5]; rfl)]; rfl), hW17.sub (fun _ h => by cases h), .inl ⟨load_no4 (by rw [hPk, pil_step hy15, ← hp1, ← hp2, h5]; rfl), rfl, rfl⟩⟩
               | true =>
                 refine wp_cond_false rfl ?_
                 refine wp_skip ?_
                 change Code.wp ..
                 refine wp_region_L _ hW16 ?_
                 refine lp (v := .int .i64 (((m + 1) : Nat) : Int)) rfl rfl (run_bin rfl (vx := (.int .i64 ((m : Nat) : Int))) (vy := (.int .i64 ((1 : Nat) : Int))) Tw.kr Tw.kr fun w => bn_add (z := (m + 1)) rfl (wr_i64 Tw.om) w) ?_
                 refine lm (v := .int .i64 (((m + 1) : Nat) : Int)) rfl rfl ?_
                 refine wpL_done (fun W18 hW18 => ?_)
                 go_roundw
                 case rel =>
                   repeat apply Exists.intro
                   exact ⟨⟨m + 1, Tw.om, (by rw [hPk, pil_step hy15, ← hp1, ← hp2, h5]; rfl), rfl, (hW18.sub (fun p hp => by first | exact hp | (simp only [List.mem_cons, List.mem_append, List.nil_append, List.not_mem_nil, or_assoc, or_false, false_or] at hp ⊢ <;> grind)))⟩, rfl⟩
                 case measure => (show cs.length - (intOf (.int .i64 (((m + 1) : Nat) : Int))).toNat < cs.length - (intOf (.int .i64 ((m : Nat) : Int))).toNat); simp only [intOf]; omega
         | true =>
           have h3 : k < ((boxesL bs l).length) := of_decide_eq_true hd3
           clear hd3
           refine wp_cond_true rfl ?_
           refine wp_skip ?_
           change Code.wp ..
           refine wp_seq ?_
           refine wp_block ?_
           refine wp_seq ?_
           refine wp_region_L _ hW10 ?_
           refine lm (v := .int .i64 ((k : Nat) : Int)) rfl rfl ?_
           obtain ⟨y18, g18_, f18_, hy18, hp18, hc18⟩ := RL.at R12 boC_len (by decide) (hW10.sub (fun p hp => by simp only [List.mem_cons, List.mem_append, List.nil_append, List.not_mem_nil, or_assoc, or_false, false_or, hp, true_or, or_true])) (k := k) Tw.om
           refine lp (v := .pointer (some ⟨g18_, f18_ + k * 9, none⟩)) rfl rfl (run_idxQ (p := p12) (cap := c12) (n := (boxesL bs l).length) (j := .i64) (k := k) (sz := 9) rfl Try.underlying33 Tw.kr Tw.kr hp18 Tw.kr Tw.om) ?_
           refine lv (v := .agg (boC y18).toArray) rfl rfl (yb_rs (off := f18_ + k * 9) (cs := boC y18) rfl Tw.kr (fun W hW => hc18 W (hW.sub (fun p hp => by simp only [List.mem_cons, List.mem_append, List.nil_append, List.not_mem_nil, or_assoc, or_false, false_or, hp, true_or, or_true]))) Try.underlying37 rfl Tw.kr) ?_
           refine wpL_new (fun g => .pointer (some ⟨g, 0, none⟩)) (obi := .cells #[.int .i64 0, strV [], .int .u8 0, .bool false, .int .i64 0, .int .i64 0, .int .i64 0, .int .u8 0, .bool false] 37 (0, 0)) rfl rfl Tw.kf Tw.pf fun g19 Bg19 Fg19 => ?_
           obtain ⟨dj20_0, dj20_1, dj20_2, dj20_3, dj20_4, dj20_5⟩ : gP ≠ g19 ∧ g8 ≠ g19 ∧ g2 ≠ g19 ∧ g1 ≠ g19 ∧ Dk g19 Kl12 ∧ Dk g19 T := Tw.dkf Fg19
           refine lm (v := .int .i64 ((k : Nat) : Int)) rfl rfl ?_
           refine wpL_s ((g19, .cells (boC y18).toArray 37 (0, 0)) :: (gP, .cells (ps.flatMap pilC).toArray 153 (0, 0)) :: (g8, .cells #[.slice pc cs.length cc, .slice po os.length co, t.a0, t.a1, t.a2, t.a3, t.a4, t.a5, t.a6, t.a7, t.a8, t.a9, t.aA, .slice lq l.length ld, .slice (some ⟨gP, 0, none⟩) cs.length cs.length] 110 (0, 0)) :: (g2, .cells #[.slice none 0 0, .slice none 0 0, .int .i64 0, .int .i64 0, .int .i64 0, .int .i64 0, .slice none 0 0, .slice none 0 0, .slice none 0 0, .int .i64 0, .int .i64 0, .int .i64 0, .int .i64 0, .slice none 0 0, .slice none 0 0] 110 (0, 0)) :: (g1, .cells (shC (.slice pc cs.length cc) (.slice po os.length co) t).toArray 32 (0, 0)) :: (Kl12 ++ T)) rfl rfl (st_row (off := 0) (v := .agg (boC y18).toArray) rfl Tw.kr Tw.kr Tw.m0 Bg19 Tw.kr (by first | (simp [Value.cells]; done) | exact Nat.le_of_ble_eq_true rfl) (fun v hv => boC_one y18 v hv) Tw.kr (List.forall_mem_cons.2 ⟨.inl rfl, (List.forall_mem_cons.2 ⟨.inr ⟨Tw.m1, Tw.nee⟩, (List.forall_mem_cons.2 ⟨.inr ⟨Tw.m2, Tw.nee⟩, (List.forall_mem_cons.2 ⟨.inr ⟨Tw.m3, Tw.nee⟩, (List.forall_mem_cons.2 ⟨.inr ⟨Tw.m4, Tw.nee⟩, (fun p hp => .inr ⟨(.tail _ (.tail _ (.tail _ (.tail _ (.tail _ hp))))), ((show Dk g19 (Kl12 ++ T) from Tw.djt) _ hp)⟩)⟩)⟩)⟩)⟩)⟩)) ?_
           refine wpL_done (fun W19 hW19 => ?_)
           change Code.wp ..
           refine wp_seq ?_
           refine wp_seq ?_
           refine wp_region_V _ Tw.kr hW19 ?_
           refine vv (i := 0) (v := .agg (shC (.slice pc cs.length cc) (.slice po os.length co) t).toArray) rfl rfl rfl (yb_load (n := 13) (off := 0) rfl Tw.kr Tw.m4 Try.underlying32 rfl Tw.kr (by first | (simp [Value.cells]; done) | exact Nat.le_of_ble_eq_true rfl) Tw.kr) ?_
           refine vm (i := 1) (v := .slice lq l.length ld) rfl rfl rfl ?_
           refine vm (i := 2) (v := .int .i64 ((k : Nat) : Int)) rfl rfl rfl ?_
           obtain ⟨y21, g21_, f21_, hy21, hp21, hc21⟩ := RL.at (RL.base HL.out) sdC_len (by decide) (hW19.sub (fun _ h => by cases h)) (k := k) Tw.om
           have hbx := boxes_at hy21 hy18
           refine vp (i := 3) (v := .pointer (some ⟨g21_, f21_ + k * 4, none⟩)) rfl rfl rfl (run_idxQ (p := lq) (cap := ld) (n := l.length) (j := .i64) (k := k) (sz := 4) rfl Try.underlying38 Tw.kr Tw.kr hp21 Tw.kr Tw.om) ?_
           refine vm (i := 4) (v := .pointer (some ⟨g21_, f21_ + k * 4 + 1, none⟩)) rfl rfl rfl ?_
           refine vb (i := 5) (v := .agg (sltC y21.slot).toArray) rfl rfl rfl (yb_rs (off := f21_ + k * 4 + 1) (cs := sltC y21.slot) rfl Tw.kr (fun W hW j v hv => by have h9 := hc21 W (hW.sub (fun _ h => by cases h)) (j + 1) v hv; rw [Nat.add_comm j 1, ← Nat.add_assoc] at h9; exact h9) Try.underlying40 rfl Tw.kr) ?_
           refine vm (i := 6) (v := .pointer (some ⟨g19, 2, none⟩)) rfl rfl rfl ?_
           refine vv (i := 7) (v := .int .u8 ((y18.size : Nat) : Int)) rfl rfl rfl (yb_cell (off := 2) rfl Tw.kr Tw.m0 Try.underlying5 rfl Tw.kr) ?_
           refine vv (i := 8) (v := .bool (rightS cs y21.slot y18.size)) rfl rfl rfl (yb_call (f := 70) (args := #[.agg (shC (.slice pc cs.length cc) (.slice po os.length co) t).toArray, .agg (sltC y21.slot).toArray, .int .u8 ((y18.size : Nat) : Int)]) Tw.kf fun W hW => SRight_any cs pc cc Tw.om os po co Tw.om t y21.slot y18.size W ((RL.base HC.out) _ (hW.sub (fun _ h => by cases h))) ((RL.base HO.out) _ (hW.sub (fun _ h => by cases h)))) ?_
           refine vp (i := 9) (v := .bool (!(rightS cs y21.slot y18.size))) rfl rfl rfl (run_un rfl Tw.kr fun w => un_not w) ?_
           refine wpV_done Tw.kr (fun W20 hW20 => ?_) _
           change Code.wp ..
           cases h6 : (rightS cs y21.slot y18.size) with
           | false =>
             refine wp_cond_true rfl ?_
             refine wp_seq ?_
             refine wp_region_L _ hW20 ?_
             refine lm (v := .agg #[.slice none 0 0, .slice none 0 0, .int .i64 0, .int .i64 0, .int .i64 0, .int .i64 0, .slice none 0 0, .slice none 0 0, .slice none 0 0, .int .i64 0, .int .i64 0, .int .i64 0, .int .i64 0, .slice none 0 0, .slice none 0 0]) rfl rfl ?_
             refine wpL_s ((g19, .cells (boC y18).toArray 37 (0, 0)) :: (gP, .cells (ps.flatMap pilC).toArray 153 (0, 0)) :: (g8, .cells #[.slice pc cs.length cc, .slice po os.length co, t.a0, t.a1, t.a2, t.a3, t.a4, t.a5, t.a6, t.a7, t.a8, t.a9, t.aA, .slice lq l.length ld, .slice (some ⟨gP, 0, none⟩) cs.length cs.length] 110 (0, 0)) :: (g2, .cells #[.slice none 0 0, .slice none 0 0, .int .i64 0, .int .i64 0, .int .i64 0, .int .i64 0, .slice none 0 0, .slice none 0 0, .slice none 0 0, .int .i64 0, .int .i64 0, .int .i64 0, .int .i64 0, .slice none 0 0, .slice none 0 0] 110 (0, 0)) :: (g1, .cells (shC (.slice pc cs.length cc) (.slice po os.length co) t).toArray 32 (0, 0)) :: (Kl12 ++ T)) rfl rfl (st_row (off := 0) (v := .agg #[.slice none 0 0, .slice none 0 0, .int .i64 0, .int .i64 0, .int .i64 0, .int .i64 0, .slice none 0 0, .slice none 0 0, .slice none 0 0, .int .i64 0, .int .i64 0, .int .i64 0, .int .i64 0, .slice none 0 0, .slice none 0 0]) rfl Tw.kr Tw.kr Tw.m3 Bg2 Tw.kr (by first | (simp [Value.cells]; done) | exact Nat.le_of_ble_eq_true rfl) (by intro v hv; simp [Value.cells] at hv; first | (subst hv; rfl) | (rcases hv with rfl | rfl | rfl | rfl | rfl | rfl | rfl | rfl | rfl | rfl | rfl | rfl | rfl | rfl | rfl <;> first | rfl | assumption)) Tw.kr (List.forall_mem_cons.2 ⟨.inr ⟨Tw.m0, Tw.nee⟩, (List.forall_mem_cons.2 ⟨.inr ⟨Tw.m1, Tw.nee⟩, (List.forall_mem_cons.2 ⟨.inr ⟨Tw.m2, Tw.nee⟩, (List.forall_mem_cons.2 ⟨.inl rfl, (List.forall_mem_cons.2 ⟨.inr ⟨Tw.m4, Tw.nee⟩, (fun p hp => .inr ⟨(.tail _ (.tail _ (.tail _ (.tail _ (.tail _ hp))))), ((show Dk g2 (Kl12 ++ T) from Tw.djt) _ hp)⟩)⟩)⟩)⟩)⟩)⟩)) ?_
             refine lm (v := .bool false) rfl rfl ?_
             refine wpL_done (fun W21 hW21 => ?_)
             change Code.wp ..
             refine wp_ret ?_
             try simp only [inBlock_ret, then_ret]
             refine bodyPost_ret (v := .tuple #[.agg #[.slice none 0 0, .slice none 0 0, .int .i64 0, .int .i64 0, .int .i64 0, .int .i64 0, .slice none 0 0, .slice none 0 0, .slice none 0 0, .int .i64 0, .int .i64 0, .int .i64 0, .int .i64 0, .slice none 0 0, .slice none 0 0], .bool false]) ?_ rfl ?_
             · exact (res_cell_tmp (p := 6) (q := 7) rfl rfl (hW21.2 _ Tw.m3) Try.underlying110 rfl Tw.kr)
             · exact ⟨_, [], (by rw [load_no3 (by rw [hOk, ok_step hy21, ← hbx, h6]; rfl)]; rfl), hW21.sub (fun _ h => by cases h), .inl ⟨load_no3 (by rw [hOk, ok_step hy21, ← hbx, h6]; rfl), rfl, rfl⟩⟩
           | true =>
             obtain ⟨j, cj, hcj, hcol, ht0, ht1⟩ := right_at h6
             have hjc := (List.getElem?_eq_some_iff.1 hcj).1
             refine wp_cond_false rfl ?_
             refine wp_skip ?_
             change Code.wp ..
             refine wp_seq ?_
             refine wp_region_V _ Tw.kr hW20 ?_
             refine vm (i := 0) (v := .pointer (some ⟨g8, 14, none⟩)) rfl rfl rfl ?_
             refine vv (i := 1) (v := .slice (some ⟨gP, 0, none⟩) cs.length cs.length) rfl rfl rfl (yb_cell (off := 14) rfl Tw.kr Tw.m2 Try.underlying108 rfl Tw.kr) ?_
             refine vm (i := 2) (v := .slice lq l.length ld) rfl rfl rfl ?_
             refine vm (i := 3) (v := .int .i64 ((k : Nat) : Int)) rfl rfl rfl ?_
             refine vp (i := 4) (v := .pointer (some ⟨g21_, f21_ + k * 4, none⟩)) rfl rfl rfl (run_idxQ (p := lq) (cap := ld) (n := l.length) (j := .i64) (k := k) (sz := 4) rfl Try.underlying38 Tw.kr Tw.kr hp21 Tw.kr Tw.om) ?_
             refine vm (i := 5) (v := .pointer (some ⟨g21_, f21_ + k * 4 + 1, none⟩)) rfl rfl rfl ?_
             refine vm (i := 6) (v := .pointer (some ⟨g21_, f21_ + k * 4 + 1, none⟩)) rfl rfl rfl ?_
             refine vb (i := 7) (v := .int .i64 y21.slot.col) rfl rfl rfl (yb_rf (v := .int .i64 y21.slot.col) rfl Tw.kr (fun W hW => hc21 W (hW.sub (fun _ h => by cases h)) 1 _ rfl) Try.underlying3 rfl) ?_
             rw [hcol]
             try rw [hcol] at hW20
             refine vp (i := 8) (v := .pointer (some ⟨gP, 0 + j * 2, none⟩)) rfl rfl rfl (run_idxL (j := .i64) (n := cs.length) (cap := cs.length) (b := gP) (off := 0) (k := j) (sz := 2) rfl Try.underlying108 Tw.kr Tw.kr Tw.kr Tw.om) ?_
             refine vm (i := 9) (v := .pointer (some ⟨gP, 0 + j * 2, none⟩)) rfl rfl rfl ?_
             refine wpV_done Tw.kr (fun W22 hW22 => ?_) _
             change Code.wp ..
             obtain ⟨pj, hpj⟩ : ∃ p, ps[j]? = some p := ⟨_, List.getElem?_eq_getElem Tw.om⟩
             obtain ⟨Tb, Tl, Tr, hOb, hOl, hd1, hd2, hd3, hsub, hput⟩ := hPF.open hpj
             have hsb : ∀ x ∈ Tb, x ∈ T := fun x hx => hsub x (List.mem_append_left _ hx)
             have hsl : ∀ x ∈ Tl, x ∈ T := fun x hx => hsub x (List.mem_append_right _ (List.mem_append_left _ hx))
             have hsr : ∀ x ∈ Tr, x ∈ T := fun x hx => hsub x (List.mem_append_right _ (List.mem_append_right _ hx))
             obtain ⟨hq1, hq2⟩ := hPA j pj hpj
             have hq3 : pj.l.length ≤ k := by rw [hq1]; exact Nat.le_trans (pil_len _ _) (by rw [List.length_take]; omega)
             have hq4 : pj.bs.length = pj.l.length := by rw [hq2]; exact boxes_len _ _
             have dk9_0 : Dk g19 Tb := dkS (show Dk g19 T from Tw.djt) hsb
             have dk9_1 : Dk gP Tb := dkS (show Dk gP T from Tw.djt) hsb
             have dk9_2 : Dk g8 Tb := dkS (show Dk g8 T from Tw.djt) hsb
             have dk9_3 : Dk g2 Tb := dkS (show Dk g2 T from Tw.djt) hsb
             have dk9_4 : Dk g1 Tb := dkS (show Dk g1 T from Tw.djt) hsb
             have dk9_5 : Dj Kl12 Tb := djS (show Dj Kl12 T from Tw.djt) hsb
             have dk9_6 : Dk g19 Tl := dkS (show Dk g19 T from Tw.djt) hsl
             have dk9_7 : Dk gP Tl := dkS (show Dk gP T from Tw.djt) hsl
             have dk9_8 : Dk g8 Tl := dkS (show Dk g8 T from Tw.djt) hsl
             have dk9_9 : Dk g2 Tl := dkS (show Dk g2 T from Tw.djt) hsl
             have dk9_10 : Dk g1 Tl := dkS (show Dk g1 T from Tw.djt) hsl
             have dk9_11 : Dj Kl12 Tl := djS (show Dj Kl12 T from Tw.djt) hsl
             have dk9_12 : Dk g19 Tr := dkS (show Dk g19 T from Tw.djt) hsr
             have dk9_13 : Dk gP Tr := dkS (show Dk gP T from Tw.djt) hsr
             have dk9_14 : Dk g8 Tr := dkS (show Dk g8 T from Tw.djt) hsr
             have dk9_15 : Dk g2 Tr := dkS (show Dk g2 T from Tw.djt) hsr
             have dk9_16 : Dk g1 Tr := dkS (show Dk g1 T from Tw.djt) hsr
             have dk9_17 : Dj Kl12 Tr := djS (show Dj Kl12 T from Tw.djt) hsr
             have hKo : KS w ((g19, .cells (boC y18).toArray 37 (0, 0)) :: (gP, .cells (ps.flatMap pilC).toArray 153 (0, 0)) :: (g8, .cells #[.slice pc cs.length cc, .slice po os.length co, t.a0, t.a1, t.a2, t.a3, t.a4, t.a5, t.a6, t.a7, t.a8, t.a9, t.aA, .slice lq l.length ld, .slice (some ⟨gP, 0, none⟩) cs.length cs.length] 110 (0, 0)) :: (g2, .cells #[.slice none 0 0, .slice none 0 0, .int .i64 0, .int .i64 0, .int .i64 0, .int .i64 0, .slice none 0 0, .slice none 0 0, .slice none 0 0, .int .i64 0, .int .i64 0, .int .i64 0, .int .i64 0, .slice none 0 0, .slice none 0 0] 110 (0, 0)) :: (g1, .cells (shC (.slice pc cs.length cc) (.slice po os.length co) t).toArray 32 (0, 0)) :: (Kl12 ++ (Tb ++ (Tl ++ Tr)))) W22 := hW22.sub (fun x hx => by simp only [List.mem_cons, List.mem_append, or_assoc] at hx ⊢; grind)
             refine Z.wp_region_V (S := [(gP, .cells (ps.flatMap pilC).toArray 153 (0, 0))]) (b := false) (W0 := w) ((g19, .cells (boC y18).toArray 37 (0, 0)) :: (gP, .cells (ps.flatMap pilC).toArray 153 (0, 0)) :: (g8, .cells #[.slice pc cs.length cc, .slice po os.length co, t.a0, t.a1, t.a2, t.a3, t.a4, t.a5, t.a6, t.a7, t.a8, t.a9, t.aA, .slice lq l.length ld, .slice (some ⟨gP, 0, none⟩) cs.length cs.length] 110 (0, 0)) :: (g2, .cells #[.slice none 0 0, .slice none 0 0, .int .i64 0, .int .i64 0, .int .i64 0, .int .i64 0, .slice none 0 0, .slice none 0 0, .slice none 0 0, .int .i64 0, .int .i64 0, .int .i64 0, .int .i64 0, .slice none 0 0, .slice none 0 0] 110 (0, 0)) :: (g1, .cells (shC (.slice pc cs.length cc) (.slice po os.length co) t).toArray 32 (0, 0)) :: (Kl12 ++ (Tb ++ (Tl ++ Tr)))) Tw.kr (hKo) ?_
             refine Z.vm (i := 0) (v := .pointer (some ⟨gP, 0 + j * 2, none⟩)) rfl rfl rfl ?_
             refine Z.vm (i := 1) (v := .pointer (some ⟨gP, 0 + j * 2, none⟩)) rfl rfl rfl ?_
             refine Z.vm (i := 2) (v := .pointer (some ⟨gP, 0 + j * 2, none⟩)) rfl rfl rfl ?_
             refine Z.vm (i := 3) (v := .pointer (some ⟨gP, 0 + j * 2, none⟩)) rfl rfl rfl ?_
             refine Z.vm (i := 4) (v := .pointer (some ⟨gP, 0 + j * 2, none⟩)) rfl rfl rfl ?_
             refine Z.vS (i := 5) (v := pj.bv) rfl rfl rfl (yb_cell (off := 0 + j * 2 + 0) (v := pj.bv) rfl Tw.kr Tw.m0 Try.underlying33 rfl (RowR.get (rowx pilC ps) pilC_len hpj 0 _ rfl)) (fun p hp => by rw [List.mem_singleton.1 hp]; simp only [List.mem_cons, List.mem_append, List.nil_append, List.not_mem_nil, or_assoc, or_false, false_or, true_or, or_true]) ?_
             refine Z.vv (i := 6) (v := .agg (boC y18).toArray) rfl rfl rfl (yb_load (n := 9) (off := 0) rfl Tw.kr Tw.m0 Try.underlying37 rfl Tw.kr (by first | (simp [Value.cells]; done) | exact Nat.le_of_ble_eq_true rfl) Tw.kr) ?_
             refine Z.vm (i := 9) (v := .pointer (some ⟨gP, 0 + j * 2, none⟩)) rfl rfl rfl ?_
             refine Z.vm (i := 10) (v := .pointer (some ⟨gP, 0 + j * 2, none⟩)) rfl rfl rfl ?_
             refine Z.vm (i := 11) (v := .pointer (some ⟨gP, 0 + j * 2 + 1, none⟩)) rfl rfl rfl ?_
             refine Z.vS (i := 12) (v := pj.lv) rfl rfl rfl (yb_cell (off := 0 + j * 2 + 1) (v := pj.lv) rfl Tw.kr Tw.m0 Try.underlying38 rfl (RowR.get (rowx pilC ps) pilC_len hpj 1 _ rfl)) (fun p hp => by rw [List.mem_singleton.1 hp]; simp only [List.mem_cons, List.mem_append, List.nil_append, List.not_mem_nil, or_assoc, or_false, false_or, true_or, or_true]) ?_
             refine Z.vm (i := 13) (v := .slice lq l.length ld) rfl rfl rfl ?_
             refine Z.vm (i := 14) (v := .int .i64 ((k : Nat) : Int)) rfl rfl rfl ?_
             refine Z.vp (i := 15) (v := .pointer (some ⟨g21_, f21_ + k * 4, none⟩)) rfl rfl rfl (run_idxQ (p := lq) (cap := ld) (n := l.length) (j := .i64) (k := k) (sz := 4) rfl Try.underlying38 Tw.kr Tw.kr hp21 Tw.kr Tw.om) ?_
             refine Z.vb (i := 16) (v := .agg (sdC y21).toArray) rfl rfl rfl (yb_rs (off := f21_ + k * 4) (cs := sdC y21) rfl Tw.kr (fun W hW => hc21 W (hW.sub (fun _ h => by cases h))) Try.underlying42 rfl Tw.kr) ?_
             refine Z.wpV_2 (i := 7) (j := 17) Tw.kr ?_ ?_
             · refine Z.stepV_nsx (fun g => .slice (some ⟨g, 0, none⟩) 1 1) (i := 7) (obi := .cells (boC y18).toArray 37 (0, 0)) rfl rfl rfl Tw.kf Tw.pf fun g22 Bg22 Fg22 => ?_
               obtain ⟨dj23_0, dj23_1, dj23_2, dj23_3, dj23_4, dj23_5, dj23_6, dj23_7, dj23_8⟩ : g19 ≠ g22 ∧ gP ≠ g22 ∧ g8 ≠ g22 ∧ g2 ≠ g22 ∧ g1 ≠ g22 ∧ Dk g22 Kl12 ∧ Dk g22 Tb ∧ Dk g22 Tl ∧ Dk g22 Tr := Tw.dkf Fg22
               refine Z.wpV_2 (i := 8) (j := 17) Tw.kr ?_ ?_
               · refine Z.stepV_gk (AppO w 37 9 ((g19, .cells (boC y18).toArray 37 (0, 0)) :: (gP, .cells (ps.flatMap pilC).toArray 153 (0, 0)) :: (g8, .cells #[.slice pc cs.length cc, .slice po os.length co, t.a0, t.a1, t.a2, t.a3, t.a4, t.a5, t.a6, t.a7, t.a8, t.a9, t.aA, .slice lq l.length ld, .slice (some ⟨gP, 0, none⟩) cs.length cs.length] 110 (0, 0)) :: (g2, .cells #[.slice none 0 0, .slice none 0 0, .int .i64 0, .int .i64 0, .int .i64 0, .int .i64 0, .slice none 0 0, .slice none 0 0, .slice none 0 0, .int .i64 0, .int .i64 0, .int .i64 0, .int .i64 0, .slice none 0 0, .slice none 0 0] 110 (0, 0)) :: (g1, .cells (shC (.slice pc cs.length cc) (.slice po os.length co) t).toArray 32 (0, 0)) :: (Kl12 ++ (Tl ++ Tr))) (pj.bs.length + 1) ((pj.bs.flatMap boC) ++ [.int .i64 y18.id, strV y18.num, .int .u8 ((y18.size : Nat) : Int), .bool y18.high, .int .i64 y18.kilos, .int .i64 y18.load, .int .i64 y18.dis, .int .u8 ((y18.cls : Nat) : Int), .bool y18.rf])) (i := 8) rfl rfl rfl rfl (app_own el_bo (m := 1) (c := 1) (news := [.int .i64 y18.id, strV y18.num, .int .u8 ((y18.size : Nat) : Int), .bool y18.high, .int .i64 y18.kilos, .int .i64 y18.load, .int .i64 y18.dis, .int .u8 ((y18.cls : Nat) : Int), .bool y18.rf]) rfl Tw.kr Tw.kr Tw.m0 hOb Tw.sc (fun p hp => ⟨by simp only [List.mem_cons, List.mem_append, List.nil_append, List.not_mem_nil, or_assoc, or_false, false_or] at hp ⊢ <;> grind, (show Dj ((g19, .cells (boC y18).toArray 37 (0, 0)) :: (gP, .cells (ps.flatMap pilC).toArray 153 (0, 0)) :: (g8, .cells #[.slice pc cs.length cc, .slice po os.length co, t.a0, t.a1, t.a2, t.a3, t.a4, t.a5, t.a6, t.a7, t.a8, t.a9, t.aA, .slice lq l.length ld, .slice (some ⟨gP, 0, none⟩) cs.length cs.length] 110 (0, 0)) :: (g2, .cells #[.slice none 0 0, .slice none 0 0, .int .i64 0, .int .i64 0, .int .i64 0, .int .i64 0, .slice none 0 0, .slice none 0 0, .slice none 0 0, .int .i64 0, .int .i64 0, .int .i64 0, .int .i64 0, .slice none 0 0, .slice none 0 0] 110 (0, 0)) :: (g1, .cells (shC (.slice pc cs.length cc) (.slice po os.length co) t).toArray 32 (0, 0)) :: (Kl12 ++ (Tl ++ Tr))) Tb from Tw.djt) p hp⟩) rfl (by simp [strV, Value.oneCell']) Tw.om Tw.om Tw.om) (Z.appO_keep (fun p hp => by rw [List.mem_singleton.1 hp]; simp only [List.mem_cons, List.mem_append, List.nil_append, List.not_mem_nil, or_assoc, or_false, false_or, true_or, or_true])) Tw.pf ?_
                 rintro v24 K9 ⟨Kl24, O24, N24, rfl⟩
                 obtain ⟨dj25_0, dj25_1, dj25_2, dj25_3, dj25_4, dj25_5, dj25_6, dj25_7⟩ : Dk g19 Kl24 ∧ Dk gP Kl24 ∧ Dk g8 Kl24 ∧ Dk g2 Kl24 ∧ Dk g1 Kl24 ∧ Dj Kl12 Kl24 ∧ Dj Tl Kl24 ∧ Dj Tr Kl24 := Tw.djf N24
                 refine Z.wpV_ns (fun g => .slice (some ⟨g, 0, none⟩) 1 1) (i := 17) (obi := .cells (sdC y21).toArray 42 (0, 0)) rfl rfl rfl Tw.kr Tw.kf Tw.pf fun g26 Bg26 Fg26 => ?_
                 obtain ⟨dj27_0, dj27_1, dj27_2, dj27_3, dj27_4, dj27_5, dj27_6, dj27_7, dj27_8⟩ : g19 ≠ g26 ∧ gP ≠ g26 ∧ g8 ≠ g26 ∧ g2 ≠ g26 ∧ g1 ≠ g26 ∧ Dk g26 Kl12 ∧ Dk g26 Tl ∧ Dk g26 Tr ∧ Dk g26 Kl24 := Tw.dkf Fg26
                 refine Z.wpV_gk (AppO w 42 4 ((g19, .cells (boC y18).toArray 37 (0, 0)) :: (gP, .cells (ps.flatMap pilC).toArray 153 (0, 0)) :: (g8, .cells #[.slice pc cs.length cc, .slice po os.length co, t.a0, t.a1, t.a2, t.a3, t.a4, t.a5, t.a6, t.a7, t.a8, t.a9, t.aA, .slice lq l.length ld, .slice (some ⟨gP, 0, none⟩) cs.length cs.length] 110 (0, 0)) :: (g2, .cells #[.slice none 0 0, .slice none 0 0, .int .i64 0, .int .i64 0, .int .i64 0, .int .i64 0, .slice none 0 0, .slice none 0 0, .slice none 0 0, .int .i64 0, .int .i64 0, .int .i64 0, .int .i64 0, .slice none 0 0, .slice none 0 0] 110 (0, 0)) :: (g1, .cells (shC (.slice pc cs.length cc) (.slice po os.length co) t).toArray 32 (0, 0)) :: (Kl12 ++ (Tr ++ Kl24))) (pj.l.length + 1) ((pj.l.flatMap sdC) ++ [.int .i64 y21.box, .int .i64 y21.slot.col, .int .i64 y21.slot.tier, .int .u8 ((y21.slot.half : Nat) : Int)])) (i := 18) rfl rfl rfl Tw.kr rfl (app_own el_sd (m := 1) (c := 1) (news := [.int .i64 y21.box, .int .i64 y21.slot.col, .int .i64 y21.slot.tier, .int .u8 ((y21.slot.half : Nat) : Int)]) rfl Tw.kr Tw.kr Tw.m0 hOl Tw.sc (fun p hp => ⟨by simp only [List.mem_cons, List.mem_append, List.nil_append, List.not_mem_nil, or_assoc, or_false, false_or] at hp ⊢ <;> grind, (show Dj ((g19, .cells (boC y18).toArray 37 (0, 0)) :: (gP, .cells (ps.flatMap pilC).toArray 153 (0, 0)) :: (g8, .cells #[.slice pc cs.length cc, .slice po os.length co, t.a0, t.a1, t.a2, t.a3, t.a4, t.a5, t.a6, t.a7, t.a8, t.a9, t.aA, .slice lq l.length ld, .slice (some ⟨gP, 0, none⟩) cs.length cs.length] 110 (0, 0)) :: (g2, .cells #[.slice none 0 0, .slice none 0 0, .int .i64 0, .int .i64 0, .int .i64 0, .int .i64 0, .slice none 0 0, .slice none 0 0, .slice none 0 0, .int .i64 0, .int .i64 0, .int .i64 0, .int .i64 0, .slice none 0 0, .slice none 0 0] 110 (0, 0)) :: (g1, .cells (shC (.slice pc cs.length cc) (.slice po os.length co) t).toArray 32 (0, 0)) :: (Kl12 ++ (Tr ++ Kl24))) Tl from Tw.djt) p hp⟩) rfl (by simp [strV, Value.oneCell']) Tw.om Tw.om Tw.om) (Z.appO_keep (fun p hp => by rw [List.mem_singleton.1 hp]; simp only [List.mem_cons, List.mem_append, List.nil_append, List.not_mem_nil, or_assoc, or_false, false_or, true_or, or_true])) Tw.pf ?_
                 rintro v28 K9 ⟨Kl28, O28, N28, rfl⟩
                 obtain ⟨dj29_0, dj29_1, dj29_2, dj29_3, dj29_4, dj29_5, dj29_6, dj29_7⟩ : Dk g19 Kl28 ∧ Dk gP Kl28 ∧ Dk g8 Kl28 ∧ Dk g2 Kl28 ∧ Dk g1 Kl28 ∧ Dj Kl12 Kl28 ∧ Dj Tr Kl28 ∧ Dj Kl24 Kl28 := Tw.djf N28
                 refine Z.wpV_mem _ _ _ ((g19, .cells (boC y18).toArray 37 (0, 0)) :: (gP, .cells (ps.flatMap pilC).toArray 153 (0, 0)) :: (g8, .cells #[.slice pc cs.length cc, .slice po os.length co, t.a0, t.a1, t.a2, t.a3, t.a4, t.a5, t.a6, t.a7, t.a8, t.a9, t.aA, .slice lq l.length ld, .slice (some ⟨gP, 0, none⟩) cs.length cs.length] 110 (0, 0)) :: (g2, .cells #[.slice none 0 0, .slice none 0 0, .int .i64 0, .int .i64 0, .int .i64 0, .int .i64 0, .slice none 0 0, .slice none 0 0, .slice none 0 0, .int .i64 0, .int .i64 0, .int .i64 0, .int .i64 0, .slice none 0 0, .slice none 0 0] 110 (0, 0)) :: (g1, .cells (shC (.slice pc cs.length cc) (.slice po os.length co) t).toArray 32 (0, 0)) :: ((Kl12 ++ (Tr ++ Kl24)) ++ Kl28)) _ (fun p => by simp only [List.mem_cons, List.mem_append, or_assoc]) ?_
                 refine Z.vm (i := 19) (v := .pointer (some ⟨gP, 0 + j * 2, none⟩)) rfl rfl rfl ?_
                 refine Z.vm (i := 20) (v := .pointer (some ⟨gP, 0 + j * 2, none⟩)) rfl rfl rfl ?_
                 obtain ⟨p30, c30, rfl⟩ := own_shape O24
                 refine Z.wpV_s ((g19, .cells (boC y18).toArray 37 (0, 0)) :: (gP, .cells ((ps.flatMap pilC).toArray.setIfInBounds (0 + j * 2) (.slice p30 (pj.bs.length + 1) c30)) 153 (0, 0)) :: (g8, .cells #[.slice pc cs.length cc, .slice po os.length co, t.a0, t.a1, t.a2, t.a3, t.a4, t.a5, t.a6, t.a7, t.a8, t.a9, t.aA, .slice lq l.length ld, .slice (some ⟨gP, 0, none⟩) cs.length cs.length] 110 (0, 0)) :: (g2, .cells #[.slice none 0 0, .slice none 0 0, .int .i64 0, .int .i64 0, .int .i64 0, .int .i64 0, .slice none 0 0, .slice none 0 0, .slice none 0 0, .int .i64 0, .int .i64 0, .int .i64 0, .int .i64 0, .slice none 0 0, .slice none 0 0] 110 (0, 0)) :: (g1, .cells (shC (.slice pc cs.length cc) (.slice po os.length co) t).toArray 32 (0, 0)) :: ((Kl12 ++ (Tr ++ Kl24)) ++ Kl28)) (i := 21) rfl Tw.kr rfl rfl rfl (st_at (off := 0 + j * 2 + 0) (v := .slice p30 (pj.bs.length + 1) c30) rfl Tw.kr Tw.kr Tw.m1 bl_gP Tw.kr rfl rfl (by rw [pil_size]; omega) (.inr rfl) (List.forall_mem_cons.2 ⟨.inr ⟨Tw.m0, Tw.nee⟩, (List.forall_mem_cons.2 ⟨.inl rfl, (List.forall_mem_cons.2 ⟨.inr ⟨Tw.m2, Tw.nee⟩, (List.forall_mem_cons.2 ⟨.inr ⟨Tw.m3, Tw.nee⟩, (List.forall_mem_cons.2 ⟨.inr ⟨Tw.m4, Tw.nee⟩, (fun p hp => .inr ⟨(.tail _ (.tail _ (.tail _ (.tail _ (.tail _ hp))))), ((show Dk gP ((Kl12 ++ (Tr ++ Kl24)) ++ Kl28) from Tw.djt) _ hp)⟩)⟩)⟩)⟩)⟩)⟩)) (fun h => by cases h) ?_
                 refine Z.vm (i := 22) (v := .pointer (some ⟨gP, 0 + j * 2, none⟩)) rfl rfl rfl ?_
                 refine Z.vm (i := 23) (v := .pointer (some ⟨gP, 0 + j * 2 + 1, none⟩)) rfl rfl rfl ?_
                 obtain ⟨p31, c31, rfl⟩ := own_shape O28
                 refine Z.wpV_s ((g19, .cells (boC y18).toArray 37 (0, 0)) :: (gP, .cells (((ps.flatMap pilC).toArray.setIfInBounds (0 + j * 2) (.slice p30 (pj.bs.length + 1) c30)).setIfInBounds (0 + j * 2 + 1) (.slice p31 (pj.l.length + 1) c31)) 153 (0, 0)) :: (g8, .cells #[.slice pc cs.length cc, .slice po os.length co, t.a0, t.a1, t.a2, t.a3, t.a4, t.a5, t.a6, t.a7, t.a8, t.a9, t.aA, .slice lq l.length ld, .slice (some ⟨gP, 0, none⟩) cs.length cs.length] 110 (0, 0)) :: (g2, .cells #[.slice none 0 0, .slice none 0 0, .int .i64 0, .int .i64 0, .int .i64 0, .int .i64 0, .slice none 0 0, .slice none 0 0, .slice none 0 0, .int .i64 0, .int .i64 0, .int .i64 0, .int .i64 0, .slice none 0 0, .slice none 0 0] 110 (0, 0)) :: (g1, .cells (shC (.slice pc cs.length cc) (.slice po os.length co) t).toArray 32 (0, 0)) :: ((Kl12 ++ (Tr ++ Kl24)) ++ Kl28)) (i := 24) rfl Tw.kr rfl rfl rfl (st_at (off := 0 + j * 2 + 1) (v := .slice p31 (pj.l.length + 1) c31) rfl Tw.kr Tw.kr Tw.m1 bl_gP Tw.kr rfl rfl (by simp only [Array.size_setIfInBounds]; rw [pil_size]; omega) (.inr rfl) (List.forall_mem_cons.2 ⟨.inr ⟨Tw.m0, Tw.nee⟩, (List.forall_mem_cons.2 ⟨.inl rfl, (List.forall_mem_cons.2 ⟨.inr ⟨Tw.m2, Tw.nee⟩, (List.forall_mem_cons.2 ⟨.inr ⟨Tw.m3, Tw.nee⟩, (List.forall_mem_cons.2 ⟨.inr ⟨Tw.m4, Tw.nee⟩, (fun p hp => .inr ⟨(.tail _ (.tail _ (.tail _ (.tail _ (.tail _ hp))))), ((show Dk gP ((Kl12 ++ (Tr ++ Kl24)) ++ Kl28) from Tw.djt) _ hp)⟩)⟩)⟩)⟩)⟩)⟩)) (fun h => by cases h) ?_
                 refine Z.wpV_done Tw.kr (fun W23 hW23 => ?_) _
                 change Code.wp ..
                 refine wp_region_L _ hW23 ?_
                 refine lp (v := .int .i64 (((k + 1) : Nat) : Int)) rfl rfl (run_bin rfl (vx := (.int .i64 ((k : Nat) : Int))) (vy := (.int .i64 ((1 : Nat) : Int))) Tw.kr Tw.kr fun w => bn_add (z := (k + 1)) rfl (wr_i64 Tw.om) w) ?_
                 refine lm (v := .int .i64 (((k + 1) : Nat) : Int)) rfl rfl ?_
                 refine wpL_done (fun W24 hW24 => ?_)
                 rw [pil_set2 (bs := pj.bs ++ [boxOf bs y21.box]) (l := pj.l ++ [y21]) hpj] at hW24
                 go_roundw
                 case rel =>
                   repeat apply Exists.intro
                   exact ⟨⟨k + 1, (ps.set j (⟨.slice p30 (pj.bs.length + 1) c30, .slice p31 (pj.l.length + 1) c31, pj.bs ++ [boxOf bs y21.box], pj.l ++ [y21]⟩ : PilV)), (Kl24 ++ (Kl28 ++ Tr)), Tw.om, (by rw [List.length_set]; exact hPL), (pat_put hPA hpj hy21 hcol), (hput (⟨.slice p30 (pj.bs.length + 1) c30, .slice p31 (pj.l.length + 1) c31, pj.bs ++ [boxOf bs y21.box], pj.l ++ [y21]⟩ : PilV) Kl24 Kl28 (by have h9 := O24; rw [hbx] at h9; exact own_app h9 (by rw [List.flatMap_append]; rfl) (by rw [List.length_append]; rfl)) (own_app O28 (by rw [List.flatMap_append]; rfl) (by rw [List.length_append]; rfl)) (show Dj Kl24 Kl28 from Tw.djt) (show Dj Kl24 Tr from Tw.djt) (show Dj Kl28 Tr from Tw.djt)), (by rw [hOk, ok_step hy21, ← hbx, h6]; rfl), (show Dk gP (Kl24 ++ (Kl28 ++ Tr)) from Tw.djt), (show Dk g8 (Kl24 ++ (Kl28 ++ Tr)) from Tw.djt), (show Dk g2 (Kl24 ++ (Kl28 ++ Tr)) from Tw.djt), (show Dk g1 (Kl24 ++ (Kl28 ++ Tr)) from Tw.djt), (show Dj Kl12 (Kl24 ++ (Kl28 ++ Tr)) from Tw.djt), rfl, (hW24.sub (fun p hp => by first | exact hp | (simp only [List.mem_cons, List.mem_append, List.nil_append, List.not_mem_nil, or_assoc, or_false, false_or] at hp ⊢ <;> grind)))⟩, rfl⟩
                 case measure => (show (boxesL bs l).length - (intOf (.int .i64 (((k + 1) : Nat) : Int))).toNat < (boxesL bs l).length - (intOf (.int .i64 ((k : Nat) : Int))).toNat); simp only [intOf]; omega
               · refine Z.stepV_nsx (fun g => .slice (some ⟨g, 0, none⟩) 1 1) (i := 17) (obi := .cells (sdC y21).toArray 42 (0, 0)) rfl rfl rfl Tw.kf Tw.pf fun g32 Bg32 Fg32 => ?_
                 obtain ⟨dj33_0, dj33_1, dj33_2, dj33_3, dj33_4, dj33_5, dj33_6, dj33_7, dj33_8, dj33_9⟩ : g22 ≠ g32 ∧ g19 ≠ g32 ∧ gP ≠ g32 ∧ g8 ≠ g32 ∧ g2 ≠ g32 ∧ g1 ≠ g32 ∧ Dk g32 Kl12 ∧ Dk g32 Tb ∧ Dk g32 Tl ∧ Dk g32 Tr := Tw.dkf Fg32
                 refine Z.wpV_gk (AppO w 37 9 ((g32, .cells (sdC y21).toArray 42 (0, 0)) :: (g19, .cells (boC y18).toArray 37 (0, 0)) :: (gP, .cells (ps.flatMap pilC).toArray 153 (0, 0)) :: (g8, .cells #[.slice pc cs.length cc, .slice po os.length co, t.a0, t.a1, t.a2, t.a3, t.a4, t.a5, t.a6, t.a7, t.a8, t.a9, t.aA, .slice lq l.length ld, .slice (some ⟨gP, 0, none⟩) cs.length cs.length] 110 (0, 0)) :: (g2, .cells #[.slice none 0 0, .slice none 0 0, .int .i64 0, .int .i64 0, .int .i64 0, .int .i64 0, .slice none 0 0, .slice none 0 0, .slice none 0 0, .int .i64 0, .int .i64 0, .int .i64 0, .int .i64 0, .slice none 0 0, .slice none 0 0] 110 (0, 0)) :: (g1, .cells (shC (.slice pc cs.length cc) (.slice po os.length co) t).toArray 32 (0, 0)) :: (Kl12 ++ (Tl ++ Tr))) (pj.bs.length + 1) ((pj.bs.flatMap boC) ++ [.int .i64 y18.id, strV y18.num, .int .u8 ((y18.size : Nat) : Int), .bool y18.high, .int .i64 y18.kilos, .int .i64 y18.load, .int .i64 y18.dis, .int .u8 ((y18.cls : Nat) : Int), .bool y18.rf])) (i := 8) rfl rfl rfl Tw.kr rfl (app_own el_bo (m := 1) (c := 1) (news := [.int .i64 y18.id, strV y18.num, .int .u8 ((y18.size : Nat) : Int), .bool y18.high, .int .i64 y18.kilos, .int .i64 y18.load, .int .i64 y18.dis, .int .u8 ((y18.cls : Nat) : Int), .bool y18.rf]) rfl Tw.kr Tw.kr Tw.m1 hOb Tw.sc (fun p hp => ⟨by simp only [List.mem_cons, List.mem_append, List.nil_append, List.not_mem_nil, or_assoc, or_false, false_or] at hp ⊢ <;> grind, (show Dj ((g32, .cells (sdC y21).toArray 42 (0, 0)) :: (g19, .cells (boC y18).toArray 37 (0, 0)) :: (gP, .cells (ps.flatMap pilC).toArray 153 (0, 0)) :: (g8, .cells #[.slice pc cs.length cc, .slice po os.length co, t.a0, t.a1, t.a2, t.a3, t.a4, t.a5, t.a6, t.a7, t.a8, t.a9, t.aA, .slice lq l.length ld, .slice (some ⟨gP, 0, none⟩) cs.length cs.length] 110 (0, 0)) :: (g2, .cells #[.slice none 0 0, .slice none 0 0, .int .i64 0, .int .i64 0, .int .i64 0, .int .i64 0, .slice none 0 0, .slice none 0 0, .slice none 0 0, .int .i64 0, .int .i64 0, .int .i64 0, .int .i64 0, .slice none 0 0, .slice none 0 0] 110 (0, 0)) :: (g1, .cells (shC (.slice pc cs.length cc) (.slice po os.length co) t).toArray 32 (0, 0)) :: (Kl12 ++ (Tl ++ Tr))) Tb from Tw.djt) p hp⟩) rfl (by simp [strV, Value.oneCell']) Tw.om Tw.om Tw.om) (Z.appO_keep (fun p hp => by rw [List.mem_singleton.1 hp]; simp only [List.mem_cons, List.mem_append, List.nil_append, List.not_mem_nil, or_assoc, or_false, false_or, true_or, or_true])) Tw.pf ?_
                 rintro v34 K9 ⟨Kl34, O34, N34, rfl⟩
                 obtain ⟨dj35_0, dj35_1, dj35_2, dj35_3, dj35_4, dj35_5, dj35_6, dj35_7, dj35_8⟩ : Dk g32 Kl34 ∧ Dk g19 Kl34 ∧ Dk gP Kl34 ∧ Dk g8 Kl34 ∧ Dk g2 Kl34 ∧ Dk g1 Kl34 ∧ Dj Kl12 Kl34 ∧ Dj Tl Kl34 ∧ Dj Tr Kl34 := Tw.djf N34
                 refine Z.wpV_mem _ _ _ ((g32, .cells (sdC y21).toArray 42 (0, 0)) :: (g19, .cells (boC y18).toArray 37 (0, 0)) :: (gP, .cells (ps.flatMap pilC).toArray 153 (0, 0)) :: (g8, .cells #[.slice pc cs.length cc, .slice po os.length co, t.a0, t.a1, t.a2, t.a3, t.a4, t.a5, t.a6, t.a7, t.a8, t.a9, t.aA, .slice lq l.length ld, .slice (some ⟨gP, 0, none⟩) cs.length cs.length] 110 (0, 0)) :: (g2, .cells #[.slice none 0 0, .slice none 0 0, .int .i64 0, .int .i64 0, .int .i64 0, .int .i64 0, .slice none 0 0, .slice none 0 0, .slice none 0 0, .int .i64 0, .int .i64 0, .int .i64 0, .int .i64 0, .slice none 0 0, .slice none 0 0] 110 (0, 0)) :: (g1, .cells (shC (.slice pc cs.length cc) (.slice po os.length co) t).toArray 32 (0, 0)) :: ((Kl12 ++ (Tl ++ Tr)) ++ Kl34)) _ (fun p => by simp only [List.mem_cons, List.mem_append, or_assoc]) ?_
                 refine Z.wpV_gk (AppO w 42 4 ((g19, .cells (boC y18).toArray 37 (0, 0)) :: (gP, .cells (ps.flatMap pilC).toArray 153 (0, 0)) :: (g8, .cells #[.slice pc cs.length cc, .slice po os.length co, t.a0, t.a1, t.a2, t.a3, t.a4, t.a5, t.a6, t.a7, t.a8, t.a9, t.aA, .slice lq l.length ld, .slice (some ⟨gP, 0, none⟩) cs.length cs.length] 110 (0, 0)) :: (g2, .cells #[.slice none 0 0, .slice none 0 0, .int .i64 0, .int .i64 0, .int .i64 0, .int .i64 0, .slice none 0 0, .slice none 0 0, .slice none 0 0, .int .i64 0, .int .i64 0, .int .i64 0, .int .i64 0, .slice none 0 0, .slice none 0 0] 110 (0, 0)) :: (g1, .cells (shC (.slice pc cs.length cc) (.slice po os.length co) t).toArray 32 (0, 0)) :: (Kl12 ++ (Tr ++ Kl34))) (pj.l.length + 1) ((pj.l.flatMap sdC) ++ [.int .i64 y21.box, .int .i64 y21.slot.col, .int .i64 y21.slot.tier, .int .u8 ((y21.slot.half : Nat) : Int)])) (i := 18) rfl rfl rfl Tw.kr rfl (app_own el_sd (m := 1) (c := 1) (news := [.int .i64 y21.box, .int .i64 y21.slot.col, .int .i64 y21.slot.tier, .int .u8 ((y21.slot.half : Nat) : Int)]) rfl Tw.kr Tw.kr Tw.m0 hOl Tw.sc (fun p hp => ⟨by simp only [List.mem_cons, List.mem_append, List.nil_append, List.not_mem_nil, or_assoc, or_false, false_or] at hp ⊢ <;> grind, (show Dj ((g19, .cells (boC y18).toArray 37 (0, 0)) :: (gP, .cells (ps.flatMap pilC).toArray 153 (0, 0)) :: (g8, .cells #[.slice pc cs.length cc, .slice po os.length co, t.a0, t.a1, t.a2, t.a3, t.a4, t.a5, t.a6, t.a7, t.a8, t.a9, t.aA, .slice lq l.length ld, .slice (some ⟨gP, 0, none⟩) cs.length cs.length] 110 (0, 0)) :: (g2, .cells #[.slice none 0 0, .slice none 0 0, .int .i64 0, .int .i64 0, .int .i64 0, .int .i64 0, .slice none 0 0, .slice none 0 0, .slice none 0 0, .int .i64 0, .int .i64 0, .int .i64 0, .int .i64 0, .slice none 0 0, .slice none 0 0] 110 (0, 0)) :: (g1, .cells (shC (.slice pc cs.length cc) (.slice po os.length co) t).toArray 32 (0, 0)) :: (Kl12 ++ (Tr ++ Kl34))) Tl from Tw.djt) p hp⟩) rfl (by simp [strV, Value.oneCell']) Tw.om Tw.om Tw.om) (Z.appO_keep (fun p hp => by rw [List.mem_singleton.1 hp]; simp only [List.mem_cons, List.mem_append, List.nil_append, List.not_mem_nil, or_assoc, or_false, false_or, true_or, or_true])) Tw.pf ?_
                 rintro v36 K9 ⟨Kl36, O36, N36, rfl⟩
                 obtain ⟨dj37_0, dj37_1, dj37_2, dj37_3, dj37_4, dj37_5, dj37_6, dj37_7⟩ : Dk g19 Kl36 ∧ Dk gP Kl36 ∧ Dk g8 Kl36 ∧ Dk g2 Kl36 ∧ Dk g1 Kl36 ∧ Dj Kl12 Kl36 ∧ Dj Tr Kl36 ∧ Dj Kl34 Kl36 := Tw.djf N36
                 refine Z.wpV_mem _ _ _ ((g19, .cells (boC y18).toArray 37 (0, 0)) :: (gP, .cells (ps.flatMap pilC).toArray 153 (0, 0)) :: (g8, .cells #[.slice pc cs.length cc, .slice po os.length co, t.a0, t.a1, t.a2, t.a3, t.a4, t.a5, t.a6, t.a7, t.a8, t.a9, t.aA, .slice lq l.length ld, .slice (some ⟨gP, 0, none⟩) cs.length cs.length] 110 (0, 0)) :: (g2, .cells #[.slice none 0 0, .slice none 0 0, .int .i64 0, .int .i64 0, .int .i64 0, .int .i64 0, .slice none 0 0, .slice none 0 0, .slice none 0 0, .int .i64 0, .int .i64 0, .int .i64 0, .int .i64 0, .slice none 0 0, .slice none 0 0] 110 (0, 0)) :: (g1, .cells (shC (.slice pc cs.length cc) (.slice po os.length co) t).toArray 32 (0, 0)) :: ((Kl12 ++ (Tr ++ Kl34)) ++ Kl36)) _ (fun p => by simp only [List.mem_cons, List.mem_append, or_assoc]) ?_
                 refine Z.vm (i := 19) (v := .pointer (some ⟨gP, 0 + j * 2, none⟩)) rfl rfl rfl ?_
                 refine Z.vm (i := 20) (v := .pointer (some ⟨gP, 0 + j * 2, none⟩)) rfl rfl rfl ?_
                 obtain ⟨p38, c38, rfl⟩ := own_shape O34
                 refine Z.wpV_s ((g19, .cells (boC y18).toArray 37 (0, 0)) :: (gP, .cells ((ps.flatMap pilC).toArray.setIfInBounds (0 + j * 2) (.slice p38 (pj.bs.length + 1) c38)) 153 (0, 0)) :: (g8, .cells #[.slice pc cs.length cc, .slice po os.length co, t.a0, t.a1, t.a2, t.a3, t.a4, t.a5, t.a6, t.a7, t.a8, t.a9, t.aA, .slice lq l.length ld, .slice (some ⟨gP, 0, none⟩) cs.length cs.length] 110 (0, 0)) :: (g2, .cells #[.slice none 0 0, .slice none 0 0, .int .i64 0, .int .i64 0, .int .i64 0, .int .i64 0, .slice none 0 0, .slice none 0 0, .slice none 0 0, .int .i64 0, .int .i64 0, .int .i64 0, .int .i64 0, .slice none 0 0, .slice none 0 0] 110 (0, 0)) :: (g1, .cells (shC (.slice pc cs.length cc) (.slice po os.length co) t).toArray 32 (0, 0)) :: ((Kl12 ++ (Tr ++ Kl34)) ++ Kl36)) (i := 21) rfl Tw.kr rfl rfl rfl (st_at (off := 0 + j * 2 + 0) (v := .slice p38 (pj.bs.length + 1) c38) rfl Tw.kr Tw.kr Tw.m1 bl_gP Tw.kr rfl rfl (by rw [pil_size]; omega) (.inr rfl) (List.forall_mem_cons.2 ⟨.inr ⟨Tw.m0, Tw.nee⟩, (List.forall_mem_cons.2 ⟨.inl rfl, (List.forall_mem_cons.2 ⟨.inr ⟨Tw.m2, Tw.nee⟩, (List.forall_mem_cons.2 ⟨.inr ⟨Tw.m3, Tw.nee⟩, (List.forall_mem_cons.2 ⟨.inr ⟨Tw.m4, Tw.nee⟩, (fun p hp => .inr ⟨(.tail _ (.tail _ (.tail _ (.tail _ (.tail _ hp))))), ((show Dk gP ((Kl12 ++ (Tr ++ Kl34)) ++ Kl36) from Tw.djt) _ hp)⟩)⟩)⟩)⟩)⟩)⟩)) (fun h => by cases h) ?_
                 refine Z.vm (i := 22) (v := .pointer (some ⟨gP, 0 + j * 2, none⟩)) rfl rfl rfl ?_
                 refine Z.vm (i := 23) (v := .pointer (some ⟨gP, 0 + j * 2 + 1, none⟩)) rfl rfl rfl ?_
                 obtain ⟨p39, c39, rfl⟩ := own_shape O36
                 refine Z.wpV_s ((g19, .cells (boC y18).toArray 37 (0, 0)) :: (gP, .cells (((ps.flatMap pilC).toArray.setIfInBounds (0 + j * 2) (.slice p38 (pj.bs.length + 1) c38)).setIfInBounds (0 + j * 2 + 1) (.slice p39 (pj.l.length + 1) c39)) 153 (0, 0)) :: (g8, .cells #[.slice pc cs.length cc, .slice po os.length co, t.a0, t.a1, t.a2, t.a3, t.a4, t.a5, t.a6, t.a7, t.a8, t.a9, t.aA, .slice lq l.length ld, .slice (some ⟨gP, 0, none⟩) cs.length cs.length] 110 (0, 0)) :: (g2, .cells #[.slice none 0 0, .slice none 0 0, .int .i64 0, .int .i64 0, .int .i64 0, .int .i64 0, .slice none 0 0, .slice none 0 0, .slice none 0 0, .int .i64 0, .int .i64 0, .int .i64 0, .int .i64 0, .slice none 0 0, .slice none 0 0] 110 (0, 0)) :: (g1, .cells (shC (.slice pc cs.length cc) (.slice po os.length co) t).toArray 32 (0, 0)) :: ((Kl12 ++ (Tr ++ Kl34)) ++ Kl36)) (i := 24) rfl Tw.kr rfl rfl rfl (st_at (off := 0 + j * 2 + 1) (v := .slice p39 (pj.l.length + 1) c39) rfl Tw.kr Tw.kr Tw.m1 bl_gP Tw.kr rfl rfl (by simp only [Array.size_setIfInBounds]; rw [pil_size]; omega) (.inr rfl) (List.forall_mem_cons.2 ⟨.inr ⟨Tw.m0, Tw.nee⟩, (List.forall_mem_cons.2 ⟨.inl rfl, (List.forall_mem_cons.2 ⟨.inr ⟨Tw.m2, Tw.nee⟩, (List.forall_mem_cons.2 ⟨.inr ⟨Tw.m3, Tw.nee⟩, (List.forall_mem_cons.2 ⟨.inr ⟨Tw.m4, Tw.nee⟩, (fun p hp => .inr ⟨(.tail _ (.tail _ (.tail _ (.tail _ (.tail _ hp))))), ((show Dk gP ((Kl12 ++ (Tr ++ Kl34)) ++ Kl36) from Tw.djt) _ hp)⟩)⟩)⟩)⟩)⟩)⟩)) (fun h => by cases h) ?_
                 refine Z.wpV_done Tw.kr (fun W25 hW25 => ?_) _
                 change Code.wp ..
                 refine wp_region_L _ hW25 ?_
                 refine lp (v := .int .i64 (((k + 1) : Nat) : Int)) rfl rfl (run_bin rfl (vx := (.int .i64 ((k : Nat) : Int))) (vy := (.int .i64 ((1 : Nat) : Int))) Tw.kr Tw.kr fun w => bn_add (z := (k + 1)) rfl (wr_i64 Tw.om) w) ?_
                 refine lm (v := .int .i64 (((k + 1) : Nat) : Int)) rfl rfl ?_
                 refine wpL_done (fun W26 hW26 => ?_)
                 rw [pil_set2 (bs := pj.bs ++ [boxOf bs y21.box]) (l := pj.l ++ [y21]) hpj] at hW26
                 go_roundw
                 case rel =>
                   repeat apply Exists.intro
                   exact ⟨⟨k + 1, (ps.set j (⟨.slice p38 (pj.bs.length + 1) c38, .slice p39 (pj.l.length + 1) c39, pj.bs ++ [boxOf bs y21.box], pj.l ++ [y21]⟩ : PilV)), (Kl34 ++ (Kl36 ++ Tr)), Tw.om, (by rw [List.length_set]; exact hPL), (pat_put hPA hpj hy21 hcol), (hput (⟨.slice p38 (pj.bs.length + 1) c38, .slice p39 (pj.l.length + 1) c39, pj.bs ++ [boxOf bs y21.box], pj.l ++ [y21]⟩ : PilV) Kl34 Kl36 (by have h9 := O34; rw [hbx] at h9; exact own_app h9 (by rw [List.flatMap_append]; rfl) (by rw [List.length_append]; rfl)) (own_app O36 (by rw [List.flatMap_append]; rfl) (by rw [List.length_append]; rfl)) (show Dj Kl34 Kl36 from Tw.djt) (show Dj Kl34 Tr from Tw.djt) (show Dj Kl36 Tr from Tw.djt)), (by rw [hOk, ok_step hy21, ← hbx, h6]; rfl), (show Dk gP (Kl34 ++ (Kl36 ++ Tr)) from Tw.djt), (show Dk g8 (Kl34 ++ (Kl36 ++ Tr)) from Tw.djt), (show Dk g2 (Kl34 ++ (Kl36 ++ Tr)) from Tw.djt), (show Dk g1 (Kl34 ++ (Kl36 ++ Tr)) from Tw.djt), (show Dj Kl12 (Kl34 ++ (Kl36 ++ Tr)) from Tw.djt), rfl, (hW26.sub (fun p hp => by first | exact hp | (simp only [List.mem_cons, List.mem_append, List.nil_append, List.not_mem_nil, or_assoc, or_false, false_or] at hp ⊢ <;> grind)))⟩, rfl⟩
                 case measure => (show (boxesL bs l).length - (intOf (.int .i64 (((k + 1) : Nat) : Int))).toNat < (boxesL bs l).length - (intOf (.int .i64 ((k : Nat) : Int))).toNat); simp only [intOf]; omega
             · refine Z.stepV_nsx (fun g => .slice (some ⟨g, 0, none⟩) 1 1) (i := 17) (obi := .cells (sdC y21).toArray 42 (0, 0)) rfl rfl rfl Tw.kf Tw.pf fun g40 Bg40 Fg40 => ?_
               obtain ⟨dj41_0, dj41_1, dj41_2, dj41_3, dj41_4, dj41_5, dj41_6, dj41_7, dj41_8⟩ : g19 ≠ g40 ∧ gP ≠ g40 ∧ g8 ≠ g40 ∧ g2 ≠ g40 ∧ g1 ≠ g40 ∧ Dk g40 Kl12 ∧ Dk g40 Tb ∧ Dk g40 Tl ∧ Dk g40 Tr := Tw.dkf Fg40
               refine Z.wpV_ns (fun g => .slice (some ⟨g, 0, none⟩) 1 1) (i := 7) (obi := .cells (boC y18).toArray 37 (0, 0)) rfl rfl rfl Tw.kr Tw.kf Tw.pf fun g42 Bg42 Fg42 => ?_
               obtain ⟨dj43_0, dj43_1, dj43_2, dj43_3, dj43_4, dj43_5, dj43_6, dj43_7, dj43_8, dj43_9⟩ : g40 ≠ g42 ∧ g19 ≠ g42 ∧ gP ≠ g42 ∧ g8 ≠ g42 ∧ g2 ≠ g42 ∧ g1 ≠ g42 ∧ Dk g42 Kl12 ∧ Dk g42 Tb ∧ Dk g42 Tl ∧ Dk g42 Tr := Tw.dkf Fg42
               refine Z.wpV_gk (AppO w 37 9 ((g40, .cells (sdC y21).toArray 42 (0, 0)) :: (g19, .cells (boC y18).toArray 37 (0, 0)) :: (gP, .cells (ps.flatMap pilC).toArray 153 (0, 0)) :: (g8, .cells #[.slice pc cs.length cc, .slice po os.length co, t.a0, t.a1, t.a2, t.a3, t.a4, t.a5, t.a6, t.a7, t.a8, t.a9, t.aA, .slice lq l.length ld, .slice (some ⟨gP, 0, none⟩) cs.length cs.length] 110 (0, 0)) :: (g2, .cells #[.slice none 0 0, .slice none 0 0, .int .i64 0, .int .i64 0, .int .i64 0, .int .i64 0, .slice none 0 0, .slice none 0 0, .slice none 0 0, .int .i64 0, .int .i64 0, .int .i64 0, .int .i64 0, .slice none 0 0, .slice none 0 0] 110 (0, 0)) :: (g1, .cells (shC (.slice pc cs.length cc) (.slice po os.length co) t).toArray 32 (0, 0)) :: (Kl12 ++ (Tl ++ Tr))) (pj.bs.length + 1) ((pj.bs.flatMap boC) ++ [.int .i64 y18.id, strV y18.num, .int .u8 ((y18.size : Nat) : Int), .bool y18.high, .int .i64 y18.kilos, .int .i64 y18.load, .int .i64 y18.dis, .int .u8 ((y18.cls : Nat) : Int), .bool y18.rf])) (i := 8) rfl rfl rfl Tw.kr rfl (app_own el_bo (m := 1) (c := 1) (news := [.int .i64 y18.id, strV y18.num, .int .u8 ((y18.size : Nat) : Int), .bool y18.high, .int .i64 y18.kilos, .int .i64 y18.load, .int .i64 y18.dis, .int .u8 ((y18.cls : Nat) : Int), .bool y18.rf]) rfl Tw.kr Tw.kr Tw.m0 hOb Tw.sc (fun p hp => ⟨by simp only [List.mem_cons, List.mem_append, List.nil_append, List.not_mem_nil, or_assoc, or_false, false_or] at hp ⊢ <;> grind, (show Dj ((g40, .cells (sdC y21).toArray 42 (0, 0)) :: (g19, .cells (boC y18).toArray 37 (0, 0)) :: (gP, .cells (ps.flatMap pilC).toArray 153 (0, 0)) :: (g8, .cells #[.slice pc cs.length cc, .slice po os.length co, t.a0, t.a1, t.a2, t.a3, t.a4, t.a5, t.a6, t.a7, t.a8, t.a9, t.aA, .slice lq l.length ld, .slice (some ⟨gP, 0, none⟩) cs.length cs.length] 110 (0, 0)) :: (g2, .cells #[.slice none 0 0, .slice none 0 0, .int .i64 0, .int .i64 0, .int .i64 0, .int .i64 0, .slice none 0 0, .slice none 0 0, .slice none 0 0, .int .i64 0, .int .i64 0, .int .i64 0, .int .i64 0, .slice none 0 0, .slice none 0 0] 110 (0, 0)) :: (g1, .cells (shC (.slice pc cs.length cc) (.slice po os.length co) t).toArray 32 (0, 0)) :: (Kl12 ++ (Tl ++ Tr))) Tb from Tw.djt) p hp⟩) rfl (by simp [strV, Value.oneCell']) Tw.om Tw.om Tw.om) (Z.appO_keep (fun p hp => by rw [List.mem_singleton.1 hp]; simp only [List.mem_cons, List.mem_append, List.nil_append, List.not_mem_nil, or_assoc, or_false, false_or, true_or, or_true])) Tw.pf ?_
               rintro v44 K9 ⟨Kl44, O44, N44, rfl⟩
               obtain ⟨dj45_0, dj45_1, dj45_2, dj45_3, dj45_4, dj45_5, dj45_6, dj45_7, dj45_8⟩ : Dk g40 Kl44 ∧ Dk g19 Kl44 ∧ Dk gP Kl44 ∧ Dk g8 Kl44 ∧ Dk g2 Kl44 ∧ Dk g1 Kl44 ∧ Dj Kl12 Kl44 ∧ Dj Tl Kl44 ∧ Dj Tr Kl44 := Tw.djf N44
               refine Z.wpV_mem _ _ _ ((g40, .cells (sdC y21).toArray 42 (0, 0)) :: (g19, .cells (boC y18).toArray 37 (0, 0)) :: (gP, .cells (ps.flatMap pilC).toArray 153 (0, 0)) :: (g8, .cells #[.slice pc cs.length cc, .slice po os.length co, t.a0, t.a1, t.a2, t.a3, t.a4, t.a5, t.a6, t.a7, t.a8, t.a9, t.aA, .slice lq l.length ld, .slice (some ⟨gP, 0, none⟩) cs.length cs.length] 110 (0, 0)) :: (g2, .cells #[.slice none 0 0, .slice none 0 0, .int .i64 0, .int .i64 0, .int .i64 0, .int .i64 0, .slice none 0 0, .slice none 0 0, .slice none 0 0, .int .i64 0, .int .i64 0, .int .i64 0, .int .i64 0, .slice none 0 0, .slice none 0 0] 110 (0, 0)) :: (g1, .cells (shC (.slice pc cs.length cc) (.slice po os.length co) t).toArray 32 (0, 0)) :: ((Kl12 ++ (Tl ++ Tr)) ++ Kl44)) _ (fun p => by simp only [List.mem_cons, List.mem_append, or_assoc]) ?_
               refine Z.wpV_gk (AppO w 42 4 ((g19, .cells (boC y18).toArray 37 (0, 0)) :: (gP, .cells (ps.flatMap pilC).toArray 153 (0, 0)) :: (g8, .cells #[.slice pc cs.length cc, .slice po os.length co, t.a0, t.a1, t.a2, t.a3, t.a4, t.a5, t.a6, t.a7, t.a8, t.a9, t.aA, .slice lq l.length ld, .slice (some ⟨gP, 0, none⟩) cs.length cs.length] 110 (0, 0)) :: (g2, .cells #[.slice none 0 0, .slice none 0 0, .int .i64 0, .int .i64 0, .int .i64 0, .int .i64 0, .slice none 0 0, .slice none 0 0, .slice none 0 0, .int .i64 0, .int .i64 0, .int .i64 0, .int .i64 0, .slice none 0 0, .slice none 0 0] 110 (0, 0)) :: (g1, .cells (shC (.slice pc cs.length cc) (.slice po os.length co) t).toArray 32 (0, 0)) :: (Kl12 ++ (Tr ++ Kl44))) (pj.l.length + 1) ((pj.l.flatMap sdC) ++ [.int .i64 y21.box, .int .i64 y21.slot.col, .int .i64 y21.slot.tier, .int .u8 ((y21.slot.half : Nat) : Int)])) (i := 18) rfl rfl rfl Tw.kr rfl (app_own el_sd (m := 1) (c := 1) (news := [.int .i64 y21.box, .int .i64 y21.slot.col, .int .i64 y21.slot.tier, .int .u8 ((y21.slot.half : Nat) : Int)]) rfl Tw.kr Tw.kr Tw.m0 hOl Tw.sc (fun p hp => ⟨by simp only [List.mem_cons, List.mem_append, List.nil_append, List.not_mem_nil, or_assoc, or_false, false_or] at hp ⊢ <;> grind, (show Dj ((g19, .cells (boC y18).toArray 37 (0, 0)) :: (gP, .cells (ps.flatMap pilC).toArray 153 (0, 0)) :: (g8, .cells #[.slice pc cs.length cc, .slice po os.length co, t.a0, t.a1, t.a2, t.a3, t.a4, t.a5, t.a6, t.a7, t.a8, t.a9, t.aA, .slice lq l.length ld, .slice (some ⟨gP, 0, none⟩) cs.length cs.length] 110 (0, 0)) :: (g2, .cells #[.slice none 0 0, .slice none 0 0, .int .i64 0, .int .i64 0, .int .i64 0, .int .i64 0, .slice none 0 0, .slice none 0 0, .slice none 0 0, .int .i64 0, .int .i64 0, .int .i64 0, .int .i64 0, .slice none 0 0, .slice none 0 0] 110 (0, 0)) :: (g1, .cells (shC (.slice pc cs.length cc) (.slice po os.length co) t).toArray 32 (0, 0)) :: (Kl12 ++ (Tr ++ Kl44))) Tl from Tw.djt) p hp⟩) rfl (by simp [strV, Value.oneCell']) Tw.om Tw.om Tw.om) (Z.appO_keep (fun p hp => by rw [List.mem_singleton.1 hp]; simp only [List.mem_cons, List.mem_append, List.nil_append, List.not_mem_nil, or_assoc, or_false, false_or, true_or, or_true])) Tw.pf ?_
               rintro v46 K9 ⟨Kl46, O46, N46, rfl⟩
               obtain ⟨dj47_0, dj47_1, dj47_2, dj47_3, dj47_4, dj47_5, dj47_6, dj47_7⟩ : Dk g19 Kl46 ∧ Dk gP Kl46 ∧ Dk g8 Kl46 ∧ Dk g2 Kl46 ∧ Dk g1 Kl46 ∧ Dj Kl12 Kl46 ∧ Dj Tr Kl46 ∧ Dj Kl44 Kl46 := Tw.djf N46
               refine Z.wpV_mem _ _ _ ((g19, .cells (boC y18).toArray 37 (0, 0)) :: (gP, .cells (ps.flatMap pilC).toArray 153 (0, 0)) :: (g8, .cells #[.slice pc cs.length cc, .slice po os.length co, t.a0, t.a1, t.a2, t.a3, t.a4, t.a5, t.a6, t.a7, t.a8, t.a9, t.aA, .slice lq l.length ld, .slice (some ⟨gP, 0, none⟩) cs.length cs.length] 110 (0, 0)) :: (g2, .cells #[.slice none 0 0, .slice none 0 0, .int .i64 0, .int .i64 0, .int .i64 0, .int .i64 0, .slice none 0 0, .slice none 0 0, .slice none 0 0, .int .i64 0, .int .i64 0, .int .i64 0, .int .i64 0, .slice none 0 0, .slice none 0 0] 110 (0, 0)) :: (g1, .cells (shC (.slice pc cs.length cc) (.slice po os.length co) t).toArray 32 (0, 0)) :: ((Kl12 ++ (Tr ++ Kl44)) ++ Kl46)) _ (fun p => by simp only [List.mem_cons, List.mem_append, or_assoc]) ?_
               refine Z.vm (i := 19) (v := .pointer (some ⟨gP, 0 + j * 2, none⟩)) rfl rfl rfl ?_
               refine Z.vm (i := 20) (v := .pointer (some ⟨gP, 0 + j * 2, none⟩)) rfl rfl rfl ?_
               obtain ⟨p48, c48, rfl⟩ := own_shape O44
               refine Z.wpV_s ((g19, .cells (boC y18).toArray 37 (0, 0)) :: (gP, .cells ((ps.flatMap pilC).toArray.setIfInBounds (0 + j * 2) (.slice p48 (pj.bs.length + 1) c48)) 153 (0, 0)) :: (g8, .cells #[.slice pc cs.length cc, .slice po os.length co, t.a0, t.a1, t.a2, t.a3, t.a4, t.a5, t.a6, t.a7, t.a8, t.a9, t.aA, .slice lq l.length ld, .slice (some ⟨gP, 0, none⟩) cs.length cs.length] 110 (0, 0)) :: (g2, .cells #[.slice none 0 0, .slice none 0 0, .int .i64 0, .int .i64 0, .int .i64 0, .int .i64 0, .slice none 0 0, .slice none 0 0, .slice none 0 0, .int .i64 0, .int .i64 0, .int .i64 0, .int .i64 0, .slice none 0 0, .slice none 0 0] 110 (0, 0)) :: (g1, .cells (shC (.slice pc cs.length cc) (.slice po os.length co) t).toArray 32 (0, 0)) :: ((Kl12 ++ (Tr ++ Kl44)) ++ Kl46)) (i := 21) rfl Tw.kr rfl rfl rfl (st_at (off := 0 + j * 2 + 0) (v := .slice p48 (pj.bs.length + 1) c48) rfl Tw.kr Tw.kr Tw.m1 bl_gP Tw.kr rfl rfl (by rw [pil_size]; omega) (.inr rfl) (List.forall_mem_cons.2 ⟨.inr ⟨Tw.m0, Tw.nee⟩, (List.forall_mem_cons.2 ⟨.inl rfl, (List.forall_mem_cons.2 ⟨.inr ⟨Tw.m2, Tw.nee⟩, (List.forall_mem_cons.2 ⟨.inr ⟨Tw.m3, Tw.nee⟩, (List.forall_mem_cons.2 ⟨.inr ⟨Tw.m4, Tw.nee⟩, (fun p hp => .inr ⟨(.tail _ (.tail _ (.tail _ (.tail _ (.tail _ hp))))), ((show Dk gP ((Kl12 ++ (Tr ++ Kl44)) ++ Kl46) from Tw.djt) _ hp)⟩)⟩)⟩)⟩)⟩)⟩)) (fun h => by cases h) ?_
               refine Z.vm (i := 22) (v := .pointer (some ⟨gP, 0 + j * 2, none⟩)) rfl rfl rfl ?_
               refine Z.vm (i := 23) (v := .pointer (some ⟨gP, 0 + j * 2 + 1, none⟩)) rfl rfl rfl ?_
               obtain ⟨p49, c49, rfl⟩ := own_shape O46
               refine Z.wpV_s ((g19, .cells (boC y18).toArray 37 (0, 0)) :: (gP, .cells (((ps.flatMap pilC).toArray.setIfInBounds (0 + j * 2) (.slice p48 (pj.bs.length + 1) c48)).setIfInBounds (0 + j * 2 + 1) (.slice p49 (pj.l.length + 1) c49)) 153 (0, 0)) :: (g8, .cells #[.slice pc cs.length cc, .slice po os.length co, t.a0, t.a1, t.a2, t.a3, t.a4, t.a5, t.a6, t.a7, t.a8, t.a9, t.aA, .slice lq l.length ld, .slice (some ⟨gP, 0, none⟩) cs.length cs.length] 110 (0, 0)) :: (g2, .cells #[.slice none 0 0, .slice none 0 0, .int .i64 0, .int .i64 0, .int .i64 0, .int .i64 0, .slice none 0 0, .slice none 0 0, .slice none 0 0, .int .i64 0, .int .i64 0, .int .i64 0, .int .i64 0, .slice none 0 0, .slice none 0 0] 110 (0, 0)) :: (g1, .cells (shC (.slice pc cs.length cc) (.slice po os.length co) t).toArray 32 (0, 0)) :: ((Kl12 ++ (Tr ++ Kl44)) ++ Kl46)) (i := 24) rfl Tw.kr rfl rfl rfl (st_at (off := 0 + j * 2 + 1) (v := .slice p49 (pj.l.length + 1) c49) rfl Tw.kr Tw.kr Tw.m1 bl_gP Tw.kr rfl rfl (by simp only [Array.size_setIfInBounds]; rw [pil_size]; omega) (.inr rfl) (List.forall_mem_cons.2 ⟨.inr ⟨Tw.m0, Tw.nee⟩, (List.forall_mem_cons.2 ⟨.inl rfl, (List.forall_mem_cons.2 ⟨.inr ⟨Tw.m2, Tw.nee⟩, (List.forall_mem_cons.2 ⟨.inr ⟨Tw.m3, Tw.nee⟩, (List.forall_mem_cons.2 ⟨.inr ⟨Tw.m4, Tw.nee⟩, (fun p hp => .inr ⟨(.tail _ (.tail _ (.tail _ (.tail _ (.tail _ hp))))), ((show Dk gP ((Kl12 ++ (Tr ++ Kl44)) ++ Kl46) from Tw.djt) _ hp)⟩)⟩)⟩)⟩)⟩)⟩)) (fun h => by cases h) ?_
               refine Z.wpV_done Tw.kr (fun W27 hW27 => ?_) _
               change Code.wp ..
               refine wp_region_L _ hW27 ?_
               refine lp (v := .int .i64 (((k + 1) : Nat) : Int)) rfl rfl (run_bin rfl (vx := (.int .i64 ((k : Nat) : Int))) (vy := (.int .i64 ((1 : Nat) : Int))) Tw.kr Tw.kr fun w => bn_add (z := (k + 1)) rfl (wr_i64 Tw.om) w) ?_
               refine lm (v := .int .i64 (((k + 1) : Nat) : Int)) rfl rfl ?_
               refine wpL_done (fun W28 hW28 => ?_)
               rw [pil_set2 (bs := pj.bs ++ [boxOf bs y21.box]) (l := pj.l ++ [y21]) hpj] at hW28
               go_roundw
               case rel =>
                 repeat apply Exists.intro
                 exact ⟨⟨k + 1, (ps.set j (⟨.slice p48 (pj.bs.length + 1) c48, .slice p49 (pj.l.length + 1) c49, pj.bs ++ [boxOf bs y21.box], pj.l ++ [y21]⟩ : PilV)), (Kl44 ++ (Kl46 ++ Tr)), Tw.om, (by rw [List.length_set]; exact hPL), (pat_put hPA hpj hy21 hcol), (hput (⟨.slice p48 (pj.bs.length + 1) c48, .slice p49 (pj.l.length + 1) c49, pj.bs ++ [boxOf bs y21.box], pj.l ++ [y21]⟩ : PilV) Kl44 Kl46 (by have h9 := O44; rw [hbx] at h9; exact own_app h9 (by rw [List.flatMap_append]; rfl) (by rw [List.length_append]; rfl)) (own_app O46 (by rw [List.flatMap_append]; rfl) (by rw [List.length_append]; rfl)) (show Dj Kl44 Kl46 from Tw.djt) (show Dj Kl44 Tr from Tw.djt) (show Dj Kl46 Tr from Tw.djt)), (by rw [hOk, ok_step hy21, ← hbx, h6]; rfl), (show Dk gP (Kl44 ++ (Kl46 ++ Tr)) from Tw.djt), (show Dk g8 (Kl44 ++ (Kl46 ++ Tr)) from Tw.djt), (show Dk g2 (Kl44 ++ (Kl46 ++ Tr)) from Tw.djt), (show Dk g1 (Kl44 ++ (Kl46 ++ Tr)) from Tw.djt), (show Dj Kl12 (Kl44 ++ (Kl46 ++ Tr)) from Tw.djt), rfl, (hW28.sub (fun p hp => by first | exact hp | (simp only [List.mem_cons, List.mem_append, List.nil_append, List.not_mem_nil, or_assoc, or_false, false_or] at hp ⊢ <;> grind)))⟩, rfl⟩
               case measure => (show (boxesL bs l).length - (intOf (.int .i64 (((k + 1) : Nat) : Int))).toNat < (boxesL bs l).length - (intOf (.int .i64 ((k : Nat) : Int))).toNat); simp only [intOf]; omega
end Go.Proofs.Ytnbfljcilojllaa
namespace Go.Proofs.Ytnbfljcilojllaa
open Go Go.RowKit Tw
theorem load_flat {W0 : Base} {p q r : Option Addr} {n c m d i j k : Nat} {t : Tl} {bs : List Bo} {l : List Sd} {b : Bool} {v : Value} {K' : List (Nat × Obj)} (h : LoadO W0 (.slice p n c) (.slice q m d) t k (.slice r i j) bs l b v K') (ht : OneT t) :
   ∃ p1 n1 c1 p2 n2 c2 tt p3 n3 c3 p4 n4 c4, v = .agg (ldC (.slice p1 n1 c1) (.slice p2 n2 c2) tt (.slice p3 n3 c3) (.slice p4 n4 c4)).toArray ∧ OneT tt := by
 rcases h with ⟨_, h, _⟩ | ⟨_, gp, ps, T, h, _⟩
 · exact ⟨_, _, _, _, _, _, tl0, _, _, _, _, _, _, h, tl0_one⟩
 · exact ⟨_, _, _, _, _, _, t, _, _, _, _, _, _, h, ht⟩
def LoadQ (b : Bool) (K : List (Nat × Obj)) (u : Value) (K2 : List (Nat × Obj)) : Prop :=
 (∃ p1 n1 c1 p2 n2 c2 tt p3 n3 c3 p4 n4 c4, u = .tuple #[.agg (ldC (.slice p1 n1 c1) (.slice p2 n2 c2) tt (.slice p3 n3 c3) (.slice p4 n4 c4)).toArray, .bool b] ∧ OneT tt) ∧ K2 = K
theorem loadq {W0 : Base} {p q r : Option Addr} {n c m d i j k : Nat} {t : Tl} {bs : List Bo} {l : List Sd} {b : Bool} {v : Value} {K' : List (Nat × Obj)} (h : LoadO W0 (.slice p n c) (.slice q m d) t k (.slice r i j) bs l b v K') (ht : OneT t) :
   ∃ p1 n1 c1 p2 n2 c2 tt p3 n3 c3 p4 n4 c4, Value.tuple #[v, .bool b] = .tuple #[.agg (ldC (.slice p1 n1 c1) (.slice p2 n2 c2) tt (.slice p3 n3 c3) (.slice p4 n4 c4)).toArray, .bool b] ∧ OneT tt := by
 obtain ⟨p1, n1, c1, p2, n2, c2, tt, p3, n3, c3, p4, n4, c4, e2, h2⟩ := load_flat h ht
 subst e2
 exact ⟨p1, n1, c1, p2, n2, c2, tt, p3, n3, c3, p4, n4, c4, rfl, h2⟩
set_option maxRecDepth 100000 in
set_option maxHeartbeats 4000000 in
theorem StRight_any (cs : List Col) (pc : Option Addr) (cc : Nat) (lc : cs.length ≤ 4000000000) (os : List Cov) (po : Option Addr) (co : Nat) (lo : os.length ≤ 4000000000) (t : Tl) (bs : List Bo) (bp : Option Addr) (bc : Nat) (hl : bs.length ≤ 4000000000) (l : List Sd) (lq : Option Addr) (ld : Nat) (hm : l.length ≤ 4000000000) (w : World) (hc : SLV w pc (cs.flatMap colC)) (ho : SLV w po (os.flatMap covC)) (hr : RwR w os) (lr : ∀ o ∈ os, o.rows.length ≤ 4000000000) (hq : PlR w cs) (lq2 : ∀ c ∈ cs, c.plugs.length ≤ 4000000000) (hp : SLV w bp (bs.flatMap boC)) (hs : SLV w lq (l.flatMap sdC)) (hot : OneT t) : Calls Try.prog 18 #[.agg (shC (.slice pc cs.length cc) (.slice po os.length co) t).toArray, .slice bp bs.length bc, .slice lq l.length ld] w fun e w' => e = .returned (.bool (loadX cs os bs l)) ∧ Below w.heap.size w w' := by
 have HC := Lib.hid hc
 clear hc
 have HO := Lib.hid ho
 clear ho
 have HR := Lib.hid hr
 clear hr
 have HQ := Lib.hid hq
 clear hq
 have HBs := Lib.hid hp
 clear hp
 have HL := Lib.hid hs
 clear hs
 have HOT := Lib.hid hot
 clear hot
 obtain ⟨hot0, hot1, hot2, hot3, hot4, hot5, hot6, hot7, hot8, hot9, hotA⟩ := HOT.out
 go_enter Try.func18, Try.ntmps18
 refine wp_seq ?_
 refine wp_region_L [] (KS.start w) ?_
 refine wpL_new (fun g => .pointer (some ⟨g, 0, none⟩)) (obi := .cells (shC (.slice pc cs.length cc) (.slice po os.length co) t).toArray 32 (0, 0)) rfl rfl Tw.kf Tw.pf fun g1 Bg1 Fg1 => ?_
 refine lm (v := .bool false) rfl rfl ?_
 refine wpL_done (fun W1 hW1 => ?_)
 change Code.wp ..
 refine wp_seq ?_
 refine wp_region_L _ hW1 ?_
 refine lv (v := .agg (shC (.slice pc cs.length cc) (.slice po os.length co) t).toArray) rfl rfl (yb_load (n := 13) (off := 0) rfl Tw.kr Tw.m0 Try.underlying32 rfl Tw.kr (by first | (simp [Value.cells]; done) | exact Nat.le_of_ble_eq_true rfl) Tw.kr) ?_
 refine lm (v := .slice bp bs.length bc) rfl rfl ?_
 refine lm (v := .slice lq l.length ld) rfl rfl ?_
 refine wpL_c (f := 44) (args := #[.agg (shC (.slice pc cs.length cc) (.slice po os.length co) t).toArray, .slice bp bs.length bc, .slice lq l.length ld]) (LoadQ (loadX cs os bs l) [(g1, .cells (shC (.slice pc cs.length cc) (.slice po os.length co) t).toArray 32 (0, 0))]) rfl Tw.kr Tw.kf (fun W hW => (load_any cs pc cc Tw.om os po co Tw.om t bs bp bc Tw.om l lq ld Tw.om W ((RL.base HC.out) _ (hW.sub (fun _ h => by cases h))) ((RL.base HO.out) _ (hW.sub (fun _ h => by cases h))) (HR.out.keep hW.1) lr (HQ.out.keep hW.1) lq2 ((RL.base HBs.out) _ (hW.sub (fun _ h => by cases h))) ((RL.base HL.out) _ (hW.sub (fun _ h => by cases h))) HOT.out).mono fun e w2 ⟨v, K2, he, hk, hL⟩ => ⟨_, _, he, KS.below hW hk.1, (loadq hL HOT.out), rfl⟩) Tw.pf ?_
 rintro _ _ ⟨⟨q1, n1, d1, q2, n2, d2, tq, q3, n3, d3, q4, n4, d4, rfl, hot0, hot1, hot2, hot3, hot4, hot5, hot6, hot7, hot8, hot9, hotA⟩, rfl⟩
 refine lm (v := .tuple #[.agg #[.slice q1 n1 d1, .slice q2 n2 d2, tq.a0, tq.a1, tq.a2, tq.a3, tq.a4, tq.a5, tq.a6, tq.a7, tq.a8, tq.a9, tq.aA, .slice q3 n3 d3, .slice q4 n4 d4], .bool (loadX cs os bs l)]) rfl rfl ?_
 refine lm (v := .agg #[.slice q1 n1 d1, .slice q2 n2 d2, tq.a0, tq.a1, tq.a2, tq.a3, tq.a4, tq.a5, tq.a6, tq.a7, tq.a8, tq.a9, tq.aA, .slice q3 n3 d3, .slice q4 n4 d4]) rfl rfl ?_
 refine lm (v := .bool (loadX cs os bs l)) rfl rfl ?_
 refine wpL_new (fun g => .pointer (some ⟨g, 0, none⟩)) (obi := .cells #[.slice none 0 0, .slice none 0 0, .int .i64 0, .int .i64 0, .int .i64 0, .int .i64 0, .slice none 0 0, .slice none 0 0, .slice none 0 0, .int .i64 0, .int .i64 0, .int .i64 0, .int .i64 0, .slice none 0 0, .slice none 0 0] 110 (0, 0)) rfl rfl Tw.kf Tw.pf fun g2 Bg2 Fg2 => ?_
 obtain dj3_0 : g1 ≠ g2 := Tw.dkf Fg2
 refine wpL_s [(g2, .cells #[.slice q1 n1 d1, .slice q2 n2 d2, tq.a0, tq.a1, tq.a2, tq.a3, tq.a4, tq.a5, tq.a6, tq.a7, tq.a8, tq.a9, tq.aA, .slice q3 n3 d3, .slice q4 n4 d4] 110 (0, 0)), (g1, .cells (shC (.slice pc cs.length cc) (.slice po os.length co) t).toArray 32 (0, 0))] rfl rfl (st_row (off := 0) (v := .agg #[.slice q1 n1 d1, .slice q2 n2 d2, tq.a0, tq.a1, tq.a2, tq.a3, tq.a4, tq.a5, tq.a6, tq.a7, tq.a8, tq.a9, tq.aA, .slice q3 n3 d3, .slice q4 n4 d4]) rfl Tw.kr Tw.kr Tw.m0 Bg2 Tw.kr (by first | (simp [Value.cells]; done) | exact Nat.le_of_ble_eq_true rfl) (by intro v hv; simp [Value.cells] at hv; first | (subst hv; rfl) | (rcases hv with rfl | rfl | rfl | rfl | rfl | rfl | rfl | rfl | rfl | rfl | rfl | rfl | rfl | rfl | rfl <;> first | rfl | assumption)) Tw.kr (List.forall_mem_cons.2 ⟨.inl rfl, (List.forall_mem_cons.2 ⟨.inr ⟨Tw.m1, Tw.nee⟩, (List.forall_mem_nil _)⟩)⟩)) ?_
 refine lm (v := .bool (loadX cs os bs l)) rfl rfl ?_
 refine wpL_done (fun W2 hW2 => ?_)
 change Code.wp ..
 refine wp_seq ?_
 refine wp_region_L _ hW2 ?_
 refine lm (v := .bool (loadX cs os bs l)) rfl rfl ?_
 refine lm (v := .bool (loadX cs os bs l)) rfl rfl ?_
 refine wpL_done (fun W3 hW3 => ?_)
 change Code.wp ..
 refine wp_ret ?_
 try simp only [inBlock_ret, then_ret]
 refine bodyPost_ret (v := .bool (loadX cs os bs l)) ?_ rfl ?_
 · kernel_rfl
 · exact ⟨rfl, hW3.1⟩
end Go.Proofs.Ytnbfljcilojllaa
namespace Go.Proofs.Ytnbfljcilojllaa
open Go Go.RowKit Tw
theorem slots_few {cs : List Col} {z : Nat} (hl : cs.length ≤ 1000) (ht : ∀ c ∈ cs, c.tiers ≤ 1000) : (slotsX cs z).length ≤ 2000000 := by
 have h1 : posT cs ≤ cs.length * 1000 := posT_le (m := 1000) ht
 have h2 := hsX_len z
 have h3 := Nat.mul_le_mul (Nat.le_trans h1 (Nat.mul_le_mul_right 1000 hl)) h2
 rw [slots_len]
 omega
theorem take_min {α : Type} {l : List α} {m : Nat} (h : min l.length 9 = m) : l.take 9 = l.take m := by
 rcases Nat.le_total l.length 9 with h1 | h1
 · rw [List.take_of_length_le h1, List.take_of_length_le Tw.om]
 · rw [show m = 9 by omega]
set_option maxRecDepth 100000 in
set_option maxHeartbeats 40000000 in
theorem Loaded_any (cs : List Col) (pc : Option Addr) (cc : Nat) (lc : cs.length ≤ 1000) (h0 : 0 < cs.length) (htm : ∀ c ∈ cs, c.tiers ≤ 1000) (os : List Cov) (po : Option Addr) (co : Nat) (lo : os.length ≤ 4000000000) (t : Tl) (ds : List Dp) (dp : Option Addr) (dc : Nat) (ld : ds.length ≤ 9223372036854775807) (hdc : ds.length ≤ dc) (hd8 : ∀ d ∈ ds, d.col ≤ 255 ∧ d.kil ≤ 255) (w : World) (hc : SLV w pc (cs.flatMap colC)) (ho : SLV w po (os.flatMap covC)) (hr : RwR w os) (lr : ∀ o ∈ os, o.rows.length ≤ 4000000000) (hq : PlR w cs) (lq2 : ∀ c ∈ cs, c.plugs.length ≤ 4000000000) (hd : SLV w dp (ds.flatMap dpC)) (hot : OneT t) : Calls Try.prog 35 #[.agg (shC (.slice pc cs.length cc) (.slice po os.length co) t).toArray, .slice dp ds.length dc, .int .i64 9] w fun e w' => ∃ v1 v2 Kb Ks, e = .returned (.tuple #[v1, v2]) ∧ KS (w : Base) (Kb ++ Ks) w' ∧ OwnL (w : Base) 37 9 v1 (loadedX cs os ds).1.length ((loadedX cs os ds).1.flatMap boC) Kb ∧ OwnL (w : Base) 42 4 v2 (loadedX cs os ds).2.length ((loadedX cs os ds).2.flatMap sdC) Ks ∧ Dj Kb Ks := by
 have HC := Lib.hid hc
 clear hc
 have HO := Lib.hid ho
 clear ho
 have HR := Lib.hid hr
 clear hr
 have HQ := Lib.hid hq
 clear hq
 have HD := Lib.hid hd
 clear hd
 have HOT := Lib.hid hot
 clear hot
 obtain ⟨hot0, hot1, hot2, hot3, hot4, hot5, hot6, hot7, hot8, hot9, hotA⟩ := HOT.out
 obtain ⟨ms, hms⟩ : ∃ n, min ds.length 9 = n := ⟨_, rfl⟩
 have hm9 : ms ≤ 9 := by omega
 have hmd : ms ≤ ds.length := by omega
 have hml : (ds.take ms).length = ms := by rw [List.length_take]; omega
 go_enter Try.func35, Try.ntmps35
 refine wp_seq ?_
 refine wp_region_L [] (KS.start w) ?_
 refine wpL_new (fun g => .pointer (some ⟨g, 0, none⟩)) (obi := .cells (shC (.slice pc cs.length cc) (.slice po os.length co) t).toArray 32 (0, 0)) rfl rfl Tw.kf Tw.pf fun g1 Bg1 Fg1 => ?_
 refine lm (v := .slice none 0 0) rfl rfl ?_
 refine lm (v := .slice none 0 0) rfl rfl ?_
 refine wpL_done (fun W1 hW1 => ?_)
 change Code.wp ..
 refine wp_seq ?_
 refine wp_region_L _ hW1 ?_
 refine lm (v := .slice none 0 0) rfl rfl ?_
 refine wpL_done (fun W2 hW2 => ?_)
 change Code.wp ..
 refine wp_seq ?_
 refine wp_region_L _ hW2 ?_
 refine lm (v := .slice none 0 0) rfl rfl ?_
 refine wpL_done (fun W3 hW3 => ?_)
 change Code.wp ..
 refine wp_seq ?_
 refine wp_seq ?_
 refine wp_region_L _ hW3 ?_
 refine lm (v := .slice dp ds.length dc) rfl rfl ?_
 refine lm (v := .slice dp ds.length dc) rfl rfl ?_
 refine lp (v := .int .i64 ((ds.length : Nat) : Int)) rfl rfl (run_lenL (p := dp) (cap := dc) (n := ds.length) rfl Try.underlying53 Tw.kr) ?_
 refine lm (v := .int .i64 9) rfl rfl ?_
 refine lp (v := .int .i64 ((ms : Nat) : Int)) rfl rfl (run_min2 (x := ((ds.length : Nat) : Int)) (y := 9) (z := ((ms : Nat) : Int)) rfl Tw.kr Tw.kr (by rw [← hms]; omega)) ?_
 refine lp (v := .slice dp ms dc) rfl rfl (run_slt (kd := .i64) (j := ms) (n := ds.length) (c := dc) (sz := 4) rfl Try.underlying53 Tw.kr Tw.kr Tw.kr Tw.om) ?_
 refine lp (v := .int .i64 ((ms : Nat) : Int)) rfl rfl (run_lenL (p := dp) (cap := dc) (n := ms) rfl Try.underlying53 Tw.kr) ?_
 refine lm (v := .int .i64 0) rfl rfl ?_
 refine wpL_done (fun W4 hW4 => ?_)
 change Code.wp ..
 refine wp_block ?_
 go_loopw [23, 8, 9] (fun u23 u8 u9 wr => ∃ (k : Nat) (bs : List Bo) (pB : Option Addr) (cB : Nat) (st : List Sd) (pS : Option Addr) (cS : Nat) (KB KS_ : List (Nat × Obj)), (k ≤ ms) ∧ (bs.length = k) ∧ (st.length ≤ k) ∧ (OwnL w 37 9 (.slice pB bs.length cB) bs.length (bs.flatMap boC) KB) ∧ (RL boC w pB bs KB) ∧ (OwnL w 42 4 (.slice pS st.length cS) st.length (st.flatMap sdC) KS_) ∧ (RL sdC w pS st KS_) ∧ (loadedF cs os 0 [] [] (ds.take ms) = loadedF cs os k bs st ((ds.take ms).drop k)) ∧ (Dk g1 KB) ∧ (Dk g1 KS_) ∧ (Dj KB KS_) ∧ u23 = .int .i64 ((k : Nat) : Int) ∧ .slice pB bs.length cB = u8 ∧ .slice pS st.length cS = u9 ∧ KS w ((g1, .cells (shC (.slice pc cs.length cc) (.slice po os.length co) t).toArray 32 (0, 0)) :: (KB ++ KS_)) wr) (fun u23 _ _ _ => ms - (intOf u23).toNat)
 case atStart => exact ⟨0, [], none, 0, [], none, 0, [], [], (Nat.zero_le _), rfl, (Nat.le_refl _), (OwnL.nil _ _ _), (RL.nil (T := [])), (OwnL.nil _ _ _), (RL.nil (T := [])), rfl, (show Dk g1 [] from Tw.djt), (show Dk g1 [] from Tw.djt), (show Dj [] [] from Tw.djt), rfl, rfl, rfl, (hW4.sub (fun p hp => by first | exact hp | (simp only [List.mem_cons, List.mem_append, List.nil_append, List.not_mem_nil, or_assoc, or_false, false_or] at hp ⊢ <;> grind)))⟩
 case round =>
   obtain ⟨k, bs, pB, cB, st, pS, cS, KB, KS_, hk, hbl, hsl, hOB, hRB, hOS, hRS, hLd, dh2_0, dh2_1, dh2_2, rfl, rfl, rfl, hL5⟩ := hrel
   refine wp_seq ?_
   refine wp_region_L _ hL5 ?_
   refine lp (v := .bool (decide (k < ms))) rfl rfl (run_bin rfl (vx := (.int .i64 ((k : Nat) : Int))) (vy := (.int .i64 ((ms : Nat) : Int))) Tw.kr Tw.kr fun w => bn_lss rfl w) ?_
   refine wpL_done (fun W6 hW6 => ?_)
   change Code.wp ..
   refine wp_seq ?_
   cases hd1 : (decide (k < ms)) with
   | false =>
     have h1 : ¬ (k < ms) := of_decide_eq_false hd1
     clear hd1
     refine wp_cond_false rfl ?_
     refine wp_exit ?_
     change Code.wp ..
     refine wp_seq ?_
     have hfin : (loadedX cs os ds) = (bs, st) := by unfold loadedX; rw [show ds.take 9 = (ds.take ms) from take_min hms, hLd]; exact loadedF_end Tw.om
     refine wp_region_L _ hW6 ?_
     refine lm (v := .slice pB bs.length cB) rfl rfl ?_
     refine lm (v := .slice pS st.length cS) rfl rfl ?_
     refine lm (v := .slice pB bs.length cB) rfl rfl ?_
     refine lm (v := .slice pS st.length cS) rfl rfl ?_
     refine wpL_done (fun W7 hW7 => ?_)
     change Code.wp ..
     refine wp_ret ?_
     try simp only [inBlock_ret, then_ret]
     refine bodyPost_ret (v := .tuple #[.slice pB bs.length cB, .slice pS st.length cS]) ?_ rfl ?_
     · kernel_rfl
     · exact ⟨_, _, KB, KS_, rfl, hW7.sub (fun p hp => by simp only [List.mem_cons, List.mem_append, List.nil_append, List.not_mem_nil, or_assoc, or_false, false_or] at hp ⊢; grind), (by rw [hfin]; exact hOB), (by rw [hfin]; exact hOS), (show Dj KB KS_ from Tw.djt)⟩
   | true =>
     have h1 : k < ms := of_decide_eq_true hd1
     clear hd1
     refine wp_cond_true rfl ?_
     refine wp_skip ?_
     change Code.wp ..
     refine wp_seq ?_
     refine wp_block ?_
     refine wp_seq ?_
     refine wp_region_L _ hW6 ?_
     refine lm (v := .int .i64 ((k : Nat) : Int)) rfl rfl ?_
     obtain ⟨y3, g3_, f3_, hy3, hp3, hc3⟩ := RL.at ((RL.base HD.out).take dpC_len ms) dpC_len (by decide) (hW6.sub (fun _ h => by cases h)) (k := k) Tw.om
     obtain ⟨hd83, hk83⟩ := hd8 y3 (List.mem_of_mem_take (List.mem_of_getElem? hy3))
     refine lp (v := .pointer (some ⟨g3_, f3_ + k * 4, none⟩)) rfl rfl (run_idxQ (p := dp) (cap := dc) (n := ms) (j := .i64) (k := k) (sz := 4) rfl Try.underlying53 Tw.kr Tw.kr hp3 Tw.kr Tw.om) ?_
     refine lv (v := .agg (dpC y3).toArray) rfl rfl (yb_rs (off := f3_ + k * 4) (cs := dpC y3) rfl Tw.kr (fun W hW => hc3 W (hW.sub (fun _ h => by cases h))) Try.underlying131 rfl Tw.kr) ?_
     refine wpL_new (fun g => .pointer (some ⟨g, 0, none⟩)) (obi := .cells #[.int .u8 0, .int .u8 0, .bool false, .bool false] 131 (0, 0)) rfl rfl Tw.kf Tw.pf fun g4 Bg4 Fg4 => ?_
     obtain ⟨dj5_0, dj5_1, dj5_2⟩ : g1 ≠ g4 ∧ Dk g4 KB ∧ Dk g4 KS_ := Tw.dkf Fg4
     refine lm (v := .int .i64 ((k : Nat) : Int)) rfl rfl ?_
     refine wpL_s ((g4, .cells (dpC y3).toArray 131 (0, 0)) :: (g1, .cells (shC (.slice pc cs.length cc) (.slice po os.length co) t).toArray 32 (0, 0)) :: (KB ++ KS_)) rfl rfl (st_row (off := 0) (v := .agg (dpC y3).toArray) rfl Tw.kr Tw.kr Tw.m0 Bg4 Tw.kr (by first | (simp [Value.cells]; done) | exact Nat.le_of_ble_eq_true rfl) (fun v hv => dpC_one y3 v hv) Tw.kr (List.forall_mem_cons.2 ⟨.inl rfl, (List.forall_mem_cons.2 ⟨.inr ⟨Tw.m1, Tw.nee⟩, (fun p hp => .inr ⟨(.tail _ (.tail _ hp)), ((show Dk g4 (KB ++ KS_) from Tw.djt) _ hp)⟩)⟩)⟩)) ?_
     refine wpL_done (fun W8 hW8 => ?_)
     change Code.wp ..
     refine wp_seq ?_
     refine wp_region_L _ hW8 ?_
     refine lm (v := .int .i64 ((k : Nat) : Int)) rfl rfl ?_
     refine lp (v := .int .i64 (((k + 1) : Nat) : Int)) rfl rfl (run_bin rfl (vx := (.int .i64 ((k : Nat) : Int))) (vy := (.int .i64 ((1 : Nat) : Int))) Tw.kr Tw.kr fun w => bn_add (z := (k + 1)) rfl (wr_i64 Tw.om) w) ?_
     refine lp (v := .int .i64 (((5 * (k + 1)) : Nat) : Int)) rfl rfl (run_bin rfl (vx := (.int .i64 ((5 : Nat) : Int))) (vy := (.int .i64 (((k + 1) : Nat) : Int))) Tw.kr Tw.kr fun w => bn_mul (z := (5 * (k + 1))) rfl (wr_i64 Tw.om) w) ?_
     refine lm (v := .pointer (some ⟨g4, 3, none⟩)) rfl rfl ?_
     refine lv (v := .bool y3.high) rfl rfl (yb_cell (off := 3) rfl Tw.kr Tw.m0 Try.underlying4 rfl Tw.kr) ?_
     refine lm (v := .pointer (some ⟨g4, 1, none⟩)) rfl rfl ?_
     refine lv (v := .int .u8 ((y3.kil : Nat) : Int)) rfl rfl (yb_cell (off := 1) rfl Tw.kr Tw.m0 Try.underlying5 rfl Tw.kr) ?_
     refine lp (v := .int .i64 ((y3.kil : Nat) : Int)) rfl rfl (run_conv rfl (vx := (.int .u8 ((y3.kil : Nat) : Int))) Tw.kr fun w => cv_int Try.underlying5 Try.underlying3 (wr_i64 Tw.om) w) ?_
     refine lp (v := .int .i64 (((100 * y3.kil) : Nat) : Int)) rfl rfl (run_bin rfl (vx := (.int .i64 ((100 : Nat) : Int))) (vy := (.int .i64 ((y3.kil : Nat) : Int))) Tw.kr Tw.kr fun w => bn_mul (z := (100 * y3.kil)) rfl (wr_i64 Tw.om) w) ?_
     refine lp (v := .int .i64 (((1000 + (100 * y3.kil)) : Nat) : Int)) rfl rfl (run_bin rfl (vx := (.int .i64 ((1000 : Nat) : Int))) (vy := (.int .i64 (((100 * y3.kil) : Nat) : Int))) Tw.kr Tw.kr fun w => bn_add (z := (1000 + (100 * y3.kil))) rfl (wr_i64 Tw.om) w) ?_
     refine lm (v := .agg #[.int .i64 (((5 * (k + 1)) : Nat) : Int), strV [], .int .u8 40, .bool y3.high, .int .i64 (((1000 + (100 * y3.kil)) : Nat) : Int), .int .i64 0, .int .i64 1, .int .u8 0, .bool false]) rfl rfl ?_
     refine wpL_new (fun g => .pointer (some ⟨g, 0, none⟩)) (obi := .cells #[.int .i64 0, strV [], .int .u8 0, .bool false, .int .i64 0, .int .i64 0, .int .i64 0, .int .u8 0, .bool false] 37 (0, 0)) rfl rfl Tw.kf Tw.pf fun g6 Bg6 Fg6 => ?_
     obtain ⟨dj7_0, dj7_1, dj7_2, dj7_3⟩ : g4 ≠ g6 ∧ g1 ≠ g6 ∧ Dk g6 KB ∧ Dk g6 KS_ := Tw.dkf Fg6
     refine wpL_s ((g6, .cells #[.int .i64 (((5 * (k + 1)) : Nat) : Int), strV [], .int .u8 40, .bool y3.high, .int .i64 (((1000 + (100 * y3.kil)) : Nat) : Int), .int .i64 0, .int .i64 1, .int .u8 0, .bool false] 37 (0, 0)) :: (g4, .cells (dpC y3).toArray 131 (0, 0)) :: (g1, .cells (shC (.slice pc cs.length cc) (.slice po os.length co) t).toArray 32 (0, 0)) :: (KB ++ KS_)) rfl rfl (st_row (off := 0) (v := .agg #[.int .i64 (((5 * (k + 1)) : Nat) : Int), strV [], .int .u8 40, .bool y3.high, .int .i64 (((1000 + (100 * y3.kil)) : Nat) : Int), .int .i64 0, .int .i64 1, .int .u8 0, .bool false]) rfl Tw.kr Tw.kr Tw.m0 Bg6 Tw.kr (by first | (simp [Value.cells]; done) | exact Nat.le_of_ble_eq_true rfl) (by intro v hv; simp [Value.cells] at hv; first | (subst hv; rfl) | (rcases hv with rfl | rfl | rfl | rfl | rfl | rfl | rfl | rfl | rfl <;> rfl)) Tw.kr (List.forall_mem_cons.2 ⟨.inl rfl, (List.forall_mem_cons.2 ⟨.inr ⟨Tw.m1, Tw.nee⟩, (List.forall_mem_cons.2 ⟨.inr ⟨Tw.m2, Tw.nee⟩, (fun p hp => .inr ⟨(.tail _ (.tail _ (.tail _ hp))), ((show Dk g6 (KB ++ KS_) from Tw.djt) _ hp)⟩)⟩)⟩)⟩)) ?_
     refine wpL_done (fun W9 hW9 => ?_)
     change Code.wp ..
     refine wp_joins (fun az wz => (True) ∧ JoinR (fun zq => List.toArray ((.agg (shC (.slice pc cs.length cc) (.slice po os.length co) t).toArray) :: (.slice dp ds.length dc) :: (.int .i64 9) :: (.pointer (some ⟨g1, 0, none⟩)) :: undef :: undef :: (.slice none 0 0) :: (.slice none 0 0) :: (.slice pB bs.length cB) :: (.slice pS st.length cS) :: (.int .i64 ((k : Nat) : Int)) :: (.pointer (some ⟨g4, 0, none⟩)) :: (.pointer (some ⟨g6, 0, none⟩)) :: undef :: zq 14 :: zq 15 :: (.slice dp ds.length dc) :: (.slice dp ds.length dc) :: (.int .i64 ((ds.length : Nat) : Int)) :: (.int .i64 9) :: (.int .i64 ((ms : Nat) : Int)) :: (.slice dp ms dc) :: (.int .i64 ((ms : Nat) : Int)) :: (.int .i64 ((k : Nat) : Int)) :: (.bool true) :: (.int .i64 ((k : Nat) : Int)) :: (.pointer (some ⟨g3_, f3_ + k * 4, none⟩)) :: (.agg (dpC y3).toArray) :: (.int .i64 ((k : Nat) : Int)) :: (.int .i64 (((k + 1) : Nat) : Int)) :: (.int .i64 (((5 * (k + 1)) : Nat) : Int)) :: (.pointer (some ⟨g4, 3, none⟩)) :: (.bool y3.high) :: (.pointer (some ⟨g4, 1, none⟩)) :: (.int .u8 ((y3.kil : Nat) : Int)) :: (.int .i64 ((y3.kil : Nat) : Int)) :: (.int .i64 (((100 * y3.kil) : Nat) : Int)) :: (.int .i64 (((1000 + (100 * y3.kil)) : Nat) : Int)) :: (.agg #[.int .i64 (((5 * (k + 1)) : Nat) : Int), strV [], .int .u8 40, .bool y3.high, .int .i64 (((1000 + (100 * y3.kil)) : Nat) : Int), .int .i64 0, .int .i64 1, .int .u8 0, .bool false]) :: zq 39 :: zq 40 :: zq 41 :: zq 42 :: zq 43 :: zq 44 :: zq 45 :: zq 46 :: zq 47 :: zq 48 :: zq 49 :: zq 50 :: zq 51 :: zq 52 :: zq 53 :: zq 54 :: zq 55 :: zq 56 :: zq 57 :: zq 58 :: zq 59 :: zq 60 :: zq 61 :: zq 62 :: zq 63 :: zq 64 :: zq 65 :: zq 66 :: zq 67 :: zq 68 :: zq 69 :: zq 70 :: zq 71 :: zq 72 :: zq 73 :: zq 74 :: zq 75 :: zq 76 :: zq 77 :: zq 78 :: zq 79 :: zq 80 :: zq 81 :: zq 82 :: zq 83 :: undef :: undef :: [])) w ((g6, .cells (boC (boxD k y3)).toArray 37 (0, 0)) :: (g4, .cells (dpC y3).toArray 131 (0, 0)) :: (g1, .cells (shC (.slice pc cs.length cc) (.slice po os.length co) t).toArray 32 (0, 0)) :: (KB ++ KS_)) az wz) 1 ?_ ?_
     · change Code.wp ..
       refine wp_seq ?_
       refine wp_region_L _ hW9 ?_
       refine lm (v := .pointer (some ⟨g4, 2, none⟩)) rfl rfl ?_
       refine lv (v := .bool y3.small) rfl rfl (yb_cell (off := 2) rfl Tw.kr Tw.m1 Try.underlying4 rfl Tw.kr) ?_
       refine wpL_done (fun W10 hW10 => ?_)
       change Code.wp ..
       cases h2 : y3.small with
       | false =>
         refine wp_cond_false rfl ?_
         refine wp_skip ?_
         have eb : boC (boxD k y3) = boC _ := congrArg boC (boxD_big (i := k) h2)
         rw [show #[.int .i64 (((5 * (k + 1)) : Nat) : Int), strV [], .int .u8 40, .bool y3.high, .int .i64 (((1000 + (100 * y3.kil)) : Nat) : Int), .int .i64 0, .int .i64 1, .int .u8 0, .bool false] = (boC (boxD k y3)).toArray from by rw [eb]; rfl] at hW10
         exact ⟨trivial, join_mk Tw.kr (hW10.sub (fun p hp => by first | exact hp | (simp only [List.mem_cons, List.mem_append, List.nil_append, List.not_mem_nil, or_assoc, or_false, false_or] at hp ⊢ <;> grind)))⟩
       | true =>
         refine wp_cond_true rfl ?_
         refine wp_region_L _ hW10 ?_
         refine lm (v := .pointer (some ⟨g6, 2, none⟩)) rfl rfl ?_
         refine wpL_s ((g6, .cells #[.int .i64 (((5 * (k + 1)) : Nat) : Int), strV [], .int .u8 20, .bool y3.high, .int .i64 (((1000 + (100 * y3.kil)) : Nat) : Int), .int .i64 0, .int .i64 1, .int .u8 0, .bool false] 37 (0, 0)) :: (g4, .cells (dpC y3).toArray 131 (0, 0)) :: (g1, .cells (shC (.slice pc cs.length cc) (.slice po os.length co) t).toArray 32 (0, 0)) :: (KB ++ KS_)) rfl rfl (st_row (off := 2) (v := .int .u8 20) rfl Tw.kr Tw.kr Tw.m0 Bg6 Tw.kr (by first | (simp [Value.cells]; done) | exact Nat.le_of_ble_eq_true rfl) (by intro v hv; simp [Value.cells] at hv; first | (subst hv; rfl) | (rcases hv with rfl <;> rfl)) Tw.kr (List.forall_mem_cons.2 ⟨.inl rfl, (List.forall_mem_cons.2 ⟨.inr ⟨Tw.m1, Tw.nee⟩, (List.forall_mem_cons.2 ⟨.inr ⟨Tw.m2, Tw.nee⟩, (fun p hp => .inr ⟨(.tail _ (.tail _ (.tail _ hp))), ((show Dk g6 (KB ++ KS_) from Tw.djt) _ hp)⟩)⟩)⟩)⟩)) ?_
         refine lm (v := .pointer (some ⟨g6, 3, none⟩)) rfl rfl ?_
         refine wpL_s ((g6, .cells #[.int .i64 (((5 * (k + 1)) : Nat) : Int), strV [], .int .u8 20, .bool false, .int .i64 (((1000 + (100 * y3.kil)) : Nat) : Int), .int .i64 0, .int .i64 1, .int .u8 0, .bool false] 37 (0, 0)) :: (g4, .cells (dpC y3).toArray 131 (0, 0)) :: (g1, .cells (shC (.slice pc cs.length cc) (.slice po os.length co) t).toArray 32 (0, 0)) :: (KB ++ KS_)) rfl rfl (st_row (off := 3) (v := .bool false) rfl Tw.kr Tw.kr Tw.m0 Bg6 Tw.kr (by first | (simp [Value.cells]; done) | exact Nat.le_of_ble_eq_true rfl) (by intro v hv; simp [Value.cells] at hv; first | (subst hv; rfl) | (rcases hv with rfl <;> rfl)) Tw.kr (List.forall_mem_cons.2 ⟨.inl rfl, (List.forall_mem_cons.2 ⟨.inr ⟨Tw.m1, Tw.nee⟩, (List.forall_mem_cons.2 ⟨.inr ⟨Tw.m2, Tw.nee⟩, (fun p hp => .inr ⟨(.tail _ (.tail _ (.tail _ hp))), ((show Dk g6 (KB ++ KS_) from Tw.djt) _ hp)⟩)⟩)⟩)⟩)) ?_
         refine wpL_done (fun W11 hW11 => ?_)
         have eb : boC (boxD k y3) = boC _ := congrArg boC (boxD_small (i := k) h2)
         rw [show #[.int .i64 (((5 * (k + 1)) : Nat) : Int), strV [], .int .u8 20, .bool false, .int .i64 (((1000 + (100 * y3.kil)) : Nat) : Int), .int .i64 0, .int .i64 1, .int .u8 0, .bool false] = (boC (boxD k y3)).toArray from by rw [eb]; rfl] at hW11
         exact ⟨trivial, join_mk Tw.kr (hW11.sub (fun p hp => by first | exact hp | (simp only [List.mem_cons, List.mem_append, List.nil_append, List.not_mem_nil, or_assoc, or_false, false_or] at hp ⊢ <;> grind)))⟩
     · rintro a1 W1j ⟨htriv, ⟨zx1, rfl⟩, hW1j⟩
       dsimp only [cutT]
       refine wp_seq ?_
       refine wp_region_L _ hW1j ?_
       refine lm (v := .slice pB bs.length cB) rfl rfl ?_
       refine lv (v := .agg (boC (boxD k y3)).toArray) rfl rfl (yb_load (n := 9) (off := 0) rfl Tw.kr Tw.m0 Try.underlying37 rfl Tw.kr (by first | (simp [Value.cells]; done) | exact Nat.le_of_ble_eq_true rfl) Tw.kr) ?_
       refine wpL_new (fun g => .slice (some ⟨g, 0, none⟩) 1 1) (obi := .cells (boC (boxD k y3)).toArray 37 (0, 0)) rfl rfl Tw.kf Tw.pf fun g8 Bg8 Fg8 => ?_
       obtain ⟨dj9_0, dj9_1, dj9_2, dj9_3, dj9_4⟩ : g6 ≠ g8 ∧ g4 ≠ g8 ∧ g1 ≠ g8 ∧ Dk g8 KB ∧ Dk g8 KS_ := Tw.dkf Fg8
       refine wpL_g (AppO w 37 9 ((g6, .cells (boC (boxD k y3)).toArray 37 (0, 0)) :: (g4, .cells (dpC y3).toArray 131 (0, 0)) :: (g1, .cells (shC (.slice pc cs.length cc) (.slice po os.length co) t).toArray 32 (0, 0)) :: KS_) (bs.length + 1) ((bs.flatMap boC) ++ [.int .i64 ((boxD k y3).id), strV ((boxD k y3).num), .int .u8 ((((boxD k y3).size) : Nat) : Int), .bool (boxD k y3).high, .int .i64 ((boxD k y3).kilos), .int .i64 ((boxD k y3).load), .int .i64 ((boxD k y3).dis), .int .u8 ((((boxD k y3).cls) : Nat) : Int), .bool (boxD k y3).rf])) rfl rfl (app_own el_bo (m := 1) (c := 1) (news := [.int .i64 ((boxD k y3).id), strV ((boxD k y3).num), .int .u8 ((((boxD k y3).size) : Nat) : Int), .bool (boxD k y3).high, .int .i64 ((boxD k y3).kilos), .int .i64 ((boxD k y3).load), .int .i64 ((boxD k y3).dis), .int .u8 ((((boxD k y3).cls) : Nat) : Int), .bool (boxD k y3).rf]) rfl Tw.kr Tw.kr Tw.m0 hOB Tw.sc (fun p hp => ⟨by simp only [List.mem_cons, List.mem_append, List.nil_append, List.not_mem_nil, or_assoc, or_false, false_or] at hp ⊢ <;> grind, (show Dj ((g6, .cells (boC (boxD k y3)).toArray 37 (0, 0)) :: (g4, .cells (dpC y3).toArray 131 (0, 0)) :: (g1, .cells (shC (.slice pc cs.length cc) (.slice po os.length co) t).toArray 32 (0, 0)) :: KS_) KB from Tw.djt) p hp⟩) rfl (by simp [strV, Value.oneCell']) Tw.om Tw.om Tw.om) Tw.pf ?_
       rintro v10 K9 ⟨Kl10, O10, N10, rfl⟩
       obtain ⟨dj11_0, dj11_1, dj11_2, dj11_3⟩ : Dk g6 Kl10 ∧ Dk g4 Kl10 ∧ Dk g1 Kl10 ∧ Dj KS_ Kl10 := Tw.djf N10
       refine lm (v := v10) rfl rfl ?_
       refine wpL_done (fun W12 hW12 => ?_)
       change Code.wp ..
       refine wp_seq ?_
       have hq12 := own_app (cells := boC) (l' := (bs ++ [boxD k y3])) O10 (by rw [List.flatMap_append]; rfl) (by simp only [List.length_append, List.length_nil, List.length_cons] <;> omega)
       obtain ⟨bsN, hbsN⟩ : ∃ x, (bs ++ [boxD k y3]) = x := ⟨_, rfl⟩
       rw [hbsN] at hq12
       have lbsN : bsN.length = k + 1 := by rw [← hbsN]; simp only [List.length_append, List.length_nil, List.length_cons] <;> omega
       obtain ⟨p12, c12, rfl, n12, R12⟩ := own_rl hq12
       refine wp_region_L _ hW12 ?_
       refine lv (v := .agg (shC (.slice pc cs.length cc) (.slice po os.length co) t).toArray) rfl rfl (yb_load (n := 13) (off := 0) rfl Tw.kr Tw.m2 Try.underlying32 rfl Tw.kr (by first | (simp [Value.cells]; done) | exact Nat.le_of_ble_eq_true rfl) Tw.kr) ?_
       refine lm (v := .pointer (some ⟨g6, 2, none⟩)) rfl rfl ?_
       refine lv (v := .int .u8 ((((boxD k y3).size) : Nat) : Int)) rfl rfl (yb_cell (off := 2) rfl Tw.kr Tw.m0 Try.underlying5 rfl Tw.kr) ?_
       refine wpL_c (f := 36) (args := #[.agg (shC (.slice pc cs.length cc) (.slice po os.length co) t).toArray, .int .u8 ((((boxD k y3).size) : Nat) : Int)]) (OutRL sltC w ((g6, .cells (boC (boxD k y3)).toArray 37 (0, 0)) :: (g4, .cells (dpC y3).toArray 131 (0, 0)) :: (g1, .cells (shC (.slice pc cs.length cc) (.slice po os.length co) t).toArray 32 (0, 0)) :: (KS_ ++ Kl10)) (slotsX cs ((boxD k y3).size))) rfl Tw.kr Tw.kf (fun W hW => calls_r hW (All_any cs pc cc lc os po co Tw.om t htm ((boxD k y3).size) W ((RL.base HC.out) _ (hW.sub (fun _ h => by cases h))) ((RL.base HO.out) _ (hW.sub (fun _ h => by cases h))))) Tw.pf ?_
       rintro _ _ ⟨p13, c13, Kl13, rfl, n13, R13, N13, rfl⟩
       obtain ⟨dj14_0, dj14_1, dj14_2, dj14_3, dj14_4⟩ : Dk g6 Kl13 ∧ Dk g4 Kl13 ∧ Dk g1 Kl13 ∧ Dj KS_ Kl13 ∧ Dj Kl10 Kl13 := Tw.djf N13
       refine wpL_sub (K2 := ((g6, .cells (boC (boxD k y3)).toArray 37 (0, 0)) :: (g4, .cells (dpC y3).toArray 131 (0, 0)) :: (g1, .cells (shC (.slice pc cs.length cc) (.slice po os.length co) t).toArray 32 (0, 0)) :: (KS_ ++ (Kl10 ++ Kl13)))) (fun p hp => by simp only [List.mem_cons, List.mem_append, or_assoc] at hp ⊢; exact hp) ?_
       refine lp (v := .int .i64 ((((slotsX cs ((boxD k y3).size)).length) : Nat) : Int)) rfl rfl (run_lenL (p := p13) (cap := c13) (n := (slotsX cs ((boxD k y3).size)).length) rfl Try.underlying56 Tw.kr) ?_
       refine lm (v := .int .i64 0) rfl rfl ?_
       refine wpL_done (fun W13 hW13 => ?_)
       change Code.wp ..
       refine wp_block ?_
       obtain ⟨xs, hxs⟩ : ∃ x, (slotsX cs ((boxD k y3).size)) = x := ⟨_, rfl⟩
       have hXl : xs.length ≤ 2000000 := by rw [← hxs]; exact slots_few Tw.om htm
       have hXe : (slotsX cs ((boxD k y3).size)).length = xs.length := by rw [hxs]
       have hRX : RL sltC w p13 xs Kl13 := by rw [← hxs]; exact R13
       go_loopw [52, 9] (fun u52 u9 wr => ∃ (j : Nat), (j ≤ xs.length) ∧ (tryS cs os bsN st (boxD k y3).id ((y3.col % cs.length : Nat) : Int) (xs.drop j) = tryS cs os bsN st (boxD k y3).id ((y3.col % cs.length : Nat) : Int) xs) ∧ u52 = .int .i64 ((j : Nat) : Int) ∧ .slice pS st.length cS = u9 ∧ KS w ((g6, .cells (boC (boxD k y3)).toArray 37 (0, 0)) :: (g4, .cells (dpC y3).toArray 131 (0, 0)) :: (g1, .cells (shC (.slice pc cs.length cc) (.slice po os.length co) t).toArray 32 (0, 0)) :: (KS_ ++ (Kl10 ++ Kl13))) wr) (fun u52 _ _ => xs.length - (intOf u52).toNat)
       case atStart => exact ⟨0, (Nat.zero_le _), rfl, rfl, rfl, (hW13.sub (fun p hp => by first | exact hp | (simp only [List.mem_cons, List.mem_append, List.nil_append, List.not_mem_nil, or_assoc, or_false, false_or] at hp ⊢ <;> grind)))⟩
       case round =>
         obtain ⟨j, hj, hTr, rfl, rfl, hL14⟩ := hrel
         refine wp_seq ?_
         refine wp_region_L _ hL14 ?_
         refine lp (v := .bool (decide (j < ((slotsX cs ((boxD k y3).size)).length)))) rfl rfl (run_bin rfl (vx := (.int .i64 ((j : Nat) : Int))) (vy := (.int .i64 ((((slotsX cs ((boxD k y3).size)).length) : Nat) : Int))) Tw.kr Tw.kr fun w => bn_lss rfl w) ?_
         refine wpL_done (fun W15 hW15 => ?_)
         change Code.wp ..
         refine wp_seq ?_
         cases hd3 : (decide (j < ((slotsX cs ((boxD k y3).size)).length))) with
         | false =>
           have h3 : ¬ (j < ((slotsX cs ((boxD k y3).size)).length)) := of_decide_eq_false hd3
           clear hd3
           refine wp_cond_false rfl ?_
           refine wp_exit ?_
           change Code.wp ..
           refine wp_region_L _ hW15 ?_
           refine lp (v := .int .i64 (((k + 1) : Nat) : Int)) rfl rfl (run_bin rfl (vx := (.int .i64 ((k : Nat) : Int))) (vy := (.int .i64 ((1 : Nat) : Int))) Tw.kr Tw.kr fun w => bn_add (z := (k + 1)) rfl (wr_i64 Tw.om) w) ?_
           refine lm (v := .int .i64 (((k + 1) : Nat) : Int)) rfl rfl ?_
           refine wpL_done (fun W16 hW16 => ?_)
           go_roundw
           case rel =>
             repeat apply Exists.intro
             exact ⟨⟨k + 1, bsN, p12, c12, st, pS, cS, Kl10, KS_, Tw.om, lbsN, Tw.om, hq12, R12, hOS, hRS, (by rw [hLd, loadedF_step hy3, hbsN, hxs, ← hTr, tryS_end (xs := xs) (by rw [← hXe]; exact h3)]), (show Dk g1 Kl10 from Tw.djt), (show Dk g1 KS_ from Tw.djt), (show Dj Kl10 KS_ from Tw.djt), rfl, rfl, rfl, (hW16.sub (fun p hp => by first | exact hp | (simp only [List.mem_cons, List.mem_append, List.nil_append, List.not_mem_nil, or_assoc, or_false, false_or] at hp ⊢ <;> grind)))⟩, rfl⟩
           case measure => (show ms - (intOf (.int .i64 (((k + 1) : Nat) : Int))).toNat < ms - (intOf (.int .i64 ((k : Nat) : Int))).toNat); simp only [intOf]; omega
         | true =>
           have h3 : j < ((slotsX cs ((boxD k y3).size)).length) := of_decide_eq_true hd3
           clear hd3
           refine wp_cond_true rfl ?_
           refine wp_skip ?_
           change Code.wp ..
           refine wp_seq ?_
           refine wp_block ?_
           refine wp_seq ?_
           refine wp_region_L _ hW15 ?_
           obtain ⟨y16, g16_, f16_, hy16, hp16, hc16⟩ := RL.at hRX sltC_len (by decide) (hW15.sub (fun p hp => by simp only [List.mem_cons, List.mem_append, List.nil_append, List.not_mem_nil, or_assoc, or_false, false_or, hp, true_or, or_true])) (k := j) Tw.om
           refine lp (v := .pointer (some ⟨g16_, f16_ + j * 3, none⟩)) rfl rfl (run_idxQ (p := p13) (cap := c13) (n := (slotsX cs ((boxD k y3).size)).length) (j := .i64) (k := j) (sz := 3) rfl Try.underlying56 Tw.kr Tw.kr hp16 Tw.kr Tw.om) ?_
           refine lv (v := .agg (sltC y16).toArray) rfl rfl (yb_rs (off := f16_ + j * 3) (cs := sltC y16) rfl Tw.kr (fun W hW => hc16 W (hW.sub (fun p hp => by simp only [List.mem_cons, List.mem_append, List.nil_append, List.not_mem_nil, or_assoc, or_false, false_or, hp, true_or, or_true]))) Try.underlying40 rfl Tw.kr) ?_
           refine wpL_new (fun g => .pointer (some ⟨g, 0, none⟩)) (obi := .cells #[.int .i64 0, .int .i64 0, .int .u8 0] 40 (0, 0)) rfl rfl Tw.kf Tw.pf fun g17 Bg17 Fg17 => ?_
           obtain ⟨dj18_0, dj18_1, dj18_2, dj18_3, dj18_4, dj18_5⟩ : g6 ≠ g17 ∧ g4 ≠ g17 ∧ g1 ≠ g17 ∧ Dk g17 KS_ ∧ Dk g17 Kl10 ∧ Dk g17 Kl13 := Tw.dkf Fg17
           refine wpL_s ((g17, .cells (sltC y16).toArray 40 (0, 0)) :: (g6, .cells (boC (boxD k y3)).toArray 37 (0, 0)) :: (g4, .cells (dpC y3).toArray 131 (0, 0)) :: (g1, .cells (shC (.slice pc cs.length cc) (.slice po os.length co) t).toArray 32 (0, 0)) :: (KS_ ++ (Kl10 ++ Kl13))) rfl rfl (st_row (off := 0) (v := .agg (sltC y16).toArray) rfl Tw.kr Tw.kr Tw.m0 Bg17 Tw.kr (by first | (simp [Value.cells]; done) | exact Nat.le_of_ble_eq_true rfl) (fun v hv => sltC_one y16 v hv) Tw.kr (List.forall_mem_cons.2 ⟨.inl rfl, (List.forall_mem_cons.2 ⟨.inr ⟨Tw.m1, Tw.nee⟩, (List.forall_mem_cons.2 ⟨.inr ⟨Tw.m2, Tw.nee⟩, (List.forall_mem_cons.2 ⟨.inr ⟨Tw.m3, Tw.nee⟩, (fun p hp => .inr ⟨(.tail _ (.tail _ (.tail _ (.tail _ hp)))), ((show Dk g17 (KS_ ++ (Kl10 ++ Kl13)) from Tw.djt) _ hp)⟩)⟩)⟩)⟩)⟩)) ?_
           refine wpL_done (fun W17 hW17 => ?_)
           change Code.wp ..
           refine wp_seq ?_
           refine Z.wp_region_V (S := [(g17, .cells (sltC y16).toArray 40 (0, 0)), (g6, .cells (boC (boxD k y3)).toArray 37 (0, 0))]) (b := false) (W0 := w) ((g17, .cells (sltC y16).toArray 40 (0, 0)) :: (g6, .cells (boC (boxD k y3)).toArray 37 (0, 0)) :: (g4, .cells (dpC y3).toArray 131 (0, 0)) :: (g1, .cells (shC (.slice pc cs.length cc) (.slice po os.length co) t).toArray 32 (0, 0)) :: (KS_ ++ (Kl10 ++ Kl13))) Tw.kr (hW17) ?_
           refine Z.vm (i := 1) (v := .slice pS st.length cS) rfl rfl rfl ?_
           refine Z.vm (i := 3) (v := .pointer (some ⟨g6, 0, none⟩)) rfl rfl rfl ?_
           refine Z.vS (i := 4) (v := .int .i64 ((boxD k y3).id)) rfl rfl rfl (yb_cell (off := 0) rfl Tw.kr Tw.m1 Try.underlying3 rfl Tw.kr) (fun p hp => by simp only [List.mem_cons, List.not_mem_nil, or_false] at hp; rcases hp with rfl | rfl <;> simp only [List.mem_cons, List.mem_append, List.nil_append, List.not_mem_nil, or_assoc, or_false, false_or, true_or, or_true]) ?_
           refine Z.vS (i := 5) (v := .agg (sltC y16).toArray) rfl rfl rfl (yb_load (n := 3) (off := 0) rfl Tw.kr Tw.m0 Try.underlying40 rfl Tw.kr (by first | (simp [Value.cells]; done) | exact Nat.le_of_ble_eq_true rfl) Tw.kr) (fun p hp => by simp only [List.mem_cons, List.not_mem_nil, or_false] at hp; rcases hp with rfl | rfl <;> simp only [List.mem_cons, List.mem_append, List.nil_append, List.not_mem_nil, or_assoc, or_false, false_or, true_or, or_true]) ?_
           refine Z.vm (i := 6) (v := .agg #[.int .i64 ((boxD k y3).id), .int .i64 y16.col, .int .i64 y16.tier, .int .u8 ((y16.half : Nat) : Int)]) rfl rfl rfl ?_
           refine Z.wpV_2 (i := 0) (j := 7) Tw.kr ?_ ?_
           · refine Z.stepV_nsx (fun g => .slice (some ⟨g, 0, none⟩) 0 0) (i := 0) (obi := .cells #[] 42 (0, 0)) rfl rfl rfl Tw.kf Tw.pf fun g19 Bg19 Fg19 => ?_
             obtain ⟨dj20_0, dj20_1, dj20_2, dj20_3, dj20_4, dj20_5, dj20_6⟩ : g17 ≠ g19 ∧ g6 ≠ g19 ∧ g4 ≠ g19 ∧ g1 ≠ g19 ∧ Dk g19 KS_ ∧ Dk g19 Kl10 ∧ Dk g19 Kl13 := Tw.dkf Fg19
             refine Z.wpV_2 (i := 2) (j := 7) Tw.kr ?_ ?_
             · refine Z.stepV_gk (AppO w 42 4 ((g17, .cells (sltC y16).toArray 40 (0, 0)) :: (g6, .cells (boC (boxD k y3)).toArray 37 (0, 0)) :: (g4, .cells (dpC y3).toArray 131 (0, 0)) :: (g1, .cells (shC (.slice pc cs.length cc) (.slice po os.length co) t).toArray 32 (0, 0)) :: (KS_ ++ (Kl10 ++ Kl13))) (0 + st.length) ((([] : List Sd).flatMap sdC) ++ (st.flatMap sdC))) (i := 2) rfl rfl rfl rfl (app_any el_sd (m := st.length) (news := (st.flatMap sdC)) (y := .slice pS st.length cS) rfl Tw.kr Tw.kr (src_rl (c := cS) Try.underlying38 sdC_len sdC_one (by decide) (hRS.mono (fun p hp => by simp only [List.mem_cons, List.mem_append, List.nil_append, List.not_mem_nil, or_assoc, or_false, false_or, hp, true_or, or_true])) rfl) (own_rnone (cells := sdC) Bg19) (fun p hp => by cases List.mem_singleton.1 hp; exact Tw.m0) (fun p hp => ⟨by simp only [List.mem_cons, List.mem_append, List.nil_append, List.not_mem_nil, or_assoc, or_false, false_or] at hp ⊢ <;> grind, (show Dj ((g17, .cells (sltC y16).toArray 40 (0, 0)) :: (g6, .cells (boC (boxD k y3)).toArray 37 (0, 0)) :: (g4, .cells (dpC y3).toArray 131 (0, 0)) :: (g1, .cells (shC (.slice pc cs.length cc) (.slice po os.length co) t).toArray 32 (0, 0)) :: (KS_ ++ (Kl10 ++ Kl13))) [(g19, .cells #[] 42 (0, 0))] from Tw.djt) p hp⟩) Tw.om Tw.om) (Z.appO_keep (fun p hp => by simp only [List.mem_cons, List.not_mem_nil, or_false] at hp; rcases hp with rfl | rfl <;> simp only [List.mem_cons, List.mem_append, List.nil_append, List.not_mem_nil, or_assoc, or_false, false_or, true_or, or_true])) Tw.pf ?_
               rintro v21 K9 ⟨Kl21, O21, N21, rfl⟩
               obtain ⟨dj22_0, dj22_1, dj22_2, dj22_3, dj22_4, dj22_5, dj22_6⟩ : Dk g17 Kl21 ∧ Dk g6 Kl21 ∧ Dk g4 Kl21 ∧ Dk g1 Kl21 ∧ Dj KS_ Kl21 ∧ Dj Kl10 Kl21 ∧ Dj Kl13 Kl21 := Tw.djf N21
               refine Z.wpV_ns (fun g => .slice (some ⟨g, 0, none⟩) 1 1) (i := 7) (obi := .cells #[.int .i64 ((boxD k y3).id), .int .i64 y16.col, .int .i64 y16.tier, .int .u8 ((y16.half : Nat) : Int)] 42 (0, 0)) rfl rfl rfl Tw.kr Tw.kf Tw.pf fun g23 Bg23 Fg23 => ?_
               obtain ⟨dj24_0, dj24_1, dj24_2, dj24_3, dj24_4, dj24_5, dj24_6, dj24_7⟩ : g17 ≠ g23 ∧ g6 ≠ g23 ∧ g4 ≠ g23 ∧ g1 ≠ g23 ∧ Dk g23 KS_ ∧ Dk g23 Kl10 ∧ Dk g23 Kl13 ∧ Dk g23 Kl21 := Tw.dkf Fg23
               refine Z.wpV_gk (AppO w 42 4 ((g17, .cells (sltC y16).toArray 40 (0, 0)) :: (g6, .cells (boC (boxD k y3)).toArray 37 (0, 0)) :: (g4, .cells (dpC y3).toArray 131 (0, 0)) :: (g1, .cells (shC (.slice pc cs.length cc) (.slice po os.length co) t).toArray 32 (0, 0)) :: (KS_ ++ (Kl10 ++ Kl13))) ((0 + st.length) + 1) (((([] : List Sd).flatMap sdC) ++ (st.flatMap sdC)) ++ [.int .i64 ((boxD k y3).id), .int .i64 y16.col, .int .i64 y16.tier, .int .u8 ((y16.half : Nat) : Int)])) (i := 8) rfl rfl rfl Tw.kr rfl (app_own el_sd (m := 1) (c := 1) (news := [.int .i64 ((boxD k y3).id), .int .i64 y16.col, .int .i64 y16.tier, .int .u8 ((y16.half : Nat) : Int)]) rfl Tw.kr Tw.kr Tw.m0 O21 Tw.sc (fun p hp => ⟨by simp only [List.mem_cons, List.mem_append, List.nil_append, List.not_mem_nil, or_assoc, or_false, false_or] at hp ⊢ <;> grind, (show Dj ((g17, .cells (sltC y16).toArray 40 (0, 0)) :: (g6, .cells (boC (boxD k y3)).toArray 37 (0, 0)) :: (g4, .cells (dpC y3).toArray 131 (0, 0)) :: (g1, .cells (shC (.slice pc cs.length cc) (.slice po os.length co) t).toArray 32 (0, 0)) :: (KS_ ++ (Kl10 ++ Kl13))) Kl21 from Tw.djt) p hp⟩) rfl (by simp [strV, Value.oneCell']) Tw.om Tw.om Tw.om) (Z.appO_keep (fun p hp => by simp only [List.mem_cons, List.not_mem_nil, or_false] at hp; rcases hp with rfl | rfl <;> simp only [List.mem_cons, List.mem_append, List.nil_append, List.not_mem_nil, or_assoc, or_false, false_or, true_or, or_true])) Tw.pf ?_
               rintro v25 K9 ⟨Kl25, O25, N25, rfl⟩
               obtain ⟨dj26_0, dj26_1, dj26_2, dj26_3, dj26_4, dj26_5, dj26_6⟩ : Dk g17 Kl25 ∧ Dk g6 Kl25 ∧ Dk g4 Kl25 ∧ Dk g1 Kl25 ∧ Dj KS_ Kl25 ∧ Dj Kl10 Kl25 ∧ Dj Kl13 Kl25 := Tw.djf N25
               refine Z.vm (i := 9) (v := v25) rfl rfl rfl ?_
               refine Z.wpV_done Tw.kr (fun W18 hW18 => ?_) _
               change Code.wp ..
               refine wp_seq ?_
               have hq27 := own_app (cells := sdC) (l' := (st ++ [(⟨(boxD k y3).id, y16⟩ : Sd)])) O25 (by simp only [List.flatMap_append, List.flatMap_nil, List.nil_append]; rfl) (by simp only [List.length_append, List.length_nil, List.length_cons] <;> omega)
               obtain ⟨stN, hstN⟩ : ∃ x, (st ++ [(⟨(boxD k y3).id, y16⟩ : Sd)]) = x := ⟨_, rfl⟩
               rw [hstN] at hq27
               have lstN : stN.length = st.length + 1 := by rw [← hstN]; simp only [List.length_append, List.length_nil, List.length_cons] <;> omega
               obtain ⟨p27, c27, rfl, n27, R27⟩ := own_rl hq27
               refine wp_region_V _ Tw.kr hW18 ?_
               refine vm (i := 0) (v := .pointer (some ⟨g17, 0, none⟩)) rfl rfl rfl ?_
               refine vv (i := 1) (v := .int .i64 y16.col) rfl rfl rfl (yb_cell (off := 0) rfl Tw.kr Tw.m0 Try.underlying3 rfl Tw.kr) ?_
               refine vm (i := 2) (v := .pointer (some ⟨g4, 0, none⟩)) rfl rfl rfl ?_
               refine vv (i := 3) (v := .int .u8 ((y3.col : Nat) : Int)) rfl rfl rfl (yb_cell (off := 0) rfl Tw.kr Tw.m2 Try.underlying5 rfl Tw.kr) ?_
               refine vp (i := 4) (v := .int .i64 ((y3.col : Nat) : Int)) rfl rfl rfl (run_conv rfl (vx := (.int .u8 ((y3.col : Nat) : Int))) Tw.kr fun w => cv_int Try.underlying5 Try.underlying3 (wr_i64 Tw.om) w) ?_
               refine vm (i := 5) (v := .pointer (some ⟨g1, 0, none⟩)) rfl rfl rfl ?_
               refine vv (i := 6) (v := .slice pc cs.length cc) rfl rfl rfl (yb_cell (off := 0) rfl Tw.kr Tw.m3 Try.underlying22 rfl Tw.kr) ?_
               refine vp (i := 7) (v := .int .i64 ((cs.length : Nat) : Int)) rfl rfl rfl (run_lenL (p := pc) (cap := cc) (n := cs.length) rfl Try.underlying22 Tw.kr) ?_
               refine vp (i := 8) (v := .int .i64 (((y3.col % cs.length) : Nat) : Int)) rfl rfl rfl (run_bin rfl (vx := (.int .i64 ((y3.col : Nat) : Int))) (vy := (.int .i64 ((cs.length : Nat) : Int))) Tw.kr Tw.kr fun w => bn_rem (z := (y3.col % cs.length)) rfl Tw.om w) ?_
               refine vp (i := 9) (v := .bool (decide (y16.col = (((y3.col % cs.length) : Nat) : Int)))) rfl rfl rfl (run_bin rfl (vx := (.int .i64 y16.col)) (vy := (.int .i64 (((y3.col % cs.length) : Nat) : Int))) Tw.kr Tw.kr fun w => bi_eql rfl w) ?_
               refine vm (i := 10) (v := .bool (decide (y16.col = (((y3.col % cs.length) : Nat) : Int)))) rfl rfl rfl ?_
               cases hd4 : (decide (y16.col = (((y3.col % cs.length) : Nat) : Int))) with
               | false =>
                 have h4 : ¬ (y16.col = (((y3.col % cs.length) : Nat) : Int)) := of_decide_eq_false hd4
                 clear hd4
                 refine vn (i := 11) rfl rfl ?_
                 refine vn (i := 12) rfl rfl ?_
                 refine vn (i := 13) rfl rfl ?_
                 refine vn (i := 14) rfl rfl ?_
                 refine vm (i := 15) (v := .bool false) rfl rfl rfl ?_
                 refine wpV_done Tw.kr (fun W19 hW19 => ?_) _
                 change Code.wp ..
                 refine wp_cond_false rfl ?_
                 refine wp_skip ?_
                 change Code.wp ..
                 refine wp_region_L _ hW19 ?_
                 refine lp (v := .int .i64 (((j + 1) : Nat) : Int)) rfl rfl (run_bin rfl (vx := (.int .i64 ((j : Nat) : Int))) (vy := (.int .i64 ((1 : Nat) : Int))) Tw.kr Tw.kr fun w => bn_add (z := (j + 1)) rfl (wr_i64 Tw.om) w) ?_
                 refine lm (v := .int .i64 (((j + 1) : Nat) : Int)) rfl rfl ?_
                 refine wpL_done (fun W20 hW20 => ?_)
                 go_roundw
                 case rel =>
                   repeat apply Exists.intro
                   exact ⟨⟨j + 1, Tw.om, (by rw [← hTr]; exact (tryS_no1 hy16 h4).symm), rfl, rfl, (hW20.sub (fun p hp => by first | exact hp | (simp only [List.mem_cons, List.mem_append, List.nil_append, List.not_mem_nil, or_assoc, or_false, false_or] at hp ⊢ <;> grind)))⟩, rfl⟩
                 case measure => (show xs.length - (intOf (.int .i64 (((j + 1) : Nat) : Int))).toNat < xs.length - (intOf (.int .i64 ((j : Nat) : Int))).toNat); simp only [intOf]; omega
               | true =>
                 have h4 : y16.col = (((y3.col % cs.length) : Nat) : Int) := of_decide_eq_true hd4
                 clear hd4
                 refine vv (i := 11) (v := .agg (shC (.slice pc cs.length cc) (.slice po os.length co) t).toArray) rfl rfl rfl (yb_load (n := 13) (off := 0) rfl Tw.kr Tw.m3 Try.underlying32 rfl Tw.kr (by first | (simp [Value.cells]; done) | exact Nat.le_of_ble_eq_true rfl) Tw.kr) ?_
                 refine vm (i := 12) (v := .slice p12 bsN.length c12) rfl rfl rfl ?_
                 refine vm (i := 13) (v := .slice p27 stN.length c27) rfl rfl rfl ?_
                 refine vv (i := 14) (v := .bool (loadX cs os bsN stN)) rfl rfl rfl (yb_call (f := 18) (args := #[.agg (shC (.slice pc cs.length cc) (.slice po os.length co) t).toArray, .slice p12 bsN.length c12, .slice p27 stN.length c27]) Tw.kf fun W hW => StRight_any cs pc cc Tw.om os po co Tw.om t bsN p12 c12 Tw.om stN p27 c27 Tw.om W ((RL.base HC.out) _ (hW.sub (fun _ h => by cases h))) ((RL.base HO.out) _ (hW.sub (fun _ h => by cases h))) (HR.out.keep hW.1) lr (HQ.out.keep hW.1) lq2 (R12 _ (hW.sub (fun p hp => by simp only [List.mem_cons, List.mem_append, List.nil_append, List.not_mem_nil, or_assoc, or_false, false_or, hp, true_or, or_true]))) (R27 _ (hW.sub (fun p hp => by simp only [List.mem_cons, List.mem_append, List.nil_append, List.not_mem_nil, or_assoc, or_false, false_or, hp, true_or, or_true]))) HOT.out) ?_
                 refine vm (i := 15) (v := .bool (loadX cs os bsN stN)) rfl rfl rfl ?_
                 refine wpV_done Tw.kr (fun W21 hW21 => ?_) _
                 change Code.wp ..
                 cases h5 : (loadX cs os bsN stN) with
                 | false =>
                   refine wp_cond_false rfl ?_
                   refine wp_skip ?_
                   change Code.wp ..
                   refine wp_region_L _ hW21 ?_
                   refine lp (v := .int .i64 (((j + 1) : Nat) : Int)) rfl rfl (run_bin rfl (vx := (.int .i64 ((j : Nat) : Int))) (vy := (.int .i64 ((1 : Nat) : Int))) Tw.kr Tw.kr fun w => bn_add (z := (j + 1)) rfl (wr_i64 Tw.om) w) ?_
                   refine lm (v := .int .i64 (((j + 1) : Nat) : Int)) rfl rfl ?_
                   refine wpL_done (fun W22 hW22 => ?_)
                   go_roundw
                   case rel =>
                     repeat apply Exists.intro
                     exact ⟨⟨j + 1, Tw.om, (by rw [← hTr]; exact (tryS_no2 hy16 (by rw [hstN]; exact h5)).symm), rfl, rfl, (hW22.sub (fun p hp => by first | exact hp | (simp only [List.mem_cons, List.mem_append, List.nil_append, List.not_mem_nil, or_assoc, or_false, false_or] at hp ⊢ <;> grind)))⟩, rfl⟩
                   case measure => (show xs.length - (intOf (.int .i64 (((j + 1) : Nat) : Int))).toNat < xs.length - (intOf (.int .i64 ((j : Nat) : Int))).toNat); simp only [intOf]; omega
                 | true =>
                   refine wp_cond_true rfl ?_
                   refine wp_seq ?_
                   refine wp_region_L _ hW21 ?_
                   refine lm (v := .slice p27 stN.length c27) rfl rfl ?_
                   refine lm (v := .slice p27 stN.length c27) rfl rfl ?_
                   refine wpL_done (fun W23 hW23 => ?_)
                   change Code.wp ..
                   refine wp_exit ?_
                   change Code.wp ..
                   refine wp_region_L _ hW23 ?_
                   refine lp (v := .int .i64 (((k + 1) : Nat) : Int)) rfl rfl (run_bin rfl (vx := (.int .i64 ((k : Nat) : Int))) (vy := (.int .i64 ((1 : Nat) : Int))) Tw.kr Tw.kr fun w => bn_add (z := (k + 1)) rfl (wr_i64 Tw.om) w) ?_
                   refine lm (v := .int .i64 (((k + 1) : Nat) : Int)) rfl rfl ?_
                   refine wpL_done (fun W24 hW24 => ?_)
                   go_roundw
                   case rel =>
                     repeat apply Exists.intro
                     exact ⟨⟨k + 1, bsN, p12, c12, stN, p27, c27, Kl10, Kl25, Tw.om, lbsN, (by rw [lstN]; omega), hq12, R12, hq27, R27, (by rw [hLd, loadedF_step hy3, hbsN, hxs, ← hTr, tryS_yes hy16 h4 (by rw [hstN]; exact h5), hstN]), (show Dk g1 Kl10 from Tw.djt), (show Dk g1 Kl25 from Tw.djt), (show Dj Kl10 Kl25 from Tw.djt), rfl, rfl, rfl, (hW24.sub (fun p hp => by first | exact hp | (simp only [List.mem_cons, List.mem_append, List.nil_append, List.not_mem_nil, or_assoc, or_false, false_or] at hp ⊢ <;> grind)))⟩, rfl⟩
                   case measure => (show ms - (intOf (.int .i64 (((k + 1) : Nat) : Int))).toNat < ms - (intOf (.int .i64 ((k : Nat) : Int))).toNat); simp only [intOf]; omega
             · refine Z.stepV_nsx (fun g => .slice (some ⟨g, 0, none⟩) 1 1) (i := 7) (obi := .cells #[.int .i64 ((boxD k y3).id), .int .i64 y16.col, .int .i64 y16.tier, .int .u8 ((y16.half : Nat) : Int)] 42 (0, 0)) rfl rfl rfl Tw.kf Tw.pf fun g28 Bg28 Fg28 => ?_
               obtain ⟨dj29_0, dj29_1, dj29_2, dj29_3, dj29_4, dj29_5, dj29_6, dj29_7⟩ : g19 ≠ g28 ∧ g17 ≠ g28 ∧ g6 ≠ g28 ∧ g4 ≠ g28 ∧ g1 ≠ g28 ∧ Dk g28 KS_ ∧ Dk g28 Kl10 ∧ Dk g28 Kl13 := Tw.dkf Fg28
               refine Z.wpV_gk (AppO w 42 4 ((g28, .cells #[.int .i64 ((boxD k y3).id), .int .i64 y16.col, .int .i64 y16.tier, .int .u8 ((y16.half : Nat) : Int)] 42 (0, 0)) :: (g17, .cells (sltC y16).toArray 40 (0, 0)) :: (g6, .cells (boC (boxD k y3)).toArray 37 (0, 0)) :: (g4, .cells (dpC y3).toArray 131 (0, 0)) :: (g1, .cells (shC (.slice pc cs.length cc) (.slice po os.length co) t).toArray 32 (0, 0)) :: (KS_ ++ (Kl10 ++ Kl13))) (0 + st.length) ((([] : List Sd).flatMap sdC) ++ (st.flatMap sdC))) (i := 2) rfl rfl rfl Tw.kr rfl (app_any el_sd (m := st.length) (news := (st.flatMap sdC)) (y := .slice pS st.length cS) rfl Tw.kr Tw.kr (src_rl (c := cS) Try.underlying38 sdC_len sdC_one (by decide) (hRS.mono (fun p hp => by simp only [List.mem_cons, List.mem_append, List.nil_append, List.not_mem_nil, or_assoc, or_false, false_or, hp, true_or, or_true])) rfl) (own_rnone (cells := sdC) Bg19) (fun p hp => by cases List.mem_singleton.1 hp; exact Tw.m1) (fun p hp => ⟨by simp only [List.mem_cons, List.mem_append, List.nil_append, List.not_mem_nil, or_assoc, or_false, false_or] at hp ⊢ <;> grind, (show Dj ((g28, .cells #[.int .i64 ((boxD k y3).id), .int .i64 y16.col, .int .i64 y16.tier, .int .u8 ((y16.half : Nat) : Int)] 42 (0, 0)) :: (g17, .cells (sltC y16).toArray 40 (0, 0)) :: (g6, .cells (boC (boxD k y3)).toArray 37 (0, 0)) :: (g4, .cells (dpC y3).toArray 131 (0, 0)) :: (g1, .cells (shC (.slice pc cs.length cc) (.slice po os.length co) t).toArray 32 (0, 0)) :: (KS_ ++ (Kl10 ++ Kl13))) [(g19, .cells #[] 42 (0, 0))] from Tw.djt) p hp⟩) Tw.om Tw.om) (Z.appO_keep (fun p hp => by simp only [List.mem_cons, List.not_mem_nil, or_false] at hp; rcases hp with rfl | rfl <;> simp only [List.mem_cons, List.mem_append, List.nil_append, List.not_mem_nil, or_assoc, or_false, false_or, true_or, or_true])) Tw.pf ?_
               rintro v30 K9 ⟨Kl30, O30, N30, rfl⟩
               obtain ⟨dj31_0, dj31_1, dj31_2, dj31_3, dj31_4, dj31_5, dj31_6, dj31_7⟩ : Dk g28 Kl30 ∧ Dk g17 Kl30 ∧ Dk g6 Kl30 ∧ Dk g4 Kl30 ∧ Dk g1 Kl30 ∧ Dj KS_ Kl30 ∧ Dj Kl10 Kl30 ∧ Dj Kl13 Kl30 := Tw.djf N30
               refine (show Z.wpV _ _ _ _ _ _ _ _ _ _ ((g28, .cells #[.int .i64 ((boxD k y3).id), .int .i64 y16.col, .int .i64 y16.tier, .int .u8 ((y16.half : Nat) : Int)] 42 (0, 0)) :: (g17, .cells (sltC y16).toArray 40 (0, 0)) :: (g6, .cells (boC (boxD k y3)).toArray 37 (0, 0)) :: (g4, .cells (dpC y3).toArray 131 (0, 0)) :: (g1, .cells (shC (.slice pc cs.length cc) (.slice po os.length co) t).toArray 32 (0, 0)) :: ((KS_ ++ (Kl10 ++ Kl13)) ++ Kl30)) from ?_)
               refine Z.wpV_gk (AppO w 42 4 ((g17, .cells (sltC y16).toArray 40 (0, 0)) :: (g6, .cells (boC (boxD k y3)).toArray 37 (0, 0)) :: (g4, .cells (dpC y3).toArray 131 (0, 0)) :: (g1, .cells (shC (.slice pc cs.length cc) (.slice po os.length co) t).toArray 32 (0, 0)) :: (KS_ ++ (Kl10 ++ Kl13))) ((0 + st.length) + 1) (((([] : List Sd).flatMap sdC) ++ (st.flatMap sdC)) ++ [.int .i64 ((boxD k y3).id), .int .i64 y16.col, .int .i64 y16.tier, .int .u8 ((y16.half : Nat) : Int)])) (i := 8) rfl rfl rfl Tw.kr rfl (app_own el_sd (m := 1) (c := 1) (news := [.int .i64 ((boxD k y3).id), .int .i64 y16.col, .int .i64 y16.tier, .int .u8 ((y16.half : Nat) : Int)]) rfl Tw.kr Tw.kr Tw.m0 O30 Tw.sc (fun p hp => ⟨by simp only [List.mem_cons, List.mem_append, List.nil_append, List.not_mem_nil, or_assoc, or_false, false_or] at hp ⊢ <;> grind, (show Dj ((g17, .cells (sltC y16).toArray 40 (0, 0)) :: (g6, .cells (boC (boxD k y3)).toArray 37 (0, 0)) :: (g4, .cells (dpC y3).toArray 131 (0, 0)) :: (g1, .cells (shC (.slice pc cs.length cc) (.slice po os.length co) t).toArray 32 (0, 0)) :: (KS_ ++ (Kl10 ++ Kl13))) Kl30 from Tw.djt) p hp⟩) rfl (by simp [strV, Value.oneCell']) Tw.om Tw.om Tw.om) (Z.appO_keep (fun p hp => by simp only [List.mem_cons, List.not_mem_nil, or_false] at hp; rcases hp with rfl | rfl <;> simp only [List.mem_cons, List.mem_append, List.nil_append, List.not_mem_nil, or_assoc, or_false, false_or, true_or, or_true])) Tw.pf ?_
               rintro v32 K9 ⟨Kl32, O32, N32, rfl⟩
               obtain ⟨dj33_0, dj33_1, dj33_2, dj33_3, dj33_4, dj33_5, dj33_6⟩ : Dk g17 Kl32 ∧ Dk g6 Kl32 ∧ Dk g4 Kl32 ∧ Dk g1 Kl32 ∧ Dj KS_ Kl32 ∧ Dj Kl10 Kl32 ∧ Dj Kl13 Kl32 := Tw.djf N32
               refine Z.vm (i := 9) (v := v32) rfl rfl rfl ?_
               refine Z.wpV_done Tw.kr (fun W25 hW25 => ?_) _
               change Code.wp ..
               refine wp_seq ?_
               have hq34 := own_app (cells := sdC) (l' := (st ++ [(⟨(boxD k y3).id, y16⟩ : Sd)])) O32 (by simp only [List.flatMap_append, List.flatMap_nil, List.nil_append]; rfl) (by simp only [List.length_append, List.length_nil, List.length_cons] <;> omega)
               obtain ⟨stN, hstN⟩ : ∃ x, (st ++ [(⟨(boxD k y3).id, y16⟩ : Sd)]) = x := ⟨_, rfl⟩
               rw [hstN] at hq34
               have lstN : stN.length = st.length + 1 := by rw [← hstN]; simp only [List.length_append, List.length_nil, List.length_cons] <;> omega
               obtain ⟨p34, c34, rfl, n34, R34⟩ := own_rl hq34
               refine wp_region_V _ Tw.kr hW25 ?_
               refine vm (i := 0) (v := .pointer (some ⟨g17, 0, none⟩)) rfl rfl rfl ?_
               refine vv (i := 1) (v := .int .i64 y16.col) rfl rfl rfl (yb_cell (off := 0) rfl Tw.kr Tw.m0 Try.underlying3 rfl Tw.kr) ?_
               refine vm (i := 2) (v := .pointer (some ⟨g4, 0, none⟩)) rfl rfl rfl ?_
               refine vv (i := 3) (v := .int .u8 ((y3.col : Nat) : Int)) rfl rfl rfl (yb_cell (off := 0) rfl Tw.kr Tw.m2 Try.underlying5 rfl Tw.kr) ?_
               refine vp (i := 4) (v := .int .i64 ((y3.col : Nat) : Int)) rfl rfl rfl (run_conv rfl (vx := (.int .u8 ((y3.col : Nat) : Int))) Tw.kr fun w => cv_int Try.underlying5 Try.underlying3 (wr_i64 Tw.om) w) ?_
               refine vm (i := 5) (v := .pointer (some ⟨g1, 0, none⟩)) rfl rfl rfl ?_
               refine vv (i := 6) (v := .slice pc cs.length cc) rfl rfl rfl (yb_cell (off := 0) rfl Tw.kr Tw.m3 Try.underlying22 rfl Tw.kr) ?_
               refine vp (i := 7) (v := .int .i64 ((cs.length : Nat) : Int)) rfl rfl rfl (run_lenL (p := pc) (cap := cc) (n := cs.length) rfl Try.underlying22 Tw.kr) ?_
               refine vp (i := 8) (v := .int .i64 (((y3.col % cs.length) : Nat) : Int)) rfl rfl rfl (run_bin rfl (vx := (.int .i64 ((y3.col : Nat) : Int))) (vy := (.int .i64 ((cs.length : Nat) : Int))) Tw.kr Tw.kr fun w => bn_rem (z := (y3.col % cs.length)) rfl Tw.om w) ?_
               refine vp (i := 9) (v := .bool (decide (y16.col = (((y3.col % cs.length) : Nat) : Int)))) rfl rfl rfl (run_bin rfl (vx := (.int .i64 y16.col)) (vy := (.int .i64 (((y3.col % cs.length) : Nat) : Int))) Tw.kr Tw.kr fun w => bi_eql rfl w) ?_
               refine vm (i := 10) (v := .bool (decide (y16.col = (((y3.col % cs.length) : Nat) : Int)))) rfl rfl rfl ?_
               cases hd6 : (decide (y16.col = (((y3.col % cs.length) : Nat) : Int))) with
               | false =>
                 have h6 : ¬ (y16.col = (((y3.col % cs.length) : Nat) : Int)) := of_decide_eq_false hd6
                 clear hd6
                 refine vn (i := 11) rfl rfl ?_
                 refine vn (i := 12) rfl rfl ?_
                 refine vn (i := 13) rfl rfl ?_
                 refine vn (i := 14) rfl rfl ?_
                 refine vm (i := 15) (v := .bool false) rfl rfl rfl ?_
                 refine wpV_done Tw.kr (fun W26 hW26 => ?_) _
                 change Code.wp ..
                 refine wp_cond_false rfl ?_
                 refine wp_skip ?_
                 change Code.wp ..
                 refine wp_region_L _ hW26 ?_
                 refine lp (v := .int .i64 (((j + 1) : Nat) : Int)) rfl rfl (run_bin rfl (vx := (.int .i64 ((j : Nat) : Int))) (vy := (.int .i64 ((1 : Nat) : Int))) Tw.kr Tw.kr fun w => bn_add (z := (j + 1)) rfl (wr_i64 Tw.om) w) ?_
                 refine lm (v := .int .i64 (((j + 1) : Nat) : Int)) rfl rfl ?_
                 refine wpL_done (fun W27 hW27 => ?_)
                 go_roundw
                 case rel =>
                   repeat apply Exists.intro
                   exact ⟨⟨j + 1, Tw.om, (by rw [← hTr]; exact (tryS_no1 hy16 h6).symm), rfl, rfl, (hW27.sub (fun p hp => by first | exact hp | (simp only [List.mem_cons, List.mem_append, List.nil_append, List.not_mem_nil, or_assoc, or_false, false_or] at hp ⊢ <;> grind)))⟩, rfl⟩
                 case measure => (show xs.length - (intOf (.int .i64 (((j + 1) : Nat) : Int))).toNat < xs.length - (intOf (.int .i64 ((j : Nat) : Int))).toNat); simp only [intOf]; omega
               | true =>
                 have h6 : y16.col = (((y3.col % cs.length) : Nat) : Int) := of_decide_eq_true hd6
                 clear hd6
                 refine vv (i := 11) (v := .agg (shC (.slice pc cs.length cc) (.slice po os.length co) t).toArray) rfl rfl rfl (yb_load (n := 13) (off := 0) rfl Tw.kr Tw.m3 Try.underlying32 rfl Tw.kr (by first | (simp [Value.cells]; done) | exact Nat.le_of_ble_eq_true rfl) Tw.kr) ?_
                 refine vm (i := 12) (v := .slice p12 bsN.length c12) rfl rfl rfl ?_
                 refine vm (i := 13) (v := .slice p34 stN.length c34) rfl rfl rfl ?_
                 refine vv (i := 14) (v := .bool (loadX cs os bsN stN)) rfl rfl rfl (yb_call (f := 18) (args := #[.agg (shC (.slice pc cs.length cc) (.slice po os.length co) t).toArray, .slice p12 bsN.length c12, .slice p34 stN.length c34]) Tw.kf fun W hW => StRight_any cs pc cc Tw.om os po co Tw.om t bsN p12 c12 Tw.om stN p34 c34 Tw.om W ((RL.base HC.out) _ (hW.sub (fun _ h => by cases h))) ((RL.base HO.out) _ (hW.sub (fun _ h => by cases h))) (HR.out.keep hW.1) lr (HQ.out.keep hW.1) lq2 (R12 _ (hW.sub (fun p hp => by simp only [List.mem_cons, List.mem_append, List.nil_append, List.not_mem_nil, or_assoc, or_false, false_or, hp, true_or, or_true]))) (R34 _ (hW.sub (fun p hp => by simp only [List.mem_cons, List.mem_append, List.nil_append, List.not_mem_nil, or_assoc, or_false, false_or, hp, true_or, or_true]))) HOT.out) ?_
                 refine vm (i := 15) (v := .bool (loadX cs os bsN stN)) rfl rfl rfl ?_
                 refine wpV_done Tw.kr (fun W28 hW28 => ?_) _
                 change Code.wp ..
                 cases h7 : (loadX cs os bsN stN) with
                 | false =>
                   refine wp_cond_false rfl ?_
                   refine wp_skip ?_
                   change Code.wp ..
                   refine wp_region_L _ hW28 ?_
                   refine lp (v := .int .i64 (((j + 1) : Nat) : Int)) rfl rfl (run_bin rfl (vx := (.int .i64 ((j : Nat) : Int))) (vy := (.int .i64 ((1 : Nat) : Int))) Tw.kr Tw.kr fun w => bn_add (z := (j + 1)) rfl (wr_i64 Tw.om) w) ?_
                   refine lm (v := .int .i64 (((j + 1) : Nat) : Int)) rfl rfl ?_
                   refine wpL_done (fun W29 hW29 => ?_)
                   go_roundw
                   case rel =>
                     repeat apply Exists.intro
                     exact ⟨⟨j + 1, Tw.om, (by rw [← hTr]; exact (tryS_no2 hy16 (by rw [hstN]; exact h7)).symm), rfl, rfl, (hW29.sub (fun p hp => by first | exact hp | (simp only [List.mem_cons, List.mem_append, List.nil_append, List.not_mem_nil, or_assoc, or_false, false_or] at hp ⊢ <;> grind)))⟩, rfl⟩
                   case measure => (show xs.length - (intOf (.int .i64 (((j + 1) : Nat) : Int))).toNat < xs.length - (intOf (.int .i64 ((j : Nat) : Int))).toNat); simp only [intOf]; omega
                 | true =>
                   refine wp_cond_true rfl ?_
                   refine wp_seq ?_
                   refine wp_region_L _ hW28 ?_
                   refine lm (v := .slice p34 stN.length c34) rfl rfl ?_
                   refine lm (v := .slice p34 stN.length c34) rfl rfl ?_
                   refine wpL_done (fun W30 hW30 => ?_)
                   change Code.wp ..
                   refine wp_exit ?_
                   change Code.wp ..
                   refine wp_region_L _ hW30 ?_
                   refine lp (v := .int .i64 (((k + 1) : Nat) : Int)) rfl rfl (run_bin rfl (vx := (.int .i64 ((k : Nat) : Int))) (vy := (.int .i64 ((1 : Nat) : Int))) Tw.kr Tw.kr fun w => bn_add (z := (k + 1)) rfl (wr_i64 Tw.om) w) ?_
                   refine lm (v := .int .i64 (((k + 1) : Nat) : Int)) rfl rfl ?_
                   refine wpL_done (fun W31 hW31 => ?_)
                   go_roundw
                   case rel =>
                     repeat apply Exists.intro
                     exact ⟨⟨k + 1, bsN, p12, c12, stN, p34, c34, Kl10, Kl32, Tw.om, lbsN, (by rw [lstN]; omega), hq12, R12, hq34, R34, (by rw [hLd, loadedF_step hy3, hbsN, hxs, ← hTr, tryS_yes hy16 h6 (by rw [hstN]; exact h7), hstN]), (show Dk g1 Kl10 from Tw.djt), (show Dk g1 Kl32 from Tw.djt), (show Dj Kl10 Kl32 from Tw.djt), rfl, rfl, rfl, (hW31.sub (fun p hp => by first | exact hp | (simp only [List.mem_cons, List.mem_append, List.nil_append, List.not_mem_nil, or_assoc, or_false, false_or] at hp ⊢ <;> grind)))⟩, rfl⟩
                   case measure => (show ms - (intOf (.int .i64 (((k + 1) : Nat) : Int))).toNat < ms - (intOf (.int .i64 ((k : Nat) : Int))).toNat); simp only [intOf]; omega
           · refine Z.stepV_nsx (fun g => .slice (some ⟨g, 0, none⟩) 1 1) (i := 7) (obi := .cells #[.int .i64 ((boxD k y3).id), .int .i64 y16.col, .int .i64 y16.tier, .int .u8 ((y16.half : Nat) : Int)] 42 (0, 0)) rfl rfl rfl Tw.kf Tw.pf fun g35 Bg35 Fg35 => ?_
             obtain ⟨dj36_0, dj36_1, dj36_2, dj36_3, dj36_4, dj36_5, dj36_6⟩ : g17 ≠ g35 ∧ g6 ≠ g35 ∧ g4 ≠ g35 ∧ g1 ≠ g35 ∧ Dk g35 KS_ ∧ Dk g35 Kl10 ∧ Dk g35 Kl13 := Tw.dkf Fg35
             refine Z.wpV_ns (fun g => .slice (some ⟨g, 0, none⟩) 0 0) (i := 0) (obi := .cells #[] 42 (0, 0)) rfl rfl rfl Tw.kr Tw.kf Tw.pf fun g37 Bg37 Fg37 => ?_
             obtain ⟨dj38_0, dj38_1, dj38_2, dj38_3, dj38_4, dj38_5, dj38_6, dj38_7⟩ : g35 ≠ g37 ∧ g17 ≠ g37 ∧ g6 ≠ g37 ∧ g4 ≠ g37 ∧ g1 ≠ g37 ∧ Dk g37 KS_ ∧ Dk g37 Kl10 ∧ Dk g37 Kl13 := Tw.dkf Fg37
             refine Z.wpV_gk (AppO w 42 4 ((g35, .cells #[.int .i64 ((boxD k y3).id), .int .i64 y16.col, .int .i64 y16.tier, .int .u8 ((y16.half : Nat) : Int)] 42 (0, 0)) :: (g17, .cells (sltC y16).toArray 40 (0, 0)) :: (g6, .cells (boC (boxD k y3)).toArray 37 (0, 0)) :: (g4, .cells (dpC y3).toArray 131 (0, 0)) :: (g1, .cells (shC (.slice pc cs.length cc) (.slice po os.length co) t).toArray 32 (0, 0)) :: (KS_ ++ (Kl10 ++ Kl13))) (0 + st.length) ((([] : List Sd).flatMap sdC) ++ (st.flatMap sdC))) (i := 2) rfl rfl rfl Tw.kr rfl (app_any el_sd (m := st.length) (news := (st.flatMap sdC)) (y := .slice pS st.length cS) rfl Tw.kr Tw.kr (src_rl (c := cS) Try.underlying38 sdC_len sdC_one (by decide) (hRS.mono (fun p hp => by simp only [List.mem_cons, List.mem_append, List.nil_append, List.not_mem_nil, or_assoc, or_false, false_or, hp, true_or, or_true])) rfl) (own_rnone (cells := sdC) Bg37) (fun p hp => by cases List.mem_singleton.1 hp; exact Tw.m0) (fun p hp => ⟨by simp only [List.mem_cons, List.mem_append, List.nil_append, List.not_mem_nil, or_assoc, or_false, false_or] at hp ⊢ <;> grind, (show Dj ((g35, .cells #[.int .i64 ((boxD k y3).id), .int .i64 y16.col, .int .i64 y16.tier, .int .u8 ((y16.half : Nat) : Int)] 42 (0, 0)) :: (g17, .cells (sltC y16).toArray 40 (0, 0)) :: (g6, .cells (boC (boxD k y3)).toArray 37 (0, 0)) :: (g4, .cells (dpC y3).toArray 131 (0, 0)) :: (g1, .cells (shC (.slice pc cs.length cc) (.slice po os.length co) t).toArray 32 (0, 0)) :: (KS_ ++ (Kl10 ++ Kl13))) [(g37, .cells #[] 42 (0, 0))] from Tw.djt) p hp⟩) Tw.om Tw.om) (Z.appO_keep (fun p hp => by simp only [List.mem_cons, List.not_mem_nil, or_false] at hp; rcases hp with rfl | rfl <;> simp only [List.mem_cons, List.mem_append, List.nil_append, List.not_mem_nil, or_assoc, or_false, false_or, true_or, or_true])) Tw.pf ?_
             rintro v39 K9 ⟨Kl39, O39, N39, rfl⟩
             obtain ⟨dj40_0, dj40_1, dj40_2, dj40_3, dj40_4, dj40_5, dj40_6, dj40_7⟩ : Dk g35 Kl39 ∧ Dk g17 Kl39 ∧ Dk g6 Kl39 ∧ Dk g4 Kl39 ∧ Dk g1 Kl39 ∧ Dj KS_ Kl39 ∧ Dj Kl10 Kl39 ∧ Dj Kl13 Kl39 := Tw.djf N39
             refine (show Z.wpV _ _ _ _ _ _ _ _ _ _ ((g35, .cells #[.int .i64 ((boxD k y3).id), .int .i64 y16.col, .int .i64 y16.tier, .int .u8 ((y16.half : Nat) : Int)] 42 (0, 0)) :: (g17, .cells (sltC y16).toArray 40 (0, 0)) :: (g6, .cells (boC (boxD k y3)).toArray 37 (0, 0)) :: (g4, .cells (dpC y3).toArray 131 (0, 0)) :: (g1, .cells (shC (.slice pc cs.length cc) (.slice po os.length co) t).toArray 32 (0, 0)) :: ((KS_ ++ (Kl10 ++ Kl13)) ++ Kl39)) from ?_)
             refine Z.wpV_gk (AppO w 42 4 ((g17, .cells (sltC y16).toArray 40 (0, 0)) :: (g6, .cells (boC (boxD k y3)).toArray 37 (0, 0)) :: (g4, .cells (dpC y3).toArray 131 (0, 0)) :: (g1, .cells (shC (.slice pc cs.length cc) (.slice po os.length co) t).toArray 32 (0, 0)) :: (KS_ ++ (Kl10 ++ Kl13))) ((0 + st.length) + 1) (((([] : List Sd).flatMap sdC) ++ (st.flatMap sdC)) ++ [.int .i64 ((boxD k y3).id), .int .i64 y16.col, .int .i64 y16.tier, .int .u8 ((y16.half : Nat) : Int)])) (i := 8) rfl rfl rfl Tw.kr rfl (app_own el_sd (m := 1) (c := 1) (news := [.int .i64 ((boxD k y3).id), .int .i64 y16.col, .int .i64 y16.tier, .int .u8 ((y16.half : Nat) : Int)]) rfl Tw.kr Tw.kr Tw.m0 O39 Tw.sc (fun p hp => ⟨by simp only [List.mem_cons, List.mem_append, List.nil_append, List.not_mem_nil, or_assoc, or_false, false_or] at hp ⊢ <;> grind, (show Dj ((g17, .cells (sltC y16).toArray 40 (0, 0)) :: (g6, .cells (boC (boxD k y3)).toArray 37 (0, 0)) :: (g4, .cells (dpC y3).toArray 131 (0, 0)) :: (g1, .cells (shC (.slice pc cs.length cc) (.slice po os.length co) t).toArray 32 (0, 0)) :: (KS_ ++ (Kl10 ++ Kl13))) Kl39 from Tw.djt) p hp⟩) rfl (by simp [strV, Value.oneCell']) Tw.om Tw.om Tw.om) (Z.appO_keep (fun p hp => by simp only [List.mem_cons, List.not_mem_nil, or_false] at hp; rcases hp with rfl | rfl <;> simp only [List.mem_cons, List.mem_append, List.nil_append, List.not_mem_nil, or_assoc, or_false, false_or, true_or, or_true])) Tw.pf ?_
             rintro v41 K9 ⟨Kl41, O41, N41, rfl⟩
             obtain ⟨dj42_0, dj42_1, dj42_2, dj42_3, dj42_4, dj42_5, dj42_6⟩ : Dk g17 Kl41 ∧ Dk g6 Kl41 ∧ Dk g4 Kl41 ∧ Dk g1 Kl41 ∧ Dj KS_ Kl41 ∧ Dj Kl10 Kl41 ∧ Dj Kl13 Kl41 := Tw.djf N41
             refine Z.vm (i := 9) (v := v41) rfl rfl rfl ?_
             refine Z.wpV_done Tw.kr (fun W32 hW32 => ?_) _
             change Code.wp ..
             refine wp_seq ?_
             have hq43 := own_app (cells := sdC) (l' := (st ++ [(⟨(boxD k y3).id, y16⟩ : Sd)])) O41 (by simp only [List.flatMap_append, List.flatMap_nil, List.nil_append]; rfl) (by simp only [List.length_append, List.length_nil, List.length_cons] <;> omega)
             obtain ⟨stN, hstN⟩ : ∃ x, (st ++ [(⟨(boxD k y3).id, y16⟩ : Sd)]) = x := ⟨_, rfl⟩
             rw [hstN] at hq43
             have lstN : stN.length = st.length + 1 := by rw [← hstN]; simp only [List.length_append, List.length_nil, List.length_cons] <;> omega
             obtain ⟨p43, c43, rfl, n43, R43⟩ := own_rl hq43
             refine wp_region_V _ Tw.kr hW32 ?_
             refine vm (i := 0) (v := .pointer (some ⟨g17, 0, none⟩)) rfl rfl rfl ?_
             refine vv (i := 1) (v := .int .i64 y16.col) rfl rfl rfl (yb_cell (off := 0) rfl Tw.kr Tw.m0 Try.underlying3 rfl Tw.kr) ?_
             refine vm (i := 2) (v := .pointer (some ⟨g4, 0, none⟩)) rfl rfl rfl ?_
             refine vv (i := 3) (v := .int .u8 ((y3.col : Nat) : Int)) rfl rfl rfl (yb_cell (off := 0) rfl Tw.kr Tw.m2 Try.underlying5 rfl Tw.kr) ?_
             refine vp (i := 4) (v := .int .i64 ((y3.col : Nat) : Int)) rfl rfl rfl (run_conv rfl (vx := (.int .u8 ((y3.col : Nat) : Int))) Tw.kr fun w => cv_int Try.underlying5 Try.underlying3 (wr_i64 Tw.om) w) ?_
             refine vm (i := 5) (v := .pointer (some ⟨g1, 0, none⟩)) rfl rfl rfl ?_
             refine vv (i := 6) (v := .slice pc cs.length cc) rfl rfl rfl (yb_cell (off := 0) rfl Tw.kr Tw.m3 Try.underlying22 rfl Tw.kr) ?_
             refine vp (i := 7) (v := .int .i64 ((cs.length : Nat) : Int)) rfl rfl rfl (run_lenL (p := pc) (cap := cc) (n := cs.length) rfl Try.underlying22 Tw.kr) ?_
             refine vp (i := 8) (v := .int .i64 (((y3.col % cs.length) : Nat) : Int)) rfl rfl rfl (run_bin rfl (vx := (.int .i64 ((y3.col : Nat) : Int))) (vy := (.int .i64 ((cs.length : Nat) : Int))) Tw.kr Tw.kr fun w => bn_rem (z := (y3.col % cs.length)) rfl Tw.om w) ?_
             refine vp (i := 9) (v := .bool (decide (y16.col = (((y3.col % cs.length) : Nat) : Int)))) rfl rfl rfl (run_bin rfl (vx := (.int .i64 y16.col)) (vy := (.int .i64 (((y3.col % cs.length) : Nat) : Int))) Tw.kr Tw.kr fun w => bi_eql rfl w) ?_
             refine vm (i := 10) (v := .bool (decide (y16.col = (((y3.col % cs.length) : Nat) : Int)))) rfl rfl rfl ?_
             cases hd8 : (decide (y16.col = (((y3.col % cs.length) : Nat) : Int))) with
             | false =>
               have h8 : ¬ (y16.col = (((y3.col % cs.length) : Nat) : Int)) := of_decide_eq_false hd8
               clear hd8
               refine vn (i := 11) rfl rfl ?_
               refine vn (i := 12) rfl rfl ?_
               refine vn (i := 13) rfl rfl ?_
               refine vn (i := 14) rfl rfl ?_
               refine vm (i := 15) (v := .bool false) rfl rfl rfl ?_
               refine wpV_done Tw.kr (fun W33 hW33 => ?_) _
               change Code.wp ..
               refine wp_cond_false rfl ?_
               refine wp_skip ?_
               change Code.wp ..
               refine wp_region_L _ hW33 ?_
               refine lp (v := .int .i64 (((j + 1) : Nat) : Int)) rfl rfl (run_bin rfl (vx := (.int .i64 ((j : Nat) : Int))) (vy := (.int .i64 ((1 : Nat) : Int))) Tw.kr Tw.kr fun w => bn_add (z := (j + 1)) rfl (wr_i64 Tw.om) w) ?_
               refine lm (v := .int .i64 (((j + 1) : Nat) : Int)) rfl rfl ?_
               refine wpL_done (fun W34 hW34 => ?_)
               go_roundw
               case rel =>
                 repeat apply Exists.intro
                 exact ⟨⟨j + 1, Tw.om, (by rw [← hTr]; exact (tryS_no1 hy16 h8).symm), rfl, rfl, (hW34.sub (fun p hp => by first | exact hp | (simp only [List.mem_cons, List.mem_append, List.nil_append, List.not_mem_nil, or_assoc, or_false, false_or] at hp ⊢ <;> grind)))⟩, rfl⟩
               case measure => (show xs.length - (intOf (.int .i64 (((j + 1) : Nat) : Int))).toNat < xs.length - (intOf (.int .i64 ((j : Nat) : Int))).toNat); simp only [intOf]; omega
             | true =>
               have h8 : y16.col = (((y3.col % cs.length) : Nat) : Int) := of_decide_eq_true hd8
               clear hd8
               refine vv (i := 11) (v := .agg (shC (.slice pc cs.length cc) (.slice po os.length co) t).toArray) rfl rfl rfl (yb_load (n := 13) (off := 0) rfl Tw.kr Tw.m3 Try.underlying32 rfl Tw.kr (by first | (simp [Value.cells]; done) | exact Nat.le_of_ble_eq_true rfl) Tw.kr) ?_
               refine vm (i := 12) (v := .slice p12 bsN.length c12) rfl rfl rfl ?_
               refine vm (i := 13) (v := .slice p43 stN.length c43) rfl rfl rfl ?_
               refine vv (i := 14) (v := .bool (loadX cs os bsN stN)) rfl rfl rfl (yb_call (f := 18) (args := #[.agg (shC (.slice pc cs.length cc) (.slice po os.length co) t).toArray, .slice p12 bsN.length c12, .slice p43 stN.length c43]) Tw.kf fun W hW => StRight_any cs pc cc Tw.om os po co Tw.om t bsN p12 c12 Tw.om stN p43 c43 Tw.om W ((RL.base HC.out) _ (hW.sub (fun _ h => by cases h))) ((RL.base HO.out) _ (hW.sub (fun _ h => by cases h))) (HR.out.keep hW.1) lr (HQ.out.keep hW.1) lq2 (R12 _ (hW.sub (fun p hp => by simp only [List.mem_cons, List.mem_append, List.nil_append, List.not_mem_nil, or_assoc, or_false, false_or, hp, true_or, or_true]))) (R43 _ (hW.sub (fun p hp => by simp only [List.mem_cons, List.mem_append, List.nil_append, List.not_mem_nil, or_assoc, or_false, false_or, hp, true_or, or_true]))) HOT.out) ?_
               refine vm (i := 15) (v := .bool (loadX cs os bsN stN)) rfl rfl rfl ?_
               refine wpV_done Tw.kr (fun W35 hW35 => ?_) _
               change Code.wp ..
               cases h9 : (loadX cs os bsN stN) with
               | false =>
                 refine wp_cond_false rfl ?_
                 refine wp_skip ?_
                 change Code.wp ..
                 refine wp_region_L _ hW35 ?_
                 refine lp (v := .int .i64 (((j + 1) : Nat) : Int)) rfl rfl (run_bin rfl (vx := (.int .i64 ((j : Nat) : Int))) (vy := (.int .i64 ((1 : Nat) : Int))) Tw.kr Tw.kr fun w => bn_add (z := (j + 1)) rfl (wr_i64 Tw.om) w) ?_
                 refine lm (v := .int .i64 (((j + 1) : Nat) : Int)) rfl rfl ?_
                 refine wpL_done (fun W36 hW36 => ?_)
                 go_roundw
                 case rel =>
                   repeat apply Exists.intro
                   exact ⟨⟨j + 1, Tw.om, (by rw [← hTr]; exact (tryS_no2 hy16 (by rw [hstN]; exact h9)).symm), rfl, rfl, (hW36.sub (fun p hp => by first | exact hp | (simp only [List.mem_cons, List.mem_append, List.nil_append, List.not_mem_nil, or_assoc, or_false, false_or] at hp ⊢ <;> grind)))⟩, rfl⟩
                 case measure => (show xs.length - (intOf (.int .i64 (((j + 1) : Nat) : Int))).toNat < xs.length - (intOf (.int .i64 ((j : Nat) : Int))).toNat); simp only [intOf]; omega
               | true =>
                 refine wp_cond_true rfl ?_
                 refine wp_seq ?_
                 refine wp_region_L _ hW35 ?_
                 refine lm (v := .slice p43 stN.length c43) rfl rfl ?_
                 refine lm (v := .slice p43 stN.length c43) rfl rfl ?_
                 refine wpL_done (fun W37 hW37 => ?_)
                 change Code.wp ..
                 refine wp_exit ?_
                 change Code.wp ..
                 refine wp_region_L _ hW37 ?_
                 refine lp (v := .int .i64 (((k + 1) : Nat) : Int)) rfl rfl (run_bin rfl (vx := (.int .i64 ((k : Nat) : Int))) (vy := (.int .i64 ((1 : Nat) : Int))) Tw.kr Tw.kr fun w => bn_add (z := (k + 1)) rfl (wr_i64 Tw.om) w) ?_
                 refine lm (v := .int .i64 (((k + 1) : Nat) : Int)) rfl rfl ?_
                 refine wpL_done (fun W38 hW38 => ?_)
                 go_roundw
                 case rel =>
                   repeat apply Exists.intro
                   exact ⟨⟨k + 1, bsN, p12, c12, stN, p43, c43, Kl10, Kl41, Tw.om, lbsN, (by rw [lstN]; omega), hq12, R12, hq43, R43, (by rw [hLd, loadedF_step hy3, hbsN, hxs, ← hTr, tryS_yes hy16 h8 (by rw [hstN]; exact h9), hstN]), (show Dk g1 Kl10 from Tw.djt), (show Dk g1 Kl41 from Tw.djt), (show Dj Kl10 Kl41 from Tw.djt), rfl, rfl, rfl, (hW38.sub (fun p hp => by first | exact hp | (simp only [List.mem_cons, List.mem_append, List.nil_append, List.not_mem_nil, or_assoc, or_false, false_or] at hp ⊢ <;> grind)))⟩, rfl⟩
                 case measure => (show ms - (intOf (.int .i64 (((k + 1) : Nat) : Int))).toNat < ms - (intOf (.int .i64 ((k : Nat) : Int))).toNat); simp only [intOf]; omega
end Go.Proofs.Ytnbfljcilojllaa
