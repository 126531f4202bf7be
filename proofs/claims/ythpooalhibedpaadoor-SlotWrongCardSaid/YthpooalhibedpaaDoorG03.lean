import Derived.Test.YthpooalhibedpaaDoorG02
import Derived.Test.YthpooalhibedpaaDoorG00
/- Part of the proof: L8f, Dv, L8g, L8h, L8i, L8j. -/
set_option linter.unusedVariables false
set_option linter.unusedSimpArgs false
set_option linter.unusedSectionVars false
namespace Go.Proofs.YthpooalhibedpaaDoor
open Go Go.RowKit Tw
set_option maxRecDepth 100000 in
set_option maxHeartbeats 4000000 in
theorem AppendSeq_any {W0 : Base} (gf : Nat) (lb : Array Value) (xs : List Slt) (hN : xs.length ≤ 4000000) (v : Value) (Kv : List (Nat × Obj)) (hO : OwnL W0 34 3 v 0 (([] : List Slt).flatMap sltC) Kv) (w : World) (hw : KS W0 Kv w) (eg : ∀ args W, (callFunc gf args).run Tryd.prog W = .ok (.enter gf args) W)
    (hseq : SeqStopsK (FX none) 0 Tryd.prog gf lb encSl (KpT [34, 35] W0.B) (fun ys => ys = xs) (fun _ => True) xs.length w) :
    Calls Tryd.prog 49 #[v, .func (.func gf) #[] lb] w fun e w' => ∃ v' Kl, e = .returned v' ∧ KS W0 Kl w' ∧ OwnL W0 34 3 v' xs.length (xs.flatMap sltC) Kl := by
  obtain ⟨pv, cv, rfl⟩ := own_shape hO
  refine (callsIn_wide (n := 0)).1 ?_
  refine callsIn_of_wp_marks Tryd.func49 rfl trivial ?_
  simp only [Tryd.ntmps49, List.size_toArray, List.length_cons, List.length_nil, Nat.reduceAdd, Nat.reduceSub, Array.replicate_succ, Array.replicate_zero, List.push_toArray, List.append_toArray, List.nil_append, List.cons_append]
  refine wpIn_seq ?_
  refine wp_region_LI (W0 := (w : World)) [] (by kernel_rfl) ((KS.start w)) ?_
  refine wpL_new (fun g => .pointer (some ⟨g, 0, none⟩)) (obi := .cells #[.slice pv 0 cv] 35 (0, 0)) rfl rfl (fun _ => by kernel_rfl) (fun _ => by simp only [List.setIfInBounds_toArray, List.set_cons_succ, List.set_cons_zero] <;> rfl) fun g1 Bg1 Fg1 => ?_
  refine lm (v := .slice none 0 0) rfl rfl ?_
  refine wpL_done (fun W1 hW1 => ?_)
  refine (show Code.wpIn _ _ _ _ _ _ _ from ?_)
  refine wpIn_seq ?_
  refine wpIn_seq ?_
  refine wp_region_LI (W0 := (w : World)) [(g1, .cells #[.slice pv 0 cv] 35 (0, 0))] (by kernel_rfl) (hW1) ?_
  refine lm (v := .func (.func gf) #[] lb) rfl rfl ?_
  refine wpL_done (fun W2 hW2 => ?_)
  refine (show Code.wpIn _ _ _ _ _ _ _ from ?_)
  refine wpIn_block ?_
  have hK0 : KS W0 ((g1, .cells #[.slice pv 0 cv] 35 (0, 0)) :: Kv) W2 := ⟨(hw.below hW2.1).1, List.forall_mem_cons.2 ⟨hW2.2 _ (.head _), (hw.below hW2.1).2⟩⟩
  refine range_k (α := Slt) (ts := [34, 35]) (gf := gf) (lb := lb) (by kernel_rfl) eg (encs := encSl) W0 hseq hW2.1 (fun _ => rfl) (ASI W0 g1) (fun _ _ => False) asi_cells (fun _ _ h => h.elim) ⟨_, Kv, rfl, hO, own_low hw (by assumption)⟩ hK0 ?round ?done ?stop
  case round =>
    rintro L pre x K W ⟨vo, Kl, rfl, hOl, hNl⟩ hK hlen
    have hn : W0.B ≤ W.heap.size := hK.size
    obtain ⟨Kr, hKr⟩ : ∃ Kr, Kr = restT [34, 35] W := ⟨_, rfl⟩
    have hS := at_start [34, 35] hn hK
    rw [← hKr] at hS
    have f1 : Dk g1 Kr := by rw [hKr]; exact restT_ne (hK.2 _ (.head _)) rfl
    have f2 : Dj Kl Kr := by rw [hKr]; exact own_rest hOl hK (fun p hp => .tail _ hp) (.head _)
    generalize hF : Array.foldl _ _ _ _ _ = F
    obtain rfl : F = #[.slice pv 0 cv, .func (.func gf) #[] lb, .pointer (some ⟨g1, 0, none⟩), undef, .slice none 0 0, undef, .func (.func gf) #[] lb, .agg (sltC x).toArray, undef, undef, undef, undef, undef] := hF.symm.trans (by kernel_rfl)
    clear hF
    obtain ⟨po, co, rfl⟩ := own_shape hOl
    have hOa : OwnL (atB W0 W hn) 34 3 (.slice po pre.length co) pre.length (pre.flatMap sltC) Kl := hOl
    have hg2B : W0.B ≤ g1 := Nat.le_trans hw.size (by assumption)
    refine wp_region_LI (W0 := (atB W0 W hn)) ((g1, .cells #[.slice po pre.length co] 35 (0, 0)) :: (Kl ++ Kr)) (by kernel_rfl) (hS) ?_
    refine wpL_new (fun g => .pointer (some ⟨g, 0, none⟩)) (obi := .cells #[.int .i64 0, .int .i64 0, .int .u8 0] 34 (0, 0)) rfl rfl (fun _ => by kernel_rfl) (fun _ => by simp only [List.setIfInBounds_toArray, List.set_cons_succ, List.set_cons_zero] <;> rfl) fun g2 Bg2 Fg2 => ?_
    obtain ⟨dj3_0, dj3_1, dj3_2⟩ : g1 ≠ g2 ∧ Dk g2 Kl ∧ Dk g2 Kr := by simpa only [dj_app_l, dj_app_r, dj_cons_l, dj_cons_r, dj_nil_l, dj_nil_r, dk_app, dk_cons, dk_nil, and_true, true_and, and_assoc] using (show Dk g2 ((g1, .cells #[.slice po pre.length co] 35 (0, 0)) :: (Kl ++ Kr)) from Fg2)
    refine wpL_s ((g2, .cells (sltC x).toArray 34 (0, 0)) :: (g1, .cells #[.slice po pre.length co] 35 (0, 0)) :: (Kl ++ Kr)) rfl rfl (st_row (off := 0) (v := .agg (sltC x).toArray) rfl (by kernel_rfl) (by kernel_rfl) (.head _) Bg2 (by kernel_rfl) (by first | (simp [Value.cells]; done) | exact Nat.le_of_ble_eq_true rfl) (fun v hv => sltC_one x v hv) (by kernel_rfl) (List.forall_mem_cons.2 ⟨.inl rfl, (List.forall_mem_cons.2 ⟨.inr ⟨(.tail _ (.head _)), (by first | assumption | exact Ne.symm (by assumption))⟩, (fun p hp => .inr ⟨(.tail _ (.tail _ hp)), ((show Dk g2 (Kl ++ Kr) from (by (try simp only [dj_app_l, dj_app_r, dj_cons_l, dj_cons_r, dj_nil_l, dj_nil_r, dk_app, dk_cons, dk_nil, and_true, true_and, and_assoc]); repeat' (first | trivial | assumption | exact Dj.symm (by assumption) | exact Ne.symm (by assumption) | apply And.intro))) _ hp)⟩)⟩)⟩)) ?_
    refine wpL_done (fun W3 hW3 => ?_)
    refine (show (KpA [34, 35] W W3 ∧ Below W0.B W W3 ∧ ∃ K2, (∀ p ∈ K2, p.2.isCells = true) ∧ KS W0 K2 W3 ∧ ∀ W3, KS W0 K2 W3 → _) from ?_)
    refine ⟨at_kp hW3 (fun p hp => by rw [← hKr] at hp; simp only [List.mem_cons, List.mem_append, hp, or_true]), hW3.1, ((g2, .cells (sltC x).toArray 34 (0, 0)) :: (g1, .cells #[.slice po pre.length co] 35 (0, 0)) :: Kl), List.forall_mem_cons.2 ⟨rfl, List.forall_mem_cons.2 ⟨rfl, own_cells hOl⟩⟩, (at_back hK hW3).sub (fun p hp => by simp only [List.mem_cons, List.mem_append] at hp ⊢; grind), fun V3 hV3 => ?_⟩
    have hn3 : W0.B ≤ V3.heap.size := hV3.size
    obtain ⟨Kq, hKq⟩ : ∃ Kq, Kq = restT [34, 35] V3 := ⟨_, rfl⟩
    have hS3 := at_start [34, 35] hn3 hV3
    rw [← hKq] at hS3
    have f3 : Dk g1 Kq := by rw [hKq]; exact restT_ne (hV3.2 _ (.tail _ (.head _))) rfl
    have f5 : Dk g2 Kq := by rw [hKq]; exact restT_ne (hV3.2 _ (.head _)) rfl
    have f4 : Dj Kl Kq := by rw [hKq]; exact own_rest hOl hV3 (fun p hp => .tail _ (.tail _ hp)) (.head _)
    have hOb : OwnL (atB W0 V3 hn3) 34 3 (.slice po pre.length co) pre.length (pre.flatMap sltC) Kl := hOl
    have hg5B : W0.B ≤ g2 := by assumption
    refine wpIn_block ?_
    refine wp_region_LI (W0 := (atB W0 V3 hn3)) ((g2, .cells (sltC x).toArray 34 (0, 0)) :: (g1, .cells #[.slice po pre.length co] 35 (0, 0)) :: (Kl ++ Kq)) (by kernel_rfl) (hS3) ?_
    refine lv (v := .slice po pre.length co) rfl rfl (yb_cell (off := 0) rfl (by kernel_rfl) (.tail _ (.head _)) Tryd.underlying35 rfl (by kernel_rfl)) ?_
    refine lv (v := .agg (sltC x).toArray) rfl rfl (yb_load (n := 3) (off := 0) rfl (by kernel_rfl) (.head _) Tryd.underlying34 rfl (by kernel_rfl) (by first | (simp [Value.cells]; done) | exact Nat.le_of_ble_eq_true rfl) (by kernel_rfl)) ?_
    refine wpL_new (fun g => .slice (some ⟨g, 0, none⟩) 1 1) (obi := .cells (sltC x).toArray 34 (0, 0)) rfl rfl (fun _ => by kernel_rfl) (fun _ => by simp only [List.setIfInBounds_toArray, List.set_cons_succ, List.set_cons_zero] <;> rfl) fun g4 Bg4 Fg4 => ?_
    obtain ⟨dj5_0, dj5_1, dj5_2, dj5_3⟩ : g2 ≠ g4 ∧ g1 ≠ g4 ∧ Dk g4 Kl ∧ Dk g4 Kq := by simpa only [dj_app_l, dj_app_r, dj_cons_l, dj_cons_r, dj_nil_l, dj_nil_r, dk_app, dk_cons, dk_nil, and_true, true_and, and_assoc] using (show Dk g4 ((g2, .cells (sltC x).toArray 34 (0, 0)) :: (g1, .cells #[.slice po pre.length co] 35 (0, 0)) :: (Kl ++ Kq)) from Fg4)
    refine wpL_g (AppO (atB W0 V3 hn3) 34 3 ((g2, .cells (sltC x).toArray 34 (0, 0)) :: (g1, .cells #[.slice po pre.length co] 35 (0, 0)) :: Kq) (pre.length + 1) ((pre.flatMap sltC) ++ [.int .i64 x.col, .int .i64 x.tier, .int .u8 ((x.half : Nat) : Int)])) rfl rfl (app_own el_slt (m := 1) (c := 1) (news := [.int .i64 x.col, .int .i64 x.tier, .int .u8 ((x.half : Nat) : Int)]) rfl (by kernel_rfl) (by kernel_rfl) (.head _) hOb (fun p hp => by simp only [List.mem_cons, List.mem_append, List.nil_append, List.not_mem_nil, or_assoc, or_false, false_or, hp, or_true, true_or]) (fun p hp => ⟨by simp only [List.mem_cons, List.mem_append, List.nil_append, List.not_mem_nil, or_assoc, or_false, false_or] at hp ⊢ <;> grind, (show Dj ((g2, .cells (sltC x).toArray 34 (0, 0)) :: (g1, .cells #[.slice po pre.length co] 35 (0, 0)) :: Kq) Kl from (by (try simp only [dj_app_l, dj_app_r, dj_cons_l, dj_cons_r, dj_nil_l, dj_nil_r, dk_app, dk_cons, dk_nil, and_true, true_and, and_assoc]); repeat' (first | trivial | assumption | exact Dj.symm (by assumption) | exact Ne.symm (by assumption) | apply And.intro))) p hp⟩) rfl (by simp [strV, Value.oneCell']) (by omega) (by omega) (by omega)) (fun _ => by simp only [List.setIfInBounds_toArray, List.set_cons_succ, List.set_cons_zero] <;> rfl) ?_
    rintro v6 K9 ⟨Kl6, O6, N6, rfl⟩
    obtain ⟨dj7_0, dj7_1, dj7_2⟩ : Dk g2 Kl6 ∧ Dk g1 Kl6 ∧ Dj Kq Kl6 := by simpa only [dj_app_l, dj_app_r, dj_cons_l, dj_cons_r, dj_nil_l, dj_nil_r, dk_app, dk_cons, dk_nil, and_true, true_and, and_assoc] using (show Dj ((g2, .cells (sltC x).toArray 34 (0, 0)) :: (g1, .cells #[.slice po pre.length co] 35 (0, 0)) :: Kq) Kl6 from N6)
    obtain ⟨p8, c8, rfl⟩ := own_shape O6
    refine wpL_s ((g2, .cells (sltC x).toArray 34 (0, 0)) :: (g1, .cells #[.slice p8 (pre.length + 1) c8] 35 (0, 0)) :: (Kq ++ Kl6)) rfl rfl (st_row (off := 0) (v := .slice p8 (pre.length + 1) c8) rfl (by kernel_rfl) (by kernel_rfl) (.tail _ (.head _)) (show W0.B ≤ _ from hg2B) (by kernel_rfl) (by first | (simp [Value.cells]; done) | exact Nat.le_of_ble_eq_true rfl) (by intro v hv; simp [Value.cells] at hv; first | (subst hv; rfl) | (rcases hv with rfl <;> rfl)) (by kernel_rfl) (List.forall_mem_cons.2 ⟨.inr ⟨(.head _), (by first | assumption | exact Ne.symm (by assumption))⟩, (List.forall_mem_cons.2 ⟨.inl rfl, (fun p hp => .inr ⟨(.tail _ (.tail _ hp)), ((show Dk g1 (Kq ++ Kl6) from (by (try simp only [dj_app_l, dj_app_r, dj_cons_l, dj_cons_r, dj_nil_l, dj_nil_r, dk_app, dk_cons, dk_nil, and_true, true_and, and_assoc]); repeat' (first | trivial | assumption | exact Dj.symm (by assumption) | exact Ne.symm (by assumption) | apply And.intro))) _ hp)⟩)⟩)⟩)) ?_
    refine wpL_done (fun W4 hW4 => ?_)
    refine (show (KpA [34, 35] V3 W4 ∧ Below W0.B V3 W4 ∧ ∃ K, ASI W0 g1 (pre ++ [x]) K ∧ KS W0 K W4) from ?_)
    exact ⟨at_kp hW4 (fun p hp => by rw [← hKq] at hp; simp only [List.mem_cons, List.mem_append, hp, or_true, true_or]), hW4.1, _, ⟨_, _, rfl, own_app O6 (by rw [List.flatMap_append]; rfl) (by rw [List.length_append]; rfl), (show Dk g1 Kl6 from (by (try simp only [dj_app_l, dj_app_r, dj_cons_l, dj_cons_r, dj_nil_l, dj_nil_r, dk_app, dk_cons, dk_nil, and_true, true_and, and_assoc]); repeat' (first | trivial | assumption | exact Dj.symm (by assumption) | exact Ne.symm (by assumption) | apply And.intro)))⟩, (at_back hV3 hW4).sub (fun p hp => by simp only [List.mem_cons, List.mem_append] at hp ⊢; grind)⟩
  case stop =>
    rintro D pre K W _ hf
    exact hf.elim
  case done =>
    rintro D ys K W rfl ⟨vd, Kd, rfl, hOd, hNd⟩ hK hD
    obtain ⟨pd, cd, rfl⟩ := own_shape hOd
    refine (show Code.wpIn _ _ _ _ _ _ _ from ?_)
    refine wpIn_seq ?_
    refine wp_region_LI (W0 := W0) ((D, .deferred (some [])) :: (g1, .cells #[.slice pd ys.length cd] 35 (0, 0)) :: Kd) (by kernel_rfl) (hK) ?_
    refine lv (v := .slice pd ys.length cd) rfl rfl (yb_cell (off := 0) rfl (by kernel_rfl) (.tail _ (.head _)) Tryd.underlying35 rfl (by kernel_rfl)) ?_
    refine lm (v := .slice pd ys.length cd) rfl rfl ?_
    refine wpL_done (fun W5 hW5 => ?_)
    refine (show Code.wpIn _ _ _ _ _ _ _ from ?_)
    refine wpIn_ret ?_
    try simp only [inBlock_ret, then_ret]
    have hD4 := hW5.2 (D, _) (.head _)
    refine ⟨by simp, .inl ⟨_, _, rfl, run_takeDeferred hD4, ?_⟩⟩
    exact ⟨.slice pd ys.length cd, (by kernel_rfl), _, Kd, rfl, ks_putN _ (hW5.sub (fun p hp => .tail _ (.tail _ hp))) (own_cells hOd) (Nat.le_trans (Nat.le_trans hw.size hW2.1.size) hD) hD4 rfl, hOd⟩
end Go.Proofs.YthpooalhibedpaaDoor
/- Several operations of a drawn region are ready. Over any program. -/
namespace Tw
open Go Go.RowKit Go.Proofs.YthpooalhibedpaaDoor
section
variable {P : Program} {md : Region.Mode} {ops : Array Oper} {Q : Exit → Act → World → Prop} {W0 : Base}
theorem wpV_t3x {i j m n : Nat} {listed : Array Bool} {a : Act} {K : List (Nat × Obj)} (hr : Region.ready md ops listed = [i, j, m]) (h : StepV P md ops Q W0 n listed a K i) (h' : StepV P md ops Q W0 n listed a K j) (h'' : StepV P md ops Q W0 n listed a K m) : wpV P md ops Q W0 (n + 1) listed a K :=
  ⟨fun h0 => (by rw [hr] at h0; cases h0), fun k hk => by
    rw [hr] at hk
    rcases List.mem_cons.1 hk with rfl | hk
    · exact h
    · rcases List.mem_cons.1 hk with rfl | hk
      · exact h'
      · cases List.mem_singleton.1 hk
        exact h''⟩
theorem stepV_nsx {i : Nat} {oi : Oper} {d : Nat} {obi : Obj} {n : Nat} {listed : Array Bool} {tm : Array Value} {df : List Deferred} {K : List (Nat × Obj)} {T : Nat → Array Value} (mk : Nat → Value)
    (hi : ops[i]? = some oi) (hdi : oi.dst = some d) (hgi : oi.guard = none) (hai : ∀ w, (execOp (Act.eval ⟨tm, df⟩) oi).run P w = .ok (.value (mk w.heap.size)) (w.alloc obi))
    (hT : ∀ g, (tm.setIfInBounds d (mk g)) = T g)
    (h : ∀ g, W0.B ≤ g → (∀ p ∈ K, p.1 ≠ g) → wpV P md ops Q W0 n (listed.setIfInBounds i true) ⟨T g, df⟩ ((g, obi) :: K)) : StepV P md ops Q W0 n listed ⟨tm, df⟩ K i := by
  refine stepV_alloc mk hi (wanted_no hgi) hai fun g hg hf => ?_
  rw [hdi]
  simp only [Act.put]
  rw [hT g]
  exact h g hg hf
theorem stepV_cx {i : Nat} {oi : Oper} {d n : Nat} {listed : Array Bool} {tm : Array Value} {df : List Deferred} {K : List (Nat × Obj)} {T : Value → Array Value} {f : FuncId} {args : Array Value} (G : Value → List (Nat × Obj) → Prop)
    (hi : ops[i]? = some oi) (hdi : oi.dst = some d) (hw : Region.wanted oi (yielded ops tm) = true)
    (hf : ∀ w, (execOp (Act.eval ⟨tm, df⟩) oi).run P w = .ok (.enter f args) w)
    (hc : ∀ w, KS W0 K w → Calls P f args w fun e w' => ∃ v K', e = .returned v ∧ KS W0 K' w' ∧ G v K') (hm : ∀ v K', G v K' → ∀ p ∈ K, p ∈ K')
    (hT : ∀ v, tm.setIfInBounds d v = T v)
    (h : ∀ v K', G v K' → wpV P md ops Q W0 n (listed.setIfInBounds i true) ⟨T v, df⟩ K') : StepV P md ops Q W0 n listed ⟨tm, df⟩ K i := by
  refine ⟨oi, hi, .inr (.inr (.inr ⟨G, .inr (.inl hm), ⟨hw, fun w hK => ?_⟩, fun v K' hG => ?_⟩))⟩
  · unfold Oto
    rw [hf w]
    exact (hc w hK).mono fun e w' ⟨v, K', he, hk, hG⟩ => ⟨v, he, K', hk, hG⟩
  · rw [hdi]
    simp only [Act.put]
    rw [hT v]
    exact h v K' hG
end
end Tw
namespace Go.Proofs.YthpooalhibedpaaDoor
open Go Go.RowKit Tw
set_option maxRecDepth 100000 in
set_option maxHeartbeats 4000000 in
theorem count_any (cs : List Col) (pc : Option Addr) (cc : Nat) (lc : cs.length ≤ 1000) (os : List Cov) (po : Option Addr) (co : Nat) (lo : os.length ≤ 4000000000) (t : Tl) (ht : ∀ c ∈ cs, c.tiers ≤ 1000) (z : Nat) (w : World) (hc : SLV w pc (cs.flatMap colC)) (ho : SLV w po (os.flatMap covC)) : Calls Tryd.prog 48 #[.agg (shC (.slice pc cs.length cc) (.slice po os.length co) t).toArray, .int .u8 ((z : Nat) : Int)] w fun e w' => e = .returned (.int .i64 ((posT cs * (hsX z).length : Nat) : Int)) ∧ Below w.heap.size w w' := by
  have HC := Lib.hid hc
  clear hc
  have HO := Lib.hid ho
  clear ho
  have hh2 := hsX_len z
  have hpt := posT_take 1000 ht
  go_enter Tryd.func48, Tryd.ntmps48
  refine wp_seq ?_
  refine wp_region_L (W0 := w) [] (KS.start w) ?_
  refine wpL_new (fun g => .pointer (some ⟨g, 0, none⟩)) (obi := .cells (shC (.slice pc cs.length cc) (.slice po os.length co) t).toArray 32 (0, 0)) rfl rfl (fun _ => by kernel_rfl) (fun _ => by simp only [List.setIfInBounds_toArray, List.set_cons_succ, List.set_cons_zero] <;> rfl) fun g1 Bg1 Fg1 => ?_
  refine lm (v := .int .i64 0) rfl rfl ?_
  refine wpL_done (fun W1 hW1 => ?_)
  refine (show Code.wp _ _ _ _ _ from ?_)
  refine wp_seq ?_
  refine wp_region_L (W0 := w) [(g1, .cells (shC (.slice pc cs.length cc) (.slice po os.length co) t).toArray 32 (0, 0))] (hW1) ?_
  refine lm (v := .int .i64 0) rfl rfl ?_
  refine wpL_done (fun W2 hW2 => ?_)
  refine (show Code.wp _ _ _ _ _ from ?_)
  refine wp_seq ?_
  refine wp_seq ?_
  refine wp_region_L (W0 := w) [(g1, .cells (shC (.slice pc cs.length cc) (.slice po os.length co) t).toArray 32 (0, 0))] (hW2) ?_
  refine lm (v := .pointer (some ⟨g1, 0, none⟩)) rfl rfl ?_
  refine lv (v := .slice pc cs.length cc) rfl rfl (yb_cell (off := 0) rfl (by kernel_rfl) (.head _) Tryd.underlying22 rfl (by kernel_rfl)) ?_
  refine lp (v := .int .i64 ((cs.length : Nat) : Int)) rfl rfl (run_lenL (p := pc) (cap := cc) (n := cs.length) rfl Tryd.underlying22 (by kernel_rfl)) ?_
  refine lm (v := .int .i64 0) rfl rfl ?_
  refine wpL_done (fun W3 hW3 => ?_)
  refine (show Code.wp _ _ _ _ _ from ?_)
  refine wp_block ?_
  go_loopw [11, 5] (fun u11 u5 wr => ∃ (k : Nat), (k ≤ cs.length) ∧ u11 = .int .i64 ((k : Nat) : Int) ∧ u5 = .int .i64 (((posT (cs.take k)) : Nat) : Int) ∧ KS w [(g1, .cells (shC (.slice pc cs.length cc) (.slice po os.length co) t).toArray 32 (0, 0))] wr) (fun u11 _ _ => cs.length - (intOf u11).toNat)
  case atStart => exact ⟨0, (Nat.zero_le _), rfl, rfl, (hW3.sub (fun p hp => by first | exact hp | (simp only [List.mem_cons, List.mem_append, List.nil_append, List.not_mem_nil, or_assoc, or_false, false_or] at hp ⊢ <;> grind)))⟩
  case round =>
    obtain ⟨k, hk, rfl, rfl, hL4⟩ := hrel
    have hpk := hpt k
    refine wp_seq ?_
    refine wp_region_L (W0 := w) [(g1, .cells (shC (.slice pc cs.length cc) (.slice po os.length co) t).toArray 32 (0, 0))] (hL4) ?_
    refine lp (v := .bool (decide (k < cs.length))) rfl rfl (run_bin rfl (vx := (.int .i64 ((k : Nat) : Int))) (vy := (.int .i64 ((cs.length : Nat) : Int))) (by kernel_rfl) (by kernel_rfl) fun w => bn_lss rfl w) ?_
    refine wpL_done (fun W5 hW5 => ?_)
    refine (show Code.wp _ _ _ _ _ from ?_)
    refine wp_seq ?_
    cases hd1 : (decide (k < cs.length)) with
    | false =>
      have h1 : ¬ (k < cs.length) := of_decide_eq_false hd1
      clear hd1
      refine wp_cond_false rfl ?_
      refine wp_exit ?_
      refine (show Code.wp _ _ _ _ _ from ?_)
      refine wp_seq ?_
      refine wp_region_L (W0 := w) [(g1, .cells (shC (.slice pc cs.length cc) (.slice po os.length co) t).toArray 32 (0, 0))] (hW5) ?_
      refine lm (v := .int .i64 (((posT (cs.take k)) : Nat) : Int)) rfl rfl ?_
      refine lm (v := .int .u8 ((z : Nat) : Int)) rfl rfl ?_
      refine wpL_c (f := 47) (args := #[.int .u8 ((z : Nat) : Int)]) (OutRL u8C w [(g1, .cells (shC (.slice pc cs.length cc) (.slice po os.length co) t).toArray 32 (0, 0))] (hsX z)) rfl (by kernel_rfl) (fun _ => (by kernel_rfl)) (fun W hW => calls_r hW (halves_any z W)) (fun _ => by simp only [List.setIfInBounds_toArray, List.set_cons_succ, List.set_cons_zero] <;> rfl) ?_
      rintro _ _ ⟨p2, c2, Kl2, rfl, n2, R2, N2, rfl⟩
      obtain dj3_0 : Dk g1 Kl2 := by simpa only [dj_app_l, dj_app_r, dj_cons_l, dj_cons_r, dj_nil_l, dj_nil_r, dk_app, dk_cons, dk_nil, and_true, true_and, and_assoc] using (show Dj [(g1, .cells (shC (.slice pc cs.length cc) (.slice po os.length co) t).toArray 32 (0, 0))] Kl2 from N2)
      refine lp (v := .int .i64 ((((hsX z).length) : Nat) : Int)) rfl rfl (run_lenL (p := p2) (cap := c2) (n := (hsX z).length) rfl Tryd.underlying78 (by kernel_rfl)) ?_
      refine lp (v := .int .i64 ((((posT (cs.take k)) * ((hsX z).length)) : Nat) : Int)) rfl rfl (run_bin rfl (vx := (.int .i64 (((posT (cs.take k)) : Nat) : Int))) (vy := (.int .i64 ((((hsX z).length) : Nat) : Int))) (by kernel_rfl) (by kernel_rfl) fun w => bn_mul (z := ((posT (cs.take k)) * ((hsX z).length))) rfl (wr_i64 (by have h3 := Nat.mul_le_mul hpk hh2; omega)) w) ?_
      refine lm (v := .int .i64 ((((posT (cs.take k)) * ((hsX z).length)) : Nat) : Int)) rfl rfl ?_
      refine wpL_done (fun W6 hW6 => ?_)
      refine (show Code.wp _ _ _ _ _ from ?_)
      refine wp_ret ?_
      try simp only [inBlock_ret, then_ret]
      refine bodyPost_ret (v := .int .i64 ((((posT (cs.take k)) * ((hsX z).length)) : Nat) : Int)) ?_ rfl ?_
      · kernel_rfl
      · exact ⟨(int_is (by rw [posT_all (by omega)])), hW6.1⟩
    | true =>
      have h1 : k < cs.length := of_decide_eq_true hd1
      clear hd1
      refine wp_cond_true rfl ?_
      refine wp_skip ?_
      refine (show Code.wp _ _ _ _ _ from ?_)
      refine wp_seq ?_
      refine wp_block ?_
      refine wp_seq ?_
      refine wp_region_L (W0 := w) [(g1, .cells (shC (.slice pc cs.length cc) (.slice po os.length co) t).toArray 32 (0, 0))] (hW5) ?_
      obtain ⟨y4, g4_, f4_, hy4, hp4, hc4⟩ := RL.at (RL.base HC.out) colC_len (by decide) (hW5.sub (fun _ h => by cases h)) (k := k) (by omega)
      have hty4 := ht y4 (List.mem_of_getElem? hy4)
      have hpk1 := hpt (k + 1)
      refine lp (v := .pointer (some ⟨g4_, f4_ + k * 12, none⟩)) rfl rfl (run_idxQ (p := pc) (cap := cc) (n := cs.length) (j := .i64) (k := k) (sz := 12) rfl Tryd.underlying22 (by kernel_rfl) (by kernel_rfl) hp4 (by kernel_rfl) (by omega)) ?_
      refine lv (v := .agg (colC y4).toArray) rfl rfl (yb_rs (off := f4_ + k * 12) (cs := colC y4) rfl (by kernel_rfl) (fun W hW => hc4 W (hW.sub (fun _ h => by cases h))) Tryd.underlying65 rfl (by kernel_rfl)) ?_
      refine wpL_new (fun g => .pointer (some ⟨g, 0, none⟩)) (obi := .cells #[.int .i64 0, .int .i64 0, .bool false, .int .i64 0, .int .i64 0, .int .i64 0, .int .i64 0, .int .i64 0, .slice none 0 0, .int .i64 0, .int .i64 0, .int .i64 0] 65 (0, 0)) rfl rfl (fun _ => by kernel_rfl) (fun _ => by simp only [List.setIfInBounds_toArray, List.set_cons_succ, List.set_cons_zero] <;> rfl) fun g5 Bg5 Fg5 => ?_
      obtain dj6_0 : g1 ≠ g5 := by simpa only [dj_app_l, dj_app_r, dj_cons_l, dj_cons_r, dj_nil_l, dj_nil_r, dk_app, dk_cons, dk_nil, and_true, true_and, and_assoc] using (show Dk g5 [(g1, .cells (shC (.slice pc cs.length cc) (.slice po os.length co) t).toArray 32 (0, 0))] from Fg5)
      refine wpL_s [(g5, .cells (colC y4).toArray 65 (0, 0)), (g1, .cells (shC (.slice pc cs.length cc) (.slice po os.length co) t).toArray 32 (0, 0))] rfl rfl (st_row (off := 0) (v := .agg (colC y4).toArray) rfl (by kernel_rfl) (by kernel_rfl) (.head _) Bg5 (by kernel_rfl) (by first | (simp [Value.cells]; done) | exact Nat.le_of_ble_eq_true rfl) (fun v hv => colC_one y4 v hv) (by kernel_rfl) (List.forall_mem_cons.2 ⟨.inl rfl, (List.forall_mem_cons.2 ⟨.inr ⟨(.tail _ (.head _)), (by first | assumption | exact Ne.symm (by assumption))⟩, (List.forall_mem_nil _)⟩)⟩)) ?_
      refine wpL_done (fun W7 hW7 => ?_)
      refine (show Code.wp _ _ _ _ _ from ?_)
      refine wp_region_L (W0 := w) [(g5, .cells (colC y4).toArray 65 (0, 0)), (g1, .cells (shC (.slice pc cs.length cc) (.slice po os.length co) t).toArray 32 (0, 0))] (hW7) ?_
      refine lm (v := .int .i64 (((posT (cs.take k)) : Nat) : Int)) rfl rfl ?_
      refine lm (v := .pointer (some ⟨g5, 3, none⟩)) rfl rfl ?_
      refine lv (v := .int .i64 y4.tiers) rfl rfl (yb_cell (off := 3) rfl (by kernel_rfl) (.head _) Tryd.underlying3 rfl (by kernel_rfl)) ?_
      refine lp (v := .int .i64 (((y4.tiers.toNat) : Nat) : Int)) rfl rfl (run_max2 (x := y4.tiers) (y := 0) (z := (((y4.tiers.toNat) : Nat) : Int)) rfl (by kernel_rfl) (by kernel_rfl) (by omega)) ?_
      refine lp (v := .int .i64 (((y4.tiers.toNat) : Nat) : Int)) rfl rfl (run_min2 (x := (((y4.tiers.toNat) : Nat) : Int)) (y := 89478486) (z := (((y4.tiers.toNat) : Nat) : Int)) rfl (by kernel_rfl) (by kernel_rfl) (by omega)) ?_
      refine lp (v := .int .i64 (((posT (cs.take (k + 1))) : Nat) : Int)) rfl rfl (run_bin rfl (vx := (.int .i64 (((posT (cs.take k)) : Nat) : Int))) (vy := (.int .i64 (((y4.tiers.toNat) : Nat) : Int))) (by kernel_rfl) (by kernel_rfl) fun w => bn_add (z := (posT (cs.take (k + 1)))) (posT_step hy4).symm (wr_i64 (by omega)) w) ?_
      refine lm (v := .int .i64 (((posT (cs.take (k + 1))) : Nat) : Int)) rfl rfl ?_
      refine wpL_done (fun W8 hW8 => ?_)
      refine (show Code.wp _ _ _ _ _ from ?_)
      refine wp_region_L (W0 := w) [(g5, .cells (colC y4).toArray 65 (0, 0)), (g1, .cells (shC (.slice pc cs.length cc) (.slice po os.length co) t).toArray 32 (0, 0))] (hW8) ?_
      refine lp (v := .int .i64 (((k + 1) : Nat) : Int)) rfl rfl (run_bin rfl (vx := (.int .i64 ((k : Nat) : Int))) (vy := (.int .i64 ((1 : Nat) : Int))) (by kernel_rfl) (by kernel_rfl) fun w => bn_add (z := (k + 1)) rfl (wr_i64 (by omega)) w) ?_
      refine lm (v := .int .i64 (((k + 1) : Nat) : Int)) rfl rfl ?_
      refine wpL_done (fun W9 hW9 => ?_)
      go_roundw
      case rel =>
        repeat apply Exists.intro
        exact ⟨⟨k + 1, (by omega), rfl, rfl, (hW9.sub (fun p hp => by first | exact hp | (simp only [List.mem_cons, List.mem_append, List.nil_append, List.not_mem_nil, or_assoc, or_false, false_or] at hp ⊢ <;> grind)))⟩, rfl⟩
      case measure => (show cs.length - (intOf (.int .i64 (((k + 1) : Nat) : Int))).toNat < cs.length - (intOf (.int .i64 ((k : Nat) : Int))).toNat); simp only [intOf]; omega
set_option maxRecDepth 100000 in
set_option maxHeartbeats 4000000 in
theorem slots_any {W0 : Base} {K : List (Nat × Obj)} (cs : List Col) (pc : Option Addr) (cc : Nat) (os : List Cov) (po : Option Addr) (co : Nat) (t : Tl) (z : Nat) (w : World) (hw : KS W0 K w) : Calls Tryd.prog 50 #[.agg (shC (.slice pc cs.length cc) (.slice po os.length co) t).toArray, .int .u8 ((z : Nat) : Int)] w fun e w' => ∃ v K', e = .returned v ∧ KS W0 K' w' ∧ (∃ b1 b2, v = .func (.func 81) #[] #[.pointer (some ⟨b1, 0, none⟩), .pointer (some ⟨b2, 0, none⟩)] ∧ K' = K ++ [(b2, .cells #[.int .u8 ((z : Nat) : Int)] 5 (0, 0)), (b1, .cells (shC (.slice pc cs.length cc) (.slice po os.length co) t).toArray 32 (0, 0))] ∧ (∀ p ∈ K, p.1 ≠ b1 ∧ p.1 ≠ b2) ∧ w.heap.size ≤ b1 ∧ w.heap.size ≤ b2 ∧ Below w.heap.size w w') := by
  go_enter Tryd.func50, Tryd.ntmps50
  refine wp_seq ?_
  refine wp_region_L (W0 := w) [] (KS.start w) ?_
  refine wpL_new (fun g => .pointer (some ⟨g, 0, none⟩)) (obi := .cells (shC (.slice pc cs.length cc) (.slice po os.length co) t).toArray 32 (0, 0)) rfl rfl (fun _ => by kernel_rfl) (fun _ => by simp only [List.setIfInBounds_toArray, List.set_cons_succ, List.set_cons_zero] <;> rfl) fun g1 Bg1 Fg1 => ?_
  refine wpL_new (fun g => .pointer (some ⟨g, 0, none⟩)) (obi := .cells #[.int .u8 ((z : Nat) : Int)] 5 (0, 0)) rfl rfl (fun _ => by kernel_rfl) (fun _ => by simp only [List.setIfInBounds_toArray, List.set_cons_succ, List.set_cons_zero] <;> rfl) fun g2 Bg2 Fg2 => ?_
  obtain dj3_0 : g1 ≠ g2 := by simpa only [dj_app_l, dj_app_r, dj_cons_l, dj_cons_r, dj_nil_l, dj_nil_r, dk_app, dk_cons, dk_nil, and_true, true_and, and_assoc] using (show Dk g2 [(g1, .cells (shC (.slice pc cs.length cc) (.slice po os.length co) t).toArray 32 (0, 0))] from Fg2)
  refine lm (v := .nilFunc) rfl rfl ?_
  refine wpL_done (fun W1 hW1 => ?_)
  refine (show Code.wp _ _ _ _ _ from ?_)
  refine wp_seq ?_
  refine wp_region_L (W0 := w) [(g2, .cells #[.int .u8 ((z : Nat) : Int)] 5 (0, 0)), (g1, .cells (shC (.slice pc cs.length cc) (.slice po os.length co) t).toArray 32 (0, 0))] (hW1) ?_
  refine lm (v := .func (.func 81) #[] #[.pointer (some ⟨g1, 0, none⟩), .pointer (some ⟨g2, 0, none⟩)]) rfl rfl ?_
  refine lm (v := .func (.func 81) #[] #[.pointer (some ⟨g1, 0, none⟩), .pointer (some ⟨g2, 0, none⟩)]) rfl rfl ?_
  refine wpL_done (fun W2 hW2 => ?_)
  refine (show Code.wp _ _ _ _ _ from ?_)
  refine wp_ret ?_
  try simp only [inBlock_ret, then_ret]
  refine bodyPost_ret (v := .func (.func 81) #[] #[.pointer (some ⟨g1, 0, none⟩), .pointer (some ⟨g2, 0, none⟩)]) ?_ rfl ?_
  · kernel_rfl
  · exact ⟨_, _, rfl, ⟨(hw.below hW2.1).1, fun p hp => by rcases List.mem_append.1 hp with hp | hp; exact (hw.below hW2.1).2 p hp; exact hW2.2 p hp⟩, g1, g2, rfl, rfl, (fun p hp => ⟨fun e => by have h8 := lt_of_block (hw.2 p hp); have h9 : w.heap.size ≤ g1 := (by assumption); omega, fun e => by have h8 := lt_of_block (hw.2 p hp); have h9 : w.heap.size ≤ g2 := (by assumption); omega⟩), by assumption, by assumption, hW2.1⟩
set_option maxRecDepth 100000 in
set_option maxHeartbeats 4000000 in
theorem All_any (cs : List Col) (pc : Option Addr) (cc : Nat) (lc : cs.length ≤ 1000) (os : List Cov) (po : Option Addr) (co : Nat) (lo : os.length ≤ 4000000000) (t : Tl) (ht : ∀ c ∈ cs, c.tiers ≤ 1000) (z : Nat) (w : World) (hc : SLV w pc (cs.flatMap colC)) (ho : SLV w po (os.flatMap covC)) : Calls Tryd.prog 17 #[.agg (shC (.slice pc cs.length cc) (.slice po os.length co) t).toArray, .int .u8 ((z : Nat) : Int)] w fun e w' => ∃ v, e = .returned v ∧ OutV w w' 34 3 v (slotsX cs z).length ((slotsX cs z).flatMap sltC) ∧ Below w.heap.size w w' := by
  have HC := Lib.hid hc
  clear hc
  have HO := Lib.hid ho
  clear ho
  have hh2 := hsX_len z
  have hpt : posT cs ≤ 1000000 := Nat.le_trans (posT_le (m := 1000) ht) (by omega)
  have hsl := slots_len cs z
  obtain ⟨n, hn⟩ : ∃ n, posT cs * (hsX z).length = n := ⟨_, rfl⟩
  have hnb : n ≤ 2000000 := by have h3 := Nat.mul_le_mul hpt hh2; omega
  rw [hn] at hsl
  go_enter Tryd.func17, Tryd.ntmps17
  refine wp_seq ?_
  refine wp_region_L (W0 := w) [] (KS.start w) ?_
  refine wpL_new (fun g => .pointer (some ⟨g, 0, none⟩)) (obi := .cells (shC (.slice pc cs.length cc) (.slice po os.length co) t).toArray 32 (0, 0)) rfl rfl (fun _ => by kernel_rfl) (fun _ => by simp only [List.setIfInBounds_toArray, List.set_cons_succ, List.set_cons_zero] <;> rfl) fun g1 Bg1 Fg1 => ?_
  refine lm (v := .slice none 0 0) rfl rfl ?_
  refine wpL_done (fun W1 hW1 => ?_)
  refine (show Code.wp _ _ _ _ _ from ?_)
  refine wp_seq ?_
  refine wp_region_L (W0 := w) [(g1, .cells (shC (.slice pc cs.length cc) (.slice po os.length co) t).toArray 32 (0, 0))] (hW1) ?_
  refine lv (v := .agg (shC (.slice pc cs.length cc) (.slice po os.length co) t).toArray) rfl rfl (yb_load (n := 13) (off := 0) rfl (by kernel_rfl) (.head _) Tryd.underlying32 rfl (by kernel_rfl) (by first | (simp [Value.cells]; done) | exact Nat.le_of_ble_eq_true rfl) (by kernel_rfl)) ?_
  refine lm (v := .int .u8 ((z : Nat) : Int)) rfl rfl ?_
  refine lv (v := .int .i64 ((n : Nat) : Int)) rfl rfl (yb_call (f := 48) (args := #[.agg (shC (.slice pc cs.length cc) (.slice po os.length co) t).toArray, .int .u8 ((z : Nat) : Int)]) (fun _ => by kernel_rfl) fun W hW => (by rw [← hn]; exact count_any cs pc cc lc os po co lo t ht z W (HC.out.keep hW.1) (HO.out.keep hW.1))) ?_
  refine lm (v := .int .i64 ((n : Nat) : Int)) rfl rfl ?_
  refine wpL_done (fun W2 hW2 => ?_)
  refine (show Code.wp _ _ _ _ _ from ?_)
  refine wp_seq ?_
  refine wp_seq ?_
  refine wp_region_L (W0 := w) [(g1, .cells (shC (.slice pc cs.length cc) (.slice po os.length co) t).toArray 32 (0, 0))] (hW2) ?_
  refine lm (v := .int .i64 ((n : Nat) : Int)) rfl rfl ?_
  refine lp (v := .bool (decide (n = 0))) rfl rfl (run_bin rfl (vx := (.int .i64 ((n : Nat) : Int))) (vy := (.int .i64 ((0 : Nat) : Int))) (by kernel_rfl) (by kernel_rfl) fun w => bn_eql rfl w) ?_
  refine lm (v := .bool (decide (n = 0))) rfl rfl ?_
  cases hd1 : (decide (n = 0)) with
  | false =>
    have h1 : ¬ (n = 0) := of_decide_eq_false hd1
    clear hd1
    refine lm (v := .int .i64 ((n : Nat) : Int)) rfl rfl ?_
    refine lp (v := .bool false) rfl rfl (run_bin rfl (vx := (.int .i64 ((n : Nat) : Int))) (vy := (.int .i64 ((89478485 : Nat) : Int))) (by kernel_rfl) (by kernel_rfl) fun w => bn_gtr (decide_eq_false (by omega)) w) ?_
    refine lm (v := .bool false) rfl rfl ?_
    refine wpL_done (fun W3 hW3 => ?_)
    refine (show Code.wp _ _ _ _ _ from ?_)
    refine wp_cond_false rfl ?_
    refine wp_skip ?_
    refine (show Code.wp _ _ _ _ _ from ?_)
    refine wp_seq ?_
    refine wp_region_V (W0 := w) [(g1, .cells (shC (.slice pc cs.length cc) (.slice po os.length co) t).toArray 32 (0, 0))] (by kernel_rfl) (hW3) ?_
    refine vm (i := 0) (v := .int .i64 ((n : Nat) : Int)) rfl rfl rfl ?_
    refine vv (i := 2) (v := .agg (shC (.slice pc cs.length cc) (.slice po os.length co) t).toArray) rfl rfl rfl (yb_load (n := 13) (off := 0) rfl (by kernel_rfl) (.head _) Tryd.underlying32 rfl (by kernel_rfl) (by first | (simp [Value.cells]; done) | exact Nat.le_of_ble_eq_true rfl) (by kernel_rfl)) ?_
    refine vm (i := 3) (v := .int .u8 ((z : Nat) : Int)) rfl rfl rfl ?_
    refine wpV_2 (i := 1) (j := 4) (by kernel_rfl) ?_ ?_
    · refine stepV_nsx (fun g => .slice (some ⟨g, 0, none⟩) 0 n) (i := 1) (obi := .cells (madeCells (Value.cells (.agg #[.int .i64 0, .int .i64 0, .int .u8 0])) (n * 3)) 34 (0, 0)) rfl rfl rfl (run_mk0 (c := n) (z := (.agg #[.int .i64 0, .int .i64 0, .int .u8 0])) (sz := 3) (b := 24) rfl Tryd.underlying35 (by kernel_rfl) (by decide) (by kernel_rfl) (by kernel_rfl) (by omega)) (fun _ => by simp only [List.setIfInBounds_toArray, List.set_cons_succ, List.set_cons_zero] <;> rfl) fun g2 Bg2 Fg2 => ?_
      obtain dj3_0 : g1 ≠ g2 := by simpa only [dj_app_l, dj_app_r, dj_cons_l, dj_cons_r, dj_nil_l, dj_nil_r, dk_app, dk_cons, dk_nil, and_true, true_and, and_assoc] using (show Dk g2 [(g1, .cells (shC (.slice pc cs.length cc) (.slice po os.length co) t).toArray 32 (0, 0))] from Fg2)
      refine wpV_c (i := 4) (fun v K9 => ∃ b1 b2, v = .func (.func 81) #[] #[.pointer (some ⟨b1, 0, none⟩), .pointer (some ⟨b2, 0, none⟩)] ∧ K9 = [(g2, .cells (madeCells (Value.cells (.agg #[.int .i64 0, .int .i64 0, .int .u8 0])) (n * 3)) 34 (0, 0)), (g1, .cells (shC (.slice pc cs.length cc) (.slice po os.length co) t).toArray 32 (0, 0))] ++ [(b2, Obj.cells #[Value.int .u8 ((z : Nat) : Int)] 5 (0, 0)), (b1, Obj.cells (shC (Value.slice pc cs.length cc) (Value.slice po os.length co) t).toArray 32 (0, 0))] ∧ (∀ p : Nat × Obj, p ∈ ([(g2, .cells (madeCells (Value.cells (.agg #[.int .i64 0, .int .i64 0, .int .u8 0])) (n * 3)) 34 (0, 0)), (g1, .cells (shC (.slice pc cs.length cc) (.slice po os.length co) t).toArray 32 (0, 0))] : List (Nat × Obj)) → p.1 ≠ b1 ∧ p.1 ≠ b2)) rfl rfl (by kernel_rfl) (by kernel_rfl) (fun _ => (by kernel_rfl)) (fun W hW => ((slots_any cs pc cc os po co t z W hW).mono fun e w' ⟨v, K9, h1, h2, b1, b2, h3, h4, h5, _, _, _⟩ => ⟨v, K9, h1, h2, b1, b2, h3, h4, h5⟩)) (fun v K9 hG => by obtain ⟨_, _, _, rfl, _⟩ := hG; exact fun p hp => List.mem_append_left _ hp) (fun _ => by simp only [List.setIfInBounds_toArray, List.set_cons_succ, List.set_cons_zero] <;> rfl) ?_
      rintro _ _ ⟨b1, b2, rfl, rfl, hne⟩
      refine wpV_cl (i := 5) (fun v K9 => OwnL (w : Base) 34 3 v (slotsX cs z).length ((slotsX cs z).flatMap sltC) K9) rfl rfl (by kernel_rfl) (by kernel_rfl) (fun _ => (by kernel_rfl)) (fun W hW => ((AppendSeq_any (W0 := (w : Base)) 81 #[.pointer (some ⟨b1, 0, none⟩), .pointer (some ⟨b2, 0, none⟩)] (slotsX cs z) (by omega) _ _ (own_made (cells := sltC) (c := n) (E := 34) (z := (.agg #[.int .i64 0, .int .i64 0, .int .u8 0])) Bg2 rfl (by omega)) W (hW.sub (fun p hp => by cases List.mem_singleton.1 hp; exact (.head _))) (fun _ _ => by kernel_rfl) (slots1_stops w.heap.size b1 b2 cs pc cc (.slice po os.length co) t z W hW.size (by omega) (fun c hc => by have := ht c hc; omega) (hW.2 _ (.tail _ (.tail _ (.tail _ (.head _))))) (hW.2 _ (.tail _ (.tail _ (.head _)))) (fun W9 h9 => HC.out.keep (hW.1.trans h9)))).mono fun e w' ⟨v, Kl, h1, h2, h3⟩ => ⟨v, Kl, h1, h2, h3⟩)) (by kernel_rfl) (fun _ => by simp only [List.setIfInBounds_toArray, List.set_cons_succ, List.set_cons_zero] <;> rfl) ?_
      rintro vq Kq hOq
      refine vm (i := 6) (v := vq) rfl rfl rfl ?_
      refine wpV_done (by kernel_rfl) (fun W4 hW4 => ?_) _
      refine (show Code.wp _ _ _ _ _ from ?_)
      refine wp_ret ?_
      try simp only [inBlock_ret, then_ret]
      refine bodyPost_ret (v := vq) ?_ rfl ?_
      · kernel_rfl
      · exact ⟨_, rfl, hOq.out (fun p hp => hp) hW4, hW4.1⟩
    · refine stepV_cx (i := 4) (fun v K9 => ∃ b1 b2, v = .func (.func 81) #[] #[.pointer (some ⟨b1, 0, none⟩), .pointer (some ⟨b2, 0, none⟩)] ∧ K9 = [(g1, .cells (shC (.slice pc cs.length cc) (.slice po os.length co) t).toArray 32 (0, 0))] ++ [(b2, Obj.cells #[Value.int .u8 ((z : Nat) : Int)] 5 (0, 0)), (b1, Obj.cells (shC (Value.slice pc cs.length cc) (Value.slice po os.length co) t).toArray 32 (0, 0))] ∧ (∀ p : Nat × Obj, p ∈ ([(g1, .cells (shC (.slice pc cs.length cc) (.slice po os.length co) t).toArray 32 (0, 0))] : List (Nat × Obj)) → p.1 ≠ b1 ∧ p.1 ≠ b2)) rfl rfl (by kernel_rfl) (fun _ => (by kernel_rfl)) (fun W hW => ((slots_any cs pc cc os po co t z W hW).mono fun e w' ⟨v, K9, h1, h2, b1, b2, h3, h4, h5, _, _, _⟩ => ⟨v, K9, h1, h2, b1, b2, h3, h4, h5⟩)) (fun v K9 hG => by obtain ⟨_, _, _, rfl, _⟩ := hG; exact fun p hp => List.mem_append_left _ hp) (fun _ => by simp only [List.setIfInBounds_toArray, List.set_cons_succ, List.set_cons_zero] <;> rfl) ?_
      rintro _ _ ⟨b1, b2, rfl, rfl, hne⟩
      refine wpV_ns (fun g => .slice (some ⟨g, 0, none⟩) 0 n) (i := 1) (obi := .cells (madeCells (Value.cells (.agg #[.int .i64 0, .int .i64 0, .int .u8 0])) (n * 3)) 34 (0, 0)) rfl rfl rfl (by kernel_rfl) (run_mk0 (c := n) (z := (.agg #[.int .i64 0, .int .i64 0, .int .u8 0])) (sz := 3) (b := 24) rfl Tryd.underlying35 (by kernel_rfl) (by decide) (by kernel_rfl) (by kernel_rfl) (by omega)) (fun _ => by simp only [List.setIfInBounds_toArray, List.set_cons_succ, List.set_cons_zero] <;> rfl) fun g6 Bg6 Fg6 => ?_
      obtain ⟨dj7_0, dj7_1, dj7_2⟩ : g1 ≠ g6 ∧ b2 ≠ g6 ∧ b1 ≠ g6 := by simpa only [dj_app_l, dj_app_r, dj_cons_l, dj_cons_r, dj_nil_l, dj_nil_r, dk_app, dk_cons, dk_nil, and_true, true_and, and_assoc] using (show Dk g6 [(g1, .cells (shC (.slice pc cs.length cc) (.slice po os.length co) t).toArray 32 (0, 0)), (b2, .cells #[.int .u8 ((z : Nat) : Int)] 5 (0, 0)), (b1, .cells (shC (.slice pc cs.length cc) (.slice po os.length co) t).toArray 32 (0, 0))] from Fg6)
      refine wpV_cl (i := 5) (fun v K9 => OwnL (w : Base) 34 3 v (slotsX cs z).length ((slotsX cs z).flatMap sltC) K9) rfl rfl (by kernel_rfl) (by kernel_rfl) (fun _ => (by kernel_rfl)) (fun W hW => ((AppendSeq_any (W0 := (w : Base)) 81 #[.pointer (some ⟨b1, 0, none⟩), .pointer (some ⟨b2, 0, none⟩)] (slotsX cs z) (by omega) _ _ (own_made (cells := sltC) (c := n) (E := 34) (z := (.agg #[.int .i64 0, .int .i64 0, .int .u8 0])) Bg6 rfl (by omega)) W (hW.sub (fun p hp => by cases List.mem_singleton.1 hp; exact (.head _))) (fun _ _ => by kernel_rfl) (slots1_stops w.heap.size b1 b2 cs pc cc (.slice po os.length co) t z W hW.size (by omega) (fun c hc => by have := ht c hc; omega) (hW.2 _ (.tail _ (.tail _ (.tail _ (.head _))))) (hW.2 _ (.tail _ (.tail _ (.head _)))) (fun W9 h9 => HC.out.keep (hW.1.trans h9)))).mono fun e w' ⟨v, Kl, h1, h2, h3⟩ => ⟨v, Kl, h1, h2, h3⟩)) (by kernel_rfl) (fun _ => by simp only [List.setIfInBounds_toArray, List.set_cons_succ, List.set_cons_zero] <;> rfl) ?_
      rintro vq Kq hOq
      refine vm (i := 6) (v := vq) rfl rfl rfl ?_
      refine wpV_done (by kernel_rfl) (fun W5 hW5 => ?_) _
      refine (show Code.wp _ _ _ _ _ from ?_)
      refine wp_ret ?_
      try simp only [inBlock_ret, then_ret]
      refine bodyPost_ret (v := vq) ?_ rfl ?_
      · kernel_rfl
      · exact ⟨_, rfl, hOq.out (fun p hp => hp) hW5, hW5.1⟩
  | true =>
    have h1 : n = 0 := of_decide_eq_true hd1
    clear hd1
    refine ln rfl ?_
    refine ln rfl ?_
    refine lm (v := .bool true) rfl rfl ?_
    refine wpL_done (fun W6 hW6 => ?_)
    refine (show Code.wp _ _ _ _ _ from ?_)
    refine wp_cond_true rfl ?_
    refine wp_seq ?_
    refine wp_region_L (W0 := w) [(g1, .cells (shC (.slice pc cs.length cc) (.slice po os.length co) t).toArray 32 (0, 0))] (hW6) ?_
    refine lm (v := .slice none 0 0) rfl rfl ?_
    refine wpL_done (fun W7 hW7 => ?_)
    refine (show Code.wp _ _ _ _ _ from ?_)
    refine wp_ret ?_
    try simp only [inBlock_ret, then_ret]
    refine bodyPost_ret (v := .slice none 0 0) ?_ rfl ?_
    · kernel_rfl
    · exact ⟨_, rfl, .inl ⟨by omega, by rw [List.eq_nil_of_length_eq_zero (l := slotsX cs z) (by omega)]; rfl, rfl⟩, hW7.1⟩
end Go.Proofs.YthpooalhibedpaaDoor
/- Names of slots: plain. -/
namespace Go.Proofs.YthpooalhibedpaaDoor
open Go Go.RowKit Tw
-- the digits of a name
theorem digs_len {l : List UInt8} (h : digsOk l = true) : l.length = 7 := by
  unfold digsOk at h; simp at h; exact h.1
theorem digs_no {l : List UInt8} {k : Nat} {b : UInt8} (hb : l[k]? = some b) (h : isDg b = false) : digsOk l = false := by
  cases hd : digsOk l with
  | false => rfl
  | true =>
    unfold digsOk at hd
    simp only [Bool.and_eq_true, List.all_eq_true] at hd
    rw [hd.2 b (List.mem_of_getElem? hb)] at h
    cases h
theorem digs_nl {l : List UInt8} (h : ¬ l.length = 7) : digsOk l = false := by unfold digsOk; simp [h]
theorem dg_in {b : UInt8} (h : isDg b = true) : 48 ≤ b.toNat ∧ b.toNat ≤ 57 := by unfold isDg at h; simpa using h
theorem dg_of {b : UInt8} (h1 : ¬ b.toNat < 48) (h2 : ¬ 57 < b.toNat) : isDg b = true := by unfold isDg; simp; omega
theorem dg_lo {b : UInt8} (h1 : b.toNat < 48) : isDg b = false := by unfold isDg; simp; omega
theorem dg_hi {b : UInt8} (h1 : 57 < b.toNat) : isDg b = false := by unfold isDg; simp; omega
def dgC (b : UInt8) : Value := .int .i64 ((b.toNat - 48 : Nat) : Int)
theorem digs_yes {l : List UInt8} {b0 b1 b2 b3 b4 b5 b6 : UInt8} (hl : l.length = 7) (h0 : l[0]? = some b0) (h1 : l[1]? = some b1) (h2 : l[2]? = some b2) (h3 : l[3]? = some b3) (h4 : l[4]? = some b4) (h5 : l[5]? = some b5) (h6 : l[6]? = some b6)
    (k : isDg b0 = true ∧ isDg b1 = true ∧ isDg b2 = true ∧ isDg b3 = true ∧ isDg b4 = true ∧ isDg b5 = true ∧ isDg b6 = true) : l = [b0, b1, b2, b3, b4, b5, b6] ∧ digsOk l = true := by
  rcases l with _ | ⟨a0, _ | ⟨a1, _ | ⟨a2, _ | ⟨a3, _ | ⟨a4, _ | ⟨a5, _ | ⟨a6, _ | ⟨a7, l⟩⟩⟩⟩⟩⟩⟩⟩ <;> simp at hl
  simp at h0 h1 h2 h3 h4 h5 h6
  subst h0 h1 h2 h3 h4 h5 h6
  refine ⟨rfl, ?_⟩
  unfold digsOk
  simp [k]
theorem digs_split {l : List UInt8} (h : digsOk l = true) : ∃ b0 b1 b2 b3 b4 b5 b6, l = [b0, b1, b2, b3, b4, b5, b6] ∧ (48 ≤ b0.toNat ∧ b0.toNat ≤ 57) ∧ (48 ≤ b1.toNat ∧ b1.toNat ≤ 57) ∧ (48 ≤ b2.toNat ∧ b2.toNat ≤ 57) ∧ (48 ≤ b3.toNat ∧ b3.toNat ≤ 57) ∧ (48 ≤ b4.toNat ∧ b4.toNat ≤ 57) ∧ (48 ≤ b5.toNat ∧ b5.toNat ≤ 57) ∧ (48 ≤ b6.toNat ∧ b6.toNat ≤ 57) := by
  have hl := digs_len h
  rcases l with _ | ⟨a0, _ | ⟨a1, _ | ⟨a2, _ | ⟨a3, _ | ⟨a4, _ | ⟨a5, _ | ⟨a6, _ | ⟨a7, l⟩⟩⟩⟩⟩⟩⟩⟩ <;> simp at hl
  unfold digsOk at h
  simp only [Bool.and_eq_true, List.all_eq_true] at h
  exact ⟨a0, a1, a2, a3, a4, a5, a6, rfl, dg_in (h.2 _ (by simp)), dg_in (h.2 _ (by simp)), dg_in (h.2 _ (by simp)), dg_in (h.2 _ (by simp)), dg_in (h.2 _ (by simp)), dg_in (h.2 _ (by simp)), dg_in (h.2 _ (by simp))⟩
-- the package's table
def codesL : List Value := [.int .i64 2, .int .i64 1, .int .i64 3]
structure Env (w : World) : Prop where
  codes : w.var? Tryd.prog "twistlock/slot.codes" = some codesL.toArray
theorem var_keep {P : Program} {w w' : World} {n : String} {cs : Array Value} (h : w.var? P n = some cs) (hb : Below w.heap.size w w') : w'.var? P n = some cs := by
  unfold World.var? at *
  cases hg : P.globalNamed n with
  | none => rw [hg] at h; cases h
  | some g =>
    rw [hg] at h
    simp only [Option.bind_some] at h ⊢
    cases hh : w.heap[g]? with
    | none => rw [hh] at h; cases h
    | some o => rw [hb.block g (lt_of_block hh)]; exact h
theorem Env.keep {w w' : World} (h : Env w) (hb : Below w.heap.size w w') : Env w' := ⟨var_keep h.codes hb⟩
theorem gCodes : Tryd.prog.globalNamed "twistlock/slot.codes" = some 0 := by kernel_rfl
theorem Env.cap {w : World} (h : Env w) : CapR w 0 codesL := by
  have hc : ∀ (j : Nat) (v : Value), codesL[j]? = some v → w.cell? ⟨0, 0 + j, none⟩ = some v := fun j v hv => by
    rw [Nat.zero_add, World.var?_cell gCodes h.codes j]
    simpa using hv
  exact ⟨World.block_lt_of_cell? _ _ (hc 0 (.int .i64 2) rfl), hc⟩
theorem codes_at {h : Nat} (hh : h ≤ 2) : codesL[h]? = some (.int .i64 ((codeN h : Nat) : Int)) := by
  rcases h with _ | _ | _ | h
  · rfl
  · rfl
  · rfl
  · omega
-- the digits as they are written, from the last one on
def stp (s : List Nat × Nat) (i : Fin 7) : List Nat × Nat := (s.1.set i.1 (48 + s.2 % 10), s.2 / 10)
def stpA (n : Nat) (l : List (Fin 7)) : List Nat × Nat := l.foldl stp ([0, 0, 0, 0, 0, 0, 0], n)
theorem stpA_snoc (n : Nat) (l : List (Fin 7)) (i : Fin 7) : stpA n (l ++ [i]) = stp (stpA n l) i := by unfold stpA; rw [List.foldl_append]; rfl
theorem stpA_len (n : Nat) (l : List (Fin 7)) : (stpA n l).1.length = 7 := by
  have key : ∀ (l : List (Fin 7)) (s : List Nat × Nat), s.1.length = 7 → (l.foldl stp s).1.length = 7 := by
    intro l
    induction l with
    | nil => intro s h; exact h
    | cons i l ih => intro s h; exact ih _ (by simp [stp, h])
  exact key l _ rfl
theorem stpA_lt (n : Nat) (l : List (Fin 7)) : (∀ x ∈ (stpA n l).1, x ≤ 57) ∧ (stpA n l).2 ≤ n := by
  have key : ∀ (l : List (Fin 7)) (s : List Nat × Nat), (∀ x ∈ s.1, x ≤ 57) → s.2 ≤ n → (∀ x ∈ (l.foldl stp s).1, x ≤ 57) ∧ (l.foldl stp s).2 ≤ n := by
    intro l
    induction l with
    | nil => intro s h h2; exact ⟨h, h2⟩
    | cons i l ih =>
      intro s h h2
      refine ih _ (fun x hx => ?_) (Nat.le_trans (Nat.div_le_self _ _) h2)
      rcases List.mem_or_eq_of_mem_set hx with hx | rfl
      · exact h x hx
      · omega
  exact key l _ (fun x hx => by simp at hx; omega) (Nat.le_refl _)
def allI : List (Fin 7) := [6, 5, 4, 3, 2, 1, 0]
theorem stp_all (n : Nat) : (stpA n allI).1 = [48 + n / 1000000 % 10, 48 + n / 100000 % 10, 48 + n / 10000 % 10, 48 + n / 1000 % 10, 48 + n / 100 % 10, 48 + n / 10 % 10, 48 + n % 10] := by
  show [48 + n / 10 / 10 / 10 / 10 / 10 / 10 % 10, 48 + n / 10 / 10 / 10 / 10 / 10 % 10, 48 + n / 10 / 10 / 10 / 10 % 10, 48 + n / 10 / 10 / 10 % 10, 48 + n / 10 / 10 % 10, 48 + n / 10 % 10, 48 + n % 10] = _
  simp only [Nat.div_div_eq_div_mul]
def Gd7 (g : Nat) (W : World) : Prop := ∃ l : List Nat, l.length = 7 ∧ (∀ x ∈ l, x ≤ 255) ∧ W.heap[g]? = some (.cells (l.flatMap u8C).toArray 143 (0, 0))
theorem gd7_keep {g : Nat} {W W' : World} {K : List (Nat × Obj)} (h : Gd7 g W) (hk : KS (W : Base) K W') : Gd7 g W' := by
  obtain ⟨l, h1, h2, h3⟩ := h
  exact ⟨l, h1, h2, (hk.1.block g (lt_of_block h3)).trans h3⟩
def encB (x : Fin 7 × Nat) : Array Value := #[.int .i64 ((x.1.1 : Nat) : Int), .int .u8 ((x.2 : Nat) : Int)]
def dnI : Nat → List (Fin 7)
  | 0 => []
  | m + 1 => if h : m < 7 then ⟨m, h⟩ :: dnI m else dnI m
theorem dnI_s {m : Nat} (h : m < 7) : dnI (m + 1) = ⟨m, h⟩ :: dnI m := by simp [dnI, h]
theorem dnI_len : ∀ {j : Nat}, j ≤ 7 → (dnI j).length = j
  | 0, _ => rfl
  | m + 1, h => by rw [dnI_s (by omega), List.length_cons, dnI_len (by omega)]
theorem dn_room {pre : List (Fin 7 × Nat)} {m : Nat} (h : allI = pre.map (·.1) ++ dnI (m + 1)) (hm : m < 7) : pre.length < 7 := by
  have h1 := congrArg List.length h
  rw [List.length_append, dnI_len (by omega), List.length_map] at h1
  have h2 : allI.length = 7 := rfl
  omega
theorem dn_next {pre : List (Fin 7 × Nat)} {m y : Nat} (h : allI = pre.map (·.1) ++ dnI (m + 1)) (hm : m < 7) : allI = (pre ++ [((⟨m, hm⟩ : Fin 7), y)]).map (·.1) ++ dnI m := by
  rw [h, dnI_s hm]; simp
theorem u8_set {l : List Nat} {k v : Nat} (hk : k < l.length) : (l.flatMap u8C).toArray.setIfInBounds (0 + k * 1) (.int .u8 ((v : Nat) : Int)) = ((l.set k v).flatMap u8C).toArray := by
  have e : ∀ l : List Nat, l.flatMap u8C = l.map fun n => Value.int .u8 ((n : Nat) : Int) := fun l => by
    induction l with
    | nil => rfl
    | cons a l ih => rw [List.flatMap_cons, ih]; rfl
  rw [e, e, List.setIfInBounds_toArray, List.map_set, Nat.zero_add, Nat.mul_one]
def TXI (N g3 g4 : Nat) (ys : List (Fin 7 × Nat)) (K : List (Nat × Obj)) : Prop := K = [(g4, .cells ((stpA N (ys.map (·.1))).1.flatMap u8C).toArray 143 (0, 0)), (g3, .cells #[.int .i64 (((stpA N (ys.map (·.1))).2 : Nat) : Int)] 3 (0, 0))] ∧ g3 ≠ g4
theorem txi_cells {N g3 g4 : Nat} (ys : List (Fin 7 × Nat)) (K : List (Nat × Obj)) (h : TXI N g3 g4 ys K) : ∀ p ∈ K, p.2.isCells = true := by
  obtain ⟨rfl, _⟩ := h
  exact List.forall_mem_cons.2 ⟨rfl, List.forall_mem_cons.2 ⟨rfl, List.forall_mem_nil _⟩⟩
theorem txi_gd {W0 : Base} {N g3 g4 : Nat} (ys : List (Fin 7 × Nat)) (K : List (Nat × Obj)) (W : World) (h : TXI N g3 g4 ys K) (hk : KS W0 K W) : Gd7 g4 W := by
  obtain ⟨rfl, _⟩ := h
  exact ⟨_, stpA_len _ _, fun x hx => by have := (stpA_lt N (ys.map (·.1))).1 x hx; omega, hk.2 _ (.head _)⟩
theorem str_is {l m : List UInt8} (h : l = m) : Ending.returned (strV l) = .returned (strV m) := by rw [h]
theorem row_dg {M : Nat} : RowB ([48 + M / 1000000 % 10, 48 + M / 100000 % 10, 48 + M / 10000 % 10, 48 + M / 1000 % 10, 48 + M / 100 % 10, 48 + M / 10 % 10, 48 + M % 10].flatMap u8C).toArray (txtN M) := by
  show [Value.int .u8 ((48 + M / 1000000 % 10 : Nat) : Int), .int .u8 ((48 + M / 100000 % 10 : Nat) : Int), .int .u8 ((48 + M / 10000 % 10 : Nat) : Int), .int .u8 ((48 + M / 1000 % 10 : Nat) : Int), .int .u8 ((48 + M / 100 % 10 : Nat) : Int), .int .u8 ((48 + M / 10 % 10 : Nat) : Int), .int .u8 ((48 + M % 10 : Nat) : Int)] = u8s (txtN M)
  unfold u8s txtN
  simp only [List.map_cons, List.map_nil, dgB_nat]
end Go.Proofs.YthpooalhibedpaaDoor
namespace Go.Proofs.YthpooalhibedpaaDoor
open Go Go.RowKit Tw
set_option maxRecDepth 100000 in
set_option maxHeartbeats 4000000 in
theorem backward_stops (n₀ b1 g4 : Nat) (w0 : World) (hn0 : n₀ ≤ w0.heap.size) (hb1 : w0.heap[b1]? = some (.cells #[.slice (some ⟨g4, 0, none⟩) 7 7] 78 (0, 0))) (hG0 : Gd7 g4 w0) :
    SeqStopsK (FX none) 0 Tryd.prog 114 #[.pointer (some ⟨b1, 0, none⟩)] encB (fun A B => KpT [143, 3] n₀ A B ∧ (Gd7 g4 A → Gd7 g4 B)) (fun ys => ys.map (·.1) = allI) (fun _ => True) 7 w0 := by
  intro l J Jx W1 hB0 hJa hJxa hYd hJ0
  have hBw : Below n₀ w0 W1 := hB0.mono hn0
  have hG1 : Gd7 g4 W1 := gd7_keep (W := w0) (K := []) hG0 ⟨hB0, fun _ h => by cases h⟩
  have hR1 : KS (W1 : World) [(b1, .cells #[.slice (some ⟨g4, 0, none⟩) 7 7] 78 (0, 0))] W1 := ⟨Below.refl _ _, List.forall_mem_cons.2 ⟨(hB0.block b1 (lt_of_block hb1)).trans hb1, List.forall_mem_nil _⟩⟩
  refine callsIn_of_wp Tryd.func114 rfl trivial ?_ rfl
  simp only [Tryd.ntmps114, List.size_toArray, List.length_cons, List.length_nil, Nat.reduceAdd, Nat.reduceSub, Array.replicate_succ, Array.replicate_zero, List.push_toArray, List.append_toArray, List.nil_append, List.cons_append]
  refine wpIn_seq ?_
  refine wp_region_LI (W0 := (W1 : World)) [(b1, .cells #[.slice (some ⟨g4, 0, none⟩) 7 7] 78 (0, 0))] (by kernel_rfl) (hR1) ?_
  refine lv (v := .slice (some ⟨g4, 0, none⟩) 7 7) rfl rfl (yb_cell (off := 0) rfl (by kernel_rfl) (.head _) Tryd.underlying78 rfl (by kernel_rfl)) ?_
  refine lp (v := .int .i64 7) rfl rfl (run_lenL (p := (some ⟨g4, 0, none⟩)) (cap := 7) (n := 7) rfl Tryd.underlying78 (by kernel_rfl)) ?_
  refine lm (v := .int .i64 6) rfl rfl ?_
  refine lm (v := .int .i64 6) rfl rfl ?_
  refine wpL_done (fun W2 hW2 => ?_)
  have hR2 : KS (W2 : World) [(b1, .cells #[.slice (some ⟨g4, 0, none⟩) 7 7] 78 (0, 0))] W2 := ⟨Below.refl _ _, hW2.2⟩
  have hJ2 := abideK hJa hJ0 hW2
  have hB2 := hBw.trans (hW2.1.mono (Nat.le_trans hn0 hBw.size))
  have hG2 := gd7_keep hG1 hW2
  refine (show Code.wpIn _ _ _ _ _ _ _ from ?_)
  refine wpIn_block ?_
  gi_loopw [3] (fun u3 wr => ∃ (j : Nat) (pre : List (Fin 7 × Nat)), (j ≤ 7) ∧ (allI = pre.map (·.1) ++ dnI j) ∧ (J pre wr) ∧ (Below n₀ w0 wr) ∧ (Gd7 g4 wr) ∧ u3 = .int .i64 (((j : Nat) : Int) - 1) ∧ KS (wr : World) [(b1, .cells #[.slice (some ⟨g4, 0, none⟩) 7 7] 78 (0, 0))] wr) (fun u3 _ => (intOf u3 + 1).toNat)
  case atStart => exact ⟨7, [], (by omega), rfl, hJ2, hB2, hG2, rfl, (hR2.sub (fun p hp => by first | exact hp | (simp only [List.mem_cons, List.mem_append, List.nil_append, List.not_mem_nil, or_assoc, or_false, false_or] at hp ⊢ <;> grind)))⟩
  case round =>
    obtain ⟨j, pre, hj, hxs, hJl2, hBl2, hGl2, rfl, hL3⟩ := hrel
    have hRl2 := hL3
    refine wpIn_seq ?_
    refine wpIn_seq ?_
    refine wp_region_LI (W0 := (wr : World)) [(b1, .cells #[.slice (some ⟨g4, 0, none⟩) 7 7] 78 (0, 0))] (by kernel_rfl) (hRl2) ?_
    refine lm (v := .int .i64 (((j : Nat) : Int) - 1)) rfl rfl ?_
    refine lp (v := .bool (!(decide ((((j : Nat) : Int) - 1) < 0)))) rfl rfl (run_bin rfl (vx := (.int .i64 (((j : Nat) : Int) - 1))) (vy := (.int .i64 0)) (by kernel_rfl) (by kernel_rfl) fun w => bi_geq rfl w) ?_
    refine wpL_done (fun W4 hW4 => ?_)
    have hR4 : KS (W4 : World) [(b1, .cells #[.slice (some ⟨g4, 0, none⟩) 7 7] 78 (0, 0))] W4 := ⟨Below.refl _ _, hW4.2⟩
    have hJ4 := abideK hJa hJl2 hW4
    have hB4 := hBl2.trans (hW4.1.mono (Nat.le_trans hn0 hBl2.size))
    have hG4 := gd7_keep hGl2 hW4
    refine (show Code.wpIn _ _ _ _ _ _ _ from ?_)
    cases hd1 : (decide ((((j : Nat) : Int) - 1) < 0)) with
    | false =>
      have h1 : ¬ ((((j : Nat) : Int) - 1) < 0) := of_decide_eq_false hd1
      clear hd1
      obtain ⟨m, rfl⟩ : ∃ m, j = m + 1 := ⟨j - 1, by omega⟩
      have hm7 : m < 7 := by omega
      rw [show (((m + 1 : Nat) : Int) - 1) = ((m : Nat) : Int) from by omega]
      refine wpIn_cond_true rfl ?_
      refine wpIn_skip ?_
      refine (show Code.wpIn _ _ _ _ _ _ _ from ?_)
      refine wpIn_seq ?_
      refine wpIn_block ?_
      refine wpIn_seq ?_
      have hGb := hG4
      obtain ⟨lb, hlb, hub, hgb⟩ := hGb
      have hRLb : RL u8C ((W4 : World) : Base) (some ⟨g4, 0, none⟩) lb [(g4, .cells (lb.flatMap u8C).toArray 143 (0, 0))] := fun W hW => blk_slv hW (.head _)
      have hRb : KS (W4 : World) [(g4, .cells (lb.flatMap u8C).toArray 143 (0, 0)), (b1, .cells #[.slice (some ⟨g4, 0, none⟩) 7 7] 78 (0, 0))] _ := ⟨Below.refl _ _, List.forall_mem_cons.2 ⟨hgb, hR4.2⟩⟩
      refine wp_region_S (W0 := (W4 : World)) (List.take 6 _) (List.drop 6 _) [(g4, .cells (lb.flatMap u8C).toArray 143 (0, 0)), (b1, .cells #[.slice (some ⟨g4, 0, none⟩) 7 7] 78 (0, 0))] (List.take_append_drop 6 _).symm (by kernel_rfl) (hRb) ?_
      simp only [List.take_succ_cons, List.take_zero, List.drop_succ_cons, List.drop_zero]
      refine lm (v := .func (.yield l) #[] #[]) rfl rfl ?_
      refine lm (v := .int .i64 ((m : Nat) : Int)) rfl rfl ?_
      refine lv (v := .slice (some ⟨g4, 0, none⟩) 7 7) rfl rfl (yb_cell (off := 0) rfl (by kernel_rfl) (.tail _ (.head _)) Tryd.underlying78 rfl (by kernel_rfl)) ?_
      refine lm (v := .int .i64 ((m : Nat) : Int)) rfl rfl ?_
      obtain ⟨y6, g6_, f6_, hy6, hp6, hc6⟩ := RL.at hRLb u8C_len (by decide) (hRb.sub (fun p hp => by cases List.mem_singleton.1 hp; exact .head _)) (k := m) (by omega)
      refine lp (v := .pointer (some ⟨g6_, f6_ + m * 1, none⟩)) rfl rfl (run_idxQ (p := (some ⟨g4, 0, none⟩)) (cap := 7) (n := 7) (j := .i64) (k := m) (sz := 1) rfl Tryd.underlying78 (by kernel_rfl) (by kernel_rfl) hp6 (by kernel_rfl) (by omega)) ?_
      refine lv (v := .int .u8 ((y6 : Nat) : Int)) rfl rfl (yb_rf (v := .int .u8 ((y6 : Nat) : Int)) rfl (by kernel_rfl) (fun W hW => hc6 W (hW.sub (fun p hp => by cases List.mem_singleton.1 hp; exact .head _)) 0 _ rfl) Tryd.underlying5 rfl) ?_
      refine wpL_done (fun W5 hW5 => ?_)
      have hR5 : KS (W5 : World) [(g4, .cells (lb.flatMap u8C).toArray 143 (0, 0)), (b1, .cells #[.slice (some ⟨g4, 0, none⟩) 7 7] 78 (0, 0))] W5 := ⟨Below.refl _ _, hW5.2⟩
      have hJ5 := abideK hJa hJ4 hW5
      have hB5 := hB4.trans (hW5.1.mono (Nat.le_trans hn0 hB4.size))
      have hG5 := gd7_keep hG4 hW5
      refine (show wpListIn _ _ _ _ _ _ _ _ from ?_)
      have hRd5 : KS (W5 : World) [(b1, .cells #[.slice (some ⟨g4, 0, none⟩) 7 7] 78 (0, 0))] W5 := hR5.sub (fun p hp => .tail _ hp)
      have hYY := hYd pre ((⟨m, hm7⟩ : Fin 7), y6) W5 hJ5 (dn_room hxs hm7)
      refine wpl_yield2 rfl rfl (by kernel_rfl) (by kernel_rfl) (by kernel_rfl) (by kernel_rfl) rfl hYY (by simp only [List.setIfInBounds_toArray, List.set_cons_succ, List.set_cons_zero] <;> rfl) (by simp only [List.setIfInBounds_toArray, List.set_cons_succ, List.set_cons_zero] <;> rfl) (fun W6 hA6 => ?_) (fun W6 hX6 => ?_)
      · obtain ⟨hJy6, hKy6, hGy6⟩ := hA6
        have hG6 := hGy6 hG5
        have hko6 : ∀ p ∈ ([(b1, .cells #[.slice (some ⟨g4, 0, none⟩) 7 7] 78 (0, 0))] : List (Nat × Obj)), p.2.isCells = true ∧ ownT [143, 3] p.2 = false := (List.forall_mem_cons.2 ⟨⟨rfl, rfl⟩, (List.forall_mem_nil _)⟩)
        have hR6 : KS (W6 : World) [(b1, .cells #[.slice (some ⟨g4, 0, none⟩) 7 7] 78 (0, 0))] W6 := ⟨Below.refl _ _, fun p hp => hKy6.same _ _ (hRd5.2 p hp) (hko6 p hp).1 (hko6 p hp).2⟩
        have hB6 := hB5.trans hKy6.below
        refine wpl_rest (W0 := (W6 : World)) [(b1, .cells #[.slice (some ⟨g4, 0, none⟩) 7 7] 78 (0, 0))] (by kernel_rfl) (hR6) ?_
        refine lm (v := .bool false) rfl rfl ?_
        refine wpL_done (fun W7 hW7 => ?_)
        have hR7 : KS (W7 : World) [(b1, .cells #[.slice (some ⟨g4, 0, none⟩) 7 7] 78 (0, 0))] W7 := ⟨Below.refl _ _, hW7.2⟩
        have hJ7 := abideK hJa hJy6 hW7
        have hB7 := hB6.trans (hW7.1.mono (Nat.le_trans hn0 hB6.size))
        have hG7 := gd7_keep hG6 hW7
        refine (show Code.wpIn _ _ _ _ _ _ _ from ?_)
        refine wpIn_cond_false rfl ?_
        refine wpIn_skip ?_
        refine (show Code.wpIn _ _ _ _ _ _ _ from ?_)
        refine wp_region_LI (W0 := (W7 : World)) [(b1, .cells #[.slice (some ⟨g4, 0, none⟩) 7 7] 78 (0, 0))] (by kernel_rfl) (hR7) ?_
        refine lm (v := .int .i64 ((m : Nat) : Int)) rfl rfl ?_
        refine lp (v := .int .i64 (((m : Nat) : Int) - 1)) rfl rfl (run_bin rfl (vx := (.int .i64 ((m : Nat) : Int))) (vy := (.int .i64 1)) (by kernel_rfl) (by kernel_rfl) fun w => bi_sub (z := (((m : Nat) : Int) - 1)) rfl (wi_i64 (by omega)) w) ?_
        refine lm (v := .int .i64 (((m : Nat) : Int) - 1)) rfl rfl ?_
        refine wpL_done (fun W8 hW8 => ?_)
        have hR8 : KS (W8 : World) [(b1, .cells #[.slice (some ⟨g4, 0, none⟩) 7 7] 78 (0, 0))] W8 := ⟨Below.refl _ _, hW8.2⟩
        have hJ8 := abideK hJa hJ7 hW8
        have hB8 := hB7.trans (hW8.1.mono (Nat.le_trans hn0 hB7.size))
        have hG8 := gd7_keep hG7 hW8
        go_roundw
        case rel =>
          repeat apply Exists.intro
          exact ⟨⟨m, (pre ++ [((⟨m, hm7⟩ : Fin 7), y6)]), (by omega), (dn_next hxs hm7), hJ8, hB8, hG8, rfl, (hR8.sub (fun p hp => by first | exact hp | (simp only [List.mem_cons, List.mem_append, List.nil_append, List.not_mem_nil, or_assoc, or_false, false_or] at hp ⊢ <;> grind)))⟩, rfl⟩
        case measure => (show (intOf (.int .i64 (((m : Nat) : Int) - 1)) + 1).toNat < (intOf (.int .i64 ((m : Nat) : Int)) + 1).toNat); simp only [intOf]; omega
      · refine wpl_rest (W0 := (W6 : World)) [] (by kernel_rfl) ((KS.start W6)) ?_
        refine lm (v := .bool true) rfl rfl ?_
        refine wpL_done (fun W9 hW9 => ?_)
        refine (show Code.wpIn _ _ _ _ _ _ _ from ?_)
        refine wpIn_cond_true rfl ?_
        refine wpIn_ret ?_
        try simp only [inBlock_ret, then_ret]
        refine bodyPost_ret (results_none rfl _ _ _) rfl ?_
        exact ⟨⟨_, rfl⟩, .inr ⟨_, trivial, abideK hJxa hX6 hW9⟩⟩
    | true =>
      have h1 : (((j : Nat) : Int) - 1) < 0 := of_decide_eq_true hd1
      clear hd1
      obtain rfl : j = 0 := by omega
      refine wpIn_cond_false rfl ?_
      refine wpIn_exit ?_
      simp only [then_exitX, inBlock_exitX]
      refine bodyPost_end (results_none rfl _ _ _) rfl ?_
      exact ⟨⟨_, rfl⟩, .inl ⟨_, (hxs.trans (List.append_nil _)).symm, hJ4⟩⟩
end Go.Proofs.YthpooalhibedpaaDoor
namespace Go.Proofs.YthpooalhibedpaaDoor
open Go Go.RowKit Tw
set_option maxRecDepth 100000 in
set_option maxHeartbeats 4000000 in
theorem tierNumber_any (t : Nat) (d : Bool) (ht : t ≤ 100) (w : World) : Calls Tryd.prog 98 #[.int .i64 ((t : Nat) : Int), .bool d] w fun e w' => e = .returned (.int .i64 ((tierN t d : Nat) : Int)) ∧ Below w.heap.size w w' := by
  go_enter Tryd.func98, Tryd.ntmps98
  refine wp_seq ?_
  refine wp_region_L (W0 := w) [] (KS.start w) ?_
  refine lm (v := .int .i64 0) rfl rfl ?_
  refine wpL_done (fun W1 hW1 => ?_)
  refine (show Code.wp _ _ _ _ _ from ?_)
  refine wp_seq ?_
  refine wp_region_L (W0 := w) [] (hW1) ?_
  refine lm (v := .int .i64 ((t : Nat) : Int)) rfl rfl ?_
  refine lp (v := .int .i64 (((t + 1) : Nat) : Int)) rfl rfl (run_bin rfl (vx := (.int .i64 ((t : Nat) : Int))) (vy := (.int .i64 ((1 : Nat) : Int))) (by kernel_rfl) (by kernel_rfl) fun w => bn_add (z := (t + 1)) rfl (wr_i64 (by omega)) w) ?_
  refine lp (v := .int .i64 (((2 * (t + 1)) : Nat) : Int)) rfl rfl (run_bin rfl (vx := (.int .i64 ((2 : Nat) : Int))) (vy := (.int .i64 (((t + 1) : Nat) : Int))) (by kernel_rfl) (by kernel_rfl) fun w => bn_mul (z := (2 * (t + 1))) rfl (wr_i64 (by omega)) w) ?_
  refine lm (v := .int .i64 (((2 * (t + 1)) : Nat) : Int)) rfl rfl ?_
  refine wpL_done (fun W2 hW2 => ?_)
  refine (show Code.wp _ _ _ _ _ from ?_)
  refine wp_seq ?_
  refine wp_seq ?_
  refine wp_region_L (W0 := w) [] (hW2) ?_
  refine lm (v := .bool d) rfl rfl ?_
  refine wpL_done (fun W3 hW3 => ?_)
  refine (show Code.wp _ _ _ _ _ from ?_)
  cases h1 : d with
  | false =>
    refine wp_cond_false rfl ?_
    refine wp_skip ?_
    refine (show Code.wp _ _ _ _ _ from ?_)
    refine wp_seq ?_
    refine wp_region_L (W0 := w) [] (hW3) ?_
    refine lm (v := .int .i64 (((2 * (t + 1)) : Nat) : Int)) rfl rfl ?_
    refine lp (v := .int .i64 ((((2 * (t + 1)) % 100) : Nat) : Int)) rfl rfl (run_bin rfl (vx := (.int .i64 (((2 * (t + 1)) : Nat) : Int))) (vy := (.int .i64 ((100 : Nat) : Int))) (by kernel_rfl) (by kernel_rfl) fun w => bn_rem (z := ((2 * (t + 1)) % 100)) rfl (by omega) w) ?_
    refine lm (v := .int .i64 ((((2 * (t + 1)) % 100) : Nat) : Int)) rfl rfl ?_
    refine wpL_done (fun W4 hW4 => ?_)
    refine (show Code.wp _ _ _ _ _ from ?_)
    refine wp_ret ?_
    try simp only [inBlock_ret, then_ret]
    refine bodyPost_ret (v := .int .i64 ((((2 * (t + 1)) % 100) : Nat) : Int)) ?_ rfl ?_
    · kernel_rfl
    · exact ⟨(int_is (by unfold tierN; rfl)), hW4.1⟩
  | true =>
    refine wp_cond_true rfl ?_
    refine wp_region_L (W0 := w) [] (hW3) ?_
    refine lm (v := .int .i64 (((2 * (t + 1)) : Nat) : Int)) rfl rfl ?_
    refine lp (v := .int .i64 ((((2 * (t + 1)) + 80) : Nat) : Int)) rfl rfl (run_bin rfl (vx := (.int .i64 (((2 * (t + 1)) : Nat) : Int))) (vy := (.int .i64 ((80 : Nat) : Int))) (by kernel_rfl) (by kernel_rfl) fun w => bn_add (z := ((2 * (t + 1)) + 80)) rfl (wr_i64 (by omega)) w) ?_
    refine lm (v := .int .i64 ((((2 * (t + 1)) + 80) : Nat) : Int)) rfl rfl ?_
    refine wpL_done (fun W5 hW5 => ?_)
    refine (show Code.wp _ _ _ _ _ from ?_)
    refine wp_seq ?_
    refine wp_region_L (W0 := w) [] (hW5) ?_
    refine lm (v := .int .i64 ((((2 * (t + 1)) + 80) : Nat) : Int)) rfl rfl ?_
    refine lp (v := .int .i64 (((((2 * (t + 1)) + 80) % 100) : Nat) : Int)) rfl rfl (run_bin rfl (vx := (.int .i64 ((((2 * (t + 1)) + 80) : Nat) : Int))) (vy := (.int .i64 ((100 : Nat) : Int))) (by kernel_rfl) (by kernel_rfl) fun w => bn_rem (z := (((2 * (t + 1)) + 80) % 100)) rfl (by omega) w) ?_
    refine lm (v := .int .i64 (((((2 * (t + 1)) + 80) % 100) : Nat) : Int)) rfl rfl ?_
    refine wpL_done (fun W6 hW6 => ?_)
    refine (show Code.wp _ _ _ _ _ from ?_)
    refine wp_ret ?_
    try simp only [inBlock_ret, then_ret]
    refine bodyPost_ret (v := .int .i64 (((((2 * (t + 1)) + 80) % 100) : Nat) : Int)) ?_ rfl ?_
    · kernel_rfl
    · exact ⟨(int_is (by unfold tierN; rfl)), hW6.1⟩
set_option maxRecDepth 100000 in
set_option maxHeartbeats 4000000 in
theorem Backward_any {W0 : Base} {K : List (Nat × Obj)} (p : Option Addr) (n c : Nat) (w : World) (hw : KS W0 K w) : Calls Tryd.prog 99 #[.slice p n c] w fun e w' => ∃ v K', e = .returned v ∧ KS W0 K' w' ∧ (∃ b1, v = .func (.func 114) #[] #[.pointer (some ⟨b1, 0, none⟩)] ∧ K' = K ++ [(b1, .cells #[.slice p n c] 78 (0, 0))] ∧ (∀ p ∈ K, p.1 ≠ b1) ∧ w.heap.size ≤ b1 ∧ Below w.heap.size w w') := by
  go_enter Tryd.func99, Tryd.ntmps99
  refine wp_seq ?_
  refine wp_region_L (W0 := w) [] (KS.start w) ?_
  refine wpL_new (fun g => .pointer (some ⟨g, 0, none⟩)) (obi := .cells #[.slice p n c] 78 (0, 0)) rfl rfl (fun _ => by kernel_rfl) (fun _ => by simp only [List.setIfInBounds_toArray, List.set_cons_succ, List.set_cons_zero] <;> rfl) fun g1 Bg1 Fg1 => ?_
  refine lm (v := .nilFunc) rfl rfl ?_
  refine wpL_done (fun W1 hW1 => ?_)
  refine (show Code.wp _ _ _ _ _ from ?_)
  refine wp_seq ?_
  refine wp_region_L (W0 := w) [(g1, .cells #[.slice p n c] 78 (0, 0))] (hW1) ?_
  refine lm (v := .func (.func 114) #[] #[.pointer (some ⟨g1, 0, none⟩)]) rfl rfl ?_
  refine lm (v := .func (.func 114) #[] #[.pointer (some ⟨g1, 0, none⟩)]) rfl rfl ?_
  refine wpL_done (fun W2 hW2 => ?_)
  refine (show Code.wp _ _ _ _ _ from ?_)
  refine wp_ret ?_
  try simp only [inBlock_ret, then_ret]
  refine bodyPost_ret (v := .func (.func 114) #[] #[.pointer (some ⟨g1, 0, none⟩)]) ?_ rfl ?_
  · kernel_rfl
  · exact ⟨_, _, rfl, ⟨(hw.below hW2.1).1, fun p hp => by rcases List.mem_append.1 hp with hp | hp; exact (hw.below hW2.1).2 p hp; exact hW2.2 p hp⟩, g1, rfl, rfl, (fun p hp e => by have h8 := lt_of_block (hw.2 p hp); have h9 : w.heap.size ≤ g1 := (by assumption); omega), by assumption, hW2.1⟩
set_option maxRecDepth 100000 in
set_option maxHeartbeats 4000000 in
theorem text_nat (b r t h : Nat) (d : Bool) (hb : b ≤ 39) (hr : r ≤ 30) (ht : t ≤ 9) (hh : h ≤ 2) (w : World) (hE : Env w) : Calls Tryd.prog 67 #[.agg #[.int .i64 ((b : Nat) : Int), .int .i64 ((r : Nat) : Int), .int .i64 ((t : Nat) : Int), .bool d, .int .u8 ((h : Nat) : Int)]] w fun e w' => e = .returned (strV (txtN (numN b r t d h))) ∧ Below w.heap.size w w' := by
  have HE := Lib.hid hE
  clear hE
  have hcd := codeN_le h
  have htn := (tier_num (d := d) ht).2.2.2
  obtain ⟨M, hM⟩ : ∃ M, numN b r t d h = M := ⟨_, rfl⟩
  have hM2 : M ≤ 9999999 := by have := (numN_lt (h := h) (d := d) hb hr ht).1; omega
  rw [hM]
  refine (callsIn_wide (n := 0)).1 ?_
  refine callsIn_of_wp_marks Tryd.func67 rfl trivial ?_
  simp only [Tryd.ntmps67, List.size_toArray, List.length_cons, List.length_nil, Nat.reduceAdd, Nat.reduceSub, Array.replicate_succ, Array.replicate_zero, List.push_toArray, List.append_toArray, List.nil_append, List.cons_append]
  refine wpIn_seq ?_
  refine wp_region_LI (W0 := (w : World)) [] (by kernel_rfl) ((KS.start w)) ?_
  refine wpL_new (fun g => .pointer (some ⟨g, 0, none⟩)) (obi := .cells #[.int .i64 ((b : Nat) : Int), .int .i64 ((r : Nat) : Int), .int .i64 ((t : Nat) : Int), .bool d, .int .u8 ((h : Nat) : Int)] 111 (0, 0)) rfl rfl (fun _ => by kernel_rfl) (fun _ => by simp only [List.setIfInBounds_toArray, List.set_cons_succ, List.set_cons_zero] <;> rfl) fun g1 Bg1 Fg1 => ?_
  refine lm (v := strV []) rfl rfl ?_
  refine wpL_done (fun W1 hW1 => ?_)
  refine (show Code.wpIn _ _ _ _ _ _ _ from ?_)
  refine wpIn_seq ?_
  refine wp_region_VI (W0 := (w : World)) [(g1, .cells #[.int .i64 ((b : Nat) : Int), .int .i64 ((r : Nat) : Int), .int .i64 ((t : Nat) : Int), .bool d, .int .u8 ((h : Nat) : Int)] 111 (0, 0))] (by kernel_rfl) (by kernel_rfl) (hW1) ?_
  refine vm (i := 0) (v := .pointer (some ⟨g1, 0, none⟩)) rfl rfl rfl ?_
  refine vv (i := 1) (v := .int .i64 ((b : Nat) : Int)) rfl rfl rfl (yb_cell (off := 0) rfl (by kernel_rfl) (.head _) Tryd.underlying3 rfl (by kernel_rfl)) ?_
  refine vp (i := 2) (v := .int .i64 (((4 * b) : Nat) : Int)) rfl rfl rfl (run_bin rfl (vx := (.int .i64 ((4 : Nat) : Int))) (vy := (.int .i64 ((b : Nat) : Int))) (by kernel_rfl) (by kernel_rfl) fun w => bn_mul (z := (4 * b)) rfl (wr_i64 (by omega)) w) ?_
  refine vm (i := 3) (v := .pointer (some ⟨g1, 4, none⟩)) rfl rfl rfl ?_
  refine vv (i := 4) (v := .int .u8 ((h : Nat) : Int)) rfl rfl rfl (yb_cell (off := 4) rfl (by kernel_rfl) (.head _) Tryd.underlying5 rfl (by kernel_rfl)) ?_
  refine vp (i := 5) (v := .pointer (some ⟨0, 0 + h * 1, none⟩)) rfl rfl rfl (run_idxA (j := .u8) (b := 0) (off := 0) (k := h) (sz := 1) rfl Tryd.underlying141 (by kernel_rfl) (by kernel_rfl) (by kernel_rfl) (by omega)) ?_
  refine vb (i := 6) (v := .int .i64 (((codeN h) : Nat) : Int)) rfl rfl rfl (yb_rf (v := .int .i64 (((codeN h) : Nat) : Int)) rfl (by kernel_rfl) (fun W hW => (show W.cell? ⟨0, 0 + h * 1, none⟩ = some _ from by rw [Nat.mul_one]; exact (HE.out.cap.keep hW.1).2 h _ (codes_at hh))) Tryd.underlying3 rfl) ?_
  refine vp (i := 7) (v := .int .i64 ((((4 * b) + (codeN h)) : Nat) : Int)) rfl rfl rfl (run_bin rfl (vx := (.int .i64 (((4 * b) : Nat) : Int))) (vy := (.int .i64 (((codeN h) : Nat) : Int))) (by kernel_rfl) (by kernel_rfl) fun w => bn_add (z := ((4 * b) + (codeN h))) rfl (wr_i64 (by omega)) w) ?_
  refine vp (i := 8) (v := .int .i64 (((((4 * b) + (codeN h)) * 10000) : Nat) : Int)) rfl rfl rfl (run_bin rfl (vx := (.int .i64 ((((4 * b) + (codeN h)) : Nat) : Int))) (vy := (.int .i64 ((10000 : Nat) : Int))) (by kernel_rfl) (by kernel_rfl) fun w => bn_mul (z := (((4 * b) + (codeN h)) * 10000)) rfl (wr_i64 (by omega)) w) ?_
  refine vm (i := 9) (v := .pointer (some ⟨g1, 1, none⟩)) rfl rfl rfl ?_
  refine vv (i := 10) (v := .int .i64 ((r : Nat) : Int)) rfl rfl rfl (yb_cell (off := 1) rfl (by kernel_rfl) (.head _) Tryd.underlying3 rfl (by kernel_rfl)) ?_
  refine vp (i := 11) (v := .int .i64 (((r * 100) : Nat) : Int)) rfl rfl rfl (run_bin rfl (vx := (.int .i64 ((r : Nat) : Int))) (vy := (.int .i64 ((100 : Nat) : Int))) (by kernel_rfl) (by kernel_rfl) fun w => bn_mul (z := (r * 100)) rfl (wr_i64 (by omega)) w) ?_
  refine vp (i := 12) (v := .int .i64 ((((((4 * b) + (codeN h)) * 10000) + (r * 100)) : Nat) : Int)) rfl rfl rfl (run_bin rfl (vx := (.int .i64 (((((4 * b) + (codeN h)) * 10000) : Nat) : Int))) (vy := (.int .i64 (((r * 100) : Nat) : Int))) (by kernel_rfl) (by kernel_rfl) fun w => bn_add (z := ((((4 * b) + (codeN h)) * 10000) + (r * 100))) rfl (wr_i64 (by omega)) w) ?_
  refine vm (i := 13) (v := .pointer (some ⟨g1, 2, none⟩)) rfl rfl rfl ?_
  refine vv (i := 14) (v := .int .i64 ((t : Nat) : Int)) rfl rfl rfl (yb_cell (off := 2) rfl (by kernel_rfl) (.head _) Tryd.underlying3 rfl (by kernel_rfl)) ?_
  refine vm (i := 15) (v := .pointer (some ⟨g1, 3, none⟩)) rfl rfl rfl ?_
  refine vv (i := 16) (v := .bool d) rfl rfl rfl (yb_cell (off := 3) rfl (by kernel_rfl) (.head _) Tryd.underlying4 rfl (by kernel_rfl)) ?_
  refine vv (i := 17) (v := .int .i64 (((tierN t d) : Nat) : Int)) rfl rfl rfl (yb_call (f := 98) (args := #[.int .i64 ((t : Nat) : Int), .bool d]) (fun _ => by kernel_rfl) fun W hW => tierNumber_any t d (by omega) W) ?_
  refine vp (i := 18) (v := .int .i64 ((M : Nat) : Int)) rfl rfl rfl (run_bin rfl (vx := (.int .i64 ((((((4 * b) + (codeN h)) * 10000) + (r * 100)) : Nat) : Int))) (vy := (.int .i64 (((tierN t d) : Nat) : Int))) (by kernel_rfl) (by kernel_rfl) fun w => bn_add (z := M) (by rw [← hM]; unfold numN; rfl) (wr_i64 (by omega)) w) ?_
  refine wpV_ns (fun g => .pointer (some ⟨g, 0, none⟩)) (i := 19) (obi := .cells #[.int .i64 0] 3 (0, 0)) rfl rfl rfl (by kernel_rfl) (fun _ => by kernel_rfl) (fun _ => by simp only [List.setIfInBounds_toArray, List.set_cons_succ, List.set_cons_zero] <;> rfl) fun g2 Bg2 Fg2 => ?_
  obtain dj3_0 : g1 ≠ g2 := by simpa only [dj_app_l, dj_app_r, dj_cons_l, dj_cons_r, dj_nil_l, dj_nil_r, dk_app, dk_cons, dk_nil, and_true, true_and, and_assoc] using (show Dk g2 [(g1, .cells #[.int .i64 ((b : Nat) : Int), .int .i64 ((r : Nat) : Int), .int .i64 ((t : Nat) : Int), .bool d, .int .u8 ((h : Nat) : Int)] 111 (0, 0))] from Fg2)
  refine wpV_s [(g2, .cells #[.int .i64 ((M : Nat) : Int)] 3 (0, 0)), (g1, .cells #[.int .i64 ((b : Nat) : Int), .int .i64 ((r : Nat) : Int), .int .i64 ((t : Nat) : Int), .bool d, .int .u8 ((h : Nat) : Int)] 111 (0, 0))] (i := 20) rfl (by kernel_rfl) rfl rfl rfl (st_row (off := 0) (v := .int .i64 ((M : Nat) : Int)) rfl (by kernel_rfl) (by kernel_rfl) (.head _) Bg2 (by kernel_rfl) (by first | (simp [Value.cells]; done) | exact Nat.le_of_ble_eq_true rfl) (by intro v hv; simp [Value.cells] at hv; first | (subst hv; rfl) | (rcases hv with rfl <;> rfl)) (by kernel_rfl) (List.forall_mem_cons.2 ⟨.inl rfl, (List.forall_mem_cons.2 ⟨.inr ⟨(.tail _ (.head _)), (by first | assumption | exact Ne.symm (by assumption))⟩, (List.forall_mem_nil _)⟩)⟩)) ?_
  refine wpV_done (by kernel_rfl) (fun W2 hW2 => ?_) _
  refine (show Code.wpIn _ _ _ _ _ _ _ from ?_)
  refine wpIn_seq ?_
  refine wp_region_LI (W0 := (w : World)) [(g2, .cells #[.int .i64 ((M : Nat) : Int)] 3 (0, 0)), (g1, .cells #[.int .i64 ((b : Nat) : Int), .int .i64 ((r : Nat) : Int), .int .i64 ((t : Nat) : Int), .bool d, .int .u8 ((h : Nat) : Int)] 111 (0, 0))] (by kernel_rfl) (hW2) ?_
  refine wpL_new (fun g => .pointer (some ⟨g, 0, none⟩)) (obi := .cells #[.int .u8 0, .int .u8 0, .int .u8 0, .int .u8 0, .int .u8 0, .int .u8 0, .int .u8 0] 143 (0, 0)) rfl rfl (fun _ => by kernel_rfl) (fun _ => by simp only [List.setIfInBounds_toArray, List.set_cons_succ, List.set_cons_zero] <;> rfl) fun g4 Bg4 Fg4 => ?_
  obtain ⟨dj5_0, dj5_1⟩ : g2 ≠ g4 ∧ g1 ≠ g4 := by simpa only [dj_app_l, dj_app_r, dj_cons_l, dj_cons_r, dj_nil_l, dj_nil_r, dk_app, dk_cons, dk_nil, and_true, true_and, and_assoc] using (show Dk g4 [(g2, .cells #[.int .i64 ((M : Nat) : Int)] 3 (0, 0)), (g1, .cells #[.int .i64 ((b : Nat) : Int), .int .i64 ((r : Nat) : Int), .int .i64 ((t : Nat) : Int), .bool d, .int .u8 ((h : Nat) : Int)] 111 (0, 0))] from Fg4)
  refine wpL_done (fun W3 hW3 => ?_)
  refine (show Code.wpIn _ _ _ _ _ _ _ from ?_)
  refine wpIn_seq ?_
  refine wpIn_seq ?_
  refine wp_region_LI (W0 := (w : World)) [(g4, .cells #[.int .u8 0, .int .u8 0, .int .u8 0, .int .u8 0, .int .u8 0, .int .u8 0, .int .u8 0] 143 (0, 0)), (g2, .cells #[.int .i64 ((M : Nat) : Int)] 3 (0, 0)), (g1, .cells #[.int .i64 ((b : Nat) : Int), .int .i64 ((r : Nat) : Int), .int .i64 ((t : Nat) : Int), .bool d, .int .u8 ((h : Nat) : Int)] 111 (0, 0))] (by kernel_rfl) (hW3) ?_
  refine lp (v := .slice (some ⟨g4, 0, none⟩) 7 7) rfl rfl (run_slA (n := 7) (sz := 1) rfl Tryd.underlying143 (by kernel_rfl) (by kernel_rfl) (by kernel_rfl) (by kernel_rfl)) ?_
  refine wpL_c (f := 99) (args := #[.slice (some ⟨g4, 0, none⟩) 7 7]) (fun v K9 => ∃ b1, v = .func (.func 114) #[] #[.pointer (some ⟨b1, 0, none⟩)] ∧ K9 = [(g4, .cells #[.int .u8 0, .int .u8 0, .int .u8 0, .int .u8 0, .int .u8 0, .int .u8 0, .int .u8 0] 143 (0, 0)), (g2, .cells #[.int .i64 ((M : Nat) : Int)] 3 (0, 0)), (g1, .cells #[.int .i64 ((b : Nat) : Int), .int .i64 ((r : Nat) : Int), .int .i64 ((t : Nat) : Int), .bool d, .int .u8 ((h : Nat) : Int)] 111 (0, 0))] ++ [(b1, Obj.cells #[.slice (some ⟨g4, 0, none⟩) 7 7] 78 (0, 0))] ∧ (∀ p : Nat × Obj, p ∈ ([(g4, .cells #[.int .u8 0, .int .u8 0, .int .u8 0, .int .u8 0, .int .u8 0, .int .u8 0, .int .u8 0] 143 (0, 0)), (g2, .cells #[.int .i64 ((M : Nat) : Int)] 3 (0, 0)), (g1, .cells #[.int .i64 ((b : Nat) : Int), .int .i64 ((r : Nat) : Int), .int .i64 ((t : Nat) : Int), .bool d, .int .u8 ((h : Nat) : Int)] 111 (0, 0))] : List (Nat × Obj)) → p.1 ≠ b1)) rfl (by kernel_rfl) (fun _ => (by kernel_rfl)) (fun W hW => ((Backward_any (some ⟨g4, 0, none⟩) 7 7 W hW).mono fun e w' ⟨v, K9, h1, h2, b1, h3, h4, h5, _, _⟩ => ⟨v, K9, h1, h2, b1, h3, h4, h5⟩)) (fun _ => by simp only [List.setIfInBounds_toArray, List.set_cons_succ, List.set_cons_zero] <;> rfl) ?_
  rintro _ _ ⟨b6, rfl, rfl, hne6⟩
  refine wpL_done (fun W4 hW4 => ?_)
  refine (show Code.wpIn _ _ _ _ _ _ _ from ?_)
  refine wpIn_block ?_
  have hg43 : g2 ≠ g4 := (by first | assumption | exact Ne.symm (by assumption))
  have hK0 : KS (w : World) [(g4, .cells (([0, 0, 0, 0, 0, 0, 0] : List Nat).flatMap u8C).toArray 143 (0, 0)), (g2, .cells #[.int .i64 ((M : Nat) : Int)] 3 (0, 0))] W4 := hW4.sub (List.forall_mem_cons.2 ⟨(.head _), List.forall_mem_cons.2 ⟨(.tail _ (.head _)), List.forall_mem_nil _⟩⟩)
  refine range_kg (α := Fin 7 × Nat) (ts := [143, 3]) (gf := 114) (lb := #[.pointer (some ⟨b6, 0, none⟩)]) (by kernel_rfl) (fun _ _ => by kernel_rfl) (encs := encB) (w : World) (Gd7 g4) (backward_stops w.heap.size b6 g4 W4 hW4.1.size (hW4.2 _ (.tail _ (.tail _ (.tail _ (.head _))))) (txi_gd (W0 := (w : Base)) (N := M) (g3 := g2) [] _ _ ⟨rfl, hg43⟩ hK0)) (Below.refl _ _) (fun _ => rfl) (TXI M g2 g4) (fun _ _ => False) txi_cells (fun _ _ h => h.elim) txi_gd ⟨rfl, hg43⟩ hK0 ?round ?done ?stop
  case round =>
    rintro L pre x K W ⟨rfl, _⟩ hK hlen
    have hxi := x.1.2
    obtain ⟨st, hst⟩ : ∃ st, st = stpA M (pre.map (·.1)) := ⟨_, rfl⟩
    rw [← hst] at hK
    have hsl : st.1.length = 7 := by rw [hst]; exact stpA_len _ _
    have hs2 : st.2 ≤ M := by rw [hst]; exact (stpA_lt _ _).2
    have hn : (w : Base).B ≤ W.heap.size := hK.size
    obtain ⟨Kr, hKr⟩ : ∃ Kr, Kr = restT [143, 3] W := ⟨_, rfl⟩
    have hS := at_start [143, 3] hn hK
    rw [← hKr] at hS
    have f1 : Dk g4 Kr := by rw [hKr]; exact restT_ne (hK.2 _ (.head _)) rfl
    have f2 : Dk g2 Kr := by rw [hKr]; exact restT_ne (hK.2 _ (.tail _ (.head _))) rfl
    generalize hF : Array.foldl _ _ _ _ _ = F
    obtain rfl : F = #[.agg #[.int .i64 ((b : Nat) : Int), .int .i64 ((r : Nat) : Int), .int .i64 ((t : Nat) : Int), .bool d, .int .u8 ((h : Nat) : Int)], .pointer (some ⟨g1, 0, none⟩), strV [], .pointer (some ⟨g2, 0, none⟩), .pointer (some ⟨g4, 0, none⟩), undef, .pointer (some ⟨g1, 0, none⟩), .int .i64 ((b : Nat) : Int), .int .i64 (((4 * b) : Nat) : Int), .pointer (some ⟨g1, 4, none⟩), .int .u8 ((h : Nat) : Int), .pointer (some ⟨0, 0 + h * 1, none⟩), .int .i64 (((codeN h) : Nat) : Int), .int .i64 ((((4 * b) + (codeN h)) : Nat) : Int), .int .i64 (((((4 * b) + (codeN h)) * 10000) : Nat) : Int), .pointer (some ⟨g1, 1, none⟩), .int .i64 ((r : Nat) : Int), .int .i64 (((r * 100) : Nat) : Int), .int .i64 ((((((4 * b) + (codeN h)) * 10000) + (r * 100)) : Nat) : Int), .pointer (some ⟨g1, 2, none⟩), .int .i64 ((t : Nat) : Int), .pointer (some ⟨g1, 3, none⟩), .bool d, .int .i64 (((tierN t d) : Nat) : Int), .int .i64 ((M : Nat) : Int), .slice (some ⟨g4, 0, none⟩) 7 7, .func (.func 114) #[] #[.pointer (some ⟨b6, 0, none⟩)], .int .i64 ((x.1.1 : Nat) : Int), .int .u8 ((x.2 : Nat) : Int), undef, undef, undef, undef, undef, undef, undef, undef, undef, undef] := hF.symm.trans (by kernel_rfl)
    clear hF
    have hgB4 : w.heap.size ≤ g4 := by assumption
    have hgB3 : w.heap.size ≤ g2 := by assumption
    refine wp_region_LI (W0 := (atB (w : Base) W hn)) ((g4, .cells (st.1.flatMap u8C).toArray 143 (0, 0)) :: (g2, .cells #[.int .i64 ((st.2 : Nat) : Int)] 3 (0, 0)) :: Kr) (by kernel_rfl) (hS) ?_
    refine lm (v := .int .i64 ((x.1.1 : Nat) : Int)) rfl rfl ?_
    refine wpL_done (fun W5 hW5 => ?_)
    refine (show (KpA [143, 3] W W5 ∧ Below (w : Base).B W W5 ∧ ∃ K2, (∀ p ∈ K2, p.2.isCells = true) ∧ KS (w : Base) K2 W5 ∧ ∀ W3, KS (w : Base) K2 W3 → _) from ?_)
    refine ⟨at_kp hW5 (fun p hp => by rw [← hKr] at hp; simp only [List.mem_cons, List.mem_append, hp, or_true]), hW5.1, [(g4, .cells (st.1.flatMap u8C).toArray 143 (0, 0)), (g2, .cells #[.int .i64 ((st.2 : Nat) : Int)] 3 (0, 0))], List.forall_mem_cons.2 ⟨rfl, List.forall_mem_cons.2 ⟨rfl, List.forall_mem_nil _⟩⟩, (at_back hK hW5).sub (fun p hp => by simp only [List.mem_cons, List.mem_append, List.not_mem_nil, or_false] at hp ⊢; grind), fun V3 hV3 => ?_⟩
    have hn3 : (w : Base).B ≤ V3.heap.size := hV3.size
    obtain ⟨Kq, hKq⟩ : ∃ Kq, Kq = restT [143, 3] V3 := ⟨_, rfl⟩
    have hS3 := at_start [143, 3] hn3 hV3
    rw [← hKq] at hS3
    have f3 : Dk g4 Kq := by rw [hKq]; exact restT_ne (hV3.2 _ (.head _)) rfl
    have f4 : Dk g2 Kq := by rw [hKq]; exact restT_ne (hV3.2 _ (.tail _ (.head _))) rfl
    refine wpIn_block ?_
    refine wpIn_seq ?_
    refine wp_region_LI (W0 := (atB (w : Base) V3 hn3)) ((g4, .cells (st.1.flatMap u8C).toArray 143 (0, 0)) :: (g2, .cells #[.int .i64 ((st.2 : Nat) : Int)] 3 (0, 0)) :: Kq) (by kernel_rfl) (hS3) ?_
    refine lm (v := .int .i64 ((x.1.1 : Nat) : Int)) rfl rfl ?_
    refine lv (v := .int .i64 ((st.2 : Nat) : Int)) rfl rfl (yb_cell (off := 0) rfl (by kernel_rfl) (.tail _ (.head _)) Tryd.underlying3 rfl (by kernel_rfl)) ?_
    refine lp (v := .int .i64 (((st.2 % 10) : Nat) : Int)) rfl rfl (run_bin rfl (vx := (.int .i64 ((st.2 : Nat) : Int))) (vy := (.int .i64 ((10 : Nat) : Int))) (by kernel_rfl) (by kernel_rfl) fun w => bn_rem (z := (st.2 % 10)) rfl (by omega) w) ?_
    refine lp (v := .int .u8 (((st.2 % 10) : Nat) : Int)) rfl rfl (run_conv rfl (vx := (.int .i64 (((st.2 % 10) : Nat) : Int))) (by kernel_rfl) fun w => cv_int Tryd.underlying3 Tryd.underlying5 (wr_u8 (by omega)) w) ?_
    refine lp (v := .int .u8 (((48 + (st.2 % 10)) : Nat) : Int)) rfl rfl (run_bin rfl (vx := (.int .u8 ((48 : Nat) : Int))) (vy := (.int .u8 (((st.2 % 10) : Nat) : Int))) (by kernel_rfl) (by kernel_rfl) fun w => bn_add (z := (48 + (st.2 % 10))) rfl (wr_u8 (by omega)) w) ?_
    refine lp (v := .pointer (some ⟨g4, 0 + x.1.1 * 1, none⟩)) rfl rfl (run_idxA (j := .i64) (b := g4) (off := 0) (k := x.1.1) (sz := 1) rfl Tryd.underlying143 (by kernel_rfl) (by kernel_rfl) (by kernel_rfl) (by omega)) ?_
    refine wpL_s ((g4, .cells ((st.1.flatMap u8C).toArray.setIfInBounds (0 + x.1.1 * 1) (.int .u8 (((48 + (st.2 % 10)) : Nat) : Int))) 143 (0, 0)) :: (g2, .cells #[.int .i64 ((st.2 : Nat) : Int)] 3 (0, 0)) :: Kq) rfl rfl (st_at (off := 0 + x.1.1 * 1) (v := .int .u8 (((48 + (st.2 % 10)) : Nat) : Int)) rfl (by kernel_rfl) (by kernel_rfl) (.head _) (show w.heap.size ≤ _ from hgB4) (by kernel_rfl) rfl rfl (by rw [List.size_toArray, flat_len' u8C_len]; omega) (.inr rfl) (List.forall_mem_cons.2 ⟨.inl rfl, (List.forall_mem_cons.2 ⟨.inr ⟨(.tail _ (.head _)), (by first | assumption | exact Ne.symm (by assumption))⟩, (fun p hp => .inr ⟨(.tail _ (.tail _ hp)), ((show Dk g4 Kq from (by (try simp only [dj_app_l, dj_app_r, dj_cons_l, dj_cons_r, dj_nil_l, dj_nil_r, dk_app, dk_cons, dk_nil, and_true, true_and, and_assoc]); repeat' (first | trivial | assumption | exact Dj.symm (by assumption) | exact Ne.symm (by assumption) | apply And.intro))) _ hp)⟩)⟩)⟩)) ?_
    refine wpL_done (fun W6 hW6 => ?_)
    refine (show Code.wpIn _ _ _ _ _ _ _ from ?_)
    refine wp_region_LI (W0 := (atB (w : Base) V3 hn3)) ((g4, .cells ((st.1.flatMap u8C).toArray.setIfInBounds (0 + x.1.1 * 1) (.int .u8 (((48 + (st.2 % 10)) : Nat) : Int))) 143 (0, 0)) :: (g2, .cells #[.int .i64 ((st.2 : Nat) : Int)] 3 (0, 0)) :: Kq) (by kernel_rfl) (hW6) ?_
    refine lv (v := .int .i64 ((st.2 : Nat) : Int)) rfl rfl (yb_cell (off := 0) rfl (by kernel_rfl) (.tail _ (.head _)) Tryd.underlying3 rfl (by kernel_rfl)) ?_
    refine lp (v := .int .i64 (((st.2 / 10) : Nat) : Int)) rfl rfl (run_bin rfl (vx := (.int .i64 ((st.2 : Nat) : Int))) (vy := (.int .i64 ((10 : Nat) : Int))) (by kernel_rfl) (by kernel_rfl) fun w => bn_quo (z := (st.2 / 10)) rfl (by omega) (wr_i64 (by omega)) w) ?_
    refine wpL_s ((g4, .cells ((st.1.flatMap u8C).toArray.setIfInBounds (0 + x.1.1 * 1) (.int .u8 (((48 + (st.2 % 10)) : Nat) : Int))) 143 (0, 0)) :: (g2, .cells #[.int .i64 (((st.2 / 10) : Nat) : Int)] 3 (0, 0)) :: Kq) rfl rfl (st_row (off := 0) (v := .int .i64 (((st.2 / 10) : Nat) : Int)) rfl (by kernel_rfl) (by kernel_rfl) (.tail _ (.head _)) (show w.heap.size ≤ _ from hgB3) (by kernel_rfl) (by first | (simp [Value.cells]; done) | exact Nat.le_of_ble_eq_true rfl) (by intro v hv; simp [Value.cells] at hv; first | (subst hv; rfl) | (rcases hv with rfl <;> rfl)) (by kernel_rfl) (List.forall_mem_cons.2 ⟨.inr ⟨(.head _), (by first | assumption | exact Ne.symm (by assumption))⟩, (List.forall_mem_cons.2 ⟨.inl rfl, (fun p hp => .inr ⟨(.tail _ (.tail _ hp)), ((show Dk g2 Kq from (by (try simp only [dj_app_l, dj_app_r, dj_cons_l, dj_cons_r, dj_nil_l, dj_nil_r, dk_app, dk_cons, dk_nil, and_true, true_and, and_assoc]); repeat' (first | trivial | assumption | exact Dj.symm (by assumption) | exact Ne.symm (by assumption) | apply And.intro))) _ hp)⟩)⟩)⟩)) ?_
    refine wpL_done (fun W7 hW7 => ?_)
    refine (show (KpA [143, 3] V3 W7 ∧ Below (w : Base).B V3 W7 ∧ ∃ K, TXI M g2 g4 (pre ++ [x]) K ∧ KS (w : Base) K W7) from ?_)
    refine ⟨at_kp hW7 (fun p hp => by rw [← hKq] at hp; simp only [List.mem_cons, List.mem_append, hp, or_true, true_or]), hW7.1, [(g4, .cells ((st.1.flatMap u8C).toArray.setIfInBounds (0 + x.1.1 * 1) (.int .u8 (((48 + (st.2 % 10)) : Nat) : Int))) 143 (0, 0)), (g2, .cells #[.int .i64 (((st.2 / 10) : Nat) : Int)] 3 (0, 0))], ⟨?_, hg43⟩, (at_back hV3 hW7).sub (fun p hp => by simp only [List.mem_cons, List.mem_append, List.not_mem_nil, or_false] at hp ⊢; grind)⟩
    rw [List.map_append, List.map_cons, List.map_nil, stpA_snoc, ← hst, u8_set (by omega)]
    rfl
  case stop =>
    rintro D pre K W _ hf
    exact hf.elim
  case done =>
    rintro D ys K W hys ⟨rfl, _⟩ hK hD
    rw [hys, stp_all] at hK
    refine (show Code.wpIn _ _ _ _ _ _ _ from ?_)
    refine wpIn_seq ?_
    refine wp_region_LI (W0 := (w : World)) [(D, .deferred (some [])), (g4, .cells ([(48 + M / 1000000 % 10), (48 + M / 100000 % 10), (48 + M / 10000 % 10), (48 + M / 1000 % 10), (48 + M / 100 % 10), (48 + M / 10 % 10), (48 + M % 10)].flatMap u8C).toArray 143 (0, 0)), (g2, .cells #[.int .i64 (((stpA M allI).2 : Nat) : Int)] 3 (0, 0))] (by kernel_rfl) (hK) ?_
    refine lp (v := .slice (some ⟨g4, 0, none⟩) 7 7) rfl rfl (run_slA (n := 7) (sz := 1) rfl Tryd.underlying143 (by kernel_rfl) (by kernel_rfl) (by kernel_rfl) (by kernel_rfl)) ?_
    refine lv (v := strV [UInt8.ofNat (48 + M / 1000000 % 10), UInt8.ofNat (48 + M / 100000 % 10), UInt8.ofNat (48 + M / 10000 % 10), UInt8.ofNat (48 + M / 1000 % 10), UInt8.ofNat (48 + M / 100 % 10), UInt8.ofNat (48 + M / 10 % 10), UInt8.ofNat (48 + M % 10)]) rfl rfl (yb_str (n := 7) (cap := 7) (l := [UInt8.ofNat (48 + M / 1000000 % 10), UInt8.ofNat (48 + M / 100000 % 10), UInt8.ofNat (48 + M / 10000 % 10), UInt8.ofNat (48 + M / 1000 % 10), UInt8.ofNat (48 + M / 100 % 10), UInt8.ofNat (48 + M / 10 % 10), UInt8.ofNat (48 + M % 10)]) rfl Tryd.underlying78 Tryd.underlying5 Tryd.underlying9 (by kernel_rfl) rfl (.tail _ (.head _)) (row_dg (M := M))) ?_
    refine lm (v := strV [UInt8.ofNat (48 + M / 1000000 % 10), UInt8.ofNat (48 + M / 100000 % 10), UInt8.ofNat (48 + M / 10000 % 10), UInt8.ofNat (48 + M / 1000 % 10), UInt8.ofNat (48 + M / 100 % 10), UInt8.ofNat (48 + M / 10 % 10), UInt8.ofNat (48 + M % 10)]) rfl rfl ?_
    refine wpL_done (fun W8 hW8 => ?_)
    refine (show Code.wpIn _ _ _ _ _ _ _ from ?_)
    refine wpIn_ret ?_
    try simp only [inBlock_ret, then_ret]
    have hD4 := hW8.2 (D, _) (.head _)
    refine ⟨by simp, .inl ⟨_, _, rfl, run_takeDeferred hD4, ?_⟩⟩
    exact ⟨strV [UInt8.ofNat (48 + M / 1000000 % 10), UInt8.ofNat (48 + M / 100000 % 10), UInt8.ofNat (48 + M / 10000 % 10), UInt8.ofNat (48 + M / 1000 % 10), UInt8.ofNat (48 + M / 100 % 10), UInt8.ofNat (48 + M / 10 % 10), UInt8.ofNat (48 + M % 10)], (by kernel_rfl), (str_is (by rfl)), hW8.1.trans (below_put _ (Nat.le_trans hW4.1.size hD))⟩
end Go.Proofs.YthpooalhibedpaaDoor
