import Derived.Test.YtkfcikijmkgahaaDoorG18
import Derived.Test.YtkfcikijmkgahaaDoorG09
import Derived.Outline
/- Part of the proof: Fl. -/
set_option linter.unusedVariables false
set_option linter.unusedSimpArgs false
set_option linter.unusedSectionVars false
namespace Go.Proofs.YtkfcikijmkgahaaDoor
open Go.RowKit Tw
variable [ShLZ]
theorem fa_one18 : fa 18 (dg 1) = #[.int .u32 1, .int .u32 0, .int .u32 0, .int .u32 0, .int .u32 0, .int .u32 0, .int .u32 0, .int .u32 0, .int .u32 0, .int .u32 0, .int .u32 0, .int .u32 0, .int .u32 0, .int .u32 0, .int .u32 0, .int .u32 0, .int .u32 0, .int .u32 0] := by
  have h : ∀ i, i < 18 → dg 1 i = (if i = 0 then 1 else 0) := fun i hi => by
    by_cases h0 : i = 0
    · subst h0; rw [dg_zero]; rfl
    · rw [if_neg h0]; exact dg_of_lt' (k := 1) (by rw [R_succ, R_zero]; omega) (by omega)
  rw [fa_congr h]; rfl
theorem low_two (Q : Nat) : dg Q 1 * 4294967296 + dg Q 0 = Q % 18446744073709551616 := by rw [dg_zero, dg_one]; omega
theorem ln_le_two {Q : Nat} (h : Q < 18446744073709551616) : ln (dg Q) 18 ≤ 2 := by
  rcases Nat.lt_or_ge 2 (ln (dg Q) 18) with h1 | h1
  · exact absurd (dg_of_lt' (k := 2) (by rw [R_succ, R_succ, R_zero]; omega) (show 2 ≤ ln (dg Q) 18 - 1 by omega)) (ln_ge (by omega))
  · exact h1
theorem wpList_binF {P : Program} {ops : Array Oper} {rest : List Oper} {o : Oper} {a : Act} {w : World} {Q : Exit → Act → World → Prop} (hgd : o.guard = none) {v vx vy : Value} {op : BinOp} {xT : TypeId} {x y : Operand} {d : TypeId}
    (ho : o.op = .binOp op xT x y d) (hx : a.eval x = vx) (hy : a.eval y = vy) (h0 : ∀ w, (do eqGuard op xT x y vx vy; binOp op xT vx vy : Sem Value).run P w = .ok v w)
    (h : wpList P ops Q rest (a.put o.dst v) w) : wpList P ops Q (o :: rest) a w :=
  wpList_plain hgd fun _ hK => by
    unfold Oper.wp
    rw [run_bin ho hx hy h0 w]
    exact hK _ _ h
theorem run_gtr {P : Program} {t : TypeId} {x y : Operand} {k : IntKind} {m n : Int} {b : Bool} (h : decide (n < m) = b) (w : World) : (do eqGuard .gtr t x y (.int k m) (.int k n); binOp .gtr t (.int k m) (.int k n) : Sem Value).run P w = .ok (.bool b) w := by
  subst h
  simp only [eqGuard_gtr, binOp_gtr, gt_iff_lt, Sem.run_bind, Sem.run_pure, Result.andThen_ok]
theorem run_eqn {t : TypeId} {x y : Operand} {k : IntKind} {m n : Int} {b : Bool} (h : (m == n) = b) (w : World) : (do eqGuard .eql t x y (.int k m) (.int k n); binOp .eql t (.int k m) (.int k n) : Sem Value).run Tryd.prog w = .ok (.bool b) w := by
  subst h
  go_simp
set_option maxRecDepth 100000 in
set_option maxHeartbeats 2000000 in
theorem floor_neg (n d Q f : Nat) (b1 b2 b3 : Bool) (V : Value) (HX : Hid (n < R 8 ∧ n < R 17 ∧ d < R 8 ∧ 0 < d ∧ n / d < R 18 ∧ n % d < R 8)) (HR : Hid (∀ W, Calls Tryd.prog 24 #[.agg (frcC true n d)] W fun e w' => e = .returned (.bool true) ∧ Below W.heap.size W w'))
    (HQ : Hid (Q = n / d + 1)) (HQ8 : Hid (n / d + 1 < R 18)) (HL : Hid (dg Q 1 * 4294967296 + dg Q 0 = f)) (hr : ¬ n % d = 0) (H1 : Hid (decide ((2 : Int) < ((ln (dg Q) 18 : Nat) : Int)) = b1)) (H2 : Hid (decide ((9223372036854775808 : Int) < (f : Int)) = b2)) (H3 : Hid (((f : Int) == 9223372036854775808) = b3))
    (HV : Hid (V = if b1 = true ∨ b2 = true  then .tuple #[.int .i64 0, .int .i64 3] else .tuple #[.int .i64 (wrap64 (-wrap64 (f : Int))), .int .i64 0])) (w : World) :
    Calls Tryd.prog 19 #[frc true n d] w fun e w' => e = .returned V ∧ Below w.heap.size w w' := by
  unfold frc
  go_enter Tryd.func19, Tryd.ntmps19
  go_upto_region 1 with (fail)
  have hK := KS.one w (.cells (frcC true n d) 26)
  obtain ⟨W, hW⟩ : ∃ W, W = w.alloc (.cells (frcC true n d) 26) := ⟨_, rfl⟩
  rw [← hW] at hK
  rw [← hW]
  clear hW
  have HK := Lib.hid hK
  clear hK
  have HRR := Lib.hid hr
  clear hr
  go_wp2_with (first
      | (refine wpList_ldf rfl rfl rfl (HK.out.2 _ (.head _)) Tryd.underlying26 rfl size27 ?_)
      | ((go_at_call 24); (with_reducible refine (HR.out _).mono ?_); rintro e w1 ⟨rfl, hb1⟩; have HK1 := Lib.hid (HK.out.below hb1); clear hb1))
  refine wp_region_U (W0 := w) [(w.heap.size, .cells (frcC (true) (n) (d)) 26 (0, 0))] (by kernel_rfl) (HK1.out) ?_
  refine wpU_p (i := 0) (v := .pointer (some ⟨w.heap.size, 1, none⟩)) rfl rfl (by kernel_rfl) (by kernel_rfl) rfl (fun _ => by kernel_rfl) (by simp only [List.setIfInBounds_toArray, List.set_cons_succ, List.set_cons_zero] <;> rfl) ?_
  refine wpU_v (i := 1) (v := num (n)) rfl rfl (by kernel_rfl) (by kernel_rfl) rfl (yb_load rfl (by kernel_rfl) (.head _) Tryd.underlying24 rfl size25 (by simp) (frc_num (true) (n) (d))) (by simp only [List.setIfInBounds_toArray, List.set_cons_succ, List.set_cons_zero] <;> rfl) ?_
  refine wpU_v (i := 2) (v := wid n) rfl rfl (by kernel_rfl) (by kernel_rfl) rfl (yb_call (f := 37) (args := #[num n]) (fun _ => by kernel_rfl) fun W hW => widen_any n HX.out.1 W) (by simp only [List.setIfInBounds_toArray, List.set_cons_succ, List.set_cons_zero] <;> rfl) ?_
  refine wpU_p (i := 3) (v := .pointer (some ⟨w.heap.size, 9, none⟩)) rfl rfl (by kernel_rfl) (by kernel_rfl) rfl (fun _ => by kernel_rfl) (by simp only [List.setIfInBounds_toArray, List.set_cons_succ, List.set_cons_zero] <;> rfl) ?_
  refine wpU_v (i := 4) (v := num (d)) rfl rfl (by kernel_rfl) (by kernel_rfl) rfl (yb_load rfl (by kernel_rfl) (.head _) Tryd.underlying24 rfl size25 (by simp) (frc_den (true) (n) (d))) (by simp only [List.setIfInBounds_toArray, List.set_cons_succ, List.set_cons_zero] <;> rfl) ?_
  refine wpU_v (i := 5) (v := .tuple #[wid (n / d), num (n % d)]) rfl rfl (by kernel_rfl) (by kernel_rfl) rfl (yb_call (f := 36) (args := #[wid n, num d]) (fun _ => by kernel_rfl) fun W hW => divide_any n d HX.out.2.1 HX.out.2.2.1 HX.out.2.2.2.1 W) (by simp only [List.setIfInBounds_toArray, List.set_cons_succ, List.set_cons_zero] <;> rfl) ?_
  refine wpU_p (i := 6) (v := .tuple #[wid (n / d), num (n % d)]) rfl rfl (by kernel_rfl) (by kernel_rfl) rfl (fun _ => by kernel_rfl) (by simp only [List.setIfInBounds_toArray, List.set_cons_succ, List.set_cons_zero] <;> rfl) ?_
  refine wpU_p (i := 7) (v := wid (n / d)) rfl rfl (by kernel_rfl) (by kernel_rfl) rfl (fun _ => by kernel_rfl) (by simp only [List.setIfInBounds_toArray, List.set_cons_succ, List.set_cons_zero] <;> rfl) ?_
  refine wpU_p (i := 8) (v := num (n % d)) rfl rfl (by kernel_rfl) (by kernel_rfl) rfl (fun _ => by kernel_rfl) (by simp only [List.setIfInBounds_toArray, List.set_cons_succ, List.set_cons_zero] <;> rfl) ?_
  refine wpU_two (i := 9) (j := 10) (obi := .cells (fa 18 (fun _ => 0)) 59 (0, 0)) (obj := .cells (fa 8 (fun _ => 0)) 24 (0, 0)) rfl rfl rfl rfl rfl rfl (by kernel_rfl) (by kernel_rfl) (by kernel_rfl) (by kernel_rfl) (fun _ _ => rfl) (fun _ _ => rfl) (fun _ _ => by simp only [List.setIfInBounds_toArray, List.set_cons_succ, List.set_cons_zero] <;> rfl) (fun _ _ => by simp only [List.setIfInBounds_toArray, List.set_cons_succ, List.set_cons_zero] <;> rfl) fun g h Bg Bh Dgh Fg Fh => ?_
  simp only [List.forall_mem_cons] at Fg Fh
  refine wpU_s [(g, .cells (fa 18 (dg (n / d))) 59 (0, 0)), (h, .cells (fa 8 (fun _ => 0)) 24 (0, 0)), (w.heap.size, .cells (frcC (true) (n) (d)) 26 (0, 0))] (i := 11) rfl (by kernel_rfl) rfl rfl rfl
    (st_a rfl rfl rfl (.head _) (by omega) size65 (by intro p hp; simp only [List.mem_cons, List.not_mem_nil, or_false] at hp; rcases hp with rfl | rfl | rfl; exact .inl rfl; exact .inr ⟨by simp, by simp only; omega⟩; exact .inr ⟨by simp, by simp only; omega⟩)) ?_
  refine wpU_s [(g, .cells (fa 18 (dg (n / d))) 59 (0, 0)), (h, .cells (fa 8 (dg (n % d))) 24 (0, 0)), (w.heap.size, .cells (frcC (true) (n) (d)) 26 (0, 0))] (i := 12) rfl (by kernel_rfl) rfl rfl rfl
    (st_a rfl rfl rfl (.tail _ (.head _)) (by omega) size25 (by intro p hp; simp only [List.mem_cons, List.not_mem_nil, or_false] at hp; rcases hp with rfl | rfl | rfl; exact .inr ⟨by simp, by simp only; omega⟩; exact .inl rfl; exact .inr ⟨by simp, by simp only; omega⟩)) ?_
  refine wpU_done (by kernel_rfl) (fun W4 hW4 => ?_) _
  clear HK HK1
  have c0 := frc_cell (hW4.2 _ (.tail _ (.tail _ (.head _))))
  have HK4 := Lib.hid hW4
  clear hW4
  have hr := HRR.out
  have hrb := HX.out.2.2.2.2.2
  have hr0 : decide (n % d = 0) = false := by simpa using hr
  clear hr
  have HP : Hid (∀ W, Calls Tryd.prog 38 #[.agg (fa 18 (dg (n / d))), .agg #[.int .u32 1, .int .u32 0, .int .u32 0, .int .u32 0, .int .u32 0, .int .u32 0, .int .u32 0, .int .u32 0, .int .u32 0, .int .u32 0, .int .u32 0, .int .u32 0, .int .u32 0, .int .u32 0, .int .u32 0, .int .u32 0, .int .u32 0, .int .u32 0]] W fun e w' => e = .returned (.agg (fa 18 (dg (n / d + 1)))) ∧ Below W.heap.size W w') := fun W => by
    rw [← fa_one18]
    exact plus_any (n / d) 1 HX.out.2.2.2.2.1 (lt_R_of_le one_lt8 (by omega)) HQ8.out W
  go_upto_region 6 with (first
      | (refine wpList_guard rfl ?_; refine wpList_lda rfl rfl rfl (HK4.out.2 _ (.tail _ (.head _))) Tryd.underlying24 rfl size25 ?_)
      | (refine wpList_guard rfl ?_; refine wpList_binF rfl rfl rfl rfl (fun w => run_neq25_nil hrb w) ?_; rw [hr0])
      | (refine wpList_lda rfl rfl rfl (HK4.out.2 _ (.head _)) Tryd.underlying59 rfl size65 ?_)
      | ((go_at_call 38); (with_reducible refine (HP.out _).mono ?_); rintro e w2 ⟨rfl, hb2⟩; have HK5 := Lib.hid (HK4.out.below hb2); clear hb2)
      | (refine wpList_sta (f := dg (n / d + 1)) (f' := dg (n / d)) rfl rfl rfl rfl (HK5.out.2 _ (.head _)) size65 ?_))
  have hh := HK5.out.put (K' := [(g, .cells (fa 18 (dg (n / d + 1))) 59 (0, 0)), (w.heap.size, .cells (frcC true n d) 26 (0, 0))]) Bg (.head _)
    (by intro p hp; simp only [List.mem_cons, List.not_mem_nil, or_false] at hp; rcases hp with rfl | rfl; exact .inl rfl; exact .inr ⟨.tail _ (.tail _ (.head _)), Fg.1⟩)
  generalize w2.setRow g (fa 18 (dg (n / d + 1))) = W6 at *
  clear HK5
  rw [← HQ.out] at hh
  have HH := Lib.hid hh
  clear hh HK4 c0 HP hrb hr0
  have c0 := frc_cell (HH.out.2 _ (.tail _ (.head _)))
  cases b1
  · cases b2
    · cases b3
      all_goals
        go_wp2_with (first
      | ((go_at_call 39); refine (toSmall_num _ 18 18 Q f 59 HL.out (by omega) _ (HH.out.2 _ (.head _))).mono ?_; rintro e w5 ⟨rfl, m5, rfl⟩)
      | ((go_at_call 40); refine (length_any _ 0 18 18 (dg Q) _ (by omega) (fun i hi => by rw [Nat.zero_add]; exact blk_cell ((HH.out.drewN m5).2 _ (.head _)) hi)).mono ?_; rintro e w6 ⟨rfl, rfl⟩)
      | (refine wpList_binF (vx := .int .i64 ((ln (dg Q) 18 : Nat) : Int)) (vy := .int .i64 2) rfl rfl rfl rfl (fun w => run_gtr H1.out w) ?_)
      | (refine wpList_guard rfl ?_; refine wpList_binF (vx := .int .u64 (f : Int)) (vy := .int .u64 9223372036854775808) rfl rfl rfl rfl (fun w => run_gtr H2.out w) ?_)
      | (refine wpList_guard rfl ?_; refine wpList_binF (vx := .int .u64 (f : Int)) (vy := .int .u64 9223372036854775808) rfl rfl rfl rfl (fun w => run_eqn H3.out w) ?_))
        exact bodyPost_ret (res_tmp_tmp rfl) rfl ⟨by rw [HV.out]; rfl, (HH.out.drewN m5).1⟩
    · go_wp2_with (first
      | ((go_at_call 39); refine (toSmall_num _ 18 18 Q f 59 HL.out (by omega) _ (HH.out.2 _ (.head _))).mono ?_; rintro e w5 ⟨rfl, m5, rfl⟩)
      | ((go_at_call 40); refine (length_any _ 0 18 18 (dg Q) _ (by omega) (fun i hi => by rw [Nat.zero_add]; exact blk_cell ((HH.out.drewN m5).2 _ (.head _)) hi)).mono ?_; rintro e w6 ⟨rfl, rfl⟩)
      | (refine wpList_binF (vx := .int .i64 ((ln (dg Q) 18 : Nat) : Int)) (vy := .int .i64 2) rfl rfl rfl rfl (fun w => run_gtr H1.out w) ?_)
      | (refine wpList_guard rfl ?_; refine wpList_binF (vx := .int .u64 (f : Int)) (vy := .int .u64 9223372036854775808) rfl rfl rfl rfl (fun w => run_gtr H2.out w) ?_)
      | (refine wpList_guard rfl ?_; refine wpList_binF (vx := .int .u64 (f : Int)) (vy := .int .u64 9223372036854775808) rfl rfl rfl rfl (fun w => run_eqn H3.out w) ?_))
      exact bodyPost_ret (res_tmp_tmp rfl) rfl ⟨by rw [HV.out]; rfl, (HH.out.drewN m5).1⟩
  · go_wp2_with (first
      | ((go_at_call 39); refine (toSmall_num _ 18 18 Q f 59 HL.out (by omega) _ (HH.out.2 _ (.head _))).mono ?_; rintro e w5 ⟨rfl, m5, rfl⟩)
      | ((go_at_call 40); refine (length_any _ 0 18 18 (dg Q) _ (by omega) (fun i hi => by rw [Nat.zero_add]; exact blk_cell ((HH.out.drewN m5).2 _ (.head _)) hi)).mono ?_; rintro e w6 ⟨rfl, rfl⟩)
      | (refine wpList_binF (vx := .int .i64 ((ln (dg Q) 18 : Nat) : Int)) (vy := .int .i64 2) rfl rfl rfl rfl (fun w => run_gtr H1.out w) ?_)
      | (refine wpList_guard rfl ?_; refine wpList_binF (vx := .int .u64 (f : Int)) (vy := .int .u64 9223372036854775808) rfl rfl rfl rfl (fun w => run_gtr H2.out w) ?_)
      | (refine wpList_guard rfl ?_; refine wpList_binF (vx := .int .u64 (f : Int)) (vy := .int .u64 9223372036854775808) rfl rfl rfl rfl (fun w => run_eqn H3.out w) ?_))
    exact bodyPost_ret (res_tmp_tmp rfl) rfl ⟨by rw [HV.out]; rfl, (HH.out.drewN m5).1⟩
set_option maxRecDepth 100000 in
set_option maxHeartbeats 2000000 in
theorem floor_negz (n d Q f : Nat) (b1 b2 b3 : Bool) (V : Value) (HX : Hid (n < R 8 ∧ n < R 17 ∧ d < R 8 ∧ 0 < d ∧ n / d < R 18 ∧ n % d < R 8)) (HR : Hid (∀ W, Calls Tryd.prog 24 #[.agg (frcC true n d)] W fun e w' => e = .returned (.bool true) ∧ Below W.heap.size W w'))
    (HQ : Hid (Q = n / d)) (HQ8 : Hid (n / d + 1 < R 18)) (HL : Hid (dg Q 1 * 4294967296 + dg Q 0 = f)) (hr : n % d = 0) (H1 : Hid (decide ((2 : Int) < ((ln (dg Q) 18 : Nat) : Int)) = b1)) (H2 : Hid (decide ((9223372036854775808 : Int) < (f : Int)) = b2)) (H3 : Hid (((f : Int) == 9223372036854775808) = b3))
    (HV : Hid (V = if b1 = true ∨ b2 = true  then .tuple #[.int .i64 0, .int .i64 3] else .tuple #[.int .i64 (wrap64 (-wrap64 (f : Int))), .int .i64 0])) (w : World) :
    Calls Tryd.prog 19 #[frc true n d] w fun e w' => e = .returned V ∧ Below w.heap.size w w' := by
  unfold frc
  go_enter Tryd.func19, Tryd.ntmps19
  go_upto_region 1 with (fail)
  have hK := KS.one w (.cells (frcC true n d) 26)
  obtain ⟨W, hW⟩ : ∃ W, W = w.alloc (.cells (frcC true n d) 26) := ⟨_, rfl⟩
  rw [← hW] at hK
  rw [← hW]
  clear hW
  have HK := Lib.hid hK
  clear hK
  have HRR := Lib.hid hr
  clear hr
  go_wp2_with (first
      | (refine wpList_ldf rfl rfl rfl (HK.out.2 _ (.head _)) Tryd.underlying26 rfl size27 ?_)
      | ((go_at_call 24); (with_reducible refine (HR.out _).mono ?_); rintro e w1 ⟨rfl, hb1⟩; have HK1 := Lib.hid (HK.out.below hb1); clear hb1))
  refine wp_region_U (W0 := w) [(w.heap.size, .cells (frcC (true) (n) (d)) 26 (0, 0))] (by kernel_rfl) (HK1.out) ?_
  refine wpU_p (i := 0) (v := .pointer (some ⟨w.heap.size, 1, none⟩)) rfl rfl (by kernel_rfl) (by kernel_rfl) rfl (fun _ => by kernel_rfl) (by simp only [List.setIfInBounds_toArray, List.set_cons_succ, List.set_cons_zero] <;> rfl) ?_
  refine wpU_v (i := 1) (v := num (n)) rfl rfl (by kernel_rfl) (by kernel_rfl) rfl (yb_load rfl (by kernel_rfl) (.head _) Tryd.underlying24 rfl size25 (by simp) (frc_num (true) (n) (d))) (by simp only [List.setIfInBounds_toArray, List.set_cons_succ, List.set_cons_zero] <;> rfl) ?_
  refine wpU_v (i := 2) (v := wid n) rfl rfl (by kernel_rfl) (by kernel_rfl) rfl (yb_call (f := 37) (args := #[num n]) (fun _ => by kernel_rfl) fun W hW => widen_any n HX.out.1 W) (by simp only [List.setIfInBounds_toArray, List.set_cons_succ, List.set_cons_zero] <;> rfl) ?_
  refine wpU_p (i := 3) (v := .pointer (some ⟨w.heap.size, 9, none⟩)) rfl rfl (by kernel_rfl) (by kernel_rfl) rfl (fun _ => by kernel_rfl) (by simp only [List.setIfInBounds_toArray, List.set_cons_succ, List.set_cons_zero] <;> rfl) ?_
  refine wpU_v (i := 4) (v := num (d)) rfl rfl (by kernel_rfl) (by kernel_rfl) rfl (yb_load rfl (by kernel_rfl) (.head _) Tryd.underlying24 rfl size25 (by simp) (frc_den (true) (n) (d))) (by simp only [List.setIfInBounds_toArray, List.set_cons_succ, List.set_cons_zero] <;> rfl) ?_
  refine wpU_v (i := 5) (v := .tuple #[wid (n / d), num (n % d)]) rfl rfl (by kernel_rfl) (by kernel_rfl) rfl (yb_call (f := 36) (args := #[wid n, num d]) (fun _ => by kernel_rfl) fun W hW => divide_any n d HX.out.2.1 HX.out.2.2.1 HX.out.2.2.2.1 W) (by simp only [List.setIfInBounds_toArray, List.set_cons_succ, List.set_cons_zero] <;> rfl) ?_
  refine wpU_p (i := 6) (v := .tuple #[wid (n / d), num (n % d)]) rfl rfl (by kernel_rfl) (by kernel_rfl) rfl (fun _ => by kernel_rfl) (by simp only [List.setIfInBounds_toArray, List.set_cons_succ, List.set_cons_zero] <;> rfl) ?_
  refine wpU_p (i := 7) (v := wid (n / d)) rfl rfl (by kernel_rfl) (by kernel_rfl) rfl (fun _ => by kernel_rfl) (by simp only [List.setIfInBounds_toArray, List.set_cons_succ, List.set_cons_zero] <;> rfl) ?_
  refine wpU_p (i := 8) (v := num (n % d)) rfl rfl (by kernel_rfl) (by kernel_rfl) rfl (fun _ => by kernel_rfl) (by simp only [List.setIfInBounds_toArray, List.set_cons_succ, List.set_cons_zero] <;> rfl) ?_
  refine wpU_two (i := 9) (j := 10) (obi := .cells (fa 18 (fun _ => 0)) 59 (0, 0)) (obj := .cells (fa 8 (fun _ => 0)) 24 (0, 0)) rfl rfl rfl rfl rfl rfl (by kernel_rfl) (by kernel_rfl) (by kernel_rfl) (by kernel_rfl) (fun _ _ => rfl) (fun _ _ => rfl) (fun _ _ => by simp only [List.setIfInBounds_toArray, List.set_cons_succ, List.set_cons_zero] <;> rfl) (fun _ _ => by simp only [List.setIfInBounds_toArray, List.set_cons_succ, List.set_cons_zero] <;> rfl) fun g h Bg Bh Dgh Fg Fh => ?_
  simp only [List.forall_mem_cons] at Fg Fh
  refine wpU_s [(g, .cells (fa 18 (dg (n / d))) 59 (0, 0)), (h, .cells (fa 8 (fun _ => 0)) 24 (0, 0)), (w.heap.size, .cells (frcC (true) (n) (d)) 26 (0, 0))] (i := 11) rfl (by kernel_rfl) rfl rfl rfl
    (st_a rfl rfl rfl (.head _) (by omega) size65 (by intro p hp; simp only [List.mem_cons, List.not_mem_nil, or_false] at hp; rcases hp with rfl | rfl | rfl; exact .inl rfl; exact .inr ⟨by simp, by simp only; omega⟩; exact .inr ⟨by simp, by simp only; omega⟩)) ?_
  refine wpU_s [(g, .cells (fa 18 (dg (n / d))) 59 (0, 0)), (h, .cells (fa 8 (dg (n % d))) 24 (0, 0)), (w.heap.size, .cells (frcC (true) (n) (d)) 26 (0, 0))] (i := 12) rfl (by kernel_rfl) rfl rfl rfl
    (st_a rfl rfl rfl (.tail _ (.head _)) (by omega) size25 (by intro p hp; simp only [List.mem_cons, List.not_mem_nil, or_false] at hp; rcases hp with rfl | rfl | rfl; exact .inr ⟨by simp, by simp only; omega⟩; exact .inl rfl; exact .inr ⟨by simp, by simp only; omega⟩)) ?_
  refine wpU_done (by kernel_rfl) (fun W4 hW4 => ?_) _
  clear HK HK1
  have c0 := frc_cell (hW4.2 _ (.tail _ (.tail _ (.head _))))
  have HK4 := Lib.hid hW4
  clear hW4
  have hr := HRR.out
  have hrb := HX.out.2.2.2.2.2
  have hr0 : decide (n % d = 0) = true := by simpa using hr
  clear hr
  go_upto_region 6 with (first
      | (refine wpList_guard rfl ?_; refine wpList_lda rfl rfl rfl (HK4.out.2 _ (.tail _ (.head _))) Tryd.underlying24 rfl size25 ?_)
      | (refine wpList_guard rfl ?_; refine wpList_binF rfl rfl rfl rfl (fun w => run_neq25_nil hrb w) ?_; rw [hr0])
      | (refine wpList_lda rfl rfl rfl (HK4.out.2 _ (.head _)) Tryd.underlying59 rfl size65 ?_)
      | ((go_at_call 38); (with_reducible refine (HP.out _).mono ?_); rintro e w2 ⟨rfl, hb2⟩; have HK5 := Lib.hid (HK4.out.below hb2); clear hb2)
      | (refine wpList_sta (f := dg (n / d + 1)) (f' := dg (n / d)) rfl rfl rfl rfl (HK5.out.2 _ (.head _)) size65 ?_))
  have hh : KS w [(g, .cells (fa 18 (dg (n / d))) 59 (0, 0)), (w.heap.size, .cells (frcC true n d) 26 (0, 0))] W4 := HK4.out.sub (by
    intro p hp; simp only [List.mem_cons, List.not_mem_nil, or_false] at hp; rcases hp with rfl | rfl; exact .head _; exact .tail _ (.tail _ (.head _)))
  generalize W4 = W6 at *
  rw [← HQ.out] at hh
  have HH := Lib.hid hh
  clear hh HK4 c0 hrb hr0
  have c0 := frc_cell (HH.out.2 _ (.tail _ (.head _)))
  cases b1
  · cases b2
    · cases b3
      all_goals
        go_wp2_with (first
      | ((go_at_call 39); refine (toSmall_num _ 18 18 Q f 59 HL.out (by omega) _ (HH.out.2 _ (.head _))).mono ?_; rintro e w5 ⟨rfl, m5, rfl⟩)
      | ((go_at_call 40); refine (length_any _ 0 18 18 (dg Q) _ (by omega) (fun i hi => by rw [Nat.zero_add]; exact blk_cell ((HH.out.drewN m5).2 _ (.head _)) hi)).mono ?_; rintro e w6 ⟨rfl, rfl⟩)
      | (refine wpList_binF (vx := .int .i64 ((ln (dg Q) 18 : Nat) : Int)) (vy := .int .i64 2) rfl rfl rfl rfl (fun w => run_gtr H1.out w) ?_)
      | (refine wpList_guard rfl ?_; refine wpList_binF (vx := .int .u64 (f : Int)) (vy := .int .u64 9223372036854775808) rfl rfl rfl rfl (fun w => run_gtr H2.out w) ?_)
      | (refine wpList_guard rfl ?_; refine wpList_binF (vx := .int .u64 (f : Int)) (vy := .int .u64 9223372036854775808) rfl rfl rfl rfl (fun w => run_eqn H3.out w) ?_))
        exact bodyPost_ret (res_tmp_tmp rfl) rfl ⟨by rw [HV.out]; rfl, (HH.out.drewN m5).1⟩
    · go_wp2_with (first
      | ((go_at_call 39); refine (toSmall_num _ 18 18 Q f 59 HL.out (by omega) _ (HH.out.2 _ (.head _))).mono ?_; rintro e w5 ⟨rfl, m5, rfl⟩)
      | ((go_at_call 40); refine (length_any _ 0 18 18 (dg Q) _ (by omega) (fun i hi => by rw [Nat.zero_add]; exact blk_cell ((HH.out.drewN m5).2 _ (.head _)) hi)).mono ?_; rintro e w6 ⟨rfl, rfl⟩)
      | (refine wpList_binF (vx := .int .i64 ((ln (dg Q) 18 : Nat) : Int)) (vy := .int .i64 2) rfl rfl rfl rfl (fun w => run_gtr H1.out w) ?_)
      | (refine wpList_guard rfl ?_; refine wpList_binF (vx := .int .u64 (f : Int)) (vy := .int .u64 9223372036854775808) rfl rfl rfl rfl (fun w => run_gtr H2.out w) ?_)
      | (refine wpList_guard rfl ?_; refine wpList_binF (vx := .int .u64 (f : Int)) (vy := .int .u64 9223372036854775808) rfl rfl rfl rfl (fun w => run_eqn H3.out w) ?_))
      exact bodyPost_ret (res_tmp_tmp rfl) rfl ⟨by rw [HV.out]; rfl, (HH.out.drewN m5).1⟩
  · go_wp2_with (first
      | ((go_at_call 39); refine (toSmall_num _ 18 18 Q f 59 HL.out (by omega) _ (HH.out.2 _ (.head _))).mono ?_; rintro e w5 ⟨rfl, m5, rfl⟩)
      | ((go_at_call 40); refine (length_any _ 0 18 18 (dg Q) _ (by omega) (fun i hi => by rw [Nat.zero_add]; exact blk_cell ((HH.out.drewN m5).2 _ (.head _)) hi)).mono ?_; rintro e w6 ⟨rfl, rfl⟩)
      | (refine wpList_binF (vx := .int .i64 ((ln (dg Q) 18 : Nat) : Int)) (vy := .int .i64 2) rfl rfl rfl rfl (fun w => run_gtr H1.out w) ?_)
      | (refine wpList_guard rfl ?_; refine wpList_binF (vx := .int .u64 (f : Int)) (vy := .int .u64 9223372036854775808) rfl rfl rfl rfl (fun w => run_gtr H2.out w) ?_)
      | (refine wpList_guard rfl ?_; refine wpList_binF (vx := .int .u64 (f : Int)) (vy := .int .u64 9223372036854775808) rfl rfl rfl rfl (fun w => run_eqn H3.out w) ?_))
    exact bodyPost_ret (res_tmp_tmp rfl) rfl ⟨by rw [HV.out]; rfl, (HH.out.drewN m5).1⟩
set_option maxRecDepth 100000 in
set_option maxHeartbeats 2000000 in
theorem floor_pos (n d Q f : Nat) (b1 b2 b3 : Bool) (V : Value) (HX : Hid (n < R 8 ∧ n < R 17 ∧ d < R 8 ∧ 0 < d ∧ n / d < R 18 ∧ n % d < R 8)) (HR : Hid (∀ W, Calls Tryd.prog 24 #[.agg (frcC false n d)] W fun e w' => e = .returned (.bool true) ∧ Below W.heap.size W w'))
    (HQ : Hid (Q = n / d)) (HQ8 : Hid (n / d + 1 < R 18)) (HL : Hid (dg Q 1 * 4294967296 + dg Q 0 = f)) (hr : True) (H1 : Hid (decide ((2 : Int) < ((ln (dg Q) 18 : Nat) : Int)) = b1)) (H2 : Hid (decide ((9223372036854775808 : Int) < (f : Int)) = b2)) (H3 : Hid (((f : Int) == 9223372036854775808) = b3))
    (HV : Hid (V = if b1 = true ∨ b2 = true ∨ b3 = true  then .tuple #[.int .i64 0, .int .i64 3] else .tuple #[.int .i64 (wrap64 (f : Int)), .int .i64 0])) (w : World) :
    Calls Tryd.prog 19 #[frc false n d] w fun e w' => e = .returned V ∧ Below w.heap.size w w' := by
  unfold frc
  go_enter Tryd.func19, Tryd.ntmps19
  go_upto_region 1 with (fail)
  have hK := KS.one w (.cells (frcC false n d) 26)
  obtain ⟨W, hW⟩ : ∃ W, W = w.alloc (.cells (frcC false n d) 26) := ⟨_, rfl⟩
  rw [← hW] at hK
  rw [← hW]
  clear hW
  have HK := Lib.hid hK
  clear hK
  have HRR := Lib.hid hr
  clear hr
  go_wp2_with (first
      | (refine wpList_ldf rfl rfl rfl (HK.out.2 _ (.head _)) Tryd.underlying26 rfl size27 ?_)
      | ((go_at_call 24); (with_reducible refine (HR.out _).mono ?_); rintro e w1 ⟨rfl, hb1⟩; have HK1 := Lib.hid (HK.out.below hb1); clear hb1))
  refine wp_region_U (W0 := w) [(w.heap.size, .cells (frcC (false) (n) (d)) 26 (0, 0))] (by kernel_rfl) (HK1.out) ?_
  refine wpU_p (i := 0) (v := .pointer (some ⟨w.heap.size, 1, none⟩)) rfl rfl (by kernel_rfl) (by kernel_rfl) rfl (fun _ => by kernel_rfl) (by simp only [List.setIfInBounds_toArray, List.set_cons_succ, List.set_cons_zero] <;> rfl) ?_
  refine wpU_v (i := 1) (v := num (n)) rfl rfl (by kernel_rfl) (by kernel_rfl) rfl (yb_load rfl (by kernel_rfl) (.head _) Tryd.underlying24 rfl size25 (by simp) (frc_num (false) (n) (d))) (by simp only [List.setIfInBounds_toArray, List.set_cons_succ, List.set_cons_zero] <;> rfl) ?_
  refine wpU_v (i := 2) (v := wid n) rfl rfl (by kernel_rfl) (by kernel_rfl) rfl (yb_call (f := 37) (args := #[num n]) (fun _ => by kernel_rfl) fun W hW => widen_any n HX.out.1 W) (by simp only [List.setIfInBounds_toArray, List.set_cons_succ, List.set_cons_zero] <;> rfl) ?_
  refine wpU_p (i := 3) (v := .pointer (some ⟨w.heap.size, 9, none⟩)) rfl rfl (by kernel_rfl) (by kernel_rfl) rfl (fun _ => by kernel_rfl) (by simp only [List.setIfInBounds_toArray, List.set_cons_succ, List.set_cons_zero] <;> rfl) ?_
  refine wpU_v (i := 4) (v := num (d)) rfl rfl (by kernel_rfl) (by kernel_rfl) rfl (yb_load rfl (by kernel_rfl) (.head _) Tryd.underlying24 rfl size25 (by simp) (frc_den (false) (n) (d))) (by simp only [List.setIfInBounds_toArray, List.set_cons_succ, List.set_cons_zero] <;> rfl) ?_
  refine wpU_v (i := 5) (v := .tuple #[wid (n / d), num (n % d)]) rfl rfl (by kernel_rfl) (by kernel_rfl) rfl (yb_call (f := 36) (args := #[wid n, num d]) (fun _ => by kernel_rfl) fun W hW => divide_any n d HX.out.2.1 HX.out.2.2.1 HX.out.2.2.2.1 W) (by simp only [List.setIfInBounds_toArray, List.set_cons_succ, List.set_cons_zero] <;> rfl) ?_
  refine wpU_p (i := 6) (v := .tuple #[wid (n / d), num (n % d)]) rfl rfl (by kernel_rfl) (by kernel_rfl) rfl (fun _ => by kernel_rfl) (by simp only [List.setIfInBounds_toArray, List.set_cons_succ, List.set_cons_zero] <;> rfl) ?_
  refine wpU_p (i := 7) (v := wid (n / d)) rfl rfl (by kernel_rfl) (by kernel_rfl) rfl (fun _ => by kernel_rfl) (by simp only [List.setIfInBounds_toArray, List.set_cons_succ, List.set_cons_zero] <;> rfl) ?_
  refine wpU_p (i := 8) (v := num (n % d)) rfl rfl (by kernel_rfl) (by kernel_rfl) rfl (fun _ => by kernel_rfl) (by simp only [List.setIfInBounds_toArray, List.set_cons_succ, List.set_cons_zero] <;> rfl) ?_
  refine wpU_two (i := 9) (j := 10) (obi := .cells (fa 18 (fun _ => 0)) 59 (0, 0)) (obj := .cells (fa 8 (fun _ => 0)) 24 (0, 0)) rfl rfl rfl rfl rfl rfl (by kernel_rfl) (by kernel_rfl) (by kernel_rfl) (by kernel_rfl) (fun _ _ => rfl) (fun _ _ => rfl) (fun _ _ => by simp only [List.setIfInBounds_toArray, List.set_cons_succ, List.set_cons_zero] <;> rfl) (fun _ _ => by simp only [List.setIfInBounds_toArray, List.set_cons_succ, List.set_cons_zero] <;> rfl) fun g h Bg Bh Dgh Fg Fh => ?_
  simp only [List.forall_mem_cons] at Fg Fh
  refine wpU_s [(g, .cells (fa 18 (dg (n / d))) 59 (0, 0)), (h, .cells (fa 8 (fun _ => 0)) 24 (0, 0)), (w.heap.size, .cells (frcC (false) (n) (d)) 26 (0, 0))] (i := 11) rfl (by kernel_rfl) rfl rfl rfl
    (st_a rfl rfl rfl (.head _) (by omega) size65 (by intro p hp; simp only [List.mem_cons, List.not_mem_nil, or_false] at hp; rcases hp with rfl | rfl | rfl; exact .inl rfl; exact .inr ⟨by simp, by simp only; omega⟩; exact .inr ⟨by simp, by simp only; omega⟩)) ?_
  refine wpU_s [(g, .cells (fa 18 (dg (n / d))) 59 (0, 0)), (h, .cells (fa 8 (dg (n % d))) 24 (0, 0)), (w.heap.size, .cells (frcC (false) (n) (d)) 26 (0, 0))] (i := 12) rfl (by kernel_rfl) rfl rfl rfl
    (st_a rfl rfl rfl (.tail _ (.head _)) (by omega) size25 (by intro p hp; simp only [List.mem_cons, List.not_mem_nil, or_false] at hp; rcases hp with rfl | rfl | rfl; exact .inr ⟨by simp, by simp only; omega⟩; exact .inl rfl; exact .inr ⟨by simp, by simp only; omega⟩)) ?_
  refine wpU_done (by kernel_rfl) (fun W4 hW4 => ?_) _
  clear HK HK1
  have c0 := frc_cell (hW4.2 _ (.tail _ (.tail _ (.head _))))
  have HK4 := Lib.hid hW4
  clear hW4
  have hr := HRR.out
  have hrb := HX.out.2.2.2.2.2
  have hr0 : True := hr
  clear hr
  go_upto_region 6 with (first
      | (refine wpList_guard rfl ?_; refine wpList_lda rfl rfl rfl (HK4.out.2 _ (.tail _ (.head _))) Tryd.underlying24 rfl size25 ?_)
      | (refine wpList_guard rfl ?_; refine wpList_binF rfl rfl rfl rfl (fun w => run_neq25_nil hrb w) ?_; rw [hr0])
      | (refine wpList_lda rfl rfl rfl (HK4.out.2 _ (.head _)) Tryd.underlying59 rfl size65 ?_)
      | ((go_at_call 38); (with_reducible refine (HP.out _).mono ?_); rintro e w2 ⟨rfl, hb2⟩; have HK5 := Lib.hid (HK4.out.below hb2); clear hb2)
      | (refine wpList_sta (f := dg (n / d + 1)) (f' := dg (n / d)) rfl rfl rfl rfl (HK5.out.2 _ (.head _)) size65 ?_))
  have hh : KS w [(g, .cells (fa 18 (dg (n / d))) 59 (0, 0)), (w.heap.size, .cells (frcC false n d) 26 (0, 0))] W4 := HK4.out.sub (by
    intro p hp; simp only [List.mem_cons, List.not_mem_nil, or_false] at hp; rcases hp with rfl | rfl; exact .head _; exact .tail _ (.tail _ (.head _)))
  generalize W4 = W6 at *
  rw [← HQ.out] at hh
  have HH := Lib.hid hh
  clear hh HK4 c0 hrb hr0
  have c0 := frc_cell (HH.out.2 _ (.tail _ (.head _)))
  cases b1
  · cases b2
    · cases b3
      all_goals
        go_wp2_with (first
      | ((go_at_call 39); refine (toSmall_num _ 18 18 Q f 59 HL.out (by omega) _ (HH.out.2 _ (.head _))).mono ?_; rintro e w5 ⟨rfl, m5, rfl⟩)
      | ((go_at_call 40); refine (length_any _ 0 18 18 (dg Q) _ (by omega) (fun i hi => by rw [Nat.zero_add]; exact blk_cell ((HH.out.drewN m5).2 _ (.head _)) hi)).mono ?_; rintro e w6 ⟨rfl, rfl⟩)
      | (refine wpList_binF (vx := .int .i64 ((ln (dg Q) 18 : Nat) : Int)) (vy := .int .i64 2) rfl rfl rfl rfl (fun w => run_gtr H1.out w) ?_)
      | (refine wpList_guard rfl ?_; refine wpList_binF (vx := .int .u64 (f : Int)) (vy := .int .u64 9223372036854775808) rfl rfl rfl rfl (fun w => run_gtr H2.out w) ?_)
      | (refine wpList_guard rfl ?_; refine wpList_binF (vx := .int .u64 (f : Int)) (vy := .int .u64 9223372036854775808) rfl rfl rfl rfl (fun w => run_eqn H3.out w) ?_))
        exact bodyPost_ret (res_tmp_tmp rfl) rfl ⟨by rw [HV.out]; rfl, (HH.out.drewN m5).1⟩
    · go_wp2_with (first
      | ((go_at_call 39); refine (toSmall_num _ 18 18 Q f 59 HL.out (by omega) _ (HH.out.2 _ (.head _))).mono ?_; rintro e w5 ⟨rfl, m5, rfl⟩)
      | ((go_at_call 40); refine (length_any _ 0 18 18 (dg Q) _ (by omega) (fun i hi => by rw [Nat.zero_add]; exact blk_cell ((HH.out.drewN m5).2 _ (.head _)) hi)).mono ?_; rintro e w6 ⟨rfl, rfl⟩)
      | (refine wpList_binF (vx := .int .i64 ((ln (dg Q) 18 : Nat) : Int)) (vy := .int .i64 2) rfl rfl rfl rfl (fun w => run_gtr H1.out w) ?_)
      | (refine wpList_guard rfl ?_; refine wpList_binF (vx := .int .u64 (f : Int)) (vy := .int .u64 9223372036854775808) rfl rfl rfl rfl (fun w => run_gtr H2.out w) ?_)
      | (refine wpList_guard rfl ?_; refine wpList_binF (vx := .int .u64 (f : Int)) (vy := .int .u64 9223372036854775808) rfl rfl rfl rfl (fun w => run_eqn H3.out w) ?_))
      exact bodyPost_ret (res_tmp_tmp rfl) rfl ⟨by rw [HV.out]; rfl, (HH.out.drewN m5).1⟩
  · go_wp2_with (first
      | ((go_at_call 39); refine (toSmall_num _ 18 18 Q f 59 HL.out (by omega) _ (HH.out.2 _ (.head _))).mono ?_; rintro e w5 ⟨rfl, m5, rfl⟩)
      | ((go_at_call 40); refine (length_any _ 0 18 18 (dg Q) _ (by omega) (fun i hi => by rw [Nat.zero_add]; exact blk_cell ((HH.out.drewN m5).2 _ (.head _)) hi)).mono ?_; rintro e w6 ⟨rfl, rfl⟩)
      | (refine wpList_binF (vx := .int .i64 ((ln (dg Q) 18 : Nat) : Int)) (vy := .int .i64 2) rfl rfl rfl rfl (fun w => run_gtr H1.out w) ?_)
      | (refine wpList_guard rfl ?_; refine wpList_binF (vx := .int .u64 (f : Int)) (vy := .int .u64 9223372036854775808) rfl rfl rfl rfl (fun w => run_gtr H2.out w) ?_)
      | (refine wpList_guard rfl ?_; refine wpList_binF (vx := .int .u64 (f : Int)) (vy := .int .u64 9223372036854775808) rfl rfl rfl rfl (fun w => run_eqn H3.out w) ?_))
    exact bodyPost_ret (res_tmp_tmp rfl) rfl ⟨by rw [HV.out]; rfl, (HH.out.drewN m5).1⟩
end Go.Proofs.YtkfcikijmkgahaaDoor
