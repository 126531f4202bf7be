import Derived.Test.YtkfcikijmkgahaaDoorG09
import Derived.Test.YtkfcikijmkgahaaDoorG06
import Derived.Test.YtkfcikijmkgahaaDoorG05
import Derived.Test.YtkfcikijmkgahaaDoorG03
import Derived.Test.YtkfcikijmkgahaaDoorG02
/- Part of the proof: Dv, Qu, Gs. -/
set_option linter.unusedVariables false
set_option linter.unusedSimpArgs false
set_option linter.unusedSectionVars false
namespace Go.Proofs.YtkfcikijmkgahaaDoor
open Go.RowKit Tw
variable [ShLZ]

theorem fa_digit {r : Nat} (hr : r < 4294967296) : fa 8 (dg r) = #[.int .u32 r, .int .u32 0, .int .u32 0, .int .u32 0, .int .u32 0, .int .u32 0, .int .u32 0, .int .u32 0] := by
  rw [fa_small r (by omega), show (r : Int) % 4294967296 = r from by omega, show (r : Int) / 4294967296 = 0 from by omega]
theorem ln_one {b : Nat} (hb : b < R 8) (h : ln (dg b) 8 = 1) : dg b 0 = b ∧ b < 4294967296 := by
  have h1 := ln_lt 8 hb
  rw [h, R_succ, R_zero] at h1
  exact ⟨by rw [dg_zero, Nat.mod_eq_of_lt (by omega)], by omega⟩
theorem ln_two {b n : Nat} (hb : b < R n) (h : ln (dg b) n ≤ 2) : dg b 1 * 4294967296 + dg b 0 = b ∧ b < 18446744073709551616 := by
  have h1 := lt_R_of_le (ln_lt n hb) h
  rw [R_succ, R_succ, R_zero] at h1
  refine ⟨?_, by omega⟩
  rw [dg_zero, dg_one]; omega

theorem wrap_u64n {n : Nat} (h : n < 18446744073709551616) : IntKind.u64.wrap (n : Int) = n := by simp only [IntKind.wrap_u64]; omega
theorem quiet_two {P : Program} {f : FuncId} {args : Array Value} {w : World} {n : Nat} {v : Value}
    (h : Calls P f args (w.drewN n) fun e w' => e = .returned v ∧ ∃ m, w' = (w.drewN n).drewN m) : Calls P f args (w.drewN n) fun e w'' => e = .returned v ∧ ∃ m, w'' = w.drewN m :=
  h.mono fun _ _ ⟨he, m, hm⟩ => ⟨he, n + m, by rw [hm, World.drewN_drewN]⟩
theorem toSmall_num (g n cap a : Nat) (f : Nat) (t : TypeId) (ha : dg a 1 * 4294967296 + dg a 0 = f) (hn : 2 ≤ n) (w : World) (h : w.heap[g]? = some (.cells (fa n (dg a)) t (0, 0))) :
    Calls Tryd.prog 39 #[.slice (some ⟨g, 0, none⟩) n cap] w fun e w' => e = .returned (.int .u64 (f : Int)) ∧ ∃ m, w' = w.drewN m := by
  subst ha
  exact toSmall_any g 0 n cap _ _ (dg_lt a 0) (dg_lt a 1) hn w (blk_cell h (by omega)) (blk_cell h (by omega))

theorem run_quo64 {a b : Nat} {x y : Operand} (w : World) (hb : b < 18446744073709551616) (hb0 : 0 < b) (ha : a < 18446744073709551616) :
    (do eqGuard .quo 56 x y (.int .u64 a) (.int .u64 b); binOp .quo 56 (.int .u64 a) (.int .u64 b) : Sem Value).run Tryd.prog w = .ok (.int .u64 ((a / b : Nat) : Int)) w := by
  go_simp
  rw [if_neg (by omega), show (a : Int) / b = ((a / b : Nat) : Int) from rfl, wrap_u64n (Nat.lt_of_le_of_lt (Nat.div_le_self a b) ha)]
theorem run_rem64 {a b : Nat} {x y : Operand} (w : World) (hb : b < 18446744073709551616) (hb0 : 0 < b) (ha : a < 18446744073709551616) :
    (do eqGuard .rem 56 x y (.int .u64 a) (.int .u64 b); binOp .rem 56 (.int .u64 a) (.int .u64 b) : Sem Value).run Tryd.prog w = .ok (.int .u64 ((a % b : Nat) : Int)) w := by
  go_simp
  rw [if_neg (by omega), Int.tmod_eq_emod_of_nonneg (by omega)]

set_option maxRecDepth 100000 in
set_option maxHeartbeats 2000000 in
theorem divide_any (a b : Nat) (ha : a < R 17) (hb : b < R 8) (hb0 : 0 < b) (w : World) :
    Calls Tryd.prog 36 #[wid a, num b] w fun e w' => e = .returned (.tuple #[wid (a / b), num (a % b)]) ∧ Below w.heap.size w w' := by
  unfold num wid
  have ha18 : a < R 18 := lt_R_of_le ha (by omega)
  go_enter Tryd.func36, Tryd.ntmps36
  go_upto_region 1 with (fail)
  have hK := KS.four w (.cells (fa 18 (dg a)) 59) (.cells (fa 8 (dg b)) 24) (.cells (fa 18 (fun _ => 0)) 59) (.cells (fa 8 (fun _ => 0)) 24)
  obtain ⟨W, hW⟩ : ∃ W, W = (((w.alloc (.cells (fa 18 (dg a)) 59)).alloc (.cells (fa 8 (dg b)) 24)).alloc (.cells (fa 18 (fun _ => 0)) 59)).alloc (.cells (fa 8 (fun _ => 0)) 24) := ⟨_, rfl⟩
  rw [← hW] at hK
  rw [fa_zero18, fa_zero8] at hW
  rw [← hW]
  clear hW
  have HK := Lib.hid hK
  clear hK
  go_quiet ((go_at_call 40; exact quiet_left (length_any _ 0 _ _ (dg _) _ (by omega) (fun i hi => by rw [Nat.zero_add]; first | exact blk_cell (HK.out.2 _ (.head _)) hi | exact blk_cell (HK.out.2 _ (.tail _ (.head _))) hi))))
  have hn0 := ln_le (dg b) 8
  have hm0 : ln (dg a) 18 ≤ 17 := by
    rcases Nat.lt_or_ge 17 (ln (dg a) 18) with h | h
    · exact absurd (dg_of_lt' ha (show 17 ≤ ln (dg a) 18 - 1 by omega)) (ln_ge (by omega))
    · exact h
  have hn1 : 1 ≤ ln (dg b) 8 := by
    rcases Nat.eq_zero_or_pos (ln (dg b) 8) with h | h
    · have := ln_lt 8 hb
      rw [h, R_zero] at this
      omega
    · exact h
  have HK2 := Lib.hid (HK.out.drewN nq)
  clear HK
  generalize W.drewN nq = W1 at *
  by_cases h1 : ln (dg b) 8 = 1
  · obtain ⟨g1, g2⟩ := ln_one hb h1
    have c1 := blk_cell (HK2.out.2 _ (.tail _ (.head _))) (i := 0) (by omega)
    rw [g1] at c1
    rw [h1]
    clear h1 g1 hn1 hn0
    have hix := index25_0 (w.heap.size + 1)
    have hr : a % b < 4294967296 := Nat.lt_trans (Nat.mod_lt a hb0) g2
    go_upto_region 4 with (first
      | (refine wpList_lda rfl rfl rfl (HK2.out.2 _ (.head _)) Tryd.underlying59 rfl size65 ?_)
      | (go_at_call 59; refine (divideShort_any a b ha18 hb0 g2 _).mono ?_; rintro e w1 ⟨rfl, hb1⟩; have HK3 := Lib.hid (HK2.out.below hb1); clear hb1; unfold wid)
      | (refine wpList_sta (f := dg (a / b)) (f' := fun _ => 0) rfl rfl rfl rfl (heap1 w1 _) size65 ?_))
    obtain ⟨f1, f2⟩ := HK3.out.fresh
    have HK4 := Lib.hid (HK3.out.newvar (cs := fa 18 (fun _ => 0)) (cs' := fa 18 (dg (a / b))) (t := 59))
    rw [← fa_zero18]
    generalize (w1.alloc (.cells (fa 18 (fun _ => 0)) 59)).setRow w1.heap.size (fa 18 (dg (a / b))) = W2 at *
    simp only [List.forall_mem_cons] at f2
    obtain ⟨f3, f4, f5, f6, _⟩ := f2
    clear HK2 HK3 hix
    generalize w1.heap.size = g at *
    have HK5 : KS w _ (W2.setRow (w.heap.size + 1 + 1) (fa 18 (dg (a / b)))) := HK4.out.put (K' := [(w.heap.size + 1 + 1, .cells (fa 18 (dg (a / b))) 59 (0, 0)), (w.heap.size + 1 + 1 + 1, .cells (fa 8 (fun _ => 0)) 24 (0, 0))]) (by omega) (.tail _ (.tail _ (.tail _ (.head _))))
      (by intro p hp; simp only [List.mem_cons, List.not_mem_nil, or_false] at hp; rcases hp with rfl | rfl; exact .inl rfl; exact .inr ⟨by simp, by simp⟩)
    go_wp2_with (first
      | (refine wpList_lda rfl rfl rfl (HK4.out.2 _ (.head _)) Tryd.underlying59 rfl size65 ?_)
      | (refine wpList_sta (f := dg (a / b)) (f' := fun _ => 0) rfl rfl rfl rfl (HK4.out.2 _ (.tail _ (.tail _ (.tail _ (.head _))))) size65 ?_)
      | (refine wpList_sta (f := dg (a % b)) (f' := fun _ => 0) rfl rfl rfl (by rw [fa_digit hr]; rfl) (HK5.2 _ (.tail _ (.head _))) size25 ?_))
    refine bodyPost_ret (res_cell_cell rfl rfl (cs := fa 18 (dg (a / b))) (t := 59) ?_ Tryd.underlying59 rfl (by rw [size65, fa_size]) rfl (setRow_heap _ _ _ _ _ _ (HK5.2 _ (.tail _ (.head _)))) Tryd.underlying24 rfl (by rw [size25, fa_size])) rfl ⟨rfl, below_setRow HK5.1 (by omega) _⟩
    rw [setRow_other _ _ _ _ (by omega)]; exact HK5.2 _ (.head _)
  · have hn2 : 2 ≤ ln (dg b) 8 := by omega
    by_cases h2 : ln (dg a) 18 ≤ 2 ∧ ln (dg b) 8 = 2
    · obtain ⟨h3, h4⟩ := h2
      obtain ⟨g1, g2⟩ := ln_two ha18 h3
      obtain ⟨g3, g4⟩ := ln_two hb (Nat.le_of_eq h4)
      have hq : ((ln (dg a) 18 : Nat) : Int) ≤ 2 := by omega
      rw [h4]
      generalize ln (dg a) 18 = m at *
      clear h1 h3 h4 hn1 hn2 hn0
      have G1 := Lib.hid g1
      have G3 := Lib.hid g3
      clear g1 g3
      go_wp2_with fail
      have Q1 : Hid (∀ n, Calls Tryd.prog 39 #[.slice (some ⟨w.heap.size, 0, none⟩) 18 18] (W1.drewN n) fun e w'' => e = .returned (.int .u64 (a : Int)) ∧ ∃ m, w'' = W1.drewN m) :=
        fun n => quiet_two (toSmall_num _ 18 18 a a 59 G1.out (by omega) (W1.drewN n) (HK2.out.2 _ (.head _)))
      have Q2 : Hid (∀ n, Calls Tryd.prog 39 #[.slice (some ⟨w.heap.size + 1, 0, none⟩) 8 8] (W1.drewN n) fun e w'' => e = .returned (.int .u64 (b : Int)) ∧ ∃ m, w'' = W1.drewN m) :=
        fun n => quiet_two (toSmall_num _ 8 8 b b 24 G3.out (by omega) (W1.drewN n) (HK2.out.2 _ (.tail _ (.head _))))
      go_quiet ((go_at_call 39; first | (with_reducible exact Q1.out _) | (with_reducible exact Q2.out _)))
      clear Q1 Q2
      go_wp2_with fail
      clear hm0 ha hb ha18 hq
      refine wp_region_U (W0 := w) [(w.heap.size, .cells (fa 18 (dg a)) 59 (0, 0)), (w.heap.size + 1, .cells (fa 8 (dg b)) 24 (0, 0)), (w.heap.size + 1 + 1, .cells (fa 18 (fun _ => 0)) 59 (0, 0)), (w.heap.size + 1 + 1 + 1, .cells (fa 8 (fun _ => 0)) 24 (0, 0))] (by kernel_rfl) (HK2.out.drewN _) ?_
      have hqa : a / b < 18446744073709551616 := Nat.lt_of_le_of_lt (Nat.div_le_self a b) g2
      have hra : a % b < 18446744073709551616 := Nat.lt_of_le_of_lt (Nat.mod_le a b) g2
      have hqR : a / b < R 8 := lt_R_of_le (j := 2) (by rw [R_succ, R_succ, R_zero]; omega) (by omega)
      refine wpU_v (i := 0) (v := .int .u64 a) rfl rfl (by kernel_rfl) (by kernel_rfl) rfl (yb_pure fun _ => by kernel_rfl) (by simp only [List.setIfInBounds_toArray, List.set_cons_succ, List.set_cons_zero]; rfl) ?_
      refine wpU_v (i := 1) (v := .int .u64 b) rfl rfl (by kernel_rfl) (by kernel_rfl) rfl (yb_pure fun _ => by kernel_rfl) (by simp only [List.setIfInBounds_toArray, List.set_cons_succ, List.set_cons_zero]; rfl) ?_
      refine wpU_v (i := 2) (v := .int .u64 ((a / b : Nat) : Int)) rfl rfl (by kernel_rfl) (by kernel_rfl) rfl (yb_bin rfl (vx := .int .u64 a) (vy := .int .u64 b) (by kernel_rfl) (by kernel_rfl) fun w => run_quo64 w g4 hb0 g2) (by simp only [List.setIfInBounds_toArray, List.set_cons_succ, List.set_cons_zero]; rfl) ?_
      refine wpU_v (i := 3) (v := num (a / b)) rfl rfl (by kernel_rfl) (by kernel_rfl) rfl (yb_call (f := 32) (args := #[.int .u64 ((a / b : Nat) : Int)]) (fun _ => by kernel_rfl) fun W hW => fromSmall_any (a / b) hqa W) (by simp only [List.setIfInBounds_toArray, List.set_cons_succ, List.set_cons_zero]; rfl) ?_
      refine wpU_v (i := 4) (v := wid (a / b)) rfl rfl (by kernel_rfl) (by kernel_rfl) rfl (yb_call (f := 37) (args := #[num (a / b)]) (fun _ => by kernel_rfl) fun W hW => widen_any (a / b) hqR W) (by simp only [List.setIfInBounds_toArray, List.set_cons_succ, List.set_cons_zero]; rfl) ?_
      refine wpU_v (i := 5) (v := .int .u64 a) rfl rfl (by kernel_rfl) (by kernel_rfl) rfl (yb_pure fun _ => by kernel_rfl) (by simp only [List.setIfInBounds_toArray, List.set_cons_succ, List.set_cons_zero]; rfl) ?_
      refine wpU_v (i := 6) (v := .int .u64 b) rfl rfl (by kernel_rfl) (by kernel_rfl) rfl (yb_pure fun _ => by kernel_rfl) (by simp only [List.setIfInBounds_toArray, List.set_cons_succ, List.set_cons_zero]; rfl) ?_
      refine wpU_v (i := 7) (v := .int .u64 ((a % b : Nat) : Int)) rfl rfl (by kernel_rfl) (by kernel_rfl) rfl (yb_bin rfl (vx := .int .u64 a) (vy := .int .u64 b) (by kernel_rfl) (by kernel_rfl) fun w => run_rem64 w g4 hb0 g2) (by simp only [List.setIfInBounds_toArray, List.set_cons_succ, List.set_cons_zero]; rfl) ?_
      refine wpU_v (i := 8) (v := num (a % b)) rfl rfl (by kernel_rfl) (by kernel_rfl) rfl (yb_call (f := 32) (args := #[.int .u64 ((a % b : Nat) : Int)]) (fun _ => by kernel_rfl) fun W hW => fromSmall_any (a % b) hra W) (by simp only [List.setIfInBounds_toArray, List.set_cons_succ, List.set_cons_zero]; rfl) ?_
      refine wpU_1 (i := 9) (by kernel_rfl) (stepU_store (K' := [(w.heap.size + 1 + 1, .cells (fa 18 (dg (a / b))) 59 (0, 0)), (w.heap.size + 1 + 1 + 1, .cells (fa 8 (fun _ => 0)) 24 (0, 0))]) rfl rfl rfl
        (st_a rfl rfl rfl (.tail _ (.tail _ (.head _))) (by omega) size65 (by intro p hp; simp only [List.mem_cons, List.not_mem_nil, or_false] at hp; rcases hp with rfl | rfl; exact .inl rfl; exact .inr ⟨by simp, by simp⟩)) ?_)
      refine wpU_1 (i := 10) (by kernel_rfl) (stepU_store (K' := [(w.heap.size + 1 + 1, .cells (fa 18 (dg (a / b))) 59 (0, 0)), (w.heap.size + 1 + 1 + 1, .cells (fa 8 (dg (a % b))) 24 (0, 0))]) rfl rfl rfl
        (st_a rfl rfl rfl (.tail _ (.head _)) (by omega) size25 (by intro p hp; simp only [List.mem_cons, List.not_mem_nil, or_false] at hp; rcases hp with rfl | rfl; exact .inr ⟨by simp, by simp⟩; exact .inl rfl)) ?_)
      refine wpU_done (by kernel_rfl) (fun W4 hW4 => ?_) _
      go_wp2_with fail
      exact bodyPost_ret (res_cell_cell rfl rfl (hW4.2 _ (.head _)) Tryd.underlying59 rfl (by rw [size65, fa_size]) rfl (hW4.2 _ (.tail _ (.head _))) Tryd.underlying24 rfl (by rw [size25, fa_size])) rfl ⟨rfl, hW4.1⟩
    · have hb2 : ¬ (ln (dg a) 18 ≤ 2 ∧ ln (dg b) 8 = 2) := h2
      obtain ⟨n, hn⟩ : ∃ n, ln (dg b) 8 = n + 1 := ⟨ln (dg b) 8 - 1, by omega⟩
      have hbR : b < R (n + 1) := by rw [← hn]; exact ln_lt 8 hb
      have haR : a < R (ln (dg a) 18) := ln_lt 18 ha18
      have hbn : dg b n ≠ 0 := by
        have := ln_ge (x := b) (n := 8) (by omega)
        rwa [hn, Nat.add_sub_cancel] at this
      rw [hn] at h1 hn0 hn2 h2
      rw [hn]
      generalize ln (dg a) 18 = m at *
      have hdl := divideLong_any a b m n haR hm0 hbR (by omega) (by omega) hbn
      have HDL := Lib.hid hdl
      clear hdl hn hn1 hb2 haR hbR hbn
      have hq : ((m : Int) ≤ 2 ∧ n ≠ 1) ∨ ¬ ((m : Int) ≤ 2) := by omega
      rcases hq with ⟨hq1, hq2⟩ | hq1
      all_goals
        go_wp2_with (first
          | (refine wpList_lda rfl rfl rfl (HK2.out.2 _ (.head _)) Tryd.underlying59 rfl size65 ?_)
          | (refine wpList_lda rfl rfl rfl (HK2.out.2 _ (.tail _ (.head _))) Tryd.underlying24 rfl size25 ?_))
        refine (HDL.out W1).mono ?_
        rintro e w1 ⟨rfl, hb1⟩
        have HK3 := Lib.hid (HK2.out.below hb1)
        have HK4 : KS w _ (w1.setRow (w.heap.size + 1 + 1) (fa 18 (dg (a / b)))) := HK3.out.put (K' := [(w.heap.size + 1 + 1, .cells (fa 18 (dg (a / b))) 59 (0, 0)), (w.heap.size + 1 + 1 + 1, .cells (fa 8 (fun _ => 0)) 24 (0, 0))]) (by omega) (.tail _ (.tail _ (.head _)))
          (by intro p hp; simp only [List.mem_cons, List.not_mem_nil, or_false] at hp; rcases hp with rfl | rfl; exact .inl rfl; exact .inr ⟨by simp, by simp⟩)
        clear hb1 HK2
        unfold wid num
        go_wp2_with (first
          | (refine wpList_sta (f := dg (a / b)) (f' := fun _ => 0) rfl rfl rfl rfl (HK3.out.2 _ (.tail _ (.tail _ (.head _)))) size65 ?_)
          | (refine wpList_sta (f := dg (a % b)) (f' := fun _ => 0) rfl rfl rfl rfl (HK4.2 _ (.tail _ (.head _))) size25 ?_))
        refine bodyPost_ret (res_cell_cell rfl rfl (cs := fa 18 (dg (a / b))) (t := 59) ?_ Tryd.underlying59 rfl (by rw [size65, fa_size]) rfl (setRow_heap _ _ _ _ _ _ (HK4.2 _ (.tail _ (.head _)))) Tryd.underlying24 rfl (by rw [size25, fa_size])) rfl ⟨rfl, below_setRow HK4.1 (by omega) _⟩
        rw [setRow_other _ _ _ _ (by omega)]; exact HK4.2 _ (.head _)
end Go.Proofs.YtkfcikijmkgahaaDoor
namespace Go.Proofs.YtkfcikijmkgahaaDoor
open Go.RowKit Tw
variable [ShLZ]
set_option maxRecDepth 100000 in
set_option maxHeartbeats 1000000 in
theorem quotient_any (a b : Nat) (ha : a < R 8) (hb : b < R 8) (hb0 : 0 < b) (w : World) :
    Calls Tryd.prog 55 #[num a, num b] w fun e w' => e = .returned (num (a / b)) ∧ Below w.heap.size w w' := by
  unfold num
  have hq : a / b < R 8 := Nat.lt_of_le_of_lt (Nat.div_le_self a b) ha
  have ha17 : a < R 17 := lt_R_of_le ha (by omega)
  go_enter Tryd.func55, Tryd.ntmps55
  go_upto_region 1 with (fail)
  have hK := KS.three w (.cells (fa 8 (dg a)) 24) (.cells (fa 8 (dg b)) 24) (.cells (fa 8 (fun _ => 0)) 24)
  obtain ⟨W, hW⟩ : ∃ W, W = ((w.alloc (.cells (fa 8 (dg a)) 24)).alloc (.cells (fa 8 (dg b)) 24)).alloc (.cells (fa 8 (fun _ => 0)) 24) := ⟨_, rfl⟩
  rw [← hW] at hK
  rw [fa_zero8] at hW
  rw [← hW]
  clear hW
  have HK := Lib.hid hK
  clear hK
  by_cases hb1 : b = 1
  · subst hb1
    go_wp2_with (first
      | (refine wpList_lda rfl rfl rfl (HK.out.2 _ (.tail _ (.head _))) Tryd.underlying24 rfl size25 ?_)
      | (refine wpList_lda rfl rfl rfl (HK.out.2 _ (.head _)) Tryd.underlying24 rfl size25 ?_)
      | (refine wpList_sta (f := dg a) (f' := fun _ => 0) rfl rfl rfl rfl (HK.out.2 _ (.tail _ (.tail _ (.head _)))) size25 ?_))
    exact bodyPost_ret (res_cell rfl rfl (setRow_heap _ _ _ _ _ _ (HK.out.2 _ (.tail _ (.tail _ (.head _))))) Tryd.underlying24 rfl (by rw [size25, fa_size])) rfl ⟨by rw [Nat.div_one], below_setRow HK.out.1 (by omega) _⟩
  · go_wp2_with (first
      | (refine wpList_lda rfl rfl rfl (HK.out.2 _ (.tail _ (.head _))) Tryd.underlying24 rfl size25 ?_))
    refine wp_region_U (W0 := w) [(w.heap.size, .cells (fa 8 (dg a)) 24 (0, 0)), (w.heap.size + 1, .cells (fa 8 (dg b)) 24 (0, 0)), (w.heap.size + 1 + 1, .cells (fa 8 (fun _ => 0)) 24 (0, 0))] (by kernel_rfl) (HK.out) ?_
    refine wpU_v (i := 0) (v := num a) rfl rfl (by kernel_rfl) (by kernel_rfl) rfl (yb_lda rfl (by kernel_rfl) (.head _) Tryd.underlying24 rfl size25) (by simp only [List.setIfInBounds_toArray, List.set_cons_succ, List.set_cons_zero] <;> rfl) ?_
    refine wpU_v (i := 1) (v := wid a) rfl rfl (by kernel_rfl) (by kernel_rfl) rfl (yb_call (f := 37) (args := #[num a]) (fun _ => by kernel_rfl) fun W hW => widen_any a ha W) (by simp only [List.setIfInBounds_toArray, List.set_cons_succ, List.set_cons_zero] <;> rfl) ?_
    refine wpU_v (i := 2) (v := num b) rfl rfl (by kernel_rfl) (by kernel_rfl) rfl (yb_lda rfl (by kernel_rfl) (.tail _ (.head _)) Tryd.underlying24 rfl size25) (by simp only [List.setIfInBounds_toArray, List.set_cons_succ, List.set_cons_zero] <;> rfl) ?_
    refine wpU_v (i := 3) (v := .tuple #[wid (a / b), num (a % b)]) rfl rfl (by kernel_rfl) (by kernel_rfl) rfl (yb_call (f := 36) (args := #[wid a, num b]) (fun _ => by kernel_rfl) fun W hW => divide_any a b ha17 hb hb0 W) (by simp only [List.setIfInBounds_toArray, List.set_cons_succ, List.set_cons_zero] <;> rfl) ?_
    refine wpU_p (i := 4) (v := .tuple #[wid (a / b), num (a % b)]) rfl rfl (by kernel_rfl) (by kernel_rfl) rfl (fun _ => by kernel_rfl) (by simp only [List.setIfInBounds_toArray, List.set_cons_succ, List.set_cons_zero] <;> rfl) ?_
    refine wpU_p (i := 5) (v := wid (a / b)) rfl rfl (by kernel_rfl) (by kernel_rfl) rfl (fun _ => by kernel_rfl) (by simp only [List.setIfInBounds_toArray, List.set_cons_succ, List.set_cons_zero] <;> rfl) ?_
    refine wpU_p (i := 6) (v := num (a % b)) rfl rfl (by kernel_rfl) (by kernel_rfl) rfl (fun _ => by kernel_rfl) (by simp only [List.setIfInBounds_toArray, List.set_cons_succ, List.set_cons_zero] <;> rfl) ?_
    refine wpU_two (i := 7) (j := 8) (obi := .cells (fa 18 (fun _ => 0)) 59 (0, 0)) (obj := .cells (fa 8 (fun _ => 0)) 24 (0, 0)) rfl rfl rfl rfl rfl rfl (by kernel_rfl) (by kernel_rfl) (by kernel_rfl) (by kernel_rfl) (fun _ _ => rfl) (fun _ _ => rfl) (fun _ _ => by simp only [List.setIfInBounds_toArray, List.set_cons_succ, List.set_cons_zero] <;> rfl) (fun _ _ => by simp only [List.setIfInBounds_toArray, List.set_cons_succ, List.set_cons_zero] <;> rfl) fun g h Bg Bh Dgh Fg Fh => ?_
    simp only [List.forall_mem_cons] at Fg Fh
    refine wpU_s [(g, .cells (fa 18 (dg (a / b))) 59 (0, 0)), (h, .cells (fa 8 (fun _ => 0)) 24 (0, 0)), (w.heap.size, .cells (fa 8 (dg a)) 24 (0, 0)), (w.heap.size + 1, .cells (fa 8 (dg b)) 24 (0, 0)), (w.heap.size + 1 + 1, .cells (fa 8 (fun _ => 0)) 24 (0, 0))] (i := 9) rfl (by kernel_rfl) rfl rfl rfl
      (st_a rfl rfl rfl (.head _) (by omega) size65 (by intro p hp; simp only [List.mem_cons, List.not_mem_nil, or_false] at hp; rcases hp with rfl | rfl | rfl | rfl | rfl; exact .inl rfl; exact .inr ⟨by simp, by simp only; omega⟩; exact .inr ⟨by simp, by simp only; omega⟩; exact .inr ⟨by simp, by simp only; omega⟩; exact .inr ⟨by simp, by simp only; omega⟩)) ?_
    refine wpU_s [(g, .cells (fa 18 (dg (a / b))) 59 (0, 0)), (h, .cells (fa 8 (dg (a % b))) 24 (0, 0)), (w.heap.size, .cells (fa 8 (dg a)) 24 (0, 0)), (w.heap.size + 1, .cells (fa 8 (dg b)) 24 (0, 0)), (w.heap.size + 1 + 1, .cells (fa 8 (fun _ => 0)) 24 (0, 0))] (i := 10) rfl (by kernel_rfl) rfl rfl rfl
      (st_a rfl rfl rfl (.tail _ (.head _)) (by omega) size25 (by intro p hp; simp only [List.mem_cons, List.not_mem_nil, or_false] at hp; rcases hp with rfl | rfl | rfl | rfl | rfl; exact .inr ⟨by simp, by simp only; omega⟩; exact .inl rfl; exact .inr ⟨by simp, by simp only; omega⟩; exact .inr ⟨by simp, by simp only; omega⟩; exact .inr ⟨by simp, by simp only; omega⟩)) ?_
    refine wpU_done (by kernel_rfl) (fun W4 hW4 => ?_) _
    clear HK
    have HW4 := Lib.hid hW4
    clear hW4
    go_upto_region 5 with (first
      | (refine wpList_lda rfl rfl rfl (HW4.out.2 _ (.head _)) Tryd.underlying59 rfl size65 ?_)
      | (go_at_call 65; refine (narrow_yes (a / b) hq _).mono ?_; rintro e w2 ⟨rfl, hb2⟩; have HK3 := Lib.hid (HW4.out.below hb2); clear hb2; unfold num)
      | (refine wpList_sta (f := dg (a / b)) (f' := fun _ => 0) rfl rfl rfl rfl (heap1 w2 _) size25 ?_))
    obtain ⟨f1, f2⟩ := HK3.out.fresh
    have HK4 := Lib.hid (HK3.out.newvar (cs := fa 8 (fun _ => 0)) (cs' := fa 8 (dg (a / b))) (t := 24))
    rw [← fa_zero8]
    generalize (w2.alloc (.cells (fa 8 (fun _ => 0)) 24)).setRow w2.heap.size (fa 8 (dg (a / b))) = W2 at *
    clear HK3
    go_wp2_with (first
      | (refine wpList_lda rfl rfl rfl (HK4.out.2 _ (.head _)) Tryd.underlying24 rfl size25 ?_)
      | (refine wpList_sta (f := dg (a / b)) (f' := fun _ => 0) rfl rfl rfl rfl (HK4.out.2 _ (.tail _ (.tail _ (.tail _ (.tail _ (.tail _ (.head _))))))) size25 ?_))
    exact bodyPost_ret (res_cell rfl rfl (setRow_heap _ _ _ _ _ _ (HK4.out.2 _ (.tail _ (.tail _ (.tail _ (.tail _ (.tail _ (.head _)))))))) Tryd.underlying24 rfl (by rw [size25, fa_size])) rfl ⟨rfl, below_setRow HK4.out.1 (by omega) _⟩
end Go.Proofs.YtkfcikijmkgahaaDoor
namespace Go.Proofs.YtkfcikijmkgahaaDoor
open Go.RowKit Tw

set_option maxHeartbeats 400000 in
theorem gcdSmall_any (a b : Nat) (ha : a < 18446744073709551616) (hb : b < 18446744073709551616) (w : World) :
    Calls Tryd.prog 54 #[.int .u64 a, .int .u64 b] w fun e w' => e = .returned (.int .u64 (Nat.gcd a b)) ∧ Below w.heap.size w w' := by
  go_enter Tryd.func54, Tryd.ntmps54
  go_wp2
  go_loopw [0, 1] (fun x y wr => ∃ p q : Nat, p < 18446744073709551616 ∧ q < 18446744073709551616 ∧ Hid (Nat.gcd a b = Nat.gcd p q) ∧ x = .int .u64 p ∧ y = .int .u64 q ∧ Below w.heap.size w wr)
    (fun _ y _ => (intOf y).toNat)
  case atStart => exact ⟨a, b, ha, hb, rfl, rfl, rfl, Below.refl _ _⟩
  case round =>
    obtain ⟨p, q, hp, hq, he, rfl, rfl, hB⟩ := hrel
    rcases Nat.eq_zero_or_pos q with rfl | hpos
    · go_wp2
      go_ret
      exact ⟨ret_int (by rw [he.out, Nat.gcd_zero_right]), hB⟩
    · have hne : ((q : Int) != 0) = true := by simp; omega
      go_wp2
      go_quiet (fail)
      go_wp2
      go_roundw
      case rel => exact ⟨q, p % q, hq, Nat.lt_trans (Nat.mod_lt p hpos) hq, by unfold Hid; rw [he.out, Nat.gcd_comm p q, Nat.gcd_rec q p, Nat.gcd_comm], rfl, by first | rfl | exact congrArg (Value.int .u64) (by omega), belowN hB _⟩
      case measure =>
        have h := Nat.mod_lt p hpos
        have e : ((p : Int) % (q : Int)) = ((p % q : Nat) : Int) := rfl
        rw [e]
        simp only [intOf]
        omega
end Go.Proofs.YtkfcikijmkgahaaDoor
