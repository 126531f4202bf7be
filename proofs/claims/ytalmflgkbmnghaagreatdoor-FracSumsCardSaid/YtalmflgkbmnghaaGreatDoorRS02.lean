import Derived.Test.YtalmflgkbmnghaaGreatDoorRS00
import Derived.Test.YtalmflgkbmnghaaGreatDoorRS01
import Derived.Deep.Cut
/- Part of the proof: Pk, Mu, Pl, Mi, Cm, Ps, Ad, Mg, Of, Rt, Ae, Am, Su, Di, Cp0, Ty. -/
set_option linter.unusedVariables false
set_option linter.unusedSimpArgs false
set_option linter.unusedSectionVars false
namespace Go.Proofs.YtalmflgkbmnghaaGreatDoor
open Go.RowKit Tf
def packV (neg : Bool) (n d : Nat) : Value := if n < R 8 ∧ d < R 8 then .tuple #[frc (neg && decide (n ≠ 0)) n d, .int .i64 0] else .tuple #[frc false 0 0, .int .i64 3]
theorem packV_yes {neg : Bool} {n d : Nat} (hn : n < R 8) (hd : d < R 8) : packV neg n d = .tuple #[frc (neg && decide (n ≠ 0)) n d, .int .i64 0] := if_pos ⟨hn, hd⟩
theorem packV_no {neg : Bool} {n d : Nat} (h : ¬ (n < R 8 ∧ d < R 8)) : packV neg n d = .tuple #[frc false 0 0, .int .i64 3] := if_neg h

set_option maxRecDepth 100000 in
set_option maxHeartbeats 2000000 in
theorem pack_any (neg : Bool) (n d : Nat) (hn : n < R 18) (hd : d < R 18) (w : World) :
    Calls Tryz.prog 80 #[.bool neg, wid n, wid d] w fun e w' => e = .returned (packV neg n d) ∧ Below w.heap.size w w' := by
  unfold wid
  go_enter Tryz.func80, Tryz.ntmps80
  go_upto_region 1 with (fail)
  have hK := KS.three w (.cells (fa 18 (dg n)) 76) (.cells (fa 18 (dg d)) 76) (.cells (frcC false 0 0) 25)
  obtain ⟨W, hW⟩ : ∃ W, W = ((w.alloc (.cells (fa 18 (dg n)) 76)).alloc (.cells (fa 18 (dg d)) 76)).alloc (.cells (frcC false 0 0) 25) := ⟨_, rfl⟩
  rw [← hW] at hK
  rw [frc_zero] at hW
  rw [← hW]
  clear hW
  have HK := Lib.hid hK
  clear hK
  by_cases hn8 : n < R 8
  · by_cases hd8 : d < R 8
    · cases neg
      · go_upto_region 2 with (first
          | (refine wpList_lda rfl rfl rfl (HK.out.2 _ (.head _)) Tryz.underlying76 rfl size65 ?_)
          | (go_at_call 97; refine (narrow_yes n hn8 _).mono ?_; rintro e w1 ⟨rfl, hb1⟩; have HK2 := Lib.hid (HK.out.below hb1); clear hb1; unfold num)
          | (refine wpList_sta (f := dg n) (f' := fun _ => 0) rfl rfl rfl rfl (heap1 w1 _) size25 ?_))
        obtain ⟨f1, f2⟩ := HK2.out.fresh
        have HK3 := Lib.hid (HK2.out.newvar (cs := fa 8 (fun _ => 0)) (cs' := fa 8 (dg n)) (t := 23))
        simp only [List.forall_mem_cons] at f2
        obtain ⟨q1, q2, q3, _⟩ := f2
        have f3 := f1
        rw [← fa_zero8]
        generalize (w1.alloc (.cells (fa 8 (fun _ => 0)) 23)).setRow w1.heap.size (fa 8 (dg n)) = W2 at *
        clear HK2 HK f1
        generalize w1.heap.size = w2 at *
        go_upto_region 3 with (first
          | (refine wpList_lda rfl rfl rfl (HK3.out.2 _ (.tail _ (.tail _ (.head _)))) Tryz.underlying76 rfl size65 ?_)
          | (go_at_call 97; refine (narrow_yes d hd8 _).mono ?_; rintro e w4 ⟨rfl, hb1⟩; have HK4 := Lib.hid (HK3.out.below hb1); clear hb1; unfold num)
          | (refine wpList_sta (f := dg d) (f' := fun _ => 0) rfl rfl rfl rfl (heap1 w4 _) size25 ?_))
        obtain ⟨f1, f2⟩ := HK4.out.fresh
        have HK5 := Lib.hid (HK4.out.newvar (cs := fa 8 (fun _ => 0)) (cs' := fa 8 (dg d)) (t := 23))
        simp only [List.forall_mem_cons] at f2
        obtain ⟨r0, r1, r2, r3, _⟩ := f2
        rw [← fa_zero8]
        generalize (w4.alloc (.cells (fa 8 (fun _ => 0)) 23)).setRow w4.heap.size (fa 8 (dg d)) = W3 at *
        clear HK4 HK3
        generalize w4.heap.size = w3 at *
        go_wp2_with fail
        refine wp_region_U (W0 := w) [(w3, .cells (fa 8 (dg d)) 23 (0, 0)), (w2, .cells (fa 8 (dg n)) 23 (0, 0)), (w.heap.size, .cells (fa 18 (dg n)) 76 (0, 0)), (w.heap.size + 1, .cells (fa 18 (dg d)) 76 (0, 0)), (w.heap.size + 1 + 1, .cells (frcC (false) (0) (0)) 25 (0, 0))] (by kernel_rfl) (HK5.out) ?_
        refine wpU_pY (i := 0) (v := .bool false) rfl rfl (by kernel_rfl) (by kernel_rfl) rfl (fun _ => by kernel_rfl) (by simp only [List.setIfInBounds_toArray, List.set_cons_succ, List.set_cons_zero] <;> rfl) ?_
        refine wpU_pY (i := 1) (v := .bool false) rfl rfl (by kernel_rfl) (by kernel_rfl) rfl (fun _ => by kernel_rfl) (by simp only [List.setIfInBounds_toArray, List.set_cons_succ, List.set_cons_zero] <;> rfl) ?_
        refine wpU_nY (i := 2) rfl rfl (by kernel_rfl) (by kernel_rfl) (by simp only [List.setIfInBounds_toArray, List.set_cons_succ, List.set_cons_zero] <;> rfl) ?_
        refine wpU_nY (i := 3) rfl rfl (by kernel_rfl) (by kernel_rfl) (by simp only [List.setIfInBounds_toArray, List.set_cons_succ, List.set_cons_zero] <;> rfl) ?_
        refine wpU_nY (i := 4) rfl rfl (by kernel_rfl) (by kernel_rfl) (by simp only [List.setIfInBounds_toArray, List.set_cons_succ, List.set_cons_zero] <;> rfl) ?_
        refine wpU_pY (i := 5) (v := .bool (false)) rfl rfl (by kernel_rfl) (by kernel_rfl) rfl (fun _ => by kernel_rfl) (by simp only [List.setIfInBounds_toArray, List.set_cons_succ, List.set_cons_zero] <;> rfl) ?_
        refine wpU_vY (i := 6) (v := num n) rfl rfl (by kernel_rfl) (by kernel_rfl) rfl (yb_lda rfl (by kernel_rfl) (.tail _ (.head _)) Tryz.underlying23 rfl size25) (by simp only [List.setIfInBounds_toArray, List.set_cons_succ, List.set_cons_zero] <;> rfl) ?_
        refine wpU_vY (i := 7) (v := num d) rfl rfl (by kernel_rfl) (by kernel_rfl) rfl (yb_lda rfl (by kernel_rfl) (.head _) Tryz.underlying23 rfl size25) (by simp only [List.setIfInBounds_toArray, List.set_cons_succ, List.set_cons_zero] <;> rfl) ?_
        refine wpU_pY (i := 8) (v := frc (false) n d) rfl rfl (by kernel_rfl) (by kernel_rfl) rfl (fun _ => by kernel_rfl) (by simp only [List.setIfInBounds_toArray, List.set_cons_succ, List.set_cons_zero] <;> rfl) ?_
        refine wpU_sY [(w3, .cells (fa 8 (dg d)) 23 (0, 0)), (w2, .cells (fa 8 (dg n)) 23 (0, 0)), (w.heap.size, .cells (fa 18 (dg n)) 76 (0, 0)), (w.heap.size + 1, .cells (fa 18 (dg d)) 76 (0, 0)), (w.heap.size + 1 + 1, .cells (frcC (false) (n) (d)) 25 (0, 0))] (i := 9) rfl (by kernel_rfl) rfl rfl rfl
          (st_f (neg := false) (n := n) (d := d) rfl (by kernel_rfl) (by kernel_rfl) (.tail _ (.tail _ (.tail _ (.tail _ (.head _))))) (by omega) size27 (by intro p hp; simp only [List.mem_cons, List.not_mem_nil, or_false] at hp; rcases hp with rfl | rfl | rfl | rfl | rfl; exact .inr ⟨by simp, by simp only; omega⟩; exact .inr ⟨by simp, by simp only; omega⟩; exact .inr ⟨by simp, by simp only; omega⟩; exact .inr ⟨by simp, by simp only; omega⟩; exact .inl rfl)) ?_
        refine wpU_pY (i := 10) (v := .int .i64 0) rfl rfl (by kernel_rfl) (by kernel_rfl) rfl (fun _ => by kernel_rfl) (by simp only [List.setIfInBounds_toArray, List.set_cons_succ, List.set_cons_zero] <;> rfl) ?_
        refine wpU_done (by kernel_rfl) (fun W4 hW4 => ?_) _
        go_wp2_with fail
        refine bodyPost_ret (res_cell_tmp rfl rfl (hW4.2 _ (.tail _ (.tail _ (.tail _ (.tail _ (.head _)))))) Tryz.underlying25 rfl (by rw [size27, frcC_size])) rfl ⟨?_, hW4.1⟩
        rw [packV_yes hn8 hd8]
        simp [frc]
      · go_upto_region 2 with (first
          | (refine wpList_lda rfl rfl rfl (HK.out.2 _ (.head _)) Tryz.underlying76 rfl size65 ?_)
          | (go_at_call 97; refine (narrow_yes n hn8 _).mono ?_; rintro e w1 ⟨rfl, hb1⟩; have HK2 := Lib.hid (HK.out.below hb1); clear hb1; unfold num)
          | (refine wpList_sta (f := dg n) (f' := fun _ => 0) rfl rfl rfl rfl (heap1 w1 _) size25 ?_))
        obtain ⟨f1, f2⟩ := HK2.out.fresh
        have HK3 := Lib.hid (HK2.out.newvar (cs := fa 8 (fun _ => 0)) (cs' := fa 8 (dg n)) (t := 23))
        simp only [List.forall_mem_cons] at f2
        obtain ⟨q1, q2, q3, _⟩ := f2
        have f3 := f1
        rw [← fa_zero8]
        generalize (w1.alloc (.cells (fa 8 (fun _ => 0)) 23)).setRow w1.heap.size (fa 8 (dg n)) = W2 at *
        clear HK2 HK f1
        generalize w1.heap.size = w2 at *
        go_upto_region 3 with (first
          | (refine wpList_lda rfl rfl rfl (HK3.out.2 _ (.tail _ (.tail _ (.head _)))) Tryz.underlying76 rfl size65 ?_)
          | (go_at_call 97; refine (narrow_yes d hd8 _).mono ?_; rintro e w4 ⟨rfl, hb1⟩; have HK4 := Lib.hid (HK3.out.below hb1); clear hb1; unfold num)
          | (refine wpList_sta (f := dg d) (f' := fun _ => 0) rfl rfl rfl rfl (heap1 w4 _) size25 ?_))
        obtain ⟨f1, f2⟩ := HK4.out.fresh
        have HK5 := Lib.hid (HK4.out.newvar (cs := fa 8 (fun _ => 0)) (cs' := fa 8 (dg d)) (t := 23))
        simp only [List.forall_mem_cons] at f2
        obtain ⟨r0, r1, r2, r3, _⟩ := f2
        rw [← fa_zero8]
        generalize (w4.alloc (.cells (fa 8 (fun _ => 0)) 23)).setRow w4.heap.size (fa 8 (dg d)) = W3 at *
        clear HK4 HK3
        generalize w4.heap.size = w3 at *
        go_wp2_with fail
        refine wp_region_U (W0 := w) [(w3, .cells (fa 8 (dg d)) 23 (0, 0)), (w2, .cells (fa 8 (dg n)) 23 (0, 0)), (w.heap.size, .cells (fa 18 (dg n)) 76 (0, 0)), (w.heap.size + 1, .cells (fa 18 (dg d)) 76 (0, 0)), (w.heap.size + 1 + 1, .cells (frcC (false) (0) (0)) 25 (0, 0))] (by kernel_rfl) (HK5.out) ?_
        refine wpU_pY (i := 0) (v := .bool true) rfl rfl (by kernel_rfl) (by kernel_rfl) rfl (fun _ => by kernel_rfl) (by simp only [List.setIfInBounds_toArray, List.set_cons_succ, List.set_cons_zero] <;> rfl) ?_
        refine wpU_pY (i := 1) (v := .bool true) rfl rfl (by kernel_rfl) (by kernel_rfl) rfl (fun _ => by kernel_rfl) (by simp only [List.setIfInBounds_toArray, List.set_cons_succ, List.set_cons_zero] <;> rfl) ?_
        refine wpU_vY (i := 2) (v := num n) rfl rfl (by kernel_rfl) (by kernel_rfl) rfl (yb_lda rfl (by kernel_rfl) (.tail _ (.head _)) Tryz.underlying23 rfl size25) (by simp only [List.setIfInBounds_toArray, List.set_cons_succ, List.set_cons_zero] <;> rfl) ?_
        refine wpU_pY (i := 3) (v := .agg #[.int .u32 0, .int .u32 0, .int .u32 0, .int .u32 0, .int .u32 0, .int .u32 0, .int .u32 0, .int .u32 0]) rfl rfl (by kernel_rfl) (by kernel_rfl) rfl (fun _ => by kernel_rfl) (by simp only [List.setIfInBounds_toArray, List.set_cons_succ, List.set_cons_zero] <;> rfl) ?_
        refine wpU_pY (i := 4) (v := .bool (!decide (n = 0))) rfl rfl (by kernel_rfl) (by kernel_rfl) rfl (run_binY rfl (vx := num n) (vy := .agg #[.int .u32 0, .int .u32 0, .int .u32 0, .int .u32 0, .int .u32 0, .int .u32 0, .int .u32 0, .int .u32 0]) (by kernel_rfl) (by kernel_rfl) fun w => run_neq25_nil hn8 w) (by simp only [List.setIfInBounds_toArray, List.set_cons_succ, List.set_cons_zero] <;> rfl) ?_
        refine wpU_pY (i := 5) (v := .bool (!decide (n = 0))) rfl rfl (by kernel_rfl) (by kernel_rfl) rfl (fun _ => by kernel_rfl) (by simp only [List.setIfInBounds_toArray, List.set_cons_succ, List.set_cons_zero] <;> rfl) ?_
        refine wpU_vY (i := 6) (v := num n) rfl rfl (by kernel_rfl) (by kernel_rfl) rfl (yb_lda rfl (by kernel_rfl) (.tail _ (.head _)) Tryz.underlying23 rfl size25) (by simp only [List.setIfInBounds_toArray, List.set_cons_succ, List.set_cons_zero] <;> rfl) ?_
        refine wpU_vY (i := 7) (v := num d) rfl rfl (by kernel_rfl) (by kernel_rfl) rfl (yb_lda rfl (by kernel_rfl) (.head _) Tryz.underlying23 rfl size25) (by simp only [List.setIfInBounds_toArray, List.set_cons_succ, List.set_cons_zero] <;> rfl) ?_
        refine wpU_pY (i := 8) (v := frc (!decide (n = 0)) n d) rfl rfl (by kernel_rfl) (by kernel_rfl) rfl (fun _ => by kernel_rfl) (by simp only [List.setIfInBounds_toArray, List.set_cons_succ, List.set_cons_zero] <;> rfl) ?_
        refine wpU_sY [(w3, .cells (fa 8 (dg d)) 23 (0, 0)), (w2, .cells (fa 8 (dg n)) 23 (0, 0)), (w.heap.size, .cells (fa 18 (dg n)) 76 (0, 0)), (w.heap.size + 1, .cells (fa 18 (dg d)) 76 (0, 0)), (w.heap.size + 1 + 1, .cells (frcC (!decide (n = 0)) (n) (d)) 25 (0, 0))] (i := 9) rfl (by kernel_rfl) rfl rfl rfl
          (st_f (neg := !decide (n = 0)) (n := n) (d := d) rfl (by kernel_rfl) (by kernel_rfl) (.tail _ (.tail _ (.tail _ (.tail _ (.head _))))) (by omega) size27 (by intro p hp; simp only [List.mem_cons, List.not_mem_nil, or_false] at hp; rcases hp with rfl | rfl | rfl | rfl | rfl; exact .inr ⟨by simp, by simp only; omega⟩; exact .inr ⟨by simp, by simp only; omega⟩; exact .inr ⟨by simp, by simp only; omega⟩; exact .inr ⟨by simp, by simp only; omega⟩; exact .inl rfl)) ?_
        refine wpU_pY (i := 10) (v := .int .i64 0) rfl rfl (by kernel_rfl) (by kernel_rfl) rfl (fun _ => by kernel_rfl) (by simp only [List.setIfInBounds_toArray, List.set_cons_succ, List.set_cons_zero] <;> rfl) ?_
        refine wpU_done (by kernel_rfl) (fun W4 hW4 => ?_) _
        go_wp2_with fail
        refine bodyPost_ret (res_cell_tmp rfl rfl (hW4.2 _ (.tail _ (.tail _ (.tail _ (.tail _ (.head _)))))) Tryz.underlying25 rfl (by rw [size27, frcC_size])) rfl ⟨?_, hW4.1⟩
        rw [packV_yes hn8 hd8]
        simp [frc]
    · go_upto_region 2 with (first
        | (refine wpList_lda rfl rfl rfl (HK.out.2 _ (.head _)) Tryz.underlying76 rfl size65 ?_)
        | (go_at_call 97; refine (narrow_yes n hn8 _).mono ?_; rintro e w1 ⟨rfl, hb1⟩; have HK2 := Lib.hid (HK.out.below hb1); clear hb1; unfold num)
        | (refine wpList_sta (f := dg n) (f' := fun _ => 0) rfl rfl rfl rfl (heap1 w1 _) size25 ?_))
      obtain ⟨f1, f2⟩ := HK2.out.fresh
      have HK3 := Lib.hid (HK2.out.newvar (cs := fa 8 (fun _ => 0)) (cs' := fa 8 (dg n)) (t := 23))
      simp only [List.forall_mem_cons] at f2
      obtain ⟨q1, q2, q3, _⟩ := f2
      have f3 := f1
      rw [← fa_zero8]
      generalize (w1.alloc (.cells (fa 8 (fun _ => 0)) 23)).setRow w1.heap.size (fa 8 (dg n)) = W2 at *
      clear HK2 HK f1
      generalize w1.heap.size = w2 at *
      go_upto_region 3 with (first
        | (refine wpList_lda rfl rfl rfl (HK3.out.2 _ (.tail _ (.tail _ (.head _)))) Tryz.underlying76 rfl size65 ?_)
        | (go_at_call 97; refine (narrow_no d hd (Nat.le_of_not_lt hd8) _).mono ?_; rintro e w4 ⟨rfl, hb1⟩; have HK4 := Lib.hid (HK3.out.below hb1); clear hb1; unfold num)
        | (refine wpList_sta (f := dg 0) (f' := fun _ => 0) rfl rfl rfl rfl (heap1 w4 _) size25 ?_))
      obtain ⟨f1, f2⟩ := HK4.out.fresh
      have HK5 := Lib.hid (HK4.out.newvar (cs := fa 8 (fun _ => 0)) (cs' := fa 8 (dg 0)) (t := 23))
      simp only [List.forall_mem_cons] at f2
      obtain ⟨r0, r1, r2, r3, _⟩ := f2
      rw [← fa_zero8]
      generalize (w4.alloc (.cells (fa 8 (fun _ => 0)) 23)).setRow w4.heap.size (fa 8 (dg 0)) = W3 at *
      clear HK4 HK3
      generalize w4.heap.size = w3 at *
      go_wp2_with (first
        | (refine wpList_stf (neg := false) (n := 0) (d := 0) (neg' := false) (n' := 0) (d' := 0) rfl rfl rfl (by rw [frc_zero]; rfl) (HK5.out.2 _ (.tail _ (.tail _ (.tail _ (.tail _ (.head _)))))) size27 ?_))
      refine bodyPost_ret (res_cell_tmp rfl rfl (setRow_heap _ _ _ _ _ _ (HK5.out.2 _ (.tail _ (.tail _ (.tail _ (.tail _ (.head _))))))) Tryz.underlying25 rfl (by rw [size27, frcC_size])) rfl ⟨?_, below_setRow HK5.out.1 (by omega) _⟩
      rw [packV_no (fun h => hd8 h.2)]
      rfl
  · by_cases hd8 : d < R 8
    · go_upto_region 2 with (first
        | (refine wpList_lda rfl rfl rfl (HK.out.2 _ (.head _)) Tryz.underlying76 rfl size65 ?_)
        | (go_at_call 97; refine (narrow_no n hn (Nat.le_of_not_lt hn8) _).mono ?_; rintro e w1 ⟨rfl, hb1⟩; have HK2 := Lib.hid (HK.out.below hb1); clear hb1; unfold num)
        | (refine wpList_sta (f := dg 0) (f' := fun _ => 0) rfl rfl rfl rfl (heap1 w1 _) size25 ?_))
      obtain ⟨f1, f2⟩ := HK2.out.fresh
      have HK3 := Lib.hid (HK2.out.newvar (cs := fa 8 (fun _ => 0)) (cs' := fa 8 (dg 0)) (t := 23))
      simp only [List.forall_mem_cons] at f2
      obtain ⟨q1, q2, q3, _⟩ := f2
      have f3 := f1
      rw [← fa_zero8]
      generalize (w1.alloc (.cells (fa 8 (fun _ => 0)) 23)).setRow w1.heap.size (fa 8 (dg 0)) = W2 at *
      clear HK2 HK f1
      generalize w1.heap.size = w2 at *
      go_upto_region 3 with (first
        | (refine wpList_lda rfl rfl rfl (HK3.out.2 _ (.tail _ (.tail _ (.head _)))) Tryz.underlying76 rfl size65 ?_)
        | (go_at_call 97; refine (narrow_yes d hd8 _).mono ?_; rintro e w4 ⟨rfl, hb1⟩; have HK4 := Lib.hid (HK3.out.below hb1); clear hb1; unfold num)
        | (refine wpList_sta (f := dg d) (f' := fun _ => 0) rfl rfl rfl rfl (heap1 w4 _) size25 ?_))
      obtain ⟨f1, f2⟩ := HK4.out.fresh
      have HK5 := Lib.hid (HK4.out.newvar (cs := fa 8 (fun _ => 0)) (cs' := fa 8 (dg d)) (t := 23))
      simp only [List.forall_mem_cons] at f2
      obtain ⟨r0, r1, r2, r3, _⟩ := f2
      rw [← fa_zero8]
      generalize (w4.alloc (.cells (fa 8 (fun _ => 0)) 23)).setRow w4.heap.size (fa 8 (dg d)) = W3 at *
      clear HK4 HK3
      generalize w4.heap.size = w3 at *
      go_wp2_with (first
        | (refine wpList_stf (neg := false) (n := 0) (d := 0) (neg' := false) (n' := 0) (d' := 0) rfl rfl rfl (by rw [frc_zero]; rfl) (HK5.out.2 _ (.tail _ (.tail _ (.tail _ (.tail _ (.head _)))))) size27 ?_))
      refine bodyPost_ret (res_cell_tmp rfl rfl (setRow_heap _ _ _ _ _ _ (HK5.out.2 _ (.tail _ (.tail _ (.tail _ (.tail _ (.head _))))))) Tryz.underlying25 rfl (by rw [size27, frcC_size])) rfl ⟨?_, below_setRow HK5.out.1 (by omega) _⟩
      rw [packV_no (fun h => hn8 h.1)]
      rfl
    · go_upto_region 2 with (first
        | (refine wpList_lda rfl rfl rfl (HK.out.2 _ (.head _)) Tryz.underlying76 rfl size65 ?_)
        | (go_at_call 97; refine (narrow_no n hn (Nat.le_of_not_lt hn8) _).mono ?_; rintro e w1 ⟨rfl, hb1⟩; have HK2 := Lib.hid (HK.out.below hb1); clear hb1; unfold num)
        | (refine wpList_sta (f := dg 0) (f' := fun _ => 0) rfl rfl rfl rfl (heap1 w1 _) size25 ?_))
      obtain ⟨f1, f2⟩ := HK2.out.fresh
      have HK3 := Lib.hid (HK2.out.newvar (cs := fa 8 (fun _ => 0)) (cs' := fa 8 (dg 0)) (t := 23))
      simp only [List.forall_mem_cons] at f2
      obtain ⟨q1, q2, q3, _⟩ := f2
      have f3 := f1
      rw [← fa_zero8]
      generalize (w1.alloc (.cells (fa 8 (fun _ => 0)) 23)).setRow w1.heap.size (fa 8 (dg 0)) = W2 at *
      clear HK2 HK f1
      generalize w1.heap.size = w2 at *
      go_upto_region 3 with (first
        | (refine wpList_lda rfl rfl rfl (HK3.out.2 _ (.tail _ (.tail _ (.head _)))) Tryz.underlying76 rfl size65 ?_)
        | (go_at_call 97; refine (narrow_no d hd (Nat.le_of_not_lt hd8) _).mono ?_; rintro e w4 ⟨rfl, hb1⟩; have HK4 := Lib.hid (HK3.out.below hb1); clear hb1; unfold num)
        | (refine wpList_sta (f := dg 0) (f' := fun _ => 0) rfl rfl rfl rfl (heap1 w4 _) size25 ?_))
      obtain ⟨f1, f2⟩ := HK4.out.fresh
      have HK5 := Lib.hid (HK4.out.newvar (cs := fa 8 (fun _ => 0)) (cs' := fa 8 (dg 0)) (t := 23))
      simp only [List.forall_mem_cons] at f2
      obtain ⟨r0, r1, r2, r3, _⟩ := f2
      rw [← fa_zero8]
      generalize (w4.alloc (.cells (fa 8 (fun _ => 0)) 23)).setRow w4.heap.size (fa 8 (dg 0)) = W3 at *
      clear HK4 HK3
      generalize w4.heap.size = w3 at *
      go_wp2_with (first
        | (refine wpList_stf (neg := false) (n := 0) (d := 0) (neg' := false) (n' := 0) (d' := 0) rfl rfl rfl (by rw [frc_zero]; rfl) (HK5.out.2 _ (.tail _ (.tail _ (.tail _ (.tail _ (.head _)))))) size27 ?_))
      refine bodyPost_ret (res_cell_tmp rfl rfl (setRow_heap _ _ _ _ _ _ (HK5.out.2 _ (.tail _ (.tail _ (.tail _ (.tail _ (.head _))))))) Tryz.underlying25 rfl (by rw [size27, frcC_size])) rfl ⟨?_, below_setRow HK5.out.1 (by omega) _⟩
      rw [packV_no (fun h => hn8 h.1)]
      rfl

end Go.Proofs.YtalmflgkbmnghaaGreatDoor
namespace Go.Proofs.YtalmflgkbmnghaaGreatDoor
open Go.RowKit Tf
variable [ShLZ]
theorem packV_shape (s : Bool) (n d : Nat) : ∃ s' n' d' e, packV s n d = .tuple #[.agg (frcC s' n' d'), .int .i64 e] := by
  unfold packV; split
  · exact ⟨_, _, _, _, rfl⟩
  · exact ⟨_, _, _, _, rfl⟩
theorem mul_lt18 {a b : Nat} (ha : a < R 8) (hb : b < R 8) : a * b < R 18 :=
  lt_R_of_le (j := 8 + 8) (by rw [R_add]; exact Nat.mul_lt_mul'' ha hb) (by omega)

set_option maxRecDepth 100000 in
set_option maxHeartbeats 2000000 in
theorem mul_any (s1 s2 : Bool) (n1 d1 n2 d2 : Nat) (hn1 : n1 < R 8) (hd1 : d1 < R 8) (hn2 : n2 < R 8) (hd2 : d2 < R 8) (h1 : 0 < d1) (h2 : 0 < d2) (w : World) :
    Calls Tryz.prog 53 #[frc s1 n1 d1, frc s2 n2 d2] w fun e w' => e = .returned (packV (s1 != s2) (n1 / Nat.gcd n1 d2 * (n2 / Nat.gcd n2 d1)) (d1 / Nat.gcd n2 d1 * (d2 / Nat.gcd n1 d2))) ∧ Below w.heap.size w w' := by
  have ho : Nat.gcd n1 d2 < R 8 := Nat.lt_of_le_of_lt (Nat.gcd_le_right n1 h2) hd2
  have hp : Nat.gcd n2 d1 < R 8 := Nat.lt_of_le_of_lt (Nat.gcd_le_right n2 h1) hd1
  have hop : 0 < Nat.gcd n1 d2 := Nat.gcd_pos_of_pos_right n1 h2
  have hpp : 0 < Nat.gcd n2 d1 := Nat.gcd_pos_of_pos_right n2 h1
  have q1 : n1 / Nat.gcd n1 d2 < R 8 := Nat.lt_of_le_of_lt (Nat.div_le_self _ _) hn1
  have q2 : n2 / Nat.gcd n2 d1 < R 8 := Nat.lt_of_le_of_lt (Nat.div_le_self _ _) hn2
  have q3 : d1 / Nat.gcd n2 d1 < R 8 := Nat.lt_of_le_of_lt (Nat.div_le_self _ _) hd1
  have q4 : d2 / Nat.gcd n1 d2 < R 8 := Nat.lt_of_le_of_lt (Nat.div_le_self _ _) hd2
  have HPK := Lib.hid (fun W => pack_any (s1 != s2) (n1 / Nat.gcd n1 d2 * (n2 / Nat.gcd n2 d1)) (d1 / Nat.gcd n2 d1 * (d2 / Nat.gcd n1 d2)) (mul_lt18 q1 q2) (mul_lt18 q3 q4) W)
  obtain ⟨s', n', d', ee, hpv⟩ := packV_shape (s1 != s2) (n1 / Nat.gcd n1 d2 * (n2 / Nat.gcd n2 d1)) (d1 / Nat.gcd n2 d1 * (d2 / Nat.gcd n1 d2))
  have HPV := Lib.hid hpv
  clear hpv
  unfold frc
  go_enter Tryz.func53, Tryz.ntmps53
  go_upto_region 1 with (fail)
  have hK := KS.three w (.cells (frcC s1 n1 d1) 25) (.cells (frcC s2 n2 d2) 25) (.cells (frcC false 0 0) 25)
  obtain ⟨W, hW⟩ : ∃ W, W = ((w.alloc (.cells (frcC s1 n1 d1) 25)).alloc (.cells (frcC s2 n2 d2) 25)).alloc (.cells (frcC false 0 0) 25) := ⟨_, rfl⟩
  rw [← hW] at hK
  rw [frc_zero] at hW
  rw [← hW]
  clear hW
  have HK := Lib.hid hK
  clear hK
  go_wp2_with fail
  refine wp_region_U (W0 := w) [(w.heap.size, .cells (frcC (s1) (n1) (d1)) 25 (0, 0)), (w.heap.size + 1, .cells (frcC (s2) (n2) (d2)) 25 (0, 0)), (w.heap.size + 1 + 1, .cells (frcC (false) (0) (0)) 25 (0, 0))] (by kernel_rfl) (HK.out) ?_
  refine wpU_pY (i := 0) (v := .pointer (some ⟨w.heap.size, 1, none⟩)) rfl rfl (by kernel_rfl) (by kernel_rfl) rfl (fun _ => by kernel_rfl) (by simp only [List.setIfInBounds_toArray, List.set_cons_succ, List.set_cons_zero] <;> rfl) ?_
  refine wpU_vY (i := 1) (v := num (n1)) rfl rfl (by kernel_rfl) (by kernel_rfl) rfl (yb_load rfl (by kernel_rfl) (.head _) Tryz.underlying23 rfl size25 (by simp) (frc_num (s1) (n1) (d1))) (by simp only [List.setIfInBounds_toArray, List.set_cons_succ, List.set_cons_zero] <;> rfl) ?_
  refine wpU_pY (i := 2) (v := .pointer (some ⟨w.heap.size + 1, 9, none⟩)) rfl rfl (by kernel_rfl) (by kernel_rfl) rfl (fun _ => by kernel_rfl) (by simp only [List.setIfInBounds_toArray, List.set_cons_succ, List.set_cons_zero] <;> rfl) ?_
  refine wpU_vY (i := 3) (v := num (d2)) rfl rfl (by kernel_rfl) (by kernel_rfl) rfl (yb_load rfl (by kernel_rfl) (.tail _ (.head _)) Tryz.underlying23 rfl size25 (by simp) (frc_den (s2) (n2) (d2))) (by simp only [List.setIfInBounds_toArray, List.set_cons_succ, List.set_cons_zero] <;> rfl) ?_
  refine wpU_vY (i := 4) (v := num (Nat.gcd n1 d2)) rfl rfl (by kernel_rfl) (by kernel_rfl) rfl (yb_call (f := 49) (args := #[num n1, num d2]) (fun _ => by kernel_rfl) fun W hW => gcd_any n1 d2 hn1 hd2 W) (by simp only [List.setIfInBounds_toArray, List.set_cons_succ, List.set_cons_zero] <;> rfl) ?_
  refine wpU_pY (i := 5) (v := .pointer (some ⟨w.heap.size + 1, 1, none⟩)) rfl rfl (by kernel_rfl) (by kernel_rfl) rfl (fun _ => by kernel_rfl) (by simp only [List.setIfInBounds_toArray, List.set_cons_succ, List.set_cons_zero] <;> rfl) ?_
  refine wpU_vY (i := 6) (v := num (n2)) rfl rfl (by kernel_rfl) (by kernel_rfl) rfl (yb_load rfl (by kernel_rfl) (.tail _ (.head _)) Tryz.underlying23 rfl size25 (by simp) (frc_num (s2) (n2) (d2))) (by simp only [List.setIfInBounds_toArray, List.set_cons_succ, List.set_cons_zero] <;> rfl) ?_
  refine wpU_pY (i := 7) (v := .pointer (some ⟨w.heap.size, 9, none⟩)) rfl rfl (by kernel_rfl) (by kernel_rfl) rfl (fun _ => by kernel_rfl) (by simp only [List.setIfInBounds_toArray, List.set_cons_succ, List.set_cons_zero] <;> rfl) ?_
  refine wpU_vY (i := 8) (v := num (d1)) rfl rfl (by kernel_rfl) (by kernel_rfl) rfl (yb_load rfl (by kernel_rfl) (.head _) Tryz.underlying23 rfl size25 (by simp) (frc_den (s1) (n1) (d1))) (by simp only [List.setIfInBounds_toArray, List.set_cons_succ, List.set_cons_zero] <;> rfl) ?_
  refine wpU_vY (i := 9) (v := num (Nat.gcd n2 d1)) rfl rfl (by kernel_rfl) (by kernel_rfl) rfl (yb_call (f := 49) (args := #[num n2, num d1]) (fun _ => by kernel_rfl) fun W hW => gcd_any n2 d1 hn2 hd1 W) (by simp only [List.setIfInBounds_toArray, List.set_cons_succ, List.set_cons_zero] <;> rfl) ?_
  refine wpU_twoY (i := 10) (j := 11) (obi := .cells (fa 8 (fun _ => 0)) 23 (0, 0)) (obj := .cells (fa 8 (fun _ => 0)) 23 (0, 0)) rfl rfl rfl rfl rfl rfl (by kernel_rfl) (by kernel_rfl) (by kernel_rfl) (by kernel_rfl) (fun _ _ => rfl) (fun _ _ => rfl) (fun _ _ => by simp only [List.setIfInBounds_toArray, List.set_cons_succ, List.set_cons_zero] <;> rfl) (fun _ _ => by simp only [List.setIfInBounds_toArray, List.set_cons_succ, List.set_cons_zero] <;> rfl) fun g h Bg Bh Dgh Fg Fh => ?_
  simp only [List.forall_mem_cons] at Fg Fh
  refine wpU_sY [(g, .cells (fa 8 (dg (Nat.gcd n1 d2))) 23 (0, 0)), (h, .cells (fa 8 (fun _ => 0)) 23 (0, 0)), (w.heap.size, .cells (frcC (s1) (n1) (d1)) 25 (0, 0)), (w.heap.size + 1, .cells (frcC (s2) (n2) (d2)) 25 (0, 0)), (w.heap.size + 1 + 1, .cells (frcC (false) (0) (0)) 25 (0, 0))] (i := 12) rfl (by kernel_rfl) rfl rfl rfl
    (st_a rfl rfl rfl (.head _) (by omega) size25 (by intro p hp; simp only [List.mem_cons, List.not_mem_nil, or_false] at hp; rcases hp with rfl | rfl | rfl | rfl | rfl; exact .inl rfl; exact .inr ⟨by simp, by simp only; omega⟩; exact .inr ⟨by simp, by simp only; omega⟩; exact .inr ⟨by simp, by simp only; omega⟩; exact .inr ⟨by simp, by simp only; omega⟩)) ?_
  refine wpU_sY [(g, .cells (fa 8 (dg (Nat.gcd n1 d2))) 23 (0, 0)), (h, .cells (fa 8 (dg (Nat.gcd n2 d1))) 23 (0, 0)), (w.heap.size, .cells (frcC (s1) (n1) (d1)) 25 (0, 0)), (w.heap.size + 1, .cells (frcC (s2) (n2) (d2)) 25 (0, 0)), (w.heap.size + 1 + 1, .cells (frcC (false) (0) (0)) 25 (0, 0))] (i := 13) rfl (by kernel_rfl) rfl rfl rfl
    (st_a rfl rfl rfl (.tail _ (.head _)) (by omega) size25 (by intro p hp; simp only [List.mem_cons, List.not_mem_nil, or_false] at hp; rcases hp with rfl | rfl | rfl | rfl | rfl; exact .inr ⟨by simp, by simp only; omega⟩; exact .inl rfl; exact .inr ⟨by simp, by simp only; omega⟩; exact .inr ⟨by simp, by simp only; omega⟩; exact .inr ⟨by simp, by simp only; omega⟩)) ?_
  refine wpU_done (by kernel_rfl) (fun W4 hW4 => ?_) _
  clear HK
  go_wp2_with fail
  refine wp_region_U (W0 := w) [(g, .cells (fa 8 (dg (Nat.gcd n1 d2))) 23 (0, 0)), (h, .cells (fa 8 (dg (Nat.gcd n2 d1))) 23 (0, 0)), (w.heap.size, .cells (frcC (s1) (n1) (d1)) 25 (0, 0)), (w.heap.size + 1, .cells (frcC (s2) (n2) (d2)) 25 (0, 0)), (w.heap.size + 1 + 1, .cells (frcC (false) (0) (0)) 25 (0, 0))] (by kernel_rfl) (hW4) ?_
  refine wpU_pY (i := 0) (v := .pointer (some ⟨w.heap.size, 1, none⟩)) rfl rfl (by kernel_rfl) (by kernel_rfl) rfl (fun _ => by kernel_rfl) (by simp only [List.setIfInBounds_toArray, List.set_cons_succ, List.set_cons_zero] <;> rfl) ?_
  refine wpU_vY (i := 1) (v := num (n1)) rfl rfl (by kernel_rfl) (by kernel_rfl) rfl (yb_load rfl (by kernel_rfl) (.tail _ (.tail _ (.head _))) Tryz.underlying23 rfl size25 (by simp) (frc_num (s1) (n1) (d1))) (by simp only [List.setIfInBounds_toArray, List.set_cons_succ, List.set_cons_zero] <;> rfl) ?_
  refine wpU_vY (i := 2) (v := num (Nat.gcd n1 d2)) rfl rfl (by kernel_rfl) (by kernel_rfl) rfl (yb_lda rfl (by kernel_rfl) (.head _) Tryz.underlying23 rfl size25) (by simp only [List.setIfInBounds_toArray, List.set_cons_succ, List.set_cons_zero] <;> rfl) ?_
  refine wpU_vY (i := 3) (v := num (n1 / Nat.gcd n1 d2)) rfl rfl (by kernel_rfl) (by kernel_rfl) rfl (yb_call (f := 79) (args := #[num n1, num (Nat.gcd n1 d2)]) (fun _ => by kernel_rfl) fun W hW => quotient_any n1 (Nat.gcd n1 d2) hn1 ho hop W) (by simp only [List.setIfInBounds_toArray, List.set_cons_succ, List.set_cons_zero] <;> rfl) ?_
  refine wpU_pY (i := 4) (v := .pointer (some ⟨w.heap.size + 1, 1, none⟩)) rfl rfl (by kernel_rfl) (by kernel_rfl) rfl (fun _ => by kernel_rfl) (by simp only [List.setIfInBounds_toArray, List.set_cons_succ, List.set_cons_zero] <;> rfl) ?_
  refine wpU_vY (i := 5) (v := num (n2)) rfl rfl (by kernel_rfl) (by kernel_rfl) rfl (yb_load rfl (by kernel_rfl) (.tail _ (.tail _ (.tail _ (.head _)))) Tryz.underlying23 rfl size25 (by simp) (frc_num (s2) (n2) (d2))) (by simp only [List.setIfInBounds_toArray, List.set_cons_succ, List.set_cons_zero] <;> rfl) ?_
  refine wpU_vY (i := 6) (v := num (Nat.gcd n2 d1)) rfl rfl (by kernel_rfl) (by kernel_rfl) rfl (yb_lda rfl (by kernel_rfl) (.tail _ (.head _)) Tryz.underlying23 rfl size25) (by simp only [List.setIfInBounds_toArray, List.set_cons_succ, List.set_cons_zero] <;> rfl) ?_
  refine wpU_vY (i := 7) (v := num (n2 / Nat.gcd n2 d1)) rfl rfl (by kernel_rfl) (by kernel_rfl) rfl (yb_call (f := 79) (args := #[num n2, num (Nat.gcd n2 d1)]) (fun _ => by kernel_rfl) fun W hW => quotient_any n2 (Nat.gcd n2 d1) hn2 hp hpp W) (by simp only [List.setIfInBounds_toArray, List.set_cons_succ, List.set_cons_zero] <;> rfl) ?_
  refine wpU_vY (i := 8) (v := wid (n1 / Nat.gcd n1 d2 * (n2 / Nat.gcd n2 d1))) rfl rfl (by kernel_rfl) (by kernel_rfl) rfl (yb_call (f := 55) (args := #[num (n1 / Nat.gcd n1 d2), num (n2 / Nat.gcd n2 d1)]) (fun _ => by kernel_rfl) fun W hW => times_any (n1 / Nat.gcd n1 d2) (n2 / Nat.gcd n2 d1) q1 q2 W) (by simp only [List.setIfInBounds_toArray, List.set_cons_succ, List.set_cons_zero] <;> rfl) ?_
  refine wpU_newY (i := 9) (obi := .cells (fa 18 (fun _ => 0)) 76 (0, 0)) rfl rfl rfl (by kernel_rfl) (fun _ _ => rfl) (fun _ => by simp only [List.setIfInBounds_toArray, List.set_cons_succ, List.set_cons_zero] <;> rfl) fun k Bk Fk => ?_
  simp only [List.forall_mem_cons] at Fk
  refine wpU_sY [(k, .cells (fa 18 (dg (n1 / Nat.gcd n1 d2 * (n2 / Nat.gcd n2 d1)))) 76 (0, 0)), (g, .cells (fa 8 (dg (Nat.gcd n1 d2))) 23 (0, 0)), (h, .cells (fa 8 (dg (Nat.gcd n2 d1))) 23 (0, 0)), (w.heap.size, .cells (frcC (s1) (n1) (d1)) 25 (0, 0)), (w.heap.size + 1, .cells (frcC (s2) (n2) (d2)) 25 (0, 0)), (w.heap.size + 1 + 1, .cells (frcC (false) (0) (0)) 25 (0, 0))] (i := 10) rfl (by kernel_rfl) rfl rfl rfl
    (st_a rfl rfl rfl (.head _) (by omega) size65 (by intro p hp; simp only [List.mem_cons, List.not_mem_nil, or_false] at hp; rcases hp with rfl | rfl | rfl | rfl | rfl | rfl; exact .inl rfl; exact .inr ⟨by simp, by simp only; omega⟩; exact .inr ⟨by simp, by simp only; omega⟩; exact .inr ⟨by simp, by simp only; omega⟩; exact .inr ⟨by simp, by simp only; omega⟩; exact .inr ⟨by simp, by simp only; omega⟩)) ?_
  refine wpU_done (by kernel_rfl) (fun W5 hW5 => ?_) _
  clear hW4
  go_wp2_with fail
  refine wp_region_U (W0 := w) [(k, .cells (fa 18 (dg (n1 / Nat.gcd n1 d2 * (n2 / Nat.gcd n2 d1)))) 76 (0, 0)), (g, .cells (fa 8 (dg (Nat.gcd n1 d2))) 23 (0, 0)), (h, .cells (fa 8 (dg (Nat.gcd n2 d1))) 23 (0, 0)), (w.heap.size, .cells (frcC (s1) (n1) (d1)) 25 (0, 0)), (w.heap.size + 1, .cells (frcC (s2) (n2) (d2)) 25 (0, 0)), (w.heap.size + 1 + 1, .cells (frcC (false) (0) (0)) 25 (0, 0))] (by kernel_rfl) (hW5) ?_
  refine wpU_pY (i := 0) (v := .pointer (some ⟨w.heap.size, 9, none⟩)) rfl rfl (by kernel_rfl) (by kernel_rfl) rfl (fun _ => by kernel_rfl) (by simp only [List.setIfInBounds_toArray, List.set_cons_succ, List.set_cons_zero] <;> rfl) ?_
  refine wpU_vY (i := 1) (v := num (d1)) rfl rfl (by kernel_rfl) (by kernel_rfl) rfl (yb_load rfl (by kernel_rfl) (.tail _ (.tail _ (.tail _ (.head _)))) Tryz.underlying23 rfl size25 (by simp) (frc_den (s1) (n1) (d1))) (by simp only [List.setIfInBounds_toArray, List.set_cons_succ, List.set_cons_zero] <;> rfl) ?_
  refine wpU_vY (i := 2) (v := num (Nat.gcd n2 d1)) rfl rfl (by kernel_rfl) (by kernel_rfl) rfl (yb_lda rfl (by kernel_rfl) (.tail _ (.tail _ (.head _))) Tryz.underlying23 rfl size25) (by simp only [List.setIfInBounds_toArray, List.set_cons_succ, List.set_cons_zero] <;> rfl) ?_
  refine wpU_vY (i := 3) (v := num (d1 / Nat.gcd n2 d1)) rfl rfl (by kernel_rfl) (by kernel_rfl) rfl (yb_call (f := 79) (args := #[num d1, num (Nat.gcd n2 d1)]) (fun _ => by kernel_rfl) fun W hW => quotient_any d1 (Nat.gcd n2 d1) hd1 hp hpp W) (by simp only [List.setIfInBounds_toArray, List.set_cons_succ, List.set_cons_zero] <;> rfl) ?_
  refine wpU_pY (i := 4) (v := .pointer (some ⟨w.heap.size + 1, 9, none⟩)) rfl rfl (by kernel_rfl) (by kernel_rfl) rfl (fun _ => by kernel_rfl) (by simp only [List.setIfInBounds_toArray, List.set_cons_succ, List.set_cons_zero] <;> rfl) ?_
  refine wpU_vY (i := 5) (v := num (d2)) rfl rfl (by kernel_rfl) (by kernel_rfl) rfl (yb_load rfl (by kernel_rfl) (.tail _ (.tail _ (.tail _ (.tail _ (.head _))))) Tryz.underlying23 rfl size25 (by simp) (frc_den (s2) (n2) (d2))) (by simp only [List.setIfInBounds_toArray, List.set_cons_succ, List.set_cons_zero] <;> rfl) ?_
  refine wpU_vY (i := 6) (v := num (Nat.gcd n1 d2)) rfl rfl (by kernel_rfl) (by kernel_rfl) rfl (yb_lda rfl (by kernel_rfl) (.tail _ (.head _)) Tryz.underlying23 rfl size25) (by simp only [List.setIfInBounds_toArray, List.set_cons_succ, List.set_cons_zero] <;> rfl) ?_
  refine wpU_vY (i := 7) (v := num (d2 / Nat.gcd n1 d2)) rfl rfl (by kernel_rfl) (by kernel_rfl) rfl (yb_call (f := 79) (args := #[num d2, num (Nat.gcd n1 d2)]) (fun _ => by kernel_rfl) fun W hW => quotient_any d2 (Nat.gcd n1 d2) hd2 ho hop W) (by simp only [List.setIfInBounds_toArray, List.set_cons_succ, List.set_cons_zero] <;> rfl) ?_
  refine wpU_vY (i := 8) (v := wid (d1 / Nat.gcd n2 d1 * (d2 / Nat.gcd n1 d2))) rfl rfl (by kernel_rfl) (by kernel_rfl) rfl (yb_call (f := 55) (args := #[num (d1 / Nat.gcd n2 d1), num (d2 / Nat.gcd n1 d2)]) (fun _ => by kernel_rfl) fun W hW => times_any (d1 / Nat.gcd n2 d1) (d2 / Nat.gcd n1 d2) q3 q4 W) (by simp only [List.setIfInBounds_toArray, List.set_cons_succ, List.set_cons_zero] <;> rfl) ?_
  refine wpU_newY (i := 9) (obi := .cells (fa 18 (fun _ => 0)) 76 (0, 0)) rfl rfl rfl (by kernel_rfl) (fun _ _ => rfl) (fun _ => by simp only [List.setIfInBounds_toArray, List.set_cons_succ, List.set_cons_zero] <;> rfl) fun l Bl Fl => ?_
  simp only [List.forall_mem_cons] at Fl
  refine wpU_sY [(l, .cells (fa 18 (dg (d1 / Nat.gcd n2 d1 * (d2 / Nat.gcd n1 d2)))) 76 (0, 0)), (k, .cells (fa 18 (dg (n1 / Nat.gcd n1 d2 * (n2 / Nat.gcd n2 d1)))) 76 (0, 0)), (g, .cells (fa 8 (dg (Nat.gcd n1 d2))) 23 (0, 0)), (h, .cells (fa 8 (dg (Nat.gcd n2 d1))) 23 (0, 0)), (w.heap.size, .cells (frcC (s1) (n1) (d1)) 25 (0, 0)), (w.heap.size + 1, .cells (frcC (s2) (n2) (d2)) 25 (0, 0)), (w.heap.size + 1 + 1, .cells (frcC (false) (0) (0)) 25 (0, 0))] (i := 10) rfl (by kernel_rfl) rfl rfl rfl
    (st_a rfl rfl rfl (.head _) (by omega) size65 (by intro p hp; simp only [List.mem_cons, List.not_mem_nil, or_false] at hp; rcases hp with rfl | rfl | rfl | rfl | rfl | rfl | rfl; exact .inl rfl; exact .inr ⟨by simp, by simp only; omega⟩; exact .inr ⟨by simp, by simp only; omega⟩; exact .inr ⟨by simp, by simp only; omega⟩; exact .inr ⟨by simp, by simp only; omega⟩; exact .inr ⟨by simp, by simp only; omega⟩; exact .inr ⟨by simp, by simp only; omega⟩)) ?_
  refine wpU_done (by kernel_rfl) (fun W6 hW6 => ?_) _
  clear hW5
  have HL := Lib.hid hW6
  clear hW6 ho hp hop hpp q1 q2 q3 q4 hn1 hd1 hn2 hd2 h1 h2
  have c1 := frc_cell (HL.out.2 _ (.tail _ (.tail _ (.tail _ (.tail _ (.head _))))))
  have c2 := frc_cell (HL.out.2 _ (.tail _ (.tail _ (.tail _ (.tail _ (.tail _ (.head _)))))))
  go_wp2_with (first
    | (refine wpList_lda rfl rfl rfl (HL.out.2 _ (.tail _ (.head _))) Tryz.underlying76 rfl size65 ?_)
    | (refine wpList_lda rfl rfl rfl (HL.out.2 _ (.head _)) Tryz.underlying76 rfl size65 ?_)
    | (go_at_call 80; refine (HPK.out _).mono ?_; rintro e w5 ⟨rfl, hb1⟩; have HM := Lib.hid (HL.out.below hb1); clear hb1 c1 c2; rw [HPV.out])
    | (refine wpList_stf (neg := s') (n := n') (d := d') (neg' := false) (n' := 0) (d' := 0) rfl rfl rfl rfl (HM.out.2 _ (.tail _ (.tail _ (.tail _ (.tail _ (.tail _ (.tail _ (.head _)))))))) size27 ?_))
  exact bodyPost_ret (res_cell_tmp rfl rfl (setRow_heap _ _ _ _ _ _ (HM.out.2 _ (.tail _ (.tail _ (.tail _ (.tail _ (.tail _ (.tail _ (.head _))))))))) Tryz.underlying25 rfl (by rw [size27, frcC_size])) rfl ⟨by rw [HPV.out]; rfl, below_setRow HM.out.1 (by omega) _⟩
end Go.Proofs.YtalmflgkbmnghaaGreatDoor
namespace Go.Proofs.YtalmflgkbmnghaaGreatDoor
open Go.RowKit Tf

set_option maxRecDepth 100000 in
set_option maxHeartbeats 400000 in
theorem plus_any (a b : Nat) (ha : a < R 18) (hb : b < R 18) (hab : a + b < R 18) (w : World) :
    Calls Tryz.prog 58 #[wid a, wid b] w fun e w' => e = .returned (wid (a + b)) ∧ Below w.heap.size w w' := by
  unfold wid
  go_enter Tryz.func58, Tryz.ntmps58
  go_wp2
  go_loopw [5, 8] (fun c i wr => ∃ k c0 Pv : Nat, k ≤ 18 ∧ c0 ≤ 1 ∧ Hid (Pv + c0 * R k = a + b % R k) ∧ Pv < R 18 ∧ c = .int .u64 c0 ∧ i = .int .i64 k ∧ Below w.heap.size w wr ∧
      wr.heap[w.heap.size]? = some (.cells (fa 18 (dg Pv)) 76 (0, 0)) ∧ wr.heap[w.heap.size + 1]? = some (.cells (fa 18 (dg b)) 76 (0, 0)) ∧ wr.heap[w.heap.size + 1 + 1]? = some (.cells (fa 18 (fun _ => 0)) 76 (0, 0)))
    (fun _ i _ => 18 - (intOf i).toNat)
  case atStart =>
    refine ⟨0, 0, a, by omega, by omega, ?_, ha, rfl, rfl, below3 _ _ _ _, (heap3 _ _ _ _).1, (heap3 _ _ _ _).2.1, (heap3 _ _ _ _).2.2⟩
    unfold Hid; rw [R_zero, Nat.mod_one, Nat.zero_mul]
  case round =>
    obtain ⟨k, c0, Pv, hk, hc, he, hP, rfl, rfl, hB, e0, e1, e2⟩ := hrel
    by_cases hlt : k < 18
    · have h1 := blk_cell e0 hlt
      have h2 := blk_cell e1 hlt
      have h3 : wr.frozen? ⟨w.heap.size, k, none⟩ = false := blk_free e0
      have b1 := dg_lt Pv k
      have b2 := dg_lt b k
      have hlt' : ((k : Nat) : Int) < 18 := by omega
      have E0 := Lib.hid e0
      have E1 := Lib.hid e1
      have E2 := Lib.hid e2
      clear e0 e1 e2
      go_wp2
      go_quiet (fail)
      go_wp2
      go_roundw
      case rel =>
        obtain ⟨t, ht⟩ : ∃ t, t = dg Pv k + dg b k + c0 := ⟨_, rfl⟩
        have hv : t % 4294967296 < 4294967296 := Nat.mod_lt _ (by omega)
        rw [show ((dg Pv k : Int) + dg b k + c0) % 4294967296 = ((t % 4294967296 : Nat) : Int) from by omega]
        refine ⟨k + 1, t / 4294967296, setd Pv k (t % 4294967296), by omega, by omega, ?_, setd_lt hP hlt hv, ?_, by go_num, ?_, ?_, ?_, ?_⟩
        · exact plus_step he.out (by omega)
        · exact congrArg (Value.int .u64) (by omega)
        · exact (belowN hB nq).setCell (Nat.le_refl _) _
        · exact blk_set (w := wr.drewN nq) E0.out hlt hv
        · rw [heap_setCell_other _ _ _ _ (by simp)]; exact E1.out
        · rw [heap_setCell_other _ _ _ _ (by simp; omega)]; exact E2.out
      case measure => (simp [intOf] <;> omega)
    · obtain rfl : k = 18 := by omega
      have hfin : Pv = a + b := by
        have h := he.out
        rw [Nat.mod_eq_of_lt hb] at h
        have h0 := R_pos 18
        rcases Nat.eq_zero_or_pos c0 with h1 | h1
        · subst h1; omega
        · have : 1 * R 18 ≤ c0 * R 18 := Nat.mul_le_mul_right _ h1
          omega
      have E2 := Lib.hid e2
      subst hfin
      obtain ⟨d, hu, hd⟩ := under65
      clear e1 e2 he
      go_wp2_with (first
        | (refine wpList_lda rfl rfl rfl e0 hu hd size65 ?_)
        | (refine wpList_sta rfl rfl rfl rfl E2.out size65 ?_))
      exact bodyPost_ret (res_cell rfl rfl (setRow_heap _ _ _ _ _ _ E2.out) hu hd (by rw [size65, fa_size])) rfl ⟨rfl, below_setRow hB (by omega) _⟩
end Go.Proofs.YtalmflgkbmnghaaGreatDoor
namespace Go.Proofs.YtalmflgkbmnghaaGreatDoor
open Go.RowKit Tf

set_option maxRecDepth 100000 in
set_option maxHeartbeats 400000 in
theorem minus_any (a b : Nat) (ha : a < R 18) (hba : b ≤ a) (w : World) :
    Calls Tryz.prog 85 #[wid a, wid b] w fun e w' => e = .returned (wid (a - b)) ∧ Below w.heap.size w w' := by
  unfold wid
  have hb : b < R 18 := by omega
  go_enter Tryz.func85, Tryz.ntmps85
  go_wp2
  go_loopw [5, 8] (fun c i wr => ∃ k c0 Pv : Nat, k ≤ 18 ∧ c0 ≤ 1 ∧ Hid (Pv + b % R k = a + c0 * R k) ∧ Pv < R 18 ∧ c = .int .u64 c0 ∧ i = .int .i64 k ∧ Below w.heap.size w wr ∧
      wr.heap[w.heap.size]? = some (.cells (fa 18 (dg Pv)) 76 (0, 0)) ∧ wr.heap[w.heap.size + 1]? = some (.cells (fa 18 (dg b)) 76 (0, 0)) ∧ wr.heap[w.heap.size + 1 + 1]? = some (.cells (fa 18 (fun _ => 0)) 76 (0, 0)))
    (fun _ i _ => 18 - (intOf i).toNat)
  case atStart =>
    refine ⟨0, 0, a, by omega, by omega, ?_, ha, rfl, rfl, below3 _ _ _ _, (heap3 _ _ _ _).1, (heap3 _ _ _ _).2.1, (heap3 _ _ _ _).2.2⟩
    unfold Hid; rw [R_zero, Nat.mod_one, Nat.zero_mul]
  case round =>
    obtain ⟨k, c0, Pv, hk, hc, he, hP, rfl, rfl, hB, e0, e1, e2⟩ := hrel
    by_cases hlt : k < 18
    · have h1 := blk_cell e0 hlt
      have h2 := blk_cell e1 hlt
      have h3 : wr.frozen? ⟨w.heap.size, k, none⟩ = false := blk_free e0
      have b1 := dg_lt Pv k
      have b2 := dg_lt b k
      have hlt' : ((k : Nat) : Int) < 18 := by omega
      have E0 := Lib.hid e0
      have E1 := Lib.hid e1
      have E2 := Lib.hid e2
      clear e0 e1 e2
      obtain ⟨v, c1, hv, hc1, hvc, hx, hy⟩ := sub_limb b1 b2 hc
      have HX := Lib.hid hx
      have HY := Lib.hid hy
      clear hx hy
      go_wp2
      go_quiet (fail)
      go_wp2
      go_roundw
      case rel =>
        rw [HX.out, HY.out]
        refine ⟨k + 1, c1, setd Pv k v, by omega, by omega, minus_step he.out hvc, setd_lt hP hlt hv, rfl, by go_num, ?_, ?_, ?_, ?_⟩
        · exact (belowN hB nq).setCell (Nat.le_refl _) _
        · exact blk_set (w := wr.drewN nq) E0.out hlt hv
        · rw [heap_setCell_other _ _ _ _ (by simp)]; exact E1.out
        · rw [heap_setCell_other _ _ _ _ (by simp; omega)]; exact E2.out
      case measure => (simp [intOf] <;> omega)
    · obtain rfl : k = 18 := by omega
      have hfin : Pv = a - b := by
        have h := he.out
        rw [Nat.mod_eq_of_lt hb] at h
        have h0 := R_pos 18
        rcases Nat.eq_zero_or_pos c0 with h1 | h1
        · subst h1; omega
        · have : 1 * R 18 ≤ c0 * R 18 := Nat.mul_le_mul_right _ h1
          omega
      have E2 := Lib.hid e2
      subst hfin
      obtain ⟨d, hu, hd⟩ := under65
      clear e1 e2 he
      go_wp2_with (first
        | (refine wpList_lda rfl rfl rfl e0 hu hd size65 ?_)
        | (refine wpList_sta rfl rfl rfl rfl E2.out size65 ?_))
      exact bodyPost_ret (res_cell rfl rfl (setRow_heap _ _ _ _ _ _ E2.out) hu hd (by rw [size65, fa_size])) rfl ⟨rfl, below_setRow hB (by omega) _⟩
end Go.Proofs.YtalmflgkbmnghaaGreatDoor
namespace Go.Proofs.YtalmflgkbmnghaaGreatDoor
open Go.RowKit Tf

def cmpN (a b : Nat) : Int := if a < b then -1 else if b < a then 1 else 0
theorem cmp_less {a b k : Nat} (h : a / R (k + 1) = b / R (k + 1)) (hd : dg a k < dg b k) : a < b := by
  have h1 := div_succ a k
  have h2 := div_succ b k
  rw [h] at h1
  rcases Nat.lt_or_ge a b with h3 | h3
  · exact h3
  · have := Nat.div_le_div_right (c := R k) h3
    omega
theorem cmp_step {a b k : Nat} (h : a / R (k + 1) = b / R (k + 1)) (hd : dg a k = dg b k) : a / R k = b / R k := by
  rw [div_succ a k, div_succ b k, h, hd]

set_option maxRecDepth 100000 in
set_option maxHeartbeats 400000 in
theorem compare_any (a b : Nat) (ha : a < R 18) (hb : b < R 18) (w : World) :
    Calls Tryz.prog 84 #[wid a, wid b] w fun e w' => e = .returned (.int .i64 (cmpN a b)) ∧ Below w.heap.size w w' := by
  unfold wid
  go_enter Tryz.func84, Tryz.ntmps84
  go_wp2
  go_loopw [5] (fun i wr => ∃ k : Nat, k ≤ 18 ∧ Hid (a / R k = b / R k) ∧ i = .int .i64 ((k : Int) - 1) ∧ Below w.heap.size w wr ∧
      wr.heap[w.heap.size]? = some (.cells (fa 18 (dg a)) 76 (0, 0)) ∧ wr.heap[w.heap.size + 1]? = some (.cells (fa 18 (dg b)) 76 (0, 0)))
    (fun i _ => (intOf i + 1).toNat)
  case atStart =>
    refine ⟨18, by omega, ?_, rfl, below2 _ _ _, (heap2 _ _ _).1, (heap2 _ _ _).2⟩
    unfold Hid; rw [Nat.div_eq_of_lt ha, Nat.div_eq_of_lt hb]
  case round =>
    obtain ⟨k, hk, he, rfl, hB, e0, e1⟩ := hrel
    rcases Nat.eq_zero_or_pos k with rfl | hpos
    · have hab : a = b := by have := he.out; rwa [R_zero, Nat.div_one, Nat.div_one] at this
      have HB := Lib.hid hB
      have HAB := Lib.hid hab
      clear hab e0 e1
      go_wp2
      go_ret
      exact ⟨ret_int (by rw [HAB.out]; simp [cmpN]), HB.out⟩
    · obtain ⟨j, rfl⟩ : ∃ j, k = j + 1 := ⟨k - 1, by omega⟩
      have ej : (((j + 1 : Nat) : Int) - 1) = j := by omega
      rw [ej]
      have hlt : j < 18 := by omega
      have h1 := blk_cell e0 hlt
      have h2 := blk_cell e1 hlt
      have b1 := dg_lt a j
      have b2 := dg_lt b j
      have hlt' : ((j : Nat) : Int) < 18 := by omega
      have E0 := Lib.hid e0
      have E1 := Lib.hid e1
      clear e0 e1 ej
      rcases Nat.lt_trichotomy (dg a j) (dg b j) with hd | hd | hd
      · have hr := cmp_less he.out hd
        go_wp2
        go_quiet (fail)
        go_wp2
        go_ret
        exact ⟨ret_int (by rw [cmpN, if_pos hr]), belowN hB _⟩
      · have HS := Lib.hid (cmp_step he.out hd)
        have hx : decide (dg a j < dg b j) = false := by rw [hd]; simp
        have hy : decide (dg b j < dg a j) = false := by rw [hd]; simp
        have hx' : decide ((dg a j : Int) < dg b j) = false := by rw [hd]; simp
        have hy' : decide ((dg b j : Int) < dg a j) = false := by rw [hd]; simp
        clear hd
        go_wp2
        go_quiet (fail)
        go_wp2
        go_quiet (fail)
        go_wp2
        go_roundw
        case rel => exact ⟨j, by omega, HS, rfl, belowN hB _, E0.out, E1.out⟩
        case measure => (simp [intOf] <;> omega)
      · have hr := cmp_less he.out.symm hd
        have hx : decide ((dg a j : Int) < dg b j) = false := by simp; omega
        have hx' : decide (dg a j < dg b j) = false := by simp; omega
        go_wp2
        go_quiet (fail)
        go_wp2
        go_quiet (fail)
        go_wp2
        go_ret
        exact ⟨ret_int (by rw [cmpN, if_neg (by omega), if_pos hr]), belowN (belowN hB _) _⟩
end Go.Proofs.YtalmflgkbmnghaaGreatDoor
namespace Go.Proofs.YtalmflgkbmnghaaGreatDoor
open Go.RowKit Tf
def psS (x y : Bool) (a b : Nat) : Bool := if x = y then x else if a < b then y else x
def psN (x y : Bool) (a b : Nat) : Nat := if x = y then a + b else if a < b then b - a else a - b

set_option maxRecDepth 100000 in
set_option maxHeartbeats 1000000 in
theorem plusSigned_any (x y : Bool) (a b : Nat) (hab : a + b < R 18) (w : World) :
    Calls Tryz.prog 54 #[.bool x, wid a, .bool y, wid b] w fun e w' => e = .returned (.tuple #[.bool (psS x y a b), wid (psN x y a b)]) ∧ Below w.heap.size w w' := by
  have ha : a < R 18 := by omega
  have hb : b < R 18 := by omega
  unfold wid
  go_enter Tryz.func54, Tryz.ntmps54
  go_upto_region 1 with (fail)
  have hK := KS.three w (.cells (fa 18 (dg a)) 76) (.cells (fa 18 (dg b)) 76) (.cells (fa 18 (fun _ => 0)) 76)
  obtain ⟨W, hW⟩ : ∃ W, W = ((w.alloc (.cells (fa 18 (dg a)) 76)).alloc (.cells (fa 18 (dg b)) 76)).alloc (.cells (fa 18 (fun _ => 0)) 76) := ⟨_, rfl⟩
  rw [← hW] at hK
  rw [fa_zero18] at hW
  rw [← hW]
  clear hW
  have HK := Lib.hid hK
  clear hK
  have HN := Lib.hid (⟨hab, ha, hb⟩ : a + b < R 18 ∧ a < R 18 ∧ b < R 18)
  clear hab ha hb
  have hcmp : (a < b ∧ cmpN a b = -1) ∨ (¬ a < b ∧ b ≤ a ∧ (cmpN a b = 0 ∨ cmpN a b = 1)) := by
    unfold cmpN; split
    · exact .inl ⟨by assumption, rfl⟩
    · refine .inr ⟨by assumption, by omega, ?_⟩
      split
      · exact .inr rfl
      · exact .inl rfl
  have HC := Lib.hid hcmp
  clear hcmp
  by_cases hxy : x = y
  · have HV := Lib.hid (show psS x y a b = x ∧ psN x y a b = a + b from ⟨if_pos hxy, if_pos hxy⟩)
    have hbe : (x == y) = true := by simp [hxy]
    clear hxy
    go_wp2_with (first
      | (refine wpList_lda rfl rfl rfl (HK.out.2 _ (.head _)) Tryz.underlying76 rfl size65 ?_)
      | (refine wpList_lda rfl rfl rfl (HK.out.2 _ (.tail _ (.head _))) Tryz.underlying76 rfl size65 ?_)
      | (go_at_call 58; refine (plus_any a b HN.out.2.1 HN.out.2.2 HN.out.1 _).mono ?_; rintro e w1 ⟨rfl, hb1⟩; have HK2 := Lib.hid (HK.out.below hb1); clear hb1; unfold wid)
      | (refine wpList_sta (f := dg (a + b)) (f' := fun _ => 0) rfl rfl rfl rfl (HK2.out.2 _ (.tail _ (.tail _ (.head _)))) size65 ?_))
    refine bodyPost_ret (res_tmp_cell rfl rfl (setRow_heap _ _ _ _ _ _ (HK2.out.2 _ (.tail _ (.tail _ (.head _))))) Tryz.underlying76 rfl (by rw [size65, fa_size])) rfl ⟨?_, below_setRow HK2.out.1 (by omega) _⟩
    rw [HV.out.1, HV.out.2]; rfl
  · have hbe : (x == y) = false := by simp [hxy]
    have HX := Lib.hid hxy
    clear hxy
    have HV := Lib.hid (show (a < b → psS x y a b = y ∧ psN x y a b = b - a) ∧ (¬ a < b → psS x y a b = x ∧ psN x y a b = a - b) from
      ⟨fun h => ⟨by rw [psS, if_neg HX.out, if_pos h], by rw [psN, if_neg HX.out, if_pos h]⟩, fun h => ⟨by rw [psS, if_neg HX.out, if_neg h], by rw [psN, if_neg HX.out, if_neg h]⟩⟩)
    rcases HC.out with ⟨h1, h2⟩ | ⟨h1, h2, h3⟩
    · obtain ⟨v1, v2⟩ := HV.out.1 h1
      have V1 := Lib.hid v1
      have V2 := Lib.hid v2
      have H1 := Lib.hid h1
      clear HC HV v1 v2 h1
      go_wp2_with (first
        | (refine wpList_lda rfl rfl rfl (HK.out.2 _ (.head _)) Tryz.underlying76 rfl size65 ?_)
        | (refine wpList_lda rfl rfl rfl (HK.out.2 _ (.tail _ (.head _))) Tryz.underlying76 rfl size65 ?_)
        | (go_at_call 84; refine (compare_any a b HN.out.2.1 HN.out.2.2 _).mono ?_; rintro e w1 ⟨rfl, hb1⟩; have HK2 := Lib.hid (HK.out.below hb1); clear hb1; rw [h2])
        | (refine wpList_lda rfl rfl rfl (HK2.out.2 _ (.head _)) Tryz.underlying76 rfl size65 ?_)
        | (refine wpList_lda rfl rfl rfl (HK2.out.2 _ (.tail _ (.head _))) Tryz.underlying76 rfl size65 ?_)
        | (go_at_call 85; refine (minus_any b a HN.out.2.2 (Nat.le_of_lt H1.out) _).mono ?_; rintro e w2 ⟨rfl, hb1⟩; have HK3 := Lib.hid (HK2.out.below hb1); clear hb1; unfold wid)
        | (refine wpList_sta (f := dg (b - a)) (f' := fun _ => 0) rfl rfl rfl rfl (HK3.out.2 _ (.tail _ (.tail _ (.head _)))) size65 ?_))
      refine bodyPost_ret (res_tmp_cell rfl rfl (setRow_heap _ _ _ _ _ _ (HK3.out.2 _ (.tail _ (.tail _ (.head _))))) Tryz.underlying76 rfl (by rw [size65, fa_size])) rfl ⟨?_, below_setRow HK3.out.1 (by omega) _⟩
      rw [V1.out, V2.out]; rfl
    · obtain ⟨v1, v2⟩ := HV.out.2 h1
      have V1 := Lib.hid v1
      have V2 := Lib.hid v2
      have H1 := Lib.hid h2
      clear HC HV v1 v2 h1 h2
      rcases h3 with h3 | h3
      all_goals
        go_wp2_with (first
          | (refine wpList_lda rfl rfl rfl (HK.out.2 _ (.head _)) Tryz.underlying76 rfl size65 ?_)
          | (refine wpList_lda rfl rfl rfl (HK.out.2 _ (.tail _ (.head _))) Tryz.underlying76 rfl size65 ?_)
          | (go_at_call 84; refine (compare_any a b HN.out.2.1 HN.out.2.2 _).mono ?_; rintro e w1 ⟨rfl, hb1⟩; have HK2 := Lib.hid (HK.out.below hb1); clear hb1; rw [h3])
          | (refine wpList_lda rfl rfl rfl (HK2.out.2 _ (.head _)) Tryz.underlying76 rfl size65 ?_)
          | (refine wpList_lda rfl rfl rfl (HK2.out.2 _ (.tail _ (.head _))) Tryz.underlying76 rfl size65 ?_)
          | (go_at_call 85; refine (minus_any a b HN.out.2.1 H1.out _).mono ?_; rintro e w2 ⟨rfl, hb1⟩; have HK3 := Lib.hid (HK2.out.below hb1); clear hb1; unfold wid)
          | (refine wpList_sta (f := dg (a - b)) (f' := fun _ => 0) rfl rfl rfl rfl (HK3.out.2 _ (.tail _ (.tail _ (.head _)))) size65 ?_))
        refine bodyPost_ret (res_tmp_cell rfl rfl (setRow_heap _ _ _ _ _ _ (HK3.out.2 _ (.tail _ (.tail _ (.head _))))) Tryz.underlying76 rfl (by rw [size65, fa_size])) rfl ⟨?_, below_setRow HK3.out.1 (by omega) _⟩
        rw [V1.out, V2.out]; rfl
end Go.Proofs.YtalmflgkbmnghaaGreatDoor
namespace Tf
open Go Go.RowKit Go.Proofs.YtalmflgkbmnghaaGreatDoor
theorem KS.newvar2 {w w1 : World} {K : List (Nat × Obj)} {cs cs' ds ds' : Array Value} {t u : TypeId} (h : KS w K w1) : KS w ((w1.heap.size, .cells cs' t (0, 0)) :: (w1.heap.size + 1, .cells ds' u (0, 0)) :: K)
    ((((w1.alloc (.cells cs t (0, 0))).alloc (.cells ds u (0, 0))).setRow w1.heap.size cs').setRow (w1.heap.size + 1) ds') := by
  have h2 := (h.alloc (.cells cs t (0, 0))).alloc (.cells ds u (0, 0))
  rw [size1] at h2
  have hlt : ∀ p ∈ K, p.1 < w1.heap.size := fun p hp => lt_of_block (h.2 p hp)
  have h3 := KS.put (K' := (w1.heap.size + 1, .cells ds u (0, 0)) :: (w1.heap.size, .cells cs' t (0, 0)) :: K) h2 h.1.size (.tail _ (.head _)) (by
    intro p hp
    rcases List.mem_cons.1 hp with rfl | hp
    · exact .inr ⟨.head _, by simp only; omega⟩
    · rcases List.mem_cons.1 hp with rfl | hp
      · exact .inl rfl
      · exact .inr ⟨.tail _ (.tail _ hp), by have := hlt p hp; omega⟩)
  exact KS.put h3 (by have := h.1.size; omega) (.head _) (by
    intro p hp
    rcases List.mem_cons.1 hp with rfl | hp
    · exact .inr ⟨.tail _ (.head _), by simp only; omega⟩
    · rcases List.mem_cons.1 hp with rfl | hp
      · exact .inl rfl
      · exact .inr ⟨.tail _ (.tail _ hp), by have := hlt p hp; omega⟩)

end Tf
namespace Go.Proofs.YtalmflgkbmnghaaGreatDoor
open Go.RowKit Tf
variable [ShLZ]
theorem heap2_2s (w : World) (A B : Obj) (cs : Array Value) : (((w.alloc A).alloc B).setRow w.heap.size cs).heap[w.heap.size + 1]? = some B := by
  rw [setRow_other _ _ _ _ (by omega)]; exact (heap2 w A B).2
theorem yb_ldb {W0 : World} {o : Oper} {a : Act} {K : List (Nat × Obj)} {x : Operand} {g : Nat} {s : Bool} {n d : Nat} {t : TypeId} (ho : o.op = .load 4 x) (hx : a.eval x = .pointer (some ⟨g, 0, none⟩)) (hm : (g, .cells (frcC s n d) t (0, 0)) ∈ K) :
    ∀ w, KS W0 K w → ∀ K' : Act → World → Prop, (∀ w', Below w.heap.size w w' → K' (a.put o.dst (.bool s)) w') → Oper.wp Tryz.prog o a w K' (fun _ _ _ => False) := by
  intro w hw K' hk
  have hc := frc_cell (hw.2 _ hm)
  unfold Oper.wp execOp
  simp only [ho, hx]
  go_simp
  exact hk w (Below.refl _ _)

set_option maxRecDepth 100000 in
set_option maxHeartbeats 2000000 in
theorem add_walk (s1 s2 S : Bool) (n1 d1 n2 d2 c ov q2 u v N l : Nat) (s' : Bool) (n' d' : Nat) (ee : Int) (RV : Value) (hc : c < R 8) (hc1 : c = 1 → RV = packV S N (d1 * d2)) (hc2 : c ≠ 1 → RV = packV S (N / l) (ov * (d2 / l)))
    (HPV : Hid (RV = .tuple #[.agg (frcC s' n' d'), .int .i64 ee]))
    (Cgcd : Hid (∀ W, Calls Tryz.prog 49 #[num d1, num d2] W fun e w' => e = .returned (num c) ∧ Below W.heap.size W w'))
    (Cov : Hid (∀ W, Calls Tryz.prog 79 #[num d1, num c] W fun e w' => e = .returned (num ov) ∧ Below W.heap.size W w'))
    (Cq2 : Hid (∀ W, Calls Tryz.prog 79 #[num d2, num c] W fun e w' => e = .returned (num q2) ∧ Below W.heap.size W w'))
    (Cu : Hid (∀ W, Calls Tryz.prog 55 #[num n1, num q2] W fun e w' => e = .returned (wid u) ∧ Below W.heap.size W w'))
    (Cv : Hid (∀ W, Calls Tryz.prog 55 #[num n2, num ov] W fun e w' => e = .returned (wid v) ∧ Below W.heap.size W w'))
    (Cps : Hid (∀ W, Calls Tryz.prog 54 #[.bool s1, wid u, .bool s2, wid v] W fun e w' => e = .returned (.tuple #[.bool S, wid N]) ∧ Below W.heap.size W w'))
    (Ct : Hid (∀ W, Calls Tryz.prog 55 #[num d1, num d2] W fun e w' => e = .returned (wid (d1 * d2)) ∧ Below W.heap.size W w'))
    (Cdv : Hid (∀ W, Calls Tryz.prog 56 #[wid N, num c] W fun e w' => e = .returned (.tuple #[wid (N / c), num (N % c)]) ∧ Below W.heap.size W w'))
    (Cl : Hid (∀ W, Calls Tryz.prog 49 #[num (N % c), num c] W fun e w' => e = .returned (num l) ∧ Below W.heap.size W w'))
    (Cdl : Hid (∀ W, Calls Tryz.prog 56 #[wid N, num l] W fun e w' => e = .returned (.tuple #[wid (N / l), num (N % l)]) ∧ Below W.heap.size W w'))
    (Cdq : Hid (∀ W, Calls Tryz.prog 79 #[num d2, num l] W fun e w' => e = .returned (num (d2 / l)) ∧ Below W.heap.size W w'))
    (Cod : Hid (∀ W, Calls Tryz.prog 55 #[num ov, num (d2 / l)] W fun e w' => e = .returned (wid (ov * (d2 / l))) ∧ Below W.heap.size W w'))
    (CP1 : Hid (∀ W, Calls Tryz.prog 80 #[.bool S, wid N, wid (d1 * d2)] W fun e w' => e = .returned (packV S N (d1 * d2)) ∧ Below W.heap.size W w'))
    (CP2 : Hid (∀ W, Calls Tryz.prog 80 #[.bool S, wid (N / l), wid (ov * (d2 / l))] W fun e w' => e = .returned (packV S (N / l) (ov * (d2 / l))) ∧ Below W.heap.size W w'))
    (w : World) :
    Calls Tryz.prog 42 #[frc s1 n1 d1, frc s2 n2 d2] w fun e w' => e = .returned RV ∧ Below w.heap.size w w' := by
  have hc1' := Lib.hid hc1
  have hc2' := Lib.hid hc2
  clear hc1 hc2
  unfold frc
  go_enter Tryz.func42, Tryz.ntmps42
  go_upto_region 1 with (fail)
  have hK := KS.three w (.cells (frcC s1 n1 d1) 25) (.cells (frcC s2 n2 d2) 25) (.cells (frcC false 0 0) 25)
  obtain ⟨W, hW⟩ : ∃ W, W = ((w.alloc (.cells (frcC s1 n1 d1) 25)).alloc (.cells (frcC s2 n2 d2) 25)).alloc (.cells (frcC false 0 0) 25) := ⟨_, rfl⟩
  rw [← hW] at hK
  rw [frc_zero] at hW
  rw [← hW]
  clear hW
  have HK := Lib.hid hK
  clear hK
  go_upto_region 2 with (first
    | (refine wpList_ldd rfl rfl rfl (HK.out.2 _ (.head _)) Tryz.underlying23 rfl size25 ?_)
    | (refine wpList_ldd rfl rfl rfl (HK.out.2 _ (.tail _ (.head _))) Tryz.underlying23 rfl size25 ?_)
    | (go_at_call 49; refine (Cgcd.out _).mono ?_; rintro e w1 ⟨rfl, hb1⟩; have HK1 := Lib.hid (HK.out.below hb1); clear hb1; unfold num)
    | (refine wpList_sta (f := dg c) (f' := fun _ => 0) rfl rfl rfl rfl (heap1 w1 _) size25 ?_))
  obtain ⟨Bgc, Fgc⟩ := HK1.out.fresh
  have HK2 := Lib.hid (HK1.out.newvar (cs := fa 8 (fun _ => 0)) (cs' := fa 8 (dg (c))) (t := 23))
  simp only [List.forall_mem_cons] at Fgc
  rw [← fa_zero8]
  generalize (w1.alloc (.cells (fa 8 (fun _ => 0)) 23)).setRow w1.heap.size (fa 8 (dg (c))) = W1 at *
  clear HK1
  generalize w1.heap.size = gc at *
  clear HK
  go_upto_region 3 with (first
    | (refine wpList_ldd rfl rfl rfl (HK2.out.2 _ (.tail _ (.head _))) Tryz.underlying23 rfl size25 ?_)
    | (refine wpList_lda rfl rfl rfl (HK2.out.2 _ (.head _)) Tryz.underlying23 rfl size25 ?_)
    | (go_at_call 79; refine (Cov.out _).mono ?_; rintro e w2 ⟨rfl, hb1⟩; have HK3 := Lib.hid (HK2.out.below hb1); clear hb1; unfold num)
    | (refine wpList_sta (f := dg ov) (f' := fun _ => 0) rfl rfl rfl rfl (heap1 w2 _) size25 ?_))
  obtain ⟨Bgo, Fgo⟩ := HK3.out.fresh
  have HK4 := Lib.hid (HK3.out.newvar (cs := fa 8 (fun _ => 0)) (cs' := fa 8 (dg (ov))) (t := 23))
  simp only [List.forall_mem_cons] at Fgo
  rw [← fa_zero8]
  generalize (w2.alloc (.cells (fa 8 (fun _ => 0)) 23)).setRow w2.heap.size (fa 8 (dg (ov))) = W2 at *
  clear HK3
  generalize w2.heap.size = go at *
  clear HK2
  go_wp2_with fail
  refine wp_region_U (W0 := w) [(go, .cells (fa 8 (dg ov)) 23 (0, 0)), (gc, .cells (fa 8 (dg c)) 23 (0, 0)), (w.heap.size, .cells (frcC (s1) (n1) (d1)) 25 (0, 0)), (w.heap.size + 1, .cells (frcC (s2) (n2) (d2)) 25 (0, 0)), (w.heap.size + 1 + 1, .cells (frcC (false) (0) (0)) 25 (0, 0))] (by kernel_rfl) (HK4.out) ?_
  refine wpU_pY (i := 0) (v := .pointer (some ⟨w.heap.size, 0, none⟩)) rfl rfl (by kernel_rfl) (by kernel_rfl) rfl (fun _ => by kernel_rfl) (by simp only [List.setIfInBounds_toArray, List.set_cons_succ, List.set_cons_zero] <;> rfl) ?_
  refine wpU_vY (i := 1) (v := .bool s1) rfl rfl (by kernel_rfl) (by kernel_rfl) rfl (yb_ldb rfl (by kernel_rfl) (.tail _ (.tail _ (.head _)))) (by simp only [List.setIfInBounds_toArray, List.set_cons_succ, List.set_cons_zero] <;> rfl) ?_
  refine wpU_pY (i := 2) (v := .pointer (some ⟨w.heap.size, 1, none⟩)) rfl rfl (by kernel_rfl) (by kernel_rfl) rfl (fun _ => by kernel_rfl) (by simp only [List.setIfInBounds_toArray, List.set_cons_succ, List.set_cons_zero] <;> rfl) ?_
  refine wpU_vY (i := 3) (v := num (n1)) rfl rfl (by kernel_rfl) (by kernel_rfl) rfl (yb_load rfl (by kernel_rfl) (.tail _ (.tail _ (.head _))) Tryz.underlying23 rfl size25 (by simp) (frc_num (s1) (n1) (d1))) (by simp only [List.setIfInBounds_toArray, List.set_cons_succ, List.set_cons_zero] <;> rfl) ?_
  refine wpU_pY (i := 4) (v := .pointer (some ⟨w.heap.size + 1, 9, none⟩)) rfl rfl (by kernel_rfl) (by kernel_rfl) rfl (fun _ => by kernel_rfl) (by simp only [List.setIfInBounds_toArray, List.set_cons_succ, List.set_cons_zero] <;> rfl) ?_
  refine wpU_vY (i := 5) (v := num (d2)) rfl rfl (by kernel_rfl) (by kernel_rfl) rfl (yb_load rfl (by kernel_rfl) (.tail _ (.tail _ (.tail _ (.head _)))) Tryz.underlying23 rfl size25 (by simp) (frc_den (s2) (n2) (d2))) (by simp only [List.setIfInBounds_toArray, List.set_cons_succ, List.set_cons_zero] <;> rfl) ?_
  refine wpU_vY (i := 6) (v := num c) rfl rfl (by kernel_rfl) (by kernel_rfl) rfl (yb_lda rfl (by kernel_rfl) (.tail _ (.head _)) Tryz.underlying23 rfl size25) (by simp only [List.setIfInBounds_toArray, List.set_cons_succ, List.set_cons_zero] <;> rfl) ?_
  refine wpU_vY (i := 7) (v := num q2) rfl rfl (by kernel_rfl) (by kernel_rfl) rfl (yb_call (f := 79) (args := #[num d2, num c]) (fun _ => by kernel_rfl) fun W hW => Cq2.out W) (by simp only [List.setIfInBounds_toArray, List.set_cons_succ, List.set_cons_zero] <;> rfl) ?_
  refine wpU_vY (i := 8) (v := wid u) rfl rfl (by kernel_rfl) (by kernel_rfl) rfl (yb_call (f := 55) (args := #[num n1, num q2]) (fun _ => by kernel_rfl) fun W hW => Cu.out W) (by simp only [List.setIfInBounds_toArray, List.set_cons_succ, List.set_cons_zero] <;> rfl) ?_
  refine wpU_pY (i := 9) (v := .pointer (some ⟨w.heap.size + 1, 0, none⟩)) rfl rfl (by kernel_rfl) (by kernel_rfl) rfl (fun _ => by kernel_rfl) (by simp only [List.setIfInBounds_toArray, List.set_cons_succ, List.set_cons_zero] <;> rfl) ?_
  refine wpU_vY (i := 10) (v := .bool s2) rfl rfl (by kernel_rfl) (by kernel_rfl) rfl (yb_ldb rfl (by kernel_rfl) (.tail _ (.tail _ (.tail _ (.head _))))) (by simp only [List.setIfInBounds_toArray, List.set_cons_succ, List.set_cons_zero] <;> rfl) ?_
  refine wpU_pY (i := 11) (v := .pointer (some ⟨w.heap.size + 1, 1, none⟩)) rfl rfl (by kernel_rfl) (by kernel_rfl) rfl (fun _ => by kernel_rfl) (by simp only [List.setIfInBounds_toArray, List.set_cons_succ, List.set_cons_zero] <;> rfl) ?_
  refine wpU_vY (i := 12) (v := num (n2)) rfl rfl (by kernel_rfl) (by kernel_rfl) rfl (yb_load rfl (by kernel_rfl) (.tail _ (.tail _ (.tail _ (.head _)))) Tryz.underlying23 rfl size25 (by simp) (frc_num (s2) (n2) (d2))) (by simp only [List.setIfInBounds_toArray, List.set_cons_succ, List.set_cons_zero] <;> rfl) ?_
  refine wpU_vY (i := 13) (v := num ov) rfl rfl (by kernel_rfl) (by kernel_rfl) rfl (yb_lda rfl (by kernel_rfl) (.head _) Tryz.underlying23 rfl size25) (by simp only [List.setIfInBounds_toArray, List.set_cons_succ, List.set_cons_zero] <;> rfl) ?_
  refine wpU_vY (i := 14) (v := wid v) rfl rfl (by kernel_rfl) (by kernel_rfl) rfl (yb_call (f := 55) (args := #[num n2, num ov]) (fun _ => by kernel_rfl) fun W hW => Cv.out W) (by simp only [List.setIfInBounds_toArray, List.set_cons_succ, List.set_cons_zero] <;> rfl) ?_
  refine wpU_vY (i := 15) (v := .tuple #[.bool S, wid N]) rfl rfl (by kernel_rfl) (by kernel_rfl) rfl (yb_call (f := 54) (args := #[.bool s1, wid u, .bool s2, wid v]) (fun _ => by kernel_rfl) fun W hW => Cps.out W) (by simp only [List.setIfInBounds_toArray, List.set_cons_succ, List.set_cons_zero] <;> rfl) ?_
  refine wpU_pY (i := 16) (v := .tuple #[.bool S, wid N]) rfl rfl (by kernel_rfl) (by kernel_rfl) rfl (fun _ => by kernel_rfl) (by simp only [List.setIfInBounds_toArray, List.set_cons_succ, List.set_cons_zero] <;> rfl) ?_
  refine wpU_pY (i := 17) (v := .bool S) rfl rfl (by kernel_rfl) (by kernel_rfl) rfl (fun _ => by kernel_rfl) (by simp only [List.setIfInBounds_toArray, List.set_cons_succ, List.set_cons_zero] <;> rfl) ?_
  refine wpU_pY (i := 18) (v := wid N) rfl rfl (by kernel_rfl) (by kernel_rfl) rfl (fun _ => by kernel_rfl) (by simp only [List.setIfInBounds_toArray, List.set_cons_succ, List.set_cons_zero] <;> rfl) ?_
  refine wpU_newY (i := 19) (obi := .cells (fa 18 (fun _ => 0)) 76 (0, 0)) rfl rfl rfl (by kernel_rfl) (fun _ _ => rfl) (fun _ => by simp only [List.setIfInBounds_toArray, List.set_cons_succ, List.set_cons_zero] <;> rfl) fun gn Bgn Fgn => ?_
  simp only [List.forall_mem_cons] at Fgn
  refine wpU_pY (i := 20) (v := .bool S) rfl rfl (by kernel_rfl) (by kernel_rfl) rfl (fun _ => by kernel_rfl) (by simp only [List.setIfInBounds_toArray, List.set_cons_succ, List.set_cons_zero] <;> rfl) ?_
  refine wpU_sY [(gn, .cells (fa 18 (dg N)) 76 (0, 0)), (go, .cells (fa 8 (dg ov)) 23 (0, 0)), (gc, .cells (fa 8 (dg c)) 23 (0, 0)), (w.heap.size, .cells (frcC (s1) (n1) (d1)) 25 (0, 0)), (w.heap.size + 1, .cells (frcC (s2) (n2) (d2)) 25 (0, 0)), (w.heap.size + 1 + 1, .cells (frcC (false) (0) (0)) 25 (0, 0))] (i := 21) rfl (by kernel_rfl) rfl rfl rfl
    (st_a rfl rfl rfl (.head _) (by omega) size65 (by intro p hp; simp only [List.mem_cons, List.not_mem_nil, or_false] at hp; rcases hp with rfl | rfl | rfl | rfl | rfl | rfl; exact .inl rfl; exact .inr ⟨by simp, by simp only; omega⟩; exact .inr ⟨by simp, by simp only; omega⟩; exact .inr ⟨by simp, by simp only; omega⟩; exact .inr ⟨by simp, by simp only; omega⟩; exact .inr ⟨by simp, by simp only; omega⟩)) ?_
  refine wpU_done (by kernel_rfl) (fun W4 hW4 => ?_) _
  have HK5 := Lib.hid hW4
  clear hW4 HK4
  by_cases h1 : c = 1
  · have HPK : Hid (∀ W, Calls Tryz.prog 80 #[.bool S, wid N, wid (d1 * d2)] W fun e w' => e = .returned RV ∧ Below W.heap.size W w') := by
      unfold Hid; rw [hc1'.out h1]; exact CP1.out
    subst h1
    go_wp2_with (first
      | (refine wpList_lda rfl rfl rfl (HK5.out.2 _ (.tail _ (.tail _ (.head _)))) Tryz.underlying23 rfl size25 ?_))
    refine wp_region_U (W0 := w) [(gn, .cells (fa 18 (dg N)) 76 (0, 0)), (go, .cells (fa 8 (dg ov)) 23 (0, 0)), (gc, .cells (fa 8 (dg 1)) 23 (0, 0)), (w.heap.size, .cells (frcC (s1) (n1) (d1)) 25 (0, 0)), (w.heap.size + 1, .cells (frcC (s2) (n2) (d2)) 25 (0, 0)), (w.heap.size + 1 + 1, .cells (frcC (false) (0) (0)) 25 (0, 0))] (by kernel_rfl) (HK5.out) ?_
    refine wpU_pY (i := 0) (v := .bool S) rfl rfl (by kernel_rfl) (by kernel_rfl) rfl (fun _ => by kernel_rfl) (by simp only [List.setIfInBounds_toArray, List.set_cons_succ, List.set_cons_zero] <;> rfl) ?_
    refine wpU_vY (i := 1) (v := wid N) rfl rfl (by kernel_rfl) (by kernel_rfl) rfl (yb_lda rfl (by kernel_rfl) (.head _) Tryz.underlying76 rfl size65) (by simp only [List.setIfInBounds_toArray, List.set_cons_succ, List.set_cons_zero] <;> rfl) ?_
    refine wpU_pY (i := 2) (v := .pointer (some ⟨w.heap.size, 9, none⟩)) rfl rfl (by kernel_rfl) (by kernel_rfl) rfl (fun _ => by kernel_rfl) (by simp only [List.setIfInBounds_toArray, List.set_cons_succ, List.set_cons_zero] <;> rfl) ?_
    refine wpU_vY (i := 3) (v := num (d1)) rfl rfl (by kernel_rfl) (by kernel_rfl) rfl (yb_load rfl (by kernel_rfl) (.tail _ (.tail _ (.tail _ (.head _)))) Tryz.underlying23 rfl size25 (by simp) (frc_den (s1) (n1) (d1))) (by simp only [List.setIfInBounds_toArray, List.set_cons_succ, List.set_cons_zero] <;> rfl) ?_
    refine wpU_pY (i := 4) (v := .pointer (some ⟨w.heap.size + 1, 9, none⟩)) rfl rfl (by kernel_rfl) (by kernel_rfl) rfl (fun _ => by kernel_rfl) (by simp only [List.setIfInBounds_toArray, List.set_cons_succ, List.set_cons_zero] <;> rfl) ?_
    refine wpU_vY (i := 5) (v := num (d2)) rfl rfl (by kernel_rfl) (by kernel_rfl) rfl (yb_load rfl (by kernel_rfl) (.tail _ (.tail _ (.tail _ (.tail _ (.head _))))) Tryz.underlying23 rfl size25 (by simp) (frc_den (s2) (n2) (d2))) (by simp only [List.setIfInBounds_toArray, List.set_cons_succ, List.set_cons_zero] <;> rfl) ?_
    refine wpU_vY (i := 6) (v := wid (d1 * d2)) rfl rfl (by kernel_rfl) (by kernel_rfl) rfl (yb_call (f := 55) (args := #[num d1, num d2]) (fun _ => by kernel_rfl) fun W hW => Ct.out W) (by simp only [List.setIfInBounds_toArray, List.set_cons_succ, List.set_cons_zero] <;> rfl) ?_
    refine wpU_vY (i := 7) (v := .tuple #[.agg (frcC s' n' d'), .int .i64 ee]) rfl rfl (by kernel_rfl) (by kernel_rfl) rfl (yb_call (f := 80) (args := #[.bool S, wid N, wid (d1 * d2)]) (fun _ => by kernel_rfl) fun W hW => by rw [← HPV.out]; exact HPK.out W) (by simp only [List.setIfInBounds_toArray, List.set_cons_succ, List.set_cons_zero] <;> rfl) ?_
    refine wpU_pY (i := 8) (v := .agg (frcC s' n' d')) rfl rfl (by kernel_rfl) (by kernel_rfl) rfl (fun _ => by kernel_rfl) (by simp only [List.setIfInBounds_toArray, List.set_cons_succ, List.set_cons_zero] <;> rfl) ?_
    refine wpU_pY (i := 9) (v := .int .i64 ee) rfl rfl (by kernel_rfl) (by kernel_rfl) rfl (fun _ => by kernel_rfl) (by simp only [List.setIfInBounds_toArray, List.set_cons_succ, List.set_cons_zero] <;> rfl) ?_
    refine wpU_sY [(gn, .cells (fa 18 (dg N)) 76 (0, 0)), (go, .cells (fa 8 (dg ov)) 23 (0, 0)), (gc, .cells (fa 8 (dg 1)) 23 (0, 0)), (w.heap.size, .cells (frcC (s1) (n1) (d1)) 25 (0, 0)), (w.heap.size + 1, .cells (frcC (s2) (n2) (d2)) 25 (0, 0)), (w.heap.size + 1 + 1, .cells (frcC (s') (n') (d')) 25 (0, 0))] (i := 10) rfl (by kernel_rfl) rfl rfl rfl
      (st_f (neg := s') (n := n') (d := d') rfl (by kernel_rfl) (by kernel_rfl) (.tail _ (.tail _ (.tail _ (.tail _ (.tail _ (.head _)))))) (by omega) size27 (by intro p hp; simp only [List.mem_cons, List.not_mem_nil, or_false] at hp; rcases hp with rfl | rfl | rfl | rfl | rfl | rfl; exact .inr ⟨by simp, by simp only; omega⟩; exact .inr ⟨by simp, by simp only; omega⟩; exact .inr ⟨by simp, by simp only; omega⟩; exact .inr ⟨by simp, by simp only; omega⟩; exact .inr ⟨by simp, by simp only; omega⟩; exact .inl rfl)) ?_
    refine wpU_pY (i := 11) (v := .int .i64 ee) rfl rfl (by kernel_rfl) (by kernel_rfl) rfl (fun _ => by kernel_rfl) (by simp only [List.setIfInBounds_toArray, List.set_cons_succ, List.set_cons_zero] <;> rfl) ?_
    refine wpU_done (by kernel_rfl) (fun W4 hW4 => ?_) _
    go_wp2_with fail
    exact bodyPost_ret (res_cell_tmp rfl rfl (hW4.2 _ (.tail _ (.tail _ (.tail _ (.tail _ (.tail _ (.head _))))))) Tryz.underlying25 rfl (by rw [size27, frcC_size])) rfl ⟨by rw [HPV.out]; rfl, hW4.1⟩
  · have HPK : Hid (∀ W, Calls Tryz.prog 80 #[.bool S, wid (N / l), wid (ov * (d2 / l))] W fun e w' => e = .returned RV ∧ Below W.heap.size W w') := by
      unfold Hid; rw [hc2'.out h1]; exact CP2.out
    go_upto_region 6 with (first
      | (refine wpList_lda rfl rfl rfl (HK5.out.2 _ (.tail _ (.tail _ (.head _)))) Tryz.underlying23 rfl size25 ?_))
    go_upto_region 7 with (first
      | (refine wpList_lda rfl rfl rfl (HK5.out.2 _ (.head _)) Tryz.underlying76 rfl size65 ?_)
      | (refine wpList_lda rfl rfl rfl (HK5.out.2 _ (.tail _ (.tail _ (.head _)))) Tryz.underlying23 rfl size25 ?_)
      | (go_at_call 56; refine (Cdv.out _).mono ?_; rintro e w3 ⟨rfl, hb1⟩; have HK6 := Lib.hid (HK5.out.below hb1); clear hb1; unfold wid num)
      | (refine wpList_sta (f := dg (N / c)) (f' := fun _ => 0) rfl rfl rfl rfl (heap2 w3 _ _).1 size65 ?_)
      | (refine wpList_sta (f := dg (N % c)) (f' := fun _ => 0) rfl rfl rfl rfl (heap2_2s w3 _ _ _) size25 ?_))
    obtain ⟨Bx, Fx⟩ := HK6.out.fresh
    have HK7 := Lib.hid (HK6.out.newvar2 (cs := fa 18 (fun _ => 0)) (cs' := fa 18 (dg (N / c))) (t := 76) (ds := fa 8 (fun _ => 0)) (ds' := fa 8 (dg (N % c))) (u := 23))
    simp only [List.forall_mem_cons] at Fx
    rw [← fa_zero8, ← fa_zero18]
    generalize (((w3.alloc (.cells (fa 18 (fun _ => 0)) 76)).alloc (.cells (fa 8 (fun _ => 0)) 23)).setRow w3.heap.size (fa 18 (dg (N / c)))).setRow (w3.heap.size + 1) (fa 8 (dg (N % c))) = W3 at *
    clear HK6 HK5
    generalize w3.heap.size = gx at *
    go_upto_region 8 with (first
      | (refine wpList_lda rfl rfl rfl (HK7.out.2 _ (.tail _ (.head _))) Tryz.underlying23 rfl size25 ?_)
      | (refine wpList_lda rfl rfl rfl (HK7.out.2 _ (.tail _ (.tail _ (.tail _ (.tail _ (.head _)))))) Tryz.underlying23 rfl size25 ?_)
      | (go_at_call 49; refine (Cl.out _).mono ?_; rintro e w4 ⟨rfl, hb1⟩; have HK8 := Lib.hid (HK7.out.below hb1); clear hb1; unfold num)
      | (refine wpList_sta (f := dg l) (f' := fun _ => 0) rfl rfl rfl rfl (heap1 w4 _) size25 ?_))
    obtain ⟨Bgl, Fgl⟩ := HK8.out.fresh
    have HK9 := Lib.hid (HK8.out.newvar (cs := fa 8 (fun _ => 0)) (cs' := fa 8 (dg (l))) (t := 23))
    simp only [List.forall_mem_cons] at Fgl
    rw [← fa_zero8]
    generalize (w4.alloc (.cells (fa 8 (fun _ => 0)) 23)).setRow w4.heap.size (fa 8 (dg (l))) = W4 at *
    clear HK8
    generalize w4.heap.size = gl at *
    clear HK7
    go_upto_region 9 with (first
      | (refine wpList_lda rfl rfl rfl (HK9.out.2 _ (.tail _ (.tail _ (.tail _ (.head _))))) Tryz.underlying76 rfl size65 ?_)
      | (refine wpList_lda rfl rfl rfl (HK9.out.2 _ (.head _)) Tryz.underlying23 rfl size25 ?_)
      | (go_at_call 56; refine (Cdl.out _).mono ?_; rintro e w5 ⟨rfl, hb1⟩; have HKa := Lib.hid (HK9.out.below hb1); clear hb1; unfold wid num)
      | (refine wpList_sta (f := dg (N / l)) (f' := dg N) rfl rfl rfl rfl (HKa.out.2 _ (.tail _ (.tail _ (.tail _ (.head _))))) size65 ?_))
    have HKb : Hid (KS w [(gl, .cells (fa 8 (dg l)) 23 (0, 0)), (gx, .cells (fa 18 (dg (N / c))) 76 (0, 0)), (gx + 1, .cells (fa 8 (dg (N % c))) 23 (0, 0)), (gn, .cells (fa 18 (dg (N / l))) 76 (0, 0)), (go, .cells (fa 8 (dg ov)) 23 (0, 0)), (gc, .cells (fa 8 (dg c)) 23 (0, 0)), (w.heap.size, .cells (frcC (s1) (n1) (d1)) 25 (0, 0)), (w.heap.size + 1, .cells (frcC (s2) (n2) (d2)) 25 (0, 0)), (w.heap.size + 1 + 1, .cells (frcC (false) (0) (0)) 25 (0, 0))] (w5.setRow gn (fa 18 (dg (N / l))))) := HKa.out.put (by omega) (.tail _ (.tail _ (.tail _ (.head _)))) (by intro p hp; simp only [List.mem_cons, List.not_mem_nil, or_false] at hp; rcases hp with rfl | rfl | rfl | rfl | rfl | rfl | rfl | rfl | rfl; exact .inr ⟨by simp, by simp only; omega⟩; exact .inr ⟨by simp, by simp only; omega⟩; exact .inr ⟨by simp, by simp only; omega⟩; exact .inl rfl; exact .inr ⟨by simp, by simp only; omega⟩; exact .inr ⟨by simp, by simp only; omega⟩; exact .inr ⟨by simp, by simp only; omega⟩; exact .inr ⟨by simp, by simp only; omega⟩; exact .inr ⟨by simp, by simp only; omega⟩)
    generalize w5.setRow gn (fa 18 (dg (N / l))) = W5 at *
    clear HKa HK9
    go_wp2_with fail
    refine wp_region_U (W0 := w) [(gl, .cells (fa 8 (dg l)) 23 (0, 0)), (gx, .cells (fa 18 (dg (N / c))) 76 (0, 0)), (gx + 1, .cells (fa 8 (dg (N % c))) 23 (0, 0)), (gn, .cells (fa 18 (dg (N / l))) 76 (0, 0)), (go, .cells (fa 8 (dg ov)) 23 (0, 0)), (gc, .cells (fa 8 (dg c)) 23 (0, 0)), (w.heap.size, .cells (frcC (s1) (n1) (d1)) 25 (0, 0)), (w.heap.size + 1, .cells (frcC (s2) (n2) (d2)) 25 (0, 0)), (w.heap.size + 1 + 1, .cells (frcC (false) (0) (0)) 25 (0, 0))] (by kernel_rfl) (HKb.out) ?_
    refine wpU_pY (i := 0) (v := .bool S) rfl rfl (by kernel_rfl) (by kernel_rfl) rfl (fun _ => by kernel_rfl) (by simp only [List.setIfInBounds_toArray, List.set_cons_succ, List.set_cons_zero] <;> rfl) ?_
    refine wpU_vY (i := 1) (v := wid (N / l)) rfl rfl (by kernel_rfl) (by kernel_rfl) rfl (yb_lda rfl (by kernel_rfl) (.tail _ (.tail _ (.tail _ (.head _)))) Tryz.underlying76 rfl size65) (by simp only [List.setIfInBounds_toArray, List.set_cons_succ, List.set_cons_zero] <;> rfl) ?_
    refine wpU_vY (i := 2) (v := num ov) rfl rfl (by kernel_rfl) (by kernel_rfl) rfl (yb_lda rfl (by kernel_rfl) (.tail _ (.tail _ (.tail _ (.tail _ (.head _))))) Tryz.underlying23 rfl size25) (by simp only [List.setIfInBounds_toArray, List.set_cons_succ, List.set_cons_zero] <;> rfl) ?_
    refine wpU_pY (i := 3) (v := .pointer (some ⟨w.heap.size + 1, 9, none⟩)) rfl rfl (by kernel_rfl) (by kernel_rfl) rfl (fun _ => by kernel_rfl) (by simp only [List.setIfInBounds_toArray, List.set_cons_succ, List.set_cons_zero] <;> rfl) ?_
    refine wpU_vY (i := 4) (v := num (d2)) rfl rfl (by kernel_rfl) (by kernel_rfl) rfl (yb_load rfl (by kernel_rfl) (.tail _ (.tail _ (.tail _ (.tail _ (.tail _ (.tail _ (.tail _ (.head _)))))))) Tryz.underlying23 rfl size25 (by simp) (frc_den (s2) (n2) (d2))) (by simp only [List.setIfInBounds_toArray, List.set_cons_succ, List.set_cons_zero] <;> rfl) ?_
    refine wpU_vY (i := 5) (v := num l) rfl rfl (by kernel_rfl) (by kernel_rfl) rfl (yb_lda rfl (by kernel_rfl) (.head _) Tryz.underlying23 rfl size25) (by simp only [List.setIfInBounds_toArray, List.set_cons_succ, List.set_cons_zero] <;> rfl) ?_
    refine wpU_vY (i := 6) (v := num (d2 / l)) rfl rfl (by kernel_rfl) (by kernel_rfl) rfl (yb_call (f := 79) (args := #[num d2, num l]) (fun _ => by kernel_rfl) fun W hW => Cdq.out W) (by simp only [List.setIfInBounds_toArray, List.set_cons_succ, List.set_cons_zero] <;> rfl) ?_
    refine wpU_vY (i := 7) (v := wid (ov * (d2 / l))) rfl rfl (by kernel_rfl) (by kernel_rfl) rfl (yb_call (f := 55) (args := #[num ov, num (d2 / l)]) (fun _ => by kernel_rfl) fun W hW => Cod.out W) (by simp only [List.setIfInBounds_toArray, List.set_cons_succ, List.set_cons_zero] <;> rfl) ?_
    refine wpU_vY (i := 8) (v := .tuple #[.agg (frcC s' n' d'), .int .i64 ee]) rfl rfl (by kernel_rfl) (by kernel_rfl) rfl (yb_call (f := 80) (args := #[.bool S, wid (N / l), wid (ov * (d2 / l))]) (fun _ => by kernel_rfl) fun W hW => by rw [← HPV.out]; exact HPK.out W) (by simp only [List.setIfInBounds_toArray, List.set_cons_succ, List.set_cons_zero] <;> rfl) ?_
    refine wpU_pY (i := 9) (v := .agg (frcC s' n' d')) rfl rfl (by kernel_rfl) (by kernel_rfl) rfl (fun _ => by kernel_rfl) (by simp only [List.setIfInBounds_toArray, List.set_cons_succ, List.set_cons_zero] <;> rfl) ?_
    refine wpU_pY (i := 10) (v := .int .i64 ee) rfl rfl (by kernel_rfl) (by kernel_rfl) rfl (fun _ => by kernel_rfl) (by simp only [List.setIfInBounds_toArray, List.set_cons_succ, List.set_cons_zero] <;> rfl) ?_
    refine wpU_sY [(gl, .cells (fa 8 (dg l)) 23 (0, 0)), (gx, .cells (fa 18 (dg (N / c))) 76 (0, 0)), (gx + 1, .cells (fa 8 (dg (N % c))) 23 (0, 0)), (gn, .cells (fa 18 (dg (N / l))) 76 (0, 0)), (go, .cells (fa 8 (dg ov)) 23 (0, 0)), (gc, .cells (fa 8 (dg c)) 23 (0, 0)), (w.heap.size, .cells (frcC (s1) (n1) (d1)) 25 (0, 0)), (w.heap.size + 1, .cells (frcC (s2) (n2) (d2)) 25 (0, 0)), (w.heap.size + 1 + 1, .cells (frcC (s') (n') (d')) 25 (0, 0))] (i := 11) rfl (by kernel_rfl) rfl rfl rfl
      (st_f (neg := s') (n := n') (d := d') rfl (by kernel_rfl) (by kernel_rfl) (.tail _ (.tail _ (.tail _ (.tail _ (.tail _ (.tail _ (.tail _ (.tail _ (.head _))))))))) (by omega) size27 (by intro p hp; simp only [List.mem_cons, List.not_mem_nil, or_false] at hp; rcases hp with rfl | rfl | rfl | rfl | rfl | rfl | rfl | rfl | rfl; exact .inr ⟨by simp, by simp only; omega⟩; exact .inr ⟨by simp, by simp only; omega⟩; exact .inr ⟨by simp, by simp only; omega⟩; exact .inr ⟨by simp, by simp only; omega⟩; exact .inr ⟨by simp, by simp only; omega⟩; exact .inr ⟨by simp, by simp only; omega⟩; exact .inr ⟨by simp, by simp only; omega⟩; exact .inr ⟨by simp, by simp only; omega⟩; exact .inl rfl)) ?_
    refine wpU_pY (i := 12) (v := .int .i64 ee) rfl rfl (by kernel_rfl) (by kernel_rfl) rfl (fun _ => by kernel_rfl) (by simp only [List.setIfInBounds_toArray, List.set_cons_succ, List.set_cons_zero] <;> rfl) ?_
    refine wpU_done (by kernel_rfl) (fun W4 hW4 => ?_) _
    go_wp2_with fail
    exact bodyPost_ret (res_cell_tmp rfl rfl (hW4.2 _ (.tail _ (.tail _ (.tail _ (.tail _ (.tail _ (.tail _ (.tail _ (.tail _ (.head _)))))))))) Tryz.underlying25 rfl (by rw [size27, frcC_size])) rfl ⟨by rw [HPV.out]; rfl, hW4.1⟩
end Go.Proofs.YtalmflgkbmnghaaGreatDoor
namespace Go.Proofs.YtalmflgkbmnghaaGreatDoor
open Go.RowKit Tf

set_option maxHeartbeats 400000 in
theorem magnitude_any (n : Int) (h1 : -9223372036854775808 ≤ n) (h2 : n ≤ 9223372036854775807) (w : World) :
    Calls Tryz.prog 75 #[.int .i64 n] w fun e w' => e = .returned (.int .u64 (n.natAbs : Int)) ∧ w = w' := by
  go_enter Tryz.func75, Tryz.ntmps75
  by_cases h : n < 0
  all_goals
    go_wp2
    go_ret
    refine ⟨ret_int ?_, rfl⟩
    first | omega | (simp only [wrap64, IntKind.wrap_u64]; omega)
end Go.Proofs.YtalmflgkbmnghaaGreatDoor
namespace Go.Proofs.YtalmflgkbmnghaaGreatDoor
open Go.RowKit Tf
theorem run_build27 (s : Bool) (n d : Nat) (w : World) : (Instr.build 25 #[(0, .bool s), (1, .agg (fa 8 (dg n))), (2, .agg (fa 8 (dg d)))]).run Tryz.prog w = .ok (.agg (frcC s n d)) w := by kernel_rfl
theorem wpList_bf {ops : Array Oper} {rest : List Oper} {o : Oper} {a : Act} {w : World} {Q : Exit → Act → World → Prop} (hgd : o.guard = none) {x y z : Operand} {s : Bool} {n d : Nat} (ho : o.op = .build 25 #[(0, x), (1, y), (2, z)])
    (hx : a.eval x = .bool s) (hy : a.eval y = .agg (fa 8 (dg n))) (hz : a.eval z = .agg (fa 8 (dg d)))
    (h : wpList Tryz.prog ops Q rest (a.put o.dst (.agg (frcC s n d))) w) : wpList Tryz.prog ops Q (o :: rest) a w :=
  wpList_plain hgd fun _ hK => by
    unfold Oper.wp execOp
    simp only [ho]
    have hm : (#[((0 : Nat), x), (1, y), (2, z)].map fun (i, x) => (i, a.eval x)) = #[(0, .bool s), (1, .agg (fa 8 (dg n))), (2, .agg (fa 8 (dg d)))] := by
      simp [hx, hy, hz]
    rw [Sem.run_bind]
    have hr := run_build27 s n d w
    rw [← hm] at hr
    rw [hr]
    exact hK _ _ h
set_option maxRecDepth 100000 in
set_option maxHeartbeats 1000000 in
theorem of_any (n : Int) (h1 : -9223372036854775808 ≤ n) (h2 : n ≤ 9223372036854775807) (w : World) :
    Calls Tryz.prog 39 #[.int .i64 n] w fun e w' => e = .returned (frc (decide (n < 0)) n.natAbs 1) ∧ Below w.heap.size w w' := by
  have HM := Lib.hid (fun W => magnitude_any n h1 h2 W)
  have h3 : n.natAbs < 18446744073709551616 := by omega
  clear h1 h2
  generalize n.natAbs = m at *
  have H3 := Lib.hid h3
  clear h3
  unfold frc
  go_enter Tryz.func39, Tryz.ntmps39
  go_upto_region 1 with (fail)
  have hK := KS.one w (.cells (frcC false 0 0) 25)
  obtain ⟨W, hW⟩ : ∃ W, W = w.alloc (.cells (frcC false 0 0) 25) := ⟨_, rfl⟩
  rw [← hW] at hK
  rw [frc_zero] at hW
  rw [← hW]
  clear hW
  have HK := Lib.hid hK
  clear hK
  go_wp2_with (first
    | (go_at_call 75; refine (HM.out _).mono ?_; rintro e w1 ⟨rfl, rfl⟩)
    | (go_at_call 77; refine (fromSmall_any m H3.out _).mono ?_; rintro e w1 ⟨rfl, hb1⟩; have HK2 := Lib.hid (HK.out.below hb1); clear hb1; unfold num)
    | (refine wpList_bf (s := decide (n < 0)) (n := m) (d := 1) rfl rfl rfl rfl (by rw [fa_one8]; rfl) ?_)
    | (refine wpList_stf (neg := decide (n < 0)) (n := m) (d := 1) (neg' := false) (n' := 0) (d' := 0) rfl rfl rfl rfl (HK2.out.2 _ (.head _)) size27 ?_))
  exact bodyPost_ret (res_cell rfl rfl (setRow_heap _ _ _ _ _ _ (HK2.out.2 _ (.head _))) Tryz.underlying25 rfl (by rw [size27, frcC_size])) rfl ⟨rfl, below_setRow HK2.out.1 (by omega) _⟩
end Go.Proofs.YtalmflgkbmnghaaGreatDoor
namespace Go.Proofs.YtalmflgkbmnghaaGreatDoor
open Go.RowKit Tf
variable [ShLZ]
set_option maxRecDepth 100000 in
set_option maxHeartbeats 1000000 in
theorem ratio_any (a b : Int) (a1 : -9223372036854775808 ≤ a) (a2 : a ≤ 9223372036854775807) (b1 : -9223372036854775808 ≤ b) (b2 : b ≤ 9223372036854775807) (hb : b ≠ 0) (w : World) :
    Calls Tryz.prog 37 #[.int .i64 a, .int .i64 b] w fun e w' => e = .returned (.tuple #[frc (decide (a ≠ 0) && (decide (a < 0) != decide (b < 0))) (a.natAbs / Nat.gcd a.natAbs b.natAbs) (b.natAbs / Nat.gcd a.natAbs b.natAbs), .int .i64 0]) ∧ Below w.heap.size w w' := by
  have HA := Lib.hid (fun W => magnitude_any a a1 a2 W)
  have HB := Lib.hid (fun W => magnitude_any b b1 b2 W)
  have x1 : a.natAbs < 18446744073709551616 := by omega
  have y1 : b.natAbs < 18446744073709551616 := by omega
  have y0 : 0 < b.natAbs := by omega
  clear a1 a2 b1 b2
  generalize a.natAbs = x at *
  generalize b.natAbs = y at *
  have HY := Lib.hid y0
  have HX := Lib.hid (⟨x1, y1, Nat.gcd_pos_of_pos_right x y0⟩ : x < 18446744073709551616 ∧ y < 18446744073709551616 ∧ 0 < Nat.gcd x y)
  clear x1 y1 y0
  unfold frc
  have hbz : (b == 0) = false := by simp [hb]
  go_enter Tryz.func37, Tryz.ntmps37
  go_upto_region 1 with (fail)
  have hK := KS.one w (.cells (frcC false 0 0) 25)
  obtain ⟨W, hW⟩ : ∃ W, W = w.alloc (.cells (frcC false 0 0) 25) := ⟨_, rfl⟩
  rw [← hW] at hK
  rw [frc_zero] at hW
  rw [← hW]
  clear hW
  have HK := Lib.hid hK
  clear hK
  by_cases ha : a = 0
  · subst ha
    go_wp2_with (first
      | (go_at_call 75; with_reducible refine (HA.out _).mono ?_; rintro e w1 ⟨rfl, rfl⟩)
      | (go_at_call 75; with_reducible refine (HB.out _).mono ?_; rintro e w1 ⟨rfl, rfl⟩)
      | (go_at_call 76; refine (gcdSmall_any x y HX.out.1 HX.out.2.1 _).mono ?_; rintro e w2 ⟨rfl, hb1⟩; have HK2 := Lib.hid (HK.out.below hb1); clear hb1))
    have X1 := HX.out.1
    have Y1 := HX.out.2.1
    have G0 := HX.out.2.2
    have G1 : Nat.gcd x y < 18446744073709551616 := Nat.lt_of_le_of_lt (Nat.gcd_le_right x HY.out) Y1
    refine wp_region_U (W0 := w) [(w.heap.size, .cells (frcC (false) (0) (0)) 25 (0, 0))] (by kernel_rfl) (HK2.out) ?_
    refine wpU_pY (i := 0) (v := .bool (false)) rfl rfl (by kernel_rfl) (by kernel_rfl) rfl (fun _ => by kernel_rfl) (by simp only [List.setIfInBounds_toArray, List.set_cons_succ, List.set_cons_zero] <;> rfl) ?_
    refine wpU_pY (i := 1) (v := .int .u64 (x : Int)) rfl rfl (by kernel_rfl) (by kernel_rfl) rfl (fun _ => by kernel_rfl) (by simp only [List.setIfInBounds_toArray, List.set_cons_succ, List.set_cons_zero] <;> rfl) ?_
    refine wpU_pY (i := 2) (v := .int .u64 ((Nat.gcd x y : Nat) : Int)) rfl rfl (by kernel_rfl) (by kernel_rfl) rfl (fun _ => by kernel_rfl) (by simp only [List.setIfInBounds_toArray, List.set_cons_succ, List.set_cons_zero] <;> rfl) ?_
    refine wpU_pY (i := 3) (v := .int .u64 ((x / Nat.gcd x y : Nat) : Int)) rfl rfl (by kernel_rfl) (by kernel_rfl) rfl (run_binY rfl (vx := .int .u64 (x : Int)) (vy := .int .u64 ((Nat.gcd x y : Nat) : Int)) (by kernel_rfl) (by kernel_rfl) fun w => run_quo64 w G1 G0 X1) (by simp only [List.setIfInBounds_toArray, List.set_cons_succ, List.set_cons_zero] <;> rfl) ?_
    refine wpU_vY (i := 4) (v := num (x / Nat.gcd x y)) rfl rfl (by kernel_rfl) (by kernel_rfl) rfl (yb_call (f := 77) (args := #[.int .u64 ((x / Nat.gcd x y : Nat) : Int)]) (fun _ => by kernel_rfl) fun W hW => fromSmall_any (x / Nat.gcd x y) (Nat.lt_of_le_of_lt (Nat.div_le_self _ _) X1) W) (by simp only [List.setIfInBounds_toArray, List.set_cons_succ, List.set_cons_zero] <;> rfl) ?_
    refine wpU_pY (i := 5) (v := .int .u64 (y : Int)) rfl rfl (by kernel_rfl) (by kernel_rfl) rfl (fun _ => by kernel_rfl) (by simp only [List.setIfInBounds_toArray, List.set_cons_succ, List.set_cons_zero] <;> rfl) ?_
    refine wpU_pY (i := 6) (v := .int .u64 ((Nat.gcd x y : Nat) : Int)) rfl rfl (by kernel_rfl) (by kernel_rfl) rfl (fun _ => by kernel_rfl) (by simp only [List.setIfInBounds_toArray, List.set_cons_succ, List.set_cons_zero] <;> rfl) ?_
    refine wpU_pY (i := 7) (v := .int .u64 ((y / Nat.gcd x y : Nat) : Int)) rfl rfl (by kernel_rfl) (by kernel_rfl) rfl (run_binY rfl (vx := .int .u64 (y : Int)) (vy := .int .u64 ((Nat.gcd x y : Nat) : Int)) (by kernel_rfl) (by kernel_rfl) fun w => run_quo64 w G1 G0 Y1) (by simp only [List.setIfInBounds_toArray, List.set_cons_succ, List.set_cons_zero] <;> rfl) ?_
    refine wpU_vY (i := 8) (v := num (y / Nat.gcd x y)) rfl rfl (by kernel_rfl) (by kernel_rfl) rfl (yb_call (f := 77) (args := #[.int .u64 ((y / Nat.gcd x y : Nat) : Int)]) (fun _ => by kernel_rfl) fun W hW => fromSmall_any (y / Nat.gcd x y) (Nat.lt_of_le_of_lt (Nat.div_le_self _ _) Y1) W) (by simp only [List.setIfInBounds_toArray, List.set_cons_succ, List.set_cons_zero] <;> rfl) ?_
    refine wpU_pY (i := 9) (v := frc (false) (x / Nat.gcd x y) (y / Nat.gcd x y)) rfl rfl (by kernel_rfl) (by kernel_rfl) rfl (fun _ => by kernel_rfl) (by simp only [List.setIfInBounds_toArray, List.set_cons_succ, List.set_cons_zero] <;> rfl) ?_
    refine wpU_sY [(w.heap.size, .cells (frcC (false) (x / Nat.gcd x y) (y / Nat.gcd x y)) 25 (0, 0))] (i := 10) rfl (by kernel_rfl) rfl rfl rfl
      (st_f (neg := false) (n := x / Nat.gcd x y) (d := y / Nat.gcd x y) rfl (by kernel_rfl) (by kernel_rfl) (.head _) (by omega) size27 (by intro p hp; simp only [List.mem_cons, List.not_mem_nil, or_false] at hp; rcases hp with rfl; exact .inl rfl)) ?_
    refine wpU_pY (i := 11) (v := .int .i64 0) rfl rfl (by kernel_rfl) (by kernel_rfl) rfl (fun _ => by kernel_rfl) (by simp only [List.setIfInBounds_toArray, List.set_cons_succ, List.set_cons_zero] <;> rfl) ?_
    refine wpU_done (by kernel_rfl) (fun W4 hW4 => ?_) _
    go_wp2_with fail
    refine bodyPost_ret (res_cell_tmp rfl rfl (hW4.2 _ (.head _)) Tryz.underlying25 rfl (by rw [size27, frcC_size])) rfl ⟨?_, hW4.1⟩
    simp [frc]
  · have hab : (a != 0) = true := by simp [ha]
    go_wp2_with (first
      | (go_at_call 75; with_reducible refine (HA.out _).mono ?_; rintro e w1 ⟨rfl, rfl⟩)
      | (go_at_call 75; with_reducible refine (HB.out _).mono ?_; rintro e w1 ⟨rfl, rfl⟩)
      | (go_at_call 76; refine (gcdSmall_any x y HX.out.1 HX.out.2.1 _).mono ?_; rintro e w2 ⟨rfl, hb1⟩; have HK2 := Lib.hid (HK.out.below hb1); clear hb1))
    have X1 := HX.out.1
    have Y1 := HX.out.2.1
    have G0 := HX.out.2.2
    have G1 : Nat.gcd x y < 18446744073709551616 := Nat.lt_of_le_of_lt (Nat.gcd_le_right x HY.out) Y1
    refine wp_region_U (W0 := w) [(w.heap.size, .cells (frcC (false) (0) (0)) 25 (0, 0))] (by kernel_rfl) (HK2.out) ?_
    refine wpU_pY (i := 0) (v := .bool (decide (a < 0) != decide (b < 0))) rfl rfl (by kernel_rfl) (by kernel_rfl) rfl (fun _ => by kernel_rfl) (by simp only [List.setIfInBounds_toArray, List.set_cons_succ, List.set_cons_zero] <;> rfl) ?_
    refine wpU_pY (i := 1) (v := .int .u64 (x : Int)) rfl rfl (by kernel_rfl) (by kernel_rfl) rfl (fun _ => by kernel_rfl) (by simp only [List.setIfInBounds_toArray, List.set_cons_succ, List.set_cons_zero] <;> rfl) ?_
    refine wpU_pY (i := 2) (v := .int .u64 ((Nat.gcd x y : Nat) : Int)) rfl rfl (by kernel_rfl) (by kernel_rfl) rfl (fun _ => by kernel_rfl) (by simp only [List.setIfInBounds_toArray, List.set_cons_succ, List.set_cons_zero] <;> rfl) ?_
    refine wpU_pY (i := 3) (v := .int .u64 ((x / Nat.gcd x y : Nat) : Int)) rfl rfl (by kernel_rfl) (by kernel_rfl) rfl (run_binY rfl (vx := .int .u64 (x : Int)) (vy := .int .u64 ((Nat.gcd x y : Nat) : Int)) (by kernel_rfl) (by kernel_rfl) fun w => run_quo64 w G1 G0 X1) (by simp only [List.setIfInBounds_toArray, List.set_cons_succ, List.set_cons_zero] <;> rfl) ?_
    refine wpU_vY (i := 4) (v := num (x / Nat.gcd x y)) rfl rfl (by kernel_rfl) (by kernel_rfl) rfl (yb_call (f := 77) (args := #[.int .u64 ((x / Nat.gcd x y : Nat) : Int)]) (fun _ => by kernel_rfl) fun W hW => fromSmall_any (x / Nat.gcd x y) (Nat.lt_of_le_of_lt (Nat.div_le_self _ _) X1) W) (by simp only [List.setIfInBounds_toArray, List.set_cons_succ, List.set_cons_zero] <;> rfl) ?_
    refine wpU_pY (i := 5) (v := .int .u64 (y : Int)) rfl rfl (by kernel_rfl) (by kernel_rfl) rfl (fun _ => by kernel_rfl) (by simp only [List.setIfInBounds_toArray, List.set_cons_succ, List.set_cons_zero] <;> rfl) ?_
    refine wpU_pY (i := 6) (v := .int .u64 ((Nat.gcd x y : Nat) : Int)) rfl rfl (by kernel_rfl) (by kernel_rfl) rfl (fun _ => by kernel_rfl) (by simp only [List.setIfInBounds_toArray, List.set_cons_succ, List.set_cons_zero] <;> rfl) ?_
    refine wpU_pY (i := 7) (v := .int .u64 ((y / Nat.gcd x y : Nat) : Int)) rfl rfl (by kernel_rfl) (by kernel_rfl) rfl (run_binY rfl (vx := .int .u64 (y : Int)) (vy := .int .u64 ((Nat.gcd x y : Nat) : Int)) (by kernel_rfl) (by kernel_rfl) fun w => run_quo64 w G1 G0 Y1) (by simp only [List.setIfInBounds_toArray, List.set_cons_succ, List.set_cons_zero] <;> rfl) ?_
    refine wpU_vY (i := 8) (v := num (y / Nat.gcd x y)) rfl rfl (by kernel_rfl) (by kernel_rfl) rfl (yb_call (f := 77) (args := #[.int .u64 ((y / Nat.gcd x y : Nat) : Int)]) (fun _ => by kernel_rfl) fun W hW => fromSmall_any (y / Nat.gcd x y) (Nat.lt_of_le_of_lt (Nat.div_le_self _ _) Y1) W) (by simp only [List.setIfInBounds_toArray, List.set_cons_succ, List.set_cons_zero] <;> rfl) ?_
    refine wpU_pY (i := 9) (v := frc (decide (a < 0) != decide (b < 0)) (x / Nat.gcd x y) (y / Nat.gcd x y)) rfl rfl (by kernel_rfl) (by kernel_rfl) rfl (fun _ => by kernel_rfl) (by simp only [List.setIfInBounds_toArray, List.set_cons_succ, List.set_cons_zero] <;> rfl) ?_
    refine wpU_sY [(w.heap.size, .cells (frcC (decide (a < 0) != decide (b < 0)) (x / Nat.gcd x y) (y / Nat.gcd x y)) 25 (0, 0))] (i := 10) rfl (by kernel_rfl) rfl rfl rfl
      (st_f (neg := decide (a < 0) != decide (b < 0)) (n := x / Nat.gcd x y) (d := y / Nat.gcd x y) rfl (by kernel_rfl) (by kernel_rfl) (.head _) (by omega) size27 (by intro p hp; simp only [List.mem_cons, List.not_mem_nil, or_false] at hp; rcases hp with rfl; exact .inl rfl)) ?_
    refine wpU_pY (i := 11) (v := .int .i64 0) rfl rfl (by kernel_rfl) (by kernel_rfl) rfl (fun _ => by kernel_rfl) (by simp only [List.setIfInBounds_toArray, List.set_cons_succ, List.set_cons_zero] <;> rfl) ?_
    refine wpU_done (by kernel_rfl) (fun W4 hW4 => ?_) _
    go_wp2_with fail
    refine bodyPost_ret (res_cell_tmp rfl rfl (hW4.2 _ (.head _)) Tryz.underlying25 rfl (by rw [size27, frcC_size])) rfl ⟨?_, hW4.1⟩
    simp [frc, ha]

end Go.Proofs.YtalmflgkbmnghaaGreatDoor
namespace Go.Proofs.YtalmflgkbmnghaaGreatDoor
open Go.RowKit Tf
variable [ShLZ]
def addV (s1 : Bool) (n1 d1 : Nat) (s2 : Bool) (n2 d2 : Nat) : Value :=
  packV (psS s1 s2 (n1 * (d2 / Nat.gcd d1 d2)) (n2 * (d1 / Nat.gcd d1 d2)))
    (psN s1 s2 (n1 * (d2 / Nat.gcd d1 d2)) (n2 * (d1 / Nat.gcd d1 d2)) / Nat.gcd (psN s1 s2 (n1 * (d2 / Nat.gcd d1 d2)) (n2 * (d1 / Nat.gcd d1 d2))) (Nat.gcd d1 d2))
    (d1 / Nat.gcd d1 d2 * (d2 / Nat.gcd (psN s1 s2 (n1 * (d2 / Nat.gcd d1 d2)) (n2 * (d1 / Nat.gcd d1 d2))) (Nat.gcd d1 d2)))
theorem psN_le (x y : Bool) (a b : Nat) : psN x y a b ≤ a + b := by
  unfold psN; split
  · exact Nat.le_refl _
  · split <;> omega
theorem two_R16 {u v : Nat} (hu : u < R 16) (hv : v < R 16) : u + v < R 17 := by rw [R_succ]; omega
theorem mul_lt16 {a b : Nat} (ha : a < R 8) (hb : b < R 8) : a * b < R 16 := by
  have h : a * b < R (8 + 8) := by rw [R_add]; exact Nat.mul_lt_mul'' ha hb
  exact h
theorem add_any (s1 s2 : Bool) (n1 d1 n2 d2 : Nat) (hn1 : n1 < R 8) (hd1 : d1 < R 8) (hn2 : n2 < R 8) (hd2 : d2 < R 8) (h1 : 0 < d1) (h2 : 0 < d2) (w : World) :
    Calls Tryz.prog 42 #[frc s1 n1 d1, frc s2 n2 d2] w fun e w' => e = .returned (addV s1 n1 d1 s2 n2 d2) ∧ Below w.heap.size w w' := by
  unfold addV
  have hc0 : 0 < Nat.gcd d1 d2 := Nat.gcd_pos_of_pos_right d1 h2
  have hc : Nat.gcd d1 d2 < R 8 := Nat.lt_of_le_of_lt (Nat.gcd_le_right d1 h2) hd2
  have hq : d2 / Nat.gcd d1 d2 < R 8 := Nat.lt_of_le_of_lt (Nat.div_le_self _ _) hd2
  have ho : d1 / Nat.gcd d1 d2 < R 8 := Nat.lt_of_le_of_lt (Nat.div_le_self _ _) hd1
  have HG := fun W => gcd_any d1 d2 hd1 hd2 W
  have HO := fun W => quotient_any d1 (Nat.gcd d1 d2) hd1 hc hc0 W
  have HQ := fun W => quotient_any d2 (Nat.gcd d1 d2) hd2 hc hc0 W
  generalize Nat.gcd d1 d2 = c at *
  generalize hqd : d2 / c = q2 at *
  generalize hod : d1 / c = ov at *
  have hu : n1 * q2 < R 16 := mul_lt16 hn1 hq
  have hv : n2 * ov < R 16 := mul_lt16 hn2 ho
  have HU := fun W => times_any n1 q2 hn1 hq W
  have HV := fun W => times_any n2 ov hn2 ho W
  generalize n1 * q2 = u at *
  generalize n2 * ov = v at *
  have huv := two_R16 hu hv
  have hN : psN s1 s2 u v < R 17 := Nat.lt_of_le_of_lt (psN_le s1 s2 u v) huv
  have HP := fun W => plusSigned_any s1 s2 u v (lt_R_of_le huv (by omega)) W
  generalize psN s1 s2 u v = N at *
  generalize psS s1 s2 u v = S at *
  have hl0 : 0 < Nat.gcd N c := Nat.gcd_pos_of_pos_right N hc0
  have hl : Nat.gcd N c < R 8 := Nat.lt_of_le_of_lt (Nat.gcd_le_right N hc0) hc
  have hlg : Nat.gcd (N % c) c = Nat.gcd N c := by rw [Nat.gcd_comm N c, Nat.gcd_rec c N]
  have HL := fun W => gcd_any (N % c) c (Nat.lt_trans (Nat.mod_lt N hc0) hc) hc W
  rw [hlg] at HL
  have hone : c = 1 → Nat.gcd N c = 1 := fun h => by rw [h, Nat.gcd_one_right]
  clear hlg
  generalize Nat.gcd N c = l at *
  have hdl : d2 / l < R 8 := Nat.lt_of_le_of_lt (Nat.div_le_self _ _) hd2
  have hNl : N / l < R 17 := Nat.lt_of_le_of_lt (Nat.div_le_self _ _) hN
  obtain ⟨s', n', d', ee, hpv⟩ := packV_shape S (N / l) (ov * (d2 / l))
  exact add_walk s1 s2 S n1 d1 n2 d2 c ov q2 u v N l s' n' d' ee (packV S (N / l) (ov * (d2 / l))) hc
    (fun h => by rw [hone h, Nat.div_one, Nat.div_one, ← hod, h, Nat.div_one]) (fun _ => rfl) hpv HG HO HQ HU HV HP (fun W => times_any d1 d2 hd1 hd2 W)
    (fun W => divide_any N c hN hc hc0 W) HL (fun W => divide_any N l hN hl hl0 W) (fun W => quotient_any d2 l hd2 hl hl0 W) (fun W => times_any ov (d2 / l) ho hdl W)
    (fun W => pack_any S N (d1 * d2) (lt_R_of_le hN (by omega)) (lt_R_of_le (mul_lt16 hd1 hd2) (by omega)) W)
    (fun W => pack_any S (N / l) (ov * (d2 / l)) (lt_R_of_le hNl (by omega)) (lt_R_of_le (mul_lt16 ho hdl) (by omega)) W) w
end Go.Proofs.YtalmflgkbmnghaaGreatDoor
namespace Go.Proofs.YtalmflgkbmnghaaGreatDoor
open Go.RowKit Tf
variable [ShLZ]
def argV : Value := .tuple #[.agg (frcC false 0 0), .int .i64 2]
theorem right_den {s : Bool} {n d : Nat} (h : rightB s n d = true) : 0 < d := by
  unfold rightB at h
  split at h
  · simp at h; omega
  · simp at h; omega

set_option maxRecDepth 100000 in
set_option maxHeartbeats 2000000 in
theorem Add_any (s1 s2 : Bool) (n1 d1 n2 d2 : Nat) (hn1 : n1 < R 8) (hd1 : d1 < R 8) (hn2 : n2 < R 8) (hd2 : d2 < R 8) (w : World) :
    Calls Tryz.prog 15 #[frc s1 n1 d1, frc s2 n2 d2] w fun e w' => e = .returned (if (rightB s1 n1 d1 && rightB s2 n2 d2) = true then addV s1 n1 d1 s2 n2 d2 else argV) ∧ Below w.heap.size w w' := by
  have HR1 := Lib.hid (fun W => right_any s1 n1 d1 hn1 hd1 W)
  have HR2 := Lib.hid (fun W => right_any s2 n2 d2 hn2 hd2 W)
  unfold Hid frc at HR1 HR2
  have HC : rightB s1 n1 d1 = true → rightB s2 n2 d2 = true → Hid (∀ W, Calls Tryz.prog 42 #[.agg (frcC s1 n1 d1), .agg (frcC s2 n2 d2)] W fun e w' => e = .returned (addV s1 n1 d1 s2 n2 d2) ∧ Below W.heap.size W w') := fun h1 h2 W =>
    add_any s1 s2 n1 d1 n2 d2 hn1 hd1 hn2 hd2 (right_den h1) (right_den h2) W
  obtain ⟨s', n', d', ee, hp⟩ : ∃ s' n' d' e, addV s1 n1 d1 s2 n2 d2 = .tuple #[.agg (frcC s' n' d'), .int .i64 e] := packV_shape _ _ _
  have HP := Lib.hid hp
  clear hp hn1 hd1 hn2 hd2
  unfold frc
  generalize addV s1 n1 d1 s2 n2 d2 = CV at *
  generalize rightB s1 n1 d1 = r1 at *
  generalize rightB s2 n2 d2 = r2 at *
  have HR1 := Lib.hid HR1
  have HR2 := Lib.hid HR2
  go_enter Tryz.func15, Tryz.ntmps15
  go_upto_region 1 with (fail)
  have hK := KS.three w (.cells (frcC s1 n1 d1) 25) (.cells (frcC s2 n2 d2) 25) (.cells (frcC false 0 0) 25)
  obtain ⟨W, hW⟩ : ∃ W, W = ((w.alloc (.cells (frcC s1 n1 d1) 25)).alloc (.cells (frcC s2 n2 d2) 25)).alloc (.cells (frcC false 0 0) 25) := ⟨_, rfl⟩
  rw [← hW] at hK
  rw [frc_zero] at hW
  rw [← hW]
  clear hW
  have HK := Lib.hid hK
  clear hK
  cases r1
  · have HV := Lib.hid (show (if (false && r2) = true then CV else argV) = argV from rfl)
    clear HC
    go_wp2_with (first
      | (refine wpList_ldf rfl rfl rfl (HK.out.2 _ (.head _)) Tryz.underlying25 rfl size27 ?_)
      | (refine wpList_guard rfl ?_; refine wpList_ldf rfl rfl rfl (HK1.out.2 _ (.tail _ (.head _))) Tryz.underlying25 rfl size27 ?_)
      | (go_at_call 17; with_reducible refine (HR1.out _).mono ?_; rintro e w1 ⟨rfl, hb1⟩; have HK1 := Lib.hid (HK.out.below hb1); clear hb1)
      | (go_at_call 17; with_reducible refine (HR2.out _).mono ?_; rintro e w2 ⟨rfl, hb1⟩; have HK2 := Lib.hid (HK1.out.below hb1); clear hb1)
      | (refine wpList_stf (neg := false) (n := 0) (d := 0) (neg' := false) (n' := 0) (d' := 0) rfl rfl rfl (by rw [frc_zero]; rfl) (HK1.out.2 _ (.tail _ (.tail _ (.head _)))) size27 ?_))
    exact bodyPost_ret (res_cell_tmp rfl rfl (setRow_heap _ _ _ _ _ _ (HK1.out.2 _ (.tail _ (.tail _ (.head _))))) Tryz.underlying25 rfl (by rw [size27, frcC_size])) rfl ⟨rfl, below_setRow HK1.out.1 (by omega) _⟩
  · cases r2
    · have HV := Lib.hid (show (if (true && false) = true then CV else argV) = argV from rfl)
      clear HC
      go_wp2_with (first
        | (refine wpList_ldf rfl rfl rfl (HK.out.2 _ (.head _)) Tryz.underlying25 rfl size27 ?_)
        | (refine wpList_guard rfl ?_; refine wpList_ldf rfl rfl rfl (HK1.out.2 _ (.tail _ (.head _))) Tryz.underlying25 rfl size27 ?_)
        | (go_at_call 17; with_reducible refine (HR1.out _).mono ?_; rintro e w1 ⟨rfl, hb1⟩; have HK1 := Lib.hid (HK.out.below hb1); clear hb1)
        | (go_at_call 17; with_reducible refine (HR2.out _).mono ?_; rintro e w2 ⟨rfl, hb1⟩; have HK2 := Lib.hid (HK1.out.below hb1); clear hb1)
        | (refine wpList_stf (neg := false) (n := 0) (d := 0) (neg' := false) (n' := 0) (d' := 0) rfl rfl rfl (by rw [frc_zero]; rfl) (HK2.out.2 _ (.tail _ (.tail _ (.head _)))) size27 ?_))
      exact bodyPost_ret (res_cell_tmp rfl rfl (setRow_heap _ _ _ _ _ _ (HK2.out.2 _ (.tail _ (.tail _ (.head _))))) Tryz.underlying25 rfl (by rw [size27, frcC_size])) rfl ⟨rfl, below_setRow HK2.out.1 (by omega) _⟩
    skip
    have HC2 := HC rfl rfl
    clear HC
    go_wp2_with (first
      | (refine wpList_ldf rfl rfl rfl (HK.out.2 _ (.head _)) Tryz.underlying25 rfl size27 ?_)
      | (refine wpList_guard rfl ?_; refine wpList_ldf rfl rfl rfl (HK1.out.2 _ (.tail _ (.head _))) Tryz.underlying25 rfl size27 ?_)
      | (go_at_call 17; with_reducible refine (HR1.out _).mono ?_; rintro e w1 ⟨rfl, hb1⟩; have HK1 := Lib.hid (HK.out.below hb1); clear hb1)
      | (go_at_call 17; with_reducible refine (HR2.out _).mono ?_; rintro e w2 ⟨rfl, hb1⟩; have HK2 := Lib.hid (HK1.out.below hb1); clear hb1)
      | (refine wpList_ldf rfl rfl rfl (HK2.out.2 _ (.head _)) Tryz.underlying25 rfl size27 ?_)
      | (refine wpList_ldf rfl rfl rfl (HK2.out.2 _ (.tail _ (.head _))) Tryz.underlying25 rfl size27 ?_)
      | (go_at_call 42; refine (HC2.out _).mono ?_; rintro e w3 ⟨rfl, hb1⟩; have HK3 := Lib.hid (HK2.out.below hb1); clear hb1; rw [HP.out])
      | (refine wpList_stf (neg := s') (n := n') (d := d') (neg' := false) (n' := 0) (d' := 0) rfl rfl rfl rfl (HK3.out.2 _ (.tail _ (.tail _ (.head _)))) size27 ?_))
    exact bodyPost_ret (res_cell_tmp rfl rfl (setRow_heap _ _ _ _ _ _ (HK3.out.2 _ (.tail _ (.tail _ (.head _))))) Tryz.underlying25 rfl (by rw [size27, frcC_size])) rfl ⟨by show _ = Ending.returned CV; rw [HP.out]; rfl, below_setRow HK3.out.1 (by omega) _⟩

def mulV (s1 : Bool) (n1 d1 : Nat) (s2 : Bool) (n2 d2 : Nat) : Value := packV (s1 != s2) (n1 / Nat.gcd n1 d2 * (n2 / Nat.gcd n2 d1)) (d1 / Nat.gcd n2 d1 * (d2 / Nat.gcd n1 d2))

set_option maxRecDepth 100000 in
set_option maxHeartbeats 2000000 in
theorem Mul_any (s1 s2 : Bool) (n1 d1 n2 d2 : Nat) (hn1 : n1 < R 8) (hd1 : d1 < R 8) (hn2 : n2 < R 8) (hd2 : d2 < R 8) (w : World) :
    Calls Tryz.prog 22 #[frc s1 n1 d1, frc s2 n2 d2] w fun e w' => e = .returned (if (rightB s1 n1 d1 && rightB s2 n2 d2) = true then mulV s1 n1 d1 s2 n2 d2 else argV) ∧ Below w.heap.size w w' := by
  have HR1 := Lib.hid (fun W => right_any s1 n1 d1 hn1 hd1 W)
  have HR2 := Lib.hid (fun W => right_any s2 n2 d2 hn2 hd2 W)
  unfold Hid frc at HR1 HR2
  have HC : rightB s1 n1 d1 = true → rightB s2 n2 d2 = true → Hid (∀ W, Calls Tryz.prog 53 #[.agg (frcC s1 n1 d1), .agg (frcC s2 n2 d2)] W fun e w' => e = .returned (mulV s1 n1 d1 s2 n2 d2) ∧ Below W.heap.size W w') := fun h1 h2 W =>
    mul_any s1 s2 n1 d1 n2 d2 hn1 hd1 hn2 hd2 (right_den h1) (right_den h2) W
  obtain ⟨s', n', d', ee, hp⟩ : ∃ s' n' d' e, mulV s1 n1 d1 s2 n2 d2 = .tuple #[.agg (frcC s' n' d'), .int .i64 e] := packV_shape _ _ _
  have HP := Lib.hid hp
  clear hp hn1 hd1 hn2 hd2
  unfold frc
  generalize mulV s1 n1 d1 s2 n2 d2 = CV at *
  generalize rightB s1 n1 d1 = r1 at *
  generalize rightB s2 n2 d2 = r2 at *
  have HR1 := Lib.hid HR1
  have HR2 := Lib.hid HR2
  go_enter Tryz.func22, Tryz.ntmps22
  go_upto_region 1 with (fail)
  have hK := KS.three w (.cells (frcC s1 n1 d1) 25) (.cells (frcC s2 n2 d2) 25) (.cells (frcC false 0 0) 25)
  obtain ⟨W, hW⟩ : ∃ W, W = ((w.alloc (.cells (frcC s1 n1 d1) 25)).alloc (.cells (frcC s2 n2 d2) 25)).alloc (.cells (frcC false 0 0) 25) := ⟨_, rfl⟩
  rw [← hW] at hK
  rw [frc_zero] at hW
  rw [← hW]
  clear hW
  have HK := Lib.hid hK
  clear hK
  cases r1
  · have HV := Lib.hid (show (if (false && r2) = true then CV else argV) = argV from rfl)
    clear HC
    go_wp2_with (first
      | (refine wpList_ldf rfl rfl rfl (HK.out.2 _ (.head _)) Tryz.underlying25 rfl size27 ?_)
      | (refine wpList_guard rfl ?_; refine wpList_ldf rfl rfl rfl (HK1.out.2 _ (.tail _ (.head _))) Tryz.underlying25 rfl size27 ?_)
      | (go_at_call 17; with_reducible refine (HR1.out _).mono ?_; rintro e w1 ⟨rfl, hb1⟩; have HK1 := Lib.hid (HK.out.below hb1); clear hb1)
      | (go_at_call 17; with_reducible refine (HR2.out _).mono ?_; rintro e w2 ⟨rfl, hb1⟩; have HK2 := Lib.hid (HK1.out.below hb1); clear hb1)
      | (refine wpList_stf (neg := false) (n := 0) (d := 0) (neg' := false) (n' := 0) (d' := 0) rfl rfl rfl (by rw [frc_zero]; rfl) (HK1.out.2 _ (.tail _ (.tail _ (.head _)))) size27 ?_))
    exact bodyPost_ret (res_cell_tmp rfl rfl (setRow_heap _ _ _ _ _ _ (HK1.out.2 _ (.tail _ (.tail _ (.head _))))) Tryz.underlying25 rfl (by rw [size27, frcC_size])) rfl ⟨rfl, below_setRow HK1.out.1 (by omega) _⟩
  · cases r2
    · have HV := Lib.hid (show (if (true && false) = true then CV else argV) = argV from rfl)
      clear HC
      go_wp2_with (first
        | (refine wpList_ldf rfl rfl rfl (HK.out.2 _ (.head _)) Tryz.underlying25 rfl size27 ?_)
        | (refine wpList_guard rfl ?_; refine wpList_ldf rfl rfl rfl (HK1.out.2 _ (.tail _ (.head _))) Tryz.underlying25 rfl size27 ?_)
        | (go_at_call 17; with_reducible refine (HR1.out _).mono ?_; rintro e w1 ⟨rfl, hb1⟩; have HK1 := Lib.hid (HK.out.below hb1); clear hb1)
        | (go_at_call 17; with_reducible refine (HR2.out _).mono ?_; rintro e w2 ⟨rfl, hb1⟩; have HK2 := Lib.hid (HK1.out.below hb1); clear hb1)
        | (refine wpList_stf (neg := false) (n := 0) (d := 0) (neg' := false) (n' := 0) (d' := 0) rfl rfl rfl (by rw [frc_zero]; rfl) (HK2.out.2 _ (.tail _ (.tail _ (.head _)))) size27 ?_))
      exact bodyPost_ret (res_cell_tmp rfl rfl (setRow_heap _ _ _ _ _ _ (HK2.out.2 _ (.tail _ (.tail _ (.head _))))) Tryz.underlying25 rfl (by rw [size27, frcC_size])) rfl ⟨rfl, below_setRow HK2.out.1 (by omega) _⟩
    skip
    have HC2 := HC rfl rfl
    clear HC
    go_wp2_with (first
      | (refine wpList_ldf rfl rfl rfl (HK.out.2 _ (.head _)) Tryz.underlying25 rfl size27 ?_)
      | (refine wpList_guard rfl ?_; refine wpList_ldf rfl rfl rfl (HK1.out.2 _ (.tail _ (.head _))) Tryz.underlying25 rfl size27 ?_)
      | (go_at_call 17; with_reducible refine (HR1.out _).mono ?_; rintro e w1 ⟨rfl, hb1⟩; have HK1 := Lib.hid (HK.out.below hb1); clear hb1)
      | (go_at_call 17; with_reducible refine (HR2.out _).mono ?_; rintro e w2 ⟨rfl, hb1⟩; have HK2 := Lib.hid (HK1.out.below hb1); clear hb1)
      | (refine wpList_ldf rfl rfl rfl (HK2.out.2 _ (.head _)) Tryz.underlying25 rfl size27 ?_)
      | (refine wpList_ldf rfl rfl rfl (HK2.out.2 _ (.tail _ (.head _))) Tryz.underlying25 rfl size27 ?_)
      | (go_at_call 53; refine (HC2.out _).mono ?_; rintro e w3 ⟨rfl, hb1⟩; have HK3 := Lib.hid (HK2.out.below hb1); clear hb1; rw [HP.out])
      | (refine wpList_stf (neg := s') (n := n') (d := d') (neg' := false) (n' := 0) (d' := 0) rfl rfl rfl rfl (HK3.out.2 _ (.tail _ (.tail _ (.head _)))) size27 ?_))
    exact bodyPost_ret (res_cell_tmp rfl rfl (setRow_heap _ _ _ _ _ _ (HK3.out.2 _ (.tail _ (.tail _ (.head _))))) Tryz.underlying25 rfl (by rw [size27, frcC_size])) rfl ⟨by show _ = Ending.returned CV; rw [HP.out]; rfl, below_setRow HK3.out.1 (by omega) _⟩
end Go.Proofs.YtalmflgkbmnghaaGreatDoor
namespace Go.Proofs.YtalmflgkbmnghaaGreatDoor
open Go.RowKit Tf
variable [ShLZ]
theorem size4 : (Tryz.prog.info? 4).map (·.size) = some 1 := by kernel_rfl
theorem frc_bit (b s : Bool) (n d : Nat) : frcC b n d = ((frcC s n d).toList.take 0 ++ (Value.bool b).cells.toList ++ (frcC s n d).toList.drop (0 + (Value.bool b).cells.toList.length)).toArray := by
  simp [Value.cells, frcC]
theorem wpList_stb {ops : Array Oper} {rest : List Oper} {o : Oper} {a : Act} {w : World} {Q : Exit → Act → World → Prop} (hgd : o.guard = none) {t : TypeId} {x y : Operand} {g : Nat} {b s : Bool} {n d : Nat} (ho : o.op = .store 4 x y)
    (hx : a.eval x = .pointer (some ⟨g, 0, none⟩)) (hv : a.eval y = .bool b) (hg : w.heap[g]? = some (.cells (frcC s n d) t (0, 0)))
    (h : wpList Tryz.prog ops Q rest (a.put o.dst undef) (w.setRow g (frcC b n d))) : wpList Tryz.prog ops Q (o :: rest) a w :=
  wpList_stm hgd ho hx hv hg (by rw [size4]; rfl) (by simp [Value.cells]) (by intro v hv; simp [Value.cells] at hv; subst hv; rfl) (frc_bit b s n d) h

set_option maxRecDepth 100000 in
set_option maxHeartbeats 2000000 in
theorem Sub_any (s1 s2 : Bool) (n1 d1 n2 d2 : Nat) (hn1 : n1 < R 8) (hd1 : d1 < R 8) (hn2 : n2 < R 8) (hd2 : d2 < R 8) (w : World) :
    Calls Tryz.prog 20 #[frc s1 n1 d1, frc s2 n2 d2] w fun e w' => e = .returned (if (rightB s1 n1 d1 && rightB s2 n2 d2) = true then addV s1 n1 d1 (!s2) n2 d2 else argV) ∧ Below w.heap.size w w' := by
  have HR1 := Lib.hid (fun W => right_any s1 n1 d1 hn1 hd1 W)
  have HR2 := Lib.hid (fun W => right_any s2 n2 d2 hn2 hd2 W)
  unfold Hid frc at HR1 HR2
  have HC : rightB s1 n1 d1 = true → rightB s2 n2 d2 = true → Hid (∀ W, Calls Tryz.prog 42 #[.agg (frcC s1 n1 d1), .agg (frcC (!s2) n2 d2)] W fun e w' => e = .returned (addV s1 n1 d1 (!s2) n2 d2) ∧ Below W.heap.size W w') := fun h1 h2 W =>
    add_any s1 (!s2) n1 d1 n2 d2 hn1 hd1 hn2 hd2 (right_den h1) (right_den h2) W
  obtain ⟨s', n', d', ee, hp⟩ : ∃ s' n' d' e, addV s1 n1 d1 (!s2) n2 d2 = .tuple #[.agg (frcC s' n' d'), .int .i64 e] := packV_shape _ _ _
  have HP := Lib.hid hp
  clear hp hn1 hd1 hn2 hd2
  unfold frc
  generalize addV s1 n1 d1 (!s2) n2 d2 = CV at *
  generalize rightB s1 n1 d1 = r1 at *
  generalize rightB s2 n2 d2 = r2 at *
  have HR1 := Lib.hid HR1
  have HR2 := Lib.hid HR2
  go_enter Tryz.func20, Tryz.ntmps20
  go_upto_region 1 with (fail)
  have hK := KS.three w (.cells (frcC s1 n1 d1) 25) (.cells (frcC s2 n2 d2) 25) (.cells (frcC false 0 0) 25)
  obtain ⟨W, hW⟩ : ∃ W, W = ((w.alloc (.cells (frcC s1 n1 d1) 25)).alloc (.cells (frcC s2 n2 d2) 25)).alloc (.cells (frcC false 0 0) 25) := ⟨_, rfl⟩
  rw [← hW] at hK
  rw [frc_zero] at hW
  rw [← hW]
  clear hW
  have HK := Lib.hid hK
  clear hK
  cases r1
  · have HV := Lib.hid (show (if (false && r2) = true then CV else argV) = argV from rfl)
    clear HC
    go_wp2_with (first
      | (refine wpList_ldf rfl rfl rfl (HK.out.2 _ (.head _)) Tryz.underlying25 rfl size27 ?_)
      | (refine wpList_guard rfl ?_; refine wpList_ldf rfl rfl rfl (HK1.out.2 _ (.tail _ (.head _))) Tryz.underlying25 rfl size27 ?_)
      | (go_at_call 17; (with_reducible refine (HR1.out _).mono ?_); rintro e w1 ⟨rfl, hb1⟩; have HK1 := Lib.hid (HK.out.below hb1); clear hb1)
      | (go_at_call 17; (with_reducible refine (HR2.out _).mono ?_); rintro e w2 ⟨rfl, hb1⟩; have HK2 := Lib.hid (HK1.out.below hb1); clear hb1)
      | (refine wpList_stf (neg := false) (n := 0) (d := 0) (neg' := false) (n' := 0) (d' := 0) rfl rfl rfl (by rw [frc_zero]; rfl) (HK1.out.2 _ (.tail _ (.tail _ (.head _)))) size27 ?_))
    exact bodyPost_ret (res_cell_tmp rfl rfl (setRow_heap _ _ _ _ _ _ (HK1.out.2 _ (.tail _ (.tail _ (.head _))))) Tryz.underlying25 rfl (by rw [size27, frcC_size])) rfl ⟨rfl, below_setRow HK1.out.1 (by omega) _⟩
  · cases r2
    · have HV := Lib.hid (show (if (true && false) = true then CV else argV) = argV from rfl)
      clear HC
      go_wp2_with (first
        | (refine wpList_ldf rfl rfl rfl (HK.out.2 _ (.head _)) Tryz.underlying25 rfl size27 ?_)
        | (refine wpList_guard rfl ?_; refine wpList_ldf rfl rfl rfl (HK1.out.2 _ (.tail _ (.head _))) Tryz.underlying25 rfl size27 ?_)
        | (go_at_call 17; (with_reducible refine (HR1.out _).mono ?_); rintro e w1 ⟨rfl, hb1⟩; have HK1 := Lib.hid (HK.out.below hb1); clear hb1)
        | (go_at_call 17; (with_reducible refine (HR2.out _).mono ?_); rintro e w2 ⟨rfl, hb1⟩; have HK2 := Lib.hid (HK1.out.below hb1); clear hb1)
        | (refine wpList_stf (neg := false) (n := 0) (d := 0) (neg' := false) (n' := 0) (d' := 0) rfl rfl rfl (by rw [frc_zero]; rfl) (HK2.out.2 _ (.tail _ (.tail _ (.head _)))) size27 ?_))
      exact bodyPost_ret (res_cell_tmp rfl rfl (setRow_heap _ _ _ _ _ _ (HK2.out.2 _ (.tail _ (.tail _ (.head _))))) Tryz.underlying25 rfl (by rw [size27, frcC_size])) rfl ⟨rfl, below_setRow HK2.out.1 (by omega) _⟩
    skip
    have HC2 := HC rfl rfl
    clear HC
    go_upto_region 4 with (first
      | (refine wpList_ldf rfl rfl rfl (HK.out.2 _ (.head _)) Tryz.underlying25 rfl size27 ?_)
      | (refine wpList_guard rfl ?_; refine wpList_ldf rfl rfl rfl (HK1.out.2 _ (.tail _ (.head _))) Tryz.underlying25 rfl size27 ?_)
      | (go_at_call 17; (with_reducible refine (HR1.out _).mono ?_); rintro e w1 ⟨rfl, hb1⟩; have HK1 := Lib.hid (HK.out.below hb1); clear hb1)
      | (go_at_call 17; (with_reducible refine (HR2.out _).mono ?_); rintro e w2 ⟨rfl, hb1⟩; have HK2 := Lib.hid (HK1.out.below hb1); clear hb1; have c2 := frc_cell (HK2.out.2 _ (.tail _ (.head _))))
      | (refine wpList_stb (b := !s2) (s := s2) (n := n2) (d := d2) rfl rfl rfl rfl (HK2.out.2 _ (.tail _ (.head _))) ?_))
    have HK3 : Hid (KS w [(w.heap.size, .cells (frcC s1 n1 d1) 25 (0, 0)), (w.heap.size + 1, .cells (frcC (!s2) n2 d2) 25 (0, 0)), (w.heap.size + 1 + 1, .cells (frcC false 0 0) 25 (0, 0))] (w2.setRow (w.heap.size + 1) (frcC (!s2) n2 d2))) :=
      HK2.out.put (by omega) (.tail _ (.head _)) (by intro p hp; simp only [List.mem_cons, List.not_mem_nil, or_false] at hp; rcases hp with rfl | rfl | rfl; exact .inr ⟨by simp, by simp only; omega⟩; exact .inl rfl; exact .inr ⟨by simp, by simp only; omega⟩)
    generalize w2.setRow (w.heap.size + 1) (frcC (!s2) n2 d2) = W3 at *
    clear c2 HK2 HK1
    go_wp2_with (first
      | (refine wpList_ldf rfl rfl rfl (HK3.out.2 _ (.head _)) Tryz.underlying25 rfl size27 ?_)
      | (refine wpList_ldf rfl rfl rfl (HK3.out.2 _ (.tail _ (.head _))) Tryz.underlying25 rfl size27 ?_)
      | (go_at_call 42; refine (HC2.out _).mono ?_; rintro e w3 ⟨rfl, hb1⟩; have HK4 := Lib.hid (HK3.out.below hb1); clear hb1; rw [HP.out])
      | (refine wpList_stf (neg := s') (n := n') (d := d') (neg' := false) (n' := 0) (d' := 0) rfl rfl rfl rfl (HK4.out.2 _ (.tail _ (.tail _ (.head _)))) size27 ?_))
    exact bodyPost_ret (res_cell_tmp rfl rfl (setRow_heap _ _ _ _ _ _ (HK4.out.2 _ (.tail _ (.tail _ (.head _))))) Tryz.underlying25 rfl (by rw [size27, frcC_size])) rfl ⟨by show _ = Ending.returned CV; rw [HP.out]; rfl, below_setRow HK4.out.1 (by omega) _⟩
end Go.Proofs.YtalmflgkbmnghaaGreatDoor
namespace Go.Proofs.YtalmflgkbmnghaaGreatDoor
open Go.RowKit Tf
variable [ShLZ]
theorem frc_putn (s : Bool) (n d m : Nat) : frcC s m d = ((frcC s n d).toList.take 1 ++ (Value.agg (fa 8 (dg m))).cells.toList ++ (frcC s n d).toList.drop (1 + (Value.agg (fa 8 (dg m))).cells.toList.length)).toArray := by
  have h1 : (frcC s n d).toList = Value.bool s :: ((fa 8 (dg n)).toList ++ (fa 8 (dg d)).toList) := by simp [frcC]
  rw [h1]
  simp [Value.cells, frcC]
theorem frc_putd (s : Bool) (n d m : Nat) : frcC s n m = ((frcC s n d).toList.take 9 ++ (Value.agg (fa 8 (dg m))).cells.toList ++ (frcC s n d).toList.drop (9 + (Value.agg (fa 8 (dg m))).cells.toList.length)).toArray := by
  have h1 : (frcC s n d).toList = (Value.bool s :: (fa 8 (dg n)).toList) ++ (fa 8 (dg d)).toList := by simp [frcC]
  have h2 : (frcC s n d).toList.drop (9 + (Value.agg (fa 8 (dg m))).cells.toList.length) = [] := List.drop_eq_nil_of_le (by simp [Value.cells])
  rw [h2, h1, List.take_append]
  simp [Value.cells, frcC]
  rw [List.take_of_length_le (by simp)]
theorem wpList_stn {P : Program} {ops : Array Oper} {rest : List Oper} {o : Oper} {a : Act} {w : World} {Q : Exit → Act → World → Prop} (hgd : o.guard = none) {ty t : TypeId} {x y : Operand} {g : Nat} {s : Bool} {n d m : Nat} (ho : o.op = .store ty x y)
    (hx : a.eval x = .pointer (some ⟨g, 1, none⟩)) (hv : a.eval y = .agg (fa 8 (dg m))) (hg : w.heap[g]? = some (.cells (frcC s n d) t (0, 0))) (hi : (P.info? ty).map (·.size) = some 8)
    (h : wpList P ops Q rest (a.put o.dst undef) (w.setRow g (frcC s m d))) : wpList P ops Q (o :: rest) a w :=
  wpList_stm hgd ho hx hv hg (by rw [hi]; simp [Value.cells]) (by simp [Value.cells]) fa_one (frc_putn s n d m) h
theorem wpList_std {P : Program} {ops : Array Oper} {rest : List Oper} {o : Oper} {a : Act} {w : World} {Q : Exit → Act → World → Prop} (hgd : o.guard = none) {ty t : TypeId} {x y : Operand} {g : Nat} {s : Bool} {n d m : Nat} (ho : o.op = .store ty x y)
    (hx : a.eval x = .pointer (some ⟨g, 9, none⟩)) (hv : a.eval y = .agg (fa 8 (dg m))) (hg : w.heap[g]? = some (.cells (frcC s n d) t (0, 0))) (hi : (P.info? ty).map (·.size) = some 8)
    (h : wpList P ops Q rest (a.put o.dst undef) (w.setRow g (frcC s n m))) : wpList P ops Q (o :: rest) a w :=
  wpList_stm hgd ho hx hv hg (by rw [hi]; simp [Value.cells]) (by simp [Value.cells]) fa_one (frc_putd s n d m) h

set_option maxRecDepth 100000 in
set_option maxHeartbeats 2000000 in
theorem Div_walk (s1 s2 : Bool) (n1 d1 n2 d2 : Nat) (hn2 : n2 < R 8) (r1 r2 : Bool) (RV CV : Value) (s' : Bool) (n' d' : Nat) (ee : Int)
    (HR1 : Hid (∀ W, Calls Tryz.prog 17 #[.agg (frcC s1 n1 d1)] W fun e w' => e = .returned (.bool r1) ∧ Below W.heap.size W w'))
    (HR2 : Hid (∀ W, Calls Tryz.prog 17 #[.agg (frcC s2 n2 d2)] W fun e w' => e = .returned (.bool r2) ∧ Below W.heap.size W w'))
    (HC2 : Hid (r1 = true ∧ r2 = true ∧ n2 ≠ 0 → ∀ W, Calls Tryz.prog 53 #[.agg (frcC s1 n1 d1), .agg (frcC s2 d2 n2)] W fun e w' => e = .returned CV ∧ Below W.heap.size W w'))
    (HP : Hid (CV = .tuple #[.agg (frcC s' n' d'), .int .i64 ee])) (HV1 : Hid (¬ (r1 = true ∧ r2 = true ∧ n2 ≠ 0) → RV = argV)) (HV2 : Hid (r1 = true ∧ r2 = true ∧ n2 ≠ 0 → RV = CV)) (w : World) :
    Calls Tryz.prog 24 #[frc s1 n1 d1, frc s2 n2 d2] w fun e w' => e = .returned RV ∧ Below w.heap.size w w' := by
  unfold frc
  go_enter Tryz.func24, Tryz.ntmps24
  go_upto_region 1 with (fail)
  have hK := KS.three w (.cells (frcC s1 n1 d1) 25) (.cells (frcC s2 n2 d2) 25) (.cells (frcC false 0 0) 25)
  obtain ⟨W, hW⟩ : ∃ W, W = ((w.alloc (.cells (frcC s1 n1 d1) 25)).alloc (.cells (frcC s2 n2 d2) 25)).alloc (.cells (frcC false 0 0) 25) := ⟨_, rfl⟩
  rw [← hW] at hK
  rw [frc_zero] at hW
  rw [← hW]
  clear hW
  have HK := Lib.hid hK
  clear hK
  by_cases hr1 : r1 = false
  · subst hr1
    have HV := Lib.hid (HV1.out (by simp))
    clear HV1 HV2 HC2
    go_wp2_with (first
      | (refine wpList_ldf rfl rfl rfl (HK.out.2 _ (.head _)) Tryz.underlying25 rfl size27 ?_)
      | (refine wpList_guard rfl ?_; refine wpList_ldf rfl rfl rfl (HK1.out.2 _ (.tail _ (.head _))) Tryz.underlying25 rfl size27 ?_)
      | ((go_at_call 17); (with_reducible refine (HR1.out _).mono ?_); rintro e w1 ⟨rfl, hb1⟩; have HK1 := Lib.hid (HK.out.below hb1); clear hb1)
      | ((go_at_call 17); (with_reducible refine (HR2.out _).mono ?_); rintro e w2 ⟨rfl, hb1⟩; have HK2 := Lib.hid (HK1.out.below hb1); clear hb1)
      | (refine wpList_guard rfl ?_; refine wpList_ldn rfl rfl rfl (HK2.out.2 _ (.tail _ (.head _))) Tryz.underlying23 rfl size25 ?_)
      | (refine wpList_stf (neg := false) (n := 0) (d := 0) (neg' := false) (n' := 0) (d' := 0) rfl rfl rfl (by rw [frc_zero]; rfl) (HK1.out.2 _ (.tail _ (.tail _ (.head _)))) size27 ?_))
    exact bodyPost_ret (res_cell_tmp rfl rfl (setRow_heap _ _ _ _ _ _ (HK1.out.2 _ (.tail _ (.tail _ (.head _))))) Tryz.underlying25 rfl (by rw [size27, frcC_size])) rfl ⟨by rw [HV.out]; rfl, below_setRow HK1.out.1 (by omega) _⟩
  by_cases hr2 : r2 = false
  · have hr1' : r1 = true := by simpa using hr1
    subst hr1' hr2
    have HV := Lib.hid (HV1.out (by simp))
    clear HV1 HV2 HC2 hr1
    go_wp2_with (first
      | (refine wpList_ldf rfl rfl rfl (HK.out.2 _ (.head _)) Tryz.underlying25 rfl size27 ?_)
      | (refine wpList_guard rfl ?_; refine wpList_ldf rfl rfl rfl (HK1.out.2 _ (.tail _ (.head _))) Tryz.underlying25 rfl size27 ?_)
      | ((go_at_call 17); (with_reducible refine (HR1.out _).mono ?_); rintro e w1 ⟨rfl, hb1⟩; have HK1 := Lib.hid (HK.out.below hb1); clear hb1)
      | ((go_at_call 17); (with_reducible refine (HR2.out _).mono ?_); rintro e w2 ⟨rfl, hb1⟩; have HK2 := Lib.hid (HK1.out.below hb1); clear hb1)
      | (refine wpList_guard rfl ?_; refine wpList_ldn rfl rfl rfl (HK2.out.2 _ (.tail _ (.head _))) Tryz.underlying23 rfl size25 ?_)
      | (refine wpList_stf (neg := false) (n := 0) (d := 0) (neg' := false) (n' := 0) (d' := 0) rfl rfl rfl (by rw [frc_zero]; rfl) (HK2.out.2 _ (.tail _ (.tail _ (.head _)))) size27 ?_))
    exact bodyPost_ret (res_cell_tmp rfl rfl (setRow_heap _ _ _ _ _ _ (HK2.out.2 _ (.tail _ (.tail _ (.head _))))) Tryz.underlying25 rfl (by rw [size27, frcC_size])) rfl ⟨by rw [HV.out]; rfl, below_setRow HK2.out.1 (by omega) _⟩
  have hr1' : r1 = true := by simpa using hr1
  have hr2' : r2 = true := by simpa using hr2
  subst hr1' hr2'
  clear hr1 hr2
  by_cases hz : n2 = 0
  · have HV := Lib.hid (HV1.out (by simp [hz]))
    clear HV1 HV2 HC2
    subst hz
    go_wp2_with (first
      | (refine wpList_ldf rfl rfl rfl (HK.out.2 _ (.head _)) Tryz.underlying25 rfl size27 ?_)
      | (refine wpList_guard rfl ?_; refine wpList_ldf rfl rfl rfl (HK1.out.2 _ (.tail _ (.head _))) Tryz.underlying25 rfl size27 ?_)
      | ((go_at_call 17); (with_reducible refine (HR1.out _).mono ?_); rintro e w1 ⟨rfl, hb1⟩; have HK1 := Lib.hid (HK.out.below hb1); clear hb1)
      | ((go_at_call 17); (with_reducible refine (HR2.out _).mono ?_); rintro e w2 ⟨rfl, hb1⟩; have HK2 := Lib.hid (HK1.out.below hb1); clear hb1)
      | (refine wpList_guard rfl ?_; refine wpList_ldn rfl rfl rfl (HK2.out.2 _ (.tail _ (.head _))) Tryz.underlying23 rfl size25 ?_)
      | (refine wpList_stf (neg := false) (n := 0) (d := 0) (neg' := false) (n' := 0) (d' := 0) rfl rfl rfl (by rw [frc_zero]; rfl) (HK2.out.2 _ (.tail _ (.tail _ (.head _)))) size27 ?_))
    exact bodyPost_ret (res_cell_tmp rfl rfl (setRow_heap _ _ _ _ _ _ (HK2.out.2 _ (.tail _ (.tail _ (.head _))))) Tryz.underlying25 rfl (by rw [size27, frcC_size])) rfl ⟨by rw [HV.out]; rfl, below_setRow HK2.out.1 (by omega) _⟩
  have HV := Lib.hid (HV2.out ⟨rfl, rfl, hz⟩)
  have HC := Lib.hid (HC2.out ⟨rfl, rfl, hz⟩)
  clear HV1 HV2 HC2
  go_upto_region 4 with (first
      | (refine wpList_ldf rfl rfl rfl (HK.out.2 _ (.head _)) Tryz.underlying25 rfl size27 ?_)
      | (refine wpList_guard rfl ?_; refine wpList_ldf rfl rfl rfl (HK1.out.2 _ (.tail _ (.head _))) Tryz.underlying25 rfl size27 ?_)
      | ((go_at_call 17); (with_reducible refine (HR1.out _).mono ?_); rintro e w1 ⟨rfl, hb1⟩; have HK1 := Lib.hid (HK.out.below hb1); clear hb1)
      | ((go_at_call 17); (with_reducible refine (HR2.out _).mono ?_); rintro e w2 ⟨rfl, hb1⟩; have HK2 := Lib.hid (HK1.out.below hb1); clear hb1)
      | (refine wpList_guard rfl ?_; refine wpList_ldn rfl rfl rfl (HK2.out.2 _ (.tail _ (.head _))) Tryz.underlying23 rfl size25 ?_)
      | (refine wpList_ldd rfl rfl rfl (HK2.out.2 _ (.tail _ (.head _))) Tryz.underlying23 rfl size25 ?_)
      | (refine wpList_ldn rfl rfl rfl (HK2.out.2 _ (.tail _ (.head _))) Tryz.underlying23 rfl size25 ?_)
      | (refine wpList_stn (s := s2) (n := n2) (d := d2) (m := d2) rfl rfl rfl rfl (HK2.out.2 _ (.tail _ (.head _))) size25 ?_)
      | (refine wpList_std (s := s2) (n := d2) (d := d2) (m := n2) rfl rfl rfl rfl (setRow_heap _ _ _ _ _ _ (HK2.out.2 _ (.tail _ (.head _)))) size25 ?_))
  have HK3 : Hid (KS w [(w.heap.size, .cells (frcC s1 n1 d1) 25 (0, 0)), (w.heap.size + 1, .cells (frcC s2 (d2) (d2)) 25 (0, 0)), (w.heap.size + 1 + 1, .cells (frcC false 0 0) 25 (0, 0))] (w2.setRow (w.heap.size + 1) (frcC s2 d2 d2))) := HK2.out.put (by omega) (.tail _ (.head _)) (by intro p hp; simp only [List.mem_cons, List.not_mem_nil, or_false] at hp; rcases hp with rfl | rfl | rfl; exact .inr ⟨by simp, by simp only; omega⟩; exact .inl rfl; exact .inr ⟨by simp, by simp only; omega⟩)
  generalize w2.setRow (w.heap.size + 1) (frcC s2 d2 d2) = W3 at *
  have HK4 : Hid (KS w [(w.heap.size, .cells (frcC s1 n1 d1) 25 (0, 0)), (w.heap.size + 1, .cells (frcC s2 (d2) (n2)) 25 (0, 0)), (w.heap.size + 1 + 1, .cells (frcC false 0 0) 25 (0, 0))] (W3.setRow (w.heap.size + 1) (frcC s2 d2 n2))) := HK3.out.put (by omega) (.tail _ (.head _)) (by intro p hp; simp only [List.mem_cons, List.not_mem_nil, or_false] at hp; rcases hp with rfl | rfl | rfl; exact .inr ⟨by simp, by simp only; omega⟩; exact .inl rfl; exact .inr ⟨by simp, by simp only; omega⟩)
  generalize W3.setRow (w.heap.size + 1) (frcC s2 d2 n2) = W4 at *
  clear HK3 HK2 HK1
  go_wp2_with (first
    | (refine wpList_ldf rfl rfl rfl (HK4.out.2 _ (.head _)) Tryz.underlying25 rfl size27 ?_)
    | (refine wpList_ldf rfl rfl rfl (HK4.out.2 _ (.tail _ (.head _))) Tryz.underlying25 rfl size27 ?_)
    | ((go_at_call 53); refine (HC.out _).mono ?_; rintro e w3 ⟨rfl, hb1⟩; have HK5 := Lib.hid (HK4.out.below hb1); clear hb1; rw [HP.out])
    | (refine wpList_stf (neg := s') (n := n') (d := d') (neg' := false) (n' := 0) (d' := 0) rfl rfl rfl rfl (HK5.out.2 _ (.tail _ (.tail _ (.head _)))) size27 ?_))
  exact bodyPost_ret (res_cell_tmp rfl rfl (setRow_heap _ _ _ _ _ _ (HK5.out.2 _ (.tail _ (.tail _ (.head _))))) Tryz.underlying25 rfl (by rw [size27, frcC_size])) rfl ⟨by rw [HV.out, HP.out]; rfl, below_setRow HK5.out.1 (by omega) _⟩
theorem Div_any (s1 s2 : Bool) (n1 d1 n2 d2 : Nat) (hn1 : n1 < R 8) (hd1 : d1 < R 8) (hn2 : n2 < R 8) (hd2 : d2 < R 8) (w : World) :
    Calls Tryz.prog 24 #[frc s1 n1 d1, frc s2 n2 d2] w fun e w' => e = .returned (if rightB s1 n1 d1 = true ∧ rightB s2 n2 d2 = true ∧ n2 ≠ 0 then mulV s1 n1 d1 s2 d2 n2 else argV) ∧ Below w.heap.size w w' := by
  obtain ⟨s', n', d', ee, hp⟩ : ∃ s' n' d' e, mulV s1 n1 d1 s2 d2 n2 = .tuple #[.agg (frcC s' n' d'), .int .i64 e] := packV_shape _ _ _
  exact Div_walk s1 s2 n1 d1 n2 d2 hn2 _ _ _ _ s' n' d' ee (fun W => right_any s1 n1 d1 hn1 hd1 W) (fun W => right_any s2 n2 d2 hn2 hd2 W)
    (fun h W => mul_any s1 s2 n1 d1 d2 n2 hn1 hd1 hd2 hn2 (right_den h.1) (by omega) W) hp (fun h => if_neg h) (fun h => if_pos h) w
end Go.Proofs.YtalmflgkbmnghaaGreatDoor
namespace Go.Proofs.YtalmflgkbmnghaaGreatDoor
open Go.RowKit Tf
variable [ShLZ]
theorem res_tmp_tmp {P : Program} {fn : Func} {p q : Tmp} (h : fn.results = #[.tmp p, .tmp q]) {tmps : Array Value} {w : World} :
    (results fn tmps).run P w = .ok (.tuple #[tmps.getD p undef, tmps.getD q undef]) w := by
  simp [results, h]
end Go.Proofs.YtalmflgkbmnghaaGreatDoor
namespace Go.Proofs.YtalmflgkbmnghaaGreatDoor
open Go.RowKit Tf
variable [ShLZ]
variable [ShSt]
def textL (s : Bool) (n d : Nat) : List UInt8 := (if s = true then [45] else []) ++ Lib.decDigits n ++ (if d = 1 then [] else 47 :: Lib.decDigits d)
theorem run_neq25_one {a : Nat} {b : Bool} (ha : a < R 8) (hab : (!decide (a = 1)) = b) {x y : Operand} (w : World) : (do eqGuard .neq 23 x y (.agg (fa 8 (dg a))) (.agg #[.int .u32 1, .int .u32 0, .int .u32 0, .int .u32 0, .int .u32 0, .int .u32 0, .int .u32 0, .int .u32 0]); binOp .neq 23 (.agg (fa 8 (dg a))) (.agg #[.int .u32 1, .int .u32 0, .int .u32 0, .int .u32 0, .int .u32 0, .int .u32 0, .int .u32 0, .int .u32 0]) : Sem Value).run Tryz.prog w = .ok (.bool b) w := by
  subst hab
  go_simp
theorem dec_len78 {n : Nat} (hn : n < R 8) : (Lib.decDigits n).length ≤ 78 := dec_length 77 n (Nat.lt_of_lt_of_le hn (by unfold R; decide))
set_option maxRecDepth 100000 in
set_option maxHeartbeats 1000000 in
theorem Text_walk (s r : Bool) (n d : Nat) (HX : Hid (n < R 8 ∧ d < R 8)) (w : World) (HE : Hid (Env w)) (zn zd : List UInt8) (hzn : zn.length ≤ 78) (hzd : zd.length ≤ 78)
    (HR : Hid (∀ W, Calls Tryz.prog 17 #[.agg (frcC s n d)] W fun e w' => e = .returned (.bool r) ∧ Below W.heap.size W w'))
    (HDn : Hid (∀ W, Env W → Calls Tryz.prog 62 #[.agg (fa 8 (dg n))] W fun e w' => e = .returned (.string ⟨zn.toArray⟩) ∧ Below W.heap.size W w'))
    (HDd : Hid (∀ W, Env W → Calls Tryz.prog 62 #[.agg (fa 8 (dg d))] W fun e w' => e = .returned (.string ⟨zd.toArray⟩) ∧ Below W.heap.size W w'))
    (V : Value) (HV : Hid (V = if r = true then .tuple #[txt ((if s = true then [45] else []) ++ zn ++ (if d = 1 then [] else 47 :: zd)), .int .i64 0] else .tuple #[txt [], .int .i64 2])) :
    Calls Tryz.prog 30 #[frc s n d] w fun e w' => e = .returned V ∧ Below w.heap.size w w' := by
  unfold frc
  have l1 : ¬ 9223372036854775807 < 1 + zn.length := by omega
  have l2 : ¬ 9223372036854775807 < 1 + zd.length := by omega
  have l3 : ¬ 9223372036854775807 < zn.length + (1 + zd.length) := by omega
  have l4 : ¬ 9223372036854775807 < 1 + zn.length + (1 + zd.length) := by omega
  clear hzn hzd
  go_enter Tryz.func30, Tryz.ntmps30
  go_upto_region 1 with (fail)
  have hK := KS.one w (.cells (frcC s n d) 25)
  obtain ⟨W, hW⟩ : ∃ W, W = w.alloc (.cells (frcC s n d) 25) := ⟨_, rfl⟩
  rw [← hW] at hK
  rw [← hW]
  clear hW
  have HK := Lib.hid hK
  clear hK
  cases r
  · go_wp2_with (first
      | (refine wpList_ldf rfl rfl rfl (HK.out.2 _ (.head _)) Tryz.underlying25 rfl size27 ?_)
      | ((go_at_call 17); (with_reducible refine (HR.out _).mono ?_); rintro e w1 ⟨rfl, hb1⟩; have HK1 := Lib.hid (HK.out.below hb1); clear hb1))
    exact bodyPost_ret (res_tmp_tmp rfl) rfl ⟨by rw [HV.out]; rfl, HK1.out.1⟩
  · by_cases hd : d = 1
    · have hq : (!decide (d = 1)) = false := by simp [hd]
      have HQ := Lib.hid hq
      have HDD := Lib.hid hd
      clear hq hd
      cases s
      all_goals
        go_wp2_with (first
        | (refine wpList_ldf rfl rfl rfl (HK.out.2 _ (.head _)) Tryz.underlying25 rfl size27 ?_)
        | ((go_at_call 17); (with_reducible refine (HR.out _).mono ?_); rintro e w1 ⟨rfl, hb1⟩; have HK1 := Lib.hid (HK.out.below hb1); clear hb1; have E1 := Lib.hid (HE.out.keep HK1.out.1); have c1 := frc_cell (HK1.out.2 _ (.head _)))
        | (refine wpList_ldn rfl rfl rfl (HK1.out.2 _ (.head _)) Tryz.underlying23 rfl size25 ?_)
        | ((go_at_call 62); (with_reducible refine (HDn.out _ E1.out).mono ?_); rintro e w2 ⟨rfl, hb2⟩; clear c1; have HK2 := Lib.hid (HK1.out.below hb2); clear hb2; have E2 := Lib.hid (HE.out.keep HK2.out.1); have c2 := frc_cell (HK2.out.2 _ (.head _)))
        | (refine wpList_ldd rfl rfl rfl (HK2.out.2 _ (.head _)) Tryz.underlying23 rfl size25 ?_)
        | (refine wpList_bin (v := .bool false) (vx := .agg (fa 8 (dg d))) rfl rfl rfl rfl (fun w => run_neq25_one HX.out.2 HQ.out w) ?_)
        | ((go_at_call 62); (with_reducible refine (HDd.out _ E2.out).mono ?_); rintro e w3 ⟨rfl, hb3⟩; clear c2; have HK3 := Lib.hid (HK2.out.below hb3); clear hb3))
        refine bodyPost_ret (res_tmp_tmp rfl) rfl ⟨?_, by first | exact HK2.out.1 | exact HK3.out.1⟩
        rw [HV.out, HDD.out]
        simp [txt, ba_app]
        trace_state
    · have hq : (!decide (d = 1)) = true := by simp [hd]
      have HQ := Lib.hid hq
      have HDD := Lib.hid hd
      clear hq hd
      cases s
      all_goals
        go_wp2_with (first
        | (refine wpList_ldf rfl rfl rfl (HK.out.2 _ (.head _)) Tryz.underlying25 rfl size27 ?_)
        | ((go_at_call 17); (with_reducible refine (HR.out _).mono ?_); rintro e w1 ⟨rfl, hb1⟩; have HK1 := Lib.hid (HK.out.below hb1); clear hb1; have E1 := Lib.hid (HE.out.keep HK1.out.1); have c1 := frc_cell (HK1.out.2 _ (.head _)))
        | (refine wpList_ldn rfl rfl rfl (HK1.out.2 _ (.head _)) Tryz.underlying23 rfl size25 ?_)
        | ((go_at_call 62); (with_reducible refine (HDn.out _ E1.out).mono ?_); rintro e w2 ⟨rfl, hb2⟩; clear c1; have HK2 := Lib.hid (HK1.out.below hb2); clear hb2; have E2 := Lib.hid (HE.out.keep HK2.out.1); have c2 := frc_cell (HK2.out.2 _ (.head _)))
        | (refine wpList_ldd rfl rfl rfl (HK2.out.2 _ (.head _)) Tryz.underlying23 rfl size25 ?_)
        | (refine wpList_bin (v := .bool true) (vx := .agg (fa 8 (dg d))) rfl rfl rfl rfl (fun w => run_neq25_one HX.out.2 HQ.out w) ?_)
        | ((go_at_call 62); (with_reducible refine (HDd.out _ E2.out).mono ?_); rintro e w3 ⟨rfl, hb3⟩; clear c2; have HK3 := Lib.hid (HK2.out.below hb3); clear hb3))
        refine bodyPost_ret (res_tmp_tmp rfl) rfl ⟨?_, by first | exact HK3.out.1 | exact HK2.out.1⟩
        rw [HV.out, if_neg HDD.out]
        simp [txt, ba_app]
        trace_state
end Go.Proofs.YtalmflgkbmnghaaGreatDoor
