import Derived.Test.YtkfcikijmkgahaaDoorG05
import Derived.Test.YtkfcikijmkgahaaDoorG06
import Derived.Deep.Cut
/- Part of the proof: Pk. -/
set_option linter.unusedVariables false
set_option linter.unusedSimpArgs false
set_option linter.unusedSectionVars false
namespace Go.Proofs.YtkfcikijmkgahaaDoor
open Go.RowKit Tw
/-- what pack answers -/
def packV (neg : Bool) (n d : Nat) : Value := if n < R 8 ∧ d < R 8 then .tuple #[frc (neg && decide (n ≠ 0)) n d, .int .i64 0] else .tuple #[frc false 0 0, .int .i64 3]
theorem packV_yes {neg : Bool} {n d : Nat} (hn : n < R 8) (hd : d < R 8) : packV neg n d = .tuple #[frc (neg && decide (n ≠ 0)) n d, .int .i64 0] := if_pos ⟨hn, hd⟩
theorem packV_no {neg : Bool} {n d : Nat} (h : ¬ (n < R 8 ∧ d < R 8)) : packV neg n d = .tuple #[frc false 0 0, .int .i64 3] := if_neg h

set_option maxRecDepth 100000 in
set_option maxHeartbeats 2000000 in
theorem pack_any (neg : Bool) (n d : Nat) (hn : n < R 18) (hd : d < R 18) (w : World) :
    Calls Tryd.prog 56 #[.bool neg, wid n, wid d] w fun e w' => e = .returned (packV neg n d) ∧ Below w.heap.size w w' := by
  unfold wid
  go_enter Tryd.func56, Tryd.ntmps56
  go_upto_region 1 with (fail)
  have hK := KS.three w (.cells (fa 18 (dg n)) 59) (.cells (fa 18 (dg d)) 59) (.cells (frcC false 0 0) 26)
  obtain ⟨W, hW⟩ : ∃ W, W = ((w.alloc (.cells (fa 18 (dg n)) 59)).alloc (.cells (fa 18 (dg d)) 59)).alloc (.cells (frcC false 0 0) 26) := ⟨_, rfl⟩
  rw [← hW] at hK
  rw [frc_zero] at hW
  rw [← hW]
  clear hW
  have HK := Lib.hid hK
  clear hK
  by_cases hn8 : n < R 8
  · by_cases hd8 : d < R 8
    · cases neg
      · go_upto_region 2 with (first
          | (refine wpList_lda rfl rfl rfl (HK.out.2 _ (.head _)) Tryd.underlying59 rfl size65 ?_)
          | (go_at_call 65; refine (narrow_yes n hn8 _).mono ?_; rintro e w1 ⟨rfl, hb1⟩; have HK2 := Lib.hid (HK.out.below hb1); clear hb1; unfold num)
          | (refine wpList_sta (f := dg n) (f' := fun _ => 0) rfl rfl rfl rfl (heap1 w1 _) size25 ?_))
        obtain ⟨f1, f2⟩ := HK2.out.fresh
        have HK3 := Lib.hid (HK2.out.newvar (cs := fa 8 (fun _ => 0)) (cs' := fa 8 (dg n)) (t := 24))
        simp only [List.forall_mem_cons] at f2
        obtain ⟨q1, q2, q3, _⟩ := f2
        have f3 := f1
        rw [← fa_zero8]
        generalize (w1.alloc (.cells (fa 8 (fun _ => 0)) 24)).setRow w1.heap.size (fa 8 (dg n)) = W2 at *
        clear HK2 HK f1
        generalize w1.heap.size = w2 at *
        go_upto_region 3 with (first
          | (refine wpList_lda rfl rfl rfl (HK3.out.2 _ (.tail _ (.tail _ (.head _)))) Tryd.underlying59 rfl size65 ?_)
          | (go_at_call 65; refine (narrow_yes d hd8 _).mono ?_; rintro e w4 ⟨rfl, hb1⟩; have HK4 := Lib.hid (HK3.out.below hb1); clear hb1; unfold num)
          | (refine wpList_sta (f := dg d) (f' := fun _ => 0) rfl rfl rfl rfl (heap1 w4 _) size25 ?_))
        obtain ⟨f1, f2⟩ := HK4.out.fresh
        have HK5 := Lib.hid (HK4.out.newvar (cs := fa 8 (fun _ => 0)) (cs' := fa 8 (dg d)) (t := 24))
        simp only [List.forall_mem_cons] at f2
        obtain ⟨r0, r1, r2, r3, _⟩ := f2
        rw [← fa_zero8]
        generalize (w4.alloc (.cells (fa 8 (fun _ => 0)) 24)).setRow w4.heap.size (fa 8 (dg d)) = W3 at *
        clear HK4 HK3
        generalize w4.heap.size = w3 at *
        go_wp2_with fail
        refine wp_region_U (W0 := w) [(w3, .cells (fa 8 (dg d)) 24 (0, 0)), (w2, .cells (fa 8 (dg n)) 24 (0, 0)), (w.heap.size, .cells (fa 18 (dg n)) 59 (0, 0)), (w.heap.size + 1, .cells (fa 18 (dg d)) 59 (0, 0)), (w.heap.size + 1 + 1, .cells (frcC (false) (0) (0)) 26 (0, 0))] (by kernel_rfl) (HK5.out) ?_
        refine wpU_p (i := 0) (v := .bool false) rfl rfl (by kernel_rfl) (by kernel_rfl) rfl (fun _ => by kernel_rfl) (by simp only [List.setIfInBounds_toArray, List.set_cons_succ, List.set_cons_zero] <;> rfl) ?_
        refine wpU_p (i := 1) (v := .bool false) rfl rfl (by kernel_rfl) (by kernel_rfl) rfl (fun _ => by kernel_rfl) (by simp only [List.setIfInBounds_toArray, List.set_cons_succ, List.set_cons_zero] <;> rfl) ?_
        refine wpU_n (i := 2) rfl rfl (by kernel_rfl) (by kernel_rfl) (by simp only [List.setIfInBounds_toArray, List.set_cons_succ, List.set_cons_zero] <;> rfl) ?_
        refine wpU_n (i := 3) rfl rfl (by kernel_rfl) (by kernel_rfl) (by simp only [List.setIfInBounds_toArray, List.set_cons_succ, List.set_cons_zero] <;> rfl) ?_
        refine wpU_n (i := 4) rfl rfl (by kernel_rfl) (by kernel_rfl) (by simp only [List.setIfInBounds_toArray, List.set_cons_succ, List.set_cons_zero] <;> rfl) ?_
        refine wpU_p (i := 5) (v := .bool (false)) rfl rfl (by kernel_rfl) (by kernel_rfl) rfl (fun _ => by kernel_rfl) (by simp only [List.setIfInBounds_toArray, List.set_cons_succ, List.set_cons_zero] <;> rfl) ?_
        refine wpU_v (i := 6) (v := num n) rfl rfl (by kernel_rfl) (by kernel_rfl) rfl (yb_lda rfl (by kernel_rfl) (.tail _ (.head _)) Tryd.underlying24 rfl size25) (by simp only [List.setIfInBounds_toArray, List.set_cons_succ, List.set_cons_zero] <;> rfl) ?_
        refine wpU_v (i := 7) (v := num d) rfl rfl (by kernel_rfl) (by kernel_rfl) rfl (yb_lda rfl (by kernel_rfl) (.head _) Tryd.underlying24 rfl size25) (by simp only [List.setIfInBounds_toArray, List.set_cons_succ, List.set_cons_zero] <;> rfl) ?_
        refine wpU_p (i := 8) (v := frc (false) n d) rfl rfl (by kernel_rfl) (by kernel_rfl) rfl (fun _ => by kernel_rfl) (by simp only [List.setIfInBounds_toArray, List.set_cons_succ, List.set_cons_zero] <;> rfl) ?_
        refine wpU_s [(w3, .cells (fa 8 (dg d)) 24 (0, 0)), (w2, .cells (fa 8 (dg n)) 24 (0, 0)), (w.heap.size, .cells (fa 18 (dg n)) 59 (0, 0)), (w.heap.size + 1, .cells (fa 18 (dg d)) 59 (0, 0)), (w.heap.size + 1 + 1, .cells (frcC (false) (n) (d)) 26 (0, 0))] (i := 9) rfl (by kernel_rfl) rfl rfl rfl
          (st_f (neg := false) (n := n) (d := d) rfl (by kernel_rfl) (by kernel_rfl) (.tail _ (.tail _ (.tail _ (.tail _ (.head _))))) (by omega) size27 (by intro p hp; simp only [List.mem_cons, List.not_mem_nil, or_false] at hp; rcases hp with rfl | rfl | rfl | rfl | rfl; exact .inr ⟨by simp, by simp only; omega⟩; exact .inr ⟨by simp, by simp only; omega⟩; exact .inr ⟨by simp, by simp only; omega⟩; exact .inr ⟨by simp, by simp only; omega⟩; exact .inl rfl)) ?_
        refine wpU_p (i := 10) (v := .int .i64 0) rfl rfl (by kernel_rfl) (by kernel_rfl) rfl (fun _ => by kernel_rfl) (by simp only [List.setIfInBounds_toArray, List.set_cons_succ, List.set_cons_zero] <;> rfl) ?_
        refine wpU_done (by kernel_rfl) (fun W4 hW4 => ?_) _
        go_wp2_with fail
        refine bodyPost_ret (res_cell_tmp rfl rfl (hW4.2 _ (.tail _ (.tail _ (.tail _ (.tail _ (.head _)))))) Tryd.underlying26 rfl (by rw [size27, frcC_size])) rfl ⟨?_, hW4.1⟩
        rw [packV_yes hn8 hd8]
        simp [frc]
      · go_upto_region 2 with (first
          | (refine wpList_lda rfl rfl rfl (HK.out.2 _ (.head _)) Tryd.underlying59 rfl size65 ?_)
          | (go_at_call 65; refine (narrow_yes n hn8 _).mono ?_; rintro e w1 ⟨rfl, hb1⟩; have HK2 := Lib.hid (HK.out.below hb1); clear hb1; unfold num)
          | (refine wpList_sta (f := dg n) (f' := fun _ => 0) rfl rfl rfl rfl (heap1 w1 _) size25 ?_))
        obtain ⟨f1, f2⟩ := HK2.out.fresh
        have HK3 := Lib.hid (HK2.out.newvar (cs := fa 8 (fun _ => 0)) (cs' := fa 8 (dg n)) (t := 24))
        simp only [List.forall_mem_cons] at f2
        obtain ⟨q1, q2, q3, _⟩ := f2
        have f3 := f1
        rw [← fa_zero8]
        generalize (w1.alloc (.cells (fa 8 (fun _ => 0)) 24)).setRow w1.heap.size (fa 8 (dg n)) = W2 at *
        clear HK2 HK f1
        generalize w1.heap.size = w2 at *
        go_upto_region 3 with (first
          | (refine wpList_lda rfl rfl rfl (HK3.out.2 _ (.tail _ (.tail _ (.head _)))) Tryd.underlying59 rfl size65 ?_)
          | (go_at_call 65; refine (narrow_yes d hd8 _).mono ?_; rintro e w4 ⟨rfl, hb1⟩; have HK4 := Lib.hid (HK3.out.below hb1); clear hb1; unfold num)
          | (refine wpList_sta (f := dg d) (f' := fun _ => 0) rfl rfl rfl rfl (heap1 w4 _) size25 ?_))
        obtain ⟨f1, f2⟩ := HK4.out.fresh
        have HK5 := Lib.hid (HK4.out.newvar (cs := fa 8 (fun _ => 0)) (cs' := fa 8 (dg d)) (t := 24))
        simp only [List.forall_mem_cons] at f2
        obtain ⟨r0, r1, r2, r3, _⟩ := f2
        rw [← fa_zero8]
        generalize (w4.alloc (.cells (fa 8 (fun _ => 0)) 24)).setRow w4.heap.size (fa 8 (dg d)) = W3 at *
        clear HK4 HK3
        generalize w4.heap.size = w3 at *
        go_wp2_with fail
        refine wp_region_U (W0 := w) [(w3, .cells (fa 8 (dg d)) 24 (0, 0)), (w2, .cells (fa 8 (dg n)) 24 (0, 0)), (w.heap.size, .cells (fa 18 (dg n)) 59 (0, 0)), (w.heap.size + 1, .cells (fa 18 (dg d)) 59 (0, 0)), (w.heap.size + 1 + 1, .cells (frcC (false) (0) (0)) 26 (0, 0))] (by kernel_rfl) (HK5.out) ?_
        refine wpU_p (i := 0) (v := .bool true) rfl rfl (by kernel_rfl) (by kernel_rfl) rfl (fun _ => by kernel_rfl) (by simp only [List.setIfInBounds_toArray, List.set_cons_succ, List.set_cons_zero] <;> rfl) ?_
        refine wpU_p (i := 1) (v := .bool true) rfl rfl (by kernel_rfl) (by kernel_rfl) rfl (fun _ => by kernel_rfl) (by simp only [List.setIfInBounds_toArray, List.set_cons_succ, List.set_cons_zero] <;> rfl) ?_
        refine wpU_v (i := 2) (v := num n) rfl rfl (by kernel_rfl) (by kernel_rfl) rfl (yb_lda rfl (by kernel_rfl) (.tail _ (.head _)) Tryd.underlying24 rfl size25) (by simp only [List.setIfInBounds_toArray, List.set_cons_succ, List.set_cons_zero] <;> rfl) ?_
        refine wpU_p (i := 3) (v := .agg #[.int .u32 0, .int .u32 0, .int .u32 0, .int .u32 0, .int .u32 0, .int .u32 0, .int .u32 0, .int .u32 0]) rfl rfl (by kernel_rfl) (by kernel_rfl) rfl (fun _ => by kernel_rfl) (by simp only [List.setIfInBounds_toArray, List.set_cons_succ, List.set_cons_zero] <;> rfl) ?_
        refine wpU_p (i := 4) (v := .bool (!decide (n = 0))) rfl rfl (by kernel_rfl) (by kernel_rfl) rfl (run_bin rfl (vx := num n) (vy := .agg #[.int .u32 0, .int .u32 0, .int .u32 0, .int .u32 0, .int .u32 0, .int .u32 0, .int .u32 0, .int .u32 0]) (by kernel_rfl) (by kernel_rfl) fun w => run_neq25_nil hn8 w) (by simp only [List.setIfInBounds_toArray, List.set_cons_succ, List.set_cons_zero] <;> rfl) ?_
        refine wpU_p (i := 5) (v := .bool (!decide (n = 0))) rfl rfl (by kernel_rfl) (by kernel_rfl) rfl (fun _ => by kernel_rfl) (by simp only [List.setIfInBounds_toArray, List.set_cons_succ, List.set_cons_zero] <;> rfl) ?_
        refine wpU_v (i := 6) (v := num n) rfl rfl (by kernel_rfl) (by kernel_rfl) rfl (yb_lda rfl (by kernel_rfl) (.tail _ (.head _)) Tryd.underlying24 rfl size25) (by simp only [List.setIfInBounds_toArray, List.set_cons_succ, List.set_cons_zero] <;> rfl) ?_
        refine wpU_v (i := 7) (v := num d) rfl rfl (by kernel_rfl) (by kernel_rfl) rfl (yb_lda rfl (by kernel_rfl) (.head _) Tryd.underlying24 rfl size25) (by simp only [List.setIfInBounds_toArray, List.set_cons_succ, List.set_cons_zero] <;> rfl) ?_
        refine wpU_p (i := 8) (v := frc (!decide (n = 0)) n d) rfl rfl (by kernel_rfl) (by kernel_rfl) rfl (fun _ => by kernel_rfl) (by simp only [List.setIfInBounds_toArray, List.set_cons_succ, List.set_cons_zero] <;> rfl) ?_
        refine wpU_s [(w3, .cells (fa 8 (dg d)) 24 (0, 0)), (w2, .cells (fa 8 (dg n)) 24 (0, 0)), (w.heap.size, .cells (fa 18 (dg n)) 59 (0, 0)), (w.heap.size + 1, .cells (fa 18 (dg d)) 59 (0, 0)), (w.heap.size + 1 + 1, .cells (frcC (!decide (n = 0)) (n) (d)) 26 (0, 0))] (i := 9) rfl (by kernel_rfl) rfl rfl rfl
          (st_f (neg := !decide (n = 0)) (n := n) (d := d) rfl (by kernel_rfl) (by kernel_rfl) (.tail _ (.tail _ (.tail _ (.tail _ (.head _))))) (by omega) size27 (by intro p hp; simp only [List.mem_cons, List.not_mem_nil, or_false] at hp; rcases hp with rfl | rfl | rfl | rfl | rfl; exact .inr ⟨by simp, by simp only; omega⟩; exact .inr ⟨by simp, by simp only; omega⟩; exact .inr ⟨by simp, by simp only; omega⟩; exact .inr ⟨by simp, by simp only; omega⟩; exact .inl rfl)) ?_
        refine wpU_p (i := 10) (v := .int .i64 0) rfl rfl (by kernel_rfl) (by kernel_rfl) rfl (fun _ => by kernel_rfl) (by simp only [List.setIfInBounds_toArray, List.set_cons_succ, List.set_cons_zero] <;> rfl) ?_
        refine wpU_done (by kernel_rfl) (fun W4 hW4 => ?_) _
        go_wp2_with fail
        refine bodyPost_ret (res_cell_tmp rfl rfl (hW4.2 _ (.tail _ (.tail _ (.tail _ (.tail _ (.head _)))))) Tryd.underlying26 rfl (by rw [size27, frcC_size])) rfl ⟨?_, hW4.1⟩
        rw [packV_yes hn8 hd8]
        simp [frc]
    · go_upto_region 2 with (first
        | (refine wpList_lda rfl rfl rfl (HK.out.2 _ (.head _)) Tryd.underlying59 rfl size65 ?_)
        | (go_at_call 65; refine (narrow_yes n hn8 _).mono ?_; rintro e w1 ⟨rfl, hb1⟩; have HK2 := Lib.hid (HK.out.below hb1); clear hb1; unfold num)
        | (refine wpList_sta (f := dg n) (f' := fun _ => 0) rfl rfl rfl rfl (heap1 w1 _) size25 ?_))
      obtain ⟨f1, f2⟩ := HK2.out.fresh
      have HK3 := Lib.hid (HK2.out.newvar (cs := fa 8 (fun _ => 0)) (cs' := fa 8 (dg n)) (t := 24))
      simp only [List.forall_mem_cons] at f2
      obtain ⟨q1, q2, q3, _⟩ := f2
      have f3 := f1
      rw [← fa_zero8]
      generalize (w1.alloc (.cells (fa 8 (fun _ => 0)) 24)).setRow w1.heap.size (fa 8 (dg n)) = W2 at *
      clear HK2 HK f1
      generalize w1.heap.size = w2 at *
      go_upto_region 3 with (first
        | (refine wpList_lda rfl rfl rfl (HK3.out.2 _ (.tail _ (.tail _ (.head _)))) Tryd.underlying59 rfl size65 ?_)
        | (go_at_call 65; refine (narrow_no d hd (Nat.le_of_not_lt hd8) _).mono ?_; rintro e w4 ⟨rfl, hb1⟩; have HK4 := Lib.hid (HK3.out.below hb1); clear hb1; unfold num)
        | (refine wpList_sta (f := dg 0) (f' := fun _ => 0) rfl rfl rfl rfl (heap1 w4 _) size25 ?_))
      obtain ⟨f1, f2⟩ := HK4.out.fresh
      have HK5 := Lib.hid (HK4.out.newvar (cs := fa 8 (fun _ => 0)) (cs' := fa 8 (dg 0)) (t := 24))
      simp only [List.forall_mem_cons] at f2
      obtain ⟨r0, r1, r2, r3, _⟩ := f2
      rw [← fa_zero8]
      generalize (w4.alloc (.cells (fa 8 (fun _ => 0)) 24)).setRow w4.heap.size (fa 8 (dg 0)) = W3 at *
      clear HK4 HK3
      generalize w4.heap.size = w3 at *
      go_wp2_with (first
        | (refine wpList_stf (neg := false) (n := 0) (d := 0) (neg' := false) (n' := 0) (d' := 0) rfl rfl rfl (by rw [frc_zero]; rfl) (HK5.out.2 _ (.tail _ (.tail _ (.tail _ (.tail _ (.head _)))))) size27 ?_))
      refine bodyPost_ret (res_cell_tmp rfl rfl (setRow_heap _ _ _ _ _ _ (HK5.out.2 _ (.tail _ (.tail _ (.tail _ (.tail _ (.head _))))))) Tryd.underlying26 rfl (by rw [size27, frcC_size])) rfl ⟨?_, below_setRow HK5.out.1 (by omega) _⟩
      rw [packV_no (fun h => hd8 h.2)]
      rfl
  · by_cases hd8 : d < R 8
    · go_upto_region 2 with (first
        | (refine wpList_lda rfl rfl rfl (HK.out.2 _ (.head _)) Tryd.underlying59 rfl size65 ?_)
        | (go_at_call 65; refine (narrow_no n hn (Nat.le_of_not_lt hn8) _).mono ?_; rintro e w1 ⟨rfl, hb1⟩; have HK2 := Lib.hid (HK.out.below hb1); clear hb1; unfold num)
        | (refine wpList_sta (f := dg 0) (f' := fun _ => 0) rfl rfl rfl rfl (heap1 w1 _) size25 ?_))
      obtain ⟨f1, f2⟩ := HK2.out.fresh
      have HK3 := Lib.hid (HK2.out.newvar (cs := fa 8 (fun _ => 0)) (cs' := fa 8 (dg 0)) (t := 24))
      simp only [List.forall_mem_cons] at f2
      obtain ⟨q1, q2, q3, _⟩ := f2
      have f3 := f1
      rw [← fa_zero8]
      generalize (w1.alloc (.cells (fa 8 (fun _ => 0)) 24)).setRow w1.heap.size (fa 8 (dg 0)) = W2 at *
      clear HK2 HK f1
      generalize w1.heap.size = w2 at *
      go_upto_region 3 with (first
        | (refine wpList_lda rfl rfl rfl (HK3.out.2 _ (.tail _ (.tail _ (.head _)))) Tryd.underlying59 rfl size65 ?_)
        | (go_at_call 65; refine (narrow_yes d hd8 _).mono ?_; rintro e w4 ⟨rfl, hb1⟩; have HK4 := Lib.hid (HK3.out.below hb1); clear hb1; unfold num)
        | (refine wpList_sta (f := dg d) (f' := fun _ => 0) rfl rfl rfl rfl (heap1 w4 _) size25 ?_))
      obtain ⟨f1, f2⟩ := HK4.out.fresh
      have HK5 := Lib.hid (HK4.out.newvar (cs := fa 8 (fun _ => 0)) (cs' := fa 8 (dg d)) (t := 24))
      simp only [List.forall_mem_cons] at f2
      obtain ⟨r0, r1, r2, r3, _⟩ := f2
      rw [← fa_zero8]
      generalize (w4.alloc (.cells (fa 8 (fun _ => 0)) 24)).setRow w4.heap.size (fa 8 (dg d)) = W3 at *
      clear HK4 HK3
      generalize w4.heap.size = w3 at *
      go_wp2_with (first
        | (refine wpList_stf (neg := false) (n := 0) (d := 0) (neg' := false) (n' := 0) (d' := 0) rfl rfl rfl (by rw [frc_zero]; rfl) (HK5.out.2 _ (.tail _ (.tail _ (.tail _ (.tail _ (.head _)))))) size27 ?_))
      refine bodyPost_ret (res_cell_tmp rfl rfl (setRow_heap _ _ _ _ _ _ (HK5.out.2 _ (.tail _ (.tail _ (.tail _ (.tail _ (.head _))))))) Tryd.underlying26 rfl (by rw [size27, frcC_size])) rfl ⟨?_, below_setRow HK5.out.1 (by omega) _⟩
      rw [packV_no (fun h => hn8 h.1)]
      rfl
    · go_upto_region 2 with (first
        | (refine wpList_lda rfl rfl rfl (HK.out.2 _ (.head _)) Tryd.underlying59 rfl size65 ?_)
        | (go_at_call 65; refine (narrow_no n hn (Nat.le_of_not_lt hn8) _).mono ?_; rintro e w1 ⟨rfl, hb1⟩; have HK2 := Lib.hid (HK.out.below hb1); clear hb1; unfold num)
        | (refine wpList_sta (f := dg 0) (f' := fun _ => 0) rfl rfl rfl rfl (heap1 w1 _) size25 ?_))
      obtain ⟨f1, f2⟩ := HK2.out.fresh
      have HK3 := Lib.hid (HK2.out.newvar (cs := fa 8 (fun _ => 0)) (cs' := fa 8 (dg 0)) (t := 24))
      simp only [List.forall_mem_cons] at f2
      obtain ⟨q1, q2, q3, _⟩ := f2
      have f3 := f1
      rw [← fa_zero8]
      generalize (w1.alloc (.cells (fa 8 (fun _ => 0)) 24)).setRow w1.heap.size (fa 8 (dg 0)) = W2 at *
      clear HK2 HK f1
      generalize w1.heap.size = w2 at *
      go_upto_region 3 with (first
        | (refine wpList_lda rfl rfl rfl (HK3.out.2 _ (.tail _ (.tail _ (.head _)))) Tryd.underlying59 rfl size65 ?_)
        | (go_at_call 65; refine (narrow_no d hd (Nat.le_of_not_lt hd8) _).mono ?_; rintro e w4 ⟨rfl, hb1⟩; have HK4 := Lib.hid (HK3.out.below hb1); clear hb1; unfold num)
        | (refine wpList_sta (f := dg 0) (f' := fun _ => 0) rfl rfl rfl rfl (heap1 w4 _) size25 ?_))
      obtain ⟨f1, f2⟩ := HK4.out.fresh
      have HK5 := Lib.hid (HK4.out.newvar (cs := fa 8 (fun _ => 0)) (cs' := fa 8 (dg 0)) (t := 24))
      simp only [List.forall_mem_cons] at f2
      obtain ⟨r0, r1, r2, r3, _⟩ := f2
      rw [← fa_zero8]
      generalize (w4.alloc (.cells (fa 8 (fun _ => 0)) 24)).setRow w4.heap.size (fa 8 (dg 0)) = W3 at *
      clear HK4 HK3
      generalize w4.heap.size = w3 at *
      go_wp2_with (first
        | (refine wpList_stf (neg := false) (n := 0) (d := 0) (neg' := false) (n' := 0) (d' := 0) rfl rfl rfl (by rw [frc_zero]; rfl) (HK5.out.2 _ (.tail _ (.tail _ (.tail _ (.tail _ (.head _)))))) size27 ?_))
      refine bodyPost_ret (res_cell_tmp rfl rfl (setRow_heap _ _ _ _ _ _ (HK5.out.2 _ (.tail _ (.tail _ (.tail _ (.tail _ (.head _))))))) Tryd.underlying26 rfl (by rw [size27, frcC_size])) rfl ⟨?_, below_setRow HK5.out.1 (by omega) _⟩
      rw [packV_no (fun h => hn8 h.1)]
      rfl

end Go.Proofs.YtkfcikijmkgahaaDoor
