import Derived.Test.YtalmflgkbmnghaaGreatDoorRM02
import Derived.Test.YtalmflgkbmnghaaGreatDoorRM00
import Derived.Test.YtalmflgkbmnghaaGreatDoorRM01
import Derived.Deep.Cut
import Derived.Outline
/- Part of the proof: Ad, Mg, Of, Rt, Ae, Am, Su, Di, Cp0, Ty, FFl, FFm. -/
set_option linter.unusedVariables false
set_option linter.unusedSimpArgs false
set_option linter.unusedSectionVars false
namespace Tf
open Go Go.RowKit Go.Proofs.YtalmflgkbmnghaaGreatDoor
theorem KS.newvar2 {w w1 : World} {K : List (Nat × Obj)} {cs cs' ds ds' : Array Value} {t u : TypeId} (h : KS w K w1) : KS w ((w1.heap.size, .cells cs' t (0, 0)) :: (w1.heap.size + 1, .cells ds' u (0, 0)) :: K)
   ((((w1.alloc (.cells cs t (0, 0))).alloc (.cells ds u (0, 0))).setRow w1.heap.size cs').setRow (w1.heap.size + 1) ds') := by
 have h2 := (h.alloc (.cells cs t (0, 0))).alloc (.cells ds u (0, 0))
 rw [size1] at h2
 have hlt : ∀ p ∈ K, p.1 < w1.heap.size := fun p hp => lt_of_block (h.2 p hp)
 have h3 := KS.put (K' := (w1.heap.size + 1, .cells ds u (0, 0)) :: (w1.heap.size, .cells cs' t (0, 0)) :: K) h2 h.1.size Tw.m1 (by
   intro p hp
   rcases List.mem_cons.1 hp with rfl | hp
   · exact .inr ⟨.head _, by simp only; omega⟩
   · rcases List.mem_cons.1 hp with rfl | hp
     · exact .inl rfl
     · exact .inr ⟨.tail _ (.tail _ hp), by have := hlt p hp; omega⟩)
 exact KS.put h3 (by have := h.1.size; omega) Tw.m0 (by
   intro p hp
   rcases List.mem_cons.1 hp with rfl | hp
   · exact .inr ⟨.tail _ Tw.m0, by simp only; omega⟩
   · rcases List.mem_cons.1 hp with rfl | hp
     · exact .inl rfl
     · exact .inr ⟨.tail _ (.tail _ hp), by have := hlt p hp; omega⟩)

end Tf
namespace Go.Proofs.YtalmflgkbmnghaaGreatDoor
open Go.RowKit Tf
variable [ShLZ]
theorem heap2_2s (w : World) (A B : Obj) (cs : Array Value) : (((w.alloc A).alloc B).setRow w.heap.size cs).heap[w.heap.size + 1]? = some B := by
 rw [setRow_other _ _ _ _ Tw.om]; exact (heap2 w A B).2
theorem yb_ldb {W0 : World} {o : Oper} {a : Act} {K : List (Nat × Obj)} {x : Operand} {g : Nat} {s : Bool} {n d : Nat} {t : TypeId} (ho : o.op = .load 4 x) (hx : a.eval x = .pointer (some ⟨g, 0, none⟩)) (hm : (g, .cells (frcC s n d) t (0, 0)) ∈ K) :
   ∀ w, KS W0 K w → ∀ K' : Act → World → Prop, (∀ w', Below w.heap.size w w' → K' (a.put o.dst (.bool s)) w') → Oper.wp Tryz.prog o a w K' (fun _ _ _ => False) := by
 intro w hw K' hk
 have hc := frc_cell (hw.2 _ hm)
 unfold Oper.wp execOp
 simp only [ho, hx]
 go_simp
 exact hk w (Below.refl _ _)

set_option maxRecDepth 100000 in
set_option maxHeartbeats 2000000 in
theorem add_walk (s1 s2 S : Bool) (n1 d1 n2 d2 c ov q2 u v N l : Nat) (s' : Bool) (n' d' : Nat) (ee : Int) (RV : Value) (hc : c < R 8) (hc1 : c = 1 → RV = packV S N (d1 * d2)) (hc2 : c ≠ 1 → RV = packV S (N / l) (ov * (d2 / l)))
   (HPV : Hid (RV = .tuple #[.agg (frcC s' n' d'), .int .i64 ee]))
   (Cgcd : Hid (∀ W, Calls Tryz.prog 49 #[num d1, num d2] W fun e w' => e = .returned (num c) ∧ Below W.heap.size W w'))
   (Cov : Hid (∀ W, Calls Tryz.prog 79 #[num d1, num c] W fun e w' => e = .returned (num ov) ∧ Below W.heap.size W w'))
   (Cq2 : Hid (∀ W, Calls Tryz.prog 79 #[num d2, num c] W fun e w' => e = .returned (num q2) ∧ Below W.heap.size W w'))
   (Cu : Hid (∀ W, Calls Tryz.prog 55 #[num n1, num q2] W fun e w' => e = .returned (wid u) ∧ Below W.heap.size W w'))
   (Cv : Hid (∀ W, Calls Tryz.prog 55 #[num n2, num ov] W fun e w' => e = .returned (wid v) ∧ Below W.heap.size W w'))
   (Cps : Hid (∀ W, Calls Tryz.prog 54 #[.bool s1, wid u, .bool s2, wid v] W fun e w' => e = .returned (.tuple #[.bool S, wid N]) ∧ Below W.heap.size W w'))
   (Ct : Hid (∀ W, Calls Tryz.prog 55 #[num d1, num d2] W fun e w' => e = .returned (wid (d1 * d2)) ∧ Below W.heap.size W w'))
   (Cdv : Hid (∀ W, Calls Tryz.prog 56 #[wid N, num c] W fun e w' => e = .returned (.tuple #[wid (N / c), num (N % c)]) ∧ Below W.heap.size W w'))
   (Cl : Hid (∀ W, Calls Tryz.prog 49 #[num (N % c), num c] W fun e w' => e = .returned (num l) ∧ Below W.heap.size W w'))
   (Cdl : Hid (∀ W, Calls Tryz.prog 56 #[wid N, num l] W fun e w' => e = .returned (.tuple #[wid (N / l), num (N % l)]) ∧ Below W.heap.size W w'))
   (Cdq : Hid (∀ W, Calls Tryz.prog 79 #[num d2, num l] W fun e w' => e = .returned (num (d2 / l)) ∧ Below W.heap.size W w'))
   (Cod : Hid (∀ W, Calls Tryz.prog 55 #[num ov, num (d2 / l)] W fun e w' => e = .returned (wid (ov * (d2 / l))) ∧ Below W.heap.size W w'))
   (CP1 : Hid (∀ W, Calls Tryz.prog 80 #[.bool S, wid N, wid (d1 * d2)] W fun e w' => e = .returned (packV S N (d1 * d2)) ∧ Below W.heap.size W w'))
   (CP2 : Hid (∀ W, Calls Tryz.prog 80 #[.bool S, wid (N / l), wid (ov * (d2 / l))] W fun e w' => e = .returned (packV S (N / l) (ov * (d2 / l))) ∧ Below W.heap.size W w'))
   (w : World) :
   Calls Tryz.prog 42 #[frc s1 n1 d1, frc s2 n2 d2] w fun e w' => e = .returned RV ∧ Below w.heap.size w w' := by
 have hc1' := Lib.hid hc1
 have hc2' := Lib.hid hc2
 clear hc1 hc2
 unfold frc
 go_enter Tryz.func42, Tryz.ntmps42
 go_upto_region 1 with (fail)
 have hK := KS.three w (.cells (frcC s1 n1 d1) 25) (.cells (frcC s2 n2 d2) 25) (.cells (frcC false 0 0) 25)
 obtain ⟨W, hW⟩ : ∃ W, W = ((w.alloc (.cells (frcC s1 n1 d1) 25)).alloc (.cells (frcC s2 n2 d2) 25)).alloc (.cells (frcC false 0 0) 25) := ⟨_, rfl⟩
 rw [← hW] at hK
 rw [frc_zero] at hW
 rw [← hW]
 clear hW
 have HK := Lib.hid hK
 clear hK
 go_upto_region 2 with (first
   | (refine wpList_ldd rfl rfl rfl (HK.out.2 _ Tw.m0) Tryz.underlying23 rfl size25 ?_)
   | (refine wpList_ldd rfl rfl rfl (HK.out.2 _ Tw.m1) Tryz.underlying23 rfl size25 ?_)
   | (go_at_call 49; refine (Cgcd.out _).mono ?_; rintro e w1 ⟨rfl, hb1⟩; have HK1 := Lib.hid (HK.out.below hb1); clear hb1; unfold num)
   | (refine wpList_sta (f := dg c) (f' := fun _ => 0) rfl rfl rfl rfl (heap1 w1 _) size25 ?_))
 obtain ⟨Bgc, Fgc⟩ := HK1.out.fresh
 have HK2 := Lib.hid (HK1.out.newvar (cs := fa 8 (fun _ => 0)) (cs' := fa 8 (dg (c))) (t := 23))
 simp only [List.forall_mem_cons] at Fgc
 rw [← fa_zero8]
 generalize (w1.alloc (.cells (fa 8 (fun _ => 0)) 23)).setRow w1.heap.size (fa 8 (dg (c))) = W1 at *
 clear HK1
 generalize w1.heap.size = gc at *
 clear HK
 go_upto_region 3 with (first
   | (refine wpList_ldd rfl rfl rfl (HK2.out.2 _ Tw.m1) Tryz.underlying23 rfl size25 ?_)
   | (refine wpList_lda rfl rfl rfl (HK2.out.2 _ Tw.m0) Tryz.underlying23 rfl size25 ?_)
   | (go_at_call 79; refine (Cov.out _).mono ?_; rintro e w2 ⟨rfl, hb1⟩; have HK3 := Lib.hid (HK2.out.below hb1); clear hb1; unfold num)
   | (refine wpList_sta (f := dg ov) (f' := fun _ => 0) rfl rfl rfl rfl (heap1 w2 _) size25 ?_))
 obtain ⟨Bgo, Fgo⟩ := HK3.out.fresh
 have HK4 := Lib.hid (HK3.out.newvar (cs := fa 8 (fun _ => 0)) (cs' := fa 8 (dg (ov))) (t := 23))
 simp only [List.forall_mem_cons] at Fgo
 rw [← fa_zero8]
 generalize (w2.alloc (.cells (fa 8 (fun _ => 0)) 23)).setRow w2.heap.size (fa 8 (dg (ov))) = W2 at *
 clear HK3
 generalize w2.heap.size = go at *
 clear HK2
 go_wp2_with fail
 refine wp_region_U [(go, .cells (fa 8 (dg ov)) 23 (0, 0)), (gc, .cells (fa 8 (dg c)) 23 (0, 0)), (w.heap.size, .cells (frcC (s1) (n1) (d1)) 25 (0, 0)), (w.heap.size + 1, .cells (frcC (s2) (n2) (d2)) 25 (0, 0)), (w.heap.size + 1 + 1, .cells (frcC (false) (0) (0)) 25 (0, 0))] Tw.kr (HK4.out) ?_
 refine wpU_pY (i := 0) (v := .pointer (some ⟨w.heap.size, 0, none⟩)) rfl rfl Tw.kr Tw.kr rfl Tw.kf Tw.pu ?_
 refine wpU_vY (i := 1) (v := .bool s1) rfl rfl Tw.kr Tw.kr rfl (yb_ldb rfl Tw.kr Tw.m2) Tw.pu ?_
 refine wpU_pY (i := 2) (v := .pointer (some ⟨w.heap.size, 1, none⟩)) rfl rfl Tw.kr Tw.kr rfl Tw.kf Tw.pu ?_
 refine wpU_vY (i := 3) (v := num (n1)) rfl rfl Tw.kr Tw.kr rfl (yb_load rfl Tw.kr Tw.m2 Tryz.underlying23 rfl size25 (by simp) (frc_num (s1) (n1) (d1))) Tw.pu ?_
 refine wpU_pY (i := 4) (v := .pointer (some ⟨w.heap.size + 1, 9, none⟩)) rfl rfl Tw.kr Tw.kr rfl Tw.kf Tw.pu ?_
 refine wpU_vY (i := 5) (v := num (d2)) rfl rfl Tw.kr Tw.kr rfl (yb_load rfl Tw.kr Tw.m3 Tryz.underlying23 rfl size25 (by simp) (frc_den (s2) (n2) (d2))) Tw.pu ?_
 refine wpU_vY (i := 6) (v := num c) rfl rfl Tw.kr Tw.kr rfl (yb_lda rfl Tw.kr Tw.m1 Tryz.underlying23 rfl size25) Tw.pu ?_
 refine wpU_vY (i := 7) (v := num q2) rfl rfl Tw.kr Tw.kr rfl (yb_call (f := 79) (args := #[num d2, num c]) Tw.kf fun W hW => Cq2.out W) Tw.pu ?_
 refine wpU_vY (i := 8) (v := wid u) rfl rfl Tw.kr Tw.kr rfl (yb_call (f := 55) (args := #[num n1, num q2]) Tw.kf fun W hW => Cu.out W) Tw.pu ?_
 refine wpU_pY (i := 9) (v := .pointer (some ⟨w.heap.size + 1, 0, none⟩)) rfl rfl Tw.kr Tw.kr rfl Tw.kf Tw.pu ?_
 refine wpU_vY (i := 10) (v := .bool s2) rfl rfl Tw.kr Tw.kr rfl (yb_ldb rfl Tw.kr Tw.m3) Tw.pu ?_
 refine wpU_pY (i := 11) (v := .pointer (some ⟨w.heap.size + 1, 1, none⟩)) rfl rfl Tw.kr Tw.kr rfl Tw.kf Tw.pu ?_
 refine wpU_vY (i := 12) (v := num (n2)) rfl rfl Tw.kr Tw.kr rfl (yb_load rfl Tw.kr Tw.m3 Tryz.underlying23 rfl size25 (by simp) (frc_num (s2) (n2) (d2))) Tw.pu ?_
 refine wpU_vY (i := 13) (v := num ov) rfl rfl Tw.kr Tw.kr rfl (yb_lda rfl Tw.kr Tw.m0 Tryz.underlying23 rfl size25) Tw.pu ?_
 refine wpU_vY (i := 14) (v := wid v) rfl rfl Tw.kr Tw.kr rfl (yb_call (f := 55) (args := #[num n2, num ov]) Tw.kf fun W hW => Cv.out W) Tw.pu ?_
 refine wpU_vY (i := 15) (v := .tuple #[.bool S, wid N]) rfl rfl Tw.kr Tw.kr rfl (yb_call (f := 54) (args := #[.bool s1, wid u, .bool s2, wid v]) Tw.kf fun W hW => Cps.out W) Tw.pu ?_
 refine wpU_pY (i := 16) (v := .tuple #[.bool S, wid N]) rfl rfl Tw.kr Tw.kr rfl Tw.kf Tw.pu ?_
 refine wpU_pY (i := 17) (v := .bool S) rfl rfl Tw.kr Tw.kr rfl Tw.kf Tw.pu ?_
 refine wpU_pY (i := 18) (v := wid N) rfl rfl Tw.kr Tw.kr rfl Tw.kf Tw.pu ?_
 refine wpU_newY (i := 19) (obi := .cells (fa 18 (fun _ => 0)) 76 (0, 0)) rfl rfl rfl Tw.kr (fun _ _ => rfl) Tw.pf fun gn Bgn Fgn => ?_
 simp only [List.forall_mem_cons] at Fgn
 refine wpU_pY (i := 20) (v := .bool S) rfl rfl Tw.kr Tw.kr rfl Tw.kf Tw.pu ?_
 refine wpU_sY [(gn, .cells (fa 18 (dg N)) 76 (0, 0)), (go, .cells (fa 8 (dg ov)) 23 (0, 0)), (gc, .cells (fa 8 (dg c)) 23 (0, 0)), (w.heap.size, .cells (frcC (s1) (n1) (d1)) 25 (0, 0)), (w.heap.size + 1, .cells (frcC (s2) (n2) (d2)) 25 (0, 0)), (w.heap.size + 1 + 1, .cells (frcC (false) (0) (0)) 25 (0, 0))] (i := 21) rfl Tw.kr rfl rfl rfl
   (st_a rfl rfl rfl Tw.m0 Tw.om size65 (by intro p hp; simp only [List.mem_cons, List.not_mem_nil, or_false] at hp; rcases hp with rfl | rfl | rfl | rfl | rfl | rfl; exact .inl rfl; exact .inr ⟨by simp, by simp only; omega⟩; exact .inr ⟨by simp, by simp only; omega⟩; exact .inr ⟨by simp, by simp only; omega⟩; exact .inr ⟨by simp, by simp only; omega⟩; exact .inr ⟨by simp, by simp only; omega⟩)) ?_
 refine wpU_done Tw.kr (fun W4 hW4 => ?_) _
 have HK5 := Lib.hid hW4
 clear hW4 HK4
 by_cases h1 : c = 1
 · have HPK : Hid (∀ W, Calls Tryz.prog 80 #[.bool S, wid N, wid (d1 * d2)] W fun e w' => e = .returned RV ∧ Below W.heap.size W w') := by
     unfold Hid; rw [hc1'.out h1]; exact CP1.out
   subst h1
   go_wp2_with (first
     | (refine wpList_lda rfl rfl rfl (HK5.out.2 _ Tw.m2) Tryz.underlying23 rfl size25 ?_))
   refine wp_region_U [(gn, .cells (fa 18 (dg N)) 76 (0, 0)), (go, .cells (fa 8 (dg ov)) 23 (0, 0)), (gc, .cells (fa 8 (dg 1)) 23 (0, 0)), (w.heap.size, .cells (frcC (s1) (n1) (d1)) 25 (0, 0)), (w.heap.size + 1, .cells (frcC (s2) (n2) (d2)) 25 (0, 0)), (w.heap.size + 1 + 1, .cells (frcC (false) (0) (0)) 25 (0, 0))] Tw.kr (HK5.out) ?_
   refine wpU_pY (i := 0) (v := .bool S) rfl rfl Tw.kr Tw.kr rfl Tw.kf Tw.pu ?_
   refine wpU_vY (i := 1) (v := wid N) rfl rfl Tw.kr Tw.kr rfl (yb_lda rfl Tw.kr Tw.m0 Tryz.underlying76 rfl size65) Tw.pu ?_
   refine wpU_pY (i := 2) (v := .pointer (some ⟨w.heap.size, 9, none⟩)) rfl rfl Tw.kr Tw.kr rfl Tw.kf Tw.pu ?_
   refine wpU_vY (i := 3) (v := num (d1)) rfl rfl Tw.kr Tw.kr rfl (yb_load rfl Tw.kr Tw.m3 Tryz.underlying23 rfl size25 (by simp) (frc_den (s1) (n1) (d1))) Tw.pu ?_
   refine wpU_pY (i := 4) (v := .pointer (some ⟨w.heap.size + 1, 9, none⟩)) rfl rfl Tw.kr Tw.kr rfl Tw.kf Tw.pu ?_
   refine wpU_vY (i := 5) (v := num (d2)) rfl rfl Tw.kr Tw.kr rfl (yb_load rfl Tw.kr Tw.m4 Tryz.underlying23 rfl size25 (by simp) (frc_den (s2) (n2) (d2))) Tw.pu ?_
   refine wpU_vY (i := 6) (v := wid (d1 * d2)) rfl rfl Tw.kr Tw.kr rfl (yb_call (f := 55) (args := #[num d1, num d2]) Tw.kf fun W hW => Ct.out W) Tw.pu ?_
   refine wpU_vY (i := 7) (v := .tuple #[.agg (frcC s' n' d'), .int .i64 ee]) rfl rfl Tw.kr Tw.kr rfl (yb_call (f := 80) (args := #[.bool S, wid N, wid (d1 * d2)]) Tw.kf fun W hW => by rw [← HPV.out]; exact HPK.out W) Tw.pu ?_
   refine wpU_pY (i := 8) (v := .agg (frcC s' n' d')) rfl rfl Tw.kr Tw.kr rfl Tw.kf Tw.pu ?_
   refine wpU_pY (i := 9) (v := .int .i64 ee) rfl rfl Tw.kr Tw.kr rfl Tw.kf Tw.pu ?_
   refine wpU_sY [(gn, .cells (fa 18 (dg N)) 76 (0, 0)), (go, .cells (fa 8 (dg ov)) 23 (0, 0)), (gc, .cells (fa 8 (dg 1)) 23 (0, 0)), (w.heap.size, .cells (frcC (s1) (n1) (d1)) 25 (0, 0)), (w.heap.size + 1, .cells (frcC (s2) (n2) (d2)) 25 (0, 0)), (w.heap.size + 1 + 1, .cells (frcC (s') (n') (d')) 25 (0, 0))] (i := 10) rfl Tw.kr rfl rfl rfl
     (st_f (neg := s') (n := n') (d := d') rfl Tw.kr Tw.kr Tw.m5 Tw.om size27 (by intro p hp; simp only [List.mem_cons, List.not_mem_nil, or_false] at hp; rcases hp with rfl | rfl | rfl | rfl | rfl | rfl; exact .inr ⟨by simp, by simp only; omega⟩; exact .inr ⟨by simp, by simp only; omega⟩; exact .inr ⟨by simp, by simp only; omega⟩; exact .inr ⟨by simp, by simp only; omega⟩; exact .inr ⟨by simp, by simp only; omega⟩; exact .inl rfl)) ?_
   refine wpU_pY (i := 11) (v := .int .i64 ee) rfl rfl Tw.kr Tw.kr rfl Tw.kf Tw.pu ?_
   refine wpU_done Tw.kr (fun W4 hW4 => ?_) _
   go_wp2_with fail
   exact bodyPost_ret (res_cell_tmp rfl rfl (hW4.2 _ Tw.m5) Tryz.underlying25 rfl (by rw [size27, frcC_size])) rfl ⟨by rw [HPV.out]; rfl, hW4.1⟩
 · have HPK : Hid (∀ W, Calls Tryz.prog 80 #[.bool S, wid (N / l), wid (ov * (d2 / l))] W fun e w' => e = .returned RV ∧ Below W.heap.size W w') := by
     unfold Hid; rw [hc2'.out h1]; exact CP2.out
   go_upto_region 6 with (first
     | (refine wpList_lda rfl rfl rfl (HK5.out.2 _ Tw.m2) Tryz.underlying23 rfl size25 ?_))
   go_upto_region 7 with (first
     | (refine wpList_lda rfl rfl rfl (HK5.out.2 _ Tw.m0) Tryz.underlying76 rfl size65 ?_)
     | (refine wpList_lda rfl rfl rfl (HK5.out.2 _ Tw.m2) Tryz.underlying23 rfl size25 ?_)
     | (go_at_call 56; refine (Cdv.out _).mono ?_; rintro e w3 ⟨rfl, hb1⟩; have HK6 := Lib.hid (HK5.out.below hb1); clear hb1; unfold wid num)
     | (refine wpList_sta (f := dg (N / c)) (f' := fun _ => 0) rfl rfl rfl rfl (heap2 w3 _ _).1 size65 ?_)
     | (refine wpList_sta (f := dg (N % c)) (f' := fun _ => 0) rfl rfl rfl rfl (heap2_2s w3 _ _ _) size25 ?_))
   obtain ⟨Bx, Fx⟩ := HK6.out.fresh
   have HK7 := Lib.hid (HK6.out.newvar2 (cs := fa 18 (fun _ => 0)) (cs' := fa 18 (dg (N / c))) (t := 76) (ds := fa 8 (fun _ => 0)) (ds' := fa 8 (dg (N % c))) (u := 23))
   simp only [List.forall_mem_cons] at Fx
   rw [← fa_zero8, ← fa_zero18]
   generalize (((w3.alloc (.cells (fa 18 (fun _ => 0)) 76)).alloc (.cells (fa 8 (fun _ => 0)) 23)).setRow w3.heap.size (fa 18 (dg (N / c)))).setRow (w3.heap.size + 1) (fa 8 (dg (N % c))) = W3 at *
   clear HK6 HK5
   generalize w3.heap.size = gx at *
   go_upto_region 8 with (first
     | (refine wpList_lda rfl rfl rfl (HK7.out.2 _ Tw.m1) Tryz.underlying23 rfl size25 ?_)
     | (refine wpList_lda rfl rfl rfl (HK7.out.2 _ Tw.m4) Tryz.underlying23 rfl size25 ?_)
     | (go_at_call 49; refine (Cl.out _).mono ?_; rintro e w4 ⟨rfl, hb1⟩; have HK8 := Lib.hid (HK7.out.below hb1); clear hb1; unfold num)
     | (refine wpList_sta (f := dg l) (f' := fun _ => 0) rfl rfl rfl rfl (heap1 w4 _) size25 ?_))
   obtain ⟨Bgl, Fgl⟩ := HK8.out.fresh
   have HK9 := Lib.hid (HK8.out.newvar (cs := fa 8 (fun _ => 0)) (cs' := fa 8 (dg (l))) (t := 23))
   simp only [List.forall_mem_cons] at Fgl
   rw [← fa_zero8]
   generalize (w4.alloc (.cells (fa 8 (fun _ => 0)) 23)).setRow w4.heap.size (fa 8 (dg (l))) = W4 at *
   clear HK8
   generalize w4.heap.size = gl at *
   clear HK7
   go_upto_region 9 with (first
     | (refine wpList_lda rfl rfl rfl (HK9.out.2 _ Tw.m3) Tryz.underlying76 rfl size65 ?_)
     | (refine wpList_lda rfl rfl rfl (HK9.out.2 _ Tw.m0) Tryz.underlying23 rfl size25 ?_)
     | (go_at_call 56; refine (Cdl.out _).mono ?_; rintro e w5 ⟨rfl, hb1⟩; have HKa := Lib.hid (HK9.out.below hb1); clear hb1; unfold wid num)
     | (refine wpList_sta (f := dg (N / l)) (f' := dg N) rfl rfl rfl rfl (HKa.out.2 _ Tw.m3) size65 ?_))
   have HKb : Hid (KS w [(gl, .cells (fa 8 (dg l)) 23 (0, 0)), (gx, .cells (fa 18 (dg (N / c))) 76 (0, 0)), (gx + 1, .cells (fa 8 (dg (N % c))) 23 (0, 0)), (gn, .cells (fa 18 (dg (N / l))) 76 (0, 0)), (go, .cells (fa 8 (dg ov)) 23 (0, 0)), (gc, .cells (fa 8 (dg c)) 23 (0, 0)), (w.heap.size, .cells (frcC (s1) (n1) (d1)) 25 (0, 0)), (w.heap.size + 1, .cells (frcC (s2) (n2) (d2)) 25 (0, 0)), (w.heap.size + 1 + 1, .cells (frcC (false) (0) (0)) 25 (0, 0))] (w5.setRow gn (fa 18 (dg (N / l))))) := HKa.out.put Tw.om Tw.m3 (by intro p hp; simp only [List.mem_cons, List.not_mem_nil, or_false] at hp; rcases hp with rfl | rfl | rfl | rfl | rfl | rfl | rfl | rfl | rfl; exact .inr ⟨by simp, by simp only; omega⟩; exact .inr ⟨by simp, by simp only; omega⟩; exact .inr ⟨by simp, by simp only; omega⟩; exact .inl rfl; exact .inr ⟨by simp, by simp only; omega⟩; exact .inr ⟨by simp, by simp only; omega⟩; exact .inr ⟨by simp, by simp only; omega⟩; exact .inr ⟨by simp, by simp only; omega⟩; exact .inr ⟨by simp, by simp only; omega⟩)
   generalize w5.setRow gn (fa 18 (dg (N / l))) = W5 at *
   clear HKa HK9
   go_wp2_with fail
   refine wp_region_U [(gl, .cells (fa 8 (dg l)) 23 (0, 0)), (gx, .cells (fa 18 (dg (N / c))) 76 (0, 0)), (gx + 1, .cells (fa 8 (dg (N % c))) 23 (0, 0)), (gn, .cells (fa 18 (dg (N / l))) 76 (0, 0)), (go, .cells (fa 8 (dg ov)) 23 (0, 0)), (gc, .cells (fa 8 (dg c)) 23 (0, 0)), (w.heap.size, .cells (frcC (s1) (n1) (d1)) 25 (0, 0)), (w.heap.size + 1, .cells (frcC (s2) (n2) (d2)) 25 (0, 0)), (w.heap.size + 1 + 1, .cells (frcC (false) (0) (0)) 25 (0, 0))] Tw.kr (HKb.out) ?_
   refine wpU_pY (i := 0) (v := .bool S) rfl rfl Tw.kr Tw.kr rfl Tw.kf Tw.pu ?_
   refine wpU_vY (i := 1) (v := wid (N / l)) rfl rfl Tw.kr Tw.kr rfl (yb_lda rfl Tw.kr Tw.m3 Tryz.underlying76 rfl size65) Tw.pu ?_
   refine wpU_vY (i := 2) (v := num ov) rfl rfl Tw.kr Tw.kr rfl (yb_lda rfl Tw.kr Tw.m4 Tryz.underlying23 rfl size25) Tw.pu ?_
   refine wpU_pY (i := 3) (v := .pointer (some ⟨w.heap.size + 1, 9, none⟩)) rfl rfl Tw.kr Tw.kr rfl Tw.kf Tw.pu ?_
   refine wpU_vY (i := 4) (v := num (d2)) rfl rfl Tw.kr Tw.kr rfl (yb_load rfl Tw.kr (.tail _ (.tail _ Tw.m5)) Tryz.underlying23 rfl size25 (by simp) (frc_den (s2) (n2) (d2))) Tw.pu ?_
   refine wpU_vY (i := 5) (v := num l) rfl rfl Tw.kr Tw.kr rfl (yb_lda rfl Tw.kr Tw.m0 Tryz.underlying23 rfl size25) Tw.pu ?_
   refine wpU_vY (i := 6) (v := num (d2 / l)) rfl rfl Tw.kr Tw.kr rfl (yb_call (f := 79) (args := #[num d2, num l]) Tw.kf fun W hW => Cdq.out W) Tw.pu ?_
   refine wpU_vY (i := 7) (v := wid (ov * (d2 / l))) rfl rfl Tw.kr Tw.kr rfl (yb_call (f := 55) (args := #[num ov, num (d2 / l)]) Tw.kf fun W hW => Cod.out W) Tw.pu ?_
   refine wpU_vY (i := 8) (v := .tuple #[.agg (frcC s' n' d'), .int .i64 ee]) rfl rfl Tw.kr Tw.kr rfl (yb_call (f := 80) (args := #[.bool S, wid (N / l), wid (ov * (d2 / l))]) Tw.kf fun W hW => by rw [← HPV.out]; exact HPK.out W) Tw.pu ?_
   refine wpU_pY (i := 9) (v := .agg (frcC s' n' d')) rfl rfl Tw.kr Tw.kr rfl Tw.kf Tw.pu ?_
   refine wpU_pY (i := 10) (v := .int .i64 ee) rfl rfl Tw.kr Tw.kr rfl Tw.kf Tw.pu ?_
   refine wpU_sY [(gl, .cells (fa 8 (dg l)) 23 (0, 0)), (gx, .cells (fa 18 (dg (N / c))) 76 (0, 0)), (gx + 1, .cells (fa 8 (dg (N % c))) 23 (0, 0)), (gn, .cells (fa 18 (dg (N / l))) 76 (0, 0)), (go, .cells (fa 8 (dg ov)) 23 (0, 0)), (gc, .cells (fa 8 (dg c)) 23 (0, 0)), (w.heap.size, .cells (frcC (s1) (n1) (d1)) 25 (0, 0)), (w.heap.size + 1, .cells (frcC (s2) (n2) (d2)) 25 (0, 0)), (w.heap.size + 1 + 1, .cells (frcC (s') (n') (d')) 25 (0, 0))] (i := 11) rfl Tw.kr rfl rfl rfl
     (st_f (neg := s') (n := n') (d := d') rfl Tw.kr Tw.kr (.tail _ (.tail _ (.tail _ Tw.m5))) Tw.om size27 (by intro p hp; simp only [List.mem_cons, List.not_mem_nil, or_false] at hp; rcases hp with rfl | rfl | rfl | rfl | rfl | rfl | rfl | rfl | rfl; exact .inr ⟨by simp, by simp only; omega⟩; exact .inr ⟨by simp, by simp only; omega⟩; exact .inr ⟨by simp, by simp only; omega⟩; exact .inr ⟨by simp, by simp only; omega⟩; exact .inr ⟨by simp, by simp only; omega⟩; exact .inr ⟨by simp, by simp only; omega⟩; exact .inr ⟨by simp, by simp only; omega⟩; exact .inr ⟨by simp, by simp only; omega⟩; exact .inl rfl)) ?_
   refine wpU_pY (i := 12) (v := .int .i64 ee) rfl rfl Tw.kr Tw.kr rfl Tw.kf Tw.pu ?_
   refine wpU_done Tw.kr (fun W4 hW4 => ?_) _
   go_wp2_with fail
   exact bodyPost_ret (res_cell_tmp rfl rfl (hW4.2 _ (.tail _ (.tail _ (.tail _ Tw.m5)))) Tryz.underlying25 rfl (by rw [size27, frcC_size])) rfl ⟨by rw [HPV.out]; rfl, hW4.1⟩
end Go.Proofs.YtalmflgkbmnghaaGreatDoor
namespace Go.Proofs.YtalmflgkbmnghaaGreatDoor
open Go.RowKit Tf

set_option maxHeartbeats 400000 in
theorem magnitude_any (n : Int) (h1 : -9223372036854775808 ≤ n) (h2 : n ≤ 9223372036854775807) (w : World) :
   Calls Tryz.prog 75 #[.int .i64 n] w fun e w' => e = .returned (.int .u64 (n.natAbs : Int)) ∧ w = w' := by
 go_enter Tryz.func75, Tryz.ntmps75
 by_cases h : n < 0
 all_goals
   go_wp2
   go_ret
   refine ⟨ret_int ?_, rfl⟩
   first | omega | (simp only [wrap64, IntKind.wrap_u64]; omega)
end Go.Proofs.YtalmflgkbmnghaaGreatDoor
namespace Go.Proofs.YtalmflgkbmnghaaGreatDoor
open Go.RowKit Tf
theorem run_build27 (s : Bool) (n d : Nat) (w : World) : (Instr.build 25 #[(0, .bool s), (1, .agg (fa 8 (dg n))), (2, .agg (fa 8 (dg d)))]).run Tryz.prog w = .ok (.agg (frcC s n d)) w := by kernel_rfl
theorem wpList_bf {ops : Array Oper} {rest : List Oper} {o : Oper} {a : Act} {w : World} {Q : Exit → Act → World → Prop} (hgd : o.guard = none) {x y z : Operand} {s : Bool} {n d : Nat} (ho : o.op = .build 25 #[(0, x), (1, y), (2, z)])
   (hx : a.eval x = .bool s) (hy : a.eval y = .agg (fa 8 (dg n))) (hz : a.eval z = .agg (fa 8 (dg d)))
   (h : wpList Tryz.prog ops Q rest (a.put o.dst (.agg (frcC s n d))) w) : wpList Tryz.prog ops Q (o :: rest) a w :=
 wpList_plain hgd fun _ hK => by
   unfold Oper.wp execOp
   simp only [ho]
   have hm : (#[((0 : Nat), x), (1, y), (2, z)].map fun (i, x) => (i, a.eval x)) = #[(0, .bool s), (1, .agg (fa 8 (dg n))), (2, .agg (fa 8 (dg d)))] := by
     simp [hx, hy, hz]
   rw [Sem.run_bind]
   have hr := run_build27 s n d w
   rw [← hm] at hr
   rw [hr]
   exact hK _ _ h
set_option maxRecDepth 100000 in
set_option maxHeartbeats 1000000 in
theorem of_any (n : Int) (h1 : -9223372036854775808 ≤ n) (h2 : n ≤ 9223372036854775807) (w : World) :
   Calls Tryz.prog 39 #[.int .i64 n] w fun e w' => e = .returned (frc (decide (n < 0)) n.natAbs 1) ∧ Below w.heap.size w w' := by
 have HM := Lib.hid (fun W => magnitude_any n h1 h2 W)
 have h3 : n.natAbs < 18446744073709551616 := by omega
 clear h1 h2
 generalize n.natAbs = m at *
 have H3 := Lib.hid h3
 clear h3
 unfold frc
 go_enter Tryz.func39, Tryz.ntmps39
 go_upto_region 1 with (fail)
 have hK := KS.one w (.cells (frcC false 0 0) 25)
 obtain ⟨W, hW⟩ : ∃ W, W = w.alloc (.cells (frcC false 0 0) 25) := ⟨_, rfl⟩
 rw [← hW] at hK
 rw [frc_zero] at hW
 rw [← hW]
 clear hW
 have HK := Lib.hid hK
 clear hK
 go_wp2_with (first
   | (go_at_call 75; refine (HM.out _).mono ?_; rintro e w1 ⟨rfl, rfl⟩)
   | (go_at_call 77; refine (fromSmall_any m H3.out _).mono ?_; rintro e w1 ⟨rfl, hb1⟩; have HK2 := Lib.hid (HK.out.below hb1); clear hb1; unfold num)
   | (refine wpList_bf (s := decide (n < 0)) (n := m) (d := 1) rfl rfl rfl rfl (by rw [fa_one8]; rfl) ?_)
   | (refine wpList_stf (neg := decide (n < 0)) (n := m) (d := 1) (neg' := false) (n' := 0) (d' := 0) rfl rfl rfl rfl (HK2.out.2 _ Tw.m0) size27 ?_))
 exact bodyPost_ret (res_cell rfl rfl (setRow_heap _ _ _ _ _ _ (HK2.out.2 _ Tw.m0)) Tryz.underlying25 rfl (by rw [size27, frcC_size])) rfl ⟨rfl, below_setRow HK2.out.1 Tw.om _⟩
end Go.Proofs.YtalmflgkbmnghaaGreatDoor
namespace Go.Proofs.YtalmflgkbmnghaaGreatDoor
open Go.RowKit Tf
variable [ShLZ]
set_option maxRecDepth 100000 in
set_option maxHeartbeats 1000000 in
theorem ratio_any (a b : Int) (a1 : -9223372036854775808 ≤ a) (a2 : a ≤ 9223372036854775807) (b1 : -9223372036854775808 ≤ b) (b2 : b ≤ 9223372036854775807) (hb : b ≠ 0) (w : World) :
   Calls Tryz.prog 37 #[.int .i64 a, .int .i64 b] w fun e w' => e = .returned (.tuple #[frc (decide (a ≠ 0) && (decide (a < 0) != decide (b < 0))) (a.natAbs / Nat.gcd a.natAbs b.natAbs) (b.natAbs / Nat.gcd a.natAbs b.natAbs), .int .i64 0]) ∧ Below w.heap.size w w' := by
 have HA := Lib.hid (fun W => magnitude_any a a1 a2 W)
 have HB := Lib.hid (fun W => magnitude_any b b1 b2 W)
 have x1 : a.natAbs < 18446744073709551616 := by omega
 have y1 : b.natAbs < 18446744073709551616 := by omega
 have y0 : 0 < b.natAbs := by omega
 clear a1 a2 b1 b2
 generalize a.natAbs = x at *
 generalize b.natAbs = y at *
 have HY := Lib.hid y0
 have HX := Lib.hid (⟨x1, y1, Nat.gcd_pos_of_pos_right x y0⟩ : x < 18446744073709551616 ∧ y < 18446744073709551616 ∧ 0 < Nat.gcd x y)
 clear x1 y1 y0
 unfold frc
 have hbz : (b == 0) = false := by simp [hb]
 go_enter Tryz.func37, Tryz.ntmps37
 go_upto_region 1 with (fail)
 have hK := KS.one w (.cells (frcC false 0 0) 25)
 obtain ⟨W, hW⟩ : ∃ W, W = w.alloc (.cells (frcC false 0 0) 25) := ⟨_, rfl⟩
 rw [← hW] at hK
 rw [frc_zero] at hW
 rw [← hW]
 clear hW
 have HK := Lib.hid hK
 clear hK
 by_cases ha : a = 0
 · subst ha
   go_wp2_with (first
     | (go_at_call 75; with_reducible refine (HA.out _).mono ?_; rintro e w1 ⟨rfl, rfl⟩)
     | (go_at_call 75; with_reducible refine (HB.out _).mono ?_; rintro e w1 ⟨rfl, rfl⟩)
     | (go_at_call 76; refine (gcdSmall_any x y HX.out.1 HX.out.2.1 _).mono ?_; rintro e w2 ⟨rfl, hb1⟩; have HK2 := Lib.hid (HK.out.below hb1); clear hb1))
   have X1 := HX.out.1
   have Y1 := HX.out.2.1
   have G0 := HX.out.2.2
   have G1 : Nat.gcd x y < 18446744073709551616 := Nat.lt_of_le_of_lt (Nat.gcd_le_right x HY.out) Y1
   refine wp_region_U [(w.heap.size, .cells (frcC (false) (0) (0)) 25 (0, 0))] Tw.kr (HK2.out) ?_
   refine wpU_pY (i := 0) (v := .bool (false)) rfl rfl Tw.kr Tw.kr rfl Tw.kf Tw.pu ?_
   refine wpU_pY (i := 1) (v := .int .u64 (x : Int)) rfl rfl Tw.kr Tw.kr rfl Tw.kf Tw.pu ?_
   refine wpU_pY (i := 2) (v := .int .u64 ((Nat.gcd x y : Nat) : Int)) rfl rfl Tw.kr Tw.kr rfl Tw.kf Tw.pu ?_
   refine wpU_pY (i := 3) (v := .int .u64 ((x / Nat.gcd x y : Nat) : Int)) rfl rfl Tw.kr Tw.kr rfl (run_binY rfl (vx := .int .u64 (x : Int)) (vy := .int .u64 ((Nat.gcd x y : Nat) : Int)) Tw.kr Tw.kr fun w => run_quo64 w G1 G0 X1) Tw.pu ?_
   refine wpU_vY (i := 4) (v := num (x / Nat.gcd x y)) rfl rfl Tw.kr Tw.kr rfl (yb_call (f := 77) (args := #[.int .u64 ((x / Nat.gcd x y : Nat) : Int)]) Tw.kf fun W hW => fromSmall_any (x / Nat.gcd x y) (Nat.lt_of_le_of_lt (Nat.div_le_self _ _) X1) W) Tw.pu ?_
   refine wpU_pY (i := 5) (v := .int .u64 (y : Int)) rfl rfl Tw.kr Tw.kr rfl Tw.kf Tw.pu ?_
   refine wpU_pY (i := 6) (v := .int .u64 ((Nat.gcd x y : Nat) : Int)) rfl rfl Tw.kr Tw.kr rfl Tw.kf Tw.pu ?_
   refine wpU_pY (i := 7) (v := .int .u64 ((y / Nat.gcd x y : Nat) : Int)) rfl rfl Tw.kr Tw.kr rfl (run_binY rfl (vx := .int .u64 (y : Int)) (vy := .int .u64 ((Nat.gcd x y : Nat) : Int)) Tw.kr Tw.kr fun w => run_quo64 w G1 G0 Y1) Tw.pu ?_
   refine wpU_vY (i := 8) (v := num (y / Nat.gcd x y)) rfl rfl Tw.kr Tw.kr rfl (yb_call (f := 77) (args := #[.int .u64 ((y / Nat.gcd x y : Nat) : Int)]) Tw.kf fun W hW => fromSmall_any (y / Nat.gcd x y) (Nat.lt_of_le_of_lt (Nat.div_le_self _ _) Y1) W) Tw.pu ?_
   refine wpU_pY (i := 9) (v := frc (false) (x / Nat.gcd x y) (y / Nat.gcd x y)) rfl rfl Tw.kr Tw.kr rfl Tw.kf Tw.pu ?_
   refine wpU_sY [(w.heap.size, .cells (frcC (false) (x / Nat.gcd x y) (y / Nat.gcd x y)) 25 (0, 0))] (i := 10) rfl Tw.kr rfl rfl rfl
     (st_f (neg := false) (n := x / Nat.gcd x y) (d := y / Nat.gcd x y) rfl Tw.kr Tw.kr Tw.m0 Tw.om size27 (by intro p hp; simp only [List.mem_cons, List.not_mem_nil, or_false] at hp; rcases hp with rfl; exact .inl rfl)) ?_
   refine wpU_pY (i := 11) (v := .int .i64 0) rfl rfl Tw.kr Tw.kr rfl Tw.kf Tw.pu ?_
   refine wpU_done Tw.kr (fun W4 hW4 => ?_) _
   go_wp2_with fail
   refine bodyPost_ret (res_cell_tmp rfl rfl (hW4.2 _ Tw.m0) Tryz.underlying25 rfl (by rw [size27, frcC_size])) rfl ⟨?_, hW4.1⟩
   simp [frc]
 · have hab : (a != 0) = true := by simp [ha]
   go_wp2_with (first
     | (go_at_call 75; with_reducible refine (HA.out _).mono ?_; rintro e w1 ⟨rfl, rfl⟩)
     | (go_at_call 75; with_reducible refine (HB.out _).mono ?_; rintro e w1 ⟨rfl, rfl⟩)
     | (go_at_call 76; refine (gcdSmall_any x y HX.out.1 HX.out.2.1 _).mono ?_; rintro e w2 ⟨rfl, hb1⟩; have HK2 := Lib.hid (HK.out.below hb1); clear hb1))
   have X1 := HX.out.1
   have Y1 := HX.out.2.1
   have G0 := HX.out.2.2
   have G1 : Nat.gcd x y < 18446744073709551616 := Nat.lt_of_le_of_lt (Nat.gcd_le_right x HY.out) Y1
   refine wp_region_U [(w.heap.size, .cells (frcC (false) (0) (0)) 25 (0, 0))] Tw.kr (HK2.out) ?_
   refine wpU_pY (i := 0) (v := .bool (decide (a < 0) != decide (b < 0))) rfl rfl Tw.kr Tw.kr rfl Tw.kf Tw.pu ?_
   refine wpU_pY (i := 1) (v := .int .u64 (x : Int)) rfl rfl Tw.kr Tw.kr rfl Tw.kf Tw.pu ?_
   refine wpU_pY (i := 2) (v := .int .u64 ((Nat.gcd x y : Nat) : Int)) rfl rfl Tw.kr Tw.kr rfl Tw.kf Tw.pu ?_
   refine wpU_pY (i := 3) (v := .int .u64 ((x / Nat.gcd x y : Nat) : Int)) rfl rfl Tw.kr Tw.kr rfl (run_binY rfl (vx := .int .u64 (x : Int)) (vy := .int .u64 ((Nat.gcd x y : Nat) : Int)) Tw.kr Tw.kr fun w => run_quo64 w G1 G0 X1) Tw.pu ?_
   refine wpU_vY (i := 4) (v := num (x / Nat.gcd x y)) rfl rfl Tw.kr Tw.kr rfl (yb_call (f := 77) (args := #[.int .u64 ((x / Nat.gcd x y : Nat) : Int)]) Tw.kf fun W hW => fromSmall_any (x / Nat.gcd x y) (Nat.lt_of_le_of_lt (Nat.div_le_self _ _) X1) W) Tw.pu ?_
   refine wpU_pY (i := 5) (v := .int .u64 (y : Int)) rfl rfl Tw.kr Tw.kr rfl Tw.kf Tw.pu ?_
   refine wpU_pY (i := 6) (v := .int .u64 ((Nat.gcd x y : Nat) : Int)) rfl rfl Tw.kr Tw.kr rfl Tw.kf Tw.pu ?_
   refine wpU_pY (i := 7) (v := .int .u64 ((y / Nat.gcd x y : Nat) : Int)) rfl rfl Tw.kr Tw.kr rfl (run_binY rfl (vx := .int .u64 (y : Int)) (vy := .int .u64 ((Nat.gcd x y : Nat) : Int)) Tw.kr Tw.kr fun w => run_quo64 w G1 G0 Y1) Tw.pu ?_
   refine wpU_vY (i := 8) (v := num (y / Nat.gcd x y)) rfl rfl Tw.kr Tw.kr rfl (yb_call (f := 77) (args := #[.int .u64 ((y / Nat.gcd x y : Nat) : Int)]) Tw.kf fun W hW => fromSmall_any (y / Nat.gcd x y) (Nat.lt_of_le_of_lt (Nat.div_le_self _ _) Y1) W) Tw.pu ?_
   refine wpU_pY (i := 9) (v := frc (decide (a < 0) != decide (b < 0)) (x / Nat.gcd x y) (y / Nat.gcd x y)) rfl rfl Tw.kr Tw.kr rfl Tw.kf Tw.pu ?_
   refine wpU_sY [(w.heap.size, .cells (frcC (decide (a < 0) != decide (b < 0)) (x / Nat.gcd x y) (y / Nat.gcd x y)) 25 (0, 0))] (i := 10) rfl Tw.kr rfl rfl rfl
     (st_f (neg := decide (a < 0) != decide (b < 0)) (n := x / Nat.gcd x y) (d := y / Nat.gcd x y) rfl Tw.kr Tw.kr Tw.m0 Tw.om size27 (by intro p hp; simp only [List.mem_cons, List.not_mem_nil, or_false] at hp; rcases hp with rfl; exact .inl rfl)) ?_
   refine wpU_pY (i := 11) (v := .int .i64 0) rfl rfl Tw.kr Tw.kr rfl Tw.kf Tw.pu ?_
   refine wpU_done Tw.kr (fun W4 hW4 => ?_) _
   go_wp2_with fail
   refine bodyPost_ret (res_cell_tmp rfl rfl (hW4.2 _ Tw.m0) Tryz.underlying25 rfl (by rw [size27, frcC_size])) rfl ⟨?_, hW4.1⟩
   simp [frc, ha]

set_option maxRecDepth 100000 in
set_option maxHeartbeats 400000 in
theorem ratio_zero (a : Int) (w : World) :
   Calls Tryz.prog 37 #[.int .i64 a, .int .i64 0] w fun e w' => e = .returned (.tuple #[frc false 0 0, .int .i64 2]) ∧ Below w.heap.size w w' := by
 unfold frc
 go_enter Tryz.func37, Tryz.ntmps37
 go_upto_region 1 with (fail)
 have hK := KS.one w (.cells (frcC false 0 0) 25)
 obtain ⟨W, hW⟩ : ∃ W, W = w.alloc (.cells (frcC false 0 0) 25) := ⟨_, rfl⟩
 rw [← hW] at hK
 rw [frc_zero] at hW
 rw [← hW]
 clear hW
 have HK := Lib.hid hK
 clear hK
 go_wp2_with (first
   | (refine wpList_stf (neg := false) (n := 0) (d := 0) (neg' := false) (n' := 0) (d' := 0) rfl rfl rfl (by rw [frc_zero]; rfl) (HK.out.2 _ Tw.m0) size27 ?_))
 exact bodyPost_ret (res_cell_tmp rfl rfl (setRow_heap _ _ _ _ _ _ (HK.out.2 _ Tw.m0)) Tryz.underlying25 rfl (by rw [size27, frcC_size])) rfl ⟨rfl, below_setRow HK.out.1 Tw.om _⟩
end Go.Proofs.YtalmflgkbmnghaaGreatDoor
namespace Go.Proofs.YtalmflgkbmnghaaGreatDoor
open Go.RowKit Tf
variable [ShLZ]
def addV (s1 : Bool) (n1 d1 : Nat) (s2 : Bool) (n2 d2 : Nat) : Value :=
 packV (psS s1 s2 (n1 * (d2 / Nat.gcd d1 d2)) (n2 * (d1 / Nat.gcd d1 d2)))
   (psN s1 s2 (n1 * (d2 / Nat.gcd d1 d2)) (n2 * (d1 / Nat.gcd d1 d2)) / Nat.gcd (psN s1 s2 (n1 * (d2 / Nat.gcd d1 d2)) (n2 * (d1 / Nat.gcd d1 d2))) (Nat.gcd d1 d2))
   (d1 / Nat.gcd d1 d2 * (d2 / Nat.gcd (psN s1 s2 (n1 * (d2 / Nat.gcd d1 d2)) (n2 * (d1 / Nat.gcd d1 d2))) (Nat.gcd d1 d2)))
theorem psN_le (x y : Bool) (a b : Nat) : psN x y a b ≤ a + b := by
 unfold psN; split
 · exact Nat.le_refl _
 · split <;> omega
theorem two_R16 {u v : Nat} (hu : u < R 16) (hv : v < R 16) : u + v < R 17 := by rw [R_succ]; omega
theorem mul_lt16 {a b : Nat} (ha : a < R 8) (hb : b < R 8) : a * b < R 16 := by
 have h : a * b < R (8 + 8) := by rw [R_add]; exact Nat.mul_lt_mul'' ha hb
 exact h
theorem add_any (s1 s2 : Bool) (n1 d1 n2 d2 : Nat) (hn1 : n1 < R 8) (hd1 : d1 < R 8) (hn2 : n2 < R 8) (hd2 : d2 < R 8) (h1 : 0 < d1) (h2 : 0 < d2) (w : World) :
   Calls Tryz.prog 42 #[frc s1 n1 d1, frc s2 n2 d2] w fun e w' => e = .returned (addV s1 n1 d1 s2 n2 d2) ∧ Below w.heap.size w w' := by
 unfold addV
 have hc0 : 0 < Nat.gcd d1 d2 := Nat.gcd_pos_of_pos_right d1 h2
 have hc : Nat.gcd d1 d2 < R 8 := Nat.lt_of_le_of_lt (Nat.gcd_le_right d1 h2) hd2
 have hq : d2 / Nat.gcd d1 d2 < R 8 := Nat.lt_of_le_of_lt (Nat.div_le_self _ _) hd2
 have ho : d1 / Nat.gcd d1 d2 < R 8 := Nat.lt_of_le_of_lt (Nat.div_le_self _ _) hd1
 have HG := fun W => gcd_any d1 d2 hd1 hd2 W
 have HO := fun W => quotient_any d1 (Nat.gcd d1 d2) hd1 hc hc0 W
 have HQ := fun W => quotient_any d2 (Nat.gcd d1 d2) hd2 hc hc0 W
 generalize Nat.gcd d1 d2 = c at *
 generalize hqd : d2 / c = q2 at *
 generalize hod : d1 / c = ov at *
 have hu : n1 * q2 < R 16 := mul_lt16 hn1 hq
 have hv : n2 * ov < R 16 := mul_lt16 hn2 ho
 have HU := fun W => times_any n1 q2 hn1 hq W
 have HV := fun W => times_any n2 ov hn2 ho W
 generalize n1 * q2 = u at *
 generalize n2 * ov = v at *
 have huv := two_R16 hu hv
 have hN : psN s1 s2 u v < R 17 := Nat.lt_of_le_of_lt (psN_le s1 s2 u v) huv
 have HP := fun W => plusSigned_any s1 s2 u v (lt_R_of_le huv Tw.om) W
 generalize psN s1 s2 u v = N at *
 generalize psS s1 s2 u v = S at *
 have hl0 : 0 < Nat.gcd N c := Nat.gcd_pos_of_pos_right N hc0
 have hl : Nat.gcd N c < R 8 := Nat.lt_of_le_of_lt (Nat.gcd_le_right N hc0) hc
 have hlg : Nat.gcd (N % c) c = Nat.gcd N c := by rw [Nat.gcd_comm N c, Nat.gcd_rec c N]
 have HL := fun W => gcd_any (N % c) c (Nat.lt_trans (Nat.mod_lt N hc0) hc) hc W
 rw [hlg] at HL
 have hone : c = 1 → Nat.gcd N c = 1 := fun h => by rw [h, Nat.gcd_one_right]
 clear hlg
 generalize Nat.gcd N c = l at *
 have hdl : d2 / l < R 8 := Nat.lt_of_le_of_lt (Nat.div_le_self _ _) hd2
 have hNl : N / l < R 17 := Nat.lt_of_le_of_lt (Nat.div_le_self _ _) hN
 obtain ⟨s', n', d', ee, hpv⟩ := packV_shape S (N / l) (ov * (d2 / l))
 exact add_walk s1 s2 S n1 d1 n2 d2 c ov q2 u v N l s' n' d' ee (packV S (N / l) (ov * (d2 / l))) hc
   (fun h => by rw [hone h, Nat.div_one, Nat.div_one, ← hod, h, Nat.div_one]) (fun _ => rfl) hpv HG HO HQ HU HV HP (fun W => times_any d1 d2 hd1 hd2 W)
   (fun W => divide_any N c hN hc hc0 W) HL (fun W => divide_any N l hN hl hl0 W) (fun W => quotient_any d2 l hd2 hl hl0 W) (fun W => times_any ov (d2 / l) ho hdl W)
   (fun W => pack_any S N (d1 * d2) (lt_R_of_le hN Tw.om) (lt_R_of_le (mul_lt16 hd1 hd2) Tw.om) W)
   (fun W => pack_any S (N / l) (ov * (d2 / l)) (lt_R_of_le hNl Tw.om) (lt_R_of_le (mul_lt16 ho hdl) Tw.om) W) w
end Go.Proofs.YtalmflgkbmnghaaGreatDoor
namespace Go.Proofs.YtalmflgkbmnghaaGreatDoor
open Go.RowKit Tf
variable [ShLZ]
def argV : Value := .tuple #[.agg (frcC false 0 0), .int .i64 2]
theorem right_den {s : Bool} {n d : Nat} (h : rightB s n d = true) : 0 < d := by
 unfold rightB at h
 split at h
 · simp at h; omega
 · simp at h; omega

set_option maxRecDepth 100000 in
set_option maxHeartbeats 2000000 in
theorem Add_any (s1 s2 : Bool) (n1 d1 n2 d2 : Nat) (hn1 : n1 < R 8) (hd1 : d1 < R 8) (hn2 : n2 < R 8) (hd2 : d2 < R 8) (w : World) :
   Calls Tryz.prog 15 #[frc s1 n1 d1, frc s2 n2 d2] w fun e w' => e = .returned (if (rightB s1 n1 d1 && rightB s2 n2 d2) = true then addV s1 n1 d1 s2 n2 d2 else argV) ∧ Below w.heap.size w w' := by
 have HR1 := Lib.hid (fun W => right_any s1 n1 d1 hn1 hd1 W)
 have HR2 := Lib.hid (fun W => right_any s2 n2 d2 hn2 hd2 W)
 unfold Hid frc at HR1 HR2
 have HC : rightB s1 n1 d1 = true → rightB s2 n2 d2 = true → Hid (∀ W, Calls Tryz.prog 42 #[.agg (frcC s1 n1 d1), .agg (frcC s2 n2 d2)] W fun e w' => e = .returned (addV s1 n1 d1 s2 n2 d2) ∧ Below W.heap.size W w') := fun h1 h2 W =>
   add_any s1 s2 n1 d1 n2 d2 hn1 hd1 hn2 hd2 (right_den h1) (right_den h2) W
 obtain ⟨s', n', d', ee, hp⟩ : ∃ s' n' d' e, addV s1 n1 d1 s2 n2 d2 = .tuple #[.agg (frcC s' n' d'), .int .i64 e] := packV_shape _ _ _
 have HP := Lib.hid hp
 clear hp hn1 hd1 hn2 hd2
 unfold frc
 generalize addV s1 n1 d1 s2 n2 d2 = CV at *
 generalize rightB s1 n1 d1 = r1 at *
 generalize rightB s2 n2 d2 = r2 at *
 have HR1 := Lib.hid HR1
 have HR2 := Lib.hid HR2
 go_enter Tryz.func15, Tryz.ntmps15
 go_upto_region 1 with (fail)
 have hK := KS.three w (.cells (frcC s1 n1 d1) 25) (.cells (frcC s2 n2 d2) 25) (.cells (frcC false 0 0) 25)
 obtain ⟨W, hW⟩ : ∃ W, W = ((w.alloc (.cells (frcC s1 n1 d1) 25)).alloc (.cells (frcC s2 n2 d2) 25)).alloc (.cells (frcC false 0 0) 25) := ⟨_, rfl⟩
 rw [← hW] at hK
 rw [frc_zero] at hW
 rw [← hW]
 clear hW
 have HK := Lib.hid hK
 clear hK
 cases r1
 · have HV := Lib.hid (show (if (false && r2) = true then CV else argV) = argV from rfl)
   clear HC
   go_wp2_with (first
     | (refine wpList_ldf rfl rfl rfl (HK.out.2 _ Tw.m0) Tryz.underlying25 rfl size27 ?_)
     | (refine wpList_guard rfl ?_; refine wpList_ldf rfl rfl rfl (HK1.out.2 _ Tw.m1) Tryz.underlying25 rfl size27 ?_)
     | (go_at_call 17; with_reducible refine (HR1.out _).mono ?_; rintro e w1 ⟨rfl, hb1⟩; have HK1 := Lib.hid (HK.out.below hb1); clear hb1)
     | (go_at_call 17; with_reducible refine (HR2.out _).mono ?_; rintro e w2 ⟨rfl, hb1⟩; have HK2 := Lib.hid (HK1.out.below hb1); clear hb1)
     | (refine wpList_stf (neg := false) (n := 0) (d := 0) (neg' := false) (n' := 0) (d' := 0) rfl rfl rfl (by rw [frc_zero]; rfl) (HK1.out.2 _ Tw.m2) size27 ?_))
   exact bodyPost_ret (res_cell_tmp rfl rfl (setRow_heap _ _ _ _ _ _ (HK1.out.2 _ Tw.m2)) Tryz.underlying25 rfl (by rw [size27, frcC_size])) rfl ⟨rfl, below_setRow HK1.out.1 Tw.om _⟩
 · cases r2
   · have HV := Lib.hid (show (if (true && false) = true then CV else argV) = argV from rfl)
     clear HC
     go_wp2_with (first
       | (refine wpList_ldf rfl rfl rfl (HK.out.2 _ Tw.m0) Tryz.underlying25 rfl size27 ?_)
       | (refine wpList_guard rfl ?_; refine wpList_ldf rfl rfl rfl (HK1.out.2 _ Tw.m1) Tryz.underlying25 rfl size27 ?_)
       | (go_at_call 17; with_reducible refine (HR1.out _).mono ?_; rintro e w1 ⟨rfl, hb1⟩; have HK1 := Lib.hid (HK.out.below hb1); clear hb1)
       | (go_at_call 17; with_reducible refine (HR2.out _).mono ?_; rintro e w2 ⟨rfl, hb1⟩; have HK2 := Lib.hid (HK1.out.below hb1); clear hb1)
       | (refine wpList_stf (neg := false) (n := 0) (d := 0) (neg' := false) (n' := 0) (d' := 0) rfl rfl rfl (by rw [frc_zero]; rfl) (HK2.out.2 _ Tw.m2) size27 ?_))
     exact bodyPost_ret (res_cell_tmp rfl rfl (setRow_heap _ _ _ _ _ _ (HK2.out.2 _ Tw.m2)) Tryz.underlying25 rfl (by rw [size27, frcC_size])) rfl ⟨rfl, below_setRow HK2.out.1 Tw.om _⟩
   skip
   have HC2 := HC rfl rfl
   clear HC
   go_wp2_with (first
     | (refine wpList_ldf rfl rfl rfl (HK.out.2 _ Tw.m0) Tryz.underlying25 rfl size27 ?_)
     | (refine wpList_guard rfl ?_; refine wpList_ldf rfl rfl rfl (HK1.out.2 _ Tw.m1) Tryz.underlying25 rfl size27 ?_)
     | (go_at_call 17; with_reducible refine (HR1.out _).mono ?_; rintro e w1 ⟨rfl, hb1⟩; have HK1 := Lib.hid (HK.out.below hb1); clear hb1)
     | (go_at_call 17; with_reducible refine (HR2.out _).mono ?_; rintro e w2 ⟨rfl, hb1⟩; have HK2 := Lib.hid (HK1.out.below hb1); clear hb1)
     | (refine wpList_ldf rfl rfl rfl (HK2.out.2 _ Tw.m0) Tryz.underlying25 rfl size27 ?_)
     | (refine wpList_ldf rfl rfl rfl (HK2.out.2 _ Tw.m1) Tryz.underlying25 rfl size27 ?_)
     | (go_at_call 42; refine (HC2.out _).mono ?_; rintro e w3 ⟨rfl, hb1⟩; have HK3 := Lib.hid (HK2.out.below hb1); clear hb1; rw [HP.out])
     | (refine wpList_stf (neg := s') (n := n') (d := d') (neg' := false) (n' := 0) (d' := 0) rfl rfl rfl rfl (HK3.out.2 _ Tw.m2) size27 ?_))
   exact bodyPost_ret (res_cell_tmp rfl rfl (setRow_heap _ _ _ _ _ _ (HK3.out.2 _ Tw.m2)) Tryz.underlying25 rfl (by rw [size27, frcC_size])) rfl ⟨by show _ = Ending.returned CV; rw [HP.out]; rfl, below_setRow HK3.out.1 Tw.om _⟩

def mulV (s1 : Bool) (n1 d1 : Nat) (s2 : Bool) (n2 d2 : Nat) : Value := packV (s1 != s2) (n1 / Nat.gcd n1 d2 * (n2 / Nat.gcd n2 d1)) (d1 / Nat.gcd n2 d1 * (d2 / Nat.gcd n1 d2))

set_option maxRecDepth 100000 in
set_option maxHeartbeats 2000000 in
theorem Mul_any (s1 s2 : Bool) (n1 d1 n2 d2 : Nat) (hn1 : n1 < R 8) (hd1 : d1 < R 8) (hn2 : n2 < R 8) (hd2 : d2 < R 8) (w : World) :
   Calls Tryz.prog 22 #[frc s1 n1 d1, frc s2 n2 d2] w fun e w' => e = .returned (if (rightB s1 n1 d1 && rightB s2 n2 d2) = true then mulV s1 n1 d1 s2 n2 d2 else argV) ∧ Below w.heap.size w w' := by
 have HR1 := Lib.hid (fun W => right_any s1 n1 d1 hn1 hd1 W)
 have HR2 := Lib.hid (fun W => right_any s2 n2 d2 hn2 hd2 W)
 unfold Hid frc at HR1 HR2
 have HC : rightB s1 n1 d1 = true → rightB s2 n2 d2 = true → Hid (∀ W, Calls Tryz.prog 53 #[.agg (frcC s1 n1 d1), .agg (frcC s2 n2 d2)] W fun e w' => e = .returned (mulV s1 n1 d1 s2 n2 d2) ∧ Below W.heap.size W w') := fun h1 h2 W =>
   mul_any s1 s2 n1 d1 n2 d2 hn1 hd1 hn2 hd2 (right_den h1) (right_den h2) W
 obtain ⟨s', n', d', ee, hp⟩ : ∃ s' n' d' e, mulV s1 n1 d1 s2 n2 d2 = .tuple #[.agg (frcC s' n' d'), .int .i64 e] := packV_shape _ _ _
 have HP := Lib.hid hp
 clear hp hn1 hd1 hn2 hd2
 unfold frc
 generalize mulV s1 n1 d1 s2 n2 d2 = CV at *
 generalize rightB s1 n1 d1 = r1 at *
 generalize rightB s2 n2 d2 = r2 at *
 have HR1 := Lib.hid HR1
 have HR2 := Lib.hid HR2
 go_enter Tryz.func22, Tryz.ntmps22
 go_upto_region 1 with (fail)
 have hK := KS.three w (.cells (frcC s1 n1 d1) 25) (.cells (frcC s2 n2 d2) 25) (.cells (frcC false 0 0) 25)
 obtain ⟨W, hW⟩ : ∃ W, W = ((w.alloc (.cells (frcC s1 n1 d1) 25)).alloc (.cells (frcC s2 n2 d2) 25)).alloc (.cells (frcC false 0 0) 25) := ⟨_, rfl⟩
 rw [← hW] at hK
 rw [frc_zero] at hW
 rw [← hW]
 clear hW
 have HK := Lib.hid hK
 clear hK
 cases r1
 · have HV := Lib.hid (show (if (false && r2) = true then CV else argV) = argV from rfl)
   clear HC
   go_wp2_with (first
     | (refine wpList_ldf rfl rfl rfl (HK.out.2 _ Tw.m0) Tryz.underlying25 rfl size27 ?_)
     | (refine wpList_guard rfl ?_; refine wpList_ldf rfl rfl rfl (HK1.out.2 _ Tw.m1) Tryz.underlying25 rfl size27 ?_)
     | (go_at_call 17; with_reducible refine (HR1.out _).mono ?_; rintro e w1 ⟨rfl, hb1⟩; have HK1 := Lib.hid (HK.out.below hb1); clear hb1)
     | (go_at_call 17; with_reducible refine (HR2.out _).mono ?_; rintro e w2 ⟨rfl, hb1⟩; have HK2 := Lib.hid (HK1.out.below hb1); clear hb1)
     | (refine wpList_stf (neg := false) (n := 0) (d := 0) (neg' := false) (n' := 0) (d' := 0) rfl rfl rfl (by rw [frc_zero]; rfl) (HK1.out.2 _ Tw.m2) size27 ?_))
   exact bodyPost_ret (res_cell_tmp rfl rfl (setRow_heap _ _ _ _ _ _ (HK1.out.2 _ Tw.m2)) Tryz.underlying25 rfl (by rw [size27, frcC_size])) rfl ⟨rfl, below_setRow HK1.out.1 Tw.om _⟩
 · cases r2
   · have HV := Lib.hid (show (if (true && false) = true then CV else argV) = argV from rfl)
     clear HC
     go_wp2_with (first
       | (refine wpList_ldf rfl rfl rfl (HK.out.2 _ Tw.m0) Tryz.underlying25 rfl size27 ?_)
       | (refine wpList_guard rfl ?_; refine wpList_ldf rfl rfl rfl (HK1.out.2 _ Tw.m1) Tryz.underlying25 rfl size27 ?_)
       | (go_at_call 17; with_reducible refine (HR1.out _).mono ?_; rintro e w1 ⟨rfl, hb1⟩; have HK1 := Lib.hid (HK.out.below hb1); clear hb1)
       | (go_at_call 17; with_reducible refine (HR2.out _).mono ?_; rintro e w2 ⟨rfl, hb1⟩; have HK2 := Lib.hid (HK1.out.below hb1); clear hb1)
       | (refine wpList_stf (neg := false) (n := 0) (d := 0) (neg' := false) (n' := 0) (d' := 0) rfl rfl rfl (by rw [frc_zero]; rfl) (HK2.out.2 _ Tw.m2) size27 ?_))
     exact bodyPost_ret (res_cell_tmp rfl rfl (setRow_heap _ _ _ _ _ _ (HK2.out.2 _ Tw.m2)) Tryz.underlying25 rfl (by rw [size27, frcC_size])) rfl ⟨rfl, below_setRow HK2.out.1 Tw.om _⟩
   skip
   have HC2 := HC rfl rfl
   clear HC
   go_wp2_with (first
     | (refine wpList_ldf rfl rfl rfl (HK.out.2 _ Tw.m0) Tryz.underlying25 rfl size27 ?_)
     | (refine wpList_guard rfl ?_; refine wpList_ldf rfl rfl rfl (HK1.out.2 _ Tw.m1) Tryz.underlying25 rfl size27 ?_)
     | (go_at_call 17; with_reducible refine (HR1.out _).mono ?_; rintro e w1 ⟨rfl, hb1⟩; have HK1 := Lib.hid (HK.out.below hb1); clear hb1)
     | (go_at_call 17; with_reducible refine (HR2.out _).mono ?_; rintro e w2 ⟨rfl, hb1⟩; have HK2 := Lib.hid (HK1.out.below hb1); clear hb1)
     | (refine wpList_ldf rfl rfl rfl (HK2.out.2 _ Tw.m0) Tryz.underlying25 rfl size27 ?_)
     | (refine wpList_ldf rfl rfl rfl (HK2.out.2 _ Tw.m1) Tryz.underlying25 rfl size27 ?_)
     | (go_at_call 53; refine (HC2.out _).mono ?_; rintro e w3 ⟨rfl, hb1⟩; have HK3 := Lib.hid (HK2.out.below hb1); clear hb1; rw [HP.out])
     | (refine wpList_stf (neg := s') (n := n') (d := d') (neg' := false) (n' := 0) (d' := 0) rfl rfl rfl rfl (HK3.out.2 _ Tw.m2) size27 ?_))
   exact bodyPost_ret (res_cell_tmp rfl rfl (setRow_heap _ _ _ _ _ _ (HK3.out.2 _ Tw.m2)) Tryz.underlying25 rfl (by rw [size27, frcC_size])) rfl ⟨by show _ = Ending.returned CV; rw [HP.out]; rfl, below_setRow HK3.out.1 Tw.om _⟩
end Go.Proofs.YtalmflgkbmnghaaGreatDoor
namespace Go.Proofs.YtalmflgkbmnghaaGreatDoor
open Go.RowKit Tf
variable [ShLZ]
theorem size4 : (Tryz.prog.info? 4).map (·.size) = some 1 := by kernel_rfl
theorem frc_bit (b s : Bool) (n d : Nat) : frcC b n d = ((frcC s n d).toList.take 0 ++ (Value.bool b).cells.toList ++ (frcC s n d).toList.drop (0 + (Value.bool b).cells.toList.length)).toArray := by
 simp [Value.cells, frcC]
theorem wpList_stb {ops : Array Oper} {rest : List Oper} {o : Oper} {a : Act} {w : World} {Q : Exit → Act → World → Prop} (hgd : o.guard = none) {t : TypeId} {x y : Operand} {g : Nat} {b s : Bool} {n d : Nat} (ho : o.op = .store 4 x y)
   (hx : a.eval x = .pointer (some ⟨g, 0, none⟩)) (hv : a.eval y = .bool b) (hg : w.heap[g]? = some (.cells (frcC s n d) t (0, 0)))
   (h : wpList Tryz.prog ops Q rest (a.put o.dst undef) (w.setRow g (frcC b n d))) : wpList Tryz.prog ops Q (o :: rest) a w :=
 wpList_stm hgd ho hx hv hg (by rw [size4]; rfl) (by simp [Value.cells]) (by intro v hv; simp [Value.cells] at hv; subst hv; rfl) (frc_bit b s n d) h

set_option maxRecDepth 100000 in
set_option maxHeartbeats 2000000 in
theorem Sub_any (s1 s2 : Bool) (n1 d1 n2 d2 : Nat) (hn1 : n1 < R 8) (hd1 : d1 < R 8) (hn2 : n2 < R 8) (hd2 : d2 < R 8) (w : World) :
   Calls Tryz.prog 20 #[frc s1 n1 d1, frc s2 n2 d2] w fun e w' => e = .returned (if (rightB s1 n1 d1 && rightB s2 n2 d2) = true then addV s1 n1 d1 (!s2) n2 d2 else argV) ∧ Below w.heap.size w w' := by
 have HR1 := Lib.hid (fun W => right_any s1 n1 d1 hn1 hd1 W)
 have HR2 := Lib.hid (fun W => right_any s2 n2 d2 hn2 hd2 W)
 unfold Hid frc at HR1 HR2
 have HC : rightB s1 n1 d1 = true → rightB s2 n2 d2 = true → Hid (∀ W, Calls Tryz.prog 42 #[.agg (frcC s1 n1 d1), .agg (frcC (!s2) n2 d2)] W fun e w' => e = .returned (addV s1 n1 d1 (!s2) n2 d2) ∧ Below W.heap.size W w') := fun h1 h2 W =>
   add_any s1 (!s2) n1 d1 n2 d2 hn1 hd1 hn2 hd2 (right_den h1) (right_den h2) W
 obtain ⟨s', n', d', ee, hp⟩ : ∃ s' n' d' e, addV s1 n1 d1 (!s2) n2 d2 = .tuple #[.agg (frcC s' n' d'), .int .i64 e] := packV_shape _ _ _
 have HP := Lib.hid hp
 clear hp hn1 hd1 hn2 hd2
 unfold frc
 generalize addV s1 n1 d1 (!s2) n2 d2 = CV at *
 generalize rightB s1 n1 d1 = r1 at *
 generalize rightB s2 n2 d2 = r2 at *
 have HR1 := Lib.hid HR1
 have HR2 := Lib.hid HR2
 go_enter Tryz.func20, Tryz.ntmps20
 go_upto_region 1 with (fail)
 have hK := KS.three w (.cells (frcC s1 n1 d1) 25) (.cells (frcC s2 n2 d2) 25) (.cells (frcC false 0 0) 25)
 obtain ⟨W, hW⟩ : ∃ W, W = ((w.alloc (.cells (frcC s1 n1 d1) 25)).alloc (.cells (frcC s2 n2 d2) 25)).alloc (.cells (frcC false 0 0) 25) := ⟨_, rfl⟩
 rw [← hW] at hK
 rw [frc_zero] at hW
 rw [← hW]
 clear hW
 have HK := Lib.hid hK
 clear hK
 cases r1
 · have HV := Lib.hid (show (if (false && r2) = true then CV else argV) = argV from rfl)
   clear HC
   go_wp2_with (first
     | (refine wpList_ldf rfl rfl rfl (HK.out.2 _ Tw.m0) Tryz.underlying25 rfl size27 ?_)
     | (refine wpList_guard rfl ?_; refine wpList_ldf rfl rfl rfl (HK1.out.2 _ Tw.m1) Tryz.underlying25 rfl size27 ?_)
     | (go_at_call 17; (with_reducible refine (HR1.out _).mono ?_); rintro e w1 ⟨rfl, hb1⟩; have HK1 := Lib.hid (HK.out.below hb1); clear hb1)
     | (go_at_call 17; (with_reducible refine (HR2.out _).mono ?_); rintro e w2 ⟨rfl, hb1⟩; have HK2 := Lib.hid (HK1.out.below hb1); clear hb1)
     | (refine wpList_stf (neg := false) (n := 0) (d := 0) (neg' := false) (n' := 0) (d' := 0) rfl rfl rfl (by rw [frc_zero]; rfl) (HK1.out.2 _ Tw.m2) size27 ?_))
   exact bodyPost_ret (res_cell_tmp rfl rfl (setRow_heap _ _ _ _ _ _ (HK1.out.2 _ Tw.m2)) Tryz.underlying25 rfl (by rw [size27, frcC_size])) rfl ⟨rfl, below_setRow HK1.out.1 Tw.om _⟩
 · cases r2
   · have HV := Lib.hid (show (if (true && false) = true then CV else argV) = argV from rfl)
     clear HC
     go_wp2_with (first
       | (refine wpList_ldf rfl rfl rfl (HK.out.2 _ Tw.m0) Tryz.underlying25 rfl size27 ?_)
       | (refine wpList_guard rfl ?_; refine wpList_ldf rfl rfl rfl (HK1.out.2 _ Tw.m1) Tryz.underlying25 rfl size27 ?_)
       | (go_at_call 17; (with_reducible refine (HR1.out _).mono ?_); rintro e w1 ⟨rfl, hb1⟩; have HK1 := Lib.hid (HK.out.below hb1); clear hb1)
       | (go_at_call 17; (with_reducible refine (HR2.out _).mono ?_); rintro e w2 ⟨rfl, hb1⟩; have HK2 := Lib.hid (HK1.out.below hb1); clear hb1)
       | (refine wpList_stf (neg := false) (n := 0) (d := 0) (neg' := false) (n' := 0) (d' := 0) rfl rfl rfl (by rw [frc_zero]; rfl) (HK2.out.2 _ Tw.m2) size27 ?_))
     exact bodyPost_ret (res_cell_tmp rfl rfl (setRow_heap _ _ _ _ _ _ (HK2.out.2 _ Tw.m2)) Tryz.underlying25 rfl (by rw [size27, frcC_size])) rfl ⟨rfl, below_setRow HK2.out.1 Tw.om _⟩
   skip
   have HC2 := HC rfl rfl
   clear HC
   go_upto_region 4 with (first
     | (refine wpList_ldf rfl rfl rfl (HK.out.2 _ Tw.m0) Tryz.underlying25 rfl size27 ?_)
     | (refine wpList_guard rfl ?_; refine wpList_ldf rfl rfl rfl (HK1.out.2 _ Tw.m1) Tryz.underlying25 rfl size27 ?_)
     | (go_at_call 17; (with_reducible refine (HR1.out _).mono ?_); rintro e w1 ⟨rfl, hb1⟩; have HK1 := Lib.hid (HK.out.below hb1); clear hb1)
     | (go_at_call 17; (with_reducible refine (HR2.out _).mono ?_); rintro e w2 ⟨rfl, hb1⟩; have HK2 := Lib.hid (HK1.out.below hb1); clear hb1; have c2 := frc_cell (HK2.out.2 _ Tw.m1))
     | (refine wpList_stb (b := !s2) (s := s2) (n := n2) (d := d2) rfl rfl rfl rfl (HK2.out.2 _ Tw.m1) ?_))
   have HK3 : Hid (KS w [(w.heap.size, .cells (frcC s1 n1 d1) 25 (0, 0)), (w.heap.size + 1, .cells (frcC (!s2) n2 d2) 25 (0, 0)), (w.heap.size + 1 + 1, .cells (frcC false 0 0) 25 (0, 0))] (w2.setRow (w.heap.size + 1) (frcC (!s2) n2 d2))) :=
     HK2.out.put Tw.om Tw.m1 (by intro p hp; simp only [List.mem_cons, List.not_mem_nil, or_false] at hp; rcases hp with rfl | rfl | rfl; exact .inr ⟨by simp, by simp only; omega⟩; exact .inl rfl; exact .inr ⟨by simp, by simp only; omega⟩)
   generalize w2.setRow (w.heap.size + 1) (frcC (!s2) n2 d2) = W3 at *
   clear c2 HK2 HK1
   go_wp2_with (first
     | (refine wpList_ldf rfl rfl rfl (HK3.out.2 _ Tw.m0) Tryz.underlying25 rfl size27 ?_)
     | (refine wpList_ldf rfl rfl rfl (HK3.out.2 _ Tw.m1) Tryz.underlying25 rfl size27 ?_)
     | (go_at_call 42; refine (HC2.out _).mono ?_; rintro e w3 ⟨rfl, hb1⟩; have HK4 := Lib.hid (HK3.out.below hb1); clear hb1; rw [HP.out])
     | (refine wpList_stf (neg := s') (n := n') (d := d') (neg' := false) (n' := 0) (d' := 0) rfl rfl rfl rfl (HK4.out.2 _ Tw.m2) size27 ?_))
   exact bodyPost_ret (res_cell_tmp rfl rfl (setRow_heap _ _ _ _ _ _ (HK4.out.2 _ Tw.m2)) Tryz.underlying25 rfl (by rw [size27, frcC_size])) rfl ⟨by show _ = Ending.returned CV; rw [HP.out]; rfl, below_setRow HK4.out.1 Tw.om _⟩
end Go.Proofs.YtalmflgkbmnghaaGreatDoor
namespace Go.Proofs.YtalmflgkbmnghaaGreatDoor
open Go.RowKit Tf
variable [ShLZ]
theorem frc_putn (s : Bool) (n d m : Nat) : frcC s m d = ((frcC s n d).toList.take 1 ++ (Value.agg (fa 8 (dg m))).cells.toList ++ (frcC s n d).toList.drop (1 + (Value.agg (fa 8 (dg m))).cells.toList.length)).toArray := by
 have h1 : (frcC s n d).toList = Value.bool s :: ((fa 8 (dg n)).toList ++ (fa 8 (dg d)).toList) := by simp [frcC]
 rw [h1]
 simp [Value.cells, frcC]
theorem frc_putd (s : Bool) (n d m : Nat) : frcC s n m = ((frcC s n d).toList.take 9 ++ (Value.agg (fa 8 (dg m))).cells.toList ++ (frcC s n d).toList.drop (9 + (Value.agg (fa 8 (dg m))).cells.toList.length)).toArray := by
 have h1 : (frcC s n d).toList = (Value.bool s :: (fa 8 (dg n)).toList) ++ (fa 8 (dg d)).toList := by simp [frcC]
 have h2 : (frcC s n d).toList.drop (9 + (Value.agg (fa 8 (dg m))).cells.toList.length) = [] := List.drop_eq_nil_of_le (by simp [Value.cells])
 rw [h2, h1, List.take_append]
 simp [Value.cells, frcC]
 rw [List.take_of_length_le (by simp)]
theorem wpList_stn {P : Program} {ops : Array Oper} {rest : List Oper} {o : Oper} {a : Act} {w : World} {Q : Exit → Act → World → Prop} (hgd : o.guard = none) {ty t : TypeId} {x y : Operand} {g : Nat} {s : Bool} {n d m : Nat} (ho : o.op = .store ty x y)
   (hx : a.eval x = .pointer (some ⟨g, 1, none⟩)) (hv : a.eval y = .agg (fa 8 (dg m))) (hg : w.heap[g]? = some (.cells (frcC s n d) t (0, 0))) (hi : (P.info? ty).map (·.size) = some 8)
   (h : wpList P ops Q rest (a.put o.dst undef) (w.setRow g (frcC s m d))) : wpList P ops Q (o :: rest) a w :=
 wpList_stm hgd ho hx hv hg (by rw [hi]; simp [Value.cells]) (by simp [Value.cells]) fa_one (frc_putn s n d m) h
theorem wpList_std {P : Program} {ops : Array Oper} {rest : List Oper} {o : Oper} {a : Act} {w : World} {Q : Exit → Act → World → Prop} (hgd : o.guard = none) {ty t : TypeId} {x y : Operand} {g : Nat} {s : Bool} {n d m : Nat} (ho : o.op = .store ty x y)
   (hx : a.eval x = .pointer (some ⟨g, 9, none⟩)) (hv : a.eval y = .agg (fa 8 (dg m))) (hg : w.heap[g]? = some (.cells (frcC s n d) t (0, 0))) (hi : (P.info? ty).map (·.size) = some 8)
   (h : wpList P ops Q rest (a.put o.dst undef) (w.setRow g (frcC s n m))) : wpList P ops Q (o :: rest) a w :=
 wpList_stm hgd ho hx hv hg (by rw [hi]; simp [Value.cells]) (by simp [Value.cells]) fa_one (frc_putd s n d m) h

set_option maxRecDepth 100000 in
set_option maxHeartbeats 2000000 in
theorem Div_walk (s1 s2 : Bool) (n1 d1 n2 d2 : Nat) (hn2 : n2 < R 8) (r1 r2 : Bool) (RV CV : Value) (s' : Bool) (n' d' : Nat) (ee : Int)
   (HR1 : Hid (∀ W, Calls Tryz.prog 17 #[.agg (frcC s1 n1 d1)] W fun e w' => e = .returned (.bool r1) ∧ Below W.heap.size W w'))
   (HR2 : Hid (∀ W, Calls Tryz.prog 17 #[.agg (frcC s2 n2 d2)] W fun e w' => e = .returned (.bool r2) ∧ Below W.heap.size W w'))
   (HC2 : Hid (r1 = true ∧ r2 = true ∧ n2 ≠ 0 → ∀ W, Calls Tryz.prog 53 #[.agg (frcC s1 n1 d1), .agg (frcC s2 d2 n2)] W fun e w' => e = .returned CV ∧ Below W.heap.size W w'))
   (HP : Hid (CV = .tuple #[.agg (frcC s' n' d'), .int .i64 ee])) (HV1 : Hid (¬ (r1 = true ∧ r2 = true ∧ n2 ≠ 0) → RV = argV)) (HV2 : Hid (r1 = true ∧ r2 = true ∧ n2 ≠ 0 → RV = CV)) (w : World) :
   Calls Tryz.prog 24 #[frc s1 n1 d1, frc s2 n2 d2] w fun e w' => e = .returned RV ∧ Below w.heap.size w w' := by
 unfold frc
 go_enter Tryz.func24, Tryz.ntmps24
 go_upto_region 1 with (fail)
 have hK := KS.three w (.cells (frcC s1 n1 d1) 25) (.cells (frcC s2 n2 d2) 25) (.cells (frcC false 0 0) 25)
 obtain ⟨W, hW⟩ : ∃ W, W = ((w.alloc (.cells (frcC s1 n1 d1) 25)).alloc (.cells (frcC s2 n2 d2) 25)).alloc (.cells (frcC false 0 0) 25) := ⟨_, rfl⟩
 rw [← hW] at hK
 rw [frc_zero] at hW
 rw [← hW]
 clear hW
 have HK := Lib.hid hK
 clear hK
 by_cases hr1 : r1 = false
 · subst hr1
   have HV := Lib.hid (HV1.out (by simp))
   clear HV1 HV2 HC2
   go_wp2_with (first
     | (refine wpList_ldf rfl rfl rfl (HK.out.2 _ Tw.m0) Tryz.underlying25 rfl size27 ?_)
     | (refine wpList_guard rfl ?_; refine wpList_ldf rfl rfl rfl (HK1.out.2 _ Tw.m1) Tryz.underlying25 rfl size27 ?_)
     | ((go_at_call 17); (with_reducible refine (HR1.out _).mono ?_); rintro e w1 ⟨rfl, hb1⟩; have HK1 := Lib.hid (HK.out.below hb1); clear hb1)
     | ((go_at_call 17); (with_reducible refine (HR2.out _).mono ?_); rintro e w2 ⟨rfl, hb1⟩; have HK2 := Lib.hid (HK1.out.below hb1); clear hb1)
     | (refine wpList_guard rfl ?_; refine wpList_ldn rfl rfl rfl (HK2.out.2 _ Tw.m1) Tryz.underlying23 rfl size25 ?_)
     | (refine wpList_stf (neg := false) (n := 0) (d := 0) (neg' := false) (n' := 0) (d' := 0) rfl rfl rfl (by rw [frc_zero]; rfl) (HK1.out.2 _ Tw.m2) size27 ?_))
   exact bodyPost_ret (res_cell_tmp rfl rfl (setRow_heap _ _ _ _ _ _ (HK1.out.2 _ Tw.m2)) Tryz.underlying25 rfl (by rw [size27, frcC_size])) rfl ⟨by rw [HV.out]; rfl, below_setRow HK1.out.1 Tw.om _⟩
 by_cases hr2 : r2 = false
 · have hr1' : r1 = true := by simpa using hr1
   subst hr1' hr2
   have HV := Lib.hid (HV1.out (by simp))
   clear HV1 HV2 HC2 hr1
   go_wp2_with (first
     | (refine wpList_ldf rfl rfl rfl (HK.out.2 _ Tw.m0) Tryz.underlying25 rfl size27 ?_)
     | (refine wpList_guard rfl ?_; refine wpList_ldf rfl rfl rfl (HK1.out.2 _ Tw.m1) Tryz.underlying25 rfl size27 ?_)
     | ((go_at_call 17); (with_reducible refine (HR1.out _).mono ?_); rintro e w1 ⟨rfl, hb1⟩; have HK1 := Lib.hid (HK.out.below hb1); clear hb1)
     | ((go_at_call 17); (with_reducible refine (HR2.out _).mono ?_); rintro e w2 ⟨rfl, hb1⟩; have HK2 := Lib.hid (HK1.out.below hb1); clear hb1)
     | (refine wpList_guard rfl ?_; refine wpList_ldn rfl rfl rfl (HK2.out.2 _ Tw.m1) Tryz.underlying23 rfl size25 ?_)
     | (refine wpList_stf (neg := false) (n := 0) (d := 0) (neg' := false) (n' := 0) (d' := 0) rfl rfl rfl (by rw [frc_zero]; rfl) (HK2.out.2 _ Tw.m2) size27 ?_))
   exact bodyPost_ret (res_cell_tmp rfl rfl (setRow_heap _ _ _ _ _ _ (HK2.out.2 _ Tw.m2)) Tryz.underlying25 rfl (by rw [size27, frcC_size])) rfl ⟨by rw [HV.out]; rfl, below_setRow HK2.out.1 Tw.om _⟩
 have hr1' : r1 = true := by simpa using hr1
 have hr2' : r2 = true := by simpa using hr2
 subst hr1' hr2'
 clear hr1 hr2
 by_cases hz : n2 = 0
 · have HV := Lib.hid (HV1.out (by simp [hz]))
   clear HV1 HV2 HC2
   subst hz
   go_wp2_with (first
     | (refine wpList_ldf rfl rfl rfl (HK.out.2 _ Tw.m0) Tryz.underlying25 rfl size27 ?_)
     | (refine wpList_guard rfl ?_; refine wpList_ldf rfl rfl rfl (HK1.out.2 _ Tw.m1) Tryz.underlying25 rfl size27 ?_)
     | ((go_at_call 17); (with_reducible refine (HR1.out _).mono ?_); rintro e w1 ⟨rfl, hb1⟩; have HK1 := Lib.hid (HK.out.below hb1); clear hb1)
     | ((go_at_call 17); (with_reducible refine (HR2.out _).mono ?_); rintro e w2 ⟨rfl, hb1⟩; have HK2 := Lib.hid (HK1.out.below hb1); clear hb1)
     | (refine wpList_guard rfl ?_; refine wpList_ldn rfl rfl rfl (HK2.out.2 _ Tw.m1) Tryz.underlying23 rfl size25 ?_)
     | (refine wpList_stf (neg := false) (n := 0) (d := 0) (neg' := false) (n' := 0) (d' := 0) rfl rfl rfl (by rw [frc_zero]; rfl) (HK2.out.2 _ Tw.m2) size27 ?_))
   exact bodyPost_ret (res_cell_tmp rfl rfl (setRow_heap _ _ _ _ _ _ (HK2.out.2 _ Tw.m2)) Tryz.underlying25 rfl (by rw [size27, frcC_size])) rfl ⟨by rw [HV.out]; rfl, below_setRow HK2.out.1 Tw.om _⟩
 have HV := Lib.hid (HV2.out ⟨rfl, rfl, hz⟩)
 have HC := Lib.hid (HC2.out ⟨rfl, rfl, hz⟩)
 clear HV1 HV2 HC2
 go_upto_region 4 with (first
     | (refine wpList_ldf rfl rfl rfl (HK.out.2 _ Tw.m0) Tryz.underlying25 rfl size27 ?_)
     | (refine wpList_guard rfl ?_; refine wpList_ldf rfl rfl rfl (HK1.out.2 _ Tw.m1) Tryz.underlying25 rfl size27 ?_)
     | ((go_at_call 17); (with_reducible refine (HR1.out _).mono ?_); rintro e w1 ⟨rfl, hb1⟩; have HK1 := Lib.hid (HK.out.below hb1); clear hb1)
     | ((go_at_call 17); (with_reducible refine (HR2.out _).mono ?_); rintro e w2 ⟨rfl, hb1⟩; have HK2 := Lib.hid (HK1.out.below hb1); clear hb1)
     | (refine wpList_guard rfl ?_; refine wpList_ldn rfl rfl rfl (HK2.out.2 _ Tw.m1) Tryz.underlying23 rfl size25 ?_)
     | (refine wpList_ldd rfl rfl rfl (HK2.out.2 _ Tw.m1) Tryz.underlying23 rfl size25 ?_)
     | (refine wpList_ldn rfl rfl rfl (HK2.out.2 _ Tw.m1) Tryz.underlying23 rfl size25 ?_)
     | (refine wpList_stn (s := s2) (n := n2) (d := d2) (m := d2) rfl rfl rfl rfl (HK2.out.2 _ Tw.m1) size25 ?_)
     | (refine wpList_std (s := s2) (n := d2) (d := d2) (m := n2) rfl rfl rfl rfl (setRow_heap _ _ _ _ _ _ (HK2.out.2 _ Tw.m1)) size25 ?_))
 have HK3 : Hid (KS w [(w.heap.size, .cells (frcC s1 n1 d1) 25 (0, 0)), (w.heap.size + 1, .cells (frcC s2 (d2) (d2)) 25 (0, 0)), (w.heap.size + 1 + 1, .cells (frcC false 0 0) 25 (0, 0))] (w2.setRow (w.heap.size + 1) (frcC s2 d2 d2))) := HK2.out.put Tw.om Tw.m1 (by intro p hp; simp only [List.mem_cons, List.not_mem_nil, or_false] at hp; rcases hp with rfl | rfl | rfl; exact .inr ⟨by simp, by simp only; omega⟩; exact .inl rfl; exact .inr ⟨by simp, by simp only; omega⟩)
 generalize w2.setRow (w.heap.size + 1) (frcC s2 d2 d2) = W3 at *
 have HK4 : Hid (KS w [(w.heap.size, .cells (frcC s1 n1 d1) 25 (0, 0)), (w.heap.size + 1, .cells (frcC s2 (d2) (n2)) 25 (0, 0)), (w.heap.size + 1 + 1, .cells (frcC false 0 0) 25 (0, 0))] (W3.setRow (w.heap.size + 1) (frcC s2 d2 n2))) := HK3.out.put Tw.om Tw.m1 (by intro p hp; simp only [List.mem_cons, List.not_mem_nil, or_false] at hp; rcases hp with rfl | rfl | rfl; exact .inr ⟨by simp, by simp only; omega⟩; exact .inl rfl; exact .inr ⟨by simp, by simp only; omega⟩)
 generalize W3.setRow (w.heap.size + 1) (frcC s2 d2 n2) = W4 at *
 clear HK3 HK2 HK1
 go_wp2_with (first
   | (refine wpList_ldf rfl rfl rfl (HK4.out.2 _ Tw.m0) Tryz.underlying25 rfl size27 ?_)
   | (refine wpList_ldf rfl rfl rfl (HK4.out.2 _ Tw.m1) Tryz.underlying25 rfl size27 ?_)
   | ((go_at_call 53); refine (HC.out _).mono ?_; rintro e w3 ⟨rfl, hb1⟩; have HK5 := Lib.hid (HK4.out.below hb1); clear hb1; rw [HP.out])
   | (refine wpList_stf (neg := s') (n := n') (d := d') (neg' := false) (n' := 0) (d' := 0) rfl rfl rfl rfl (HK5.out.2 _ Tw.m2) size27 ?_))
 exact bodyPost_ret (res_cell_tmp rfl rfl (setRow_heap _ _ _ _ _ _ (HK5.out.2 _ Tw.m2)) Tryz.underlying25 rfl (by rw [size27, frcC_size])) rfl ⟨by rw [HV.out, HP.out]; rfl, below_setRow HK5.out.1 Tw.om _⟩
theorem Div_any (s1 s2 : Bool) (n1 d1 n2 d2 : Nat) (hn1 : n1 < R 8) (hd1 : d1 < R 8) (hn2 : n2 < R 8) (hd2 : d2 < R 8) (w : World) :
   Calls Tryz.prog 24 #[frc s1 n1 d1, frc s2 n2 d2] w fun e w' => e = .returned (if rightB s1 n1 d1 = true ∧ rightB s2 n2 d2 = true ∧ n2 ≠ 0 then mulV s1 n1 d1 s2 d2 n2 else argV) ∧ Below w.heap.size w w' := by
 obtain ⟨s', n', d', ee, hp⟩ : ∃ s' n' d' e, mulV s1 n1 d1 s2 d2 n2 = .tuple #[.agg (frcC s' n' d'), .int .i64 e] := packV_shape _ _ _
 exact Div_walk s1 s2 n1 d1 n2 d2 hn2 _ _ _ _ s' n' d' ee (fun W => right_any s1 n1 d1 hn1 hd1 W) (fun W => right_any s2 n2 d2 hn2 hd2 W)
   (fun h W => mul_any s1 s2 n1 d1 d2 n2 hn1 hd1 hd2 hn2 (right_den h.1) Tw.om W) hp (fun h => if_neg h) (fun h => if_pos h) w
end Go.Proofs.YtalmflgkbmnghaaGreatDoor
namespace Go.Proofs.YtalmflgkbmnghaaGreatDoor
open Go.RowKit Tf
variable [ShLZ]
theorem res_tmp_tmp {P : Program} {fn : Func} {p q : Tmp} (h : fn.results = #[.tmp p, .tmp q]) {tmps : Array Value} {w : World} :
   (results fn tmps).run P w = .ok (.tuple #[tmps.getD p undef, tmps.getD q undef]) w := by
 simp [results, h]
def cmpI (s1 : Bool) (n1 d1 : Nat) (s2 : Bool) (n2 d2 : Nat) : Int := if s1 = s2 ∧ n1 = n2 ∧ d1 = d2 then 0 else if psS s1 (!s2) (n1 * d2) (n2 * d1) = true then -1 else 1

end Go.Proofs.YtalmflgkbmnghaaGreatDoor
namespace Go.Proofs.YtalmflgkbmnghaaGreatDoor
open Go.RowKit Tf
variable [ShLZ]
variable [ShSt]
def textL (s : Bool) (n d : Nat) : List UInt8 := (if s = true then [45] else []) ++ Lib.decDigits n ++ (if d = 1 then [] else 47 :: Lib.decDigits d)
theorem run_neq25_one {a : Nat} {b : Bool} (ha : a < R 8) (hab : (!decide (a = 1)) = b) {x y : Operand} (w : World) : (do eqGuard .neq 23 x y (.agg (fa 8 (dg a))) (.agg #[.int .u32 1, .int .u32 0, .int .u32 0, .int .u32 0, .int .u32 0, .int .u32 0, .int .u32 0, .int .u32 0]); binOp .neq 23 (.agg (fa 8 (dg a))) (.agg #[.int .u32 1, .int .u32 0, .int .u32 0, .int .u32 0, .int .u32 0, .int .u32 0, .int .u32 0, .int .u32 0]) : Sem Value).run Tryz.prog w = .ok (.bool b) w := by
 subst hab
 go_simp
theorem dec_len78 {n : Nat} (hn : n < R 8) : (Lib.decDigits n).length ≤ 78 := dec_length 77 n (Nat.lt_of_lt_of_le hn (by unfold R; decide))
set_option maxRecDepth 100000 in
set_option maxHeartbeats 1000000 in
theorem Text_walk (s r : Bool) (n d : Nat) (HX : Hid (n < R 8 ∧ d < R 8)) (w : World) (HE : Hid (Env w)) (zn zd : List UInt8) (hzn : zn.length ≤ 78) (hzd : zd.length ≤ 78)
   (HR : Hid (∀ W, Calls Tryz.prog 17 #[.agg (frcC s n d)] W fun e w' => e = .returned (.bool r) ∧ Below W.heap.size W w'))
   (HDn : Hid (∀ W, Env W → Calls Tryz.prog 62 #[.agg (fa 8 (dg n))] W fun e w' => e = .returned (.string ⟨zn.toArray⟩) ∧ Below W.heap.size W w'))
   (HDd : Hid (∀ W, Env W → Calls Tryz.prog 62 #[.agg (fa 8 (dg d))] W fun e w' => e = .returned (.string ⟨zd.toArray⟩) ∧ Below W.heap.size W w'))
   (V : Value) (HV : Hid (V = if r = true then .tuple #[txt ((if s = true then [45] else []) ++ zn ++ (if d = 1 then [] else 47 :: zd)), .int .i64 0] else .tuple #[txt [], .int .i64 2])) :
   Calls Tryz.prog 30 #[frc s n d] w fun e w' => e = .returned V ∧ Below w.heap.size w w' := by
 unfold frc
 have l1 : ¬ 9223372036854775807 < 1 + zn.length := by omega
 have l2 : ¬ 9223372036854775807 < 1 + zd.length := by omega
 have l3 : ¬ 9223372036854775807 < zn.length + (1 + zd.length) := by omega
 have l4 : ¬ 9223372036854775807 < 1 + zn.length + (1 + zd.length) := by omega
 clear hzn hzd
 go_enter Tryz.func30, Tryz.ntmps30
 go_upto_region 1 with (fail)
 have hK := KS.one w (.cells (frcC s n d) 25)
 obtain ⟨W, hW⟩ : ∃ W, W = w.alloc (.cells (frcC s n d) 25) := ⟨_, rfl⟩
 rw [← hW] at hK
 rw [← hW]
 clear hW
 have HK := Lib.hid hK
 clear hK
 cases r
 · go_wp2_with (first
     | (refine wpList_ldf rfl rfl rfl (HK.out.2 _ Tw.m0) Tryz.underlying25 rfl size27 ?_)
     | ((go_at_call 17); (with_reducible refine (HR.out _).mono ?_); rintro e w1 ⟨rfl, hb1⟩; have HK1 := Lib.hid (HK.out.below hb1); clear hb1))
   exact bodyPost_ret (res_tmp_tmp rfl) rfl ⟨by rw [HV.out]; rfl, HK1.out.1⟩
 · by_cases hd : d = 1
   · have hq : (!decide (d = 1)) = false := by simp [hd]
     have HQ := Lib.hid hq
     have HDD := Lib.hid hd
     clear hq hd
     cases s
     all_goals
       go_wp2_with (first
       | (refine wpList_ldf rfl rfl rfl (HK.out.2 _ Tw.m0) Tryz.underlying25 rfl size27 ?_)
       | ((go_at_call 17); (with_reducible refine (HR.out _).mono ?_); rintro e w1 ⟨rfl, hb1⟩; have HK1 := Lib.hid (HK.out.below hb1); clear hb1; have E1 := Lib.hid (HE.out.keep HK1.out.1); have c1 := frc_cell (HK1.out.2 _ Tw.m0))
       | (refine wpList_ldn rfl rfl rfl (HK1.out.2 _ Tw.m0) Tryz.underlying23 rfl size25 ?_)
       | ((go_at_call 62); (with_reducible refine (HDn.out _ E1.out).mono ?_); rintro e w2 ⟨rfl, hb2⟩; clear c1; have HK2 := Lib.hid (HK1.out.below hb2); clear hb2; have E2 := Lib.hid (HE.out.keep HK2.out.1); have c2 := frc_cell (HK2.out.2 _ Tw.m0))
       | (refine wpList_ldd rfl rfl rfl (HK2.out.2 _ Tw.m0) Tryz.underlying23 rfl size25 ?_)
       | (refine wpList_bin (v := .bool false) (vx := .agg (fa 8 (dg d))) rfl rfl rfl rfl (fun w => run_neq25_one HX.out.2 HQ.out w) ?_)
       | ((go_at_call 62); (with_reducible refine (HDd.out _ E2.out).mono ?_); rintro e w3 ⟨rfl, hb3⟩; clear c2; have HK3 := Lib.hid (HK2.out.below hb3); clear hb3))
       refine bodyPost_ret (res_tmp_tmp rfl) rfl ⟨?_, by first | exact HK2.out.1 | exact HK3.out.1⟩
       rw [HV.out, HDD.out]
       simp [txt, ba_app]
       trace_state
   · have hq : (!decide (d = 1)) = true := by simp [hd]
     have HQ := Lib.hid hq
     have HDD := Lib.hid hd
     clear hq hd
     cases s
     all_goals
       go_wp2_with (first
       | (refine wpList_ldf rfl rfl rfl (HK.out.2 _ Tw.m0) Tryz.underlying25 rfl size27 ?_)
       | ((go_at_call 17); (with_reducible refine (HR.out _).mono ?_); rintro e w1 ⟨rfl, hb1⟩; have HK1 := Lib.hid (HK.out.below hb1); clear hb1; have E1 := Lib.hid (HE.out.keep HK1.out.1); have c1 := frc_cell (HK1.out.2 _ Tw.m0))
       | (refine wpList_ldn rfl rfl rfl (HK1.out.2 _ Tw.m0) Tryz.underlying23 rfl size25 ?_)
       | ((go_at_call 62); (with_reducible refine (HDn.out _ E1.out).mono ?_); rintro e w2 ⟨rfl, hb2⟩; clear c1; have HK2 := Lib.hid (HK1.out.below hb2); clear hb2; have E2 := Lib.hid (HE.out.keep HK2.out.1); have c2 := frc_cell (HK2.out.2 _ Tw.m0))
       | (refine wpList_ldd rfl rfl rfl (HK2.out.2 _ Tw.m0) Tryz.underlying23 rfl size25 ?_)
       | (refine wpList_bin (v := .bool true) (vx := .agg (fa 8 (dg d))) rfl rfl rfl rfl (fun w => run_neq25_one HX.out.2 HQ.out w) ?_)
       | ((go_at_call 62); (with_reducible refine (HDd.out _ E2.out).mono ?_); rintro e w3 ⟨rfl, hb3⟩; clear c2; have HK3 := Lib.hid (HK2.out.below hb3); clear hb3))
       refine bodyPost_ret (res_tmp_tmp rfl) rfl ⟨?_, by first | exact HK3.out.1 | exact HK2.out.1⟩
       rw [HV.out, if_neg HDD.out]
       simp [txt, ba_app]
       trace_state
end Go.Proofs.YtalmflgkbmnghaaGreatDoor
namespace Go.Proofs.YtalmflgkbmnghaaGreatDoor
open Go.RowKit Tf
variable [ShLZ]
theorem fa_one18 : fa 18 (dg 1) = #[.int .u32 1, .int .u32 0, .int .u32 0, .int .u32 0, .int .u32 0, .int .u32 0, .int .u32 0, .int .u32 0, .int .u32 0, .int .u32 0, .int .u32 0, .int .u32 0, .int .u32 0, .int .u32 0, .int .u32 0, .int .u32 0, .int .u32 0, .int .u32 0] := by
 have h : ∀ i, i < 18 → dg 1 i = (if i = 0 then 1 else 0) := fun i hi => by
   by_cases h0 : i = 0
   · subst h0; rw [dg_zero]; rfl
   · rw [if_neg h0]; exact dg_of_lt' (k := 1) (by rw [R_succ, R_zero]; omega) Tw.om
 rw [fa_congr h]; rfl
theorem low_two (Q : Nat) : dg Q 1 * 4294967296 + dg Q 0 = Q % 18446744073709551616 := by rw [dg_zero, dg_one]; omega
theorem ln_le_two {Q : Nat} (h : Q < 18446744073709551616) : ln (dg Q) 18 ≤ 2 := by
 rcases Nat.lt_or_ge 2 (ln (dg Q) 18) with h1 | h1
 · exact absurd (dg_of_lt' (k := 2) (by rw [R_succ, R_succ, R_zero]; omega) (show 2 ≤ ln (dg Q) 18 - 1 by omega)) (ln_ge Tw.om)
 · exact h1
theorem wpList_binF {P : Program} {ops : Array Oper} {rest : List Oper} {o : Oper} {a : Act} {w : World} {Q : Exit → Act → World → Prop} (hgd : o.guard = none) {v vx vy : Value} {op : BinOp} {xT : TypeId} {x y : Operand} {d : TypeId}
   (ho : o.op = .binOp op xT x y d) (hx : a.eval x = vx) (hy : a.eval y = vy) (h0 : ∀ w, (do eqGuard op xT x y vx vy; binOp op xT vx vy : Sem Value).run P w = .ok v w)
   (h : wpList P ops Q rest (a.put o.dst v) w) : wpList P ops Q (o :: rest) a w :=
 wpList_plain hgd fun _ hK => by
   unfold Oper.wp
   rw [run_binY ho hx hy h0 w]
   exact hK _ _ h
theorem run_gtr {P : Program} {t : TypeId} {x y : Operand} {k : IntKind} {m n : Int} {b : Bool} (h : decide (n < m) = b) (w : World) : (do eqGuard .gtr t x y (.int k m) (.int k n); binOp .gtr t (.int k m) (.int k n) : Sem Value).run P w = .ok (.bool b) w := by
 subst h
 simp only [eqGuard_gtr, binOp_gtr, gt_iff_lt, Sem.run_bind, Sem.run_pure, Result.andThen_ok]
theorem run_eqn {t : TypeId} {x y : Operand} {k : IntKind} {m n : Int} {b : Bool} (h : (m == n) = b) (w : World) : (do eqGuard .eql t x y (.int k m) (.int k n); binOp .eql t (.int k m) (.int k n) : Sem Value).run Tryz.prog w = .ok (.bool b) w := by
 subst h
 go_simp
set_option maxRecDepth 100000 in
set_option maxHeartbeats 2000000 in
theorem floor_neg (n d Q f : Nat) (b1 b2 b3 : Bool) (V : Value) (HX : Hid (n < R 8 ∧ n < R 17 ∧ d < R 8 ∧ 0 < d ∧ n / d < R 18 ∧ n % d < R 8)) (HR : Hid (∀ W, Calls Tryz.prog 17 #[.agg (frcC true n d)] W fun e w' => e = .returned (.bool true) ∧ Below W.heap.size W w'))
   (HQ : Hid (Q = n / d + 1)) (HQ8 : Hid (n / d + 1 < R 18)) (HL : Hid (dg Q 1 * 4294967296 + dg Q 0 = f)) (hr : ¬ n % d = 0) (H1 : Hid (decide ((2 : Int) < ((ln (dg Q) 18 : Nat) : Int)) = b1)) (H2 : Hid (decide ((9223372036854775808 : Int) < (f : Int)) = b2)) (H3 : Hid (((f : Int) == 9223372036854775808) = b3))
   (HV : Hid (V = if b1 = true ∨ b2 = true  then .tuple #[.int .i64 0, .int .i64 3] else .tuple #[.int .i64 (wrap64 (-wrap64 (f : Int))), .int .i64 0])) (w : World) :
   Calls Tryz.prog 28 #[frc true n d] w fun e w' => e = .returned V ∧ Below w.heap.size w w' := by
 unfold frc
 go_enter Tryz.func28, Tryz.ntmps28
 go_upto_region 1 with (fail)
 have hK := KS.one w (.cells (frcC true n d) 25)
 obtain ⟨W, hW⟩ : ∃ W, W = w.alloc (.cells (frcC true n d) 25) := ⟨_, rfl⟩
 rw [← hW] at hK
 rw [← hW]
 clear hW
 have HK := Lib.hid hK
 clear hK
 have HRR := Lib.hid hr
 clear hr
 go_wp2_with (first
     | (refine wpList_ldf rfl rfl rfl (HK.out.2 _ Tw.m0) Tryz.underlying25 rfl size27 ?_)
     | ((go_at_call 17); (with_reducible refine (HR.out _).mono ?_); rintro e w1 ⟨rfl, hb1⟩; have HK1 := Lib.hid (HK.out.below hb1); clear hb1))
 refine wp_region_U [(w.heap.size, .cells (frcC (true) (n) (d)) 25 (0, 0))] Tw.kr (HK1.out) ?_
 refine wpU_pY (i := 0) (v := .pointer (some ⟨w.heap.size, 1, none⟩)) rfl rfl Tw.kr Tw.kr rfl Tw.kf Tw.pu ?_
 refine wpU_vY (i := 1) (v := num (n)) rfl rfl Tw.kr Tw.kr rfl (yb_load rfl Tw.kr Tw.m0 Tryz.underlying23 rfl size25 (by simp) (frc_num (true) (n) (d))) Tw.pu ?_
 refine wpU_vY (i := 2) (v := wid n) rfl rfl Tw.kr Tw.kr rfl (yb_call (f := 57) (args := #[num n]) Tw.kf fun W hW => widen_any n HX.out.1 W) Tw.pu ?_
 refine wpU_pY (i := 3) (v := .pointer (some ⟨w.heap.size, 9, none⟩)) rfl rfl Tw.kr Tw.kr rfl Tw.kf Tw.pu ?_
 refine wpU_vY (i := 4) (v := num (d)) rfl rfl Tw.kr Tw.kr rfl (yb_load rfl Tw.kr Tw.m0 Tryz.underlying23 rfl size25 (by simp) (frc_den (true) (n) (d))) Tw.pu ?_
 refine wpU_vY (i := 5) (v := .tuple #[wid (n / d), num (n % d)]) rfl rfl Tw.kr Tw.kr rfl (yb_call (f := 56) (args := #[wid n, num d]) Tw.kf fun W hW => divide_any n d HX.out.2.1 HX.out.2.2.1 HX.out.2.2.2.1 W) Tw.pu ?_
 refine wpU_pY (i := 6) (v := .tuple #[wid (n / d), num (n % d)]) rfl rfl Tw.kr Tw.kr rfl Tw.kf Tw.pu ?_
 refine wpU_pY (i := 7) (v := wid (n / d)) rfl rfl Tw.kr Tw.kr rfl Tw.kf Tw.pu ?_
 refine wpU_pY (i := 8) (v := num (n % d)) rfl rfl Tw.kr Tw.kr rfl Tw.kf Tw.pu ?_
 refine wpU_twoY (i := 9) (j := 10) (obi := .cells (fa 18 (fun _ => 0)) 76 (0, 0)) (obj := .cells (fa 8 (fun _ => 0)) 23 (0, 0)) rfl rfl rfl rfl rfl rfl Tw.kr Tw.kr Tw.kr Tw.kr (fun _ _ => rfl) (fun _ _ => rfl) (fun _ _ => by simp only [List.setIfInBounds_toArray, List.set_cons_succ, List.set_cons_zero] <;> rfl) (fun _ _ => by simp only [List.setIfInBounds_toArray, List.set_cons_succ, List.set_cons_zero] <;> rfl) fun g h Bg Bh Dgh Fg Fh => ?_
 simp only [List.forall_mem_cons] at Fg Fh
 refine wpU_sY [(g, .cells (fa 18 (dg (n / d))) 76 (0, 0)), (h, .cells (fa 8 (fun _ => 0)) 23 (0, 0)), (w.heap.size, .cells (frcC (true) (n) (d)) 25 (0, 0))] (i := 11) rfl Tw.kr rfl rfl rfl
   (st_a rfl rfl rfl Tw.m0 Tw.om size65 (by intro p hp; simp only [List.mem_cons, List.not_mem_nil, or_false] at hp; rcases hp with rfl | rfl | rfl; exact .inl rfl; exact .inr ⟨by simp, by simp only; omega⟩; exact .inr ⟨by simp, by simp only; omega⟩)) ?_
 refine wpU_sY [(g, .cells (fa 18 (dg (n / d))) 76 (0, 0)), (h, .cells (fa 8 (dg (n % d))) 23 (0, 0)), (w.heap.size, .cells (frcC (true) (n) (d)) 25 (0, 0))] (i := 12) rfl Tw.kr rfl rfl rfl
   (st_a rfl rfl rfl Tw.m1 Tw.om size25 (by intro p hp; simp only [List.mem_cons, List.not_mem_nil, or_false] at hp; rcases hp with rfl | rfl | rfl; exact .inr ⟨by simp, by simp only; omega⟩; exact .inl rfl; exact .inr ⟨by simp, by simp only; omega⟩)) ?_
 refine wpU_done Tw.kr (fun W4 hW4 => ?_) _
 clear HK HK1
 have c0 := frc_cell (hW4.2 _ Tw.m2)
 have HK4 := Lib.hid hW4
 clear hW4
 have hr := HRR.out
 have hrb := HX.out.2.2.2.2.2
 have hr0 : decide (n % d = 0) = false := by simpa using hr
 clear hr
 have HP : Hid (∀ W, Calls Tryz.prog 58 #[.agg (fa 18 (dg (n / d))), .agg #[.int .u32 1, .int .u32 0, .int .u32 0, .int .u32 0, .int .u32 0, .int .u32 0, .int .u32 0, .int .u32 0, .int .u32 0, .int .u32 0, .int .u32 0, .int .u32 0, .int .u32 0, .int .u32 0, .int .u32 0, .int .u32 0, .int .u32 0, .int .u32 0]] W fun e w' => e = .returned (.agg (fa 18 (dg (n / d + 1)))) ∧ Below W.heap.size W w') := fun W => by
   rw [← fa_one18]
   exact plus_any (n / d) 1 HX.out.2.2.2.2.1 (lt_R_of_le one_lt8 Tw.om) HQ8.out W
 go_upto_region 6 with (first
     | (refine wpList_guard rfl ?_; refine wpList_lda rfl rfl rfl (HK4.out.2 _ Tw.m1) Tryz.underlying23 rfl size25 ?_)
     | (refine wpList_guard rfl ?_; refine wpList_binF rfl rfl rfl rfl (fun w => run_neq25_nil hrb w) ?_; rw [hr0])
     | (refine wpList_lda rfl rfl rfl (HK4.out.2 _ Tw.m0) Tryz.underlying76 rfl size65 ?_)
     | ((go_at_call 58); (with_reducible refine (HP.out _).mono ?_); rintro e w2 ⟨rfl, hb2⟩; have HK5 := Lib.hid (HK4.out.below hb2); clear hb2)
     | (refine wpList_sta (f := dg (n / d + 1)) (f' := dg (n / d)) rfl rfl rfl rfl (HK5.out.2 _ Tw.m0) size65 ?_))
 have hh := HK5.out.put (K' := [(g, .cells (fa 18 (dg (n / d + 1))) 76 (0, 0)), (w.heap.size, .cells (frcC true n d) 25 (0, 0))]) Bg Tw.m0
   (by intro p hp; simp only [List.mem_cons, List.not_mem_nil, or_false] at hp; rcases hp with rfl | rfl; exact .inl rfl; exact .inr ⟨.tail _ Tw.m1, Fg.1⟩)
 generalize w2.setRow g (fa 18 (dg (n / d + 1))) = W6 at *
 clear HK5
 rw [← HQ.out] at hh
 have HH := Lib.hid hh
 clear hh HK4 c0 HP hrb hr0
 have c0 := frc_cell (HH.out.2 _ Tw.m1)
 cases b1
 · cases b2
   · cases b3
     all_goals
       go_wp2_with (first
     | ((go_at_call 59); refine (toSmall_num _ 18 18 Q f 76 HL.out Tw.om _ (HH.out.2 _ Tw.m0)).mono ?_; rintro e w5 ⟨rfl, m5, rfl⟩)
     | ((go_at_call 60); refine (length_any _ 0 18 18 (dg Q) _ Tw.om (fun i hi => by rw [Nat.zero_add]; exact blk_cell ((HH.out.drewN m5).2 _ Tw.m0) hi)).mono ?_; rintro e w6 ⟨rfl, rfl⟩)
     | (refine wpList_binF (vx := .int .i64 ((ln (dg Q) 18 : Nat) : Int)) (vy := .int .i64 2) rfl rfl rfl rfl (fun w => run_gtr H1.out w) ?_)
     | (refine wpList_guard rfl ?_; refine wpList_binF (vx := .int .u64 (f : Int)) (vy := .int .u64 9223372036854775808) rfl rfl rfl rfl (fun w => run_gtr H2.out w) ?_)
     | (refine wpList_guard rfl ?_; refine wpList_binF (vx := .int .u64 (f : Int)) (vy := .int .u64 9223372036854775808) rfl rfl rfl rfl (fun w => run_eqn H3.out w) ?_))
       exact bodyPost_ret (res_tmp_tmp rfl) rfl ⟨by rw [HV.out]; rfl, (HH.out.drewN m5).1⟩
   · go_wp2_with (first
     | ((go_at_call 59); refine (toSmall_num _ 18 18 Q f 76 HL.out Tw.om _ (HH.out.2 _ Tw.m0)).mono ?_; rintro e w5 ⟨rfl, m5, rfl⟩)
     | ((go_at_call 60); refine (length_any _ 0 18 18 (dg Q) _ Tw.om (fun i hi => by rw [Nat.zero_add]; exact blk_cell ((HH.out.drewN m5).2 _ Tw.m0) hi)).mono ?_; rintro e w6 ⟨rfl, rfl⟩)
     | (refine wpList_binF (vx := .int .i64 ((ln (dg Q) 18 : Nat) : Int)) (vy := .int .i64 2) rfl rfl rfl rfl (fun w => run_gtr H1.out w) ?_)
     | (refine wpList_guard rfl ?_; refine wpList_binF (vx := .int .u64 (f : Int)) (vy := .int .u64 9223372036854775808) rfl rfl rfl rfl (fun w => run_gtr H2.out w) ?_)
     | (refine wpList_guard rfl ?_; refine wpList_binF (vx := .int .u64 (f : Int)) (vy := .int .u64 9223372036854775808) rfl rfl rfl rfl (fun w => run_eqn H3.out w) ?_))
     exact bodyPost_ret (res_tmp_tmp rfl) rfl ⟨by rw [HV.out]; rfl, (HH.out.drewN m5).1⟩
 · go_wp2_with (first
     | ((go_at_call 59); refine (toSmall_num _ 18 18 Q f 76 HL.out Tw.om _ (HH.out.2 _ Tw.m0)).mono ?_; rintro e w5 ⟨rfl, m5, rfl⟩)
     | ((go_at_call 60); refine (length_any _ 0 18 18 (dg Q) _ Tw.om (fun i hi => by rw [Nat.zero_add]; exact blk_cell ((HH.out.drewN m5).2 _ Tw.m0) hi)).mono ?_; rintro e w6 ⟨rfl, rfl⟩)
     | (refine wpList_binF (vx := .int .i64 ((ln (dg Q) 18 : Nat) : Int)) (vy := .int .i64 2) rfl rfl rfl rfl (fun w => run_gtr H1.out w) ?_)
     | (refine wpList_guard rfl ?_; refine wpList_binF (vx := .int .u64 (f : Int)) (vy := .int .u64 9223372036854775808) rfl rfl rfl rfl (fun w => run_gtr H2.out w) ?_)
     | (refine wpList_guard rfl ?_; refine wpList_binF (vx := .int .u64 (f : Int)) (vy := .int .u64 9223372036854775808) rfl rfl rfl rfl (fun w => run_eqn H3.out w) ?_))
   exact bodyPost_ret (res_tmp_tmp rfl) rfl ⟨by rw [HV.out]; rfl, (HH.out.drewN m5).1⟩
set_option maxRecDepth 100000 in
set_option maxHeartbeats 2000000 in
theorem floor_negz (n d Q f : Nat) (b1 b2 b3 : Bool) (V : Value) (HX : Hid (n < R 8 ∧ n < R 17 ∧ d < R 8 ∧ 0 < d ∧ n / d < R 18 ∧ n % d < R 8)) (HR : Hid (∀ W, Calls Tryz.prog 17 #[.agg (frcC true n d)] W fun e w' => e = .returned (.bool true) ∧ Below W.heap.size W w'))
   (HQ : Hid (Q = n / d)) (HQ8 : Hid (n / d + 1 < R 18)) (HL : Hid (dg Q 1 * 4294967296 + dg Q 0 = f)) (hr : n % d = 0) (H1 : Hid (decide ((2 : Int) < ((ln (dg Q) 18 : Nat) : Int)) = b1)) (H2 : Hid (decide ((9223372036854775808 : Int) < (f : Int)) = b2)) (H3 : Hid (((f : Int) == 9223372036854775808) = b3))
   (HV : Hid (V = if b1 = true ∨ b2 = true  then .tuple #[.int .i64 0, .int .i64 3] else .tuple #[.int .i64 (wrap64 (-wrap64 (f : Int))), .int .i64 0])) (w : World) :
   Calls Tryz.prog 28 #[frc true n d] w fun e w' => e = .returned V ∧ Below w.heap.size w w' := by
 unfold frc
 go_enter Tryz.func28, Tryz.ntmps28
 go_upto_region 1 with (fail)
 have hK := KS.one w (.cells (frcC true n d) 25)
 obtain ⟨W, hW⟩ : ∃ W, W = w.alloc (.cells (frcC true n d) 25) := ⟨_, rfl⟩
 rw [← hW] at hK
 rw [← hW]
 clear hW
 have HK := Lib.hid hK
 clear hK
 have HRR := Lib.hid hr
 clear hr
 go_wp2_with (first
     | (refine wpList_ldf rfl rfl rfl (HK.out.2 _ Tw.m0) Tryz.underlying25 rfl size27 ?_)
     | ((go_at_call 17); (with_reducible refine (HR.out _).mono ?_); rintro e w1 ⟨rfl, hb1⟩; have HK1 := Lib.hid (HK.out.below hb1); clear hb1))
 refine wp_region_U [(w.heap.size, .cells (frcC (true) (n) (d)) 25 (0, 0))] Tw.kr (HK1.out) ?_
 refine wpU_pY (i := 0) (v := .pointer (some ⟨w.heap.size, 1, none⟩)) rfl rfl Tw.kr Tw.kr rfl Tw.kf Tw.pu ?_
 refine wpU_vY (i := 1) (v := num (n)) rfl rfl Tw.kr Tw.kr rfl (yb_load rfl Tw.kr Tw.m0 Tryz.underlying23 rfl size25 (by simp) (frc_num (true) (n) (d))) Tw.pu ?_
 refine wpU_vY (i := 2) (v := wid n) rfl rfl Tw.kr Tw.kr rfl (yb_call (f := 57) (args := #[num n]) Tw.kf fun W hW => widen_any n HX.out.1 W) Tw.pu ?_
 refine wpU_pY (i := 3) (v := .pointer (some ⟨w.heap.size, 9, none⟩)) rfl rfl Tw.kr Tw.kr rfl Tw.kf Tw.pu ?_
 refine wpU_vY (i := 4) (v := num (d)) rfl rfl Tw.kr Tw.kr rfl (yb_load rfl Tw.kr Tw.m0 Tryz.underlying23 rfl size25 (by simp) (frc_den (true) (n) (d))) Tw.pu ?_
 refine wpU_vY (i := 5) (v := .tuple #[wid (n / d), num (n % d)]) rfl rfl Tw.kr Tw.kr rfl (yb_call (f := 56) (args := #[wid n, num d]) Tw.kf fun W hW => divide_any n d HX.out.2.1 HX.out.2.2.1 HX.out.2.2.2.1 W) Tw.pu ?_
 refine wpU_pY (i := 6) (v := .tuple #[wid (n / d), num (n % d)]) rfl rfl Tw.kr Tw.kr rfl Tw.kf Tw.pu ?_
 refine wpU_pY (i := 7) (v := wid (n / d)) rfl rfl Tw.kr Tw.kr rfl Tw.kf Tw.pu ?_
 refine wpU_pY (i := 8) (v := num (n % d)) rfl rfl Tw.kr Tw.kr rfl Tw.kf Tw.pu ?_
 refine wpU_twoY (i := 9) (j := 10) (obi := .cells (fa 18 (fun _ => 0)) 76 (0, 0)) (obj := .cells (fa 8 (fun _ => 0)) 23 (0, 0)) rfl rfl rfl rfl rfl rfl Tw.kr Tw.kr Tw.kr Tw.kr (fun _ _ => rfl) (fun _ _ => rfl) (fun _ _ => by simp only [List.setIfInBounds_toArray, List.set_cons_succ, List.set_cons_zero] <;> rfl) (fun _ _ => by simp only [List.setIfInBounds_toArray, List.set_cons_succ, List.set_cons_zero] <;> rfl) fun g h Bg Bh Dgh Fg Fh => ?_
 simp only [List.forall_mem_cons] at Fg Fh
 refine wpU_sY [(g, .cells (fa 18 (dg (n / d))) 76 (0, 0)), (h, .cells (fa 8 (fun _ => 0)) 23 (0, 0)), (w.heap.size, .cells (frcC (true) (n) (d)) 25 (0, 0))] (i := 11) rfl Tw.kr rfl rfl rfl
   (st_a rfl rfl rfl Tw.m0 Tw.om size65 (by intro p hp; simp only [List.mem_cons, List.not_mem_nil, or_false] at hp; rcases hp with rfl | rfl | rfl; exact .inl rfl; exact .inr ⟨by simp, by simp only; omega⟩; exact .inr ⟨by simp, by simp only; omega⟩)) ?_
 refine wpU_sY [(g, .cells (fa 18 (dg (n / d))) 76 (0, 0)), (h, .cells (fa 8 (dg (n % d))) 23 (0, 0)), (w.heap.size, .cells (frcC (true) (n) (d)) 25 (0, 0))] (i := 12) rfl Tw.kr rfl rfl rfl
   (st_a rfl rfl rfl Tw.m1 Tw.om size25 (by intro p hp; simp only [List.mem_cons, List.not_mem_nil, or_false] at hp; rcases hp with rfl | rfl | rfl; exact .inr ⟨by simp, by simp only; omega⟩; exact .inl rfl; exact .inr ⟨by simp, by simp only; omega⟩)) ?_
 refine wpU_done Tw.kr (fun W4 hW4 => ?_) _
 clear HK HK1
 have c0 := frc_cell (hW4.2 _ Tw.m2)
 have HK4 := Lib.hid hW4
 clear hW4
 have hr := HRR.out
 have hrb := HX.out.2.2.2.2.2
 have hr0 : decide (n % d = 0) = true := by simpa using hr
 clear hr
 go_upto_region 6 with (first
     | (refine wpList_guard rfl ?_; refine wpList_lda rfl rfl rfl (HK4.out.2 _ Tw.m1) Tryz.underlying23 rfl size25 ?_)
     | (refine wpList_guard rfl ?_; refine wpList_binF rfl rfl rfl rfl (fun w => run_neq25_nil hrb w) ?_; rw [hr0])
     | (refine wpList_lda rfl rfl rfl (HK4.out.2 _ Tw.m0) Tryz.underlying76 rfl size65 ?_)
     | ((go_at_call 58); (with_reducible refine (HP.out _).mono ?_); rintro e w2 ⟨rfl, hb2⟩; have HK5 := Lib.hid (HK4.out.below hb2); clear hb2)
     | (refine wpList_sta (f := dg (n / d + 1)) (f' := dg (n / d)) rfl rfl rfl rfl (HK5.out.2 _ Tw.m0) size65 ?_))
 have hh : KS w [(g, .cells (fa 18 (dg (n / d))) 76 (0, 0)), (w.heap.size, .cells (frcC true n d) 25 (0, 0))] W4 := HK4.out.sub (by
   intro p hp; simp only [List.mem_cons, List.not_mem_nil, or_false] at hp; rcases hp with rfl | rfl; exact .head _; exact .tail _ Tw.m1)
 generalize W4 = W6 at *
 rw [← HQ.out] at hh
 have HH := Lib.hid hh
 clear hh HK4 c0 hrb hr0
 have c0 := frc_cell (HH.out.2 _ Tw.m1)
 cases b1
 · cases b2
   · cases b3
     all_goals
       go_wp2_with (first
     | ((go_at_call 59); refine (toSmall_num _ 18 18 Q f 76 HL.out Tw.om _ (HH.out.2 _ Tw.m0)).mono ?_; rintro e w5 ⟨rfl, m5, rfl⟩)
     | ((go_at_call 60); refine (length_any _ 0 18 18 (dg Q) _ Tw.om (fun i hi => by rw [Nat.zero_add]; exact blk_cell ((HH.out.drewN m5).2 _ Tw.m0) hi)).mono ?_; rintro e w6 ⟨rfl, rfl⟩)
     | (refine wpList_binF (vx := .int .i64 ((ln (dg Q) 18 : Nat) : Int)) (vy := .int .i64 2) rfl rfl rfl rfl (fun w => run_gtr H1.out w) ?_)
     | (refine wpList_guard rfl ?_; refine wpList_binF (vx := .int .u64 (f : Int)) (vy := .int .u64 9223372036854775808) rfl rfl rfl rfl (fun w => run_gtr H2.out w) ?_)
     | (refine wpList_guard rfl ?_; refine wpList_binF (vx := .int .u64 (f : Int)) (vy := .int .u64 9223372036854775808) rfl rfl rfl rfl (fun w => run_eqn H3.out w) ?_))
       exact bodyPost_ret (res_tmp_tmp rfl) rfl ⟨by rw [HV.out]; rfl, (HH.out.drewN m5).1⟩
   · go_wp2_with (first
     | ((go_at_call 59); refine (toSmall_num _ 18 18 Q f 76 HL.out Tw.om _ (HH.out.2 _ Tw.m0)).mono ?_; rintro e w5 ⟨rfl, m5, rfl⟩)
     | ((go_at_call 60); refine (length_any _ 0 18 18 (dg Q) _ Tw.om (fun i hi => by rw [Nat.zero_add]; exact blk_cell ((HH.out.drewN m5).2 _ Tw.m0) hi)).mono ?_; rintro e w6 ⟨rfl, rfl⟩)
     | (refine wpList_binF (vx := .int .i64 ((ln (dg Q) 18 : Nat) : Int)) (vy := .int .i64 2) rfl rfl rfl rfl (fun w => run_gtr H1.out w) ?_)
     | (refine wpList_guard rfl ?_; refine wpList_binF (vx := .int .u64 (f : Int)) (vy := .int .u64 9223372036854775808) rfl rfl rfl rfl (fun w => run_gtr H2.out w) ?_)
     | (refine wpList_guard rfl ?_; refine wpList_binF (vx := .int .u64 (f : Int)) (vy := .int .u64 9223372036854775808) rfl rfl rfl rfl (fun w => run_eqn H3.out w) ?_))
     exact bodyPost_ret (res_tmp_tmp rfl) rfl ⟨by rw [HV.out]; rfl, (HH.out.drewN m5).1⟩
 · go_wp2_with (first
     | ((go_at_call 59); refine (toSmall_num _ 18 18 Q f 76 HL.out Tw.om _ (HH.out.2 _ Tw.m0)).mono ?_; rintro e w5 ⟨rfl, m5, rfl⟩)
     | ((go_at_call 60); refine (length_any _ 0 18 18 (dg Q) _ Tw.om (fun i hi => by rw [Nat.zero_add]; exact blk_cell ((HH.out.drewN m5).2 _ Tw.m0) hi)).mono ?_; rintro e w6 ⟨rfl, rfl⟩)
     | (refine wpList_binF (vx := .int .i64 ((ln (dg Q) 18 : Nat) : Int)) (vy := .int .i64 2) rfl rfl rfl rfl (fun w => run_gtr H1.out w) ?_)
     | (refine wpList_guard rfl ?_; refine wpList_binF (vx := .int .u64 (f : Int)) (vy := .int .u64 9223372036854775808) rfl rfl rfl rfl (fun w => run_gtr H2.out w) ?_)
     | (refine wpList_guard rfl ?_; refine wpList_binF (vx := .int .u64 (f : Int)) (vy := .int .u64 9223372036854775808) rfl rfl rfl rfl (fun w => run_eqn H3.out w) ?_))
   exact bodyPost_ret (res_tmp_tmp rfl) rfl ⟨by rw [HV.out]; rfl, (HH.out.drewN m5).1⟩
set_option maxRecDepth 100000 in
set_option maxHeartbeats 2000000 in
theorem floor_pos (n d Q f : Nat) (b1 b2 b3 : Bool) (V : Value) (HX : Hid (n < R 8 ∧ n < R 17 ∧ d < R 8 ∧ 0 < d ∧ n / d < R 18 ∧ n % d < R 8)) (HR : Hid (∀ W, Calls Tryz.prog 17 #[.agg (frcC false n d)] W fun e w' => e = .returned (.bool true) ∧ Below W.heap.size W w'))
   (HQ : Hid (Q = n / d)) (HQ8 : Hid (n / d + 1 < R 18)) (HL : Hid (dg Q 1 * 4294967296 + dg Q 0 = f)) (hr : True) (H1 : Hid (decide ((2 : Int) < ((ln (dg Q) 18 : Nat) : Int)) = b1)) (H2 : Hid (decide ((9223372036854775808 : Int) < (f : Int)) = b2)) (H3 : Hid (((f : Int) == 9223372036854775808) = b3))
   (HV : Hid (V = if b1 = true ∨ b2 = true ∨ b3 = true  then .tuple #[.int .i64 0, .int .i64 3] else .tuple #[.int .i64 (wrap64 (f : Int)), .int .i64 0])) (w : World) :
   Calls Tryz.prog 28 #[frc false n d] w fun e w' => e = .returned V ∧ Below w.heap.size w w' := by
 unfold frc
 go_enter Tryz.func28, Tryz.ntmps28
 go_upto_region 1 with (fail)
 have hK := KS.one w (.cells (frcC false n d) 25)
 obtain ⟨W, hW⟩ : ∃ W, W = w.alloc (.cells (frcC false n d) 25) := ⟨_, rfl⟩
 rw [← hW] at hK
 rw [← hW]
 clear hW
 have HK := Lib.hid hK
 clear hK
 have HRR := Lib.hid hr
 clear hr
 go_wp2_with (first
     | (refine wpList_ldf rfl rfl rfl (HK.out.2 _ Tw.m0) Tryz.underlying25 rfl size27 ?_)
     | ((go_at_call 17); (with_reducible refine (HR.out _).mono ?_); rintro e w1 ⟨rfl, hb1⟩; have HK1 := Lib.hid (HK.out.below hb1); clear hb1))
 refine wp_region_U [(w.heap.size, .cells (frcC (false) (n) (d)) 25 (0, 0))] Tw.kr (HK1.out) ?_
 refine wpU_pY (i := 0) (v := .pointer (some ⟨w.heap.size, 1, none⟩)) rfl rfl Tw.kr Tw.kr rfl Tw.kf Tw.pu ?_
 refine wpU_vY (i := 1) (v := num (n)) rfl rfl Tw.kr Tw.kr rfl (yb_load rfl Tw.kr Tw.m0 Tryz.underlying23 rfl size25 (by simp) (frc_num (false) (n) (d))) Tw.pu ?_
 refine wpU_vY (i := 2) (v := wid n) rfl rfl Tw.kr Tw.kr rfl (yb_call (f := 57) (args := #[num n]) Tw.kf fun W hW => widen_any n HX.out.1 W) Tw.pu ?_
 refine wpU_pY (i := 3) (v := .pointer (some ⟨w.heap.size, 9, none⟩)) rfl rfl Tw.kr Tw.kr rfl Tw.kf Tw.pu ?_
 refine wpU_vY (i := 4) (v := num (d)) rfl rfl Tw.kr Tw.kr rfl (yb_load rfl Tw.kr Tw.m0 Tryz.underlying23 rfl size25 (by simp) (frc_den (false) (n) (d))) Tw.pu ?_
 refine wpU_vY (i := 5) (v := .tuple #[wid (n / d), num (n % d)]) rfl rfl Tw.kr Tw.kr rfl (yb_call (f := 56) (args := #[wid n, num d]) Tw.kf fun W hW => divide_any n d HX.out.2.1 HX.out.2.2.1 HX.out.2.2.2.1 W) Tw.pu ?_
 refine wpU_pY (i := 6) (v := .tuple #[wid (n / d), num (n % d)]) rfl rfl Tw.kr Tw.kr rfl Tw.kf Tw.pu ?_
 refine wpU_pY (i := 7) (v := wid (n / d)) rfl rfl Tw.kr Tw.kr rfl Tw.kf Tw.pu ?_
 refine wpU_pY (i := 8) (v := num (n % d)) rfl rfl Tw.kr Tw.kr rfl Tw.kf Tw.pu ?_
 refine wpU_twoY (i := 9) (j := 10) (obi := .cells (fa 18 (fun _ => 0)) 76 (0, 0)) (obj := .cells (fa 8 (fun _ => 0)) 23 (0, 0)) rfl rfl rfl rfl rfl rfl Tw.kr Tw.kr Tw.kr Tw.kr (fun _ _ => rfl) (fun _ _ => rfl) (fun _ _ => by simp only [List.setIfInBounds_toArray, List.set_cons_succ, List.set_cons_zero] <;> rfl) (fun _ _ => by simp only [List.setIfInBounds_toArray, List.set_cons_succ, List.set_cons_zero] <;> rfl) fun g h Bg Bh Dgh Fg Fh => ?_
 simp only [List.forall_mem_cons] at Fg Fh
 refine wpU_sY [(g, .cells (fa 18 (dg (n / d))) 76 (0, 0)), (h, .cells (fa 8 (fun _ => 0)) 23 (0, 0)), (w.heap.size, .cells (frcC (false) (n) (d)) 25 (0, 0))] (i := 11) rfl Tw.kr rfl rfl rfl
   (st_a rfl rfl rfl Tw.m0 Tw.om size65 (by intro p hp; simp only [List.mem_cons, List.not_mem_nil, or_false] at hp; rcases hp with rfl | rfl | rfl; exact .inl rfl; exact .inr ⟨by simp, by simp only; omega⟩; exact .inr ⟨by simp, by simp only; omega⟩)) ?_
 refine wpU_sY [(g, .cells (fa 18 (dg (n / d))) 76 (0, 0)), (h, .cells (fa 8 (dg (n % d))) 23 (0, 0)), (w.heap.size, .cells (frcC (false) (n) (d)) 25 (0, 0))] (i := 12) rfl Tw.kr rfl rfl rfl
   (st_a rfl rfl rfl Tw.m1 Tw.om size25 (by intro p hp; simp only [List.mem_cons, List.not_mem_nil, or_false] at hp; rcases hp with rfl | rfl | rfl; exact .inr ⟨by simp, by simp only; omega⟩; exact .inl rfl; exact .inr ⟨by simp, by simp only; omega⟩)) ?_
 refine wpU_done Tw.kr (fun W4 hW4 => ?_) _
 clear HK HK1
 have c0 := frc_cell (hW4.2 _ Tw.m2)
 have HK4 := Lib.hid hW4
 clear hW4
 have hr := HRR.out
 have hrb := HX.out.2.2.2.2.2
 have hr0 : True := hr
 clear hr
 go_upto_region 6 with (first
     | (refine wpList_guard rfl ?_; refine wpList_lda rfl rfl rfl (HK4.out.2 _ Tw.m1) Tryz.underlying23 rfl size25 ?_)
     | (refine wpList_guard rfl ?_; refine wpList_binF rfl rfl rfl rfl (fun w => run_neq25_nil hrb w) ?_; rw [hr0])
     | (refine wpList_lda rfl rfl rfl (HK4.out.2 _ Tw.m0) Tryz.underlying76 rfl size65 ?_)
     | ((go_at_call 58); (with_reducible refine (HP.out _).mono ?_); rintro e w2 ⟨rfl, hb2⟩; have HK5 := Lib.hid (HK4.out.below hb2); clear hb2)
     | (refine wpList_sta (f := dg (n / d + 1)) (f' := dg (n / d)) rfl rfl rfl rfl (HK5.out.2 _ Tw.m0) size65 ?_))
 have hh : KS w [(g, .cells (fa 18 (dg (n / d))) 76 (0, 0)), (w.heap.size, .cells (frcC false n d) 25 (0, 0))] W4 := HK4.out.sub (by
   intro p hp; simp only [List.mem_cons, List.not_mem_nil, or_false] at hp; rcases hp with rfl | rfl; exact .head _; exact .tail _ Tw.m1)
 generalize W4 = W6 at *
 rw [← HQ.out] at hh
 have HH := Lib.hid hh
 clear hh HK4 c0 hrb hr0
 have c0 := frc_cell (HH.out.2 _ Tw.m1)
 cases b1
 · cases b2
   · cases b3
     all_goals
       go_wp2_with (first
     | ((go_at_call 59); refine (toSmall_num _ 18 18 Q f 76 HL.out Tw.om _ (HH.out.2 _ Tw.m0)).mono ?_; rintro e w5 ⟨rfl, m5, rfl⟩)
     | ((go_at_call 60); refine (length_any _ 0 18 18 (dg Q) _ Tw.om (fun i hi => by rw [Nat.zero_add]; exact blk_cell ((HH.out.drewN m5).2 _ Tw.m0) hi)).mono ?_; rintro e w6 ⟨rfl, rfl⟩)
     | (refine wpList_binF (vx := .int .i64 ((ln (dg Q) 18 : Nat) : Int)) (vy := .int .i64 2) rfl rfl rfl rfl (fun w => run_gtr H1.out w) ?_)
     | (refine wpList_guard rfl ?_; refine wpList_binF (vx := .int .u64 (f : Int)) (vy := .int .u64 9223372036854775808) rfl rfl rfl rfl (fun w => run_gtr H2.out w) ?_)
     | (refine wpList_guard rfl ?_; refine wpList_binF (vx := .int .u64 (f : Int)) (vy := .int .u64 9223372036854775808) rfl rfl rfl rfl (fun w => run_eqn H3.out w) ?_))
       exact bodyPost_ret (res_tmp_tmp rfl) rfl ⟨by rw [HV.out]; rfl, (HH.out.drewN m5).1⟩
   · go_wp2_with (first
     | ((go_at_call 59); refine (toSmall_num _ 18 18 Q f 76 HL.out Tw.om _ (HH.out.2 _ Tw.m0)).mono ?_; rintro e w5 ⟨rfl, m5, rfl⟩)
     | ((go_at_call 60); refine (length_any _ 0 18 18 (dg Q) _ Tw.om (fun i hi => by rw [Nat.zero_add]; exact blk_cell ((HH.out.drewN m5).2 _ Tw.m0) hi)).mono ?_; rintro e w6 ⟨rfl, rfl⟩)
     | (refine wpList_binF (vx := .int .i64 ((ln (dg Q) 18 : Nat) : Int)) (vy := .int .i64 2) rfl rfl rfl rfl (fun w => run_gtr H1.out w) ?_)
     | (refine wpList_guard rfl ?_; refine wpList_binF (vx := .int .u64 (f : Int)) (vy := .int .u64 9223372036854775808) rfl rfl rfl rfl (fun w => run_gtr H2.out w) ?_)
     | (refine wpList_guard rfl ?_; refine wpList_binF (vx := .int .u64 (f : Int)) (vy := .int .u64 9223372036854775808) rfl rfl rfl rfl (fun w => run_eqn H3.out w) ?_))
     exact bodyPost_ret (res_tmp_tmp rfl) rfl ⟨by rw [HV.out]; rfl, (HH.out.drewN m5).1⟩
 · go_wp2_with (first
     | ((go_at_call 59); refine (toSmall_num _ 18 18 Q f 76 HL.out Tw.om _ (HH.out.2 _ Tw.m0)).mono ?_; rintro e w5 ⟨rfl, m5, rfl⟩)
     | ((go_at_call 60); refine (length_any _ 0 18 18 (dg Q) _ Tw.om (fun i hi => by rw [Nat.zero_add]; exact blk_cell ((HH.out.drewN m5).2 _ Tw.m0) hi)).mono ?_; rintro e w6 ⟨rfl, rfl⟩)
     | (refine wpList_binF (vx := .int .i64 ((ln (dg Q) 18 : Nat) : Int)) (vy := .int .i64 2) rfl rfl rfl rfl (fun w => run_gtr H1.out w) ?_)
     | (refine wpList_guard rfl ?_; refine wpList_binF (vx := .int .u64 (f : Int)) (vy := .int .u64 9223372036854775808) rfl rfl rfl rfl (fun w => run_gtr H2.out w) ?_)
     | (refine wpList_guard rfl ?_; refine wpList_binF (vx := .int .u64 (f : Int)) (vy := .int .u64 9223372036854775808) rfl rfl rfl rfl (fun w => run_eqn H3.out w) ?_))
   exact bodyPost_ret (res_tmp_tmp rfl) rfl ⟨by rw [HV.out]; rfl, (HH.out.drewN m5).1⟩
end Go.Proofs.YtalmflgkbmnghaaGreatDoor
namespace Go.Proofs.YtalmflgkbmnghaaGreatDoor
open Go.RowKit Tf
variable [ShLZ]
set_option maxRecDepth 100000 in
theorem floor_not (s : Bool) (n d : Nat) (hn : n < R 8) (hd : d < R 8) (hr : rightB s n d = false) (w : World) :
   Calls Tryz.prog 28 #[frc s n d] w fun e w' => e = .returned (.tuple #[.int .i64 0, .int .i64 2]) ∧ Below w.heap.size w w' := by
 have HR : Hid (∀ W, Calls Tryz.prog 17 #[.agg (frcC s n d)] W fun e w' => e = .returned (.bool false) ∧ Below W.heap.size W w') := fun W => by
   have := right_any s n d hn hd W
   rw [hr] at this
   exact this
 clear hr hn hd
 unfold frc
 go_enter Tryz.func28, Tryz.ntmps28
 go_upto_region 1 with (fail)
 have hK := KS.one w (.cells (frcC s n d) 25)
 obtain ⟨W, hW⟩ : ∃ W, W = w.alloc (.cells (frcC s n d) 25) := ⟨_, rfl⟩
 rw [← hW] at hK
 rw [← hW]
 clear hW
 have HK := Lib.hid hK
 clear hK
 go_wp2_with (first
   | (refine wpList_ldf rfl rfl rfl (HK.out.2 _ Tw.m0) Tryz.underlying25 rfl size27 ?_)
   | ((go_at_call 17); (with_reducible refine (HR.out _).mono ?_); rintro e w1 ⟨rfl, hb1⟩; have HK1 := Lib.hid (HK.out.below hb1); clear hb1))
 exact bodyPost_ret (res_tmp_tmp rfl) rfl ⟨rfl, HK1.out.1⟩
def floorQ (s : Bool) (n d : Nat) : Nat := if s = true ∧ ¬ n % d = 0 then n / d + 1 else n / d
def floorV (s : Bool) (n d : Nat) : Value := if floorQ s n d < 9223372036854775808 ∨ (floorQ s n d = 9223372036854775808 ∧ s = true) then .tuple #[.int .i64 (sg s (floorQ s n d)), .int .i64 0] else .tuple #[.int .i64 0, .int .i64 3]
set_option maxRecDepth 100000 in
theorem floor_any (s : Bool) (n d : Nat) (hn : n < R 8) (hd : d < R 8) (w : World) :
   Calls Tryz.prog 28 #[frc s n d] w fun e w' => e = .returned (if rightB s n d = true then floorV s n d else .tuple #[.int .i64 0, .int .i64 2]) ∧ Below w.heap.size w w' := by
 by_cases hr : rightB s n d = true
 · rw [if_pos hr]
   have hd0 : 0 < d := Nat.pos_of_ne_zero fun h => by have := right_den hr; omega
   have hq : n / d < R 8 := Nat.lt_of_le_of_lt (Nat.div_le_self _ _) hn
   have hq9 : R 8 + 1 ≤ R 18 := by
     have h1 := R_le (show 9 ≤ 18 by omega)
     have h2 := R_pos 8
     rw [R_succ] at h1
     omega
   have HX : Hid (n < R 8 ∧ n < R 17 ∧ d < R 8 ∧ 0 < d ∧ n / d < R 18 ∧ n % d < R 8) :=
     ⟨hn, lt_R_of_le hn Tw.om, hd, hd0, lt_R_of_le hq Tw.om, Nat.lt_trans (Nat.mod_lt _ hd0) hd⟩
   have HQ8 : n / d + 1 < R 18 := by omega
   have HR : Hid (∀ W, Calls Tryz.prog 17 #[.agg (frcC s n d)] W fun e w' => e = .returned (.bool true) ∧ Below W.heap.size W w') := fun W => by
     have := right_any s n d hn hd W
     rw [hr] at this
     exact this
   have hval : ∀ Q : Nat, Q < R 18 → ∀ f, f = dg Q 1 * 4294967296 + dg Q 0 →
       (decide ((2 : Int) < ((ln (dg Q) 18 : Nat) : Int)) = true ∨ decide ((9223372036854775808 : Int) < (f : Int)) = true ↔ 9223372036854775808 < Q) ∧ (¬ 9223372036854775808 < Q → f = Q) := by
     intro Q hQ f hf
     rw [low_two] at hf
     simp only [decide_eq_true_eq]
     rcases Nat.lt_or_ge Q 18446744073709551616 with h | h
     · have := ln_le_two h
       rw [Nat.mod_eq_of_lt h] at hf
       subst hf
       exact ⟨⟨fun h => by omega, fun h => by omega⟩, fun _ => rfl⟩
     · have : ¬ ln (dg Q) 18 ≤ 2 := fun h2 => by have := (ln_two hQ h2).2; omega
       exact ⟨⟨fun _ => by omega, fun _ => .inl Tw.om⟩, fun h3 => by omega⟩
   have wr : ∀ f : Nat, ¬ 9223372036854775808 < f → wrap64 (-wrap64 (f : Int)) = -(f : Int) := fun f hf => by unfold wrap64; omega
   have wr' : ∀ f : Nat, ¬ 9223372036854775808 ≤ f → wrap64 (f : Int) = (f : Int) := fun f hf => by unfold wrap64; omega
   cases s
   · have hQ : floorQ false n d = n / d := by simp [floorQ]
     have hv := hval (n / d) HX.2.2.2.2.1 _ rfl
     refine floor_pos n d (n / d) _ _ _ _ _ HX HR rfl HQ8 rfl trivial rfl rfl rfl ?_ w
     unfold floorV Hid
     rw [hQ]
     by_cases hb : 9223372036854775808 < n / d
     · rw [if_pos ((hv.1.2 hb).imp id .inl), if_neg Tw.om]
     · have hf := hv.2 hb
       by_cases he : n / d = 9223372036854775808
       · rw [if_neg (show ¬ (n / d < 9223372036854775808 ∨ (n / d = 9223372036854775808 ∧ false = true)) by simp; omega), if_pos (.inr (.inr (by rw [hf, he]; rfl)))]
       · rw [if_pos (show n / d < 9223372036854775808 ∨ (n / d = 9223372036854775808 ∧ false = true) by omega), if_neg, hf, wr' _ Tw.om]
         · rfl
         · intro h
           rcases h with h | h | h
           · exact hb (hv.1.1 (.inl h))
           · exact hb (hv.1.1 (.inr h))
           · rw [hf] at h
             simp at h
             omega
   · by_cases hm : n % d = 0
     · have hQ : floorQ true n d = n / d := by simp [floorQ, hm]
       have hv := hval (n / d) HX.2.2.2.2.1 _ rfl
       refine floor_negz n d (n / d) _ _ _ _ _ HX HR rfl HQ8 rfl hm rfl rfl rfl ?_ w
       unfold floorV Hid
       rw [hQ]
       by_cases hb : 9223372036854775808 < n / d
       · rw [if_pos (hv.1.2 hb), if_neg Tw.om]
       · rw [if_neg (fun h => hb (hv.1.1 h)), if_pos (by simp; omega), hv.2 hb, wr _ hb]
         rfl
     · have hQ : floorQ true n d = n / d + 1 := by simp [floorQ, hm]
       have hv := hval (n / d + 1) HQ8 _ rfl
       refine floor_neg n d (n / d + 1) _ _ _ _ _ HX HR rfl HQ8 rfl hm rfl rfl rfl ?_ w
       unfold floorV Hid
       rw [hQ]
       by_cases hb : 9223372036854775808 < n / d + 1
       · rw [if_pos (hv.1.2 hb), if_neg Tw.om]
       · rw [if_neg (fun h => hb (hv.1.1 h)), if_pos (by simp; omega), hv.2 hb, wr _ hb]
         rfl
 · rw [if_neg hr]
   exact floor_not s n d hn hd (by simpa using hr) w
end Go.Proofs.YtalmflgkbmnghaaGreatDoor
