import Derived.Test.YtkfcikijmkgahaaDoorG13
import Derived.Test.YtkfcikijmkgahaaDoorG14
import Derived.Test.YtkfcikijmkgahaaDoorG02
/- Part of the proof: Ad, Mg. -/
set_option linter.unusedVariables false
set_option linter.unusedSimpArgs false
set_option linter.unusedSectionVars false
namespace Tw
open Go Go.RowKit Go.Proofs.YtkfcikijmkgahaaDoor
/-- two variables that are made, and then stored into -/
theorem KS.newvar2 {w w1 : World} {K : List (Nat × Obj)} {cs cs' ds ds' : Array Value} {t u : TypeId} (h : KS w K w1) : KS w ((w1.heap.size, .cells cs' t (0, 0)) :: (w1.heap.size + 1, .cells ds' u (0, 0)) :: K)
    ((((w1.alloc (.cells cs t (0, 0))).alloc (.cells ds u (0, 0))).setRow w1.heap.size cs').setRow (w1.heap.size + 1) ds') := by
  have h2 := (h.alloc (.cells cs t (0, 0))).alloc (.cells ds u (0, 0))
  rw [size1] at h2
  have hlt : ∀ p ∈ K, p.1 < w1.heap.size := fun p hp => lt_of_block (h.2 p hp)
  have h3 := KS.put (K' := (w1.heap.size + 1, .cells ds u (0, 0)) :: (w1.heap.size, .cells cs' t (0, 0)) :: K) h2 h.1.size (.tail _ (.head _)) (by
    intro p hp
    rcases List.mem_cons.1 hp with rfl | hp
    · exact .inr ⟨.head _, by simp only; omega⟩
    · rcases List.mem_cons.1 hp with rfl | hp
      · exact .inl rfl
      · exact .inr ⟨.tail _ (.tail _ hp), by have := hlt p hp; omega⟩)
  exact KS.put h3 (by have := h.1.size; omega) (.head _) (by
    intro p hp
    rcases List.mem_cons.1 hp with rfl | hp
    · exact .inr ⟨.tail _ (.head _), by simp only; omega⟩
    · rcases List.mem_cons.1 hp with rfl | hp
      · exact .inl rfl
      · exact .inr ⟨.tail _ (.tail _ hp), by have := hlt p hp; omega⟩)

end Tw
namespace Go.Proofs.YtkfcikijmkgahaaDoor
open Go.RowKit Tw
variable [ShLZ]
theorem heap2_2s (w : World) (A B : Obj) (cs : Array Value) : (((w.alloc A).alloc B).setRow w.heap.size cs).heap[w.heap.size + 1]? = some B := by
  rw [setRow_other _ _ _ _ (by omega)]; exact (heap2 w A B).2
theorem yb_ldb {W0 : World} {o : Oper} {a : Act} {K : List (Nat × Obj)} {x : Operand} {g : Nat} {s : Bool} {n d : Nat} {t : TypeId} (ho : o.op = .load 4 x) (hx : a.eval x = .pointer (some ⟨g, 0, none⟩)) (hm : (g, .cells (frcC s n d) t (0, 0)) ∈ K) :
    ∀ w, KS W0 K w → ∀ K' : Act → World → Prop, (∀ w', Below w.heap.size w w' → K' (a.put o.dst (.bool s)) w') → Oper.wp Tryd.prog o a w K' (fun _ _ _ => False) := by
  intro w hw K' hk
  have hc := frc_cell (hw.2 _ hm)
  unfold Oper.wp execOp
  simp only [ho, hx]
  go_simp
  exact hk w (Below.refl _ _)

set_option maxRecDepth 100000 in
set_option maxHeartbeats 2000000 in
theorem add_walk (s1 s2 S : Bool) (n1 d1 n2 d2 c ov q2 u v N l : Nat) (s' : Bool) (n' d' : Nat) (ee : Int) (RV : Value) (hc : c < R 8) (hc1 : c = 1 → RV = packV S N (d1 * d2)) (hc2 : c ≠ 1 → RV = packV S (N / l) (ov * (d2 / l)))
    (HPV : Hid (RV = .tuple #[.agg (frcC s' n' d'), .int .i64 ee]))
    (Cgcd : Hid (∀ W, Calls Tryd.prog 47 #[num d1, num d2] W fun e w' => e = .returned (num c) ∧ Below W.heap.size W w'))
    (Cov : Hid (∀ W, Calls Tryd.prog 55 #[num d1, num c] W fun e w' => e = .returned (num ov) ∧ Below W.heap.size W w'))
    (Cq2 : Hid (∀ W, Calls Tryd.prog 55 #[num d2, num c] W fun e w' => e = .returned (num q2) ∧ Below W.heap.size W w'))
    (Cu : Hid (∀ W, Calls Tryd.prog 35 #[num n1, num q2] W fun e w' => e = .returned (wid u) ∧ Below W.heap.size W w'))
    (Cv : Hid (∀ W, Calls Tryd.prog 35 #[num n2, num ov] W fun e w' => e = .returned (wid v) ∧ Below W.heap.size W w'))
    (Cps : Hid (∀ W, Calls Tryd.prog 34 #[.bool s1, wid u, .bool s2, wid v] W fun e w' => e = .returned (.tuple #[.bool S, wid N]) ∧ Below W.heap.size W w'))
    (Ct : Hid (∀ W, Calls Tryd.prog 35 #[num d1, num d2] W fun e w' => e = .returned (wid (d1 * d2)) ∧ Below W.heap.size W w'))
    (Cdv : Hid (∀ W, Calls Tryd.prog 36 #[wid N, num c] W fun e w' => e = .returned (.tuple #[wid (N / c), num (N % c)]) ∧ Below W.heap.size W w'))
    (Cl : Hid (∀ W, Calls Tryd.prog 47 #[num (N % c), num c] W fun e w' => e = .returned (num l) ∧ Below W.heap.size W w'))
    (Cdl : Hid (∀ W, Calls Tryd.prog 36 #[wid N, num l] W fun e w' => e = .returned (.tuple #[wid (N / l), num (N % l)]) ∧ Below W.heap.size W w'))
    (Cdq : Hid (∀ W, Calls Tryd.prog 55 #[num d2, num l] W fun e w' => e = .returned (num (d2 / l)) ∧ Below W.heap.size W w'))
    (Cod : Hid (∀ W, Calls Tryd.prog 35 #[num ov, num (d2 / l)] W fun e w' => e = .returned (wid (ov * (d2 / l))) ∧ Below W.heap.size W w'))
    (CP1 : Hid (∀ W, Calls Tryd.prog 56 #[.bool S, wid N, wid (d1 * d2)] W fun e w' => e = .returned (packV S N (d1 * d2)) ∧ Below W.heap.size W w'))
    (CP2 : Hid (∀ W, Calls Tryd.prog 56 #[.bool S, wid (N / l), wid (ov * (d2 / l))] W fun e w' => e = .returned (packV S (N / l) (ov * (d2 / l))) ∧ Below W.heap.size W w'))
    (w : World) :
    Calls Tryd.prog 30 #[frc s1 n1 d1, frc s2 n2 d2] w fun e w' => e = .returned RV ∧ Below w.heap.size w w' := by
  have hc1' := Lib.hid hc1
  have hc2' := Lib.hid hc2
  clear hc1 hc2
  unfold frc
  go_enter Tryd.func30, Tryd.ntmps30
  go_upto_region 1 with (fail)
  have hK := KS.three w (.cells (frcC s1 n1 d1) 26) (.cells (frcC s2 n2 d2) 26) (.cells (frcC false 0 0) 26)
  obtain ⟨W, hW⟩ : ∃ W, W = ((w.alloc (.cells (frcC s1 n1 d1) 26)).alloc (.cells (frcC s2 n2 d2) 26)).alloc (.cells (frcC false 0 0) 26) := ⟨_, rfl⟩
  rw [← hW] at hK
  rw [frc_zero] at hW
  rw [← hW]
  clear hW
  have HK := Lib.hid hK
  clear hK
  go_upto_region 2 with (first
    | (refine wpList_ldd rfl rfl rfl (HK.out.2 _ (.head _)) Tryd.underlying24 rfl size25 ?_)
    | (refine wpList_ldd rfl rfl rfl (HK.out.2 _ (.tail _ (.head _))) Tryd.underlying24 rfl size25 ?_)
    | (go_at_call 47; refine (Cgcd.out _).mono ?_; rintro e w1 ⟨rfl, hb1⟩; have HK1 := Lib.hid (HK.out.below hb1); clear hb1; unfold num)
    | (refine wpList_sta (f := dg c) (f' := fun _ => 0) rfl rfl rfl rfl (heap1 w1 _) size25 ?_))
  obtain ⟨Bgc, Fgc⟩ := HK1.out.fresh
  have HK2 := Lib.hid (HK1.out.newvar (cs := fa 8 (fun _ => 0)) (cs' := fa 8 (dg (c))) (t := 24))
  simp only [List.forall_mem_cons] at Fgc
  rw [← fa_zero8]
  generalize (w1.alloc (.cells (fa 8 (fun _ => 0)) 24)).setRow w1.heap.size (fa 8 (dg (c))) = W1 at *
  clear HK1
  generalize w1.heap.size = gc at *
  clear HK
  go_upto_region 3 with (first
    | (refine wpList_ldd rfl rfl rfl (HK2.out.2 _ (.tail _ (.head _))) Tryd.underlying24 rfl size25 ?_)
    | (refine wpList_lda rfl rfl rfl (HK2.out.2 _ (.head _)) Tryd.underlying24 rfl size25 ?_)
    | (go_at_call 55; refine (Cov.out _).mono ?_; rintro e w2 ⟨rfl, hb1⟩; have HK3 := Lib.hid (HK2.out.below hb1); clear hb1; unfold num)
    | (refine wpList_sta (f := dg ov) (f' := fun _ => 0) rfl rfl rfl rfl (heap1 w2 _) size25 ?_))
  obtain ⟨Bgo, Fgo⟩ := HK3.out.fresh
  have HK4 := Lib.hid (HK3.out.newvar (cs := fa 8 (fun _ => 0)) (cs' := fa 8 (dg (ov))) (t := 24))
  simp only [List.forall_mem_cons] at Fgo
  rw [← fa_zero8]
  generalize (w2.alloc (.cells (fa 8 (fun _ => 0)) 24)).setRow w2.heap.size (fa 8 (dg (ov))) = W2 at *
  clear HK3
  generalize w2.heap.size = go at *
  clear HK2
  go_wp2_with fail
  refine wp_region_U (W0 := w) [(go, .cells (fa 8 (dg ov)) 24 (0, 0)), (gc, .cells (fa 8 (dg c)) 24 (0, 0)), (w.heap.size, .cells (frcC (s1) (n1) (d1)) 26 (0, 0)), (w.heap.size + 1, .cells (frcC (s2) (n2) (d2)) 26 (0, 0)), (w.heap.size + 1 + 1, .cells (frcC (false) (0) (0)) 26 (0, 0))] (by kernel_rfl) (HK4.out) ?_
  refine wpU_p (i := 0) (v := .pointer (some ⟨w.heap.size, 0, none⟩)) rfl rfl (by kernel_rfl) (by kernel_rfl) rfl (fun _ => by kernel_rfl) (by simp only [List.setIfInBounds_toArray, List.set_cons_succ, List.set_cons_zero] <;> rfl) ?_
  refine wpU_v (i := 1) (v := .bool s1) rfl rfl (by kernel_rfl) (by kernel_rfl) rfl (yb_ldb rfl (by kernel_rfl) (.tail _ (.tail _ (.head _)))) (by simp only [List.setIfInBounds_toArray, List.set_cons_succ, List.set_cons_zero] <;> rfl) ?_
  refine wpU_p (i := 2) (v := .pointer (some ⟨w.heap.size, 1, none⟩)) rfl rfl (by kernel_rfl) (by kernel_rfl) rfl (fun _ => by kernel_rfl) (by simp only [List.setIfInBounds_toArray, List.set_cons_succ, List.set_cons_zero] <;> rfl) ?_
  refine wpU_v (i := 3) (v := num (n1)) rfl rfl (by kernel_rfl) (by kernel_rfl) rfl (yb_load rfl (by kernel_rfl) (.tail _ (.tail _ (.head _))) Tryd.underlying24 rfl size25 (by simp) (frc_num (s1) (n1) (d1))) (by simp only [List.setIfInBounds_toArray, List.set_cons_succ, List.set_cons_zero] <;> rfl) ?_
  refine wpU_p (i := 4) (v := .pointer (some ⟨w.heap.size + 1, 9, none⟩)) rfl rfl (by kernel_rfl) (by kernel_rfl) rfl (fun _ => by kernel_rfl) (by simp only [List.setIfInBounds_toArray, List.set_cons_succ, List.set_cons_zero] <;> rfl) ?_
  refine wpU_v (i := 5) (v := num (d2)) rfl rfl (by kernel_rfl) (by kernel_rfl) rfl (yb_load rfl (by kernel_rfl) (.tail _ (.tail _ (.tail _ (.head _)))) Tryd.underlying24 rfl size25 (by simp) (frc_den (s2) (n2) (d2))) (by simp only [List.setIfInBounds_toArray, List.set_cons_succ, List.set_cons_zero] <;> rfl) ?_
  refine wpU_v (i := 6) (v := num c) rfl rfl (by kernel_rfl) (by kernel_rfl) rfl (yb_lda rfl (by kernel_rfl) (.tail _ (.head _)) Tryd.underlying24 rfl size25) (by simp only [List.setIfInBounds_toArray, List.set_cons_succ, List.set_cons_zero] <;> rfl) ?_
  refine wpU_v (i := 7) (v := num q2) rfl rfl (by kernel_rfl) (by kernel_rfl) rfl (yb_call (f := 55) (args := #[num d2, num c]) (fun _ => by kernel_rfl) fun W hW => Cq2.out W) (by simp only [List.setIfInBounds_toArray, List.set_cons_succ, List.set_cons_zero] <;> rfl) ?_
  refine wpU_v (i := 8) (v := wid u) rfl rfl (by kernel_rfl) (by kernel_rfl) rfl (yb_call (f := 35) (args := #[num n1, num q2]) (fun _ => by kernel_rfl) fun W hW => Cu.out W) (by simp only [List.setIfInBounds_toArray, List.set_cons_succ, List.set_cons_zero] <;> rfl) ?_
  refine wpU_p (i := 9) (v := .pointer (some ⟨w.heap.size + 1, 0, none⟩)) rfl rfl (by kernel_rfl) (by kernel_rfl) rfl (fun _ => by kernel_rfl) (by simp only [List.setIfInBounds_toArray, List.set_cons_succ, List.set_cons_zero] <;> rfl) ?_
  refine wpU_v (i := 10) (v := .bool s2) rfl rfl (by kernel_rfl) (by kernel_rfl) rfl (yb_ldb rfl (by kernel_rfl) (.tail _ (.tail _ (.tail _ (.head _))))) (by simp only [List.setIfInBounds_toArray, List.set_cons_succ, List.set_cons_zero] <;> rfl) ?_
  refine wpU_p (i := 11) (v := .pointer (some ⟨w.heap.size + 1, 1, none⟩)) rfl rfl (by kernel_rfl) (by kernel_rfl) rfl (fun _ => by kernel_rfl) (by simp only [List.setIfInBounds_toArray, List.set_cons_succ, List.set_cons_zero] <;> rfl) ?_
  refine wpU_v (i := 12) (v := num (n2)) rfl rfl (by kernel_rfl) (by kernel_rfl) rfl (yb_load rfl (by kernel_rfl) (.tail _ (.tail _ (.tail _ (.head _)))) Tryd.underlying24 rfl size25 (by simp) (frc_num (s2) (n2) (d2))) (by simp only [List.setIfInBounds_toArray, List.set_cons_succ, List.set_cons_zero] <;> rfl) ?_
  refine wpU_v (i := 13) (v := num ov) rfl rfl (by kernel_rfl) (by kernel_rfl) rfl (yb_lda rfl (by kernel_rfl) (.head _) Tryd.underlying24 rfl size25) (by simp only [List.setIfInBounds_toArray, List.set_cons_succ, List.set_cons_zero] <;> rfl) ?_
  refine wpU_v (i := 14) (v := wid v) rfl rfl (by kernel_rfl) (by kernel_rfl) rfl (yb_call (f := 35) (args := #[num n2, num ov]) (fun _ => by kernel_rfl) fun W hW => Cv.out W) (by simp only [List.setIfInBounds_toArray, List.set_cons_succ, List.set_cons_zero] <;> rfl) ?_
  refine wpU_v (i := 15) (v := .tuple #[.bool S, wid N]) rfl rfl (by kernel_rfl) (by kernel_rfl) rfl (yb_call (f := 34) (args := #[.bool s1, wid u, .bool s2, wid v]) (fun _ => by kernel_rfl) fun W hW => Cps.out W) (by simp only [List.setIfInBounds_toArray, List.set_cons_succ, List.set_cons_zero] <;> rfl) ?_
  refine wpU_p (i := 16) (v := .tuple #[.bool S, wid N]) rfl rfl (by kernel_rfl) (by kernel_rfl) rfl (fun _ => by kernel_rfl) (by simp only [List.setIfInBounds_toArray, List.set_cons_succ, List.set_cons_zero] <;> rfl) ?_
  refine wpU_p (i := 17) (v := .bool S) rfl rfl (by kernel_rfl) (by kernel_rfl) rfl (fun _ => by kernel_rfl) (by simp only [List.setIfInBounds_toArray, List.set_cons_succ, List.set_cons_zero] <;> rfl) ?_
  refine wpU_p (i := 18) (v := wid N) rfl rfl (by kernel_rfl) (by kernel_rfl) rfl (fun _ => by kernel_rfl) (by simp only [List.setIfInBounds_toArray, List.set_cons_succ, List.set_cons_zero] <;> rfl) ?_
  refine wpU_new (i := 19) (obi := .cells (fa 18 (fun _ => 0)) 59 (0, 0)) rfl rfl rfl (by kernel_rfl) (fun _ _ => rfl) (fun _ => by simp only [List.setIfInBounds_toArray, List.set_cons_succ, List.set_cons_zero] <;> rfl) fun gn Bgn Fgn => ?_
  simp only [List.forall_mem_cons] at Fgn
  refine wpU_p (i := 20) (v := .bool S) rfl rfl (by kernel_rfl) (by kernel_rfl) rfl (fun _ => by kernel_rfl) (by simp only [List.setIfInBounds_toArray, List.set_cons_succ, List.set_cons_zero] <;> rfl) ?_
  refine wpU_s [(gn, .cells (fa 18 (dg N)) 59 (0, 0)), (go, .cells (fa 8 (dg ov)) 24 (0, 0)), (gc, .cells (fa 8 (dg c)) 24 (0, 0)), (w.heap.size, .cells (frcC (s1) (n1) (d1)) 26 (0, 0)), (w.heap.size + 1, .cells (frcC (s2) (n2) (d2)) 26 (0, 0)), (w.heap.size + 1 + 1, .cells (frcC (false) (0) (0)) 26 (0, 0))] (i := 21) rfl (by kernel_rfl) rfl rfl rfl
    (st_a rfl rfl rfl (.head _) (by omega) size65 (by intro p hp; simp only [List.mem_cons, List.not_mem_nil, or_false] at hp; rcases hp with rfl | rfl | rfl | rfl | rfl | rfl; exact .inl rfl; exact .inr ⟨by simp, by simp only; omega⟩; exact .inr ⟨by simp, by simp only; omega⟩; exact .inr ⟨by simp, by simp only; omega⟩; exact .inr ⟨by simp, by simp only; omega⟩; exact .inr ⟨by simp, by simp only; omega⟩)) ?_
  refine wpU_done (by kernel_rfl) (fun W4 hW4 => ?_) _
  have HK5 := Lib.hid hW4
  clear hW4 HK4
  by_cases h1 : c = 1
  · have HPK : Hid (∀ W, Calls Tryd.prog 56 #[.bool S, wid N, wid (d1 * d2)] W fun e w' => e = .returned RV ∧ Below W.heap.size W w') := by
      unfold Hid; rw [hc1'.out h1]; exact CP1.out
    subst h1
    go_wp2_with (first
      | (refine wpList_lda rfl rfl rfl (HK5.out.2 _ (.tail _ (.tail _ (.head _)))) Tryd.underlying24 rfl size25 ?_))
    refine wp_region_U (W0 := w) [(gn, .cells (fa 18 (dg N)) 59 (0, 0)), (go, .cells (fa 8 (dg ov)) 24 (0, 0)), (gc, .cells (fa 8 (dg 1)) 24 (0, 0)), (w.heap.size, .cells (frcC (s1) (n1) (d1)) 26 (0, 0)), (w.heap.size + 1, .cells (frcC (s2) (n2) (d2)) 26 (0, 0)), (w.heap.size + 1 + 1, .cells (frcC (false) (0) (0)) 26 (0, 0))] (by kernel_rfl) (HK5.out) ?_
    refine wpU_p (i := 0) (v := .bool S) rfl rfl (by kernel_rfl) (by kernel_rfl) rfl (fun _ => by kernel_rfl) (by simp only [List.setIfInBounds_toArray, List.set_cons_succ, List.set_cons_zero] <;> rfl) ?_
    refine wpU_v (i := 1) (v := wid N) rfl rfl (by kernel_rfl) (by kernel_rfl) rfl (yb_lda rfl (by kernel_rfl) (.head _) Tryd.underlying59 rfl size65) (by simp only [List.setIfInBounds_toArray, List.set_cons_succ, List.set_cons_zero] <;> rfl) ?_
    refine wpU_p (i := 2) (v := .pointer (some ⟨w.heap.size, 9, none⟩)) rfl rfl (by kernel_rfl) (by kernel_rfl) rfl (fun _ => by kernel_rfl) (by simp only [List.setIfInBounds_toArray, List.set_cons_succ, List.set_cons_zero] <;> rfl) ?_
    refine wpU_v (i := 3) (v := num (d1)) rfl rfl (by kernel_rfl) (by kernel_rfl) rfl (yb_load rfl (by kernel_rfl) (.tail _ (.tail _ (.tail _ (.head _)))) Tryd.underlying24 rfl size25 (by simp) (frc_den (s1) (n1) (d1))) (by simp only [List.setIfInBounds_toArray, List.set_cons_succ, List.set_cons_zero] <;> rfl) ?_
    refine wpU_p (i := 4) (v := .pointer (some ⟨w.heap.size + 1, 9, none⟩)) rfl rfl (by kernel_rfl) (by kernel_rfl) rfl (fun _ => by kernel_rfl) (by simp only [List.setIfInBounds_toArray, List.set_cons_succ, List.set_cons_zero] <;> rfl) ?_
    refine wpU_v (i := 5) (v := num (d2)) rfl rfl (by kernel_rfl) (by kernel_rfl) rfl (yb_load rfl (by kernel_rfl) (.tail _ (.tail _ (.tail _ (.tail _ (.head _))))) Tryd.underlying24 rfl size25 (by simp) (frc_den (s2) (n2) (d2))) (by simp only [List.setIfInBounds_toArray, List.set_cons_succ, List.set_cons_zero] <;> rfl) ?_
    refine wpU_v (i := 6) (v := wid (d1 * d2)) rfl rfl (by kernel_rfl) (by kernel_rfl) rfl (yb_call (f := 35) (args := #[num d1, num d2]) (fun _ => by kernel_rfl) fun W hW => Ct.out W) (by simp only [List.setIfInBounds_toArray, List.set_cons_succ, List.set_cons_zero] <;> rfl) ?_
    refine wpU_v (i := 7) (v := .tuple #[.agg (frcC s' n' d'), .int .i64 ee]) rfl rfl (by kernel_rfl) (by kernel_rfl) rfl (yb_call (f := 56) (args := #[.bool S, wid N, wid (d1 * d2)]) (fun _ => by kernel_rfl) fun W hW => by rw [← HPV.out]; exact HPK.out W) (by simp only [List.setIfInBounds_toArray, List.set_cons_succ, List.set_cons_zero] <;> rfl) ?_
    refine wpU_p (i := 8) (v := .agg (frcC s' n' d')) rfl rfl (by kernel_rfl) (by kernel_rfl) rfl (fun _ => by kernel_rfl) (by simp only [List.setIfInBounds_toArray, List.set_cons_succ, List.set_cons_zero] <;> rfl) ?_
    refine wpU_p (i := 9) (v := .int .i64 ee) rfl rfl (by kernel_rfl) (by kernel_rfl) rfl (fun _ => by kernel_rfl) (by simp only [List.setIfInBounds_toArray, List.set_cons_succ, List.set_cons_zero] <;> rfl) ?_
    refine wpU_s [(gn, .cells (fa 18 (dg N)) 59 (0, 0)), (go, .cells (fa 8 (dg ov)) 24 (0, 0)), (gc, .cells (fa 8 (dg 1)) 24 (0, 0)), (w.heap.size, .cells (frcC (s1) (n1) (d1)) 26 (0, 0)), (w.heap.size + 1, .cells (frcC (s2) (n2) (d2)) 26 (0, 0)), (w.heap.size + 1 + 1, .cells (frcC (s') (n') (d')) 26 (0, 0))] (i := 10) rfl (by kernel_rfl) rfl rfl rfl
      (st_f (neg := s') (n := n') (d := d') rfl (by kernel_rfl) (by kernel_rfl) (.tail _ (.tail _ (.tail _ (.tail _ (.tail _ (.head _)))))) (by omega) size27 (by intro p hp; simp only [List.mem_cons, List.not_mem_nil, or_false] at hp; rcases hp with rfl | rfl | rfl | rfl | rfl | rfl; exact .inr ⟨by simp, by simp only; omega⟩; exact .inr ⟨by simp, by simp only; omega⟩; exact .inr ⟨by simp, by simp only; omega⟩; exact .inr ⟨by simp, by simp only; omega⟩; exact .inr ⟨by simp, by simp only; omega⟩; exact .inl rfl)) ?_
    refine wpU_p (i := 11) (v := .int .i64 ee) rfl rfl (by kernel_rfl) (by kernel_rfl) rfl (fun _ => by kernel_rfl) (by simp only [List.setIfInBounds_toArray, List.set_cons_succ, List.set_cons_zero] <;> rfl) ?_
    refine wpU_done (by kernel_rfl) (fun W4 hW4 => ?_) _
    go_wp2_with fail
    exact bodyPost_ret (res_cell_tmp rfl rfl (hW4.2 _ (.tail _ (.tail _ (.tail _ (.tail _ (.tail _ (.head _))))))) Tryd.underlying26 rfl (by rw [size27, frcC_size])) rfl ⟨by rw [HPV.out]; rfl, hW4.1⟩
  · have HPK : Hid (∀ W, Calls Tryd.prog 56 #[.bool S, wid (N / l), wid (ov * (d2 / l))] W fun e w' => e = .returned RV ∧ Below W.heap.size W w') := by
      unfold Hid; rw [hc2'.out h1]; exact CP2.out
    go_upto_region 6 with (first
      | (refine wpList_lda rfl rfl rfl (HK5.out.2 _ (.tail _ (.tail _ (.head _)))) Tryd.underlying24 rfl size25 ?_))
    go_upto_region 7 with (first
      | (refine wpList_lda rfl rfl rfl (HK5.out.2 _ (.head _)) Tryd.underlying59 rfl size65 ?_)
      | (refine wpList_lda rfl rfl rfl (HK5.out.2 _ (.tail _ (.tail _ (.head _)))) Tryd.underlying24 rfl size25 ?_)
      | (go_at_call 36; refine (Cdv.out _).mono ?_; rintro e w3 ⟨rfl, hb1⟩; have HK6 := Lib.hid (HK5.out.below hb1); clear hb1; unfold wid num)
      | (refine wpList_sta (f := dg (N / c)) (f' := fun _ => 0) rfl rfl rfl rfl (heap2 w3 _ _).1 size65 ?_)
      | (refine wpList_sta (f := dg (N % c)) (f' := fun _ => 0) rfl rfl rfl rfl (heap2_2s w3 _ _ _) size25 ?_))
    obtain ⟨Bx, Fx⟩ := HK6.out.fresh
    have HK7 := Lib.hid (HK6.out.newvar2 (cs := fa 18 (fun _ => 0)) (cs' := fa 18 (dg (N / c))) (t := 59) (ds := fa 8 (fun _ => 0)) (ds' := fa 8 (dg (N % c))) (u := 24))
    simp only [List.forall_mem_cons] at Fx
    rw [← fa_zero8, ← fa_zero18]
    generalize (((w3.alloc (.cells (fa 18 (fun _ => 0)) 59)).alloc (.cells (fa 8 (fun _ => 0)) 24)).setRow w3.heap.size (fa 18 (dg (N / c)))).setRow (w3.heap.size + 1) (fa 8 (dg (N % c))) = W3 at *
    clear HK6 HK5
    generalize w3.heap.size = gx at *
    go_upto_region 8 with (first
      | (refine wpList_lda rfl rfl rfl (HK7.out.2 _ (.tail _ (.head _))) Tryd.underlying24 rfl size25 ?_)
      | (refine wpList_lda rfl rfl rfl (HK7.out.2 _ (.tail _ (.tail _ (.tail _ (.tail _ (.head _)))))) Tryd.underlying24 rfl size25 ?_)
      | (go_at_call 47; refine (Cl.out _).mono ?_; rintro e w4 ⟨rfl, hb1⟩; have HK8 := Lib.hid (HK7.out.below hb1); clear hb1; unfold num)
      | (refine wpList_sta (f := dg l) (f' := fun _ => 0) rfl rfl rfl rfl (heap1 w4 _) size25 ?_))
    obtain ⟨Bgl, Fgl⟩ := HK8.out.fresh
    have HK9 := Lib.hid (HK8.out.newvar (cs := fa 8 (fun _ => 0)) (cs' := fa 8 (dg (l))) (t := 24))
    simp only [List.forall_mem_cons] at Fgl
    rw [← fa_zero8]
    generalize (w4.alloc (.cells (fa 8 (fun _ => 0)) 24)).setRow w4.heap.size (fa 8 (dg (l))) = W4 at *
    clear HK8
    generalize w4.heap.size = gl at *
    clear HK7
    go_upto_region 9 with (first
      | (refine wpList_lda rfl rfl rfl (HK9.out.2 _ (.tail _ (.tail _ (.tail _ (.head _))))) Tryd.underlying59 rfl size65 ?_)
      | (refine wpList_lda rfl rfl rfl (HK9.out.2 _ (.head _)) Tryd.underlying24 rfl size25 ?_)
      | (go_at_call 36; refine (Cdl.out _).mono ?_; rintro e w5 ⟨rfl, hb1⟩; have HKa := Lib.hid (HK9.out.below hb1); clear hb1; unfold wid num)
      | (refine wpList_sta (f := dg (N / l)) (f' := dg N) rfl rfl rfl rfl (HKa.out.2 _ (.tail _ (.tail _ (.tail _ (.head _))))) size65 ?_))
    have HKb : Hid (KS w [(gl, .cells (fa 8 (dg l)) 24 (0, 0)), (gx, .cells (fa 18 (dg (N / c))) 59 (0, 0)), (gx + 1, .cells (fa 8 (dg (N % c))) 24 (0, 0)), (gn, .cells (fa 18 (dg (N / l))) 59 (0, 0)), (go, .cells (fa 8 (dg ov)) 24 (0, 0)), (gc, .cells (fa 8 (dg c)) 24 (0, 0)), (w.heap.size, .cells (frcC (s1) (n1) (d1)) 26 (0, 0)), (w.heap.size + 1, .cells (frcC (s2) (n2) (d2)) 26 (0, 0)), (w.heap.size + 1 + 1, .cells (frcC (false) (0) (0)) 26 (0, 0))] (w5.setRow gn (fa 18 (dg (N / l))))) := HKa.out.put (by omega) (.tail _ (.tail _ (.tail _ (.head _)))) (by intro p hp; simp only [List.mem_cons, List.not_mem_nil, or_false] at hp; rcases hp with rfl | rfl | rfl | rfl | rfl | rfl | rfl | rfl | rfl; exact .inr ⟨by simp, by simp only; omega⟩; exact .inr ⟨by simp, by simp only; omega⟩; exact .inr ⟨by simp, by simp only; omega⟩; exact .inl rfl; exact .inr ⟨by simp, by simp only; omega⟩; exact .inr ⟨by simp, by simp only; omega⟩; exact .inr ⟨by simp, by simp only; omega⟩; exact .inr ⟨by simp, by simp only; omega⟩; exact .inr ⟨by simp, by simp only; omega⟩)
    generalize w5.setRow gn (fa 18 (dg (N / l))) = W5 at *
    clear HKa HK9
    go_wp2_with fail
    refine wp_region_U (W0 := w) [(gl, .cells (fa 8 (dg l)) 24 (0, 0)), (gx, .cells (fa 18 (dg (N / c))) 59 (0, 0)), (gx + 1, .cells (fa 8 (dg (N % c))) 24 (0, 0)), (gn, .cells (fa 18 (dg (N / l))) 59 (0, 0)), (go, .cells (fa 8 (dg ov)) 24 (0, 0)), (gc, .cells (fa 8 (dg c)) 24 (0, 0)), (w.heap.size, .cells (frcC (s1) (n1) (d1)) 26 (0, 0)), (w.heap.size + 1, .cells (frcC (s2) (n2) (d2)) 26 (0, 0)), (w.heap.size + 1 + 1, .cells (frcC (false) (0) (0)) 26 (0, 0))] (by kernel_rfl) (HKb.out) ?_
    refine wpU_p (i := 0) (v := .bool S) rfl rfl (by kernel_rfl) (by kernel_rfl) rfl (fun _ => by kernel_rfl) (by simp only [List.setIfInBounds_toArray, List.set_cons_succ, List.set_cons_zero] <;> rfl) ?_
    refine wpU_v (i := 1) (v := wid (N / l)) rfl rfl (by kernel_rfl) (by kernel_rfl) rfl (yb_lda rfl (by kernel_rfl) (.tail _ (.tail _ (.tail _ (.head _)))) Tryd.underlying59 rfl size65) (by simp only [List.setIfInBounds_toArray, List.set_cons_succ, List.set_cons_zero] <;> rfl) ?_
    refine wpU_v (i := 2) (v := num ov) rfl rfl (by kernel_rfl) (by kernel_rfl) rfl (yb_lda rfl (by kernel_rfl) (.tail _ (.tail _ (.tail _ (.tail _ (.head _))))) Tryd.underlying24 rfl size25) (by simp only [List.setIfInBounds_toArray, List.set_cons_succ, List.set_cons_zero] <;> rfl) ?_
    refine wpU_p (i := 3) (v := .pointer (some ⟨w.heap.size + 1, 9, none⟩)) rfl rfl (by kernel_rfl) (by kernel_rfl) rfl (fun _ => by kernel_rfl) (by simp only [List.setIfInBounds_toArray, List.set_cons_succ, List.set_cons_zero] <;> rfl) ?_
    refine wpU_v (i := 4) (v := num (d2)) rfl rfl (by kernel_rfl) (by kernel_rfl) rfl (yb_load rfl (by kernel_rfl) (.tail _ (.tail _ (.tail _ (.tail _ (.tail _ (.tail _ (.tail _ (.head _)))))))) Tryd.underlying24 rfl size25 (by simp) (frc_den (s2) (n2) (d2))) (by simp only [List.setIfInBounds_toArray, List.set_cons_succ, List.set_cons_zero] <;> rfl) ?_
    refine wpU_v (i := 5) (v := num l) rfl rfl (by kernel_rfl) (by kernel_rfl) rfl (yb_lda rfl (by kernel_rfl) (.head _) Tryd.underlying24 rfl size25) (by simp only [List.setIfInBounds_toArray, List.set_cons_succ, List.set_cons_zero] <;> rfl) ?_
    refine wpU_v (i := 6) (v := num (d2 / l)) rfl rfl (by kernel_rfl) (by kernel_rfl) rfl (yb_call (f := 55) (args := #[num d2, num l]) (fun _ => by kernel_rfl) fun W hW => Cdq.out W) (by simp only [List.setIfInBounds_toArray, List.set_cons_succ, List.set_cons_zero] <;> rfl) ?_
    refine wpU_v (i := 7) (v := wid (ov * (d2 / l))) rfl rfl (by kernel_rfl) (by kernel_rfl) rfl (yb_call (f := 35) (args := #[num ov, num (d2 / l)]) (fun _ => by kernel_rfl) fun W hW => Cod.out W) (by simp only [List.setIfInBounds_toArray, List.set_cons_succ, List.set_cons_zero] <;> rfl) ?_
    refine wpU_v (i := 8) (v := .tuple #[.agg (frcC s' n' d'), .int .i64 ee]) rfl rfl (by kernel_rfl) (by kernel_rfl) rfl (yb_call (f := 56) (args := #[.bool S, wid (N / l), wid (ov * (d2 / l))]) (fun _ => by kernel_rfl) fun W hW => by rw [← HPV.out]; exact HPK.out W) (by simp only [List.setIfInBounds_toArray, List.set_cons_succ, List.set_cons_zero] <;> rfl) ?_
    refine wpU_p (i := 9) (v := .agg (frcC s' n' d')) rfl rfl (by kernel_rfl) (by kernel_rfl) rfl (fun _ => by kernel_rfl) (by simp only [List.setIfInBounds_toArray, List.set_cons_succ, List.set_cons_zero] <;> rfl) ?_
    refine wpU_p (i := 10) (v := .int .i64 ee) rfl rfl (by kernel_rfl) (by kernel_rfl) rfl (fun _ => by kernel_rfl) (by simp only [List.setIfInBounds_toArray, List.set_cons_succ, List.set_cons_zero] <;> rfl) ?_
    refine wpU_s [(gl, .cells (fa 8 (dg l)) 24 (0, 0)), (gx, .cells (fa 18 (dg (N / c))) 59 (0, 0)), (gx + 1, .cells (fa 8 (dg (N % c))) 24 (0, 0)), (gn, .cells (fa 18 (dg (N / l))) 59 (0, 0)), (go, .cells (fa 8 (dg ov)) 24 (0, 0)), (gc, .cells (fa 8 (dg c)) 24 (0, 0)), (w.heap.size, .cells (frcC (s1) (n1) (d1)) 26 (0, 0)), (w.heap.size + 1, .cells (frcC (s2) (n2) (d2)) 26 (0, 0)), (w.heap.size + 1 + 1, .cells (frcC (s') (n') (d')) 26 (0, 0))] (i := 11) rfl (by kernel_rfl) rfl rfl rfl
      (st_f (neg := s') (n := n') (d := d') rfl (by kernel_rfl) (by kernel_rfl) (.tail _ (.tail _ (.tail _ (.tail _ (.tail _ (.tail _ (.tail _ (.tail _ (.head _))))))))) (by omega) size27 (by intro p hp; simp only [List.mem_cons, List.not_mem_nil, or_false] at hp; rcases hp with rfl | rfl | rfl | rfl | rfl | rfl | rfl | rfl | rfl; exact .inr ⟨by simp, by simp only; omega⟩; exact .inr ⟨by simp, by simp only; omega⟩; exact .inr ⟨by simp, by simp only; omega⟩; exact .inr ⟨by simp, by simp only; omega⟩; exact .inr ⟨by simp, by simp only; omega⟩; exact .inr ⟨by simp, by simp only; omega⟩; exact .inr ⟨by simp, by simp only; omega⟩; exact .inr ⟨by simp, by simp only; omega⟩; exact .inl rfl)) ?_
    refine wpU_p (i := 12) (v := .int .i64 ee) rfl rfl (by kernel_rfl) (by kernel_rfl) rfl (fun _ => by kernel_rfl) (by simp only [List.setIfInBounds_toArray, List.set_cons_succ, List.set_cons_zero] <;> rfl) ?_
    refine wpU_done (by kernel_rfl) (fun W4 hW4 => ?_) _
    go_wp2_with fail
    exact bodyPost_ret (res_cell_tmp rfl rfl (hW4.2 _ (.tail _ (.tail _ (.tail _ (.tail _ (.tail _ (.tail _ (.tail _ (.tail _ (.head _)))))))))) Tryd.underlying26 rfl (by rw [size27, frcC_size])) rfl ⟨by rw [HPV.out]; rfl, hW4.1⟩
end Go.Proofs.YtkfcikijmkgahaaDoor
namespace Go.Proofs.YtkfcikijmkgahaaDoor
open Go.RowKit Tw

set_option maxHeartbeats 400000 in
theorem magnitude_any (n : Int) (h1 : -9223372036854775808 ≤ n) (h2 : n ≤ 9223372036854775807) (w : World) :
    Calls Tryd.prog 33 #[.int .i64 n] w fun e w' => e = .returned (.int .u64 (n.natAbs : Int)) ∧ w = w' := by
  go_enter Tryd.func33, Tryd.ntmps33
  by_cases h : n < 0
  all_goals
    go_wp2
    go_ret
    refine ⟨ret_int ?_, rfl⟩
    first | omega | (simp only [wrap64, IntKind.wrap_u64]; omega)
end Go.Proofs.YtkfcikijmkgahaaDoor
