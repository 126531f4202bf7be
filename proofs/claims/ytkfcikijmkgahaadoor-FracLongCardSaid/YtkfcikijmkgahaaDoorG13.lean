import Derived.Test.YtkfcikijmkgahaaDoorG12
import Derived.Test.YtkfcikijmkgahaaDoorG11
import Derived.Test.YtkfcikijmkgahaaDoorG07
import Derived.Test.YtkfcikijmkgahaaDoorG02
/- Part of the proof: Mu, Pl, Mi, Cm. -/
set_option linter.unusedVariables false
set_option linter.unusedSimpArgs false
set_option linter.unusedSectionVars false
namespace Go.Proofs.YtkfcikijmkgahaaDoor
open Go.RowKit Tw
variable [ShLZ]
theorem packV_shape (s : Bool) (n d : Nat) : ∃ s' n' d' e, packV s n d = .tuple #[.agg (frcC s' n' d'), .int .i64 e] := by
  unfold packV; split
  · exact ⟨_, _, _, _, rfl⟩
  · exact ⟨_, _, _, _, rfl⟩
theorem mul_lt18 {a b : Nat} (ha : a < R 8) (hb : b < R 8) : a * b < R 18 :=
  lt_R_of_le (j := 8 + 8) (by rw [R_add]; exact Nat.mul_lt_mul'' ha hb) (by omega)

set_option maxRecDepth 100000 in
set_option maxHeartbeats 2000000 in
theorem mul_any (s1 s2 : Bool) (n1 d1 n2 d2 : Nat) (hn1 : n1 < R 8) (hd1 : d1 < R 8) (hn2 : n2 < R 8) (hd2 : d2 < R 8) (h1 : 0 < d1) (h2 : 0 < d2) (w : World) :
    Calls Tryd.prog 31 #[frc s1 n1 d1, frc s2 n2 d2] w fun e w' => e = .returned (packV (s1 != s2) (n1 / Nat.gcd n1 d2 * (n2 / Nat.gcd n2 d1)) (d1 / Nat.gcd n2 d1 * (d2 / Nat.gcd n1 d2))) ∧ Below w.heap.size w w' := by
  have ho : Nat.gcd n1 d2 < R 8 := Nat.lt_of_le_of_lt (Nat.gcd_le_right n1 h2) hd2
  have hp : Nat.gcd n2 d1 < R 8 := Nat.lt_of_le_of_lt (Nat.gcd_le_right n2 h1) hd1
  have hop : 0 < Nat.gcd n1 d2 := Nat.gcd_pos_of_pos_right n1 h2
  have hpp : 0 < Nat.gcd n2 d1 := Nat.gcd_pos_of_pos_right n2 h1
  have q1 : n1 / Nat.gcd n1 d2 < R 8 := Nat.lt_of_le_of_lt (Nat.div_le_self _ _) hn1
  have q2 : n2 / Nat.gcd n2 d1 < R 8 := Nat.lt_of_le_of_lt (Nat.div_le_self _ _) hn2
  have q3 : d1 / Nat.gcd n2 d1 < R 8 := Nat.lt_of_le_of_lt (Nat.div_le_self _ _) hd1
  have q4 : d2 / Nat.gcd n1 d2 < R 8 := Nat.lt_of_le_of_lt (Nat.div_le_self _ _) hd2
  have HPK := Lib.hid (fun W => pack_any (s1 != s2) (n1 / Nat.gcd n1 d2 * (n2 / Nat.gcd n2 d1)) (d1 / Nat.gcd n2 d1 * (d2 / Nat.gcd n1 d2)) (mul_lt18 q1 q2) (mul_lt18 q3 q4) W)
  obtain ⟨s', n', d', ee, hpv⟩ := packV_shape (s1 != s2) (n1 / Nat.gcd n1 d2 * (n2 / Nat.gcd n2 d1)) (d1 / Nat.gcd n2 d1 * (d2 / Nat.gcd n1 d2))
  have HPV := Lib.hid hpv
  clear hpv
  unfold frc
  go_enter Tryd.func31, Tryd.ntmps31
  go_upto_region 1 with (fail)
  have hK := KS.three w (.cells (frcC s1 n1 d1) 26) (.cells (frcC s2 n2 d2) 26) (.cells (frcC false 0 0) 26)
  obtain ⟨W, hW⟩ : ∃ W, W = ((w.alloc (.cells (frcC s1 n1 d1) 26)).alloc (.cells (frcC s2 n2 d2) 26)).alloc (.cells (frcC false 0 0) 26) := ⟨_, rfl⟩
  rw [← hW] at hK
  rw [frc_zero] at hW
  rw [← hW]
  clear hW
  have HK := Lib.hid hK
  clear hK
  go_wp2_with fail
  refine wp_region_U (W0 := w) [(w.heap.size, .cells (frcC (s1) (n1) (d1)) 26 (0, 0)), (w.heap.size + 1, .cells (frcC (s2) (n2) (d2)) 26 (0, 0)), (w.heap.size + 1 + 1, .cells (frcC (false) (0) (0)) 26 (0, 0))] (by kernel_rfl) (HK.out) ?_
  refine wpU_p (i := 0) (v := .pointer (some ⟨w.heap.size, 1, none⟩)) rfl rfl (by kernel_rfl) (by kernel_rfl) rfl (fun _ => by kernel_rfl) (by simp only [List.setIfInBounds_toArray, List.set_cons_succ, List.set_cons_zero] <;> rfl) ?_
  refine wpU_v (i := 1) (v := num (n1)) rfl rfl (by kernel_rfl) (by kernel_rfl) rfl (yb_load rfl (by kernel_rfl) (.head _) Tryd.underlying24 rfl size25 (by simp) (frc_num (s1) (n1) (d1))) (by simp only [List.setIfInBounds_toArray, List.set_cons_succ, List.set_cons_zero] <;> rfl) ?_
  refine wpU_p (i := 2) (v := .pointer (some ⟨w.heap.size + 1, 9, none⟩)) rfl rfl (by kernel_rfl) (by kernel_rfl) rfl (fun _ => by kernel_rfl) (by simp only [List.setIfInBounds_toArray, List.set_cons_succ, List.set_cons_zero] <;> rfl) ?_
  refine wpU_v (i := 3) (v := num (d2)) rfl rfl (by kernel_rfl) (by kernel_rfl) rfl (yb_load rfl (by kernel_rfl) (.tail _ (.head _)) Tryd.underlying24 rfl size25 (by simp) (frc_den (s2) (n2) (d2))) (by simp only [List.setIfInBounds_toArray, List.set_cons_succ, List.set_cons_zero] <;> rfl) ?_
  refine wpU_v (i := 4) (v := num (Nat.gcd n1 d2)) rfl rfl (by kernel_rfl) (by kernel_rfl) rfl (yb_call (f := 47) (args := #[num n1, num d2]) (fun _ => by kernel_rfl) fun W hW => gcd_any n1 d2 hn1 hd2 W) (by simp only [List.setIfInBounds_toArray, List.set_cons_succ, List.set_cons_zero] <;> rfl) ?_
  refine wpU_p (i := 5) (v := .pointer (some ⟨w.heap.size + 1, 1, none⟩)) rfl rfl (by kernel_rfl) (by kernel_rfl) rfl (fun _ => by kernel_rfl) (by simp only [List.setIfInBounds_toArray, List.set_cons_succ, List.set_cons_zero] <;> rfl) ?_
  refine wpU_v (i := 6) (v := num (n2)) rfl rfl (by kernel_rfl) (by kernel_rfl) rfl (yb_load rfl (by kernel_rfl) (.tail _ (.head _)) Tryd.underlying24 rfl size25 (by simp) (frc_num (s2) (n2) (d2))) (by simp only [List.setIfInBounds_toArray, List.set_cons_succ, List.set_cons_zero] <;> rfl) ?_
  refine wpU_p (i := 7) (v := .pointer (some ⟨w.heap.size, 9, none⟩)) rfl rfl (by kernel_rfl) (by kernel_rfl) rfl (fun _ => by kernel_rfl) (by simp only [List.setIfInBounds_toArray, List.set_cons_succ, List.set_cons_zero] <;> rfl) ?_
  refine wpU_v (i := 8) (v := num (d1)) rfl rfl (by kernel_rfl) (by kernel_rfl) rfl (yb_load rfl (by kernel_rfl) (.head _) Tryd.underlying24 rfl size25 (by simp) (frc_den (s1) (n1) (d1))) (by simp only [List.setIfInBounds_toArray, List.set_cons_succ, List.set_cons_zero] <;> rfl) ?_
  refine wpU_v (i := 9) (v := num (Nat.gcd n2 d1)) rfl rfl (by kernel_rfl) (by kernel_rfl) rfl (yb_call (f := 47) (args := #[num n2, num d1]) (fun _ => by kernel_rfl) fun W hW => gcd_any n2 d1 hn2 hd1 W) (by simp only [List.setIfInBounds_toArray, List.set_cons_succ, List.set_cons_zero] <;> rfl) ?_
  refine wpU_two (i := 10) (j := 11) (obi := .cells (fa 8 (fun _ => 0)) 24 (0, 0)) (obj := .cells (fa 8 (fun _ => 0)) 24 (0, 0)) rfl rfl rfl rfl rfl rfl (by kernel_rfl) (by kernel_rfl) (by kernel_rfl) (by kernel_rfl) (fun _ _ => rfl) (fun _ _ => rfl) (fun _ _ => by simp only [List.setIfInBounds_toArray, List.set_cons_succ, List.set_cons_zero] <;> rfl) (fun _ _ => by simp only [List.setIfInBounds_toArray, List.set_cons_succ, List.set_cons_zero] <;> rfl) fun g h Bg Bh Dgh Fg Fh => ?_
  simp only [List.forall_mem_cons] at Fg Fh
  refine wpU_s [(g, .cells (fa 8 (dg (Nat.gcd n1 d2))) 24 (0, 0)), (h, .cells (fa 8 (fun _ => 0)) 24 (0, 0)), (w.heap.size, .cells (frcC (s1) (n1) (d1)) 26 (0, 0)), (w.heap.size + 1, .cells (frcC (s2) (n2) (d2)) 26 (0, 0)), (w.heap.size + 1 + 1, .cells (frcC (false) (0) (0)) 26 (0, 0))] (i := 12) rfl (by kernel_rfl) rfl rfl rfl
    (st_a rfl rfl rfl (.head _) (by omega) size25 (by intro p hp; simp only [List.mem_cons, List.not_mem_nil, or_false] at hp; rcases hp with rfl | rfl | rfl | rfl | rfl; exact .inl rfl; exact .inr ⟨by simp, by simp only; omega⟩; exact .inr ⟨by simp, by simp only; omega⟩; exact .inr ⟨by simp, by simp only; omega⟩; exact .inr ⟨by simp, by simp only; omega⟩)) ?_
  refine wpU_s [(g, .cells (fa 8 (dg (Nat.gcd n1 d2))) 24 (0, 0)), (h, .cells (fa 8 (dg (Nat.gcd n2 d1))) 24 (0, 0)), (w.heap.size, .cells (frcC (s1) (n1) (d1)) 26 (0, 0)), (w.heap.size + 1, .cells (frcC (s2) (n2) (d2)) 26 (0, 0)), (w.heap.size + 1 + 1, .cells (frcC (false) (0) (0)) 26 (0, 0))] (i := 13) rfl (by kernel_rfl) rfl rfl rfl
    (st_a rfl rfl rfl (.tail _ (.head _)) (by omega) size25 (by intro p hp; simp only [List.mem_cons, List.not_mem_nil, or_false] at hp; rcases hp with rfl | rfl | rfl | rfl | rfl; exact .inr ⟨by simp, by simp only; omega⟩; exact .inl rfl; exact .inr ⟨by simp, by simp only; omega⟩; exact .inr ⟨by simp, by simp only; omega⟩; exact .inr ⟨by simp, by simp only; omega⟩)) ?_
  refine wpU_done (by kernel_rfl) (fun W4 hW4 => ?_) _
  clear HK
  go_wp2_with fail
  refine wp_region_U (W0 := w) [(g, .cells (fa 8 (dg (Nat.gcd n1 d2))) 24 (0, 0)), (h, .cells (fa 8 (dg (Nat.gcd n2 d1))) 24 (0, 0)), (w.heap.size, .cells (frcC (s1) (n1) (d1)) 26 (0, 0)), (w.heap.size + 1, .cells (frcC (s2) (n2) (d2)) 26 (0, 0)), (w.heap.size + 1 + 1, .cells (frcC (false) (0) (0)) 26 (0, 0))] (by kernel_rfl) (hW4) ?_
  refine wpU_p (i := 0) (v := .pointer (some ⟨w.heap.size, 1, none⟩)) rfl rfl (by kernel_rfl) (by kernel_rfl) rfl (fun _ => by kernel_rfl) (by simp only [List.setIfInBounds_toArray, List.set_cons_succ, List.set_cons_zero] <;> rfl) ?_
  refine wpU_v (i := 1) (v := num (n1)) rfl rfl (by kernel_rfl) (by kernel_rfl) rfl (yb_load rfl (by kernel_rfl) (.tail _ (.tail _ (.head _))) Tryd.underlying24 rfl size25 (by simp) (frc_num (s1) (n1) (d1))) (by simp only [List.setIfInBounds_toArray, List.set_cons_succ, List.set_cons_zero] <;> rfl) ?_
  refine wpU_v (i := 2) (v := num (Nat.gcd n1 d2)) rfl rfl (by kernel_rfl) (by kernel_rfl) rfl (yb_lda rfl (by kernel_rfl) (.head _) Tryd.underlying24 rfl size25) (by simp only [List.setIfInBounds_toArray, List.set_cons_succ, List.set_cons_zero] <;> rfl) ?_
  refine wpU_v (i := 3) (v := num (n1 / Nat.gcd n1 d2)) rfl rfl (by kernel_rfl) (by kernel_rfl) rfl (yb_call (f := 55) (args := #[num n1, num (Nat.gcd n1 d2)]) (fun _ => by kernel_rfl) fun W hW => quotient_any n1 (Nat.gcd n1 d2) hn1 ho hop W) (by simp only [List.setIfInBounds_toArray, List.set_cons_succ, List.set_cons_zero] <;> rfl) ?_
  refine wpU_p (i := 4) (v := .pointer (some ⟨w.heap.size + 1, 1, none⟩)) rfl rfl (by kernel_rfl) (by kernel_rfl) rfl (fun _ => by kernel_rfl) (by simp only [List.setIfInBounds_toArray, List.set_cons_succ, List.set_cons_zero] <;> rfl) ?_
  refine wpU_v (i := 5) (v := num (n2)) rfl rfl (by kernel_rfl) (by kernel_rfl) rfl (yb_load rfl (by kernel_rfl) (.tail _ (.tail _ (.tail _ (.head _)))) Tryd.underlying24 rfl size25 (by simp) (frc_num (s2) (n2) (d2))) (by simp only [List.setIfInBounds_toArray, List.set_cons_succ, List.set_cons_zero] <;> rfl) ?_
  refine wpU_v (i := 6) (v := num (Nat.gcd n2 d1)) rfl rfl (by kernel_rfl) (by kernel_rfl) rfl (yb_lda rfl (by kernel_rfl) (.tail _ (.head _)) Tryd.underlying24 rfl size25) (by simp only [List.setIfInBounds_toArray, List.set_cons_succ, List.set_cons_zero] <;> rfl) ?_
  refine wpU_v (i := 7) (v := num (n2 / Nat.gcd n2 d1)) rfl rfl (by kernel_rfl) (by kernel_rfl) rfl (yb_call (f := 55) (args := #[num n2, num (Nat.gcd n2 d1)]) (fun _ => by kernel_rfl) fun W hW => quotient_any n2 (Nat.gcd n2 d1) hn2 hp hpp W) (by simp only [List.setIfInBounds_toArray, List.set_cons_succ, List.set_cons_zero] <;> rfl) ?_
  refine wpU_v (i := 8) (v := wid (n1 / Nat.gcd n1 d2 * (n2 / Nat.gcd n2 d1))) rfl rfl (by kernel_rfl) (by kernel_rfl) rfl (yb_call (f := 35) (args := #[num (n1 / Nat.gcd n1 d2), num (n2 / Nat.gcd n2 d1)]) (fun _ => by kernel_rfl) fun W hW => times_any (n1 / Nat.gcd n1 d2) (n2 / Nat.gcd n2 d1) q1 q2 W) (by simp only [List.setIfInBounds_toArray, List.set_cons_succ, List.set_cons_zero] <;> rfl) ?_
  refine wpU_new (i := 9) (obi := .cells (fa 18 (fun _ => 0)) 59 (0, 0)) rfl rfl rfl (by kernel_rfl) (fun _ _ => rfl) (fun _ => by simp only [List.setIfInBounds_toArray, List.set_cons_succ, List.set_cons_zero] <;> rfl) fun k Bk Fk => ?_
  simp only [List.forall_mem_cons] at Fk
  refine wpU_s [(k, .cells (fa 18 (dg (n1 / Nat.gcd n1 d2 * (n2 / Nat.gcd n2 d1)))) 59 (0, 0)), (g, .cells (fa 8 (dg (Nat.gcd n1 d2))) 24 (0, 0)), (h, .cells (fa 8 (dg (Nat.gcd n2 d1))) 24 (0, 0)), (w.heap.size, .cells (frcC (s1) (n1) (d1)) 26 (0, 0)), (w.heap.size + 1, .cells (frcC (s2) (n2) (d2)) 26 (0, 0)), (w.heap.size + 1 + 1, .cells (frcC (false) (0) (0)) 26 (0, 0))] (i := 10) rfl (by kernel_rfl) rfl rfl rfl
    (st_a rfl rfl rfl (.head _) (by omega) size65 (by intro p hp; simp only [List.mem_cons, List.not_mem_nil, or_false] at hp; rcases hp with rfl | rfl | rfl | rfl | rfl | rfl; exact .inl rfl; exact .inr ⟨by simp, by simp only; omega⟩; exact .inr ⟨by simp, by simp only; omega⟩; exact .inr ⟨by simp, by simp only; omega⟩; exact .inr ⟨by simp, by simp only; omega⟩; exact .inr ⟨by simp, by simp only; omega⟩)) ?_
  refine wpU_done (by kernel_rfl) (fun W5 hW5 => ?_) _
  clear hW4
  go_wp2_with fail
  refine wp_region_U (W0 := w) [(k, .cells (fa 18 (dg (n1 / Nat.gcd n1 d2 * (n2 / Nat.gcd n2 d1)))) 59 (0, 0)), (g, .cells (fa 8 (dg (Nat.gcd n1 d2))) 24 (0, 0)), (h, .cells (fa 8 (dg (Nat.gcd n2 d1))) 24 (0, 0)), (w.heap.size, .cells (frcC (s1) (n1) (d1)) 26 (0, 0)), (w.heap.size + 1, .cells (frcC (s2) (n2) (d2)) 26 (0, 0)), (w.heap.size + 1 + 1, .cells (frcC (false) (0) (0)) 26 (0, 0))] (by kernel_rfl) (hW5) ?_
  refine wpU_p (i := 0) (v := .pointer (some ⟨w.heap.size, 9, none⟩)) rfl rfl (by kernel_rfl) (by kernel_rfl) rfl (fun _ => by kernel_rfl) (by simp only [List.setIfInBounds_toArray, List.set_cons_succ, List.set_cons_zero] <;> rfl) ?_
  refine wpU_v (i := 1) (v := num (d1)) rfl rfl (by kernel_rfl) (by kernel_rfl) rfl (yb_load rfl (by kernel_rfl) (.tail _ (.tail _ (.tail _ (.head _)))) Tryd.underlying24 rfl size25 (by simp) (frc_den (s1) (n1) (d1))) (by simp only [List.setIfInBounds_toArray, List.set_cons_succ, List.set_cons_zero] <;> rfl) ?_
  refine wpU_v (i := 2) (v := num (Nat.gcd n2 d1)) rfl rfl (by kernel_rfl) (by kernel_rfl) rfl (yb_lda rfl (by kernel_rfl) (.tail _ (.tail _ (.head _))) Tryd.underlying24 rfl size25) (by simp only [List.setIfInBounds_toArray, List.set_cons_succ, List.set_cons_zero] <;> rfl) ?_
  refine wpU_v (i := 3) (v := num (d1 / Nat.gcd n2 d1)) rfl rfl (by kernel_rfl) (by kernel_rfl) rfl (yb_call (f := 55) (args := #[num d1, num (Nat.gcd n2 d1)]) (fun _ => by kernel_rfl) fun W hW => quotient_any d1 (Nat.gcd n2 d1) hd1 hp hpp W) (by simp only [List.setIfInBounds_toArray, List.set_cons_succ, List.set_cons_zero] <;> rfl) ?_
  refine wpU_p (i := 4) (v := .pointer (some ⟨w.heap.size + 1, 9, none⟩)) rfl rfl (by kernel_rfl) (by kernel_rfl) rfl (fun _ => by kernel_rfl) (by simp only [List.setIfInBounds_toArray, List.set_cons_succ, List.set_cons_zero] <;> rfl) ?_
  refine wpU_v (i := 5) (v := num (d2)) rfl rfl (by kernel_rfl) (by kernel_rfl) rfl (yb_load rfl (by kernel_rfl) (.tail _ (.tail _ (.tail _ (.tail _ (.head _))))) Tryd.underlying24 rfl size25 (by simp) (frc_den (s2) (n2) (d2))) (by simp only [List.setIfInBounds_toArray, List.set_cons_succ, List.set_cons_zero] <;> rfl) ?_
  refine wpU_v (i := 6) (v := num (Nat.gcd n1 d2)) rfl rfl (by kernel_rfl) (by kernel_rfl) rfl (yb_lda rfl (by kernel_rfl) (.tail _ (.head _)) Tryd.underlying24 rfl size25) (by simp only [List.setIfInBounds_toArray, List.set_cons_succ, List.set_cons_zero] <;> rfl) ?_
  refine wpU_v (i := 7) (v := num (d2 / Nat.gcd n1 d2)) rfl rfl (by kernel_rfl) (by kernel_rfl) rfl (yb_call (f := 55) (args := #[num d2, num (Nat.gcd n1 d2)]) (fun _ => by kernel_rfl) fun W hW => quotient_any d2 (Nat.gcd n1 d2) hd2 ho hop W) (by simp only [List.setIfInBounds_toArray, List.set_cons_succ, List.set_cons_zero] <;> rfl) ?_
  refine wpU_v (i := 8) (v := wid (d1 / Nat.gcd n2 d1 * (d2 / Nat.gcd n1 d2))) rfl rfl (by kernel_rfl) (by kernel_rfl) rfl (yb_call (f := 35) (args := #[num (d1 / Nat.gcd n2 d1), num (d2 / Nat.gcd n1 d2)]) (fun _ => by kernel_rfl) fun W hW => times_any (d1 / Nat.gcd n2 d1) (d2 / Nat.gcd n1 d2) q3 q4 W) (by simp only [List.setIfInBounds_toArray, List.set_cons_succ, List.set_cons_zero] <;> rfl) ?_
  refine wpU_new (i := 9) (obi := .cells (fa 18 (fun _ => 0)) 59 (0, 0)) rfl rfl rfl (by kernel_rfl) (fun _ _ => rfl) (fun _ => by simp only [List.setIfInBounds_toArray, List.set_cons_succ, List.set_cons_zero] <;> rfl) fun l Bl Fl => ?_
  simp only [List.forall_mem_cons] at Fl
  refine wpU_s [(l, .cells (fa 18 (dg (d1 / Nat.gcd n2 d1 * (d2 / Nat.gcd n1 d2)))) 59 (0, 0)), (k, .cells (fa 18 (dg (n1 / Nat.gcd n1 d2 * (n2 / Nat.gcd n2 d1)))) 59 (0, 0)), (g, .cells (fa 8 (dg (Nat.gcd n1 d2))) 24 (0, 0)), (h, .cells (fa 8 (dg (Nat.gcd n2 d1))) 24 (0, 0)), (w.heap.size, .cells (frcC (s1) (n1) (d1)) 26 (0, 0)), (w.heap.size + 1, .cells (frcC (s2) (n2) (d2)) 26 (0, 0)), (w.heap.size + 1 + 1, .cells (frcC (false) (0) (0)) 26 (0, 0))] (i := 10) rfl (by kernel_rfl) rfl rfl rfl
    (st_a rfl rfl rfl (.head _) (by omega) size65 (by intro p hp; simp only [List.mem_cons, List.not_mem_nil, or_false] at hp; rcases hp with rfl | rfl | rfl | rfl | rfl | rfl | rfl; exact .inl rfl; exact .inr ⟨by simp, by simp only; omega⟩; exact .inr ⟨by simp, by simp only; omega⟩; exact .inr ⟨by simp, by simp only; omega⟩; exact .inr ⟨by simp, by simp only; omega⟩; exact .inr ⟨by simp, by simp only; omega⟩; exact .inr ⟨by simp, by simp only; omega⟩)) ?_
  refine wpU_done (by kernel_rfl) (fun W6 hW6 => ?_) _
  clear hW5
  have HL := Lib.hid hW6
  clear hW6 ho hp hop hpp q1 q2 q3 q4 hn1 hd1 hn2 hd2 h1 h2
  have c1 := frc_cell (HL.out.2 _ (.tail _ (.tail _ (.tail _ (.tail _ (.head _))))))
  have c2 := frc_cell (HL.out.2 _ (.tail _ (.tail _ (.tail _ (.tail _ (.tail _ (.head _)))))))
  go_wp2_with (first
    | (refine wpList_lda rfl rfl rfl (HL.out.2 _ (.tail _ (.head _))) Tryd.underlying59 rfl size65 ?_)
    | (refine wpList_lda rfl rfl rfl (HL.out.2 _ (.head _)) Tryd.underlying59 rfl size65 ?_)
    | (go_at_call 56; refine (HPK.out _).mono ?_; rintro e w5 ⟨rfl, hb1⟩; have HM := Lib.hid (HL.out.below hb1); clear hb1 c1 c2; rw [HPV.out])
    | (refine wpList_stf (neg := s') (n := n') (d := d') (neg' := false) (n' := 0) (d' := 0) rfl rfl rfl rfl (HM.out.2 _ (.tail _ (.tail _ (.tail _ (.tail _ (.tail _ (.tail _ (.head _)))))))) size27 ?_))
  exact bodyPost_ret (res_cell_tmp rfl rfl (setRow_heap _ _ _ _ _ _ (HM.out.2 _ (.tail _ (.tail _ (.tail _ (.tail _ (.tail _ (.tail _ (.head _))))))))) Tryd.underlying26 rfl (by rw [size27, frcC_size])) rfl ⟨by rw [HPV.out]; rfl, below_setRow HM.out.1 (by omega) _⟩
end Go.Proofs.YtkfcikijmkgahaaDoor
namespace Go.Proofs.YtkfcikijmkgahaaDoor
open Go.RowKit Tw

set_option maxRecDepth 100000 in
set_option maxHeartbeats 400000 in
theorem plus_any (a b : Nat) (ha : a < R 18) (hb : b < R 18) (hab : a + b < R 18) (w : World) :
    Calls Tryd.prog 38 #[wid a, wid b] w fun e w' => e = .returned (wid (a + b)) ∧ Below w.heap.size w w' := by
  unfold wid
  go_enter Tryd.func38, Tryd.ntmps38
  go_wp2
  go_loopw [5, 8] (fun c i wr => ∃ k c0 Pv : Nat, k ≤ 18 ∧ c0 ≤ 1 ∧ Hid (Pv + c0 * R k = a + b % R k) ∧ Pv < R 18 ∧ c = .int .u64 c0 ∧ i = .int .i64 k ∧ Below w.heap.size w wr ∧
      wr.heap[w.heap.size]? = some (.cells (fa 18 (dg Pv)) 59 (0, 0)) ∧ wr.heap[w.heap.size + 1]? = some (.cells (fa 18 (dg b)) 59 (0, 0)) ∧ wr.heap[w.heap.size + 1 + 1]? = some (.cells (fa 18 (fun _ => 0)) 59 (0, 0)))
    (fun _ i _ => 18 - (intOf i).toNat)
  case atStart =>
    refine ⟨0, 0, a, by omega, by omega, ?_, ha, rfl, rfl, below3 _ _ _ _, (heap3 _ _ _ _).1, (heap3 _ _ _ _).2.1, (heap3 _ _ _ _).2.2⟩
    unfold Hid; rw [R_zero, Nat.mod_one, Nat.zero_mul]
  case round =>
    obtain ⟨k, c0, Pv, hk, hc, he, hP, rfl, rfl, hB, e0, e1, e2⟩ := hrel
    by_cases hlt : k < 18
    · have h1 := blk_cell e0 hlt
      have h2 := blk_cell e1 hlt
      have h3 : wr.frozen? ⟨w.heap.size, k, none⟩ = false := blk_free e0
      have b1 := dg_lt Pv k
      have b2 := dg_lt b k
      have hlt' : ((k : Nat) : Int) < 18 := by omega
      have E0 := Lib.hid e0
      have E1 := Lib.hid e1
      have E2 := Lib.hid e2
      clear e0 e1 e2
      go_wp2
      go_quiet (fail)
      go_wp2
      go_roundw
      case rel =>
        obtain ⟨t, ht⟩ : ∃ t, t = dg Pv k + dg b k + c0 := ⟨_, rfl⟩
        have hv : t % 4294967296 < 4294967296 := Nat.mod_lt _ (by omega)
        rw [show ((dg Pv k : Int) + dg b k + c0) % 4294967296 = ((t % 4294967296 : Nat) : Int) from by omega]
        refine ⟨k + 1, t / 4294967296, setd Pv k (t % 4294967296), by omega, by omega, ?_, setd_lt hP hlt hv, ?_, by go_num, ?_, ?_, ?_, ?_⟩
        · exact plus_step he.out (by omega)
        · exact congrArg (Value.int .u64) (by omega)
        · exact (belowN hB nq).setCell (Nat.le_refl _) _
        · exact blk_set (w := wr.drewN nq) E0.out hlt hv
        · rw [heap_setCell_other _ _ _ _ (by simp)]; exact E1.out
        · rw [heap_setCell_other _ _ _ _ (by simp; omega)]; exact E2.out
      case measure => (simp [intOf] <;> omega)
    · obtain rfl : k = 18 := by omega
      have hfin : Pv = a + b := by
        have h := he.out
        rw [Nat.mod_eq_of_lt hb] at h
        have h0 := R_pos 18
        rcases Nat.eq_zero_or_pos c0 with h1 | h1
        · subst h1; omega
        · have : 1 * R 18 ≤ c0 * R 18 := Nat.mul_le_mul_right _ h1
          omega
      have E2 := Lib.hid e2
      subst hfin
      obtain ⟨d, hu, hd⟩ := under65
      clear e1 e2 he
      go_wp2_with (first
        | (refine wpList_lda rfl rfl rfl e0 hu hd size65 ?_)
        | (refine wpList_sta rfl rfl rfl rfl E2.out size65 ?_))
      exact bodyPost_ret (res_cell rfl rfl (setRow_heap _ _ _ _ _ _ E2.out) hu hd (by rw [size65, fa_size])) rfl ⟨rfl, below_setRow hB (by omega) _⟩
end Go.Proofs.YtkfcikijmkgahaaDoor
namespace Go.Proofs.YtkfcikijmkgahaaDoor
open Go.RowKit Tw

set_option maxRecDepth 100000 in
set_option maxHeartbeats 400000 in
theorem minus_any (a b : Nat) (ha : a < R 18) (hba : b ≤ a) (w : World) :
    Calls Tryd.prog 58 #[wid a, wid b] w fun e w' => e = .returned (wid (a - b)) ∧ Below w.heap.size w w' := by
  unfold wid
  have hb : b < R 18 := by omega
  go_enter Tryd.func58, Tryd.ntmps58
  go_wp2
  go_loopw [5, 8] (fun c i wr => ∃ k c0 Pv : Nat, k ≤ 18 ∧ c0 ≤ 1 ∧ Hid (Pv + b % R k = a + c0 * R k) ∧ Pv < R 18 ∧ c = .int .u64 c0 ∧ i = .int .i64 k ∧ Below w.heap.size w wr ∧
      wr.heap[w.heap.size]? = some (.cells (fa 18 (dg Pv)) 59 (0, 0)) ∧ wr.heap[w.heap.size + 1]? = some (.cells (fa 18 (dg b)) 59 (0, 0)) ∧ wr.heap[w.heap.size + 1 + 1]? = some (.cells (fa 18 (fun _ => 0)) 59 (0, 0)))
    (fun _ i _ => 18 - (intOf i).toNat)
  case atStart =>
    refine ⟨0, 0, a, by omega, by omega, ?_, ha, rfl, rfl, below3 _ _ _ _, (heap3 _ _ _ _).1, (heap3 _ _ _ _).2.1, (heap3 _ _ _ _).2.2⟩
    unfold Hid; rw [R_zero, Nat.mod_one, Nat.zero_mul]
  case round =>
    obtain ⟨k, c0, Pv, hk, hc, he, hP, rfl, rfl, hB, e0, e1, e2⟩ := hrel
    by_cases hlt : k < 18
    · have h1 := blk_cell e0 hlt
      have h2 := blk_cell e1 hlt
      have h3 : wr.frozen? ⟨w.heap.size, k, none⟩ = false := blk_free e0
      have b1 := dg_lt Pv k
      have b2 := dg_lt b k
      have hlt' : ((k : Nat) : Int) < 18 := by omega
      have E0 := Lib.hid e0
      have E1 := Lib.hid e1
      have E2 := Lib.hid e2
      clear e0 e1 e2
      obtain ⟨v, c1, hv, hc1, hvc, hx, hy⟩ := sub_limb b1 b2 hc
      have HX := Lib.hid hx
      have HY := Lib.hid hy
      clear hx hy
      go_wp2
      go_quiet (fail)
      go_wp2
      go_roundw
      case rel =>
        rw [HX.out, HY.out]
        refine ⟨k + 1, c1, setd Pv k v, by omega, by omega, minus_step he.out hvc, setd_lt hP hlt hv, rfl, by go_num, ?_, ?_, ?_, ?_⟩
        · exact (belowN hB nq).setCell (Nat.le_refl _) _
        · exact blk_set (w := wr.drewN nq) E0.out hlt hv
        · rw [heap_setCell_other _ _ _ _ (by simp)]; exact E1.out
        · rw [heap_setCell_other _ _ _ _ (by simp; omega)]; exact E2.out
      case measure => (simp [intOf] <;> omega)
    · obtain rfl : k = 18 := by omega
      have hfin : Pv = a - b := by
        have h := he.out
        rw [Nat.mod_eq_of_lt hb] at h
        have h0 := R_pos 18
        rcases Nat.eq_zero_or_pos c0 with h1 | h1
        · subst h1; omega
        · have : 1 * R 18 ≤ c0 * R 18 := Nat.mul_le_mul_right _ h1
          omega
      have E2 := Lib.hid e2
      subst hfin
      obtain ⟨d, hu, hd⟩ := under65
      clear e1 e2 he
      go_wp2_with (first
        | (refine wpList_lda rfl rfl rfl e0 hu hd size65 ?_)
        | (refine wpList_sta rfl rfl rfl rfl E2.out size65 ?_))
      exact bodyPost_ret (res_cell rfl rfl (setRow_heap _ _ _ _ _ _ E2.out) hu hd (by rw [size65, fa_size])) rfl ⟨rfl, below_setRow hB (by omega) _⟩
end Go.Proofs.YtkfcikijmkgahaaDoor
namespace Go.Proofs.YtkfcikijmkgahaaDoor
open Go.RowKit Tw

/-- the order of two numbers -/
def cmpN (a b : Nat) : Int := if a < b then -1 else if b < a then 1 else 0
theorem cmp_less {a b k : Nat} (h : a / R (k + 1) = b / R (k + 1)) (hd : dg a k < dg b k) : a < b := by
  have h1 := div_succ a k
  have h2 := div_succ b k
  rw [h] at h1
  rcases Nat.lt_or_ge a b with h3 | h3
  · exact h3
  · have := Nat.div_le_div_right (c := R k) h3
    omega
theorem cmp_step {a b k : Nat} (h : a / R (k + 1) = b / R (k + 1)) (hd : dg a k = dg b k) : a / R k = b / R k := by
  rw [div_succ a k, div_succ b k, h, hd]

set_option maxRecDepth 100000 in
set_option maxHeartbeats 400000 in
theorem compare_any (a b : Nat) (ha : a < R 18) (hb : b < R 18) (w : World) :
    Calls Tryd.prog 57 #[wid a, wid b] w fun e w' => e = .returned (.int .i64 (cmpN a b)) ∧ Below w.heap.size w w' := by
  unfold wid
  go_enter Tryd.func57, Tryd.ntmps57
  go_wp2
  go_loopw [5] (fun i wr => ∃ k : Nat, k ≤ 18 ∧ Hid (a / R k = b / R k) ∧ i = .int .i64 ((k : Int) - 1) ∧ Below w.heap.size w wr ∧
      wr.heap[w.heap.size]? = some (.cells (fa 18 (dg a)) 59 (0, 0)) ∧ wr.heap[w.heap.size + 1]? = some (.cells (fa 18 (dg b)) 59 (0, 0)))
    (fun i _ => (intOf i + 1).toNat)
  case atStart =>
    refine ⟨18, by omega, ?_, rfl, below2 _ _ _, (heap2 _ _ _).1, (heap2 _ _ _).2⟩
    unfold Hid; rw [Nat.div_eq_of_lt ha, Nat.div_eq_of_lt hb]
  case round =>
    obtain ⟨k, hk, he, rfl, hB, e0, e1⟩ := hrel
    rcases Nat.eq_zero_or_pos k with rfl | hpos
    · have hab : a = b := by have := he.out; rwa [R_zero, Nat.div_one, Nat.div_one] at this
      have HB := Lib.hid hB
      have HAB := Lib.hid hab
      clear hab e0 e1
      go_wp2
      go_ret
      exact ⟨ret_int (by rw [HAB.out]; simp [cmpN]), HB.out⟩
    · obtain ⟨j, rfl⟩ : ∃ j, k = j + 1 := ⟨k - 1, by omega⟩
      have ej : (((j + 1 : Nat) : Int) - 1) = j := by omega
      rw [ej]
      have hlt : j < 18 := by omega
      have h1 := blk_cell e0 hlt
      have h2 := blk_cell e1 hlt
      have b1 := dg_lt a j
      have b2 := dg_lt b j
      have hlt' : ((j : Nat) : Int) < 18 := by omega
      have E0 := Lib.hid e0
      have E1 := Lib.hid e1
      clear e0 e1 ej
      rcases Nat.lt_trichotomy (dg a j) (dg b j) with hd | hd | hd
      · have hr := cmp_less he.out hd
        go_wp2
        go_quiet (fail)
        go_wp2
        go_ret
        exact ⟨ret_int (by rw [cmpN, if_pos hr]), belowN hB _⟩
      · have HS := Lib.hid (cmp_step he.out hd)
        have hx : decide (dg a j < dg b j) = false := by rw [hd]; simp
        have hy : decide (dg b j < dg a j) = false := by rw [hd]; simp
        have hx' : decide ((dg a j : Int) < dg b j) = false := by rw [hd]; simp
        have hy' : decide ((dg b j : Int) < dg a j) = false := by rw [hd]; simp
        clear hd
        go_wp2
        go_quiet (fail)
        go_wp2
        go_quiet (fail)
        go_wp2
        go_roundw
        case rel => exact ⟨j, by omega, HS, rfl, belowN hB _, E0.out, E1.out⟩
        case measure => (simp [intOf] <;> omega)
      · have hr := cmp_less he.out.symm hd
        have hx : decide ((dg a j : Int) < dg b j) = false := by simp; omega
        have hx' : decide (dg a j < dg b j) = false := by simp; omega
        go_wp2
        go_quiet (fail)
        go_wp2
        go_quiet (fail)
        go_wp2
        go_ret
        exact ⟨ret_int (by rw [cmpN, if_neg (by omega), if_pos hr]), belowN (belowN hB _) _⟩
end Go.Proofs.YtkfcikijmkgahaaDoor
