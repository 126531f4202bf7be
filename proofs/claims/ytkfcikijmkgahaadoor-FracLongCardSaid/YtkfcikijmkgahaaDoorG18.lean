import Derived.Test.YtkfcikijmkgahaaDoorG17
import Derived.Test.YtkfcikijmkgahaaDoorG06
import Derived.Test.YtkfcikijmkgahaaDoorG11
/- Part of the proof: Cp, Ty. -/
set_option linter.unusedVariables false
set_option linter.unusedSimpArgs false
set_option linter.unusedSectionVars false
namespace Go.Proofs.YtkfcikijmkgahaaDoor
open Go.RowKit Tw
variable [ShLZ]
theorem res_tmp_tmp {P : Program} {fn : Func} {p q : Tmp} (h : fn.results = #[.tmp p, .tmp q]) {tmps : Array Value} {w : World} :
    (results fn tmps).run P w = .ok (.tuple #[tmps.getD p undef, tmps.getD q undef]) w := by
  simp [results, h]
/-- what Cmp answers about right fractions -/
def cmpI (s1 : Bool) (n1 d1 : Nat) (s2 : Bool) (n2 d2 : Nat) : Int := if s1 = s2 ∧ n1 = n2 ∧ d1 = d2 then 0 else if psS s1 (!s2) (n1 * d2) (n2 * d1) = true then -1 else 1

set_option maxRecDepth 100000 in
set_option maxHeartbeats 2000000 in
theorem Cmp_walk (s1 s2 S : Bool) (n1 d1 n2 d2 u v N : Nat) (hn1 : n1 < R 8) (hd1 : d1 < R 8) (hn2 : n2 < R 8) (hd2 : d2 < R 8) (r1 r2 : Bool) (RV : Value)
    (HR1 : Hid (∀ W, Calls Tryd.prog 24 #[.agg (frcC s1 n1 d1)] W fun e w' => e = .returned (.bool r1) ∧ Below W.heap.size W w'))
    (HR2 : Hid (∀ W, Calls Tryd.prog 24 #[.agg (frcC s2 n2 d2)] W fun e w' => e = .returned (.bool r2) ∧ Below W.heap.size W w'))
    (Cu : Hid (∀ W, Calls Tryd.prog 35 #[num n1, num d2] W fun e w' => e = .returned (wid u) ∧ Below W.heap.size W w'))
    (Cv : Hid (∀ W, Calls Tryd.prog 35 #[num n2, num d1] W fun e w' => e = .returned (wid v) ∧ Below W.heap.size W w'))
    (Cps : Hid (∀ W, Calls Tryd.prog 34 #[.bool s1, wid u, .bool (!s2), wid v] W fun e w' => e = .returned (.tuple #[.bool S, wid N]) ∧ Below W.heap.size W w'))
    (HV1 : Hid (¬ (r1 = true ∧ r2 = true) → RV = .tuple #[.int .i64 0, .int .i64 2])) (HV2 : Hid (r1 = true → r2 = true → (s1 = s2 ∧ n1 = n2 ∧ d1 = d2) → RV = .tuple #[.int .i64 0, .int .i64 0]))
    (HV3 : Hid (r1 = true → r2 = true → ¬ (s1 = s2 ∧ n1 = n2 ∧ d1 = d2) → RV = .tuple #[.int .i64 (if S = true then -1 else 1), .int .i64 0])) (w : World) :
    Calls Tryd.prog 18 #[frc s1 n1 d1, frc s2 n2 d2] w fun e w' => e = .returned RV ∧ Below w.heap.size w w' := by
  unfold frc
  go_enter Tryd.func18, Tryd.ntmps18
  go_upto_region 1 with (fail)
  have hK := KS.two w (.cells (frcC s1 n1 d1) 26) (.cells (frcC s2 n2 d2) 26)
  obtain ⟨W, hW⟩ : ∃ W, W = (w.alloc (.cells (frcC s1 n1 d1) 26)).alloc (.cells (frcC s2 n2 d2) 26) := ⟨_, rfl⟩
  rw [← hW] at hK
  rw [← hW]
  clear hW
  have HK := Lib.hid hK
  clear hK
  by_cases hr1 : r1 = false
  · subst hr1
    have HV := Lib.hid (HV1.out (by simp))
    clear HV1 HV2 HV3
    go_wp2_with (first
      | (refine wpList_ldf rfl rfl rfl (HK.out.2 _ (.head _)) Tryd.underlying26 rfl size27 ?_)
      | (refine wpList_guard rfl ?_; refine wpList_ldf rfl rfl rfl (HK1.out.2 _ (.tail _ (.head _))) Tryd.underlying26 rfl size27 ?_)
      | ((go_at_call 24); (with_reducible refine (HR1.out _).mono ?_); rintro e w1 ⟨rfl, hb1⟩; have HK1 := Lib.hid (HK.out.below hb1); clear hb1)
      | ((go_at_call 24); (with_reducible refine (HR2.out _).mono ?_); rintro e w2 ⟨rfl, hb1⟩; have HK2 := Lib.hid (HK1.out.below hb1); clear hb1)
      | (refine wpList_ldf rfl rfl rfl (HK2.out.2 _ (.head _)) Tryd.underlying26 rfl size27 ?_)
      | (refine wpList_ldf rfl rfl rfl (HK2.out.2 _ (.tail _ (.head _))) Tryd.underlying26 rfl size27 ?_))
    exact bodyPost_ret (res_tmp_tmp rfl) rfl ⟨by rw [HV.out]; rfl, HK1.out.1⟩
  by_cases hr2 : r2 = false
  · have hr1' : r1 = true := by simpa using hr1
    subst hr1' hr2
    have HV := Lib.hid (HV1.out (by simp))
    clear HV1 HV2 HV3 hr1
    go_wp2_with (first
      | (refine wpList_ldf rfl rfl rfl (HK.out.2 _ (.head _)) Tryd.underlying26 rfl size27 ?_)
      | (refine wpList_guard rfl ?_; refine wpList_ldf rfl rfl rfl (HK1.out.2 _ (.tail _ (.head _))) Tryd.underlying26 rfl size27 ?_)
      | ((go_at_call 24); (with_reducible refine (HR1.out _).mono ?_); rintro e w1 ⟨rfl, hb1⟩; have HK1 := Lib.hid (HK.out.below hb1); clear hb1)
      | ((go_at_call 24); (with_reducible refine (HR2.out _).mono ?_); rintro e w2 ⟨rfl, hb1⟩; have HK2 := Lib.hid (HK1.out.below hb1); clear hb1)
      | (refine wpList_ldf rfl rfl rfl (HK2.out.2 _ (.head _)) Tryd.underlying26 rfl size27 ?_)
      | (refine wpList_ldf rfl rfl rfl (HK2.out.2 _ (.tail _ (.head _))) Tryd.underlying26 rfl size27 ?_))
    exact bodyPost_ret (res_tmp_tmp rfl) rfl ⟨by rw [HV.out]; rfl, HK2.out.1⟩
  have hr1' : r1 = true := by simpa using hr1
  have hr2' : r2 = true := by simpa using hr2
  subst hr1' hr2'
  clear hr1 hr2
  by_cases he : s1 = s2 ∧ n1 = n2 ∧ d1 = d2
  · have HV := Lib.hid (HV2.out rfl rfl he)
    clear HV1 HV2 HV3
    have hde : decide (s1 = s2 ∧ n1 = n2 ∧ d1 = d2) = true := decide_eq_true he
    obtain ⟨rfl, rfl, rfl⟩ := he
    clear hde
    go_wp2_with (first
      | (refine wpList_ldf rfl rfl rfl (HK.out.2 _ (.head _)) Tryd.underlying26 rfl size27 ?_)
      | (refine wpList_guard rfl ?_; refine wpList_ldf rfl rfl rfl (HK1.out.2 _ (.tail _ (.head _))) Tryd.underlying26 rfl size27 ?_)
      | ((go_at_call 24); (with_reducible refine (HR1.out _).mono ?_); rintro e w1 ⟨rfl, hb1⟩; have HK1 := Lib.hid (HK.out.below hb1); clear hb1)
      | ((go_at_call 24); (with_reducible refine (HR2.out _).mono ?_); rintro e w2 ⟨rfl, hb1⟩; have HK2 := Lib.hid (HK1.out.below hb1); clear hb1)
      | (refine wpList_ldf rfl rfl rfl (HK2.out.2 _ (.head _)) Tryd.underlying26 rfl size27 ?_)
      | (refine wpList_ldf rfl rfl rfl (HK2.out.2 _ (.tail _ (.head _))) Tryd.underlying26 rfl size27 ?_))
    exact bodyPost_ret (res_tmp_tmp rfl) rfl ⟨by rw [HV.out]; rfl, HK2.out.1⟩
  · have HV := Lib.hid (HV3.out rfl rfl he)
    clear HV1 HV2 HV3
    go_wp2_with (first
      | (refine wpList_ldf rfl rfl rfl (HK.out.2 _ (.head _)) Tryd.underlying26 rfl size27 ?_)
      | (refine wpList_guard rfl ?_; refine wpList_ldf rfl rfl rfl (HK1.out.2 _ (.tail _ (.head _))) Tryd.underlying26 rfl size27 ?_)
      | ((go_at_call 24); (with_reducible refine (HR1.out _).mono ?_); rintro e w1 ⟨rfl, hb1⟩; have HK1 := Lib.hid (HK.out.below hb1); clear hb1)
      | ((go_at_call 24); (with_reducible refine (HR2.out _).mono ?_); rintro e w2 ⟨rfl, hb1⟩; have HK2 := Lib.hid (HK1.out.below hb1); clear hb1)
      | (refine wpList_ldf rfl rfl rfl (HK2.out.2 _ (.head _)) Tryd.underlying26 rfl size27 ?_)
      | (refine wpList_ldf rfl rfl rfl (HK2.out.2 _ (.tail _ (.head _))) Tryd.underlying26 rfl size27 ?_))
    refine wp_region_U (W0 := w) [(w.heap.size, .cells (frcC (s1) (n1) (d1)) 26 (0, 0)), (w.heap.size + 1, .cells (frcC (s2) (n2) (d2)) 26 (0, 0))] (by kernel_rfl) (HK2.out) ?_
    refine wpU_p (i := 0) (v := .pointer (some ⟨w.heap.size, 0, none⟩)) rfl rfl (by kernel_rfl) (by kernel_rfl) rfl (fun _ => by kernel_rfl) (by simp only [List.setIfInBounds_toArray, List.set_cons_succ, List.set_cons_zero] <;> rfl) ?_
    refine wpU_v (i := 1) (v := .bool s1) rfl rfl (by kernel_rfl) (by kernel_rfl) rfl (yb_ldb rfl (by kernel_rfl) (.head _)) (by simp only [List.setIfInBounds_toArray, List.set_cons_succ, List.set_cons_zero] <;> rfl) ?_
    refine wpU_p (i := 2) (v := .pointer (some ⟨w.heap.size, 1, none⟩)) rfl rfl (by kernel_rfl) (by kernel_rfl) rfl (fun _ => by kernel_rfl) (by simp only [List.setIfInBounds_toArray, List.set_cons_succ, List.set_cons_zero] <;> rfl) ?_
    refine wpU_v (i := 3) (v := num (n1)) rfl rfl (by kernel_rfl) (by kernel_rfl) rfl (yb_load rfl (by kernel_rfl) (.head _) Tryd.underlying24 rfl size25 (by simp) (frc_num (s1) (n1) (d1))) (by simp only [List.setIfInBounds_toArray, List.set_cons_succ, List.set_cons_zero] <;> rfl) ?_
    refine wpU_p (i := 4) (v := .pointer (some ⟨w.heap.size + 1, 9, none⟩)) rfl rfl (by kernel_rfl) (by kernel_rfl) rfl (fun _ => by kernel_rfl) (by simp only [List.setIfInBounds_toArray, List.set_cons_succ, List.set_cons_zero] <;> rfl) ?_
    refine wpU_v (i := 5) (v := num (d2)) rfl rfl (by kernel_rfl) (by kernel_rfl) rfl (yb_load rfl (by kernel_rfl) (.tail _ (.head _)) Tryd.underlying24 rfl size25 (by simp) (frc_den (s2) (n2) (d2))) (by simp only [List.setIfInBounds_toArray, List.set_cons_succ, List.set_cons_zero] <;> rfl) ?_
    refine wpU_v (i := 6) (v := wid u) rfl rfl (by kernel_rfl) (by kernel_rfl) rfl (yb_call (f := 35) (args := #[num n1, num d2]) (fun _ => by kernel_rfl) fun W hW => Cu.out W) (by simp only [List.setIfInBounds_toArray, List.set_cons_succ, List.set_cons_zero] <;> rfl) ?_
    refine wpU_p (i := 7) (v := .pointer (some ⟨w.heap.size + 1, 0, none⟩)) rfl rfl (by kernel_rfl) (by kernel_rfl) rfl (fun _ => by kernel_rfl) (by simp only [List.setIfInBounds_toArray, List.set_cons_succ, List.set_cons_zero] <;> rfl) ?_
    refine wpU_v (i := 8) (v := .bool s2) rfl rfl (by kernel_rfl) (by kernel_rfl) rfl (yb_ldb rfl (by kernel_rfl) (.tail _ (.head _))) (by simp only [List.setIfInBounds_toArray, List.set_cons_succ, List.set_cons_zero] <;> rfl) ?_
    refine wpU_p (i := 9) (v := .bool (!s2)) rfl rfl (by kernel_rfl) (by kernel_rfl) rfl (fun _ => by kernel_rfl) (by simp only [List.setIfInBounds_toArray, List.set_cons_succ, List.set_cons_zero] <;> rfl) ?_
    refine wpU_p (i := 10) (v := .pointer (some ⟨w.heap.size + 1, 1, none⟩)) rfl rfl (by kernel_rfl) (by kernel_rfl) rfl (fun _ => by kernel_rfl) (by simp only [List.setIfInBounds_toArray, List.set_cons_succ, List.set_cons_zero] <;> rfl) ?_
    refine wpU_v (i := 11) (v := num (n2)) rfl rfl (by kernel_rfl) (by kernel_rfl) rfl (yb_load rfl (by kernel_rfl) (.tail _ (.head _)) Tryd.underlying24 rfl size25 (by simp) (frc_num (s2) (n2) (d2))) (by simp only [List.setIfInBounds_toArray, List.set_cons_succ, List.set_cons_zero] <;> rfl) ?_
    refine wpU_p (i := 12) (v := .pointer (some ⟨w.heap.size, 9, none⟩)) rfl rfl (by kernel_rfl) (by kernel_rfl) rfl (fun _ => by kernel_rfl) (by simp only [List.setIfInBounds_toArray, List.set_cons_succ, List.set_cons_zero] <;> rfl) ?_
    refine wpU_v (i := 13) (v := num (d1)) rfl rfl (by kernel_rfl) (by kernel_rfl) rfl (yb_load rfl (by kernel_rfl) (.head _) Tryd.underlying24 rfl size25 (by simp) (frc_den (s1) (n1) (d1))) (by simp only [List.setIfInBounds_toArray, List.set_cons_succ, List.set_cons_zero] <;> rfl) ?_
    refine wpU_v (i := 14) (v := wid v) rfl rfl (by kernel_rfl) (by kernel_rfl) rfl (yb_call (f := 35) (args := #[num n2, num d1]) (fun _ => by kernel_rfl) fun W hW => Cv.out W) (by simp only [List.setIfInBounds_toArray, List.set_cons_succ, List.set_cons_zero] <;> rfl) ?_
    refine wpU_v (i := 15) (v := .tuple #[.bool S, wid N]) rfl rfl (by kernel_rfl) (by kernel_rfl) rfl (yb_call (f := 34) (args := #[.bool s1, wid u, .bool (!s2), wid v]) (fun _ => by kernel_rfl) fun W hW => Cps.out W) (by simp only [List.setIfInBounds_toArray, List.set_cons_succ, List.set_cons_zero] <;> rfl) ?_
    refine wpU_p (i := 16) (v := .tuple #[.bool S, wid N]) rfl rfl (by kernel_rfl) (by kernel_rfl) rfl (fun _ => by kernel_rfl) (by simp only [List.setIfInBounds_toArray, List.set_cons_succ, List.set_cons_zero] <;> rfl) ?_
    refine wpU_p (i := 17) (v := .bool S) rfl rfl (by kernel_rfl) (by kernel_rfl) rfl (fun _ => by kernel_rfl) (by simp only [List.setIfInBounds_toArray, List.set_cons_succ, List.set_cons_zero] <;> rfl) ?_
    refine wpU_p (i := 18) (v := wid N) rfl rfl (by kernel_rfl) (by kernel_rfl) rfl (fun _ => by kernel_rfl) (by simp only [List.setIfInBounds_toArray, List.set_cons_succ, List.set_cons_zero] <;> rfl) ?_
    refine wpU_new (i := 19) (obi := .cells (fa 18 (fun _ => 0)) 59 (0, 0)) rfl rfl rfl (by kernel_rfl) (fun _ _ => rfl) (fun _ => by simp only [List.setIfInBounds_toArray, List.set_cons_succ, List.set_cons_zero] <;> rfl) fun gn Bgn Fgn => ?_
    simp only [List.forall_mem_cons] at Fgn
    refine wpU_p (i := 20) (v := .bool S) rfl rfl (by kernel_rfl) (by kernel_rfl) rfl (fun _ => by kernel_rfl) (by simp only [List.setIfInBounds_toArray, List.set_cons_succ, List.set_cons_zero] <;> rfl) ?_
    refine wpU_s [(gn, .cells (fa 18 (dg N)) 59 (0, 0)), (w.heap.size, .cells (frcC (s1) (n1) (d1)) 26 (0, 0)), (w.heap.size + 1, .cells (frcC (s2) (n2) (d2)) 26 (0, 0))] (i := 21) rfl (by kernel_rfl) rfl rfl rfl
      (st_a rfl rfl rfl (.head _) (by omega) size65 (by intro p hp; simp only [List.mem_cons, List.not_mem_nil, or_false] at hp; rcases hp with rfl | rfl | rfl; exact .inl rfl; exact .inr ⟨by simp, by simp only; omega⟩; exact .inr ⟨by simp, by simp only; omega⟩)) ?_
    refine wpU_done (by kernel_rfl) (fun W4 hW4 => ?_) _
    cases S
    all_goals
      go_wp2_with fail
      exact bodyPost_ret (res_tmp_tmp rfl) rfl ⟨by rw [HV.out]; rfl, hW4.1⟩
theorem Cmp_any (s1 s2 : Bool) (n1 d1 n2 d2 : Nat) (hn1 : n1 < R 8) (hd1 : d1 < R 8) (hn2 : n2 < R 8) (hd2 : d2 < R 8) (w : World) :
    Calls Tryd.prog 18 #[frc s1 n1 d1, frc s2 n2 d2] w fun e w' => e = .returned (if rightB s1 n1 d1 = true ∧ rightB s2 n2 d2 = true then .tuple #[.int .i64 (cmpI s1 n1 d1 s2 n2 d2), .int .i64 0] else .tuple #[.int .i64 0, .int .i64 2]) ∧ Below w.heap.size w w' := by
  have hu := mul_lt16 hn1 hd2
  have hv := mul_lt16 hn2 hd1
  exact Cmp_walk s1 s2 (psS s1 (!s2) (n1 * d2) (n2 * d1)) n1 d1 n2 d2 (n1 * d2) (n2 * d1) (psN s1 (!s2) (n1 * d2) (n2 * d1)) hn1 hd1 hn2 hd2 _ _ _ (fun W => right_any s1 n1 d1 hn1 hd1 W) (fun W => right_any s2 n2 d2 hn2 hd2 W)
    (fun W => times_any n1 d2 hn1 hd2 W) (fun W => times_any n2 d1 hn2 hd1 W) (fun W => plusSigned_any s1 (!s2) (n1 * d2) (n2 * d1) (lt_R_of_le (two_R16 hu hv) (by omega)) W)
    (fun h => if_neg h) (fun h1 h2 h => by rw [if_pos ⟨h1, h2⟩, cmpI, if_pos h]) (fun h1 h2 h => by rw [if_pos ⟨h1, h2⟩, cmpI, if_neg h]) w
end Go.Proofs.YtkfcikijmkgahaaDoor
namespace Go.Proofs.YtkfcikijmkgahaaDoor
open Go.RowKit Tw
variable [ShLZ]
variable [ShSt]
/-- the text of a fraction -/
def textL (s : Bool) (n d : Nat) : List UInt8 := (if s = true then [45] else []) ++ Lib.decDigits n ++ (if d = 1 then [] else 47 :: Lib.decDigits d)
theorem run_neq25_one {a : Nat} {b : Bool} (ha : a < R 8) (hab : (!decide (a = 1)) = b) {x y : Operand} (w : World) : (do eqGuard .neq 24 x y (.agg (fa 8 (dg a))) (.agg #[.int .u32 1, .int .u32 0, .int .u32 0, .int .u32 0, .int .u32 0, .int .u32 0, .int .u32 0, .int .u32 0]); binOp .neq 24 (.agg (fa 8 (dg a))) (.agg #[.int .u32 1, .int .u32 0, .int .u32 0, .int .u32 0, .int .u32 0, .int .u32 0, .int .u32 0, .int .u32 0]) : Sem Value).run Tryd.prog w = .ok (.bool b) w := by
  subst hab
  go_simp
theorem dec_len78 {n : Nat} (hn : n < R 8) : (Lib.decDigits n).length ≤ 78 := dec_length 77 n (Nat.lt_of_lt_of_le hn (by unfold R; decide))
set_option maxRecDepth 100000 in
set_option maxHeartbeats 1000000 in
theorem Text_walk (s r : Bool) (n d : Nat) (HX : Hid (n < R 8 ∧ d < R 8)) (w : World) (HE : Hid (Env w)) (zn zd : List UInt8) (hzn : zn.length ≤ 78) (hzd : zd.length ≤ 78)
    (HR : Hid (∀ W, Calls Tryd.prog 24 #[.agg (frcC s n d)] W fun e w' => e = .returned (.bool r) ∧ Below W.heap.size W w'))
    (HDn : Hid (∀ W, Env W → Calls Tryd.prog 41 #[.agg (fa 8 (dg n))] W fun e w' => e = .returned (.string ⟨zn.toArray⟩) ∧ Below W.heap.size W w'))
    (HDd : Hid (∀ W, Env W → Calls Tryd.prog 41 #[.agg (fa 8 (dg d))] W fun e w' => e = .returned (.string ⟨zd.toArray⟩) ∧ Below W.heap.size W w'))
    (V : Value) (HV : Hid (V = if r = true then .tuple #[txt ((if s = true then [45] else []) ++ zn ++ (if d = 1 then [] else 47 :: zd)), .int .i64 0] else .tuple #[txt [], .int .i64 2])) :
    Calls Tryd.prog 20 #[frc s n d] w fun e w' => e = .returned V ∧ Below w.heap.size w w' := by
  unfold frc
  have l1 : ¬ 9223372036854775807 < 1 + zn.length := by omega
  have l2 : ¬ 9223372036854775807 < 1 + zd.length := by omega
  have l3 : ¬ 9223372036854775807 < zn.length + (1 + zd.length) := by omega
  have l4 : ¬ 9223372036854775807 < 1 + zn.length + (1 + zd.length) := by omega
  clear hzn hzd
  go_enter Tryd.func20, Tryd.ntmps20
  go_upto_region 1 with (fail)
  have hK := KS.one w (.cells (frcC s n d) 26)
  obtain ⟨W, hW⟩ : ∃ W, W = w.alloc (.cells (frcC s n d) 26) := ⟨_, rfl⟩
  rw [← hW] at hK
  rw [← hW]
  clear hW
  have HK := Lib.hid hK
  clear hK
  cases r
  · go_wp2_with (first
      | (refine wpList_ldf rfl rfl rfl (HK.out.2 _ (.head _)) Tryd.underlying26 rfl size27 ?_)
      | ((go_at_call 24); (with_reducible refine (HR.out _).mono ?_); rintro e w1 ⟨rfl, hb1⟩; have HK1 := Lib.hid (HK.out.below hb1); clear hb1))
    exact bodyPost_ret (res_tmp_tmp rfl) rfl ⟨by rw [HV.out]; rfl, HK1.out.1⟩
  · by_cases hd : d = 1
    · have hq : (!decide (d = 1)) = false := by simp [hd]
      have HQ := Lib.hid hq
      have HDD := Lib.hid hd
      clear hq hd
      cases s
      all_goals
        go_wp2_with (first
        | (refine wpList_ldf rfl rfl rfl (HK.out.2 _ (.head _)) Tryd.underlying26 rfl size27 ?_)
        | ((go_at_call 24); (with_reducible refine (HR.out _).mono ?_); rintro e w1 ⟨rfl, hb1⟩; have HK1 := Lib.hid (HK.out.below hb1); clear hb1; have E1 := Lib.hid (HE.out.keep HK1.out.1); have c1 := frc_cell (HK1.out.2 _ (.head _)))
        | (refine wpList_ldn rfl rfl rfl (HK1.out.2 _ (.head _)) Tryd.underlying24 rfl size25 ?_)
        | ((go_at_call 41); (with_reducible refine (HDn.out _ E1.out).mono ?_); rintro e w2 ⟨rfl, hb2⟩; clear c1; have HK2 := Lib.hid (HK1.out.below hb2); clear hb2; have E2 := Lib.hid (HE.out.keep HK2.out.1); have c2 := frc_cell (HK2.out.2 _ (.head _)))
        | (refine wpList_ldd rfl rfl rfl (HK2.out.2 _ (.head _)) Tryd.underlying24 rfl size25 ?_)
        | (refine wpList_bin (v := .bool false) (vx := .agg (fa 8 (dg d))) rfl rfl rfl rfl (fun w => run_neq25_one HX.out.2 HQ.out w) ?_)
        | ((go_at_call 41); (with_reducible refine (HDd.out _ E2.out).mono ?_); rintro e w3 ⟨rfl, hb3⟩; clear c2; have HK3 := Lib.hid (HK2.out.below hb3); clear hb3))
        refine bodyPost_ret (res_tmp_tmp rfl) rfl ⟨?_, by first | exact HK2.out.1 | exact HK3.out.1⟩
        rw [HV.out, HDD.out]
        simp [txt, ba_app]
        trace_state
    · have hq : (!decide (d = 1)) = true := by simp [hd]
      have HQ := Lib.hid hq
      have HDD := Lib.hid hd
      clear hq hd
      cases s
      all_goals
        go_wp2_with (first
        | (refine wpList_ldf rfl rfl rfl (HK.out.2 _ (.head _)) Tryd.underlying26 rfl size27 ?_)
        | ((go_at_call 24); (with_reducible refine (HR.out _).mono ?_); rintro e w1 ⟨rfl, hb1⟩; have HK1 := Lib.hid (HK.out.below hb1); clear hb1; have E1 := Lib.hid (HE.out.keep HK1.out.1); have c1 := frc_cell (HK1.out.2 _ (.head _)))
        | (refine wpList_ldn rfl rfl rfl (HK1.out.2 _ (.head _)) Tryd.underlying24 rfl size25 ?_)
        | ((go_at_call 41); (with_reducible refine (HDn.out _ E1.out).mono ?_); rintro e w2 ⟨rfl, hb2⟩; clear c1; have HK2 := Lib.hid (HK1.out.below hb2); clear hb2; have E2 := Lib.hid (HE.out.keep HK2.out.1); have c2 := frc_cell (HK2.out.2 _ (.head _)))
        | (refine wpList_ldd rfl rfl rfl (HK2.out.2 _ (.head _)) Tryd.underlying24 rfl size25 ?_)
        | (refine wpList_bin (v := .bool true) (vx := .agg (fa 8 (dg d))) rfl rfl rfl rfl (fun w => run_neq25_one HX.out.2 HQ.out w) ?_)
        | ((go_at_call 41); (with_reducible refine (HDd.out _ E2.out).mono ?_); rintro e w3 ⟨rfl, hb3⟩; clear c2; have HK3 := Lib.hid (HK2.out.below hb3); clear hb3))
        refine bodyPost_ret (res_tmp_tmp rfl) rfl ⟨?_, by first | exact HK3.out.1 | exact HK2.out.1⟩
        rw [HV.out, if_neg HDD.out]
        simp [txt, ba_app]
        trace_state
end Go.Proofs.YtkfcikijmkgahaaDoor
