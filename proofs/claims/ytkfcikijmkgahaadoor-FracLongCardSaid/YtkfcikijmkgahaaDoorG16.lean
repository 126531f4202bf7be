import Derived.Test.YtkfcikijmkgahaaDoorG05
import Derived.Test.YtkfcikijmkgahaaDoorG15
import Derived.Test.YtkfcikijmkgahaaDoorG10
import Derived.Test.YtkfcikijmkgahaaDoorG11
import Derived.Deep.Cut
/- Part of the proof: Of, Rt, Ae, Am. -/
set_option linter.unusedVariables false
set_option linter.unusedSimpArgs false
set_option linter.unusedSectionVars false
namespace Go.Proofs.YtkfcikijmkgahaaDoor
open Go.RowKit Tw
theorem run_build27 (s : Bool) (n d : Nat) (w : World) : (Instr.build 26 #[(0, .bool s), (1, .agg (fa 8 (dg n))), (2, .agg (fa 8 (dg d)))]).run Tryd.prog w = .ok (.agg (frcC s n d)) w := by kernel_rfl
theorem run_build27_one (s : Bool) (n : Nat) (w : World) : (Instr.build 26 #[(0, .bool s), (1, .agg (fa 8 (dg n))), (2, .agg #[.int .u32 1, .int .u32 0, .int .u32 0, .int .u32 0, .int .u32 0, .int .u32 0, .int .u32 0, .int .u32 0])]).run Tryd.prog w = .ok (.agg (frcC s n 1)) w := by
  rw [← fa_one8]; exact run_build27 s n 1 w

theorem wpList_bf {ops : Array Oper} {rest : List Oper} {o : Oper} {a : Act} {w : World} {Q : Exit → Act → World → Prop} (hgd : o.guard = none) {x y z : Operand} {s : Bool} {n d : Nat} (ho : o.op = .build 26 #[(0, x), (1, y), (2, z)])
    (hx : a.eval x = .bool s) (hy : a.eval y = .agg (fa 8 (dg n))) (hz : a.eval z = .agg (fa 8 (dg d)))
    (h : wpList Tryd.prog ops Q rest (a.put o.dst (.agg (frcC s n d))) w) : wpList Tryd.prog ops Q (o :: rest) a w :=
  wpList_plain hgd fun _ hK => by
    unfold Oper.wp execOp
    simp only [ho]
    have hm : (#[((0 : Nat), x), (1, y), (2, z)].map fun (i, x) => (i, a.eval x)) = #[(0, .bool s), (1, .agg (fa 8 (dg n))), (2, .agg (fa 8 (dg d)))] := by
      simp [hx, hy, hz]
    rw [Sem.run_bind]
    have hr := run_build27 s n d w
    rw [← hm] at hr
    rw [hr]
    exact hK _ _ h
set_option maxRecDepth 100000 in
set_option maxHeartbeats 1000000 in
theorem of_any (n : Int) (h1 : -9223372036854775808 ≤ n) (h2 : n ≤ 9223372036854775807) (w : World) :
    Calls Tryd.prog 16 #[.int .i64 n] w fun e w' => e = .returned (frc (decide (n < 0)) n.natAbs 1) ∧ Below w.heap.size w w' := by
  have HM := Lib.hid (fun W => magnitude_any n h1 h2 W)
  have h3 : n.natAbs < 18446744073709551616 := by omega
  clear h1 h2
  generalize n.natAbs = m at *
  have H3 := Lib.hid h3
  clear h3
  unfold frc
  go_enter Tryd.func16, Tryd.ntmps16
  go_upto_region 1 with (fail)
  have hK := KS.one w (.cells (frcC false 0 0) 26)
  obtain ⟨W, hW⟩ : ∃ W, W = w.alloc (.cells (frcC false 0 0) 26) := ⟨_, rfl⟩
  rw [← hW] at hK
  rw [frc_zero] at hW
  rw [← hW]
  clear hW
  have HK := Lib.hid hK
  clear hK
  go_wp2_with (first
    | (go_at_call 33; refine (HM.out _).mono ?_; rintro e w1 ⟨rfl, rfl⟩)
    | (go_at_call 32; refine (fromSmall_any m H3.out _).mono ?_; rintro e w1 ⟨rfl, hb1⟩; have HK2 := Lib.hid (HK.out.below hb1); clear hb1; unfold num)
    | (refine wpList_bf (s := decide (n < 0)) (n := m) (d := 1) rfl rfl rfl rfl (by rw [fa_one8]; rfl) ?_)
    | (refine wpList_stf (neg := decide (n < 0)) (n := m) (d := 1) (neg' := false) (n' := 0) (d' := 0) rfl rfl rfl rfl (HK2.out.2 _ (.head _)) size27 ?_))
  exact bodyPost_ret (res_cell rfl rfl (setRow_heap _ _ _ _ _ _ (HK2.out.2 _ (.head _))) Tryd.underlying26 rfl (by rw [size27, frcC_size])) rfl ⟨rfl, below_setRow HK2.out.1 (by omega) _⟩
end Go.Proofs.YtkfcikijmkgahaaDoor
namespace Go.Proofs.YtkfcikijmkgahaaDoor
open Go.RowKit Tw
variable [ShLZ]
theorem frc_nil_build (w : World) : (Instr.build 26 #[]).run Tryd.prog w = .ok (.agg (frcC false 0 0)) w := by rw [frc_zero]; kernel_rfl

set_option maxRecDepth 100000 in
set_option maxHeartbeats 1000000 in
theorem ratio_any (a b : Int) (a1 : -9223372036854775808 ≤ a) (a2 : a ≤ 9223372036854775807) (b1 : -9223372036854775808 ≤ b) (b2 : b ≤ 9223372036854775807) (hb : b ≠ 0) (w : World) :
    Calls Tryd.prog 29 #[.int .i64 a, .int .i64 b] w fun e w' => e = .returned (.tuple #[frc (decide (a ≠ 0) && (decide (a < 0) != decide (b < 0))) (a.natAbs / Nat.gcd a.natAbs b.natAbs) (b.natAbs / Nat.gcd a.natAbs b.natAbs), .int .i64 0]) ∧ Below w.heap.size w w' := by
  have HA := Lib.hid (fun W => magnitude_any a a1 a2 W)
  have HB := Lib.hid (fun W => magnitude_any b b1 b2 W)
  have x1 : a.natAbs < 18446744073709551616 := by omega
  have y1 : b.natAbs < 18446744073709551616 := by omega
  have y0 : 0 < b.natAbs := by omega
  clear a1 a2 b1 b2
  generalize a.natAbs = x at *
  generalize b.natAbs = y at *
  have HY := Lib.hid y0
  have HX := Lib.hid (⟨x1, y1, Nat.gcd_pos_of_pos_right x y0⟩ : x < 18446744073709551616 ∧ y < 18446744073709551616 ∧ 0 < Nat.gcd x y)
  clear x1 y1 y0
  unfold frc
  have hbz : (b == 0) = false := by simp [hb]
  go_enter Tryd.func29, Tryd.ntmps29
  go_upto_region 1 with (fail)
  have hK := KS.one w (.cells (frcC false 0 0) 26)
  obtain ⟨W, hW⟩ : ∃ W, W = w.alloc (.cells (frcC false 0 0) 26) := ⟨_, rfl⟩
  rw [← hW] at hK
  rw [frc_zero] at hW
  rw [← hW]
  clear hW
  have HK := Lib.hid hK
  clear hK
  by_cases ha : a = 0
  · subst ha
    go_wp2_with (first
      | (go_at_call 33; with_reducible refine (HA.out _).mono ?_; rintro e w1 ⟨rfl, rfl⟩)
      | (go_at_call 33; with_reducible refine (HB.out _).mono ?_; rintro e w1 ⟨rfl, rfl⟩)
      | (go_at_call 54; refine (gcdSmall_any x y HX.out.1 HX.out.2.1 _).mono ?_; rintro e w2 ⟨rfl, hb1⟩; have HK2 := Lib.hid (HK.out.below hb1); clear hb1))
    have X1 := HX.out.1
    have Y1 := HX.out.2.1
    have G0 := HX.out.2.2
    have G1 : Nat.gcd x y < 18446744073709551616 := Nat.lt_of_le_of_lt (Nat.gcd_le_right x HY.out) Y1
    refine wp_region_U (W0 := w) [(w.heap.size, .cells (frcC (false) (0) (0)) 26 (0, 0))] (by kernel_rfl) (HK2.out) ?_
    refine wpU_p (i := 0) (v := .bool (false)) rfl rfl (by kernel_rfl) (by kernel_rfl) rfl (fun _ => by kernel_rfl) (by simp only [List.setIfInBounds_toArray, List.set_cons_succ, List.set_cons_zero] <;> rfl) ?_
    refine wpU_p (i := 1) (v := .int .u64 (x : Int)) rfl rfl (by kernel_rfl) (by kernel_rfl) rfl (fun _ => by kernel_rfl) (by simp only [List.setIfInBounds_toArray, List.set_cons_succ, List.set_cons_zero] <;> rfl) ?_
    refine wpU_p (i := 2) (v := .int .u64 ((Nat.gcd x y : Nat) : Int)) rfl rfl (by kernel_rfl) (by kernel_rfl) rfl (fun _ => by kernel_rfl) (by simp only [List.setIfInBounds_toArray, List.set_cons_succ, List.set_cons_zero] <;> rfl) ?_
    refine wpU_p (i := 3) (v := .int .u64 ((x / Nat.gcd x y : Nat) : Int)) rfl rfl (by kernel_rfl) (by kernel_rfl) rfl (run_bin rfl (vx := .int .u64 (x : Int)) (vy := .int .u64 ((Nat.gcd x y : Nat) : Int)) (by kernel_rfl) (by kernel_rfl) fun w => run_quo64 w G1 G0 X1) (by simp only [List.setIfInBounds_toArray, List.set_cons_succ, List.set_cons_zero] <;> rfl) ?_
    refine wpU_v (i := 4) (v := num (x / Nat.gcd x y)) rfl rfl (by kernel_rfl) (by kernel_rfl) rfl (yb_call (f := 32) (args := #[.int .u64 ((x / Nat.gcd x y : Nat) : Int)]) (fun _ => by kernel_rfl) fun W hW => fromSmall_any (x / Nat.gcd x y) (Nat.lt_of_le_of_lt (Nat.div_le_self _ _) X1) W) (by simp only [List.setIfInBounds_toArray, List.set_cons_succ, List.set_cons_zero] <;> rfl) ?_
    refine wpU_p (i := 5) (v := .int .u64 (y : Int)) rfl rfl (by kernel_rfl) (by kernel_rfl) rfl (fun _ => by kernel_rfl) (by simp only [List.setIfInBounds_toArray, List.set_cons_succ, List.set_cons_zero] <;> rfl) ?_
    refine wpU_p (i := 6) (v := .int .u64 ((Nat.gcd x y : Nat) : Int)) rfl rfl (by kernel_rfl) (by kernel_rfl) rfl (fun _ => by kernel_rfl) (by simp only [List.setIfInBounds_toArray, List.set_cons_succ, List.set_cons_zero] <;> rfl) ?_
    refine wpU_p (i := 7) (v := .int .u64 ((y / Nat.gcd x y : Nat) : Int)) rfl rfl (by kernel_rfl) (by kernel_rfl) rfl (run_bin rfl (vx := .int .u64 (y : Int)) (vy := .int .u64 ((Nat.gcd x y : Nat) : Int)) (by kernel_rfl) (by kernel_rfl) fun w => run_quo64 w G1 G0 Y1) (by simp only [List.setIfInBounds_toArray, List.set_cons_succ, List.set_cons_zero] <;> rfl) ?_
    refine wpU_v (i := 8) (v := num (y / Nat.gcd x y)) rfl rfl (by kernel_rfl) (by kernel_rfl) rfl (yb_call (f := 32) (args := #[.int .u64 ((y / Nat.gcd x y : Nat) : Int)]) (fun _ => by kernel_rfl) fun W hW => fromSmall_any (y / Nat.gcd x y) (Nat.lt_of_le_of_lt (Nat.div_le_self _ _) Y1) W) (by simp only [List.setIfInBounds_toArray, List.set_cons_succ, List.set_cons_zero] <;> rfl) ?_
    refine wpU_p (i := 9) (v := frc (false) (x / Nat.gcd x y) (y / Nat.gcd x y)) rfl rfl (by kernel_rfl) (by kernel_rfl) rfl (fun _ => by kernel_rfl) (by simp only [List.setIfInBounds_toArray, List.set_cons_succ, List.set_cons_zero] <;> rfl) ?_
    refine wpU_s [(w.heap.size, .cells (frcC (false) (x / Nat.gcd x y) (y / Nat.gcd x y)) 26 (0, 0))] (i := 10) rfl (by kernel_rfl) rfl rfl rfl
      (st_f (neg := false) (n := x / Nat.gcd x y) (d := y / Nat.gcd x y) rfl (by kernel_rfl) (by kernel_rfl) (.head _) (by omega) size27 (by intro p hp; simp only [List.mem_cons, List.not_mem_nil, or_false] at hp; rcases hp with rfl; exact .inl rfl)) ?_
    refine wpU_p (i := 11) (v := .int .i64 0) rfl rfl (by kernel_rfl) (by kernel_rfl) rfl (fun _ => by kernel_rfl) (by simp only [List.setIfInBounds_toArray, List.set_cons_succ, List.set_cons_zero] <;> rfl) ?_
    refine wpU_done (by kernel_rfl) (fun W4 hW4 => ?_) _
    go_wp2_with fail
    refine bodyPost_ret (res_cell_tmp rfl rfl (hW4.2 _ (.head _)) Tryd.underlying26 rfl (by rw [size27, frcC_size])) rfl ⟨?_, hW4.1⟩
    simp [frc]
  · have hab : (a != 0) = true := by simp [ha]
    go_wp2_with (first
      | (go_at_call 33; with_reducible refine (HA.out _).mono ?_; rintro e w1 ⟨rfl, rfl⟩)
      | (go_at_call 33; with_reducible refine (HB.out _).mono ?_; rintro e w1 ⟨rfl, rfl⟩)
      | (go_at_call 54; refine (gcdSmall_any x y HX.out.1 HX.out.2.1 _).mono ?_; rintro e w2 ⟨rfl, hb1⟩; have HK2 := Lib.hid (HK.out.below hb1); clear hb1))
    have X1 := HX.out.1
    have Y1 := HX.out.2.1
    have G0 := HX.out.2.2
    have G1 : Nat.gcd x y < 18446744073709551616 := Nat.lt_of_le_of_lt (Nat.gcd_le_right x HY.out) Y1
    refine wp_region_U (W0 := w) [(w.heap.size, .cells (frcC (false) (0) (0)) 26 (0, 0))] (by kernel_rfl) (HK2.out) ?_
    refine wpU_p (i := 0) (v := .bool (decide (a < 0) != decide (b < 0))) rfl rfl (by kernel_rfl) (by kernel_rfl) rfl (fun _ => by kernel_rfl) (by simp only [List.setIfInBounds_toArray, List.set_cons_succ, List.set_cons_zero] <;> rfl) ?_
    refine wpU_p (i := 1) (v := .int .u64 (x : Int)) rfl rfl (by kernel_rfl) (by kernel_rfl) rfl (fun _ => by kernel_rfl) (by simp only [List.setIfInBounds_toArray, List.set_cons_succ, List.set_cons_zero] <;> rfl) ?_
    refine wpU_p (i := 2) (v := .int .u64 ((Nat.gcd x y : Nat) : Int)) rfl rfl (by kernel_rfl) (by kernel_rfl) rfl (fun _ => by kernel_rfl) (by simp only [List.setIfInBounds_toArray, List.set_cons_succ, List.set_cons_zero] <;> rfl) ?_
    refine wpU_p (i := 3) (v := .int .u64 ((x / Nat.gcd x y : Nat) : Int)) rfl rfl (by kernel_rfl) (by kernel_rfl) rfl (run_bin rfl (vx := .int .u64 (x : Int)) (vy := .int .u64 ((Nat.gcd x y : Nat) : Int)) (by kernel_rfl) (by kernel_rfl) fun w => run_quo64 w G1 G0 X1) (by simp only [List.setIfInBounds_toArray, List.set_cons_succ, List.set_cons_zero] <;> rfl) ?_
    refine wpU_v (i := 4) (v := num (x / Nat.gcd x y)) rfl rfl (by kernel_rfl) (by kernel_rfl) rfl (yb_call (f := 32) (args := #[.int .u64 ((x / Nat.gcd x y : Nat) : Int)]) (fun _ => by kernel_rfl) fun W hW => fromSmall_any (x / Nat.gcd x y) (Nat.lt_of_le_of_lt (Nat.div_le_self _ _) X1) W) (by simp only [List.setIfInBounds_toArray, List.set_cons_succ, List.set_cons_zero] <;> rfl) ?_
    refine wpU_p (i := 5) (v := .int .u64 (y : Int)) rfl rfl (by kernel_rfl) (by kernel_rfl) rfl (fun _ => by kernel_rfl) (by simp only [List.setIfInBounds_toArray, List.set_cons_succ, List.set_cons_zero] <;> rfl) ?_
    refine wpU_p (i := 6) (v := .int .u64 ((Nat.gcd x y : Nat) : Int)) rfl rfl (by kernel_rfl) (by kernel_rfl) rfl (fun _ => by kernel_rfl) (by simp only [List.setIfInBounds_toArray, List.set_cons_succ, List.set_cons_zero] <;> rfl) ?_
    refine wpU_p (i := 7) (v := .int .u64 ((y / Nat.gcd x y : Nat) : Int)) rfl rfl (by kernel_rfl) (by kernel_rfl) rfl (run_bin rfl (vx := .int .u64 (y : Int)) (vy := .int .u64 ((Nat.gcd x y : Nat) : Int)) (by kernel_rfl) (by kernel_rfl) fun w => run_quo64 w G1 G0 Y1) (by simp only [List.setIfInBounds_toArray, List.set_cons_succ, List.set_cons_zero] <;> rfl) ?_
    refine wpU_v (i := 8) (v := num (y / Nat.gcd x y)) rfl rfl (by kernel_rfl) (by kernel_rfl) rfl (yb_call (f := 32) (args := #[.int .u64 ((y / Nat.gcd x y : Nat) : Int)]) (fun _ => by kernel_rfl) fun W hW => fromSmall_any (y / Nat.gcd x y) (Nat.lt_of_le_of_lt (Nat.div_le_self _ _) Y1) W) (by simp only [List.setIfInBounds_toArray, List.set_cons_succ, List.set_cons_zero] <;> rfl) ?_
    refine wpU_p (i := 9) (v := frc (decide (a < 0) != decide (b < 0)) (x / Nat.gcd x y) (y / Nat.gcd x y)) rfl rfl (by kernel_rfl) (by kernel_rfl) rfl (fun _ => by kernel_rfl) (by simp only [List.setIfInBounds_toArray, List.set_cons_succ, List.set_cons_zero] <;> rfl) ?_
    refine wpU_s [(w.heap.size, .cells (frcC (decide (a < 0) != decide (b < 0)) (x / Nat.gcd x y) (y / Nat.gcd x y)) 26 (0, 0))] (i := 10) rfl (by kernel_rfl) rfl rfl rfl
      (st_f (neg := decide (a < 0) != decide (b < 0)) (n := x / Nat.gcd x y) (d := y / Nat.gcd x y) rfl (by kernel_rfl) (by kernel_rfl) (.head _) (by omega) size27 (by intro p hp; simp only [List.mem_cons, List.not_mem_nil, or_false] at hp; rcases hp with rfl; exact .inl rfl)) ?_
    refine wpU_p (i := 11) (v := .int .i64 0) rfl rfl (by kernel_rfl) (by kernel_rfl) rfl (fun _ => by kernel_rfl) (by simp only [List.setIfInBounds_toArray, List.set_cons_succ, List.set_cons_zero] <;> rfl) ?_
    refine wpU_done (by kernel_rfl) (fun W4 hW4 => ?_) _
    go_wp2_with fail
    refine bodyPost_ret (res_cell_tmp rfl rfl (hW4.2 _ (.head _)) Tryd.underlying26 rfl (by rw [size27, frcC_size])) rfl ⟨?_, hW4.1⟩
    simp [frc, ha]

set_option maxRecDepth 100000 in
set_option maxHeartbeats 400000 in
theorem ratio_zero (a : Int) (w : World) :
    Calls Tryd.prog 29 #[.int .i64 a, .int .i64 0] w fun e w' => e = .returned (.tuple #[frc false 0 0, .int .i64 2]) ∧ Below w.heap.size w w' := by
  unfold frc
  go_enter Tryd.func29, Tryd.ntmps29
  go_upto_region 1 with (fail)
  have hK := KS.one w (.cells (frcC false 0 0) 26)
  obtain ⟨W, hW⟩ : ∃ W, W = w.alloc (.cells (frcC false 0 0) 26) := ⟨_, rfl⟩
  rw [← hW] at hK
  rw [frc_zero] at hW
  rw [← hW]
  clear hW
  have HK := Lib.hid hK
  clear hK
  go_wp2_with (first
    | (refine wpList_stf (neg := false) (n := 0) (d := 0) (neg' := false) (n' := 0) (d' := 0) rfl rfl rfl (by rw [frc_zero]; rfl) (HK.out.2 _ (.head _)) size27 ?_))
  exact bodyPost_ret (res_cell_tmp rfl rfl (setRow_heap _ _ _ _ _ _ (HK.out.2 _ (.head _))) Tryd.underlying26 rfl (by rw [size27, frcC_size])) rfl ⟨rfl, below_setRow HK.out.1 (by omega) _⟩
end Go.Proofs.YtkfcikijmkgahaaDoor
namespace Go.Proofs.YtkfcikijmkgahaaDoor
open Go.RowKit Tw
variable [ShLZ]
/-- what add answers -/
def addV (s1 : Bool) (n1 d1 : Nat) (s2 : Bool) (n2 d2 : Nat) : Value :=
  packV (psS s1 s2 (n1 * (d2 / Nat.gcd d1 d2)) (n2 * (d1 / Nat.gcd d1 d2)))
    (psN s1 s2 (n1 * (d2 / Nat.gcd d1 d2)) (n2 * (d1 / Nat.gcd d1 d2)) / Nat.gcd (psN s1 s2 (n1 * (d2 / Nat.gcd d1 d2)) (n2 * (d1 / Nat.gcd d1 d2))) (Nat.gcd d1 d2))
    (d1 / Nat.gcd d1 d2 * (d2 / Nat.gcd (psN s1 s2 (n1 * (d2 / Nat.gcd d1 d2)) (n2 * (d1 / Nat.gcd d1 d2))) (Nat.gcd d1 d2)))
theorem psN_le (x y : Bool) (a b : Nat) : psN x y a b ≤ a + b := by
  unfold psN; split
  · exact Nat.le_refl _
  · split <;> omega
theorem two_R16 {u v : Nat} (hu : u < R 16) (hv : v < R 16) : u + v < R 17 := by rw [R_succ]; omega
theorem mul_lt16 {a b : Nat} (ha : a < R 8) (hb : b < R 8) : a * b < R 16 := by
  have h : a * b < R (8 + 8) := by rw [R_add]; exact Nat.mul_lt_mul'' ha hb
  exact h
theorem add_any (s1 s2 : Bool) (n1 d1 n2 d2 : Nat) (hn1 : n1 < R 8) (hd1 : d1 < R 8) (hn2 : n2 < R 8) (hd2 : d2 < R 8) (h1 : 0 < d1) (h2 : 0 < d2) (w : World) :
    Calls Tryd.prog 30 #[frc s1 n1 d1, frc s2 n2 d2] w fun e w' => e = .returned (addV s1 n1 d1 s2 n2 d2) ∧ Below w.heap.size w w' := by
  unfold addV
  have hc0 : 0 < Nat.gcd d1 d2 := Nat.gcd_pos_of_pos_right d1 h2
  have hc : Nat.gcd d1 d2 < R 8 := Nat.lt_of_le_of_lt (Nat.gcd_le_right d1 h2) hd2
  have hq : d2 / Nat.gcd d1 d2 < R 8 := Nat.lt_of_le_of_lt (Nat.div_le_self _ _) hd2
  have ho : d1 / Nat.gcd d1 d2 < R 8 := Nat.lt_of_le_of_lt (Nat.div_le_self _ _) hd1
  have HG := fun W => gcd_any d1 d2 hd1 hd2 W
  have HO := fun W => quotient_any d1 (Nat.gcd d1 d2) hd1 hc hc0 W
  have HQ := fun W => quotient_any d2 (Nat.gcd d1 d2) hd2 hc hc0 W
  generalize Nat.gcd d1 d2 = c at *
  generalize hqd : d2 / c = q2 at *
  generalize hod : d1 / c = ov at *
  have hu : n1 * q2 < R 16 := mul_lt16 hn1 hq
  have hv : n2 * ov < R 16 := mul_lt16 hn2 ho
  have HU := fun W => times_any n1 q2 hn1 hq W
  have HV := fun W => times_any n2 ov hn2 ho W
  generalize n1 * q2 = u at *
  generalize n2 * ov = v at *
  have huv := two_R16 hu hv
  have hN : psN s1 s2 u v < R 17 := Nat.lt_of_le_of_lt (psN_le s1 s2 u v) huv
  have HP := fun W => plusSigned_any s1 s2 u v (lt_R_of_le huv (by omega)) W
  generalize psN s1 s2 u v = N at *
  generalize psS s1 s2 u v = S at *
  have hl0 : 0 < Nat.gcd N c := Nat.gcd_pos_of_pos_right N hc0
  have hl : Nat.gcd N c < R 8 := Nat.lt_of_le_of_lt (Nat.gcd_le_right N hc0) hc
  have hlg : Nat.gcd (N % c) c = Nat.gcd N c := by rw [Nat.gcd_comm N c, Nat.gcd_rec c N]
  have HL := fun W => gcd_any (N % c) c (Nat.lt_trans (Nat.mod_lt N hc0) hc) hc W
  rw [hlg] at HL
  have hone : c = 1 → Nat.gcd N c = 1 := fun h => by rw [h, Nat.gcd_one_right]
  clear hlg
  generalize Nat.gcd N c = l at *
  have hdl : d2 / l < R 8 := Nat.lt_of_le_of_lt (Nat.div_le_self _ _) hd2
  have hNl : N / l < R 17 := Nat.lt_of_le_of_lt (Nat.div_le_self _ _) hN
  obtain ⟨s', n', d', ee, hpv⟩ := packV_shape S (N / l) (ov * (d2 / l))
  exact add_walk s1 s2 S n1 d1 n2 d2 c ov q2 u v N l s' n' d' ee (packV S (N / l) (ov * (d2 / l))) hc
    (fun h => by rw [hone h, Nat.div_one, Nat.div_one, ← hod, h, Nat.div_one]) (fun _ => rfl) hpv HG HO HQ HU HV HP (fun W => times_any d1 d2 hd1 hd2 W)
    (fun W => divide_any N c hN hc hc0 W) HL (fun W => divide_any N l hN hl hl0 W) (fun W => quotient_any d2 l hd2 hl hl0 W) (fun W => times_any ov (d2 / l) ho hdl W)
    (fun W => pack_any S N (d1 * d2) (lt_R_of_le hN (by omega)) (lt_R_of_le (mul_lt16 hd1 hd2) (by omega)) W)
    (fun W => pack_any S (N / l) (ov * (d2 / l)) (lt_R_of_le hNl (by omega)) (lt_R_of_le (mul_lt16 ho hdl) (by omega)) W) w
end Go.Proofs.YtkfcikijmkgahaaDoor
namespace Go.Proofs.YtkfcikijmkgahaaDoor
open Go.RowKit Tw
variable [ShLZ]
/-- ErrArg, and the zero fraction -/
def argV : Value := .tuple #[.agg (frcC false 0 0), .int .i64 2]
theorem right_den {s : Bool} {n d : Nat} (h : rightB s n d = true) : 0 < d := by
  unfold rightB at h
  split at h
  · simp at h; omega
  · simp at h; omega

set_option maxRecDepth 100000 in
set_option maxHeartbeats 2000000 in
theorem Add_any (s1 s2 : Bool) (n1 d1 n2 d2 : Nat) (hn1 : n1 < R 8) (hd1 : d1 < R 8) (hn2 : n2 < R 8) (hd2 : d2 < R 8) (w : World) :
    Calls Tryd.prog 12 #[frc s1 n1 d1, frc s2 n2 d2] w fun e w' => e = .returned (if (rightB s1 n1 d1 && rightB s2 n2 d2) = true then addV s1 n1 d1 s2 n2 d2 else argV) ∧ Below w.heap.size w w' := by
  have HR1 := Lib.hid (fun W => right_any s1 n1 d1 hn1 hd1 W)
  have HR2 := Lib.hid (fun W => right_any s2 n2 d2 hn2 hd2 W)
  unfold Hid frc at HR1 HR2
  have HC : rightB s1 n1 d1 = true → rightB s2 n2 d2 = true → Hid (∀ W, Calls Tryd.prog 30 #[.agg (frcC s1 n1 d1), .agg (frcC s2 n2 d2)] W fun e w' => e = .returned (addV s1 n1 d1 s2 n2 d2) ∧ Below W.heap.size W w') := fun h1 h2 W =>
    add_any s1 s2 n1 d1 n2 d2 hn1 hd1 hn2 hd2 (right_den h1) (right_den h2) W
  obtain ⟨s', n', d', ee, hp⟩ : ∃ s' n' d' e, addV s1 n1 d1 s2 n2 d2 = .tuple #[.agg (frcC s' n' d'), .int .i64 e] := packV_shape _ _ _
  have HP := Lib.hid hp
  clear hp hn1 hd1 hn2 hd2
  unfold frc
  generalize addV s1 n1 d1 s2 n2 d2 = CV at *
  generalize rightB s1 n1 d1 = r1 at *
  generalize rightB s2 n2 d2 = r2 at *
  have HR1 := Lib.hid HR1
  have HR2 := Lib.hid HR2
  go_enter Tryd.func12, Tryd.ntmps12
  go_upto_region 1 with (fail)
  have hK := KS.three w (.cells (frcC s1 n1 d1) 26) (.cells (frcC s2 n2 d2) 26) (.cells (frcC false 0 0) 26)
  obtain ⟨W, hW⟩ : ∃ W, W = ((w.alloc (.cells (frcC s1 n1 d1) 26)).alloc (.cells (frcC s2 n2 d2) 26)).alloc (.cells (frcC false 0 0) 26) := ⟨_, rfl⟩
  rw [← hW] at hK
  rw [frc_zero] at hW
  rw [← hW]
  clear hW
  have HK := Lib.hid hK
  clear hK
  cases r1
  · have HV := Lib.hid (show (if (false && r2) = true then CV else argV) = argV from rfl)
    clear HC
    go_wp2_with (first
      | (refine wpList_ldf rfl rfl rfl (HK.out.2 _ (.head _)) Tryd.underlying26 rfl size27 ?_)
      | (refine wpList_guard rfl ?_; refine wpList_ldf rfl rfl rfl (HK1.out.2 _ (.tail _ (.head _))) Tryd.underlying26 rfl size27 ?_)
      | (go_at_call 24; with_reducible refine (HR1.out _).mono ?_; rintro e w1 ⟨rfl, hb1⟩; have HK1 := Lib.hid (HK.out.below hb1); clear hb1)
      | (go_at_call 24; with_reducible refine (HR2.out _).mono ?_; rintro e w2 ⟨rfl, hb1⟩; have HK2 := Lib.hid (HK1.out.below hb1); clear hb1)
      | (refine wpList_stf (neg := false) (n := 0) (d := 0) (neg' := false) (n' := 0) (d' := 0) rfl rfl rfl (by rw [frc_zero]; rfl) (HK1.out.2 _ (.tail _ (.tail _ (.head _)))) size27 ?_))
    exact bodyPost_ret (res_cell_tmp rfl rfl (setRow_heap _ _ _ _ _ _ (HK1.out.2 _ (.tail _ (.tail _ (.head _))))) Tryd.underlying26 rfl (by rw [size27, frcC_size])) rfl ⟨rfl, below_setRow HK1.out.1 (by omega) _⟩
  · cases r2
    · have HV := Lib.hid (show (if (true && false) = true then CV else argV) = argV from rfl)
      clear HC
      go_wp2_with (first
        | (refine wpList_ldf rfl rfl rfl (HK.out.2 _ (.head _)) Tryd.underlying26 rfl size27 ?_)
        | (refine wpList_guard rfl ?_; refine wpList_ldf rfl rfl rfl (HK1.out.2 _ (.tail _ (.head _))) Tryd.underlying26 rfl size27 ?_)
        | (go_at_call 24; with_reducible refine (HR1.out _).mono ?_; rintro e w1 ⟨rfl, hb1⟩; have HK1 := Lib.hid (HK.out.below hb1); clear hb1)
        | (go_at_call 24; with_reducible refine (HR2.out _).mono ?_; rintro e w2 ⟨rfl, hb1⟩; have HK2 := Lib.hid (HK1.out.below hb1); clear hb1)
        | (refine wpList_stf (neg := false) (n := 0) (d := 0) (neg' := false) (n' := 0) (d' := 0) rfl rfl rfl (by rw [frc_zero]; rfl) (HK2.out.2 _ (.tail _ (.tail _ (.head _)))) size27 ?_))
      exact bodyPost_ret (res_cell_tmp rfl rfl (setRow_heap _ _ _ _ _ _ (HK2.out.2 _ (.tail _ (.tail _ (.head _))))) Tryd.underlying26 rfl (by rw [size27, frcC_size])) rfl ⟨rfl, below_setRow HK2.out.1 (by omega) _⟩
    skip
    have HC2 := HC rfl rfl
    clear HC
    go_wp2_with (first
      | (refine wpList_ldf rfl rfl rfl (HK.out.2 _ (.head _)) Tryd.underlying26 rfl size27 ?_)
      | (refine wpList_guard rfl ?_; refine wpList_ldf rfl rfl rfl (HK1.out.2 _ (.tail _ (.head _))) Tryd.underlying26 rfl size27 ?_)
      | (go_at_call 24; with_reducible refine (HR1.out _).mono ?_; rintro e w1 ⟨rfl, hb1⟩; have HK1 := Lib.hid (HK.out.below hb1); clear hb1)
      | (go_at_call 24; with_reducible refine (HR2.out _).mono ?_; rintro e w2 ⟨rfl, hb1⟩; have HK2 := Lib.hid (HK1.out.below hb1); clear hb1)
      | (refine wpList_ldf rfl rfl rfl (HK2.out.2 _ (.head _)) Tryd.underlying26 rfl size27 ?_)
      | (refine wpList_ldf rfl rfl rfl (HK2.out.2 _ (.tail _ (.head _))) Tryd.underlying26 rfl size27 ?_)
      | (go_at_call 30; refine (HC2.out _).mono ?_; rintro e w3 ⟨rfl, hb1⟩; have HK3 := Lib.hid (HK2.out.below hb1); clear hb1; rw [HP.out])
      | (refine wpList_stf (neg := s') (n := n') (d := d') (neg' := false) (n' := 0) (d' := 0) rfl rfl rfl rfl (HK3.out.2 _ (.tail _ (.tail _ (.head _)))) size27 ?_))
    exact bodyPost_ret (res_cell_tmp rfl rfl (setRow_heap _ _ _ _ _ _ (HK3.out.2 _ (.tail _ (.tail _ (.head _))))) Tryd.underlying26 rfl (by rw [size27, frcC_size])) rfl ⟨by show _ = Ending.returned CV; rw [HP.out]; rfl, below_setRow HK3.out.1 (by omega) _⟩

/-- what mul answers -/
def mulV (s1 : Bool) (n1 d1 : Nat) (s2 : Bool) (n2 d2 : Nat) : Value := packV (s1 != s2) (n1 / Nat.gcd n1 d2 * (n2 / Nat.gcd n2 d1)) (d1 / Nat.gcd n2 d1 * (d2 / Nat.gcd n1 d2))

set_option maxRecDepth 100000 in
set_option maxHeartbeats 2000000 in
theorem Mul_any (s1 s2 : Bool) (n1 d1 n2 d2 : Nat) (hn1 : n1 < R 8) (hd1 : d1 < R 8) (hn2 : n2 < R 8) (hd2 : d2 < R 8) (w : World) :
    Calls Tryd.prog 15 #[frc s1 n1 d1, frc s2 n2 d2] w fun e w' => e = .returned (if (rightB s1 n1 d1 && rightB s2 n2 d2) = true then mulV s1 n1 d1 s2 n2 d2 else argV) ∧ Below w.heap.size w w' := by
  have HR1 := Lib.hid (fun W => right_any s1 n1 d1 hn1 hd1 W)
  have HR2 := Lib.hid (fun W => right_any s2 n2 d2 hn2 hd2 W)
  unfold Hid frc at HR1 HR2
  have HC : rightB s1 n1 d1 = true → rightB s2 n2 d2 = true → Hid (∀ W, Calls Tryd.prog 31 #[.agg (frcC s1 n1 d1), .agg (frcC s2 n2 d2)] W fun e w' => e = .returned (mulV s1 n1 d1 s2 n2 d2) ∧ Below W.heap.size W w') := fun h1 h2 W =>
    mul_any s1 s2 n1 d1 n2 d2 hn1 hd1 hn2 hd2 (right_den h1) (right_den h2) W
  obtain ⟨s', n', d', ee, hp⟩ : ∃ s' n' d' e, mulV s1 n1 d1 s2 n2 d2 = .tuple #[.agg (frcC s' n' d'), .int .i64 e] := packV_shape _ _ _
  have HP := Lib.hid hp
  clear hp hn1 hd1 hn2 hd2
  unfold frc
  generalize mulV s1 n1 d1 s2 n2 d2 = CV at *
  generalize rightB s1 n1 d1 = r1 at *
  generalize rightB s2 n2 d2 = r2 at *
  have HR1 := Lib.hid HR1
  have HR2 := Lib.hid HR2
  go_enter Tryd.func15, Tryd.ntmps15
  go_upto_region 1 with (fail)
  have hK := KS.three w (.cells (frcC s1 n1 d1) 26) (.cells (frcC s2 n2 d2) 26) (.cells (frcC false 0 0) 26)
  obtain ⟨W, hW⟩ : ∃ W, W = ((w.alloc (.cells (frcC s1 n1 d1) 26)).alloc (.cells (frcC s2 n2 d2) 26)).alloc (.cells (frcC false 0 0) 26) := ⟨_, rfl⟩
  rw [← hW] at hK
  rw [frc_zero] at hW
  rw [← hW]
  clear hW
  have HK := Lib.hid hK
  clear hK
  cases r1
  · have HV := Lib.hid (show (if (false && r2) = true then CV else argV) = argV from rfl)
    clear HC
    go_wp2_with (first
      | (refine wpList_ldf rfl rfl rfl (HK.out.2 _ (.head _)) Tryd.underlying26 rfl size27 ?_)
      | (refine wpList_guard rfl ?_; refine wpList_ldf rfl rfl rfl (HK1.out.2 _ (.tail _ (.head _))) Tryd.underlying26 rfl size27 ?_)
      | (go_at_call 24; with_reducible refine (HR1.out _).mono ?_; rintro e w1 ⟨rfl, hb1⟩; have HK1 := Lib.hid (HK.out.below hb1); clear hb1)
      | (go_at_call 24; with_reducible refine (HR2.out _).mono ?_; rintro e w2 ⟨rfl, hb1⟩; have HK2 := Lib.hid (HK1.out.below hb1); clear hb1)
      | (refine wpList_stf (neg := false) (n := 0) (d := 0) (neg' := false) (n' := 0) (d' := 0) rfl rfl rfl (by rw [frc_zero]; rfl) (HK1.out.2 _ (.tail _ (.tail _ (.head _)))) size27 ?_))
    exact bodyPost_ret (res_cell_tmp rfl rfl (setRow_heap _ _ _ _ _ _ (HK1.out.2 _ (.tail _ (.tail _ (.head _))))) Tryd.underlying26 rfl (by rw [size27, frcC_size])) rfl ⟨rfl, below_setRow HK1.out.1 (by omega) _⟩
  · cases r2
    · have HV := Lib.hid (show (if (true && false) = true then CV else argV) = argV from rfl)
      clear HC
      go_wp2_with (first
        | (refine wpList_ldf rfl rfl rfl (HK.out.2 _ (.head _)) Tryd.underlying26 rfl size27 ?_)
        | (refine wpList_guard rfl ?_; refine wpList_ldf rfl rfl rfl (HK1.out.2 _ (.tail _ (.head _))) Tryd.underlying26 rfl size27 ?_)
        | (go_at_call 24; with_reducible refine (HR1.out _).mono ?_; rintro e w1 ⟨rfl, hb1⟩; have HK1 := Lib.hid (HK.out.below hb1); clear hb1)
        | (go_at_call 24; with_reducible refine (HR2.out _).mono ?_; rintro e w2 ⟨rfl, hb1⟩; have HK2 := Lib.hid (HK1.out.below hb1); clear hb1)
        | (refine wpList_stf (neg := false) (n := 0) (d := 0) (neg' := false) (n' := 0) (d' := 0) rfl rfl rfl (by rw [frc_zero]; rfl) (HK2.out.2 _ (.tail _ (.tail _ (.head _)))) size27 ?_))
      exact bodyPost_ret (res_cell_tmp rfl rfl (setRow_heap _ _ _ _ _ _ (HK2.out.2 _ (.tail _ (.tail _ (.head _))))) Tryd.underlying26 rfl (by rw [size27, frcC_size])) rfl ⟨rfl, below_setRow HK2.out.1 (by omega) _⟩
    skip
    have HC2 := HC rfl rfl
    clear HC
    go_wp2_with (first
      | (refine wpList_ldf rfl rfl rfl (HK.out.2 _ (.head _)) Tryd.underlying26 rfl size27 ?_)
      | (refine wpList_guard rfl ?_; refine wpList_ldf rfl rfl rfl (HK1.out.2 _ (.tail _ (.head _))) Tryd.underlying26 rfl size27 ?_)
      | (go_at_call 24; with_reducible refine (HR1.out _).mono ?_; rintro e w1 ⟨rfl, hb1⟩; have HK1 := Lib.hid (HK.out.below hb1); clear hb1)
      | (go_at_call 24; with_reducible refine (HR2.out _).mono ?_; rintro e w2 ⟨rfl, hb1⟩; have HK2 := Lib.hid (HK1.out.below hb1); clear hb1)
      | (refine wpList_ldf rfl rfl rfl (HK2.out.2 _ (.head _)) Tryd.underlying26 rfl size27 ?_)
      | (refine wpList_ldf rfl rfl rfl (HK2.out.2 _ (.tail _ (.head _))) Tryd.underlying26 rfl size27 ?_)
      | (go_at_call 31; refine (HC2.out _).mono ?_; rintro e w3 ⟨rfl, hb1⟩; have HK3 := Lib.hid (HK2.out.below hb1); clear hb1; rw [HP.out])
      | (refine wpList_stf (neg := s') (n := n') (d := d') (neg' := false) (n' := 0) (d' := 0) rfl rfl rfl rfl (HK3.out.2 _ (.tail _ (.tail _ (.head _)))) size27 ?_))
    exact bodyPost_ret (res_cell_tmp rfl rfl (setRow_heap _ _ _ _ _ _ (HK3.out.2 _ (.tail _ (.tail _ (.head _))))) Tryd.underlying26 rfl (by rw [size27, frcC_size])) rfl ⟨by show _ = Ending.returned CV; rw [HP.out]; rfl, below_setRow HK3.out.1 (by omega) _⟩
end Go.Proofs.YtkfcikijmkgahaaDoor
