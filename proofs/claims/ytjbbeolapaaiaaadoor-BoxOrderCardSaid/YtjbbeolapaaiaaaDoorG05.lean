import Derived.Test.YtjbbeolapaaiaaaDoorG03
import Derived.Test.YtjbbeolapaaiaaaDoorG00
import Derived.Test.YtjbbeolapaaiaaaDoorG04
import Derived.Test.YtjbbeolapaaiaaaDoorG01
import Derived.Handed
import Derived.ChangeArms
import Derived.ChangeShapes
import Derived.WideShapes
import Derived.DataReads
import Derived.ChangeOld
import Derived.SizedLaws
import Derived.Test.YtjbbeolapaaiaaaDoorCards
import Derived.Test.YtjbbeolapaaiaaaDoorTie
import Derived.WalkKit
import Derived.ProofKit
import Derived.OpenShut
import Derived.LaidMore
import Derived.ChangeMaps5
import Derived.Shelf.Vars
import Derived.Stop.Joined
import Derived.Stop.LaidErr
import Derived.SevenTiedAt
/- Part of the proof: HO, Hp, HP, HR. -/
set_option linter.unusedVariables false
set_option linter.unusedSimpArgs false
set_option linter.unusedSectionVars false
namespace Go.Proofs.YtjbbeolapaaiaaaDoor
open Go Go.RowKit Tw
theorem bn_and {P : Program} {T : TypeId} {px py : Operand} {k : IntKind} {x y z : Nat} (h : x &&& y = z) (hx : x < 2 ^ k.bits) (hy : y < 2 ^ k.bits) (hw : k.wrap (z : Int) = (z : Int)) (w : World) : (do eqGuard .and T px py (.int k (x : Int)) (.int k (y : Int)); binOp .and T (.int k (x : Int)) (.int k (y : Int)) : Sem Value).run P w = .ok (.int k (z : Int)) w := by
  simp [eqGuard, binOp, Op.intBits]
  rw [Nat.mod_eq_of_lt hx, Nat.mod_eq_of_lt hy, h, hw]
structure Sk where
  kind : Nat
  kilos : Nat
  load : Nat
  stay : Nat
  cls : Nat
  num : Nat
def skC (x : Sk) : List Value := [.int .u8 ((x.kind : Nat) : Int), .int .u8 ((x.kilos : Nat) : Int), .int .u8 ((x.load : Nat) : Int), .int .u8 ((x.stay : Nat) : Int), .int .u8 ((x.cls : Nat) : Int), .int .u8 ((x.num : Nat) : Int)]
def skOk (x : Sk) : Prop := x.kind ≤ 255 ∧ x.kilos ≤ 255 ∧ x.load ≤ 255 ∧ x.stay ≤ 255 ∧ x.cls ≤ 255 ∧ x.num ≤ 255
def payL (n : Nat) : List UInt8 := [84, 87, 76, 85] ++ [UInt8.ofNat (48 + n / 100), UInt8.ofNat (48 + n / 10 % 10), UInt8.ofNat (48 + n % 10)] ++ [49, 50, 51]
def numX (x : Sk) : List UInt8 := if x.num % 2 = 1 then payL x.num ++ [UInt8.ofNat (chkN (payL x.num))] else []
def madeX (n : Nat) (x : Sk) : Bx := ⟨(((1 + n % 65536 : Nat)) : Int), numX x, (if x.kind % 2 = 1 then 40 else 20), (decide (x.kind % 2 = 1) && decide (x.kind &&& 2 = 2)), ((1 + x.kilos * 125 : Nat) : Int), ((x.load % 19 : Nat) : Int), ((x.load % 19 + 1 + x.stay % (19 - x.load % 19) : Nat) : Int), x.cls % 10, decide (x.kind &&& 4 = 4)⟩
theorem dig_may {n i : Nat} (h : n ≤ 9) (h3 : ¬ i < 3) (h4 : ¬ i = 3) : mayB i (UInt8.ofNat (48 + n)) = true := by
  have e : (UInt8.ofNat (48 + n)).toNat = 48 + n := by rw [UInt8.toNat_ofNat']; omega
  unfold mayB isDig
  rw [if_neg h3, if_neg h4, e]
  simp
  omega
theorem pay_fit {n : Nat} (h : n ≤ 255) : fitB (payL n) 10 = true := by
  have h1 : mayB 4 (UInt8.ofNat (48 + n / 100)) = true := dig_may (by omega) (by omega) (by omega)
  have h2 : mayB 5 (UInt8.ofNat (48 + n / 10 % 10)) = true := dig_may (by omega) (by omega) (by omega)
  have h3 : mayB 6 (UInt8.ofNat (48 + n % 10)) = true := dig_may (by omega) (by omega) (by omega)
  unfold fitB payL
  simp only [List.cons_append, List.nil_append, List.length_cons, List.length_nil, fitF, h1, h2, h3, Bool.true_and, Bool.and_true]
  decide
theorem Check_ok {l : List UInt8} (h : fitB l 10 = true) (W : World) : Calls Tryd.prog 42 #[strV l] W fun e w' => e = .returned (.tuple #[.int .u8 ((chkN l : Nat) : Int), .int .i64 0]) ∧ Below W.heap.size W w' := by
  have h1 := Check_any l W
  rw [if_pos h] at h1
  exact h1
theorem box_is {a b : Bx} (h : a = b) : Ending.returned (bxV a) = .returned (bxV b) := by rw [h]
theorem boxt_is {b : Bx} {v : Value} (h : v = bxV b) : Ending.returned v = .returned (bxV b) := by rw [h]
set_option maxRecDepth 100000 in
set_option maxHeartbeats 4000000 in
theorem Made_any (n : Nat) (x : Sk) (hn : n ≤ 1000000) (hx : skOk x) (w : World) : Calls Tryd.prog 17 #[.int .i64 ((n : Nat) : Int), .agg (skC x).toArray] w fun e w' => e = .returned (bxV (madeX n x)) ∧ Below w.heap.size w w' := by
  obtain ⟨x1, x2, x3, x4, x5, x6⟩ := hx
  have hstay := Nat.mod_lt x.stay (show 0 < 19 - x.load % 19 by omega)
  have hpf := pay_fit x6
  have hck := chkN_le (payL x.num)
  go_enter Tryd.func17, Tryd.ntmps17
  refine wp_seq ?_
  refine wp_region_L (W0 := w) [] (KS.start w) ?_
  refine wpL_new (fun g => .pointer (some ⟨g, 0, none⟩)) (obi := .cells (skC x).toArray 31 (0, 0)) rfl rfl (fun _ => by kernel_rfl) (fun _ => by simp only [List.setIfInBounds_toArray, List.set_cons_succ, List.set_cons_zero] <;> rfl) fun g1 Bg1 Fg1 => ?_
  refine wpL_new (fun g => .pointer (some ⟨g, 0, none⟩)) (obi := .cells (bxC bx0) 26 (0, 0)) rfl rfl (fun _ => by kernel_rfl) (fun _ => by simp only [List.setIfInBounds_toArray, List.set_cons_succ, List.set_cons_zero] <;> rfl) fun g2 Bg2 Fg2 => ?_
  obtain dj3_0 : g1 ≠ g2 := by simpa only [dj_app_l, dj_app_r, dj_cons_l, dj_cons_r, dj_nil_l, dj_nil_r, dk_app, dk_cons, dk_nil, and_true, true_and, and_assoc] using (show Dk g2 [(g1, .cells (skC x).toArray 31 (0, 0))] from Fg2)
  refine wpL_done (fun W1 hW1 => ?_)
  refine (show Code.wp _ _ _ _ _ from ?_)
  refine wp_seq ?_
  refine wp_region_L (W0 := w) [(g2, .cells (bxC bx0) 26 (0, 0)), (g1, .cells (skC x).toArray 31 (0, 0))] (hW1) ?_
  refine lm (v := .int .i64 ((n : Nat) : Int)) rfl rfl ?_
  refine lp (v := .int .i64 (((n % 65536) : Nat) : Int)) rfl rfl (run_bin rfl (vx := (.int .i64 ((n : Nat) : Int))) (vy := (.int .i64 ((65535 : Nat) : Int))) (by kernel_rfl) (by kernel_rfl) fun w => bn_and (z := (n % 65536)) (show n &&& 65535 = n % 65536 from Nat.and_two_pow_sub_one_eq_mod n 16) (by simp only [IntKind.bits]; omega) (by simp only [IntKind.bits]; omega) (wr_i64 (by first | omega | exact Nat.le_trans Nat.and_le_right (by omega))) w) ?_
  refine lp (v := .int .i64 (((1 + (n % 65536)) : Nat) : Int)) rfl rfl (run_bin rfl (vx := (.int .i64 ((1 : Nat) : Int))) (vy := (.int .i64 (((n % 65536) : Nat) : Int))) (by kernel_rfl) (by kernel_rfl) fun w => bn_add (z := (1 + (n % 65536))) rfl (wr_i64 (by omega)) w) ?_
  refine lm (v := .pointer (some ⟨g1, 1, none⟩)) rfl rfl ?_
  refine lv (v := .int .u8 ((x.kilos : Nat) : Int)) rfl rfl (yb_cell (off := 1) rfl (by kernel_rfl) (.tail _ (.head _)) Tryd.underlying5 rfl (by kernel_rfl)) ?_
  refine lp (v := .int .i64 ((x.kilos : Nat) : Int)) rfl rfl (run_conv rfl (vx := (.int .u8 ((x.kilos : Nat) : Int))) (by kernel_rfl) fun w => cv_int Tryd.underlying5 Tryd.underlying3 (wr_i64 (by omega)) w) ?_
  refine lp (v := .int .i64 (((x.kilos * 125) : Nat) : Int)) rfl rfl (run_bin rfl (vx := (.int .i64 ((x.kilos : Nat) : Int))) (vy := (.int .i64 ((125 : Nat) : Int))) (by kernel_rfl) (by kernel_rfl) fun w => bn_mul (z := (x.kilos * 125)) rfl (wr_i64 (by omega)) w) ?_
  refine lp (v := .int .i64 (((1 + (x.kilos * 125)) : Nat) : Int)) rfl rfl (run_bin rfl (vx := (.int .i64 ((1 : Nat) : Int))) (vy := (.int .i64 (((x.kilos * 125) : Nat) : Int))) (by kernel_rfl) (by kernel_rfl) fun w => bn_add (z := (1 + (x.kilos * 125))) rfl (wr_i64 (by omega)) w) ?_
  refine lm (v := .pointer (some ⟨g1, 2, none⟩)) rfl rfl ?_
  refine lv (v := .int .u8 ((x.load : Nat) : Int)) rfl rfl (yb_cell (off := 2) rfl (by kernel_rfl) (.tail _ (.head _)) Tryd.underlying5 rfl (by kernel_rfl)) ?_
  refine lp (v := .int .i64 ((x.load : Nat) : Int)) rfl rfl (run_conv rfl (vx := (.int .u8 ((x.load : Nat) : Int))) (by kernel_rfl) fun w => cv_int Tryd.underlying5 Tryd.underlying3 (wr_i64 (by omega)) w) ?_
  refine lp (v := .int .i64 (((x.load % 19) : Nat) : Int)) rfl rfl (run_bin rfl (vx := (.int .i64 ((x.load : Nat) : Int))) (vy := (.int .i64 ((19 : Nat) : Int))) (by kernel_rfl) (by kernel_rfl) fun w => bn_rem (z := (x.load % 19)) rfl (by omega) w) ?_
  refine lm (v := .pointer (some ⟨g1, 4, none⟩)) rfl rfl ?_
  refine lv (v := .int .u8 ((x.cls : Nat) : Int)) rfl rfl (yb_cell (off := 4) rfl (by kernel_rfl) (.tail _ (.head _)) Tryd.underlying5 rfl (by kernel_rfl)) ?_
  refine lp (v := .int .u8 (((x.cls % 10) : Nat) : Int)) rfl rfl (run_bin rfl (vx := (.int .u8 ((x.cls : Nat) : Int))) (vy := (.int .u8 ((10 : Nat) : Int))) (by kernel_rfl) (by kernel_rfl) fun w => bn_rem (z := (x.cls % 10)) rfl (by omega) w) ?_
  refine lm (v := .pointer (some ⟨g1, 0, none⟩)) rfl rfl ?_
  refine lv (v := .int .u8 ((x.kind : Nat) : Int)) rfl rfl (yb_cell (off := 0) rfl (by kernel_rfl) (.tail _ (.head _)) Tryd.underlying5 rfl (by kernel_rfl)) ?_
  refine lp (v := .int .u8 (((x.kind &&& 4) : Nat) : Int)) rfl rfl (run_bin rfl (vx := (.int .u8 ((x.kind : Nat) : Int))) (vy := (.int .u8 ((4 : Nat) : Int))) (by kernel_rfl) (by kernel_rfl) fun w => bn_and (z := (x.kind &&& 4)) rfl (by simp only [IntKind.bits]; omega) (by simp only [IntKind.bits]; omega) (wr_u8 (by first | omega | exact Nat.le_trans Nat.and_le_right (by omega))) w) ?_
  refine lp (v := .bool (decide ((x.kind &&& 4) = 4))) rfl rfl (run_bin rfl (vx := (.int .u8 (((x.kind &&& 4) : Nat) : Int))) (vy := (.int .u8 ((4 : Nat) : Int))) (by kernel_rfl) (by kernel_rfl) fun w => bn_eql rfl w) ?_
  refine lm (v := .agg #[.int .i64 (((1 + (n % 65536)) : Nat) : Int), strV [], .int .u8 20, .bool false, .int .i64 (((1 + (x.kilos * 125)) : Nat) : Int), .int .i64 (((x.load % 19) : Nat) : Int), .int .i64 0, .int .u8 (((x.cls % 10) : Nat) : Int), .bool (decide ((x.kind &&& 4) = 4))]) rfl rfl ?_
  refine wpL_new (fun g => .pointer (some ⟨g, 0, none⟩)) (obi := .cells (bxC bx0) 26 (0, 0)) rfl rfl (fun _ => by kernel_rfl) (fun _ => by simp only [List.setIfInBounds_toArray, List.set_cons_succ, List.set_cons_zero] <;> rfl) fun g4 Bg4 Fg4 => ?_
  obtain ⟨dj5_0, dj5_1⟩ : g2 ≠ g4 ∧ g1 ≠ g4 := by simpa only [dj_app_l, dj_app_r, dj_cons_l, dj_cons_r, dj_nil_l, dj_nil_r, dk_app, dk_cons, dk_nil, and_true, true_and, and_assoc] using (show Dk g4 [(g2, .cells (bxC bx0) 26 (0, 0)), (g1, .cells (skC x).toArray 31 (0, 0))] from Fg4)
  refine wpL_s [(g4, .cells #[.int .i64 (((1 + (n % 65536)) : Nat) : Int), strV [], .int .u8 20, .bool false, .int .i64 (((1 + (x.kilos * 125)) : Nat) : Int), .int .i64 (((x.load % 19) : Nat) : Int), .int .i64 0, .int .u8 (((x.cls % 10) : Nat) : Int), .bool (decide ((x.kind &&& 4) = 4))] 26 (0, 0)), (g2, .cells (bxC bx0) 26 (0, 0)), (g1, .cells (skC x).toArray 31 (0, 0))] rfl rfl (st_row (off := 0) (v := .agg #[.int .i64 (((1 + (n % 65536)) : Nat) : Int), strV [], .int .u8 20, .bool false, .int .i64 (((1 + (x.kilos * 125)) : Nat) : Int), .int .i64 (((x.load % 19) : Nat) : Int), .int .i64 0, .int .u8 (((x.cls % 10) : Nat) : Int), .bool (decide ((x.kind &&& 4) = 4))]) rfl (by kernel_rfl) (by kernel_rfl) (.head _) Bg4 (by kernel_rfl) (by first | (simp [Value.cells]; done) | exact Nat.le_of_ble_eq_true rfl) (by intro v hv; simp [Value.cells, strV] at hv; first | (subst hv; rfl) | (rcases hv with rfl | rfl | rfl | rfl | rfl | rfl | rfl | rfl | rfl <;> rfl)) (by kernel_rfl) (List.forall_mem_cons.2 ⟨.inl rfl, (List.forall_mem_cons.2 ⟨.inr ⟨(.tail _ (.head _)), (by first | assumption | exact Ne.symm (by assumption))⟩, (List.forall_mem_cons.2 ⟨.inr ⟨(.tail _ (.tail _ (.head _))), (by first | assumption | exact Ne.symm (by assumption))⟩, (List.forall_mem_nil _)⟩)⟩)⟩)) ?_
  refine wpL_done (fun W2 hW2 => ?_)
  refine (show Code.wp _ _ _ _ _ from ?_)
  refine wp_seq ?_
  refine wp_seq ?_
  refine wp_region_L (W0 := w) [(g4, .cells #[.int .i64 (((1 + (n % 65536)) : Nat) : Int), strV [], .int .u8 20, .bool false, .int .i64 (((1 + (x.kilos * 125)) : Nat) : Int), .int .i64 (((x.load % 19) : Nat) : Int), .int .i64 0, .int .u8 (((x.cls % 10) : Nat) : Int), .bool (decide ((x.kind &&& 4) = 4))] 26 (0, 0)), (g2, .cells (bxC bx0) 26 (0, 0)), (g1, .cells (skC x).toArray 31 (0, 0))] (hW2) ?_
  refine lm (v := .pointer (some ⟨g1, 0, none⟩)) rfl rfl ?_
  refine lv (v := .int .u8 ((x.kind : Nat) : Int)) rfl rfl (yb_cell (off := 0) rfl (by kernel_rfl) (.tail _ (.tail _ (.head _))) Tryd.underlying5 rfl (by kernel_rfl)) ?_
  refine lp (v := .int .u8 (((x.kind % 2) : Nat) : Int)) rfl rfl (run_bin rfl (vx := (.int .u8 ((x.kind : Nat) : Int))) (vy := (.int .u8 ((1 : Nat) : Int))) (by kernel_rfl) (by kernel_rfl) fun w => bn_and (z := (x.kind % 2)) (Nat.and_one_is_mod _) (by simp only [IntKind.bits]; omega) (by simp only [IntKind.bits]; omega) (wr_u8 (by first | omega | exact Nat.le_trans Nat.and_le_right (by omega))) w) ?_
  refine lp (v := .bool (decide ((x.kind % 2) = 1))) rfl rfl (run_bin rfl (vx := (.int .u8 (((x.kind % 2) : Nat) : Int))) (vy := (.int .u8 ((1 : Nat) : Int))) (by kernel_rfl) (by kernel_rfl) fun w => bn_eql rfl w) ?_
  refine wpL_done (fun W3 hW3 => ?_)
  refine (show Code.wp _ _ _ _ _ from ?_)
  cases hd1 : (decide ((x.kind % 2) = 1)) with
  | false =>
    have h1 : ¬ ((x.kind % 2) = 1) := of_decide_eq_false hd1
    clear hd1
    refine wp_cond_false rfl ?_
    refine wp_skip ?_
    refine (show Code.wp _ _ _ _ _ from ?_)
    refine wp_seq ?_
    refine wp_region_V (W0 := w) [(g4, .cells #[.int .i64 (((1 + (n % 65536)) : Nat) : Int), strV [], .int .u8 20, .bool false, .int .i64 (((1 + (x.kilos * 125)) : Nat) : Int), .int .i64 (((x.load % 19) : Nat) : Int), .int .i64 0, .int .u8 (((x.cls % 10) : Nat) : Int), .bool (decide ((x.kind &&& 4) = 4))] 26 (0, 0)), (g2, .cells (bxC bx0) 26 (0, 0)), (g1, .cells (skC x).toArray 31 (0, 0))] (by kernel_rfl) (hW3) ?_
    refine vm (i := 0) (v := .pointer (some ⟨g4, 5, none⟩)) rfl rfl rfl ?_
    refine vv (i := 1) (v := .int .i64 (((x.load % 19) : Nat) : Int)) rfl rfl rfl (yb_cell (off := 5) rfl (by kernel_rfl) (.head _) Tryd.underlying3 rfl (by kernel_rfl)) ?_
    refine vp (i := 2) (v := .int .i64 ((((x.load % 19) + 1) : Nat) : Int)) rfl rfl rfl (run_bin rfl (vx := (.int .i64 (((x.load % 19) : Nat) : Int))) (vy := (.int .i64 ((1 : Nat) : Int))) (by kernel_rfl) (by kernel_rfl) fun w => bn_add (z := ((x.load % 19) + 1)) rfl (wr_i64 (by omega)) w) ?_
    refine vm (i := 3) (v := .pointer (some ⟨g1, 3, none⟩)) rfl rfl rfl ?_
    refine vv (i := 4) (v := .int .u8 ((x.stay : Nat) : Int)) rfl rfl rfl (yb_cell (off := 3) rfl (by kernel_rfl) (.tail _ (.tail _ (.head _))) Tryd.underlying5 rfl (by kernel_rfl)) ?_
    refine vp (i := 5) (v := .int .i64 ((x.stay : Nat) : Int)) rfl rfl rfl (run_conv rfl (vx := (.int .u8 ((x.stay : Nat) : Int))) (by kernel_rfl) fun w => cv_int Tryd.underlying5 Tryd.underlying3 (wr_i64 (by omega)) w) ?_
    refine vm (i := 6) (v := .pointer (some ⟨g4, 5, none⟩)) rfl rfl rfl ?_
    refine vv (i := 7) (v := .int .i64 (((x.load % 19) : Nat) : Int)) rfl rfl rfl (yb_cell (off := 5) rfl (by kernel_rfl) (.head _) Tryd.underlying3 rfl (by kernel_rfl)) ?_
    refine vp (i := 8) (v := .int .i64 (((19 - (x.load % 19)) : Nat) : Int)) rfl rfl rfl (run_bin rfl (vx := (.int .i64 ((19 : Nat) : Int))) (vy := (.int .i64 (((x.load % 19) : Nat) : Int))) (by kernel_rfl) (by kernel_rfl) fun w => bn_sub (z := (19 - (x.load % 19))) rfl (by omega) (wr_i64 (by omega)) w) ?_
    refine vp (i := 9) (v := .int .i64 (((x.stay % (19 - (x.load % 19))) : Nat) : Int)) rfl rfl rfl (run_bin rfl (vx := (.int .i64 ((x.stay : Nat) : Int))) (vy := (.int .i64 (((19 - (x.load % 19)) : Nat) : Int))) (by kernel_rfl) (by kernel_rfl) fun w => bn_rem (z := (x.stay % (19 - (x.load % 19)))) rfl (by omega) w) ?_
    refine vp (i := 10) (v := .int .i64 (((((x.load % 19) + 1) + (x.stay % (19 - (x.load % 19)))) : Nat) : Int)) rfl rfl rfl (run_bin rfl (vx := (.int .i64 ((((x.load % 19) + 1) : Nat) : Int))) (vy := (.int .i64 (((x.stay % (19 - (x.load % 19))) : Nat) : Int))) (by kernel_rfl) (by kernel_rfl) fun w => bn_add (z := (((x.load % 19) + 1) + (x.stay % (19 - (x.load % 19))))) rfl (wr_i64 (by omega)) w) ?_
    refine vm (i := 11) (v := .pointer (some ⟨g4, 6, none⟩)) rfl rfl rfl ?_
    refine wpV_s [(g4, .cells #[.int .i64 (((1 + (n % 65536)) : Nat) : Int), strV [], .int .u8 20, .bool false, .int .i64 (((1 + (x.kilos * 125)) : Nat) : Int), .int .i64 (((x.load % 19) : Nat) : Int), .int .i64 (((((x.load % 19) + 1) + (x.stay % (19 - (x.load % 19)))) : Nat) : Int), .int .u8 (((x.cls % 10) : Nat) : Int), .bool (decide ((x.kind &&& 4) = 4))] 26 (0, 0)), (g2, .cells (bxC bx0) 26 (0, 0)), (g1, .cells (skC x).toArray 31 (0, 0))] (i := 12) rfl (by kernel_rfl) rfl rfl rfl (st_row (off := 6) (v := .int .i64 (((((x.load % 19) + 1) + (x.stay % (19 - (x.load % 19)))) : Nat) : Int)) rfl (by kernel_rfl) (by kernel_rfl) (.head _) Bg4 (by kernel_rfl) (by first | (simp [Value.cells]; done) | exact Nat.le_of_ble_eq_true rfl) (by intro v hv; simp [Value.cells, strV] at hv; first | (subst hv; rfl) | (rcases hv with rfl <;> rfl)) (by kernel_rfl) (List.forall_mem_cons.2 ⟨.inl rfl, (List.forall_mem_cons.2 ⟨.inr ⟨(.tail _ (.head _)), (by first | assumption | exact Ne.symm (by assumption))⟩, (List.forall_mem_cons.2 ⟨.inr ⟨(.tail _ (.tail _ (.head _))), (by first | assumption | exact Ne.symm (by assumption))⟩, (List.forall_mem_nil _)⟩)⟩)⟩)) ?_
    refine wpV_done (by kernel_rfl) (fun W4 hW4 => ?_) _
    refine (show Code.wp _ _ _ _ _ from ?_)
    refine wp_seq ?_
    refine wp_seq ?_
    refine wp_region_L (W0 := w) [(g4, .cells #[.int .i64 (((1 + (n % 65536)) : Nat) : Int), strV [], .int .u8 20, .bool false, .int .i64 (((1 + (x.kilos * 125)) : Nat) : Int), .int .i64 (((x.load % 19) : Nat) : Int), .int .i64 (((((x.load % 19) + 1) + (x.stay % (19 - (x.load % 19)))) : Nat) : Int), .int .u8 (((x.cls % 10) : Nat) : Int), .bool (decide ((x.kind &&& 4) = 4))] 26 (0, 0)), (g2, .cells (bxC bx0) 26 (0, 0)), (g1, .cells (skC x).toArray 31 (0, 0))] (hW4) ?_
    refine lm (v := .pointer (some ⟨g1, 5, none⟩)) rfl rfl ?_
    refine lv (v := .int .u8 ((x.num : Nat) : Int)) rfl rfl (yb_cell (off := 5) rfl (by kernel_rfl) (.tail _ (.tail _ (.head _))) Tryd.underlying5 rfl (by kernel_rfl)) ?_
    refine lp (v := .int .u8 (((x.num % 2) : Nat) : Int)) rfl rfl (run_bin rfl (vx := (.int .u8 ((x.num : Nat) : Int))) (vy := (.int .u8 ((1 : Nat) : Int))) (by kernel_rfl) (by kernel_rfl) fun w => bn_and (z := (x.num % 2)) (Nat.and_one_is_mod _) (by simp only [IntKind.bits]; omega) (by simp only [IntKind.bits]; omega) (wr_u8 (by first | omega | exact Nat.le_trans Nat.and_le_right (by omega))) w) ?_
    refine lp (v := .bool (decide ((x.num % 2) = 1))) rfl rfl (run_bin rfl (vx := (.int .u8 (((x.num % 2) : Nat) : Int))) (vy := (.int .u8 ((1 : Nat) : Int))) (by kernel_rfl) (by kernel_rfl) fun w => bn_eql rfl w) ?_
    refine wpL_done (fun W5 hW5 => ?_)
    refine (show Code.wp _ _ _ _ _ from ?_)
    cases hd2 : (decide ((x.num % 2) = 1)) with
    | false =>
      have h2 : ¬ ((x.num % 2) = 1) := of_decide_eq_false hd2
      clear hd2
      refine wp_cond_false rfl ?_
      refine wp_skip ?_
      refine (show Code.wp _ _ _ _ _ from ?_)
      refine wp_seq ?_
      refine wp_region_L (W0 := w) [(g4, .cells #[.int .i64 (((1 + (n % 65536)) : Nat) : Int), strV [], .int .u8 20, .bool false, .int .i64 (((1 + (x.kilos * 125)) : Nat) : Int), .int .i64 (((x.load % 19) : Nat) : Int), .int .i64 (((((x.load % 19) + 1) + (x.stay % (19 - (x.load % 19)))) : Nat) : Int), .int .u8 (((x.cls % 10) : Nat) : Int), .bool (decide ((x.kind &&& 4) = 4))] 26 (0, 0)), (g2, .cells (bxC bx0) 26 (0, 0)), (g1, .cells (skC x).toArray 31 (0, 0))] (hW5) ?_
      refine lv (v := .agg #[.int .i64 (((1 + (n % 65536)) : Nat) : Int), strV [], .int .u8 20, .bool false, .int .i64 (((1 + (x.kilos * 125)) : Nat) : Int), .int .i64 (((x.load % 19) : Nat) : Int), .int .i64 (((((x.load % 19) + 1) + (x.stay % (19 - (x.load % 19)))) : Nat) : Int), .int .u8 (((x.cls % 10) : Nat) : Int), .bool (decide ((x.kind &&& 4) = 4))]) rfl rfl (yb_load (n := 9) (off := 0) rfl (by kernel_rfl) (.head _) Tryd.underlying26 rfl (by kernel_rfl) (by first | (simp; done) | exact Nat.le_of_ble_eq_true rfl) (by kernel_rfl)) ?_
      refine wpL_s [(g4, .cells #[.int .i64 (((1 + (n % 65536)) : Nat) : Int), strV [], .int .u8 20, .bool false, .int .i64 (((1 + (x.kilos * 125)) : Nat) : Int), .int .i64 (((x.load % 19) : Nat) : Int), .int .i64 (((((x.load % 19) + 1) + (x.stay % (19 - (x.load % 19)))) : Nat) : Int), .int .u8 (((x.cls % 10) : Nat) : Int), .bool (decide ((x.kind &&& 4) = 4))] 26 (0, 0)), (g2, .cells #[.int .i64 (((1 + (n % 65536)) : Nat) : Int), strV [], .int .u8 20, .bool false, .int .i64 (((1 + (x.kilos * 125)) : Nat) : Int), .int .i64 (((x.load % 19) : Nat) : Int), .int .i64 (((((x.load % 19) + 1) + (x.stay % (19 - (x.load % 19)))) : Nat) : Int), .int .u8 (((x.cls % 10) : Nat) : Int), .bool (decide ((x.kind &&& 4) = 4))] 26 (0, 0)), (g1, .cells (skC x).toArray 31 (0, 0))] rfl rfl (st_row (off := 0) (v := .agg #[.int .i64 (((1 + (n % 65536)) : Nat) : Int), strV [], .int .u8 20, .bool false, .int .i64 (((1 + (x.kilos * 125)) : Nat) : Int), .int .i64 (((x.load % 19) : Nat) : Int), .int .i64 (((((x.load % 19) + 1) + (x.stay % (19 - (x.load % 19)))) : Nat) : Int), .int .u8 (((x.cls % 10) : Nat) : Int), .bool (decide ((x.kind &&& 4) = 4))]) rfl (by kernel_rfl) (by kernel_rfl) (.tail _ (.head _)) Bg2 (by kernel_rfl) (by first | (simp [Value.cells]; done) | exact Nat.le_of_ble_eq_true rfl) (by intro v hv; simp [Value.cells, strV] at hv; first | (subst hv; rfl) | (rcases hv with rfl | rfl | rfl | rfl | rfl | rfl | rfl | rfl | rfl <;> rfl)) (by kernel_rfl) (List.forall_mem_cons.2 ⟨.inr ⟨(.head _), (by first | assumption | exact Ne.symm (by assumption))⟩, (List.forall_mem_cons.2 ⟨.inl rfl, (List.forall_mem_cons.2 ⟨.inr ⟨(.tail _ (.tail _ (.head _))), (by first | assumption | exact Ne.symm (by assumption))⟩, (List.forall_mem_nil _)⟩)⟩)⟩)) ?_
      refine wpL_done (fun W6 hW6 => ?_)
      refine (show Code.wp _ _ _ _ _ from ?_)
      refine wp_ret ?_
      try simp only [inBlock_ret, then_ret]
      refine bodyPost_ret (v := .agg #[.int .i64 (((1 + (n % 65536)) : Nat) : Int), strV [], .int .u8 20, .bool false, .int .i64 (((1 + (x.kilos * 125)) : Nat) : Int), .int .i64 (((x.load % 19) : Nat) : Int), .int .i64 (((((x.load % 19) + 1) + (x.stay % (19 - (x.load % 19)))) : Nat) : Int), .int .u8 (((x.cls % 10) : Nat) : Int), .bool (decide ((x.kind &&& 4) = 4))]) ?_ rfl ?_
      · exact (res_cell (p := 4) rfl rfl (hW6.2 _ (.tail _ (.head _))) Tryd.underlying26 rfl (by kernel_rfl))
      · exact ⟨(boxt_is (by simp [bxV, bxC, madeX, numX, h1, h2])), hW6.1⟩
    | true =>
      have h2 : (x.num % 2) = 1 := of_decide_eq_true hd2
      clear hd2
      refine wp_cond_true rfl ?_
      refine wp_seq ?_
      refine wp_region_L (W0 := w) [(g4, .cells #[.int .i64 (((1 + (n % 65536)) : Nat) : Int), strV [], .int .u8 20, .bool false, .int .i64 (((1 + (x.kilos * 125)) : Nat) : Int), .int .i64 (((x.load % 19) : Nat) : Int), .int .i64 (((((x.load % 19) + 1) + (x.stay % (19 - (x.load % 19)))) : Nat) : Int), .int .u8 (((x.cls % 10) : Nat) : Int), .bool (decide ((x.kind &&& 4) = 4))] 26 (0, 0)), (g2, .cells (bxC bx0) 26 (0, 0)), (g1, .cells (skC x).toArray 31 (0, 0))] (hW5) ?_
      refine lm (v := .pointer (some ⟨g1, 5, none⟩)) rfl rfl ?_
      refine lv (v := .int .u8 ((x.num : Nat) : Int)) rfl rfl (yb_cell (off := 5) rfl (by kernel_rfl) (.tail _ (.tail _ (.head _))) Tryd.underlying5 rfl (by kernel_rfl)) ?_
      refine lp (v := .int .u8 (((x.num / 100) : Nat) : Int)) rfl rfl (run_bin rfl (vx := (.int .u8 ((x.num : Nat) : Int))) (vy := (.int .u8 ((100 : Nat) : Int))) (by kernel_rfl) (by kernel_rfl) fun w => bn_quo (z := (x.num / 100)) rfl (by omega) (wr_u8 (by omega)) w) ?_
      refine lp (v := .int .u8 (((48 + (x.num / 100)) : Nat) : Int)) rfl rfl (run_bin rfl (vx := (.int .u8 ((48 : Nat) : Int))) (vy := (.int .u8 (((x.num / 100) : Nat) : Int))) (by kernel_rfl) (by kernel_rfl) fun w => bn_add (z := (48 + (x.num / 100))) rfl (wr_u8 (by omega)) w) ?_
      refine lm (v := .pointer (some ⟨g1, 5, none⟩)) rfl rfl ?_
      refine lv (v := .int .u8 ((x.num : Nat) : Int)) rfl rfl (yb_cell (off := 5) rfl (by kernel_rfl) (.tail _ (.tail _ (.head _))) Tryd.underlying5 rfl (by kernel_rfl)) ?_
      refine lp (v := .int .u8 (((x.num / 10) : Nat) : Int)) rfl rfl (run_bin rfl (vx := (.int .u8 ((x.num : Nat) : Int))) (vy := (.int .u8 ((10 : Nat) : Int))) (by kernel_rfl) (by kernel_rfl) fun w => bn_quo (z := (x.num / 10)) rfl (by omega) (wr_u8 (by omega)) w) ?_
      refine lp (v := .int .u8 ((((x.num / 10) % 10) : Nat) : Int)) rfl rfl (run_bin rfl (vx := (.int .u8 (((x.num / 10) : Nat) : Int))) (vy := (.int .u8 ((10 : Nat) : Int))) (by kernel_rfl) (by kernel_rfl) fun w => bn_rem (z := ((x.num / 10) % 10)) rfl (by omega) w) ?_
      refine lp (v := .int .u8 (((48 + ((x.num / 10) % 10)) : Nat) : Int)) rfl rfl (run_bin rfl (vx := (.int .u8 ((48 : Nat) : Int))) (vy := (.int .u8 ((((x.num / 10) % 10) : Nat) : Int))) (by kernel_rfl) (by kernel_rfl) fun w => bn_add (z := (48 + ((x.num / 10) % 10))) rfl (wr_u8 (by omega)) w) ?_
      refine lm (v := .pointer (some ⟨g1, 5, none⟩)) rfl rfl ?_
      refine lv (v := .int .u8 ((x.num : Nat) : Int)) rfl rfl (yb_cell (off := 5) rfl (by kernel_rfl) (.tail _ (.tail _ (.head _))) Tryd.underlying5 rfl (by kernel_rfl)) ?_
      refine lp (v := .int .u8 (((x.num % 10) : Nat) : Int)) rfl rfl (run_bin rfl (vx := (.int .u8 ((x.num : Nat) : Int))) (vy := (.int .u8 ((10 : Nat) : Int))) (by kernel_rfl) (by kernel_rfl) fun w => bn_rem (z := (x.num % 10)) rfl (by omega) w) ?_
      refine lp (v := .int .u8 (((48 + (x.num % 10)) : Nat) : Int)) rfl rfl (run_bin rfl (vx := (.int .u8 ((48 : Nat) : Int))) (vy := (.int .u8 (((x.num % 10) : Nat) : Int))) (by kernel_rfl) (by kernel_rfl) fun w => bn_add (z := (48 + (x.num % 10))) rfl (wr_u8 (by omega)) w) ?_
      refine wpL_new (fun g => .slice (some ⟨g, 0, none⟩) 3 3) (obi := .cells #[.int .u8 (((48 + (x.num / 100)) : Nat) : Int), .int .u8 (((48 + ((x.num / 10) % 10)) : Nat) : Int), .int .u8 (((48 + (x.num % 10)) : Nat) : Int)] 5 (0, 0)) rfl rfl (fun _ => by kernel_rfl) (fun _ => by simp only [List.setIfInBounds_toArray, List.set_cons_succ, List.set_cons_zero] <;> rfl) fun g6 Bg6 Fg6 => ?_
      obtain ⟨dj7_0, dj7_1, dj7_2⟩ : g4 ≠ g6 ∧ g2 ≠ g6 ∧ g1 ≠ g6 := by simpa only [dj_app_l, dj_app_r, dj_cons_l, dj_cons_r, dj_nil_l, dj_nil_r, dk_app, dk_cons, dk_nil, and_true, true_and, and_assoc] using (show Dk g6 [(g4, .cells #[.int .i64 (((1 + (n % 65536)) : Nat) : Int), strV [], .int .u8 20, .bool false, .int .i64 (((1 + (x.kilos * 125)) : Nat) : Int), .int .i64 (((x.load % 19) : Nat) : Int), .int .i64 (((((x.load % 19) + 1) + (x.stay % (19 - (x.load % 19)))) : Nat) : Int), .int .u8 (((x.cls % 10) : Nat) : Int), .bool (decide ((x.kind &&& 4) = 4))] 26 (0, 0)), (g2, .cells (bxC bx0) 26 (0, 0)), (g1, .cells (skC x).toArray 31 (0, 0))] from Fg6)
      refine lv (v := strV [UInt8.ofNat (48 + (x.num / 100)), UInt8.ofNat (48 + ((x.num / 10) % 10)), UInt8.ofNat (48 + (x.num % 10))]) rfl rfl (yb_str (n := 3) (cap := 3) (l := [UInt8.ofNat (48 + (x.num / 100)), UInt8.ofNat (48 + ((x.num / 10) % 10)), UInt8.ofNat (48 + (x.num % 10))]) rfl Tryd.underlying51 Tryd.underlying5 Tryd.underlying9 (by kernel_rfl) rfl (.head _) (by first | rfl | (simp [RowB, u8s]; omega))) ?_
      refine lp (v := strV ([84, 87, 76, 85] ++ [UInt8.ofNat (48 + (x.num / 100)), UInt8.ofNat (48 + ((x.num / 10) % 10)), UInt8.ofNat (48 + (x.num % 10))])) rfl rfl (run_bin rfl (vx := strV [84, 87, 76, 85]) (vy := strV [UInt8.ofNat (48 + (x.num / 100)), UInt8.ofNat (48 + ((x.num / 10) % 10)), UInt8.ofNat (48 + (x.num % 10))]) (by kernel_rfl) (by kernel_rfl) fun w => bs_add (c := ([84, 87, 76, 85] ++ [UInt8.ofNat (48 + (x.num / 100)), UInt8.ofNat (48 + ((x.num / 10) % 10)), UInt8.ofNat (48 + (x.num % 10))])) rfl (by simp [payL]) w) ?_
      refine lp (v := strV (payL x.num)) rfl rfl (run_bin rfl (vx := strV ([84, 87, 76, 85] ++ [UInt8.ofNat (48 + (x.num / 100)), UInt8.ofNat (48 + ((x.num / 10) % 10)), UInt8.ofNat (48 + (x.num % 10))])) (vy := strV [49, 50, 51]) (by kernel_rfl) (by kernel_rfl) fun w => bs_add (c := (payL x.num)) rfl (by simp [payL]) w) ?_
      refine lm (v := strV (payL x.num)) rfl rfl ?_
      refine wpL_done (fun W7 hW7 => ?_)
      refine (show Code.wp _ _ _ _ _ from ?_)
      refine wp_seq ?_
      refine wp_region_L (W0 := w) [(g6, .cells #[.int .u8 (((48 + (x.num / 100)) : Nat) : Int), .int .u8 (((48 + ((x.num / 10) % 10)) : Nat) : Int), .int .u8 (((48 + (x.num % 10)) : Nat) : Int)] 5 (0, 0)), (g4, .cells #[.int .i64 (((1 + (n % 65536)) : Nat) : Int), strV [], .int .u8 20, .bool false, .int .i64 (((1 + (x.kilos * 125)) : Nat) : Int), .int .i64 (((x.load % 19) : Nat) : Int), .int .i64 (((((x.load % 19) + 1) + (x.stay % (19 - (x.load % 19)))) : Nat) : Int), .int .u8 (((x.cls % 10) : Nat) : Int), .bool (decide ((x.kind &&& 4) = 4))] 26 (0, 0)), (g2, .cells (bxC bx0) 26 (0, 0)), (g1, .cells (skC x).toArray 31 (0, 0))] (hW7) ?_
      refine lm (v := strV (payL x.num)) rfl rfl ?_
      refine lv (v := .tuple #[.int .u8 (((chkN (payL x.num)) : Nat) : Int), .int .i64 0]) rfl rfl (yb_call (f := 42) (args := #[strV (payL x.num)]) (fun _ => by kernel_rfl) fun W hW => Check_ok hpf W) ?_
      refine lm (v := .tuple #[.int .u8 (((chkN (payL x.num)) : Nat) : Int), .int .i64 0]) rfl rfl ?_
      refine lm (v := .int .u8 (((chkN (payL x.num)) : Nat) : Int)) rfl rfl ?_
      refine lm (v := .int .i64 0) rfl rfl ?_
      refine lm (v := .int .u8 (((chkN (payL x.num)) : Nat) : Int)) rfl rfl ?_
      refine lm (v := .int .i64 0) rfl rfl ?_
      refine wpL_done (fun W8 hW8 => ?_)
      refine (show Code.wp _ _ _ _ _ from ?_)
      refine wp_seq ?_
      refine wp_region_L (W0 := w) [(g6, .cells #[.int .u8 (((48 + (x.num / 100)) : Nat) : Int), .int .u8 (((48 + ((x.num / 10) % 10)) : Nat) : Int), .int .u8 (((48 + (x.num % 10)) : Nat) : Int)] 5 (0, 0)), (g4, .cells #[.int .i64 (((1 + (n % 65536)) : Nat) : Int), strV [], .int .u8 20, .bool false, .int .i64 (((1 + (x.kilos * 125)) : Nat) : Int), .int .i64 (((x.load % 19) : Nat) : Int), .int .i64 (((((x.load % 19) + 1) + (x.stay % (19 - (x.load % 19)))) : Nat) : Int), .int .u8 (((x.cls % 10) : Nat) : Int), .bool (decide ((x.kind &&& 4) = 4))] 26 (0, 0)), (g2, .cells (bxC bx0) 26 (0, 0)), (g1, .cells (skC x).toArray 31 (0, 0))] (hW8) ?_
      refine lm (v := .int .i64 0) rfl rfl ?_
      refine lm (v := .bool true) rfl rfl ?_
      refine wpL_done (fun W9 hW9 => ?_)
      refine (show Code.wp _ _ _ _ _ from ?_)
      refine wp_cond_true rfl ?_
      refine wp_region_L (W0 := w) [(g6, .cells #[.int .u8 (((48 + (x.num / 100)) : Nat) : Int), .int .u8 (((48 + ((x.num / 10) % 10)) : Nat) : Int), .int .u8 (((48 + (x.num % 10)) : Nat) : Int)] 5 (0, 0)), (g4, .cells #[.int .i64 (((1 + (n % 65536)) : Nat) : Int), strV [], .int .u8 20, .bool false, .int .i64 (((1 + (x.kilos * 125)) : Nat) : Int), .int .i64 (((x.load % 19) : Nat) : Int), .int .i64 (((((x.load % 19) + 1) + (x.stay % (19 - (x.load % 19)))) : Nat) : Int), .int .u8 (((x.cls % 10) : Nat) : Int), .bool (decide ((x.kind &&& 4) = 4))] 26 (0, 0)), (g2, .cells (bxC bx0) 26 (0, 0)), (g1, .cells (skC x).toArray 31 (0, 0))] (hW9) ?_
      refine lm (v := strV (payL x.num)) rfl rfl ?_
      refine lm (v := .int .u8 (((chkN (payL x.num)) : Nat) : Int)) rfl rfl ?_
      refine wpL_new (fun g => .slice (some ⟨g, 0, none⟩) 1 1) (obi := .cells #[.int .u8 (((chkN (payL x.num)) : Nat) : Int)] 5 (0, 0)) rfl rfl (fun _ => by kernel_rfl) (fun _ => by simp only [List.setIfInBounds_toArray, List.set_cons_succ, List.set_cons_zero] <;> rfl) fun g8 Bg8 Fg8 => ?_
      obtain ⟨dj9_0, dj9_1, dj9_2, dj9_3⟩ : g6 ≠ g8 ∧ g4 ≠ g8 ∧ g2 ≠ g8 ∧ g1 ≠ g8 := by simpa only [dj_app_l, dj_app_r, dj_cons_l, dj_cons_r, dj_nil_l, dj_nil_r, dk_app, dk_cons, dk_nil, and_true, true_and, and_assoc] using (show Dk g8 [(g6, .cells #[.int .u8 (((48 + (x.num / 100)) : Nat) : Int), .int .u8 (((48 + ((x.num / 10) % 10)) : Nat) : Int), .int .u8 (((48 + (x.num % 10)) : Nat) : Int)] 5 (0, 0)), (g4, .cells #[.int .i64 (((1 + (n % 65536)) : Nat) : Int), strV [], .int .u8 20, .bool false, .int .i64 (((1 + (x.kilos * 125)) : Nat) : Int), .int .i64 (((x.load % 19) : Nat) : Int), .int .i64 (((((x.load % 19) + 1) + (x.stay % (19 - (x.load % 19)))) : Nat) : Int), .int .u8 (((x.cls % 10) : Nat) : Int), .bool (decide ((x.kind &&& 4) = 4))] 26 (0, 0)), (g2, .cells (bxC bx0) 26 (0, 0)), (g1, .cells (skC x).toArray 31 (0, 0))] from Fg8)
      refine lv (v := strV [UInt8.ofNat (chkN (payL x.num))]) rfl rfl (yb_str (n := 1) (cap := 1) (l := [UInt8.ofNat (chkN (payL x.num))]) rfl Tryd.underlying51 Tryd.underlying5 Tryd.underlying9 (by kernel_rfl) rfl (.head _) (by first | rfl | (simp [RowB, u8s]; omega))) ?_
      refine lp (v := strV ((payL x.num) ++ [UInt8.ofNat (chkN (payL x.num))])) rfl rfl (run_bin rfl (vx := strV (payL x.num)) (vy := strV [UInt8.ofNat (chkN (payL x.num))]) (by kernel_rfl) (by kernel_rfl) fun w => bs_add (c := ((payL x.num) ++ [UInt8.ofNat (chkN (payL x.num))])) rfl (by simp [payL]) w) ?_
      refine lm (v := .pointer (some ⟨g4, 1, none⟩)) rfl rfl ?_
      refine wpL_s [(g8, .cells #[.int .u8 (((chkN (payL x.num)) : Nat) : Int)] 5 (0, 0)), (g6, .cells #[.int .u8 (((48 + (x.num / 100)) : Nat) : Int), .int .u8 (((48 + ((x.num / 10) % 10)) : Nat) : Int), .int .u8 (((48 + (x.num % 10)) : Nat) : Int)] 5 (0, 0)), (g4, .cells #[.int .i64 (((1 + (n % 65536)) : Nat) : Int), strV ((payL x.num) ++ [UInt8.ofNat (chkN (payL x.num))]), .int .u8 20, .bool false, .int .i64 (((1 + (x.kilos * 125)) : Nat) : Int), .int .i64 (((x.load % 19) : Nat) : Int), .int .i64 (((((x.load % 19) + 1) + (x.stay % (19 - (x.load % 19)))) : Nat) : Int), .int .u8 (((x.cls % 10) : Nat) : Int), .bool (decide ((x.kind &&& 4) = 4))] 26 (0, 0)), (g2, .cells (bxC bx0) 26 (0, 0)), (g1, .cells (skC x).toArray 31 (0, 0))] rfl rfl (st_row (off := 1) (v := strV ((payL x.num) ++ [UInt8.ofNat (chkN (payL x.num))])) rfl (by kernel_rfl) (by kernel_rfl) (.tail _ (.tail _ (.head _))) Bg4 (by kernel_rfl) (by first | (simp [Value.cells]; done) | exact Nat.le_of_ble_eq_true rfl) (by intro v hv; simp [Value.cells, strV] at hv; first | (subst hv; rfl) | (rcases hv with rfl <;> rfl)) (by kernel_rfl) (List.forall_mem_cons.2 ⟨.inr ⟨(.head _), (by first | assumption | exact Ne.symm (by assumption))⟩, (List.forall_mem_cons.2 ⟨.inr ⟨(.tail _ (.head _)), (by first | assumption | exact Ne.symm (by assumption))⟩, (List.forall_mem_cons.2 ⟨.inl rfl, (List.forall_mem_cons.2 ⟨.inr ⟨(.tail _ (.tail _ (.tail _ (.head _)))), (by first | assumption | exact Ne.symm (by assumption))⟩, (List.forall_mem_cons.2 ⟨.inr ⟨(.tail _ (.tail _ (.tail _ (.tail _ (.head _))))), (by first | assumption | exact Ne.symm (by assumption))⟩, (List.forall_mem_nil _)⟩)⟩)⟩)⟩)⟩)) ?_
      refine wpL_done (fun W10 hW10 => ?_)
      refine (show Code.wp _ _ _ _ _ from ?_)
      refine wp_seq ?_
      refine wp_region_L (W0 := w) [(g8, .cells #[.int .u8 (((chkN (payL x.num)) : Nat) : Int)] 5 (0, 0)), (g6, .cells #[.int .u8 (((48 + (x.num / 100)) : Nat) : Int), .int .u8 (((48 + ((x.num / 10) % 10)) : Nat) : Int), .int .u8 (((48 + (x.num % 10)) : Nat) : Int)] 5 (0, 0)), (g4, .cells #[.int .i64 (((1 + (n % 65536)) : Nat) : Int), strV ((payL x.num) ++ [UInt8.ofNat (chkN (payL x.num))]), .int .u8 20, .bool false, .int .i64 (((1 + (x.kilos * 125)) : Nat) : Int), .int .i64 (((x.load % 19) : Nat) : Int), .int .i64 (((((x.load % 19) + 1) + (x.stay % (19 - (x.load % 19)))) : Nat) : Int), .int .u8 (((x.cls % 10) : Nat) : Int), .bool (decide ((x.kind &&& 4) = 4))] 26 (0, 0)), (g2, .cells (bxC bx0) 26 (0, 0)), (g1, .cells (skC x).toArray 31 (0, 0))] (hW10) ?_
      refine lv (v := .agg #[.int .i64 (((1 + (n % 65536)) : Nat) : Int), strV ((payL x.num) ++ [UInt8.ofNat (chkN (payL x.num))]), .int .u8 20, .bool false, .int .i64 (((1 + (x.kilos * 125)) : Nat) : Int), .int .i64 (((x.load % 19) : Nat) : Int), .int .i64 (((((x.load % 19) + 1) + (x.stay % (19 - (x.load % 19)))) : Nat) : Int), .int .u8 (((x.cls % 10) : Nat) : Int), .bool (decide ((x.kind &&& 4) = 4))]) rfl rfl (yb_load (n := 9) (off := 0) rfl (by kernel_rfl) (.tail _ (.tail _ (.head _))) Tryd.underlying26 rfl (by kernel_rfl) (by first | (simp; done) | exact Nat.le_of_ble_eq_true rfl) (by kernel_rfl)) ?_
      refine wpL_s [(g8, .cells #[.int .u8 (((chkN (payL x.num)) : Nat) : Int)] 5 (0, 0)), (g6, .cells #[.int .u8 (((48 + (x.num / 100)) : Nat) : Int), .int .u8 (((48 + ((x.num / 10) % 10)) : Nat) : Int), .int .u8 (((48 + (x.num % 10)) : Nat) : Int)] 5 (0, 0)), (g4, .cells #[.int .i64 (((1 + (n % 65536)) : Nat) : Int), strV ((payL x.num) ++ [UInt8.ofNat (chkN (payL x.num))]), .int .u8 20, .bool false, .int .i64 (((1 + (x.kilos * 125)) : Nat) : Int), .int .i64 (((x.load % 19) : Nat) : Int), .int .i64 (((((x.load % 19) + 1) + (x.stay % (19 - (x.load % 19)))) : Nat) : Int), .int .u8 (((x.cls % 10) : Nat) : Int), .bool (decide ((x.kind &&& 4) = 4))] 26 (0, 0)), (g2, .cells #[.int .i64 (((1 + (n % 65536)) : Nat) : Int), strV ((payL x.num) ++ [UInt8.ofNat (chkN (payL x.num))]), .int .u8 20, .bool false, .int .i64 (((1 + (x.kilos * 125)) : Nat) : Int), .int .i64 (((x.load % 19) : Nat) : Int), .int .i64 (((((x.load % 19) + 1) + (x.stay % (19 - (x.load % 19)))) : Nat) : Int), .int .u8 (((x.cls % 10) : Nat) : Int), .bool (decide ((x.kind &&& 4) = 4))] 26 (0, 0)), (g1, .cells (skC x).toArray 31 (0, 0))] rfl rfl (st_row (off := 0) (v := .agg #[.int .i64 (((1 + (n % 65536)) : Nat) : Int), strV ((payL x.num) ++ [UInt8.ofNat (chkN (payL x.num))]), .int .u8 20, .bool false, .int .i64 (((1 + (x.kilos * 125)) : Nat) : Int), .int .i64 (((x.load % 19) : Nat) : Int), .int .i64 (((((x.load % 19) + 1) + (x.stay % (19 - (x.load % 19)))) : Nat) : Int), .int .u8 (((x.cls % 10) : Nat) : Int), .bool (decide ((x.kind &&& 4) = 4))]) rfl (by kernel_rfl) (by kernel_rfl) (.tail _ (.tail _ (.tail _ (.head _)))) Bg2 (by kernel_rfl) (by first | (simp [Value.cells]; done) | exact Nat.le_of_ble_eq_true rfl) (by intro v hv; simp [Value.cells, strV] at hv; first | (subst hv; rfl) | (rcases hv with rfl | rfl | rfl | rfl | rfl | rfl | rfl | rfl | rfl <;> rfl)) (by kernel_rfl) (List.forall_mem_cons.2 ⟨.inr ⟨(.head _), (by first | assumption | exact Ne.symm (by assumption))⟩, (List.forall_mem_cons.2 ⟨.inr ⟨(.tail _ (.head _)), (by first | assumption | exact Ne.symm (by assumption))⟩, (List.forall_mem_cons.2 ⟨.inr ⟨(.tail _ (.tail _ (.head _))), (by first | assumption | exact Ne.symm (by assumption))⟩, (List.forall_mem_cons.2 ⟨.inl rfl, (List.forall_mem_cons.2 ⟨.inr ⟨(.tail _ (.tail _ (.tail _ (.tail _ (.head _))))), (by first | assumption | exact Ne.symm (by assumption))⟩, (List.forall_mem_nil _)⟩)⟩)⟩)⟩)⟩)) ?_
      refine wpL_done (fun W11 hW11 => ?_)
      refine (show Code.wp _ _ _ _ _ from ?_)
      refine wp_ret ?_
      try simp only [inBlock_ret, then_ret]
      refine bodyPost_ret (v := .agg #[.int .i64 (((1 + (n % 65536)) : Nat) : Int), strV ((payL x.num) ++ [UInt8.ofNat (chkN (payL x.num))]), .int .u8 20, .bool false, .int .i64 (((1 + (x.kilos * 125)) : Nat) : Int), .int .i64 (((x.load % 19) : Nat) : Int), .int .i64 (((((x.load % 19) + 1) + (x.stay % (19 - (x.load % 19)))) : Nat) : Int), .int .u8 (((x.cls % 10) : Nat) : Int), .bool (decide ((x.kind &&& 4) = 4))]) ?_ rfl ?_
      · exact (res_cell (p := 4) rfl rfl (hW11.2 _ (.tail _ (.tail _ (.tail _ (.head _))))) Tryd.underlying26 rfl (by kernel_rfl))
      · exact ⟨(boxt_is (by simp [bxV, bxC, madeX, numX, h1, h2])), hW11.1⟩
  | true =>
    have h1 : (x.kind % 2) = 1 := of_decide_eq_true hd1
    clear hd1
    refine wp_cond_true rfl ?_
    refine wp_region_V (W0 := w) [(g4, .cells #[.int .i64 (((1 + (n % 65536)) : Nat) : Int), strV [], .int .u8 20, .bool false, .int .i64 (((1 + (x.kilos * 125)) : Nat) : Int), .int .i64 (((x.load % 19) : Nat) : Int), .int .i64 0, .int .u8 (((x.cls % 10) : Nat) : Int), .bool (decide ((x.kind &&& 4) = 4))] 26 (0, 0)), (g2, .cells (bxC bx0) 26 (0, 0)), (g1, .cells (skC x).toArray 31 (0, 0))] (by kernel_rfl) (hW3) ?_
    refine wpV_joins (JoinR (fun zq => List.toArray ((.int .i64 ((n : Nat) : Int)) :: ((.agg (skC x).toArray)) :: undef :: (.pointer (some ⟨g1, 0, none⟩)) :: (.pointer (some ⟨g2, 0, none⟩)) :: (.pointer (some ⟨g4, 0, none⟩)) :: undef :: undef :: undef :: (.int .i64 ((n : Nat) : Int)) :: (.int .i64 (((n % 65536) : Nat) : Int)) :: (.int .i64 (((1 + (n % 65536)) : Nat) : Int)) :: (.pointer (some ⟨g1, 1, none⟩)) :: (.int .u8 ((x.kilos : Nat) : Int)) :: (.int .i64 ((x.kilos : Nat) : Int)) :: (.int .i64 (((x.kilos * 125) : Nat) : Int)) :: (.int .i64 (((1 + (x.kilos * 125)) : Nat) : Int)) :: (.pointer (some ⟨g1, 2, none⟩)) :: (.int .u8 ((x.load : Nat) : Int)) :: (.int .i64 ((x.load : Nat) : Int)) :: (.int .i64 (((x.load % 19) : Nat) : Int)) :: (.pointer (some ⟨g1, 4, none⟩)) :: (.int .u8 ((x.cls : Nat) : Int)) :: (.int .u8 (((x.cls % 10) : Nat) : Int)) :: (.pointer (some ⟨g1, 0, none⟩)) :: (.int .u8 ((x.kind : Nat) : Int)) :: (.int .u8 (((x.kind &&& 4) : Nat) : Int)) :: (.bool (decide ((x.kind &&& 4) = 4))) :: (.agg #[.int .i64 (((1 + (n % 65536)) : Nat) : Int), strV [], .int .u8 20, .bool false, .int .i64 (((1 + (x.kilos * 125)) : Nat) : Int), .int .i64 (((x.load % 19) : Nat) : Int), .int .i64 0, .int .u8 (((x.cls % 10) : Nat) : Int), .bool (decide ((x.kind &&& 4) = 4))]) :: (.pointer (some ⟨g1, 0, none⟩)) :: (.int .u8 ((x.kind : Nat) : Int)) :: (.int .u8 (((x.kind % 2) : Nat) : Int)) :: (.bool true) :: (.pointer (some ⟨g1, 0, none⟩)) :: (.int .u8 ((x.kind : Nat) : Int)) :: (.int .u8 (((x.kind &&& 2) : Nat) : Int)) :: (.bool (decide ((x.kind &&& 2) = 2))) :: (.pointer (some ⟨g4, 2, none⟩)) :: (.pointer (some ⟨g4, 3, none⟩)) :: undef :: undef :: undef :: undef :: undef :: undef :: undef :: undef :: undef :: undef :: undef :: undef :: undef :: undef :: undef :: undef :: undef :: undef :: undef :: undef :: undef :: undef :: undef :: undef :: undef :: undef :: undef :: undef :: undef :: undef :: undef :: undef :: undef :: undef :: undef :: undef :: undef :: undef :: undef :: undef :: undef :: undef :: undef :: undef :: undef :: undef :: undef :: [])) w [(g4, .cells #[.int .i64 (((1 + (n % 65536)) : Nat) : Int), strV [], .int .u8 40, .bool (decide ((x.kind &&& 2) = 2)), .int .i64 (((1 + (x.kilos * 125)) : Nat) : Int), .int .i64 (((x.load % 19) : Nat) : Int), .int .i64 0, .int .u8 (((x.cls % 10) : Nat) : Int), .bool (decide ((x.kind &&& 4) = 4))] 26 (0, 0)), (g2, .cells (bxC bx0) 26 (0, 0)), (g1, .cells (skC x).toArray 31 (0, 0))]) ?_ ?_
    · refine vm (i := 0) (v := .pointer (some ⟨g1, 0, none⟩)) rfl rfl rfl ?_
      refine vm (i := 4) (v := .pointer (some ⟨g4, 2, none⟩)) rfl rfl rfl ?_
      refine wpV_2 (i := 1) (j := 5) (by kernel_rfl) ?_ ?_
      · refine stepV_vg (i := 1) (v := .int .u8 ((x.kind : Nat) : Int)) rfl rfl (by kernel_rfl) rfl (yb_cell (off := 0) rfl (by kernel_rfl) (.tail _ (.tail _ (.head _))) Tryd.underlying5 rfl (by kernel_rfl)) (by simp only [List.setIfInBounds_toArray, List.set_cons_succ, List.set_cons_zero] <;> rfl) ?_
        refine vp (i := 2) (v := .int .u8 (((x.kind &&& 2) : Nat) : Int)) rfl rfl rfl (run_bin rfl (vx := (.int .u8 ((x.kind : Nat) : Int))) (vy := (.int .u8 ((2 : Nat) : Int))) (by kernel_rfl) (by kernel_rfl) fun w => bn_and (z := (x.kind &&& 2)) rfl (by simp only [IntKind.bits]; omega) (by simp only [IntKind.bits]; omega) (wr_u8 (by first | omega | exact Nat.le_trans Nat.and_le_right (by omega))) w) ?_
        refine vp (i := 3) (v := .bool (decide ((x.kind &&& 2) = 2))) rfl rfl rfl (run_bin rfl (vx := (.int .u8 (((x.kind &&& 2) : Nat) : Int))) (vy := (.int .u8 ((2 : Nat) : Int))) (by kernel_rfl) (by kernel_rfl) fun w => bn_eql rfl w) ?_
        refine wpVs_1 (i := 5) (by kernel_rfl) ?_
        refine stepV_sg [(g4, .cells #[.int .i64 (((1 + (n % 65536)) : Nat) : Int), strV [], .int .u8 40, .bool false, .int .i64 (((1 + (x.kilos * 125)) : Nat) : Int), .int .i64 (((x.load % 19) : Nat) : Int), .int .i64 0, .int .u8 (((x.cls % 10) : Nat) : Int), .bool (decide ((x.kind &&& 4) = 4))] 26 (0, 0)), (g2, .cells (bxC bx0) 26 (0, 0)), (g1, .cells (skC x).toArray 31 (0, 0))] (i := 5) rfl rfl rfl rfl (st_row (off := 2) (v := .int .u8 40) rfl (by kernel_rfl) (by kernel_rfl) (.head _) Bg4 (by kernel_rfl) (by first | (simp [Value.cells]; done) | exact Nat.le_of_ble_eq_true rfl) (by intro v hv; simp [Value.cells, strV] at hv; first | (subst hv; rfl) | (rcases hv with rfl <;> rfl)) (by kernel_rfl) (List.forall_mem_cons.2 ⟨.inl rfl, (List.forall_mem_cons.2 ⟨.inr ⟨(.tail _ (.head _)), (by first | assumption | exact Ne.symm (by assumption))⟩, (List.forall_mem_cons.2 ⟨.inr ⟨(.tail _ (.tail _ (.head _))), (by first | assumption | exact Ne.symm (by assumption))⟩, (List.forall_mem_nil _)⟩)⟩)⟩)) ?_
        refine vm (i := 6) (v := .pointer (some ⟨g4, 3, none⟩)) rfl rfl rfl ?_
        refine wpVs_1 (i := 7) (by kernel_rfl) ?_
        refine stepV_sg [(g4, .cells #[.int .i64 (((1 + (n % 65536)) : Nat) : Int), strV [], .int .u8 40, .bool (decide ((x.kind &&& 2) = 2)), .int .i64 (((1 + (x.kilos * 125)) : Nat) : Int), .int .i64 (((x.load % 19) : Nat) : Int), .int .i64 0, .int .u8 (((x.cls % 10) : Nat) : Int), .bool (decide ((x.kind &&& 4) = 4))] 26 (0, 0)), (g2, .cells (bxC bx0) 26 (0, 0)), (g1, .cells (skC x).toArray 31 (0, 0))] (i := 7) rfl rfl rfl rfl (st_row (off := 3) (v := .bool (decide ((x.kind &&& 2) = 2))) rfl (by kernel_rfl) (by kernel_rfl) (.head _) Bg4 (by kernel_rfl) (by first | (simp [Value.cells]; done) | exact Nat.le_of_ble_eq_true rfl) (by intro v hv; simp [Value.cells, strV] at hv; first | (subst hv; rfl) | (rcases hv with rfl <;> rfl)) (by kernel_rfl) (List.forall_mem_cons.2 ⟨.inl rfl, (List.forall_mem_cons.2 ⟨.inr ⟨(.tail _ (.head _)), (by first | assumption | exact Ne.symm (by assumption))⟩, (List.forall_mem_cons.2 ⟨.inr ⟨(.tail _ (.tail _ (.head _))), (by first | assumption | exact Ne.symm (by assumption))⟩, (List.forall_mem_nil _)⟩)⟩)⟩)) ?_
        refine wpV_done (by kernel_rfl) (fun W12 hW12 => ?_) _
        exact join_mk (by kernel_rfl) hW12
      · refine stepV_sg [(g4, .cells #[.int .i64 (((1 + (n % 65536)) : Nat) : Int), strV [], .int .u8 40, .bool false, .int .i64 (((1 + (x.kilos * 125)) : Nat) : Int), .int .i64 (((x.load % 19) : Nat) : Int), .int .i64 0, .int .u8 (((x.cls % 10) : Nat) : Int), .bool (decide ((x.kind &&& 4) = 4))] 26 (0, 0)), (g2, .cells (bxC bx0) 26 (0, 0)), (g1, .cells (skC x).toArray 31 (0, 0))] (i := 5) rfl rfl rfl rfl (st_row (off := 2) (v := .int .u8 40) rfl (by kernel_rfl) (by kernel_rfl) (.head _) Bg4 (by kernel_rfl) (by first | (simp [Value.cells]; done) | exact Nat.le_of_ble_eq_true rfl) (by intro v hv; simp [Value.cells, strV] at hv; first | (subst hv; rfl) | (rcases hv with rfl <;> rfl)) (by kernel_rfl) (List.forall_mem_cons.2 ⟨.inl rfl, (List.forall_mem_cons.2 ⟨.inr ⟨(.tail _ (.head _)), (by first | assumption | exact Ne.symm (by assumption))⟩, (List.forall_mem_cons.2 ⟨.inr ⟨(.tail _ (.tail _ (.head _))), (by first | assumption | exact Ne.symm (by assumption))⟩, (List.forall_mem_nil _)⟩)⟩)⟩)) ?_
        refine wpVs_1 (i := 1) (by kernel_rfl) ?_
        refine stepV_vg (i := 1) (v := .int .u8 ((x.kind : Nat) : Int)) rfl rfl (by kernel_rfl) rfl (yb_cell (off := 0) rfl (by kernel_rfl) (.tail _ (.tail _ (.head _))) Tryd.underlying5 rfl (by kernel_rfl)) (by simp only [List.setIfInBounds_toArray, List.set_cons_succ, List.set_cons_zero] <;> rfl) ?_
        refine vp (i := 2) (v := .int .u8 (((x.kind &&& 2) : Nat) : Int)) rfl rfl rfl (run_bin rfl (vx := (.int .u8 ((x.kind : Nat) : Int))) (vy := (.int .u8 ((2 : Nat) : Int))) (by kernel_rfl) (by kernel_rfl) fun w => bn_and (z := (x.kind &&& 2)) rfl (by simp only [IntKind.bits]; omega) (by simp only [IntKind.bits]; omega) (wr_u8 (by first | omega | exact Nat.le_trans Nat.and_le_right (by omega))) w) ?_
        refine vp (i := 3) (v := .bool (decide ((x.kind &&& 2) = 2))) rfl rfl rfl (run_bin rfl (vx := (.int .u8 (((x.kind &&& 2) : Nat) : Int))) (vy := (.int .u8 ((2 : Nat) : Int))) (by kernel_rfl) (by kernel_rfl) fun w => bn_eql rfl w) ?_
        refine vm (i := 6) (v := .pointer (some ⟨g4, 3, none⟩)) rfl rfl rfl ?_
        refine wpVs_1 (i := 7) (by kernel_rfl) ?_
        refine stepV_sg [(g4, .cells #[.int .i64 (((1 + (n % 65536)) : Nat) : Int), strV [], .int .u8 40, .bool (decide ((x.kind &&& 2) = 2)), .int .i64 (((1 + (x.kilos * 125)) : Nat) : Int), .int .i64 (((x.load % 19) : Nat) : Int), .int .i64 0, .int .u8 (((x.cls % 10) : Nat) : Int), .bool (decide ((x.kind &&& 4) = 4))] 26 (0, 0)), (g2, .cells (bxC bx0) 26 (0, 0)), (g1, .cells (skC x).toArray 31 (0, 0))] (i := 7) rfl rfl rfl rfl (st_row (off := 3) (v := .bool (decide ((x.kind &&& 2) = 2))) rfl (by kernel_rfl) (by kernel_rfl) (.head _) Bg4 (by kernel_rfl) (by first | (simp [Value.cells]; done) | exact Nat.le_of_ble_eq_true rfl) (by intro v hv; simp [Value.cells, strV] at hv; first | (subst hv; rfl) | (rcases hv with rfl <;> rfl)) (by kernel_rfl) (List.forall_mem_cons.2 ⟨.inl rfl, (List.forall_mem_cons.2 ⟨.inr ⟨(.tail _ (.head _)), (by first | assumption | exact Ne.symm (by assumption))⟩, (List.forall_mem_cons.2 ⟨.inr ⟨(.tail _ (.tail _ (.head _))), (by first | assumption | exact Ne.symm (by assumption))⟩, (List.forall_mem_nil _)⟩)⟩)⟩)) ?_
        refine wpV_done (by kernel_rfl) (fun W13 hW13 => ?_) _
        exact join_mk (by kernel_rfl) hW13
    · rintro a1 W1v ⟨⟨zv1, rfl⟩, hW1v⟩
      refine (show Code.wp _ _ _ _ _ from ?_)
      refine wp_seq ?_
      refine wp_region_V (W0 := w) [(g4, .cells #[.int .i64 (((1 + (n % 65536)) : Nat) : Int), strV [], .int .u8 40, .bool (decide ((x.kind &&& 2) = 2)), .int .i64 (((1 + (x.kilos * 125)) : Nat) : Int), .int .i64 (((x.load % 19) : Nat) : Int), .int .i64 0, .int .u8 (((x.cls % 10) : Nat) : Int), .bool (decide ((x.kind &&& 4) = 4))] 26 (0, 0)), (g2, .cells (bxC bx0) 26 (0, 0)), (g1, .cells (skC x).toArray 31 (0, 0))] (by kernel_rfl) (hW1v) ?_
      refine vm (i := 0) (v := .pointer (some ⟨g4, 5, none⟩)) rfl rfl rfl ?_
      refine vv (i := 1) (v := .int .i64 (((x.load % 19) : Nat) : Int)) rfl rfl rfl (yb_cell (off := 5) rfl (by kernel_rfl) (.head _) Tryd.underlying3 rfl (by kernel_rfl)) ?_
      refine vp (i := 2) (v := .int .i64 ((((x.load % 19) + 1) : Nat) : Int)) rfl rfl rfl (run_bin rfl (vx := (.int .i64 (((x.load % 19) : Nat) : Int))) (vy := (.int .i64 ((1 : Nat) : Int))) (by kernel_rfl) (by kernel_rfl) fun w => bn_add (z := ((x.load % 19) + 1)) rfl (wr_i64 (by omega)) w) ?_
      refine vm (i := 3) (v := .pointer (some ⟨g1, 3, none⟩)) rfl rfl rfl ?_
      refine vv (i := 4) (v := .int .u8 ((x.stay : Nat) : Int)) rfl rfl rfl (yb_cell (off := 3) rfl (by kernel_rfl) (.tail _ (.tail _ (.head _))) Tryd.underlying5 rfl (by kernel_rfl)) ?_
      refine vp (i := 5) (v := .int .i64 ((x.stay : Nat) : Int)) rfl rfl rfl (run_conv rfl (vx := (.int .u8 ((x.stay : Nat) : Int))) (by kernel_rfl) fun w => cv_int Tryd.underlying5 Tryd.underlying3 (wr_i64 (by omega)) w) ?_
      refine vm (i := 6) (v := .pointer (some ⟨g4, 5, none⟩)) rfl rfl rfl ?_
      refine vv (i := 7) (v := .int .i64 (((x.load % 19) : Nat) : Int)) rfl rfl rfl (yb_cell (off := 5) rfl (by kernel_rfl) (.head _) Tryd.underlying3 rfl (by kernel_rfl)) ?_
      refine vp (i := 8) (v := .int .i64 (((19 - (x.load % 19)) : Nat) : Int)) rfl rfl rfl (run_bin rfl (vx := (.int .i64 ((19 : Nat) : Int))) (vy := (.int .i64 (((x.load % 19) : Nat) : Int))) (by kernel_rfl) (by kernel_rfl) fun w => bn_sub (z := (19 - (x.load % 19))) rfl (by omega) (wr_i64 (by omega)) w) ?_
      refine vp (i := 9) (v := .int .i64 (((x.stay % (19 - (x.load % 19))) : Nat) : Int)) rfl rfl rfl (run_bin rfl (vx := (.int .i64 ((x.stay : Nat) : Int))) (vy := (.int .i64 (((19 - (x.load % 19)) : Nat) : Int))) (by kernel_rfl) (by kernel_rfl) fun w => bn_rem (z := (x.stay % (19 - (x.load % 19)))) rfl (by omega) w) ?_
      refine vp (i := 10) (v := .int .i64 (((((x.load % 19) + 1) + (x.stay % (19 - (x.load % 19)))) : Nat) : Int)) rfl rfl rfl (run_bin rfl (vx := (.int .i64 ((((x.load % 19) + 1) : Nat) : Int))) (vy := (.int .i64 (((x.stay % (19 - (x.load % 19))) : Nat) : Int))) (by kernel_rfl) (by kernel_rfl) fun w => bn_add (z := (((x.load % 19) + 1) + (x.stay % (19 - (x.load % 19))))) rfl (wr_i64 (by omega)) w) ?_
      refine vm (i := 11) (v := .pointer (some ⟨g4, 6, none⟩)) rfl rfl rfl ?_
      refine wpV_s [(g4, .cells #[.int .i64 (((1 + (n % 65536)) : Nat) : Int), strV [], .int .u8 40, .bool (decide ((x.kind &&& 2) = 2)), .int .i64 (((1 + (x.kilos * 125)) : Nat) : Int), .int .i64 (((x.load % 19) : Nat) : Int), .int .i64 (((((x.load % 19) + 1) + (x.stay % (19 - (x.load % 19)))) : Nat) : Int), .int .u8 (((x.cls % 10) : Nat) : Int), .bool (decide ((x.kind &&& 4) = 4))] 26 (0, 0)), (g2, .cells (bxC bx0) 26 (0, 0)), (g1, .cells (skC x).toArray 31 (0, 0))] (i := 12) rfl (by kernel_rfl) rfl rfl rfl (st_row (off := 6) (v := .int .i64 (((((x.load % 19) + 1) + (x.stay % (19 - (x.load % 19)))) : Nat) : Int)) rfl (by kernel_rfl) (by kernel_rfl) (.head _) Bg4 (by kernel_rfl) (by first | (simp [Value.cells]; done) | exact Nat.le_of_ble_eq_true rfl) (by intro v hv; simp [Value.cells, strV] at hv; first | (subst hv; rfl) | (rcases hv with rfl <;> rfl)) (by kernel_rfl) (List.forall_mem_cons.2 ⟨.inl rfl, (List.forall_mem_cons.2 ⟨.inr ⟨(.tail _ (.head _)), (by first | assumption | exact Ne.symm (by assumption))⟩, (List.forall_mem_cons.2 ⟨.inr ⟨(.tail _ (.tail _ (.head _))), (by first | assumption | exact Ne.symm (by assumption))⟩, (List.forall_mem_nil _)⟩)⟩)⟩)) ?_
      refine wpV_done (by kernel_rfl) (fun W14 hW14 => ?_) _
      refine (show Code.wp _ _ _ _ _ from ?_)
      refine wp_seq ?_
      refine wp_seq ?_
      refine wp_region_L (W0 := w) [(g4, .cells #[.int .i64 (((1 + (n % 65536)) : Nat) : Int), strV [], .int .u8 40, .bool (decide ((x.kind &&& 2) = 2)), .int .i64 (((1 + (x.kilos * 125)) : Nat) : Int), .int .i64 (((x.load % 19) : Nat) : Int), .int .i64 (((((x.load % 19) + 1) + (x.stay % (19 - (x.load % 19)))) : Nat) : Int), .int .u8 (((x.cls % 10) : Nat) : Int), .bool (decide ((x.kind &&& 4) = 4))] 26 (0, 0)), (g2, .cells (bxC bx0) 26 (0, 0)), (g1, .cells (skC x).toArray 31 (0, 0))] (hW14) ?_
      refine lm (v := .pointer (some ⟨g1, 5, none⟩)) rfl rfl ?_
      refine lv (v := .int .u8 ((x.num : Nat) : Int)) rfl rfl (yb_cell (off := 5) rfl (by kernel_rfl) (.tail _ (.tail _ (.head _))) Tryd.underlying5 rfl (by kernel_rfl)) ?_
      refine lp (v := .int .u8 (((x.num % 2) : Nat) : Int)) rfl rfl (run_bin rfl (vx := (.int .u8 ((x.num : Nat) : Int))) (vy := (.int .u8 ((1 : Nat) : Int))) (by kernel_rfl) (by kernel_rfl) fun w => bn_and (z := (x.num % 2)) (Nat.and_one_is_mod _) (by simp only [IntKind.bits]; omega) (by simp only [IntKind.bits]; omega) (wr_u8 (by first | omega | exact Nat.le_trans Nat.and_le_right (by omega))) w) ?_
      refine lp (v := .bool (decide ((x.num % 2) = 1))) rfl rfl (run_bin rfl (vx := (.int .u8 (((x.num % 2) : Nat) : Int))) (vy := (.int .u8 ((1 : Nat) : Int))) (by kernel_rfl) (by kernel_rfl) fun w => bn_eql rfl w) ?_
      refine wpL_done (fun W15 hW15 => ?_)
      refine (show Code.wp _ _ _ _ _ from ?_)
      cases hd3 : (decide ((x.num % 2) = 1)) with
      | false =>
        have h3 : ¬ ((x.num % 2) = 1) := of_decide_eq_false hd3
        clear hd3
        refine wp_cond_false rfl ?_
        refine wp_skip ?_
        refine (show Code.wp _ _ _ _ _ from ?_)
        refine wp_seq ?_
        refine wp_region_L (W0 := w) [(g4, .cells #[.int .i64 (((1 + (n % 65536)) : Nat) : Int), strV [], .int .u8 40, .bool (decide ((x.kind &&& 2) = 2)), .int .i64 (((1 + (x.kilos * 125)) : Nat) : Int), .int .i64 (((x.load % 19) : Nat) : Int), .int .i64 (((((x.load % 19) + 1) + (x.stay % (19 - (x.load % 19)))) : Nat) : Int), .int .u8 (((x.cls % 10) : Nat) : Int), .bool (decide ((x.kind &&& 4) = 4))] 26 (0, 0)), (g2, .cells (bxC bx0) 26 (0, 0)), (g1, .cells (skC x).toArray 31 (0, 0))] (hW15) ?_
        refine lv (v := .agg #[.int .i64 (((1 + (n % 65536)) : Nat) : Int), strV [], .int .u8 40, .bool (decide ((x.kind &&& 2) = 2)), .int .i64 (((1 + (x.kilos * 125)) : Nat) : Int), .int .i64 (((x.load % 19) : Nat) : Int), .int .i64 (((((x.load % 19) + 1) + (x.stay % (19 - (x.load % 19)))) : Nat) : Int), .int .u8 (((x.cls % 10) : Nat) : Int), .bool (decide ((x.kind &&& 4) = 4))]) rfl rfl (yb_load (n := 9) (off := 0) rfl (by kernel_rfl) (.head _) Tryd.underlying26 rfl (by kernel_rfl) (by first | (simp; done) | exact Nat.le_of_ble_eq_true rfl) (by kernel_rfl)) ?_
        refine wpL_s [(g4, .cells #[.int .i64 (((1 + (n % 65536)) : Nat) : Int), strV [], .int .u8 40, .bool (decide ((x.kind &&& 2) = 2)), .int .i64 (((1 + (x.kilos * 125)) : Nat) : Int), .int .i64 (((x.load % 19) : Nat) : Int), .int .i64 (((((x.load % 19) + 1) + (x.stay % (19 - (x.load % 19)))) : Nat) : Int), .int .u8 (((x.cls % 10) : Nat) : Int), .bool (decide ((x.kind &&& 4) = 4))] 26 (0, 0)), (g2, .cells #[.int .i64 (((1 + (n % 65536)) : Nat) : Int), strV [], .int .u8 40, .bool (decide ((x.kind &&& 2) = 2)), .int .i64 (((1 + (x.kilos * 125)) : Nat) : Int), .int .i64 (((x.load % 19) : Nat) : Int), .int .i64 (((((x.load % 19) + 1) + (x.stay % (19 - (x.load % 19)))) : Nat) : Int), .int .u8 (((x.cls % 10) : Nat) : Int), .bool (decide ((x.kind &&& 4) = 4))] 26 (0, 0)), (g1, .cells (skC x).toArray 31 (0, 0))] rfl rfl (st_row (off := 0) (v := .agg #[.int .i64 (((1 + (n % 65536)) : Nat) : Int), strV [], .int .u8 40, .bool (decide ((x.kind &&& 2) = 2)), .int .i64 (((1 + (x.kilos * 125)) : Nat) : Int), .int .i64 (((x.load % 19) : Nat) : Int), .int .i64 (((((x.load % 19) + 1) + (x.stay % (19 - (x.load % 19)))) : Nat) : Int), .int .u8 (((x.cls % 10) : Nat) : Int), .bool (decide ((x.kind &&& 4) = 4))]) rfl (by kernel_rfl) (by kernel_rfl) (.tail _ (.head _)) Bg2 (by kernel_rfl) (by first | (simp [Value.cells]; done) | exact Nat.le_of_ble_eq_true rfl) (by intro v hv; simp [Value.cells, strV] at hv; first | (subst hv; rfl) | (rcases hv with rfl | rfl | rfl | rfl | rfl | rfl | rfl | rfl | rfl <;> rfl)) (by kernel_rfl) (List.forall_mem_cons.2 ⟨.inr ⟨(.head _), (by first | assumption | exact Ne.symm (by assumption))⟩, (List.forall_mem_cons.2 ⟨.inl rfl, (List.forall_mem_cons.2 ⟨.inr ⟨(.tail _ (.tail _ (.head _))), (by first | assumption | exact Ne.symm (by assumption))⟩, (List.forall_mem_nil _)⟩)⟩)⟩)) ?_
        refine wpL_done (fun W16 hW16 => ?_)
        refine (show Code.wp _ _ _ _ _ from ?_)
        refine wp_ret ?_
        try simp only [inBlock_ret, then_ret]
        refine bodyPost_ret (v := .agg #[.int .i64 (((1 + (n % 65536)) : Nat) : Int), strV [], .int .u8 40, .bool (decide ((x.kind &&& 2) = 2)), .int .i64 (((1 + (x.kilos * 125)) : Nat) : Int), .int .i64 (((x.load % 19) : Nat) : Int), .int .i64 (((((x.load % 19) + 1) + (x.stay % (19 - (x.load % 19)))) : Nat) : Int), .int .u8 (((x.cls % 10) : Nat) : Int), .bool (decide ((x.kind &&& 4) = 4))]) ?_ rfl ?_
        · exact (res_cell (p := 4) rfl rfl (hW16.2 _ (.tail _ (.head _))) Tryd.underlying26 rfl (by kernel_rfl))
        · exact ⟨(boxt_is (by simp [bxV, bxC, madeX, numX, h1, h3])), hW16.1⟩
      | true =>
        have h3 : (x.num % 2) = 1 := of_decide_eq_true hd3
        clear hd3
        refine wp_cond_true rfl ?_
        refine wp_seq ?_
        refine wp_region_L (W0 := w) [(g4, .cells #[.int .i64 (((1 + (n % 65536)) : Nat) : Int), strV [], .int .u8 40, .bool (decide ((x.kind &&& 2) = 2)), .int .i64 (((1 + (x.kilos * 125)) : Nat) : Int), .int .i64 (((x.load % 19) : Nat) : Int), .int .i64 (((((x.load % 19) + 1) + (x.stay % (19 - (x.load % 19)))) : Nat) : Int), .int .u8 (((x.cls % 10) : Nat) : Int), .bool (decide ((x.kind &&& 4) = 4))] 26 (0, 0)), (g2, .cells (bxC bx0) 26 (0, 0)), (g1, .cells (skC x).toArray 31 (0, 0))] (hW15) ?_
        refine lm (v := .pointer (some ⟨g1, 5, none⟩)) rfl rfl ?_
        refine lv (v := .int .u8 ((x.num : Nat) : Int)) rfl rfl (yb_cell (off := 5) rfl (by kernel_rfl) (.tail _ (.tail _ (.head _))) Tryd.underlying5 rfl (by kernel_rfl)) ?_
        refine lp (v := .int .u8 (((x.num / 100) : Nat) : Int)) rfl rfl (run_bin rfl (vx := (.int .u8 ((x.num : Nat) : Int))) (vy := (.int .u8 ((100 : Nat) : Int))) (by kernel_rfl) (by kernel_rfl) fun w => bn_quo (z := (x.num / 100)) rfl (by omega) (wr_u8 (by omega)) w) ?_
        refine lp (v := .int .u8 (((48 + (x.num / 100)) : Nat) : Int)) rfl rfl (run_bin rfl (vx := (.int .u8 ((48 : Nat) : Int))) (vy := (.int .u8 (((x.num / 100) : Nat) : Int))) (by kernel_rfl) (by kernel_rfl) fun w => bn_add (z := (48 + (x.num / 100))) rfl (wr_u8 (by omega)) w) ?_
        refine lm (v := .pointer (some ⟨g1, 5, none⟩)) rfl rfl ?_
        refine lv (v := .int .u8 ((x.num : Nat) : Int)) rfl rfl (yb_cell (off := 5) rfl (by kernel_rfl) (.tail _ (.tail _ (.head _))) Tryd.underlying5 rfl (by kernel_rfl)) ?_
        refine lp (v := .int .u8 (((x.num / 10) : Nat) : Int)) rfl rfl (run_bin rfl (vx := (.int .u8 ((x.num : Nat) : Int))) (vy := (.int .u8 ((10 : Nat) : Int))) (by kernel_rfl) (by kernel_rfl) fun w => bn_quo (z := (x.num / 10)) rfl (by omega) (wr_u8 (by omega)) w) ?_
        refine lp (v := .int .u8 ((((x.num / 10) % 10) : Nat) : Int)) rfl rfl (run_bin rfl (vx := (.int .u8 (((x.num / 10) : Nat) : Int))) (vy := (.int .u8 ((10 : Nat) : Int))) (by kernel_rfl) (by kernel_rfl) fun w => bn_rem (z := ((x.num / 10) % 10)) rfl (by omega) w) ?_
        refine lp (v := .int .u8 (((48 + ((x.num / 10) % 10)) : Nat) : Int)) rfl rfl (run_bin rfl (vx := (.int .u8 ((48 : Nat) : Int))) (vy := (.int .u8 ((((x.num / 10) % 10) : Nat) : Int))) (by kernel_rfl) (by kernel_rfl) fun w => bn_add (z := (48 + ((x.num / 10) % 10))) rfl (wr_u8 (by omega)) w) ?_
        refine lm (v := .pointer (some ⟨g1, 5, none⟩)) rfl rfl ?_
        refine lv (v := .int .u8 ((x.num : Nat) : Int)) rfl rfl (yb_cell (off := 5) rfl (by kernel_rfl) (.tail _ (.tail _ (.head _))) Tryd.underlying5 rfl (by kernel_rfl)) ?_
        refine lp (v := .int .u8 (((x.num % 10) : Nat) : Int)) rfl rfl (run_bin rfl (vx := (.int .u8 ((x.num : Nat) : Int))) (vy := (.int .u8 ((10 : Nat) : Int))) (by kernel_rfl) (by kernel_rfl) fun w => bn_rem (z := (x.num % 10)) rfl (by omega) w) ?_
        refine lp (v := .int .u8 (((48 + (x.num % 10)) : Nat) : Int)) rfl rfl (run_bin rfl (vx := (.int .u8 ((48 : Nat) : Int))) (vy := (.int .u8 (((x.num % 10) : Nat) : Int))) (by kernel_rfl) (by kernel_rfl) fun w => bn_add (z := (48 + (x.num % 10))) rfl (wr_u8 (by omega)) w) ?_
        refine wpL_new (fun g => .slice (some ⟨g, 0, none⟩) 3 3) (obi := .cells #[.int .u8 (((48 + (x.num / 100)) : Nat) : Int), .int .u8 (((48 + ((x.num / 10) % 10)) : Nat) : Int), .int .u8 (((48 + (x.num % 10)) : Nat) : Int)] 5 (0, 0)) rfl rfl (fun _ => by kernel_rfl) (fun _ => by simp only [List.setIfInBounds_toArray, List.set_cons_succ, List.set_cons_zero] <;> rfl) fun g10 Bg10 Fg10 => ?_
        obtain ⟨dj11_0, dj11_1, dj11_2⟩ : g4 ≠ g10 ∧ g2 ≠ g10 ∧ g1 ≠ g10 := by simpa only [dj_app_l, dj_app_r, dj_cons_l, dj_cons_r, dj_nil_l, dj_nil_r, dk_app, dk_cons, dk_nil, and_true, true_and, and_assoc] using (show Dk g10 [(g4, .cells #[.int .i64 (((1 + (n % 65536)) : Nat) : Int), strV [], .int .u8 40, .bool (decide ((x.kind &&& 2) = 2)), .int .i64 (((1 + (x.kilos * 125)) : Nat) : Int), .int .i64 (((x.load % 19) : Nat) : Int), .int .i64 (((((x.load % 19) + 1) + (x.stay % (19 - (x.load % 19)))) : Nat) : Int), .int .u8 (((x.cls % 10) : Nat) : Int), .bool (decide ((x.kind &&& 4) = 4))] 26 (0, 0)), (g2, .cells (bxC bx0) 26 (0, 0)), (g1, .cells (skC x).toArray 31 (0, 0))] from Fg10)
        refine lv (v := strV [UInt8.ofNat (48 + (x.num / 100)), UInt8.ofNat (48 + ((x.num / 10) % 10)), UInt8.ofNat (48 + (x.num % 10))]) rfl rfl (yb_str (n := 3) (cap := 3) (l := [UInt8.ofNat (48 + (x.num / 100)), UInt8.ofNat (48 + ((x.num / 10) % 10)), UInt8.ofNat (48 + (x.num % 10))]) rfl Tryd.underlying51 Tryd.underlying5 Tryd.underlying9 (by kernel_rfl) rfl (.head _) (by first | rfl | (simp [RowB, u8s]; omega))) ?_
        refine lp (v := strV ([84, 87, 76, 85] ++ [UInt8.ofNat (48 + (x.num / 100)), UInt8.ofNat (48 + ((x.num / 10) % 10)), UInt8.ofNat (48 + (x.num % 10))])) rfl rfl (run_bin rfl (vx := strV [84, 87, 76, 85]) (vy := strV [UInt8.ofNat (48 + (x.num / 100)), UInt8.ofNat (48 + ((x.num / 10) % 10)), UInt8.ofNat (48 + (x.num % 10))]) (by kernel_rfl) (by kernel_rfl) fun w => bs_add (c := ([84, 87, 76, 85] ++ [UInt8.ofNat (48 + (x.num / 100)), UInt8.ofNat (48 + ((x.num / 10) % 10)), UInt8.ofNat (48 + (x.num % 10))])) rfl (by simp [payL]) w) ?_
        refine lp (v := strV (payL x.num)) rfl rfl (run_bin rfl (vx := strV ([84, 87, 76, 85] ++ [UInt8.ofNat (48 + (x.num / 100)), UInt8.ofNat (48 + ((x.num / 10) % 10)), UInt8.ofNat (48 + (x.num % 10))])) (vy := strV [49, 50, 51]) (by kernel_rfl) (by kernel_rfl) fun w => bs_add (c := (payL x.num)) rfl (by simp [payL]) w) ?_
        refine lm (v := strV (payL x.num)) rfl rfl ?_
        refine wpL_done (fun W17 hW17 => ?_)
        refine (show Code.wp _ _ _ _ _ from ?_)
        refine wp_seq ?_
        refine wp_region_L (W0 := w) [(g10, .cells #[.int .u8 (((48 + (x.num / 100)) : Nat) : Int), .int .u8 (((48 + ((x.num / 10) % 10)) : Nat) : Int), .int .u8 (((48 + (x.num % 10)) : Nat) : Int)] 5 (0, 0)), (g4, .cells #[.int .i64 (((1 + (n % 65536)) : Nat) : Int), strV [], .int .u8 40, .bool (decide ((x.kind &&& 2) = 2)), .int .i64 (((1 + (x.kilos * 125)) : Nat) : Int), .int .i64 (((x.load % 19) : Nat) : Int), .int .i64 (((((x.load % 19) + 1) + (x.stay % (19 - (x.load % 19)))) : Nat) : Int), .int .u8 (((x.cls % 10) : Nat) : Int), .bool (decide ((x.kind &&& 4) = 4))] 26 (0, 0)), (g2, .cells (bxC bx0) 26 (0, 0)), (g1, .cells (skC x).toArray 31 (0, 0))] (hW17) ?_
        refine lm (v := strV (payL x.num)) rfl rfl ?_
        refine lv (v := .tuple #[.int .u8 (((chkN (payL x.num)) : Nat) : Int), .int .i64 0]) rfl rfl (yb_call (f := 42) (args := #[strV (payL x.num)]) (fun _ => by kernel_rfl) fun W hW => Check_ok hpf W) ?_
        refine lm (v := .tuple #[.int .u8 (((chkN (payL x.num)) : Nat) : Int), .int .i64 0]) rfl rfl ?_
        refine lm (v := .int .u8 (((chkN (payL x.num)) : Nat) : Int)) rfl rfl ?_
        refine lm (v := .int .i64 0) rfl rfl ?_
        refine lm (v := .int .u8 (((chkN (payL x.num)) : Nat) : Int)) rfl rfl ?_
        refine lm (v := .int .i64 0) rfl rfl ?_
        refine wpL_done (fun W18 hW18 => ?_)
        refine (show Code.wp _ _ _ _ _ from ?_)
        refine wp_seq ?_
        refine wp_region_L (W0 := w) [(g10, .cells #[.int .u8 (((48 + (x.num / 100)) : Nat) : Int), .int .u8 (((48 + ((x.num / 10) % 10)) : Nat) : Int), .int .u8 (((48 + (x.num % 10)) : Nat) : Int)] 5 (0, 0)), (g4, .cells #[.int .i64 (((1 + (n % 65536)) : Nat) : Int), strV [], .int .u8 40, .bool (decide ((x.kind &&& 2) = 2)), .int .i64 (((1 + (x.kilos * 125)) : Nat) : Int), .int .i64 (((x.load % 19) : Nat) : Int), .int .i64 (((((x.load % 19) + 1) + (x.stay % (19 - (x.load % 19)))) : Nat) : Int), .int .u8 (((x.cls % 10) : Nat) : Int), .bool (decide ((x.kind &&& 4) = 4))] 26 (0, 0)), (g2, .cells (bxC bx0) 26 (0, 0)), (g1, .cells (skC x).toArray 31 (0, 0))] (hW18) ?_
        refine lm (v := .int .i64 0) rfl rfl ?_
        refine lm (v := .bool true) rfl rfl ?_
        refine wpL_done (fun W19 hW19 => ?_)
        refine (show Code.wp _ _ _ _ _ from ?_)
        refine wp_cond_true rfl ?_
        refine wp_region_L (W0 := w) [(g10, .cells #[.int .u8 (((48 + (x.num / 100)) : Nat) : Int), .int .u8 (((48 + ((x.num / 10) % 10)) : Nat) : Int), .int .u8 (((48 + (x.num % 10)) : Nat) : Int)] 5 (0, 0)), (g4, .cells #[.int .i64 (((1 + (n % 65536)) : Nat) : Int), strV [], .int .u8 40, .bool (decide ((x.kind &&& 2) = 2)), .int .i64 (((1 + (x.kilos * 125)) : Nat) : Int), .int .i64 (((x.load % 19) : Nat) : Int), .int .i64 (((((x.load % 19) + 1) + (x.stay % (19 - (x.load % 19)))) : Nat) : Int), .int .u8 (((x.cls % 10) : Nat) : Int), .bool (decide ((x.kind &&& 4) = 4))] 26 (0, 0)), (g2, .cells (bxC bx0) 26 (0, 0)), (g1, .cells (skC x).toArray 31 (0, 0))] (hW19) ?_
        refine lm (v := strV (payL x.num)) rfl rfl ?_
        refine lm (v := .int .u8 (((chkN (payL x.num)) : Nat) : Int)) rfl rfl ?_
        refine wpL_new (fun g => .slice (some ⟨g, 0, none⟩) 1 1) (obi := .cells #[.int .u8 (((chkN (payL x.num)) : Nat) : Int)] 5 (0, 0)) rfl rfl (fun _ => by kernel_rfl) (fun _ => by simp only [List.setIfInBounds_toArray, List.set_cons_succ, List.set_cons_zero] <;> rfl) fun g12 Bg12 Fg12 => ?_
        obtain ⟨dj13_0, dj13_1, dj13_2, dj13_3⟩ : g10 ≠ g12 ∧ g4 ≠ g12 ∧ g2 ≠ g12 ∧ g1 ≠ g12 := by simpa only [dj_app_l, dj_app_r, dj_cons_l, dj_cons_r, dj_nil_l, dj_nil_r, dk_app, dk_cons, dk_nil, and_true, true_and, and_assoc] using (show Dk g12 [(g10, .cells #[.int .u8 (((48 + (x.num / 100)) : Nat) : Int), .int .u8 (((48 + ((x.num / 10) % 10)) : Nat) : Int), .int .u8 (((48 + (x.num % 10)) : Nat) : Int)] 5 (0, 0)), (g4, .cells #[.int .i64 (((1 + (n % 65536)) : Nat) : Int), strV [], .int .u8 40, .bool (decide ((x.kind &&& 2) = 2)), .int .i64 (((1 + (x.kilos * 125)) : Nat) : Int), .int .i64 (((x.load % 19) : Nat) : Int), .int .i64 (((((x.load % 19) + 1) + (x.stay % (19 - (x.load % 19)))) : Nat) : Int), .int .u8 (((x.cls % 10) : Nat) : Int), .bool (decide ((x.kind &&& 4) = 4))] 26 (0, 0)), (g2, .cells (bxC bx0) 26 (0, 0)), (g1, .cells (skC x).toArray 31 (0, 0))] from Fg12)
        refine lv (v := strV [UInt8.ofNat (chkN (payL x.num))]) rfl rfl (yb_str (n := 1) (cap := 1) (l := [UInt8.ofNat (chkN (payL x.num))]) rfl Tryd.underlying51 Tryd.underlying5 Tryd.underlying9 (by kernel_rfl) rfl (.head _) (by first | rfl | (simp [RowB, u8s]; omega))) ?_
        refine lp (v := strV ((payL x.num) ++ [UInt8.ofNat (chkN (payL x.num))])) rfl rfl (run_bin rfl (vx := strV (payL x.num)) (vy := strV [UInt8.ofNat (chkN (payL x.num))]) (by kernel_rfl) (by kernel_rfl) fun w => bs_add (c := ((payL x.num) ++ [UInt8.ofNat (chkN (payL x.num))])) rfl (by simp [payL]) w) ?_
        refine lm (v := .pointer (some ⟨g4, 1, none⟩)) rfl rfl ?_
        refine wpL_s [(g12, .cells #[.int .u8 (((chkN (payL x.num)) : Nat) : Int)] 5 (0, 0)), (g10, .cells #[.int .u8 (((48 + (x.num / 100)) : Nat) : Int), .int .u8 (((48 + ((x.num / 10) % 10)) : Nat) : Int), .int .u8 (((48 + (x.num % 10)) : Nat) : Int)] 5 (0, 0)), (g4, .cells #[.int .i64 (((1 + (n % 65536)) : Nat) : Int), strV ((payL x.num) ++ [UInt8.ofNat (chkN (payL x.num))]), .int .u8 40, .bool (decide ((x.kind &&& 2) = 2)), .int .i64 (((1 + (x.kilos * 125)) : Nat) : Int), .int .i64 (((x.load % 19) : Nat) : Int), .int .i64 (((((x.load % 19) + 1) + (x.stay % (19 - (x.load % 19)))) : Nat) : Int), .int .u8 (((x.cls % 10) : Nat) : Int), .bool (decide ((x.kind &&& 4) = 4))] 26 (0, 0)), (g2, .cells (bxC bx0) 26 (0, 0)), (g1, .cells (skC x).toArray 31 (0, 0))] rfl rfl (st_row (off := 1) (v := strV ((payL x.num) ++ [UInt8.ofNat (chkN (payL x.num))])) rfl (by kernel_rfl) (by kernel_rfl) (.tail _ (.tail _ (.head _))) Bg4 (by kernel_rfl) (by first | (simp [Value.cells]; done) | exact Nat.le_of_ble_eq_true rfl) (by intro v hv; simp [Value.cells, strV] at hv; first | (subst hv; rfl) | (rcases hv with rfl <;> rfl)) (by kernel_rfl) (List.forall_mem_cons.2 ⟨.inr ⟨(.head _), (by first | assumption | exact Ne.symm (by assumption))⟩, (List.forall_mem_cons.2 ⟨.inr ⟨(.tail _ (.head _)), (by first | assumption | exact Ne.symm (by assumption))⟩, (List.forall_mem_cons.2 ⟨.inl rfl, (List.forall_mem_cons.2 ⟨.inr ⟨(.tail _ (.tail _ (.tail _ (.head _)))), (by first | assumption | exact Ne.symm (by assumption))⟩, (List.forall_mem_cons.2 ⟨.inr ⟨(.tail _ (.tail _ (.tail _ (.tail _ (.head _))))), (by first | assumption | exact Ne.symm (by assumption))⟩, (List.forall_mem_nil _)⟩)⟩)⟩)⟩)⟩)) ?_
        refine wpL_done (fun W20 hW20 => ?_)
        refine (show Code.wp _ _ _ _ _ from ?_)
        refine wp_seq ?_
        refine wp_region_L (W0 := w) [(g12, .cells #[.int .u8 (((chkN (payL x.num)) : Nat) : Int)] 5 (0, 0)), (g10, .cells #[.int .u8 (((48 + (x.num / 100)) : Nat) : Int), .int .u8 (((48 + ((x.num / 10) % 10)) : Nat) : Int), .int .u8 (((48 + (x.num % 10)) : Nat) : Int)] 5 (0, 0)), (g4, .cells #[.int .i64 (((1 + (n % 65536)) : Nat) : Int), strV ((payL x.num) ++ [UInt8.ofNat (chkN (payL x.num))]), .int .u8 40, .bool (decide ((x.kind &&& 2) = 2)), .int .i64 (((1 + (x.kilos * 125)) : Nat) : Int), .int .i64 (((x.load % 19) : Nat) : Int), .int .i64 (((((x.load % 19) + 1) + (x.stay % (19 - (x.load % 19)))) : Nat) : Int), .int .u8 (((x.cls % 10) : Nat) : Int), .bool (decide ((x.kind &&& 4) = 4))] 26 (0, 0)), (g2, .cells (bxC bx0) 26 (0, 0)), (g1, .cells (skC x).toArray 31 (0, 0))] (hW20) ?_
        refine lv (v := .agg #[.int .i64 (((1 + (n % 65536)) : Nat) : Int), strV ((payL x.num) ++ [UInt8.ofNat (chkN (payL x.num))]), .int .u8 40, .bool (decide ((x.kind &&& 2) = 2)), .int .i64 (((1 + (x.kilos * 125)) : Nat) : Int), .int .i64 (((x.load % 19) : Nat) : Int), .int .i64 (((((x.load % 19) + 1) + (x.stay % (19 - (x.load % 19)))) : Nat) : Int), .int .u8 (((x.cls % 10) : Nat) : Int), .bool (decide ((x.kind &&& 4) = 4))]) rfl rfl (yb_load (n := 9) (off := 0) rfl (by kernel_rfl) (.tail _ (.tail _ (.head _))) Tryd.underlying26 rfl (by kernel_rfl) (by first | (simp; done) | exact Nat.le_of_ble_eq_true rfl) (by kernel_rfl)) ?_
        refine wpL_s [(g12, .cells #[.int .u8 (((chkN (payL x.num)) : Nat) : Int)] 5 (0, 0)), (g10, .cells #[.int .u8 (((48 + (x.num / 100)) : Nat) : Int), .int .u8 (((48 + ((x.num / 10) % 10)) : Nat) : Int), .int .u8 (((48 + (x.num % 10)) : Nat) : Int)] 5 (0, 0)), (g4, .cells #[.int .i64 (((1 + (n % 65536)) : Nat) : Int), strV ((payL x.num) ++ [UInt8.ofNat (chkN (payL x.num))]), .int .u8 40, .bool (decide ((x.kind &&& 2) = 2)), .int .i64 (((1 + (x.kilos * 125)) : Nat) : Int), .int .i64 (((x.load % 19) : Nat) : Int), .int .i64 (((((x.load % 19) + 1) + (x.stay % (19 - (x.load % 19)))) : Nat) : Int), .int .u8 (((x.cls % 10) : Nat) : Int), .bool (decide ((x.kind &&& 4) = 4))] 26 (0, 0)), (g2, .cells #[.int .i64 (((1 + (n % 65536)) : Nat) : Int), strV ((payL x.num) ++ [UInt8.ofNat (chkN (payL x.num))]), .int .u8 40, .bool (decide ((x.kind &&& 2) = 2)), .int .i64 (((1 + (x.kilos * 125)) : Nat) : Int), .int .i64 (((x.load % 19) : Nat) : Int), .int .i64 (((((x.load % 19) + 1) + (x.stay % (19 - (x.load % 19)))) : Nat) : Int), .int .u8 (((x.cls % 10) : Nat) : Int), .bool (decide ((x.kind &&& 4) = 4))] 26 (0, 0)), (g1, .cells (skC x).toArray 31 (0, 0))] rfl rfl (st_row (off := 0) (v := .agg #[.int .i64 (((1 + (n % 65536)) : Nat) : Int), strV ((payL x.num) ++ [UInt8.ofNat (chkN (payL x.num))]), .int .u8 40, .bool (decide ((x.kind &&& 2) = 2)), .int .i64 (((1 + (x.kilos * 125)) : Nat) : Int), .int .i64 (((x.load % 19) : Nat) : Int), .int .i64 (((((x.load % 19) + 1) + (x.stay % (19 - (x.load % 19)))) : Nat) : Int), .int .u8 (((x.cls % 10) : Nat) : Int), .bool (decide ((x.kind &&& 4) = 4))]) rfl (by kernel_rfl) (by kernel_rfl) (.tail _ (.tail _ (.tail _ (.head _)))) Bg2 (by kernel_rfl) (by first | (simp [Value.cells]; done) | exact Nat.le_of_ble_eq_true rfl) (by intro v hv; simp [Value.cells, strV] at hv; first | (subst hv; rfl) | (rcases hv with rfl | rfl | rfl | rfl | rfl | rfl | rfl | rfl | rfl <;> rfl)) (by kernel_rfl) (List.forall_mem_cons.2 ⟨.inr ⟨(.head _), (by first | assumption | exact Ne.symm (by assumption))⟩, (List.forall_mem_cons.2 ⟨.inr ⟨(.tail _ (.head _)), (by first | assumption | exact Ne.symm (by assumption))⟩, (List.forall_mem_cons.2 ⟨.inr ⟨(.tail _ (.tail _ (.head _))), (by first | assumption | exact Ne.symm (by assumption))⟩, (List.forall_mem_cons.2 ⟨.inl rfl, (List.forall_mem_cons.2 ⟨.inr ⟨(.tail _ (.tail _ (.tail _ (.tail _ (.head _))))), (by first | assumption | exact Ne.symm (by assumption))⟩, (List.forall_mem_nil _)⟩)⟩)⟩)⟩)⟩)) ?_
        refine wpL_done (fun W21 hW21 => ?_)
        refine (show Code.wp _ _ _ _ _ from ?_)
        refine wp_ret ?_
        try simp only [inBlock_ret, then_ret]
        refine bodyPost_ret (v := .agg #[.int .i64 (((1 + (n % 65536)) : Nat) : Int), strV ((payL x.num) ++ [UInt8.ofNat (chkN (payL x.num))]), .int .u8 40, .bool (decide ((x.kind &&& 2) = 2)), .int .i64 (((1 + (x.kilos * 125)) : Nat) : Int), .int .i64 (((x.load % 19) : Nat) : Int), .int .i64 (((((x.load % 19) + 1) + (x.stay % (19 - (x.load % 19)))) : Nat) : Int), .int .u8 (((x.cls % 10) : Nat) : Int), .bool (decide ((x.kind &&& 4) = 4))]) ?_ rfl ?_
        · exact (res_cell (p := 4) rfl rfl (hW21.2 _ (.tail _ (.tail _ (.tail _ (.head _))))) Tryd.underlying26 rfl (by kernel_rfl))
        · exact ⟨(boxt_is (by simp [bxV, bxC, madeX, numX, h1, h3])), hW21.1⟩
end Go.Proofs.YtjbbeolapaaiaaaDoor
/- What came in: records of plain cells, and lists of them. Over any program. -/
namespace Tw
open Go Go.RowKit Go.Proofs.YtjbbeolapaaiaaaDoor Go.ChangeShapes Go.WideShapes
section
variable {H : Type} {enc : TypeId × Value → H} {P : Program} {α : Type}
def OpensC (P : Program) (t : TypeId) (cells : α → List Value) (ok : α → Prop) : Prop := ∀ (H : Type) (enc : TypeId × Value → H) (w : World) (base : Nat) (sp : Nat → Bool) (held : Bool) (fuel : Nat) (cs : List Value) (x : DataW H × List MemPlace),
  DataW.trod enc P w base sp held fuel t cs = some x → ∃ y : α, cs = cells y ∧ ok y
theorem opens_list {w : World} {base : Nat} {a : Addr} {e : TypeId} {sz n : Nat} {cells : α → List Value} {ok : α → Prop} {sp : Nat → Bool} {held : Bool} {elems : List (DataW H × List MemPlace)} (hE : OpensC P e cells ok) (hsz : P.cellsOf e = sz) :
    ∀ m, m ≤ elems.length → (∀ i, i < m → (w.cells? base (a.add (i * P.cellsOf e)) (P.cellsOf e)).bind (DataW.trod enc P w base sp held n e) = elems[i]?) → ∃ l : List α, l.length = m ∧ (∀ y ∈ l, ok y) ∧ ∀ i y, l[i]? = some y → w.cells? base (a.add (i * sz)) sz = some (cells y)
  | 0, _, _ => ⟨[], rfl, (fun _ h => by cases h), fun i y h => by simp at h⟩
  | m + 1, hm, hel => by
    obtain ⟨l, h1, h2, h3⟩ := opens_list hE hsz m (by omega) (fun i hi => hel i (by omega))
    have h0 := hel m (by omega)
    rw [List.getElem?_eq_getElem (by omega)] at h0
    obtain ⟨cs, hcs, ht⟩ := Option.bind_eq_some_iff.1 h0
    obtain ⟨y, rfl, hy⟩ := hE _ _ _ _ _ _ _ _ _ ht
    rw [hsz] at hcs
    refine ⟨l ++ [y], by simp [h1], fun z hz => ?_, fun i z hz => ?_⟩
    · rcases List.mem_append.1 hz with hz | hz
      · exact h2 z hz
      · cases List.mem_singleton.1 hz; exact hy
    · rcases Nat.lt_or_ge i m with hi | hi
      · rw [List.getElem?_append_left (by omega)] at hz
        exact h3 i z hz
      · obtain ⟨hlt, _⟩ := List.getElem?_eq_some_iff.1 hz
        have hi2 : i = m := by rw [List.length_append, h1, List.length_singleton] at hlt; omega
        subst hi2
        rw [List.getElem?_append_right (by omega), h1, Nat.sub_self] at hz
        cases hz
        exact hcs
theorem flat_at {cells : α → List Value} {sz : Nat} (hc : ∀ y, (cells y).length = sz) : ∀ {l : List α} {i : Nat} {u : Value}, (l.flatMap cells)[i]? = some u → ∃ y, l[i / sz]? = some y ∧ (cells y)[i % sz]? = some u
  | [], _, _, h => by simp at h
  | y :: l, i, u, h => by
    rw [List.flatMap_cons] at h
    rcases Nat.lt_or_ge i sz with hi | hi
    · rw [List.getElem?_append_left (by rw [hc]; exact hi)] at h
      exact ⟨y, by rw [Nat.div_eq_of_lt hi]; rfl, by rw [Nat.mod_eq_of_lt hi]; exact h⟩
    · rw [List.getElem?_append_right (by rw [hc]; exact hi), hc] at h
      obtain ⟨z, h1, h2⟩ := flat_at hc h
      have h0 : 0 < sz := by
        rcases Nat.eq_zero_or_pos sz with h0 | h0
        · subst h0; rw [Nat.mod_zero] at h2; have := hc z; rw [List.length_eq_zero_iff.1 this] at h2; simp at h2
        · exact h0
      refine ⟨z, ?_, ?_⟩
      · rw [show i / sz = (i - sz) / sz + 1 from by rw [Nat.div_eq_sub_div h0 hi], List.getElem?_cons_succ]; exact h1
      · rw [Nat.mod_eq_sub_mod hi]; exact h2
theorem open_recs {W : World} {t e : TypeId} {v : Value} {d : DataW H} {ps : List MemPlace} {base sz : Nat} {cells : α → List Value} {ok : α → Prop} (ht : P.underlying t = some (.slice e)) (hE : OpensC P e cells ok) (hsz : P.cellsOf e = sz) (hz : 0 < sz) (hc : ∀ y, (cells y).length = sz)
    (hv : Value.okWide P W .any base t v) (h0 : DataW.Trod enc P W 0 (fun _ => true) true t v d ps) : ∃ (p : Option Addr) (cap : Nat) (l : List α), v = .slice p l.length cap ∧ SLV W p (l.flatMap cells) ∧ (∀ y ∈ l, ok y) ∧ l.length ≤ maxLen ∧ l.length ≤ cap := by
  obtain ⟨a0, len0, cap0, rfl⟩ := okWide_slice ht hv
  obtain ⟨fuel, hf⟩ := h0
  rcases DataW.trod_slice ht hf with ⟨hcs, _⟩ | ⟨a, len, cap, elems, rest, n, _, hcs, _, hb, hl, hm, hlen, hel, _, _⟩
  · simp [Value.cells] at hcs
    obtain ⟨rfl, rfl, rfl⟩ := hcs
    exact ⟨none, 0, [], rfl, .inl rfl, (fun _ h => by cases h), by simp, by simp⟩
  · simp [Value.cells] at hcs
    obtain ⟨rfl, rfl, rfl⟩ := hcs
    obtain ⟨l, h1, h2, h3⟩ := opens_list hE hsz len0 (by omega) hel
    refine ⟨some a, cap0, l, by rw [h1], ?_, h2, by omega, by omega⟩
    rcases Nat.eq_zero_or_pos len0 with h0 | h0
    · left; rw [List.length_eq_zero_iff.1 (h1.trans h0)]; rfl
    · obtain ⟨b, off, spot⟩ := a
      have hcell : ∀ i y, l[i]? = some y → ∀ j u, (cells y)[j]? = some u → W.cell? ((⟨b, off, spot⟩ : Addr).add (i * sz) |>.add j) = some u := by
        intro i y hy j u hu
        obtain ⟨_, h4, h5⟩ := World.cells?_some (h3 i y hy)
        obtain ⟨hj, _⟩ := List.getElem?_eq_some_iff.1 hu
        rw [hc] at hj
        rw [h5 j hj]; exact hu
      have h00 : l[0]? = some (l[0]'(by omega)) := List.getElem?_eq_getElem _
      have hspot : spot = none := by
        have hu : (cells (l[0]'(by omega)))[0]? = some ((cells (l[0]'(by omega)))[0]'(by rw [hc]; exact hz)) := List.getElem?_eq_getElem _
        have := World.cell?_spot (hcell 0 _ h00 0 _ hu)
        unfold Addr.add at this
        simp only at this
        split at this <;> simp_all
      subst hspot
      have hadd : ∀ (m j : Nat), ((⟨b, off, none⟩ : Addr).add m).add j = ⟨b, off + (m + j), none⟩ := fun m j => by rw [addr_add, addr_add, Nat.add_assoc]
      refine .inr ⟨b, off, rfl, ?_, fun i u hu => ?_⟩
      · have hu : (cells (l[0]'(by omega)))[0]? = some ((cells (l[0]'(by omega)))[0]'(by rw [hc]; exact hz)) := List.getElem?_eq_getElem _
        have := World.block_lt_of_cell? _ _ (hcell 0 _ h00 0 _ hu)
        rw [hadd] at this
        exact this
      · obtain ⟨y, hy1, hy2⟩ := flat_at hc hu
        have := hcell _ y hy1 _ u hy2
        rw [hadd, Nat.mul_comm, Nat.div_add_mod] at this
        exact this
theorem open_rec {W : World} {t : TypeId} {fs : Array Field} {v : Value} {d : DataW H} {ps : List MemPlace} {base : Nat} {cells : α → List Value} {ok : α → Prop} (ht : P.underlying t = some (.struct fs)) (hE : OpensC P t cells ok)
    (hv : Value.okWide P W .any base t v) (h0 : DataW.Trod enc P W 0 (fun _ => true) true t v d ps) : ∃ y : α, v = .agg (cells y).toArray ∧ ok y := by
  obtain ⟨cs, rfl, _⟩ := okWide_struct ht hv
  obtain ⟨fuel, hf⟩ := h0
  obtain ⟨y, hy, hok⟩ := hE _ _ _ _ _ _ _ _ _ hf
  refine ⟨y, ?_, hok⟩
  rw [← hy]
  rfl
theorem trod_fld {w : World} {base : Nat} {sp : Nat → Bool} {held : Bool} {fuel : Nat} {t : TypeId} {cs : List Value} {x : DataW H × List MemPlace} {fs : Array Field} (ht : P.underlying t = some (.struct fs)) (h : DataW.trod enc P w base sp held fuel t cs = some x) :
    cs.length = P.cellsOf t ∧ ∀ (i : Nat) (f : Field), fs[i]? = some f → ∃ n y, DataW.trod enc P w base sp held n f.type ((cs.drop f.offset).take (P.cellsOf f.type)) = some y := by
  obtain ⟨xs, n, _, _, hl, hx, hg⟩ := DataW.trod_struct ht h
  refine ⟨hl, fun i f hf => ?_⟩
  have h1 := hg i f hf
  have hi : i < xs.length := by rw [hx]; exact (Array.getElem?_eq_some_iff.1 hf).1
  rw [List.getElem?_eq_getElem hi] at h1
  exact ⟨n, _, h1⟩
theorem fld_int {w : World} {base : Nat} {sp : Nat → Bool} {held : Bool} {fuel : Nat} {t : TypeId} {cs : List Value} {x : DataW H × List MemPlace} {k : IntKind} (ht : P.underlying t = some (.int k)) (h : DataW.trod enc P w base sp held fuel t cs = some x) : ∃ n, cs = [.int k n] ∧ k.min ≤ n ∧ n ≤ k.max := by
  obtain ⟨n, h1, _, h2⟩ := DataW.trod_int ht h
  exact ⟨n, h1, by simpa [Lit.wf] using h2⟩
theorem fld_bool {w : World} {base : Nat} {sp : Nat → Bool} {held : Bool} {fuel : Nat} {t : TypeId} {cs : List Value} {x : DataW H × List MemPlace} (ht : P.underlying t = some .bool) (h : DataW.trod enc P w base sp held fuel t cs = some x) : ∃ b, cs = [.bool b] := by
  obtain ⟨n, h1, _⟩ := DataW.trod_bool ht h
  exact ⟨n, h1⟩
theorem fld_str {w : World} {base : Nat} {sp : Nat → Bool} {held : Bool} {fuel : Nat} {t : TypeId} {cs : List Value} {x : DataW H × List MemPlace} (ht : P.underlying t = some .string) (h : DataW.trod enc P w base sp held fuel t cs = some x) : ∃ l : List UInt8, cs = [strV l] ∧ l.length ≤ maxLen := by
  obtain ⟨s, h1, _, h2⟩ := DataW.trod_string ht h
  refine ⟨s.data.toList, ?_, ?_⟩
  · rw [h1]; unfold strV; simp
  · have : s.data.toList.length = s.size := by simp
    omega
end
end Tw
namespace Go.Proofs.YtjbbeolapaaiaaaDoor
open Go Go.RowKit Tw
theorem opens_sk : OpensC Tryd.prog 31 skC skOk := by
  intro H enc w base sp held fuel cs x h
  obtain ⟨hl, hf⟩ := trod_fld Tryd.underlying31 h
  have c1 : Tryd.prog.cellsOf 5 = 1 := by kernel_rfl
  have c6 : Tryd.prog.cellsOf 31 = 6 := by kernel_rfl
  rw [c6] at hl
  obtain ⟨v0, v1, v2, v3, v4, v5, rfl⟩ : ∃ v0 v1 v2 v3 v4 v5, cs = [v0, v1, v2, v3, v4, v5] := by
    rcases cs with _ | ⟨v0, _ | ⟨v1, _ | ⟨v2, _ | ⟨v3, _ | ⟨v4, _ | ⟨v5, _ | ⟨v6, cs⟩⟩⟩⟩⟩⟩⟩ <;> simp at hl
    exact ⟨v0, v1, v2, v3, v4, v5, rfl⟩
  have key : ∀ (i : Nat) (f : Field) (v : Value), (#[v0, v1, v2, v3, v4, v5] : Array Value)[i]? = some v → f.type = 5 → f.offset = i → (∃ n y, DataW.trod enc Tryd.prog w base sp held n f.type ((([v0, v1, v2, v3, v4, v5] : List Value).drop f.offset).take (Tryd.prog.cellsOf f.type)) = some y) → ∃ n : Nat, v = .int .u8 ((n : Nat) : Int) ∧ n ≤ 255 := by
    intro i f v hv ht ho ⟨n, y, hy⟩
    rw [ht, c1, ho] at hy
    obtain ⟨z, hz, hz1, hz2⟩ := fld_int (P := Tryd.prog) Tryd.underlying5 hy
    have hv2 : ([v0, v1, v2, v3, v4, v5] : List Value)[i]? = some v := by simpa using hv
    obtain ⟨hi, hvi⟩ := List.getElem?_eq_some_iff.1 hv2
    rw [List.drop_eq_getElem_cons hi, hvi] at hz
    have hz0 : v = .int .u8 z := by simpa using hz
    have m1 : IntKind.u8.min = 0 := by decide
    have m2 : IntKind.u8.max = 255 := by decide
    rw [m1] at hz1; rw [m2] at hz2
    exact ⟨z.toNat, by rw [hz0, Int.toNat_of_nonneg hz1], by omega⟩
  obtain ⟨n0, rfl, b0⟩ := key 0 _ v0 rfl rfl rfl (hf 0 _ rfl)
  obtain ⟨n1, rfl, b1⟩ := key 1 _ v1 rfl rfl rfl (hf 1 _ rfl)
  obtain ⟨n2, rfl, b2⟩ := key 2 _ v2 rfl rfl rfl (hf 2 _ rfl)
  obtain ⟨n3, rfl, b3⟩ := key 3 _ v3 rfl rfl rfl (hf 3 _ rfl)
  obtain ⟨n4, rfl, b4⟩ := key 4 _ v4 rfl rfl rfl (hf 4 _ rfl)
  obtain ⟨n5, rfl, b5⟩ := key 5 _ v5 rfl rfl rfl (hf 5 _ rfl)
  exact ⟨⟨n0, n1, n2, n3, n4, n5⟩, rfl, b0, b1, b2, b3, b4, b5⟩
end Go.Proofs.YtjbbeolapaaiaaaDoor
/- From the row's condition to what the proofs ask; what came in. -/
namespace Go.Proofs.YtjbbeolapaaiaaaDoor
open Go.ChangeShapes Go.WideShapes Go.ChangeAt Go.RowKit Tw
open Go
theorem of_wf {k : IntKind} {n : Int} (h : (Lit.int k n).wf = true) : k.min ≤ n ∧ n ≤ k.max := by simpa [Lit.wf] using h
theorem own : ownKnob Tryd.prog.godebug = none := by kernel_rfl
theorem laidOut : laidOutB Tryd.prog = true := by kernel_rfl
def laidN : List (String × DataW Unit) := [("twistlock/iso.kinds", Rows.laid_twistlock_iso_kinds)]
set_option maxRecDepth 100000 in
theorem door_met (os : Os) (args : Array Value) : laidMetH Tryd.prog laidN ((World.doorLaid Tryd.prog 1000 os).forCall (fun _ _ => 0) ⟨#[], args, []⟩).memory :=
  laidMetH_of_parts3 (fuel := 8) (laidMet_of_run' 8 (by kernel_rfl) (by kernel_rfl)) (by kernel_rfl) (by kernel_rfl)
theorem env_of {W : World} (h0 : laidMetH Tryd.prog laidN W) : Env W := by
  have h : laidMet Tryd.prog laidN W := by rw [MakeChecks.laidMetH_plain _ _ _ (by kernel_rfl)] at h0; exact h0
  exact ⟨laid_plain 8 h gKinds (t := 78) (by kernel_rfl) (by kernel_rfl)⟩
theorem handed_and_sized {H : Type} {enc : TypeId × Value → H} {a : Assume} {C : Checked} {os : Os} {f : FuncId} {fn : Func} {s : ChangeSpec} {conds : List PathCond} {apart fresh handsOn again : Bool} {X : World → Prop}
    (hX : ∀ (w w' : World), w.heap = w'.heap → X w → X w')
    (own : ownKnob C.prog.godebug = none) (started : os.Started) (noInit : C.prog.inits.idxOf? f = none) (hfn : C.prog.funcs[f]? = some fn)
    (witness : ∃ (w : World) (tape : Tape) (i : Input), w.os = os ∧ (w.forCall tape i).Shaped C.prog ∧ i.vars = [] ∧ Input.okWide C.prog (w.forCall tape i) .any w.heap.size f i ∧
      ((s.pre enc C.prog fn conds apart (w.forCall tape i).memory i.args ∧ X (w.forCall tape i).memory) ∧ sizedMet enc C.prog fn (OpenSpec.ofChange s) apart (w.forCall tape i).memory i.args) ∧ a.holds C.prog (lone (Frame.enter C.prog f i.args .normal) [] (w.forCall tape i)))
    (contract : ∀ (W : World) (base : Nat) (args : Array Value) (ds gs : List (DataW H)) (before : List MemPlace),
      (∀ (j : Nat) t v, fn.params[j]? = some t → args[j]? = some v → Value.okWide C.prog W .any base t v) →
      DataW.Whole enc C.prog fn.params.toList s.vars apart W args.toList ds gs before → X W → W.ShapedOpen C.prog →
      (DataW.weightsEach C.prog (fn.params.toList ++ s.plain.varTypes C.prog) (ds ++ gs)).all (· ≤ reachBytes) = true →
      Calls C.prog f args W fun e W' => ∃ v, e = .returned v ∧ s.post enc C.prog fn apart fresh handsOn again W args v W') :
    ReturnsInHanded a C os f .any (fun w args => (s.pre enc C.prog fn conds apart w args ∧ X w) ∧ sizedMet enc C.prog fn (OpenSpec.ofChange s) apart w args) (s.post enc C.prog fn apart fresh handsOn again) := by
  refine returnsInHanded_of_calls own started noInit witness fun w tape i _ hsh _ hok hpre _ => ?_
  obtain ⟨_, _, _, fn', hfn', _, _, _, _, hval⟩ := hok
  obtain rfl : fn' = fn := Option.some.inj (hfn'.symm.trans hfn)
  obtain ⟨⟨_, hx⟩, _, ds, gs, before, hw, hz⟩ := hpre
  refine (contract (w.forCall tape i) w.heap.size i.args ds gs before hval (DataW.Whole.of_heap (w' := w.forCall tape i) (by rfl) hw) (hX _ _ (by rfl) hx) hsh hz).mono fun e W' ⟨v, he, hp⟩ => ?_
  subst he
  exact ChangeSpec.post_blind hp
end Go.Proofs.YtjbbeolapaaiaaaDoor
