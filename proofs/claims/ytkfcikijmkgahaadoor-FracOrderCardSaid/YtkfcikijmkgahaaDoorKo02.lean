import Derived.Test.YtkfcikijmkgahaaDoorKo00
import Derived.Test.YtkfcikijmkgahaaDoorKo01
import Derived.Test.YtkfcikijmkgahaaDoorG24
import Derived.Test.YtkfcikijmkgahaaDoorG05
/- Part of the proof: Fv, O00. -/
set_option linter.unusedVariables false
set_option linter.unusedSimpArgs false
set_option linter.unusedSectionVars false
namespace Go.Proofs.YtkfcikijmkgahaaDoor
open Go.RowKit Tw
variable [ShLZ]
variable [ShSt]
theorem shr_i64 {a : Int} (h1 : -9223372036854775808 ≤ a) (h2 : a ≤ 9223372036854775807) : -576460752303423488 ≤ a / 2 ^ 4 ∧ a / 2 ^ 4 ≤ 576460752303423487 := by
  have : (2 : Int) ^ 4 = 16 := rfl
  rw [this]; omega
theorem made_bd {a : Int} (d : Nat) (h : -576460752303423488 ≤ a ∧ a ≤ 576460752303423487) (hd : d ≤ 4294967295) : bd (fr a (d + 1)) 576460752303423488 4294967296 := fr_bd _ _ (by omega) (by omega) (by omega)
set_option maxHeartbeats 1000000 in
theorem FracField_any (a b c : Int) (d e f : Nat) (a1 : -9223372036854775808 ≤ a) (a2 : a ≤ 9223372036854775807) (b1 : -9223372036854775808 ≤ b) (b2 : b ≤ 9223372036854775807) (c1 : -9223372036854775808 ≤ c) (c2 : c ≤ 9223372036854775807) (hd : d ≤ 4294967295) (he : e ≤ 4294967295) (hf : f ≤ 4294967295)
    (hA : ∀ W, Env W → Calls Tryd.prog 10 #[] W fun e w' => e = .returned (.bool true) ∧ Below W.heap.size W w') (w : World) (hE : Env w) :
    Calls Tryd.prog 3 #[.int .i64 a, .int .i64 b, .int .i64 c, .int .u32 (d : Int), .int .u32 (e : Int), .int .u32 (f : Int)] w fun e w' => e = .returned (.bool true) ∧ Below w.heap.size w w' := by
  have ha := shr_i64 a1 a2
  have hb := shr_i64 b1 b2
  have hc := shr_i64 c1 c2
  have mx := rMade (a / 2 ^ 4) d (by omega) (by omega) hd
  have my := rMade (b / 2 ^ 4) e (by omega) (by omega) he
  have mz := rMade (c / 2 ^ 4) f (by omega) (by omega) hf
  have bx := made_bd d ha hd
  have bY := made_bd e hb he
  have bz := made_bd f hc hf
  generalize fr (a / 2 ^ 4) (d + 1) = X at *
  generalize fr (b / 2 ^ 4) (e + 1) = Y at *
  generalize fr (c / 2 ^ 4) (f + 1) = Z at *
  have fx : fits X := bd_fits bx (by decide +kernel) (by decide +kernel)
  have fy : fits Y := bd_fits bY (by decide +kernel) (by decide +kernel)
  have fz : fits Z := bd_fits bz (by decide +kernel) (by decide +kernel)
  have f0 : fits 0 := by decide +kernel
  by_cases h0 : Y = 0
  · subst h0
    rw [ratV_zero] at my
    have fl := bd_fits (bd_add bx bz) (by decide +kernel) (by decide +kernel)
    have fi := bd_fits (bd_mul bx bz) (by decide +kernel) (by decide +kernel)
    exact FracField_zero w a b c d e f (decide (X.num < 0)) X.num.natAbs X.den fx.1 fx.2 (decide (Z.num < 0)) Z.num.natAbs Z.den fz.1 fz.2 (decide ((X + Z).num < 0)) (X + Z).num.natAbs (X + Z).den fl.1 fl.2 (decide ((X * Z).num < 0)) (X * Z).num.natAbs (X * Z).den fi.1 fi.2 
      (fun W hW => hA W (hE.keep hW))
      mx
      my
      mz
      (by have h := rAdd X 0 X fx f0 (by grind) fx; rwa [ratV_zero] at h)
      (by have h := rAdd 0 X X f0 fx (by grind) fx; rwa [ratV_zero] at h)
      (by have h := rAdd 0 Z Z f0 fz (by grind) fz; rwa [ratV_zero] at h)
      (rAdd X Z _ fx fz rfl fl)
      (by have h := rSub X 0 X fx f0 (by grind) fx; rwa [ratV_zero] at h)
      (by have h := rMul X 0 0 fx f0 (by grind) f0; rwa [ratV_zero] at h)
      (by have h := rMul 0 X 0 f0 fx (by grind) f0; rwa [ratV_zero] at h)
      (by have h := rMul 0 Z 0 f0 fz (by grind) f0; rwa [ratV_zero] at h)
      (rMul X Z _ fx fz rfl fi)
      (by have h := rAdd (X * Z) 0 (X * Z) fi f0 (by grind) fi; rwa [ratV_zero] at h)
      (by have h := rDiv0 0 f0; rwa [ratV_zero] at h)
      rOf0
  · have hne : decide (decide (Y.num < 0) = false ∧ Y.num.natAbs = 0 ∧ Y.den = 1) = false := by
      simp only [zero_parts, h0, decide_false]
    have fu := bd_fits (bd_add bx bY) (by decide +kernel) (by decide +kernel)
    have fv := bd_fits (bd_add bY bz) (by decide +kernel) (by decide +kernel)
    have fl := bd_fits (bd_add (bd_add bx bY) bz) (by decide +kernel) (by decide +kernel)
    have fp := bd_fits (bd_mul bx bY) (by decide +kernel) (by decide +kernel)
    have fr3 := bd_fits (bd_mul (bd_mul bx bY) bz) (by decide +kernel) (by decide +kernel)
    have fk := bd_fits (bd_mul bY bz) (by decide +kernel) (by decide +kernel)
    have fi := bd_fits (bd_mul bx bz) (by decide +kernel) (by decide +kernel)
    have fm := bd_fits (bd_mul (bd_add bx bY) bz) (by decide +kernel) (by decide +kernel)
    exact FracField_walk w a b c d e f (decide (X.num < 0)) X.num.natAbs X.den fx.1 fx.2 (decide (Y.num < 0)) Y.num.natAbs Y.den fy.1 fy.2 (decide (Z.num < 0)) Z.num.natAbs Z.den fz.1 fz.2 (decide ((X + Y).num < 0)) (X + Y).num.natAbs (X + Y).den fu.1 fu.2 (decide ((Y + Z).num < 0)) (Y + Z).num.natAbs (Y + Z).den fv.1 fv.2 (decide ((X + Y + Z).num < 0)) (X + Y + Z).num.natAbs (X + Y + Z).den fl.1 fl.2 (decide ((X * Y).num < 0)) (X * Y).num.natAbs (X * Y).den fp.1 fp.2 (decide ((X * Y * Z).num < 0)) (X * Y * Z).num.natAbs (X * Y * Z).den fr3.1 fr3.2 (decide ((Y * Z).num < 0)) (Y * Z).num.natAbs (Y * Z).den fk.1 fk.2 (decide ((X * Z).num < 0)) (X * Z).num.natAbs (X * Z).den fi.1 fi.2 (decide (((X + Y) * Z).num < 0)) ((X + Y) * Z).num.natAbs ((X + Y) * Z).den fm.1 fm.2 hne
      (fun W hW => hA W (hE.keep hW))
      mx
      my
      mz
      (rAdd X Y _ fx fy rfl fu)
      (rAdd Y X _ fy fx (by grind) fu)
      (rAdd Y Z _ fy fz rfl fv)
      (rAdd (X + Y) Z _ fu fz rfl fl)
      (rAdd X (Y + Z) _ fx fv (by grind) fl)
      (rSub (X + Y) Y X fu fy (by grind) fx)
      (rMul X Y _ fx fy rfl fp)
      (rMul Y X _ fy fx (by grind) fp)
      (rMul (X * Y) Z _ fp fz rfl fr3)
      (rMul Y Z _ fy fz rfl fk)
      (rMul X (Y * Z) _ fx fk (by grind) fr3)
      (rMul X Z _ fx fz rfl fi)
      (rMul (X + Y) Z _ fu fz rfl fm)
      (rAdd (X * Z) (Y * Z) _ fi fk (by grind) fm)
      (rDiv (X * Y) Y X fp fy h0 (by grind) fx)
      rOf0
end Go.Proofs.YtkfcikijmkgahaaDoor
namespace Go.Proofs.YtkfcikijmkgahaaDoor
open Go.RowKit Tw
set_option maxRecDepth 100000 in
set_option maxHeartbeats 4000000 in
theorem FracOrder_w00 (w : World) (a b c d e f : Int) (sx : Bool) (nx dx : Nat) (Hnx : nx < R 8) (Hdx : dx < R 8) (sy : Bool) (ny dy : Nat) (Hny : ny < R 8) (Hdy : dy < R 8) (sz : Bool) (nz dz : Nat) (Hnz : nz < R 8) (Hdz : dz < R 8) (sl : Bool) (nl dl : Nat) (Hnl : nl < R 8) (Hdl : dl < R 8) (sp : Bool) (np dp : Nat) (Hnp : np < R 8) (Hdp : dp < R 8) (sq : Bool) (nq dq : Nat) (Hnq : nq < R 8) (Hdq : dq < R 8) (sr : Bool) (nr dr : Nat) (Hnr : nr < R 8) (Hdr : dr < R 8) (ss : Bool) (ns ds : Nat) (Hns : ns < R 8) (Hds : ds < R 8) 
    (Hne_0 : decide (sx = sy ∧ nx = ny ∧ dx = dy) = false)
    (HAw : Hid (∀ W, Below w.heap.size w W → Calls Tryd.prog 10 #[] W fun e w' => e = .returned (.bool true) ∧ Below W.heap.size W w'))
    (HM1 : Hid (∀ W, Calls Tryd.prog 11 #[.int .i64 (a / 2 ^ 4), .int .u32 d] W fun e w' => e = .returned (.agg (frcC sx nx dx)) ∧ Below W.heap.size W w'))
    (HM2 : Hid (∀ W, Calls Tryd.prog 11 #[.int .i64 (b / 2 ^ 4), .int .u32 e] W fun e w' => e = .returned (.agg (frcC sy ny dy)) ∧ Below W.heap.size W w'))
    (HM3 : Hid (∀ W, Calls Tryd.prog 11 #[.int .i64 (c / 2 ^ 4), .int .u32 f] W fun e w' => e = .returned (.agg (frcC sz nz dz)) ∧ Below W.heap.size W w'))
    (HC1 : Hid (∀ W, Calls Tryd.prog 18 #[.agg (frcC sx nx dx), .agg (frcC sy ny dy)] W fun e w' => e = .returned (.tuple #[.int .i64 (-1), .int .i64 0]) ∧ Below W.heap.size W w'))
    (HC2 : Hid (∀ W, Calls Tryd.prog 18 #[.agg (frcC sy ny dy), .agg (frcC sx nx dx)] W fun e w' => e = .returned (.tuple #[.int .i64 1, .int .i64 0]) ∧ Below W.heap.size W w'))
    (HS : Hid (∀ W, Calls Tryd.prog 13 #[.agg (frcC sx nx dx), .agg (frcC sy ny dy)] W fun e w' => e = .returned (.tuple #[.agg (frcC sl nl dl), .int .i64 0]) ∧ Below W.heap.size W w'))
    (HC3 : Hid (∀ W, Calls Tryd.prog 18 #[.agg (frcC sl nl dl), .agg (frcC false 0 1)] W fun e w' => e = .returned (.tuple #[.int .i64 (-1), .int .i64 0]) ∧ Below W.heap.size W w'))
    (HA1 : Hid (∀ W, Calls Tryd.prog 12 #[.agg (frcC sx nx dx), .agg (frcC sz nz dz)] W fun e w' => e = .returned (.tuple #[.agg (frcC sp np dp), .int .i64 0]) ∧ Below W.heap.size W w'))
    (HA2 : Hid (∀ W, Calls Tryd.prog 12 #[.agg (frcC sy ny dy), .agg (frcC sz nz dz)] W fun e w' => e = .returned (.tuple #[.agg (frcC sq nq dq), .int .i64 0]) ∧ Below W.heap.size W w'))
    (HC4 : Hid (∀ W, Calls Tryd.prog 18 #[.agg (frcC sp np dp), .agg (frcC sq nq dq)] W fun e w' => e = .returned (.tuple #[.int .i64 (-1), .int .i64 0]) ∧ Below W.heap.size W w'))
    (HP1 : Hid (∀ W, Calls Tryd.prog 15 #[.agg (frcC sx nx dx), .agg (frcC sz nz dz)] W fun e w' => e = .returned (.tuple #[.agg (frcC sr nr dr), .int .i64 0]) ∧ Below W.heap.size W w'))
    (HP2 : Hid (∀ W, Calls Tryd.prog 15 #[.agg (frcC sy ny dy), .agg (frcC sz nz dz)] W fun e w' => e = .returned (.tuple #[.agg (frcC ss ns ds), .int .i64 0]) ∧ Below W.heap.size W w'))
    (HC5 : Hid (∀ W, Calls Tryd.prog 18 #[.agg (frcC sr nr dr), .agg (frcC ss ns ds)] W fun e w' => e = .returned (.tuple #[.int .i64 1, .int .i64 0]) ∧ Below W.heap.size W w'))
    (HC6 : Hid (∀ W, Calls Tryd.prog 18 #[.agg (frcC sz nz dz), .agg (frcC false 0 1)] W fun e w' => e = .returned (.tuple #[.int .i64 (-1), .int .i64 0]) ∧ Below W.heap.size W w'))
    (HO0 : Hid (∀ W, Calls Tryd.prog 16 #[.int .i64 0] W fun e w' => e = .returned (.agg (frcC false 0 1)) ∧ Below W.heap.size W w')) :
    Calls Tryd.prog 4 #[.int .i64 a, .int .i64 b, .int .i64 c, .int .u32 d, .int .u32 e, .int .u32 f] w fun e w' => e = .returned (.bool true) ∧ Below w.heap.size w w' := by
  go_enter Tryd.func4, Tryd.ntmps4
  refine wp_seq ?_
  refine wp_region_L (W0 := w) [] (KS.start w) ?_
  refine wpL_p (v := .bool false) rfl (by kernel_rfl) rfl (fun _ => by kernel_rfl) (by simp only [List.setIfInBounds_toArray, List.set_cons_succ, List.set_cons_zero] <;> rfl) ?_
  refine wpL_done (fun W1 hW1 => ?_)
  refine (show Code.wp _ _ _ _ _ from ?_)
  refine wp_seq ?_
  refine wp_seq ?_
  refine wp_region_L (W0 := w) [] (hW1) ?_
  refine wpL_v (v := .bool true) rfl (by kernel_rfl) rfl (yb_call (f := 10) (args := #[]) (fun _ => by kernel_rfl) fun W hW => HAw.out W hW.1) (by simp only [List.setIfInBounds_toArray, List.set_cons_succ, List.set_cons_zero] <;> rfl) ?_
  refine wpL_p (v := .bool false) rfl (by kernel_rfl) rfl (fun _ => by kernel_rfl) (by simp only [List.setIfInBounds_toArray, List.set_cons_succ, List.set_cons_zero] <;> rfl) ?_
  refine wpL_done (fun W2 hW2 => ?_)
  clear hW1
  refine (show Code.wp _ _ _ _ _ from ?_)
  refine wp_cond_false rfl ?_
  refine wp_skip ?_
  refine (show Code.wp _ _ _ _ _ from ?_)
  refine wp_seq ?_
  refine wp_region_L (W0 := w) [] (hW2) ?_
  refine wpL_p (v := .int .i64 a) rfl (by kernel_rfl) rfl (fun _ => by kernel_rfl) (by simp only [List.setIfInBounds_toArray, List.set_cons_succ, List.set_cons_zero] <;> rfl) ?_
  refine wpL_p (v := .int .i64 (a / 2 ^ 4)) rfl (by kernel_rfl) rfl (run_shr4 rfl rfl rfl) (by simp only [List.setIfInBounds_toArray, List.set_cons_succ, List.set_cons_zero] <;> rfl) ?_
  refine wpL_p (v := .int .u32 d) rfl (by kernel_rfl) rfl (fun _ => by kernel_rfl) (by simp only [List.setIfInBounds_toArray, List.set_cons_succ, List.set_cons_zero] <;> rfl) ?_
  refine wpL_v (v := .agg (frcC sx nx dx)) rfl (by kernel_rfl) rfl (yb_call (f := 11) (args := #[.int .i64 (a / 2 ^ 4), .int .u32 d]) (fun _ => by kernel_rfl) fun W hW => HM1.out W) (by simp only [List.setIfInBounds_toArray, List.set_cons_succ, List.set_cons_zero] <;> rfl) ?_
  refine wpL_p (v := .int .i64 b) rfl (by kernel_rfl) rfl (fun _ => by kernel_rfl) (by simp only [List.setIfInBounds_toArray, List.set_cons_succ, List.set_cons_zero] <;> rfl) ?_
  refine wpL_p (v := .int .i64 (b / 2 ^ 4)) rfl (by kernel_rfl) rfl (run_shr4 rfl rfl rfl) (by simp only [List.setIfInBounds_toArray, List.set_cons_succ, List.set_cons_zero] <;> rfl) ?_
  refine wpL_p (v := .int .u32 e) rfl (by kernel_rfl) rfl (fun _ => by kernel_rfl) (by simp only [List.setIfInBounds_toArray, List.set_cons_succ, List.set_cons_zero] <;> rfl) ?_
  refine wpL_v (v := .agg (frcC sy ny dy)) rfl (by kernel_rfl) rfl (yb_call (f := 11) (args := #[.int .i64 (b / 2 ^ 4), .int .u32 e]) (fun _ => by kernel_rfl) fun W hW => HM2.out W) (by simp only [List.setIfInBounds_toArray, List.set_cons_succ, List.set_cons_zero] <;> rfl) ?_
  refine wpL_p (v := .int .i64 c) rfl (by kernel_rfl) rfl (fun _ => by kernel_rfl) (by simp only [List.setIfInBounds_toArray, List.set_cons_succ, List.set_cons_zero] <;> rfl) ?_
  refine wpL_p (v := .int .i64 (c / 2 ^ 4)) rfl (by kernel_rfl) rfl (run_shr4 rfl rfl rfl) (by simp only [List.setIfInBounds_toArray, List.set_cons_succ, List.set_cons_zero] <;> rfl) ?_
  refine wpL_p (v := .int .u32 f) rfl (by kernel_rfl) rfl (fun _ => by kernel_rfl) (by simp only [List.setIfInBounds_toArray, List.set_cons_succ, List.set_cons_zero] <;> rfl) ?_
  refine wpL_v (v := .agg (frcC sz nz dz)) rfl (by kernel_rfl) rfl (yb_call (f := 11) (args := #[.int .i64 (c / 2 ^ 4), .int .u32 f]) (fun _ => by kernel_rfl) fun W hW => HM3.out W) (by simp only [List.setIfInBounds_toArray, List.set_cons_succ, List.set_cons_zero] <;> rfl) ?_
  refine wpL_new (fun g => .pointer (some ⟨g, 0, none⟩)) (obi := .cells (frcC false 0 0) 26 (0, 0)) rfl rfl (fun _ => by rw [frc_zero]; rfl) (fun _ => by simp only [List.setIfInBounds_toArray, List.set_cons_succ, List.set_cons_zero] <;> rfl) fun g1 Bg1 Fg1 => ?_
  try simp only [List.forall_mem_cons] at Fg1
  refine wpL_new (fun g => .pointer (some ⟨g, 0, none⟩)) (obi := .cells (frcC false 0 0) 26 (0, 0)) rfl rfl (fun _ => by rw [frc_zero]; rfl) (fun _ => by simp only [List.setIfInBounds_toArray, List.set_cons_succ, List.set_cons_zero] <;> rfl) fun g2 Bg2 Fg2 => ?_
  try simp only [List.forall_mem_cons] at Fg2
  refine wpL_new (fun g => .pointer (some ⟨g, 0, none⟩)) (obi := .cells (frcC false 0 0) 26 (0, 0)) rfl rfl (fun _ => by rw [frc_zero]; rfl) (fun _ => by simp only [List.setIfInBounds_toArray, List.set_cons_succ, List.set_cons_zero] <;> rfl) fun g3 Bg3 Fg3 => ?_
  try simp only [List.forall_mem_cons] at Fg3
  refine wpL_s [(g3, .cells (frcC false 0 0) 26 (0, 0)), (g2, .cells (frcC false 0 0) 26 (0, 0)), (g1, .cells (frcC sx nx dx) 26 (0, 0))] rfl rfl (st_f (neg := sx) (n := nx) (d := dx) rfl (by kernel_rfl) (by kernel_rfl) (.tail _ (.tail _ (.head _))) (by omega) size27 (by intro p hp; simp only [List.mem_cons, List.not_mem_nil, or_false] at hp; rcases hp with rfl | rfl | rfl; exact .inr ⟨by simp, by simp only; omega⟩; exact .inr ⟨by simp, by simp only; omega⟩; exact .inl rfl)) ?_
  refine wpL_s [(g3, .cells (frcC false 0 0) 26 (0, 0)), (g2, .cells (frcC sy ny dy) 26 (0, 0)), (g1, .cells (frcC sx nx dx) 26 (0, 0))] rfl rfl (st_f (neg := sy) (n := ny) (d := dy) rfl (by kernel_rfl) (by kernel_rfl) (.tail _ (.head _)) (by omega) size27 (by intro p hp; simp only [List.mem_cons, List.not_mem_nil, or_false] at hp; rcases hp with rfl | rfl | rfl; exact .inr ⟨by simp, by simp only; omega⟩; exact .inl rfl; exact .inr ⟨by simp, by simp only; omega⟩)) ?_
  refine wpL_s [(g3, .cells (frcC sz nz dz) 26 (0, 0)), (g2, .cells (frcC sy ny dy) 26 (0, 0)), (g1, .cells (frcC sx nx dx) 26 (0, 0))] rfl rfl (st_f (neg := sz) (n := nz) (d := dz) rfl (by kernel_rfl) (by kernel_rfl) (.head _) (by omega) size27 (by intro p hp; simp only [List.mem_cons, List.not_mem_nil, or_false] at hp; rcases hp with rfl | rfl | rfl; exact .inl rfl; exact .inr ⟨by simp, by simp only; omega⟩; exact .inr ⟨by simp, by simp only; omega⟩)) ?_
  refine wpL_done (fun W3 hW3 => ?_)
  clear hW2
  refine (show Code.wp _ _ _ _ _ from ?_)
  refine wp_seq ?_
  refine wp_region_L (W0 := w) [(g3, .cells (frcC sz nz dz) 26 (0, 0)), (g2, .cells (frcC sy ny dy) 26 (0, 0)), (g1, .cells (frcC sx nx dx) 26 (0, 0))] (hW3) ?_
  refine wpL_v (v := .agg (frcC sx nx dx)) rfl (by kernel_rfl) rfl (yb_load rfl (by kernel_rfl) (.tail _ (.tail _ (.head _))) Tryd.underlying26 rfl size27 (by simp) (frc_whole sx nx dx)) (by simp only [List.setIfInBounds_toArray, List.set_cons_succ, List.set_cons_zero] <;> rfl) ?_
  refine wpL_v (v := .agg (frcC sy ny dy)) rfl (by kernel_rfl) rfl (yb_load rfl (by kernel_rfl) (.tail _ (.head _)) Tryd.underlying26 rfl size27 (by simp) (frc_whole sy ny dy)) (by simp only [List.setIfInBounds_toArray, List.set_cons_succ, List.set_cons_zero] <;> rfl) ?_
  refine wpL_v (v := .tuple #[.int .i64 (-1), .int .i64 0]) rfl (by kernel_rfl) rfl (yb_call (f := 18) (args := #[.agg (frcC sx nx dx), .agg (frcC sy ny dy)]) (fun _ => by kernel_rfl) fun W hW => HC1.out W) (by simp only [List.setIfInBounds_toArray, List.set_cons_succ, List.set_cons_zero] <;> rfl) ?_
  refine wpL_p (v := .tuple #[.int .i64 (-1), .int .i64 0]) rfl (by kernel_rfl) rfl (fun _ => by kernel_rfl) (by simp only [List.setIfInBounds_toArray, List.set_cons_succ, List.set_cons_zero] <;> rfl) ?_
  refine wpL_p (v := .int .i64 (-1)) rfl (by kernel_rfl) rfl (fun _ => by kernel_rfl) (by simp only [List.setIfInBounds_toArray, List.set_cons_succ, List.set_cons_zero] <;> rfl) ?_
  refine wpL_p (v := .int .i64 0) rfl (by kernel_rfl) rfl (fun _ => by kernel_rfl) (by simp only [List.setIfInBounds_toArray, List.set_cons_succ, List.set_cons_zero] <;> rfl) ?_
  refine wpL_p (v := .int .i64 (-1)) rfl (by kernel_rfl) rfl (fun _ => by kernel_rfl) (by simp only [List.setIfInBounds_toArray, List.set_cons_succ, List.set_cons_zero] <;> rfl) ?_
  refine wpL_p (v := .int .i64 0) rfl (by kernel_rfl) rfl (fun _ => by kernel_rfl) (by simp only [List.setIfInBounds_toArray, List.set_cons_succ, List.set_cons_zero] <;> rfl) ?_
  refine wpL_done (fun W4 hW4 => ?_)
  clear hW3
  refine (show Code.wp _ _ _ _ _ from ?_)
  refine wp_seq ?_
  refine wp_region_L (W0 := w) [(g3, .cells (frcC sz nz dz) 26 (0, 0)), (g2, .cells (frcC sy ny dy) 26 (0, 0)), (g1, .cells (frcC sx nx dx) 26 (0, 0))] (hW4) ?_
  refine wpL_v (v := .agg (frcC sy ny dy)) rfl (by kernel_rfl) rfl (yb_load rfl (by kernel_rfl) (.tail _ (.head _)) Tryd.underlying26 rfl size27 (by simp) (frc_whole sy ny dy)) (by simp only [List.setIfInBounds_toArray, List.set_cons_succ, List.set_cons_zero] <;> rfl) ?_
  refine wpL_v (v := .agg (frcC sx nx dx)) rfl (by kernel_rfl) rfl (yb_load rfl (by kernel_rfl) (.tail _ (.tail _ (.head _))) Tryd.underlying26 rfl size27 (by simp) (frc_whole sx nx dx)) (by simp only [List.setIfInBounds_toArray, List.set_cons_succ, List.set_cons_zero] <;> rfl) ?_
  refine wpL_v (v := .tuple #[.int .i64 1, .int .i64 0]) rfl (by kernel_rfl) rfl (yb_call (f := 18) (args := #[.agg (frcC sy ny dy), .agg (frcC sx nx dx)]) (fun _ => by kernel_rfl) fun W hW => HC2.out W) (by simp only [List.setIfInBounds_toArray, List.set_cons_succ, List.set_cons_zero] <;> rfl) ?_
  refine wpL_p (v := .tuple #[.int .i64 1, .int .i64 0]) rfl (by kernel_rfl) rfl (fun _ => by kernel_rfl) (by simp only [List.setIfInBounds_toArray, List.set_cons_succ, List.set_cons_zero] <;> rfl) ?_
  refine wpL_p (v := .int .i64 1) rfl (by kernel_rfl) rfl (fun _ => by kernel_rfl) (by simp only [List.setIfInBounds_toArray, List.set_cons_succ, List.set_cons_zero] <;> rfl) ?_
  refine wpL_p (v := .int .i64 0) rfl (by kernel_rfl) rfl (fun _ => by kernel_rfl) (by simp only [List.setIfInBounds_toArray, List.set_cons_succ, List.set_cons_zero] <;> rfl) ?_
  refine wpL_p (v := .int .i64 1) rfl (by kernel_rfl) rfl (fun _ => by kernel_rfl) (by simp only [List.setIfInBounds_toArray, List.set_cons_succ, List.set_cons_zero] <;> rfl) ?_
  refine wpL_p (v := .int .i64 0) rfl (by kernel_rfl) rfl (fun _ => by kernel_rfl) (by simp only [List.setIfInBounds_toArray, List.set_cons_succ, List.set_cons_zero] <;> rfl) ?_
  refine wpL_done (fun W5 hW5 => ?_)
  clear hW4
  refine (show Code.wp _ _ _ _ _ from ?_)
  refine wp_seq ?_
  refine wp_region_L (W0 := w) [(g3, .cells (frcC sz nz dz) 26 (0, 0)), (g2, .cells (frcC sy ny dy) 26 (0, 0)), (g1, .cells (frcC sx nx dx) 26 (0, 0))] (hW5) ?_
  refine wpL_v (v := .agg (frcC sx nx dx)) rfl (by kernel_rfl) rfl (yb_load rfl (by kernel_rfl) (.tail _ (.tail _ (.head _))) Tryd.underlying26 rfl size27 (by simp) (frc_whole sx nx dx)) (by simp only [List.setIfInBounds_toArray, List.set_cons_succ, List.set_cons_zero] <;> rfl) ?_
  refine wpL_v (v := .agg (frcC sy ny dy)) rfl (by kernel_rfl) rfl (yb_load rfl (by kernel_rfl) (.tail _ (.head _)) Tryd.underlying26 rfl size27 (by simp) (frc_whole sy ny dy)) (by simp only [List.setIfInBounds_toArray, List.set_cons_succ, List.set_cons_zero] <;> rfl) ?_
  refine wpL_v (v := .tuple #[.agg (frcC sl nl dl), .int .i64 0]) rfl (by kernel_rfl) rfl (yb_call (f := 13) (args := #[.agg (frcC sx nx dx), .agg (frcC sy ny dy)]) (fun _ => by kernel_rfl) fun W hW => HS.out W) (by simp only [List.setIfInBounds_toArray, List.set_cons_succ, List.set_cons_zero] <;> rfl) ?_
  refine wpL_p (v := .tuple #[.agg (frcC sl nl dl), .int .i64 0]) rfl (by kernel_rfl) rfl (fun _ => by kernel_rfl) (by simp only [List.setIfInBounds_toArray, List.set_cons_succ, List.set_cons_zero] <;> rfl) ?_
  refine wpL_p (v := .agg (frcC sl nl dl)) rfl (by kernel_rfl) rfl (fun _ => by kernel_rfl) (by simp only [List.setIfInBounds_toArray, List.set_cons_succ, List.set_cons_zero] <;> rfl) ?_
  refine wpL_p (v := .int .i64 0) rfl (by kernel_rfl) rfl (fun _ => by kernel_rfl) (by simp only [List.setIfInBounds_toArray, List.set_cons_succ, List.set_cons_zero] <;> rfl) ?_
  refine wpL_new (fun g => .pointer (some ⟨g, 0, none⟩)) (obi := .cells (frcC false 0 0) 26 (0, 0)) rfl rfl (fun _ => by rw [frc_zero]; rfl) (fun _ => by simp only [List.setIfInBounds_toArray, List.set_cons_succ, List.set_cons_zero] <;> rfl) fun g4 Bg4 Fg4 => ?_
  try simp only [List.forall_mem_cons] at Fg4
  refine wpL_s [(g4, .cells (frcC sl nl dl) 26 (0, 0)), (g3, .cells (frcC sz nz dz) 26 (0, 0)), (g2, .cells (frcC sy ny dy) 26 (0, 0)), (g1, .cells (frcC sx nx dx) 26 (0, 0))] rfl rfl (st_f (neg := sl) (n := nl) (d := dl) rfl (by kernel_rfl) (by kernel_rfl) (.head _) (by omega) size27 (by intro p hp; simp only [List.mem_cons, List.not_mem_nil, or_false] at hp; rcases hp with rfl | rfl | rfl | rfl; exact .inl rfl; exact .inr ⟨by simp, by simp only; omega⟩; exact .inr ⟨by simp, by simp only; omega⟩; exact .inr ⟨by simp, by simp only; omega⟩)) ?_
  refine wpL_p (v := .int .i64 0) rfl (by kernel_rfl) rfl (fun _ => by kernel_rfl) (by simp only [List.setIfInBounds_toArray, List.set_cons_succ, List.set_cons_zero] <;> rfl) ?_
  refine wpL_done (fun W6 hW6 => ?_)
  clear hW5
  refine (show Code.wp _ _ _ _ _ from ?_)
  refine wp_seq ?_
  refine wp_region_V (W0 := w) [(g4, .cells (frcC sl nl dl) 26 (0, 0)), (g3, .cells (frcC sz nz dz) 26 (0, 0)), (g2, .cells (frcC sy ny dy) 26 (0, 0)), (g1, .cells (frcC sx nx dx) 26 (0, 0))] (by kernel_rfl) (hW6) ?_
  refine wpV_v (i := 0) (v := .agg (frcC sl nl dl)) rfl rfl (by kernel_rfl) (by kernel_rfl) rfl (yb_load rfl (by kernel_rfl) (.head _) Tryd.underlying26 rfl size27 (by simp) (frc_whole sl nl dl)) (by simp only [List.setIfInBounds_toArray, List.set_cons_succ, List.set_cons_zero] <;> rfl) ?_
  refine wpV_v (i := 1) (v := .agg (frcC false 0 1)) rfl rfl (by kernel_rfl) (by kernel_rfl) rfl (yb_call (f := 16) (args := #[.int .i64 0]) (fun _ => by kernel_rfl) fun W hW => HO0.out W) (by simp only [List.setIfInBounds_toArray, List.set_cons_succ, List.set_cons_zero] <;> rfl) ?_
  refine wpV_v (i := 2) (v := .tuple #[.int .i64 (-1), .int .i64 0]) rfl rfl (by kernel_rfl) (by kernel_rfl) rfl (yb_call (f := 18) (args := #[.agg (frcC sl nl dl), .agg (frcC false 0 1)]) (fun _ => by kernel_rfl) fun W hW => HC3.out W) (by simp only [List.setIfInBounds_toArray, List.set_cons_succ, List.set_cons_zero] <;> rfl) ?_
  refine wpV_p (i := 3) (v := .tuple #[.int .i64 (-1), .int .i64 0]) rfl rfl (by kernel_rfl) (by kernel_rfl) rfl (fun _ => by kernel_rfl) (by simp only [List.setIfInBounds_toArray, List.set_cons_succ, List.set_cons_zero] <;> rfl) ?_
  refine wpV_p (i := 4) (v := .int .i64 (-1)) rfl rfl (by kernel_rfl) (by kernel_rfl) rfl (fun _ => by kernel_rfl) (by simp only [List.setIfInBounds_toArray, List.set_cons_succ, List.set_cons_zero] <;> rfl) ?_
  refine wpV_p (i := 5) (v := .int .i64 0) rfl rfl (by kernel_rfl) (by kernel_rfl) rfl (fun _ => by kernel_rfl) (by simp only [List.setIfInBounds_toArray, List.set_cons_succ, List.set_cons_zero] <;> rfl) ?_
  refine wpV_p (i := 6) (v := .int .i64 (-1)) rfl rfl (by kernel_rfl) (by kernel_rfl) rfl (fun _ => by kernel_rfl) (by simp only [List.setIfInBounds_toArray, List.set_cons_succ, List.set_cons_zero] <;> rfl) ?_
  refine wpV_p (i := 7) (v := .int .i64 0) rfl rfl (by kernel_rfl) (by kernel_rfl) rfl (fun _ => by kernel_rfl) (by simp only [List.setIfInBounds_toArray, List.set_cons_succ, List.set_cons_zero] <;> rfl) ?_
  refine wpV_done (by kernel_rfl) (fun W7 hW7 => ?_) _
  clear hW6
  refine (show Code.wp _ _ _ _ _ from ?_)
  refine wp_seq ?_
  refine wp_seq ?_
  refine wp_region_L (W0 := w) [(g4, .cells (frcC sl nl dl) 26 (0, 0)), (g3, .cells (frcC sz nz dz) 26 (0, 0)), (g2, .cells (frcC sy ny dy) 26 (0, 0)), (g1, .cells (frcC sx nx dx) 26 (0, 0))] (hW7) ?_
  refine wpL_p (v := .int .i64 0) rfl (by kernel_rfl) rfl (fun _ => by kernel_rfl) (by simp only [List.setIfInBounds_toArray, List.set_cons_succ, List.set_cons_zero] <;> rfl) ?_
  refine wpL_p (v := .int .i64 0) rfl (by kernel_rfl) rfl (fun _ => by kernel_rfl) (by simp only [List.setIfInBounds_toArray, List.set_cons_succ, List.set_cons_zero] <;> rfl) ?_
  refine wpL_p (v := .int .i64 0) rfl (by kernel_rfl) rfl (fun _ => by kernel_rfl) (by simp only [List.setIfInBounds_toArray, List.set_cons_succ, List.set_cons_zero] <;> rfl) ?_
  refine wpL_p (v := .int .i64 0) rfl (by kernel_rfl) rfl (fun _ => by kernel_rfl) (by simp only [List.setIfInBounds_toArray, List.set_cons_succ, List.set_cons_zero] <;> rfl) ?_
  refine wpL_new (fun g => .slice (some ⟨g, 0, none⟩) 4 4) (obi := .cells #[.int .i64 0, .int .i64 0, .int .i64 0, .int .i64 0] 29 (0, 0)) rfl rfl (fun _ => by kernel_rfl) (fun _ => by simp only [List.setIfInBounds_toArray, List.set_cons_succ, List.set_cons_zero] <;> rfl) fun g5 Bg5 Fg5 => ?_
  try simp only [List.forall_mem_cons] at Fg5
  refine wpL_v (v := .bool true) rfl (by kernel_rfl) rfl (yb_call (f := 14) (args := #[.slice (some ⟨g5, 0, none⟩) 4 4]) (fun _ => by kernel_rfl) fun W hW => all_W 4 (by omega) rfl (hW.2 _ (.head _))) (by simp only [List.setIfInBounds_toArray, List.set_cons_succ, List.set_cons_zero] <;> rfl) ?_
  refine wpL_p (v := .bool false) rfl (by kernel_rfl) rfl (fun _ => by kernel_rfl) (by simp only [List.setIfInBounds_toArray, List.set_cons_succ, List.set_cons_zero] <;> rfl) ?_
  refine wpL_p (v := .bool false) rfl (by kernel_rfl) rfl (fun _ => by kernel_rfl) (by simp only [List.setIfInBounds_toArray, List.set_cons_succ, List.set_cons_zero] <;> rfl) ?_
  refine wpL_p (v := .int .i64 (-1)) rfl (by kernel_rfl) rfl (fun _ => by kernel_rfl) (by simp only [List.setIfInBounds_toArray, List.set_cons_succ, List.set_cons_zero] <;> rfl) ?_
  refine wpL_p (v := .int .i64 1) rfl (by kernel_rfl) rfl (fun _ => by kernel_rfl) (by simp only [List.setIfInBounds_toArray, List.set_cons_succ, List.set_cons_zero] <;> rfl) ?_
  refine wpL_p (v := .int .i64 (-1)) rfl (by kernel_rfl) rfl (fun _ => by kernel_rfl) (by simp only [List.setIfInBounds_toArray, List.set_cons_succ, List.set_cons_zero] <;> rfl) ?_
  refine wpL_p (v := .bool false) rfl (by kernel_rfl) rfl (fun _ => by kernel_rfl) (by simp only [List.setIfInBounds_toArray, List.set_cons_succ, List.set_cons_zero] <;> rfl) ?_
  refine wpL_p (v := .bool false) rfl (by kernel_rfl) rfl (fun _ => by kernel_rfl) (by simp only [List.setIfInBounds_toArray, List.set_cons_succ, List.set_cons_zero] <;> rfl) ?_
  refine wpL_p (v := .bool false) rfl (by kernel_rfl) rfl (fun _ => by kernel_rfl) (by simp only [List.setIfInBounds_toArray, List.set_cons_succ, List.set_cons_zero] <;> rfl) ?_
  refine wpL_p (v := .int .i64 (-1)) rfl (by kernel_rfl) rfl (fun _ => by kernel_rfl) (by simp only [List.setIfInBounds_toArray, List.set_cons_succ, List.set_cons_zero] <;> rfl) ?_
  refine wpL_p (v := .int .i64 (-1)) rfl (by kernel_rfl) rfl (fun _ => by kernel_rfl) (by simp only [List.setIfInBounds_toArray, List.set_cons_succ, List.set_cons_zero] <;> rfl) ?_
  refine wpL_p (v := .bool false) rfl (by kernel_rfl) rfl (fun _ => by kernel_rfl) (by simp only [List.setIfInBounds_toArray, List.set_cons_succ, List.set_cons_zero] <;> rfl) ?_
  refine wpL_p (v := .bool false) rfl (by kernel_rfl) rfl (fun _ => by kernel_rfl) (by simp only [List.setIfInBounds_toArray, List.set_cons_succ, List.set_cons_zero] <;> rfl) ?_
  refine wpL_p (v := .bool false) rfl (by kernel_rfl) rfl (fun _ => by kernel_rfl) (by simp only [List.setIfInBounds_toArray, List.set_cons_succ, List.set_cons_zero] <;> rfl) ?_
  refine wpL_p (v := .int .i64 (-1)) rfl (by kernel_rfl) rfl (fun _ => by kernel_rfl) (by simp only [List.setIfInBounds_toArray, List.set_cons_succ, List.set_cons_zero] <;> rfl) ?_
  refine wpL_p (v := .bool false) rfl (by kernel_rfl) rfl (fun _ => by kernel_rfl) (by simp only [List.setIfInBounds_toArray, List.set_cons_succ, List.set_cons_zero] <;> rfl) ?_
  refine wpL_v (v := .agg (frcC sx nx dx)) rfl (by kernel_rfl) rfl (yb_load rfl (by kernel_rfl) (.tail _ (.tail _ (.tail _ (.tail _ (.head _))))) Tryd.underlying26 rfl size27 (by simp) (frc_whole sx nx dx)) (by simp only [List.setIfInBounds_toArray, List.set_cons_succ, List.set_cons_zero] <;> rfl) ?_
  refine wpL_v (v := .agg (frcC sy ny dy)) rfl (by kernel_rfl) rfl (yb_load rfl (by kernel_rfl) (.tail _ (.tail _ (.tail _ (.head _)))) Tryd.underlying26 rfl size27 (by simp) (frc_whole sy ny dy)) (by simp only [List.setIfInBounds_toArray, List.set_cons_succ, List.set_cons_zero] <;> rfl) ?_
  refine wpL_p (v := .bool false) rfl (by kernel_rfl) rfl (run_bin rfl (vx := .agg (frcC sx nx dx)) (vy := .agg (frcC sy ny dy)) (by kernel_rfl) (by kernel_rfl) fun w => run_eql27x Hnx Hny Hdx Hdy Hne_0 w) (by simp only [List.setIfInBounds_toArray, List.set_cons_succ, List.set_cons_zero] <;> rfl) ?_
  refine wpL_p (v := .bool false) rfl (by kernel_rfl) rfl (fun _ => by kernel_rfl) (by simp only [List.setIfInBounds_toArray, List.set_cons_succ, List.set_cons_zero] <;> rfl) ?_
  refine wpL_p (v := .bool false) rfl (by kernel_rfl) rfl (fun _ => by kernel_rfl) (by simp only [List.setIfInBounds_toArray, List.set_cons_succ, List.set_cons_zero] <;> rfl) ?_
  refine wpL_p (v := .bool false) rfl (by kernel_rfl) rfl (fun _ => by kernel_rfl) (by simp only [List.setIfInBounds_toArray, List.set_cons_succ, List.set_cons_zero] <;> rfl) ?_
  refine wpL_p (v := .int .i64 (-1)) rfl (by kernel_rfl) rfl (fun _ => by kernel_rfl) (by simp only [List.setIfInBounds_toArray, List.set_cons_succ, List.set_cons_zero] <;> rfl) ?_
  refine wpL_p (v := .bool false) rfl (by kernel_rfl) rfl (fun _ => by kernel_rfl) (by simp only [List.setIfInBounds_toArray, List.set_cons_succ, List.set_cons_zero] <;> rfl) ?_
  refine wpL_p (v := .bool false) rfl (by kernel_rfl) rfl (fun _ => by kernel_rfl) (by simp only [List.setIfInBounds_toArray, List.set_cons_succ, List.set_cons_zero] <;> rfl) ?_
  refine wpL_p (v := .bool false) rfl (by kernel_rfl) rfl (fun _ => by kernel_rfl) (by simp only [List.setIfInBounds_toArray, List.set_cons_succ, List.set_cons_zero] <;> rfl) ?_
  refine wpL_p (v := .int .i64 (-1)) rfl (by kernel_rfl) rfl (fun _ => by kernel_rfl) (by simp only [List.setIfInBounds_toArray, List.set_cons_succ, List.set_cons_zero] <;> rfl) ?_
  refine wpL_p (v := .bool false) rfl (by kernel_rfl) rfl (fun _ => by kernel_rfl) (by simp only [List.setIfInBounds_toArray, List.set_cons_succ, List.set_cons_zero] <;> rfl) ?_
  refine wpL_p (v := .bool false) rfl (by kernel_rfl) rfl (fun _ => by kernel_rfl) (by simp only [List.setIfInBounds_toArray, List.set_cons_succ, List.set_cons_zero] <;> rfl) ?_
  refine wpL_done (fun W8 hW8 => ?_)
  clear hW7
  refine (show Code.wp _ _ _ _ _ from ?_)
  refine wp_cond_false rfl ?_
  refine wp_skip ?_
  refine (show Code.wp _ _ _ _ _ from ?_)
  refine wp_seq ?_
  refine wp_region_L (W0 := w) [(g5, .cells #[.int .i64 0, .int .i64 0, .int .i64 0, .int .i64 0] 29 (0, 0)), (g4, .cells (frcC sl nl dl) 26 (0, 0)), (g3, .cells (frcC sz nz dz) 26 (0, 0)), (g2, .cells (frcC sy ny dy) 26 (0, 0)), (g1, .cells (frcC sx nx dx) 26 (0, 0))] (hW8) ?_
  refine wpL_v (v := .agg (frcC sx nx dx)) rfl (by kernel_rfl) rfl (yb_load rfl (by kernel_rfl) (.tail _ (.tail _ (.tail _ (.tail _ (.head _))))) Tryd.underlying26 rfl size27 (by simp) (frc_whole sx nx dx)) (by simp only [List.setIfInBounds_toArray, List.set_cons_succ, List.set_cons_zero] <;> rfl) ?_
  refine wpL_v (v := .agg (frcC sz nz dz)) rfl (by kernel_rfl) rfl (yb_load rfl (by kernel_rfl) (.tail _ (.tail _ (.head _))) Tryd.underlying26 rfl size27 (by simp) (frc_whole sz nz dz)) (by simp only [List.setIfInBounds_toArray, List.set_cons_succ, List.set_cons_zero] <;> rfl) ?_
  refine wpL_v (v := .tuple #[.agg (frcC sp np dp), .int .i64 0]) rfl (by kernel_rfl) rfl (yb_call (f := 12) (args := #[.agg (frcC sx nx dx), .agg (frcC sz nz dz)]) (fun _ => by kernel_rfl) fun W hW => HA1.out W) (by simp only [List.setIfInBounds_toArray, List.set_cons_succ, List.set_cons_zero] <;> rfl) ?_
  refine wpL_p (v := .tuple #[.agg (frcC sp np dp), .int .i64 0]) rfl (by kernel_rfl) rfl (fun _ => by kernel_rfl) (by simp only [List.setIfInBounds_toArray, List.set_cons_succ, List.set_cons_zero] <;> rfl) ?_
  refine wpL_p (v := .agg (frcC sp np dp)) rfl (by kernel_rfl) rfl (fun _ => by kernel_rfl) (by simp only [List.setIfInBounds_toArray, List.set_cons_succ, List.set_cons_zero] <;> rfl) ?_
  refine wpL_p (v := .int .i64 0) rfl (by kernel_rfl) rfl (fun _ => by kernel_rfl) (by simp only [List.setIfInBounds_toArray, List.set_cons_succ, List.set_cons_zero] <;> rfl) ?_
  refine wpL_new (fun g => .pointer (some ⟨g, 0, none⟩)) (obi := .cells (frcC false 0 0) 26 (0, 0)) rfl rfl (fun _ => by rw [frc_zero]; rfl) (fun _ => by simp only [List.setIfInBounds_toArray, List.set_cons_succ, List.set_cons_zero] <;> rfl) fun g6 Bg6 Fg6 => ?_
  try simp only [List.forall_mem_cons] at Fg6
  refine wpL_s [(g6, .cells (frcC sp np dp) 26 (0, 0)), (g5, .cells #[.int .i64 0, .int .i64 0, .int .i64 0, .int .i64 0] 29 (0, 0)), (g4, .cells (frcC sl nl dl) 26 (0, 0)), (g3, .cells (frcC sz nz dz) 26 (0, 0)), (g2, .cells (frcC sy ny dy) 26 (0, 0)), (g1, .cells (frcC sx nx dx) 26 (0, 0))] rfl rfl (st_f (neg := sp) (n := np) (d := dp) rfl (by kernel_rfl) (by kernel_rfl) (.head _) (by omega) size27 (by intro p hp; simp only [List.mem_cons, List.not_mem_nil, or_false] at hp; rcases hp with rfl | rfl | rfl | rfl | rfl | rfl; exact .inl rfl; exact .inr ⟨by simp, by simp only; omega⟩; exact .inr ⟨by simp, by simp only; omega⟩; exact .inr ⟨by simp, by simp only; omega⟩; exact .inr ⟨by simp, by simp only; omega⟩; exact .inr ⟨by simp, by simp only; omega⟩)) ?_
  refine wpL_p (v := .int .i64 0) rfl (by kernel_rfl) rfl (fun _ => by kernel_rfl) (by simp only [List.setIfInBounds_toArray, List.set_cons_succ, List.set_cons_zero] <;> rfl) ?_
  refine wpL_done (fun W9 hW9 => ?_)
  clear hW8
  refine (show Code.wp _ _ _ _ _ from ?_)
  refine wp_seq ?_
  refine wp_region_L (W0 := w) [(g6, .cells (frcC sp np dp) 26 (0, 0)), (g5, .cells #[.int .i64 0, .int .i64 0, .int .i64 0, .int .i64 0] 29 (0, 0)), (g4, .cells (frcC sl nl dl) 26 (0, 0)), (g3, .cells (frcC sz nz dz) 26 (0, 0)), (g2, .cells (frcC sy ny dy) 26 (0, 0)), (g1, .cells (frcC sx nx dx) 26 (0, 0))] (hW9) ?_
  refine wpL_v (v := .agg (frcC sy ny dy)) rfl (by kernel_rfl) rfl (yb_load rfl (by kernel_rfl) (.tail _ (.tail _ (.tail _ (.tail _ (.head _))))) Tryd.underlying26 rfl size27 (by simp) (frc_whole sy ny dy)) (by simp only [List.setIfInBounds_toArray, List.set_cons_succ, List.set_cons_zero] <;> rfl) ?_
  refine wpL_v (v := .agg (frcC sz nz dz)) rfl (by kernel_rfl) rfl (yb_load rfl (by kernel_rfl) (.tail _ (.tail _ (.tail _ (.head _)))) Tryd.underlying26 rfl size27 (by simp) (frc_whole sz nz dz)) (by simp only [List.setIfInBounds_toArray, List.set_cons_succ, List.set_cons_zero] <;> rfl) ?_
  refine wpL_v (v := .tuple #[.agg (frcC sq nq dq), .int .i64 0]) rfl (by kernel_rfl) rfl (yb_call (f := 12) (args := #[.agg (frcC sy ny dy), .agg (frcC sz nz dz)]) (fun _ => by kernel_rfl) fun W hW => HA2.out W) (by simp only [List.setIfInBounds_toArray, List.set_cons_succ, List.set_cons_zero] <;> rfl) ?_
  refine wpL_p (v := .tuple #[.agg (frcC sq nq dq), .int .i64 0]) rfl (by kernel_rfl) rfl (fun _ => by kernel_rfl) (by simp only [List.setIfInBounds_toArray, List.set_cons_succ, List.set_cons_zero] <;> rfl) ?_
  refine wpL_p (v := .agg (frcC sq nq dq)) rfl (by kernel_rfl) rfl (fun _ => by kernel_rfl) (by simp only [List.setIfInBounds_toArray, List.set_cons_succ, List.set_cons_zero] <;> rfl) ?_
  refine wpL_p (v := .int .i64 0) rfl (by kernel_rfl) rfl (fun _ => by kernel_rfl) (by simp only [List.setIfInBounds_toArray, List.set_cons_succ, List.set_cons_zero] <;> rfl) ?_
  refine wpL_new (fun g => .pointer (some ⟨g, 0, none⟩)) (obi := .cells (frcC false 0 0) 26 (0, 0)) rfl rfl (fun _ => by rw [frc_zero]; rfl) (fun _ => by simp only [List.setIfInBounds_toArray, List.set_cons_succ, List.set_cons_zero] <;> rfl) fun g7 Bg7 Fg7 => ?_
  try simp only [List.forall_mem_cons] at Fg7
  refine wpL_s [(g7, .cells (frcC sq nq dq) 26 (0, 0)), (g6, .cells (frcC sp np dp) 26 (0, 0)), (g5, .cells #[.int .i64 0, .int .i64 0, .int .i64 0, .int .i64 0] 29 (0, 0)), (g4, .cells (frcC sl nl dl) 26 (0, 0)), (g3, .cells (frcC sz nz dz) 26 (0, 0)), (g2, .cells (frcC sy ny dy) 26 (0, 0)), (g1, .cells (frcC sx nx dx) 26 (0, 0))] rfl rfl (st_f (neg := sq) (n := nq) (d := dq) rfl (by kernel_rfl) (by kernel_rfl) (.head _) (by omega) size27 (by intro p hp; simp only [List.mem_cons, List.not_mem_nil, or_false] at hp; rcases hp with rfl | rfl | rfl | rfl | rfl | rfl | rfl; exact .inl rfl; exact .inr ⟨by simp, by simp only; omega⟩; exact .inr ⟨by simp, by simp only; omega⟩; exact .inr ⟨by simp, by simp only; omega⟩; exact .inr ⟨by simp, by simp only; omega⟩; exact .inr ⟨by simp, by simp only; omega⟩; exact .inr ⟨by simp, by simp only; omega⟩)) ?_
  refine wpL_p (v := .int .i64 0) rfl (by kernel_rfl) rfl (fun _ => by kernel_rfl) (by simp only [List.setIfInBounds_toArray, List.set_cons_succ, List.set_cons_zero] <;> rfl) ?_
  refine wpL_done (fun W10 hW10 => ?_)
  clear hW9
  refine (show Code.wp _ _ _ _ _ from ?_)
  refine wp_seq ?_
  refine wp_region_L (W0 := w) [(g7, .cells (frcC sq nq dq) 26 (0, 0)), (g6, .cells (frcC sp np dp) 26 (0, 0)), (g5, .cells #[.int .i64 0, .int .i64 0, .int .i64 0, .int .i64 0] 29 (0, 0)), (g4, .cells (frcC sl nl dl) 26 (0, 0)), (g3, .cells (frcC sz nz dz) 26 (0, 0)), (g2, .cells (frcC sy ny dy) 26 (0, 0)), (g1, .cells (frcC sx nx dx) 26 (0, 0))] (hW10) ?_
  refine wpL_v (v := .agg (frcC sp np dp)) rfl (by kernel_rfl) rfl (yb_load rfl (by kernel_rfl) (.tail _ (.head _)) Tryd.underlying26 rfl size27 (by simp) (frc_whole sp np dp)) (by simp only [List.setIfInBounds_toArray, List.set_cons_succ, List.set_cons_zero] <;> rfl) ?_
  refine wpL_v (v := .agg (frcC sq nq dq)) rfl (by kernel_rfl) rfl (yb_load rfl (by kernel_rfl) (.head _) Tryd.underlying26 rfl size27 (by simp) (frc_whole sq nq dq)) (by simp only [List.setIfInBounds_toArray, List.set_cons_succ, List.set_cons_zero] <;> rfl) ?_
  refine wpL_v (v := .tuple #[.int .i64 (-1), .int .i64 0]) rfl (by kernel_rfl) rfl (yb_call (f := 18) (args := #[.agg (frcC sp np dp), .agg (frcC sq nq dq)]) (fun _ => by kernel_rfl) fun W hW => HC4.out W) (by simp only [List.setIfInBounds_toArray, List.set_cons_succ, List.set_cons_zero] <;> rfl) ?_
  refine wpL_p (v := .tuple #[.int .i64 (-1), .int .i64 0]) rfl (by kernel_rfl) rfl (fun _ => by kernel_rfl) (by simp only [List.setIfInBounds_toArray, List.set_cons_succ, List.set_cons_zero] <;> rfl) ?_
  refine wpL_p (v := .int .i64 (-1)) rfl (by kernel_rfl) rfl (fun _ => by kernel_rfl) (by simp only [List.setIfInBounds_toArray, List.set_cons_succ, List.set_cons_zero] <;> rfl) ?_
  refine wpL_p (v := .int .i64 0) rfl (by kernel_rfl) rfl (fun _ => by kernel_rfl) (by simp only [List.setIfInBounds_toArray, List.set_cons_succ, List.set_cons_zero] <;> rfl) ?_
  refine wpL_p (v := .int .i64 (-1)) rfl (by kernel_rfl) rfl (fun _ => by kernel_rfl) (by simp only [List.setIfInBounds_toArray, List.set_cons_succ, List.set_cons_zero] <;> rfl) ?_
  refine wpL_p (v := .int .i64 0) rfl (by kernel_rfl) rfl (fun _ => by kernel_rfl) (by simp only [List.setIfInBounds_toArray, List.set_cons_succ, List.set_cons_zero] <;> rfl) ?_
  refine wpL_done (fun W11 hW11 => ?_)
  clear hW10
  refine (show Code.wp _ _ _ _ _ from ?_)
  refine wp_seq ?_
  refine wp_region_L (W0 := w) [(g7, .cells (frcC sq nq dq) 26 (0, 0)), (g6, .cells (frcC sp np dp) 26 (0, 0)), (g5, .cells #[.int .i64 0, .int .i64 0, .int .i64 0, .int .i64 0] 29 (0, 0)), (g4, .cells (frcC sl nl dl) 26 (0, 0)), (g3, .cells (frcC sz nz dz) 26 (0, 0)), (g2, .cells (frcC sy ny dy) 26 (0, 0)), (g1, .cells (frcC sx nx dx) 26 (0, 0))] (hW11) ?_
  refine wpL_v (v := .agg (frcC sx nx dx)) rfl (by kernel_rfl) rfl (yb_load rfl (by kernel_rfl) (.tail _ (.tail _ (.tail _ (.tail _ (.tail _ (.tail _ (.head _))))))) Tryd.underlying26 rfl size27 (by simp) (frc_whole sx nx dx)) (by simp only [List.setIfInBounds_toArray, List.set_cons_succ, List.set_cons_zero] <;> rfl) ?_
  refine wpL_v (v := .agg (frcC sz nz dz)) rfl (by kernel_rfl) rfl (yb_load rfl (by kernel_rfl) (.tail _ (.tail _ (.tail _ (.tail _ (.head _))))) Tryd.underlying26 rfl size27 (by simp) (frc_whole sz nz dz)) (by simp only [List.setIfInBounds_toArray, List.set_cons_succ, List.set_cons_zero] <;> rfl) ?_
  refine wpL_v (v := .tuple #[.agg (frcC sr nr dr), .int .i64 0]) rfl (by kernel_rfl) rfl (yb_call (f := 15) (args := #[.agg (frcC sx nx dx), .agg (frcC sz nz dz)]) (fun _ => by kernel_rfl) fun W hW => HP1.out W) (by simp only [List.setIfInBounds_toArray, List.set_cons_succ, List.set_cons_zero] <;> rfl) ?_
  refine wpL_p (v := .tuple #[.agg (frcC sr nr dr), .int .i64 0]) rfl (by kernel_rfl) rfl (fun _ => by kernel_rfl) (by simp only [List.setIfInBounds_toArray, List.set_cons_succ, List.set_cons_zero] <;> rfl) ?_
  refine wpL_p (v := .agg (frcC sr nr dr)) rfl (by kernel_rfl) rfl (fun _ => by kernel_rfl) (by simp only [List.setIfInBounds_toArray, List.set_cons_succ, List.set_cons_zero] <;> rfl) ?_
  refine wpL_p (v := .int .i64 0) rfl (by kernel_rfl) rfl (fun _ => by kernel_rfl) (by simp only [List.setIfInBounds_toArray, List.set_cons_succ, List.set_cons_zero] <;> rfl) ?_
  refine wpL_new (fun g => .pointer (some ⟨g, 0, none⟩)) (obi := .cells (frcC false 0 0) 26 (0, 0)) rfl rfl (fun _ => by rw [frc_zero]; rfl) (fun _ => by simp only [List.setIfInBounds_toArray, List.set_cons_succ, List.set_cons_zero] <;> rfl) fun g8 Bg8 Fg8 => ?_
  try simp only [List.forall_mem_cons] at Fg8
  refine wpL_s [(g8, .cells (frcC sr nr dr) 26 (0, 0)), (g7, .cells (frcC sq nq dq) 26 (0, 0)), (g6, .cells (frcC sp np dp) 26 (0, 0)), (g5, .cells #[.int .i64 0, .int .i64 0, .int .i64 0, .int .i64 0] 29 (0, 0)), (g4, .cells (frcC sl nl dl) 26 (0, 0)), (g3, .cells (frcC sz nz dz) 26 (0, 0)), (g2, .cells (frcC sy ny dy) 26 (0, 0)), (g1, .cells (frcC sx nx dx) 26 (0, 0))] rfl rfl (st_f (neg := sr) (n := nr) (d := dr) rfl (by kernel_rfl) (by kernel_rfl) (.head _) (by omega) size27 (by intro p hp; simp only [List.mem_cons, List.not_mem_nil, or_false] at hp; rcases hp with rfl | rfl | rfl | rfl | rfl | rfl | rfl | rfl; exact .inl rfl; exact .inr ⟨by simp, by simp only; omega⟩; exact .inr ⟨by simp, by simp only; omega⟩; exact .inr ⟨by simp, by simp only; omega⟩; exact .inr ⟨by simp, by simp only; omega⟩; exact .inr ⟨by simp, by simp only; omega⟩; exact .inr ⟨by simp, by simp only; omega⟩; exact .inr ⟨by simp, by simp only; omega⟩)) ?_
  refine wpL_p (v := .int .i64 0) rfl (by kernel_rfl) rfl (fun _ => by kernel_rfl) (by simp only [List.setIfInBounds_toArray, List.set_cons_succ, List.set_cons_zero] <;> rfl) ?_
  refine wpL_done (fun W12 hW12 => ?_)
  clear hW11
  refine (show Code.wp _ _ _ _ _ from ?_)
  refine wp_seq ?_
  refine wp_region_L (W0 := w) [(g8, .cells (frcC sr nr dr) 26 (0, 0)), (g7, .cells (frcC sq nq dq) 26 (0, 0)), (g6, .cells (frcC sp np dp) 26 (0, 0)), (g5, .cells #[.int .i64 0, .int .i64 0, .int .i64 0, .int .i64 0] 29 (0, 0)), (g4, .cells (frcC sl nl dl) 26 (0, 0)), (g3, .cells (frcC sz nz dz) 26 (0, 0)), (g2, .cells (frcC sy ny dy) 26 (0, 0)), (g1, .cells (frcC sx nx dx) 26 (0, 0))] (hW12) ?_
  refine wpL_v (v := .agg (frcC sy ny dy)) rfl (by kernel_rfl) rfl (yb_load rfl (by kernel_rfl) (.tail _ (.tail _ (.tail _ (.tail _ (.tail _ (.tail _ (.head _))))))) Tryd.underlying26 rfl size27 (by simp) (frc_whole sy ny dy)) (by simp only [List.setIfInBounds_toArray, List.set_cons_succ, List.set_cons_zero] <;> rfl) ?_
  refine wpL_v (v := .agg (frcC sz nz dz)) rfl (by kernel_rfl) rfl (yb_load rfl (by kernel_rfl) (.tail _ (.tail _ (.tail _ (.tail _ (.tail _ (.head _)))))) Tryd.underlying26 rfl size27 (by simp) (frc_whole sz nz dz)) (by simp only [List.setIfInBounds_toArray, List.set_cons_succ, List.set_cons_zero] <;> rfl) ?_
  refine wpL_v (v := .tuple #[.agg (frcC ss ns ds), .int .i64 0]) rfl (by kernel_rfl) rfl (yb_call (f := 15) (args := #[.agg (frcC sy ny dy), .agg (frcC sz nz dz)]) (fun _ => by kernel_rfl) fun W hW => HP2.out W) (by simp only [List.setIfInBounds_toArray, List.set_cons_succ, List.set_cons_zero] <;> rfl) ?_
  refine wpL_p (v := .tuple #[.agg (frcC ss ns ds), .int .i64 0]) rfl (by kernel_rfl) rfl (fun _ => by kernel_rfl) (by simp only [List.setIfInBounds_toArray, List.set_cons_succ, List.set_cons_zero] <;> rfl) ?_
  refine wpL_p (v := .agg (frcC ss ns ds)) rfl (by kernel_rfl) rfl (fun _ => by kernel_rfl) (by simp only [List.setIfInBounds_toArray, List.set_cons_succ, List.set_cons_zero] <;> rfl) ?_
  refine wpL_p (v := .int .i64 0) rfl (by kernel_rfl) rfl (fun _ => by kernel_rfl) (by simp only [List.setIfInBounds_toArray, List.set_cons_succ, List.set_cons_zero] <;> rfl) ?_
  refine wpL_new (fun g => .pointer (some ⟨g, 0, none⟩)) (obi := .cells (frcC false 0 0) 26 (0, 0)) rfl rfl (fun _ => by rw [frc_zero]; rfl) (fun _ => by simp only [List.setIfInBounds_toArray, List.set_cons_succ, List.set_cons_zero] <;> rfl) fun g9 Bg9 Fg9 => ?_
  try simp only [List.forall_mem_cons] at Fg9
  refine wpL_s [(g9, .cells (frcC ss ns ds) 26 (0, 0)), (g8, .cells (frcC sr nr dr) 26 (0, 0)), (g7, .cells (frcC sq nq dq) 26 (0, 0)), (g6, .cells (frcC sp np dp) 26 (0, 0)), (g5, .cells #[.int .i64 0, .int .i64 0, .int .i64 0, .int .i64 0] 29 (0, 0)), (g4, .cells (frcC sl nl dl) 26 (0, 0)), (g3, .cells (frcC sz nz dz) 26 (0, 0)), (g2, .cells (frcC sy ny dy) 26 (0, 0)), (g1, .cells (frcC sx nx dx) 26 (0, 0))] rfl rfl (st_f (neg := ss) (n := ns) (d := ds) rfl (by kernel_rfl) (by kernel_rfl) (.head _) (by omega) size27 (by intro p hp; simp only [List.mem_cons, List.not_mem_nil, or_false] at hp; rcases hp with rfl | rfl | rfl | rfl | rfl | rfl | rfl | rfl | rfl; exact .inl rfl; exact .inr ⟨by simp, by simp only; omega⟩; exact .inr ⟨by simp, by simp only; omega⟩; exact .inr ⟨by simp, by simp only; omega⟩; exact .inr ⟨by simp, by simp only; omega⟩; exact .inr ⟨by simp, by simp only; omega⟩; exact .inr ⟨by simp, by simp only; omega⟩; exact .inr ⟨by simp, by simp only; omega⟩; exact .inr ⟨by simp, by simp only; omega⟩)) ?_
  refine wpL_p (v := .int .i64 0) rfl (by kernel_rfl) rfl (fun _ => by kernel_rfl) (by simp only [List.setIfInBounds_toArray, List.set_cons_succ, List.set_cons_zero] <;> rfl) ?_
  refine wpL_done (fun W13 hW13 => ?_)
  clear hW12
  refine (show Code.wp _ _ _ _ _ from ?_)
  refine wp_seq ?_
  refine wp_region_L (W0 := w) [(g9, .cells (frcC ss ns ds) 26 (0, 0)), (g8, .cells (frcC sr nr dr) 26 (0, 0)), (g7, .cells (frcC sq nq dq) 26 (0, 0)), (g6, .cells (frcC sp np dp) 26 (0, 0)), (g5, .cells #[.int .i64 0, .int .i64 0, .int .i64 0, .int .i64 0] 29 (0, 0)), (g4, .cells (frcC sl nl dl) 26 (0, 0)), (g3, .cells (frcC sz nz dz) 26 (0, 0)), (g2, .cells (frcC sy ny dy) 26 (0, 0)), (g1, .cells (frcC sx nx dx) 26 (0, 0))] (hW13) ?_
  refine wpL_v (v := .agg (frcC sr nr dr)) rfl (by kernel_rfl) rfl (yb_load rfl (by kernel_rfl) (.tail _ (.head _)) Tryd.underlying26 rfl size27 (by simp) (frc_whole sr nr dr)) (by simp only [List.setIfInBounds_toArray, List.set_cons_succ, List.set_cons_zero] <;> rfl) ?_
  refine wpL_v (v := .agg (frcC ss ns ds)) rfl (by kernel_rfl) rfl (yb_load rfl (by kernel_rfl) (.head _) Tryd.underlying26 rfl size27 (by simp) (frc_whole ss ns ds)) (by simp only [List.setIfInBounds_toArray, List.set_cons_succ, List.set_cons_zero] <;> rfl) ?_
  refine wpL_v (v := .tuple #[.int .i64 1, .int .i64 0]) rfl (by kernel_rfl) rfl (yb_call (f := 18) (args := #[.agg (frcC sr nr dr), .agg (frcC ss ns ds)]) (fun _ => by kernel_rfl) fun W hW => HC5.out W) (by simp only [List.setIfInBounds_toArray, List.set_cons_succ, List.set_cons_zero] <;> rfl) ?_
  refine wpL_p (v := .tuple #[.int .i64 1, .int .i64 0]) rfl (by kernel_rfl) rfl (fun _ => by kernel_rfl) (by simp only [List.setIfInBounds_toArray, List.set_cons_succ, List.set_cons_zero] <;> rfl) ?_
  refine wpL_p (v := .int .i64 1) rfl (by kernel_rfl) rfl (fun _ => by kernel_rfl) (by simp only [List.setIfInBounds_toArray, List.set_cons_succ, List.set_cons_zero] <;> rfl) ?_
  refine wpL_p (v := .int .i64 0) rfl (by kernel_rfl) rfl (fun _ => by kernel_rfl) (by simp only [List.setIfInBounds_toArray, List.set_cons_succ, List.set_cons_zero] <;> rfl) ?_
  refine wpL_p (v := .int .i64 1) rfl (by kernel_rfl) rfl (fun _ => by kernel_rfl) (by simp only [List.setIfInBounds_toArray, List.set_cons_succ, List.set_cons_zero] <;> rfl) ?_
  refine wpL_p (v := .int .i64 0) rfl (by kernel_rfl) rfl (fun _ => by kernel_rfl) (by simp only [List.setIfInBounds_toArray, List.set_cons_succ, List.set_cons_zero] <;> rfl) ?_
  refine wpL_done (fun W14 hW14 => ?_)
  clear hW13
  refine (show Code.wp _ _ _ _ _ from ?_)
  refine wp_seq ?_
  refine wp_region_V (W0 := w) [(g9, .cells (frcC ss ns ds) 26 (0, 0)), (g8, .cells (frcC sr nr dr) 26 (0, 0)), (g7, .cells (frcC sq nq dq) 26 (0, 0)), (g6, .cells (frcC sp np dp) 26 (0, 0)), (g5, .cells #[.int .i64 0, .int .i64 0, .int .i64 0, .int .i64 0] 29 (0, 0)), (g4, .cells (frcC sl nl dl) 26 (0, 0)), (g3, .cells (frcC sz nz dz) 26 (0, 0)), (g2, .cells (frcC sy ny dy) 26 (0, 0)), (g1, .cells (frcC sx nx dx) 26 (0, 0))] (by kernel_rfl) (hW14) ?_
  refine wpV_v (i := 0) (v := .agg (frcC sz nz dz)) rfl rfl (by kernel_rfl) (by kernel_rfl) rfl (yb_load rfl (by kernel_rfl) (.tail _ (.tail _ (.tail _ (.tail _ (.tail _ (.tail _ (.head _))))))) Tryd.underlying26 rfl size27 (by simp) (frc_whole sz nz dz)) (by simp only [List.setIfInBounds_toArray, List.set_cons_succ, List.set_cons_zero] <;> rfl) ?_
  refine wpV_v (i := 1) (v := .agg (frcC false 0 1)) rfl rfl (by kernel_rfl) (by kernel_rfl) rfl (yb_call (f := 16) (args := #[.int .i64 0]) (fun _ => by kernel_rfl) fun W hW => HO0.out W) (by simp only [List.setIfInBounds_toArray, List.set_cons_succ, List.set_cons_zero] <;> rfl) ?_
  refine wpV_v (i := 2) (v := .tuple #[.int .i64 (-1), .int .i64 0]) rfl rfl (by kernel_rfl) (by kernel_rfl) rfl (yb_call (f := 18) (args := #[.agg (frcC sz nz dz), .agg (frcC false 0 1)]) (fun _ => by kernel_rfl) fun W hW => HC6.out W) (by simp only [List.setIfInBounds_toArray, List.set_cons_succ, List.set_cons_zero] <;> rfl) ?_
  refine wpV_p (i := 3) (v := .tuple #[.int .i64 (-1), .int .i64 0]) rfl rfl (by kernel_rfl) (by kernel_rfl) rfl (fun _ => by kernel_rfl) (by simp only [List.setIfInBounds_toArray, List.set_cons_succ, List.set_cons_zero] <;> rfl) ?_
  refine wpV_p (i := 4) (v := .int .i64 (-1)) rfl rfl (by kernel_rfl) (by kernel_rfl) rfl (fun _ => by kernel_rfl) (by simp only [List.setIfInBounds_toArray, List.set_cons_succ, List.set_cons_zero] <;> rfl) ?_
  refine wpV_p (i := 5) (v := .int .i64 0) rfl rfl (by kernel_rfl) (by kernel_rfl) rfl (fun _ => by kernel_rfl) (by simp only [List.setIfInBounds_toArray, List.set_cons_succ, List.set_cons_zero] <;> rfl) ?_
  refine wpV_p (i := 6) (v := .int .i64 (-1)) rfl rfl (by kernel_rfl) (by kernel_rfl) rfl (fun _ => by kernel_rfl) (by simp only [List.setIfInBounds_toArray, List.set_cons_succ, List.set_cons_zero] <;> rfl) ?_
  refine wpV_p (i := 7) (v := .int .i64 0) rfl rfl (by kernel_rfl) (by kernel_rfl) rfl (fun _ => by kernel_rfl) (by simp only [List.setIfInBounds_toArray, List.set_cons_succ, List.set_cons_zero] <;> rfl) ?_
  refine wpV_done (by kernel_rfl) (fun W15 hW15 => ?_) _
  clear hW14
  refine (show Code.wp _ _ _ _ _ from ?_)
  refine wp_seq ?_
  refine wp_region_L (W0 := w) [(g9, .cells (frcC ss ns ds) 26 (0, 0)), (g8, .cells (frcC sr nr dr) 26 (0, 0)), (g7, .cells (frcC sq nq dq) 26 (0, 0)), (g6, .cells (frcC sp np dp) 26 (0, 0)), (g5, .cells #[.int .i64 0, .int .i64 0, .int .i64 0, .int .i64 0] 29 (0, 0)), (g4, .cells (frcC sl nl dl) 26 (0, 0)), (g3, .cells (frcC sz nz dz) 26 (0, 0)), (g2, .cells (frcC sy ny dy) 26 (0, 0)), (g1, .cells (frcC sx nx dx) 26 (0, 0))] (hW15) ?_
  refine wpL_p (v := .int .i64 0) rfl (by kernel_rfl) rfl (fun _ => by kernel_rfl) (by simp only [List.setIfInBounds_toArray, List.set_cons_succ, List.set_cons_zero] <;> rfl) ?_
  refine wpL_p (v := .int .i64 0) rfl (by kernel_rfl) rfl (fun _ => by kernel_rfl) (by simp only [List.setIfInBounds_toArray, List.set_cons_succ, List.set_cons_zero] <;> rfl) ?_
  refine wpL_p (v := .int .i64 0) rfl (by kernel_rfl) rfl (fun _ => by kernel_rfl) (by simp only [List.setIfInBounds_toArray, List.set_cons_succ, List.set_cons_zero] <;> rfl) ?_
  refine wpL_p (v := .int .i64 0) rfl (by kernel_rfl) rfl (fun _ => by kernel_rfl) (by simp only [List.setIfInBounds_toArray, List.set_cons_succ, List.set_cons_zero] <;> rfl) ?_
  refine wpL_p (v := .int .i64 0) rfl (by kernel_rfl) rfl (fun _ => by kernel_rfl) (by simp only [List.setIfInBounds_toArray, List.set_cons_succ, List.set_cons_zero] <;> rfl) ?_
  refine wpL_p (v := .int .i64 0) rfl (by kernel_rfl) rfl (fun _ => by kernel_rfl) (by simp only [List.setIfInBounds_toArray, List.set_cons_succ, List.set_cons_zero] <;> rfl) ?_
  refine wpL_p (v := .int .i64 0) rfl (by kernel_rfl) rfl (fun _ => by kernel_rfl) (by simp only [List.setIfInBounds_toArray, List.set_cons_succ, List.set_cons_zero] <;> rfl) ?_
  refine wpL_new (fun g => .slice (some ⟨g, 0, none⟩) 7 7) (obi := .cells #[.int .i64 0, .int .i64 0, .int .i64 0, .int .i64 0, .int .i64 0, .int .i64 0, .int .i64 0] 29 (0, 0)) rfl rfl (fun _ => by kernel_rfl) (fun _ => by simp only [List.setIfInBounds_toArray, List.set_cons_succ, List.set_cons_zero] <;> rfl) fun g10 Bg10 Fg10 => ?_
  try simp only [List.forall_mem_cons] at Fg10
  refine wpL_v (v := .bool true) rfl (by kernel_rfl) rfl (yb_call (f := 14) (args := #[.slice (some ⟨g10, 0, none⟩) 7 7]) (fun _ => by kernel_rfl) fun W hW => all_W 7 (by omega) rfl (hW.2 _ (.head _))) (by simp only [List.setIfInBounds_toArray, List.set_cons_succ, List.set_cons_zero] <;> rfl) ?_
  refine wpL_p (v := .bool true) rfl (by kernel_rfl) rfl (fun _ => by kernel_rfl) (by simp only [List.setIfInBounds_toArray, List.set_cons_succ, List.set_cons_zero] <;> rfl) ?_
  refine wpL_p (v := .int .i64 (-1)) rfl (by kernel_rfl) rfl (fun _ => by kernel_rfl) (by simp only [List.setIfInBounds_toArray, List.set_cons_succ, List.set_cons_zero] <;> rfl) ?_
  refine wpL_p (v := .int .i64 (-1)) rfl (by kernel_rfl) rfl (fun _ => by kernel_rfl) (by simp only [List.setIfInBounds_toArray, List.set_cons_succ, List.set_cons_zero] <;> rfl) ?_
  refine wpL_p (v := .bool true) rfl (by kernel_rfl) rfl (fun _ => by kernel_rfl) (by simp only [List.setIfInBounds_toArray, List.set_cons_succ, List.set_cons_zero] <;> rfl) ?_
  refine wpL_p (v := .bool true) rfl (by kernel_rfl) rfl (fun _ => by kernel_rfl) (by simp only [List.setIfInBounds_toArray, List.set_cons_succ, List.set_cons_zero] <;> rfl) ?_
  refine wpL_p (v := .bool true) rfl (by kernel_rfl) rfl (fun _ => by kernel_rfl) (by simp only [List.setIfInBounds_toArray, List.set_cons_succ, List.set_cons_zero] <;> rfl) ?_
  refine wpL_p (v := .int .i64 1) rfl (by kernel_rfl) rfl (fun _ => by kernel_rfl) (by simp only [List.setIfInBounds_toArray, List.set_cons_succ, List.set_cons_zero] <;> rfl) ?_
  refine wpL_p (v := .int .i64 (-1)) rfl (by kernel_rfl) rfl (fun _ => by kernel_rfl) (by simp only [List.setIfInBounds_toArray, List.set_cons_succ, List.set_cons_zero] <;> rfl) ?_
  refine wpL_p (v := .int .i64 (-1)) rfl (by kernel_rfl) rfl (fun _ => by kernel_rfl) (by simp only [List.setIfInBounds_toArray, List.set_cons_succ, List.set_cons_zero] <;> rfl) ?_
  refine wpL_p (v := .int .i64 1) rfl (by kernel_rfl) rfl (fun _ => by kernel_rfl) (by simp only [List.setIfInBounds_toArray, List.set_cons_succ, List.set_cons_zero] <;> rfl) ?_
  refine wpL_p (v := .bool true) rfl (by kernel_rfl) rfl (fun _ => by kernel_rfl) (by simp only [List.setIfInBounds_toArray, List.set_cons_succ, List.set_cons_zero] <;> rfl) ?_
  refine wpL_p (v := .bool true) rfl (by kernel_rfl) rfl (fun _ => by kernel_rfl) (by simp only [List.setIfInBounds_toArray, List.set_cons_succ, List.set_cons_zero] <;> rfl) ?_
  refine wpL_p (v := .bool true) rfl (by kernel_rfl) rfl (fun _ => by kernel_rfl) (by simp only [List.setIfInBounds_toArray, List.set_cons_succ, List.set_cons_zero] <;> rfl) ?_
  refine wpL_done (fun W16 hW16 => ?_)
  clear hW15
  refine (show Code.wp _ _ _ _ _ from ?_)
  refine wp_ret ?_
  go_ret
  exact ⟨rfl, hW16.1⟩
end Go.Proofs.YtkfcikijmkgahaaDoor
