import Derived.Test.YtkfcikijmkgahaaDoorKo02
import Derived.Test.YtkfcikijmkgahaaDoorKo03
import Derived.Test.YtkfcikijmkgahaaDoorKo04
import Derived.Test.YtkfcikijmkgahaaDoorKo05
import Derived.Test.YtkfcikijmkgahaaDoorKo06
import Derived.Test.YtkfcikijmkgahaaDoorKo07
import Derived.Test.YtkfcikijmkgahaaDoorKo08
import Derived.Test.YtkfcikijmkgahaaDoorKo09
import Derived.Test.YtkfcikijmkgahaaDoorKo10
import Derived.Test.YtkfcikijmkgahaaDoorG24
import Derived.Test.YtkfcikijmkgahaaDoorG26
/- FracOrder: the law holds for every input; no condition but the row's own. -/
set_option linter.unusedVariables false
set_option linter.unusedSimpArgs false
set_option linter.unusedSectionVars false
namespace Go.Proofs.YtkfcikijmkgahaaDoor
open Go.RowKit Tw
variable [ShLZ]
variable [ShSt]
theorem rmul_lt {X Y Z : Rat} (h : X < Y) (hz : 0 < Z) : X * Z < Y * Z := by
  have h1 : 0 < Y - X := by grind
  have h2 := Rat.mul_pos h1 hz
  grind
theorem rmul_gt {X Y Z : Rat} (h : X < Y) (hz : Z < 0) : Y * Z < X * Z := by
  have h1 : 0 < Y - X := by grind
  have h3 : 0 < -Z := by grind
  have h2 := Rat.mul_pos h1 h3
  grind
theorem rLt (x y : Rat) (hx : fits x) (hy : fits y) (h : x < y) : CC 18 #[ratV x, ratV y] (.tuple #[.int .i64 (-1), .int .i64 0]) :=
  rCmp x y (-1) hx hy (by rw [if_neg (fun e => Rat.lt_irrefl (e ▸ h)), if_pos h])
theorem rGt (x y : Rat) (hx : fits x) (hy : fits y) (h : y < x) : CC 18 #[ratV x, ratV y] (.tuple #[.int .i64 1, .int .i64 0]) :=
  rCmp x y 1 hx hy (by rw [if_neg (fun e => Rat.lt_irrefl (e ▸ h)), if_neg (fun e => by grind)])
theorem rEq (x : Rat) (hx : fits x) : CC 18 #[ratV x, ratV x] (.tuple #[.int .i64 0, .int .i64 0]) :=
  rCmp x x 0 hx hx (by rw [if_pos rfl])
set_option maxHeartbeats 4000000 in
theorem FracOrder_any (a b c : Int) (d e f : Nat) (a1 : -9223372036854775808 ≤ a) (a2 : a ≤ 9223372036854775807) (b1 : -9223372036854775808 ≤ b) (b2 : b ≤ 9223372036854775807) (c1 : -9223372036854775808 ≤ c) (c2 : c ≤ 9223372036854775807) (hd : d ≤ 4294967295) (he : e ≤ 4294967295) (hf : f ≤ 4294967295)
    (hA : ∀ W, Env W → Calls Tryd.prog 10 #[] W fun e w' => e = .returned (.bool true) ∧ Below W.heap.size W w') (w : World) (hE : Env w) :
    Calls Tryd.prog 4 #[.int .i64 a, .int .i64 b, .int .i64 c, .int .u32 (d : Int), .int .u32 (e : Int), .int .u32 (f : Int)] w fun e w' => e = .returned (.bool true) ∧ Below w.heap.size w w' := by
  have ha := shr_i64 a1 a2
  have hb := shr_i64 b1 b2
  have hc := shr_i64 c1 c2
  have mx := rMade (a / 2 ^ 4) d (by omega) (by omega) hd
  have my := rMade (b / 2 ^ 4) e (by omega) (by omega) he
  have mz := rMade (c / 2 ^ 4) f (by omega) (by omega) hf
  have bx := made_bd d ha hd
  have bY := made_bd e hb he
  have bz := made_bd f hc hf
  generalize fr (a / 2 ^ 4) (d + 1) = X at *
  generalize fr (b / 2 ^ 4) (e + 1) = Y at *
  generalize fr (c / 2 ^ 4) (f + 1) = Z at *
  have fx : fits X := bd_fits bx (by decide +kernel) (by decide +kernel)
  have fy : fits Y := bd_fits bY (by decide +kernel) (by decide +kernel)
  have fz : fits Z := bd_fits bz (by decide +kernel) (by decide +kernel)
  have f0 : fits 0 := by decide +kernel
  have fl := bd_fits (bd_sub bx bY) (by decide +kernel) (by decide +kernel)
  have fp := bd_fits (bd_add bx bz) (by decide +kernel) (by decide +kernel)
  have fq := bd_fits (bd_add bY bz) (by decide +kernel) (by decide +kernel)
  have fr2 := bd_fits (bd_mul bx bz) (by decide +kernel) (by decide +kernel)
  have fs := bd_fits (bd_mul bY bz) (by decide +kernel) (by decide +kernel)
  clear bx bY bz ha hb hc a1 a2 b1 b2 c1 c2 hd he hf
  have hne : X ≠ Y → decide (decide (X.num < 0) = decide (Y.num < 0) ∧ X.num.natAbs = Y.num.natAbs ∧ X.den = Y.den) = false := fun h => by
    simp only [same_rat, h, decide_false]
  by_cases hxy0 : X = Y
  · subst hxy0
    clear hne
    by_cases hz0 : Z = 0
    · subst hz0
      rw [ratV_zero] at mz
      exact FracOrder_w11 w a b c d e f (decide (X.num < 0)) X.num.natAbs X.den fx.1 fx.2 
        (fun W hW => hA W (hE.keep hW))
        mx
        my
        mz
        (rEq X fx)
        (by have h := rSub X X 0 fx fx (by grind) f0; rwa [ratV_zero] at h)
        (by have h := (rEq 0 f0); rwa [ratV_zero] at h)
        (by have h := rAdd X 0 X fx f0 (by grind) fx; rwa [ratV_zero] at h)
        (by have h := rMul X 0 0 fx f0 (by grind) f0; rwa [ratV_zero] at h)
        rOf0
    · by_cases hz : Z < 0
      · exact FracOrder_w10 w a b c d e f (decide (X.num < 0)) X.num.natAbs X.den fx.1 fx.2 (decide (Z.num < 0)) Z.num.natAbs Z.den fz.1 fz.2 (decide ((X + Z).num < 0)) (X + Z).num.natAbs (X + Z).den fp.1 fp.2 (decide ((X * Z).num < 0)) (X * Z).num.natAbs (X * Z).den fr2.1 fr2.2 
          (fun W hW => hA W (hE.keep hW))
          mx
          my
          mz
          (rEq X fx)
          (by have h := rSub X X 0 fx fx (by grind) f0; rwa [ratV_zero] at h)
          (by have h := (rEq 0 f0); rwa [ratV_zero] at h)
          (rAdd X Z (X + Z) fx fz (by grind) fp)
          (rEq (X + Z) fp)
          (rMul X Z (X * Z) fx fz (by grind) fr2)
          (rEq (X * Z) fr2)
          (by have h := (rLt Z 0 fz f0 hz); rwa [ratV_zero] at h)
          rOf0
      · have hz : 0 < Z := by grind
        exact FracOrder_w12 w a b c d e f (decide (X.num < 0)) X.num.natAbs X.den fx.1 fx.2 (decide (Z.num < 0)) Z.num.natAbs Z.den fz.1 fz.2 (decide ((X + Z).num < 0)) (X + Z).num.natAbs (X + Z).den fp.1 fp.2 (decide ((X * Z).num < 0)) (X * Z).num.natAbs (X * Z).den fr2.1 fr2.2 
          (fun W hW => hA W (hE.keep hW))
          mx
          my
          mz
          (rEq X fx)
          (by have h := rSub X X 0 fx fx (by grind) f0; rwa [ratV_zero] at h)
          (by have h := (rEq 0 f0); rwa [ratV_zero] at h)
          (rAdd X Z (X + Z) fx fz (by grind) fp)
          (rEq (X + Z) fp)
          (rMul X Z (X * Z) fx fz (by grind) fr2)
          (rEq (X * Z) fr2)
          (by have h := (rGt Z 0 fz f0 hz); rwa [ratV_zero] at h)
          rOf0
  · have hne := hne hxy0
    by_cases hxy : X < Y
    · by_cases hz0 : Z = 0
      · subst hz0
        rw [ratV_zero] at mz
        exact FracOrder_w01 w a b c d e f (decide (X.num < 0)) X.num.natAbs X.den fx.1 fx.2 (decide (Y.num < 0)) Y.num.natAbs Y.den fy.1 fy.2 (decide ((X - Y).num < 0)) (X - Y).num.natAbs (X - Y).den fl.1 fl.2 hne
          (fun W hW => hA W (hE.keep hW))
          mx
          my
          mz
          (rLt X Y fx fy hxy)
          (rGt Y X fy fx hxy)
          (rSub X Y (X - Y) fx fy (by grind) fl)
          (by have h := (rLt (X - Y) 0 fl f0 (by grind)); rwa [ratV_zero] at h)
          (by have h := rAdd X 0 X fx f0 (by grind) fx; rwa [ratV_zero] at h)
          (by have h := rAdd Y 0 Y fy f0 (by grind) fy; rwa [ratV_zero] at h)
          (by have h := rMul X 0 0 fx f0 (by grind) f0; rwa [ratV_zero] at h)
          (by have h := rMul Y 0 0 fy f0 (by grind) f0; rwa [ratV_zero] at h)
          (by have h := (rEq 0 f0); rwa [ratV_zero] at h)
          rOf0
      · by_cases hz : Z < 0
        · exact FracOrder_w00 w a b c d e f (decide (X.num < 0)) X.num.natAbs X.den fx.1 fx.2 (decide (Y.num < 0)) Y.num.natAbs Y.den fy.1 fy.2 (decide (Z.num < 0)) Z.num.natAbs Z.den fz.1 fz.2 (decide ((X - Y).num < 0)) (X - Y).num.natAbs (X - Y).den fl.1 fl.2 (decide ((X + Z).num < 0)) (X + Z).num.natAbs (X + Z).den fp.1 fp.2 (decide ((Y + Z).num < 0)) (Y + Z).num.natAbs (Y + Z).den fq.1 fq.2 (decide ((X * Z).num < 0)) (X * Z).num.natAbs (X * Z).den fr2.1 fr2.2 (decide ((Y * Z).num < 0)) (Y * Z).num.natAbs (Y * Z).den fs.1 fs.2 hne
            (fun W hW => hA W (hE.keep hW))
            mx
            my
            mz
            (rLt X Y fx fy hxy)
            (rGt Y X fy fx hxy)
            (rSub X Y (X - Y) fx fy (by grind) fl)
            (by have h := (rLt (X - Y) 0 fl f0 (by grind)); rwa [ratV_zero] at h)
            (rAdd X Z (X + Z) fx fz (by grind) fp)
            (rAdd Y Z (Y + Z) fy fz (by grind) fq)
            (rLt (X + Z) (Y + Z) fp fq (by grind))
            (rMul X Z (X * Z) fx fz (by grind) fr2)
            (rMul Y Z (Y * Z) fy fz (by grind) fs)
            (rGt (X * Z) (Y * Z) fr2 fs (rmul_gt hxy hz))
            (by have h := (rLt Z 0 fz f0 hz); rwa [ratV_zero] at h)
            rOf0
        · have hz : 0 < Z := by grind
          exact FracOrder_w02 w a b c d e f (decide (X.num < 0)) X.num.natAbs X.den fx.1 fx.2 (decide (Y.num < 0)) Y.num.natAbs Y.den fy.1 fy.2 (decide (Z.num < 0)) Z.num.natAbs Z.den fz.1 fz.2 (decide ((X - Y).num < 0)) (X - Y).num.natAbs (X - Y).den fl.1 fl.2 (decide ((X + Z).num < 0)) (X + Z).num.natAbs (X + Z).den fp.1 fp.2 (decide ((Y + Z).num < 0)) (Y + Z).num.natAbs (Y + Z).den fq.1 fq.2 (decide ((X * Z).num < 0)) (X * Z).num.natAbs (X * Z).den fr2.1 fr2.2 (decide ((Y * Z).num < 0)) (Y * Z).num.natAbs (Y * Z).den fs.1 fs.2 hne
            (fun W hW => hA W (hE.keep hW))
            mx
            my
            mz
            (rLt X Y fx fy hxy)
            (rGt Y X fy fx hxy)
            (rSub X Y (X - Y) fx fy (by grind) fl)
            (by have h := (rLt (X - Y) 0 fl f0 (by grind)); rwa [ratV_zero] at h)
            (rAdd X Z (X + Z) fx fz (by grind) fp)
            (rAdd Y Z (Y + Z) fy fz (by grind) fq)
            (rLt (X + Z) (Y + Z) fp fq (by grind))
            (rMul X Z (X * Z) fx fz (by grind) fr2)
            (rMul Y Z (Y * Z) fy fz (by grind) fs)
            (rLt (X * Z) (Y * Z) fr2 fs (rmul_lt hxy hz))
            (by have h := (rGt Z 0 fz f0 hz); rwa [ratV_zero] at h)
            rOf0
    · have hxy : Y < X := by grind
      by_cases hz0 : Z = 0
      · subst hz0
        rw [ratV_zero] at mz
        exact FracOrder_w21 w a b c d e f (decide (X.num < 0)) X.num.natAbs X.den fx.1 fx.2 (decide (Y.num < 0)) Y.num.natAbs Y.den fy.1 fy.2 (decide ((X - Y).num < 0)) (X - Y).num.natAbs (X - Y).den fl.1 fl.2 hne
          (fun W hW => hA W (hE.keep hW))
          mx
          my
          mz
          (rGt X Y fx fy hxy)
          (rLt Y X fy fx hxy)
          (rSub X Y (X - Y) fx fy (by grind) fl)
          (by have h := (rGt (X - Y) 0 fl f0 (by grind)); rwa [ratV_zero] at h)
          (by have h := rAdd X 0 X fx f0 (by grind) fx; rwa [ratV_zero] at h)
          (by have h := rAdd Y 0 Y fy f0 (by grind) fy; rwa [ratV_zero] at h)
          (by have h := rMul X 0 0 fx f0 (by grind) f0; rwa [ratV_zero] at h)
          (by have h := rMul Y 0 0 fy f0 (by grind) f0; rwa [ratV_zero] at h)
          (by have h := (rEq 0 f0); rwa [ratV_zero] at h)
          rOf0
      · by_cases hz : Z < 0
        · exact FracOrder_w20 w a b c d e f (decide (X.num < 0)) X.num.natAbs X.den fx.1 fx.2 (decide (Y.num < 0)) Y.num.natAbs Y.den fy.1 fy.2 (decide (Z.num < 0)) Z.num.natAbs Z.den fz.1 fz.2 (decide ((X - Y).num < 0)) (X - Y).num.natAbs (X - Y).den fl.1 fl.2 (decide ((X + Z).num < 0)) (X + Z).num.natAbs (X + Z).den fp.1 fp.2 (decide ((Y + Z).num < 0)) (Y + Z).num.natAbs (Y + Z).den fq.1 fq.2 (decide ((X * Z).num < 0)) (X * Z).num.natAbs (X * Z).den fr2.1 fr2.2 (decide ((Y * Z).num < 0)) (Y * Z).num.natAbs (Y * Z).den fs.1 fs.2 hne
            (fun W hW => hA W (hE.keep hW))
            mx
            my
            mz
            (rGt X Y fx fy hxy)
            (rLt Y X fy fx hxy)
            (rSub X Y (X - Y) fx fy (by grind) fl)
            (by have h := (rGt (X - Y) 0 fl f0 (by grind)); rwa [ratV_zero] at h)
            (rAdd X Z (X + Z) fx fz (by grind) fp)
            (rAdd Y Z (Y + Z) fy fz (by grind) fq)
            (rGt (X + Z) (Y + Z) fp fq (by grind))
            (rMul X Z (X * Z) fx fz (by grind) fr2)
            (rMul Y Z (Y * Z) fy fz (by grind) fs)
            (rLt (X * Z) (Y * Z) fr2 fs (rmul_gt hxy hz))
            (by have h := (rLt Z 0 fz f0 hz); rwa [ratV_zero] at h)
            rOf0
        · have hz : 0 < Z := by grind
          exact FracOrder_w22 w a b c d e f (decide (X.num < 0)) X.num.natAbs X.den fx.1 fx.2 (decide (Y.num < 0)) Y.num.natAbs Y.den fy.1 fy.2 (decide (Z.num < 0)) Z.num.natAbs Z.den fz.1 fz.2 (decide ((X - Y).num < 0)) (X - Y).num.natAbs (X - Y).den fl.1 fl.2 (decide ((X + Z).num < 0)) (X + Z).num.natAbs (X + Z).den fp.1 fp.2 (decide ((Y + Z).num < 0)) (Y + Z).num.natAbs (Y + Z).den fq.1 fq.2 (decide ((X * Z).num < 0)) (X * Z).num.natAbs (X * Z).den fr2.1 fr2.2 (decide ((Y * Z).num < 0)) (Y * Z).num.natAbs (Y * Z).den fs.1 fs.2 hne
            (fun W hW => hA W (hE.keep hW))
            mx
            my
            mz
            (rGt X Y fx fy hxy)
            (rLt Y X fy fx hxy)
            (rSub X Y (X - Y) fx fy (by grind) fl)
            (by have h := (rGt (X - Y) 0 fl f0 (by grind)); rwa [ratV_zero] at h)
            (rAdd X Z (X + Z) fx fz (by grind) fp)
            (rAdd Y Z (Y + Z) fy fz (by grind) fq)
            (rGt (X + Z) (Y + Z) fp fq (by grind))
            (rMul X Z (X * Z) fx fz (by grind) fr2)
            (rMul Y Z (Y * Z) fy fz (by grind) fs)
            (rGt (X * Z) (Y * Z) fr2 fs (rmul_lt hxy hz))
            (by have h := (rGt Z 0 fz f0 hz); rwa [ratV_zero] at h)
            rOf0
end Go.Proofs.YtkfcikijmkgahaaDoor
/- FracOrder holds for every input: the program's own answer is true, wherever the tables of the library are as the program's text lays them. -/
namespace Go.Proofs.YtkfcikijmkgahaaDoor
open Go.ChangeShapes Go.WideShapes Go.ChangeAt Go.RowKit Tw
theorem fracOrder_walk (a0 : Int) (a1 : Int) (a2 : Int) (a3 : Int) (a4 : Int) (a5 : Int) (w0 : (Lit.int .i64 a0).wf = true) (w1 : (Lit.int .i64 a1).wf = true) (w2 : (Lit.int .i64 a2).wf = true) (w3 : (Lit.int .u32 a3).wf = true) (w4 : (Lit.int .u32 a4).wf = true) (w5 : (Lit.int .u32 a5).wf = true) (w : World) (hE : Env w) :
    Calls Tryd.prog 4 #[.int .i64 a0, .int .i64 a1, .int .i64 a2, .int .u32 a3, .int .u32 a4, .int .u32 a5] w fun e w' => e = .returned (.bool true) ∧ Below w.heap.size w w' := by
  have r0 : -9223372036854775808 ≤ a0 ∧ a0 ≤ 9223372036854775807 := of_wf w0
  have r1 : -9223372036854775808 ≤ a1 ∧ a1 ≤ 9223372036854775807 := of_wf w1
  have r2 : -9223372036854775808 ≤ a2 ∧ a2 ≤ 9223372036854775807 := of_wf w2
  have r3 : 0 ≤ a3 ∧ a3 ≤ 4294967295 := of_wf w3
  obtain ⟨n3, rfl⟩ : ∃ n : Nat, a3 = (n : Int) := ⟨a3.toNat, by omega⟩
  have r4 : 0 ≤ a4 ∧ a4 ≤ 4294967295 := of_wf w4
  obtain ⟨n4, rfl⟩ : ∃ n : Nat, a4 = (n : Int) := ⟨a4.toNat, by omega⟩
  have r5 : 0 ≤ a5 ∧ a5 ≤ 4294967295 := of_wf w5
  obtain ⟨n5, rfl⟩ : ∃ n : Nat, a5 = (n : Int) := ⟨a5.toNat, by omega⟩
  exact FracOrder_any a0 a1 a2 n3 n4 n5 r0.1 r0.2 r1.1 r1.2 r2.1 r2.2 (by omega) (by omega) (by omega) (fun W hW => awake_any rep_any W hW) w hE
set_option maxRecDepth 100000 in
theorem fracOrder_lifted (os : Os) (started : os.Started) (H : Type) (enc : TypeId × Value → H) :
    ReturnsInHanded {} Tryd.checked os 4 .any (fun w args => (Rows.fracOrderSpec.pre enc Tryd.prog Tryd.f4 Rows.fracOrderRow.domain false w args ∧ laidMetH Tryd.prog laid3 w) ∧ sizedMet enc Tryd.prog Tryd.f4 (OpenSpec.ofChange Rows.fracOrderSpec) false w args) (Rows.fracOrderSpec.post enc Tryd.prog Tryd.f4 false true false false) := by
  refine handed_and_shaped (C := Tryd.checked) (X := fun w => laidMetH Tryd.prog laid3 w) (fun _ _ hh h => h.of_heap hh) own started (by kernel_rfl) Tryd.func4
    (ChangeSpec.witness_shaped (enc := enc) (C := Tryd.checked) (os := os) (X := fun w _ => laidMetH Tryd.prog laid3 w) false (World.doorLaid Tryd.prog 1000 os) #[.int .i64 0, .int .i64 0, .int .i64 0, .int .u32 0, .int .u32 0, .int .u32 0] 8 rfl (World.shaped_of_RefB (by kernel_rfl) (by kernel_rfl)) (by kernel_rfl) (by kernel_rfl) (by kernel_rfl) (door_met os _)) ?_
  intro W base args ds gs before hval0 hW hL hsh
  have hval : ∀ (j : Nat) t v, Tryd.f4.params[j]? = some t → args[j]? = some v → Value.okWide Tryd.prog W .any base t v := hval0
  have hW' := hW
  obtain ⟨p, q, hA0, hV, rfl, hfz, hnd⟩ := hW
  have hA : DataW.TrodAll enc Tryd.prog W 0 (fun _ => true) true Tryd.f4.params.toList args.toList ds p := hA0
  rw [Tryd.params4] at hA hval
  obtain ⟨v0, vs0, d0, ds0, p0, q0, hargs, rfl, rfl, h0, r0⟩ := trodAll_cons hA
  obtain ⟨v1, vs1, d1, ds1, p1, q1, rfl, rfl, rfl, h1, r1⟩ := trodAll_cons r0
  obtain ⟨v2, vs2, d2, ds2, p2, q2, rfl, rfl, rfl, h2, r2⟩ := trodAll_cons r1
  obtain ⟨v3, vs3, d3, ds3, p3, q3, rfl, rfl, rfl, h3, r3⟩ := trodAll_cons r2
  obtain ⟨v4, vs4, d4, ds4, p4, q4, rfl, rfl, rfl, h4, r4⟩ := trodAll_cons r3
  obtain ⟨v5, vs5, d5, ds5, p5, q5, rfl, rfl, rfl, h5, r5⟩ := trodAll_cons r4
  obtain ⟨rfl, rfl, rfl⟩ := trodAll_nil r5
  obtain rfl : args = #[v0, v1, v2, v3, v4, v5] := by cases args; simp_all
  obtain ⟨rfl, rfl⟩ := trodVars_none hV
  obtain ⟨a0, rfl, rfl, rfl, w0⟩ := open_int Tryd.underlying3 (hval 0 3 v0 rfl rfl) h0
  obtain ⟨a1, rfl, rfl, rfl, w1⟩ := open_int Tryd.underlying3 (hval 1 3 v1 rfl rfl) h1
  obtain ⟨a2, rfl, rfl, rfl, w2⟩ := open_int Tryd.underlying3 (hval 2 3 v2 rfl rfl) h2
  obtain ⟨a3, rfl, rfl, rfl, w3⟩ := open_int Tryd.underlying22 (hval 3 22 v3 rfl rfl) h3
  obtain ⟨a4, rfl, rfl, rfl, w4⟩ := open_int Tryd.underlying22 (hval 4 22 v4 rfl rfl) h4
  obtain ⟨a5, rfl, rfl, rfl, w5⟩ := open_int Tryd.underlying22 (hval 5 22 v5 rfl rfl) h5
  clear hA0 hval0
  simp only [List.append_nil] at hW'
  refine (fracOrder_walk a0 a1 a2 a3 a4 a5 w0 w1 w2 w3 w4 w5 W (env_of hL hsh)).mono fun e W' ⟨he, hg⟩ => ?_
  subst he
  exact ⟨_, rfl, _, _, _, [], [], [], hW', (trodAll_cons_mk (shut_bool Tryd.underlying4 _) trodAll_mk0), (trodAll_cons_mk (shut_int Tryd.underlying3 w0) (trodAll_cons_mk (shut_int Tryd.underlying3 w1) (trodAll_cons_mk (shut_int Tryd.underlying3 w2) (trodAll_cons_mk (shut_int Tryd.underlying22 w3) (trodAll_cons_mk (shut_int Tryd.underlying22 w4) (trodAll_cons_mk (shut_int Tryd.underlying22 w5) trodAll_mk0)))))), rfl, hg.frame _, fun h => by cases h⟩
theorem fracOrder_said : Rows.FracOrderSaid :=
  OpenClaim.holds_of_wide 4 Tryd.f4 rfl rfl rfl rfl rfl rfl rfl ⟨rfl, rfl, rfl, rfl, rfl⟩ rfl rfl rfl rfl rfl (by kernel_rfl) Tryd.func4 (by kernel_rfl)
    (of_decide_eq_true (by kernel_rfl)) (by unfold Func.isWrapper; first | (rw [if_pos (by decide +kernel)]; kernel_rfl) | (rw [if_neg (by decide +kernel)]; exact ⟨rfl, rfl⟩))
    (fun os started H enc _ => fracOrder_lifted os started H enc)
theorem fracOrder_proved : Rows.FracOrderCardSaid :=
  Claim7.holds_tied_plain_at .later [] [.data, .data, .data] true Rows.fracOrderCard.stood.harness false
    fracOrder_said (fun _ h => by cases h) (by kernel_rfl) (fun _ h => by cases h) fracOrder_row_tie rfl ⟨rfl, rfl⟩ (by kernel_rfl) rfl
    (fun f fn hf hfn => by
      obtain rfl : f = 4 := Option.some.inj ((show Tryd.prog.funcNamed "twistlock/twistlocklaw01.FracOrder" = some 4 by kernel_rfl).symm.trans hf) |>.symm
      obtain rfl : fn = Tryd.f4 := (Option.some.inj (Tryd.func4.symm.trans hfn)).symm
      exact ⟨by kernel_rfl, fun j t ht => by
        rw [Tryd.params4] at ht
        have hm : t ∈ [3, 3, 3, 22, 22, 22] := by simpa using Array.mem_of_getElem? ht
        have hall : ([3, 3, 3, 22, 22, 22].all fun u => !Tryd.prog.wantsStandIn u) = true := by kernel_rfl
        exact (show Tryd.prog.wantsStandIn t = false by simpa using List.all_eq_true.1 hall t hm)⟩)
    (by kernel_rfl)
#print axioms fracOrder_proved
end Go.Proofs.YtkfcikijmkgahaaDoor
