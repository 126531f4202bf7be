import Derived.Test.YtkfcikijmkgahaaDoorG24
import Derived.Test.YtkfcikijmkgahaaDoorKw00
import Derived.Test.YtkfcikijmkgahaaDoorKw01
import Derived.Test.YtkfcikijmkgahaaDoorKw02
import Derived.Test.YtkfcikijmkgahaaDoorKw03
import Derived.Test.YtkfcikijmkgahaaDoorKw04
import Derived.Test.YtkfcikijmkgahaaDoorG21
import Derived.Test.YtkfcikijmkgahaaDoorG22
import Derived.Test.YtkfcikijmkgahaaDoorG26
/- FracWrong: the law holds for every input; no condition but the row's own. -/
set_option linter.unusedVariables false
set_option linter.unusedSimpArgs false
set_option linter.unusedSectionVars false
namespace Go.Proofs.YtkfcikijmkgahaaDoor
open Go.RowKit Tw
variable [ShLZ]
variable [ShSt]
theorem bAdd1 {s s' : Bool} {n d n' d' : Nat} (hn : n < R 8) (hd : d < R 8) (hn' : n' < R 8) (hd' : d' < R 8) (hb : rightB s' n' d' = false) : CC 12 #[.agg (frcC s n d), .agg (frcC s' n' d')] (.tuple #[.agg (frcC false 0 0), .int .i64 2]) := by
  intro W
  have := Add_any s s' n d n' d' hn hd hn' hd' W
  rw [hb, Bool.and_false, if_neg (by decide)] at this
  exact this
theorem bAdd2 {s s' : Bool} {n d n' d' : Nat} (hn : n < R 8) (hd : d < R 8) (hn' : n' < R 8) (hd' : d' < R 8) (hb : rightB s' n' d' = false) : CC 12 #[.agg (frcC s' n' d'), .agg (frcC s n d)] (.tuple #[.agg (frcC false 0 0), .int .i64 2]) := by
  intro W
  have := Add_any s' s n' d' n d hn' hd' hn hd W
  rw [hb, Bool.false_and, if_neg (by decide)] at this
  exact this
theorem bSub1 {s s' : Bool} {n d n' d' : Nat} (hn : n < R 8) (hd : d < R 8) (hn' : n' < R 8) (hd' : d' < R 8) (hb : rightB s' n' d' = false) : CC 13 #[.agg (frcC s n d), .agg (frcC s' n' d')] (.tuple #[.agg (frcC false 0 0), .int .i64 2]) := by
  intro W
  have := Sub_any s s' n d n' d' hn hd hn' hd' W
  rw [hb, Bool.and_false, if_neg (by decide)] at this
  exact this
theorem bSub2 {s s' : Bool} {n d n' d' : Nat} (hn : n < R 8) (hd : d < R 8) (hn' : n' < R 8) (hd' : d' < R 8) (hb : rightB s' n' d' = false) : CC 13 #[.agg (frcC s' n' d'), .agg (frcC s n d)] (.tuple #[.agg (frcC false 0 0), .int .i64 2]) := by
  intro W
  have := Sub_any s' s n' d' n d hn' hd' hn hd W
  rw [hb, Bool.false_and, if_neg (by decide)] at this
  exact this
theorem bMul1 {s s' : Bool} {n d n' d' : Nat} (hn : n < R 8) (hd : d < R 8) (hn' : n' < R 8) (hd' : d' < R 8) (hb : rightB s' n' d' = false) : CC 15 #[.agg (frcC s n d), .agg (frcC s' n' d')] (.tuple #[.agg (frcC false 0 0), .int .i64 2]) := by
  intro W
  have := Mul_any s s' n d n' d' hn hd hn' hd' W
  rw [hb, Bool.and_false, if_neg (by decide)] at this
  exact this
theorem bMul2 {s s' : Bool} {n d n' d' : Nat} (hn : n < R 8) (hd : d < R 8) (hn' : n' < R 8) (hd' : d' < R 8) (hb : rightB s' n' d' = false) : CC 15 #[.agg (frcC s' n' d'), .agg (frcC s n d)] (.tuple #[.agg (frcC false 0 0), .int .i64 2]) := by
  intro W
  have := Mul_any s' s n' d' n d hn' hd' hn hd W
  rw [hb, Bool.false_and, if_neg (by decide)] at this
  exact this
theorem bDiv1 {s s' : Bool} {n d n' d' : Nat} (hn : n < R 8) (hd : d < R 8) (hn' : n' < R 8) (hd' : d' < R 8) (hb : rightB s' n' d' = false) : CC 17 #[.agg (frcC s n d), .agg (frcC s' n' d')] (.tuple #[.agg (frcC false 0 0), .int .i64 2]) := by
  intro W
  have := Div_any s s' n d n' d' hn hd hn' hd' W
  rw [if_neg (fun h => absurd (h.2.1) (by rw [hb]; decide))] at this
  exact this
theorem bDiv2 {s s' : Bool} {n d n' d' : Nat} (hn : n < R 8) (hd : d < R 8) (hn' : n' < R 8) (hd' : d' < R 8) (hb : rightB s' n' d' = false) : CC 17 #[.agg (frcC s' n' d'), .agg (frcC s n d)] (.tuple #[.agg (frcC false 0 0), .int .i64 2]) := by
  intro W
  have := Div_any s' s n' d' n d hn' hd' hn hd W
  rw [if_neg (fun h => absurd (h.1) (by rw [hb]; decide))] at this
  exact this
theorem bCmp1 {s s' : Bool} {n d n' d' : Nat} (hn : n < R 8) (hd : d < R 8) (hn' : n' < R 8) (hd' : d' < R 8) (hb : rightB s' n' d' = false) : CC 18 #[.agg (frcC s n d), .agg (frcC s' n' d')] (.tuple #[.int .i64 0, .int .i64 2]) := by
  intro W
  have := Cmp_any s s' n d n' d' hn hd hn' hd' W
  rw [if_neg (fun h => absurd (h.2) (by rw [hb]; decide))] at this
  exact this
theorem bCmp2 {s s' : Bool} {n d n' d' : Nat} (hn : n < R 8) (hd : d < R 8) (hn' : n' < R 8) (hd' : d' < R 8) (hb : rightB s' n' d' = false) : CC 18 #[.agg (frcC s' n' d'), .agg (frcC s n d)] (.tuple #[.int .i64 0, .int .i64 2]) := by
  intro W
  have := Cmp_any s' s n' d' n d hn' hd' hn hd W
  rw [if_neg (fun h => absurd (h.1) (by rw [hb]; decide))] at this
  exact this
theorem bFloor {s' : Bool} {n' d' : Nat} (hn' : n' < R 8) (hd' : d' < R 8) (hb : rightB s' n' d' = false) : CC 19 #[.agg (frcC s' n' d')] (.tuple #[.int .i64 0, .int .i64 2]) := by
  intro W
  have := floor_any s' n' d' hn' hd' W
  rw [if_neg (by rw [hb]; decide)] at this
  exact this
theorem bText {s' : Bool} {n' d' : Nat} (hn' : n' < R 8) (hd' : d' < R 8) (hb : rightB s' n' d' = false) (W : World) (hW : Env W) : Calls Tryd.prog 20 #[.agg (frcC s' n' d')] W fun e w' => e = .returned (.tuple #[.string ⟨#[]⟩, .int .i64 2]) ∧ Below W.heap.size W w' := by
  have := text_any s' n' d' hn' hd' W hW
  rw [if_neg (by rw [hb]; decide)] at this
  exact this
theorem bRight {s' : Bool} {n' d' : Nat} (hn' : n' < R 8) (hd' : d' < R 8) (hb : rightB s' n' d' = false) : CC 24 #[.agg (frcC s' n' d')] (.bool false) := by
  intro W
  have := right_any s' n' d' hn' hd' W
  rw [hb] at this
  exact this
theorem gRight {s : Bool} {n d : Nat} (hn : n < R 8) (hd : d < R 8) (h : rightB s n d = true) : CC 24 #[.agg (frcC s n d)] (.bool true) := by
  intro W
  have := right_any s n d hn hd W
  rw [h] at this
  exact this
theorem bSum1 {s s' : Bool} {n d n' d' : Nat} (hn : n < R 8) (hd : d < R 8) (hn' : n' < R 8) (hd' : d' < R 8) (hb : rightB s' n' d' = false) (hr : rightB s n d = true) : CC 25 #[.agg (frcC s n d), .agg (frcC s' n' d')] (.tuple #[.agg (frcC false 0 0), .int .i64 2]) := fun W =>
  clo_walk s s' n d n' d' (fun W g0 hg => Sum_second s s' n d n' d' (gRight hn hd hr) (bRight hn' hd' hb) W g0 hg) W
theorem bSum2 {s s' : Bool} {n d n' d' : Nat} (hn : n < R 8) (hd : d < R 8) (hn' : n' < R 8) (hd' : d' < R 8) (hb : rightB s' n' d' = false) : CC 25 #[.agg (frcC s' n' d'), .agg (frcC s n d)] (.tuple #[.agg (frcC false 0 0), .int .i64 2]) := fun W =>
  clo_walk s' s n' d' n d (fun W g0 hg => Sum_first s' s n' d' n d (bRight hn' hd' hb) W g0 hg) W
set_option maxHeartbeats 1000000 in
theorem FracWrong_any (a : Int) (d c : Nat) (a1 : -9223372036854775808 ≤ a) (a2 : a ≤ 9223372036854775807) (hd : d ≤ 4294967295) (hc : c ≤ 255)
    (hA : ∀ W, Env W → Calls Tryd.prog 10 #[] W fun e w' => e = .returned (.bool true) ∧ Below W.heap.size W w') (w : World) (hE : Env w) :
    Calls Tryd.prog 9 #[.int .i64 a, .int .u32 (d : Int), .int .u8 (c : Int)] w fun e w' => e = .returned (.bool true) ∧ Below w.heap.size w w' := by
  obtain ⟨a0, h1, h2⟩ := or_one_i64 (a / 2 ^ 4)
  have hx0 : fr (bits .or .i64 (a / 2 ^ 4) 1) ((d / 16 : Nat) + 1) ≠ 0 := fr_ne _ _ (by omega) a0
  have bx : bd (fr (bits .or .i64 (a / 2 ^ 4) 1) ((d / 16 : Nat) + 1)) 9223372036854775808 4294967296 := fr_bd _ _ (by omega) (by omega) (by omega)
  have mx := rMade _ (d / 16) h1 h2 (by omega)
  generalize fr (bits .or .i64 (a / 2 ^ 4) 1) ((d / 16 : Nat) + 1) = X at *
  have fx : fits X := bd_fits bx (by decide +kernel) (by decide +kernel)
  have hr := rat_right X
  have hn0 : X.num.natAbs ≠ 0 := fun h => num_ne hx0 (Int.natAbs_eq_zero.1 h)
  have hn7 : X.num.natAbs < R 7 := Nat.lt_of_le_of_lt bx.1 (by decide +kernel)
  have hd0 : X.den < R 8 := fx.2
  have z8 : (0 : Nat) < R 8 := R_pos 8
  have hcase : c % 4 = 0 ∨ c % 4 = 1 ∨ c % 4 = 2 ∨ c % 4 = 3 := by omega
  rcases hcase with hw | hw | hw | hw
  · have hb : rightB (decide (X.num < 0)) X.num.natAbs 0 = false := by unfold rightB; rw [if_neg hn0]; exact decide_eq_false (fun h => h.1 rfl)
    exact FracWrong_w0 w a d c (decide (X.num < 0)) X.num.natAbs X.den fx.1 fx.2 (by omega) hw (fun W hW => hA W (hE.keep hW)) mx (gRight fx.1 fx.2 hr) (bRight fx.1 z8 hb)
      (bAdd1 fx.1 fx.2 fx.1 z8 hb) (bAdd2 fx.1 fx.2 fx.1 z8 hb)
      (bSub1 fx.1 fx.2 fx.1 z8 hb) (bSub2 fx.1 fx.2 fx.1 z8 hb)
      (bMul1 fx.1 fx.2 fx.1 z8 hb) (bMul2 fx.1 fx.2 fx.1 z8 hb)
      (bDiv1 fx.1 fx.2 fx.1 z8 hb) (bDiv2 fx.1 fx.2 fx.1 z8 hb)
      (bSum1 fx.1 fx.2 fx.1 z8 hb hr) (bSum2 fx.1 fx.2 fx.1 z8 hb) (bCmp1 fx.1 fx.2 fx.1 z8 hb) (bCmp2 fx.1 fx.2 fx.1 z8 hb) (bFloor fx.1 z8 hb) (fun W hW => bText fx.1 z8 hb W (hE.keep hW))
  · have hb : rightB (decide (X.num < 0)) (topN X.num.natAbs) (topN X.den) = false := right_top _ hn7 hn0
    exact FracWrong_w1 w a d c (decide (X.num < 0)) X.num.natAbs X.den fx.1 fx.2 (by omega) hw (fun W hW => hA W (hE.keep hW)) mx (gRight fx.1 fx.2 hr) (bRight (topN_lt fx.1) (topN_lt fx.2) hb)
      (bAdd1 fx.1 fx.2 (topN_lt fx.1) (topN_lt fx.2) hb) (bAdd2 fx.1 fx.2 (topN_lt fx.1) (topN_lt fx.2) hb)
      (bSub1 fx.1 fx.2 (topN_lt fx.1) (topN_lt fx.2) hb) (bSub2 fx.1 fx.2 (topN_lt fx.1) (topN_lt fx.2) hb)
      (bMul1 fx.1 fx.2 (topN_lt fx.1) (topN_lt fx.2) hb) (bMul2 fx.1 fx.2 (topN_lt fx.1) (topN_lt fx.2) hb)
      (bDiv1 fx.1 fx.2 (topN_lt fx.1) (topN_lt fx.2) hb) (bDiv2 fx.1 fx.2 (topN_lt fx.1) (topN_lt fx.2) hb)
      (bSum1 fx.1 fx.2 (topN_lt fx.1) (topN_lt fx.2) hb hr) (bSum2 fx.1 fx.2 (topN_lt fx.1) (topN_lt fx.2) hb) (bCmp1 fx.1 fx.2 (topN_lt fx.1) (topN_lt fx.2) hb) (bCmp2 fx.1 fx.2 (topN_lt fx.1) (topN_lt fx.2) hb) (bFloor (topN_lt fx.1) (topN_lt fx.2) hb) (fun W hW => bText (topN_lt fx.1) (topN_lt fx.2) hb W (hE.keep hW))
  · have hb : rightB (true) 0 1 = false := rfl
    exact FracWrong_w2 w a d c (decide (X.num < 0)) X.num.natAbs X.den fx.1 fx.2 (by omega) hw (fun W hW => hA W (hE.keep hW)) mx (gRight fx.1 fx.2 hr) (bRight z8 (lt8 (by omega)) hb)
      (bAdd1 fx.1 fx.2 z8 (lt8 (by omega)) hb) (bAdd2 fx.1 fx.2 z8 (lt8 (by omega)) hb)
      (bSub1 fx.1 fx.2 z8 (lt8 (by omega)) hb) (bSub2 fx.1 fx.2 z8 (lt8 (by omega)) hb)
      (bMul1 fx.1 fx.2 z8 (lt8 (by omega)) hb) (bMul2 fx.1 fx.2 z8 (lt8 (by omega)) hb)
      (bDiv1 fx.1 fx.2 z8 (lt8 (by omega)) hb) (bDiv2 fx.1 fx.2 z8 (lt8 (by omega)) hb)
      (bSum1 fx.1 fx.2 z8 (lt8 (by omega)) hb hr) (bSum2 fx.1 fx.2 z8 (lt8 (by omega)) hb) (bCmp1 fx.1 fx.2 z8 (lt8 (by omega)) hb) (bCmp2 fx.1 fx.2 z8 (lt8 (by omega)) hb) (bFloor z8 (lt8 (by omega)) hb) (fun W hW => bText z8 (lt8 (by omega)) hb W (hE.keep hW))
  · have hb : rightB (false) 0 (d / 16 + 2) = false := by unfold rightB; rw [if_pos rfl]; exact decide_eq_false (fun h => by omega)
    exact FracWrong_w3 w a d c (decide (X.num < 0)) X.num.natAbs X.den fx.1 fx.2 (by omega) hw (fun W hW => hA W (hE.keep hW)) mx (gRight fx.1 fx.2 hr) (bRight z8 (lt8 (by omega)) hb)
      (bAdd1 fx.1 fx.2 z8 (lt8 (by omega)) hb) (bAdd2 fx.1 fx.2 z8 (lt8 (by omega)) hb)
      (bSub1 fx.1 fx.2 z8 (lt8 (by omega)) hb) (bSub2 fx.1 fx.2 z8 (lt8 (by omega)) hb)
      (bMul1 fx.1 fx.2 z8 (lt8 (by omega)) hb) (bMul2 fx.1 fx.2 z8 (lt8 (by omega)) hb)
      (bDiv1 fx.1 fx.2 z8 (lt8 (by omega)) hb) (bDiv2 fx.1 fx.2 z8 (lt8 (by omega)) hb)
      (bSum1 fx.1 fx.2 z8 (lt8 (by omega)) hb hr) (bSum2 fx.1 fx.2 z8 (lt8 (by omega)) hb) (bCmp1 fx.1 fx.2 z8 (lt8 (by omega)) hb) (bCmp2 fx.1 fx.2 z8 (lt8 (by omega)) hb) (bFloor z8 (lt8 (by omega)) hb) (fun W hW => bText z8 (lt8 (by omega)) hb W (hE.keep hW))
end Go.Proofs.YtkfcikijmkgahaaDoor
/- FracWrong holds for every input: the program's own answer is true, wherever the tables of the library are as the program's text lays them. -/
namespace Go.Proofs.YtkfcikijmkgahaaDoor
open Go.ChangeShapes Go.WideShapes Go.ChangeAt Go.RowKit Tw
theorem fracWrong_walk (a0 : Int) (a1 : Int) (a2 : Int) (w0 : (Lit.int .i64 a0).wf = true) (w1 : (Lit.int .u32 a1).wf = true) (w2 : (Lit.int .u8 a2).wf = true) (w : World) (hE : Env w) :
    Calls Tryd.prog 9 #[.int .i64 a0, .int .u32 a1, .int .u8 a2] w fun e w' => e = .returned (.bool true) ∧ Below w.heap.size w w' := by
  have r0 : -9223372036854775808 ≤ a0 ∧ a0 ≤ 9223372036854775807 := of_wf w0
  have r1 : 0 ≤ a1 ∧ a1 ≤ 4294967295 := of_wf w1
  obtain ⟨n1, rfl⟩ : ∃ n : Nat, a1 = (n : Int) := ⟨a1.toNat, by omega⟩
  have r2 : 0 ≤ a2 ∧ a2 ≤ 255 := of_wf w2
  obtain ⟨n2, rfl⟩ : ∃ n : Nat, a2 = (n : Int) := ⟨a2.toNat, by omega⟩
  exact FracWrong_any a0 n1 n2 r0.1 r0.2 (by omega) (by omega) (fun W hW => awake_any rep_any W hW) w hE
set_option maxRecDepth 100000 in
theorem fracWrong_lifted (os : Os) (started : os.Started) (H : Type) (enc : TypeId × Value → H) :
    ReturnsInHanded {} Tryd.checked os 9 .any (fun w args => (Rows.fracWrongSpec.pre enc Tryd.prog Tryd.f9 Rows.fracWrongRow.domain false w args ∧ laidMetH Tryd.prog laid3 w) ∧ sizedMet enc Tryd.prog Tryd.f9 (OpenSpec.ofChange Rows.fracWrongSpec) false w args) (Rows.fracWrongSpec.post enc Tryd.prog Tryd.f9 false true false false) := by
  refine handed_and_shaped (C := Tryd.checked) (X := fun w => laidMetH Tryd.prog laid3 w) (fun _ _ hh h => h.of_heap hh) own started (by kernel_rfl) Tryd.func9
    (ChangeSpec.witness_shaped (enc := enc) (C := Tryd.checked) (os := os) (X := fun w _ => laidMetH Tryd.prog laid3 w) false (World.doorLaid Tryd.prog 1000 os) #[.int .i64 0, .int .u32 0, .int .u8 0] 8 rfl (World.shaped_of_RefB (by kernel_rfl) (by kernel_rfl)) (by kernel_rfl) (by kernel_rfl) (by kernel_rfl) (door_met os _)) ?_
  intro W base args ds gs before hval0 hW hL hsh
  have hval : ∀ (j : Nat) t v, Tryd.f9.params[j]? = some t → args[j]? = some v → Value.okWide Tryd.prog W .any base t v := hval0
  have hW' := hW
  obtain ⟨p, q, hA0, hV, rfl, hfz, hnd⟩ := hW
  have hA : DataW.TrodAll enc Tryd.prog W 0 (fun _ => true) true Tryd.f9.params.toList args.toList ds p := hA0
  rw [Tryd.params9] at hA hval
  obtain ⟨v0, vs0, d0, ds0, p0, q0, hargs, rfl, rfl, h0, r0⟩ := trodAll_cons hA
  obtain ⟨v1, vs1, d1, ds1, p1, q1, rfl, rfl, rfl, h1, r1⟩ := trodAll_cons r0
  obtain ⟨v2, vs2, d2, ds2, p2, q2, rfl, rfl, rfl, h2, r2⟩ := trodAll_cons r1
  obtain ⟨rfl, rfl, rfl⟩ := trodAll_nil r2
  obtain rfl : args = #[v0, v1, v2] := by cases args; simp_all
  obtain ⟨rfl, rfl⟩ := trodVars_none hV
  obtain ⟨a0, rfl, rfl, rfl, w0⟩ := open_int Tryd.underlying3 (hval 0 3 v0 rfl rfl) h0
  obtain ⟨a1, rfl, rfl, rfl, w1⟩ := open_int Tryd.underlying22 (hval 1 22 v1 rfl rfl) h1
  obtain ⟨a2, rfl, rfl, rfl, w2⟩ := open_int Tryd.underlying5 (hval 2 5 v2 rfl rfl) h2
  clear hA0 hval0
  simp only [List.append_nil] at hW'
  refine (fracWrong_walk a0 a1 a2 w0 w1 w2 W (env_of hL hsh)).mono fun e W' ⟨he, hg⟩ => ?_
  subst he
  exact ⟨_, rfl, _, _, _, [], [], [], hW', (trodAll_cons_mk (shut_bool Tryd.underlying4 _) trodAll_mk0), (trodAll_cons_mk (shut_int Tryd.underlying3 w0) (trodAll_cons_mk (shut_int Tryd.underlying22 w1) (trodAll_cons_mk (shut_int Tryd.underlying5 w2) trodAll_mk0))), rfl, hg.frame _, fun h => by cases h⟩
theorem fracWrong_said : Rows.FracWrongSaid :=
  OpenClaim.holds_of_wide 9 Tryd.f9 rfl rfl rfl rfl rfl rfl rfl ⟨rfl, rfl, rfl, rfl, rfl⟩ rfl rfl rfl rfl rfl (by kernel_rfl) Tryd.func9 (by kernel_rfl)
    (of_decide_eq_true (by kernel_rfl)) (by unfold Func.isWrapper; first | (rw [if_pos (by decide +kernel)]; kernel_rfl) | (rw [if_neg (by decide +kernel)]; exact ⟨rfl, rfl⟩))
    (fun os started H enc _ => fracWrong_lifted os started H enc)
theorem fracWrong_proved : Rows.FracWrongCardSaid :=
  Claim7.holds_tied_plain_at .later [] [.data, .data, .data] true Rows.fracWrongCard.stood.harness false
    fracWrong_said (fun _ h => by cases h) (by kernel_rfl) (fun _ h => by cases h) fracWrong_row_tie rfl ⟨rfl, rfl⟩ (by kernel_rfl) rfl
    (fun f fn hf hfn => by
      obtain rfl : f = 9 := Option.some.inj ((show Tryd.prog.funcNamed "twistlock/twistlocklaw01.FracWrong" = some 9 by kernel_rfl).symm.trans hf) |>.symm
      obtain rfl : fn = Tryd.f9 := (Option.some.inj (Tryd.func9.symm.trans hfn)).symm
      exact ⟨by kernel_rfl, fun j t ht => by
        rw [Tryd.params9] at ht
        have hm : t ∈ [3, 22, 5] := by simpa using Array.mem_of_getElem? ht
        have hall : ([3, 22, 5].all fun u => !Tryd.prog.wantsStandIn u) = true := by kernel_rfl
        exact (show Tryd.prog.wantsStandIn t = false by simpa using List.all_eq_true.1 hall t hm)⟩)
    (by kernel_rfl)
#print axioms fracWrong_proved
end Go.Proofs.YtkfcikijmkgahaaDoor
