import Derived.Test.YtkfcikijmkgahaaDoorG24
import Derived.Test.YtkfcikijmkgahaaDoorKl00
import Derived.Test.YtkfcikijmkgahaaDoorKl01
import Derived.Test.YtkfcikijmkgahaaDoorKl02
import Derived.Test.YtkfcikijmkgahaaDoorG22
import Derived.Test.YtkfcikijmkgahaaDoorG26
/- FracLong: the law holds for every input; no condition but the row's own. -/
set_option linter.unusedVariables false
set_option linter.unusedSimpArgs false
set_option linter.unusedSectionVars false
namespace Go.Proofs.YtkfcikijmkgahaaDoor
open Go.RowKit Tw
variable [ShLZ]
variable [ShSt]
theorem R8_pow : R 8 = 2 ^ 256 := by unfold R; decide +kernel
theorem ratV_nat (k : Nat) : ratV (((k : Int)) : Rat) = .agg (frcC false k 1) := by
  rw [ratV_int, decide_eq_false (by omega)]
  rfl
theorem num_nat (k : Nat) : (((k : Int)) : Rat).num = (k : Int) := by simp
theorem den_nat (k : Nat) : (((k : Int)) : Rat).den = 1 := by simp
theorem fits_nat {k : Nat} (h : k < R 8) : fits (((k : Int)) : Rat) := ⟨by rw [num_nat]; exact h, by rw [den_nat]; exact lt8 (by omega)⟩
theorem not_fits_nat {k : Nat} (h : ¬ k < R 8) : ¬ fits (((k : Int)) : Rat) := fun hh => h (by have := hh.1; rw [num_nat] at this; exact this)
theorem cast_mul_nat (j k : Nat) : (((j : Int)) : Rat) * (((k : Int)) : Rat) = (((j * k : Nat) : Int) : Rat) := by
  rw [Int.natCast_mul, Rat.intCast_mul]
theorem bd_nat (k : Nat) : bd (((k : Int)) : Rat) k 1 := ⟨by rw [num_nat]; exact Nat.le_refl _, by rw [den_nat]; exact Nat.le_refl _⟩
theorem ne_nat {k : Nat} (h : 0 < k) : (((k : Int)) : Rat) ≠ 0 := by
  intro h0
  have := num_nat k
  rw [h0] at this
  simp at this
  omega
theorem rMulN (j k l : Nat) (hl : j * k = l) (hj : j < R 8) (hk : k < R 8) (h : l < R 8) : CC 15 #[.agg (frcC false j 1), .agg (frcC false k 1)] (.tuple #[.agg (frcC false l 1), .int .i64 0]) := by
  have := rMul _ _ _ (fits_nat hj) (fits_nat hk) (by rw [cast_mul_nat, hl]) (fits_nat h)
  rw [ratV_nat, ratV_nat, ratV_nat] at this
  exact this
theorem rMulL (x y : Rat) (hx : fits x) (hy : fits y) (h : ¬ fits (x * y)) : CC 15 #[ratV x, ratV y] (.tuple #[.agg (frcC false 0 0), .int .i64 3]) := by
  intro W
  have := Mul_any (decide (x.num < 0)) (decide (y.num < 0)) x.num.natAbs x.den y.num.natAbs y.den hx.1 hx.2 hy.1 hy.2 W
  rw [rat_right, rat_right, mulV_rat, fracV_long h, if_pos (show (true && true) = true from rfl)] at this
  exact this
theorem rMulNL (j k l : Nat) (hl : j * k = l) (hj : j < R 8) (hk : k < R 8) (h : ¬ l < R 8) : CC 15 #[.agg (frcC false j 1), .agg (frcC false k 1)] (.tuple #[.agg (frcC false 0 0), .int .i64 3]) := by
  have := rMulL _ _ (fits_nat hj) (fits_nat hk) (by rw [cast_mul_nat, hl]; exact not_fits_nat h)
  rw [ratV_nat, ratV_nat] at this
  exact this
theorem rDivL (x y : Rat) (hx : fits x) (hy : fits y) (h0 : y ≠ 0) (h : ¬ fits (x / y)) : CC 17 #[ratV x, ratV y] (.tuple #[.agg (frcC false 0 0), .int .i64 3]) := by
  intro W
  have := Div_any (decide (x.num < 0)) (decide (y.num < 0)) x.num.natAbs x.den y.num.natAbs y.den hx.1 hx.2 hy.1 hy.2 W
  rw [if_pos ⟨rat_right x, rat_right y, fun h => num_ne h0 (Int.natAbs_eq_zero.1 h)⟩, divV_rat x y (num_ne h0), fracV_long h] at this
  exact this
theorem rOfN (k : Nat) (h : k ≤ 9223372036854775807) : CC 16 #[.int .i64 (k : Int)] (.agg (frcC false k 1)) := by
  have := rOf (k : Int) (by omega) (by omega)
  rw [ratV_nat] at this
  exact this
theorem pow_lt8 {j : Nat} (h : j ≤ 224) : 2 ^ j < R 8 := by rw [R8_pow]; exact Nat.pow_lt_pow_right (by omega) (by omega)
theorem pow_60 {m : Nat} (h : m ≤ 60) : 2 ^ m ≤ 9223372036854775807 := Nat.le_trans (Nat.pow_le_pow_right (by omega) h) (by decide)
theorem power_any (A : Nat) (h : A ≤ 224) : CC 23 #[.int .i64 (A : Int)] (.tuple #[.agg (frcC false (2 ^ A) 1), .int .i64 0]) := by
  intro W
  have := power_walk (A : Int) (by omega) (by omega) rOf1 (fun m hm => rOfN (2 ^ m) (pow_60 hm)) (fun j m hjm => rMulN _ _ _ (Nat.pow_add 2 j m).symm (pow_lt8 (by omega)) (pow_lt8 (by omega)) (pow_lt8 hjm)) W
  rw [Int.toNat_natCast] at this
  exact this
theorem or_one_u32 (n : Int) : ∃ o : Nat, bits .or .u32 n 1 = (o : Int) ∧ o < 4294967296 ∧ 0 < o := by
  have h : bits .or .u32 n 1 = IntKind.u32.wrap ((BitVec.ofInt 32 n ||| BitVec.ofInt 32 1).toNat : Int) := rfl
  have h2 : (BitVec.ofInt 32 n ||| BitVec.ofInt 32 1).toNat % 2 = 1 := by
    rw [Nat.mod_two_eq_one_iff_testBit_zero, BitVec.toNat_or, Nat.testBit_or]
    have : (BitVec.ofInt 32 1).toNat = 1 := rfl
    rw [this]
    simp
  generalize (BitVec.ofInt 32 n ||| BitVec.ofInt 32 1).toNat = v at *
  refine ⟨v % 4294967296, ?_, by omega, by omega⟩
  rw [h]
  simp only [IntKind.wrap_u32]
  omega
theorem bl_bounds {o : Nat} (h : 0 < o) : o < 2 ^ bl o ∧ 2 ^ (bl o - 1) ≤ o ∧ 1 ≤ bl o := by
  unfold bl
  rw [if_neg (by omega), Nat.add_sub_cancel]
  exact ⟨Nat.lt_log2_self, Nat.log2_self_le (by omega), by omega⟩
theorem bl_32 {o : Nat} (h : o < 4294967296) : bl o ≤ 32 := by
  unfold bl
  split
  · omega
  · have := (Nat.log2_lt (k := 32) (by omega)).2 h
    omega
theorem long_up {o C K : Nat} (h : o < 2 ^ C) (hk : C + K ≤ 256) : o * 2 ^ K < R 8 := by
  rw [R8_pow]
  refine Nat.lt_of_lt_of_le (Nat.mul_lt_mul_of_pos_right h (Nat.pow_pos (by omega))) ?_
  rw [← Nat.pow_add]
  exact Nat.pow_le_pow_right (by omega) hk
theorem long_low {o C K : Nat} (h : 2 ^ (C - 1) ≤ o) (h1 : 1 ≤ C) (hk : C + K > 256) : ¬ o * 2 ^ K < R 8 := by
  rw [R8_pow]
  have h2 : 2 ^ (C - 1) * 2 ^ K ≤ o * 2 ^ K := Nat.mul_le_mul_right _ h
  rw [← Nat.pow_add] at h2
  have h3 : 2 ^ 256 ≤ 2 ^ (C - 1 + K) := Nat.pow_le_pow_right (by omega) (by omega)
  omega
theorem inv_long {k : Nat} (hk : ¬ k < R 8) : ¬ fits (1 / (((k : Int)) : Rat)) := by
  intro h
  have hk0 : 0 < k := Nat.lt_of_lt_of_le (R_pos 8) (by omega)
  have hne := ne_nat hk0
  have hu : 1 / (((k : Int)) : Rat) * (((k : Int)) : Rat) = 1 := by grind
  generalize 1 / (((k : Int)) : Rat) = U at *
  have hd : (U.num : Rat) / (U.den : Rat) = U := by rw [← Rat.mkRat_eq_div, Rat.mkRat_self]
  have hdn : ((U.den : Rat)) ≠ 0 := by
    have := ne_nat U.den_pos
    exact this
  have h1 : (U.num : Rat) * (((k : Int)) : Rat) = (((U.den : Int)) : Rat) := by
    have h2 : (((U.den : Int)) : Rat) = (U.den : Rat) := rfl
    rw [h2]
    grind
  rw [← Rat.intCast_mul, Rat.intCast_inj] at h1
  have h2 := h.2
  have h3 : 0 < U.den := U.den_pos
  rcases Int.lt_trichotomy U.num 0 with h4 | h4 | h4
  · have : U.num * (k : Int) ≤ 0 := Int.mul_nonpos_of_nonpos_of_nonneg (by omega) (by omega)
    omega
  · rw [h4] at h1; omega
  · have : 1 * (k : Int) ≤ U.num * (k : Int) := Int.mul_le_mul_of_nonneg_right (by omega) (by omega)
    omega
set_option maxHeartbeats 2000000 in
theorem FracLong_any (n a b : Nat) (hn : n ≤ 4294967295) (ha : a ≤ 255) (hb : b ≤ 255)
    (hA : ∀ W, Env W → Calls Tryd.prog 10 #[] W fun e w' => e = .returned (.bool true) ∧ Below W.heap.size W w') (w : World) (hE : Env w) :
    Calls Tryd.prog 8 #[.int .u32 (n : Int), .int .u8 (a : Int), .int .u8 (b : Int)] w fun e w' => e = .returned (.bool true) ∧ Below w.heap.size w w' := by
  obtain ⟨o, ho, ho32, ho0⟩ := or_one_u32 (n : Int)
  obtain ⟨A, hAe⟩ : ∃ A, a % 225 = A := ⟨_, rfl⟩
  obtain ⟨B, hBe⟩ : ∃ B, b % 225 = B := ⟨_, rfl⟩
  have hA4 : A ≤ 224 := by omega
  have hB4 : B ≤ 224 := by omega
  obtain ⟨C, hC⟩ : ∃ C, bl o = C := ⟨_, rfl⟩
  obtain ⟨h1, h2, h3⟩ := bl_bounds ho0
  have hC32 := bl_32 ho32
  rw [hC] at h1 h2 h3 hC32
  have o8 : o < R 8 := lt8 ho32
  have hpa := power_any A hA4
  have hpb := power_any B hB4
  have hoo := rOfN o (by omega)
  have hcom : 2 ^ A * o = o * 2 ^ A := Nat.mul_comm _ _
  by_cases hl1 : A + C > 256
  · exact FracLong_w0 w n a b o A B C ho ho32 hAe hBe hC hC32 (by omega) (by omega) hl1 (fun W hW => hA W (hE.keep hW)) hoo hpa hpb
      (rMulNL _ _ _ hcom (pow_lt8 hA4) o8 (long_low h2 h3 (by omega)))
  have x8 : o * 2 ^ A < R 8 := long_up h1 (by omega)
  have x0 : 0 < o * 2 ^ A := Nat.mul_pos ho0 (Nat.pow_pos (by omega))
  have y8 := pow_lt8 hB4
  have y0 : 0 < 2 ^ B := Nat.pow_pos (by omega)
  have m1 := rMulN _ _ _ hcom (pow_lt8 hA4) o8 x8
  have hassoc : o * 2 ^ A * 2 ^ B = o * 2 ^ (A + B) := by rw [Nat.mul_assoc, ← Nat.pow_add]
  generalize hX : o * 2 ^ A = X at *
  generalize hY : 2 ^ B = Y at *
  have b1 : bd (1 : Rat) 1 1 := by unfold bd; decide
  have f1 : fits 1 := by decide +kernel
  have l1 : (1 : Nat) < R 8 := lt8 (by omega)
  have fX := fits_nat x8
  have fY := fits_nat y8
  have nX := ne_nat x0
  have nY := ne_nat y0
  have fT : fits (1 / (((X : Int)) : Rat)) := bd_fits (bd_div b1 (bd_nat X) (by omega)) (by omega) (by omega)
  have fQ : fits ((((X : Int)) : Rat) / (((Y : Int)) : Rat)) := bd_fits (bd_div (bd_nat X) (bd_nat Y) (by omega)) (by omega) (by omega)
  have d1 := rDiv 1 _ _ f1 fX nX rfl fT
  have d3 := rDiv _ _ _ fX fY nY rfl fQ
  have m3 := rMul _ _ (((X : Int)) : Rat) fQ fY (by grind) fX
  rw [ratV_one, ratV_nat] at d1
  rw [ratV_nat, ratV_nat] at d3
  rw [ratV_nat, ratV_nat] at m3
  have hne : decide (false = false ∧ X = 0 ∧ 1 = 0) = false := by simp
  have hT2 : 1 / (((X : Int)) : Rat) / (((Y : Int)) : Rat) = 1 / (((X * Y : Nat) : Int) : Rat) := by
    rw [← cast_mul_nat]
    grind
  by_cases hl2 : C + A + B > 256
  · have p8 : ¬ X * Y < R 8 := by rw [hassoc]; exact long_low h2 h3 (by omega)
    have d2 := rDivL _ _ fT fY nY (by rw [hT2]; exact inv_long p8)
    rw [ratV_nat] at d2
    exact FracLong_w1 w n a b false X 1 x8 l1 _ _ _ fT.1 fT.2 _ _ _ fQ.1 fQ.2 o A B C ho ho32 hAe hBe hC hC32 (by omega) (by omega) hl2 hne (fun W hW => hA W (hE.keep hW)) hoo hpa (by rw [hY]; exact hpb)
      m1 (by rw [hY]; exact rMulNL _ _ _ rfl x8 y8 p8) rOf1 d1 (by rw [hY]; exact d2) (by rw [hY]; exact d3) (by rw [hY]; exact m3)
  · have p8 : X * Y < R 8 := by rw [hassoc]; exact long_up h1 (by omega)
    have p0 : 0 < X * Y := Nat.mul_pos x0 y0
    have fU : fits (1 / (((X * Y : Nat) : Int) : Rat)) := bd_fits (bd_div b1 (bd_nat (X * Y)) (by omega)) (by omega) (by omega)
    have d2 := rDiv _ _ _ fT fY nY hT2 fU
    have d4 := rDiv 1 _ _ f1 (fits_nat p8) (ne_nat p0) rfl fU
    rw [ratV_nat] at d2
    rw [ratV_one, ratV_nat] at d4
    exact FracLong_w2 w n a b false X 1 x8 l1 false (X * Y) 1 p8 l1 _ _ _ fT.1 fT.2 _ _ _ fU.1 fU.2 _ _ _ fQ.1 fQ.2 o A B C ho ho32 hAe hBe hC hC32 (by omega) (by omega) hl2 hne (fun W hW => hA W (hE.keep hW)) hoo hpa (by rw [hY]; exact hpb)
      m1 (by rw [hY]; exact rMulN _ _ _ rfl x8 y8 p8) rOf1 d1 (by rw [hY]; exact d2) (by rw [hY]; exact d3) (by rw [hY]; exact m3) d4
end Go.Proofs.YtkfcikijmkgahaaDoor
/- FracLong holds for every input: the program's own answer is true, wherever the tables of the library are as the program's text lays them. -/
namespace Go.Proofs.YtkfcikijmkgahaaDoor
open Go.ChangeShapes Go.WideShapes Go.ChangeAt Go.RowKit Tw
theorem fracLong_walk (a0 : Int) (a1 : Int) (a2 : Int) (w0 : (Lit.int .u32 a0).wf = true) (w1 : (Lit.int .u8 a1).wf = true) (w2 : (Lit.int .u8 a2).wf = true) (w : World) (hE : Env w) :
    Calls Tryd.prog 8 #[.int .u32 a0, .int .u8 a1, .int .u8 a2] w fun e w' => e = .returned (.bool true) ∧ Below w.heap.size w w' := by
  have r0 : 0 ≤ a0 ∧ a0 ≤ 4294967295 := of_wf w0
  obtain ⟨n0, rfl⟩ : ∃ n : Nat, a0 = (n : Int) := ⟨a0.toNat, by omega⟩
  have r1 : 0 ≤ a1 ∧ a1 ≤ 255 := of_wf w1
  obtain ⟨n1, rfl⟩ : ∃ n : Nat, a1 = (n : Int) := ⟨a1.toNat, by omega⟩
  have r2 : 0 ≤ a2 ∧ a2 ≤ 255 := of_wf w2
  obtain ⟨n2, rfl⟩ : ∃ n : Nat, a2 = (n : Int) := ⟨a2.toNat, by omega⟩
  exact FracLong_any n0 n1 n2 (by omega) (by omega) (by omega) (fun W hW => awake_any rep_any W hW) w hE
set_option maxRecDepth 100000 in
theorem fracLong_lifted (os : Os) (started : os.Started) (H : Type) (enc : TypeId × Value → H) :
    ReturnsInHanded {} Tryd.checked os 8 .any (fun w args => (Rows.fracLongSpec.pre enc Tryd.prog Tryd.f8 Rows.fracLongRow.domain false w args ∧ laidMetH Tryd.prog laid3 w) ∧ sizedMet enc Tryd.prog Tryd.f8 (OpenSpec.ofChange Rows.fracLongSpec) false w args) (Rows.fracLongSpec.post enc Tryd.prog Tryd.f8 false true false false) := by
  refine handed_and_shaped (C := Tryd.checked) (X := fun w => laidMetH Tryd.prog laid3 w) (fun _ _ hh h => h.of_heap hh) own started (by kernel_rfl) Tryd.func8
    (ChangeSpec.witness_shaped (enc := enc) (C := Tryd.checked) (os := os) (X := fun w _ => laidMetH Tryd.prog laid3 w) false (World.doorLaid Tryd.prog 1000 os) #[.int .u32 0, .int .u8 0, .int .u8 0] 8 rfl (World.shaped_of_RefB (by kernel_rfl) (by kernel_rfl)) (by kernel_rfl) (by kernel_rfl) (by kernel_rfl) (door_met os _)) ?_
  intro W base args ds gs before hval0 hW hL hsh
  have hval : ∀ (j : Nat) t v, Tryd.f8.params[j]? = some t → args[j]? = some v → Value.okWide Tryd.prog W .any base t v := hval0
  have hW' := hW
  obtain ⟨p, q, hA0, hV, rfl, hfz, hnd⟩ := hW
  have hA : DataW.TrodAll enc Tryd.prog W 0 (fun _ => true) true Tryd.f8.params.toList args.toList ds p := hA0
  rw [Tryd.params8] at hA hval
  obtain ⟨v0, vs0, d0, ds0, p0, q0, hargs, rfl, rfl, h0, r0⟩ := trodAll_cons hA
  obtain ⟨v1, vs1, d1, ds1, p1, q1, rfl, rfl, rfl, h1, r1⟩ := trodAll_cons r0
  obtain ⟨v2, vs2, d2, ds2, p2, q2, rfl, rfl, rfl, h2, r2⟩ := trodAll_cons r1
  obtain ⟨rfl, rfl, rfl⟩ := trodAll_nil r2
  obtain rfl : args = #[v0, v1, v2] := by cases args; simp_all
  obtain ⟨rfl, rfl⟩ := trodVars_none hV
  obtain ⟨a0, rfl, rfl, rfl, w0⟩ := open_int Tryd.underlying22 (hval 0 22 v0 rfl rfl) h0
  obtain ⟨a1, rfl, rfl, rfl, w1⟩ := open_int Tryd.underlying5 (hval 1 5 v1 rfl rfl) h1
  obtain ⟨a2, rfl, rfl, rfl, w2⟩ := open_int Tryd.underlying5 (hval 2 5 v2 rfl rfl) h2
  clear hA0 hval0
  simp only [List.append_nil] at hW'
  refine (fracLong_walk a0 a1 a2 w0 w1 w2 W (env_of hL hsh)).mono fun e W' ⟨he, hg⟩ => ?_
  subst he
  exact ⟨_, rfl, _, _, _, [], [], [], hW', (trodAll_cons_mk (shut_bool Tryd.underlying4 _) trodAll_mk0), (trodAll_cons_mk (shut_int Tryd.underlying22 w0) (trodAll_cons_mk (shut_int Tryd.underlying5 w1) (trodAll_cons_mk (shut_int Tryd.underlying5 w2) trodAll_mk0))), rfl, hg.frame _, fun h => by cases h⟩
theorem fracLong_said : Rows.FracLongSaid :=
  OpenClaim.holds_of_wide 8 Tryd.f8 rfl rfl rfl rfl rfl rfl rfl ⟨rfl, rfl, rfl, rfl, rfl⟩ rfl rfl rfl rfl rfl (by kernel_rfl) Tryd.func8 (by kernel_rfl)
    (of_decide_eq_true (by kernel_rfl)) (by unfold Func.isWrapper; first | (rw [if_pos (by decide +kernel)]; kernel_rfl) | (rw [if_neg (by decide +kernel)]; exact ⟨rfl, rfl⟩))
    (fun os started H enc _ => fracLong_lifted os started H enc)
theorem fracLong_proved : Rows.FracLongCardSaid :=
  Claim7.holds_tied_plain_at .later [] [.data, .data, .data] true Rows.fracLongCard.stood.harness false
    fracLong_said (fun _ h => by cases h) (by kernel_rfl) (fun _ h => by cases h) fracLong_row_tie rfl ⟨rfl, rfl⟩ (by kernel_rfl) rfl
    (fun f fn hf hfn => by
      obtain rfl : f = 8 := Option.some.inj ((show Tryd.prog.funcNamed "twistlock/twistlocklaw01.FracLong" = some 8 by kernel_rfl).symm.trans hf) |>.symm
      obtain rfl : fn = Tryd.f8 := (Option.some.inj (Tryd.func8.symm.trans hfn)).symm
      exact ⟨by kernel_rfl, fun j t ht => by
        rw [Tryd.params8] at ht
        have hm : t ∈ [22, 5, 5] := by simpa using Array.mem_of_getElem? ht
        have hall : ([22, 5, 5].all fun u => !Tryd.prog.wantsStandIn u) = true := by kernel_rfl
        exact (show Tryd.prog.wantsStandIn t = false by simpa using List.all_eq_true.1 hall t hm)⟩)
    (by kernel_rfl)
#print axioms fracLong_proved
end Go.Proofs.YtkfcikijmkgahaaDoor
