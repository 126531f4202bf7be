import Derived.Test.YtkfcikijmkgahaaDoorG25
import Derived.Test.YtkfcikijmkgahaaDoorG09
import Derived.Test.YtkfcikijmkgahaaDoorG21
import Derived.Test.YtkfcikijmkgahaaDoorG24
import Derived.Test.YtkfcikijmkgahaaDoorG20
/- Part of the proof: Si, Fq. -/
set_option linter.unusedVariables false
set_option linter.unusedSimpArgs false
set_option linter.unusedSectionVars false
/- What the shelf says of the library's functions, in the proofs' words. -/
namespace Go.Proofs.YtkfcikijmkgahaaDoor
open Go.RowKit Tw
theorem bitLen_facts : ∀ (f x : Nat), x < 2 ^ f → x < 2 ^ Lib.bitLenAux f x ∧ (0 < x → 2 ^ Lib.bitLenAux f x ≤ 2 * x)
  | 0, x, h => by
    have : x = 0 := by simpa using h
    subst this
    simp [Lib.bitLenAux]
  | f + 1, x, h => by
    rw [Nat.pow_succ] at h
    obtain ⟨h1, h2⟩ := bitLen_facts f (x / 2) (by omega)
    unfold Lib.bitLenAux
    by_cases hx : x = 0
    · subst hx; simp
    · rw [if_neg hx, Nat.pow_add, Nat.pow_one]
      rcases Nat.eq_zero_or_pos (x / 2) with h0 | h0
      · have hz : Lib.bitLenAux f (x / 2) = 0 := by rw [h0]; cases f <;> simp [Lib.bitLenAux]
        rw [hz]
        exact ⟨by omega, fun _ => by omega⟩
      · have h3 := h2 h0
        generalize 2 ^ Lib.bitLenAux f (x / 2) = z at *
        exact ⟨by omega, fun _ => by omega⟩
theorem lz_shelf (x : Nat) (hx : x < 4294967296) (h0 : 0 < x) (w : World) :
    Calls Tryd.prog 72 #[.int .u32 x] w fun e w' => (∃ s : Nat, s < 32 ∧ e = .returned (.int .i64 s) ∧ x * 2 ^ s < 4294967296 ∧ 2147483648 ≤ x * 2 ^ s) ∧ w = w' := by
  refine (Tryd.bits_LeadingZeros32 (x : Int) w (by omega) (by omega)).mono ?_
  rintro e w' ⟨rfl, rfl⟩
  refine ⟨?_, rfl⟩
  rw [Int.toNat_natCast]
  obtain ⟨h1, h2⟩ := bitLen_facts 64 x (by omega)
  have h2 := h2 h0
  have hl : Lib.bitLenAux 64 x ≤ 32 := by
    rcases Nat.lt_or_ge 32 (Lib.bitLenAux 64 x) with h | h
    · have : 2 ^ 33 ≤ 2 ^ Lib.bitLenAux 64 x := Nat.pow_le_pow_right (by omega) h
      omega
    · exact h
  have hl1 : 1 ≤ Lib.bitLenAux 64 x := by
    rcases Nat.eq_zero_or_pos (Lib.bitLenAux 64 x) with h | h
    · rw [h] at h1; omega
    · exact h
  refine ⟨32 - Lib.bitLenAux 64 x, by omega, ?_, ?_, ?_⟩
  · show Ending.returned (.int .i64 (32 - (Lib.bitLen x : Int))) = _
    exact ret_int (by unfold Lib.bitLen; omega)
  · have e : 2 ^ Lib.bitLenAux 64 x * 2 ^ (32 - Lib.bitLenAux 64 x) = 4294967296 := by rw [← Nat.pow_add, show Lib.bitLenAux 64 x + (32 - Lib.bitLenAux 64 x) = 32 from by omega]
    have : x * 2 ^ (32 - Lib.bitLenAux 64 x) < 2 ^ Lib.bitLenAux 64 x * 2 ^ (32 - Lib.bitLenAux 64 x) := Nat.mul_lt_mul_of_pos_right h1 (Nat.pow_pos (by omega))
    omega
  · have e : 2 ^ Lib.bitLenAux 64 x * 2 ^ (32 - Lib.bitLenAux 64 x) = 4294967296 := by rw [← Nat.pow_add, show Lib.bitLenAux 64 x + (32 - Lib.bitLenAux 64 x) = 32 from by omega]
    have : 2 ^ Lib.bitLenAux 64 x * 2 ^ (32 - Lib.bitLenAux 64 x) ≤ 2 * x * 2 ^ (32 - Lib.bitLenAux 64 x) := Nat.mul_le_mul_right _ h2
    rw [e, Nat.mul_assoc] at this
    omega

instance : ShLZ := ⟨lz_shelf⟩
theorem itoa_shelf (n : Nat) (h : n ≤ 9223372036854775807) (w : World) (hE : Env w) :
    Calls Tryd.prog 61 #[.int .i64 (n : Int)] w fun e w' => e = .returned (.string ⟨(Lib.decDigits n).toArray⟩) ∧ Below w.heap.size w w' := by
  have hi : Lib.itoa (n : Int) = Lib.decDigits n := by unfold Lib.itoa; rw [if_neg (by omega)]; rfl
  refine (Tryd.strconv_Itoa n (by omega) (by omega) w hE.1).mono fun e w' ⟨he, k, os, hw⟩ => ⟨by rw [he, hi], ?_⟩
  subst hw
  exact below_grown_ev w k os
where
  below_grown_ev (w : World) (k : Nat) (os : Array Obj) : Below w.heap.size w (Sort.grow (w.drewN k) os) := by
    refine ⟨rfl, rfl, rfl, by simp [Sort.grow], fun i hi => ?_⟩
    simp only [Sort.grow, World.drewN]
    rw [Array.getElem?_append_left hi]
theorem cutPrefix_shelf (l : List UInt8) (W : World) : Calls Tryd.prog 42 #[.string ⟨l.toArray⟩, .string ⟨#[45]⟩] W fun e w' => e = .returned (.tuple #[.string ⟨(Lib.trimPrefix l [45]).toArray⟩, .bool (Lib.hasPrefix l [45])]) ∧ Below W.heap.size W w' :=
  (Tryd.strings_CutPrefix ⟨l.toArray⟩ ⟨#[45]⟩ W).mono fun e w' ⟨he, hw⟩ => ⟨he, by subst hw; exact Below.refl _ _⟩
theorem cut_shelf (l : List UInt8) (hl : l.length < 4294967281) (W : World) (hW : Env W) : Calls Tryd.prog 43 #[.string ⟨l.toArray⟩, .string ⟨#[47]⟩] W fun e w' => e = .returned (.tuple #[.string ⟨(Lib.cut l [47]).1.toArray⟩, .string ⟨(Lib.cut l [47]).2.1.toArray⟩, .bool (Lib.cut l [47]).2.2]) ∧ Below W.heap.size W w' := by
  obtain ⟨m, hm⟩ := hW.2
  exact (Tryd.strings_Cut ⟨l.toArray⟩ ⟨#[47]⟩ m W (by rw [ba_size]; omega) hm).mono fun e w' ⟨he, n, hw⟩ => ⟨he, by subst hw; exact belowN (Below.refl _ _) n⟩
instance : ShSt := ⟨itoa_shelf, cutPrefix_shelf, cut_shelf⟩
theorem rep_any (W : World) : Calls Tryd.prog 28 #[.string ⟨#[48]⟩, .int .i64 78] W fun e w' => e = .returned (.string ⟨(Lib.repeatL [48] 78).toArray⟩) ∧ Below W.heap.size W w' :=
  Tryd.strings_Repeat ⟨#[48]⟩ 78 W (by omega) (by decide)
end Go.Proofs.YtkfcikijmkgahaaDoor
/- The whole part as that of Lean's rational numbers. -/
namespace Go.Proofs.YtkfcikijmkgahaaDoor
open Go.RowKit Tw
variable [ShLZ]
variable [ShSt]
theorem floor_eq (x : Rat) : x.floor = x.num / (x.den : Int) := by
  unfold Rat.floor
  split
  · rename_i h; rw [h]; simp
  · rfl
theorem floor_sg (x : Rat) : sg (decide (x.num < 0)) (floorQ (decide (x.num < 0)) x.num.natAbs x.den) = x.floor := by
  rw [floor_eq]
  have hd := x.den_pos
  by_cases h : x.num < 0
  · have hn : x.num = -(x.num.natAbs : Int) := by omega
    conv => rhs; rw [hn]
    simp only [h, decide_true]
    rw [Int.neg_ediv]
    unfold sg floorQ
    have hsg : (x.den : Int).sign = 1 := Int.sign_eq_one_of_pos (by omega)
    have hdv : ((x.den : Int) ∣ (x.num.natAbs : Int)) ↔ x.num.natAbs % x.den = 0 := by
      rw [Int.ofNat_dvd, Nat.dvd_iff_mod_eq_zero]
    rw [hsg]
    by_cases hz : x.num.natAbs % x.den = 0
    · rw [if_pos (hdv.2 hz)]
      simp [hz]
    · rw [if_neg (fun hh => hz (hdv.1 hh))]
      simp only [if_true, hz, not_false_eq_true, and_self, Int.natCast_add, Int.natCast_ediv]
      omega
  · have hn : x.num = (x.num.natAbs : Int) := by omega
    conv => rhs; rw [hn]
    simp only [h, decide_false]
    unfold sg floorQ
    simp
theorem floor_range (x : Rat) {m k : Int} (h1 : m ≤ x.num) (h2 : x.num ≤ k) (hm : m ≤ 0) (hk : 0 ≤ k) : m ≤ x.floor ∧ x.floor ≤ k := by
  rw [floor_eq]
  have hd := x.den_pos
  constructor
  · refine Int.le_ediv_of_mul_le (by omega) ?_
    have := Int.mul_nonneg (a := -m) (b := (x.den : Int) - 1) (by omega) (by omega)
    simp only [Int.mul_sub, Int.neg_mul] at this
    omega
  · rcases Int.lt_or_le x.num 0 with h | h
    · have := Int.ediv_neg_of_neg_of_pos h (b := (x.den : Int)) (by omega)
      omega
    · exact Int.le_trans (Int.ediv_le_self _ h) h2
theorem rFloor (x : Rat) (n : Int) (hx : fits x) (hn : x.floor = n) (h1 : -9223372036854775808 ≤ n) (h2 : n ≤ 9223372036854775807) : CC 19 #[ratV x] (.tuple #[.int .i64 n, .int .i64 0]) := by
  intro W
  have h := floor_any (decide (x.num < 0)) x.num.natAbs x.den hx.1 hx.2 W
  rw [if_pos (rat_right x)] at h
  have hs := floor_sg x
  rw [hn] at hs
  have hv : floorV (decide (x.num < 0)) x.num.natAbs x.den = .tuple #[.int .i64 n, .int .i64 0] := by
    unfold floorV
    rw [show Tw.sg = sg from rfl, hs, if_pos]
    generalize floorQ (decide (x.num < 0)) x.num.natAbs x.den = q at *
    cases hb : decide (x.num < 0)
    · rw [hb] at hs; simp [sg] at hs; omega
    · rw [hb] at hs; simp [sg] at hs; simp; omega
  rw [hv] at h
  exact h
theorem fr_num (a b : Int) (hb : 0 < b) : (0 ≤ a → (fr a b).num ≤ a ∧ 0 ≤ (fr a b).num) ∧ (a ≤ 0 → a ≤ (fr a b).num ∧ (fr a b).num ≤ 0) := by
  obtain ⟨h1, _, h3, h4⟩ := fr_parts a b hb
  have h5 : (fr a b).num.natAbs ≤ a.natAbs := by rw [h1]; exact Nat.div_le_self _ _
  constructor
  · intro h
    have : ¬ (fr a b).num < 0 := fun hh => by have := h3.1 hh; omega
    omega
  · intro h
    have : ¬ 0 < (fr a b).num := fun hh => by
      rcases Int.lt_or_le a 0 with h6 | h6
      · have := h3.2 h6; omega
      · have h7 : a = 0 := by omega
        have := h4.2 h7; omega
    omega
end Go.Proofs.YtkfcikijmkgahaaDoor
