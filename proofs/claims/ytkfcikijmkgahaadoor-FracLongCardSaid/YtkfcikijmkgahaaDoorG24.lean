import Derived.Test.YtkfcikijmkgahaaDoorG22
import Derived.Test.YtkfcikijmkgahaaDoorG23
import Derived.Test.YtkfcikijmkgahaaDoorG21
import Derived.Test.YtkfcikijmkgahaaDoorG05
import Derived.Test.YtkfcikijmkgahaaDoorCards
import Derived.Test.YtkfcikijmkgahaaDoorTie
import Derived.WalkKit
import Derived.ProofKit
import Derived.OpenShut
import Derived.LaidMore
import Derived.SizedLaws
import Derived.Shelf.Vars
import Derived.Stop.Joined
import Derived.SevenTiedAt
/- Part of the proof: Ay, Rc, Rm, Or, Rn, Rw. -/
set_option linter.unusedVariables false
set_option linter.unusedSimpArgs false
set_option linter.unusedSectionVars false
/- awake's answer is true wherever the library's tables are what they are. -/
namespace Go.Proofs.YtkfcikijmkgahaaDoor
open Go.RowKit Tw
variable [ShLZ]
variable [ShSt]
theorem below_env {w W : World} (hE : Env w) (h : Below w.heap.size w W) : Env W := hE.keep h
theorem len8 (l : List UInt8) (e : Int) (h : (l, e) ∈ L8) : l.length < 4294967281 := by
  unfold L8 at h
  simp only [List.mem_cons, Prod.mk.injEq, List.not_mem_nil, or_false] at h
  rcases h with ⟨rfl, rfl⟩ | ⟨rfl, rfl⟩ | ⟨rfl, rfl⟩ | ⟨rfl, rfl⟩ | ⟨rfl, rfl⟩ | ⟨rfl, rfl⟩ | ⟨rfl, rfl⟩ | ⟨rfl, rfl⟩ <;> decide +kernel
theorem awake_any (hRp : ∀ W, Calls Tryd.prog 28 #[.string ⟨#[48]⟩, .int .i64 78] W fun e w' => e = .returned R78 ∧ Below W.heap.size W w') (w : World) (hE : Env w) :
    Calls Tryd.prog 10 #[] w fun e w' => e = .returned (.bool true) ∧ Below w.heap.size w w' := by
  refine awake_walk w (ax_ratio 1 6 false 1 6 (by decide +kernel) (by omega)) (ax_ratio 1 10 false 1 10 (by decide +kernel) (by omega)) (ax_ratio 6 (-4) true 3 2 (by decide +kernel) (by omega))
    (ax_ratio (-3) 2 true 3 2 (by decide +kernel) (by omega)) (ax_ratio 3 2 false 3 2 (by decide +kernel) (by omega)) (ax_ratio 4 15 false 4 15 (by decide +kernel) (by omega)) (ax_ratio 1 15 false 1 15 (by decide +kernel) (by omega))
    (ax_ratio 1 60 false 1 60 (by decide +kernel) (by omega)) (ax_ratio 5 3 false 5 3 (by decide +kernel) (by omega)) ax_add ax_sub ax_mul ax_div ax_floor1 ax_floor2 ?_ ?_ hRp ?_
  · intro W hW
    exact ax_text W (hE.keep hW)
  · intro W hW
    have h := read_any [45, 51, 47, 50] (by decide) W (hE.keep hW)
    rw [read_32] at h
    exact h
  · intro l e hl W hW
    have h := read_any l (len8 l e hl) W (hE.keep hW)
    rw [read_err l e hl] at h
    exact h
end Go.Proofs.YtkfcikijmkgahaaDoor
namespace Go.Proofs.YtkfcikijmkgahaaDoor
open Go.RowKit Tw
variable [ShLZ]
theorem same_rat (x y : Rat) : (decide (x.num < 0) = decide (y.num < 0) ∧ x.num.natAbs = y.num.natAbs ∧ x.den = y.den) ↔ x = y := by
  constructor
  · intro ⟨h1, h2, h3⟩
    refine Rat.ext ?_ h3
    rw [← sg_of x.num, ← sg_of y.num, h1, h2]
  · intro h; rw [h]; exact ⟨rfl, rfl, rfl⟩
theorem sg_true {s : Bool} {n : Nat} (h : sg s n ≠ 0) : s = true ↔ sg s n < 0 := by
  cases s
  · simp [sg] <;> omega
  · simp [sg] at h ⊢ <;> omega
theorem cmpI_rat (x y : Rat) : cmpI (decide (x.num < 0)) x.num.natAbs x.den (decide (y.num < 0)) y.num.natAbs y.den = if x = y then 0 else if x < y then -1 else 1 := by
  unfold cmpI
  simp only [same_rat x y]
  by_cases he : x = y
  · rw [if_pos he, if_pos he]
  rw [if_neg he, if_neg he]
  have hs : sg (psS (decide (x.num < 0)) (!decide (y.num < 0)) (x.num.natAbs * y.den) (y.num.natAbs * x.den)) (psN (decide (x.num < 0)) (!decide (y.num < 0)) (x.num.natAbs * y.den) (y.num.natAbs * x.den)) = x.num * (y.den : Int) - y.num * (x.den : Int) := by
    have hm : ∀ (s : Bool) (a b : Nat), sg s (a * b) = sg s a * (b : Int) := fun s a b => by
      unfold sg; split <;> simp [Int.neg_mul]
    have hn : ∀ (s : Bool) (a : Nat), sg (!s) a = - sg s a := fun s a => by cases s <;> simp [sg]
    rw [ps_int, hm, hm, hn, sg_of, sg_of, Int.neg_mul]; omega
  have hne : x.num * (y.den : Int) - y.num * (x.den : Int) ≠ 0 := fun h => he (by
    have h1 : x.num * (y.den : Int) = y.num * (x.den : Int) := by omega
    have := Rat.le_antisymm (a := x) (b := y) (by rw [Rat.le_iff]; omega) (by rw [Rat.le_iff]; omega)
    exact this)
  have h1 := sg_true (by rw [hs]; exact hne)
  rw [hs] at h1
  simp only [h1, Rat.lt_iff]
  have h2 : x.num * (y.den : Int) - y.num * (x.den : Int) < 0 ↔ x.num * (y.den : Int) < y.num * (x.den : Int) := by omega
  simp only [h2]
end Go.Proofs.YtkfcikijmkgahaaDoor
/- How long sums and products can be. Nothing of the program. -/
namespace Go.Proofs.YtkfcikijmkgahaaDoor
open Go.RowKit Tw
variable [ShLZ]
variable [ShSt]
def bd (x : Rat) (m n : Nat) : Prop := x.num.natAbs ≤ m ∧ x.den ≤ n
theorem bd_mul {x y : Rat} {a b c d : Nat} (hx : bd x a b) (hy : bd y c d) : bd (x * y) (a * c) (b * d) := by
  obtain ⟨h1, h2, _, _⟩ := mul_rat x y
  unfold bd
  rw [h1, h2]
  exact ⟨Nat.mul_le_mul (Nat.le_trans (Nat.div_le_self _ _) hx.1) (Nat.le_trans (Nat.div_le_self _ _) hy.1), Nat.mul_le_mul (Nat.le_trans (Nat.div_le_self _ _) hx.2) (Nat.le_trans (Nat.div_le_self _ _) hy.2)⟩
theorem bd_add {x y : Rat} {a b c d : Nat} (hx : bd x a b) (hy : bd y c d) : bd (x + y) (a * d + c * b) (b * d) := by
  obtain ⟨h1, h2, _, _⟩ := add_rat x y _ rfl _ rfl
  unfold bd
  rw [h1, h2]
  refine ⟨Nat.le_trans (Nat.div_le_self _ _) (Nat.le_trans (Int.natAbs_add_le _ _) (Nat.add_le_add ?_ ?_)), Nat.mul_le_mul (Nat.le_trans (Nat.div_le_self _ _) hx.2) (Nat.le_trans (Nat.div_le_self _ _) hy.2)⟩
  · rw [Int.natAbs_mul, Int.natAbs_natCast]
    exact Nat.mul_le_mul hx.1 (Nat.le_trans (Nat.div_le_self _ _) hy.2)
  · rw [Int.natAbs_mul, Int.natAbs_natCast]
    exact Nat.mul_le_mul hy.1 (Nat.le_trans (Nat.div_le_self _ _) hx.2)
theorem bd_neg {x : Rat} {a b : Nat} (hx : bd x a b) : bd (-x) a b := by
  unfold bd
  rw [Rat.neg_num, Rat.neg_den, Int.natAbs_neg]
  exact hx
theorem bd_sub {x y : Rat} {a b c d : Nat} (hx : bd x a b) (hy : bd y c d) : bd (x - y) (a * d + c * b) (b * d) := by
  rw [Rat.sub_eq_add_neg]
  exact bd_add hx (bd_neg hy)
theorem bd_inv {x : Rat} {a b : Nat} (hx : bd x a b) (ha : 1 ≤ a) : bd (x⁻¹) b a := by
  unfold bd
  rw [Rat.num_inv, Rat.den_inv, Int.natAbs_mul, Int.natAbs_natCast]
  refine ⟨?_, ?_⟩
  · have : x.num.sign.natAbs ≤ 1 := by
      rcases Int.lt_trichotomy x.num 0 with h | h | h
      · rw [Int.sign_eq_neg_one_of_neg h]; decide
      · rw [h]; decide
      · rw [Int.sign_eq_one_of_pos h]; decide
    exact Nat.le_trans (Nat.mul_le_mul this hx.2) (by omega)
  · split
    · exact ha
    · exact hx.1
theorem bd_div {x y : Rat} {a b c d : Nat} (hx : bd x a b) (hy : bd y c d) (hc : 1 ≤ c) : bd (x / y) (a * d) (b * c) := by
  rw [Rat.div_def]
  exact bd_mul hx (bd_inv hy hc)
theorem bd_fits {x : Rat} {a b : Nat} (hx : bd x a b) (ha : a < R 8) (hb : b < R 8) : fits x := ⟨Nat.lt_of_le_of_lt hx.1 ha, Nat.lt_of_le_of_lt hx.2 hb⟩
/-- the fraction of two numbers -/
def fr (a b : Int) : Rat := Rat.divInt a b
theorem fr_parts (a b : Int) (hb : 0 < b) : (fr a b).num.natAbs = a.natAbs / Nat.gcd a.natAbs b.natAbs ∧ (fr a b).den = b.natAbs / Nat.gcd a.natAbs b.natAbs ∧ ((fr a b).num < 0 ↔ a < 0) ∧ ((fr a b).num = 0 ↔ a = 0) := by
  have hg : Int.gcd b a = Nat.gcd a.natAbs b.natAbs := by unfold Int.gcd; exact Nat.gcd_comm _ _
  unfold fr
  rw [Rat.num_divInt, Rat.den_divInt, Int.sign_eq_one_of_pos hb, Int.one_mul, if_neg (by omega), hg]
  have hpos : 0 < Nat.gcd a.natAbs b.natAbs := Nat.gcd_pos_of_pos_right _ (by omega)
  have hd : ((Nat.gcd a.natAbs b.natAbs : Nat) : Int) ∣ a := Int.ofNat_dvd_left.2 (Nat.gcd_dvd_left _ _)
  generalize Nat.gcd a.natAbs b.natAbs = g at *
  obtain ⟨p, rfl⟩ := hd
  have h1 : (g : Int) * p / (g : Int) = p := Int.mul_ediv_cancel_left _ (by omega)
  rw [h1, Int.natAbs_mul, Int.natAbs_natCast, Nat.mul_div_cancel_left _ hpos]
  refine ⟨rfl, rfl, ?_, ?_⟩
  · constructor
    · intro h; exact Int.mul_neg_of_pos_of_neg (by omega) h
    · intro h
      rcases Int.lt_or_le p 0 with h1 | h1
      · exact h1
      · have := Int.mul_nonneg (a := (g : Int)) (by omega) h1; omega
  · constructor
    · intro h; rw [h, Int.mul_zero]
    · intro h
      rcases Int.mul_eq_zero.1 h with h | h
      · omega
      · exact h
theorem fr_bd (a b : Int) (hb : 0 < b) {m n : Nat} (ha : a.natAbs ≤ m) (hn : b.natAbs ≤ n) : bd (fr a b) m n := by
  obtain ⟨h1, h2, _, _⟩ := fr_parts a b hb
  unfold bd
  rw [h1, h2]
  exact ⟨Nat.le_trans (Nat.div_le_self _ _) ha, Nat.le_trans (Nat.div_le_self _ _) hn⟩
theorem fr_ne (a b : Int) (hb : 0 < b) (ha : a ≠ 0) : fr a b ≠ 0 := by
  intro h
  have h4 := (fr_parts a b hb).2.2.2
  rw [h] at h4
  exact ha (h4.1 rfl)
theorem num_ne {x : Rat} (h : x ≠ 0) : x.num ≠ 0 := fun h0 => h (Rat.num_eq_zero.1 h0)
theorem bd_int (n : Int) : bd (n : Rat) n.natAbs 1 := ⟨by simp, by simp⟩
theorem ratV_int (n : Int) : ratV (n : Rat) = frc (decide (n < 0)) n.natAbs 1 := by
  have h1 : (n : Rat).num = n := by simp
  have h2 : (n : Rat).den = 1 := by simp
  unfold ratV
  rw [h1, h2]
theorem made_rat (a b : Int) (hb : 0 < b) : frc (qS a b) (qN a b) (qD a b) = ratV (fr a b) := by
  obtain ⟨h1, h2, h3, _⟩ := fr_parts a b hb
  unfold ratV
  have hs : qS a b = decide ((fr a b).num < 0) := by
    unfold qS
    have hb' : ¬ b < 0 := by omega
    rw [Bool.eq_iff_iff]
    simp only [hb', decide_false, Bool.and_eq_true, decide_eq_true_eq, h3, ne_eq, bne_iff_ne]
    simp <;> omega
  rw [hs, h1, h2]
  rfl
end Go.Proofs.YtkfcikijmkgahaaDoor
/- Bits of numbers. Nothing of the program. -/
namespace Tw
open Go Go.RowKit
theorem wrap_i64_range (n : Int) : -9223372036854775808 ≤ IntKind.i64.wrap n ∧ IntKind.i64.wrap n ≤ 9223372036854775807 ∧ (IntKind.i64.wrap n - n) % 18446744073709551616 = 0 := by
  simp only [IntKind.wrap_i64]
  try unfold wrap64
  omega
theorem or_one_i64 (a : Int) : bits .or .i64 a 1 ≠ 0 ∧ -9223372036854775808 ≤ bits .or .i64 a 1 ∧ bits .or .i64 a 1 ≤ 9223372036854775807 := by
  have h : bits .or .i64 a 1 = IntKind.i64.wrap ((BitVec.ofInt 64 a ||| BitVec.ofInt 64 1).toNat : Int) := rfl
  rw [h]
  have h2 : (BitVec.ofInt 64 a ||| BitVec.ofInt 64 1).toNat % 2 = 1 := by
    rw [Nat.mod_two_eq_one_iff_testBit_zero, BitVec.toNat_or, Nat.testBit_or]
    have : (BitVec.ofInt 64 1).toNat = 1 := rfl
    rw [this]
    simp
  generalize (BitVec.ofInt 64 a ||| BitVec.ofInt 64 1).toNat = v at *
  have h3 := wrap_i64_range (v : Int)
  generalize IntKind.i64.wrap (v : Int) = u at *
  refine ⟨?_, h3.1, h3.2.1⟩
  intro h0
  omega
end Tw
/- What the operations answer about rational numbers. -/
namespace Go.Proofs.YtkfcikijmkgahaaDoor
open Go.RowKit Tw
variable [ShLZ]
variable [ShSt]
def CC (f : FuncId) (args : Array Value) (v : Value) : Prop := ∀ W, Calls Tryd.prog f args W fun e w' => e = .returned v ∧ Below W.heap.size W w'
theorem fracV_fits {z : Rat} (h : fits z) : fracV z = .tuple #[ratV z, .int .i64 0] := by unfold fracV; rw [if_pos h]
theorem fracV_long {z : Rat} (h : ¬ fits z) : fracV z = .tuple #[frc false 0 0, .int .i64 3] := by unfold fracV; rw [if_neg h]
theorem rAdd (x y z : Rat) (hx : fits x) (hy : fits y) (hz : x + y = z) (h : fits z) : CC 12 #[ratV x, ratV y] (.tuple #[ratV z, .int .i64 0]) := by
  intro W
  subst hz
  have := Add_any (decide (x.num < 0)) (decide (y.num < 0)) x.num.natAbs x.den y.num.natAbs y.den hx.1 hx.2 hy.1 hy.2 W
  rw [rat_right, rat_right, addV_rat, fracV_fits h, if_pos (show (true && true) = true from rfl)] at this
  exact this
theorem rSub (x y z : Rat) (hx : fits x) (hy : fits y) (hz : x - y = z) (h : fits z) : CC 13 #[ratV x, ratV y] (.tuple #[ratV z, .int .i64 0]) := by
  intro W
  subst hz
  have := Sub_any (decide (x.num < 0)) (decide (y.num < 0)) x.num.natAbs x.den y.num.natAbs y.den hx.1 hx.2 hy.1 hy.2 W
  rw [rat_right, rat_right, subV_rat, fracV_fits h, if_pos (show (true && true) = true from rfl)] at this
  exact this
theorem rMul (x y z : Rat) (hx : fits x) (hy : fits y) (hz : x * y = z) (h : fits z) : CC 15 #[ratV x, ratV y] (.tuple #[ratV z, .int .i64 0]) := by
  intro W
  subst hz
  have := Mul_any (decide (x.num < 0)) (decide (y.num < 0)) x.num.natAbs x.den y.num.natAbs y.den hx.1 hx.2 hy.1 hy.2 W
  rw [rat_right, rat_right, mulV_rat, fracV_fits h, if_pos (show (true && true) = true from rfl)] at this
  exact this
theorem rDiv (x y z : Rat) (hx : fits x) (hy : fits y) (h0 : y ≠ 0) (hz : x / y = z) (h : fits z) : CC 17 #[ratV x, ratV y] (.tuple #[ratV z, .int .i64 0]) := by
  intro W
  subst hz
  have := Div_any (decide (x.num < 0)) (decide (y.num < 0)) x.num.natAbs x.den y.num.natAbs y.den hx.1 hx.2 hy.1 hy.2 W
  rw [if_pos ⟨rat_right x, rat_right y, fun h => num_ne h0 (Int.natAbs_eq_zero.1 h)⟩, divV_rat x y (num_ne h0), fracV_fits h] at this
  exact this
theorem rDiv0 (x : Rat) (hx : fits x) : CC 17 #[ratV x, .agg (frcC false 0 1)] (.tuple #[.agg (frcC false 0 0), .int .i64 2]) := by
  intro W
  have := Div_any (decide (x.num < 0)) false x.num.natAbs x.den 0 1 hx.1 hx.2 (R_pos 8) (lt8 (by omega)) W
  rw [if_neg (fun h => h.2.2 rfl)] at this
  exact this
theorem rCmp (x y : Rat) (c : Int) (hx : fits x) (hy : fits y) (hc : (if x = y then 0 else if x < y then -1 else 1) = c) : CC 18 #[ratV x, ratV y] (.tuple #[.int .i64 c, .int .i64 0]) := by
  intro W
  have := Cmp_any (decide (x.num < 0)) (decide (y.num < 0)) x.num.natAbs x.den y.num.natAbs y.den hx.1 hx.2 hy.1 hy.2 W
  rw [if_pos ⟨rat_right x, rat_right y⟩, cmpI_rat, hc] at this
  exact this
theorem rOf (n : Int) (h1 : -9223372036854775808 ≤ n) (h2 : n ≤ 9223372036854775807) : CC 16 #[.int .i64 n] (ratV (n : Rat)) := by
  intro W
  rw [ratV_int]
  exact of_any n h1 h2 W
theorem rOf1 : CC 16 #[.int .i64 1] (.agg (frcC false 1 1)) := fun W => of_any 1 (by omega) (by omega) W
theorem rOf0 : CC 16 #[.int .i64 0] (.agg (frcC false 0 1)) := fun W => of_any 0 (by omega) (by omega) W
theorem ratV_one : ratV 1 = .agg (frcC false 1 1) := rfl
theorem ratV_zero : ratV 0 = .agg (frcC false 0 1) := rfl
theorem rMade (a : Int) (b : Nat) (a1 : -9223372036854775808 ≤ a) (a2 : a ≤ 9223372036854775807) (hb : b ≤ 4294967295) : CC 11 #[.int .i64 a, .int .u32 (b : Int)] (ratV (fr a (b + 1))) := by
  intro W
  rw [← made_rat a (b + 1) (by omega)]
  exact Made_any a b a1 a2 hb W
theorem zero_parts {x : Rat} : (decide (x.num < 0) = false ∧ x.num.natAbs = 0 ∧ x.den = 1) ↔ x = 0 := by
  have := same_rat x 0
  simpa using this
end Go.Proofs.YtkfcikijmkgahaaDoor
/- From the row's condition (the tables laid, the world's shape) to what the proofs ask of the library's variables. -/
namespace Go.Proofs.YtkfcikijmkgahaaDoor
open Go.ChangeShapes Go.WideShapes Go.ChangeAt Go.RowKit
theorem of_wf {k : IntKind} {n : Int} (h : (Lit.int k n).wf = true) : k.min ≤ n ∧ n ≤ k.max := by simpa [Lit.wf] using h
theorem own : ownKnob Tryd.prog.godebug = none := by kernel_rfl
def laid3 : List (String × DataW Unit) := [("math/bits.deBruijn32tab", Rows.laid_math_bits_deBruijn32tab), ("math/bits.deBruijn64tab", Rows.laid_math_bits_deBruijn64tab), ("internal/strconv.uint64pow10", Rows.laid_internal_strconv_uint64pow10)]
set_option maxRecDepth 100000 in
theorem door_met (os : Os) (args : Array Value) : laidMetH Tryd.prog laid3 ((World.doorLaid Tryd.prog 1000 os).forCall (fun _ _ => 0) ⟨#[], args, []⟩).memory :=
  laidMetH_of_parts3 (fuel := 8) (laidMet_of_run' 8 (by kernel_rfl) (by kernel_rfl)) (by kernel_rfl) (by kernel_rfl)
theorem gPow : Tryd.prog.globalNamed "internal/strconv.uint64pow10" = some 1 := by kernel_rfl
theorem tPow : (Tryd.prog.globals[1]?).map (·.type) = some 125 := by kernel_rfl
theorem pow_of_laid {W : World} (h : laidMetH Tryd.prog laid3 W) : Lib.TabIs Tryd.prog W "internal/strconv.uint64pow10" .u64 Lib.pow10Tab := by
  rw [MakeChecks.laidMetH_plain _ _ _ (by kernel_rfl)] at h
  obtain ⟨ps, ⟨g0, t0, cs0, f0, p0, q0, hg0, ht0, hv0, hd0, ⟨g1, t1, cs1, f1, p1, q1, hg1, ht1, hv1, hd1, ⟨g2, t2, cs2, f2, p2, q2, hg2, ht2, hv2, hd2, _, _⟩, _⟩, _⟩, _, _⟩ := h
  obtain rfl := Option.some.inj (gPow.symm.trans hg2)
  obtain rfl := Option.some.inj (tPow.symm.trans ht2)
  unfold Lib.TabIs
  rw [hv2, ← Lib.cells_of_tab (k := .u64) (zs := Lib.pow10Tab) Tryd.underlying125 Tryd.underlying56 (by kernel_rfl) (by kernel_rfl) (show DataW.trod (fun _ => ()) Tryd.prog W 0 (fun _ => true) false f2 125 cs2.toList = some (Lib.tabData .u64 Lib.pow10Tab, p2) from hd2)]
theorem max_of_shape {W : World} (h : W.ShapedOpen Tryd.prog) : ∃ m, W.cell? ⟨0, 0, none⟩ = some (.int .i64 m) :=
  cell_of_shapedOpen_int (t := 3) (zero := #[.int .i64 0]) h (of_decide_eq_true (by kernel_rfl)) (by kernel_rfl) rfl (by kernel_rfl) (by kernel_rfl) Tryd.underlying3
theorem env_of {W : World} (h : laidMetH Tryd.prog laid3 W) (hs : W.ShapedOpen Tryd.prog) : Env W := ⟨pow_of_laid h, max_of_shape hs⟩
/-- a contract that may lean on a condition of the world and on the world's shape -/
theorem handed_and_shaped {H : Type} {enc : TypeId × Value → H} {a : Assume} {C : Checked} {os : Os} {f : FuncId} {fn : Func} {s : ChangeSpec} {conds : List PathCond} {apart fresh handsOn again : Bool} {X : World → Prop}
    (hX : ∀ (w w' : World), w.heap = w'.heap → X w → X w')
    (own : ownKnob C.prog.godebug = none) (started : os.Started) (noInit : C.prog.inits.idxOf? f = none) (hfn : C.prog.funcs[f]? = some fn)
    (witness : ∃ (w : World) (tape : Tape) (i : Input), w.os = os ∧ (w.forCall tape i).Shaped C.prog ∧ i.vars = [] ∧ Input.okWide C.prog (w.forCall tape i) .any w.heap.size f i ∧
      ((s.pre enc C.prog fn conds apart (w.forCall tape i).memory i.args ∧ X (w.forCall tape i).memory) ∧ sizedMet enc C.prog fn (OpenSpec.ofChange s) apart (w.forCall tape i).memory i.args) ∧ a.holds C.prog (lone (Frame.enter C.prog f i.args .normal) [] (w.forCall tape i)))
    (contract : ∀ (W : World) (base : Nat) (args : Array Value) (ds gs : List (DataW H)) (before : List MemPlace),
      (∀ (j : Nat) t v, fn.params[j]? = some t → args[j]? = some v → Value.okWide C.prog W .any base t v) →
      DataW.Whole enc C.prog fn.params.toList s.vars apart W args.toList ds gs before → X W → W.ShapedOpen C.prog →
      Calls C.prog f args W fun e W' => ∃ v, e = .returned v ∧ s.post enc C.prog fn apart fresh handsOn again W args v W') :
    ReturnsInHanded a C os f .any (fun w args => (s.pre enc C.prog fn conds apart w args ∧ X w) ∧ sizedMet enc C.prog fn (OpenSpec.ofChange s) apart w args) (s.post enc C.prog fn apart fresh handsOn again) := by
  refine returnsInHanded_of_calls own started noInit witness fun w tape i _ hsh _ hok hpre _ => ?_
  obtain ⟨_, _, _, fn', hfn', _, _, _, _, hval⟩ := hok
  obtain rfl : fn' = fn := Option.some.inj (hfn'.symm.trans hfn)
  obtain ⟨⟨⟨ds, gs, before, hw, _⟩, hx⟩, _⟩ := hpre
  refine (contract (w.forCall tape i) w.heap.size i.args ds gs before hval (DataW.Whole.of_heap (w' := w.forCall tape i) (by rfl) hw) (hX _ _ (by rfl) hx) hsh).mono fun e W' ⟨v, he, hp⟩ => ?_
  subst he
  exact ChangeSpec.post_blind hp
end Go.Proofs.YtkfcikijmkgahaaDoor
