import Derived.Test.YtkfcikijmkgahaaDoorG02
/- Part of the proof: Sl, Sr, Hz. -/
set_option linter.unusedVariables false
set_option linter.unusedSimpArgs false
set_option linter.unusedSectionVars false
namespace Go.Proofs.YtkfcikijmkgahaaDoor
open Go.RowKit Tw

theorem two_split {s : Nat} (hs : s < 32) : 2 ^ s * 2 ^ (32 - s) = 4294967296 := by
  rw [← Nat.pow_add, show s + (32 - s) = 32 from by omega]
theorem shl_facts {x s c : Nat} (hs : s < 32) (hx : x < 4294967296) (hc : c < 2 ^ s) :
    bits .or .u32 ((x : Int) * 2 ^ s % 4294967296) (c : Int) = (((x * 2 ^ s + c) % 4294967296 : Nat) : Int) ∧
    IntKind.u64.wrap ((x : Int) * 2 ^ s) / 4294967296 % 4294967296 = (((x * 2 ^ s + c) / 4294967296 : Nat) : Int) ∧ (x * 2 ^ s + c) / 4294967296 < 2 ^ s := by
  have hzy := two_split hs
  have e : ((2 : Int) ^ s) = ((2 ^ s : Nat) : Int) := by simp
  have hor := fun a => Nat.two_pow_add_eq_or_of_lt (i := s) (b := c) hc a
  have hz : 0 < 2 ^ s := Nat.pow_pos (by omega)
  have hy : 0 < 2 ^ (32 - s) := Nat.pow_pos (by omega)
  rw [e]
  generalize 2 ^ s = z at *
  generalize 2 ^ (32 - s) = y at *
  have hxz : x * z % 4294967296 = z * (x % y) := by rw [← hzy, Nat.mul_comm x z, Nat.mul_mod_mul_left]
  have hr : x % y < y := Nat.mod_lt _ hy
  have hlt : z * (x % y) + c < 4294967296 := by
    have : z * (x % y + 1) ≤ z * y := Nat.mul_le_mul_left _ hr
    rw [Nat.mul_add, Nat.mul_one, hzy] at this
    omega
  have hdm := Nat.div_add_mod x y
  have hs : x * z + c = 4294967296 * (x / y) + (z * (x % y) + c) := by
    rw [← hzy]
    have : x * z = (y * (x / y) + x % y) * z := by rw [hdm]
    rw [this]; grind
  have h1 : (x * z + c) % 4294967296 = z * (x % y) + c := by rw [hs, Nat.mul_add_mod, Nat.mod_eq_of_lt hlt]
  have h2 : (x * z + c) / 4294967296 = x / y := by rw [hs, Nat.mul_add_div (by omega), Nat.div_eq_of_lt hlt, Nat.add_zero]
  have h3 : x / y < z := by rw [Nat.div_lt_iff_lt_mul hy, hzy]; exact hx
  have h4 : x * z / 4294967296 = x / y := by
    rw [← hzy, Nat.mul_comm x z, Nat.mul_div_mul_left _ _ hz]
  have hzl : z ≤ 4294967296 := by
    have : z * 1 ≤ z * y := Nat.mul_le_mul_left _ hy
    omega
  have hxz2 : x * z < 18446744073709551616 := by
    have : x * z ≤ 4294967295 * 4294967296 := Nat.mul_le_mul (by omega) hzl
    omega
  refine ⟨?_, ?_, by rw [h2]; exact h3⟩
  · rw [show ((x : Int) * (z : Int)) % 4294967296 = ((x * z % 4294967296 : Nat) : Int) from by simp, hxz, u32_or_nat _ _ (by omega) (by omega), h1, ← hor]
  · rw [h2, show ((x : Int) * (z : Int)) = ((x * z : Nat) : Int) from by simp]
    simp only [IntKind.wrap_u64]
    rw [← h4]
    omega

set_option maxRecDepth 100000 in
set_option maxHeartbeats 1000000 in
theorem shiftLeft_any (b n cap s P T : Nat) (hn : n ≤ 18) (hs : s < 32) (hP : P * 2 ^ s < R n) (w : World) (h0 : w.heap[b]? = some (.cells (fa n (dg P)) T (0, 0))) :
    Calls Tryd.prog 73 #[.slice (some ⟨b, 0, none⟩) n cap, .int .i64 s] w fun e w' => e = .returned (.tuple #[]) ∧ w'.heap[b]? = some (.cells (fa n (dg (P * 2 ^ s))) T (0, 0)) ∧ w.grownBy w' (some b) := by
  have hs32 : (s : Int) < 32 := by omega
  have hs0 : (0 : Int) ≤ s := by omega
  have H0 := Lib.hid h0
  clear h0
  go_enter Tryd.func73, Tryd.ntmps73
  go_wp2
  go_loopw [4, 9] (fun c i wr => ∃ k c0 P' : Nat, k ≤ n ∧ c0 < 2 ^ s ∧ Hid (P' + c0 * R k = (P % R k) * 2 ^ s + 0 + P / R k * R k) ∧ Hid (P' / R k = P / R k) ∧ P' < R n ∧ c = .int .u32 c0 ∧ i = .int .i64 k ∧ w.grownBy wr (some b) ∧
      wr.heap[b]? = some (.cells (fa n (dg P')) T (0, 0)))
    (fun _ i _ => n - (intOf i).toNat)
  case atStart =>
    have hz : 0 < 2 ^ s := Nat.pow_pos (by omega)
    refine ⟨0, 0, P, Nat.zero_le _, hz, ?_, rfl, ?_, rfl, rfl, World.grownBy.refl w _, H0.out⟩
    · unfold Hid; rw [R_zero, Nat.mod_one, Nat.zero_mul, Nat.div_one]; omega
    · have : P * 1 ≤ P * 2 ^ s := Nat.mul_le_mul_left _ hz
      omega
  case round =>
    obtain ⟨k, c0, P', hk, hc, he, hd, hP', rfl, rfl, hB, e0⟩ := hrel
    by_cases hlt : k < n
    · have h1 := blk_cell e0 hlt
      have h3 : wr.frozen? ⟨b, k, none⟩ = false := blk_free e0
      have b1 := dg_lt P' k
      have E0 := Lib.hid e0
      clear e0
      go_wp2
      go_roundw
      case rel =>
        obtain ⟨f1, f2, f3⟩ := shl_facts hs b1 hc
        rw [f1, f2]
        have hda : dg P' k = dg P k := by unfold dg; rw [hd.out]
        have hv : (dg P' k * 2 ^ s + c0) % 4294967296 < 4294967296 := Nat.mod_lt _ (by omega)
        refine ⟨k + 1, (dg P' k * 2 ^ s + c0) / 4294967296, setd P' k ((dg P' k * 2 ^ s + c0) % 4294967296), by omega, f3, ?_, ?_, setd_lt hP' hlt hv, rfl, by go_num, ?_, ?_⟩
        · exact scale_step he.out hda (by omega)
        · unfold Hid; rw [setd_div _ _ _ hv]
          have h1 := div_succ P' k
          have h2 := div_succ P k
          have h3 := hd.out
          omega
        · exact only_setCell hB _
        · exact blk_set E0.out hlt hv
      case measure => (simp [intOf] <;> omega)
    · obtain rfl : k = n := by omega
      have hfin : P' = P * 2 ^ s := by
        have h := he.out
        have hPk : P < R k := by
          have : P * 1 ≤ P * 2 ^ s := Nat.mul_le_mul_left _ (Nat.pow_pos (by omega))
          omega
        rw [Nat.mod_eq_of_lt hPk, Nat.div_eq_of_lt hPk] at h
        have h0 := R_pos k
        rcases Nat.eq_zero_or_pos c0 with h1 | h1
        · subst h1; omega
        · have : 1 * R k ≤ c0 * R k := Nat.mul_le_mul_right _ h1
          omega
      have HF := Lib.hid hfin
      clear hfin
      have E0 := Lib.hid e0
      clear e0 he hd
      go_wp2
      go_end0
      exact ⟨rfl, by rw [← HF.out]; exact E0.out, hB⟩
end Go.Proofs.YtkfcikijmkgahaaDoor
namespace Go.Proofs.YtkfcikijmkgahaaDoor
open Go.RowKit Tw

theorem shr_facts {x s H : Nat} (hs : s < 32) (hx : x < 4294967296) :
    bits .or .u32 ((x : Int) / 2 ^ s) ((H % 2 ^ s * 2 ^ (32 - s) : Nat) : Int) = ((H % 2 ^ s * 2 ^ (32 - s) + x / 2 ^ s : Nat) : Int) ∧
    (x : Int) * 4294967296 / 2 ^ s % 4294967296 = ((x % 2 ^ s * 2 ^ (32 - s) : Nat) : Int) ∧ H % 2 ^ s * 2 ^ (32 - s) + x / 2 ^ s < 4294967296 ∧
    (H * 4294967296 + x) / 2 ^ s = H / 2 ^ s * 4294967296 + (H % 2 ^ s * 2 ^ (32 - s) + x / 2 ^ s) ∧ (H * 4294967296 + x) % 2 ^ s = x % 2 ^ s := by
  have hzy := two_split hs
  have e : ((2 : Int) ^ s) = ((2 ^ s : Nat) : Int) := by simp
  have hz : 0 < 2 ^ s := Nat.pow_pos (by omega)
  have hy : 0 < 2 ^ (32 - s) := Nat.pow_pos (by omega)
  have hxz : x / 2 ^ s < 2 ^ (32 - s) := by rw [Nat.div_lt_iff_lt_mul hz, Nat.mul_comm, hzy]; exact hx
  have hor := Nat.two_pow_add_eq_or_of_lt (i := 32 - s) (b := x / 2 ^ s) hxz (H % 2 ^ s)
  rw [e]
  generalize 2 ^ s = z at *
  generalize 2 ^ (32 - s) = y at *
  have hr : H % z < z := Nat.mod_lt _ hz
  have hlt : H % z * y + x / z < 4294967296 := by
    have : (H % z + 1) * y ≤ z * y := Nat.mul_le_mul_right _ hr
    rw [Nat.add_mul, Nat.one_mul, hzy] at this
    omega
  have hdm := Nat.div_add_mod H z
  have hE : H * 4294967296 + x = z * (H * y) + x := by rw [← hzy]; grind
  have hA : x / z < 4294967296 := Nat.lt_of_le_of_lt (Nat.le_add_left _ _) hlt
  have hC : H % z * y < 4294967296 := Nat.lt_of_le_of_lt (Nat.le_add_right _ _) hlt
  refine ⟨?_, ?_, hlt, ?_, ?_⟩
  · rw [show (x : Int) / (z : Int) = ((x / z : Nat) : Int) from rfl, u32_or_nat _ _ hA hC, Nat.or_comm, Nat.mul_comm (H % z) y, hor]
  · have h1 : x * 4294967296 / z % 4294967296 = x % z * y := by
      rw [← hzy, Nat.mul_comm x (z * y), Nat.mul_assoc, Nat.mul_div_cancel_left _ hz, Nat.mul_comm y x, Nat.mul_mod_mul_right]
    rw [← h1]; rfl
  · rw [hE, Nat.mul_add_div hz]
    have : H * y = (z * (H / z) + H % z) * y := by rw [hdm]
    rw [this, ← hzy]; grind
  · rw [hE, Nat.mul_add_mod]

set_option maxRecDepth 100000 in
set_option maxHeartbeats 1000000 in
theorem shiftRight_any (b n cap s P T : Nat) (hn : n ≤ 18) (hs : s < 32) (hP : P < R n) (w : World) (h0 : w.heap[b]? = some (.cells (fa n (dg P)) T (0, 0))) :
    Calls Tryd.prog 76 #[.slice (some ⟨b, 0, none⟩) n cap, .int .i64 s] w fun e w' => e = .returned (.tuple #[]) ∧ w'.heap[b]? = some (.cells (fa n (dg (P / 2 ^ s))) T (0, 0)) ∧ w.grownBy w' (some b) := by
  have hs32 : (s : Int) < 32 := by omega
  have hs0 : (0 : Int) ≤ s := by omega
  have H0 := Lib.hid h0
  clear h0
  go_enter Tryd.func76, Tryd.ntmps76
  go_wp2
  go_loopw [4, 5] (fun c i wr => ∃ k P' : Nat, k ≤ n ∧ Hid (P' = P / R k / 2 ^ s * R k + P % R k) ∧ P' < R n ∧ c = .int .u32 ((P / R k % 2 ^ s * 2 ^ (32 - s) : Nat) : Int) ∧ i = .int .i64 ((k : Int) - 1) ∧ w.grownBy wr (some b) ∧
      wr.heap[b]? = some (.cells (fa n (dg P')) T (0, 0)))
    (fun _ i _ => (intOf i + 1).toNat)
  case atStart =>
    refine ⟨n, P, Nat.le_refl _, ?_, hP, ?_, rfl, World.grownBy.refl w _, H0.out⟩
    · unfold Hid; rw [Nat.div_eq_of_lt hP, Nat.zero_div, Nat.zero_mul, Nat.mod_eq_of_lt hP, Nat.zero_add]
    · rw [Nat.div_eq_of_lt hP, Nat.zero_mod, Nat.zero_mul]; rfl
  case round =>
    obtain ⟨k, P', hk, he, hP', rfl, rfl, hB, e0⟩ := hrel
    rcases Nat.eq_zero_or_pos k with rfl | hpos
    · have hfin : P' = P / 2 ^ s := by
        have h := he.out
        rwa [R_zero, Nat.div_one, Nat.mod_one, Nat.mul_one, Nat.add_zero] at h
      have HF := Lib.hid hfin
      clear hfin he
      have E0 := Lib.hid e0
      clear e0
      go_wp2
      go_end0
      exact ⟨rfl, by rw [← HF.out]; exact E0.out, hB⟩
    · obtain ⟨j, rfl⟩ : ∃ j, k = j + 1 := ⟨k - 1, by omega⟩
      have ej : (((j + 1 : Nat) : Int) - 1) = j := by omega
      rw [ej]
      clear ej
      have h1 := blk_cell e0 (i := j) (by omega)
      have h3 : wr.frozen? ⟨b, j, none⟩ = false := blk_free e0
      have b1 := dg_lt P' j
      have hjn : (j : Int) < n := by omega
      obtain ⟨hi, hhi⟩ : ∃ hi, hi = P / R (j + 1) % 2 ^ s * 2 ^ (32 - s) := ⟨_, rfl⟩
      rw [← hhi]
      have HH := Lib.hid hhi
      clear hhi
      have E0 := Lib.hid e0
      clear e0
      go_wp2
      go_roundw
      case rel =>
        obtain ⟨f1, f2, f3, f4, f5⟩ := shr_facts (H := P / R (j + 1)) hs b1
        rw [← HH.out] at f1 f3 f4
        have hda : dg P' j = dg P j := by
          have hm : P' % R (j + 1) = P % R (j + 1) := by
            rw [he.out, Nat.mul_comm, Nat.mul_add_mod, Nat.mod_mod]
          rw [← dg_mod (x := P') (k := j + 1) (by omega), hm, dg_mod (by omega)]
        rw [f1, f2]
        rw [hda] at f1 f2 f3 f4 f5 ⊢
        rw [← div_succ] at f4 f5
        refine ⟨j, setd P' j (hi + dg P j / 2 ^ s), by omega, ?_, setd_lt hP' (by omega) f3, by rw [f5], rfl, only_setCell hB _, blk_set E0.out (by omega) f3⟩
        unfold Hid
        have g1 := setd_eq P' j (hi + dg P j / 2 ^ s)
        have g2 := he.out
        have g3 := mod_succ P j
        rw [hda] at g1
        rw [f4]
        have g4 : (P / R (j + 1) / 2 ^ s * 4294967296 + (hi + dg P j / 2 ^ s)) * R j = P / R (j + 1) / 2 ^ s * R (j + 1) + (hi + dg P j / 2 ^ s) * R j := by
          rw [R_succ]; grind
        omega
      case measure => (simp [intOf] <;> omega)
end Go.Proofs.YtkfcikijmkgahaaDoor
/- What the proofs ask of math/bits.LeadingZeros32; the shelf's contract gives it (Si). -/
namespace Go.Proofs.YtkfcikijmkgahaaDoor
open Go.RowKit Tw
class ShLZ : Prop where
  lz : ∀ (x : Nat), x < 4294967296 → 0 < x → ∀ w : World, Calls Tryd.prog 72 #[.int .u32 x] w fun e w' => (∃ s : Nat, s < 32 ∧ e = .returned (.int .i64 s) ∧ x * 2 ^ s < 4294967296 ∧ 2147483648 ≤ x * 2 ^ s) ∧ w = w'
end Go.Proofs.YtkfcikijmkgahaaDoor
