import Derived.Test.YtkfcikijmkgahaaDoorG07
import Derived.Test.YtkfcikijmkgahaaDoorG08
import Derived.Test.YtkfcikijmkgahaaDoorG06
import Derived.Test.YtkfcikijmkgahaaDoorG02
import Derived.Deep.RegionWith
import Derived.Deep.Cut
/- Part of the proof: Dl, To. -/
set_option linter.unusedVariables false
set_option linter.unusedSimpArgs false
set_option linter.unusedSectionVars false
namespace Go.Proofs.YtkfcikijmkgahaaDoor
open Go.RowKit Tw
variable [ShLZ]

theorem lz_any (x : Nat) (hx : x < 4294967296) (h0 : 0 < x) (w : World) :
    Calls Tryd.prog 72 #[.int .u32 x] w fun e w' => (∃ s : Nat, s < 32 ∧ e = .returned (.int .i64 s) ∧ x * 2 ^ s < 4294967296 ∧ 2147483648 ≤ x * 2 ^ s) ∧ w = w' := ShLZ.lz x hx h0 w
/-- the end of the long division -/
theorem long_end {a b z Q A : Nat} (hz : 0 < z) (hA : A < b * z) (h : a * z = Q * (b * z) + A) : Q = a / b ∧ A / z = a % b := by
  have hb : 0 < b := by
    rcases Nat.eq_zero_or_pos b with e | e
    · subst e; omega
    · exact e
  have h1 : A % z = 0 := by
    have h2 : (Q * (b * z) + A) % z = 0 := by rw [← h, Nat.mul_mod_left]
    have h3 : Q * (b * z) = z * (Q * b) := by grind
    rwa [h3, Nat.mul_add_mod] at h2
  have h2 := Nat.div_add_mod A z
  rw [h1, Nat.add_zero] at h2
  generalize A / z = r at *
  subst h2
  have h3 : z * a = z * (Q * b + r) := by
    have : Q * (b * z) + z * r = z * (Q * b + r) := by grind
    rw [← this, ← h, Nat.mul_comm]
  have h4 : a = Q * b + r := Nat.eq_of_mul_eq_mul_left hz h3
  have h5 : r < b := by
    have : z * r < z * b := by rw [Nat.mul_comm z b]; exact hA
    exact Nat.lt_of_mul_lt_mul_left this
  subst h4
  refine ⟨?_, ?_⟩
  · rw [Nat.mul_comm, Nat.mul_add_div hb, Nat.div_eq_of_lt h5, Nat.add_zero]
  · rw [Nat.mul_comm, Nat.mul_add_mod, Nat.mod_eq_of_lt h5]
theorem long_quot {Q D A A0 j q A' : Nat} (h0 : A0 = Q * D + A) (hm : Q % R (j + 1) = 0) (hA : A = q * (D * R j) + A') : A0 = setd Q j q * D + A' ∧ setd Q j q % R j = 0 := by
  have hd : dg Q j = 0 := by rw [← dg_mod (x := Q) (k := j + 1) (by omega), hm]; simp [dg]
  have h1 := setd_eq Q j q
  rw [hd, Nat.zero_mul, Nat.add_zero] at h1
  refine ⟨?_, ?_⟩
  · rw [h1, h0, hA]; grind
  · rw [setd_mod, ← Nat.mod_mod_of_dvd Q (show R j ∣ R (j + 1) from ⟨4294967296, by rw [R_succ, Nat.mul_comm]⟩), hm, Nat.zero_mod]

/-- the divisor, shifted -/
theorem shifted {b n s : Nat} (hb : b < R (n + 1)) (hs : s < 32) (h1 : dg b n * 2 ^ s < 4294967296) (h2 : 2147483648 ≤ dg b n * 2 ^ s) : b * 2 ^ s < R (n + 1) ∧ 2147483648 * R n ≤ b * 2 ^ s := by
  have hzy := two_split hs
  have hz : 0 < 2 ^ s := Nat.pow_pos (by omega)
  have hd : b / R n = dg b n := div_one hb
  have hdm := Nat.div_add_mod b (R n)
  have hm := mod_lt_R b n
  rw [hd] at hdm
  generalize 2 ^ s = z at *
  generalize 2 ^ (32 - s) = y at *
  generalize dg b n = x at *
  have hxy : x < y := by
    rcases Nat.lt_or_ge x y with h | h
    · exact h
    · have : y * z ≤ x * z := Nat.mul_le_mul_right _ h
      rw [Nat.mul_comm y z, hzy] at this
      omega
  refine ⟨?_, ?_⟩
  · have h3 : b < (x + 1) * R n := by rw [Nat.add_mul, Nat.one_mul, Nat.mul_comm x]; omega
    have h4 : b * z < (x + 1) * R n * z := Nat.mul_lt_mul_of_pos_right h3 hz
    have h5 : (x + 1) * z ≤ y * z := Nat.mul_le_mul_right _ hxy
    have h6 : (x + 1) * z * R n ≤ y * z * R n := Nat.mul_le_mul_right _ h5
    have h7 : (x + 1) * R n * z = (x + 1) * z * R n := by rw [Nat.mul_assoc, Nat.mul_comm (R n), ← Nat.mul_assoc]
    rw [Nat.mul_comm y z, hzy] at h6
    rw [R_succ]
    omega
  · have h3 : 2147483648 * R n ≤ x * z * R n := Nat.mul_le_mul_right _ h2
    have h4 : R n * x * z ≤ b * z := Nat.mul_le_mul_right _ (by omega)
    have h5 : x * z * R n = R n * x * z := by rw [Nat.mul_comm (x * z), Nat.mul_assoc]
    omega

set_option maxRecDepth 100000 in
set_option maxHeartbeats 2000000 in
theorem divideLong_any (a b m n : Nat) (ha : a < R m) (hm : m ≤ 17) (hb : b < R (n + 1)) (hn : 1 ≤ n) (hn8 : n ≤ 7) (hbn : dg b n ≠ 0) (w : World) :
    Calls Tryd.prog 60 #[wid a, num b, .int .i64 m, .int .i64 ((n : Int) + 1)] w fun e w' => e = .returned (.tuple #[wid (a / b), num (a % b)]) ∧ Below w.heap.size w w' := by
  unfold num wid
  have hx0 : 0 < dg b n := by omega
  go_enter Tryd.func60, Tryd.ntmps60
  go_upto_region 1 with (fail)
  have hh := heap4 w (.cells (fa 18 (dg a)) 59) (.cells (fa 8 (dg b)) 24) (.cells (fa 18 (fun _ => 0)) 59) (.cells (fa 8 (fun _ => 0)) 24)
  have hB := below4 w (.cells (fa 18 (dg a)) 59) (.cells (fa 8 (dg b)) 24) (.cells (fa 18 (fun _ => 0)) 59) (.cells (fa 8 (fun _ => 0)) 24)
  obtain ⟨W, hW⟩ : ∃ W, W = (((w.alloc (.cells (fa 18 (dg a)) 59)).alloc (.cells (fa 8 (dg b)) 24)).alloc (.cells (fa 18 (fun _ => 0)) 59)).alloc (.cells (fa 8 (fun _ => 0)) 24) := ⟨_, rfl⟩
  rw [← hW] at hh hB
  rw [fa_zero18, fa_zero8] at hW
  rw [← hW]
  clear hW
  obtain ⟨e0, e1, e2, e3⟩ := hh
  have c1 := blk_cell e1 (i := n) (by omega)
  have hn8' : (n : Int) < 8 := by omega
  have E0 := Lib.hid e0
  have E1 := Lib.hid e1
  have E2 := Lib.hid e2
  have E3 := Lib.hid e3
  clear e0 e1 e2 e3
  go_wp2_with fail
  refine (lz_any _ (dg_lt b n) hx0 _).mono ?_
  rintro e w' ⟨⟨s, hs, rfl, hs1, hs2⟩, rfl⟩
  obtain ⟨hD, hDh⟩ := shifted hb hs hs1 hs2
  clear c1 hs1 hs2
  go_wp2_with fail
  have ha18 : a * 2 ^ s < R 18 := by
    have hz : 2 ^ s ≤ 4294967296 := by
      have := two_split hs
      have h2 : 2 ^ s * 1 ≤ 2 ^ s * 2 ^ (32 - s) := Nat.mul_le_mul_left _ (Nat.pow_pos (by omega))
      omega
    have h1 : a * 2 ^ s ≤ a * 4294967296 := Nat.mul_le_mul_left _ hz
    have h2 : R (17 + 1) = 4294967296 * R 17 := R_succ 17
    have h3 : a < R 17 := lt_R_of_le ha hm
    have h4 : R 18 = 4294967296 * R 17 := h2
    omega
  refine (shiftLeft_any _ 18 18 s a 59 (by omega) hs ha18 W E0.out).mono ?_
  rintro e W1 ⟨rfl, f0, hg1⟩
  have f1 := (hg1.block (w.heap.size + 1) (lt_of_block E1.out) (by simp)).trans E1.out
  have f2 := (hg1.block (w.heap.size + 1 + 1) (lt_of_block E2.out) (by simp; omega)).trans E2.out
  have f3 := (hg1.block (w.heap.size + 1 + 1 + 1) (lt_of_block E3.out) (by simp; omega)).trans E3.out
  have hB1 : Below w.heap.size w W1 := hB.grown hg1 (Nat.le_of_lt (lt_of_block E0.out)) (by simp)
  have F0 := Lib.hid f0
  have F1 := Lib.hid f1
  have F2 := Lib.hid f2
  have F3 := Lib.hid f3
  clear f0 f1 f2 f3 E0 E1 E2 E3 hB hg1
  go_wp2_with fail
  refine (shiftLeft_any _ 8 8 s b 24 (by omega) hs (lt_R_of_le hD (by omega)) W1 F1.out).mono ?_
  rintro e W2 ⟨rfl, f1, hg1⟩
  have f0 := (hg1.block w.heap.size (lt_of_block F0.out) (by simp)).trans F0.out
  have f2 := (hg1.block (w.heap.size + 1 + 1) (lt_of_block F2.out) (by simp)).trans F2.out
  have f3 := (hg1.block (w.heap.size + 1 + 1 + 1) (lt_of_block F3.out) (by simp; omega)).trans F3.out
  have hB2 : Below w.heap.size w W2 := hB1.grown hg1 (Nat.le_of_lt (Nat.lt_trans (Nat.lt_succ_self _) (lt_of_block F1.out))) (by simp)
  have E0 := Lib.hid f0
  have E1 := Lib.hid f1
  have E2 := Lib.hid f2
  have E3 := Lib.hid f3
  clear f0 f1 f2 f3 F0 F1 F2 F3 hB1 hg1
  go_wp2_with fail
  have hlt3 := lt_of_block E3.out
  have hBg : Below w.heap.size w (W2.alloc (.cells (fa 18 (fun _ => 0)) 59)) := hB2.alloc hB2.size _
  have f0 := (Below.heap_alloc W2 (.cells (fa 18 (fun _ => 0)) 59) _ (lt_of_block E0.out)).trans E0.out
  have f1 := (Below.heap_alloc W2 (.cells (fa 18 (fun _ => 0)) 59) _ (lt_of_block E1.out)).trans E1.out
  have f2 := (Below.heap_alloc W2 (.cells (fa 18 (fun _ => 0)) 59) _ (lt_of_block E2.out)).trans E2.out
  have f3 := (Below.heap_alloc W2 (.cells (fa 18 (fun _ => 0)) 59) _ (lt_of_block E3.out)).trans E3.out
  have f4 := heap1 W2 (.cells (fa 18 (fun _ => 0)) 59)
  obtain ⟨W, hW⟩ : ∃ W, W = W2.alloc (.cells (fa 18 (fun _ => 0)) 59) := ⟨_, rfl⟩
  rw [← hW] at f0 f1 f2 f3 f4 hBg
  rw [fa_zero18] at hW
  rw [← hW]
  clear hW E0 E1 E2 E3 hB2
  have hg3 : w.heap.size + 1 + 1 + 1 < W2.heap.size := hlt3
  clear hlt3
  generalize W2.heap.size = g at *
  have hD0 : 0 < b * 2 ^ s := by
    have := R_pos n
    omega
  have hrel0 : Hid (a * 2 ^ s < b * 2 ^ s * R (((m : Int) - ((n : Int) + 1) + 1).toNat)) := by
    have hz : 0 < 2 ^ s := Nat.pow_pos (by omega)
    have hbR : R n ≤ b := by
      have h1 := Nat.div_add_mod b (R n)
      have h2 : b / R n = dg b n := div_one hb
      rw [h2] at h1
      have h3 : R n * 1 ≤ R n * dg b n := Nat.mul_le_mul_left _ hx0
      omega
    unfold Hid
    rcases Nat.lt_or_ge n m with h | h
    · rw [show ((m : Int) - ((n : Int) + 1) + 1).toNat = m - n from by omega]
      have h1 : R m = R n * R (m - n) := by rw [← R_add, show n + (m - n) = m from by omega]
      have h2 : a * 2 ^ s < R m * 2 ^ s := Nat.mul_lt_mul_of_pos_right ha hz
      have h3 : R n * (2 ^ s * R (m - n)) ≤ b * (2 ^ s * R (m - n)) := Nat.mul_le_mul_right _ hbR
      rw [h1] at h2
      have h4 : R n * R (m - n) * 2 ^ s = R n * (2 ^ s * R (m - n)) := by rw [Nat.mul_assoc, Nat.mul_comm (R (m - n))]
      have h5 : b * 2 ^ s * R (m - n) = b * (2 ^ s * R (m - n)) := Nat.mul_assoc _ _ _
      omega
    · rw [show ((m : Int) - ((n : Int) + 1) + 1).toNat = 0 from by omega, R_zero, Nat.mul_one]
      exact Nat.mul_lt_mul_of_pos_right (Nat.lt_of_lt_of_le (lt_R_of_le ha h) hbR) hz
  obtain ⟨D, hDD⟩ : ∃ D, D = b * 2 ^ s := ⟨_, rfl⟩
  rw [← hDD] at f1 hrel0 hD0 hD hDh
  have HDD := Lib.hid hDD
  clear hDD
  rw [fa_dg0] at f4
  go_loopw [12] (fun i wr => ∃ (z : Int) (A Q : Nat), i = .int .i64 z ∧ -9 ≤ z ∧ z + n ≤ 16 ∧ Hid (A < D * R (z + 1).toNat) ∧ Hid (a * 2 ^ s = Q * D + A) ∧ Hid (Q % R (z + 1).toNat = 0) ∧ Q < R 18 ∧ A < R 18 ∧ Below w.heap.size w wr ∧
      wr.heap[w.heap.size]? = some (.cells (fa 18 (dg A)) 59 (0, 0)) ∧ wr.heap[w.heap.size + 1]? = some (.cells (fa 8 (dg D)) 24 (0, 0)) ∧ wr.heap[w.heap.size + 1 + 1]? = some (.cells (fa 18 (fun _ => 0)) 59 (0, 0)) ∧
      wr.heap[w.heap.size + 1 + 1 + 1]? = some (.cells (fa 8 (fun _ => 0)) 24 (0, 0)) ∧ wr.heap[g]? = some (.cells (fa 18 (dg Q)) 59 (0, 0)))
    (fun i _ => (intOf i + 1).toNat)
  case atStart =>
    exact ⟨_, a * 2 ^ s, 0, rfl, by omega, by omega, hrel0, by unfold Hid; omega, Nat.zero_mod _, R_pos _, ha18, hBg, f0, f1, f2, f3, f4⟩
  case round =>
    clear f0 f1 f2 f3 f4 hBg hrel0
    obtain ⟨z, A, Q, rfl, hz1, hz2, hA, hQ, hQm, hQ18, hA18, hB, e0, e1, e2, e3, e4⟩ := hrel
    by_cases hz : 0 ≤ z
    · obtain ⟨j, rfl⟩ : ∃ j : Nat, z = j := ⟨z.toNat, by omega⟩
      rw [show ((j : Int) + 1).toNat = j + 1 from by omega] at hA hQm
      have E0 := Lib.hid e0
      have E1 := Lib.hid e1
      have E2 := Lib.hid e2
      have E3 := Lib.hid e3
      have E4 := Lib.hid e4
      clear e0 e1 e2 e3 e4
      have hj18 : (j : Int) + (n : Int) + 2 ≤ 18 := by omega
      have hsl := fun W => run_slice65 w.heap.size j (j + n + 2) (j : Int) ((j : Int) + ((n : Int) + 1) + 1) rfl (by omega) (by omega) (by omega) (by omega) W
      have hsl2 := fun W => run_slice25 (w.heap.size + 1) (n + 1) ((n : Int) + 1) (by omega) (by omega) W
      rw [show j + n + 2 - j = n + 1 + 1 from by omega] at hsl
      have HpR : Hid (A / R j < R (n + 1 + 1)) := by
        unfold Hid
        rw [Nat.div_lt_iff_lt_mul (R_pos j), ← R_add]
        have h1 : D * R (j + 1) ≤ R (n + 1) * R (j + 1) := Nat.mul_le_mul_right _ (Nat.le_of_lt hD)
        rw [← R_add, show n + 1 + (j + 1) = n + 1 + 1 + j from by omega] at h1
        exact Nat.lt_of_lt_of_le hA.out h1
      have HpD : Hid (A / R j < D * 4294967296) := by
        unfold Hid
        rw [Nat.div_lt_iff_lt_mul (R_pos j)]
        have h := hA.out
        rw [R_succ] at h
        rw [Nat.mul_assoc]; exact h
      have HAR : Hid (A < R (j + (n + 1 + 1))) := by
        unfold Hid
        have h1 : D * R (j + 1) ≤ R (n + 1) * R (j + 1) := Nat.mul_le_mul_right _ (Nat.le_of_lt hD)
        rw [← R_add, show n + 1 + (j + 1) = j + (n + 1 + 1) from by omega] at h1
        exact Nat.lt_of_lt_of_le hA.out h1
      have HC0 : Hid (∀ i, i ≤ n + 1 → wr.drew.cell? ⟨w.heap.size, j + i, none⟩ = some (.int .u32 (dg (A / R j) i))) := fun i hi => by
        rw [dg_div]; exact blk_cell (w := wr.drew) E0.out (by omega)
      have HC1 : Hid (∀ i, i < n + 1 → wr.drew.cell? ⟨w.heap.size + 1, i, none⟩ = some (.int .u32 (dg D i))) := fun i hi => blk_cell (w := wr.drew) E1.out (by omega)
      have hne : w.heap.size ≠ w.heap.size + 1 := by omega
      have hj8 : (j : Int) < 18 := by omega
      have HB0 := Lib.hid hB.drew
      go_wp2_with fail
      go_region_with (first
        | (go_at_call 75
           refine (guess_any _ j _ (n + 1) _ _ (A / R j) D (by omega) (by omega) HpR.out hD hDh HpD.out _ HC0.out HC1.out).mono ?_
           rintro e w1 hG
           obtain ⟨l, hl1, hl2, hl32, rfl, hbw⟩ := hG
           have G0 := Lib.hid ((hbw.block _ (lt_of_block E0.out)).trans E0.out)
           have G1 := Lib.hid ((hbw.block _ (lt_of_block E1.out)).trans E1.out)
           have G2 := Lib.hid ((hbw.block _ (lt_of_block E2.out)).trans E2.out)
           have G3 := Lib.hid ((hbw.block _ (lt_of_block E3.out)).trans E3.out)
           have G4 := Lib.hid ((hbw.block _ (lt_of_block E4.out)).trans E4.out)
           have HL1 := Lib.hid hl1
           have HL2 := Lib.hid hl2
           have HB1 := Lib.hid (HB0.out.trans (hbw.mono HB0.out.size))
           clear hl1 hl2 hbw)
        | (go_at_call 74
           refine (subtractTimes_any w.heap.size j (w.heap.size + 1) (n + 1) _ _ A D l 18 59 24 (by omega) (by omega) (by omega) (by omega) HAR.out hD hD0 hl32 HL1.out HL2.out hne w1 G0.out G1.out).mono ?_
           rintro e w2 ⟨rfl, hb0, hg2⟩
           have K0 := Lib.hid hb0
           have K1 := Lib.hid ((hg2.block _ (lt_of_block G1.out) (by simp)).trans G1.out)
           have K2 := Lib.hid ((hg2.block _ (lt_of_block G2.out) (by simp; omega)).trans G2.out)
           have K3 := Lib.hid ((hg2.block _ (lt_of_block G3.out) (by simp; omega)).trans G3.out)
           have K4 := Lib.hid ((hg2.block _ (lt_of_block G4.out) (by simp; omega)).trans G4.out)
           have HB2 := Lib.hid (HB1.out.grown hg2 (Nat.le_of_lt (lt_of_block G0.out)) (by simp))
           have c4 := blk_cell K4.out (i := j) (by omega)
           have c5 : w2.frozen? ⟨g, j, none⟩ = false := blk_free K4.out
           clear hb0 hg2))
      go_wp2_with fail
      go_roundw
      case rel =>
        obtain ⟨g1, g2, g3⟩ := long_step hD0 hA.out
        obtain ⟨g4, g5⟩ := long_quot hQ.out hQm.out g2
        have hA' : A / R j % D * R j + A % R j < R 18 := by omega
        refine ⟨(j : Int) - 1, A / R j % D * R j + A % R j, setd Q j (A / R j / D), rfl, by omega, by omega, ?_, g4, ?_, setd_lt hQ18 (by omega) g1, hA', ?_, ?_, ?_, ?_, ?_, ?_⟩
        · unfold Hid; rw [show ((j : Int) - 1 + 1).toNat = j from by omega]; exact g3
        · unfold Hid; rw [show ((j : Int) - 1 + 1).toNat = j from by omega]; exact g5
        · exact HB2.out.setCell (show w.heap.size ≤ g by omega) _
        · rw [heap_setCell_other _ _ _ _ (by simp; omega)]; exact K0.out
        · rw [heap_setCell_other _ _ _ _ (by simp; omega)]; exact K1.out
        · rw [heap_setCell_other _ _ _ _ (by simp; omega)]; exact K2.out
        · rw [heap_setCell_other _ _ _ _ (by simp; omega)]; exact K3.out
        · exact blk_set K4.out (by omega) g1
      case measure => (simp [intOf] <;> omega)
    · have hk0 : (z + 1).toNat = 0 := by omega
      rw [hk0, R_zero, Nat.mul_one] at hA
      have hend : Q = a / b ∧ A / 2 ^ s = a % b := by
        have h1 := hA.out
        have h2 := hQ.out
        rw [HDD.out] at h1 h2
        exact long_end (Nat.pow_pos (by omega)) h1 h2
      obtain ⟨he1, he2⟩ := hend
      have HE2 := Lib.hid he2
      clear he2
      subst he1
      clear hA hQ hQm hk0 HDD
      have hr8 : a % b < R 8 := by
        have hb0 : 0 < b := by
          rcases Nat.eq_zero_or_pos b with h | h
          · exfalso; rw [h] at hbn; exact hbn (by simp [dg])
          · exact h
        exact lt_R_of_le (Nat.lt_trans (Nat.mod_lt a hb0) hb) (by omega)
      have E0 := Lib.hid e0
      have E1 := Lib.hid e1
      have E2 := Lib.hid e2
      have E3 := Lib.hid e3
      have E4 := Lib.hid e4
      clear e0 e1 e2 e3 e4
      go_wp2_with fail
      refine (shiftRight_any _ 18 18 s A 59 (by omega) hs hA18 _ E0.out).mono ?_
      rintro e W1 ⟨rfl, f0, hg1⟩
      rw [HE2.out] at f0
      have F2 := Lib.hid ((hg1.block _ (lt_of_block E2.out) (by simp; omega)).trans E2.out)
      have F3 := Lib.hid ((hg1.block _ (lt_of_block E3.out) (by simp; omega)).trans E3.out)
      have F4 := Lib.hid ((hg1.block _ (lt_of_block E4.out) (by simp; omega)).trans E4.out)
      have hB1 : Below w.heap.size w W1 := hB.grown hg1 (Nat.le_of_lt (lt_of_block E0.out)) (by simp)
      have F0 := Lib.hid f0
      clear f0 hg1 hB E0 E1 E2 E3 E4
      obtain ⟨d65, hu65, hd65⟩ := under65
      obtain ⟨d25, hu25, hd25⟩ := under25
      go_wp2_with (first | (refine wpList_lda rfl rfl rfl F0.out hu65 hd65 size65 ?_))
      refine (narrow_yes (a % b) hr8 W1).mono ?_
      rintro e W2 ⟨rfl, hb2⟩
      have G2 := Lib.hid ((hb2.block _ (lt_of_block F2.out)).trans F2.out)
      have G3 := Lib.hid ((hb2.block _ (lt_of_block F3.out)).trans F3.out)
      have G4 := Lib.hid ((hb2.block _ (lt_of_block F4.out)).trans F4.out)
      have hB2 : Below w.heap.size w W2 := hB1.trans (hb2.mono hB1.size)
      clear hb2 F0 F2 F3 F4 hB1
      unfold num
      go_wp2_with (first | (refine wpList_sta (f := dg (a % b)) (f' := fun _ => 0) rfl rfl rfl rfl (heap1 W2 _) size25 ?_))
      rw [← fa_zero8]
      have hg14 : w.heap.size + 1 + 1 + 1 < W2.heap.size := lt_of_block G3.out
      have hg4 : g < W2.heap.size := lt_of_block G4.out
      have hB3 : Below w.heap.size w ((W2.alloc (.cells (fa 8 (fun _ => 0)) 24)).setRow W2.heap.size (fa 8 (dg (a % b)))) := below_setRow (hB2.alloc hB2.size _) hB2.size _
      have H5 : Hid (((W2.alloc (.cells (fa 8 (fun _ => 0)) 24)).setRow W2.heap.size (fa 8 (dg (a % b)))).heap[W2.heap.size]? = some (.cells (fa 8 (dg (a % b))) 24 (0, 0))) := setRow_heap _ _ _ _ _ _ (heap1 _ _)
      have H2 : Hid (((W2.alloc (.cells (fa 8 (fun _ => 0)) 24)).setRow W2.heap.size (fa 8 (dg (a % b)))).heap[w.heap.size + 1 + 1]? = some (.cells (fa 18 (fun _ => 0)) 59 (0, 0))) := by
        unfold Hid; rw [setRow_other _ _ _ _ (by omega), Below.heap_alloc _ _ _ (by omega)]; exact G2.out
      have H3 : Hid (((W2.alloc (.cells (fa 8 (fun _ => 0)) 24)).setRow W2.heap.size (fa 8 (dg (a % b)))).heap[w.heap.size + 1 + 1 + 1]? = some (.cells (fa 8 (fun _ => 0)) 24 (0, 0))) := by
        unfold Hid; rw [setRow_other _ _ _ _ (by omega), Below.heap_alloc _ _ _ (by omega)]; exact G3.out
      have H4 : Hid (((W2.alloc (.cells (fa 8 (fun _ => 0)) 24)).setRow W2.heap.size (fa 8 (dg (a % b)))).heap[g]? = some (.cells (fa 18 (dg (a / b))) 59 (0, 0))) := by
        unfold Hid; rw [setRow_other _ _ _ _ (by omega), Below.heap_alloc _ _ _ (by omega)]; exact G4.out
      generalize (W2.alloc (.cells (fa 8 (fun _ => 0)) 24)).setRow W2.heap.size (fa 8 (dg (a % b))) = W3 at *
      clear G2 G3 G4 hB2
      generalize W2.heap.size = g5 at *
      refine wp_region_U (W0 := w) [(w.heap.size + 1 + 1, .cells (fa 18 (fun _ => 0)) 59 (0, 0)), (w.heap.size + 1 + 1 + 1, .cells (fa 8 (fun _ => 0)) 24 (0, 0)), (g, .cells (fa 18 (dg (a / b))) 59 (0, 0)), (g5, .cells (fa 8 (dg (a % b))) 24 (0, 0))] (by kernel_rfl)
        ⟨hB3, by simp only [List.forall_mem_cons]; exact ⟨H2.out, H3.out, H4.out, H5.out, fun _ h => by cases h⟩⟩ ?_
      refine wpU_val (i := 0) rfl rfl (by kernel_rfl) (by kernel_rfl) rfl (yb_lda rfl rfl (.tail _ (.tail _ (.head _))) hu65 hd65 size65) ?_
      refine wpU_2 (i := 1) (j := 2) (by kernel_rfl)
        (stepU_val rfl rfl (by kernel_rfl) rfl (yb_lda rfl rfl (.tail _ (.tail _ (.tail _ (.head _)))) hu25 hd25 size25) (wpU_1 (i := 2) (by kernel_rfl)
          (stepU_store (K' := [(w.heap.size + 1 + 1, .cells (fa 18 (dg (a / b))) 59 (0, 0)), (w.heap.size + 1 + 1 + 1, .cells (fa 8 (fun _ => 0)) 24 (0, 0))]) rfl rfl rfl
            (st_a rfl rfl rfl (.head _) (by omega) size65 (by intro p hp; simp only [List.mem_cons, List.not_mem_nil, or_false] at hp; rcases hp with rfl | rfl; exact .inl rfl; exact .inr ⟨by simp, by simp⟩)) ?_)))
        (stepU_store (K' := [(w.heap.size + 1 + 1, .cells (fa 18 (dg (a / b))) 59 (0, 0)), (w.heap.size + 1 + 1 + 1, .cells (fa 8 (fun _ => 0)) 24 (0, 0)), (g5, .cells (fa 8 (dg (a % b))) 24 (0, 0))]) rfl rfl rfl
            (st_a rfl rfl rfl (.head _) (by omega) size65 (by intro p hp; simp only [List.mem_cons, List.not_mem_nil, or_false] at hp; rcases hp with rfl | rfl | rfl; exact .inl rfl; exact .inr ⟨by simp, by simp⟩; exact .inr ⟨by simp, by simp; omega⟩)) (wpU_1 (i := 1) (by kernel_rfl)
          (stepU_val rfl rfl (by kernel_rfl) rfl (yb_lda rfl rfl (.tail _ (.tail _ (.head _))) hu25 hd25 size25) ?_)))
      all_goals
        refine wpU_1 (i := 3) (by kernel_rfl) (stepU_store (K' := [(w.heap.size + 1 + 1, .cells (fa 18 (dg (a / b))) 59 (0, 0)), (w.heap.size + 1 + 1 + 1, .cells (fa 8 (dg (a % b))) 24 (0, 0))]) rfl rfl rfl
          (st_a rfl rfl rfl (.tail _ (.head _)) (by omega) size25 (by intro p hp; simp only [List.mem_cons, List.not_mem_nil, or_false] at hp; rcases hp with rfl | rfl; exact .inr ⟨by simp, by simp⟩; exact .inl rfl)) ?_)
        refine wpU_done (by kernel_rfl) (fun W4 hW4 => ?_) _
        go_wp2_with fail
        exact bodyPost_ret (res_cell_cell rfl rfl (hW4.2 _ (.head _)) hu65 hd65 (by rw [size65, fa_size]) rfl (hW4.2 _ (.tail _ (.head _))) hu25 hd25 (by rw [size25, fa_size])) rfl ⟨rfl, hW4.1⟩
end Go.Proofs.YtkfcikijmkgahaaDoor
namespace Go.Proofs.YtkfcikijmkgahaaDoor
open Go.RowKit Tw

set_option maxHeartbeats 400000 in
theorem toSmall_any (b o n cap : Nat) (x y : Nat) (hx : x < 4294967296) (hy : y < 4294967296) (hn : 2 ≤ n) (w : World) (h0 : w.cell? ⟨b, o + 0, none⟩ = some (.int .u32 x)) (h1 : w.cell? ⟨b, o + 1, none⟩ = some (.int .u32 y)) :
    Calls Tryd.prog 39 #[.slice (some ⟨b, o, none⟩) n cap] w fun e w' => e = .returned (.int .u64 ((y * 4294967296 + x : Nat) : Int)) ∧ ∃ m, w' = w.drewN m := by
  have hn' : (1 : Int) < n := by omega
  have hn0 : (0 : Int) < n := by omega
  simp only [Nat.add_zero] at h0
  go_enter Tryd.func39, Tryd.ntmps39
  go_wp2
  go_quiet (fail)
  go_wp2
  go_ret
  exact ⟨ret_int (or64 hx hy), _, rfl⟩
end Go.Proofs.YtkfcikijmkgahaaDoor
