import Derived.Test.YtalmflgkbmnghaaGreatDoorRM01
import Derived.Test.YtalmflgkbmnghaaGreatDoorRM00
import Derived.Deep.RegionWith
import Derived.Deep.Cut
/- Part of the proof: Dl, To, Dv, Qu, Gs, Gc, Ri, Pk, Mu, Pl, Mi, Cm, Ps. -/
set_option linter.unusedVariables false
set_option linter.unusedSimpArgs false
set_option linter.unusedSectionVars false
namespace Go.Proofs.YtalmflgkbmnghaaGreatDoor
open Go.RowKit Tf
variable [ShLZ]

theorem lz_any (x : Nat) (hx : x < 4294967296) (h0 : 0 < x) (w : World) :
   Calls Tryz.prog 99 #[.int .u32 x] w fun e w' => (∃ s : Nat, s < 32 ∧ e = .returned (.int .i64 s) ∧ x * 2 ^ s < 4294967296 ∧ 2147483648 ≤ x * 2 ^ s) ∧ w = w' := ShLZ.lz x hx h0 w
theorem long_end {a b z Q A : Nat} (hz : 0 < z) (hA : A < b * z) (h : a * z = Q * (b * z) + A) : Q = a / b ∧ A / z = a % b := by
 have hb : 0 < b := by
   rcases Nat.eq_zero_or_pos b with e | e
   · subst e; omega
   · exact e
 have h1 : A % z = 0 := by
   have h2 : (Q * (b * z) + A) % z = 0 := by rw [← h, Nat.mul_mod_left]
   have h3 : Q * (b * z) = z * (Q * b) := by grind
   rwa [h3, Nat.mul_add_mod] at h2
 have h2 := Nat.div_add_mod A z
 rw [h1, Nat.add_zero] at h2
 generalize A / z = r at *
 subst h2
 have h3 : z * a = z * (Q * b + r) := by
   have : Q * (b * z) + z * r = z * (Q * b + r) := by grind
   rw [← this, ← h, Nat.mul_comm]
 have h4 : a = Q * b + r := Nat.eq_of_mul_eq_mul_left hz h3
 have h5 : r < b := by
   have : z * r < z * b := by rw [Nat.mul_comm z b]; exact hA
   exact Nat.lt_of_mul_lt_mul_left this
 subst h4
 refine ⟨?_, ?_⟩
 · rw [Nat.mul_comm, Nat.mul_add_div hb, Nat.div_eq_of_lt h5, Nat.add_zero]
 · rw [Nat.mul_comm, Nat.mul_add_mod, Nat.mod_eq_of_lt h5]
theorem long_quot {Q D A A0 j q A' : Nat} (h0 : A0 = Q * D + A) (hm : Q % R (j + 1) = 0) (hA : A = q * (D * R j) + A') : A0 = setd Q j q * D + A' ∧ setd Q j q % R j = 0 := by
 have hd : dg Q j = 0 := by rw [← dg_mod (x := Q) (k := j + 1) Tw.om, hm]; simp [dg]
 have h1 := setd_eq Q j q
 rw [hd, Nat.zero_mul, Nat.add_zero] at h1
 refine ⟨?_, ?_⟩
 · rw [h1, h0, hA]; grind
 · rw [setd_mod, ← Nat.mod_mod_of_dvd Q (show R j ∣ R (j + 1) from ⟨4294967296, by rw [R_succ, Nat.mul_comm]⟩), hm, Nat.zero_mod]

theorem shifted {b n s : Nat} (hb : b < R (n + 1)) (hs : s < 32) (h1 : dg b n * 2 ^ s < 4294967296) (h2 : 2147483648 ≤ dg b n * 2 ^ s) : b * 2 ^ s < R (n + 1) ∧ 2147483648 * R n ≤ b * 2 ^ s := by
 have hzy := two_split hs
 have hz : 0 < 2 ^ s := Nat.pow_pos Tw.om
 have hd : b / R n = dg b n := div_one hb
 have hdm := Nat.div_add_mod b (R n)
 have hm := mod_lt_R b n
 rw [hd] at hdm
 generalize 2 ^ s = z at *
 generalize 2 ^ (32 - s) = y at *
 generalize dg b n = x at *
 have hxy : x < y := by
   rcases Nat.lt_or_ge x y with h | h
   · exact h
   · have : y * z ≤ x * z := Nat.mul_le_mul_right _ h
     rw [Nat.mul_comm y z, hzy] at this
     omega
 refine ⟨?_, ?_⟩
 · have h3 : b < (x + 1) * R n := by rw [Nat.add_mul, Nat.one_mul, Nat.mul_comm x]; omega
   have h4 : b * z < (x + 1) * R n * z := Nat.mul_lt_mul_of_pos_right h3 hz
   have h5 : (x + 1) * z ≤ y * z := Nat.mul_le_mul_right _ hxy
   have h6 : (x + 1) * z * R n ≤ y * z * R n := Nat.mul_le_mul_right _ h5
   have h7 : (x + 1) * R n * z = (x + 1) * z * R n := by rw [Nat.mul_assoc, Nat.mul_comm (R n), ← Nat.mul_assoc]
   rw [Nat.mul_comm y z, hzy] at h6
   rw [R_succ]
   omega
 · have h3 : 2147483648 * R n ≤ x * z * R n := Nat.mul_le_mul_right _ h2
   have h4 : R n * x * z ≤ b * z := Nat.mul_le_mul_right _ Tw.om
   have h5 : x * z * R n = R n * x * z := by rw [Nat.mul_comm (x * z), Nat.mul_assoc]
   omega

set_option maxRecDepth 100000 in
set_option maxHeartbeats 2000000 in
theorem divideLong_any (a b m n : Nat) (ha : a < R m) (hm : m ≤ 17) (hb : b < R (n + 1)) (hn : 1 ≤ n) (hn8 : n ≤ 7) (hbn : dg b n ≠ 0) (w : World) :
   Calls Tryz.prog 87 #[wid a, num b, .int .i64 m, .int .i64 ((n : Int) + 1)] w fun e w' => e = .returned (.tuple #[wid (a / b), num (a % b)]) ∧ Below w.heap.size w w' := by
 unfold num wid
 have hx0 : 0 < dg b n := by omega
 go_enter Tryz.func87, Tryz.ntmps87
 go_upto_region 1 with (fail)
 have hh := heap4 w (.cells (fa 18 (dg a)) 76) (.cells (fa 8 (dg b)) 23) (.cells (fa 18 (fun _ => 0)) 76) (.cells (fa 8 (fun _ => 0)) 23)
 have hB := below4 w (.cells (fa 18 (dg a)) 76) (.cells (fa 8 (dg b)) 23) (.cells (fa 18 (fun _ => 0)) 76) (.cells (fa 8 (fun _ => 0)) 23)
 obtain ⟨W, hW⟩ : ∃ W, W = (((w.alloc (.cells (fa 18 (dg a)) 76)).alloc (.cells (fa 8 (dg b)) 23)).alloc (.cells (fa 18 (fun _ => 0)) 76)).alloc (.cells (fa 8 (fun _ => 0)) 23) := ⟨_, rfl⟩
 rw [← hW] at hh hB
 rw [fa_zero18, fa_zero8] at hW
 rw [← hW]
 clear hW
 obtain ⟨e0, e1, e2, e3⟩ := hh
 have c1 := blk_cell e1 (i := n) Tw.om
 have hn8' : (n : Int) < 8 := by omega
 have E0 := Lib.hid e0
 have E1 := Lib.hid e1
 have E2 := Lib.hid e2
 have E3 := Lib.hid e3
 clear e0 e1 e2 e3
 go_wp2_with fail
 refine (lz_any _ (dg_lt b n) hx0 _).mono ?_
 rintro e w' ⟨⟨s, hs, rfl, hs1, hs2⟩, rfl⟩
 obtain ⟨hD, hDh⟩ := shifted hb hs hs1 hs2
 clear c1 hs1 hs2
 go_wp2_with fail
 have ha18 : a * 2 ^ s < R 18 := by
   have hz : 2 ^ s ≤ 4294967296 := by
     have := two_split hs
     have h2 : 2 ^ s * 1 ≤ 2 ^ s * 2 ^ (32 - s) := Nat.mul_le_mul_left _ (Nat.pow_pos Tw.om)
     omega
   have h1 : a * 2 ^ s ≤ a * 4294967296 := Nat.mul_le_mul_left _ hz
   have h2 : R (17 + 1) = 4294967296 * R 17 := R_succ 17
   have h3 : a < R 17 := lt_R_of_le ha hm
   have h4 : R 18 = 4294967296 * R 17 := h2
   omega
 refine (shiftLeft_any _ 18 18 s a 76 Tw.om hs ha18 W E0.out).mono ?_
 rintro e W1 ⟨rfl, f0, hg1⟩
 have f1 := (hg1.block (w.heap.size + 1) (lt_of_block E1.out) (by simp)).trans E1.out
 have f2 := (hg1.block (w.heap.size + 1 + 1) (lt_of_block E2.out) (by simp; omega)).trans E2.out
 have f3 := (hg1.block (w.heap.size + 1 + 1 + 1) (lt_of_block E3.out) (by simp; omega)).trans E3.out
 have hB1 : Below w.heap.size w W1 := hB.grown hg1 (Nat.le_of_lt (lt_of_block E0.out)) (by simp)
 have F0 := Lib.hid f0
 have F1 := Lib.hid f1
 have F2 := Lib.hid f2
 have F3 := Lib.hid f3
 clear f0 f1 f2 f3 E0 E1 E2 E3 hB hg1
 go_wp2_with fail
 refine (shiftLeft_any _ 8 8 s b 23 Tw.om hs (lt_R_of_le hD Tw.om) W1 F1.out).mono ?_
 rintro e W2 ⟨rfl, f1, hg1⟩
 have f0 := (hg1.block w.heap.size (lt_of_block F0.out) (by simp)).trans F0.out
 have f2 := (hg1.block (w.heap.size + 1 + 1) (lt_of_block F2.out) (by simp)).trans F2.out
 have f3 := (hg1.block (w.heap.size + 1 + 1 + 1) (lt_of_block F3.out) (by simp; omega)).trans F3.out
 have hB2 : Below w.heap.size w W2 := hB1.grown hg1 (Nat.le_of_lt (Nat.lt_trans (Nat.lt_succ_self _) (lt_of_block F1.out))) (by simp)
 have E0 := Lib.hid f0
 have E1 := Lib.hid f1
 have E2 := Lib.hid f2
 have E3 := Lib.hid f3
 clear f0 f1 f2 f3 F0 F1 F2 F3 hB1 hg1
 go_wp2_with fail
 have hlt3 := lt_of_block E3.out
 have hBg : Below w.heap.size w (W2.alloc (.cells (fa 18 (fun _ => 0)) 76)) := hB2.alloc hB2.size _
 have f0 := (Below.heap_alloc W2 (.cells (fa 18 (fun _ => 0)) 76) _ (lt_of_block E0.out)).trans E0.out
 have f1 := (Below.heap_alloc W2 (.cells (fa 18 (fun _ => 0)) 76) _ (lt_of_block E1.out)).trans E1.out
 have f2 := (Below.heap_alloc W2 (.cells (fa 18 (fun _ => 0)) 76) _ (lt_of_block E2.out)).trans E2.out
 have f3 := (Below.heap_alloc W2 (.cells (fa 18 (fun _ => 0)) 76) _ (lt_of_block E3.out)).trans E3.out
 have f4 := heap1 W2 (.cells (fa 18 (fun _ => 0)) 76)
 obtain ⟨W, hW⟩ : ∃ W, W = W2.alloc (.cells (fa 18 (fun _ => 0)) 76) := ⟨_, rfl⟩
 rw [← hW] at f0 f1 f2 f3 f4 hBg
 rw [fa_zero18] at hW
 rw [← hW]
 clear hW E0 E1 E2 E3 hB2
 have hg3 : w.heap.size + 1 + 1 + 1 < W2.heap.size := hlt3
 clear hlt3
 generalize W2.heap.size = g at *
 have hD0 : 0 < b * 2 ^ s := by
   have := R_pos n
   omega
 have hrel0 : Hid (a * 2 ^ s < b * 2 ^ s * R (((m : Int) - ((n : Int) + 1) + 1).toNat)) := by
   have hz : 0 < 2 ^ s := Nat.pow_pos Tw.om
   have hbR : R n ≤ b := by
     have h1 := Nat.div_add_mod b (R n)
     have h2 : b / R n = dg b n := div_one hb
     rw [h2] at h1
     have h3 : R n * 1 ≤ R n * dg b n := Nat.mul_le_mul_left _ hx0
     omega
   unfold Hid
   rcases Nat.lt_or_ge n m with h | h
   · rw [show ((m : Int) - ((n : Int) + 1) + 1).toNat = m - n from by omega]
     have h1 : R m = R n * R (m - n) := by rw [← R_add, show n + (m - n) = m from by omega]
     have h2 : a * 2 ^ s < R m * 2 ^ s := Nat.mul_lt_mul_of_pos_right ha hz
     have h3 : R n * (2 ^ s * R (m - n)) ≤ b * (2 ^ s * R (m - n)) := Nat.mul_le_mul_right _ hbR
     rw [h1] at h2
     have h4 : R n * R (m - n) * 2 ^ s = R n * (2 ^ s * R (m - n)) := by rw [Nat.mul_assoc, Nat.mul_comm (R (m - n))]
     have h5 : b * 2 ^ s * R (m - n) = b * (2 ^ s * R (m - n)) := Nat.mul_assoc _ _ _
     omega
   · rw [show ((m : Int) - ((n : Int) + 1) + 1).toNat = 0 from by omega, R_zero, Nat.mul_one]
     exact Nat.mul_lt_mul_of_pos_right (Nat.lt_of_lt_of_le (lt_R_of_le ha h) hbR) hz
 obtain ⟨D, hDD⟩ : ∃ D, D = b * 2 ^ s := ⟨_, rfl⟩
 rw [← hDD] at f1 hrel0 hD0 hD hDh
 have HDD := Lib.hid hDD
 clear hDD
 rw [fa_dg0] at f4
 go_loopw [12] (fun i wr => ∃ (z : Int) (A Q : Nat), i = .int .i64 z ∧ -9 ≤ z ∧ z + n ≤ 16 ∧ Hid (A < D * R (z + 1).toNat) ∧ Hid (a * 2 ^ s = Q * D + A) ∧ Hid (Q % R (z + 1).toNat = 0) ∧ Q < R 18 ∧ A < R 18 ∧ Below w.heap.size w wr ∧
     wr.heap[w.heap.size]? = some (.cells (fa 18 (dg A)) 76 (0, 0)) ∧ wr.heap[w.heap.size + 1]? = some (.cells (fa 8 (dg D)) 23 (0, 0)) ∧ wr.heap[w.heap.size + 1 + 1]? = some (.cells (fa 18 (fun _ => 0)) 76 (0, 0)) ∧
     wr.heap[w.heap.size + 1 + 1 + 1]? = some (.cells (fa 8 (fun _ => 0)) 23 (0, 0)) ∧ wr.heap[g]? = some (.cells (fa 18 (dg Q)) 76 (0, 0)))
   (fun i _ => (intOf i + 1).toNat)
 case atStart =>
   exact ⟨_, a * 2 ^ s, 0, rfl, by omega, by omega, hrel0, by unfold Hid; omega, Nat.zero_mod _, R_pos _, ha18, hBg, f0, f1, f2, f3, f4⟩
 case round =>
   clear f0 f1 f2 f3 f4 hBg hrel0
   obtain ⟨z, A, Q, rfl, hz1, hz2, hA, hQ, hQm, hQ18, hA18, hB, e0, e1, e2, e3, e4⟩ := hrel
   by_cases hz : 0 ≤ z
   · obtain ⟨j, rfl⟩ : ∃ j : Nat, z = j := ⟨z.toNat, by omega⟩
     rw [show ((j : Int) + 1).toNat = j + 1 from by omega] at hA hQm
     have E0 := Lib.hid e0
     have E1 := Lib.hid e1
     have E2 := Lib.hid e2
     have E3 := Lib.hid e3
     have E4 := Lib.hid e4
     clear e0 e1 e2 e3 e4
     have hj18 : (j : Int) + (n : Int) + 2 ≤ 18 := by omega
     have hsl := fun W => run_slice65 w.heap.size j (j + n + 2) (j : Int) ((j : Int) + ((n : Int) + 1) + 1) rfl Tw.om Tw.om Tw.om Tw.om W
     have hsl2 := fun W => run_slice25 (w.heap.size + 1) (n + 1) ((n : Int) + 1) Tw.om Tw.om W
     rw [show j + n + 2 - j = n + 1 + 1 from by omega] at hsl
     have HpR : Hid (A / R j < R (n + 1 + 1)) := by
       unfold Hid
       rw [Nat.div_lt_iff_lt_mul (R_pos j), ← R_add]
       have h1 : D * R (j + 1) ≤ R (n + 1) * R (j + 1) := Nat.mul_le_mul_right _ (Nat.le_of_lt hD)
       rw [← R_add, show n + 1 + (j + 1) = n + 1 + 1 + j from by omega] at h1
       exact Nat.lt_of_lt_of_le hA.out h1
     have HpD : Hid (A / R j < D * 4294967296) := by
       unfold Hid
       rw [Nat.div_lt_iff_lt_mul (R_pos j)]
       have h := hA.out
       rw [R_succ] at h
       rw [Nat.mul_assoc]; exact h
     have HAR : Hid (A < R (j + (n + 1 + 1))) := by
       unfold Hid
       have h1 : D * R (j + 1) ≤ R (n + 1) * R (j + 1) := Nat.mul_le_mul_right _ (Nat.le_of_lt hD)
       rw [← R_add, show n + 1 + (j + 1) = j + (n + 1 + 1) from by omega] at h1
       exact Nat.lt_of_lt_of_le hA.out h1
     have HC0 : Hid (∀ i, i ≤ n + 1 → wr.drew.cell? ⟨w.heap.size, j + i, none⟩ = some (.int .u32 (dg (A / R j) i))) := fun i hi => by
       rw [dg_div]; exact blk_cell (w := wr.drew) E0.out Tw.om
     have HC1 : Hid (∀ i, i < n + 1 → wr.drew.cell? ⟨w.heap.size + 1, i, none⟩ = some (.int .u32 (dg D i))) := fun i hi => blk_cell (w := wr.drew) E1.out Tw.om
     have hne : w.heap.size ≠ w.heap.size + 1 := by omega
     have hj8 : (j : Int) < 18 := by omega
     have HB0 := Lib.hid hB.drew
     go_wp2_with fail
     go_region_with (first
       | (go_at_call 102
          refine (guess_any _ j _ (n + 1) _ _ (A / R j) D Tw.om Tw.om HpR.out hD hDh HpD.out _ HC0.out HC1.out).mono ?_
          rintro e w1 hG
          obtain ⟨l, hl1, hl2, hl32, rfl, hbw⟩ := hG
          have G0 := Lib.hid ((hbw.block _ (lt_of_block E0.out)).trans E0.out)
          have G1 := Lib.hid ((hbw.block _ (lt_of_block E1.out)).trans E1.out)
          have G2 := Lib.hid ((hbw.block _ (lt_of_block E2.out)).trans E2.out)
          have G3 := Lib.hid ((hbw.block _ (lt_of_block E3.out)).trans E3.out)
          have G4 := Lib.hid ((hbw.block _ (lt_of_block E4.out)).trans E4.out)
          have HL1 := Lib.hid hl1
          have HL2 := Lib.hid hl2
          have HB1 := Lib.hid (HB0.out.trans (hbw.mono HB0.out.size))
          clear hl1 hl2 hbw)
       | (go_at_call 101
          refine (subtractTimes_any w.heap.size j (w.heap.size + 1) (n + 1) _ _ A D l 18 76 23 Tw.om Tw.om Tw.om Tw.om HAR.out hD hD0 hl32 HL1.out HL2.out hne w1 G0.out G1.out).mono ?_
          rintro e w2 ⟨rfl, hb0, hg2⟩
          have K0 := Lib.hid hb0
          have K1 := Lib.hid ((hg2.block _ (lt_of_block G1.out) (by simp)).trans G1.out)
          have K2 := Lib.hid ((hg2.block _ (lt_of_block G2.out) (by simp; omega)).trans G2.out)
          have K3 := Lib.hid ((hg2.block _ (lt_of_block G3.out) (by simp; omega)).trans G3.out)
          have K4 := Lib.hid ((hg2.block _ (lt_of_block G4.out) (by simp; omega)).trans G4.out)
          have HB2 := Lib.hid (HB1.out.grown hg2 (Nat.le_of_lt (lt_of_block G0.out)) (by simp))
          have c4 := blk_cell K4.out (i := j) Tw.om
          have c5 : w2.frozen? ⟨g, j, none⟩ = false := blk_free K4.out
          clear hb0 hg2))
     go_wp2_with fail
     go_roundw
     case rel =>
       obtain ⟨g1, g2, g3⟩ := long_step hD0 hA.out
       obtain ⟨g4, g5⟩ := long_quot hQ.out hQm.out g2
       have hA' : A / R j % D * R j + A % R j < R 18 := by omega
       refine ⟨(j : Int) - 1, A / R j % D * R j + A % R j, setd Q j (A / R j / D), rfl, by omega, by omega, ?_, g4, ?_, setd_lt hQ18 Tw.om g1, hA', ?_, ?_, ?_, ?_, ?_, ?_⟩
       · unfold Hid; rw [show ((j : Int) - 1 + 1).toNat = j from by omega]; exact g3
       · unfold Hid; rw [show ((j : Int) - 1 + 1).toNat = j from by omega]; exact g5
       · exact HB2.out.setCell (show w.heap.size ≤ g by omega) _
       · rw [heap_setCell_other _ _ _ _ (by simp; omega)]; exact K0.out
       · rw [heap_setCell_other _ _ _ _ (by simp; omega)]; exact K1.out
       · rw [heap_setCell_other _ _ _ _ (by simp; omega)]; exact K2.out
       · rw [heap_setCell_other _ _ _ _ (by simp; omega)]; exact K3.out
       · exact blk_set K4.out Tw.om g1
     case measure => (simp [intOf] <;> omega)
   · have hk0 : (z + 1).toNat = 0 := by omega
     rw [hk0, R_zero, Nat.mul_one] at hA
     have hend : Q = a / b ∧ A / 2 ^ s = a % b := by
       have h1 := hA.out
       have h2 := hQ.out
       rw [HDD.out] at h1 h2
       exact long_end (Nat.pow_pos Tw.om) h1 h2
     obtain ⟨he1, he2⟩ := hend
     have HE2 := Lib.hid he2
     clear he2
     subst he1
     clear hA hQ hQm hk0 HDD
     have hr8 : a % b < R 8 := by
       have hb0 : 0 < b := by
         rcases Nat.eq_zero_or_pos b with h | h
         · exfalso; rw [h] at hbn; exact hbn (by simp [dg])
         · exact h
       exact lt_R_of_le (Nat.lt_trans (Nat.mod_lt a hb0) hb) Tw.om
     have E0 := Lib.hid e0
     have E1 := Lib.hid e1
     have E2 := Lib.hid e2
     have E3 := Lib.hid e3
     have E4 := Lib.hid e4
     clear e0 e1 e2 e3 e4
     go_wp2_with fail
     refine (shiftRight_any _ 18 18 s A 76 Tw.om hs hA18 _ E0.out).mono ?_
     rintro e W1 ⟨rfl, f0, hg1⟩
     rw [HE2.out] at f0
     have F2 := Lib.hid ((hg1.block _ (lt_of_block E2.out) (by simp; omega)).trans E2.out)
     have F3 := Lib.hid ((hg1.block _ (lt_of_block E3.out) (by simp; omega)).trans E3.out)
     have F4 := Lib.hid ((hg1.block _ (lt_of_block E4.out) (by simp; omega)).trans E4.out)
     have hB1 : Below w.heap.size w W1 := hB.grown hg1 (Nat.le_of_lt (lt_of_block E0.out)) (by simp)
     have F0 := Lib.hid f0
     clear f0 hg1 hB E0 E1 E2 E3 E4
     obtain ⟨d65, hu65, hd65⟩ := under65
     obtain ⟨d25, hu25, hd25⟩ := under25
     go_wp2_with (first | (refine wpList_lda rfl rfl rfl F0.out hu65 hd65 size65 ?_))
     refine (narrow_yes (a % b) hr8 W1).mono ?_
     rintro e W2 ⟨rfl, hb2⟩
     have G2 := Lib.hid ((hb2.block _ (lt_of_block F2.out)).trans F2.out)
     have G3 := Lib.hid ((hb2.block _ (lt_of_block F3.out)).trans F3.out)
     have G4 := Lib.hid ((hb2.block _ (lt_of_block F4.out)).trans F4.out)
     have hB2 : Below w.heap.size w W2 := hB1.trans (hb2.mono hB1.size)
     clear hb2 F0 F2 F3 F4 hB1
     unfold num
     go_wp2_with (first | (refine wpList_sta (f := dg (a % b)) (f' := fun _ => 0) rfl rfl rfl rfl (heap1 W2 _) size25 ?_))
     rw [← fa_zero8]
     have hg14 : w.heap.size + 1 + 1 + 1 < W2.heap.size := lt_of_block G3.out
     have hg4 : g < W2.heap.size := lt_of_block G4.out
     have hB3 : Below w.heap.size w ((W2.alloc (.cells (fa 8 (fun _ => 0)) 23)).setRow W2.heap.size (fa 8 (dg (a % b)))) := below_setRow (hB2.alloc hB2.size _) hB2.size _
     have H5 : Hid (((W2.alloc (.cells (fa 8 (fun _ => 0)) 23)).setRow W2.heap.size (fa 8 (dg (a % b)))).heap[W2.heap.size]? = some (.cells (fa 8 (dg (a % b))) 23 (0, 0))) := setRow_heap _ _ _ _ _ _ (heap1 _ _)
     have H2 : Hid (((W2.alloc (.cells (fa 8 (fun _ => 0)) 23)).setRow W2.heap.size (fa 8 (dg (a % b)))).heap[w.heap.size + 1 + 1]? = some (.cells (fa 18 (fun _ => 0)) 76 (0, 0))) := by
       unfold Hid; rw [setRow_other _ _ _ _ Tw.om, Below.heap_alloc _ _ _ Tw.om]; exact G2.out
     have H3 : Hid (((W2.alloc (.cells (fa 8 (fun _ => 0)) 23)).setRow W2.heap.size (fa 8 (dg (a % b)))).heap[w.heap.size + 1 + 1 + 1]? = some (.cells (fa 8 (fun _ => 0)) 23 (0, 0))) := by
       unfold Hid; rw [setRow_other _ _ _ _ Tw.om, Below.heap_alloc _ _ _ Tw.om]; exact G3.out
     have H4 : Hid (((W2.alloc (.cells (fa 8 (fun _ => 0)) 23)).setRow W2.heap.size (fa 8 (dg (a % b)))).heap[g]? = some (.cells (fa 18 (dg (a / b))) 76 (0, 0))) := by
       unfold Hid; rw [setRow_other _ _ _ _ Tw.om, Below.heap_alloc _ _ _ Tw.om]; exact G4.out
     generalize (W2.alloc (.cells (fa 8 (fun _ => 0)) 23)).setRow W2.heap.size (fa 8 (dg (a % b))) = W3 at *
     clear G2 G3 G4 hB2
     generalize W2.heap.size = g5 at *
     refine wp_region_U [(w.heap.size + 1 + 1, .cells (fa 18 (fun _ => 0)) 76 (0, 0)), (w.heap.size + 1 + 1 + 1, .cells (fa 8 (fun _ => 0)) 23 (0, 0)), (g, .cells (fa 18 (dg (a / b))) 76 (0, 0)), (g5, .cells (fa 8 (dg (a % b))) 23 (0, 0))] Tw.kr
       ⟨hB3, by simp only [List.forall_mem_cons]; exact ⟨H2.out, H3.out, H4.out, H5.out, fun _ h => by cases h⟩⟩ ?_
     refine wpU_val (i := 0) rfl rfl Tw.kr Tw.kr rfl (yb_lda rfl rfl Tw.m2 hu65 hd65 size65) ?_
     refine wpU_2 (i := 1) (j := 2) Tw.kr
       (stepU_val rfl rfl Tw.kr rfl (yb_lda rfl rfl Tw.m3 hu25 hd25 size25) (wpU_1 (i := 2) Tw.kr
         (stepU_store (K' := [(w.heap.size + 1 + 1, .cells (fa 18 (dg (a / b))) 76 (0, 0)), (w.heap.size + 1 + 1 + 1, .cells (fa 8 (fun _ => 0)) 23 (0, 0))]) rfl rfl rfl
           (st_a rfl rfl rfl Tw.m0 Tw.om size65 (by intro p hp; simp only [List.mem_cons, List.not_mem_nil, or_false] at hp; rcases hp with rfl | rfl; exact .inl rfl; exact .inr ⟨by simp, by simp⟩)) ?_)))
       (stepU_store (K' := [(w.heap.size + 1 + 1, .cells (fa 18 (dg (a / b))) 76 (0, 0)), (w.heap.size + 1 + 1 + 1, .cells (fa 8 (fun _ => 0)) 23 (0, 0)), (g5, .cells (fa 8 (dg (a % b))) 23 (0, 0))]) rfl rfl rfl
           (st_a rfl rfl rfl Tw.m0 Tw.om size65 (by intro p hp; simp only [List.mem_cons, List.not_mem_nil, or_false] at hp; rcases hp with rfl | rfl | rfl; exact .inl rfl; exact .inr ⟨by simp, by simp⟩; exact .inr ⟨by simp, by simp; omega⟩)) (wpU_1 (i := 1) Tw.kr
         (stepU_val rfl rfl Tw.kr rfl (yb_lda rfl rfl Tw.m2 hu25 hd25 size25) ?_)))
     all_goals
       refine wpU_1 (i := 3) Tw.kr (stepU_store (K' := [(w.heap.size + 1 + 1, .cells (fa 18 (dg (a / b))) 76 (0, 0)), (w.heap.size + 1 + 1 + 1, .cells (fa 8 (dg (a % b))) 23 (0, 0))]) rfl rfl rfl
         (st_a rfl rfl rfl Tw.m1 Tw.om size25 (by intro p hp; simp only [List.mem_cons, List.not_mem_nil, or_false] at hp; rcases hp with rfl | rfl; exact .inr ⟨by simp, by simp⟩; exact .inl rfl)) ?_)
       refine wpU_done Tw.kr (fun W4 hW4 => ?_) _
       go_wp2_with fail
       exact bodyPost_ret (res_cell_cell rfl rfl (hW4.2 _ Tw.m0) hu65 hd65 (by rw [size65, fa_size]) rfl (hW4.2 _ Tw.m1) hu25 hd25 (by rw [size25, fa_size])) rfl ⟨rfl, hW4.1⟩
end Go.Proofs.YtalmflgkbmnghaaGreatDoor
namespace Go.Proofs.YtalmflgkbmnghaaGreatDoor
open Go.RowKit Tf

set_option maxHeartbeats 400000 in
theorem toSmall_any (b o n cap : Nat) (x y : Nat) (hx : x < 4294967296) (hy : y < 4294967296) (hn : 2 ≤ n) (w : World) (h0 : w.cell? ⟨b, o + 0, none⟩ = some (.int .u32 x)) (h1 : w.cell? ⟨b, o + 1, none⟩ = some (.int .u32 y)) :
   Calls Tryz.prog 59 #[.slice (some ⟨b, o, none⟩) n cap] w fun e w' => e = .returned (.int .u64 ((y * 4294967296 + x : Nat) : Int)) ∧ ∃ m, w' = w.drewN m := by
 have hn' : (1 : Int) < n := by omega
 have hn0 : (0 : Int) < n := by omega
 simp only [Nat.add_zero] at h0
 go_enter Tryz.func59, Tryz.ntmps59
 go_wp2
 go_quiet (fail)
 go_wp2
 go_ret
 exact ⟨ret_int (or64 hx hy), _, rfl⟩
end Go.Proofs.YtalmflgkbmnghaaGreatDoor
namespace Go.Proofs.YtalmflgkbmnghaaGreatDoor
open Go.RowKit Tf
variable [ShLZ]

theorem fa_digit {r : Nat} (hr : r < 4294967296) : fa 8 (dg r) = #[.int .u32 r, .int .u32 0, .int .u32 0, .int .u32 0, .int .u32 0, .int .u32 0, .int .u32 0, .int .u32 0] := by
 rw [fa_small r Tw.om, show (r : Int) % 4294967296 = r from by omega, show (r : Int) / 4294967296 = 0 from by omega]
theorem ln_one {b : Nat} (hb : b < R 8) (h : ln (dg b) 8 = 1) : dg b 0 = b ∧ b < 4294967296 := by
 have h1 := ln_lt 8 hb
 rw [h, R_succ, R_zero] at h1
 exact ⟨by rw [dg_zero, Nat.mod_eq_of_lt Tw.om], by omega⟩
theorem ln_two {b n : Nat} (hb : b < R n) (h : ln (dg b) n ≤ 2) : dg b 1 * 4294967296 + dg b 0 = b ∧ b < 18446744073709551616 := by
 have h1 := lt_R_of_le (ln_lt n hb) h
 rw [R_succ, R_succ, R_zero] at h1
 refine ⟨?_, by omega⟩
 rw [dg_zero, dg_one]; omega

theorem wrap_u64n {n : Nat} (h : n < 18446744073709551616) : IntKind.u64.wrap (n : Int) = n := by simp only [IntKind.wrap_u64]; omega
theorem quiet_two {P : Program} {f : FuncId} {args : Array Value} {w : World} {n : Nat} {v : Value}
   (h : Calls P f args (w.drewN n) fun e w' => e = .returned v ∧ ∃ m, w' = (w.drewN n).drewN m) : Calls P f args (w.drewN n) fun e w'' => e = .returned v ∧ ∃ m, w'' = w.drewN m :=
 h.mono fun _ _ ⟨he, m, hm⟩ => ⟨he, n + m, by rw [hm, World.drewN_drewN]⟩
theorem toSmall_num (g n cap a : Nat) (f : Nat) (t : TypeId) (ha : dg a 1 * 4294967296 + dg a 0 = f) (hn : 2 ≤ n) (w : World) (h : w.heap[g]? = some (.cells (fa n (dg a)) t (0, 0))) :
   Calls Tryz.prog 59 #[.slice (some ⟨g, 0, none⟩) n cap] w fun e w' => e = .returned (.int .u64 (f : Int)) ∧ ∃ m, w' = w.drewN m := by
 subst ha
 exact toSmall_any g 0 n cap _ _ (dg_lt a 0) (dg_lt a 1) hn w (blk_cell h Tw.om) (blk_cell h Tw.om)

theorem run_quo64 {a b : Nat} {x y : Operand} (w : World) (hb : b < 18446744073709551616) (hb0 : 0 < b) (ha : a < 18446744073709551616) :
   (do eqGuard .quo 84 x y (.int .u64 a) (.int .u64 b); binOp .quo 84 (.int .u64 a) (.int .u64 b) : Sem Value).run Tryz.prog w = .ok (.int .u64 ((a / b : Nat) : Int)) w := by
 go_simp
 rw [if_neg Tw.om, show (a : Int) / b = ((a / b : Nat) : Int) from rfl, wrap_u64n (Nat.lt_of_le_of_lt (Nat.div_le_self a b) ha)]
theorem run_rem64 {a b : Nat} {x y : Operand} (w : World) (hb : b < 18446744073709551616) (hb0 : 0 < b) (ha : a < 18446744073709551616) :
   (do eqGuard .rem 84 x y (.int .u64 a) (.int .u64 b); binOp .rem 84 (.int .u64 a) (.int .u64 b) : Sem Value).run Tryz.prog w = .ok (.int .u64 ((a % b : Nat) : Int)) w := by
 go_simp
 rw [if_neg Tw.om, Int.tmod_eq_emod_of_nonneg Tw.om]

set_option maxRecDepth 100000 in
set_option maxHeartbeats 2000000 in
theorem divide_any (a b : Nat) (ha : a < R 17) (hb : b < R 8) (hb0 : 0 < b) (w : World) :
   Calls Tryz.prog 56 #[wid a, num b] w fun e w' => e = .returned (.tuple #[wid (a / b), num (a % b)]) ∧ Below w.heap.size w w' := by
 unfold num wid
 have ha18 : a < R 18 := lt_R_of_le ha Tw.om
 go_enter Tryz.func56, Tryz.ntmps56
 go_upto_region 1 with (fail)
 have hK := KS.four w (.cells (fa 18 (dg a)) 76) (.cells (fa 8 (dg b)) 23) (.cells (fa 18 (fun _ => 0)) 76) (.cells (fa 8 (fun _ => 0)) 23)
 obtain ⟨W, hW⟩ : ∃ W, W = (((w.alloc (.cells (fa 18 (dg a)) 76)).alloc (.cells (fa 8 (dg b)) 23)).alloc (.cells (fa 18 (fun _ => 0)) 76)).alloc (.cells (fa 8 (fun _ => 0)) 23) := ⟨_, rfl⟩
 rw [← hW] at hK
 rw [fa_zero18, fa_zero8] at hW
 rw [← hW]
 clear hW
 have HK := Lib.hid hK
 clear hK
 go_quiet ((go_at_call 60; exact quiet_left (length_any _ 0 _ _ (dg _) _ Tw.om (fun i hi => by rw [Nat.zero_add]; first | exact blk_cell (HK.out.2 _ Tw.m0) hi | exact blk_cell (HK.out.2 _ Tw.m1) hi))))
 have hn0 := ln_le (dg b) 8
 have hm0 : ln (dg a) 18 ≤ 17 := by
   rcases Nat.lt_or_ge 17 (ln (dg a) 18) with h | h
   · exact absurd (dg_of_lt' ha (show 17 ≤ ln (dg a) 18 - 1 by omega)) (ln_ge Tw.om)
   · exact h
 have hn1 : 1 ≤ ln (dg b) 8 := by
   rcases Nat.eq_zero_or_pos (ln (dg b) 8) with h | h
   · have := ln_lt 8 hb
     rw [h, R_zero] at this
     omega
   · exact h
 have HK2 := Lib.hid (HK.out.drewN nq)
 clear HK
 generalize W.drewN nq = W1 at *
 by_cases h1 : ln (dg b) 8 = 1
 · obtain ⟨g1, g2⟩ := ln_one hb h1
   have c1 := blk_cell (HK2.out.2 _ Tw.m1) (i := 0) Tw.om
   rw [g1] at c1
   rw [h1]
   clear h1 g1 hn1 hn0
   have hix := index25_0 (w.heap.size + 1)
   have hr : a % b < 4294967296 := Nat.lt_trans (Nat.mod_lt a hb0) g2
   go_upto_region 4 with (first
     | (refine wpList_lda rfl rfl rfl (HK2.out.2 _ Tw.m0) Tryz.underlying76 rfl size65 ?_)
     | (go_at_call 86; refine (divideShort_any a b ha18 hb0 g2 _).mono ?_; rintro e w1 ⟨rfl, hb1⟩; have HK3 := Lib.hid (HK2.out.below hb1); clear hb1; unfold wid)
     | (refine wpList_sta (f := dg (a / b)) (f' := fun _ => 0) rfl rfl rfl rfl (heap1 w1 _) size65 ?_))
   obtain ⟨f1, f2⟩ := HK3.out.fresh
   have HK4 := Lib.hid (HK3.out.newvar (cs := fa 18 (fun _ => 0)) (cs' := fa 18 (dg (a / b))) (t := 76))
   rw [← fa_zero18]
   generalize (w1.alloc (.cells (fa 18 (fun _ => 0)) 76)).setRow w1.heap.size (fa 18 (dg (a / b))) = W2 at *
   simp only [List.forall_mem_cons] at f2
   obtain ⟨f3, f4, f5, f6, _⟩ := f2
   clear HK2 HK3 hix
   generalize w1.heap.size = g at *
   have HK5 : KS w _ (W2.setRow (w.heap.size + 1 + 1) (fa 18 (dg (a / b)))) := HK4.out.put (K' := [(w.heap.size + 1 + 1, .cells (fa 18 (dg (a / b))) 76 (0, 0)), (w.heap.size + 1 + 1 + 1, .cells (fa 8 (fun _ => 0)) 23 (0, 0))]) Tw.om Tw.m3
     (by intro p hp; simp only [List.mem_cons, List.not_mem_nil, or_false] at hp; rcases hp with rfl | rfl; exact .inl rfl; exact .inr ⟨by simp, by simp⟩)
   go_wp2_with (first
     | (refine wpList_lda rfl rfl rfl (HK4.out.2 _ Tw.m0) Tryz.underlying76 rfl size65 ?_)
     | (refine wpList_sta (f := dg (a / b)) (f' := fun _ => 0) rfl rfl rfl rfl (HK4.out.2 _ Tw.m3) size65 ?_)
     | (refine wpList_sta (f := dg (a % b)) (f' := fun _ => 0) rfl rfl rfl (by rw [fa_digit hr]; rfl) (HK5.2 _ Tw.m1) size25 ?_))
   refine bodyPost_ret (res_cell_cell rfl rfl (cs := fa 18 (dg (a / b))) (t := 76) ?_ Tryz.underlying76 rfl (by rw [size65, fa_size]) rfl (setRow_heap _ _ _ _ _ _ (HK5.2 _ Tw.m1)) Tryz.underlying23 rfl (by rw [size25, fa_size])) rfl ⟨rfl, below_setRow HK5.1 Tw.om _⟩
   rw [setRow_other _ _ _ _ Tw.om]; exact HK5.2 _ Tw.m0
 · have hn2 : 2 ≤ ln (dg b) 8 := by omega
   by_cases h2 : ln (dg a) 18 ≤ 2 ∧ ln (dg b) 8 = 2
   · obtain ⟨h3, h4⟩ := h2
     obtain ⟨g1, g2⟩ := ln_two ha18 h3
     obtain ⟨g3, g4⟩ := ln_two hb (Nat.le_of_eq h4)
     have hq : ((ln (dg a) 18 : Nat) : Int) ≤ 2 := by omega
     rw [h4]
     generalize ln (dg a) 18 = m at *
     clear h1 h3 h4 hn1 hn2 hn0
     have G1 := Lib.hid g1
     have G3 := Lib.hid g3
     clear g1 g3
     go_wp2_with fail
     have Q1 : Hid (∀ n, Calls Tryz.prog 59 #[.slice (some ⟨w.heap.size, 0, none⟩) 18 18] (W1.drewN n) fun e w'' => e = .returned (.int .u64 (a : Int)) ∧ ∃ m, w'' = W1.drewN m) :=
       fun n => quiet_two (toSmall_num _ 18 18 a a 76 G1.out Tw.om (W1.drewN n) (HK2.out.2 _ Tw.m0))
     have Q2 : Hid (∀ n, Calls Tryz.prog 59 #[.slice (some ⟨w.heap.size + 1, 0, none⟩) 8 8] (W1.drewN n) fun e w'' => e = .returned (.int .u64 (b : Int)) ∧ ∃ m, w'' = W1.drewN m) :=
       fun n => quiet_two (toSmall_num _ 8 8 b b 23 G3.out Tw.om (W1.drewN n) (HK2.out.2 _ Tw.m1))
     go_quiet ((go_at_call 59; first | (with_reducible exact Q1.out _) | (with_reducible exact Q2.out _)))
     clear Q1 Q2
     go_wp2_with fail
     clear hm0 ha hb ha18 hq
     refine wp_region_U [(w.heap.size, .cells (fa 18 (dg a)) 76 (0, 0)), (w.heap.size + 1, .cells (fa 8 (dg b)) 23 (0, 0)), (w.heap.size + 1 + 1, .cells (fa 18 (fun _ => 0)) 76 (0, 0)), (w.heap.size + 1 + 1 + 1, .cells (fa 8 (fun _ => 0)) 23 (0, 0))] Tw.kr (HK2.out.drewN _) ?_
     have hqa : a / b < 18446744073709551616 := Nat.lt_of_le_of_lt (Nat.div_le_self a b) g2
     have hra : a % b < 18446744073709551616 := Nat.lt_of_le_of_lt (Nat.mod_le a b) g2
     have hqR : a / b < R 8 := lt_R_of_le (j := 2) (by rw [R_succ, R_succ, R_zero]; omega) Tw.om
     refine wpU_vY (i := 0) (v := .int .u64 a) rfl rfl Tw.kr Tw.kr rfl (yb_pure fun _ => by kernel_rfl) (by simp only [List.setIfInBounds_toArray, List.set_cons_succ, List.set_cons_zero]; rfl) ?_
     refine wpU_vY (i := 1) (v := .int .u64 b) rfl rfl Tw.kr Tw.kr rfl (yb_pure fun _ => by kernel_rfl) (by simp only [List.setIfInBounds_toArray, List.set_cons_succ, List.set_cons_zero]; rfl) ?_
     refine wpU_vY (i := 2) (v := .int .u64 ((a / b : Nat) : Int)) rfl rfl Tw.kr Tw.kr rfl (yb_binY rfl (vx := .int .u64 a) (vy := .int .u64 b) Tw.kr Tw.kr fun w => run_quo64 w g4 hb0 g2) (by simp only [List.setIfInBounds_toArray, List.set_cons_succ, List.set_cons_zero]; rfl) ?_
     refine wpU_vY (i := 3) (v := num (a / b)) rfl rfl Tw.kr Tw.kr rfl (yb_call (f := 77) (args := #[.int .u64 ((a / b : Nat) : Int)]) Tw.kf fun W hW => fromSmall_any (a / b) hqa W) (by simp only [List.setIfInBounds_toArray, List.set_cons_succ, List.set_cons_zero]; rfl) ?_
     refine wpU_vY (i := 4) (v := wid (a / b)) rfl rfl Tw.kr Tw.kr rfl (yb_call (f := 57) (args := #[num (a / b)]) Tw.kf fun W hW => widen_any (a / b) hqR W) (by simp only [List.setIfInBounds_toArray, List.set_cons_succ, List.set_cons_zero]; rfl) ?_
     refine wpU_vY (i := 5) (v := .int .u64 a) rfl rfl Tw.kr Tw.kr rfl (yb_pure fun _ => by kernel_rfl) (by simp only [List.setIfInBounds_toArray, List.set_cons_succ, List.set_cons_zero]; rfl) ?_
     refine wpU_vY (i := 6) (v := .int .u64 b) rfl rfl Tw.kr Tw.kr rfl (yb_pure fun _ => by kernel_rfl) (by simp only [List.setIfInBounds_toArray, List.set_cons_succ, List.set_cons_zero]; rfl) ?_
     refine wpU_vY (i := 7) (v := .int .u64 ((a % b : Nat) : Int)) rfl rfl Tw.kr Tw.kr rfl (yb_binY rfl (vx := .int .u64 a) (vy := .int .u64 b) Tw.kr Tw.kr fun w => run_rem64 w g4 hb0 g2) (by simp only [List.setIfInBounds_toArray, List.set_cons_succ, List.set_cons_zero]; rfl) ?_
     refine wpU_vY (i := 8) (v := num (a % b)) rfl rfl Tw.kr Tw.kr rfl (yb_call (f := 77) (args := #[.int .u64 ((a % b : Nat) : Int)]) Tw.kf fun W hW => fromSmall_any (a % b) hra W) (by simp only [List.setIfInBounds_toArray, List.set_cons_succ, List.set_cons_zero]; rfl) ?_
     refine wpU_1 (i := 9) Tw.kr (stepU_store (K' := [(w.heap.size + 1 + 1, .cells (fa 18 (dg (a / b))) 76 (0, 0)), (w.heap.size + 1 + 1 + 1, .cells (fa 8 (fun _ => 0)) 23 (0, 0))]) rfl rfl rfl
       (st_a rfl rfl rfl Tw.m2 Tw.om size65 (by intro p hp; simp only [List.mem_cons, List.not_mem_nil, or_false] at hp; rcases hp with rfl | rfl; exact .inl rfl; exact .inr ⟨by simp, by simp⟩)) ?_)
     refine wpU_1 (i := 10) Tw.kr (stepU_store (K' := [(w.heap.size + 1 + 1, .cells (fa 18 (dg (a / b))) 76 (0, 0)), (w.heap.size + 1 + 1 + 1, .cells (fa 8 (dg (a % b))) 23 (0, 0))]) rfl rfl rfl
       (st_a rfl rfl rfl Tw.m1 Tw.om size25 (by intro p hp; simp only [List.mem_cons, List.not_mem_nil, or_false] at hp; rcases hp with rfl | rfl; exact .inr ⟨by simp, by simp⟩; exact .inl rfl)) ?_)
     refine wpU_done Tw.kr (fun W4 hW4 => ?_) _
     go_wp2_with fail
     exact bodyPost_ret (res_cell_cell rfl rfl (hW4.2 _ Tw.m0) Tryz.underlying76 rfl (by rw [size65, fa_size]) rfl (hW4.2 _ Tw.m1) Tryz.underlying23 rfl (by rw [size25, fa_size])) rfl ⟨rfl, hW4.1⟩
   · have hb2 : ¬ (ln (dg a) 18 ≤ 2 ∧ ln (dg b) 8 = 2) := h2
     obtain ⟨n, hn⟩ : ∃ n, ln (dg b) 8 = n + 1 := ⟨ln (dg b) 8 - 1, by omega⟩
     have hbR : b < R (n + 1) := by rw [← hn]; exact ln_lt 8 hb
     have haR : a < R (ln (dg a) 18) := ln_lt 18 ha18
     have hbn : dg b n ≠ 0 := by
       have := ln_ge (x := b) (n := 8) Tw.om
       rwa [hn, Nat.add_sub_cancel] at this
     rw [hn] at h1 hn0 hn2 h2
     rw [hn]
     generalize ln (dg a) 18 = m at *
     have hdl := divideLong_any a b m n haR hm0 hbR Tw.om Tw.om hbn
     have HDL := Lib.hid hdl
     clear hdl hn hn1 hb2 haR hbR hbn
     have hq : ((m : Int) ≤ 2 ∧ n ≠ 1) ∨ ¬ ((m : Int) ≤ 2) := by omega
     rcases hq with ⟨hq1, hq2⟩ | hq1
     all_goals
       go_wp2_with (first
         | (refine wpList_lda rfl rfl rfl (HK2.out.2 _ Tw.m0) Tryz.underlying76 rfl size65 ?_)
         | (refine wpList_lda rfl rfl rfl (HK2.out.2 _ Tw.m1) Tryz.underlying23 rfl size25 ?_))
       refine (HDL.out W1).mono ?_
       rintro e w1 ⟨rfl, hb1⟩
       have HK3 := Lib.hid (HK2.out.below hb1)
       have HK4 : KS w _ (w1.setRow (w.heap.size + 1 + 1) (fa 18 (dg (a / b)))) := HK3.out.put (K' := [(w.heap.size + 1 + 1, .cells (fa 18 (dg (a / b))) 76 (0, 0)), (w.heap.size + 1 + 1 + 1, .cells (fa 8 (fun _ => 0)) 23 (0, 0))]) Tw.om Tw.m2
         (by intro p hp; simp only [List.mem_cons, List.not_mem_nil, or_false] at hp; rcases hp with rfl | rfl; exact .inl rfl; exact .inr ⟨by simp, by simp⟩)
       clear hb1 HK2
       unfold wid num
       go_wp2_with (first
         | (refine wpList_sta (f := dg (a / b)) (f' := fun _ => 0) rfl rfl rfl rfl (HK3.out.2 _ Tw.m2) size65 ?_)
         | (refine wpList_sta (f := dg (a % b)) (f' := fun _ => 0) rfl rfl rfl rfl (HK4.2 _ Tw.m1) size25 ?_))
       refine bodyPost_ret (res_cell_cell rfl rfl (cs := fa 18 (dg (a / b))) (t := 76) ?_ Tryz.underlying76 rfl (by rw [size65, fa_size]) rfl (setRow_heap _ _ _ _ _ _ (HK4.2 _ Tw.m1)) Tryz.underlying23 rfl (by rw [size25, fa_size])) rfl ⟨rfl, below_setRow HK4.1 Tw.om _⟩
       rw [setRow_other _ _ _ _ Tw.om]; exact HK4.2 _ Tw.m0
end Go.Proofs.YtalmflgkbmnghaaGreatDoor
namespace Go.Proofs.YtalmflgkbmnghaaGreatDoor
open Go.RowKit Tf
variable [ShLZ]
set_option maxRecDepth 100000 in
set_option maxHeartbeats 1000000 in
theorem quotient_any (a b : Nat) (ha : a < R 8) (hb : b < R 8) (hb0 : 0 < b) (w : World) :
   Calls Tryz.prog 79 #[num a, num b] w fun e w' => e = .returned (num (a / b)) ∧ Below w.heap.size w w' := by
 unfold num
 have hq : a / b < R 8 := Nat.lt_of_le_of_lt (Nat.div_le_self a b) ha
 have ha17 : a < R 17 := lt_R_of_le ha Tw.om
 go_enter Tryz.func79, Tryz.ntmps79
 go_upto_region 1 with (fail)
 have hK := KS.three w (.cells (fa 8 (dg a)) 23) (.cells (fa 8 (dg b)) 23) (.cells (fa 8 (fun _ => 0)) 23)
 obtain ⟨W, hW⟩ : ∃ W, W = ((w.alloc (.cells (fa 8 (dg a)) 23)).alloc (.cells (fa 8 (dg b)) 23)).alloc (.cells (fa 8 (fun _ => 0)) 23) := ⟨_, rfl⟩
 rw [← hW] at hK
 rw [fa_zero8] at hW
 rw [← hW]
 clear hW
 have HK := Lib.hid hK
 clear hK
 by_cases hb1 : b = 1
 · subst hb1
   go_wp2_with (first
     | (refine wpList_lda rfl rfl rfl (HK.out.2 _ Tw.m1) Tryz.underlying23 rfl size25 ?_)
     | (refine wpList_lda rfl rfl rfl (HK.out.2 _ Tw.m0) Tryz.underlying23 rfl size25 ?_)
     | (refine wpList_sta (f := dg a) (f' := fun _ => 0) rfl rfl rfl rfl (HK.out.2 _ Tw.m2) size25 ?_))
   exact bodyPost_ret (res_cell rfl rfl (setRow_heap _ _ _ _ _ _ (HK.out.2 _ Tw.m2)) Tryz.underlying23 rfl (by rw [size25, fa_size])) rfl ⟨by rw [Nat.div_one], below_setRow HK.out.1 Tw.om _⟩
 · go_wp2_with (first
     | (refine wpList_lda rfl rfl rfl (HK.out.2 _ Tw.m1) Tryz.underlying23 rfl size25 ?_))
   refine wp_region_U [(w.heap.size, .cells (fa 8 (dg a)) 23 (0, 0)), (w.heap.size + 1, .cells (fa 8 (dg b)) 23 (0, 0)), (w.heap.size + 1 + 1, .cells (fa 8 (fun _ => 0)) 23 (0, 0))] Tw.kr (HK.out) ?_
   refine wpU_vY (i := 0) (v := num a) rfl rfl Tw.kr Tw.kr rfl (yb_lda rfl Tw.kr Tw.m0 Tryz.underlying23 rfl size25) Tw.pu ?_
   refine wpU_vY (i := 1) (v := wid a) rfl rfl Tw.kr Tw.kr rfl (yb_call (f := 57) (args := #[num a]) Tw.kf fun W hW => widen_any a ha W) Tw.pu ?_
   refine wpU_vY (i := 2) (v := num b) rfl rfl Tw.kr Tw.kr rfl (yb_lda rfl Tw.kr Tw.m1 Tryz.underlying23 rfl size25) Tw.pu ?_
   refine wpU_vY (i := 3) (v := .tuple #[wid (a / b), num (a % b)]) rfl rfl Tw.kr Tw.kr rfl (yb_call (f := 56) (args := #[wid a, num b]) Tw.kf fun W hW => divide_any a b ha17 hb hb0 W) Tw.pu ?_
   refine wpU_pY (i := 4) (v := .tuple #[wid (a / b), num (a % b)]) rfl rfl Tw.kr Tw.kr rfl Tw.kf Tw.pu ?_
   refine wpU_pY (i := 5) (v := wid (a / b)) rfl rfl Tw.kr Tw.kr rfl Tw.kf Tw.pu ?_
   refine wpU_pY (i := 6) (v := num (a % b)) rfl rfl Tw.kr Tw.kr rfl Tw.kf Tw.pu ?_
   refine wpU_twoY (i := 7) (j := 8) (obi := .cells (fa 18 (fun _ => 0)) 76 (0, 0)) (obj := .cells (fa 8 (fun _ => 0)) 23 (0, 0)) rfl rfl rfl rfl rfl rfl Tw.kr Tw.kr Tw.kr Tw.kr (fun _ _ => rfl) (fun _ _ => rfl) (fun _ _ => by simp only [List.setIfInBounds_toArray, List.set_cons_succ, List.set_cons_zero] <;> rfl) (fun _ _ => by simp only [List.setIfInBounds_toArray, List.set_cons_succ, List.set_cons_zero] <;> rfl) fun g h Bg Bh Dgh Fg Fh => ?_
   simp only [List.forall_mem_cons] at Fg Fh
   refine wpU_sY [(g, .cells (fa 18 (dg (a / b))) 76 (0, 0)), (h, .cells (fa 8 (fun _ => 0)) 23 (0, 0)), (w.heap.size, .cells (fa 8 (dg a)) 23 (0, 0)), (w.heap.size + 1, .cells (fa 8 (dg b)) 23 (0, 0)), (w.heap.size + 1 + 1, .cells (fa 8 (fun _ => 0)) 23 (0, 0))] (i := 9) rfl Tw.kr rfl rfl rfl
     (st_a rfl rfl rfl Tw.m0 Tw.om size65 (by intro p hp; simp only [List.mem_cons, List.not_mem_nil, or_false] at hp; rcases hp with rfl | rfl | rfl | rfl | rfl; exact .inl rfl; exact .inr ⟨by simp, by simp only; omega⟩; exact .inr ⟨by simp, by simp only; omega⟩; exact .inr ⟨by simp, by simp only; omega⟩; exact .inr ⟨by simp, by simp only; omega⟩)) ?_
   refine wpU_sY [(g, .cells (fa 18 (dg (a / b))) 76 (0, 0)), (h, .cells (fa 8 (dg (a % b))) 23 (0, 0)), (w.heap.size, .cells (fa 8 (dg a)) 23 (0, 0)), (w.heap.size + 1, .cells (fa 8 (dg b)) 23 (0, 0)), (w.heap.size + 1 + 1, .cells (fa 8 (fun _ => 0)) 23 (0, 0))] (i := 10) rfl Tw.kr rfl rfl rfl
     (st_a rfl rfl rfl Tw.m1 Tw.om size25 (by intro p hp; simp only [List.mem_cons, List.not_mem_nil, or_false] at hp; rcases hp with rfl | rfl | rfl | rfl | rfl; exact .inr ⟨by simp, by simp only; omega⟩; exact .inl rfl; exact .inr ⟨by simp, by simp only; omega⟩; exact .inr ⟨by simp, by simp only; omega⟩; exact .inr ⟨by simp, by simp only; omega⟩)) ?_
   refine wpU_done Tw.kr (fun W4 hW4 => ?_) _
   clear HK
   have HW4 := Lib.hid hW4
   clear hW4
   go_upto_region 5 with (first
     | (refine wpList_lda rfl rfl rfl (HW4.out.2 _ Tw.m0) Tryz.underlying76 rfl size65 ?_)
     | (go_at_call 97; refine (narrow_yes (a / b) hq _).mono ?_; rintro e w2 ⟨rfl, hb2⟩; have HK3 := Lib.hid (HW4.out.below hb2); clear hb2; unfold num)
     | (refine wpList_sta (f := dg (a / b)) (f' := fun _ => 0) rfl rfl rfl rfl (heap1 w2 _) size25 ?_))
   obtain ⟨f1, f2⟩ := HK3.out.fresh
   have HK4 := Lib.hid (HK3.out.newvar (cs := fa 8 (fun _ => 0)) (cs' := fa 8 (dg (a / b))) (t := 23))
   rw [← fa_zero8]
   generalize (w2.alloc (.cells (fa 8 (fun _ => 0)) 23)).setRow w2.heap.size (fa 8 (dg (a / b))) = W2 at *
   clear HK3
   go_wp2_with (first
     | (refine wpList_lda rfl rfl rfl (HK4.out.2 _ Tw.m0) Tryz.underlying23 rfl size25 ?_)
     | (refine wpList_sta (f := dg (a / b)) (f' := fun _ => 0) rfl rfl rfl rfl (HK4.out.2 _ Tw.m5) size25 ?_))
   exact bodyPost_ret (res_cell rfl rfl (setRow_heap _ _ _ _ _ _ (HK4.out.2 _ Tw.m5)) Tryz.underlying23 rfl (by rw [size25, fa_size])) rfl ⟨rfl, below_setRow HK4.out.1 Tw.om _⟩
end Go.Proofs.YtalmflgkbmnghaaGreatDoor
namespace Go.Proofs.YtalmflgkbmnghaaGreatDoor
open Go.RowKit Tf

set_option maxHeartbeats 400000 in
theorem gcdSmall_any (a b : Nat) (ha : a < 18446744073709551616) (hb : b < 18446744073709551616) (w : World) :
   Calls Tryz.prog 76 #[.int .u64 a, .int .u64 b] w fun e w' => e = .returned (.int .u64 (Nat.gcd a b)) ∧ Below w.heap.size w w' := by
 go_enter Tryz.func76, Tryz.ntmps76
 go_wp2
 go_loopw [0, 1] (fun x y wr => ∃ p q : Nat, p < 18446744073709551616 ∧ q < 18446744073709551616 ∧ Hid (Nat.gcd a b = Nat.gcd p q) ∧ x = .int .u64 p ∧ y = .int .u64 q ∧ Below w.heap.size w wr)
   (fun _ y _ => (intOf y).toNat)
 case atStart => exact ⟨a, b, ha, hb, rfl, rfl, rfl, Below.refl _ _⟩
 case round =>
   obtain ⟨p, q, hp, hq, he, rfl, rfl, hB⟩ := hrel
   rcases Nat.eq_zero_or_pos q with rfl | hpos
   · go_wp2
     go_ret
     exact ⟨ret_int (by rw [he.out, Nat.gcd_zero_right]), hB⟩
   · have hne : ((q : Int) != 0) = true := by simp; omega
     go_wp2
     go_quiet (fail)
     go_wp2
     go_roundw
     case rel => exact ⟨q, p % q, hq, Nat.lt_trans (Nat.mod_lt p hpos) hq, by unfold Hid; rw [he.out, Nat.gcd_comm p q, Nat.gcd_rec q p, Nat.gcd_comm], rfl, by first | rfl | exact congrArg (Value.int .u64) Tw.om, belowN hB _⟩
     case measure =>
       have h := Nat.mod_lt p hpos
       have e : ((p : Int) % (q : Int)) = ((p % q : Nat) : Int) := rfl
       rw [e]
       simp only [intOf]
       omega
end Go.Proofs.YtalmflgkbmnghaaGreatDoor
namespace Go.Proofs.YtalmflgkbmnghaaGreatDoor
open Go.RowKit Tf
variable [ShLZ]
def valAt (wr : World) (g : Nat) : Nat := match wr.heap[g]? with
 | some (.cells cs _ _) => va (fun i => (intOf (cs.getD i undef)).toNat) 8
 | _ => 0
theorem va_congr' {f g : Nat → Nat} : ∀ n, (∀ i, i < n → f i = g i) → va f n = va g n
 | 0, _ => by unfold va; rfl
 | n + 1, h => by unfold va; rw [va_congr' n (fun i hi => h i Tw.om), h n Tw.om]
theorem valAt_eq {wr : World} {g b : Nat} {t : TypeId} (hb : b < R 8) (h : wr.heap[g]? = some (.cells (fa 8 (dg b)) t (0, 0))) : valAt wr g = b := by
 unfold valAt
 rw [h]
 simp only
 rw [va_congr' (g := dg b) 8 (fun i hi => by
   rw [Array.getD_eq_getD_getElem?, fa_get _ hi]
   simp [intOf]), va_dg, Nat.mod_eq_of_lt hb]
theorem quiet_below {P : Program} {f : FuncId} {args : Array Value} {w : World} {v : Value} (h : Calls P f args w fun e w' => e = .returned v ∧ ∃ m, w' = w.drewN m) :
   Calls P f args w fun e w' => e = .returned v ∧ Below w.heap.size w w' :=
 h.mono fun _ _ ⟨he, m, hm⟩ => ⟨he, by rw [hm]; exact belowN (Below.refl _ _) _⟩

set_option maxRecDepth 100000 in
set_option maxHeartbeats 1000000 in
theorem gcd_any (a b : Nat) (ha : a < R 8) (hb : b < R 8) (w : World) :
   Calls Tryz.prog 49 #[num a, num b] w fun e w' => e = .returned (num (Nat.gcd a b)) ∧ Below w.heap.size w w' := by
 unfold num
 go_enter Tryz.func49, Tryz.ntmps49
 go_wp2_with fail
 have hK := KS.three w (.cells (fa 8 (dg a)) 23) (.cells (fa 8 (dg b)) 23) (.cells (fa 8 (fun _ => 0)) 23)
 obtain ⟨W, hW⟩ : ∃ W, W = ((w.alloc (.cells (fa 8 (dg a)) 23)).alloc (.cells (fa 8 (dg b)) 23)).alloc (.cells (fa 8 (fun _ => 0)) 23) := ⟨_, rfl⟩
 rw [← hW] at hK
 rw [fa_zero8] at hW
 rw [← hW]
 clear hW
 have HK := Lib.hid hK
 clear hK
 go_loopw [] (fun wr => ∃ p q : Nat, p < R 8 ∧ q < R 8 ∧ Hid (Nat.gcd a b = Nat.gcd p q) ∧ Hid (KS w [(w.heap.size, .cells (fa 8 (dg p)) 23 (0, 0)), (w.heap.size + 1, .cells (fa 8 (dg q)) 23 (0, 0)), (w.heap.size + 1 + 1, .cells (fa 8 (fun _ => 0)) 23 (0, 0))] wr))
   (fun wr => valAt wr (w.heap.size + 1))
 case atStart => exact ⟨a, b, ha, hb, rfl, HK⟩
 case round =>
   clear HK
   obtain ⟨p, q, hp, hq, he, HK⟩ := hrel
   clear ha hb
   rcases Nat.eq_zero_or_pos q with rfl | hpos
   · go_wp2_with (first
       | (refine wpList_lda rfl rfl rfl (HK.out.2 _ Tw.m1) Tryz.underlying23 rfl size25 ?_)
       | (refine wpList_lda rfl rfl rfl (HK.out.2 _ Tw.m0) Tryz.underlying23 rfl size25 ?_)
       | (refine wpList_sta (f := dg p) (f' := fun _ => 0) rfl rfl rfl rfl (HK.out.2 _ Tw.m2) size25 ?_))
     refine bodyPost_ret (res_cell rfl rfl (setRow_heap _ _ _ _ _ _ (HK.out.2 _ Tw.m2)) Tryz.underlying23 rfl (by rw [size25, fa_size])) rfl ⟨?_, below_setRow HK.out.1 Tw.om _⟩
     rw [he.out, Nat.gcd_zero_right]
   · have hne : ¬ q = 0 := by omega
     have g5 := ln_two (b := p) (n := 8)
     have g6 := ln_two (b := q) (n := 8)
     have hln : (((ln (dg p) 8 : Nat) : Int) ≤ 2 ∧ ((ln (dg q) 8 : Nat) : Int) ≤ 2) ∨ (¬ (((ln (dg p) 8 : Nat) : Int) ≤ 2) ∨ (((ln (dg p) 8 : Nat) : Int) ≤ 2 ∧ ¬ (((ln (dg q) 8 : Nat) : Int) ≤ 2))) := by omega
     rcases hln with ⟨h1, h2⟩ | hln
     · obtain ⟨g1, g2⟩ := g5 hp Tw.om
       obtain ⟨g3, g4⟩ := g6 hq Tw.om
       have G1 := Lib.hid g1
       have G3 := Lib.hid g3
       clear g1 g3 g5 g6
       go_wp2_with (first
         | (refine wpList_lda rfl rfl rfl (HK.out.2 _ Tw.m1) Tryz.underlying23 rfl size25 ?_)
         | (go_at_call 60; refine (length_any _ 0 8 8 (dg p) _ Tw.om (fun i hi => by rw [Nat.zero_add]; exact blk_cell (HK.out.2 _ Tw.m0) hi)).mono ?_; rintro e w1 ⟨rfl, rfl⟩)
         | (go_at_call 60; refine (length_any _ 0 8 8 (dg q) _ Tw.om (fun i hi => by rw [Nat.zero_add]; exact blk_cell (HK.out.2 _ Tw.m1) hi)).mono ?_; rintro e w1 ⟨rfl, rfl⟩))
       have hg64 : Nat.gcd p q < 18446744073709551616 := Nat.lt_of_le_of_lt (Nat.gcd_le_right p hpos) g4
       have g1 := G1.out
       have g3 := G3.out
       refine wp_region_U [(w.heap.size, .cells (fa 8 (dg p)) 23 (0, 0)), (w.heap.size + 1, .cells (fa 8 (dg q)) 23 (0, 0)), (w.heap.size + 1 + 1, .cells (fa 8 (fun _ => 0)) 23 (0, 0))] Tw.kr (HK.out) ?_
       refine wpU_pY (i := 0) (v := .slice (some ⟨w.heap.size, 0, none⟩) 8 8) rfl rfl Tw.kr Tw.kr rfl Tw.kf Tw.pu ?_
       refine wpU_vY (i := 1) (v := .int .u64 (p : Int)) rfl rfl Tw.kr Tw.kr rfl (yb_call (f := 59) (args := #[.slice (some ⟨w.heap.size, 0, none⟩) 8 8]) Tw.kf fun W hW => quiet_below (toSmall_num _ 8 8 p p 23 g1 Tw.om W (hW.2 _ Tw.m0))) Tw.pu ?_
       refine wpU_pY (i := 2) (v := .slice (some ⟨w.heap.size + 1, 0, none⟩) 8 8) rfl rfl Tw.kr Tw.kr rfl Tw.kf Tw.pu ?_
       refine wpU_vY (i := 3) (v := .int .u64 (q : Int)) rfl rfl Tw.kr Tw.kr rfl (yb_call (f := 59) (args := #[.slice (some ⟨w.heap.size + 1, 0, none⟩) 8 8]) Tw.kf fun W hW => quiet_below (toSmall_num _ 8 8 q q 23 g3 Tw.om W (hW.2 _ Tw.m1))) Tw.pu ?_
       refine wpU_vY (i := 4) (v := .int .u64 (Nat.gcd p q : Int)) rfl rfl Tw.kr Tw.kr rfl (yb_call (f := 76) (args := #[.int .u64 (p : Int), .int .u64 (q : Int)]) Tw.kf fun W hW => gcdSmall_any p q g2 g4 W) Tw.pu ?_
       refine wpU_vY (i := 5) (v := num (Nat.gcd p q)) rfl rfl Tw.kr Tw.kr rfl (yb_call (f := 77) (args := #[.int .u64 (Nat.gcd p q : Int)]) Tw.kf fun W hW => fromSmall_any (Nat.gcd p q) hg64 W) Tw.pu ?_
       refine wpU_sY [(w.heap.size, .cells (fa 8 (dg p)) 23 (0, 0)), (w.heap.size + 1, .cells (fa 8 (dg q)) 23 (0, 0)), (w.heap.size + 1 + 1, .cells (fa 8 (dg (Nat.gcd p q))) 23 (0, 0))] (i := 6) rfl Tw.kr rfl rfl rfl
         (st_a rfl rfl rfl Tw.m2 Tw.om size25 (by intro p hp; simp only [List.mem_cons, List.not_mem_nil, or_false] at hp; rcases hp with rfl | rfl | rfl; exact .inr ⟨by simp, by simp only; omega⟩; exact .inr ⟨by simp, by simp only; omega⟩; exact .inl rfl)) ?_
       refine wpU_done Tw.kr (fun W4 hW4 => ?_) _
       go_wp2_with fail
       exact bodyPost_ret (res_cell rfl rfl (hW4.2 _ Tw.m2) Tryz.underlying23 rfl (by rw [size25, fa_size])) rfl ⟨by rw [he.out], hW4.1⟩
     · clear g5 g6
       rcases hln with h1 | ⟨h1, h2⟩
       all_goals
         go_wp2_with (first
           | (refine wpList_lda rfl rfl rfl (HK.out.2 _ Tw.m1) Tryz.underlying23 rfl size25 ?_)
           | (go_at_call 60; refine (length_any _ 0 8 8 (dg p) _ Tw.om (fun i hi => by rw [Nat.zero_add]; exact blk_cell (HK.out.2 _ Tw.m0) hi)).mono ?_; rintro e w1 ⟨rfl, rfl⟩)
           | (go_at_call 60; refine (length_any _ 0 8 8 (dg q) _ Tw.om (fun i hi => by rw [Nat.zero_add]; exact blk_cell (HK.out.2 _ Tw.m1) hi)).mono ?_; rintro e w1 ⟨rfl, rfl⟩))
         have hp17 : p < R 17 := lt_R_of_le hp Tw.om
         refine wp_region_U [(w.heap.size, .cells (fa 8 (dg p)) 23 (0, 0)), (w.heap.size + 1, .cells (fa 8 (dg q)) 23 (0, 0)), (w.heap.size + 1 + 1, .cells (fa 8 (fun _ => 0)) 23 (0, 0))] Tw.kr (HK.out) ?_
         refine wpU_vY (i := 0) (v := num p) rfl rfl Tw.kr Tw.kr rfl (yb_lda rfl Tw.kr Tw.m0 Tryz.underlying23 rfl size25) Tw.pu ?_
         refine wpU_vY (i := 1) (v := wid p) rfl rfl Tw.kr Tw.kr rfl (yb_call (f := 57) (args := #[num p]) Tw.kf fun W hW => widen_any p hp W) Tw.pu ?_
         refine wpU_vY (i := 2) (v := num q) rfl rfl Tw.kr Tw.kr rfl (yb_lda rfl Tw.kr Tw.m1 Tryz.underlying23 rfl size25) Tw.pu ?_
         refine wpU_vY (i := 3) (v := .tuple #[wid (p / q), num (p % q)]) rfl rfl Tw.kr Tw.kr rfl (yb_call (f := 56) (args := #[wid p, num q]) Tw.kf fun W hW => divide_any p q hp17 hq hpos W) Tw.pu ?_
         refine wpU_pY (i := 4) (v := .tuple #[wid (p / q), num (p % q)]) rfl rfl Tw.kr Tw.kr rfl Tw.kf Tw.pu ?_
         refine wpU_pY (i := 5) (v := wid (p / q)) rfl rfl Tw.kr Tw.kr rfl Tw.kf Tw.pu ?_
         refine wpU_pY (i := 6) (v := num (p % q)) rfl rfl Tw.kr Tw.kr rfl Tw.kf Tw.pu ?_
         refine wpU_twoY (i := 7) (j := 8) (obi := .cells (fa 18 (fun _ => 0)) 76 (0, 0)) (obj := .cells (fa 8 (fun _ => 0)) 23 (0, 0)) rfl rfl rfl rfl rfl rfl Tw.kr Tw.kr Tw.kr Tw.kr (fun _ _ => rfl) (fun _ _ => rfl) (fun _ _ => by simp only [List.setIfInBounds_toArray, List.set_cons_succ, List.set_cons_zero] <;> rfl) (fun _ _ => by simp only [List.setIfInBounds_toArray, List.set_cons_succ, List.set_cons_zero] <;> rfl) fun g h Bg Bh Dgh Fg Fh => ?_
         simp only [List.forall_mem_cons] at Fg Fh
         refine wpU_sY [(g, .cells (fa 18 (dg (p / q))) 76 (0, 0)), (h, .cells (fa 8 (fun _ => 0)) 23 (0, 0)), (w.heap.size, .cells (fa 8 (dg p)) 23 (0, 0)), (w.heap.size + 1, .cells (fa 8 (dg q)) 23 (0, 0)), (w.heap.size + 1 + 1, .cells (fa 8 (fun _ => 0)) 23 (0, 0))] (i := 9) rfl Tw.kr rfl rfl rfl
           (st_a rfl rfl rfl Tw.m0 Tw.om size65 (by intro p hp; simp only [List.mem_cons, List.not_mem_nil, or_false] at hp; rcases hp with rfl | rfl | rfl | rfl | rfl; exact .inl rfl; exact .inr ⟨by simp, by simp only; omega⟩; exact .inr ⟨by simp, by simp only; omega⟩; exact .inr ⟨by simp, by simp only; omega⟩; exact .inr ⟨by simp, by simp only; omega⟩)) ?_
         refine wpU_sY [(g, .cells (fa 18 (dg (p / q))) 76 (0, 0)), (h, .cells (fa 8 (dg (p % q))) 23 (0, 0)), (w.heap.size, .cells (fa 8 (dg p)) 23 (0, 0)), (w.heap.size + 1, .cells (fa 8 (dg q)) 23 (0, 0)), (w.heap.size + 1 + 1, .cells (fa 8 (fun _ => 0)) 23 (0, 0))] (i := 10) rfl Tw.kr rfl rfl rfl
           (st_a rfl rfl rfl Tw.m1 Tw.om size25 (by intro p hp; simp only [List.mem_cons, List.not_mem_nil, or_false] at hp; rcases hp with rfl | rfl | rfl | rfl | rfl; exact .inr ⟨by simp, by simp only; omega⟩; exact .inl rfl; exact .inr ⟨by simp, by simp only; omega⟩; exact .inr ⟨by simp, by simp only; omega⟩; exact .inr ⟨by simp, by simp only; omega⟩)) ?_
         refine wpU_done Tw.kr (fun W4 hW4 => ?_) _
         obtain ⟨Bg', Fg', Fh'⟩ : w.heap.size ≤ g ∧ (w.heap.size + 1 ≠ g ∧ w.heap.size + 1 + 1 ≠ g) ∧ (w.heap.size ≠ h ∧ w.heap.size + 1 ≠ h ∧ w.heap.size + 1 + 1 ≠ h) := ⟨Bg, ⟨Fg.2.1, Fg.2.2.1⟩, ⟨Fh.1, Fh.2.1, Fh.2.2.1⟩⟩
         go_wp2_with fail
         have FIN : ∀ X, KS w [(g, .cells (fa 18 (dg (p / q))) 76 (0, 0)), (h, .cells (fa 8 (dg (p % q))) 23 (0, 0)), (w.heap.size, .cells (fa 8 (dg q)) 23 (0, 0)), (w.heap.size + 1, .cells (fa 8 (dg (p % q))) 23 (0, 0)), (w.heap.size + 1 + 1, .cells (fa 8 (fun _ => 0)) 23 (0, 0))] X → Hid (KS w [(w.heap.size, .cells (fa 8 (dg q)) 23 (0, 0)), (w.heap.size + 1, .cells (fa 8 (dg (p % q))) 23 (0, 0)), (w.heap.size + 1 + 1, .cells (fa 8 (fun _ => 0)) 23 (0, 0))] X) := fun X hX => hX.sub (by
           intro x hx; exact .tail _ (.tail _ hx))
         refine wp_region_U [(g, .cells (fa 18 (dg (p / q))) 76 (0, 0)), (h, .cells (fa 8 (dg (p % q))) 23 (0, 0)), (w.heap.size, .cells (fa 8 (dg p)) 23 (0, 0)), (w.heap.size + 1, .cells (fa 8 (dg q)) 23 (0, 0)), (w.heap.size + 1 + 1, .cells (fa 8 (fun _ => 0)) 23 (0, 0))] Tw.kr (hW4) ?_
         refine wpU_vY (i := 0) (v := num q) rfl rfl Tw.kr Tw.kr rfl (yb_lda rfl Tw.kr Tw.m3 Tryz.underlying23 rfl size25) Tw.pu ?_
         refine wpU_2 (i := 1) (j := 2) Tw.kr ?_ ?_
         · refine stepU_vY (i := 1) (v := num (p % q)) rfl rfl Tw.kr rfl (yb_lda rfl Tw.kr Tw.m1 Tryz.underlying23 rfl size25) Tw.pu ?_
           refine wpU_sY [(g, .cells (fa 18 (dg (p / q))) 76 (0, 0)), (h, .cells (fa 8 (dg (p % q))) 23 (0, 0)), (w.heap.size, .cells (fa 8 (dg q)) 23 (0, 0)), (w.heap.size + 1, .cells (fa 8 (dg q)) 23 (0, 0)), (w.heap.size + 1 + 1, .cells (fa 8 (fun _ => 0)) 23 (0, 0))] (i := 2) rfl Tw.kr rfl rfl rfl
             (st_a rfl rfl rfl Tw.m2 Tw.om size25 (by intro p hp; simp only [List.mem_cons, List.not_mem_nil, or_false] at hp; rcases hp with rfl | rfl | rfl | rfl | rfl; exact .inr ⟨by simp, by simp only; omega⟩; exact .inr ⟨by simp, by simp only; omega⟩; exact .inl rfl; exact .inr ⟨by simp, by simp only; omega⟩; exact .inr ⟨by simp, by simp only; omega⟩)) ?_
           refine wpU_sY [(g, .cells (fa 18 (dg (p / q))) 76 (0, 0)), (h, .cells (fa 8 (dg (p % q))) 23 (0, 0)), (w.heap.size, .cells (fa 8 (dg q)) 23 (0, 0)), (w.heap.size + 1, .cells (fa 8 (dg (p % q))) 23 (0, 0)), (w.heap.size + 1 + 1, .cells (fa 8 (fun _ => 0)) 23 (0, 0))] (i := 3) rfl Tw.kr rfl rfl rfl
             (st_a rfl rfl rfl Tw.m3 Tw.om size25 (by intro p hp; simp only [List.mem_cons, List.not_mem_nil, or_false] at hp; rcases hp with rfl | rfl | rfl | rfl | rfl; exact .inr ⟨by simp, by simp only; omega⟩; exact .inr ⟨by simp, by simp only; omega⟩; exact .inr ⟨by simp, by simp only; omega⟩; exact .inl rfl; exact .inr ⟨by simp, by simp only; omega⟩)) ?_
           refine wpU_done Tw.kr (fun W4 hW4 => ?_) _
           have F := FIN _ hW4
           clear FIN hW4
           go_roundw
           case rel => (repeat apply Exists.intro); exact ⟨⟨q, p % q, hq, Nat.lt_trans (Nat.mod_lt p hpos) hq, by unfold Hid; rw [he.out, Nat.gcd_comm p q, Nat.gcd_rec q p, Nat.gcd_comm], F⟩, rfl⟩
           case measure =>
             rw [valAt_eq (Nat.lt_trans (Nat.mod_lt p hpos) hq) (F.out.2 _ Tw.m1), valAt_eq hq (HK.out.2 _ Tw.m1)]
             exact Nat.mod_lt p hpos
         · refine stepU_sY [(g, .cells (fa 18 (dg (p / q))) 76 (0, 0)), (h, .cells (fa 8 (dg (p % q))) 23 (0, 0)), (w.heap.size, .cells (fa 8 (dg q)) 23 (0, 0)), (w.heap.size + 1, .cells (fa 8 (dg q)) 23 (0, 0)), (w.heap.size + 1 + 1, .cells (fa 8 (fun _ => 0)) 23 (0, 0))] (i := 2) rfl rfl rfl rfl
             (st_a rfl rfl rfl Tw.m2 Tw.om size25 (by intro p hp; simp only [List.mem_cons, List.not_mem_nil, or_false] at hp; rcases hp with rfl | rfl | rfl | rfl | rfl; exact .inr ⟨by simp, by simp only; omega⟩; exact .inr ⟨by simp, by simp only; omega⟩; exact .inl rfl; exact .inr ⟨by simp, by simp only; omega⟩; exact .inr ⟨by simp, by simp only; omega⟩)) ?_
           refine wpU_1 (i := 1) Tw.kr (stepU_vY (i := 1) (v := num (p % q)) rfl rfl Tw.kr rfl (yb_lda rfl Tw.kr Tw.m1 Tryz.underlying23 rfl size25) Tw.pu ?_)
           refine wpU_sY [(g, .cells (fa 18 (dg (p / q))) 76 (0, 0)), (h, .cells (fa 8 (dg (p % q))) 23 (0, 0)), (w.heap.size, .cells (fa 8 (dg q)) 23 (0, 0)), (w.heap.size + 1, .cells (fa 8 (dg (p % q))) 23 (0, 0)), (w.heap.size + 1 + 1, .cells (fa 8 (fun _ => 0)) 23 (0, 0))] (i := 3) rfl Tw.kr rfl rfl rfl
             (st_a rfl rfl rfl Tw.m3 Tw.om size25 (by intro p hp; simp only [List.mem_cons, List.not_mem_nil, or_false] at hp; rcases hp with rfl | rfl | rfl | rfl | rfl; exact .inr ⟨by simp, by simp only; omega⟩; exact .inr ⟨by simp, by simp only; omega⟩; exact .inr ⟨by simp, by simp only; omega⟩; exact .inl rfl; exact .inr ⟨by simp, by simp only; omega⟩)) ?_
           refine wpU_done Tw.kr (fun W4 hW4 => ?_) _
           have F := FIN _ hW4
           clear FIN hW4
           go_roundw
           case rel => (repeat apply Exists.intro); exact ⟨⟨q, p % q, hq, Nat.lt_trans (Nat.mod_lt p hpos) hq, by unfold Hid; rw [he.out, Nat.gcd_comm p q, Nat.gcd_rec q p, Nat.gcd_comm], F⟩, rfl⟩
           case measure =>
             rw [valAt_eq (Nat.lt_trans (Nat.mod_lt p hpos) hq) (F.out.2 _ Tw.m1), valAt_eq hq (HK.out.2 _ Tw.m1)]
             exact Nat.mod_lt p hpos
end Go.Proofs.YtalmflgkbmnghaaGreatDoor
namespace Go.Proofs.YtalmflgkbmnghaaGreatDoor
open Go.RowKit Tf
variable [ShLZ]
def rightB (neg : Bool) (n d : Nat) : Bool := if n = 0 then decide (neg = false ∧ d = 1) else decide (d ≠ 0 ∧ Nat.gcd n d = 1)
theorem ret_bool {a b : Bool} (h : a = b) : Ending.returned (.bool a) = .returned (.bool b) := by rw [h]

set_option maxRecDepth 100000 in
set_option maxHeartbeats 1000000 in
theorem right_any (neg : Bool) (n d : Nat) (hn : n < R 8) (hd : d < R 8) (w : World) :
   Calls Tryz.prog 17 #[frc neg n d] w fun e w' => e = .returned (.bool (rightB neg n d)) ∧ Below w.heap.size w w' := by
 unfold frc
 go_enter Tryz.func17, Tryz.ntmps17
 go_upto_region 1 with (fail)
 have hK := KS.one w (.cells (frcC neg n d) 25)
 obtain ⟨W, hW⟩ : ∃ W, W = w.alloc (.cells (frcC neg n d) 25) := ⟨_, rfl⟩
 rw [← hW] at hK
 rw [← hW]
 clear hW
 have HK := Lib.hid hK
 clear hK
 rcases Nat.eq_zero_or_pos n with rfl | hpos
 · go_wp2_with (first
     | (refine wpList_ldn rfl rfl rfl (HK.out.2 _ Tw.m0) Tryz.underlying23 rfl size25 ?_)
     | (refine wpList_ldw rfl rfl rfl (HK.out.2 _ Tw.m0) Tryz.underlying25 rfl size27 ?_))
   go_ret
   exact ⟨ret_bool (by rw [rightB, if_pos rfl]; simp), HK.out.1⟩
 · have hne : ¬ n = 0 := by omega
   have HR := Lib.hid (show rightB neg n d = decide (d ≠ 0 ∧ Nat.gcd n d = 1) from if_neg hne)
   have hg : Nat.gcd n d < R 8 := Nat.lt_of_le_of_lt (Nat.gcd_le_left d hpos) hn
   rcases Nat.eq_zero_or_pos d with rfl | hdp
   · go_wp2_with (first
       | (refine wpList_ldn rfl rfl rfl (HK.out.2 _ Tw.m0) Tryz.underlying23 rfl size25 ?_)
       | (refine wpList_ldd rfl rfl rfl (HK.out.2 _ Tw.m0) Tryz.underlying23 rfl size25 ?_))
     go_ret
     exact ⟨ret_bool (by rw [HR.out]; simp), HK.out.1⟩
   · have hde : ¬ d = 0 := by omega
     go_wp2_with (first
       | (refine wpList_ldn rfl rfl rfl (HK.out.2 _ Tw.m0) Tryz.underlying23 rfl size25 ?_)
       | (refine wpList_ldd rfl rfl rfl (HK.out.2 _ Tw.m0) Tryz.underlying23 rfl size25 ?_)
       | (refine wpList_guard rfl ?_; refine wpList_ldn rfl rfl rfl (HK.out.2 _ Tw.m0) Tryz.underlying23 rfl size25 ?_)
       | (refine wpList_guard rfl ?_; refine wpList_ldd rfl rfl rfl (HK.out.2 _ Tw.m0) Tryz.underlying23 rfl size25 ?_)
       | (go_at_call 49; refine (gcd_any n d hn hd _).mono ?_; rintro e w1 ⟨rfl, hb1⟩; have HK2 := Lib.hid (HK.out.below hb1); clear hb1; unfold num))
     go_ret
     exact ⟨ret_bool (by rw [HR.out]; simp [hde]), HK2.out.1⟩
end Go.Proofs.YtalmflgkbmnghaaGreatDoor
namespace Go.Proofs.YtalmflgkbmnghaaGreatDoor
open Go.RowKit Tf
def packV (neg : Bool) (n d : Nat) : Value := if n < R 8 ∧ d < R 8 then .tuple #[frc (neg && decide (n ≠ 0)) n d, .int .i64 0] else .tuple #[frc false 0 0, .int .i64 3]
theorem packV_yes {neg : Bool} {n d : Nat} (hn : n < R 8) (hd : d < R 8) : packV neg n d = .tuple #[frc (neg && decide (n ≠ 0)) n d, .int .i64 0] := if_pos ⟨hn, hd⟩
theorem packV_no {neg : Bool} {n d : Nat} (h : ¬ (n < R 8 ∧ d < R 8)) : packV neg n d = .tuple #[frc false 0 0, .int .i64 3] := if_neg h

set_option maxRecDepth 100000 in
set_option maxHeartbeats 2000000 in
theorem pack_any (neg : Bool) (n d : Nat) (hn : n < R 18) (hd : d < R 18) (w : World) :
   Calls Tryz.prog 80 #[.bool neg, wid n, wid d] w fun e w' => e = .returned (packV neg n d) ∧ Below w.heap.size w w' := by
 unfold wid
 go_enter Tryz.func80, Tryz.ntmps80
 go_upto_region 1 with (fail)
 have hK := KS.three w (.cells (fa 18 (dg n)) 76) (.cells (fa 18 (dg d)) 76) (.cells (frcC false 0 0) 25)
 obtain ⟨W, hW⟩ : ∃ W, W = ((w.alloc (.cells (fa 18 (dg n)) 76)).alloc (.cells (fa 18 (dg d)) 76)).alloc (.cells (frcC false 0 0) 25) := ⟨_, rfl⟩
 rw [← hW] at hK
 rw [frc_zero] at hW
 rw [← hW]
 clear hW
 have HK := Lib.hid hK
 clear hK
 by_cases hn8 : n < R 8
 · by_cases hd8 : d < R 8
   · cases neg
     · go_upto_region 2 with (first
         | (refine wpList_lda rfl rfl rfl (HK.out.2 _ Tw.m0) Tryz.underlying76 rfl size65 ?_)
         | (go_at_call 97; refine (narrow_yes n hn8 _).mono ?_; rintro e w1 ⟨rfl, hb1⟩; have HK2 := Lib.hid (HK.out.below hb1); clear hb1; unfold num)
         | (refine wpList_sta (f := dg n) (f' := fun _ => 0) rfl rfl rfl rfl (heap1 w1 _) size25 ?_))
       obtain ⟨f1, f2⟩ := HK2.out.fresh
       have HK3 := Lib.hid (HK2.out.newvar (cs := fa 8 (fun _ => 0)) (cs' := fa 8 (dg n)) (t := 23))
       simp only [List.forall_mem_cons] at f2
       obtain ⟨q1, q2, q3, _⟩ := f2
       have f3 := f1
       rw [← fa_zero8]
       generalize (w1.alloc (.cells (fa 8 (fun _ => 0)) 23)).setRow w1.heap.size (fa 8 (dg n)) = W2 at *
       clear HK2 HK f1
       generalize w1.heap.size = w2 at *
       go_upto_region 3 with (first
         | (refine wpList_lda rfl rfl rfl (HK3.out.2 _ Tw.m2) Tryz.underlying76 rfl size65 ?_)
         | (go_at_call 97; refine (narrow_yes d hd8 _).mono ?_; rintro e w4 ⟨rfl, hb1⟩; have HK4 := Lib.hid (HK3.out.below hb1); clear hb1; unfold num)
         | (refine wpList_sta (f := dg d) (f' := fun _ => 0) rfl rfl rfl rfl (heap1 w4 _) size25 ?_))
       obtain ⟨f1, f2⟩ := HK4.out.fresh
       have HK5 := Lib.hid (HK4.out.newvar (cs := fa 8 (fun _ => 0)) (cs' := fa 8 (dg d)) (t := 23))
       simp only [List.forall_mem_cons] at f2
       obtain ⟨r0, r1, r2, r3, _⟩ := f2
       rw [← fa_zero8]
       generalize (w4.alloc (.cells (fa 8 (fun _ => 0)) 23)).setRow w4.heap.size (fa 8 (dg d)) = W3 at *
       clear HK4 HK3
       generalize w4.heap.size = w3 at *
       go_wp2_with fail
       refine wp_region_U [(w3, .cells (fa 8 (dg d)) 23 (0, 0)), (w2, .cells (fa 8 (dg n)) 23 (0, 0)), (w.heap.size, .cells (fa 18 (dg n)) 76 (0, 0)), (w.heap.size + 1, .cells (fa 18 (dg d)) 76 (0, 0)), (w.heap.size + 1 + 1, .cells (frcC (false) (0) (0)) 25 (0, 0))] Tw.kr (HK5.out) ?_
       refine wpU_pY (i := 0) (v := .bool false) rfl rfl Tw.kr Tw.kr rfl Tw.kf Tw.pu ?_
       refine wpU_pY (i := 1) (v := .bool false) rfl rfl Tw.kr Tw.kr rfl Tw.kf Tw.pu ?_
       refine wpU_nY (i := 2) rfl rfl Tw.kr Tw.kr Tw.pu ?_
       refine wpU_nY (i := 3) rfl rfl Tw.kr Tw.kr Tw.pu ?_
       refine wpU_nY (i := 4) rfl rfl Tw.kr Tw.kr Tw.pu ?_
       refine wpU_pY (i := 5) (v := .bool (false)) rfl rfl Tw.kr Tw.kr rfl Tw.kf Tw.pu ?_
       refine wpU_vY (i := 6) (v := num n) rfl rfl Tw.kr Tw.kr rfl (yb_lda rfl Tw.kr Tw.m1 Tryz.underlying23 rfl size25) Tw.pu ?_
       refine wpU_vY (i := 7) (v := num d) rfl rfl Tw.kr Tw.kr rfl (yb_lda rfl Tw.kr Tw.m0 Tryz.underlying23 rfl size25) Tw.pu ?_
       refine wpU_pY (i := 8) (v := frc (false) n d) rfl rfl Tw.kr Tw.kr rfl Tw.kf Tw.pu ?_
       refine wpU_sY [(w3, .cells (fa 8 (dg d)) 23 (0, 0)), (w2, .cells (fa 8 (dg n)) 23 (0, 0)), (w.heap.size, .cells (fa 18 (dg n)) 76 (0, 0)), (w.heap.size + 1, .cells (fa 18 (dg d)) 76 (0, 0)), (w.heap.size + 1 + 1, .cells (frcC (false) (n) (d)) 25 (0, 0))] (i := 9) rfl Tw.kr rfl rfl rfl
         (st_f (neg := false) (n := n) (d := d) rfl Tw.kr Tw.kr Tw.m4 Tw.om size27 (by intro p hp; simp only [List.mem_cons, List.not_mem_nil, or_false] at hp; rcases hp with rfl | rfl | rfl | rfl | rfl; exact .inr ⟨by simp, by simp only; omega⟩; exact .inr ⟨by simp, by simp only; omega⟩; exact .inr ⟨by simp, by simp only; omega⟩; exact .inr ⟨by simp, by simp only; omega⟩; exact .inl rfl)) ?_
       refine wpU_pY (i := 10) (v := .int .i64 0) rfl rfl Tw.kr Tw.kr rfl Tw.kf Tw.pu ?_
       refine wpU_done Tw.kr (fun W4 hW4 => ?_) _
       go_wp2_with fail
       refine bodyPost_ret (res_cell_tmp rfl rfl (hW4.2 _ Tw.m4) Tryz.underlying25 rfl (by rw [size27, frcC_size])) rfl ⟨?_, hW4.1⟩
       rw [packV_yes hn8 hd8]
       simp [frc]
     · go_upto_region 2 with (first
         | (refine wpList_lda rfl rfl rfl (HK.out.2 _ Tw.m0) Tryz.underlying76 rfl size65 ?_)
         | (go_at_call 97; refine (narrow_yes n hn8 _).mono ?_; rintro e w1 ⟨rfl, hb1⟩; have HK2 := Lib.hid (HK.out.below hb1); clear hb1; unfold num)
         | (refine wpList_sta (f := dg n) (f' := fun _ => 0) rfl rfl rfl rfl (heap1 w1 _) size25 ?_))
       obtain ⟨f1, f2⟩ := HK2.out.fresh
       have HK3 := Lib.hid (HK2.out.newvar (cs := fa 8 (fun _ => 0)) (cs' := fa 8 (dg n)) (t := 23))
       simp only [List.forall_mem_cons] at f2
       obtain ⟨q1, q2, q3, _⟩ := f2
       have f3 := f1
       rw [← fa_zero8]
       generalize (w1.alloc (.cells (fa 8 (fun _ => 0)) 23)).setRow w1.heap.size (fa 8 (dg n)) = W2 at *
       clear HK2 HK f1
       generalize w1.heap.size = w2 at *
       go_upto_region 3 with (first
         | (refine wpList_lda rfl rfl rfl (HK3.out.2 _ Tw.m2) Tryz.underlying76 rfl size65 ?_)
         | (go_at_call 97; refine (narrow_yes d hd8 _).mono ?_; rintro e w4 ⟨rfl, hb1⟩; have HK4 := Lib.hid (HK3.out.below hb1); clear hb1; unfold num)
         | (refine wpList_sta (f := dg d) (f' := fun _ => 0) rfl rfl rfl rfl (heap1 w4 _) size25 ?_))
       obtain ⟨f1, f2⟩ := HK4.out.fresh
       have HK5 := Lib.hid (HK4.out.newvar (cs := fa 8 (fun _ => 0)) (cs' := fa 8 (dg d)) (t := 23))
       simp only [List.forall_mem_cons] at f2
       obtain ⟨r0, r1, r2, r3, _⟩ := f2
       rw [← fa_zero8]
       generalize (w4.alloc (.cells (fa 8 (fun _ => 0)) 23)).setRow w4.heap.size (fa 8 (dg d)) = W3 at *
       clear HK4 HK3
       generalize w4.heap.size = w3 at *
       go_wp2_with fail
       refine wp_region_U [(w3, .cells (fa 8 (dg d)) 23 (0, 0)), (w2, .cells (fa 8 (dg n)) 23 (0, 0)), (w.heap.size, .cells (fa 18 (dg n)) 76 (0, 0)), (w.heap.size + 1, .cells (fa 18 (dg d)) 76 (0, 0)), (w.heap.size + 1 + 1, .cells (frcC (false) (0) (0)) 25 (0, 0))] Tw.kr (HK5.out) ?_
       refine wpU_pY (i := 0) (v := .bool true) rfl rfl Tw.kr Tw.kr rfl Tw.kf Tw.pu ?_
       refine wpU_pY (i := 1) (v := .bool true) rfl rfl Tw.kr Tw.kr rfl Tw.kf Tw.pu ?_
       refine wpU_vY (i := 2) (v := num n) rfl rfl Tw.kr Tw.kr rfl (yb_lda rfl Tw.kr Tw.m1 Tryz.underlying23 rfl size25) Tw.pu ?_
       refine wpU_pY (i := 3) (v := .agg #[.int .u32 0, .int .u32 0, .int .u32 0, .int .u32 0, .int .u32 0, .int .u32 0, .int .u32 0, .int .u32 0]) rfl rfl Tw.kr Tw.kr rfl Tw.kf Tw.pu ?_
       refine wpU_pY (i := 4) (v := .bool (!decide (n = 0))) rfl rfl Tw.kr Tw.kr rfl (run_binY rfl (vx := num n) (vy := .agg #[.int .u32 0, .int .u32 0, .int .u32 0, .int .u32 0, .int .u32 0, .int .u32 0, .int .u32 0, .int .u32 0]) Tw.kr Tw.kr fun w => run_neq25_nil hn8 w) Tw.pu ?_
       refine wpU_pY (i := 5) (v := .bool (!decide (n = 0))) rfl rfl Tw.kr Tw.kr rfl Tw.kf Tw.pu ?_
       refine wpU_vY (i := 6) (v := num n) rfl rfl Tw.kr Tw.kr rfl (yb_lda rfl Tw.kr Tw.m1 Tryz.underlying23 rfl size25) Tw.pu ?_
       refine wpU_vY (i := 7) (v := num d) rfl rfl Tw.kr Tw.kr rfl (yb_lda rfl Tw.kr Tw.m0 Tryz.underlying23 rfl size25) Tw.pu ?_
       refine wpU_pY (i := 8) (v := frc (!decide (n = 0)) n d) rfl rfl Tw.kr Tw.kr rfl Tw.kf Tw.pu ?_
       refine wpU_sY [(w3, .cells (fa 8 (dg d)) 23 (0, 0)), (w2, .cells (fa 8 (dg n)) 23 (0, 0)), (w.heap.size, .cells (fa 18 (dg n)) 76 (0, 0)), (w.heap.size + 1, .cells (fa 18 (dg d)) 76 (0, 0)), (w.heap.size + 1 + 1, .cells (frcC (!decide (n = 0)) (n) (d)) 25 (0, 0))] (i := 9) rfl Tw.kr rfl rfl rfl
         (st_f (neg := !decide (n = 0)) (n := n) (d := d) rfl Tw.kr Tw.kr Tw.m4 Tw.om size27 (by intro p hp; simp only [List.mem_cons, List.not_mem_nil, or_false] at hp; rcases hp with rfl | rfl | rfl | rfl | rfl; exact .inr ⟨by simp, by simp only; omega⟩; exact .inr ⟨by simp, by simp only; omega⟩; exact .inr ⟨by simp, by simp only; omega⟩; exact .inr ⟨by simp, by simp only; omega⟩; exact .inl rfl)) ?_
       refine wpU_pY (i := 10) (v := .int .i64 0) rfl rfl Tw.kr Tw.kr rfl Tw.kf Tw.pu ?_
       refine wpU_done Tw.kr (fun W4 hW4 => ?_) _
       go_wp2_with fail
       refine bodyPost_ret (res_cell_tmp rfl rfl (hW4.2 _ Tw.m4) Tryz.underlying25 rfl (by rw [size27, frcC_size])) rfl ⟨?_, hW4.1⟩
       rw [packV_yes hn8 hd8]
       simp [frc]
   · go_upto_region 2 with (first
       | (refine wpList_lda rfl rfl rfl (HK.out.2 _ Tw.m0) Tryz.underlying76 rfl size65 ?_)
       | (go_at_call 97; refine (narrow_yes n hn8 _).mono ?_; rintro e w1 ⟨rfl, hb1⟩; have HK2 := Lib.hid (HK.out.below hb1); clear hb1; unfold num)
       | (refine wpList_sta (f := dg n) (f' := fun _ => 0) rfl rfl rfl rfl (heap1 w1 _) size25 ?_))
     obtain ⟨f1, f2⟩ := HK2.out.fresh
     have HK3 := Lib.hid (HK2.out.newvar (cs := fa 8 (fun _ => 0)) (cs' := fa 8 (dg n)) (t := 23))
     simp only [List.forall_mem_cons] at f2
     obtain ⟨q1, q2, q3, _⟩ := f2
     have f3 := f1
     rw [← fa_zero8]
     generalize (w1.alloc (.cells (fa 8 (fun _ => 0)) 23)).setRow w1.heap.size (fa 8 (dg n)) = W2 at *
     clear HK2 HK f1
     generalize w1.heap.size = w2 at *
     go_upto_region 3 with (first
       | (refine wpList_lda rfl rfl rfl (HK3.out.2 _ Tw.m2) Tryz.underlying76 rfl size65 ?_)
       | (go_at_call 97; refine (narrow_no d hd (Nat.le_of_not_lt hd8) _).mono ?_; rintro e w4 ⟨rfl, hb1⟩; have HK4 := Lib.hid (HK3.out.below hb1); clear hb1; unfold num)
       | (refine wpList_sta (f := dg 0) (f' := fun _ => 0) rfl rfl rfl rfl (heap1 w4 _) size25 ?_))
     obtain ⟨f1, f2⟩ := HK4.out.fresh
     have HK5 := Lib.hid (HK4.out.newvar (cs := fa 8 (fun _ => 0)) (cs' := fa 8 (dg 0)) (t := 23))
     simp only [List.forall_mem_cons] at f2
     obtain ⟨r0, r1, r2, r3, _⟩ := f2
     rw [← fa_zero8]
     generalize (w4.alloc (.cells (fa 8 (fun _ => 0)) 23)).setRow w4.heap.size (fa 8 (dg 0)) = W3 at *
     clear HK4 HK3
     generalize w4.heap.size = w3 at *
     go_wp2_with (first
       | (refine wpList_stf (neg := false) (n := 0) (d := 0) (neg' := false) (n' := 0) (d' := 0) rfl rfl rfl (by rw [frc_zero]; rfl) (HK5.out.2 _ Tw.m4) size27 ?_))
     refine bodyPost_ret (res_cell_tmp rfl rfl (setRow_heap _ _ _ _ _ _ (HK5.out.2 _ Tw.m4)) Tryz.underlying25 rfl (by rw [size27, frcC_size])) rfl ⟨?_, below_setRow HK5.out.1 Tw.om _⟩
     rw [packV_no (fun h => hd8 h.2)]
     rfl
 · by_cases hd8 : d < R 8
   · go_upto_region 2 with (first
       | (refine wpList_lda rfl rfl rfl (HK.out.2 _ Tw.m0) Tryz.underlying76 rfl size65 ?_)
       | (go_at_call 97; refine (narrow_no n hn (Nat.le_of_not_lt hn8) _).mono ?_; rintro e w1 ⟨rfl, hb1⟩; have HK2 := Lib.hid (HK.out.below hb1); clear hb1; unfold num)
       | (refine wpList_sta (f := dg 0) (f' := fun _ => 0) rfl rfl rfl rfl (heap1 w1 _) size25 ?_))
     obtain ⟨f1, f2⟩ := HK2.out.fresh
     have HK3 := Lib.hid (HK2.out.newvar (cs := fa 8 (fun _ => 0)) (cs' := fa 8 (dg 0)) (t := 23))
     simp only [List.forall_mem_cons] at f2
     obtain ⟨q1, q2, q3, _⟩ := f2
     have f3 := f1
     rw [← fa_zero8]
     generalize (w1.alloc (.cells (fa 8 (fun _ => 0)) 23)).setRow w1.heap.size (fa 8 (dg 0)) = W2 at *
     clear HK2 HK f1
     generalize w1.heap.size = w2 at *
     go_upto_region 3 with (first
       | (refine wpList_lda rfl rfl rfl (HK3.out.2 _ Tw.m2) Tryz.underlying76 rfl size65 ?_)
       | (go_at_call 97; refine (narrow_yes d hd8 _).mono ?_; rintro e w4 ⟨rfl, hb1⟩; have HK4 := Lib.hid (HK3.out.below hb1); clear hb1; unfold num)
       | (refine wpList_sta (f := dg d) (f' := fun _ => 0) rfl rfl rfl rfl (heap1 w4 _) size25 ?_))
     obtain ⟨f1, f2⟩ := HK4.out.fresh
     have HK5 := Lib.hid (HK4.out.newvar (cs := fa 8 (fun _ => 0)) (cs' := fa 8 (dg d)) (t := 23))
     simp only [List.forall_mem_cons] at f2
     obtain ⟨r0, r1, r2, r3, _⟩ := f2
     rw [← fa_zero8]
     generalize (w4.alloc (.cells (fa 8 (fun _ => 0)) 23)).setRow w4.heap.size (fa 8 (dg d)) = W3 at *
     clear HK4 HK3
     generalize w4.heap.size = w3 at *
     go_wp2_with (first
       | (refine wpList_stf (neg := false) (n := 0) (d := 0) (neg' := false) (n' := 0) (d' := 0) rfl rfl rfl (by rw [frc_zero]; rfl) (HK5.out.2 _ Tw.m4) size27 ?_))
     refine bodyPost_ret (res_cell_tmp rfl rfl (setRow_heap _ _ _ _ _ _ (HK5.out.2 _ Tw.m4)) Tryz.underlying25 rfl (by rw [size27, frcC_size])) rfl ⟨?_, below_setRow HK5.out.1 Tw.om _⟩
     rw [packV_no (fun h => hn8 h.1)]
     rfl
   · go_upto_region 2 with (first
       | (refine wpList_lda rfl rfl rfl (HK.out.2 _ Tw.m0) Tryz.underlying76 rfl size65 ?_)
       | (go_at_call 97; refine (narrow_no n hn (Nat.le_of_not_lt hn8) _).mono ?_; rintro e w1 ⟨rfl, hb1⟩; have HK2 := Lib.hid (HK.out.below hb1); clear hb1; unfold num)
       | (refine wpList_sta (f := dg 0) (f' := fun _ => 0) rfl rfl rfl rfl (heap1 w1 _) size25 ?_))
     obtain ⟨f1, f2⟩ := HK2.out.fresh
     have HK3 := Lib.hid (HK2.out.newvar (cs := fa 8 (fun _ => 0)) (cs' := fa 8 (dg 0)) (t := 23))
     simp only [List.forall_mem_cons] at f2
     obtain ⟨q1, q2, q3, _⟩ := f2
     have f3 := f1
     rw [← fa_zero8]
     generalize (w1.alloc (.cells (fa 8 (fun _ => 0)) 23)).setRow w1.heap.size (fa 8 (dg 0)) = W2 at *
     clear HK2 HK f1
     generalize w1.heap.size = w2 at *
     go_upto_region 3 with (first
       | (refine wpList_lda rfl rfl rfl (HK3.out.2 _ Tw.m2) Tryz.underlying76 rfl size65 ?_)
       | (go_at_call 97; refine (narrow_no d hd (Nat.le_of_not_lt hd8) _).mono ?_; rintro e w4 ⟨rfl, hb1⟩; have HK4 := Lib.hid (HK3.out.below hb1); clear hb1; unfold num)
       | (refine wpList_sta (f := dg 0) (f' := fun _ => 0) rfl rfl rfl rfl (heap1 w4 _) size25 ?_))
     obtain ⟨f1, f2⟩ := HK4.out.fresh
     have HK5 := Lib.hid (HK4.out.newvar (cs := fa 8 (fun _ => 0)) (cs' := fa 8 (dg 0)) (t := 23))
     simp only [List.forall_mem_cons] at f2
     obtain ⟨r0, r1, r2, r3, _⟩ := f2
     rw [← fa_zero8]
     generalize (w4.alloc (.cells (fa 8 (fun _ => 0)) 23)).setRow w4.heap.size (fa 8 (dg 0)) = W3 at *
     clear HK4 HK3
     generalize w4.heap.size = w3 at *
     go_wp2_with (first
       | (refine wpList_stf (neg := false) (n := 0) (d := 0) (neg' := false) (n' := 0) (d' := 0) rfl rfl rfl (by rw [frc_zero]; rfl) (HK5.out.2 _ Tw.m4) size27 ?_))
     refine bodyPost_ret (res_cell_tmp rfl rfl (setRow_heap _ _ _ _ _ _ (HK5.out.2 _ Tw.m4)) Tryz.underlying25 rfl (by rw [size27, frcC_size])) rfl ⟨?_, below_setRow HK5.out.1 Tw.om _⟩
     rw [packV_no (fun h => hn8 h.1)]
     rfl

end Go.Proofs.YtalmflgkbmnghaaGreatDoor
namespace Go.Proofs.YtalmflgkbmnghaaGreatDoor
open Go.RowKit Tf
variable [ShLZ]
theorem packV_shape (s : Bool) (n d : Nat) : ∃ s' n' d' e, packV s n d = .tuple #[.agg (frcC s' n' d'), .int .i64 e] := by
 unfold packV; split
 · exact ⟨_, _, _, _, rfl⟩
 · exact ⟨_, _, _, _, rfl⟩
theorem mul_lt18 {a b : Nat} (ha : a < R 8) (hb : b < R 8) : a * b < R 18 :=
 lt_R_of_le (j := 8 + 8) (by rw [R_add]; exact Nat.mul_lt_mul'' ha hb) Tw.om

set_option maxRecDepth 100000 in
set_option maxHeartbeats 2000000 in
theorem mul_any (s1 s2 : Bool) (n1 d1 n2 d2 : Nat) (hn1 : n1 < R 8) (hd1 : d1 < R 8) (hn2 : n2 < R 8) (hd2 : d2 < R 8) (h1 : 0 < d1) (h2 : 0 < d2) (w : World) :
   Calls Tryz.prog 53 #[frc s1 n1 d1, frc s2 n2 d2] w fun e w' => e = .returned (packV (s1 != s2) (n1 / Nat.gcd n1 d2 * (n2 / Nat.gcd n2 d1)) (d1 / Nat.gcd n2 d1 * (d2 / Nat.gcd n1 d2))) ∧ Below w.heap.size w w' := by
 have ho : Nat.gcd n1 d2 < R 8 := Nat.lt_of_le_of_lt (Nat.gcd_le_right n1 h2) hd2
 have hp : Nat.gcd n2 d1 < R 8 := Nat.lt_of_le_of_lt (Nat.gcd_le_right n2 h1) hd1
 have hop : 0 < Nat.gcd n1 d2 := Nat.gcd_pos_of_pos_right n1 h2
 have hpp : 0 < Nat.gcd n2 d1 := Nat.gcd_pos_of_pos_right n2 h1
 have q1 : n1 / Nat.gcd n1 d2 < R 8 := Nat.lt_of_le_of_lt (Nat.div_le_self _ _) hn1
 have q2 : n2 / Nat.gcd n2 d1 < R 8 := Nat.lt_of_le_of_lt (Nat.div_le_self _ _) hn2
 have q3 : d1 / Nat.gcd n2 d1 < R 8 := Nat.lt_of_le_of_lt (Nat.div_le_self _ _) hd1
 have q4 : d2 / Nat.gcd n1 d2 < R 8 := Nat.lt_of_le_of_lt (Nat.div_le_self _ _) hd2
 have HPK := Lib.hid (fun W => pack_any (s1 != s2) (n1 / Nat.gcd n1 d2 * (n2 / Nat.gcd n2 d1)) (d1 / Nat.gcd n2 d1 * (d2 / Nat.gcd n1 d2)) (mul_lt18 q1 q2) (mul_lt18 q3 q4) W)
 obtain ⟨s', n', d', ee, hpv⟩ := packV_shape (s1 != s2) (n1 / Nat.gcd n1 d2 * (n2 / Nat.gcd n2 d1)) (d1 / Nat.gcd n2 d1 * (d2 / Nat.gcd n1 d2))
 have HPV := Lib.hid hpv
 clear hpv
 unfold frc
 go_enter Tryz.func53, Tryz.ntmps53
 go_upto_region 1 with (fail)
 have hK := KS.three w (.cells (frcC s1 n1 d1) 25) (.cells (frcC s2 n2 d2) 25) (.cells (frcC false 0 0) 25)
 obtain ⟨W, hW⟩ : ∃ W, W = ((w.alloc (.cells (frcC s1 n1 d1) 25)).alloc (.cells (frcC s2 n2 d2) 25)).alloc (.cells (frcC false 0 0) 25) := ⟨_, rfl⟩
 rw [← hW] at hK
 rw [frc_zero] at hW
 rw [← hW]
 clear hW
 have HK := Lib.hid hK
 clear hK
 go_wp2_with fail
 refine wp_region_U [(w.heap.size, .cells (frcC (s1) (n1) (d1)) 25 (0, 0)), (w.heap.size + 1, .cells (frcC (s2) (n2) (d2)) 25 (0, 0)), (w.heap.size + 1 + 1, .cells (frcC (false) (0) (0)) 25 (0, 0))] Tw.kr (HK.out) ?_
 refine wpU_pY (i := 0) (v := .pointer (some ⟨w.heap.size, 1, none⟩)) rfl rfl Tw.kr Tw.kr rfl Tw.kf Tw.pu ?_
 refine wpU_vY (i := 1) (v := num (n1)) rfl rfl Tw.kr Tw.kr rfl (yb_load rfl Tw.kr Tw.m0 Tryz.underlying23 rfl size25 (by simp) (frc_num (s1) (n1) (d1))) Tw.pu ?_
 refine wpU_pY (i := 2) (v := .pointer (some ⟨w.heap.size + 1, 9, none⟩)) rfl rfl Tw.kr Tw.kr rfl Tw.kf Tw.pu ?_
 refine wpU_vY (i := 3) (v := num (d2)) rfl rfl Tw.kr Tw.kr rfl (yb_load rfl Tw.kr Tw.m1 Tryz.underlying23 rfl size25 (by simp) (frc_den (s2) (n2) (d2))) Tw.pu ?_
 refine wpU_vY (i := 4) (v := num (Nat.gcd n1 d2)) rfl rfl Tw.kr Tw.kr rfl (yb_call (f := 49) (args := #[num n1, num d2]) Tw.kf fun W hW => gcd_any n1 d2 hn1 hd2 W) Tw.pu ?_
 refine wpU_pY (i := 5) (v := .pointer (some ⟨w.heap.size + 1, 1, none⟩)) rfl rfl Tw.kr Tw.kr rfl Tw.kf Tw.pu ?_
 refine wpU_vY (i := 6) (v := num (n2)) rfl rfl Tw.kr Tw.kr rfl (yb_load rfl Tw.kr Tw.m1 Tryz.underlying23 rfl size25 (by simp) (frc_num (s2) (n2) (d2))) Tw.pu ?_
 refine wpU_pY (i := 7) (v := .pointer (some ⟨w.heap.size, 9, none⟩)) rfl rfl Tw.kr Tw.kr rfl Tw.kf Tw.pu ?_
 refine wpU_vY (i := 8) (v := num (d1)) rfl rfl Tw.kr Tw.kr rfl (yb_load rfl Tw.kr Tw.m0 Tryz.underlying23 rfl size25 (by simp) (frc_den (s1) (n1) (d1))) Tw.pu ?_
 refine wpU_vY (i := 9) (v := num (Nat.gcd n2 d1)) rfl rfl Tw.kr Tw.kr rfl (yb_call (f := 49) (args := #[num n2, num d1]) Tw.kf fun W hW => gcd_any n2 d1 hn2 hd1 W) Tw.pu ?_
 refine wpU_twoY (i := 10) (j := 11) (obi := .cells (fa 8 (fun _ => 0)) 23 (0, 0)) (obj := .cells (fa 8 (fun _ => 0)) 23 (0, 0)) rfl rfl rfl rfl rfl rfl Tw.kr Tw.kr Tw.kr Tw.kr (fun _ _ => rfl) (fun _ _ => rfl) (fun _ _ => by simp only [List.setIfInBounds_toArray, List.set_cons_succ, List.set_cons_zero] <;> rfl) (fun _ _ => by simp only [List.setIfInBounds_toArray, List.set_cons_succ, List.set_cons_zero] <;> rfl) fun g h Bg Bh Dgh Fg Fh => ?_
 simp only [List.forall_mem_cons] at Fg Fh
 refine wpU_sY [(g, .cells (fa 8 (dg (Nat.gcd n1 d2))) 23 (0, 0)), (h, .cells (fa 8 (fun _ => 0)) 23 (0, 0)), (w.heap.size, .cells (frcC (s1) (n1) (d1)) 25 (0, 0)), (w.heap.size + 1, .cells (frcC (s2) (n2) (d2)) 25 (0, 0)), (w.heap.size + 1 + 1, .cells (frcC (false) (0) (0)) 25 (0, 0))] (i := 12) rfl Tw.kr rfl rfl rfl
   (st_a rfl rfl rfl Tw.m0 Tw.om size25 (by intro p hp; simp only [List.mem_cons, List.not_mem_nil, or_false] at hp; rcases hp with rfl | rfl | rfl | rfl | rfl; exact .inl rfl; exact .inr ⟨by simp, by simp only; omega⟩; exact .inr ⟨by simp, by simp only; omega⟩; exact .inr ⟨by simp, by simp only; omega⟩; exact .inr ⟨by simp, by simp only; omega⟩)) ?_
 refine wpU_sY [(g, .cells (fa 8 (dg (Nat.gcd n1 d2))) 23 (0, 0)), (h, .cells (fa 8 (dg (Nat.gcd n2 d1))) 23 (0, 0)), (w.heap.size, .cells (frcC (s1) (n1) (d1)) 25 (0, 0)), (w.heap.size + 1, .cells (frcC (s2) (n2) (d2)) 25 (0, 0)), (w.heap.size + 1 + 1, .cells (frcC (false) (0) (0)) 25 (0, 0))] (i := 13) rfl Tw.kr rfl rfl rfl
   (st_a rfl rfl rfl Tw.m1 Tw.om size25 (by intro p hp; simp only [List.mem_cons, List.not_mem_nil, or_false] at hp; rcases hp with rfl | rfl | rfl | rfl | rfl; exact .inr ⟨by simp, by simp only; omega⟩; exact .inl rfl; exact .inr ⟨by simp, by simp only; omega⟩; exact .inr ⟨by simp, by simp only; omega⟩; exact .inr ⟨by simp, by simp only; omega⟩)) ?_
 refine wpU_done Tw.kr (fun W4 hW4 => ?_) _
 clear HK
 go_wp2_with fail
 refine wp_region_U [(g, .cells (fa 8 (dg (Nat.gcd n1 d2))) 23 (0, 0)), (h, .cells (fa 8 (dg (Nat.gcd n2 d1))) 23 (0, 0)), (w.heap.size, .cells (frcC (s1) (n1) (d1)) 25 (0, 0)), (w.heap.size + 1, .cells (frcC (s2) (n2) (d2)) 25 (0, 0)), (w.heap.size + 1 + 1, .cells (frcC (false) (0) (0)) 25 (0, 0))] Tw.kr (hW4) ?_
 refine wpU_pY (i := 0) (v := .pointer (some ⟨w.heap.size, 1, none⟩)) rfl rfl Tw.kr Tw.kr rfl Tw.kf Tw.pu ?_
 refine wpU_vY (i := 1) (v := num (n1)) rfl rfl Tw.kr Tw.kr rfl (yb_load rfl Tw.kr Tw.m2 Tryz.underlying23 rfl size25 (by simp) (frc_num (s1) (n1) (d1))) Tw.pu ?_
 refine wpU_vY (i := 2) (v := num (Nat.gcd n1 d2)) rfl rfl Tw.kr Tw.kr rfl (yb_lda rfl Tw.kr Tw.m0 Tryz.underlying23 rfl size25) Tw.pu ?_
 refine wpU_vY (i := 3) (v := num (n1 / Nat.gcd n1 d2)) rfl rfl Tw.kr Tw.kr rfl (yb_call (f := 79) (args := #[num n1, num (Nat.gcd n1 d2)]) Tw.kf fun W hW => quotient_any n1 (Nat.gcd n1 d2) hn1 ho hop W) Tw.pu ?_
 refine wpU_pY (i := 4) (v := .pointer (some ⟨w.heap.size + 1, 1, none⟩)) rfl rfl Tw.kr Tw.kr rfl Tw.kf Tw.pu ?_
 refine wpU_vY (i := 5) (v := num (n2)) rfl rfl Tw.kr Tw.kr rfl (yb_load rfl Tw.kr Tw.m3 Tryz.underlying23 rfl size25 (by simp) (frc_num (s2) (n2) (d2))) Tw.pu ?_
 refine wpU_vY (i := 6) (v := num (Nat.gcd n2 d1)) rfl rfl Tw.kr Tw.kr rfl (yb_lda rfl Tw.kr Tw.m1 Tryz.underlying23 rfl size25) Tw.pu ?_
 refine wpU_vY (i := 7) (v := num (n2 / Nat.gcd n2 d1)) rfl rfl Tw.kr Tw.kr rfl (yb_call (f := 79) (args := #[num n2, num (Nat.gcd n2 d1)]) Tw.kf fun W hW => quotient_any n2 (Nat.gcd n2 d1) hn2 hp hpp W) Tw.pu ?_
 refine wpU_vY (i := 8) (v := wid (n1 / Nat.gcd n1 d2 * (n2 / Nat.gcd n2 d1))) rfl rfl Tw.kr Tw.kr rfl (yb_call (f := 55) (args := #[num (n1 / Nat.gcd n1 d2), num (n2 / Nat.gcd n2 d1)]) Tw.kf fun W hW => times_any (n1 / Nat.gcd n1 d2) (n2 / Nat.gcd n2 d1) q1 q2 W) Tw.pu ?_
 refine wpU_newY (i := 9) (obi := .cells (fa 18 (fun _ => 0)) 76 (0, 0)) rfl rfl rfl Tw.kr (fun _ _ => rfl) Tw.pf fun k Bk Fk => ?_
 simp only [List.forall_mem_cons] at Fk
 refine wpU_sY [(k, .cells (fa 18 (dg (n1 / Nat.gcd n1 d2 * (n2 / Nat.gcd n2 d1)))) 76 (0, 0)), (g, .cells (fa 8 (dg (Nat.gcd n1 d2))) 23 (0, 0)), (h, .cells (fa 8 (dg (Nat.gcd n2 d1))) 23 (0, 0)), (w.heap.size, .cells (frcC (s1) (n1) (d1)) 25 (0, 0)), (w.heap.size + 1, .cells (frcC (s2) (n2) (d2)) 25 (0, 0)), (w.heap.size + 1 + 1, .cells (frcC (false) (0) (0)) 25 (0, 0))] (i := 10) rfl Tw.kr rfl rfl rfl
   (st_a rfl rfl rfl Tw.m0 Tw.om size65 (by intro p hp; simp only [List.mem_cons, List.not_mem_nil, or_false] at hp; rcases hp with rfl | rfl | rfl | rfl | rfl | rfl; exact .inl rfl; exact .inr ⟨by simp, by simp only; omega⟩; exact .inr ⟨by simp, by simp only; omega⟩; exact .inr ⟨by simp, by simp only; omega⟩; exact .inr ⟨by simp, by simp only; omega⟩; exact .inr ⟨by simp, by simp only; omega⟩)) ?_
 refine wpU_done Tw.kr (fun W5 hW5 => ?_) _
 clear hW4
 go_wp2_with fail
 refine wp_region_U [(k, .cells (fa 18 (dg (n1 / Nat.gcd n1 d2 * (n2 / Nat.gcd n2 d1)))) 76 (0, 0)), (g, .cells (fa 8 (dg (Nat.gcd n1 d2))) 23 (0, 0)), (h, .cells (fa 8 (dg (Nat.gcd n2 d1))) 23 (0, 0)), (w.heap.size, .cells (frcC (s1) (n1) (d1)) 25 (0, 0)), (w.heap.size + 1, .cells (frcC (s2) (n2) (d2)) 25 (0, 0)), (w.heap.size + 1 + 1, .cells (frcC (false) (0) (0)) 25 (0, 0))] Tw.kr (hW5) ?_
 refine wpU_pY (i := 0) (v := .pointer (some ⟨w.heap.size, 9, none⟩)) rfl rfl Tw.kr Tw.kr rfl Tw.kf Tw.pu ?_
 refine wpU_vY (i := 1) (v := num (d1)) rfl rfl Tw.kr Tw.kr rfl (yb_load rfl Tw.kr Tw.m3 Tryz.underlying23 rfl size25 (by simp) (frc_den (s1) (n1) (d1))) Tw.pu ?_
 refine wpU_vY (i := 2) (v := num (Nat.gcd n2 d1)) rfl rfl Tw.kr Tw.kr rfl (yb_lda rfl Tw.kr Tw.m2 Tryz.underlying23 rfl size25) Tw.pu ?_
 refine wpU_vY (i := 3) (v := num (d1 / Nat.gcd n2 d1)) rfl rfl Tw.kr Tw.kr rfl (yb_call (f := 79) (args := #[num d1, num (Nat.gcd n2 d1)]) Tw.kf fun W hW => quotient_any d1 (Nat.gcd n2 d1) hd1 hp hpp W) Tw.pu ?_
 refine wpU_pY (i := 4) (v := .pointer (some ⟨w.heap.size + 1, 9, none⟩)) rfl rfl Tw.kr Tw.kr rfl Tw.kf Tw.pu ?_
 refine wpU_vY (i := 5) (v := num (d2)) rfl rfl Tw.kr Tw.kr rfl (yb_load rfl Tw.kr Tw.m4 Tryz.underlying23 rfl size25 (by simp) (frc_den (s2) (n2) (d2))) Tw.pu ?_
 refine wpU_vY (i := 6) (v := num (Nat.gcd n1 d2)) rfl rfl Tw.kr Tw.kr rfl (yb_lda rfl Tw.kr Tw.m1 Tryz.underlying23 rfl size25) Tw.pu ?_
 refine wpU_vY (i := 7) (v := num (d2 / Nat.gcd n1 d2)) rfl rfl Tw.kr Tw.kr rfl (yb_call (f := 79) (args := #[num d2, num (Nat.gcd n1 d2)]) Tw.kf fun W hW => quotient_any d2 (Nat.gcd n1 d2) hd2 ho hop W) Tw.pu ?_
 refine wpU_vY (i := 8) (v := wid (d1 / Nat.gcd n2 d1 * (d2 / Nat.gcd n1 d2))) rfl rfl Tw.kr Tw.kr rfl (yb_call (f := 55) (args := #[num (d1 / Nat.gcd n2 d1), num (d2 / Nat.gcd n1 d2)]) Tw.kf fun W hW => times_any (d1 / Nat.gcd n2 d1) (d2 / Nat.gcd n1 d2) q3 q4 W) Tw.pu ?_
 refine wpU_newY (i := 9) (obi := .cells (fa 18 (fun _ => 0)) 76 (0, 0)) rfl rfl rfl Tw.kr (fun _ _ => rfl) Tw.pf fun l Bl Fl => ?_
 simp only [List.forall_mem_cons] at Fl
 refine wpU_sY [(l, .cells (fa 18 (dg (d1 / Nat.gcd n2 d1 * (d2 / Nat.gcd n1 d2)))) 76 (0, 0)), (k, .cells (fa 18 (dg (n1 / Nat.gcd n1 d2 * (n2 / Nat.gcd n2 d1)))) 76 (0, 0)), (g, .cells (fa 8 (dg (Nat.gcd n1 d2))) 23 (0, 0)), (h, .cells (fa 8 (dg (Nat.gcd n2 d1))) 23 (0, 0)), (w.heap.size, .cells (frcC (s1) (n1) (d1)) 25 (0, 0)), (w.heap.size + 1, .cells (frcC (s2) (n2) (d2)) 25 (0, 0)), (w.heap.size + 1 + 1, .cells (frcC (false) (0) (0)) 25 (0, 0))] (i := 10) rfl Tw.kr rfl rfl rfl
   (st_a rfl rfl rfl Tw.m0 Tw.om size65 (by intro p hp; simp only [List.mem_cons, List.not_mem_nil, or_false] at hp; rcases hp with rfl | rfl | rfl | rfl | rfl | rfl | rfl; exact .inl rfl; exact .inr ⟨by simp, by simp only; omega⟩; exact .inr ⟨by simp, by simp only; omega⟩; exact .inr ⟨by simp, by simp only; omega⟩; exact .inr ⟨by simp, by simp only; omega⟩; exact .inr ⟨by simp, by simp only; omega⟩; exact .inr ⟨by simp, by simp only; omega⟩)) ?_
 refine wpU_done Tw.kr (fun W6 hW6 => ?_) _
 clear hW5
 have HL := Lib.hid hW6
 clear hW6 ho hp hop hpp q1 q2 q3 q4 hn1 hd1 hn2 hd2 h1 h2
 have c1 := frc_cell (HL.out.2 _ Tw.m4)
 have c2 := frc_cell (HL.out.2 _ Tw.m5)
 go_wp2_with (first
   | (refine wpList_lda rfl rfl rfl (HL.out.2 _ Tw.m1) Tryz.underlying76 rfl size65 ?_)
   | (refine wpList_lda rfl rfl rfl (HL.out.2 _ Tw.m0) Tryz.underlying76 rfl size65 ?_)
   | (go_at_call 80; refine (HPK.out _).mono ?_; rintro e w5 ⟨rfl, hb1⟩; have HM := Lib.hid (HL.out.below hb1); clear hb1 c1 c2; rw [HPV.out])
   | (refine wpList_stf (neg := s') (n := n') (d := d') (neg' := false) (n' := 0) (d' := 0) rfl rfl rfl rfl (HM.out.2 _ (.tail _ Tw.m5)) size27 ?_))
 exact bodyPost_ret (res_cell_tmp rfl rfl (setRow_heap _ _ _ _ _ _ (HM.out.2 _ (.tail _ Tw.m5))) Tryz.underlying25 rfl (by rw [size27, frcC_size])) rfl ⟨by rw [HPV.out]; rfl, below_setRow HM.out.1 Tw.om _⟩
end Go.Proofs.YtalmflgkbmnghaaGreatDoor
namespace Go.Proofs.YtalmflgkbmnghaaGreatDoor
open Go.RowKit Tf

set_option maxRecDepth 100000 in
set_option maxHeartbeats 400000 in
theorem plus_any (a b : Nat) (ha : a < R 18) (hb : b < R 18) (hab : a + b < R 18) (w : World) :
   Calls Tryz.prog 58 #[wid a, wid b] w fun e w' => e = .returned (wid (a + b)) ∧ Below w.heap.size w w' := by
 unfold wid
 go_enter Tryz.func58, Tryz.ntmps58
 go_wp2
 go_loopw [5, 8] (fun c i wr => ∃ k c0 Pv : Nat, k ≤ 18 ∧ c0 ≤ 1 ∧ Hid (Pv + c0 * R k = a + b % R k) ∧ Pv < R 18 ∧ c = .int .u64 c0 ∧ i = .int .i64 k ∧ Below w.heap.size w wr ∧
     wr.heap[w.heap.size]? = some (.cells (fa 18 (dg Pv)) 76 (0, 0)) ∧ wr.heap[w.heap.size + 1]? = some (.cells (fa 18 (dg b)) 76 (0, 0)) ∧ wr.heap[w.heap.size + 1 + 1]? = some (.cells (fa 18 (fun _ => 0)) 76 (0, 0)))
   (fun _ i _ => 18 - (intOf i).toNat)
 case atStart =>
   refine ⟨0, 0, a, by omega, by omega, ?_, ha, rfl, rfl, below3 _ _ _ _, (heap3 _ _ _ _).1, (heap3 _ _ _ _).2.1, (heap3 _ _ _ _).2.2⟩
   unfold Hid; rw [R_zero, Nat.mod_one, Nat.zero_mul]
 case round =>
   obtain ⟨k, c0, Pv, hk, hc, he, hP, rfl, rfl, hB, e0, e1, e2⟩ := hrel
   by_cases hlt : k < 18
   · have h1 := blk_cell e0 hlt
     have h2 := blk_cell e1 hlt
     have h3 : wr.frozen? ⟨w.heap.size, k, none⟩ = false := blk_free e0
     have b1 := dg_lt Pv k
     have b2 := dg_lt b k
     have hlt' : ((k : Nat) : Int) < 18 := by omega
     have E0 := Lib.hid e0
     have E1 := Lib.hid e1
     have E2 := Lib.hid e2
     clear e0 e1 e2
     go_wp2
     go_quiet (fail)
     go_wp2
     go_roundw
     case rel =>
       obtain ⟨t, ht⟩ : ∃ t, t = dg Pv k + dg b k + c0 := ⟨_, rfl⟩
       have hv : t % 4294967296 < 4294967296 := Nat.mod_lt _ Tw.om
       rw [show ((dg Pv k : Int) + dg b k + c0) % 4294967296 = ((t % 4294967296 : Nat) : Int) from by omega]
       refine ⟨k + 1, t / 4294967296, setd Pv k (t % 4294967296), by omega, by omega, ?_, setd_lt hP hlt hv, ?_, by go_num, ?_, ?_, ?_, ?_⟩
       · exact plus_step he.out Tw.om
       · exact congrArg (Value.int .u64) Tw.om
       · exact (belowN hB nq).setCell (Nat.le_refl _) _
       · exact blk_set (w := wr.drewN nq) E0.out hlt hv
       · rw [heap_setCell_other _ _ _ _ (by simp)]; exact E1.out
       · rw [heap_setCell_other _ _ _ _ (by simp; omega)]; exact E2.out
     case measure => (simp [intOf] <;> omega)
   · obtain rfl : k = 18 := by omega
     have hfin : Pv = a + b := by
       have h := he.out
       rw [Nat.mod_eq_of_lt hb] at h
       have h0 := R_pos 18
       rcases Nat.eq_zero_or_pos c0 with h1 | h1
       · subst h1; omega
       · have : 1 * R 18 ≤ c0 * R 18 := Nat.mul_le_mul_right _ h1
         omega
     have E2 := Lib.hid e2
     subst hfin
     obtain ⟨d, hu, hd⟩ := under65
     clear e1 e2 he
     go_wp2_with (first
       | (refine wpList_lda rfl rfl rfl e0 hu hd size65 ?_)
       | (refine wpList_sta rfl rfl rfl rfl E2.out size65 ?_))
     exact bodyPost_ret (res_cell rfl rfl (setRow_heap _ _ _ _ _ _ E2.out) hu hd (by rw [size65, fa_size])) rfl ⟨rfl, below_setRow hB Tw.om _⟩
end Go.Proofs.YtalmflgkbmnghaaGreatDoor
namespace Go.Proofs.YtalmflgkbmnghaaGreatDoor
open Go.RowKit Tf

set_option maxRecDepth 100000 in
set_option maxHeartbeats 400000 in
theorem minus_any (a b : Nat) (ha : a < R 18) (hba : b ≤ a) (w : World) :
   Calls Tryz.prog 85 #[wid a, wid b] w fun e w' => e = .returned (wid (a - b)) ∧ Below w.heap.size w w' := by
 unfold wid
 have hb : b < R 18 := by omega
 go_enter Tryz.func85, Tryz.ntmps85
 go_wp2
 go_loopw [5, 8] (fun c i wr => ∃ k c0 Pv : Nat, k ≤ 18 ∧ c0 ≤ 1 ∧ Hid (Pv + b % R k = a + c0 * R k) ∧ Pv < R 18 ∧ c = .int .u64 c0 ∧ i = .int .i64 k ∧ Below w.heap.size w wr ∧
     wr.heap[w.heap.size]? = some (.cells (fa 18 (dg Pv)) 76 (0, 0)) ∧ wr.heap[w.heap.size + 1]? = some (.cells (fa 18 (dg b)) 76 (0, 0)) ∧ wr.heap[w.heap.size + 1 + 1]? = some (.cells (fa 18 (fun _ => 0)) 76 (0, 0)))
   (fun _ i _ => 18 - (intOf i).toNat)
 case atStart =>
   refine ⟨0, 0, a, by omega, by omega, ?_, ha, rfl, rfl, below3 _ _ _ _, (heap3 _ _ _ _).1, (heap3 _ _ _ _).2.1, (heap3 _ _ _ _).2.2⟩
   unfold Hid; rw [R_zero, Nat.mod_one, Nat.zero_mul]
 case round =>
   obtain ⟨k, c0, Pv, hk, hc, he, hP, rfl, rfl, hB, e0, e1, e2⟩ := hrel
   by_cases hlt : k < 18
   · have h1 := blk_cell e0 hlt
     have h2 := blk_cell e1 hlt
     have h3 : wr.frozen? ⟨w.heap.size, k, none⟩ = false := blk_free e0
     have b1 := dg_lt Pv k
     have b2 := dg_lt b k
     have hlt' : ((k : Nat) : Int) < 18 := by omega
     have E0 := Lib.hid e0
     have E1 := Lib.hid e1
     have E2 := Lib.hid e2
     clear e0 e1 e2
     obtain ⟨v, c1, hv, hc1, hvc, hx, hy⟩ := sub_limb b1 b2 hc
     have HX := Lib.hid hx
     have HY := Lib.hid hy
     clear hx hy
     go_wp2
     go_quiet (fail)
     go_wp2
     go_roundw
     case rel =>
       rw [HX.out, HY.out]
       refine ⟨k + 1, c1, setd Pv k v, by omega, by omega, minus_step he.out hvc, setd_lt hP hlt hv, rfl, by go_num, ?_, ?_, ?_, ?_⟩
       · exact (belowN hB nq).setCell (Nat.le_refl _) _
       · exact blk_set (w := wr.drewN nq) E0.out hlt hv
       · rw [heap_setCell_other _ _ _ _ (by simp)]; exact E1.out
       · rw [heap_setCell_other _ _ _ _ (by simp; omega)]; exact E2.out
     case measure => (simp [intOf] <;> omega)
   · obtain rfl : k = 18 := by omega
     have hfin : Pv = a - b := by
       have h := he.out
       rw [Nat.mod_eq_of_lt hb] at h
       have h0 := R_pos 18
       rcases Nat.eq_zero_or_pos c0 with h1 | h1
       · subst h1; omega
       · have : 1 * R 18 ≤ c0 * R 18 := Nat.mul_le_mul_right _ h1
         omega
     have E2 := Lib.hid e2
     subst hfin
     obtain ⟨d, hu, hd⟩ := under65
     clear e1 e2 he
     go_wp2_with (first
       | (refine wpList_lda rfl rfl rfl e0 hu hd size65 ?_)
       | (refine wpList_sta rfl rfl rfl rfl E2.out size65 ?_))
     exact bodyPost_ret (res_cell rfl rfl (setRow_heap _ _ _ _ _ _ E2.out) hu hd (by rw [size65, fa_size])) rfl ⟨rfl, below_setRow hB Tw.om _⟩
end Go.Proofs.YtalmflgkbmnghaaGreatDoor
namespace Go.Proofs.YtalmflgkbmnghaaGreatDoor
open Go.RowKit Tf

def cmpN (a b : Nat) : Int := if a < b then -1 else if b < a then 1 else 0
theorem cmp_less {a b k : Nat} (h : a / R (k + 1) = b / R (k + 1)) (hd : dg a k < dg b k) : a < b := by
 have h1 := div_succ a k
 have h2 := div_succ b k
 rw [h] at h1
 rcases Nat.lt_or_ge a b with h3 | h3
 · exact h3
 · have := Nat.div_le_div_right (c := R k) h3
   omega
theorem cmp_step {a b k : Nat} (h : a / R (k + 1) = b / R (k + 1)) (hd : dg a k = dg b k) : a / R k = b / R k := by
 rw [div_succ a k, div_succ b k, h, hd]

set_option maxRecDepth 100000 in
set_option maxHeartbeats 400000 in
theorem compare_any (a b : Nat) (ha : a < R 18) (hb : b < R 18) (w : World) :
   Calls Tryz.prog 84 #[wid a, wid b] w fun e w' => e = .returned (.int .i64 (cmpN a b)) ∧ Below w.heap.size w w' := by
 unfold wid
 go_enter Tryz.func84, Tryz.ntmps84
 go_wp2
 go_loopw [5] (fun i wr => ∃ k : Nat, k ≤ 18 ∧ Hid (a / R k = b / R k) ∧ i = .int .i64 ((k : Int) - 1) ∧ Below w.heap.size w wr ∧
     wr.heap[w.heap.size]? = some (.cells (fa 18 (dg a)) 76 (0, 0)) ∧ wr.heap[w.heap.size + 1]? = some (.cells (fa 18 (dg b)) 76 (0, 0)))
   (fun i _ => (intOf i + 1).toNat)
 case atStart =>
   refine ⟨18, by omega, ?_, rfl, below2 _ _ _, (heap2 _ _ _).1, (heap2 _ _ _).2⟩
   unfold Hid; rw [Nat.div_eq_of_lt ha, Nat.div_eq_of_lt hb]
 case round =>
   obtain ⟨k, hk, he, rfl, hB, e0, e1⟩ := hrel
   rcases Nat.eq_zero_or_pos k with rfl | hpos
   · have hab : a = b := by have := he.out; rwa [R_zero, Nat.div_one, Nat.div_one] at this
     have HB := Lib.hid hB
     have HAB := Lib.hid hab
     clear hab e0 e1
     go_wp2
     go_ret
     exact ⟨ret_int (by rw [HAB.out]; simp [cmpN]), HB.out⟩
   · obtain ⟨j, rfl⟩ : ∃ j, k = j + 1 := ⟨k - 1, by omega⟩
     have ej : (((j + 1 : Nat) : Int) - 1) = j := by omega
     rw [ej]
     have hlt : j < 18 := by omega
     have h1 := blk_cell e0 hlt
     have h2 := blk_cell e1 hlt
     have b1 := dg_lt a j
     have b2 := dg_lt b j
     have hlt' : ((j : Nat) : Int) < 18 := by omega
     have E0 := Lib.hid e0
     have E1 := Lib.hid e1
     clear e0 e1 ej
     rcases Nat.lt_trichotomy (dg a j) (dg b j) with hd | hd | hd
     · have hr := cmp_less he.out hd
       go_wp2
       go_quiet (fail)
       go_wp2
       go_ret
       exact ⟨ret_int (by rw [cmpN, if_pos hr]), belowN hB _⟩
     · have HS := Lib.hid (cmp_step he.out hd)
       have hx : decide (dg a j < dg b j) = false := by rw [hd]; simp
       have hy : decide (dg b j < dg a j) = false := by rw [hd]; simp
       have hx' : decide ((dg a j : Int) < dg b j) = false := by rw [hd]; simp
       have hy' : decide ((dg b j : Int) < dg a j) = false := by rw [hd]; simp
       clear hd
       go_wp2
       go_quiet (fail)
       go_wp2
       go_quiet (fail)
       go_wp2
       go_roundw
       case rel => exact ⟨j, by omega, HS, rfl, belowN hB _, E0.out, E1.out⟩
       case measure => (simp [intOf] <;> omega)
     · have hr := cmp_less he.out.symm hd
       have hx : decide ((dg a j : Int) < dg b j) = false := by simp; omega
       have hx' : decide (dg a j < dg b j) = false := by simp; omega
       go_wp2
       go_quiet (fail)
       go_wp2
       go_quiet (fail)
       go_wp2
       go_ret
       exact ⟨ret_int (by rw [cmpN, if_neg Tw.om, if_pos hr]), belowN (belowN hB _) _⟩
end Go.Proofs.YtalmflgkbmnghaaGreatDoor
namespace Go.Proofs.YtalmflgkbmnghaaGreatDoor
open Go.RowKit Tf
def psS (x y : Bool) (a b : Nat) : Bool := if x = y then x else if a < b then y else x
def psN (x y : Bool) (a b : Nat) : Nat := if x = y then a + b else if a < b then b - a else a - b

set_option maxRecDepth 100000 in
set_option maxHeartbeats 1000000 in
theorem plusSigned_any (x y : Bool) (a b : Nat) (hab : a + b < R 18) (w : World) :
   Calls Tryz.prog 54 #[.bool x, wid a, .bool y, wid b] w fun e w' => e = .returned (.tuple #[.bool (psS x y a b), wid (psN x y a b)]) ∧ Below w.heap.size w w' := by
 have ha : a < R 18 := by omega
 have hb : b < R 18 := by omega
 unfold wid
 go_enter Tryz.func54, Tryz.ntmps54
 go_upto_region 1 with (fail)
 have hK := KS.three w (.cells (fa 18 (dg a)) 76) (.cells (fa 18 (dg b)) 76) (.cells (fa 18 (fun _ => 0)) 76)
 obtain ⟨W, hW⟩ : ∃ W, W = ((w.alloc (.cells (fa 18 (dg a)) 76)).alloc (.cells (fa 18 (dg b)) 76)).alloc (.cells (fa 18 (fun _ => 0)) 76) := ⟨_, rfl⟩
 rw [← hW] at hK
 rw [fa_zero18] at hW
 rw [← hW]
 clear hW
 have HK := Lib.hid hK
 clear hK
 have HN := Lib.hid (⟨hab, ha, hb⟩ : a + b < R 18 ∧ a < R 18 ∧ b < R 18)
 clear hab ha hb
 have hcmp : (a < b ∧ cmpN a b = -1) ∨ (¬ a < b ∧ b ≤ a ∧ (cmpN a b = 0 ∨ cmpN a b = 1)) := by
   unfold cmpN; split
   · exact .inl ⟨by assumption, rfl⟩
   · refine .inr ⟨by assumption, by omega, ?_⟩
     split
     · exact .inr rfl
     · exact .inl rfl
 have HC := Lib.hid hcmp
 clear hcmp
 by_cases hxy : x = y
 · have HV := Lib.hid (show psS x y a b = x ∧ psN x y a b = a + b from ⟨if_pos hxy, if_pos hxy⟩)
   have hbe : (x == y) = true := by simp [hxy]
   clear hxy
   go_wp2_with (first
     | (refine wpList_lda rfl rfl rfl (HK.out.2 _ Tw.m0) Tryz.underlying76 rfl size65 ?_)
     | (refine wpList_lda rfl rfl rfl (HK.out.2 _ Tw.m1) Tryz.underlying76 rfl size65 ?_)
     | (go_at_call 58; refine (plus_any a b HN.out.2.1 HN.out.2.2 HN.out.1 _).mono ?_; rintro e w1 ⟨rfl, hb1⟩; have HK2 := Lib.hid (HK.out.below hb1); clear hb1; unfold wid)
     | (refine wpList_sta (f := dg (a + b)) (f' := fun _ => 0) rfl rfl rfl rfl (HK2.out.2 _ Tw.m2) size65 ?_))
   refine bodyPost_ret (res_tmp_cell rfl rfl (setRow_heap _ _ _ _ _ _ (HK2.out.2 _ Tw.m2)) Tryz.underlying76 rfl (by rw [size65, fa_size])) rfl ⟨?_, below_setRow HK2.out.1 Tw.om _⟩
   rw [HV.out.1, HV.out.2]; rfl
 · have hbe : (x == y) = false := by simp [hxy]
   have HX := Lib.hid hxy
   clear hxy
   have HV := Lib.hid (show (a < b → psS x y a b = y ∧ psN x y a b = b - a) ∧ (¬ a < b → psS x y a b = x ∧ psN x y a b = a - b) from
     ⟨fun h => ⟨by rw [psS, if_neg HX.out, if_pos h], by rw [psN, if_neg HX.out, if_pos h]⟩, fun h => ⟨by rw [psS, if_neg HX.out, if_neg h], by rw [psN, if_neg HX.out, if_neg h]⟩⟩)
   rcases HC.out with ⟨h1, h2⟩ | ⟨h1, h2, h3⟩
   · obtain ⟨v1, v2⟩ := HV.out.1 h1
     have V1 := Lib.hid v1
     have V2 := Lib.hid v2
     have H1 := Lib.hid h1
     clear HC HV v1 v2 h1
     go_wp2_with (first
       | (refine wpList_lda rfl rfl rfl (HK.out.2 _ Tw.m0) Tryz.underlying76 rfl size65 ?_)
       | (refine wpList_lda rfl rfl rfl (HK.out.2 _ Tw.m1) Tryz.underlying76 rfl size65 ?_)
       | (go_at_call 84; refine (compare_any a b HN.out.2.1 HN.out.2.2 _).mono ?_; rintro e w1 ⟨rfl, hb1⟩; have HK2 := Lib.hid (HK.out.below hb1); clear hb1; rw [h2])
       | (refine wpList_lda rfl rfl rfl (HK2.out.2 _ Tw.m0) Tryz.underlying76 rfl size65 ?_)
       | (refine wpList_lda rfl rfl rfl (HK2.out.2 _ Tw.m1) Tryz.underlying76 rfl size65 ?_)
       | (go_at_call 85; refine (minus_any b a HN.out.2.2 (Nat.le_of_lt H1.out) _).mono ?_; rintro e w2 ⟨rfl, hb1⟩; have HK3 := Lib.hid (HK2.out.below hb1); clear hb1; unfold wid)
       | (refine wpList_sta (f := dg (b - a)) (f' := fun _ => 0) rfl rfl rfl rfl (HK3.out.2 _ Tw.m2) size65 ?_))
     refine bodyPost_ret (res_tmp_cell rfl rfl (setRow_heap _ _ _ _ _ _ (HK3.out.2 _ Tw.m2)) Tryz.underlying76 rfl (by rw [size65, fa_size])) rfl ⟨?_, below_setRow HK3.out.1 Tw.om _⟩
     rw [V1.out, V2.out]; rfl
   · obtain ⟨v1, v2⟩ := HV.out.2 h1
     have V1 := Lib.hid v1
     have V2 := Lib.hid v2
     have H1 := Lib.hid h2
     clear HC HV v1 v2 h1 h2
     rcases h3 with h3 | h3
     all_goals
       go_wp2_with (first
         | (refine wpList_lda rfl rfl rfl (HK.out.2 _ Tw.m0) Tryz.underlying76 rfl size65 ?_)
         | (refine wpList_lda rfl rfl rfl (HK.out.2 _ Tw.m1) Tryz.underlying76 rfl size65 ?_)
         | (go_at_call 84; refine (compare_any a b HN.out.2.1 HN.out.2.2 _).mono ?_; rintro e w1 ⟨rfl, hb1⟩; have HK2 := Lib.hid (HK.out.below hb1); clear hb1; rw [h3])
         | (refine wpList_lda rfl rfl rfl (HK2.out.2 _ Tw.m0) Tryz.underlying76 rfl size65 ?_)
         | (refine wpList_lda rfl rfl rfl (HK2.out.2 _ Tw.m1) Tryz.underlying76 rfl size65 ?_)
         | (go_at_call 85; refine (minus_any a b HN.out.2.1 H1.out _).mono ?_; rintro e w2 ⟨rfl, hb1⟩; have HK3 := Lib.hid (HK2.out.below hb1); clear hb1; unfold wid)
         | (refine wpList_sta (f := dg (a - b)) (f' := fun _ => 0) rfl rfl rfl rfl (HK3.out.2 _ Tw.m2) size65 ?_))
       refine bodyPost_ret (res_tmp_cell rfl rfl (setRow_heap _ _ _ _ _ _ (HK3.out.2 _ Tw.m2)) Tryz.underlying76 rfl (by rw [size65, fa_size])) rfl ⟨?_, below_setRow HK3.out.1 Tw.om _⟩
       rw [V1.out, V2.out]; rfl
end Go.Proofs.YtalmflgkbmnghaaGreatDoor
