import Derived.Test.YtkfcikijmkgahaaDoorG02
/- Part of the proof: Tm, St, Gu. -/
set_option linter.unusedVariables false
set_option linter.unusedSimpArgs false
set_option linter.unusedSectionVars false
namespace Go.Proofs.YtkfcikijmkgahaaDoor
open Go.RowKit Tw

theorem times_last {P x y c i n : Nat} (hy : y < R n) (hP : P < R (i + n)) (inv : P + c * R (i + n) = x % R i * y + dg x i * (y % R n) * R i) : setd P (i + n) c = x % R (i + 1) * y := by
  have h1 := setd_eq P (i + n) c
  rw [dg_of_lt hP, Nat.zero_mul, Nat.add_zero, inv, Nat.mod_eq_of_lt hy] at h1
  rw [h1, mod_succ]
  grind
theorem mulbd {x y : Nat} (hx : x < 4294967296) (hy : y < 4294967296) : (0 : Int) ≤ (x : Int) * y ∧ (x : Int) * y ≤ 18446744065119617025 := by
  have h : x * y ≤ 4294967295 * 4294967295 := Nat.mul_le_mul (by omega) (by omega)
  have e : (x : Int) * y = ((x * y : Nat) : Int) := by simp
  rw [e]; omega

set_option maxRecDepth 100000 in
set_option maxHeartbeats 1000000 in
theorem times_any (a b : Nat) (ha : a < R 8) (hb : b < R 8) (w : World) :
    Calls Tryd.prog 35 #[num a, num b] w fun e w' => e = .returned (wid (a * b)) ∧ Below w.heap.size w w' := by
  unfold num wid
  go_enter Tryd.func35, Tryd.ntmps35
  go_wp2
  obtain ⟨W, hW⟩ : ∃ W, W = (((w.alloc (.cells (fa 8 (dg a)) 24)).alloc (.cells (fa 8 (dg b)) 24)).alloc (.cells (fa 18 (fun _ => 0)) 59)).alloc (.cells (fa 18 (fun _ => 0)) 59) := ⟨_, rfl⟩
  have hh := heap4 w (.cells (fa 8 (dg a)) 24) (.cells (fa 8 (dg b)) 24) (.cells (fa 18 (fun _ => 0)) 59) (.cells (fa 18 (fun _ => 0)) 59)
  have hB := below4 w (.cells (fa 8 (dg a)) 24) (.cells (fa 8 (dg b)) 24) (.cells (fa 18 (fun _ => 0)) 59) (.cells (fa 18 (fun _ => 0)) 59)
  rw [fa_zero18] at hW
  rw [← hW]
  rw [fa_zero18, ← hW, ← fa_zero18] at hh
  rw [fa_zero18, ← hW] at hB
  clear hW
  obtain ⟨e0, e1, e2, e3⟩ := hh
  have E0 := Lib.hid e0
  have E1 := Lib.hid e1
  have E2 := Lib.hid e2
  have E3 := Lib.hid e3
  clear e0 e1 e2 e3
  have m0 := ln_le (dg a) 8
  have n0 := ln_le (dg b) 8
  have HM := Lib.hid (ln_lt 8 ha)
  have HN := Lib.hid (ln_lt 8 hb)
  go_quiet ((go_at_call 40; exact quiet_left (length_any _ 0 8 8 (dg _) _ (by omega) (fun i hi => by rw [Nat.zero_add]; first | exact blk_cell E0.out hi | exact blk_cell E1.out hi))))
  generalize ln (dg a) 8 = m at *
  generalize ln (dg b) 8 = n at *
  go_wp2
  go_loopw [17] (fun i wr => ∃ k P : Nat, k ≤ m ∧ Hid (P = a % R k * b) ∧ P < R (k + n) ∧ i = .int .i64 k ∧ Below w.heap.size w wr ∧
      wr.heap[w.heap.size]? = some (.cells (fa 8 (dg a)) 24 (0, 0)) ∧ wr.heap[w.heap.size + 1]? = some (.cells (fa 8 (dg b)) 24 (0, 0)) ∧ wr.heap[w.heap.size + 1 + 1]? = some (.cells (fa 18 (fun _ => 0)) 59 (0, 0)) ∧
      wr.heap[w.heap.size + 1 + 1 + 1]? = some (.cells (fa 18 (dg P)) 59 (0, 0)))
    (fun i _ => m - (intOf i).toNat)
  case atStart =>
    exact ⟨0, 0, Nat.zero_le _, by unfold Hid; rw [R_zero, Nat.mod_one, Nat.zero_mul], R_pos _, rfl, belowN hB _, E0.out, E1.out, E2.out, by rw [← fa_dg0]; exact E3.out⟩
  case round =>
    obtain ⟨k, P, hk, he, hP, rfl, hB, e0, e1, e2, e3⟩ := hrel
    have E0 := Lib.hid e0
    have E1 := Lib.hid e1
    have E2 := Lib.hid e2
    have E3 := Lib.hid e3
    clear e0 e1 e2 e3
    by_cases hlt : k < m
    · have hk8 : (k : Int) < 8 := by omega
      go_wp2
      go_loopw [9, 21] (fun c j wr => ∃ q c0 P : Nat, q ≤ n ∧ c0 < 4294967296 ∧ Hid (P + c0 * R (k + q) = a % R k * b + dg a k * (b % R q) * R k) ∧ P < R (k + n) ∧ c = .int .u64 c0 ∧ j = .int .i64 q ∧ Below w.heap.size w wr ∧
          wr.heap[w.heap.size]? = some (.cells (fa 8 (dg a)) 24 (0, 0)) ∧ wr.heap[w.heap.size + 1]? = some (.cells (fa 8 (dg b)) 24 (0, 0)) ∧ wr.heap[w.heap.size + 1 + 1]? = some (.cells (fa 18 (fun _ => 0)) 59 (0, 0)) ∧
          wr.heap[w.heap.size + 1 + 1 + 1]? = some (.cells (fa 18 (dg P)) 59 (0, 0)))
        (fun _ j _ => n - (intOf j).toNat)
      case atStart =>
        exact ⟨0, 0, P, Nat.zero_le _, by omega, by unfold Hid; rw [R_zero, Nat.mod_one, Nat.mul_zero, Nat.zero_mul, Nat.zero_mul]; exact congrArg (· + 0) he.out, hP, rfl, rfl, hB, E0.out, E1.out, E2.out, E3.out⟩
      case round =>
        obtain ⟨q, c0, P', hq, hc, he', hP', rfl, rfl, hB', e0, e1, e2, e3⟩ := hrel
        by_cases hlq : q < n
        · have hq8 : (q : Int) < 8 := by omega
          have hkq : (k : Int) + q < 18 := by omega
          have h1 := blk_cell e0 (i := k) (by omega)
          have h2 := blk_cell e1 (i := q) (by omega)
          have h3 := blk_cell e3 (i := k + q) (by omega)
          have h4 : wr.frozen? ⟨w.heap.size + 1 + 1 + 1, k + q, none⟩ = false := blk_free e3
          have b1 := dg_lt a k
          have b2 := dg_lt b q
          have b3 := dg_lt P' (k + q)
          obtain ⟨b4, b5⟩ := mulbd b1 b2
          have F0 := Lib.hid e0
          have F1 := Lib.hid e1
          have F2 := Lib.hid e2
          have F3 := Lib.hid e3
          clear e0 e1 e2 e3
          go_wp2
          go_quiet (fail)
          go_wp2
          go_roundw
          case rel =>
            obtain ⟨t, ht⟩ : ∃ t, t = dg a k * dg b q + dg P' (k + q) + c0 := ⟨_, rfl⟩
            have e : (dg a k : Int) * dg b q + dg P' (k + q) + c0 = (t : Int) := by rw [ht]; simp
            have hb := fits64 b1 b2 b3 hc
            rw [← ht] at hb
            have hv : t % 4294967296 < 4294967296 := Nat.mod_lt _ (by omega)
            rw [e, show (t : Int) % 4294967296 = ((t % 4294967296 : Nat) : Int) from by omega]
            refine ⟨q + 1, t / 4294967296, setd P' (k + q) (t % 4294967296), by omega, by omega, ?_, setd_lt hP' (by omega) hv, ?_, by go_num, ?_, ?_, ?_, ?_, ?_⟩
            · exact times_step he'.out (by omega)
            · exact congrArg (Value.int .u64) (by omega)
            · exact (belowN hB' _).setCell (by simp; omega) _
            · rw [heap_setCell_other _ _ _ _ (by simp; omega)]; exact F0.out
            · rw [heap_setCell_other _ _ _ _ (by simp)]; exact F1.out
            · rw [heap_setCell_other _ _ _ _ (by simp)]; exact F2.out
            · exact blk_set (w := wr.drewN _) F3.out (by omega) hv
          case measure => (simp [intOf] <;> omega)
        · obtain rfl : q = n := by omega
          have hkq : (k : Int) + q < 18 := by omega
          have h3 := blk_cell e3 (i := k + q) (by omega)
          have h4 : wr.frozen? ⟨w.heap.size + 1 + 1 + 1, k + q, none⟩ = false := blk_free e3
          have F0 := Lib.hid e0
          have F1 := Lib.hid e1
          have F2 := Lib.hid e2
          have F3 := Lib.hid e3
          clear e0 e1 e2 e3
          go_wp2
          go_roundw
          case rel =>
            refine ⟨k + 1, setd P' (k + q) c0, by omega, times_last HN.out hP' he'.out, ?_, by go_num, ?_, ?_, ?_, ?_, ?_⟩
            · exact setd_lt (lt_R_of_le hP' (by omega)) (by omega) hc
            · exact hB'.setCell (by simp; omega) _
            · rw [heap_setCell_other _ _ _ _ (by simp; omega)]; exact F0.out
            · rw [heap_setCell_other _ _ _ _ (by simp)]; exact F1.out
            · rw [heap_setCell_other _ _ _ _ (by simp)]; exact F2.out
            · exact blk_set F3.out (by omega) hc
          case measure => (simp [intOf] <;> omega)
    · obtain rfl : k = m := by omega
      have hfin : P = a * b := by rw [he.out, Nat.mod_eq_of_lt HM.out]
      subst hfin
      obtain ⟨d, hu, hd⟩ := under65
      go_wp2_with (first
        | (refine wpList_lda rfl rfl rfl E3.out hu hd size65 ?_)
        | (refine wpList_sta rfl rfl rfl rfl E2.out size65 ?_))
      exact bodyPost_ret (res_cell rfl rfl (setRow_heap _ _ _ _ _ _ E2.out) hu hd (by rw [size65, fa_size])) rfl ⟨rfl, below_setRow hB (by omega) _⟩
end Go.Proofs.YtkfcikijmkgahaaDoor
namespace Go.Proofs.YtkfcikijmkgahaaDoor
open Go.RowKit Tw

/-- a part of a number from digit j on -/
theorem dg_part {X m j i : Nat} (hm : m < R j) : dg (X * R j + m) (j + i) = dg X i := by
  rw [← dg_div, Nat.mul_comm, Nat.mul_add_div (R_pos j), Nat.div_eq_of_lt hm, Nat.add_zero]
theorem setd_part {X m j i v : Nat} (hm : m < R j) : setd (X * R j + m) (j + i) v = setd X i v * R j + m := by
  have h1 := setd_eq (X * R j + m) (j + i) v
  have h2 := setd_eq X i v
  rw [dg_part hm, R_add] at h1
  have h3 : (setd X i v + dg X i * R i) * R j = (X + v * R i) * R j := by rw [h2]
  rw [Nat.add_mul, Nat.add_mul, Nat.mul_assoc, Nat.mul_assoc, Nat.mul_comm (R i) (R j)] at h3
  generalize dg X i * (R j * R i) = y at *
  generalize v * (R j * R i) = z at *
  generalize setd X i v * R j = u at *
  generalize X * R j = t at *
  omega
theorem sub_facts {x l d c b : Nat} (hx : x < 4294967296) (hl : l < 4294967296) (hd : d < 4294967296) (hc : c < 4294967296) (hb : b ≤ 1) :
    ∃ v q c' b' : Nat, v < 4294967296 ∧ q < 4294967296 ∧ c' < 4294967296 ∧ b' ≤ 1 ∧ q + c' * 4294967296 = l * d + c ∧ v + q + b = x + b' * 4294967296 ∧
      ((l : Int) * d + c) / 4294967296 = c' ∧ 
      bits .and .u64 ((l : Int) * d + c) 4294967295 = q ∧
      IntKind.u64.wrap (IntKind.u64.wrap ((x : Int) - q) - b) % 4294967296 = v ∧ IntKind.u64.wrap (IntKind.u64.wrap ((x : Int) - q) - b) / 9223372036854775808 = b' := by
  have hb64 := fits64 hl hd hc (show 0 < 4294967296 by omega)
  have e : (l : Int) * d + c = ((l * d + c : Nat) : Int) := by simp
  rw [e]
  rw [Nat.add_zero] at hb64
  generalize l * d + c = n at *
  have hq : n % 4294967296 < 4294967296 := Nat.mod_lt _ (by omega)
  obtain ⟨v, b', hv, hb', h1, h2, h3⟩ := sub_limb hx hq hb
  have hand := Nat.and_two_pow_sub_one_eq_mod n 32
  rw [show (2 : Nat) ^ 32 - 1 = 4294967295 from rfl, show (2 : Nat) ^ 32 = 4294967296 from rfl] at hand
  refine ⟨v, n % 4294967296, n / 4294967296, b', hv, hq, by omega, hb', by omega, h1, rfl, ?_, h2, h3⟩
  rw [show (4294967295 : Int) = ((4294967295 : Nat) : Int) from rfl, u64_and_nat _ _ (by omega) (by omega), hand]

set_option maxRecDepth 100000 in
set_option maxHeartbeats 1000000 in
theorem subtractTimes_any (b j d n cap cap' A D l N T T' : Nat) (hn : 2 ≤ n) (hn8 : n ≤ 8) (hN : j + n < N) (hN18 : N ≤ 18) (hA : A < R (j + (n + 1))) (hD : D < R n) (hD0 : 0 < D) (hl : l < 4294967296)
    (hl1 : A / R j / D ≤ l) (hl2 : l ≤ A / R j / D + 1) (hbd : b ≠ d) (w : World)
    (h0 : w.heap[b]? = some (.cells (fa N (dg A)) T (0, 0))) (h1 : w.heap[d]? = some (.cells (fa 8 (dg D)) T' (0, 0))) :
    Calls Tryd.prog 74 #[.slice (some ⟨b, j, none⟩) (n + 1) cap, .slice (some ⟨d, 0, none⟩) n cap', .int .u64 l] w
      fun e w' => e = .returned (.int .u32 ((A / R j / D : Nat) : Int)) ∧ w'.heap[b]? = some (.cells (fa N (dg (A / R j % D * R j + A % R j))) T (0, 0)) ∧ w.grownBy w' (some b) := by
  obtain ⟨m, hm⟩ : ∃ m, m = A % R j := ⟨_, rfl⟩
  obtain ⟨p, hp⟩ : ∃ p, p = A / R j := ⟨_, rfl⟩
  have hmR : m < R j := by rw [hm]; exact mod_lt_R _ _
  have hpR : p < R (n + 1) := by
    rw [hp, Nat.div_lt_iff_lt_mul (R_pos j), ← R_add, Nat.add_comm]; exact hA
  have hAp : A = p * R j + m := by
    rw [hp, hm, Nat.mul_comm]; exact (Nat.div_add_mod A (R j)).symm
  rw [← hm, ← hp]
  rw [← hp] at hl1 hl2
  rw [hAp] at h0
  clear hm hp hAp hA
  have H0 := Lib.hid h0
  have H1 := Lib.hid h1
  have HL1 := Lib.hid hl1
  have HL2 := Lib.hid hl2
  clear h0 h1 hl1 hl2
  go_enter Tryd.func74, Tryd.ntmps74
  go_wp2
  go_loopw [8, 9, 22] (fun x y i wr => ∃ k c0 b0 X : Nat, k ≤ n ∧ c0 < 4294967296 ∧ b0 ≤ 1 ∧ Hid (X + l * (D % R k) = p + (c0 + b0) * R k) ∧ X < R (n + 1) ∧ x = .int .u64 c0 ∧ y = .int .u64 b0 ∧ i = .int .i64 k ∧ w.grownBy wr (some b) ∧
      wr.heap[b]? = some (.cells (fa N (dg (X * R j + m))) T (0, 0)) ∧ wr.heap[d]? = some (.cells (fa 8 (dg D)) T' (0, 0)))
    (fun _ _ i _ => n - (intOf i).toNat)
  case atStart =>
    refine ⟨0, 0, 0, p, Nat.zero_le _, by omega, by omega, ?_, hpR, rfl, rfl, rfl, World.grownBy.refl w _, H0.out, H1.out⟩
    unfold Hid; rw [R_zero, Nat.mod_one]; omega
  case round =>
    obtain ⟨k, c0, b0, X, hk, hc, hb, he, hX, rfl, rfl, rfl, hB, e0, e1⟩ := hrel
    by_cases hlt : k < n
    · have c1 := blk_cell e0 (i := j + k) (by omega)
      rw [dg_part hmR] at c1
      have c2 := blk_cell e1 (i := k) (by omega)
      have c3 : wr.frozen? ⟨b, j + k, none⟩ = false := blk_free e0
      have b1 := dg_lt X k
      have b2 := dg_lt D k
      obtain ⟨b4, b5⟩ := mulbd hl b2
      obtain ⟨v, q, c', b', hv, hq, hc', hb', g1, g2, g3, g4, g5, g6⟩ := sub_facts b1 hl b2 hc hb
      have G5 := Lib.hid g5
      have G6 := Lib.hid g6
      have G1 := Lib.hid g1
      have G2 := Lib.hid g2
      clear g1 g2 g5 g6
      have E0 := Lib.hid e0
      have E1 := Lib.hid e1
      clear e0 e1
      go_wp2
      go_roundw
      case rel =>
        rw [G5.out, G6.out]
        refine ⟨k + 1, c', b', setd X k v, by omega, hc', hb', sub_step he.out G1.out (by have := G2.out; omega), setd_lt hX (by omega) hv, rfl, rfl, by go_num, only_setCell hB _, ?_, ?_⟩
        · rw [blk_set E0.out (by omega) hv, setd_part hmR]
        · rw [heap_setCell_other _ _ _ _ (fun h => hbd h.symm)]; exact E1.out
      case measure => (simp [intOf] <;> omega)
    · obtain rfl : k = n := by omega
      have c1 := blk_cell e0 (i := j + k) (by omega)
      rw [dg_part hmR] at c1
      have c3 : wr.frozen? ⟨b, j + k, none⟩ = false := blk_free e0
      have b1 := dg_lt X k
      obtain ⟨v, b', hv, hb', g1, g2, g3⟩ := sub_limb b1 hc hb
      have hX2 : setd X k v < R (k + 1) := setd_lt hX (by omega) hv
      have HS : Hid (setd X k v + l * D = p + b' * R (k + 1)) := sub_last hD he.out (by omega)
      have F0 : Hid ((wr.setCell ⟨b, j + k, none⟩ (.int .u32 v)).heap[b]? = some (.cells (fa N (dg (setd X k v * R j + m))) T (0, 0))) := by
        unfold Hid; rw [blk_set e0 (by omega) hv, setd_part hmR]
      have F1 : Hid ((wr.setCell ⟨b, j + k, none⟩ (.int .u32 v)).heap[d]? = some (.cells (fa 8 (dg D)) T' (0, 0))) := by
        unfold Hid; rw [heap_setCell_other _ _ _ _ (fun h => hbd h.symm)]; exact e1
      have HB2 : Hid (w.grownBy (wr.setCell ⟨b, j + k, none⟩ (.int .u32 v)) (some b)) := only_setCell hB _
      have G2 := Lib.hid g2
      have G3 := Lib.hid g3
      clear g1 g2 g3 e0 e1 he
      rcases Nat.eq_zero_or_pos b' with hz | hz
      · have hfin := sub_right (X := setd X k v) (P := p) (D := D) (l := l) (by have := HS.out; rw [hz, Nat.zero_mul] at this; omega) HL1.out hD0
        obtain ⟨f1, f2⟩ := hfin
        have FF1 := Lib.hid f1
        have FF2 := Lib.hid f2
        have G3' : Hid (IntKind.u64.wrap (IntKind.u64.wrap ((dg X k : Int) - c0) - b0) / 9223372036854775808 = 0) := by unfold Hid; rw [G3.out, hz]; rfl
        have g3 := G3'.out
        have g2 := G2.out
        clear f1 f2 G3 hz HS
        go_wp2
        go_ret
        exact ⟨ret_int (by rw [← FF1.out]), by rw [← FF2.out]; exact F0.out, HB2.out⟩
      · obtain rfl : b' = 1 := by omega
        have g3 := G3.out
        have g2 := G2.out
        obtain ⟨X', hX'⟩ : ∃ X', X' = setd X k v := ⟨_, rfl⟩
        rw [← hX'] at hX2 HS F0
        clear G3 hX'
        have g3' : IntKind.u64.wrap (IntKind.u64.wrap ((dg X k : Int) - c0) - b0) / 9223372036854775808 = 1 := g3
        clear g3
        go_wp2
        generalize wr.setCell ⟨b, j + k, none⟩ (.int .u32 v) = W at *
        clear hB hc hb g3' b1
        go_loopw [8, 74] (fun x i wr => ∃ q c0 Y : Nat, q ≤ k ∧ c0 ≤ 1 ∧ Hid (Y + c0 * R q = X' + D % R q) ∧ Y < R (k + 1) ∧ x = .int .u64 c0 ∧ i = .int .i64 q ∧ w.grownBy wr (some b) ∧
            wr.heap[b]? = some (.cells (fa N (dg (Y * R j + m))) T (0, 0)) ∧ wr.heap[d]? = some (.cells (fa 8 (dg D)) T' (0, 0)))
          (fun _ i _ => k - (intOf i).toNat)
        case atStart =>
          refine ⟨0, 0, X', Nat.zero_le _, by omega, ?_, hX2, rfl, rfl, HB2.out, F0.out, F1.out⟩
          unfold Hid; rw [R_zero, Nat.mod_one, Nat.zero_mul]
        case round =>
          obtain ⟨q, cc, Y, hq, hc, he, hY, rfl, rfl, hB, e0, e1⟩ := hrel
          by_cases hlt : q < k
          · have d1 := blk_cell e0 (i := j + q) (by omega)
            rw [dg_part hmR] at d1
            have d2 := blk_cell e1 (i := q) (by omega)
            have d3 : wr.frozen? ⟨b, j + q, none⟩ = false := blk_free e0
            have b1 := dg_lt Y q
            have b2 := dg_lt D q
            have E0 := Lib.hid e0
            have E1 := Lib.hid e1
            clear e0 e1
            go_wp2
            go_roundw
            case rel =>
              obtain ⟨t, ht⟩ : ∃ t, t = dg Y q + dg D q + cc := ⟨_, rfl⟩
              have hv2 : t % 4294967296 < 4294967296 := Nat.mod_lt _ (by omega)
              have et : ((dg Y q : Int) + dg D q + cc) = (t : Int) := by omega
              rw [et, show (t : Int) % 4294967296 = ((t % 4294967296 : Nat) : Int) from rfl]
              refine ⟨q + 1, t / 4294967296, setd Y q (t % 4294967296), by omega, by omega, plus_step he.out (by omega), setd_lt hY (by omega) hv2, ?_, by go_num, only_setCell hB _, ?_, ?_⟩
              · exact congrArg (Value.int .u64) (by omega)
              · rw [blk_set E0.out (by omega) hv2, setd_part hmR]
              · rw [heap_setCell_other _ _ _ _ (fun h => hbd h.symm)]; exact E1.out
            case measure => (simp [intOf] <;> omega)
          · obtain rfl : q = k := by omega
            have d1 := blk_cell e0 (i := j + q) (by omega)
            rw [dg_part hmR] at d1
            have d3 : wr.frozen? ⟨b, j + q, none⟩ = false := blk_free e0
            have b1 := dg_lt Y q
            have E0 := Lib.hid e0
            clear e0 e1
            have hl0 : 1 ≤ l := by
              rcases Nat.eq_zero_or_pos l with h | h
              · exfalso
                have h1 := HS.out
                rw [h, Nat.zero_mul, Nat.one_mul] at h1
                omega
              · exact h
            have HE := he
            go_wp2
            obtain ⟨t, ht⟩ : ∃ t, t = dg Y q + cc := ⟨_, rfl⟩
            have hv2 : t % 4294967296 < 4294967296 := Nat.mod_lt _ (by omega)
            have hst : setd Y q (t % 4294967296) + t / 4294967296 * R (q + 1) = X' + D := by
              have h := plus_step (v := t % 4294967296) (c' := t / 4294967296) HE.out (by rw [dg_of_lt hD]; omega)
              rwa [Nat.mod_eq_of_lt (lt_R_of_le hD (by omega))] at h
            obtain ⟨f1, f2⟩ := sub_wrong hX2 HS.out HL2.out hD0 hD hst (setd_lt hY (by omega) hv2)
            go_ret
            refine ⟨ret_int ?_, ?_, only_setCell hB _⟩
            · generalize p / D = z at *
              omega
            · rw [show ((dg Y q : Int) + cc) % 4294967296 = ((t % 4294967296 : Nat) : Int) from by omega, blk_set E0.out (by omega) hv2, setd_part hmR, f2]
end Go.Proofs.YtkfcikijmkgahaaDoor
namespace Go.Proofs.YtkfcikijmkgahaaDoor
open Go.RowKit Tw

theorem guess_small {l f r t : Nat} (he : l * f + r = t) (hr : 4294967296 ≤ r) (ht : t ≤ f * 4294967296 + 4294967295) : l < 4294967296 := by
  rcases Nat.lt_or_ge l 4294967296 with h | h
  · exact h
  · have := Nat.mul_le_mul_right f h
    omega
theorem guess_over {l r sd u : Nat} (hl : l < 4294967296) (hs : sd < 4294967296) (hr : 4294967296 ≤ r) : ¬ r * 4294967296 + u < l * sd := by
  have : l * sd ≤ 4294967295 * 4294967295 := Nat.mul_le_mul (by omega) (by omega)
  omega
/-- the guess behind the loop -/
theorem guess_end {p D k l f r t sd u : Nat} (he : l * f + r = t) (hD : D / R k = f * 4294967296 + sd) (hP : p / R k = t * 4294967296 + u) (hf : 1 ≤ f) (hl : l < 4294967296) (hc : ¬ r * 4294967296 + u < l * sd) : l ≤ p / D + 1 :=
  guess_most hl (by rw [hD]; omega) (Nat.le_of_not_lt fun h => hc ((guess_cond he hD hP).2 h))
theorem guess_great {p D k l f r t sd u : Nat} (he : l * f + r = t) (hD : D / R k = f * 4294967296 + sd) (hP : p / R k = t * 4294967296 + u) (hc : r * 4294967296 + u < l * sd) : p / D < l :=
  guess_more ((guess_cond he hD hP).1 hc)
theorem guess_down {l f r t : Nat} (he : l * f + r = t) (hl : 0 < l) : (l - 1) * f + (r + f) = t := by
  obtain ⟨x, rfl⟩ : ∃ x, l = x + 1 := ⟨l - 1, by omega⟩
  rw [Nat.add_sub_cancel]
  rw [Nat.add_mul, Nat.one_mul] at he
  omega

def GuessIs (p D : Nat) (w : World) (e : Ending) (w' : World) : Prop := ∃ l : Nat, p / D ≤ l ∧ l ≤ p / D + 1 ∧ l < 4294967296 ∧ e = .returned (.int .u64 l) ∧ Below w.heap.size w w'

set_option maxRecDepth 20000 in
set_option maxHeartbeats 1000000 in
theorem guess_any (b j d n cap cap' p D : Nat) (hn : 2 ≤ n) (hn8 : n ≤ 8) (hp : p < R (n + 1)) (hD : D < R n) (hDh : 2147483648 * R (n - 1) ≤ D) (hpD : p < D * 4294967296) (w : World)
    (h0 : ∀ i, i ≤ n → w.cell? ⟨b, j + i, none⟩ = some (.int .u32 (dg p i))) (h1 : ∀ i, i < n → w.cell? ⟨d, i, none⟩ = some (.int .u32 (dg D i))) :
    Calls Tryd.prog 75 #[.slice (some ⟨b, j, none⟩) (n + 1) cap, .slice (some ⟨d, 0, none⟩) n cap'] w (GuessIs p D w) := by
  obtain ⟨k, rfl⟩ : ∃ k, n = k + 2 := ⟨n - 2, by omega⟩
  have c0 := h0 k (by omega)
  have c1 := h0 (k + 1) (by omega)
  have c2 := h0 (k + 2) (by omega)
  have d0 := h1 k (by omega)
  have d1 := h1 (k + 1) (by omega)
  clear h0 h1
  have p0 := dg_lt p k
  have p1 := dg_lt p (k + 1)
  have p2 := dg_lt p (k + 2)
  have q0 := dg_lt D k
  have q1 := dg_lt D (k + 1)
  have q2 : 2147483648 ≤ dg D (k + 1) := by
    have h := div_one (x := D) (k := k + 1) hD
    rw [← h, Nat.le_div_iff_mul_le (R_pos _)]
    exact hDh
  have hD0 : 0 < D := by
    have := Nat.mul_le_mul_left 2147483648 (R_pos (k + 1))
    have h2 : 2147483648 * R (k + 1) ≤ D := hDh
    omega
  have hqlt : p / D < 4294967296 := by rw [Nat.div_lt_iff_lt_mul hD0, Nat.mul_comm]; exact hpD
  have hf1 : D / R (k + 1) = dg D (k + 1) := div_one hD
  have hf2 : D / R k = dg D (k + 1) * 4294967296 + dg D k := div_two hD
  have ht1 : p / R (k + 1) = dg p (k + 2) * 4294967296 + dg p (k + 1) := div_two hp
  have ht2 : p / R k = (dg p (k + 2) * 4294967296 + dg p (k + 1)) * 4294967296 + dg p k := div_three hp
  have hp2 : dg p (k + 2) ≤ dg D (k + 1) := by
    have h1 : p / R (k + 2) = dg p (k + 2) := div_one hp
    rw [← h1, ← hf1]
    have h2 : D < (D / R (k + 1) + 1) * R (k + 1) := by
      have := Nat.lt_div_mul_add (a := D) (R_pos (k + 1))
      rw [Nat.add_mul, Nat.one_mul]; omega
    have h3 : p < (D / R (k + 1) + 1) * R (k + 2) := by
      have h4 : R (k + 2) = 4294967296 * R (k + 1) := R_succ (k + 1)
      have h5 : (D / R (k + 1) + 1) * R (k + 2) = (D / R (k + 1) + 1) * R (k + 1) * 4294967296 := by rw [h4]; grind
      have h6 : D * 4294967296 ≤ (D / R (k + 1) + 1) * R (k + 1) * 4294967296 := Nat.mul_le_mul_right _ (Nat.le_of_lt h2)
      omega
    have := (Nat.div_lt_iff_lt_mul (R_pos (k + 2))).2 h3
    omega
  have hfirst : p / D ≤ p / R (k + 1) / (D / R (k + 1)) := guess_first (by rw [hf1]; omega)
  rw [ht1, hf1] at hfirst
  have hor := or64 p1 p2
  obtain ⟨f, hf⟩ : ∃ f, f = dg D (k + 1) := ⟨_, rfl⟩
  obtain ⟨t, ht⟩ : ∃ t, t = dg p (k + 2) * 4294967296 + dg p (k + 1) := ⟨_, rfl⟩
  obtain ⟨sd, hsd⟩ : ∃ sd, sd = dg D k := ⟨_, rfl⟩
  have htb : t ≤ f * 4294967296 + 4294967295 := by omega
  have ht64 : t < 18446744073709551616 := by omega
  rw [← ht] at hor ht2 hfirst
  rw [← hf] at hf2 hfirst q2 q1 d1
  rw [← hsd] at hf2 d0 q0
  have hl0 : t / f ≤ 4294967297 := by
    have : t / f < 4294967298 := by rw [Nat.div_lt_iff_lt_mul (by omega)]; omega
    omega
  have HF2 := Lib.hid hf2
  have HT2 := Lib.hid ht2
  have HQ := Lib.hid hfirst
  have HQL := Lib.hid hqlt
  have HL0 := Lib.hid hl0
  have hf0 : ((f : Int) != 0) = true := by simp; omega
  clear hf2 ht2 hf ht hsd hfirst hqlt hf1 ht1 hl0
  go_enter Tryd.func75, Tryd.ntmps75
  go_wp2
  go_quiet (fail)
  go_wp2
  go_quiet (fail)
  go_wp2
  go_quiet (fail)
  go_wp2
  go_loopw [9, 10] (fun x y wr => ∃ l r : Nat, Hid (l * f + r = t) ∧ Hid (p / D ≤ l) ∧ l ≤ 4294967297 ∧ r < 4294967296 ∧ x = .int .u64 l ∧ y = .int .u64 r ∧ Below w.heap.size w wr) (fun x _ _ => (intOf x).toNat)
  case atStart =>
    have e1 : IntKind.u64.wrap ((t : Int) / (f : Int)) = ((t / f : Nat) : Int) := by
      rw [show (t : Int) / (f : Int) = ((t / f : Nat) : Int) from rfl]
      have := HL0.out
      generalize t / f = v at *
      simp only [IntKind.wrap_u64]; omega
    rw [e1]
    have h1 := Nat.div_add_mod t f
    rw [Nat.mul_comm] at h1
    have h2 := Nat.mod_lt t (show 0 < f by omega)
    exact ⟨t / f, t % f, h1, HQ, HL0.out, by omega, rfl, rfl, belowN (belowN (belowN (Below.refl _ _) _) _) _⟩
  case round =>
    obtain ⟨l, r, he, hql, hl, hr, rfl, rfl, hBw⟩ := hrel
    have cw := (hBw.cell (p := ⟨b, j + k, none⟩) (block_lt_of_cell c0)).trans c0
    clear c0 c1 c2 d0 d1
    have hor2 := or64 p0 hr
    obtain ⟨u, hu⟩ : ∃ u, u = r * 4294967296 + dg p k := ⟨_, rfl⟩
    rw [← hu] at hor2
    have HU := Lib.hid hu
    clear hu
    have hf1 : 1 ≤ f := by omega
    have HTB := Lib.hid htb
    have HF1 := Lib.hid hf1
    have HP0 := Lib.hid p0
    have hl' : (l : Int) ≤ 4294967297 := by omega
    have hsum : (r : Int) + f < 18446744073709551616 := by omega
    have HSUM : ∀ c : Bool, decide (4294967296 ≤ r + f) = c → Hid (decide ((4294967296 : Int) ≤ (r : Int) + f) = c) := by
      intro c hc; unfold Hid
      have : (4294967296 : Int) ≤ (r : Int) + f ↔ 4294967296 ≤ r + f := by omega
      simp only [this, hc]
    clear hor htb ht64 q2 p1 p2 hp2 hf1
    by_cases hB : 4294967296 ≤ l
    · have h1 : Hid (decide ((4294967296 : Int) ≤ l) = true) := by unfold Hid; simp; omega
      have HG : Hid (p / D ≤ l - 1) := Nat.le_sub_one_of_lt (Nat.lt_of_lt_of_le HQL.out hB)
      have HE : Hid ((l - 1) * f + (r + f) = t) := guess_down he.out (by omega)
      have hlp : (1 : Int) ≤ l := by omega
      have HL : Hid (l - 1 ≤ 4294967297) := by unfold Hid; omega
      clear hB hl hor2 HU
      by_cases hb : 4294967296 ≤ r + f
      · have h2 := HSUM true (by simpa using hb)
        have HBB := Lib.hid hb
        clear HSUM hb
        go_wp2_with (first | (refine wpList_geq rfl true rfl rfl rfl h1.out ?_) | (refine wpList_geq rfl true rfl rfl rfl h2.out ?_; go_simp))
        go_ret
        have hs := guess_small HE.out HBB.out HTB.out
        exact ⟨l - 1, HG.out, guess_end HE.out HF2.out HT2.out HF1.out hs (guess_over hs q0 HBB.out), hs, ret_int (by omega), hBw⟩
      · have h2 := HSUM false (by simpa using hb)
        have HBB : Hid (r + f < 4294967296) := by unfold Hid; omega
        clear HSUM hb
        go_wp2_with (first | (refine wpList_geq rfl true rfl rfl rfl h1.out ?_) | (refine wpList_geq rfl false rfl rfl rfl h2.out ?_; go_simp))
        go_roundw
        case rel => first | exact ⟨l - 1, r + f, HE, HG, HL.out, HBB.out, congrArg (Value.int .u64) (by omega), congrArg (Value.int .u64) (by omega), hBw⟩ | ((repeat apply Exists.intro); exact ⟨⟨l - 1, r + f, HE, HG, HL.out, HBB.out, congrArg (Value.int .u64) (by omega), congrArg (Value.int .u64) (by omega), hBw⟩, rfl⟩)
        case measure => (simp [intOf] <;> omega)
    · have hl32 : l < 4294967296 := by omega
      have h1 : Hid (decide ((4294967296 : Int) ≤ l) = false) := by unfold Hid; simp; omega
      obtain ⟨b4, b5⟩ := mulbd hl32 q0
      have HL32 := Lib.hid hl32
      have HQ0 := Lib.hid q0
      clear hB hl hl32 q0
      by_cases hc : u < l * sd
      · have hc1 : ((u : Nat) : Int) < (l : Int) * sd := by
          rw [show (l : Int) * sd = ((l * sd : Nat) : Int) from by simp]; omega
        have hgr : p / D < l := guess_great he.out HF2.out HT2.out (by rw [← HU.out]; exact hc)
        have hl0 : 0 < l := Nat.lt_of_le_of_lt (Nat.zero_le _) hgr
        have HG : Hid (p / D ≤ l - 1) := Nat.le_sub_one_of_lt hgr
        have HE : Hid ((l - 1) * f + (r + f) = t) := guess_down he.out hl0
        have hlp : (1 : Int) ≤ l := by omega
        have HL : Hid (l - 1 ≤ 4294967297) := by unfold Hid; omega
        clear hc hgr hl0 HU
        by_cases hb : 4294967296 ≤ r + f
        · have h2 := HSUM true (by simpa using hb)
          have HBB := Lib.hid hb
          clear HSUM hb
          go_wp2_with (first | (refine wpList_geq rfl false rfl rfl rfl h1.out ?_) | (refine wpList_geq rfl true rfl rfl rfl h2.out ?_; go_simp))
          go_ret
          have hs := guess_small HE.out HBB.out HTB.out
          exact ⟨l - 1, HG.out, guess_end HE.out HF2.out HT2.out HF1.out hs (guess_over hs HQ0.out HBB.out), hs, ret_int (by omega), hBw⟩
        · have h2 := HSUM false (by simpa using hb)
          have HBB : Hid (r + f < 4294967296) := by unfold Hid; omega
          clear HSUM hb
          go_wp2_with (first | (refine wpList_geq rfl false rfl rfl rfl h1.out ?_) | (refine wpList_geq rfl false rfl rfl rfl h2.out ?_; go_simp))
          go_roundw
          case rel => first | exact ⟨l - 1, r + f, HE, HG, HL.out, HBB.out, congrArg (Value.int .u64) (by omega), congrArg (Value.int .u64) (by omega), hBw⟩ | ((repeat apply Exists.intro); exact ⟨⟨l - 1, r + f, HE, HG, HL.out, HBB.out, congrArg (Value.int .u64) (by omega), congrArg (Value.int .u64) (by omega), hBw⟩, rfl⟩)
          case measure => (simp [intOf] <;> omega)
      · have hc1 : decide (((u : Nat) : Int) < (l : Int) * sd) = false := by
          rw [show (l : Int) * sd = ((l * sd : Nat) : Int) from by simp]; simp; omega
        have HN : Hid (¬ r * 4294967296 + dg p k < l * sd) := by unfold Hid; rw [← HU.out]; exact hc
        clear hc HSUM HU
        go_wp2_with (first | (refine wpList_geq rfl false rfl rfl rfl h1.out ?_))
        go_ret
        exact ⟨l, hql.out, guess_end he.out HF2.out HT2.out HF1.out HL32.out HN.out, HL32.out, rfl, hBw⟩
end Go.Proofs.YtkfcikijmkgahaaDoor
