import Derived.Test.YtkfcikijmkgahaaDoorG05
import Derived.Test.YtkfcikijmkgahaaDoorG02
import Derived.WalkSpells
import Derived.Outline
/- Part of the proof: Ew, Wn, Ds, Tx. -/
set_option linter.unusedVariables false
set_option linter.unusedSimpArgs false
set_option linter.unusedSectionVars false
namespace Go.Proofs.YtkfcikijmkgahaaDoor
open Go.RowKit Tw
theorem eq65 {a b : Nat} (ha : a < R 18) (hb : b < R 18) (d D : Nat) (hD : D = d + 1 + 1) (w : World) :
    (Op.equalIn D 59 (.agg (fa 18 (dg a))) (.agg (fa 18 (dg b)))).run Tryd.prog w = .ok (decide (a = b)) w := by
  have hs : (Tryd.prog.info? 22).isSome = true := by kernel_rfl
  obtain ⟨i, hi⟩ := Option.isSome_iff_exists.1 hs
  have hu : Tryd.prog.underlying 59 = some (.array 18 22) := by kernel_rfl
  have h0 := run_equalIn_array w (d + 1) (fa 18 (dg a)) (fa 18 (dg b)) hu hi
  subst hD
  refine h0.trans ?_
  have hc : Tryd.prog.cellsOf 22 = 1 := by kernel_rfl
  rw [hc, run_eqItems_fa (by kernel_rfl) (by kernel_rfl) d 18 _ _ w _ (fun i hi => List.mem_range.1 hi)]
  refine congrArg (fun r => Result.ok r w) ?_
  rw [Bool.eq_iff_iff]
  simp only [List.all_eq_true, List.mem_range, beq_iff_eq, decide_eq_true_eq]
  exact ⟨fun h => eq_of_dg ha hb h, fun h i _ => by rw [h]⟩
theorem fa_nil18 : fa 18 (dg 0) = #[.int .u32 0, .int .u32 0, .int .u32 0, .int .u32 0, .int .u32 0, .int .u32 0, .int .u32 0, .int .u32 0, .int .u32 0, .int .u32 0, .int .u32 0, .int .u32 0, .int .u32 0, .int .u32 0, .int .u32 0, .int .u32 0, .int .u32 0, .int .u32 0] := by
  rw [← fa_zero18, fa_dg0]
@[go_sem] theorem eq65_nil {a : Nat} (ha : a < R 18) (w : World) :
    (Op.equalIn 10000 59 (.agg (fa 18 (dg a))) (.agg #[.int .u32 0, .int .u32 0, .int .u32 0, .int .u32 0, .int .u32 0, .int .u32 0, .int .u32 0, .int .u32 0, .int .u32 0, .int .u32 0, .int .u32 0, .int .u32 0, .int .u32 0, .int .u32 0, .int .u32 0, .int .u32 0, .int .u32 0, .int .u32 0])).run Tryd.prog w = .ok (decide (a = 0)) w := by
  rw [← fa_nil18]; exact eq65 ha (R_pos 18) 9998 10000 rfl w
theorem run_neq65_nil {a : Nat} {b : Bool} (ha : a < R 18) (hab : (!decide (a = 0)) = b) {x y : Operand} (w : World) : (do eqGuard .neq 59 x y (.agg (fa 18 (dg a))) (.agg #[.int .u32 0, .int .u32 0, .int .u32 0, .int .u32 0, .int .u32 0, .int .u32 0, .int .u32 0, .int .u32 0, .int .u32 0, .int .u32 0, .int .u32 0, .int .u32 0, .int .u32 0, .int .u32 0, .int .u32 0, .int .u32 0, .int .u32 0, .int .u32 0]); binOp .neq 59 (.agg (fa 18 (dg a))) (.agg #[.int .u32 0, .int .u32 0, .int .u32 0, .int .u32 0, .int .u32 0, .int .u32 0, .int .u32 0, .int .u32 0, .int .u32 0, .int .u32 0, .int .u32 0, .int .u32 0, .int .u32 0, .int .u32 0, .int .u32 0, .int .u32 0, .int .u32 0, .int .u32 0]) : Sem Value).run Tryd.prog w = .ok (.bool b) w := by
  subst hab
  go_simp
theorem wpList_bin {P : Program} {ops : Array Oper} {rest : List Oper} {o : Oper} {a : Act} {w : World} {Q : Exit → Act → World → Prop} (hgd : o.guard = none) {v vx vy : Value} {op : BinOp} {xT : TypeId} {x y : Operand} {d : TypeId}
    (ho : o.op = .binOp op xT x y d) (hx : a.eval x = vx) (hy : a.eval y = vy) (h0 : ∀ w, (do eqGuard op xT x y vx vy; binOp op xT vx vy : Sem Value).run P w = .ok v w)
    (h : wpList P ops Q rest (a.put o.dst v) w) : wpList P ops Q (o :: rest) a w :=
  wpList_plain hgd fun _ hK => by
    unfold Oper.wp
    rw [run_bin ho hx hy h0 w]
    exact hK _ _ h
end Go.Proofs.YtkfcikijmkgahaaDoor
namespace Go.Proofs.YtkfcikijmkgahaaDoor
open Go.RowKit Tw


theorem fa_src {n m : Nat} {f : Nat → Nat} {w : World} {g : Nat} {t : TypeId} (h : w.heap[g]? = some (.cells (fa n f) t (0, 0))) (hm : m ≤ n) : ∀ j v, (fa m f).toList[j]? = some v → w.cell? ((⟨g, 0, none⟩ : Addr).add j) = some v := by
  intro j v hv
  have hj : j < m := by
    have := (List.getElem?_eq_some_iff.1 hv).1
    simpa using this
  rw [Array.getElem?_toList, fa_get _ hj] at hv
  have hadd : (⟨g, 0, none⟩ : Addr).add j = ⟨g, j, none⟩ := by unfold Addr.add; split <;> simp_all
  rw [hadd, blk_cell h (by omega), hv]

set_option maxRecDepth 100000 in
set_option maxHeartbeats 400000 in
theorem widen_any (a : Nat) (ha : a < R 8) (w : World) :
    Calls Tryd.prog 37 #[num a] w fun e w' => e = .returned (wid a) ∧ Below w.heap.size w w' := by
  unfold num wid
  go_enter Tryd.func37, Tryd.ntmps37
  go_wp2
  obtain ⟨W, hW⟩ : ∃ W, W = ((w.alloc (.cells (fa 8 (dg a)) 24)).alloc (.cells (fa 18 (fun _ => 0)) 59)).alloc (.cells (fa 18 (fun _ => 0)) 59) := ⟨_, rfl⟩
  have hh := heap3 w (.cells (fa 8 (dg a)) 24) (.cells (fa 18 (fun _ => 0)) 59) (.cells (fa 18 (fun _ => 0)) 59)
  have hB := below3 w (.cells (fa 8 (dg a)) 24) (.cells (fa 18 (fun _ => 0)) 59) (.cells (fa 18 (fun _ => 0)) 59)
  rw [fa_zero18] at hW
  rw [← hW]
  rw [fa_zero18, ← hW, ← fa_zero18] at hh
  rw [fa_zero18, ← hW] at hB
  clear hW
  obtain ⟨e0, e1, e2⟩ := hh
  have E0 := Lib.hid e0
  have E1 := Lib.hid e1
  have E2 := Lib.hid e2
  clear e0 e1 e2
  have hsp := splice_zero (n := 18) (m := 8) (f := dg a) (g := fun _ => 0) (by omega) (fun i _ hi => (dg_of_lt' ha hi).symm)
  have HSP := Lib.hid hsp
  clear hsp
  go_region_law (refine step_copy_at rfl (.tmp 4) (.tmp 5) 68 68 rfl 22 under74 size24 (w.heap.size + 1 + 1) 0 18 18 _ 8 8 rfl rfl (fa 18 (fun _ => 0)) 59 E2.out (fa 8 (dg a)).toList (by rw [Array.length_toList, fa_size]; rfl) (fa_src (w := W.drew) E0.out (Nat.le_refl 8)) (by simp) fa_one ?_)
  rw [HSP.out]
  have F2 : Hid ((W.drew.setRow (w.heap.size + 1 + 1) (fa 18 (dg a))).heap[w.heap.size + 1 + 1]? = some (.cells (fa 18 (dg a)) 59 (0, 0))) := setRow_heap W.drew _ _ _ _ _ E2.out
  have F1 : Hid ((W.drew.setRow (w.heap.size + 1 + 1) (fa 18 (dg a))).heap[w.heap.size + 1]? = some (.cells (fa 18 (fun _ => 0)) 59 (0, 0))) := by
    unfold Hid; rw [setRow_other _ _ _ _ (by omega)]; exact E1.out
  have hB2 : Below w.heap.size w (W.drew.setRow (w.heap.size + 1 + 1) (fa 18 (dg a))) := below_setRow hB.drew (by omega) _
  generalize W.drew.setRow (w.heap.size + 1 + 1) (fa 18 (dg a)) = W2 at *
  obtain ⟨d, hu, hd⟩ := under65
  go_wp2_with (first
    | (refine wpList_lda rfl rfl rfl F2.out hu hd size65 ?_)
    | (refine wpList_sta rfl rfl rfl rfl F1.out size65 ?_))
  exact bodyPost_ret (res_cell rfl rfl (setRow_heap _ _ _ _ _ _ F1.out) hu hd (by rw [size65, fa_size])) rfl ⟨rfl, below_setRow hB2 (by omega) _⟩

set_option maxRecDepth 100000 in
set_option maxHeartbeats 400000 in
theorem narrow_yes (a : Nat) (ha : a < R 8) (w : World) :
    Calls Tryd.prog 65 #[wid a] w fun e w' => e = .returned (.tuple #[num a, .bool true]) ∧ Below w.heap.size w w' := by
  unfold num wid
  have hz : ln (dg a) 18 ≤ 8 := by
    rcases Nat.lt_or_ge 8 (ln (dg a) 18) with h | h
    · exact absurd (dg_of_lt' ha (show 8 ≤ ln (dg a) 18 - 1 by omega)) (ln_ge (by omega))
    · exact h
  go_enter Tryd.func65, Tryd.ntmps65
  go_wp2_with fail
  have hh := heap2 w (.cells (fa 18 (dg a)) 59) (.cells (fa 8 (fun _ => 0)) 24)
  have hB := below2 w (.cells (fa 18 (dg a)) 59) (.cells (fa 8 (fun _ => 0)) 24)
  obtain ⟨W, hW⟩ : ∃ W, W = (w.alloc (.cells (fa 18 (dg a)) 59)).alloc (.cells (fa 8 (fun _ => 0)) 24) := ⟨_, rfl⟩
  rw [fa_zero8] at hW
  rw [← hW]
  rw [fa_zero8, ← hW, ← fa_zero8] at hh
  rw [fa_zero8, ← hW] at hB
  clear hW
  obtain ⟨e0, e1⟩ := hh
  have E0 := Lib.hid e0
  have E1 := Lib.hid e1
  clear e0 e1
  refine (length_any _ 0 18 18 (dg a) _ (by omega) (fun i hi => by rw [Nat.zero_add]; exact blk_cell E0.out hi)).mono ?_
  rintro e w' ⟨rfl, rfl⟩
  generalize ln (dg a) 18 = m at *
  go_wp2
  have hB3 : Below w.heap.size w (W.alloc (.cells (fa 8 (fun _ => 0)) 24)) := hB.alloc hB.size _
  have hlt0 := lt_of_block E0.out
  have hlt1 := lt_of_block E1.out
  have F0 : Hid ((W.alloc (.cells (fa 8 (fun _ => 0)) 24)).heap[w.heap.size]? = some (.cells (fa 18 (dg a)) 59 (0, 0))) := (Below.heap_alloc _ _ _ hlt0).trans E0.out
  have F1 : Hid ((W.alloc (.cells (fa 8 (fun _ => 0)) 24)).heap[w.heap.size + 1]? = some (.cells (fa 8 (fun _ => 0)) 24 (0, 0))) := (Below.heap_alloc _ _ _ hlt1).trans E1.out
  have F2 : Hid ((W.alloc (.cells (fa 8 (fun _ => 0)) 24)).heap[W.heap.size]? = some (.cells (fa 8 (fun _ => 0)) 24 (0, 0))) := heap1 _ _
  have hg1 : w.heap.size + 1 < W.heap.size := hlt1
  generalize W.heap.size = g at *
  rw [← fa_zero8]
  generalize W.alloc (.cells (fa 8 (fun _ => 0)) 24) = W2 at *
  clear E0 E1 hB
  have hsp := splice_zero (n := 8) (m := 8) (f := dg a) (g := fun _ => 0) (by omega) (fun i _ hi => by omega)
  have HSP := Lib.hid hsp
  clear hsp
  go_region_law (refine step_copy_at rfl (.tmp 9) (.tmp 10) 68 68 rfl 22 under74 size24 g 0 8 8 _ 18 18 rfl rfl (fa 8 (fun _ => 0)) 24 F2.out (fa 8 (dg a)).toList (by rw [Array.length_toList, fa_size]; rfl) (fa_src (w := W2.drew) F0.out (by omega)) (by simp) fa_one ?_)
  rw [HSP.out]
  have G2 : Hid ((W2.drew.setRow g (fa 8 (dg a))).heap[g]? = some (.cells (fa 8 (dg a)) 24 (0, 0))) := setRow_heap W2.drew _ _ _ _ _ F2.out
  have G1 : Hid ((W2.drew.setRow g (fa 8 (dg a))).heap[w.heap.size + 1]? = some (.cells (fa 8 (fun _ => 0)) 24 (0, 0))) := by
    unfold Hid; rw [setRow_other _ _ _ _ (by omega)]; exact F1.out
  have hB2 : Below w.heap.size w (W2.drew.setRow g (fa 8 (dg a))) := below_setRow hB3.drew (by omega) _
  generalize W2.drew.setRow g (fa 8 (dg a)) = W3 at *
  obtain ⟨d, hu, hd⟩ := under25
  go_wp2_with (first
    | (refine wpList_lda rfl rfl rfl G2.out hu hd size25 ?_)
    | (refine wpList_sta rfl rfl rfl rfl G1.out size25 ?_))
  exact bodyPost_ret (res_cell_tmp rfl rfl (setRow_heap _ _ _ _ _ _ G1.out) hu hd (by rw [size25, fa_size])) rfl ⟨rfl, below_setRow hB2 (by omega) _⟩

set_option maxRecDepth 100000 in
set_option maxHeartbeats 400000 in
theorem narrow_no (a : Nat) (ha : a < R 18) (ha8 : R 8 ≤ a) (w : World) :
    Calls Tryd.prog 65 #[wid a] w fun e w' => e = .returned (.tuple #[num 0, .bool false]) ∧ Below w.heap.size w w' := by
  unfold num wid
  have hz : 8 < ln (dg a) 18 := by
    rcases Nat.lt_or_ge 8 (ln (dg a) 18) with h | h
    · exact h
    · exact absurd (Nat.lt_of_lt_of_le (ln_lt 18 ha) (R_le h)) (by omega)
  go_enter Tryd.func65, Tryd.ntmps65
  go_wp2_with fail
  have hh := heap2 w (.cells (fa 18 (dg a)) 59) (.cells (fa 8 (fun _ => 0)) 24)
  have hB := below2 w (.cells (fa 18 (dg a)) 59) (.cells (fa 8 (fun _ => 0)) 24)
  obtain ⟨W, hW⟩ : ∃ W, W = (w.alloc (.cells (fa 18 (dg a)) 59)).alloc (.cells (fa 8 (fun _ => 0)) 24) := ⟨_, rfl⟩
  rw [fa_zero8] at hW
  rw [← hW]
  rw [fa_zero8, ← hW, ← fa_zero8] at hh
  rw [fa_zero8, ← hW] at hB
  clear hW
  obtain ⟨e0, e1⟩ := hh
  have E0 := Lib.hid e0
  have E1 := Lib.hid e1
  clear e0 e1
  refine (length_any _ 0 18 18 (dg a) _ (by omega) (fun i hi => by rw [Nat.zero_add]; exact blk_cell E0.out hi)).mono ?_
  rintro e w' ⟨rfl, rfl⟩
  generalize ln (dg a) 18 = m at *
  obtain ⟨d, hu, hd⟩ := under25
  go_wp2_with (first
    | (refine wpList_stm rfl rfl rfl (v := .agg (fa 8 (fun _ => 0))) rfl E1.out size25 (by simp [Value.cells]) fa_one (fa_over _ _ _) ?_))
  refine bodyPost_ret (res_cell_tmp rfl rfl (setRow_heap _ _ _ _ _ _ E1.out) hu hd (by rw [size25, fa_size])) rfl ⟨?_, below_setRow hB (by omega) _⟩
  rw [← fa_dg0]; rfl
end Go.Proofs.YtkfcikijmkgahaaDoor
namespace Go.Proofs.YtkfcikijmkgahaaDoor
open Go.RowKit Tw

set_option maxRecDepth 100000 in
set_option maxHeartbeats 1000000 in
theorem divideShort_any (a b : Nat) (ha : a < R 18) (hb0 : 0 < b) (hb : b < 4294967296) (w : World) :
    Calls Tryd.prog 59 #[wid a, .int .u32 b] w fun e w' => e = .returned (.tuple #[wid (a / b), .int .u32 ((a % b : Nat) : Int)]) ∧ Below w.heap.size w w' := by
  unfold wid
  have m0 := ln_le (dg a) 18
  have HM := Lib.hid (ln_lt 18 ha)
  go_enter Tryd.func59, Tryd.ntmps59
  go_wp2_with fail
  have hh := heap2 w (.cells (fa 18 (dg a)) 59) (.cells (fa 18 (fun _ => 0)) 59)
  have hB := below2 w (.cells (fa 18 (dg a)) 59) (.cells (fa 18 (fun _ => 0)) 59)
  obtain ⟨W, hW⟩ : ∃ W, W = (w.alloc (.cells (fa 18 (dg a)) 59)).alloc (.cells (fa 18 (fun _ => 0)) 59) := ⟨_, rfl⟩
  rw [fa_zero18] at hW
  rw [← hW]
  rw [fa_zero18, ← hW, ← fa_zero18] at hh
  rw [fa_zero18, ← hW] at hB
  clear hW
  obtain ⟨e0, e1⟩ := hh
  have E0 := Lib.hid e0
  have E1 := Lib.hid e1
  clear e0 e1
  refine (length_any _ 0 18 18 (dg a) _ (by omega) (fun i hi => by rw [Nat.zero_add]; exact blk_cell E0.out hi)).mono ?_
  rintro e w' ⟨rfl, rfl⟩
  generalize ln (dg a) 18 = m at *
  go_wp2
  go_loopw [6, 7] (fun r i wr => ∃ k r0 P : Nat, k ≤ m ∧ r0 < b ∧ Hid (a = P / R k * R k * b + r0 * R k + a % R k) ∧ Hid (P % R k = a % R k) ∧ P < R 18 ∧ r = .int .u64 r0 ∧ i = .int .i64 ((k : Int) - 1) ∧ Below w.heap.size w wr ∧
      wr.heap[w.heap.size]? = some (.cells (fa 18 (dg P)) 59 (0, 0)) ∧ wr.heap[w.heap.size + 1]? = some (.cells (fa 18 (fun _ => 0)) 59 (0, 0)))
    (fun _ i _ => (intOf i + 1).toNat)
  case atStart =>
    refine ⟨m, 0, a, Nat.le_refl _, hb0, ?_, rfl, ha, rfl, rfl, hB, E0.out, E1.out⟩
    unfold Hid
    rw [Nat.div_eq_of_lt HM.out, Nat.mod_eq_of_lt HM.out]; omega
  case round =>
    obtain ⟨k, r0, P, hk, hr, he, hm, hP, rfl, rfl, hB, e0, e1⟩ := hrel
    rcases Nat.eq_zero_or_pos k with rfl | hpos
    · have hq : P = a / b ∧ r0 = a % b := by
        have h := he.out
        rw [R_zero, Nat.div_one, Nat.mod_one, Nat.mul_one, Nat.mul_one, Nat.add_zero] at h
        have h1 := Nat.div_add_mod a b
        have h2 : P = a / b := by
          rw [h, Nat.mul_comm P b, Nat.mul_add_div hb0, Nat.div_eq_of_lt hr, Nat.add_zero]
        refine ⟨h2, ?_⟩
        rw [h, Nat.mul_comm P b, Nat.mul_add_mod, Nat.mod_eq_of_lt hr]
      obtain ⟨h1, h2⟩ := hq
      have HR := Lib.hid h2
      clear h2 he hm
      subst h1
      obtain ⟨d, hu, hd⟩ := under65
      go_wp2_with (first
        | (refine wpList_lda rfl rfl rfl e0 hu hd size65 ?_)
        | (refine wpList_sta rfl rfl rfl rfl e1 size65 ?_))
      refine bodyPost_ret (res_cell_tmp rfl rfl (setRow_heap _ _ _ _ _ _ e1) hu hd (by rw [size65, fa_size])) rfl ⟨?_, below_setRow hB (by omega) _⟩
      rw [← HR.out]
      rfl
    · obtain ⟨j, rfl⟩ : ∃ j, k = j + 1 := ⟨k - 1, by omega⟩
      have ej : (((j + 1 : Nat) : Int) - 1) = j := by omega
      rw [ej]
      clear ej
      have hj18 : (j : Int) < 18 := by omega
      have h1 := blk_cell e0 (i := j) (by omega)
      have h3 : wr.frozen? ⟨w.heap.size, j, none⟩ = false := blk_free e0
      have b1 := dg_lt P j
      have hbz : ((b : Int) != 0) = true := by simp; omega
      have hb0' : (1 : Int) ≤ b := by omega
      have F0 := Lib.hid e0
      have F1 := Lib.hid e1
      clear e0 e1
      have hr32 : r0 < 4294967296 := by omega
      have hor := or64 b1 hr32
      obtain ⟨t, ht⟩ : ∃ t, t = r0 * 4294967296 + dg P j := ⟨_, rfl⟩
      rw [← ht] at hor
      have ht64 : t < 18446744073709551616 := by omega
      have htb : t < b * 4294967296 := by
        have : (r0 + 1) * 4294967296 ≤ b * 4294967296 := Nat.mul_le_mul_right _ hr
        omega
      have HT := Lib.hid ht
      clear ht
      go_wp2
      go_roundw
      case rel =>
        have hv : t / b < 4294967296 := by rw [Nat.div_lt_iff_lt_mul hb0, Nat.mul_comm]; exact htb
        have ev : ((t : Int) / (b : Int)) = ((t / b : Nat) : Int) := rfl
        have er : ((t : Int) % (b : Int)) = ((t % b : Nat) : Int) := rfl
        have hda : dg P j = dg a j := by
          rw [← dg_mod (x := P) (k := j + 1) (by omega), hm.out, dg_mod (by omega)]
        have hst := short_step (v := t / b) (r' := t % b) he.out (by rw [← hda, ← HT.out, Nat.mul_comm]; exact Nat.div_add_mod t b) hv
        rw [ev, er, wrapmod hv]
        refine ⟨j, t % b, setd P j (t / b), by omega, Nat.mod_lt _ hb0, hst, ?_, setd_lt hP (by omega) hv, rfl, rfl, ?_, ?_, ?_⟩
        · unfold Hid; rw [setd_mod, ← Nat.mod_mod_of_dvd P (show R j ∣ R (j + 1) from ⟨4294967296, by rw [R_succ, Nat.mul_comm]⟩), hm.out, Nat.mod_mod_of_dvd _ (show R j ∣ R (j + 1) from ⟨4294967296, by rw [R_succ, Nat.mul_comm]⟩)]
        · exact hB.setCell (Nat.le_refl _) _
        · exact blk_set F0.out (by omega) hv
        · rw [heap_setCell_other _ _ _ _ (by simp)]; exact F1.out
      case measure => (simp [intOf] <;> omega)
end Go.Proofs.YtkfcikijmkgahaaDoor
namespace Go.Proofs.YtkfcikijmkgahaaDoor
open Go.RowKit Tw
def strLen : Value → Nat
  | .string s => s.size
  | _ => 0
theorem ba_app (a b : List UInt8) : (⟨a.toArray⟩ : ByteArray) ++ ⟨b.toArray⟩ = ⟨(a ++ b).toArray⟩ := by
  apply ByteArray.ext
  rw [ByteArray.data_append]
  simp
theorem ba_drop (l : List UInt8) (i : Nat) : (⟨l.toArray⟩ : ByteArray).extract i l.length = ⟨(l.drop i).toArray⟩ := by
  apply ByteArray.ext
  rw [ByteArray.data_extract]
  simp
  rw [List.take_of_length_le (by simp)]
theorem ba_size (l : List UInt8) : (⟨l.toArray⟩ : ByteArray).size = l.length := by
  show l.toArray.size = l.length
  simp
theorem ret_txt {a b : ByteArray} (h : a = b) : Ending.returned (.string a) = .returned (.string b) := by rw [h]
/-- a text by its bytes -/
def txt (l : List UInt8) : Value := .string ⟨l.toArray⟩
variable [ShSt]

set_option maxRecDepth 100000 in
set_option maxHeartbeats 1000000 in
theorem decimal_any (n : Nat) (hn : n < R 8) (w : World) (hE : Env w) :
    Calls Tryd.prog 41 #[num n] w fun e w' => e = .returned (txt (Lib.decDigits n)) ∧ Below w.heap.size w w' := by
  have HE := Lib.hid hE
  clear hE
  have hn18 : n < R 18 := lt_R_of_le hn (by omega)
  have HX := Lib.hid (⟨hn, hn18⟩ : n < R 8 ∧ n < R 18)
  clear hn hn18
  unfold num txt
  go_enter Tryd.func41, Tryd.ntmps41
  go_upto_region 1 with (fail)
  have hK := KS.one w (.cells (fa 8 (dg n)) 24)
  obtain ⟨W, hW⟩ : ∃ W, W = w.alloc (.cells (fa 8 (dg n)) 24) := ⟨_, rfl⟩
  rw [← hW] at hK
  rw [← hW]
  clear hW
  have HK := Lib.hid hK
  clear hK
  go_upto_region 3 with (first
    | (refine wpList_lda rfl rfl rfl (HK.out.2 _ (.head _)) Tryd.underlying24 rfl size25 ?_)
    | (go_at_call 37; refine (widen_any n HX.out.1 _).mono ?_; rintro e w1 ⟨rfl, hb1⟩; have HK1 := Lib.hid (HK.out.below hb1); clear hb1)
    | (go_at_call 59; refine (divideShort_any n 1000000000 HX.out.2 (by omega) (by omega) _).mono ?_; rintro e w2 ⟨rfl, hb2⟩; have HK2 := Lib.hid (HK1.out.below hb2); clear hb2; unfold wid)
    | (refine wpList_sta (f := dg (n / 1000000000)) (f' := fun _ => 0) rfl rfl rfl rfl (heap1 w2 _) size65 ?_))
  have HK3 := Lib.hid (HK2.out.newvar (cs := fa 18 (fun _ => 0)) (cs' := fa 18 (dg (n / 1000000000))) (t := 59))
  have f1 := HK2.out.fresh.1
  have f2 := HK2.out.fresh.2 _ (.head _)
  rw [← fa_zero18]
  generalize (w2.alloc (.cells (fa 18 (fun _ => 0)) 59)).setRow w2.heap.size (fa 18 (dg (n / 1000000000))) = W2 at *
  generalize w2.heap.size = g at *
  simp only at f2
  clear HK HK1 HK2
  go_loopw [3, 5] (fun t l wr => ∃ x : Nat, ∃ ls : List UInt8, x < R 8 ∧ t = .string ⟨ls.toArray⟩ ∧ l = .int .u32 ((x : Int) % 1000000000) ∧ Hid (Lib.decDigits n = Lib.decDigits x ++ ls) ∧ Hid (KS w [(g, .cells (fa 18 (dg (x / 1000000000))) 59 (0, 0)), (w.heap.size, .cells (fa 8 (dg n)) 24 (0, 0))] wr))
    (fun t _ _ => 100 - strLen t)
  case atStart => exact ⟨n, [], HX.out.1, rfl, rfl, by unfold Hid; simp, HK3⟩
  case round =>
    clear HK3
    obtain ⟨x, ls, hx, rfl, rfl, HD, HK⟩ := hrel
    have hx18 : x / 1000000000 < R 18 := Nat.lt_of_le_of_lt (Nat.div_le_self _ _) (lt_R_of_le hx (by omega))
    have HX2 := Lib.hid (⟨hx, hx18⟩ : x < R 8 ∧ x / 1000000000 < R 18)
    have hlen : (Lib.decDigits n).length ≤ 78 := dec_length 77 n (Nat.lt_of_lt_of_le HX.out.1 (by unfold R; decide))
    rw [HD.out, List.length_append] at hlen
    have hpos := dec_pos x
    clear hx hx18
    by_cases h0 : x / 1000000000 = 0
    · have hq : (!decide (x / 1000000000 = 0)) = false := by simp [h0]
      have HQ := Lib.hid hq
      have h1 : (x : Int) % 1000000000 = x := by omega
      have H0 := Lib.hid h0
      clear hq h0
      have hls : ¬ 9223372036854775807 < (Lib.decDigits x).length + ls.length := by omega
      go_wp2_with (first
        | (refine wpList_lda rfl rfl rfl (HK.out.2 _ (.head _)) Tryd.underlying59 rfl size65 ?_)
        | (refine wpList_bin (v := .bool false) (vx := .agg (fa 18 (dg (x / 1000000000)))) rfl rfl rfl rfl (fun w => run_neq65_nil HX2.out.2 HQ.out w) ?_)
        | (go_at_call 61; refine (itoa_any x (by have := H0.out; omega) _ (HE.out.keep HK.out.1)).mono ?_; rintro e w3 ⟨rfl, hb3⟩; have HK4 := Lib.hid (HK.out.below hb3); clear hb3))
      go_ret
      refine ⟨ret_txt ?_, HK4.out.1⟩
      rw [HD.out, ← ba_app]
    · have hq : (!decide (x / 1000000000 = 0)) = true := by simp [h0]
      have HI : Hid (∀ W, Env W → Calls Tryd.prog 61 #[.int .i64 (1000000000 + (x : Int) % 1000000000)] W fun e w' => e = .returned (.string ⟨(Lib.decDigits (1000000000 + x % 1000000000)).toArray⟩) ∧ Below W.heap.size W w') := fun W hW => by
        have := itoa_any (1000000000 + x % 1000000000) (by omega) W hW
        rw [show ((1000000000 + x % 1000000000 : Nat) : Int) = 1000000000 + (x : Int) % 1000000000 from by omega] at this
        exact this
      have hz1 := dec_tail (low := x % 1000000000) (by omega)
      have hz2 := congrArg List.length hz1
      rw [padL_length, List.length_drop] at hz2
      have HS := Lib.hid (dec_step h0)
      rw [← hz1] at HS
      clear hz1
      generalize Lib.decDigits (1000000000 + x % 1000000000) = z at *
      have hz3 : 10 ≤ z.length := by omega
      have hz4 : z.length ≤ 10 := by omega
      clear hz2
      have hzi : (1 : Int) ≤ (z.length : Int) := by omega
      have hls : ¬ 9223372036854775807 < z.length - 1 + ls.length := by omega
      have HQ := Lib.hid hq
      have H0 := Lib.hid h0
      clear hq h0
      go_wp2_with (first
        | (refine wpList_lda rfl rfl rfl (HK.out.2 _ (.head _)) Tryd.underlying59 rfl size65 ?_)
        | (refine wpList_bin (v := .bool true) (vx := .agg (fa 18 (dg (x / 1000000000)))) rfl rfl rfl rfl (fun w => run_neq65_nil HX2.out.2 HQ.out w) ?_)
        | (go_at_call 61; refine (HI.out _ (HE.out.keep HK.out.1)).mono ?_; rintro e w3 ⟨rfl, hb3⟩; have HK4 := Lib.hid (HK.out.below hb3); clear hb3)
        | (refine wpList_lda rfl rfl rfl (HK4.out.2 _ (.head _)) Tryd.underlying59 rfl size65 ?_)
        | (go_at_call 59; refine (divideShort_any (x / 1000000000) 1000000000 HX2.out.2 (by omega) (by omega) _).mono ?_; rintro e w5 ⟨rfl, hb5⟩; have HK5 := Lib.hid (HK4.out.below hb5); clear hb5; unfold wid)
        | (refine wpList_sta (f := dg (x / 1000000000 / 1000000000)) (f' := dg (x / 1000000000)) rfl rfl rfl rfl (HK5.out.2 _ (.head _)) size65 ?_))
      go_roundw
      case rel =>
        refine ⟨x / 1000000000, z.drop 1 ++ ls, Nat.lt_of_le_of_lt (Nat.div_le_self _ _) HX2.out.1, by rw [ba_drop, ba_app], rfl, ?_, ?_⟩
        · unfold Hid; rw [HD.out, HS.out, List.append_assoc]
        · exact HK5.out.put (K' := [(g, .cells (fa 18 (dg (x / 1000000000 / 1000000000))) 59 (0, 0)), (w.heap.size, .cells (fa 8 (dg n)) 24 (0, 0))]) (by omega) (.head _)
            (by intro p hp; simp only [List.mem_cons, List.not_mem_nil, or_false] at hp; rcases hp with rfl | rfl; exact .inl rfl; exact .inr ⟨by simp, by simp only; omega⟩)
      case measure =>
        unfold strLen
        simp only [ba_drop, ba_app, ba_size, List.length_append, List.length_drop]
        omega
end Go.Proofs.YtkfcikijmkgahaaDoor
