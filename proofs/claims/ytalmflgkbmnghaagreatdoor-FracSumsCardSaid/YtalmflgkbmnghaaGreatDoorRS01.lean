import Derived.Test.YtalmflgkbmnghaaGreatDoorRS00
import Derived.Lib.ItoaNum
import Derived.Deep.Cut
import Derived.Deep.RegionLaw
import Derived.Deep.QuietTactic
import Derived.RegionTactic
import Derived.WalkKit
import Derived.Lib.LaidTab
import Derived.Lib.IndexMore
import Derived.Lib.Strings
import Derived.WalkSpells
import Derived.Outline
import Derived.Deep.RegionWith
/- Part of the proof: Dm, Ev, Ew, Wn, Ds, Tx, Tm, St, Gu, Sl, FSr, Hz, Dl, To, Dv, Qu, Gs, Gc, Ri. -/
set_option linter.unusedVariables false
set_option linter.unusedSimpArgs false
set_option linter.unusedSectionVars false
/- Decimal digits: nine at a time, and back. Plain. -/
namespace Tf
open Go Go.Lib
def padL : Nat → Nat → List UInt8
  | 0, _ => []
  | k + 1, r => padL k (r / 10) ++ [UInt8.ofNat (48 + r % 10)]
theorem padL_length : ∀ k r, (padL k r).length = k
  | 0, _ => rfl
  | k + 1, r => by simp [padL, padL_length k]
theorem dec_small {x : Nat} (h : x < 10) : decDigits x = [UInt8.ofNat (48 + x)] := by rw [decDigits, dif_pos h]
theorem dec_big {x : Nat} (h : 10 ≤ x) : decDigits x = decDigits (x / 10) ++ [UInt8.ofNat (48 + x % 10)] := by rw [decDigits, dif_neg (by omega)]
theorem dec_split : ∀ (k q r : Nat), 0 < q → r < 10 ^ k → decDigits (q * 10 ^ k + r) = decDigits q ++ padL k r
  | 0, q, r, _, hr => by
    have : r = 0 := by simpa using hr
    subst this; simp [padL]
  | k + 1, q, r, hq, hr => by
    have hp : 0 < 10 ^ k := Nat.pow_pos (by omega)
    have e : q * 10 ^ (k + 1) + r = 10 * (q * 10 ^ k) + r := by rw [Nat.pow_succ, ← Nat.mul_assoc]; omega
    have hr' : r < 10 * 10 ^ k := by rw [Nat.pow_succ] at hr; omega
    have hq' : 0 < q * 10 ^ k := Nat.mul_pos hq hp
    rw [e, dec_big (by omega), show (10 * (q * 10 ^ k) + r) / 10 = q * 10 ^ k + r / 10 from by omega, show (10 * (q * 10 ^ k) + r) % 10 = r % 10 from by omega, dec_split k q (r / 10) hq (by omega), padL, List.append_assoc]
theorem dec_tail {low : Nat} (h : low < 1000000000) : (decDigits (1000000000 + low)).drop 1 = padL 9 low := by
  have h1 := dec_split 9 1 low (by omega) (by omega)
  rw [show 1 * 10 ^ 9 + low = 1000000000 + low from by omega, dec_small (x := 1) (by omega)] at h1
  rw [h1]; rfl
theorem dec_step {x : Nat} (h : x / 1000000000 ≠ 0) : decDigits x = decDigits (x / 1000000000) ++ padL 9 (x % 1000000000) := by
  have h1 := dec_split 9 (x / 1000000000) (x % 1000000000) (by omega) (by omega)
  rw [← h1, show x / 1000000000 * 10 ^ 9 + x % 1000000000 = x from by omega]
theorem dec_length : ∀ (k x : Nat), x < 10 ^ (k + 1) → (decDigits x).length ≤ k + 1
  | 0, x, h => by rw [dec_small (by omega)]; simp
  | k + 1, x, h => by
    by_cases hx : x < 10
    · rw [dec_small hx]; simp
    · rw [dec_big (by omega)]
      have := dec_length k (x / 10) (by rw [Nat.pow_succ] at h; omega)
      simp; exact this
theorem dec_pos (x : Nat) : 0 < (decDigits x).length := by
  by_cases hx : x < 10
  · rw [dec_small hx]; simp
  · rw [dec_big (by omega)]; simp
end Tf
/- What the package-level variables that library functions read hold; the library's contracts in one form. -/
namespace Go.Proofs.YtalmflgkbmnghaaGreatDoor
open Go.RowKit Tf
def Env (w : World) : Prop := Lib.TabIs Tryz.prog w "internal/strconv.uint64pow10" .u64 Lib.pow10Tab ∧ ∃ m, w.cell? ⟨0, 0, none⟩ = some (.int .i64 m)
theorem var_keep {P : Program} {w w' : World} {n : String} {cs : Array Value} (h : w.var? P n = some cs) (hb : Below w.heap.size w w') : w'.var? P n = some cs := by
  unfold World.var? at *
  cases hg : P.globalNamed n with
  | none => rw [hg] at h; cases h
  | some g =>
    rw [hg] at h
    simp only [Option.bind_some] at h ⊢
    cases hh : w.heap[g]? with
    | none => rw [hh] at h; cases h
    | some o => rw [hb.block g (lt_of_block hh)]; exact h
theorem cell_keep {w w' : World} {g k : Nat} {v : Value} (h : w.cell? ⟨g, k, none⟩ = some v) (hb : Below w.heap.size w w') : w'.cell? ⟨g, k, none⟩ = some v := by
  have hlt : g < w.heap.size := World.block_lt_of_cell? _ _ h
  rw [hb.cell (p := ⟨g, k, none⟩) hlt]; exact h
theorem Env.keep {w w' : World} (h : Env w) (hb : Below w.heap.size w w') : Env w' := ⟨var_keep h.1 hb, h.2.elim fun m hm => ⟨m, cell_keep hm hb⟩⟩
theorem Env.drewN {w : World} (h : Env w) (n : Nat) : Env (w.drewN n) := h.keep ⟨rfl, rfl, rfl, Nat.le_refl _, fun _ _ => rfl⟩
class ShSt : Prop where
  itoa : ∀ (n : Nat), n ≤ 9223372036854775807 → ∀ w : World, Env w → Calls Tryz.prog 88 #[.int .i64 (n : Int)] w fun e w' => e = .returned (.string ⟨(Lib.decDigits n).toArray⟩) ∧ Below w.heap.size w w'
  cutPrefix : ∀ (l : List UInt8) (W : World), Calls Tryz.prog 70 #[.string ⟨l.toArray⟩, .string ⟨#[45]⟩] W fun e w' => e = .returned (.tuple #[.string ⟨(Lib.trimPrefix l [45]).toArray⟩, .bool (Lib.hasPrefix l [45])]) ∧ Below W.heap.size W w'
  cut : ∀ (l : List UInt8), l.length < 4294967281 → ∀ W : World, Env W → Calls Tryz.prog 71 #[.string ⟨l.toArray⟩, .string ⟨#[47]⟩] W fun e w' => e = .returned (.tuple #[.string ⟨(Lib.cut l [47]).1.toArray⟩, .string ⟨(Lib.cut l [47]).2.1.toArray⟩, .bool (Lib.cut l [47]).2.2]) ∧ Below W.heap.size W w'
theorem itoa_any [ShSt] (n : Nat) (h : n ≤ 9223372036854775807) (w : World) (hE : Env w) :
    Calls Tryz.prog 88 #[.int .i64 (n : Int)] w fun e w' => e = .returned (.string ⟨(Lib.decDigits n).toArray⟩) ∧ Below w.heap.size w w' := ShSt.itoa n h w hE
end Go.Proofs.YtalmflgkbmnghaaGreatDoor
namespace Go.Proofs.YtalmflgkbmnghaaGreatDoor
open Go.RowKit Tf
theorem eq65 {a b : Nat} (ha : a < R 18) (hb : b < R 18) (d D : Nat) (hD : D = d + 1 + 1) (w : World) :
    (Op.equalIn D 76 (.agg (fa 18 (dg a))) (.agg (fa 18 (dg b)))).run Tryz.prog w = .ok (decide (a = b)) w := by
  have hs : (Tryz.prog.info? 22).isSome = true := by kernel_rfl
  obtain ⟨i, hi⟩ := Option.isSome_iff_exists.1 hs
  have hu : Tryz.prog.underlying 76 = some (.array 18 22) := by kernel_rfl
  have h0 := run_equalIn_array w (d + 1) (fa 18 (dg a)) (fa 18 (dg b)) hu hi
  subst hD
  refine h0.trans ?_
  have hc : Tryz.prog.cellsOf 22 = 1 := by kernel_rfl
  rw [hc, run_eqItems_fa (by kernel_rfl) (by kernel_rfl) d 18 _ _ w _ (fun i hi => List.mem_range.1 hi)]
  refine congrArg (fun r => Result.ok r w) ?_
  rw [Bool.eq_iff_iff]
  simp only [List.all_eq_true, List.mem_range, beq_iff_eq, decide_eq_true_eq]
  exact ⟨fun h => eq_of_dg ha hb h, fun h i _ => by rw [h]⟩
theorem fa_nil18 : fa 18 (dg 0) = #[.int .u32 0, .int .u32 0, .int .u32 0, .int .u32 0, .int .u32 0, .int .u32 0, .int .u32 0, .int .u32 0, .int .u32 0, .int .u32 0, .int .u32 0, .int .u32 0, .int .u32 0, .int .u32 0, .int .u32 0, .int .u32 0, .int .u32 0, .int .u32 0] := by
  rw [← fa_zero18, fa_dg0]
@[go_sem] theorem eq65_nil {a : Nat} (ha : a < R 18) (w : World) :
    (Op.equalIn 10000 76 (.agg (fa 18 (dg a))) (.agg #[.int .u32 0, .int .u32 0, .int .u32 0, .int .u32 0, .int .u32 0, .int .u32 0, .int .u32 0, .int .u32 0, .int .u32 0, .int .u32 0, .int .u32 0, .int .u32 0, .int .u32 0, .int .u32 0, .int .u32 0, .int .u32 0, .int .u32 0, .int .u32 0])).run Tryz.prog w = .ok (decide (a = 0)) w := by
  rw [← fa_nil18]; exact eq65 ha (R_pos 18) 9998 10000 rfl w
theorem run_neq65_nil {a : Nat} {b : Bool} (ha : a < R 18) (hab : (!decide (a = 0)) = b) {x y : Operand} (w : World) : (do eqGuard .neq 76 x y (.agg (fa 18 (dg a))) (.agg #[.int .u32 0, .int .u32 0, .int .u32 0, .int .u32 0, .int .u32 0, .int .u32 0, .int .u32 0, .int .u32 0, .int .u32 0, .int .u32 0, .int .u32 0, .int .u32 0, .int .u32 0, .int .u32 0, .int .u32 0, .int .u32 0, .int .u32 0, .int .u32 0]); binOp .neq 76 (.agg (fa 18 (dg a))) (.agg #[.int .u32 0, .int .u32 0, .int .u32 0, .int .u32 0, .int .u32 0, .int .u32 0, .int .u32 0, .int .u32 0, .int .u32 0, .int .u32 0, .int .u32 0, .int .u32 0, .int .u32 0, .int .u32 0, .int .u32 0, .int .u32 0, .int .u32 0, .int .u32 0]) : Sem Value).run Tryz.prog w = .ok (.bool b) w := by
  subst hab
  go_simp
theorem wpList_bin {P : Program} {ops : Array Oper} {rest : List Oper} {o : Oper} {a : Act} {w : World} {Q : Exit → Act → World → Prop} (hgd : o.guard = none) {v vx vy : Value} {op : BinOp} {xT : TypeId} {x y : Operand} {d : TypeId}
    (ho : o.op = .binOp op xT x y d) (hx : a.eval x = vx) (hy : a.eval y = vy) (h0 : ∀ w, (do eqGuard op xT x y vx vy; binOp op xT vx vy : Sem Value).run P w = .ok v w)
    (h : wpList P ops Q rest (a.put o.dst v) w) : wpList P ops Q (o :: rest) a w :=
  wpList_plain hgd fun _ hK => by
    unfold Oper.wp
    rw [run_binY ho hx hy h0 w]
    exact hK _ _ h
end Go.Proofs.YtalmflgkbmnghaaGreatDoor
namespace Go.Proofs.YtalmflgkbmnghaaGreatDoor
open Go.RowKit Tf


theorem fa_src {n m : Nat} {f : Nat → Nat} {w : World} {g : Nat} {t : TypeId} (h : w.heap[g]? = some (.cells (fa n f) t (0, 0))) (hm : m ≤ n) : ∀ j v, (fa m f).toList[j]? = some v → w.cell? ((⟨g, 0, none⟩ : Addr).add j) = some v := by
  intro j v hv
  have hj : j < m := by
    have := (List.getElem?_eq_some_iff.1 hv).1
    simpa using this
  rw [Array.getElem?_toList, fa_get _ hj] at hv
  have hadd : (⟨g, 0, none⟩ : Addr).add j = ⟨g, j, none⟩ := by unfold Addr.add; split <;> simp_all
  rw [hadd, blk_cell h (by omega), hv]

set_option maxRecDepth 100000 in
set_option maxHeartbeats 400000 in
theorem widen_any (a : Nat) (ha : a < R 8) (w : World) :
    Calls Tryz.prog 57 #[num a] w fun e w' => e = .returned (wid a) ∧ Below w.heap.size w w' := by
  unfold num wid
  go_enter Tryz.func57, Tryz.ntmps57
  go_wp2
  obtain ⟨W, hW⟩ : ∃ W, W = ((w.alloc (.cells (fa 8 (dg a)) 23)).alloc (.cells (fa 18 (fun _ => 0)) 76)).alloc (.cells (fa 18 (fun _ => 0)) 76) := ⟨_, rfl⟩
  have hh := heap3 w (.cells (fa 8 (dg a)) 23) (.cells (fa 18 (fun _ => 0)) 76) (.cells (fa 18 (fun _ => 0)) 76)
  have hB := below3 w (.cells (fa 8 (dg a)) 23) (.cells (fa 18 (fun _ => 0)) 76) (.cells (fa 18 (fun _ => 0)) 76)
  rw [fa_zero18] at hW
  rw [← hW]
  rw [fa_zero18, ← hW, ← fa_zero18] at hh
  rw [fa_zero18, ← hW] at hB
  clear hW
  obtain ⟨e0, e1, e2⟩ := hh
  have E0 := Lib.hid e0
  have E1 := Lib.hid e1
  have E2 := Lib.hid e2
  clear e0 e1 e2
  have hsp := splice_zero (n := 18) (m := 8) (f := dg a) (g := fun _ => 0) (by omega) (fun i _ hi => (dg_of_lt' ha hi).symm)
  have HSP := Lib.hid hsp
  clear hsp
  go_region_law (refine step_copy_at rfl (.tmp 4) (.tmp 5) 65 65 rfl 22 under74 size24 (w.heap.size + 1 + 1) 0 18 18 _ 8 8 rfl rfl (fa 18 (fun _ => 0)) 76 E2.out (fa 8 (dg a)).toList (by rw [Array.length_toList, fa_size]; rfl) (fa_src (w := W.drew) E0.out (Nat.le_refl 8)) (by simp) fa_one ?_)
  rw [HSP.out]
  have F2 : Hid ((W.drew.setRow (w.heap.size + 1 + 1) (fa 18 (dg a))).heap[w.heap.size + 1 + 1]? = some (.cells (fa 18 (dg a)) 76 (0, 0))) := setRow_heap W.drew _ _ _ _ _ E2.out
  have F1 : Hid ((W.drew.setRow (w.heap.size + 1 + 1) (fa 18 (dg a))).heap[w.heap.size + 1]? = some (.cells (fa 18 (fun _ => 0)) 76 (0, 0))) := by
    unfold Hid; rw [setRow_other _ _ _ _ (by omega)]; exact E1.out
  have hB2 : Below w.heap.size w (W.drew.setRow (w.heap.size + 1 + 1) (fa 18 (dg a))) := below_setRow hB.drew (by omega) _
  generalize W.drew.setRow (w.heap.size + 1 + 1) (fa 18 (dg a)) = W2 at *
  obtain ⟨d, hu, hd⟩ := under65
  go_wp2_with (first
    | (refine wpList_lda rfl rfl rfl F2.out hu hd size65 ?_)
    | (refine wpList_sta rfl rfl rfl rfl F1.out size65 ?_))
  exact bodyPost_ret (res_cell rfl rfl (setRow_heap _ _ _ _ _ _ F1.out) hu hd (by rw [size65, fa_size])) rfl ⟨rfl, below_setRow hB2 (by omega) _⟩

set_option maxRecDepth 100000 in
set_option maxHeartbeats 400000 in
theorem narrow_yes (a : Nat) (ha : a < R 8) (w : World) :
    Calls Tryz.prog 97 #[wid a] w fun e w' => e = .returned (.tuple #[num a, .bool true]) ∧ Below w.heap.size w w' := by
  unfold num wid
  have hz : ln (dg a) 18 ≤ 8 := by
    rcases Nat.lt_or_ge 8 (ln (dg a) 18) with h | h
    · exact absurd (dg_of_lt' ha (show 8 ≤ ln (dg a) 18 - 1 by omega)) (ln_ge (by omega))
    · exact h
  go_enter Tryz.func97, Tryz.ntmps97
  go_wp2_with fail
  have hh := heap2 w (.cells (fa 18 (dg a)) 76) (.cells (fa 8 (fun _ => 0)) 23)
  have hB := below2 w (.cells (fa 18 (dg a)) 76) (.cells (fa 8 (fun _ => 0)) 23)
  obtain ⟨W, hW⟩ : ∃ W, W = (w.alloc (.cells (fa 18 (dg a)) 76)).alloc (.cells (fa 8 (fun _ => 0)) 23) := ⟨_, rfl⟩
  rw [fa_zero8] at hW
  rw [← hW]
  rw [fa_zero8, ← hW, ← fa_zero8] at hh
  rw [fa_zero8, ← hW] at hB
  clear hW
  obtain ⟨e0, e1⟩ := hh
  have E0 := Lib.hid e0
  have E1 := Lib.hid e1
  clear e0 e1
  refine (length_any _ 0 18 18 (dg a) _ (by omega) (fun i hi => by rw [Nat.zero_add]; exact blk_cell E0.out hi)).mono ?_
  rintro e w' ⟨rfl, rfl⟩
  generalize ln (dg a) 18 = m at *
  go_wp2
  have hB3 : Below w.heap.size w (W.alloc (.cells (fa 8 (fun _ => 0)) 23)) := hB.alloc hB.size _
  have hlt0 := lt_of_block E0.out
  have hlt1 := lt_of_block E1.out
  have F0 : Hid ((W.alloc (.cells (fa 8 (fun _ => 0)) 23)).heap[w.heap.size]? = some (.cells (fa 18 (dg a)) 76 (0, 0))) := (Below.heap_alloc _ _ _ hlt0).trans E0.out
  have F1 : Hid ((W.alloc (.cells (fa 8 (fun _ => 0)) 23)).heap[w.heap.size + 1]? = some (.cells (fa 8 (fun _ => 0)) 23 (0, 0))) := (Below.heap_alloc _ _ _ hlt1).trans E1.out
  have F2 : Hid ((W.alloc (.cells (fa 8 (fun _ => 0)) 23)).heap[W.heap.size]? = some (.cells (fa 8 (fun _ => 0)) 23 (0, 0))) := heap1 _ _
  have hg1 : w.heap.size + 1 < W.heap.size := hlt1
  generalize W.heap.size = g at *
  rw [← fa_zero8]
  generalize W.alloc (.cells (fa 8 (fun _ => 0)) 23) = W2 at *
  clear E0 E1 hB
  have hsp := splice_zero (n := 8) (m := 8) (f := dg a) (g := fun _ => 0) (by omega) (fun i _ hi => by omega)
  have HSP := Lib.hid hsp
  clear hsp
  go_region_law (refine step_copy_at rfl (.tmp 9) (.tmp 10) 65 65 rfl 22 under74 size24 g 0 8 8 _ 18 18 rfl rfl (fa 8 (fun _ => 0)) 23 F2.out (fa 8 (dg a)).toList (by rw [Array.length_toList, fa_size]; rfl) (fa_src (w := W2.drew) F0.out (by omega)) (by simp) fa_one ?_)
  rw [HSP.out]
  have G2 : Hid ((W2.drew.setRow g (fa 8 (dg a))).heap[g]? = some (.cells (fa 8 (dg a)) 23 (0, 0))) := setRow_heap W2.drew _ _ _ _ _ F2.out
  have G1 : Hid ((W2.drew.setRow g (fa 8 (dg a))).heap[w.heap.size + 1]? = some (.cells (fa 8 (fun _ => 0)) 23 (0, 0))) := by
    unfold Hid; rw [setRow_other _ _ _ _ (by omega)]; exact F1.out
  have hB2 : Below w.heap.size w (W2.drew.setRow g (fa 8 (dg a))) := below_setRow hB3.drew (by omega) _
  generalize W2.drew.setRow g (fa 8 (dg a)) = W3 at *
  obtain ⟨d, hu, hd⟩ := under25
  go_wp2_with (first
    | (refine wpList_lda rfl rfl rfl G2.out hu hd size25 ?_)
    | (refine wpList_sta rfl rfl rfl rfl G1.out size25 ?_))
  exact bodyPost_ret (res_cell_tmp rfl rfl (setRow_heap _ _ _ _ _ _ G1.out) hu hd (by rw [size25, fa_size])) rfl ⟨rfl, below_setRow hB2 (by omega) _⟩

set_option maxRecDepth 100000 in
set_option maxHeartbeats 400000 in
theorem narrow_no (a : Nat) (ha : a < R 18) (ha8 : R 8 ≤ a) (w : World) :
    Calls Tryz.prog 97 #[wid a] w fun e w' => e = .returned (.tuple #[num 0, .bool false]) ∧ Below w.heap.size w w' := by
  unfold num wid
  have hz : 8 < ln (dg a) 18 := by
    rcases Nat.lt_or_ge 8 (ln (dg a) 18) with h | h
    · exact h
    · exact absurd (Nat.lt_of_lt_of_le (ln_lt 18 ha) (R_le h)) (by omega)
  go_enter Tryz.func97, Tryz.ntmps97
  go_wp2_with fail
  have hh := heap2 w (.cells (fa 18 (dg a)) 76) (.cells (fa 8 (fun _ => 0)) 23)
  have hB := below2 w (.cells (fa 18 (dg a)) 76) (.cells (fa 8 (fun _ => 0)) 23)
  obtain ⟨W, hW⟩ : ∃ W, W = (w.alloc (.cells (fa 18 (dg a)) 76)).alloc (.cells (fa 8 (fun _ => 0)) 23) := ⟨_, rfl⟩
  rw [fa_zero8] at hW
  rw [← hW]
  rw [fa_zero8, ← hW, ← fa_zero8] at hh
  rw [fa_zero8, ← hW] at hB
  clear hW
  obtain ⟨e0, e1⟩ := hh
  have E0 := Lib.hid e0
  have E1 := Lib.hid e1
  clear e0 e1
  refine (length_any _ 0 18 18 (dg a) _ (by omega) (fun i hi => by rw [Nat.zero_add]; exact blk_cell E0.out hi)).mono ?_
  rintro e w' ⟨rfl, rfl⟩
  generalize ln (dg a) 18 = m at *
  obtain ⟨d, hu, hd⟩ := under25
  go_wp2_with (first
    | (refine wpList_stm rfl rfl rfl (v := .agg (fa 8 (fun _ => 0))) rfl E1.out size25 (by simp [Value.cells]) fa_one (fa_over _ _ _) ?_))
  refine bodyPost_ret (res_cell_tmp rfl rfl (setRow_heap _ _ _ _ _ _ E1.out) hu hd (by rw [size25, fa_size])) rfl ⟨?_, below_setRow hB (by omega) _⟩
  rw [← fa_dg0]; rfl
end Go.Proofs.YtalmflgkbmnghaaGreatDoor
namespace Go.Proofs.YtalmflgkbmnghaaGreatDoor
open Go.RowKit Tf

set_option maxRecDepth 100000 in
set_option maxHeartbeats 1000000 in
theorem divideShort_any (a b : Nat) (ha : a < R 18) (hb0 : 0 < b) (hb : b < 4294967296) (w : World) :
    Calls Tryz.prog 86 #[wid a, .int .u32 b] w fun e w' => e = .returned (.tuple #[wid (a / b), .int .u32 ((a % b : Nat) : Int)]) ∧ Below w.heap.size w w' := by
  unfold wid
  have m0 := ln_le (dg a) 18
  have HM := Lib.hid (ln_lt 18 ha)
  go_enter Tryz.func86, Tryz.ntmps86
  go_wp2_with fail
  have hh := heap2 w (.cells (fa 18 (dg a)) 76) (.cells (fa 18 (fun _ => 0)) 76)
  have hB := below2 w (.cells (fa 18 (dg a)) 76) (.cells (fa 18 (fun _ => 0)) 76)
  obtain ⟨W, hW⟩ : ∃ W, W = (w.alloc (.cells (fa 18 (dg a)) 76)).alloc (.cells (fa 18 (fun _ => 0)) 76) := ⟨_, rfl⟩
  rw [fa_zero18] at hW
  rw [← hW]
  rw [fa_zero18, ← hW, ← fa_zero18] at hh
  rw [fa_zero18, ← hW] at hB
  clear hW
  obtain ⟨e0, e1⟩ := hh
  have E0 := Lib.hid e0
  have E1 := Lib.hid e1
  clear e0 e1
  refine (length_any _ 0 18 18 (dg a) _ (by omega) (fun i hi => by rw [Nat.zero_add]; exact blk_cell E0.out hi)).mono ?_
  rintro e w' ⟨rfl, rfl⟩
  generalize ln (dg a) 18 = m at *
  go_wp2
  go_loopw [6, 7] (fun r i wr => ∃ k r0 P : Nat, k ≤ m ∧ r0 < b ∧ Hid (a = P / R k * R k * b + r0 * R k + a % R k) ∧ Hid (P % R k = a % R k) ∧ P < R 18 ∧ r = .int .u64 r0 ∧ i = .int .i64 ((k : Int) - 1) ∧ Below w.heap.size w wr ∧
      wr.heap[w.heap.size]? = some (.cells (fa 18 (dg P)) 76 (0, 0)) ∧ wr.heap[w.heap.size + 1]? = some (.cells (fa 18 (fun _ => 0)) 76 (0, 0)))
    (fun _ i _ => (intOf i + 1).toNat)
  case atStart =>
    refine ⟨m, 0, a, Nat.le_refl _, hb0, ?_, rfl, ha, rfl, rfl, hB, E0.out, E1.out⟩
    unfold Hid
    rw [Nat.div_eq_of_lt HM.out, Nat.mod_eq_of_lt HM.out]; omega
  case round =>
    obtain ⟨k, r0, P, hk, hr, he, hm, hP, rfl, rfl, hB, e0, e1⟩ := hrel
    rcases Nat.eq_zero_or_pos k with rfl | hpos
    · have hq : P = a / b ∧ r0 = a % b := by
        have h := he.out
        rw [R_zero, Nat.div_one, Nat.mod_one, Nat.mul_one, Nat.mul_one, Nat.add_zero] at h
        have h1 := Nat.div_add_mod a b
        have h2 : P = a / b := by
          rw [h, Nat.mul_comm P b, Nat.mul_add_div hb0, Nat.div_eq_of_lt hr, Nat.add_zero]
        refine ⟨h2, ?_⟩
        rw [h, Nat.mul_comm P b, Nat.mul_add_mod, Nat.mod_eq_of_lt hr]
      obtain ⟨h1, h2⟩ := hq
      have HR := Lib.hid h2
      clear h2 he hm
      subst h1
      obtain ⟨d, hu, hd⟩ := under65
      go_wp2_with (first
        | (refine wpList_lda rfl rfl rfl e0 hu hd size65 ?_)
        | (refine wpList_sta rfl rfl rfl rfl e1 size65 ?_))
      refine bodyPost_ret (res_cell_tmp rfl rfl (setRow_heap _ _ _ _ _ _ e1) hu hd (by rw [size65, fa_size])) rfl ⟨?_, below_setRow hB (by omega) _⟩
      rw [← HR.out]
      rfl
    · obtain ⟨j, rfl⟩ : ∃ j, k = j + 1 := ⟨k - 1, by omega⟩
      have ej : (((j + 1 : Nat) : Int) - 1) = j := by omega
      rw [ej]
      clear ej
      have hj18 : (j : Int) < 18 := by omega
      have h1 := blk_cell e0 (i := j) (by omega)
      have h3 : wr.frozen? ⟨w.heap.size, j, none⟩ = false := blk_free e0
      have b1 := dg_lt P j
      have hbz : ((b : Int) != 0) = true := by simp; omega
      have hb0' : (1 : Int) ≤ b := by omega
      have F0 := Lib.hid e0
      have F1 := Lib.hid e1
      clear e0 e1
      have hr32 : r0 < 4294967296 := by omega
      have hor := or64 b1 hr32
      obtain ⟨t, ht⟩ : ∃ t, t = r0 * 4294967296 + dg P j := ⟨_, rfl⟩
      rw [← ht] at hor
      have ht64 : t < 18446744073709551616 := by omega
      have htb : t < b * 4294967296 := by
        have : (r0 + 1) * 4294967296 ≤ b * 4294967296 := Nat.mul_le_mul_right _ hr
        omega
      have HT := Lib.hid ht
      clear ht
      go_wp2
      go_roundw
      case rel =>
        have hv : t / b < 4294967296 := by rw [Nat.div_lt_iff_lt_mul hb0, Nat.mul_comm]; exact htb
        have ev : ((t : Int) / (b : Int)) = ((t / b : Nat) : Int) := rfl
        have er : ((t : Int) % (b : Int)) = ((t % b : Nat) : Int) := rfl
        have hda : dg P j = dg a j := by
          rw [← dg_mod (x := P) (k := j + 1) (by omega), hm.out, dg_mod (by omega)]
        have hst := short_step (v := t / b) (r' := t % b) he.out (by rw [← hda, ← HT.out, Nat.mul_comm]; exact Nat.div_add_mod t b) hv
        rw [ev, er, wrapmod hv]
        refine ⟨j, t % b, setd P j (t / b), by omega, Nat.mod_lt _ hb0, hst, ?_, setd_lt hP (by omega) hv, rfl, rfl, ?_, ?_, ?_⟩
        · unfold Hid; rw [setd_mod, ← Nat.mod_mod_of_dvd P (show R j ∣ R (j + 1) from ⟨4294967296, by rw [R_succ, Nat.mul_comm]⟩), hm.out, Nat.mod_mod_of_dvd _ (show R j ∣ R (j + 1) from ⟨4294967296, by rw [R_succ, Nat.mul_comm]⟩)]
        · exact hB.setCell (Nat.le_refl _) _
        · exact blk_set F0.out (by omega) hv
        · rw [heap_setCell_other _ _ _ _ (by simp)]; exact F1.out
      case measure => (simp [intOf] <;> omega)
end Go.Proofs.YtalmflgkbmnghaaGreatDoor
namespace Go.Proofs.YtalmflgkbmnghaaGreatDoor
open Go.RowKit Tf
def strLen : Value → Nat
  | .string s => s.size
  | _ => 0
theorem ba_app (a b : List UInt8) : (⟨a.toArray⟩ : ByteArray) ++ ⟨b.toArray⟩ = ⟨(a ++ b).toArray⟩ := by
  apply ByteArray.ext
  rw [ByteArray.data_append]
  simp
theorem ba_drop (l : List UInt8) (i : Nat) : (⟨l.toArray⟩ : ByteArray).extract i l.length = ⟨(l.drop i).toArray⟩ := by
  apply ByteArray.ext
  rw [ByteArray.data_extract]
  simp
  rw [List.take_of_length_le (by simp)]
theorem ba_size (l : List UInt8) : (⟨l.toArray⟩ : ByteArray).size = l.length := by
  show l.toArray.size = l.length
  simp
theorem ret_txt {a b : ByteArray} (h : a = b) : Ending.returned (.string a) = .returned (.string b) := by rw [h]
def txt (l : List UInt8) : Value := .string ⟨l.toArray⟩
variable [ShSt]

set_option maxRecDepth 100000 in
set_option maxHeartbeats 1000000 in
theorem decimal_any (n : Nat) (hn : n < R 8) (w : World) (hE : Env w) :
    Calls Tryz.prog 62 #[num n] w fun e w' => e = .returned (txt (Lib.decDigits n)) ∧ Below w.heap.size w w' := by
  have HE := Lib.hid hE
  clear hE
  have hn18 : n < R 18 := lt_R_of_le hn (by omega)
  have HX := Lib.hid (⟨hn, hn18⟩ : n < R 8 ∧ n < R 18)
  clear hn hn18
  unfold num txt
  go_enter Tryz.func62, Tryz.ntmps62
  go_upto_region 1 with (fail)
  have hK := KS.one w (.cells (fa 8 (dg n)) 23)
  obtain ⟨W, hW⟩ : ∃ W, W = w.alloc (.cells (fa 8 (dg n)) 23) := ⟨_, rfl⟩
  rw [← hW] at hK
  rw [← hW]
  clear hW
  have HK := Lib.hid hK
  clear hK
  go_upto_region 3 with (first
    | (refine wpList_lda rfl rfl rfl (HK.out.2 _ (.head _)) Tryz.underlying23 rfl size25 ?_)
    | (go_at_call 57; refine (widen_any n HX.out.1 _).mono ?_; rintro e w1 ⟨rfl, hb1⟩; have HK1 := Lib.hid (HK.out.below hb1); clear hb1)
    | (go_at_call 86; refine (divideShort_any n 1000000000 HX.out.2 (by omega) (by omega) _).mono ?_; rintro e w2 ⟨rfl, hb2⟩; have HK2 := Lib.hid (HK1.out.below hb2); clear hb2; unfold wid)
    | (refine wpList_sta (f := dg (n / 1000000000)) (f' := fun _ => 0) rfl rfl rfl rfl (heap1 w2 _) size65 ?_))
  have HK3 := Lib.hid (HK2.out.newvar (cs := fa 18 (fun _ => 0)) (cs' := fa 18 (dg (n / 1000000000))) (t := 76))
  have f1 := HK2.out.fresh.1
  have f2 := HK2.out.fresh.2 _ (.head _)
  rw [← fa_zero18]
  generalize (w2.alloc (.cells (fa 18 (fun _ => 0)) 76)).setRow w2.heap.size (fa 18 (dg (n / 1000000000))) = W2 at *
  generalize w2.heap.size = g at *
  simp only at f2
  clear HK HK1 HK2
  go_loopw [3, 5] (fun t l wr => ∃ x : Nat, ∃ ls : List UInt8, x < R 8 ∧ t = .string ⟨ls.toArray⟩ ∧ l = .int .u32 ((x : Int) % 1000000000) ∧ Hid (Lib.decDigits n = Lib.decDigits x ++ ls) ∧ Hid (KS w [(g, .cells (fa 18 (dg (x / 1000000000))) 76 (0, 0)), (w.heap.size, .cells (fa 8 (dg n)) 23 (0, 0))] wr))
    (fun t _ _ => 100 - strLen t)
  case atStart => exact ⟨n, [], HX.out.1, rfl, rfl, by unfold Hid; simp, HK3⟩
  case round =>
    clear HK3
    obtain ⟨x, ls, hx, rfl, rfl, HD, HK⟩ := hrel
    have hx18 : x / 1000000000 < R 18 := Nat.lt_of_le_of_lt (Nat.div_le_self _ _) (lt_R_of_le hx (by omega))
    have HX2 := Lib.hid (⟨hx, hx18⟩ : x < R 8 ∧ x / 1000000000 < R 18)
    have hlen : (Lib.decDigits n).length ≤ 78 := dec_length 77 n (Nat.lt_of_lt_of_le HX.out.1 (by unfold R; decide))
    rw [HD.out, List.length_append] at hlen
    have hpos := dec_pos x
    clear hx hx18
    by_cases h0 : x / 1000000000 = 0
    · have hq : (!decide (x / 1000000000 = 0)) = false := by simp [h0]
      have HQ := Lib.hid hq
      have h1 : (x : Int) % 1000000000 = x := by omega
      have H0 := Lib.hid h0
      clear hq h0
      have hls : ¬ 9223372036854775807 < (Lib.decDigits x).length + ls.length := by omega
      go_wp2_with (first
        | (refine wpList_lda rfl rfl rfl (HK.out.2 _ (.head _)) Tryz.underlying76 rfl size65 ?_)
        | (refine wpList_bin (v := .bool false) (vx := .agg (fa 18 (dg (x / 1000000000)))) rfl rfl rfl rfl (fun w => run_neq65_nil HX2.out.2 HQ.out w) ?_)
        | (go_at_call 88; refine (itoa_any x (by have := H0.out; omega) _ (HE.out.keep HK.out.1)).mono ?_; rintro e w3 ⟨rfl, hb3⟩; have HK4 := Lib.hid (HK.out.below hb3); clear hb3))
      go_ret
      refine ⟨ret_txt ?_, HK4.out.1⟩
      rw [HD.out, ← ba_app]
    · have hq : (!decide (x / 1000000000 = 0)) = true := by simp [h0]
      have HI : Hid (∀ W, Env W → Calls Tryz.prog 88 #[.int .i64 (1000000000 + (x : Int) % 1000000000)] W fun e w' => e = .returned (.string ⟨(Lib.decDigits (1000000000 + x % 1000000000)).toArray⟩) ∧ Below W.heap.size W w') := fun W hW => by
        have := itoa_any (1000000000 + x % 1000000000) (by omega) W hW
        rw [show ((1000000000 + x % 1000000000 : Nat) : Int) = 1000000000 + (x : Int) % 1000000000 from by omega] at this
        exact this
      have hz1 := dec_tail (low := x % 1000000000) (by omega)
      have hz2 := congrArg List.length hz1
      rw [padL_length, List.length_drop] at hz2
      have HS := Lib.hid (dec_step h0)
      rw [← hz1] at HS
      clear hz1
      generalize Lib.decDigits (1000000000 + x % 1000000000) = z at *
      have hz3 : 10 ≤ z.length := by omega
      have hz4 : z.length ≤ 10 := by omega
      clear hz2
      have hzi : (1 : Int) ≤ (z.length : Int) := by omega
      have hls : ¬ 9223372036854775807 < z.length - 1 + ls.length := by omega
      have HQ := Lib.hid hq
      have H0 := Lib.hid h0
      clear hq h0
      go_wp2_with (first
        | (refine wpList_lda rfl rfl rfl (HK.out.2 _ (.head _)) Tryz.underlying76 rfl size65 ?_)
        | (refine wpList_bin (v := .bool true) (vx := .agg (fa 18 (dg (x / 1000000000)))) rfl rfl rfl rfl (fun w => run_neq65_nil HX2.out.2 HQ.out w) ?_)
        | (go_at_call 88; refine (HI.out _ (HE.out.keep HK.out.1)).mono ?_; rintro e w3 ⟨rfl, hb3⟩; have HK4 := Lib.hid (HK.out.below hb3); clear hb3)
        | (refine wpList_lda rfl rfl rfl (HK4.out.2 _ (.head _)) Tryz.underlying76 rfl size65 ?_)
        | (go_at_call 86; refine (divideShort_any (x / 1000000000) 1000000000 HX2.out.2 (by omega) (by omega) _).mono ?_; rintro e w5 ⟨rfl, hb5⟩; have HK5 := Lib.hid (HK4.out.below hb5); clear hb5; unfold wid)
        | (refine wpList_sta (f := dg (x / 1000000000 / 1000000000)) (f' := dg (x / 1000000000)) rfl rfl rfl rfl (HK5.out.2 _ (.head _)) size65 ?_))
      go_roundw
      case rel =>
        refine ⟨x / 1000000000, z.drop 1 ++ ls, Nat.lt_of_le_of_lt (Nat.div_le_self _ _) HX2.out.1, by rw [ba_drop, ba_app], rfl, ?_, ?_⟩
        · unfold Hid; rw [HD.out, HS.out, List.append_assoc]
        · exact HK5.out.put (K' := [(g, .cells (fa 18 (dg (x / 1000000000 / 1000000000))) 76 (0, 0)), (w.heap.size, .cells (fa 8 (dg n)) 23 (0, 0))]) (by omega) (.head _)
            (by intro p hp; simp only [List.mem_cons, List.not_mem_nil, or_false] at hp; rcases hp with rfl | rfl; exact .inl rfl; exact .inr ⟨by simp, by simp only; omega⟩)
      case measure =>
        unfold strLen
        simp only [ba_drop, ba_app, ba_size, List.length_append, List.length_drop]
        omega
end Go.Proofs.YtalmflgkbmnghaaGreatDoor
namespace Go.Proofs.YtalmflgkbmnghaaGreatDoor
open Go.RowKit Tf

theorem times_last {P x y c i n : Nat} (hy : y < R n) (hP : P < R (i + n)) (inv : P + c * R (i + n) = x % R i * y + dg x i * (y % R n) * R i) : setd P (i + n) c = x % R (i + 1) * y := by
  have h1 := setd_eq P (i + n) c
  rw [dg_of_lt hP, Nat.zero_mul, Nat.add_zero, inv, Nat.mod_eq_of_lt hy] at h1
  rw [h1, mod_succ]
  grind
theorem mulbd {x y : Nat} (hx : x < 4294967296) (hy : y < 4294967296) : (0 : Int) ≤ (x : Int) * y ∧ (x : Int) * y ≤ 18446744065119617025 := by
  have h : x * y ≤ 4294967295 * 4294967295 := Nat.mul_le_mul (by omega) (by omega)
  have e : (x : Int) * y = ((x * y : Nat) : Int) := by simp
  rw [e]; omega

set_option maxRecDepth 100000 in
set_option maxHeartbeats 1000000 in
theorem times_any (a b : Nat) (ha : a < R 8) (hb : b < R 8) (w : World) :
    Calls Tryz.prog 55 #[num a, num b] w fun e w' => e = .returned (wid (a * b)) ∧ Below w.heap.size w w' := by
  unfold num wid
  go_enter Tryz.func55, Tryz.ntmps55
  go_wp2
  obtain ⟨W, hW⟩ : ∃ W, W = (((w.alloc (.cells (fa 8 (dg a)) 23)).alloc (.cells (fa 8 (dg b)) 23)).alloc (.cells (fa 18 (fun _ => 0)) 76)).alloc (.cells (fa 18 (fun _ => 0)) 76) := ⟨_, rfl⟩
  have hh := heap4 w (.cells (fa 8 (dg a)) 23) (.cells (fa 8 (dg b)) 23) (.cells (fa 18 (fun _ => 0)) 76) (.cells (fa 18 (fun _ => 0)) 76)
  have hB := below4 w (.cells (fa 8 (dg a)) 23) (.cells (fa 8 (dg b)) 23) (.cells (fa 18 (fun _ => 0)) 76) (.cells (fa 18 (fun _ => 0)) 76)
  rw [fa_zero18] at hW
  rw [← hW]
  rw [fa_zero18, ← hW, ← fa_zero18] at hh
  rw [fa_zero18, ← hW] at hB
  clear hW
  obtain ⟨e0, e1, e2, e3⟩ := hh
  have E0 := Lib.hid e0
  have E1 := Lib.hid e1
  have E2 := Lib.hid e2
  have E3 := Lib.hid e3
  clear e0 e1 e2 e3
  have m0 := ln_le (dg a) 8
  have n0 := ln_le (dg b) 8
  have HM := Lib.hid (ln_lt 8 ha)
  have HN := Lib.hid (ln_lt 8 hb)
  go_quiet ((go_at_call 60; exact quiet_left (length_any _ 0 8 8 (dg _) _ (by omega) (fun i hi => by rw [Nat.zero_add]; first | exact blk_cell E0.out hi | exact blk_cell E1.out hi))))
  generalize ln (dg a) 8 = m at *
  generalize ln (dg b) 8 = n at *
  go_wp2
  go_loopw [17] (fun i wr => ∃ k P : Nat, k ≤ m ∧ Hid (P = a % R k * b) ∧ P < R (k + n) ∧ i = .int .i64 k ∧ Below w.heap.size w wr ∧
      wr.heap[w.heap.size]? = some (.cells (fa 8 (dg a)) 23 (0, 0)) ∧ wr.heap[w.heap.size + 1]? = some (.cells (fa 8 (dg b)) 23 (0, 0)) ∧ wr.heap[w.heap.size + 1 + 1]? = some (.cells (fa 18 (fun _ => 0)) 76 (0, 0)) ∧
      wr.heap[w.heap.size + 1 + 1 + 1]? = some (.cells (fa 18 (dg P)) 76 (0, 0)))
    (fun i _ => m - (intOf i).toNat)
  case atStart =>
    exact ⟨0, 0, Nat.zero_le _, by unfold Hid; rw [R_zero, Nat.mod_one, Nat.zero_mul], R_pos _, rfl, belowN hB _, E0.out, E1.out, E2.out, by rw [← fa_dg0]; exact E3.out⟩
  case round =>
    obtain ⟨k, P, hk, he, hP, rfl, hB, e0, e1, e2, e3⟩ := hrel
    have E0 := Lib.hid e0
    have E1 := Lib.hid e1
    have E2 := Lib.hid e2
    have E3 := Lib.hid e3
    clear e0 e1 e2 e3
    by_cases hlt : k < m
    · have hk8 : (k : Int) < 8 := by omega
      go_wp2
      go_loopw [9, 21] (fun c j wr => ∃ q c0 P : Nat, q ≤ n ∧ c0 < 4294967296 ∧ Hid (P + c0 * R (k + q) = a % R k * b + dg a k * (b % R q) * R k) ∧ P < R (k + n) ∧ c = .int .u64 c0 ∧ j = .int .i64 q ∧ Below w.heap.size w wr ∧
          wr.heap[w.heap.size]? = some (.cells (fa 8 (dg a)) 23 (0, 0)) ∧ wr.heap[w.heap.size + 1]? = some (.cells (fa 8 (dg b)) 23 (0, 0)) ∧ wr.heap[w.heap.size + 1 + 1]? = some (.cells (fa 18 (fun _ => 0)) 76 (0, 0)) ∧
          wr.heap[w.heap.size + 1 + 1 + 1]? = some (.cells (fa 18 (dg P)) 76 (0, 0)))
        (fun _ j _ => n - (intOf j).toNat)
      case atStart =>
        exact ⟨0, 0, P, Nat.zero_le _, by omega, by unfold Hid; rw [R_zero, Nat.mod_one, Nat.mul_zero, Nat.zero_mul, Nat.zero_mul]; exact congrArg (· + 0) he.out, hP, rfl, rfl, hB, E0.out, E1.out, E2.out, E3.out⟩
      case round =>
        obtain ⟨q, c0, P', hq, hc, he', hP', rfl, rfl, hB', e0, e1, e2, e3⟩ := hrel
        by_cases hlq : q < n
        · have hq8 : (q : Int) < 8 := by omega
          have hkq : (k : Int) + q < 18 := by omega
          have h1 := blk_cell e0 (i := k) (by omega)
          have h2 := blk_cell e1 (i := q) (by omega)
          have h3 := blk_cell e3 (i := k + q) (by omega)
          have h4 : wr.frozen? ⟨w.heap.size + 1 + 1 + 1, k + q, none⟩ = false := blk_free e3
          have b1 := dg_lt a k
          have b2 := dg_lt b q
          have b3 := dg_lt P' (k + q)
          obtain ⟨b4, b5⟩ := mulbd b1 b2
          have F0 := Lib.hid e0
          have F1 := Lib.hid e1
          have F2 := Lib.hid e2
          have F3 := Lib.hid e3
          clear e0 e1 e2 e3
          go_wp2
          go_quiet (fail)
          go_wp2
          go_roundw
          case rel =>
            obtain ⟨t, ht⟩ : ∃ t, t = dg a k * dg b q + dg P' (k + q) + c0 := ⟨_, rfl⟩
            have e : (dg a k : Int) * dg b q + dg P' (k + q) + c0 = (t : Int) := by rw [ht]; simp
            have hb := fits64 b1 b2 b3 hc
            rw [← ht] at hb
            have hv : t % 4294967296 < 4294967296 := Nat.mod_lt _ (by omega)
            rw [e, show (t : Int) % 4294967296 = ((t % 4294967296 : Nat) : Int) from by omega]
            refine ⟨q + 1, t / 4294967296, setd P' (k + q) (t % 4294967296), by omega, by omega, ?_, setd_lt hP' (by omega) hv, ?_, by go_num, ?_, ?_, ?_, ?_, ?_⟩
            · exact times_step he'.out (by omega)
            · exact congrArg (Value.int .u64) (by omega)
            · exact (belowN hB' _).setCell (by simp; omega) _
            · rw [heap_setCell_other _ _ _ _ (by simp; omega)]; exact F0.out
            · rw [heap_setCell_other _ _ _ _ (by simp)]; exact F1.out
            · rw [heap_setCell_other _ _ _ _ (by simp)]; exact F2.out
            · exact blk_set (w := wr.drewN _) F3.out (by omega) hv
          case measure => (simp [intOf] <;> omega)
        · obtain rfl : q = n := by omega
          have hkq : (k : Int) + q < 18 := by omega
          have h3 := blk_cell e3 (i := k + q) (by omega)
          have h4 : wr.frozen? ⟨w.heap.size + 1 + 1 + 1, k + q, none⟩ = false := blk_free e3
          have F0 := Lib.hid e0
          have F1 := Lib.hid e1
          have F2 := Lib.hid e2
          have F3 := Lib.hid e3
          clear e0 e1 e2 e3
          go_wp2
          go_roundw
          case rel =>
            refine ⟨k + 1, setd P' (k + q) c0, by omega, times_last HN.out hP' he'.out, ?_, by go_num, ?_, ?_, ?_, ?_, ?_⟩
            · exact setd_lt (lt_R_of_le hP' (by omega)) (by omega) hc
            · exact hB'.setCell (by simp; omega) _
            · rw [heap_setCell_other _ _ _ _ (by simp; omega)]; exact F0.out
            · rw [heap_setCell_other _ _ _ _ (by simp)]; exact F1.out
            · rw [heap_setCell_other _ _ _ _ (by simp)]; exact F2.out
            · exact blk_set F3.out (by omega) hc
          case measure => (simp [intOf] <;> omega)
    · obtain rfl : k = m := by omega
      have hfin : P = a * b := by rw [he.out, Nat.mod_eq_of_lt HM.out]
      subst hfin
      obtain ⟨d, hu, hd⟩ := under65
      go_wp2_with (first
        | (refine wpList_lda rfl rfl rfl E3.out hu hd size65 ?_)
        | (refine wpList_sta rfl rfl rfl rfl E2.out size65 ?_))
      exact bodyPost_ret (res_cell rfl rfl (setRow_heap _ _ _ _ _ _ E2.out) hu hd (by rw [size65, fa_size])) rfl ⟨rfl, below_setRow hB (by omega) _⟩
end Go.Proofs.YtalmflgkbmnghaaGreatDoor
namespace Go.Proofs.YtalmflgkbmnghaaGreatDoor
open Go.RowKit Tf

theorem dg_part {X m j i : Nat} (hm : m < R j) : dg (X * R j + m) (j + i) = dg X i := by
  rw [← dg_div, Nat.mul_comm, Nat.mul_add_div (R_pos j), Nat.div_eq_of_lt hm, Nat.add_zero]
theorem setd_part {X m j i v : Nat} (hm : m < R j) : setd (X * R j + m) (j + i) v = setd X i v * R j + m := by
  have h1 := setd_eq (X * R j + m) (j + i) v
  have h2 := setd_eq X i v
  rw [dg_part hm, R_add] at h1
  have h3 : (setd X i v + dg X i * R i) * R j = (X + v * R i) * R j := by rw [h2]
  rw [Nat.add_mul, Nat.add_mul, Nat.mul_assoc, Nat.mul_assoc, Nat.mul_comm (R i) (R j)] at h3
  generalize dg X i * (R j * R i) = y at *
  generalize v * (R j * R i) = z at *
  generalize setd X i v * R j = u at *
  generalize X * R j = t at *
  omega
theorem sub_facts {x l d c b : Nat} (hx : x < 4294967296) (hl : l < 4294967296) (hd : d < 4294967296) (hc : c < 4294967296) (hb : b ≤ 1) :
    ∃ v q c' b' : Nat, v < 4294967296 ∧ q < 4294967296 ∧ c' < 4294967296 ∧ b' ≤ 1 ∧ q + c' * 4294967296 = l * d + c ∧ v + q + b = x + b' * 4294967296 ∧
      ((l : Int) * d + c) / 4294967296 = c' ∧ 
      bits .and .u64 ((l : Int) * d + c) 4294967295 = q ∧
      IntKind.u64.wrap (IntKind.u64.wrap ((x : Int) - q) - b) % 4294967296 = v ∧ IntKind.u64.wrap (IntKind.u64.wrap ((x : Int) - q) - b) / 9223372036854775808 = b' := by
  have hb64 := fits64 hl hd hc (show 0 < 4294967296 by omega)
  have e : (l : Int) * d + c = ((l * d + c : Nat) : Int) := by simp
  rw [e]
  rw [Nat.add_zero] at hb64
  generalize l * d + c = n at *
  have hq : n % 4294967296 < 4294967296 := Nat.mod_lt _ (by omega)
  obtain ⟨v, b', hv, hb', h1, h2, h3⟩ := sub_limb hx hq hb
  have hand := Nat.and_two_pow_sub_one_eq_mod n 32
  rw [show (2 : Nat) ^ 32 - 1 = 4294967295 from rfl, show (2 : Nat) ^ 32 = 4294967296 from rfl] at hand
  refine ⟨v, n % 4294967296, n / 4294967296, b', hv, hq, by omega, hb', by omega, h1, rfl, ?_, h2, h3⟩
  rw [show (4294967295 : Int) = ((4294967295 : Nat) : Int) from rfl, u64_and_nat _ _ (by omega) (by omega), hand]

set_option maxRecDepth 100000 in
set_option maxHeartbeats 1000000 in
theorem subtractTimes_any (b j d n cap cap' A D l N T T' : Nat) (hn : 2 ≤ n) (hn8 : n ≤ 8) (hN : j + n < N) (hN18 : N ≤ 18) (hA : A < R (j + (n + 1))) (hD : D < R n) (hD0 : 0 < D) (hl : l < 4294967296)
    (hl1 : A / R j / D ≤ l) (hl2 : l ≤ A / R j / D + 1) (hbd : b ≠ d) (w : World)
    (h0 : w.heap[b]? = some (.cells (fa N (dg A)) T (0, 0))) (h1 : w.heap[d]? = some (.cells (fa 8 (dg D)) T' (0, 0))) :
    Calls Tryz.prog 101 #[.slice (some ⟨b, j, none⟩) (n + 1) cap, .slice (some ⟨d, 0, none⟩) n cap', .int .u64 l] w
      fun e w' => e = .returned (.int .u32 ((A / R j / D : Nat) : Int)) ∧ w'.heap[b]? = some (.cells (fa N (dg (A / R j % D * R j + A % R j))) T (0, 0)) ∧ w.grownBy w' (some b) := by
  obtain ⟨m, hm⟩ : ∃ m, m = A % R j := ⟨_, rfl⟩
  obtain ⟨p, hp⟩ : ∃ p, p = A / R j := ⟨_, rfl⟩
  have hmR : m < R j := by rw [hm]; exact mod_lt_R _ _
  have hpR : p < R (n + 1) := by
    rw [hp, Nat.div_lt_iff_lt_mul (R_pos j), ← R_add, Nat.add_comm]; exact hA
  have hAp : A = p * R j + m := by
    rw [hp, hm, Nat.mul_comm]; exact (Nat.div_add_mod A (R j)).symm
  rw [← hm, ← hp]
  rw [← hp] at hl1 hl2
  rw [hAp] at h0
  clear hm hp hAp hA
  have H0 := Lib.hid h0
  have H1 := Lib.hid h1
  have HL1 := Lib.hid hl1
  have HL2 := Lib.hid hl2
  clear h0 h1 hl1 hl2
  go_enter Tryz.func101, Tryz.ntmps101
  go_wp2
  go_loopw [8, 9, 22] (fun x y i wr => ∃ k c0 b0 X : Nat, k ≤ n ∧ c0 < 4294967296 ∧ b0 ≤ 1 ∧ Hid (X + l * (D % R k) = p + (c0 + b0) * R k) ∧ X < R (n + 1) ∧ x = .int .u64 c0 ∧ y = .int .u64 b0 ∧ i = .int .i64 k ∧ w.grownBy wr (some b) ∧
      wr.heap[b]? = some (.cells (fa N (dg (X * R j + m))) T (0, 0)) ∧ wr.heap[d]? = some (.cells (fa 8 (dg D)) T' (0, 0)))
    (fun _ _ i _ => n - (intOf i).toNat)
  case atStart =>
    refine ⟨0, 0, 0, p, Nat.zero_le _, by omega, by omega, ?_, hpR, rfl, rfl, rfl, World.grownBy.refl w _, H0.out, H1.out⟩
    unfold Hid; rw [R_zero, Nat.mod_one]; omega
  case round =>
    obtain ⟨k, c0, b0, X, hk, hc, hb, he, hX, rfl, rfl, rfl, hB, e0, e1⟩ := hrel
    by_cases hlt : k < n
    · have c1 := blk_cell e0 (i := j + k) (by omega)
      rw [dg_part hmR] at c1
      have c2 := blk_cell e1 (i := k) (by omega)
      have c3 : wr.frozen? ⟨b, j + k, none⟩ = false := blk_free e0
      have b1 := dg_lt X k
      have b2 := dg_lt D k
      obtain ⟨b4, b5⟩ := mulbd hl b2
      obtain ⟨v, q, c', b', hv, hq, hc', hb', g1, g2, g3, g4, g5, g6⟩ := sub_facts b1 hl b2 hc hb
      have G5 := Lib.hid g5
      have G6 := Lib.hid g6
      have G1 := Lib.hid g1
      have G2 := Lib.hid g2
      clear g1 g2 g5 g6
      have E0 := Lib.hid e0
      have E1 := Lib.hid e1
      clear e0 e1
      go_wp2
      go_roundw
      case rel =>
        rw [G5.out, G6.out]
        refine ⟨k + 1, c', b', setd X k v, by omega, hc', hb', sub_step he.out G1.out (by have := G2.out; omega), setd_lt hX (by omega) hv, rfl, rfl, by go_num, only_setCell hB _, ?_, ?_⟩
        · rw [blk_set E0.out (by omega) hv, setd_part hmR]
        · rw [heap_setCell_other _ _ _ _ (fun h => hbd h.symm)]; exact E1.out
      case measure => (simp [intOf] <;> omega)
    · obtain rfl : k = n := by omega
      have c1 := blk_cell e0 (i := j + k) (by omega)
      rw [dg_part hmR] at c1
      have c3 : wr.frozen? ⟨b, j + k, none⟩ = false := blk_free e0
      have b1 := dg_lt X k
      obtain ⟨v, b', hv, hb', g1, g2, g3⟩ := sub_limb b1 hc hb
      have hX2 : setd X k v < R (k + 1) := setd_lt hX (by omega) hv
      have HS : Hid (setd X k v + l * D = p + b' * R (k + 1)) := sub_last hD he.out (by omega)
      have F0 : Hid ((wr.setCell ⟨b, j + k, none⟩ (.int .u32 v)).heap[b]? = some (.cells (fa N (dg (setd X k v * R j + m))) T (0, 0))) := by
        unfold Hid; rw [blk_set e0 (by omega) hv, setd_part hmR]
      have F1 : Hid ((wr.setCell ⟨b, j + k, none⟩ (.int .u32 v)).heap[d]? = some (.cells (fa 8 (dg D)) T' (0, 0))) := by
        unfold Hid; rw [heap_setCell_other _ _ _ _ (fun h => hbd h.symm)]; exact e1
      have HB2 : Hid (w.grownBy (wr.setCell ⟨b, j + k, none⟩ (.int .u32 v)) (some b)) := only_setCell hB _
      have G2 := Lib.hid g2
      have G3 := Lib.hid g3
      clear g1 g2 g3 e0 e1 he
      rcases Nat.eq_zero_or_pos b' with hz | hz
      · have hfin := sub_right (X := setd X k v) (P := p) (D := D) (l := l) (by have := HS.out; rw [hz, Nat.zero_mul] at this; omega) HL1.out hD0
        obtain ⟨f1, f2⟩ := hfin
        have FF1 := Lib.hid f1
        have FF2 := Lib.hid f2
        have G3' : Hid (IntKind.u64.wrap (IntKind.u64.wrap ((dg X k : Int) - c0) - b0) / 9223372036854775808 = 0) := by unfold Hid; rw [G3.out, hz]; rfl
        have g3 := G3'.out
        have g2 := G2.out
        clear f1 f2 G3 hz HS
        go_wp2
        go_ret
        exact ⟨ret_int (by rw [← FF1.out]), by rw [← FF2.out]; exact F0.out, HB2.out⟩
      · obtain rfl : b' = 1 := by omega
        have g3 := G3.out
        have g2 := G2.out
        obtain ⟨X', hX'⟩ : ∃ X', X' = setd X k v := ⟨_, rfl⟩
        rw [← hX'] at hX2 HS F0
        clear G3 hX'
        have g3' : IntKind.u64.wrap (IntKind.u64.wrap ((dg X k : Int) - c0) - b0) / 9223372036854775808 = 1 := g3
        clear g3
        go_wp2
        generalize wr.setCell ⟨b, j + k, none⟩ (.int .u32 v) = W at *
        clear hB hc hb g3' b1
        go_loopw [8, 74] (fun x i wr => ∃ q c0 Y : Nat, q ≤ k ∧ c0 ≤ 1 ∧ Hid (Y + c0 * R q = X' + D % R q) ∧ Y < R (k + 1) ∧ x = .int .u64 c0 ∧ i = .int .i64 q ∧ w.grownBy wr (some b) ∧
            wr.heap[b]? = some (.cells (fa N (dg (Y * R j + m))) T (0, 0)) ∧ wr.heap[d]? = some (.cells (fa 8 (dg D)) T' (0, 0)))
          (fun _ i _ => k - (intOf i).toNat)
        case atStart =>
          refine ⟨0, 0, X', Nat.zero_le _, by omega, ?_, hX2, rfl, rfl, HB2.out, F0.out, F1.out⟩
          unfold Hid; rw [R_zero, Nat.mod_one, Nat.zero_mul]
        case round =>
          obtain ⟨q, cc, Y, hq, hc, he, hY, rfl, rfl, hB, e0, e1⟩ := hrel
          by_cases hlt : q < k
          · have d1 := blk_cell e0 (i := j + q) (by omega)
            rw [dg_part hmR] at d1
            have d2 := blk_cell e1 (i := q) (by omega)
            have d3 : wr.frozen? ⟨b, j + q, none⟩ = false := blk_free e0
            have b1 := dg_lt Y q
            have b2 := dg_lt D q
            have E0 := Lib.hid e0
            have E1 := Lib.hid e1
            clear e0 e1
            go_wp2
            go_roundw
            case rel =>
              obtain ⟨t, ht⟩ : ∃ t, t = dg Y q + dg D q + cc := ⟨_, rfl⟩
              have hv2 : t % 4294967296 < 4294967296 := Nat.mod_lt _ (by omega)
              have et : ((dg Y q : Int) + dg D q + cc) = (t : Int) := by omega
              rw [et, show (t : Int) % 4294967296 = ((t % 4294967296 : Nat) : Int) from rfl]
              refine ⟨q + 1, t / 4294967296, setd Y q (t % 4294967296), by omega, by omega, plus_step he.out (by omega), setd_lt hY (by omega) hv2, ?_, by go_num, only_setCell hB _, ?_, ?_⟩
              · exact congrArg (Value.int .u64) (by omega)
              · rw [blk_set E0.out (by omega) hv2, setd_part hmR]
              · rw [heap_setCell_other _ _ _ _ (fun h => hbd h.symm)]; exact E1.out
            case measure => (simp [intOf] <;> omega)
          · obtain rfl : q = k := by omega
            have d1 := blk_cell e0 (i := j + q) (by omega)
            rw [dg_part hmR] at d1
            have d3 : wr.frozen? ⟨b, j + q, none⟩ = false := blk_free e0
            have b1 := dg_lt Y q
            have E0 := Lib.hid e0
            clear e0 e1
            have hl0 : 1 ≤ l := by
              rcases Nat.eq_zero_or_pos l with h | h
              · exfalso
                have h1 := HS.out
                rw [h, Nat.zero_mul, Nat.one_mul] at h1
                omega
              · exact h
            have HE := he
            go_wp2
            obtain ⟨t, ht⟩ : ∃ t, t = dg Y q + cc := ⟨_, rfl⟩
            have hv2 : t % 4294967296 < 4294967296 := Nat.mod_lt _ (by omega)
            have hst : setd Y q (t % 4294967296) + t / 4294967296 * R (q + 1) = X' + D := by
              have h := plus_step (v := t % 4294967296) (c' := t / 4294967296) HE.out (by rw [dg_of_lt hD]; omega)
              rwa [Nat.mod_eq_of_lt (lt_R_of_le hD (by omega))] at h
            obtain ⟨f1, f2⟩ := sub_wrong hX2 HS.out HL2.out hD0 hD hst (setd_lt hY (by omega) hv2)
            go_ret
            refine ⟨ret_int ?_, ?_, only_setCell hB _⟩
            · generalize p / D = z at *
              omega
            · rw [show ((dg Y q : Int) + cc) % 4294967296 = ((t % 4294967296 : Nat) : Int) from by omega, blk_set E0.out (by omega) hv2, setd_part hmR, f2]
end Go.Proofs.YtalmflgkbmnghaaGreatDoor
namespace Go.Proofs.YtalmflgkbmnghaaGreatDoor
open Go.RowKit Tf

theorem guess_small {l f r t : Nat} (he : l * f + r = t) (hr : 4294967296 ≤ r) (ht : t ≤ f * 4294967296 + 4294967295) : l < 4294967296 := by
  rcases Nat.lt_or_ge l 4294967296 with h | h
  · exact h
  · have := Nat.mul_le_mul_right f h
    omega
theorem guess_over {l r sd u : Nat} (hl : l < 4294967296) (hs : sd < 4294967296) (hr : 4294967296 ≤ r) : ¬ r * 4294967296 + u < l * sd := by
  have : l * sd ≤ 4294967295 * 4294967295 := Nat.mul_le_mul (by omega) (by omega)
  omega
theorem guess_end {p D k l f r t sd u : Nat} (he : l * f + r = t) (hD : D / R k = f * 4294967296 + sd) (hP : p / R k = t * 4294967296 + u) (hf : 1 ≤ f) (hl : l < 4294967296) (hc : ¬ r * 4294967296 + u < l * sd) : l ≤ p / D + 1 :=
  guess_most hl (by rw [hD]; omega) (Nat.le_of_not_lt fun h => hc ((guess_cond he hD hP).2 h))
theorem guess_great {p D k l f r t sd u : Nat} (he : l * f + r = t) (hD : D / R k = f * 4294967296 + sd) (hP : p / R k = t * 4294967296 + u) (hc : r * 4294967296 + u < l * sd) : p / D < l :=
  guess_more ((guess_cond he hD hP).1 hc)
theorem guess_down {l f r t : Nat} (he : l * f + r = t) (hl : 0 < l) : (l - 1) * f + (r + f) = t := by
  obtain ⟨x, rfl⟩ : ∃ x, l = x + 1 := ⟨l - 1, by omega⟩
  rw [Nat.add_sub_cancel]
  rw [Nat.add_mul, Nat.one_mul] at he
  omega

def GuessIs (p D : Nat) (w : World) (e : Ending) (w' : World) : Prop := ∃ l : Nat, p / D ≤ l ∧ l ≤ p / D + 1 ∧ l < 4294967296 ∧ e = .returned (.int .u64 l) ∧ Below w.heap.size w w'

set_option maxRecDepth 20000 in
set_option maxHeartbeats 1000000 in
theorem guess_any (b j d n cap cap' p D : Nat) (hn : 2 ≤ n) (hn8 : n ≤ 8) (hp : p < R (n + 1)) (hD : D < R n) (hDh : 2147483648 * R (n - 1) ≤ D) (hpD : p < D * 4294967296) (w : World)
    (h0 : ∀ i, i ≤ n → w.cell? ⟨b, j + i, none⟩ = some (.int .u32 (dg p i))) (h1 : ∀ i, i < n → w.cell? ⟨d, i, none⟩ = some (.int .u32 (dg D i))) :
    Calls Tryz.prog 102 #[.slice (some ⟨b, j, none⟩) (n + 1) cap, .slice (some ⟨d, 0, none⟩) n cap'] w (GuessIs p D w) := by
  obtain ⟨k, rfl⟩ : ∃ k, n = k + 2 := ⟨n - 2, by omega⟩
  have c0 := h0 k (by omega)
  have c1 := h0 (k + 1) (by omega)
  have c2 := h0 (k + 2) (by omega)
  have d0 := h1 k (by omega)
  have d1 := h1 (k + 1) (by omega)
  clear h0 h1
  have p0 := dg_lt p k
  have p1 := dg_lt p (k + 1)
  have p2 := dg_lt p (k + 2)
  have q0 := dg_lt D k
  have q1 := dg_lt D (k + 1)
  have q2 : 2147483648 ≤ dg D (k + 1) := by
    have h := div_one (x := D) (k := k + 1) hD
    rw [← h, Nat.le_div_iff_mul_le (R_pos _)]
    exact hDh
  have hD0 : 0 < D := by
    have := Nat.mul_le_mul_left 2147483648 (R_pos (k + 1))
    have h2 : 2147483648 * R (k + 1) ≤ D := hDh
    omega
  have hqlt : p / D < 4294967296 := by rw [Nat.div_lt_iff_lt_mul hD0, Nat.mul_comm]; exact hpD
  have hf1 : D / R (k + 1) = dg D (k + 1) := div_one hD
  have hf2 : D / R k = dg D (k + 1) * 4294967296 + dg D k := div_two hD
  have ht1 : p / R (k + 1) = dg p (k + 2) * 4294967296 + dg p (k + 1) := div_two hp
  have ht2 : p / R k = (dg p (k + 2) * 4294967296 + dg p (k + 1)) * 4294967296 + dg p k := div_three hp
  have hp2 : dg p (k + 2) ≤ dg D (k + 1) := by
    have h1 : p / R (k + 2) = dg p (k + 2) := div_one hp
    rw [← h1, ← hf1]
    have h2 : D < (D / R (k + 1) + 1) * R (k + 1) := by
      have := Nat.lt_div_mul_add (a := D) (R_pos (k + 1))
      rw [Nat.add_mul, Nat.one_mul]; omega
    have h3 : p < (D / R (k + 1) + 1) * R (k + 2) := by
      have h4 : R (k + 2) = 4294967296 * R (k + 1) := R_succ (k + 1)
      have h5 : (D / R (k + 1) + 1) * R (k + 2) = (D / R (k + 1) + 1) * R (k + 1) * 4294967296 := by rw [h4]; grind
      have h6 : D * 4294967296 ≤ (D / R (k + 1) + 1) * R (k + 1) * 4294967296 := Nat.mul_le_mul_right _ (Nat.le_of_lt h2)
      omega
    have := (Nat.div_lt_iff_lt_mul (R_pos (k + 2))).2 h3
    omega
  have hfirst : p / D ≤ p / R (k + 1) / (D / R (k + 1)) := guess_first (by rw [hf1]; omega)
  rw [ht1, hf1] at hfirst
  have hor := or64 p1 p2
  obtain ⟨f, hf⟩ : ∃ f, f = dg D (k + 1) := ⟨_, rfl⟩
  obtain ⟨t, ht⟩ : ∃ t, t = dg p (k + 2) * 4294967296 + dg p (k + 1) := ⟨_, rfl⟩
  obtain ⟨sd, hsd⟩ : ∃ sd, sd = dg D k := ⟨_, rfl⟩
  have htb : t ≤ f * 4294967296 + 4294967295 := by omega
  have ht64 : t < 18446744073709551616 := by omega
  rw [← ht] at hor ht2 hfirst
  rw [← hf] at hf2 hfirst q2 q1 d1
  rw [← hsd] at hf2 d0 q0
  have hl0 : t / f ≤ 4294967297 := by
    have : t / f < 4294967298 := by rw [Nat.div_lt_iff_lt_mul (by omega)]; omega
    omega
  have HF2 := Lib.hid hf2
  have HT2 := Lib.hid ht2
  have HQ := Lib.hid hfirst
  have HQL := Lib.hid hqlt
  have HL0 := Lib.hid hl0
  have hf0 : ((f : Int) != 0) = true := by simp; omega
  clear hf2 ht2 hf ht hsd hfirst hqlt hf1 ht1 hl0
  go_enter Tryz.func102, Tryz.ntmps102
  go_wp2
  go_quiet (fail)
  go_wp2
  go_quiet (fail)
  go_wp2
  go_quiet (fail)
  go_wp2
  go_loopw [9, 10] (fun x y wr => ∃ l r : Nat, Hid (l * f + r = t) ∧ Hid (p / D ≤ l) ∧ l ≤ 4294967297 ∧ r < 4294967296 ∧ x = .int .u64 l ∧ y = .int .u64 r ∧ Below w.heap.size w wr) (fun x _ _ => (intOf x).toNat)
  case atStart =>
    have e1 : IntKind.u64.wrap ((t : Int) / (f : Int)) = ((t / f : Nat) : Int) := by
      rw [show (t : Int) / (f : Int) = ((t / f : Nat) : Int) from rfl]
      have := HL0.out
      generalize t / f = v at *
      simp only [IntKind.wrap_u64]; omega
    rw [e1]
    have h1 := Nat.div_add_mod t f
    rw [Nat.mul_comm] at h1
    have h2 := Nat.mod_lt t (show 0 < f by omega)
    exact ⟨t / f, t % f, h1, HQ, HL0.out, by omega, rfl, rfl, belowN (belowN (belowN (Below.refl _ _) _) _) _⟩
  case round =>
    obtain ⟨l, r, he, hql, hl, hr, rfl, rfl, hBw⟩ := hrel
    have cw := (hBw.cell (p := ⟨b, j + k, none⟩) (block_lt_of_cell c0)).trans c0
    clear c0 c1 c2 d0 d1
    have hor2 := or64 p0 hr
    obtain ⟨u, hu⟩ : ∃ u, u = r * 4294967296 + dg p k := ⟨_, rfl⟩
    rw [← hu] at hor2
    have HU := Lib.hid hu
    clear hu
    have hf1 : 1 ≤ f := by omega
    have HTB := Lib.hid htb
    have HF1 := Lib.hid hf1
    have HP0 := Lib.hid p0
    have hl' : (l : Int) ≤ 4294967297 := by omega
    have hsum : (r : Int) + f < 18446744073709551616 := by omega
    have HSUM : ∀ c : Bool, decide (4294967296 ≤ r + f) = c → Hid (decide ((4294967296 : Int) ≤ (r : Int) + f) = c) := by
      intro c hc; unfold Hid
      have : (4294967296 : Int) ≤ (r : Int) + f ↔ 4294967296 ≤ r + f := by omega
      simp only [this, hc]
    clear hor htb ht64 q2 p1 p2 hp2 hf1
    by_cases hB : 4294967296 ≤ l
    · have h1 : Hid (decide ((4294967296 : Int) ≤ l) = true) := by unfold Hid; simp; omega
      have HG : Hid (p / D ≤ l - 1) := Nat.le_sub_one_of_lt (Nat.lt_of_lt_of_le HQL.out hB)
      have HE : Hid ((l - 1) * f + (r + f) = t) := guess_down he.out (by omega)
      have hlp : (1 : Int) ≤ l := by omega
      have HL : Hid (l - 1 ≤ 4294967297) := by unfold Hid; omega
      clear hB hl hor2 HU
      by_cases hb : 4294967296 ≤ r + f
      · have h2 := HSUM true (by simpa using hb)
        have HBB := Lib.hid hb
        clear HSUM hb
        go_wp2_with (first | (refine wpList_geq rfl true rfl rfl rfl h1.out ?_) | (refine wpList_geq rfl true rfl rfl rfl h2.out ?_; go_simp))
        go_ret
        have hs := guess_small HE.out HBB.out HTB.out
        exact ⟨l - 1, HG.out, guess_end HE.out HF2.out HT2.out HF1.out hs (guess_over hs q0 HBB.out), hs, ret_int (by omega), hBw⟩
      · have h2 := HSUM false (by simpa using hb)
        have HBB : Hid (r + f < 4294967296) := by unfold Hid; omega
        clear HSUM hb
        go_wp2_with (first | (refine wpList_geq rfl true rfl rfl rfl h1.out ?_) | (refine wpList_geq rfl false rfl rfl rfl h2.out ?_; go_simp))
        go_roundw
        case rel => first | exact ⟨l - 1, r + f, HE, HG, HL.out, HBB.out, congrArg (Value.int .u64) (by omega), congrArg (Value.int .u64) (by omega), hBw⟩ | ((repeat apply Exists.intro); exact ⟨⟨l - 1, r + f, HE, HG, HL.out, HBB.out, congrArg (Value.int .u64) (by omega), congrArg (Value.int .u64) (by omega), hBw⟩, rfl⟩)
        case measure => (simp [intOf] <;> omega)
    · have hl32 : l < 4294967296 := by omega
      have h1 : Hid (decide ((4294967296 : Int) ≤ l) = false) := by unfold Hid; simp; omega
      obtain ⟨b4, b5⟩ := mulbd hl32 q0
      have HL32 := Lib.hid hl32
      have HQ0 := Lib.hid q0
      clear hB hl hl32 q0
      by_cases hc : u < l * sd
      · have hc1 : ((u : Nat) : Int) < (l : Int) * sd := by
          rw [show (l : Int) * sd = ((l * sd : Nat) : Int) from by simp]; omega
        have hgr : p / D < l := guess_great he.out HF2.out HT2.out (by rw [← HU.out]; exact hc)
        have hl0 : 0 < l := Nat.lt_of_le_of_lt (Nat.zero_le _) hgr
        have HG : Hid (p / D ≤ l - 1) := Nat.le_sub_one_of_lt hgr
        have HE : Hid ((l - 1) * f + (r + f) = t) := guess_down he.out hl0
        have hlp : (1 : Int) ≤ l := by omega
        have HL : Hid (l - 1 ≤ 4294967297) := by unfold Hid; omega
        clear hc hgr hl0 HU
        by_cases hb : 4294967296 ≤ r + f
        · have h2 := HSUM true (by simpa using hb)
          have HBB := Lib.hid hb
          clear HSUM hb
          go_wp2_with (first | (refine wpList_geq rfl false rfl rfl rfl h1.out ?_) | (refine wpList_geq rfl true rfl rfl rfl h2.out ?_; go_simp))
          go_ret
          have hs := guess_small HE.out HBB.out HTB.out
          exact ⟨l - 1, HG.out, guess_end HE.out HF2.out HT2.out HF1.out hs (guess_over hs HQ0.out HBB.out), hs, ret_int (by omega), hBw⟩
        · have h2 := HSUM false (by simpa using hb)
          have HBB : Hid (r + f < 4294967296) := by unfold Hid; omega
          clear HSUM hb
          go_wp2_with (first | (refine wpList_geq rfl false rfl rfl rfl h1.out ?_) | (refine wpList_geq rfl false rfl rfl rfl h2.out ?_; go_simp))
          go_roundw
          case rel => first | exact ⟨l - 1, r + f, HE, HG, HL.out, HBB.out, congrArg (Value.int .u64) (by omega), congrArg (Value.int .u64) (by omega), hBw⟩ | ((repeat apply Exists.intro); exact ⟨⟨l - 1, r + f, HE, HG, HL.out, HBB.out, congrArg (Value.int .u64) (by omega), congrArg (Value.int .u64) (by omega), hBw⟩, rfl⟩)
          case measure => (simp [intOf] <;> omega)
      · have hc1 : decide (((u : Nat) : Int) < (l : Int) * sd) = false := by
          rw [show (l : Int) * sd = ((l * sd : Nat) : Int) from by simp]; simp; omega
        have HN : Hid (¬ r * 4294967296 + dg p k < l * sd) := by unfold Hid; rw [← HU.out]; exact hc
        clear hc HSUM HU
        go_wp2_with (first | (refine wpList_geq rfl false rfl rfl rfl h1.out ?_))
        go_ret
        exact ⟨l, hql.out, guess_end he.out HF2.out HT2.out HF1.out HL32.out HN.out, HL32.out, rfl, hBw⟩
end Go.Proofs.YtalmflgkbmnghaaGreatDoor
namespace Go.Proofs.YtalmflgkbmnghaaGreatDoor
open Go.RowKit Tf

theorem two_split {s : Nat} (hs : s < 32) : 2 ^ s * 2 ^ (32 - s) = 4294967296 := by
  rw [← Nat.pow_add, show s + (32 - s) = 32 from by omega]
theorem shl_facts {x s c : Nat} (hs : s < 32) (hx : x < 4294967296) (hc : c < 2 ^ s) :
    bits .or .u32 ((x : Int) * 2 ^ s % 4294967296) (c : Int) = (((x * 2 ^ s + c) % 4294967296 : Nat) : Int) ∧
    IntKind.u64.wrap ((x : Int) * 2 ^ s) / 4294967296 % 4294967296 = (((x * 2 ^ s + c) / 4294967296 : Nat) : Int) ∧ (x * 2 ^ s + c) / 4294967296 < 2 ^ s := by
  have hzy := two_split hs
  have e : ((2 : Int) ^ s) = ((2 ^ s : Nat) : Int) := by simp
  have hor := fun a => Nat.two_pow_add_eq_or_of_lt (i := s) (b := c) hc a
  have hz : 0 < 2 ^ s := Nat.pow_pos (by omega)
  have hy : 0 < 2 ^ (32 - s) := Nat.pow_pos (by omega)
  rw [e]
  generalize 2 ^ s = z at *
  generalize 2 ^ (32 - s) = y at *
  have hxz : x * z % 4294967296 = z * (x % y) := by rw [← hzy, Nat.mul_comm x z, Nat.mul_mod_mul_left]
  have hr : x % y < y := Nat.mod_lt _ hy
  have hlt : z * (x % y) + c < 4294967296 := by
    have : z * (x % y + 1) ≤ z * y := Nat.mul_le_mul_left _ hr
    rw [Nat.mul_add, Nat.mul_one, hzy] at this
    omega
  have hdm := Nat.div_add_mod x y
  have hs : x * z + c = 4294967296 * (x / y) + (z * (x % y) + c) := by
    rw [← hzy]
    have : x * z = (y * (x / y) + x % y) * z := by rw [hdm]
    rw [this]; grind
  have h1 : (x * z + c) % 4294967296 = z * (x % y) + c := by rw [hs, Nat.mul_add_mod, Nat.mod_eq_of_lt hlt]
  have h2 : (x * z + c) / 4294967296 = x / y := by rw [hs, Nat.mul_add_div (by omega), Nat.div_eq_of_lt hlt, Nat.add_zero]
  have h3 : x / y < z := by rw [Nat.div_lt_iff_lt_mul hy, hzy]; exact hx
  have h4 : x * z / 4294967296 = x / y := by
    rw [← hzy, Nat.mul_comm x z, Nat.mul_div_mul_left _ _ hz]
  have hzl : z ≤ 4294967296 := by
    have : z * 1 ≤ z * y := Nat.mul_le_mul_left _ hy
    omega
  have hxz2 : x * z < 18446744073709551616 := by
    have : x * z ≤ 4294967295 * 4294967296 := Nat.mul_le_mul (by omega) hzl
    omega
  refine ⟨?_, ?_, by rw [h2]; exact h3⟩
  · rw [show ((x : Int) * (z : Int)) % 4294967296 = ((x * z % 4294967296 : Nat) : Int) from by simp, hxz, u32_or_nat _ _ (by omega) (by omega), h1, ← hor]
  · rw [h2, show ((x : Int) * (z : Int)) = ((x * z : Nat) : Int) from by simp]
    simp only [IntKind.wrap_u64]
    rw [← h4]
    omega

set_option maxRecDepth 100000 in
set_option maxHeartbeats 1000000 in
theorem shiftLeft_any (b n cap s P T : Nat) (hn : n ≤ 18) (hs : s < 32) (hP : P * 2 ^ s < R n) (w : World) (h0 : w.heap[b]? = some (.cells (fa n (dg P)) T (0, 0))) :
    Calls Tryz.prog 100 #[.slice (some ⟨b, 0, none⟩) n cap, .int .i64 s] w fun e w' => e = .returned (.tuple #[]) ∧ w'.heap[b]? = some (.cells (fa n (dg (P * 2 ^ s))) T (0, 0)) ∧ w.grownBy w' (some b) := by
  have hs32 : (s : Int) < 32 := by omega
  have hs0 : (0 : Int) ≤ s := by omega
  have H0 := Lib.hid h0
  clear h0
  go_enter Tryz.func100, Tryz.ntmps100
  go_wp2
  go_loopw [4, 9] (fun c i wr => ∃ k c0 P' : Nat, k ≤ n ∧ c0 < 2 ^ s ∧ Hid (P' + c0 * R k = (P % R k) * 2 ^ s + 0 + P / R k * R k) ∧ Hid (P' / R k = P / R k) ∧ P' < R n ∧ c = .int .u32 c0 ∧ i = .int .i64 k ∧ w.grownBy wr (some b) ∧
      wr.heap[b]? = some (.cells (fa n (dg P')) T (0, 0)))
    (fun _ i _ => n - (intOf i).toNat)
  case atStart =>
    have hz : 0 < 2 ^ s := Nat.pow_pos (by omega)
    refine ⟨0, 0, P, Nat.zero_le _, hz, ?_, rfl, ?_, rfl, rfl, World.grownBy.refl w _, H0.out⟩
    · unfold Hid; rw [R_zero, Nat.mod_one, Nat.zero_mul, Nat.div_one]; omega
    · have : P * 1 ≤ P * 2 ^ s := Nat.mul_le_mul_left _ hz
      omega
  case round =>
    obtain ⟨k, c0, P', hk, hc, he, hd, hP', rfl, rfl, hB, e0⟩ := hrel
    by_cases hlt : k < n
    · have h1 := blk_cell e0 hlt
      have h3 : wr.frozen? ⟨b, k, none⟩ = false := blk_free e0
      have b1 := dg_lt P' k
      have E0 := Lib.hid e0
      clear e0
      go_wp2
      go_roundw
      case rel =>
        obtain ⟨f1, f2, f3⟩ := shl_facts hs b1 hc
        rw [f1, f2]
        have hda : dg P' k = dg P k := by unfold dg; rw [hd.out]
        have hv : (dg P' k * 2 ^ s + c0) % 4294967296 < 4294967296 := Nat.mod_lt _ (by omega)
        refine ⟨k + 1, (dg P' k * 2 ^ s + c0) / 4294967296, setd P' k ((dg P' k * 2 ^ s + c0) % 4294967296), by omega, f3, ?_, ?_, setd_lt hP' hlt hv, rfl, by go_num, ?_, ?_⟩
        · exact scale_step he.out hda (by omega)
        · unfold Hid; rw [setd_div _ _ _ hv]
          have h1 := div_succ P' k
          have h2 := div_succ P k
          have h3 := hd.out
          omega
        · exact only_setCell hB _
        · exact blk_set E0.out hlt hv
      case measure => (simp [intOf] <;> omega)
    · obtain rfl : k = n := by omega
      have hfin : P' = P * 2 ^ s := by
        have h := he.out
        have hPk : P < R k := by
          have : P * 1 ≤ P * 2 ^ s := Nat.mul_le_mul_left _ (Nat.pow_pos (by omega))
          omega
        rw [Nat.mod_eq_of_lt hPk, Nat.div_eq_of_lt hPk] at h
        have h0 := R_pos k
        rcases Nat.eq_zero_or_pos c0 with h1 | h1
        · subst h1; omega
        · have : 1 * R k ≤ c0 * R k := Nat.mul_le_mul_right _ h1
          omega
      have HF := Lib.hid hfin
      clear hfin
      have E0 := Lib.hid e0
      clear e0 he hd
      go_wp2
      go_end0
      exact ⟨rfl, by rw [← HF.out]; exact E0.out, hB⟩
end Go.Proofs.YtalmflgkbmnghaaGreatDoor
namespace Go.Proofs.YtalmflgkbmnghaaGreatDoor
open Go.RowKit Tf

theorem shr_facts {x s H : Nat} (hs : s < 32) (hx : x < 4294967296) :
    bits .or .u32 ((x : Int) / 2 ^ s) ((H % 2 ^ s * 2 ^ (32 - s) : Nat) : Int) = ((H % 2 ^ s * 2 ^ (32 - s) + x / 2 ^ s : Nat) : Int) ∧
    (x : Int) * 4294967296 / 2 ^ s % 4294967296 = ((x % 2 ^ s * 2 ^ (32 - s) : Nat) : Int) ∧ H % 2 ^ s * 2 ^ (32 - s) + x / 2 ^ s < 4294967296 ∧
    (H * 4294967296 + x) / 2 ^ s = H / 2 ^ s * 4294967296 + (H % 2 ^ s * 2 ^ (32 - s) + x / 2 ^ s) ∧ (H * 4294967296 + x) % 2 ^ s = x % 2 ^ s := by
  have hzy := two_split hs
  have e : ((2 : Int) ^ s) = ((2 ^ s : Nat) : Int) := by simp
  have hz : 0 < 2 ^ s := Nat.pow_pos (by omega)
  have hy : 0 < 2 ^ (32 - s) := Nat.pow_pos (by omega)
  have hxz : x / 2 ^ s < 2 ^ (32 - s) := by rw [Nat.div_lt_iff_lt_mul hz, Nat.mul_comm, hzy]; exact hx
  have hor := Nat.two_pow_add_eq_or_of_lt (i := 32 - s) (b := x / 2 ^ s) hxz (H % 2 ^ s)
  rw [e]
  generalize 2 ^ s = z at *
  generalize 2 ^ (32 - s) = y at *
  have hr : H % z < z := Nat.mod_lt _ hz
  have hlt : H % z * y + x / z < 4294967296 := by
    have : (H % z + 1) * y ≤ z * y := Nat.mul_le_mul_right _ hr
    rw [Nat.add_mul, Nat.one_mul, hzy] at this
    omega
  have hdm := Nat.div_add_mod H z
  have hE : H * 4294967296 + x = z * (H * y) + x := by rw [← hzy]; grind
  have hA : x / z < 4294967296 := Nat.lt_of_le_of_lt (Nat.le_add_left _ _) hlt
  have hC : H % z * y < 4294967296 := Nat.lt_of_le_of_lt (Nat.le_add_right _ _) hlt
  refine ⟨?_, ?_, hlt, ?_, ?_⟩
  · rw [show (x : Int) / (z : Int) = ((x / z : Nat) : Int) from rfl, u32_or_nat _ _ hA hC, Nat.or_comm, Nat.mul_comm (H % z) y, hor]
  · have h1 : x * 4294967296 / z % 4294967296 = x % z * y := by
      rw [← hzy, Nat.mul_comm x (z * y), Nat.mul_assoc, Nat.mul_div_cancel_left _ hz, Nat.mul_comm y x, Nat.mul_mod_mul_right]
    rw [← h1]; rfl
  · rw [hE, Nat.mul_add_div hz]
    have : H * y = (z * (H / z) + H % z) * y := by rw [hdm]
    rw [this, ← hzy]; grind
  · rw [hE, Nat.mul_add_mod]

set_option maxRecDepth 100000 in
set_option maxHeartbeats 1000000 in
theorem shiftRight_any (b n cap s P T : Nat) (hn : n ≤ 18) (hs : s < 32) (hP : P < R n) (w : World) (h0 : w.heap[b]? = some (.cells (fa n (dg P)) T (0, 0))) :
    Calls Tryz.prog 103 #[.slice (some ⟨b, 0, none⟩) n cap, .int .i64 s] w fun e w' => e = .returned (.tuple #[]) ∧ w'.heap[b]? = some (.cells (fa n (dg (P / 2 ^ s))) T (0, 0)) ∧ w.grownBy w' (some b) := by
  have hs32 : (s : Int) < 32 := by omega
  have hs0 : (0 : Int) ≤ s := by omega
  have H0 := Lib.hid h0
  clear h0
  go_enter Tryz.func103, Tryz.ntmps103
  go_wp2
  go_loopw [4, 5] (fun c i wr => ∃ k P' : Nat, k ≤ n ∧ Hid (P' = P / R k / 2 ^ s * R k + P % R k) ∧ P' < R n ∧ c = .int .u32 ((P / R k % 2 ^ s * 2 ^ (32 - s) : Nat) : Int) ∧ i = .int .i64 ((k : Int) - 1) ∧ w.grownBy wr (some b) ∧
      wr.heap[b]? = some (.cells (fa n (dg P')) T (0, 0)))
    (fun _ i _ => (intOf i + 1).toNat)
  case atStart =>
    refine ⟨n, P, Nat.le_refl _, ?_, hP, ?_, rfl, World.grownBy.refl w _, H0.out⟩
    · unfold Hid; rw [Nat.div_eq_of_lt hP, Nat.zero_div, Nat.zero_mul, Nat.mod_eq_of_lt hP, Nat.zero_add]
    · rw [Nat.div_eq_of_lt hP, Nat.zero_mod, Nat.zero_mul]; rfl
  case round =>
    obtain ⟨k, P', hk, he, hP', rfl, rfl, hB, e0⟩ := hrel
    rcases Nat.eq_zero_or_pos k with rfl | hpos
    · have hfin : P' = P / 2 ^ s := by
        have h := he.out
        rwa [R_zero, Nat.div_one, Nat.mod_one, Nat.mul_one, Nat.add_zero] at h
      have HF := Lib.hid hfin
      clear hfin he
      have E0 := Lib.hid e0
      clear e0
      go_wp2
      go_end0
      exact ⟨rfl, by rw [← HF.out]; exact E0.out, hB⟩
    · obtain ⟨j, rfl⟩ : ∃ j, k = j + 1 := ⟨k - 1, by omega⟩
      have ej : (((j + 1 : Nat) : Int) - 1) = j := by omega
      rw [ej]
      clear ej
      have h1 := blk_cell e0 (i := j) (by omega)
      have h3 : wr.frozen? ⟨b, j, none⟩ = false := blk_free e0
      have b1 := dg_lt P' j
      have hjn : (j : Int) < n := by omega
      obtain ⟨hi, hhi⟩ : ∃ hi, hi = P / R (j + 1) % 2 ^ s * 2 ^ (32 - s) := ⟨_, rfl⟩
      rw [← hhi]
      have HH := Lib.hid hhi
      clear hhi
      have E0 := Lib.hid e0
      clear e0
      go_wp2
      go_roundw
      case rel =>
        obtain ⟨f1, f2, f3, f4, f5⟩ := shr_facts (H := P / R (j + 1)) hs b1
        rw [← HH.out] at f1 f3 f4
        have hda : dg P' j = dg P j := by
          have hm : P' % R (j + 1) = P % R (j + 1) := by
            rw [he.out, Nat.mul_comm, Nat.mul_add_mod, Nat.mod_mod]
          rw [← dg_mod (x := P') (k := j + 1) (by omega), hm, dg_mod (by omega)]
        rw [f1, f2]
        rw [hda] at f1 f2 f3 f4 f5 ⊢
        rw [← div_succ] at f4 f5
        refine ⟨j, setd P' j (hi + dg P j / 2 ^ s), by omega, ?_, setd_lt hP' (by omega) f3, by rw [f5], rfl, only_setCell hB _, blk_set E0.out (by omega) f3⟩
        unfold Hid
        have g1 := setd_eq P' j (hi + dg P j / 2 ^ s)
        have g2 := he.out
        have g3 := mod_succ P j
        rw [hda] at g1
        rw [f4]
        have g4 : (P / R (j + 1) / 2 ^ s * 4294967296 + (hi + dg P j / 2 ^ s)) * R j = P / R (j + 1) / 2 ^ s * R (j + 1) + (hi + dg P j / 2 ^ s) * R j := by
          rw [R_succ]; grind
        omega
      case measure => (simp [intOf] <;> omega)
end Go.Proofs.YtalmflgkbmnghaaGreatDoor
/- What the proofs ask of math/bits.LeadingZeros32; the shelf's contract gives it (Si). -/
namespace Go.Proofs.YtalmflgkbmnghaaGreatDoor
open Go.RowKit Tf
class ShLZ : Prop where
  lz : ∀ (x : Nat), x < 4294967296 → 0 < x → ∀ w : World, Calls Tryz.prog 99 #[.int .u32 x] w fun e w' => (∃ s : Nat, s < 32 ∧ e = .returned (.int .i64 s) ∧ x * 2 ^ s < 4294967296 ∧ 2147483648 ≤ x * 2 ^ s) ∧ w = w'
end Go.Proofs.YtalmflgkbmnghaaGreatDoor
namespace Go.Proofs.YtalmflgkbmnghaaGreatDoor
open Go.RowKit Tf
variable [ShLZ]

theorem lz_any (x : Nat) (hx : x < 4294967296) (h0 : 0 < x) (w : World) :
    Calls Tryz.prog 99 #[.int .u32 x] w fun e w' => (∃ s : Nat, s < 32 ∧ e = .returned (.int .i64 s) ∧ x * 2 ^ s < 4294967296 ∧ 2147483648 ≤ x * 2 ^ s) ∧ w = w' := ShLZ.lz x hx h0 w
theorem long_end {a b z Q A : Nat} (hz : 0 < z) (hA : A < b * z) (h : a * z = Q * (b * z) + A) : Q = a / b ∧ A / z = a % b := by
  have hb : 0 < b := by
    rcases Nat.eq_zero_or_pos b with e | e
    · subst e; omega
    · exact e
  have h1 : A % z = 0 := by
    have h2 : (Q * (b * z) + A) % z = 0 := by rw [← h, Nat.mul_mod_left]
    have h3 : Q * (b * z) = z * (Q * b) := by grind
    rwa [h3, Nat.mul_add_mod] at h2
  have h2 := Nat.div_add_mod A z
  rw [h1, Nat.add_zero] at h2
  generalize A / z = r at *
  subst h2
  have h3 : z * a = z * (Q * b + r) := by
    have : Q * (b * z) + z * r = z * (Q * b + r) := by grind
    rw [← this, ← h, Nat.mul_comm]
  have h4 : a = Q * b + r := Nat.eq_of_mul_eq_mul_left hz h3
  have h5 : r < b := by
    have : z * r < z * b := by rw [Nat.mul_comm z b]; exact hA
    exact Nat.lt_of_mul_lt_mul_left this
  subst h4
  refine ⟨?_, ?_⟩
  · rw [Nat.mul_comm, Nat.mul_add_div hb, Nat.div_eq_of_lt h5, Nat.add_zero]
  · rw [Nat.mul_comm, Nat.mul_add_mod, Nat.mod_eq_of_lt h5]
theorem long_quot {Q D A A0 j q A' : Nat} (h0 : A0 = Q * D + A) (hm : Q % R (j + 1) = 0) (hA : A = q * (D * R j) + A') : A0 = setd Q j q * D + A' ∧ setd Q j q % R j = 0 := by
  have hd : dg Q j = 0 := by rw [← dg_mod (x := Q) (k := j + 1) (by omega), hm]; simp [dg]
  have h1 := setd_eq Q j q
  rw [hd, Nat.zero_mul, Nat.add_zero] at h1
  refine ⟨?_, ?_⟩
  · rw [h1, h0, hA]; grind
  · rw [setd_mod, ← Nat.mod_mod_of_dvd Q (show R j ∣ R (j + 1) from ⟨4294967296, by rw [R_succ, Nat.mul_comm]⟩), hm, Nat.zero_mod]

theorem shifted {b n s : Nat} (hb : b < R (n + 1)) (hs : s < 32) (h1 : dg b n * 2 ^ s < 4294967296) (h2 : 2147483648 ≤ dg b n * 2 ^ s) : b * 2 ^ s < R (n + 1) ∧ 2147483648 * R n ≤ b * 2 ^ s := by
  have hzy := two_split hs
  have hz : 0 < 2 ^ s := Nat.pow_pos (by omega)
  have hd : b / R n = dg b n := div_one hb
  have hdm := Nat.div_add_mod b (R n)
  have hm := mod_lt_R b n
  rw [hd] at hdm
  generalize 2 ^ s = z at *
  generalize 2 ^ (32 - s) = y at *
  generalize dg b n = x at *
  have hxy : x < y := by
    rcases Nat.lt_or_ge x y with h | h
    · exact h
    · have : y * z ≤ x * z := Nat.mul_le_mul_right _ h
      rw [Nat.mul_comm y z, hzy] at this
      omega
  refine ⟨?_, ?_⟩
  · have h3 : b < (x + 1) * R n := by rw [Nat.add_mul, Nat.one_mul, Nat.mul_comm x]; omega
    have h4 : b * z < (x + 1) * R n * z := Nat.mul_lt_mul_of_pos_right h3 hz
    have h5 : (x + 1) * z ≤ y * z := Nat.mul_le_mul_right _ hxy
    have h6 : (x + 1) * z * R n ≤ y * z * R n := Nat.mul_le_mul_right _ h5
    have h7 : (x + 1) * R n * z = (x + 1) * z * R n := by rw [Nat.mul_assoc, Nat.mul_comm (R n), ← Nat.mul_assoc]
    rw [Nat.mul_comm y z, hzy] at h6
    rw [R_succ]
    omega
  · have h3 : 2147483648 * R n ≤ x * z * R n := Nat.mul_le_mul_right _ h2
    have h4 : R n * x * z ≤ b * z := Nat.mul_le_mul_right _ (by omega)
    have h5 : x * z * R n = R n * x * z := by rw [Nat.mul_comm (x * z), Nat.mul_assoc]
    omega

set_option maxRecDepth 100000 in
set_option maxHeartbeats 2000000 in
theorem divideLong_any (a b m n : Nat) (ha : a < R m) (hm : m ≤ 17) (hb : b < R (n + 1)) (hn : 1 ≤ n) (hn8 : n ≤ 7) (hbn : dg b n ≠ 0) (w : World) :
    Calls Tryz.prog 87 #[wid a, num b, .int .i64 m, .int .i64 ((n : Int) + 1)] w fun e w' => e = .returned (.tuple #[wid (a / b), num (a % b)]) ∧ Below w.heap.size w w' := by
  unfold num wid
  have hx0 : 0 < dg b n := by omega
  go_enter Tryz.func87, Tryz.ntmps87
  go_upto_region 1 with (fail)
  have hh := heap4 w (.cells (fa 18 (dg a)) 76) (.cells (fa 8 (dg b)) 23) (.cells (fa 18 (fun _ => 0)) 76) (.cells (fa 8 (fun _ => 0)) 23)
  have hB := below4 w (.cells (fa 18 (dg a)) 76) (.cells (fa 8 (dg b)) 23) (.cells (fa 18 (fun _ => 0)) 76) (.cells (fa 8 (fun _ => 0)) 23)
  obtain ⟨W, hW⟩ : ∃ W, W = (((w.alloc (.cells (fa 18 (dg a)) 76)).alloc (.cells (fa 8 (dg b)) 23)).alloc (.cells (fa 18 (fun _ => 0)) 76)).alloc (.cells (fa 8 (fun _ => 0)) 23) := ⟨_, rfl⟩
  rw [← hW] at hh hB
  rw [fa_zero18, fa_zero8] at hW
  rw [← hW]
  clear hW
  obtain ⟨e0, e1, e2, e3⟩ := hh
  have c1 := blk_cell e1 (i := n) (by omega)
  have hn8' : (n : Int) < 8 := by omega
  have E0 := Lib.hid e0
  have E1 := Lib.hid e1
  have E2 := Lib.hid e2
  have E3 := Lib.hid e3
  clear e0 e1 e2 e3
  go_wp2_with fail
  refine (lz_any _ (dg_lt b n) hx0 _).mono ?_
  rintro e w' ⟨⟨s, hs, rfl, hs1, hs2⟩, rfl⟩
  obtain ⟨hD, hDh⟩ := shifted hb hs hs1 hs2
  clear c1 hs1 hs2
  go_wp2_with fail
  have ha18 : a * 2 ^ s < R 18 := by
    have hz : 2 ^ s ≤ 4294967296 := by
      have := two_split hs
      have h2 : 2 ^ s * 1 ≤ 2 ^ s * 2 ^ (32 - s) := Nat.mul_le_mul_left _ (Nat.pow_pos (by omega))
      omega
    have h1 : a * 2 ^ s ≤ a * 4294967296 := Nat.mul_le_mul_left _ hz
    have h2 : R (17 + 1) = 4294967296 * R 17 := R_succ 17
    have h3 : a < R 17 := lt_R_of_le ha hm
    have h4 : R 18 = 4294967296 * R 17 := h2
    omega
  refine (shiftLeft_any _ 18 18 s a 76 (by omega) hs ha18 W E0.out).mono ?_
  rintro e W1 ⟨rfl, f0, hg1⟩
  have f1 := (hg1.block (w.heap.size + 1) (lt_of_block E1.out) (by simp)).trans E1.out
  have f2 := (hg1.block (w.heap.size + 1 + 1) (lt_of_block E2.out) (by simp; omega)).trans E2.out
  have f3 := (hg1.block (w.heap.size + 1 + 1 + 1) (lt_of_block E3.out) (by simp; omega)).trans E3.out
  have hB1 : Below w.heap.size w W1 := hB.grown hg1 (Nat.le_of_lt (lt_of_block E0.out)) (by simp)
  have F0 := Lib.hid f0
  have F1 := Lib.hid f1
  have F2 := Lib.hid f2
  have F3 := Lib.hid f3
  clear f0 f1 f2 f3 E0 E1 E2 E3 hB hg1
  go_wp2_with fail
  refine (shiftLeft_any _ 8 8 s b 23 (by omega) hs (lt_R_of_le hD (by omega)) W1 F1.out).mono ?_
  rintro e W2 ⟨rfl, f1, hg1⟩
  have f0 := (hg1.block w.heap.size (lt_of_block F0.out) (by simp)).trans F0.out
  have f2 := (hg1.block (w.heap.size + 1 + 1) (lt_of_block F2.out) (by simp)).trans F2.out
  have f3 := (hg1.block (w.heap.size + 1 + 1 + 1) (lt_of_block F3.out) (by simp; omega)).trans F3.out
  have hB2 : Below w.heap.size w W2 := hB1.grown hg1 (Nat.le_of_lt (Nat.lt_trans (Nat.lt_succ_self _) (lt_of_block F1.out))) (by simp)
  have E0 := Lib.hid f0
  have E1 := Lib.hid f1
  have E2 := Lib.hid f2
  have E3 := Lib.hid f3
  clear f0 f1 f2 f3 F0 F1 F2 F3 hB1 hg1
  go_wp2_with fail
  have hlt3 := lt_of_block E3.out
  have hBg : Below w.heap.size w (W2.alloc (.cells (fa 18 (fun _ => 0)) 76)) := hB2.alloc hB2.size _
  have f0 := (Below.heap_alloc W2 (.cells (fa 18 (fun _ => 0)) 76) _ (lt_of_block E0.out)).trans E0.out
  have f1 := (Below.heap_alloc W2 (.cells (fa 18 (fun _ => 0)) 76) _ (lt_of_block E1.out)).trans E1.out
  have f2 := (Below.heap_alloc W2 (.cells (fa 18 (fun _ => 0)) 76) _ (lt_of_block E2.out)).trans E2.out
  have f3 := (Below.heap_alloc W2 (.cells (fa 18 (fun _ => 0)) 76) _ (lt_of_block E3.out)).trans E3.out
  have f4 := heap1 W2 (.cells (fa 18 (fun _ => 0)) 76)
  obtain ⟨W, hW⟩ : ∃ W, W = W2.alloc (.cells (fa 18 (fun _ => 0)) 76) := ⟨_, rfl⟩
  rw [← hW] at f0 f1 f2 f3 f4 hBg
  rw [fa_zero18] at hW
  rw [← hW]
  clear hW E0 E1 E2 E3 hB2
  have hg3 : w.heap.size + 1 + 1 + 1 < W2.heap.size := hlt3
  clear hlt3
  generalize W2.heap.size = g at *
  have hD0 : 0 < b * 2 ^ s := by
    have := R_pos n
    omega
  have hrel0 : Hid (a * 2 ^ s < b * 2 ^ s * R (((m : Int) - ((n : Int) + 1) + 1).toNat)) := by
    have hz : 0 < 2 ^ s := Nat.pow_pos (by omega)
    have hbR : R n ≤ b := by
      have h1 := Nat.div_add_mod b (R n)
      have h2 : b / R n = dg b n := div_one hb
      rw [h2] at h1
      have h3 : R n * 1 ≤ R n * dg b n := Nat.mul_le_mul_left _ hx0
      omega
    unfold Hid
    rcases Nat.lt_or_ge n m with h | h
    · rw [show ((m : Int) - ((n : Int) + 1) + 1).toNat = m - n from by omega]
      have h1 : R m = R n * R (m - n) := by rw [← R_add, show n + (m - n) = m from by omega]
      have h2 : a * 2 ^ s < R m * 2 ^ s := Nat.mul_lt_mul_of_pos_right ha hz
      have h3 : R n * (2 ^ s * R (m - n)) ≤ b * (2 ^ s * R (m - n)) := Nat.mul_le_mul_right _ hbR
      rw [h1] at h2
      have h4 : R n * R (m - n) * 2 ^ s = R n * (2 ^ s * R (m - n)) := by rw [Nat.mul_assoc, Nat.mul_comm (R (m - n))]
      have h5 : b * 2 ^ s * R (m - n) = b * (2 ^ s * R (m - n)) := Nat.mul_assoc _ _ _
      omega
    · rw [show ((m : Int) - ((n : Int) + 1) + 1).toNat = 0 from by omega, R_zero, Nat.mul_one]
      exact Nat.mul_lt_mul_of_pos_right (Nat.lt_of_lt_of_le (lt_R_of_le ha h) hbR) hz
  obtain ⟨D, hDD⟩ : ∃ D, D = b * 2 ^ s := ⟨_, rfl⟩
  rw [← hDD] at f1 hrel0 hD0 hD hDh
  have HDD := Lib.hid hDD
  clear hDD
  rw [fa_dg0] at f4
  go_loopw [12] (fun i wr => ∃ (z : Int) (A Q : Nat), i = .int .i64 z ∧ -9 ≤ z ∧ z + n ≤ 16 ∧ Hid (A < D * R (z + 1).toNat) ∧ Hid (a * 2 ^ s = Q * D + A) ∧ Hid (Q % R (z + 1).toNat = 0) ∧ Q < R 18 ∧ A < R 18 ∧ Below w.heap.size w wr ∧
      wr.heap[w.heap.size]? = some (.cells (fa 18 (dg A)) 76 (0, 0)) ∧ wr.heap[w.heap.size + 1]? = some (.cells (fa 8 (dg D)) 23 (0, 0)) ∧ wr.heap[w.heap.size + 1 + 1]? = some (.cells (fa 18 (fun _ => 0)) 76 (0, 0)) ∧
      wr.heap[w.heap.size + 1 + 1 + 1]? = some (.cells (fa 8 (fun _ => 0)) 23 (0, 0)) ∧ wr.heap[g]? = some (.cells (fa 18 (dg Q)) 76 (0, 0)))
    (fun i _ => (intOf i + 1).toNat)
  case atStart =>
    exact ⟨_, a * 2 ^ s, 0, rfl, by omega, by omega, hrel0, by unfold Hid; omega, Nat.zero_mod _, R_pos _, ha18, hBg, f0, f1, f2, f3, f4⟩
  case round =>
    clear f0 f1 f2 f3 f4 hBg hrel0
    obtain ⟨z, A, Q, rfl, hz1, hz2, hA, hQ, hQm, hQ18, hA18, hB, e0, e1, e2, e3, e4⟩ := hrel
    by_cases hz : 0 ≤ z
    · obtain ⟨j, rfl⟩ : ∃ j : Nat, z = j := ⟨z.toNat, by omega⟩
      rw [show ((j : Int) + 1).toNat = j + 1 from by omega] at hA hQm
      have E0 := Lib.hid e0
      have E1 := Lib.hid e1
      have E2 := Lib.hid e2
      have E3 := Lib.hid e3
      have E4 := Lib.hid e4
      clear e0 e1 e2 e3 e4
      have hj18 : (j : Int) + (n : Int) + 2 ≤ 18 := by omega
      have hsl := fun W => run_slice65 w.heap.size j (j + n + 2) (j : Int) ((j : Int) + ((n : Int) + 1) + 1) rfl (by omega) (by omega) (by omega) (by omega) W
      have hsl2 := fun W => run_slice25 (w.heap.size + 1) (n + 1) ((n : Int) + 1) (by omega) (by omega) W
      rw [show j + n + 2 - j = n + 1 + 1 from by omega] at hsl
      have HpR : Hid (A / R j < R (n + 1 + 1)) := by
        unfold Hid
        rw [Nat.div_lt_iff_lt_mul (R_pos j), ← R_add]
        have h1 : D * R (j + 1) ≤ R (n + 1) * R (j + 1) := Nat.mul_le_mul_right _ (Nat.le_of_lt hD)
        rw [← R_add, show n + 1 + (j + 1) = n + 1 + 1 + j from by omega] at h1
        exact Nat.lt_of_lt_of_le hA.out h1
      have HpD : Hid (A / R j < D * 4294967296) := by
        unfold Hid
        rw [Nat.div_lt_iff_lt_mul (R_pos j)]
        have h := hA.out
        rw [R_succ] at h
        rw [Nat.mul_assoc]; exact h
      have HAR : Hid (A < R (j + (n + 1 + 1))) := by
        unfold Hid
        have h1 : D * R (j + 1) ≤ R (n + 1) * R (j + 1) := Nat.mul_le_mul_right _ (Nat.le_of_lt hD)
        rw [← R_add, show n + 1 + (j + 1) = j + (n + 1 + 1) from by omega] at h1
        exact Nat.lt_of_lt_of_le hA.out h1
      have HC0 : Hid (∀ i, i ≤ n + 1 → wr.drew.cell? ⟨w.heap.size, j + i, none⟩ = some (.int .u32 (dg (A / R j) i))) := fun i hi => by
        rw [dg_div]; exact blk_cell (w := wr.drew) E0.out (by omega)
      have HC1 : Hid (∀ i, i < n + 1 → wr.drew.cell? ⟨w.heap.size + 1, i, none⟩ = some (.int .u32 (dg D i))) := fun i hi => blk_cell (w := wr.drew) E1.out (by omega)
      have hne : w.heap.size ≠ w.heap.size + 1 := by omega
      have hj8 : (j : Int) < 18 := by omega
      have HB0 := Lib.hid hB.drew
      go_wp2_with fail
      go_region_with (first
        | (go_at_call 102
           refine (guess_any _ j _ (n + 1) _ _ (A / R j) D (by omega) (by omega) HpR.out hD hDh HpD.out _ HC0.out HC1.out).mono ?_
           rintro e w1 hG
           obtain ⟨l, hl1, hl2, hl32, rfl, hbw⟩ := hG
           have G0 := Lib.hid ((hbw.block _ (lt_of_block E0.out)).trans E0.out)
           have G1 := Lib.hid ((hbw.block _ (lt_of_block E1.out)).trans E1.out)
           have G2 := Lib.hid ((hbw.block _ (lt_of_block E2.out)).trans E2.out)
           have G3 := Lib.hid ((hbw.block _ (lt_of_block E3.out)).trans E3.out)
           have G4 := Lib.hid ((hbw.block _ (lt_of_block E4.out)).trans E4.out)
           have HL1 := Lib.hid hl1
           have HL2 := Lib.hid hl2
           have HB1 := Lib.hid (HB0.out.trans (hbw.mono HB0.out.size))
           clear hl1 hl2 hbw)
        | (go_at_call 101
           refine (subtractTimes_any w.heap.size j (w.heap.size + 1) (n + 1) _ _ A D l 18 76 23 (by omega) (by omega) (by omega) (by omega) HAR.out hD hD0 hl32 HL1.out HL2.out hne w1 G0.out G1.out).mono ?_
           rintro e w2 ⟨rfl, hb0, hg2⟩
           have K0 := Lib.hid hb0
           have K1 := Lib.hid ((hg2.block _ (lt_of_block G1.out) (by simp)).trans G1.out)
           have K2 := Lib.hid ((hg2.block _ (lt_of_block G2.out) (by simp; omega)).trans G2.out)
           have K3 := Lib.hid ((hg2.block _ (lt_of_block G3.out) (by simp; omega)).trans G3.out)
           have K4 := Lib.hid ((hg2.block _ (lt_of_block G4.out) (by simp; omega)).trans G4.out)
           have HB2 := Lib.hid (HB1.out.grown hg2 (Nat.le_of_lt (lt_of_block G0.out)) (by simp))
           have c4 := blk_cell K4.out (i := j) (by omega)
           have c5 : w2.frozen? ⟨g, j, none⟩ = false := blk_free K4.out
           clear hb0 hg2))
      go_wp2_with fail
      go_roundw
      case rel =>
        obtain ⟨g1, g2, g3⟩ := long_step hD0 hA.out
        obtain ⟨g4, g5⟩ := long_quot hQ.out hQm.out g2
        have hA' : A / R j % D * R j + A % R j < R 18 := by omega
        refine ⟨(j : Int) - 1, A / R j % D * R j + A % R j, setd Q j (A / R j / D), rfl, by omega, by omega, ?_, g4, ?_, setd_lt hQ18 (by omega) g1, hA', ?_, ?_, ?_, ?_, ?_, ?_⟩
        · unfold Hid; rw [show ((j : Int) - 1 + 1).toNat = j from by omega]; exact g3
        · unfold Hid; rw [show ((j : Int) - 1 + 1).toNat = j from by omega]; exact g5
        · exact HB2.out.setCell (show w.heap.size ≤ g by omega) _
        · rw [heap_setCell_other _ _ _ _ (by simp; omega)]; exact K0.out
        · rw [heap_setCell_other _ _ _ _ (by simp; omega)]; exact K1.out
        · rw [heap_setCell_other _ _ _ _ (by simp; omega)]; exact K2.out
        · rw [heap_setCell_other _ _ _ _ (by simp; omega)]; exact K3.out
        · exact blk_set K4.out (by omega) g1
      case measure => (simp [intOf] <;> omega)
    · have hk0 : (z + 1).toNat = 0 := by omega
      rw [hk0, R_zero, Nat.mul_one] at hA
      have hend : Q = a / b ∧ A / 2 ^ s = a % b := by
        have h1 := hA.out
        have h2 := hQ.out
        rw [HDD.out] at h1 h2
        exact long_end (Nat.pow_pos (by omega)) h1 h2
      obtain ⟨he1, he2⟩ := hend
      have HE2 := Lib.hid he2
      clear he2
      subst he1
      clear hA hQ hQm hk0 HDD
      have hr8 : a % b < R 8 := by
        have hb0 : 0 < b := by
          rcases Nat.eq_zero_or_pos b with h | h
          · exfalso; rw [h] at hbn; exact hbn (by simp [dg])
          · exact h
        exact lt_R_of_le (Nat.lt_trans (Nat.mod_lt a hb0) hb) (by omega)
      have E0 := Lib.hid e0
      have E1 := Lib.hid e1
      have E2 := Lib.hid e2
      have E3 := Lib.hid e3
      have E4 := Lib.hid e4
      clear e0 e1 e2 e3 e4
      go_wp2_with fail
      refine (shiftRight_any _ 18 18 s A 76 (by omega) hs hA18 _ E0.out).mono ?_
      rintro e W1 ⟨rfl, f0, hg1⟩
      rw [HE2.out] at f0
      have F2 := Lib.hid ((hg1.block _ (lt_of_block E2.out) (by simp; omega)).trans E2.out)
      have F3 := Lib.hid ((hg1.block _ (lt_of_block E3.out) (by simp; omega)).trans E3.out)
      have F4 := Lib.hid ((hg1.block _ (lt_of_block E4.out) (by simp; omega)).trans E4.out)
      have hB1 : Below w.heap.size w W1 := hB.grown hg1 (Nat.le_of_lt (lt_of_block E0.out)) (by simp)
      have F0 := Lib.hid f0
      clear f0 hg1 hB E0 E1 E2 E3 E4
      obtain ⟨d65, hu65, hd65⟩ := under65
      obtain ⟨d25, hu25, hd25⟩ := under25
      go_wp2_with (first | (refine wpList_lda rfl rfl rfl F0.out hu65 hd65 size65 ?_))
      refine (narrow_yes (a % b) hr8 W1).mono ?_
      rintro e W2 ⟨rfl, hb2⟩
      have G2 := Lib.hid ((hb2.block _ (lt_of_block F2.out)).trans F2.out)
      have G3 := Lib.hid ((hb2.block _ (lt_of_block F3.out)).trans F3.out)
      have G4 := Lib.hid ((hb2.block _ (lt_of_block F4.out)).trans F4.out)
      have hB2 : Below w.heap.size w W2 := hB1.trans (hb2.mono hB1.size)
      clear hb2 F0 F2 F3 F4 hB1
      unfold num
      go_wp2_with (first | (refine wpList_sta (f := dg (a % b)) (f' := fun _ => 0) rfl rfl rfl rfl (heap1 W2 _) size25 ?_))
      rw [← fa_zero8]
      have hg14 : w.heap.size + 1 + 1 + 1 < W2.heap.size := lt_of_block G3.out
      have hg4 : g < W2.heap.size := lt_of_block G4.out
      have hB3 : Below w.heap.size w ((W2.alloc (.cells (fa 8 (fun _ => 0)) 23)).setRow W2.heap.size (fa 8 (dg (a % b)))) := below_setRow (hB2.alloc hB2.size _) hB2.size _
      have H5 : Hid (((W2.alloc (.cells (fa 8 (fun _ => 0)) 23)).setRow W2.heap.size (fa 8 (dg (a % b)))).heap[W2.heap.size]? = some (.cells (fa 8 (dg (a % b))) 23 (0, 0))) := setRow_heap _ _ _ _ _ _ (heap1 _ _)
      have H2 : Hid (((W2.alloc (.cells (fa 8 (fun _ => 0)) 23)).setRow W2.heap.size (fa 8 (dg (a % b)))).heap[w.heap.size + 1 + 1]? = some (.cells (fa 18 (fun _ => 0)) 76 (0, 0))) := by
        unfold Hid; rw [setRow_other _ _ _ _ (by omega), Below.heap_alloc _ _ _ (by omega)]; exact G2.out
      have H3 : Hid (((W2.alloc (.cells (fa 8 (fun _ => 0)) 23)).setRow W2.heap.size (fa 8 (dg (a % b)))).heap[w.heap.size + 1 + 1 + 1]? = some (.cells (fa 8 (fun _ => 0)) 23 (0, 0))) := by
        unfold Hid; rw [setRow_other _ _ _ _ (by omega), Below.heap_alloc _ _ _ (by omega)]; exact G3.out
      have H4 : Hid (((W2.alloc (.cells (fa 8 (fun _ => 0)) 23)).setRow W2.heap.size (fa 8 (dg (a % b)))).heap[g]? = some (.cells (fa 18 (dg (a / b))) 76 (0, 0))) := by
        unfold Hid; rw [setRow_other _ _ _ _ (by omega), Below.heap_alloc _ _ _ (by omega)]; exact G4.out
      generalize (W2.alloc (.cells (fa 8 (fun _ => 0)) 23)).setRow W2.heap.size (fa 8 (dg (a % b))) = W3 at *
      clear G2 G3 G4 hB2
      generalize W2.heap.size = g5 at *
      refine wp_region_U (W0 := w) [(w.heap.size + 1 + 1, .cells (fa 18 (fun _ => 0)) 76 (0, 0)), (w.heap.size + 1 + 1 + 1, .cells (fa 8 (fun _ => 0)) 23 (0, 0)), (g, .cells (fa 18 (dg (a / b))) 76 (0, 0)), (g5, .cells (fa 8 (dg (a % b))) 23 (0, 0))] (by kernel_rfl)
        ⟨hB3, by simp only [List.forall_mem_cons]; exact ⟨H2.out, H3.out, H4.out, H5.out, fun _ h => by cases h⟩⟩ ?_
      refine wpU_val (i := 0) rfl rfl (by kernel_rfl) (by kernel_rfl) rfl (yb_lda rfl rfl (.tail _ (.tail _ (.head _))) hu65 hd65 size65) ?_
      refine wpU_2 (i := 1) (j := 2) (by kernel_rfl)
        (stepU_val rfl rfl (by kernel_rfl) rfl (yb_lda rfl rfl (.tail _ (.tail _ (.tail _ (.head _)))) hu25 hd25 size25) (wpU_1 (i := 2) (by kernel_rfl)
          (stepU_store (K' := [(w.heap.size + 1 + 1, .cells (fa 18 (dg (a / b))) 76 (0, 0)), (w.heap.size + 1 + 1 + 1, .cells (fa 8 (fun _ => 0)) 23 (0, 0))]) rfl rfl rfl
            (st_a rfl rfl rfl (.head _) (by omega) size65 (by intro p hp; simp only [List.mem_cons, List.not_mem_nil, or_false] at hp; rcases hp with rfl | rfl; exact .inl rfl; exact .inr ⟨by simp, by simp⟩)) ?_)))
        (stepU_store (K' := [(w.heap.size + 1 + 1, .cells (fa 18 (dg (a / b))) 76 (0, 0)), (w.heap.size + 1 + 1 + 1, .cells (fa 8 (fun _ => 0)) 23 (0, 0)), (g5, .cells (fa 8 (dg (a % b))) 23 (0, 0))]) rfl rfl rfl
            (st_a rfl rfl rfl (.head _) (by omega) size65 (by intro p hp; simp only [List.mem_cons, List.not_mem_nil, or_false] at hp; rcases hp with rfl | rfl | rfl; exact .inl rfl; exact .inr ⟨by simp, by simp⟩; exact .inr ⟨by simp, by simp; omega⟩)) (wpU_1 (i := 1) (by kernel_rfl)
          (stepU_val rfl rfl (by kernel_rfl) rfl (yb_lda rfl rfl (.tail _ (.tail _ (.head _))) hu25 hd25 size25) ?_)))
      all_goals
        refine wpU_1 (i := 3) (by kernel_rfl) (stepU_store (K' := [(w.heap.size + 1 + 1, .cells (fa 18 (dg (a / b))) 76 (0, 0)), (w.heap.size + 1 + 1 + 1, .cells (fa 8 (dg (a % b))) 23 (0, 0))]) rfl rfl rfl
          (st_a rfl rfl rfl (.tail _ (.head _)) (by omega) size25 (by intro p hp; simp only [List.mem_cons, List.not_mem_nil, or_false] at hp; rcases hp with rfl | rfl; exact .inr ⟨by simp, by simp⟩; exact .inl rfl)) ?_)
        refine wpU_done (by kernel_rfl) (fun W4 hW4 => ?_) _
        go_wp2_with fail
        exact bodyPost_ret (res_cell_cell rfl rfl (hW4.2 _ (.head _)) hu65 hd65 (by rw [size65, fa_size]) rfl (hW4.2 _ (.tail _ (.head _))) hu25 hd25 (by rw [size25, fa_size])) rfl ⟨rfl, hW4.1⟩
end Go.Proofs.YtalmflgkbmnghaaGreatDoor
namespace Go.Proofs.YtalmflgkbmnghaaGreatDoor
open Go.RowKit Tf

set_option maxHeartbeats 400000 in
theorem toSmall_any (b o n cap : Nat) (x y : Nat) (hx : x < 4294967296) (hy : y < 4294967296) (hn : 2 ≤ n) (w : World) (h0 : w.cell? ⟨b, o + 0, none⟩ = some (.int .u32 x)) (h1 : w.cell? ⟨b, o + 1, none⟩ = some (.int .u32 y)) :
    Calls Tryz.prog 59 #[.slice (some ⟨b, o, none⟩) n cap] w fun e w' => e = .returned (.int .u64 ((y * 4294967296 + x : Nat) : Int)) ∧ ∃ m, w' = w.drewN m := by
  have hn' : (1 : Int) < n := by omega
  have hn0 : (0 : Int) < n := by omega
  simp only [Nat.add_zero] at h0
  go_enter Tryz.func59, Tryz.ntmps59
  go_wp2
  go_quiet (fail)
  go_wp2
  go_ret
  exact ⟨ret_int (or64 hx hy), _, rfl⟩
end Go.Proofs.YtalmflgkbmnghaaGreatDoor
namespace Go.Proofs.YtalmflgkbmnghaaGreatDoor
open Go.RowKit Tf
variable [ShLZ]

theorem fa_digit {r : Nat} (hr : r < 4294967296) : fa 8 (dg r) = #[.int .u32 r, .int .u32 0, .int .u32 0, .int .u32 0, .int .u32 0, .int .u32 0, .int .u32 0, .int .u32 0] := by
  rw [fa_small r (by omega), show (r : Int) % 4294967296 = r from by omega, show (r : Int) / 4294967296 = 0 from by omega]
theorem ln_one {b : Nat} (hb : b < R 8) (h : ln (dg b) 8 = 1) : dg b 0 = b ∧ b < 4294967296 := by
  have h1 := ln_lt 8 hb
  rw [h, R_succ, R_zero] at h1
  exact ⟨by rw [dg_zero, Nat.mod_eq_of_lt (by omega)], by omega⟩
theorem ln_two {b n : Nat} (hb : b < R n) (h : ln (dg b) n ≤ 2) : dg b 1 * 4294967296 + dg b 0 = b ∧ b < 18446744073709551616 := by
  have h1 := lt_R_of_le (ln_lt n hb) h
  rw [R_succ, R_succ, R_zero] at h1
  refine ⟨?_, by omega⟩
  rw [dg_zero, dg_one]; omega

theorem wrap_u64n {n : Nat} (h : n < 18446744073709551616) : IntKind.u64.wrap (n : Int) = n := by simp only [IntKind.wrap_u64]; omega
theorem quiet_two {P : Program} {f : FuncId} {args : Array Value} {w : World} {n : Nat} {v : Value}
    (h : Calls P f args (w.drewN n) fun e w' => e = .returned v ∧ ∃ m, w' = (w.drewN n).drewN m) : Calls P f args (w.drewN n) fun e w'' => e = .returned v ∧ ∃ m, w'' = w.drewN m :=
  h.mono fun _ _ ⟨he, m, hm⟩ => ⟨he, n + m, by rw [hm, World.drewN_drewN]⟩
theorem toSmall_num (g n cap a : Nat) (f : Nat) (t : TypeId) (ha : dg a 1 * 4294967296 + dg a 0 = f) (hn : 2 ≤ n) (w : World) (h : w.heap[g]? = some (.cells (fa n (dg a)) t (0, 0))) :
    Calls Tryz.prog 59 #[.slice (some ⟨g, 0, none⟩) n cap] w fun e w' => e = .returned (.int .u64 (f : Int)) ∧ ∃ m, w' = w.drewN m := by
  subst ha
  exact toSmall_any g 0 n cap _ _ (dg_lt a 0) (dg_lt a 1) hn w (blk_cell h (by omega)) (blk_cell h (by omega))

theorem run_quo64 {a b : Nat} {x y : Operand} (w : World) (hb : b < 18446744073709551616) (hb0 : 0 < b) (ha : a < 18446744073709551616) :
    (do eqGuard .quo 84 x y (.int .u64 a) (.int .u64 b); binOp .quo 84 (.int .u64 a) (.int .u64 b) : Sem Value).run Tryz.prog w = .ok (.int .u64 ((a / b : Nat) : Int)) w := by
  go_simp
  rw [if_neg (by omega), show (a : Int) / b = ((a / b : Nat) : Int) from rfl, wrap_u64n (Nat.lt_of_le_of_lt (Nat.div_le_self a b) ha)]
theorem run_rem64 {a b : Nat} {x y : Operand} (w : World) (hb : b < 18446744073709551616) (hb0 : 0 < b) (ha : a < 18446744073709551616) :
    (do eqGuard .rem 84 x y (.int .u64 a) (.int .u64 b); binOp .rem 84 (.int .u64 a) (.int .u64 b) : Sem Value).run Tryz.prog w = .ok (.int .u64 ((a % b : Nat) : Int)) w := by
  go_simp
  rw [if_neg (by omega), Int.tmod_eq_emod_of_nonneg (by omega)]

set_option maxRecDepth 100000 in
set_option maxHeartbeats 2000000 in
theorem divide_any (a b : Nat) (ha : a < R 17) (hb : b < R 8) (hb0 : 0 < b) (w : World) :
    Calls Tryz.prog 56 #[wid a, num b] w fun e w' => e = .returned (.tuple #[wid (a / b), num (a % b)]) ∧ Below w.heap.size w w' := by
  unfold num wid
  have ha18 : a < R 18 := lt_R_of_le ha (by omega)
  go_enter Tryz.func56, Tryz.ntmps56
  go_upto_region 1 with (fail)
  have hK := KS.four w (.cells (fa 18 (dg a)) 76) (.cells (fa 8 (dg b)) 23) (.cells (fa 18 (fun _ => 0)) 76) (.cells (fa 8 (fun _ => 0)) 23)
  obtain ⟨W, hW⟩ : ∃ W, W = (((w.alloc (.cells (fa 18 (dg a)) 76)).alloc (.cells (fa 8 (dg b)) 23)).alloc (.cells (fa 18 (fun _ => 0)) 76)).alloc (.cells (fa 8 (fun _ => 0)) 23) := ⟨_, rfl⟩
  rw [← hW] at hK
  rw [fa_zero18, fa_zero8] at hW
  rw [← hW]
  clear hW
  have HK := Lib.hid hK
  clear hK
  go_quiet ((go_at_call 60; exact quiet_left (length_any _ 0 _ _ (dg _) _ (by omega) (fun i hi => by rw [Nat.zero_add]; first | exact blk_cell (HK.out.2 _ (.head _)) hi | exact blk_cell (HK.out.2 _ (.tail _ (.head _))) hi))))
  have hn0 := ln_le (dg b) 8
  have hm0 : ln (dg a) 18 ≤ 17 := by
    rcases Nat.lt_or_ge 17 (ln (dg a) 18) with h | h
    · exact absurd (dg_of_lt' ha (show 17 ≤ ln (dg a) 18 - 1 by omega)) (ln_ge (by omega))
    · exact h
  have hn1 : 1 ≤ ln (dg b) 8 := by
    rcases Nat.eq_zero_or_pos (ln (dg b) 8) with h | h
    · have := ln_lt 8 hb
      rw [h, R_zero] at this
      omega
    · exact h
  have HK2 := Lib.hid (HK.out.drewN nq)
  clear HK
  generalize W.drewN nq = W1 at *
  by_cases h1 : ln (dg b) 8 = 1
  · obtain ⟨g1, g2⟩ := ln_one hb h1
    have c1 := blk_cell (HK2.out.2 _ (.tail _ (.head _))) (i := 0) (by omega)
    rw [g1] at c1
    rw [h1]
    clear h1 g1 hn1 hn0
    have hix := index25_0 (w.heap.size + 1)
    have hr : a % b < 4294967296 := Nat.lt_trans (Nat.mod_lt a hb0) g2
    go_upto_region 4 with (first
      | (refine wpList_lda rfl rfl rfl (HK2.out.2 _ (.head _)) Tryz.underlying76 rfl size65 ?_)
      | (go_at_call 86; refine (divideShort_any a b ha18 hb0 g2 _).mono ?_; rintro e w1 ⟨rfl, hb1⟩; have HK3 := Lib.hid (HK2.out.below hb1); clear hb1; unfold wid)
      | (refine wpList_sta (f := dg (a / b)) (f' := fun _ => 0) rfl rfl rfl rfl (heap1 w1 _) size65 ?_))
    obtain ⟨f1, f2⟩ := HK3.out.fresh
    have HK4 := Lib.hid (HK3.out.newvar (cs := fa 18 (fun _ => 0)) (cs' := fa 18 (dg (a / b))) (t := 76))
    rw [← fa_zero18]
    generalize (w1.alloc (.cells (fa 18 (fun _ => 0)) 76)).setRow w1.heap.size (fa 18 (dg (a / b))) = W2 at *
    simp only [List.forall_mem_cons] at f2
    obtain ⟨f3, f4, f5, f6, _⟩ := f2
    clear HK2 HK3 hix
    generalize w1.heap.size = g at *
    have HK5 : KS w _ (W2.setRow (w.heap.size + 1 + 1) (fa 18 (dg (a / b)))) := HK4.out.put (K' := [(w.heap.size + 1 + 1, .cells (fa 18 (dg (a / b))) 76 (0, 0)), (w.heap.size + 1 + 1 + 1, .cells (fa 8 (fun _ => 0)) 23 (0, 0))]) (by omega) (.tail _ (.tail _ (.tail _ (.head _))))
      (by intro p hp; simp only [List.mem_cons, List.not_mem_nil, or_false] at hp; rcases hp with rfl | rfl; exact .inl rfl; exact .inr ⟨by simp, by simp⟩)
    go_wp2_with (first
      | (refine wpList_lda rfl rfl rfl (HK4.out.2 _ (.head _)) Tryz.underlying76 rfl size65 ?_)
      | (refine wpList_sta (f := dg (a / b)) (f' := fun _ => 0) rfl rfl rfl rfl (HK4.out.2 _ (.tail _ (.tail _ (.tail _ (.head _))))) size65 ?_)
      | (refine wpList_sta (f := dg (a % b)) (f' := fun _ => 0) rfl rfl rfl (by rw [fa_digit hr]; rfl) (HK5.2 _ (.tail _ (.head _))) size25 ?_))
    refine bodyPost_ret (res_cell_cell rfl rfl (cs := fa 18 (dg (a / b))) (t := 76) ?_ Tryz.underlying76 rfl (by rw [size65, fa_size]) rfl (setRow_heap _ _ _ _ _ _ (HK5.2 _ (.tail _ (.head _)))) Tryz.underlying23 rfl (by rw [size25, fa_size])) rfl ⟨rfl, below_setRow HK5.1 (by omega) _⟩
    rw [setRow_other _ _ _ _ (by omega)]; exact HK5.2 _ (.head _)
  · have hn2 : 2 ≤ ln (dg b) 8 := by omega
    by_cases h2 : ln (dg a) 18 ≤ 2 ∧ ln (dg b) 8 = 2
    · obtain ⟨h3, h4⟩ := h2
      obtain ⟨g1, g2⟩ := ln_two ha18 h3
      obtain ⟨g3, g4⟩ := ln_two hb (Nat.le_of_eq h4)
      have hq : ((ln (dg a) 18 : Nat) : Int) ≤ 2 := by omega
      rw [h4]
      generalize ln (dg a) 18 = m at *
      clear h1 h3 h4 hn1 hn2 hn0
      have G1 := Lib.hid g1
      have G3 := Lib.hid g3
      clear g1 g3
      go_wp2_with fail
      have Q1 : Hid (∀ n, Calls Tryz.prog 59 #[.slice (some ⟨w.heap.size, 0, none⟩) 18 18] (W1.drewN n) fun e w'' => e = .returned (.int .u64 (a : Int)) ∧ ∃ m, w'' = W1.drewN m) :=
        fun n => quiet_two (toSmall_num _ 18 18 a a 76 G1.out (by omega) (W1.drewN n) (HK2.out.2 _ (.head _)))
      have Q2 : Hid (∀ n, Calls Tryz.prog 59 #[.slice (some ⟨w.heap.size + 1, 0, none⟩) 8 8] (W1.drewN n) fun e w'' => e = .returned (.int .u64 (b : Int)) ∧ ∃ m, w'' = W1.drewN m) :=
        fun n => quiet_two (toSmall_num _ 8 8 b b 23 G3.out (by omega) (W1.drewN n) (HK2.out.2 _ (.tail _ (.head _))))
      go_quiet ((go_at_call 59; first | (with_reducible exact Q1.out _) | (with_reducible exact Q2.out _)))
      clear Q1 Q2
      go_wp2_with fail
      clear hm0 ha hb ha18 hq
      refine wp_region_U (W0 := w) [(w.heap.size, .cells (fa 18 (dg a)) 76 (0, 0)), (w.heap.size + 1, .cells (fa 8 (dg b)) 23 (0, 0)), (w.heap.size + 1 + 1, .cells (fa 18 (fun _ => 0)) 76 (0, 0)), (w.heap.size + 1 + 1 + 1, .cells (fa 8 (fun _ => 0)) 23 (0, 0))] (by kernel_rfl) (HK2.out.drewN _) ?_
      have hqa : a / b < 18446744073709551616 := Nat.lt_of_le_of_lt (Nat.div_le_self a b) g2
      have hra : a % b < 18446744073709551616 := Nat.lt_of_le_of_lt (Nat.mod_le a b) g2
      have hqR : a / b < R 8 := lt_R_of_le (j := 2) (by rw [R_succ, R_succ, R_zero]; omega) (by omega)
      refine wpU_vY (i := 0) (v := .int .u64 a) rfl rfl (by kernel_rfl) (by kernel_rfl) rfl (yb_pure fun _ => by kernel_rfl) (by simp only [List.setIfInBounds_toArray, List.set_cons_succ, List.set_cons_zero]; rfl) ?_
      refine wpU_vY (i := 1) (v := .int .u64 b) rfl rfl (by kernel_rfl) (by kernel_rfl) rfl (yb_pure fun _ => by kernel_rfl) (by simp only [List.setIfInBounds_toArray, List.set_cons_succ, List.set_cons_zero]; rfl) ?_
      refine wpU_vY (i := 2) (v := .int .u64 ((a / b : Nat) : Int)) rfl rfl (by kernel_rfl) (by kernel_rfl) rfl (yb_binY rfl (vx := .int .u64 a) (vy := .int .u64 b) (by kernel_rfl) (by kernel_rfl) fun w => run_quo64 w g4 hb0 g2) (by simp only [List.setIfInBounds_toArray, List.set_cons_succ, List.set_cons_zero]; rfl) ?_
      refine wpU_vY (i := 3) (v := num (a / b)) rfl rfl (by kernel_rfl) (by kernel_rfl) rfl (yb_call (f := 77) (args := #[.int .u64 ((a / b : Nat) : Int)]) (fun _ => by kernel_rfl) fun W hW => fromSmall_any (a / b) hqa W) (by simp only [List.setIfInBounds_toArray, List.set_cons_succ, List.set_cons_zero]; rfl) ?_
      refine wpU_vY (i := 4) (v := wid (a / b)) rfl rfl (by kernel_rfl) (by kernel_rfl) rfl (yb_call (f := 57) (args := #[num (a / b)]) (fun _ => by kernel_rfl) fun W hW => widen_any (a / b) hqR W) (by simp only [List.setIfInBounds_toArray, List.set_cons_succ, List.set_cons_zero]; rfl) ?_
      refine wpU_vY (i := 5) (v := .int .u64 a) rfl rfl (by kernel_rfl) (by kernel_rfl) rfl (yb_pure fun _ => by kernel_rfl) (by simp only [List.setIfInBounds_toArray, List.set_cons_succ, List.set_cons_zero]; rfl) ?_
      refine wpU_vY (i := 6) (v := .int .u64 b) rfl rfl (by kernel_rfl) (by kernel_rfl) rfl (yb_pure fun _ => by kernel_rfl) (by simp only [List.setIfInBounds_toArray, List.set_cons_succ, List.set_cons_zero]; rfl) ?_
      refine wpU_vY (i := 7) (v := .int .u64 ((a % b : Nat) : Int)) rfl rfl (by kernel_rfl) (by kernel_rfl) rfl (yb_binY rfl (vx := .int .u64 a) (vy := .int .u64 b) (by kernel_rfl) (by kernel_rfl) fun w => run_rem64 w g4 hb0 g2) (by simp only [List.setIfInBounds_toArray, List.set_cons_succ, List.set_cons_zero]; rfl) ?_
      refine wpU_vY (i := 8) (v := num (a % b)) rfl rfl (by kernel_rfl) (by kernel_rfl) rfl (yb_call (f := 77) (args := #[.int .u64 ((a % b : Nat) : Int)]) (fun _ => by kernel_rfl) fun W hW => fromSmall_any (a % b) hra W) (by simp only [List.setIfInBounds_toArray, List.set_cons_succ, List.set_cons_zero]; rfl) ?_
      refine wpU_1 (i := 9) (by kernel_rfl) (stepU_store (K' := [(w.heap.size + 1 + 1, .cells (fa 18 (dg (a / b))) 76 (0, 0)), (w.heap.size + 1 + 1 + 1, .cells (fa 8 (fun _ => 0)) 23 (0, 0))]) rfl rfl rfl
        (st_a rfl rfl rfl (.tail _ (.tail _ (.head _))) (by omega) size65 (by intro p hp; simp only [List.mem_cons, List.not_mem_nil, or_false] at hp; rcases hp with rfl | rfl; exact .inl rfl; exact .inr ⟨by simp, by simp⟩)) ?_)
      refine wpU_1 (i := 10) (by kernel_rfl) (stepU_store (K' := [(w.heap.size + 1 + 1, .cells (fa 18 (dg (a / b))) 76 (0, 0)), (w.heap.size + 1 + 1 + 1, .cells (fa 8 (dg (a % b))) 23 (0, 0))]) rfl rfl rfl
        (st_a rfl rfl rfl (.tail _ (.head _)) (by omega) size25 (by intro p hp; simp only [List.mem_cons, List.not_mem_nil, or_false] at hp; rcases hp with rfl | rfl; exact .inr ⟨by simp, by simp⟩; exact .inl rfl)) ?_)
      refine wpU_done (by kernel_rfl) (fun W4 hW4 => ?_) _
      go_wp2_with fail
      exact bodyPost_ret (res_cell_cell rfl rfl (hW4.2 _ (.head _)) Tryz.underlying76 rfl (by rw [size65, fa_size]) rfl (hW4.2 _ (.tail _ (.head _))) Tryz.underlying23 rfl (by rw [size25, fa_size])) rfl ⟨rfl, hW4.1⟩
    · have hb2 : ¬ (ln (dg a) 18 ≤ 2 ∧ ln (dg b) 8 = 2) := h2
      obtain ⟨n, hn⟩ : ∃ n, ln (dg b) 8 = n + 1 := ⟨ln (dg b) 8 - 1, by omega⟩
      have hbR : b < R (n + 1) := by rw [← hn]; exact ln_lt 8 hb
      have haR : a < R (ln (dg a) 18) := ln_lt 18 ha18
      have hbn : dg b n ≠ 0 := by
        have := ln_ge (x := b) (n := 8) (by omega)
        rwa [hn, Nat.add_sub_cancel] at this
      rw [hn] at h1 hn0 hn2 h2
      rw [hn]
      generalize ln (dg a) 18 = m at *
      have hdl := divideLong_any a b m n haR hm0 hbR (by omega) (by omega) hbn
      have HDL := Lib.hid hdl
      clear hdl hn hn1 hb2 haR hbR hbn
      have hq : ((m : Int) ≤ 2 ∧ n ≠ 1) ∨ ¬ ((m : Int) ≤ 2) := by omega
      rcases hq with ⟨hq1, hq2⟩ | hq1
      all_goals
        go_wp2_with (first
          | (refine wpList_lda rfl rfl rfl (HK2.out.2 _ (.head _)) Tryz.underlying76 rfl size65 ?_)
          | (refine wpList_lda rfl rfl rfl (HK2.out.2 _ (.tail _ (.head _))) Tryz.underlying23 rfl size25 ?_))
        refine (HDL.out W1).mono ?_
        rintro e w1 ⟨rfl, hb1⟩
        have HK3 := Lib.hid (HK2.out.below hb1)
        have HK4 : KS w _ (w1.setRow (w.heap.size + 1 + 1) (fa 18 (dg (a / b)))) := HK3.out.put (K' := [(w.heap.size + 1 + 1, .cells (fa 18 (dg (a / b))) 76 (0, 0)), (w.heap.size + 1 + 1 + 1, .cells (fa 8 (fun _ => 0)) 23 (0, 0))]) (by omega) (.tail _ (.tail _ (.head _)))
          (by intro p hp; simp only [List.mem_cons, List.not_mem_nil, or_false] at hp; rcases hp with rfl | rfl; exact .inl rfl; exact .inr ⟨by simp, by simp⟩)
        clear hb1 HK2
        unfold wid num
        go_wp2_with (first
          | (refine wpList_sta (f := dg (a / b)) (f' := fun _ => 0) rfl rfl rfl rfl (HK3.out.2 _ (.tail _ (.tail _ (.head _)))) size65 ?_)
          | (refine wpList_sta (f := dg (a % b)) (f' := fun _ => 0) rfl rfl rfl rfl (HK4.2 _ (.tail _ (.head _))) size25 ?_))
        refine bodyPost_ret (res_cell_cell rfl rfl (cs := fa 18 (dg (a / b))) (t := 76) ?_ Tryz.underlying76 rfl (by rw [size65, fa_size]) rfl (setRow_heap _ _ _ _ _ _ (HK4.2 _ (.tail _ (.head _)))) Tryz.underlying23 rfl (by rw [size25, fa_size])) rfl ⟨rfl, below_setRow HK4.1 (by omega) _⟩
        rw [setRow_other _ _ _ _ (by omega)]; exact HK4.2 _ (.head _)
end Go.Proofs.YtalmflgkbmnghaaGreatDoor
namespace Go.Proofs.YtalmflgkbmnghaaGreatDoor
open Go.RowKit Tf
variable [ShLZ]
set_option maxRecDepth 100000 in
set_option maxHeartbeats 1000000 in
theorem quotient_any (a b : Nat) (ha : a < R 8) (hb : b < R 8) (hb0 : 0 < b) (w : World) :
    Calls Tryz.prog 79 #[num a, num b] w fun e w' => e = .returned (num (a / b)) ∧ Below w.heap.size w w' := by
  unfold num
  have hq : a / b < R 8 := Nat.lt_of_le_of_lt (Nat.div_le_self a b) ha
  have ha17 : a < R 17 := lt_R_of_le ha (by omega)
  go_enter Tryz.func79, Tryz.ntmps79
  go_upto_region 1 with (fail)
  have hK := KS.three w (.cells (fa 8 (dg a)) 23) (.cells (fa 8 (dg b)) 23) (.cells (fa 8 (fun _ => 0)) 23)
  obtain ⟨W, hW⟩ : ∃ W, W = ((w.alloc (.cells (fa 8 (dg a)) 23)).alloc (.cells (fa 8 (dg b)) 23)).alloc (.cells (fa 8 (fun _ => 0)) 23) := ⟨_, rfl⟩
  rw [← hW] at hK
  rw [fa_zero8] at hW
  rw [← hW]
  clear hW
  have HK := Lib.hid hK
  clear hK
  by_cases hb1 : b = 1
  · subst hb1
    go_wp2_with (first
      | (refine wpList_lda rfl rfl rfl (HK.out.2 _ (.tail _ (.head _))) Tryz.underlying23 rfl size25 ?_)
      | (refine wpList_lda rfl rfl rfl (HK.out.2 _ (.head _)) Tryz.underlying23 rfl size25 ?_)
      | (refine wpList_sta (f := dg a) (f' := fun _ => 0) rfl rfl rfl rfl (HK.out.2 _ (.tail _ (.tail _ (.head _)))) size25 ?_))
    exact bodyPost_ret (res_cell rfl rfl (setRow_heap _ _ _ _ _ _ (HK.out.2 _ (.tail _ (.tail _ (.head _))))) Tryz.underlying23 rfl (by rw [size25, fa_size])) rfl ⟨by rw [Nat.div_one], below_setRow HK.out.1 (by omega) _⟩
  · go_wp2_with (first
      | (refine wpList_lda rfl rfl rfl (HK.out.2 _ (.tail _ (.head _))) Tryz.underlying23 rfl size25 ?_))
    refine wp_region_U (W0 := w) [(w.heap.size, .cells (fa 8 (dg a)) 23 (0, 0)), (w.heap.size + 1, .cells (fa 8 (dg b)) 23 (0, 0)), (w.heap.size + 1 + 1, .cells (fa 8 (fun _ => 0)) 23 (0, 0))] (by kernel_rfl) (HK.out) ?_
    refine wpU_vY (i := 0) (v := num a) rfl rfl (by kernel_rfl) (by kernel_rfl) rfl (yb_lda rfl (by kernel_rfl) (.head _) Tryz.underlying23 rfl size25) (by simp only [List.setIfInBounds_toArray, List.set_cons_succ, List.set_cons_zero] <;> rfl) ?_
    refine wpU_vY (i := 1) (v := wid a) rfl rfl (by kernel_rfl) (by kernel_rfl) rfl (yb_call (f := 57) (args := #[num a]) (fun _ => by kernel_rfl) fun W hW => widen_any a ha W) (by simp only [List.setIfInBounds_toArray, List.set_cons_succ, List.set_cons_zero] <;> rfl) ?_
    refine wpU_vY (i := 2) (v := num b) rfl rfl (by kernel_rfl) (by kernel_rfl) rfl (yb_lda rfl (by kernel_rfl) (.tail _ (.head _)) Tryz.underlying23 rfl size25) (by simp only [List.setIfInBounds_toArray, List.set_cons_succ, List.set_cons_zero] <;> rfl) ?_
    refine wpU_vY (i := 3) (v := .tuple #[wid (a / b), num (a % b)]) rfl rfl (by kernel_rfl) (by kernel_rfl) rfl (yb_call (f := 56) (args := #[wid a, num b]) (fun _ => by kernel_rfl) fun W hW => divide_any a b ha17 hb hb0 W) (by simp only [List.setIfInBounds_toArray, List.set_cons_succ, List.set_cons_zero] <;> rfl) ?_
    refine wpU_pY (i := 4) (v := .tuple #[wid (a / b), num (a % b)]) rfl rfl (by kernel_rfl) (by kernel_rfl) rfl (fun _ => by kernel_rfl) (by simp only [List.setIfInBounds_toArray, List.set_cons_succ, List.set_cons_zero] <;> rfl) ?_
    refine wpU_pY (i := 5) (v := wid (a / b)) rfl rfl (by kernel_rfl) (by kernel_rfl) rfl (fun _ => by kernel_rfl) (by simp only [List.setIfInBounds_toArray, List.set_cons_succ, List.set_cons_zero] <;> rfl) ?_
    refine wpU_pY (i := 6) (v := num (a % b)) rfl rfl (by kernel_rfl) (by kernel_rfl) rfl (fun _ => by kernel_rfl) (by simp only [List.setIfInBounds_toArray, List.set_cons_succ, List.set_cons_zero] <;> rfl) ?_
    refine wpU_twoY (i := 7) (j := 8) (obi := .cells (fa 18 (fun _ => 0)) 76 (0, 0)) (obj := .cells (fa 8 (fun _ => 0)) 23 (0, 0)) rfl rfl rfl rfl rfl rfl (by kernel_rfl) (by kernel_rfl) (by kernel_rfl) (by kernel_rfl) (fun _ _ => rfl) (fun _ _ => rfl) (fun _ _ => by simp only [List.setIfInBounds_toArray, List.set_cons_succ, List.set_cons_zero] <;> rfl) (fun _ _ => by simp only [List.setIfInBounds_toArray, List.set_cons_succ, List.set_cons_zero] <;> rfl) fun g h Bg Bh Dgh Fg Fh => ?_
    simp only [List.forall_mem_cons] at Fg Fh
    refine wpU_sY [(g, .cells (fa 18 (dg (a / b))) 76 (0, 0)), (h, .cells (fa 8 (fun _ => 0)) 23 (0, 0)), (w.heap.size, .cells (fa 8 (dg a)) 23 (0, 0)), (w.heap.size + 1, .cells (fa 8 (dg b)) 23 (0, 0)), (w.heap.size + 1 + 1, .cells (fa 8 (fun _ => 0)) 23 (0, 0))] (i := 9) rfl (by kernel_rfl) rfl rfl rfl
      (st_a rfl rfl rfl (.head _) (by omega) size65 (by intro p hp; simp only [List.mem_cons, List.not_mem_nil, or_false] at hp; rcases hp with rfl | rfl | rfl | rfl | rfl; exact .inl rfl; exact .inr ⟨by simp, by simp only; omega⟩; exact .inr ⟨by simp, by simp only; omega⟩; exact .inr ⟨by simp, by simp only; omega⟩; exact .inr ⟨by simp, by simp only; omega⟩)) ?_
    refine wpU_sY [(g, .cells (fa 18 (dg (a / b))) 76 (0, 0)), (h, .cells (fa 8 (dg (a % b))) 23 (0, 0)), (w.heap.size, .cells (fa 8 (dg a)) 23 (0, 0)), (w.heap.size + 1, .cells (fa 8 (dg b)) 23 (0, 0)), (w.heap.size + 1 + 1, .cells (fa 8 (fun _ => 0)) 23 (0, 0))] (i := 10) rfl (by kernel_rfl) rfl rfl rfl
      (st_a rfl rfl rfl (.tail _ (.head _)) (by omega) size25 (by intro p hp; simp only [List.mem_cons, List.not_mem_nil, or_false] at hp; rcases hp with rfl | rfl | rfl | rfl | rfl; exact .inr ⟨by simp, by simp only; omega⟩; exact .inl rfl; exact .inr ⟨by simp, by simp only; omega⟩; exact .inr ⟨by simp, by simp only; omega⟩; exact .inr ⟨by simp, by simp only; omega⟩)) ?_
    refine wpU_done (by kernel_rfl) (fun W4 hW4 => ?_) _
    clear HK
    have HW4 := Lib.hid hW4
    clear hW4
    go_upto_region 5 with (first
      | (refine wpList_lda rfl rfl rfl (HW4.out.2 _ (.head _)) Tryz.underlying76 rfl size65 ?_)
      | (go_at_call 97; refine (narrow_yes (a / b) hq _).mono ?_; rintro e w2 ⟨rfl, hb2⟩; have HK3 := Lib.hid (HW4.out.below hb2); clear hb2; unfold num)
      | (refine wpList_sta (f := dg (a / b)) (f' := fun _ => 0) rfl rfl rfl rfl (heap1 w2 _) size25 ?_))
    obtain ⟨f1, f2⟩ := HK3.out.fresh
    have HK4 := Lib.hid (HK3.out.newvar (cs := fa 8 (fun _ => 0)) (cs' := fa 8 (dg (a / b))) (t := 23))
    rw [← fa_zero8]
    generalize (w2.alloc (.cells (fa 8 (fun _ => 0)) 23)).setRow w2.heap.size (fa 8 (dg (a / b))) = W2 at *
    clear HK3
    go_wp2_with (first
      | (refine wpList_lda rfl rfl rfl (HK4.out.2 _ (.head _)) Tryz.underlying23 rfl size25 ?_)
      | (refine wpList_sta (f := dg (a / b)) (f' := fun _ => 0) rfl rfl rfl rfl (HK4.out.2 _ (.tail _ (.tail _ (.tail _ (.tail _ (.tail _ (.head _))))))) size25 ?_))
    exact bodyPost_ret (res_cell rfl rfl (setRow_heap _ _ _ _ _ _ (HK4.out.2 _ (.tail _ (.tail _ (.tail _ (.tail _ (.tail _ (.head _)))))))) Tryz.underlying23 rfl (by rw [size25, fa_size])) rfl ⟨rfl, below_setRow HK4.out.1 (by omega) _⟩
end Go.Proofs.YtalmflgkbmnghaaGreatDoor
namespace Go.Proofs.YtalmflgkbmnghaaGreatDoor
open Go.RowKit Tf

set_option maxHeartbeats 400000 in
theorem gcdSmall_any (a b : Nat) (ha : a < 18446744073709551616) (hb : b < 18446744073709551616) (w : World) :
    Calls Tryz.prog 76 #[.int .u64 a, .int .u64 b] w fun e w' => e = .returned (.int .u64 (Nat.gcd a b)) ∧ Below w.heap.size w w' := by
  go_enter Tryz.func76, Tryz.ntmps76
  go_wp2
  go_loopw [0, 1] (fun x y wr => ∃ p q : Nat, p < 18446744073709551616 ∧ q < 18446744073709551616 ∧ Hid (Nat.gcd a b = Nat.gcd p q) ∧ x = .int .u64 p ∧ y = .int .u64 q ∧ Below w.heap.size w wr)
    (fun _ y _ => (intOf y).toNat)
  case atStart => exact ⟨a, b, ha, hb, rfl, rfl, rfl, Below.refl _ _⟩
  case round =>
    obtain ⟨p, q, hp, hq, he, rfl, rfl, hB⟩ := hrel
    rcases Nat.eq_zero_or_pos q with rfl | hpos
    · go_wp2
      go_ret
      exact ⟨ret_int (by rw [he.out, Nat.gcd_zero_right]), hB⟩
    · have hne : ((q : Int) != 0) = true := by simp; omega
      go_wp2
      go_quiet (fail)
      go_wp2
      go_roundw
      case rel => exact ⟨q, p % q, hq, Nat.lt_trans (Nat.mod_lt p hpos) hq, by unfold Hid; rw [he.out, Nat.gcd_comm p q, Nat.gcd_rec q p, Nat.gcd_comm], rfl, by first | rfl | exact congrArg (Value.int .u64) (by omega), belowN hB _⟩
      case measure =>
        have h := Nat.mod_lt p hpos
        have e : ((p : Int) % (q : Int)) = ((p % q : Nat) : Int) := rfl
        rw [e]
        simp only [intOf]
        omega
end Go.Proofs.YtalmflgkbmnghaaGreatDoor
namespace Go.Proofs.YtalmflgkbmnghaaGreatDoor
open Go.RowKit Tf
variable [ShLZ]
def valAt (wr : World) (g : Nat) : Nat := match wr.heap[g]? with
  | some (.cells cs _ _) => va (fun i => (intOf (cs.getD i undef)).toNat) 8
  | _ => 0
theorem va_congr' {f g : Nat → Nat} : ∀ n, (∀ i, i < n → f i = g i) → va f n = va g n
  | 0, _ => by unfold va; rfl
  | n + 1, h => by unfold va; rw [va_congr' n (fun i hi => h i (by omega)), h n (by omega)]
theorem valAt_eq {wr : World} {g b : Nat} {t : TypeId} (hb : b < R 8) (h : wr.heap[g]? = some (.cells (fa 8 (dg b)) t (0, 0))) : valAt wr g = b := by
  unfold valAt
  rw [h]
  simp only
  rw [va_congr' (g := dg b) 8 (fun i hi => by
    rw [Array.getD_eq_getD_getElem?, fa_get _ hi]
    simp [intOf]), va_dg, Nat.mod_eq_of_lt hb]
theorem quiet_below {P : Program} {f : FuncId} {args : Array Value} {w : World} {v : Value} (h : Calls P f args w fun e w' => e = .returned v ∧ ∃ m, w' = w.drewN m) :
    Calls P f args w fun e w' => e = .returned v ∧ Below w.heap.size w w' :=
  h.mono fun _ _ ⟨he, m, hm⟩ => ⟨he, by rw [hm]; exact belowN (Below.refl _ _) _⟩

set_option maxRecDepth 100000 in
set_option maxHeartbeats 1000000 in
theorem gcd_any (a b : Nat) (ha : a < R 8) (hb : b < R 8) (w : World) :
    Calls Tryz.prog 49 #[num a, num b] w fun e w' => e = .returned (num (Nat.gcd a b)) ∧ Below w.heap.size w w' := by
  unfold num
  go_enter Tryz.func49, Tryz.ntmps49
  go_wp2_with fail
  have hK := KS.three w (.cells (fa 8 (dg a)) 23) (.cells (fa 8 (dg b)) 23) (.cells (fa 8 (fun _ => 0)) 23)
  obtain ⟨W, hW⟩ : ∃ W, W = ((w.alloc (.cells (fa 8 (dg a)) 23)).alloc (.cells (fa 8 (dg b)) 23)).alloc (.cells (fa 8 (fun _ => 0)) 23) := ⟨_, rfl⟩
  rw [← hW] at hK
  rw [fa_zero8] at hW
  rw [← hW]
  clear hW
  have HK := Lib.hid hK
  clear hK
  go_loopw [] (fun wr => ∃ p q : Nat, p < R 8 ∧ q < R 8 ∧ Hid (Nat.gcd a b = Nat.gcd p q) ∧ Hid (KS w [(w.heap.size, .cells (fa 8 (dg p)) 23 (0, 0)), (w.heap.size + 1, .cells (fa 8 (dg q)) 23 (0, 0)), (w.heap.size + 1 + 1, .cells (fa 8 (fun _ => 0)) 23 (0, 0))] wr))
    (fun wr => valAt wr (w.heap.size + 1))
  case atStart => exact ⟨a, b, ha, hb, rfl, HK⟩
  case round =>
    clear HK
    obtain ⟨p, q, hp, hq, he, HK⟩ := hrel
    clear ha hb
    rcases Nat.eq_zero_or_pos q with rfl | hpos
    · go_wp2_with (first
        | (refine wpList_lda rfl rfl rfl (HK.out.2 _ (.tail _ (.head _))) Tryz.underlying23 rfl size25 ?_)
        | (refine wpList_lda rfl rfl rfl (HK.out.2 _ (.head _)) Tryz.underlying23 rfl size25 ?_)
        | (refine wpList_sta (f := dg p) (f' := fun _ => 0) rfl rfl rfl rfl (HK.out.2 _ (.tail _ (.tail _ (.head _)))) size25 ?_))
      refine bodyPost_ret (res_cell rfl rfl (setRow_heap _ _ _ _ _ _ (HK.out.2 _ (.tail _ (.tail _ (.head _))))) Tryz.underlying23 rfl (by rw [size25, fa_size])) rfl ⟨?_, below_setRow HK.out.1 (by omega) _⟩
      rw [he.out, Nat.gcd_zero_right]
    · have hne : ¬ q = 0 := by omega
      have g5 := ln_two (b := p) (n := 8)
      have g6 := ln_two (b := q) (n := 8)
      have hln : (((ln (dg p) 8 : Nat) : Int) ≤ 2 ∧ ((ln (dg q) 8 : Nat) : Int) ≤ 2) ∨ (¬ (((ln (dg p) 8 : Nat) : Int) ≤ 2) ∨ (((ln (dg p) 8 : Nat) : Int) ≤ 2 ∧ ¬ (((ln (dg q) 8 : Nat) : Int) ≤ 2))) := by omega
      rcases hln with ⟨h1, h2⟩ | hln
      · obtain ⟨g1, g2⟩ := g5 hp (by omega)
        obtain ⟨g3, g4⟩ := g6 hq (by omega)
        have G1 := Lib.hid g1
        have G3 := Lib.hid g3
        clear g1 g3 g5 g6
        go_wp2_with (first
          | (refine wpList_lda rfl rfl rfl (HK.out.2 _ (.tail _ (.head _))) Tryz.underlying23 rfl size25 ?_)
          | (go_at_call 60; refine (length_any _ 0 8 8 (dg p) _ (by omega) (fun i hi => by rw [Nat.zero_add]; exact blk_cell (HK.out.2 _ (.head _)) hi)).mono ?_; rintro e w1 ⟨rfl, rfl⟩)
          | (go_at_call 60; refine (length_any _ 0 8 8 (dg q) _ (by omega) (fun i hi => by rw [Nat.zero_add]; exact blk_cell (HK.out.2 _ (.tail _ (.head _))) hi)).mono ?_; rintro e w1 ⟨rfl, rfl⟩))
        have hg64 : Nat.gcd p q < 18446744073709551616 := Nat.lt_of_le_of_lt (Nat.gcd_le_right p hpos) g4
        have g1 := G1.out
        have g3 := G3.out
        refine wp_region_U (W0 := w) [(w.heap.size, .cells (fa 8 (dg p)) 23 (0, 0)), (w.heap.size + 1, .cells (fa 8 (dg q)) 23 (0, 0)), (w.heap.size + 1 + 1, .cells (fa 8 (fun _ => 0)) 23 (0, 0))] (by kernel_rfl) (HK.out) ?_
        refine wpU_pY (i := 0) (v := .slice (some ⟨w.heap.size, 0, none⟩) 8 8) rfl rfl (by kernel_rfl) (by kernel_rfl) rfl (fun _ => by kernel_rfl) (by simp only [List.setIfInBounds_toArray, List.set_cons_succ, List.set_cons_zero] <;> rfl) ?_
        refine wpU_vY (i := 1) (v := .int .u64 (p : Int)) rfl rfl (by kernel_rfl) (by kernel_rfl) rfl (yb_call (f := 59) (args := #[.slice (some ⟨w.heap.size, 0, none⟩) 8 8]) (fun _ => by kernel_rfl) fun W hW => quiet_below (toSmall_num _ 8 8 p p 23 g1 (by omega) W (hW.2 _ (.head _)))) (by simp only [List.setIfInBounds_toArray, List.set_cons_succ, List.set_cons_zero] <;> rfl) ?_
        refine wpU_pY (i := 2) (v := .slice (some ⟨w.heap.size + 1, 0, none⟩) 8 8) rfl rfl (by kernel_rfl) (by kernel_rfl) rfl (fun _ => by kernel_rfl) (by simp only [List.setIfInBounds_toArray, List.set_cons_succ, List.set_cons_zero] <;> rfl) ?_
        refine wpU_vY (i := 3) (v := .int .u64 (q : Int)) rfl rfl (by kernel_rfl) (by kernel_rfl) rfl (yb_call (f := 59) (args := #[.slice (some ⟨w.heap.size + 1, 0, none⟩) 8 8]) (fun _ => by kernel_rfl) fun W hW => quiet_below (toSmall_num _ 8 8 q q 23 g3 (by omega) W (hW.2 _ (.tail _ (.head _))))) (by simp only [List.setIfInBounds_toArray, List.set_cons_succ, List.set_cons_zero] <;> rfl) ?_
        refine wpU_vY (i := 4) (v := .int .u64 (Nat.gcd p q : Int)) rfl rfl (by kernel_rfl) (by kernel_rfl) rfl (yb_call (f := 76) (args := #[.int .u64 (p : Int), .int .u64 (q : Int)]) (fun _ => by kernel_rfl) fun W hW => gcdSmall_any p q g2 g4 W) (by simp only [List.setIfInBounds_toArray, List.set_cons_succ, List.set_cons_zero] <;> rfl) ?_
        refine wpU_vY (i := 5) (v := num (Nat.gcd p q)) rfl rfl (by kernel_rfl) (by kernel_rfl) rfl (yb_call (f := 77) (args := #[.int .u64 (Nat.gcd p q : Int)]) (fun _ => by kernel_rfl) fun W hW => fromSmall_any (Nat.gcd p q) hg64 W) (by simp only [List.setIfInBounds_toArray, List.set_cons_succ, List.set_cons_zero] <;> rfl) ?_
        refine wpU_sY [(w.heap.size, .cells (fa 8 (dg p)) 23 (0, 0)), (w.heap.size + 1, .cells (fa 8 (dg q)) 23 (0, 0)), (w.heap.size + 1 + 1, .cells (fa 8 (dg (Nat.gcd p q))) 23 (0, 0))] (i := 6) rfl (by kernel_rfl) rfl rfl rfl
          (st_a rfl rfl rfl (.tail _ (.tail _ (.head _))) (by omega) size25 (by intro p hp; simp only [List.mem_cons, List.not_mem_nil, or_false] at hp; rcases hp with rfl | rfl | rfl; exact .inr ⟨by simp, by simp only; omega⟩; exact .inr ⟨by simp, by simp only; omega⟩; exact .inl rfl)) ?_
        refine wpU_done (by kernel_rfl) (fun W4 hW4 => ?_) _
        go_wp2_with fail
        exact bodyPost_ret (res_cell rfl rfl (hW4.2 _ (.tail _ (.tail _ (.head _)))) Tryz.underlying23 rfl (by rw [size25, fa_size])) rfl ⟨by rw [he.out], hW4.1⟩
      · clear g5 g6
        rcases hln with h1 | ⟨h1, h2⟩
        all_goals
          go_wp2_with (first
            | (refine wpList_lda rfl rfl rfl (HK.out.2 _ (.tail _ (.head _))) Tryz.underlying23 rfl size25 ?_)
            | (go_at_call 60; refine (length_any _ 0 8 8 (dg p) _ (by omega) (fun i hi => by rw [Nat.zero_add]; exact blk_cell (HK.out.2 _ (.head _)) hi)).mono ?_; rintro e w1 ⟨rfl, rfl⟩)
            | (go_at_call 60; refine (length_any _ 0 8 8 (dg q) _ (by omega) (fun i hi => by rw [Nat.zero_add]; exact blk_cell (HK.out.2 _ (.tail _ (.head _))) hi)).mono ?_; rintro e w1 ⟨rfl, rfl⟩))
          have hp17 : p < R 17 := lt_R_of_le hp (by omega)
          refine wp_region_U (W0 := w) [(w.heap.size, .cells (fa 8 (dg p)) 23 (0, 0)), (w.heap.size + 1, .cells (fa 8 (dg q)) 23 (0, 0)), (w.heap.size + 1 + 1, .cells (fa 8 (fun _ => 0)) 23 (0, 0))] (by kernel_rfl) (HK.out) ?_
          refine wpU_vY (i := 0) (v := num p) rfl rfl (by kernel_rfl) (by kernel_rfl) rfl (yb_lda rfl (by kernel_rfl) (.head _) Tryz.underlying23 rfl size25) (by simp only [List.setIfInBounds_toArray, List.set_cons_succ, List.set_cons_zero] <;> rfl) ?_
          refine wpU_vY (i := 1) (v := wid p) rfl rfl (by kernel_rfl) (by kernel_rfl) rfl (yb_call (f := 57) (args := #[num p]) (fun _ => by kernel_rfl) fun W hW => widen_any p hp W) (by simp only [List.setIfInBounds_toArray, List.set_cons_succ, List.set_cons_zero] <;> rfl) ?_
          refine wpU_vY (i := 2) (v := num q) rfl rfl (by kernel_rfl) (by kernel_rfl) rfl (yb_lda rfl (by kernel_rfl) (.tail _ (.head _)) Tryz.underlying23 rfl size25) (by simp only [List.setIfInBounds_toArray, List.set_cons_succ, List.set_cons_zero] <;> rfl) ?_
          refine wpU_vY (i := 3) (v := .tuple #[wid (p / q), num (p % q)]) rfl rfl (by kernel_rfl) (by kernel_rfl) rfl (yb_call (f := 56) (args := #[wid p, num q]) (fun _ => by kernel_rfl) fun W hW => divide_any p q hp17 hq hpos W) (by simp only [List.setIfInBounds_toArray, List.set_cons_succ, List.set_cons_zero] <;> rfl) ?_
          refine wpU_pY (i := 4) (v := .tuple #[wid (p / q), num (p % q)]) rfl rfl (by kernel_rfl) (by kernel_rfl) rfl (fun _ => by kernel_rfl) (by simp only [List.setIfInBounds_toArray, List.set_cons_succ, List.set_cons_zero] <;> rfl) ?_
          refine wpU_pY (i := 5) (v := wid (p / q)) rfl rfl (by kernel_rfl) (by kernel_rfl) rfl (fun _ => by kernel_rfl) (by simp only [List.setIfInBounds_toArray, List.set_cons_succ, List.set_cons_zero] <;> rfl) ?_
          refine wpU_pY (i := 6) (v := num (p % q)) rfl rfl (by kernel_rfl) (by kernel_rfl) rfl (fun _ => by kernel_rfl) (by simp only [List.setIfInBounds_toArray, List.set_cons_succ, List.set_cons_zero] <;> rfl) ?_
          refine wpU_twoY (i := 7) (j := 8) (obi := .cells (fa 18 (fun _ => 0)) 76 (0, 0)) (obj := .cells (fa 8 (fun _ => 0)) 23 (0, 0)) rfl rfl rfl rfl rfl rfl (by kernel_rfl) (by kernel_rfl) (by kernel_rfl) (by kernel_rfl) (fun _ _ => rfl) (fun _ _ => rfl) (fun _ _ => by simp only [List.setIfInBounds_toArray, List.set_cons_succ, List.set_cons_zero] <;> rfl) (fun _ _ => by simp only [List.setIfInBounds_toArray, List.set_cons_succ, List.set_cons_zero] <;> rfl) fun g h Bg Bh Dgh Fg Fh => ?_
          simp only [List.forall_mem_cons] at Fg Fh
          refine wpU_sY [(g, .cells (fa 18 (dg (p / q))) 76 (0, 0)), (h, .cells (fa 8 (fun _ => 0)) 23 (0, 0)), (w.heap.size, .cells (fa 8 (dg p)) 23 (0, 0)), (w.heap.size + 1, .cells (fa 8 (dg q)) 23 (0, 0)), (w.heap.size + 1 + 1, .cells (fa 8 (fun _ => 0)) 23 (0, 0))] (i := 9) rfl (by kernel_rfl) rfl rfl rfl
            (st_a rfl rfl rfl (.head _) (by omega) size65 (by intro p hp; simp only [List.mem_cons, List.not_mem_nil, or_false] at hp; rcases hp with rfl | rfl | rfl | rfl | rfl; exact .inl rfl; exact .inr ⟨by simp, by simp only; omega⟩; exact .inr ⟨by simp, by simp only; omega⟩; exact .inr ⟨by simp, by simp only; omega⟩; exact .inr ⟨by simp, by simp only; omega⟩)) ?_
          refine wpU_sY [(g, .cells (fa 18 (dg (p / q))) 76 (0, 0)), (h, .cells (fa 8 (dg (p % q))) 23 (0, 0)), (w.heap.size, .cells (fa 8 (dg p)) 23 (0, 0)), (w.heap.size + 1, .cells (fa 8 (dg q)) 23 (0, 0)), (w.heap.size + 1 + 1, .cells (fa 8 (fun _ => 0)) 23 (0, 0))] (i := 10) rfl (by kernel_rfl) rfl rfl rfl
            (st_a rfl rfl rfl (.tail _ (.head _)) (by omega) size25 (by intro p hp; simp only [List.mem_cons, List.not_mem_nil, or_false] at hp; rcases hp with rfl | rfl | rfl | rfl | rfl; exact .inr ⟨by simp, by simp only; omega⟩; exact .inl rfl; exact .inr ⟨by simp, by simp only; omega⟩; exact .inr ⟨by simp, by simp only; omega⟩; exact .inr ⟨by simp, by simp only; omega⟩)) ?_
          refine wpU_done (by kernel_rfl) (fun W4 hW4 => ?_) _
          obtain ⟨Bg', Fg', Fh'⟩ : w.heap.size ≤ g ∧ (w.heap.size + 1 ≠ g ∧ w.heap.size + 1 + 1 ≠ g) ∧ (w.heap.size ≠ h ∧ w.heap.size + 1 ≠ h ∧ w.heap.size + 1 + 1 ≠ h) := ⟨Bg, ⟨Fg.2.1, Fg.2.2.1⟩, ⟨Fh.1, Fh.2.1, Fh.2.2.1⟩⟩
          go_wp2_with fail
          have FIN : ∀ X, KS w [(g, .cells (fa 18 (dg (p / q))) 76 (0, 0)), (h, .cells (fa 8 (dg (p % q))) 23 (0, 0)), (w.heap.size, .cells (fa 8 (dg q)) 23 (0, 0)), (w.heap.size + 1, .cells (fa 8 (dg (p % q))) 23 (0, 0)), (w.heap.size + 1 + 1, .cells (fa 8 (fun _ => 0)) 23 (0, 0))] X → Hid (KS w [(w.heap.size, .cells (fa 8 (dg q)) 23 (0, 0)), (w.heap.size + 1, .cells (fa 8 (dg (p % q))) 23 (0, 0)), (w.heap.size + 1 + 1, .cells (fa 8 (fun _ => 0)) 23 (0, 0))] X) := fun X hX => hX.sub (by
            intro x hx; exact .tail _ (.tail _ hx))
          refine wp_region_U (W0 := w) [(g, .cells (fa 18 (dg (p / q))) 76 (0, 0)), (h, .cells (fa 8 (dg (p % q))) 23 (0, 0)), (w.heap.size, .cells (fa 8 (dg p)) 23 (0, 0)), (w.heap.size + 1, .cells (fa 8 (dg q)) 23 (0, 0)), (w.heap.size + 1 + 1, .cells (fa 8 (fun _ => 0)) 23 (0, 0))] (by kernel_rfl) (hW4) ?_
          refine wpU_vY (i := 0) (v := num q) rfl rfl (by kernel_rfl) (by kernel_rfl) rfl (yb_lda rfl (by kernel_rfl) (.tail _ (.tail _ (.tail _ (.head _)))) Tryz.underlying23 rfl size25) (by simp only [List.setIfInBounds_toArray, List.set_cons_succ, List.set_cons_zero] <;> rfl) ?_
          refine wpU_2 (i := 1) (j := 2) (by kernel_rfl) ?_ ?_
          · refine stepU_vY (i := 1) (v := num (p % q)) rfl rfl (by kernel_rfl) rfl (yb_lda rfl (by kernel_rfl) (.tail _ (.head _)) Tryz.underlying23 rfl size25) (by simp only [List.setIfInBounds_toArray, List.set_cons_succ, List.set_cons_zero] <;> rfl) ?_
            refine wpU_sY [(g, .cells (fa 18 (dg (p / q))) 76 (0, 0)), (h, .cells (fa 8 (dg (p % q))) 23 (0, 0)), (w.heap.size, .cells (fa 8 (dg q)) 23 (0, 0)), (w.heap.size + 1, .cells (fa 8 (dg q)) 23 (0, 0)), (w.heap.size + 1 + 1, .cells (fa 8 (fun _ => 0)) 23 (0, 0))] (i := 2) rfl (by kernel_rfl) rfl rfl rfl
              (st_a rfl rfl rfl (.tail _ (.tail _ (.head _))) (by omega) size25 (by intro p hp; simp only [List.mem_cons, List.not_mem_nil, or_false] at hp; rcases hp with rfl | rfl | rfl | rfl | rfl; exact .inr ⟨by simp, by simp only; omega⟩; exact .inr ⟨by simp, by simp only; omega⟩; exact .inl rfl; exact .inr ⟨by simp, by simp only; omega⟩; exact .inr ⟨by simp, by simp only; omega⟩)) ?_
            refine wpU_sY [(g, .cells (fa 18 (dg (p / q))) 76 (0, 0)), (h, .cells (fa 8 (dg (p % q))) 23 (0, 0)), (w.heap.size, .cells (fa 8 (dg q)) 23 (0, 0)), (w.heap.size + 1, .cells (fa 8 (dg (p % q))) 23 (0, 0)), (w.heap.size + 1 + 1, .cells (fa 8 (fun _ => 0)) 23 (0, 0))] (i := 3) rfl (by kernel_rfl) rfl rfl rfl
              (st_a rfl rfl rfl (.tail _ (.tail _ (.tail _ (.head _)))) (by omega) size25 (by intro p hp; simp only [List.mem_cons, List.not_mem_nil, or_false] at hp; rcases hp with rfl | rfl | rfl | rfl | rfl; exact .inr ⟨by simp, by simp only; omega⟩; exact .inr ⟨by simp, by simp only; omega⟩; exact .inr ⟨by simp, by simp only; omega⟩; exact .inl rfl; exact .inr ⟨by simp, by simp only; omega⟩)) ?_
            refine wpU_done (by kernel_rfl) (fun W4 hW4 => ?_) _
            have F := FIN _ hW4
            clear FIN hW4
            go_roundw
            case rel => (repeat apply Exists.intro); exact ⟨⟨q, p % q, hq, Nat.lt_trans (Nat.mod_lt p hpos) hq, by unfold Hid; rw [he.out, Nat.gcd_comm p q, Nat.gcd_rec q p, Nat.gcd_comm], F⟩, rfl⟩
            case measure =>
              rw [valAt_eq (Nat.lt_trans (Nat.mod_lt p hpos) hq) (F.out.2 _ (.tail _ (.head _))), valAt_eq hq (HK.out.2 _ (.tail _ (.head _)))]
              exact Nat.mod_lt p hpos
          · refine stepU_sY [(g, .cells (fa 18 (dg (p / q))) 76 (0, 0)), (h, .cells (fa 8 (dg (p % q))) 23 (0, 0)), (w.heap.size, .cells (fa 8 (dg q)) 23 (0, 0)), (w.heap.size + 1, .cells (fa 8 (dg q)) 23 (0, 0)), (w.heap.size + 1 + 1, .cells (fa 8 (fun _ => 0)) 23 (0, 0))] (i := 2) rfl rfl rfl rfl
              (st_a rfl rfl rfl (.tail _ (.tail _ (.head _))) (by omega) size25 (by intro p hp; simp only [List.mem_cons, List.not_mem_nil, or_false] at hp; rcases hp with rfl | rfl | rfl | rfl | rfl; exact .inr ⟨by simp, by simp only; omega⟩; exact .inr ⟨by simp, by simp only; omega⟩; exact .inl rfl; exact .inr ⟨by simp, by simp only; omega⟩; exact .inr ⟨by simp, by simp only; omega⟩)) ?_
            refine wpU_1 (i := 1) (by kernel_rfl) (stepU_vY (i := 1) (v := num (p % q)) rfl rfl (by kernel_rfl) rfl (yb_lda rfl (by kernel_rfl) (.tail _ (.head _)) Tryz.underlying23 rfl size25) (by simp only [List.setIfInBounds_toArray, List.set_cons_succ, List.set_cons_zero] <;> rfl) ?_)
            refine wpU_sY [(g, .cells (fa 18 (dg (p / q))) 76 (0, 0)), (h, .cells (fa 8 (dg (p % q))) 23 (0, 0)), (w.heap.size, .cells (fa 8 (dg q)) 23 (0, 0)), (w.heap.size + 1, .cells (fa 8 (dg (p % q))) 23 (0, 0)), (w.heap.size + 1 + 1, .cells (fa 8 (fun _ => 0)) 23 (0, 0))] (i := 3) rfl (by kernel_rfl) rfl rfl rfl
              (st_a rfl rfl rfl (.tail _ (.tail _ (.tail _ (.head _)))) (by omega) size25 (by intro p hp; simp only [List.mem_cons, List.not_mem_nil, or_false] at hp; rcases hp with rfl | rfl | rfl | rfl | rfl; exact .inr ⟨by simp, by simp only; omega⟩; exact .inr ⟨by simp, by simp only; omega⟩; exact .inr ⟨by simp, by simp only; omega⟩; exact .inl rfl; exact .inr ⟨by simp, by simp only; omega⟩)) ?_
            refine wpU_done (by kernel_rfl) (fun W4 hW4 => ?_) _
            have F := FIN _ hW4
            clear FIN hW4
            go_roundw
            case rel => (repeat apply Exists.intro); exact ⟨⟨q, p % q, hq, Nat.lt_trans (Nat.mod_lt p hpos) hq, by unfold Hid; rw [he.out, Nat.gcd_comm p q, Nat.gcd_rec q p, Nat.gcd_comm], F⟩, rfl⟩
            case measure =>
              rw [valAt_eq (Nat.lt_trans (Nat.mod_lt p hpos) hq) (F.out.2 _ (.tail _ (.head _))), valAt_eq hq (HK.out.2 _ (.tail _ (.head _)))]
              exact Nat.mod_lt p hpos
end Go.Proofs.YtalmflgkbmnghaaGreatDoor
namespace Go.Proofs.YtalmflgkbmnghaaGreatDoor
open Go.RowKit Tf
variable [ShLZ]
def rightB (neg : Bool) (n d : Nat) : Bool := if n = 0 then decide (neg = false ∧ d = 1) else decide (d ≠ 0 ∧ Nat.gcd n d = 1)
theorem ret_bool {a b : Bool} (h : a = b) : Ending.returned (.bool a) = .returned (.bool b) := by rw [h]

set_option maxRecDepth 100000 in
set_option maxHeartbeats 1000000 in
theorem right_any (neg : Bool) (n d : Nat) (hn : n < R 8) (hd : d < R 8) (w : World) :
    Calls Tryz.prog 17 #[frc neg n d] w fun e w' => e = .returned (.bool (rightB neg n d)) ∧ Below w.heap.size w w' := by
  unfold frc
  go_enter Tryz.func17, Tryz.ntmps17
  go_upto_region 1 with (fail)
  have hK := KS.one w (.cells (frcC neg n d) 25)
  obtain ⟨W, hW⟩ : ∃ W, W = w.alloc (.cells (frcC neg n d) 25) := ⟨_, rfl⟩
  rw [← hW] at hK
  rw [← hW]
  clear hW
  have HK := Lib.hid hK
  clear hK
  rcases Nat.eq_zero_or_pos n with rfl | hpos
  · go_wp2_with (first
      | (refine wpList_ldn rfl rfl rfl (HK.out.2 _ (.head _)) Tryz.underlying23 rfl size25 ?_)
      | (refine wpList_ldw rfl rfl rfl (HK.out.2 _ (.head _)) Tryz.underlying25 rfl size27 ?_))
    go_ret
    exact ⟨ret_bool (by rw [rightB, if_pos rfl]; simp), HK.out.1⟩
  · have hne : ¬ n = 0 := by omega
    have HR := Lib.hid (show rightB neg n d = decide (d ≠ 0 ∧ Nat.gcd n d = 1) from if_neg hne)
    have hg : Nat.gcd n d < R 8 := Nat.lt_of_le_of_lt (Nat.gcd_le_left d hpos) hn
    rcases Nat.eq_zero_or_pos d with rfl | hdp
    · go_wp2_with (first
        | (refine wpList_ldn rfl rfl rfl (HK.out.2 _ (.head _)) Tryz.underlying23 rfl size25 ?_)
        | (refine wpList_ldd rfl rfl rfl (HK.out.2 _ (.head _)) Tryz.underlying23 rfl size25 ?_))
      go_ret
      exact ⟨ret_bool (by rw [HR.out]; simp), HK.out.1⟩
    · have hde : ¬ d = 0 := by omega
      go_wp2_with (first
        | (refine wpList_ldn rfl rfl rfl (HK.out.2 _ (.head _)) Tryz.underlying23 rfl size25 ?_)
        | (refine wpList_ldd rfl rfl rfl (HK.out.2 _ (.head _)) Tryz.underlying23 rfl size25 ?_)
        | (refine wpList_guard rfl ?_; refine wpList_ldn rfl rfl rfl (HK.out.2 _ (.head _)) Tryz.underlying23 rfl size25 ?_)
        | (refine wpList_guard rfl ?_; refine wpList_ldd rfl rfl rfl (HK.out.2 _ (.head _)) Tryz.underlying23 rfl size25 ?_)
        | (go_at_call 49; refine (gcd_any n d hn hd _).mono ?_; rintro e w1 ⟨rfl, hb1⟩; have HK2 := Lib.hid (HK.out.below hb1); clear hb1; unfold num))
      go_ret
      exact ⟨ret_bool (by rw [HR.out]; simp [hde]), HK2.out.1⟩
end Go.Proofs.YtalmflgkbmnghaaGreatDoor
