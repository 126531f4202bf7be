import Derived.Test.YtllmpemmknblaaaDoorBS00
import Derived.Test.YtllmpemmknblaaaDoorBS02
import Derived.Deep.AppendSrc
/- Part of the proof: Ht, T0, HS0, HQ, HT, HV, HW, JA, JB, JC, JD. -/
set_option linter.unusedVariables false
set_option linter.unusedSimpArgs false
set_option linter.unusedSectionVars false
/- Cutting slices; records of a list that is read. Over any program. -/
namespace Tw
open Go Go.RowKit Go.Proofs.YtllmpemmknblaaaDoor
section
variable {P : Program} {T E : TypeId}
theorem addr_zero (p : Option Addr) : p.map (fun a => a.add 0) = p := by cases p <;> rfl
theorem run_slt {o : Oper} {a : Act} {p : Option Addr} {n c j sz : Nat} {x z : Operand} {kd : IntKind} (ho : o.op = .slice T x none (some z) none) (hT : P.underlying T = some (.slice E)) (hsz : (P.info? E).map (·.size) = some sz) (hx : a.eval x = .slice p n c) (hz : a.eval z = .int kd ((j : Nat) : Int)) (hj : j ≤ c) (w : World) : (execOp a.eval o).run P w = .ok (.value (.slice p j c)) w := by
 have e2 := fun q => sl_bound (P := P) (k := kd) (c := q) hj w
 unfold execOp
 cases hq : P.info? E with
 | none => simp [hq] at hsz
 | some i =>
   have hs : i.size = sz := by simpa [hq] using hsz
   simp [ho, hx, hz, Instr.sliceAt, Instr.slice, Instr.sliceBounds, run_underlying hT, e2, Go.sizeOf, typeInfo, hq, hs]
   intro _
   have := addr_zero p
   simpa using this
def cutQ (p : Option Addr) (c i sz : Nat) : Option Addr := if c = i then p else p.map fun a => a.add (i * sz)
end
section
variable {α : Type} {cells : α → List Value} {sz : Nat}
theorem flat_len (hc : ∀ y, (cells y).length = sz) (l : List α) : (l.flatMap cells).length = l.length * sz := by
 induction l with
 | nil => simp
 | cons b l ih => rw [List.flatMap_cons, List.length_append, hc, ih, List.length_cons, Nat.succ_mul, Nat.add_comm]
theorem flat_take (hc : ∀ y, (cells y).length = sz) (l : List α) (k : Nat) : (l.flatMap cells).take (k * sz) = (l.take k).flatMap cells := by
 rcases Nat.le_total k l.length with hk | hk
 · conv => lhs; rw [← List.take_append_drop k l, List.flatMap_append]
   exact List.take_left' (by rw [flat_len hc, List.length_take, Nat.min_eq_left hk])
 · rw [List.take_of_length_le hk, List.take_of_length_le (by rw [flat_len hc]; exact Nat.mul_le_mul_right _ hk)]
theorem flat_drop (hc : ∀ y, (cells y).length = sz) (l : List α) (k : Nat) : (l.flatMap cells).drop (k * sz) = (l.drop k).flatMap cells := by
 rcases Nat.le_total k l.length with hk | hk
 · conv => lhs; rw [← List.take_append_drop k l, List.flatMap_append]
   exact List.drop_left' (by rw [flat_len hc, List.length_take, Nat.min_eq_left hk])
 · rw [List.drop_eq_nil_of_le hk, List.drop_eq_nil_of_le (by rw [flat_len hc]; exact Nat.mul_le_mul_right _ hk)]; rfl
theorem flat_get (hc : ∀ y, (cells y).length = sz) {l : List α} {k j : Nat} {b : α} {v : Value} (h : l[k]? = some b) (hv : (cells b)[j]? = some v) : (l.flatMap cells)[k * sz + j]? = some v := by
 obtain ⟨hk, rfl⟩ := List.getElem?_eq_some_iff.1 h
 rw [← List.getElem?_drop, flat_drop hc, List.drop_eq_getElem_cons hk, List.flatMap_cons, List.getElem?_append_left (List.getElem?_eq_some_iff.1 hv).1]
 exact hv
theorem rec_at {W : World} {p : Option Addr} {l : List α} {k : Nat} (hc : ∀ y, (cells y).length = sz) (hz : 0 < sz) (h : SLV W p (l.flatMap cells)) (hk : k < l.length) :
   ∃ b g off, l[k]? = some b ∧ p = some ⟨g, off, none⟩ ∧ g < W.heap.size ∧ ∀ (j : Nat) (v : Value), (cells b)[j]? = some v → W.cell? ⟨g, off + k * sz + j, none⟩ = some v := by
 have hy : l[k]? = some l[k] := List.getElem?_eq_getElem hk
 rcases h with h | ⟨g, off, rfl, hlt, hcel⟩
 · have := flat_len hc l
   rw [h] at this
   have h2 : 0 < l.length * sz := Nat.mul_pos Tw.om hz
   simp at this; omega
 · exact ⟨_, g, off, hy, rfl, hlt, fun j v hv => by rw [Nat.add_assoc]; exact hcel _ v (flat_get hc hy hv)⟩
theorem slv_prefix {W : World} {p : Option Addr} {xs : List Value} (n : Nat) (h : SLV W p xs) : SLV W p (xs.take n) := by
 rcases h with h | ⟨g, off, rfl, hlt, hc⟩
 · left; rw [h]; simp
 · right; refine ⟨g, off, rfl, hlt, fun i u hu => hc i u ?_⟩
   rw [List.getElem?_take] at hu
   split at hu
   · exact hu
   · cases hu
theorem slv_cut {W : World} {p : Option Addr} {xs : List Value} {c i sz : Nat} (h : SLV W p xs) (hx : xs.length ≤ c * sz) : SLV W (cutQ p c i sz) (xs.drop (i * sz)) := by
 rcases h with h | ⟨g, off, rfl, hlt, hc⟩
 · left; rw [h]; simp
 · unfold cutQ
   split
   · rename_i he
     left; rw [List.drop_eq_nil_of_le (by rw [← he]; exact hx)]
   · right
     refine ⟨g, off + i * sz, by rw [Option.map_some, addr_add], hlt, fun j u hu => ?_⟩
     rw [List.getElem?_drop] at hu
     rw [Nat.add_assoc]; exact hc _ u hu
end
end Tw
/- Lists of records that are read, among known blocks; a walk begins again where it stands. Over any program. -/
namespace Tw
open Go Go.RowKit Go.Proofs.YtllmpemmknblaaaDoor
def RL {α : Type} (cells : α → List Value) (W0 : Base) (p : Option Addr) (l : List α) (T : List (Nat × Obj)) : Prop := ∀ W, KS W0 T W → SLV W p (l.flatMap cells)
section
variable {P : Program} {W0 : Base} {T T' : List (Nat × Obj)} {α : Type} {cells : α → List Value} {sz : Nat} {l : List α} {p : Option Addr}
theorem RL.base {w : World} (h : SLV w p (l.flatMap cells)) : RL cells (w : Base) p l [] := fun _ hW => h.keep hW.1
theorem RL.nil {cells : α → List Value} : RL cells W0 p [] T := fun _ _ => .inl rfl
theorem RL.mono (h : RL cells W0 p l T) (hs : ∀ q ∈ T, q ∈ T') : RL cells W0 p l T' := fun W hW => h W (hW.sub hs)
theorem RL.at (h : RL cells W0 p l T) (hc : ∀ y, (cells y).length = sz) (hz : 0 < sz) {W : World} (hW : KS W0 T W) {k : Nat} (hk : k < l.length) :
   ∃ b g off, l[k]? = some b ∧ p = some ⟨g, off, none⟩ ∧ ∀ W, KS W0 T W → ∀ (j : Nat) (v : Value), (cells b)[j]? = some v → W.cell? ⟨g, off + k * sz + j, none⟩ = some v := by
 obtain ⟨b, g, off, hb, rfl, _, _⟩ := rec_at hc hz (h W hW) hk
 refine ⟨b, g, off, hb, rfl, fun W2 hW2 => ?_⟩
 obtain ⟨b2, g2, off2, hb2, he, _, hcl⟩ := rec_at hc hz (h W2 hW2) hk
 rw [hb] at hb2; cases hb2; cases he
 exact hcl
theorem RL.take (h : RL cells W0 p l T) (hc : ∀ y, (cells y).length = sz) (n : Nat) : RL cells W0 p (l.take n) T := fun W hW => by
 rw [← flat_take hc]
 exact slv_prefix _ (h W hW)
theorem RL.cut (h : RL cells W0 p l T) (hc : ∀ y, (cells y).length = sz) (c i : Nat) (hl : l.length ≤ c) : RL cells W0 (cutQ p c i sz) (l.drop i) T := fun W hW => by
 rw [← flat_drop hc]
 exact slv_cut (h W hW) (by rw [flat_len hc]; exact Nat.mul_le_mul_right _ hl)
theorem own_rl {E : TypeId} {v : Value} {n : Nat} (h : OwnL W0 E sz v n (l.flatMap cells) T) : ∃ p c, v = .slice p n c ∧ n ≤ c ∧ RL cells W0 p l T := by
 rcases h with ⟨rfl, h2, rfl, rfl⟩ | ⟨g, cap, cur, rfl, hB, hR, rfl⟩
 · exact ⟨none, 0, rfl, Nat.le_refl _, fun _ _ => .inl h2⟩
 · refine ⟨_, cap, rfl, hR.2.2.1, fun W hW => ?_⟩
   have hb := hW.2 _ Tw.m0
   exact .inr ⟨g, 0, rfl, lt_of_block hb, hR.cel hb⟩
theorem yb_rs {o : Oper} {a : Act} {K : List (Nat × Obj)} {ty : TypeId} {x : Operand} {g off : Nat} {cs : List Value} {D : TypeDesc} (ho : o.op = .load ty x) (hx : a.eval x = .pointer (some ⟨g, off, none⟩))
   (hc : ∀ W, KS W0 K W → ∀ (j : Nat) (v : Value), cs[j]? = some v → W.cell? ⟨g, off + j, none⟩ = some v) (hu : P.underlying ty = some D) (hd : aggD D = true) (hi : (P.info? ty).map (·.size) = some cs.length) :
   ∀ w, KS W0 K w → ∀ K' : Act → World → Prop, (∀ w', Below w.heap.size w w' → K' (a.put o.dst (.agg cs.toArray)) w') → Oper.wp P o a w K' (fun _ _ _ => False) := by
 intro w hw K' hk
 have hr := run_loadVar_list (P := P) (ty := ty) (cs := cs) w (hc w hw) hu hd hi
 unfold Oper.wp execOp
 simp only [ho, hx, Instr.loadAt, Instr.sureAddr, Sem.run_bind, Sem.run_pure, Result.andThen_ok, hr]
 exact hk w (Below.refl _ _)
theorem yb_rf {o : Oper} {a : Act} {K : List (Nat × Obj)} {ty : TypeId} {x : Operand} {g off : Nat} {v : Value} {D : TypeDesc} (ho : o.op = .load ty x) (hx : a.eval x = .pointer (some ⟨g, off, none⟩))
   (hc : ∀ W, KS W0 K W → W.cell? ⟨g, off, none⟩ = some v) (hu : P.underlying ty = some D) (hd : aggD D = false) :
   ∀ w, KS W0 K w → ∀ K' : Act → World → Prop, (∀ w', Below w.heap.size w w' → K' (a.put o.dst v) w') → Oper.wp P o a w K' (fun _ _ _ => False) := by
 intro w hw K' hk
 have hagg : (isAgg ty).run P w = .ok false w := by
   unfold isAgg
   rw [Sem.run_bind, run_underlying hu w]
   unfold aggD at hd
   cases D <;> simp_all
 have hr : (loadVar ty ⟨g, off, none⟩).run P w = .ok v w := by
   simp [loadVar, Sem.run_bind, hagg, hc w hw]
 unfold Oper.wp execOp
 simp only [ho, hx, Instr.loadAt, Instr.sureAddr, Sem.run_bind, Sem.run_pure, Result.andThen_ok, hr]
 exact hk w (Below.refl _ _)
theorem calls_rl {W : World} {K : List (Nat × Obj)} {E : TypeId} {n : Nat} {f : FuncId} {args : Array Value} (hW : KS W0 K W) (h : Calls P f args W fun e w' => ∃ v, e = .returned v ∧ OutV W w' E sz v n (l.flatMap cells) ∧ Below W.heap.size W w') :
   Calls P f args W fun e w' => ∃ v K', e = .returned v ∧ KS W0 K' w' ∧ (∃ p c Kl, v = .slice p n c ∧ n ≤ c ∧ RL cells W0 p l Kl ∧ (∀ p ∈ K, ∀ q ∈ Kl, q.1 ≠ p.1) ∧ K' = K ++ Kl) :=
 h.mono fun e w' ⟨v, he, hO, hb⟩ => by
   obtain ⟨Kl, h1, h2, h3⟩ := hO.own hW hb
   obtain ⟨p, c, hv, hn, hR⟩ := own_rl h1
   exact ⟨v, _, he, h3, p, c, Kl, hv, hn, hR, h2, rfl⟩
end
section
variable {P : Program} {ops : Array Oper} {Q : Exit → Act → World → Prop} {W0 : Base}
theorem wpL_sub {rest : List Oper} {a : Act} {K K2 : List (Nat × Obj)} (hs : ∀ p ∈ K2, p ∈ K) (h : wpL P ops Q W0 rest a K2) : wpL P ops Q W0 rest a K := ⟨fun w hK => h.of w (hK.sub hs)⟩
end
section
variable {P : Program}
theorem run_min2 {o : Oper} {a : Act} {x y z : Int} {px py : Operand} {tx ty : TypeId} (ho : o.op = .call { callee := .builtin .min, args := #[px, py], argTypes := #[tx, ty] }) (hx : a.eval px = .int .i64 x) (hy : a.eval py = .int .i64 y) (hz : min x y = z) (w : World) : (execOp a.eval o).run P w = .ok (.value (.int .i64 z)) w := by
 subst hz
 unfold execOp
 simp [ho, resolve, invoke, builtin, hx, hy, run_min_int2]
 omega
end
end Tw
namespace Go.Proofs.YtllmpemmknblaaaDoor
open Go Go.RowKit Tw
instance : DecidableEq Sm := fun a b => decidable_of_iff (a.n = b.n ∧ a.h = b.h ∧ a.k = b.k ∧ a.r = b.r ∧ a.d = b.d) (by cases a; cases b; simp)
section
variable {b : Bx}
end
end Go.Proofs.YtllmpemmknblaaaDoor
namespace Go.Proofs.YtllmpemmknblaaaDoor
open Go Go.RowKit Tw
end Go.Proofs.YtllmpemmknblaaaDoor
namespace Go.Proofs.YtllmpemmknblaaaDoor
open Go Go.RowKit Tw
end Go.Proofs.YtllmpemmknblaaaDoor
namespace Go.Proofs.YtllmpemmknblaaaDoor
open Go Go.RowKit Tw
end Go.Proofs.YtllmpemmknblaaaDoor
namespace Go.Proofs.YtllmpemmknblaaaDoor
open Go Go.RowKit Tw
end Go.Proofs.YtllmpemmknblaaaDoor
namespace Go.Proofs.YtllmpemmknblaaaDoor
open Go Go.RowKit Tw
def letN (j : Nat) : Nat := 10 + j + (j + 9) / 10
theorem let_step : ∀ j, j < 25 → (if (letN j + 1) % 11 = 0 then letN j + 2 else letN j + 1) = letN (j + 1) := by decide
theorem let_yes {j : Nat} (h : j < 25) (h2 : (letN j + 1) % 11 = 0) : letN j + 1 + 1 = letN (j + 1) := by have := let_step j h; rw [if_pos h2] at this; exact this
theorem let_no {j : Nat} (h : j < 25) (h2 : ¬ (letN j + 1) % 11 = 0) : letN j + 1 = letN (j + 1) := by have := let_step j h; rw [if_neg h2] at this; exact this
theorem let_le {j : Nat} (h : j ≤ 25) : letN j ≤ 100 := by unfold letN; omega
theorem let_val {b : UInt8} (h1 : 65 ≤ b.toNat) (h2 : b.toNat ≤ 90) : letN (b.toNat - 65) = vN b := by
 unfold letN vN isDig isCap
 simp only [Bool.and_eq_true, decide_eq_true_eq]
 rw [if_neg Tw.om, if_pos Tw.om]
theorem dig_val {b : UInt8} (h1 : 48 ≤ b.toNat) (h2 : b.toNat ≤ 57) : b.toNat - 48 = vN b := by
 unfold vN isDig
 simp only [Bool.and_eq_true, decide_eq_true_eq]
 rw [if_pos Tw.om]
theorem sum_bnd : ∀ (l : List UInt8), l.length ≤ 20 → sumF 0 l ≤ 1000000000 := fun l h => by
 have h1 : ∀ (l : List UInt8) (i : Nat), i + l.length ≤ 20 → sumF i l ≤ l.length * 39845888 := by
   intro l
   induction l with
   | nil => intro i _; exact Nat.zero_le _
   | cons b l ih =>
     intro i hi
     rw [List.length_cons] at hi
     have h2 := ih (i + 1) Tw.om
     have h3 := vshl_le b (show i ≤ 20 by omega)
     show vN b * 2 ^ i + sumF (i + 1) l ≤ (l.length + 1) * 39845888
     omega
 have h2 := h1 l 0 Tw.om
 omega
theorem fit_no {l : List UInt8} {i : Nat} {b : UInt8} (hf : fitF 0 l = fitF i (l.drop i)) (hb : l[i]? = some b) (h : mayB i b = false) : decide (judgeN l = 0) = false := by
 have h2 : fitF 0 l = false := by rw [hf, fitF_drop hb, h]; rfl
 unfold judgeN fitB
 rw [h2, Bool.and_false]
 simp
theorem num_len {l : List UInt8} (h : ¬ l.length = 11) : decide (judgeN l = 0) = false := by
 unfold judgeN fitB
 rw [decide_eq_false h, Bool.false_and]
 simp
theorem num_end {l : List UInt8} {b : UInt8} (hl : l.length = 11) (hf : fitF 0 l = fitF 10 (l.drop 10)) (hb : l[10]? = some b) : decide (judgeN l = 0) = decide (b.toNat = 48 + sumF 0 (l.take 10) % 11 % 10) := by
 have h1 : fitF 0 l = mayB 10 b := by
   rw [hf, fitF_drop hb, List.drop_of_length_le Tw.om]
   show (mayB 10 b && true) = _
   rw [Bool.and_true]
 have h2 : (l.getD 10 0) = b := by simp [List.getD, hb]
 have hm : mayB 10 b = isDig b := by unfold mayB; rw [if_neg Tw.om, if_neg Tw.om]
 have hlt := Nat.mod_lt (sumF 0 (l.take 10) % 11) (show 0 < 10 by omega)
 rw [Bool.eq_iff_iff, decide_eq_true_iff, decide_eq_true_iff]
 unfold judgeN fitB agrB chkN remL
 rw [h1, h2, hm, decide_eq_true hl, Bool.true_and]
 unfold isDig
 simp only [Bool.and_eq_true, decide_eq_true_eq]
 constructor
 · intro h
   split at h
   · split at h
     · omega
     · omega
   · omega
 · intro h
   rw [if_pos Tw.om, if_pos Tw.om]
set_option maxRecDepth 100000 in
set_option maxHeartbeats 4000000 in
theorem letter_any (b : UInt8) (hb1 : 65 ≤ b.toNat) (hb2 : b.toNat ≤ 90) (w : World) : Calls Tryd.prog 67 #[.int .u8 ((b.toNat : Nat) : Int)] w fun e w' => e = .returned (.int .i64 (((vN b) : Nat) : Int)) ∧ Below w.heap.size w w' := by
 have lb := b.toNat_lt
 go_enter Tryd.func67, Tryd.ntmps67
 refine wp_seq ?_
 refine wp_region_L [] (KS.start w) ?_
 refine lm (v := .int .i64 0) rfl rfl ?_
 refine wpL_done (fun W1 hW1 => ?_)
 change Code.wp ..
 refine wp_seq ?_
 refine wp_region_L _ hW1 ?_
 refine lm (v := .int .i64 10) rfl rfl ?_
 refine wpL_done (fun W2 hW2 => ?_)
 change Code.wp ..
 refine wp_seq ?_
 refine wp_seq ?_
 refine wp_region_L _ hW2 ?_
 refine lm (v := .int .u8 65) rfl rfl ?_
 refine wpL_done (fun W3 hW3 => ?_)
 change Code.wp ..
 refine wp_block ?_
 go_loopw [3, 4] (fun u3 u4 wr => ∃ (j m : Nat), (65 + j ≤ b.toNat) ∧ (m = letN j) ∧ u3 = .int .i64 ((m : Nat) : Int) ∧ u4 = .int .u8 (((65 + j) : Nat) : Int) ∧ KS w [] wr) (fun _ u4 _ => b.toNat - (intOf u4).toNat)
 case atStart => exact ⟨0, 10, Tw.om, rfl, rfl, rfl, (hW3.sub (fun p hp => by first | exact hp | (simp only [List.mem_cons, List.mem_append, List.nil_append, List.not_mem_nil, or_assoc, or_false, false_or] at hp ⊢ <;> grind)))⟩
 case round =>
   obtain ⟨j, m, hj, hm, rfl, rfl, hL4⟩ := hrel
   have lj := let_le (show j ≤ 25 by omega)
   refine wp_seq ?_
   refine wp_seq ?_
   refine wp_region_L _ hL4 ?_
   refine lm (v := .int .u8 (((65 + j) : Nat) : Int)) rfl rfl ?_
   refine lm (v := .int .u8 ((b.toNat : Nat) : Int)) rfl rfl ?_
   refine lp (v := .bool (decide ((65 + j) < b.toNat))) rfl rfl (run_bin rfl (vx := (.int .u8 (((65 + j) : Nat) : Int))) (vy := (.int .u8 ((b.toNat : Nat) : Int))) Tw.kr Tw.kr fun w => bn_lss rfl w) ?_
   refine wpL_done (fun W5 hW5 => ?_)
   change Code.wp ..
   cases hd1 : (decide ((65 + j) < b.toNat)) with
   | false =>
     have h1 : ¬ ((65 + j) < b.toNat) := of_decide_eq_false hd1
     clear hd1
     refine wp_cond_false rfl ?_
     refine wp_exit ?_
     change Code.wp ..
     refine wp_seq ?_
     refine wp_region_L _ hW5 ?_
     refine lm (v := .int .i64 ((m : Nat) : Int)) rfl rfl ?_
     refine lm (v := .int .i64 ((m : Nat) : Int)) rfl rfl ?_
     refine wpL_done (fun W6 hW6 => ?_)
     change Code.wp ..
     refine wp_ret ?_
     try simp only [inBlock_ret, then_ret]
     refine bodyPost_ret (v := .int .i64 ((m : Nat) : Int)) ?_ rfl ?_
     · kernel_rfl
     · exact ⟨(int_is (by rw [← let_val hb1 hb2, hm, show b.toNat - 65 = j by omega])), hW6.1⟩
   | true =>
     have h1 : (65 + j) < b.toNat := of_decide_eq_true hd1
     clear hd1
     refine wp_cond_true rfl ?_
     refine wp_skip ?_
     change Code.wp ..
     refine wp_seq ?_
     refine wp_block ?_
     refine wp_seq ?_
     refine wp_region_L _ hW5 ?_
     refine lm (v := .int .i64 ((m : Nat) : Int)) rfl rfl ?_
     refine lp (v := .int .i64 (((m + 1) : Nat) : Int)) rfl rfl (run_bin rfl (vx := (.int .i64 ((m : Nat) : Int))) (vy := (.int .i64 ((1 : Nat) : Int))) Tw.kr Tw.kr fun w => bn_add (z := (m + 1)) rfl (wr_i64 Tw.om) w) ?_
     refine lm (v := .int .i64 (((m + 1) : Nat) : Int)) rfl rfl ?_
     refine wpL_done (fun W7 hW7 => ?_)
     change Code.wp ..
     refine wp_seq ?_
     refine wp_region_L _ hW7 ?_
     refine lm (v := .int .i64 (((m + 1) : Nat) : Int)) rfl rfl ?_
     refine lp (v := .int .i64 ((((m + 1) % 11) : Nat) : Int)) rfl rfl (run_bin rfl (vx := (.int .i64 (((m + 1) : Nat) : Int))) (vy := (.int .i64 ((11 : Nat) : Int))) Tw.kr Tw.kr fun w => bn_rem (z := ((m + 1) % 11)) rfl Tw.om w) ?_
     refine lp (v := .bool (decide (((m + 1) % 11) = 0))) rfl rfl (run_bin rfl (vx := (.int .i64 ((((m + 1) % 11) : Nat) : Int))) (vy := (.int .i64 ((0 : Nat) : Int))) Tw.kr Tw.kr fun w => bn_eql rfl w) ?_
     refine wpL_done (fun W8 hW8 => ?_)
     change Code.wp ..
     cases hd2 : (decide (((m + 1) % 11) = 0)) with
     | false =>
       have h2 : ¬ (((m + 1) % 11) = 0) := of_decide_eq_false hd2
       clear hd2
       refine wp_cond_false rfl ?_
       refine wp_skip ?_
       change Code.wp ..
       refine wp_region_L _ hW8 ?_
       refine lm (v := .int .u8 (((65 + j) : Nat) : Int)) rfl rfl ?_
       refine lp (v := .int .u8 (((65 + (j + 1)) : Nat) : Int)) rfl rfl (run_bin rfl (vx := (.int .u8 (((65 + j) : Nat) : Int))) (vy := (.int .u8 ((1 : Nat) : Int))) Tw.kr Tw.kr fun w => bn_add (z := (65 + (j + 1))) Tw.om (wr_u8 Tw.om) w) ?_
       refine lm (v := .int .u8 (((65 + (j + 1)) : Nat) : Int)) rfl rfl ?_
       refine wpL_done (fun W9 hW9 => ?_)
       go_roundw
       case rel =>
         repeat apply Exists.intro
         exact ⟨⟨j + 1, m + 1, Tw.om, (by rw [hm]; exact let_no Tw.om (by rw [← hm]; exact h2)), rfl, rfl, (hW9.sub (fun p hp => by first | exact hp | (simp only [List.mem_cons, List.mem_append, List.nil_append, List.not_mem_nil, or_assoc, or_false, false_or] at hp ⊢ <;> grind)))⟩, rfl⟩
       case measure => (show b.toNat - (intOf (.int .u8 (((65 + (j + 1)) : Nat) : Int))).toNat < b.toNat - (intOf (.int .u8 (((65 + j) : Nat) : Int))).toNat); simp only [intOf]; omega
     | true =>
       have h2 : ((m + 1) % 11) = 0 := of_decide_eq_true hd2
       clear hd2
       refine wp_cond_true rfl ?_
       refine wp_region_L _ hW8 ?_
       refine lm (v := .int .i64 (((m + 1) : Nat) : Int)) rfl rfl ?_
       refine lp (v := .int .i64 (((m + 2) : Nat) : Int)) rfl rfl (run_bin rfl (vx := (.int .i64 (((m + 1) : Nat) : Int))) (vy := (.int .i64 ((1 : Nat) : Int))) Tw.kr Tw.kr fun w => bn_add (z := (m + 2)) Tw.om (wr_i64 Tw.om) w) ?_
       refine lm (v := .int .i64 (((m + 2) : Nat) : Int)) rfl rfl ?_
       refine wpL_done (fun W10 hW10 => ?_)
       change Code.wp ..
       refine wp_region_L _ hW10 ?_
       refine lm (v := .int .u8 (((65 + j) : Nat) : Int)) rfl rfl ?_
       refine lp (v := .int .u8 (((65 + (j + 1)) : Nat) : Int)) rfl rfl (run_bin rfl (vx := (.int .u8 (((65 + j) : Nat) : Int))) (vy := (.int .u8 ((1 : Nat) : Int))) Tw.kr Tw.kr fun w => bn_add (z := (65 + (j + 1))) Tw.om (wr_u8 Tw.om) w) ?_
       refine lm (v := .int .u8 (((65 + (j + 1)) : Nat) : Int)) rfl rfl ?_
       refine wpL_done (fun W11 hW11 => ?_)
       go_roundw
       case rel =>
         repeat apply Exists.intro
         exact ⟨⟨j + 1, m + 2, Tw.om, (by rw [hm]; exact let_yes Tw.om (by rw [← hm]; exact h2)), rfl, rfl, (hW11.sub (fun p hp => by first | exact hp | (simp only [List.mem_cons, List.mem_append, List.nil_append, List.not_mem_nil, or_assoc, or_false, false_or] at hp ⊢ <;> grind)))⟩, rfl⟩
       case measure => (show b.toNat - (intOf (.int .u8 (((65 + (j + 1)) : Nat) : Int))).toNat < b.toNat - (intOf (.int .u8 (((65 + j) : Nat) : Int))).toNat); simp only [intOf]; omega
set_option maxRecDepth 100000 in
set_option maxHeartbeats 4000000 in
theorem RNumber_any (l : List UInt8) (w : World) : Calls Tryd.prog 50 #[strV l] w fun e w' => e = .returned (.bool (decide (judgeN l = 0))) ∧ Below w.heap.size w w' := by
 go_enter Tryd.func50, Tryd.ntmps50
 refine wp_seq ?_
 refine wp_region_L [] (KS.start w) ?_
 refine lm (v := .bool false) rfl rfl ?_
 refine wpL_done (fun W1 hW1 => ?_)
 change Code.wp ..
 refine wp_seq ?_
 refine wp_seq ?_
 refine wp_region_L _ hW1 ?_
 refine lm (v := strV l) rfl rfl ?_
 refine lp (v := .int .i64 ((l.length : Nat) : Int)) rfl rfl (run_lenS (l := l) rfl Tryd.underlying9 Tw.kr) ?_
 refine lp (v := .bool (!(decide (l.length = 11)))) rfl rfl (run_bin rfl (vx := (.int .i64 ((l.length : Nat) : Int))) (vy := (.int .i64 ((11 : Nat) : Int))) Tw.kr Tw.kr fun w => bn_neq rfl w) ?_
 refine wpL_done (fun W2 hW2 => ?_)
 change Code.wp ..
 cases hd1 : (decide (l.length = 11)) with
 | false =>
   have h1 : ¬ (l.length = 11) := of_decide_eq_false hd1
   clear hd1
   refine wp_cond_true rfl ?_
   refine wp_seq ?_
   refine wp_region_L _ hW2 ?_
   refine lm (v := .bool false) rfl rfl ?_
   refine wpL_done (fun W3 hW3 => ?_)
   change Code.wp ..
   refine wp_ret ?_
   try simp only [inBlock_ret, then_ret]
   refine bodyPost_ret (v := .bool false) ?_ rfl ?_
   · kernel_rfl
   · exact ⟨(bool_is (num_len h1).symm), hW3.1⟩
 | true =>
   have h1 : l.length = 11 := of_decide_eq_true hd1
   clear hd1
   refine wp_cond_false rfl ?_
   refine wp_skip ?_
   change Code.wp ..
   refine wp_seq ?_
   refine wp_region_L _ hW2 ?_
   refine lm (v := .int .i64 0) rfl rfl ?_
   refine wpL_done (fun W4 hW4 => ?_)
   change Code.wp ..
   refine wp_seq ?_
   refine wp_seq ?_
   refine wp_region_L _ hW4 ?_
   refine lm (v := .int .i64 0) rfl rfl ?_
   refine wpL_done (fun W5 hW5 => ?_)
   change Code.wp ..
   refine wp_block ?_
   go_loopw [3, 4] (fun u3 u4 wr => ∃ (i : Nat), (i ≤ 10) ∧ (fitF 0 l = fitF i (l.drop i)) ∧ u3 = .int .i64 (((sumF 0 (l.take i)) : Nat) : Int) ∧ u4 = .int .i64 ((i : Nat) : Int) ∧ KS w [] wr) (fun _ u4 _ => 10 - (intOf u4).toNat)
   case atStart => exact ⟨0, (Nat.zero_le _), rfl, rfl, rfl, (hW5.sub (fun p hp => by first | exact hp | (simp only [List.mem_cons, List.mem_append, List.nil_append, List.not_mem_nil, or_assoc, or_false, false_or] at hp ⊢ <;> grind)))⟩
   case round =>
     obtain ⟨i, hi, hf, rfl, rfl, hL6⟩ := hrel
     refine wp_seq ?_
     refine wp_seq ?_
     refine wp_region_L _ hL6 ?_
     refine lm (v := .int .i64 ((i : Nat) : Int)) rfl rfl ?_
     refine lp (v := .bool (decide (i < 10))) rfl rfl (run_bin rfl (vx := (.int .i64 ((i : Nat) : Int))) (vy := (.int .i64 ((10 : Nat) : Int))) Tw.kr Tw.kr fun w => bn_lss rfl w) ?_
     refine wpL_done (fun W7 hW7 => ?_)
     change Code.wp ..
     cases hd2 : (decide (i < 10)) with
     | false =>
       have h2 : ¬ (i < 10) := of_decide_eq_false hd2
       clear hd2
       have h10 : i = 10 := by omega
       refine wp_cond_false rfl ?_
       refine wp_exit ?_
       change Code.wp ..
       refine wp_seq ?_
       refine wp_region_L _ hW7 ?_
       refine lm (v := strV l) rfl rfl ?_
       obtain ⟨b1, hb1⟩ : ∃ b, (l : List UInt8)[10]? = some b := ⟨_, List.getElem?_eq_getElem Tw.om⟩
       have lb1 := b1.toNat_lt
       refine lp (v := .int .u8 ((b1.toNat : Nat) : Int)) rfl rfl (run_idxS (j := .i64) (l := l) (k := 10) (b := b1) rfl Tryd.underlying9 Tw.kr Tw.kr hb1) ?_
       refine lp (v := .int .i64 ((b1.toNat : Nat) : Int)) rfl rfl (run_conv rfl (vx := (.int .u8 ((b1.toNat : Nat) : Int))) Tw.kr fun w => cv_int Tryd.underlying5 Tryd.underlying3 (wr_i64 Tw.om) w) ?_
       refine lp (v := .int .i64 (((b1.toNat : Nat) : Int) - 48)) rfl rfl (run_bin rfl (vx := (.int .i64 ((b1.toNat : Nat) : Int))) (vy := (.int .i64 ((48 : Nat) : Int))) Tw.kr Tw.kr fun w => bi_sub (z := (((b1.toNat : Nat) : Int) - 48)) rfl (wi_i64 Tw.om) w) ?_
       refine lm (v := .int .i64 (((sumF 0 (l.take i)) : Nat) : Int)) rfl rfl ?_
       refine lp (v := .int .i64 ((((sumF 0 (l.take i)) % 11) : Nat) : Int)) rfl rfl (run_bin rfl (vx := (.int .i64 (((sumF 0 (l.take i)) : Nat) : Int))) (vy := (.int .i64 ((11 : Nat) : Int))) Tw.kr Tw.kr fun w => bn_rem (z := ((sumF 0 (l.take i)) % 11)) rfl Tw.om w) ?_
       refine lp (v := .int .i64 (((((sumF 0 (l.take i)) % 11) % 10) : Nat) : Int)) rfl rfl (run_bin rfl (vx := (.int .i64 ((((sumF 0 (l.take i)) % 11) : Nat) : Int))) (vy := (.int .i64 ((10 : Nat) : Int))) Tw.kr Tw.kr fun w => bn_rem (z := (((sumF 0 (l.take i)) % 11) % 10)) rfl Tw.om w) ?_
       refine lp (v := .bool (decide ((((b1.toNat : Nat) : Int) - 48) = (((((sumF 0 (l.take i)) % 11) % 10) : Nat) : Int)))) rfl rfl (run_bin rfl (vx := (.int .i64 (((b1.toNat : Nat) : Int) - 48))) (vy := (.int .i64 (((((sumF 0 (l.take i)) % 11) % 10) : Nat) : Int))) Tw.kr Tw.kr fun w => bi_eql rfl w) ?_
       refine lm (v := .bool (decide ((((b1.toNat : Nat) : Int) - 48) = (((((sumF 0 (l.take i)) % 11) % 10) : Nat) : Int)))) rfl rfl ?_
       refine wpL_done (fun W8 hW8 => ?_)
       change Code.wp ..
       refine wp_ret ?_
       try simp only [inBlock_ret, then_ret]
       refine bodyPost_ret (v := .bool (decide ((((b1.toNat : Nat) : Int) - 48) = (((((sumF 0 (l.take i)) % 11) % 10) : Nat) : Int)))) ?_ rfl ?_
       · kernel_rfl
       · exact ⟨(bool_is (by rw [num_end h1 (by rw [h10] at hf; exact hf) hb1, ← h10]; rw [Bool.eq_iff_iff, decide_eq_true_iff, decide_eq_true_iff]; omega)), hW8.1⟩
     | true =>
       have h2 : i < 10 := of_decide_eq_true hd2
       clear hd2
       refine wp_cond_true rfl ?_
       refine wp_skip ?_
       change Code.wp ..
       refine wp_seq ?_
       refine wp_block ?_
       refine wp_seq ?_
       refine wp_region_L _ hW7 ?_
       refine lm (v := strV l) rfl rfl ?_
       refine lm (v := .int .i64 ((i : Nat) : Int)) rfl rfl ?_
       obtain ⟨b2, hb2⟩ : ∃ b, (l : List UInt8)[i]? = some b := ⟨_, List.getElem?_eq_getElem Tw.om⟩
       have lb2 := b2.toNat_lt
       refine lp (v := .int .u8 ((b2.toNat : Nat) : Int)) rfl rfl (run_idxS (j := .i64) (l := l) (k := i) (b := b2) rfl Tryd.underlying9 Tw.kr Tw.kr hb2) ?_
       refine lm (v := .int .u8 ((b2.toNat : Nat) : Int)) rfl rfl ?_
       refine wpL_done (fun W9 hW9 => ?_)
       change Code.wp ..
       refine wp_seq ?_
       refine wp_seq ?_
       refine wp_region_L _ hW9 ?_
       refine lm (v := .int .i64 ((i : Nat) : Int)) rfl rfl ?_
       refine lp (v := .bool (decide (i < 4))) rfl rfl (run_bin rfl (vx := (.int .i64 ((i : Nat) : Int))) (vy := (.int .i64 ((4 : Nat) : Int))) Tw.kr Tw.kr fun w => bn_lss rfl w) ?_
       refine lm (v := .bool (decide (i < 4))) rfl rfl ?_
       cases hd3 : (decide (i < 4)) with
       | false =>
         have h3 : ¬ (i < 4) := of_decide_eq_false hd3
         clear hd3
         refine ln rfl ?_
         refine ln rfl ?_
         refine ln rfl ?_
         refine ln rfl ?_
         refine ln rfl ?_
         refine ln rfl ?_
         refine lm (v := .bool false) rfl rfl ?_
         refine lm (v := .bool false) rfl rfl ?_
         refine lm (v := .int .i64 ((i : Nat) : Int)) rfl rfl ?_
         refine lp (v := .bool false) rfl rfl (run_bin rfl (vx := (.int .i64 ((i : Nat) : Int))) (vy := (.int .i64 ((3 : Nat) : Int))) Tw.kr Tw.kr fun w => bn_eql (decide_eq_false Tw.om) w) ?_
         refine lm (v := .bool false) rfl rfl ?_
         refine ln rfl ?_
         refine ln rfl ?_
         refine lm (v := .bool false) rfl rfl ?_
         refine lm (v := .bool false) rfl rfl ?_
         refine ln rfl ?_
         refine ln rfl ?_
         refine lm (v := .bool false) rfl rfl ?_
         refine lm (v := .bool false) rfl rfl ?_
         refine ln rfl ?_
         refine ln rfl ?_
         refine lm (v := .bool false) rfl rfl ?_
         refine lm (v := .bool false) rfl rfl ?_
         refine lm (v := .bool false) rfl rfl ?_
         refine lm (v := .int .i64 ((i : Nat) : Int)) rfl rfl ?_
         refine lp (v := .bool true) rfl rfl (run_bin rfl (vx := (.int .i64 ((i : Nat) : Int))) (vy := (.int .i64 ((3 : Nat) : Int))) Tw.kr Tw.kr fun w => bn_gtr (decide_eq_true Tw.om) w) ?_
         refine lm (v := .bool true) rfl rfl ?_
         refine lm (v := .int .u8 ((b2.toNat : Nat) : Int)) rfl rfl ?_
         refine lp (v := .bool (decide (b2.toNat < 48))) rfl rfl (run_bin rfl (vx := (.int .u8 ((b2.toNat : Nat) : Int))) (vy := (.int .u8 ((48 : Nat) : Int))) Tw.kr Tw.kr fun w => bn_lss rfl w) ?_
         refine lm (v := .bool (decide (b2.toNat < 48))) rfl rfl ?_
         cases hd4 : (decide (b2.toNat < 48)) with
         | false =>
           have h4 : ¬ (b2.toNat < 48) := of_decide_eq_false hd4
           clear hd4
           refine lm (v := .int .u8 ((b2.toNat : Nat) : Int)) rfl rfl ?_
           refine lp (v := .bool (decide (57 < b2.toNat))) rfl rfl (run_bin rfl (vx := (.int .u8 ((b2.toNat : Nat) : Int))) (vy := (.int .u8 ((57 : Nat) : Int))) Tw.kr Tw.kr fun w => bn_gtr rfl w) ?_
           refine lm (v := .bool (decide (57 < b2.toNat))) rfl rfl ?_
           refine lm (v := .bool (decide (57 < b2.toNat))) rfl rfl ?_
           refine lm (v := .bool (decide (57 < b2.toNat))) rfl rfl ?_
           refine wpL_done (fun W10 hW10 => ?_)
           change Code.wp ..
           cases hd5 : (decide (57 < b2.toNat)) with
           | false =>
             have h5 : ¬ (57 < b2.toNat) := of_decide_eq_false hd5
             clear hd5
             refine wp_cond_false rfl ?_
             refine wp_skip ?_
             change Code.wp ..
             refine wp_seq ?_
             refine wp_region_L _ hW10 ?_
             refine lm (v := .int .u8 ((b2.toNat : Nat) : Int)) rfl rfl ?_
             refine lp (v := .int .i64 ((b2.toNat : Nat) : Int)) rfl rfl (run_conv rfl (vx := (.int .u8 ((b2.toNat : Nat) : Int))) Tw.kr fun w => cv_int Tryd.underlying5 Tryd.underlying3 (wr_i64 Tw.om) w) ?_
             refine lp (v := .int .i64 (((b2.toNat - 48) : Nat) : Int)) rfl rfl (run_bin rfl (vx := (.int .i64 ((b2.toNat : Nat) : Int))) (vy := (.int .i64 ((48 : Nat) : Int))) Tw.kr Tw.kr fun w => bn_sub (z := (b2.toNat - 48)) rfl Tw.om (wr_i64 Tw.om) w) ?_
             refine lm (v := .int .i64 (((b2.toNat - 48) : Nat) : Int)) rfl rfl ?_
             refine wpL_done (fun W11 hW11 => ?_)
             change Code.wp ..
             refine wp_seq ?_
             refine wp_seq ?_
             refine wp_region_L _ hW11 ?_
             refine lm (v := .int .i64 ((i : Nat) : Int)) rfl rfl ?_
             refine lp (v := .bool false) rfl rfl (run_bin rfl (vx := (.int .i64 ((i : Nat) : Int))) (vy := (.int .i64 ((4 : Nat) : Int))) Tw.kr Tw.kr fun w => bn_lss (decide_eq_false (by assumption)) w) ?_
             refine wpL_done (fun W12 hW12 => ?_)
             change Code.wp ..
             refine wp_cond_false rfl ?_
             refine wp_skip ?_
             change Code.wp ..
             refine wp_seq ?_
             refine wp_seq ?_
             refine wp_region_L _ hW12 ?_
             refine lm (v := .int .i64 0) rfl rfl ?_
             refine wpL_done (fun W13 hW13 => ?_)
             change Code.wp ..
             refine wp_block ?_
             have hvb : (b2.toNat - 48) = vN b2 := dig_val Tw.om Tw.om
             have hmb : mayB i b2 = true := by unfold mayB isCap isCat isDig; (repeat' split) <;> first | omega | (simp; done) | (simp; omega)
             go_loopw [6, 7] (fun u6 u7 wr => ∃ (k v : Nat), (k ≤ i) ∧ (v = vN b2 * 2 ^ k) ∧ u6 = .int .i64 ((v : Nat) : Int) ∧ u7 = .int .i64 ((k : Nat) : Int) ∧ KS w [] wr) (fun _ u7 _ => i - (intOf u7).toNat)
             case atStart => exact ⟨0, (b2.toNat - 48), (Nat.zero_le _), (by simp only [Nat.pow_zero, Nat.mul_one]; first | done | exact hvb), rfl, rfl, (hW13.sub (fun p hp => by first | exact hp | (simp only [List.mem_cons, List.mem_append, List.nil_append, List.not_mem_nil, or_assoc, or_false, false_or] at hp ⊢ <;> grind)))⟩
             case round =>
               obtain ⟨k, v, hk, hv, rfl, rfl, hL14⟩ := hrel
               have hvl := vshl_le b2 (show k ≤ 20 by omega)
               refine wp_seq ?_
               refine wp_seq ?_
               refine wp_region_L _ hL14 ?_
               refine lm (v := .int .i64 ((k : Nat) : Int)) rfl rfl ?_
               refine lm (v := .int .i64 ((i : Nat) : Int)) rfl rfl ?_
               refine lp (v := .bool (decide (k < i))) rfl rfl (run_bin rfl (vx := (.int .i64 ((k : Nat) : Int))) (vy := (.int .i64 ((i : Nat) : Int))) Tw.kr Tw.kr fun w => bn_lss rfl w) ?_
               refine wpL_done (fun W15 hW15 => ?_)
               change Code.wp ..
               cases hd6 : (decide (k < i)) with
               | false =>
                 have h6 : ¬ (k < i) := of_decide_eq_false hd6
                 clear hd6
                 refine wp_cond_false rfl ?_
                 refine wp_exit ?_
                 change Code.wp ..
                 have hki : k = i := by omega
                 have hsb := sum_bnd (l.take i) (by rw [List.length_take]; omega)
                 have hvl2 := vshl_le b2 (show k ≤ 20 by omega)
                 have hsn : sumF 0 (l.take i) + v = sumF 0 (l.take (i + 1)) := by rw [sumF_snoc hb2, hv, hki]
                 refine wp_region_L _ hW15 ?_
                 refine lm (v := .int .i64 (((sumF 0 (l.take i)) : Nat) : Int)) rfl rfl ?_
                 refine lm (v := .int .i64 ((v : Nat) : Int)) rfl rfl ?_
                 refine lp (v := .int .i64 (((sumF 0 (l.take (i + 1))) : Nat) : Int)) rfl rfl (run_bin rfl (vx := (.int .i64 (((sumF 0 (l.take i)) : Nat) : Int))) (vy := (.int .i64 ((v : Nat) : Int))) Tw.kr Tw.kr fun w => bn_add (z := (sumF 0 (l.take (i + 1)))) hsn (wr_i64 Tw.om) w) ?_
                 refine lm (v := .int .i64 (((sumF 0 (l.take (i + 1))) : Nat) : Int)) rfl rfl ?_
                 refine wpL_done (fun W16 hW16 => ?_)
                 change Code.wp ..
                 refine wp_region_L _ hW16 ?_
                 refine lm (v := .int .i64 ((i : Nat) : Int)) rfl rfl ?_
                 refine lp (v := .int .i64 (((i + 1) : Nat) : Int)) rfl rfl (run_bin rfl (vx := (.int .i64 ((i : Nat) : Int))) (vy := (.int .i64 ((1 : Nat) : Int))) Tw.kr Tw.kr fun w => bn_add (z := (i + 1)) rfl (wr_i64 Tw.om) w) ?_
                 refine lm (v := .int .i64 (((i + 1) : Nat) : Int)) rfl rfl ?_
                 refine wpL_done (fun W17 hW17 => ?_)
                 go_roundw
                 case rel =>
                   repeat apply Exists.intro
                   exact ⟨⟨i + 1, Tw.om, (by rw [hf, fitF_drop hb2, hmb]; rfl), rfl, rfl, (hW17.sub (fun p hp => by first | exact hp | (simp only [List.mem_cons, List.mem_append, List.nil_append, List.not_mem_nil, or_assoc, or_false, false_or] at hp ⊢ <;> grind)))⟩, rfl⟩
                 case measure => (show 10 - (intOf (.int .i64 (((i + 1) : Nat) : Int))).toNat < 10 - (intOf (.int .i64 ((i : Nat) : Int))).toNat); simp only [intOf]; omega
               | true =>
                 have h6 : k < i := of_decide_eq_true hd6
                 clear hd6
                 refine wp_cond_true rfl ?_
                 refine wp_skip ?_
                 change Code.wp ..
                 refine wp_seq ?_
                 refine wp_block ?_
                 refine wp_region_L _ hW15 ?_
                 refine lm (v := .int .i64 ((v : Nat) : Int)) rfl rfl ?_
                 refine lp (v := .int .i64 (((2 * v) : Nat) : Int)) rfl rfl (run_bin rfl (vx := (.int .i64 ((2 : Nat) : Int))) (vy := (.int .i64 ((v : Nat) : Int))) Tw.kr Tw.kr fun w => bn_mul (z := (2 * v)) rfl (wr_i64 Tw.om) w) ?_
                 refine lm (v := .int .i64 (((2 * v) : Nat) : Int)) rfl rfl ?_
                 refine wpL_done (fun W18 hW18 => ?_)
                 change Code.wp ..
                 refine wp_region_L _ hW18 ?_
                 refine lm (v := .int .i64 ((k : Nat) : Int)) rfl rfl ?_
                 refine lp (v := .int .i64 (((k + 1) : Nat) : Int)) rfl rfl (run_bin rfl (vx := (.int .i64 ((k : Nat) : Int))) (vy := (.int .i64 ((1 : Nat) : Int))) Tw.kr Tw.kr fun w => bn_add (z := (k + 1)) rfl (wr_i64 Tw.om) w) ?_
                 refine lm (v := .int .i64 (((k + 1) : Nat) : Int)) rfl rfl ?_
                 refine wpL_done (fun W19 hW19 => ?_)
                 go_roundw
                 case rel =>
                   repeat apply Exists.intro
                   exact ⟨⟨k + 1, 2 * v, Tw.om, (by rw [hv, Nat.pow_succ, Nat.mul_comm 2, Nat.mul_assoc]), rfl, rfl, (hW19.sub (fun p hp => by first | exact hp | (simp only [List.mem_cons, List.mem_append, List.nil_append, List.not_mem_nil, or_assoc, or_false, false_or] at hp ⊢ <;> grind)))⟩, rfl⟩
                 case measure => (show i - (intOf (.int .i64 (((k + 1) : Nat) : Int))).toNat < i - (intOf (.int .i64 ((k : Nat) : Int))).toNat); simp only [intOf]; omega
           | true =>
             have h5 : 57 < b2.toNat := of_decide_eq_true hd5
             clear hd5
             refine wp_cond_true rfl ?_
             refine wp_seq ?_
             refine wp_region_L _ hW10 ?_
             refine lm (v := .bool false) rfl rfl ?_
             refine wpL_done (fun W20 hW20 => ?_)
             change Code.wp ..
             refine wp_ret ?_
             try simp only [inBlock_ret, then_ret]
             refine bodyPost_ret (v := .bool false) ?_ rfl ?_
             · kernel_rfl
             · exact ⟨(bool_is (fit_no hf hb2 (by unfold mayB isCap isCat isDig; (repeat' split) <;> first | omega | (simp; done) | (simp; omega))).symm), hW20.1⟩
         | true =>
           have h4 : b2.toNat < 48 := of_decide_eq_true hd4
           clear hd4
           refine ln rfl ?_
           refine ln rfl ?_
           refine lm (v := .bool true) rfl rfl ?_
           refine lm (v := .bool true) rfl rfl ?_
           refine lm (v := .bool true) rfl rfl ?_
           refine wpL_done (fun W21 hW21 => ?_)
           change Code.wp ..
           refine wp_cond_true rfl ?_
           refine wp_seq ?_
           refine wp_region_L _ hW21 ?_
           refine lm (v := .bool false) rfl rfl ?_
           refine wpL_done (fun W22 hW22 => ?_)
           change Code.wp ..
           refine wp_ret ?_
           try simp only [inBlock_ret, then_ret]
           refine bodyPost_ret (v := .bool false) ?_ rfl ?_
           · kernel_rfl
           · exact ⟨(bool_is (fit_no hf hb2 (by unfold mayB isCap isCat isDig; (repeat' split) <;> first | omega | (simp; done) | (simp; omega))).symm), hW22.1⟩
       | true =>
         have h3 : i < 4 := of_decide_eq_true hd3
         clear hd3
         refine lm (v := .int .u8 ((b2.toNat : Nat) : Int)) rfl rfl ?_
         refine lp (v := .bool (decide (b2.toNat < 65))) rfl rfl (run_bin rfl (vx := (.int .u8 ((b2.toNat : Nat) : Int))) (vy := (.int .u8 ((65 : Nat) : Int))) Tw.kr Tw.kr fun w => bn_lss rfl w) ?_
         refine lm (v := .bool (decide (b2.toNat < 65))) rfl rfl ?_
         cases hd7 : (decide (b2.toNat < 65)) with
         | false =>
           have h7 : ¬ (b2.toNat < 65) := of_decide_eq_false hd7
           clear hd7
           refine lm (v := .int .u8 ((b2.toNat : Nat) : Int)) rfl rfl ?_
           refine lp (v := .bool (decide (90 < b2.toNat))) rfl rfl (run_bin rfl (vx := (.int .u8 ((b2.toNat : Nat) : Int))) (vy := (.int .u8 ((90 : Nat) : Int))) Tw.kr Tw.kr fun w => bn_gtr rfl w) ?_
           refine lm (v := .bool (decide (90 < b2.toNat))) rfl rfl ?_
           refine lm (v := .bool (decide (90 < b2.toNat))) rfl rfl ?_
           refine lm (v := .bool (decide (90 < b2.toNat))) rfl rfl ?_
           cases hd8 : (decide (90 < b2.toNat)) with
           | false =>
             have h8 : ¬ (90 < b2.toNat) := of_decide_eq_false hd8
             clear hd8
             refine lm (v := .int .i64 ((i : Nat) : Int)) rfl rfl ?_
             refine lp (v := .bool (decide (i = 3))) rfl rfl (run_bin rfl (vx := (.int .i64 ((i : Nat) : Int))) (vy := (.int .i64 ((3 : Nat) : Int))) Tw.kr Tw.kr fun w => bn_eql rfl w) ?_
             refine lm (v := .bool (decide (i = 3))) rfl rfl ?_
             cases hd9 : (decide (i = 3)) with
             | false =>
               have h9 : ¬ (i = 3) := of_decide_eq_false hd9
               clear hd9
               refine ln rfl ?_
               refine ln rfl ?_
               refine lm (v := .bool false) rfl rfl ?_
               refine lm (v := .bool false) rfl rfl ?_
               refine ln rfl ?_
               refine ln rfl ?_
               refine lm (v := .bool false) rfl rfl ?_
               refine lm (v := .bool false) rfl rfl ?_
               refine ln rfl ?_
               refine ln rfl ?_
               refine lm (v := .bool false) rfl rfl ?_
               refine lm (v := .bool false) rfl rfl ?_
               refine lm (v := .bool false) rfl rfl ?_
               refine lm (v := .int .i64 ((i : Nat) : Int)) rfl rfl ?_
               refine lp (v := .bool false) rfl rfl (run_bin rfl (vx := (.int .i64 ((i : Nat) : Int))) (vy := (.int .i64 ((3 : Nat) : Int))) Tw.kr Tw.kr fun w => bn_gtr (decide_eq_false Tw.om) w) ?_
               refine lm (v := .bool false) rfl rfl ?_
               refine ln rfl ?_
               refine ln rfl ?_
               refine ln rfl ?_
               refine ln rfl ?_
               refine ln rfl ?_
               refine ln rfl ?_
               refine lm (v := .bool false) rfl rfl ?_
               refine lm (v := .bool false) rfl rfl ?_
               refine wpL_done (fun W23 hW23 => ?_)
               change Code.wp ..
               refine wp_cond_false rfl ?_
               refine wp_skip ?_
               change Code.wp ..
               refine wp_seq ?_
               refine wp_region_L _ hW23 ?_
               refine lm (v := .int .u8 ((b2.toNat : Nat) : Int)) rfl rfl ?_
               refine lp (v := .int .i64 ((b2.toNat : Nat) : Int)) rfl rfl (run_conv rfl (vx := (.int .u8 ((b2.toNat : Nat) : Int))) Tw.kr fun w => cv_int Tryd.underlying5 Tryd.underlying3 (wr_i64 Tw.om) w) ?_
               refine lp (v := .int .i64 (((b2.toNat - 48) : Nat) : Int)) rfl rfl (run_bin rfl (vx := (.int .i64 ((b2.toNat : Nat) : Int))) (vy := (.int .i64 ((48 : Nat) : Int))) Tw.kr Tw.kr fun w => bn_sub (z := (b2.toNat - 48)) rfl Tw.om (wr_i64 Tw.om) w) ?_
               refine lm (v := .int .i64 (((b2.toNat - 48) : Nat) : Int)) rfl rfl ?_
               refine wpL_done (fun W24 hW24 => ?_)
               change Code.wp ..
               refine wp_seq ?_
               refine wp_seq ?_
               refine wp_region_L _ hW24 ?_
               refine lm (v := .int .i64 ((i : Nat) : Int)) rfl rfl ?_
               refine lp (v := .bool true) rfl rfl (run_bin rfl (vx := (.int .i64 ((i : Nat) : Int))) (vy := (.int .i64 ((4 : Nat) : Int))) Tw.kr Tw.kr fun w => bn_lss (decide_eq_true (by assumption)) w) ?_
               refine wpL_done (fun W25 hW25 => ?_)
               change Code.wp ..
               refine wp_cond_true rfl ?_
               refine wp_region_L _ hW25 ?_
               refine lm (v := .int .u8 ((b2.toNat : Nat) : Int)) rfl rfl ?_
               refine lv (v := .int .i64 (((vN b2) : Nat) : Int)) rfl rfl (yb_call (f := 67) (args := #[.int .u8 ((b2.toNat : Nat) : Int)]) Tw.kf fun W hW => letter_any b2 Tw.om Tw.om W) ?_
               refine lm (v := .int .i64 (((vN b2) : Nat) : Int)) rfl rfl ?_
               refine wpL_done (fun W26 hW26 => ?_)
               change Code.wp ..
               refine wp_seq ?_
               refine wp_seq ?_
               refine wp_region_L _ hW26 ?_
               refine lm (v := .int .i64 0) rfl rfl ?_
               refine wpL_done (fun W27 hW27 => ?_)
               change Code.wp ..
               refine wp_block ?_
               have hvb : (vN b2) = vN b2 := rfl
               have hmb : mayB i b2 = true := by unfold mayB isCap isCat isDig; (repeat' split) <;> first | omega | (simp; done) | (simp; omega)
               go_loopw [6, 7] (fun u6 u7 wr => ∃ (k v : Nat), (k ≤ i) ∧ (v = vN b2 * 2 ^ k) ∧ u6 = .int .i64 ((v : Nat) : Int) ∧ u7 = .int .i64 ((k : Nat) : Int) ∧ KS w [] wr) (fun _ u7 _ => i - (intOf u7).toNat)
               case atStart => exact ⟨0, (vN b2), (Nat.zero_le _), (by simp only [Nat.pow_zero, Nat.mul_one]; first | done | exact hvb), rfl, rfl, (hW27.sub (fun p hp => by first | exact hp | (simp only [List.mem_cons, List.mem_append, List.nil_append, List.not_mem_nil, or_assoc, or_false, false_or] at hp ⊢ <;> grind)))⟩
               case round =>
                 obtain ⟨k, v, hk, hv, rfl, rfl, hL28⟩ := hrel
                 have hvl := vshl_le b2 (show k ≤ 20 by omega)
                 refine wp_seq ?_
                 refine wp_seq ?_
                 refine wp_region_L _ hL28 ?_
                 refine lm (v := .int .i64 ((k : Nat) : Int)) rfl rfl ?_
                 refine lm (v := .int .i64 ((i : Nat) : Int)) rfl rfl ?_
                 refine lp (v := .bool (decide (k < i))) rfl rfl (run_bin rfl (vx := (.int .i64 ((k : Nat) : Int))) (vy := (.int .i64 ((i : Nat) : Int))) Tw.kr Tw.kr fun w => bn_lss rfl w) ?_
                 refine wpL_done (fun W29 hW29 => ?_)
                 change Code.wp ..
                 cases hd10 : (decide (k < i)) with
                 | false =>
                   have h10 : ¬ (k < i) := of_decide_eq_false hd10
                   clear hd10
                   refine wp_cond_false rfl ?_
                   refine wp_exit ?_
                   change Code.wp ..
                   have hki : k = i := by omega
                   have hsb := sum_bnd (l.take i) (by rw [List.length_take]; omega)
                   have hvl2 := vshl_le b2 (show k ≤ 20 by omega)
                   have hsn : sumF 0 (l.take i) + v = sumF 0 (l.take (i + 1)) := by rw [sumF_snoc hb2, hv, hki]
                   refine wp_region_L _ hW29 ?_
                   refine lm (v := .int .i64 (((sumF 0 (l.take i)) : Nat) : Int)) rfl rfl ?_
                   refine lm (v := .int .i64 ((v : Nat) : Int)) rfl rfl ?_
                   refine lp (v := .int .i64 (((sumF 0 (l.take (i + 1))) : Nat) : Int)) rfl rfl (run_bin rfl (vx := (.int .i64 (((sumF 0 (l.take i)) : Nat) : Int))) (vy := (.int .i64 ((v : Nat) : Int))) Tw.kr Tw.kr fun w => bn_add (z := (sumF 0 (l.take (i + 1)))) hsn (wr_i64 Tw.om) w) ?_
                   refine lm (v := .int .i64 (((sumF 0 (l.take (i + 1))) : Nat) : Int)) rfl rfl ?_
                   refine wpL_done (fun W30 hW30 => ?_)
                   change Code.wp ..
                   refine wp_region_L _ hW30 ?_
                   refine lm (v := .int .i64 ((i : Nat) : Int)) rfl rfl ?_
                   refine lp (v := .int .i64 (((i + 1) : Nat) : Int)) rfl rfl (run_bin rfl (vx := (.int .i64 ((i : Nat) : Int))) (vy := (.int .i64 ((1 : Nat) : Int))) Tw.kr Tw.kr fun w => bn_add (z := (i + 1)) rfl (wr_i64 Tw.om) w) ?_
                   refine lm (v := .int .i64 (((i + 1) : Nat) : Int)) rfl rfl ?_
                   refine wpL_done (fun W31 hW31 => ?_)
                   go_roundw
                   case rel =>
                     repeat apply Exists.intro
                     exact ⟨⟨i + 1, Tw.om, (by rw [hf, fitF_drop hb2, hmb]; rfl), rfl, rfl, (hW31.sub (fun p hp => by first | exact hp | (simp only [List.mem_cons, List.mem_append, List.nil_append, List.not_mem_nil, or_assoc, or_false, false_or] at hp ⊢ <;> grind)))⟩, rfl⟩
                   case measure => (show 10 - (intOf (.int .i64 (((i + 1) : Nat) : Int))).toNat < 10 - (intOf (.int .i64 ((i : Nat) : Int))).toNat); simp only [intOf]; omega
                 | true =>
                   have h10 : k < i := of_decide_eq_true hd10
                   clear hd10
                   refine wp_cond_true rfl ?_
                   refine wp_skip ?_
                   change Code.wp ..
                   refine wp_seq ?_
                   refine wp_block ?_
                   refine wp_region_L _ hW29 ?_
                   refine lm (v := .int .i64 ((v : Nat) : Int)) rfl rfl ?_
                   refine lp (v := .int .i64 (((2 * v) : Nat) : Int)) rfl rfl (run_bin rfl (vx := (.int .i64 ((2 : Nat) : Int))) (vy := (.int .i64 ((v : Nat) : Int))) Tw.kr Tw.kr fun w => bn_mul (z := (2 * v)) rfl (wr_i64 Tw.om) w) ?_
                   refine lm (v := .int .i64 (((2 * v) : Nat) : Int)) rfl rfl ?_
                   refine wpL_done (fun W32 hW32 => ?_)
                   change Code.wp ..
                   refine wp_region_L _ hW32 ?_
                   refine lm (v := .int .i64 ((k : Nat) : Int)) rfl rfl ?_
                   refine lp (v := .int .i64 (((k + 1) : Nat) : Int)) rfl rfl (run_bin rfl (vx := (.int .i64 ((k : Nat) : Int))) (vy := (.int .i64 ((1 : Nat) : Int))) Tw.kr Tw.kr fun w => bn_add (z := (k + 1)) rfl (wr_i64 Tw.om) w) ?_
                   refine lm (v := .int .i64 (((k + 1) : Nat) : Int)) rfl rfl ?_
                   refine wpL_done (fun W33 hW33 => ?_)
                   go_roundw
                   case rel =>
                     repeat apply Exists.intro
                     exact ⟨⟨k + 1, 2 * v, Tw.om, (by rw [hv, Nat.pow_succ, Nat.mul_comm 2, Nat.mul_assoc]), rfl, rfl, (hW33.sub (fun p hp => by first | exact hp | (simp only [List.mem_cons, List.mem_append, List.nil_append, List.not_mem_nil, or_assoc, or_false, false_or] at hp ⊢ <;> grind)))⟩, rfl⟩
                   case measure => (show i - (intOf (.int .i64 (((k + 1) : Nat) : Int))).toNat < i - (intOf (.int .i64 ((k : Nat) : Int))).toNat); simp only [intOf]; omega
             | true =>
               have h9 : i = 3 := of_decide_eq_true hd9
               clear hd9
               refine lm (v := .int .u8 ((b2.toNat : Nat) : Int)) rfl rfl ?_
               refine lp (v := .bool (!(decide (b2.toNat = 85)))) rfl rfl (run_bin rfl (vx := (.int .u8 ((b2.toNat : Nat) : Int))) (vy := (.int .u8 ((85 : Nat) : Int))) Tw.kr Tw.kr fun w => bn_neq rfl w) ?_
               refine lm (v := .bool (!(decide (b2.toNat = 85)))) rfl rfl ?_
               refine lm (v := .bool (!(decide (b2.toNat = 85)))) rfl rfl ?_
               cases hd11 : (decide (b2.toNat = 85)) with
               | false =>
                 have h11 : ¬ (b2.toNat = 85) := of_decide_eq_false hd11
                 clear hd11
                 refine lm (v := .int .u8 ((b2.toNat : Nat) : Int)) rfl rfl ?_
                 refine lp (v := .bool (!(decide (b2.toNat = 74)))) rfl rfl (run_bin rfl (vx := (.int .u8 ((b2.toNat : Nat) : Int))) (vy := (.int .u8 ((74 : Nat) : Int))) Tw.kr Tw.kr fun w => bn_neq rfl w) ?_
                 refine lm (v := .bool (!(decide (b2.toNat = 74)))) rfl rfl ?_
                 refine lm (v := .bool (!(decide (b2.toNat = 74)))) rfl rfl ?_
                 cases hd12 : (decide (b2.toNat = 74)) with
                 | false =>
                   have h12 : ¬ (b2.toNat = 74) := of_decide_eq_false hd12
                   clear hd12
                   refine lm (v := .int .u8 ((b2.toNat : Nat) : Int)) rfl rfl ?_
                   refine lp (v := .bool (!(decide (b2.toNat = 90)))) rfl rfl (run_bin rfl (vx := (.int .u8 ((b2.toNat : Nat) : Int))) (vy := (.int .u8 ((90 : Nat) : Int))) Tw.kr Tw.kr fun w => bn_neq rfl w) ?_
                   refine lm (v := .bool (!(decide (b2.toNat = 90)))) rfl rfl ?_
                   refine lm (v := .bool (!(decide (b2.toNat = 90)))) rfl rfl ?_
                   refine lm (v := .bool (!(decide (b2.toNat = 90)))) rfl rfl ?_
                   cases hd13 : (decide (b2.toNat = 90)) with
                   | false =>
                     have h13 : ¬ (b2.toNat = 90) := of_decide_eq_false hd13
                     clear hd13
                     refine ln rfl ?_
                     refine ln rfl ?_
                     refine ln rfl ?_
                     refine ln rfl ?_
                     refine ln rfl ?_
                     refine ln rfl ?_
                     refine ln rfl ?_
                     refine ln rfl ?_
                     refine ln rfl ?_
                     refine ln rfl ?_
                     refine lm (v := .bool true) rfl rfl ?_
                     refine wpL_done (fun W34 hW34 => ?_)
                     change Code.wp ..
                     refine wp_cond_true rfl ?_
                     refine wp_seq ?_
                     refine wp_region_L _ hW34 ?_
                     refine lm (v := .bool false) rfl rfl ?_
                     refine wpL_done (fun W35 hW35 => ?_)
                     change Code.wp ..
                     refine wp_ret ?_
                     try simp only [inBlock_ret, then_ret]
                     refine bodyPost_ret (v := .bool false) ?_ rfl ?_
                     · kernel_rfl
                     · exact ⟨(bool_is (fit_no hf hb2 (by unfold mayB isCap isCat isDig; (repeat' split) <;> first | omega | (simp; done) | (simp; omega))).symm), hW35.1⟩
                   | true =>
                     have h13 : b2.toNat = 90 := of_decide_eq_true hd13
                     clear hd13
                     refine lm (v := .int .i64 ((i : Nat) : Int)) rfl rfl ?_
                     refine lp (v := .bool false) rfl rfl (run_bin rfl (vx := (.int .i64 ((i : Nat) : Int))) (vy := (.int .i64 ((3 : Nat) : Int))) Tw.kr Tw.kr fun w => bn_gtr (decide_eq_false Tw.om) w) ?_
                     refine lm (v := .bool false) rfl rfl ?_
                     refine ln rfl ?_
                     refine ln rfl ?_
                     refine ln rfl ?_
                     refine ln rfl ?_
                     refine ln rfl ?_
                     refine ln rfl ?_
                     refine lm (v := .bool false) rfl rfl ?_
                     refine lm (v := .bool false) rfl rfl ?_
                     refine wpL_done (fun W36 hW36 => ?_)
                     change Code.wp ..
                     refine wp_cond_false rfl ?_
                     refine wp_skip ?_
                     change Code.wp ..
                     refine wp_seq ?_
                     refine wp_region_L _ hW36 ?_
                     refine lm (v := .int .u8 ((b2.toNat : Nat) : Int)) rfl rfl ?_
                     refine lp (v := .int .i64 ((b2.toNat : Nat) : Int)) rfl rfl (run_conv rfl (vx := (.int .u8 ((b2.toNat : Nat) : Int))) Tw.kr fun w => cv_int Tryd.underlying5 Tryd.underlying3 (wr_i64 Tw.om) w) ?_
                     refine lp (v := .int .i64 (((b2.toNat - 48) : Nat) : Int)) rfl rfl (run_bin rfl (vx := (.int .i64 ((b2.toNat : Nat) : Int))) (vy := (.int .i64 ((48 : Nat) : Int))) Tw.kr Tw.kr fun w => bn_sub (z := (b2.toNat - 48)) rfl Tw.om (wr_i64 Tw.om) w) ?_
                     refine lm (v := .int .i64 (((b2.toNat - 48) : Nat) : Int)) rfl rfl ?_
                     refine wpL_done (fun W37 hW37 => ?_)
                     change Code.wp ..
                     refine wp_seq ?_
                     refine wp_seq ?_
                     refine wp_region_L _ hW37 ?_
                     refine lm (v := .int .i64 ((i : Nat) : Int)) rfl rfl ?_
                     refine lp (v := .bool true) rfl rfl (run_bin rfl (vx := (.int .i64 ((i : Nat) : Int))) (vy := (.int .i64 ((4 : Nat) : Int))) Tw.kr Tw.kr fun w => bn_lss (decide_eq_true (by assumption)) w) ?_
                     refine wpL_done (fun W38 hW38 => ?_)
                     change Code.wp ..
                     refine wp_cond_true rfl ?_
                     refine wp_region_L _ hW38 ?_
                     refine lm (v := .int .u8 ((b2.toNat : Nat) : Int)) rfl rfl ?_
                     refine lv (v := .int .i64 (((vN b2) : Nat) : Int)) rfl rfl (yb_call (f := 67) (args := #[.int .u8 ((b2.toNat : Nat) : Int)]) Tw.kf fun W hW => letter_any b2 Tw.om Tw.om W) ?_
                     refine lm (v := .int .i64 (((vN b2) : Nat) : Int)) rfl rfl ?_
                     refine wpL_done (fun W39 hW39 => ?_)
                     change Code.wp ..
                     refine wp_seq ?_
                     refine wp_seq ?_
                     refine wp_region_L _ hW39 ?_
                     refine lm (v := .int .i64 0) rfl rfl ?_
                     refine wpL_done (fun W40 hW40 => ?_)
                     change Code.wp ..
                     refine wp_block ?_
                     have hvb : (vN b2) = vN b2 := rfl
                     have hmb : mayB i b2 = true := by unfold mayB isCap isCat isDig; (repeat' split) <;> first | omega | (simp; done) | (simp; omega)
                     go_loopw [6, 7] (fun u6 u7 wr => ∃ (k v : Nat), (k ≤ i) ∧ (v = vN b2 * 2 ^ k) ∧ u6 = .int .i64 ((v : Nat) : Int) ∧ u7 = .int .i64 ((k : Nat) : Int) ∧ KS w [] wr) (fun _ u7 _ => i - (intOf u7).toNat)
                     case atStart => exact ⟨0, (vN b2), (Nat.zero_le _), (by simp only [Nat.pow_zero, Nat.mul_one]; first | done | exact hvb), rfl, rfl, (hW40.sub (fun p hp => by first | exact hp | (simp only [List.mem_cons, List.mem_append, List.nil_append, List.not_mem_nil, or_assoc, or_false, false_or] at hp ⊢ <;> grind)))⟩
                     case round =>
                       obtain ⟨k, v, hk, hv, rfl, rfl, hL41⟩ := hrel
                       have hvl := vshl_le b2 (show k ≤ 20 by omega)
                       refine wp_seq ?_
                       refine wp_seq ?_
                       refine wp_region_L _ hL41 ?_
                       refine lm (v := .int .i64 ((k : Nat) : Int)) rfl rfl ?_
                       refine lm (v := .int .i64 ((i : Nat) : Int)) rfl rfl ?_
                       refine lp (v := .bool (decide (k < i))) rfl rfl (run_bin rfl (vx := (.int .i64 ((k : Nat) : Int))) (vy := (.int .i64 ((i : Nat) : Int))) Tw.kr Tw.kr fun w => bn_lss rfl w) ?_
                       refine wpL_done (fun W42 hW42 => ?_)
                       change Code.wp ..
                       cases hd14 : (decide (k < i)) with
                       | false =>
                         have h14 : ¬ (k < i) := of_decide_eq_false hd14
                         clear hd14
                         refine wp_cond_false rfl ?_
                         refine wp_exit ?_
                         change Code.wp ..
                         have hki : k = i := by omega
                         have hsb := sum_bnd (l.take i) (by rw [List.length_take]; omega)
                         have hvl2 := vshl_le b2 (show k ≤ 20 by omega)
                         have hsn : sumF 0 (l.take i) + v = sumF 0 (l.take (i + 1)) := by rw [sumF_snoc hb2, hv, hki]
                         refine wp_region_L _ hW42 ?_
                         refine lm (v := .int .i64 (((sumF 0 (l.take i)) : Nat) : Int)) rfl rfl ?_
                         refine lm (v := .int .i64 ((v : Nat) : Int)) rfl rfl ?_
                         refine lp (v := .int .i64 (((sumF 0 (l.take (i + 1))) : Nat) : Int)) rfl rfl (run_bin rfl (vx := (.int .i64 (((sumF 0 (l.take i)) : Nat) : Int))) (vy := (.int .i64 ((v : Nat) : Int))) Tw.kr Tw.kr fun w => bn_add (z := (sumF 0 (l.take (i + 1)))) hsn (wr_i64 Tw.om) w) ?_
                         refine lm (v := .int .i64 (((sumF 0 (l.take (i + 1))) : Nat) : Int)) rfl rfl ?_
                         refine wpL_done (fun W43 hW43 => ?_)
                         change Code.wp ..
                         refine wp_region_L _ hW43 ?_
                         refine lm (v := .int .i64 ((i : Nat) : Int)) rfl rfl ?_
                         refine lp (v := .int .i64 (((i + 1) : Nat) : Int)) rfl rfl (run_bin rfl (vx := (.int .i64 ((i : Nat) : Int))) (vy := (.int .i64 ((1 : Nat) : Int))) Tw.kr Tw.kr fun w => bn_add (z := (i + 1)) rfl (wr_i64 Tw.om) w) ?_
                         refine lm (v := .int .i64 (((i + 1) : Nat) : Int)) rfl rfl ?_
                         refine wpL_done (fun W44 hW44 => ?_)
                         go_roundw
                         case rel =>
                           repeat apply Exists.intro
                           exact ⟨⟨i + 1, Tw.om, (by rw [hf, fitF_drop hb2, hmb]; rfl), rfl, rfl, (hW44.sub (fun p hp => by first | exact hp | (simp only [List.mem_cons, List.mem_append, List.nil_append, List.not_mem_nil, or_assoc, or_false, false_or] at hp ⊢ <;> grind)))⟩, rfl⟩
                         case measure => (show 10 - (intOf (.int .i64 (((i + 1) : Nat) : Int))).toNat < 10 - (intOf (.int .i64 ((i : Nat) : Int))).toNat); simp only [intOf]; omega
                       | true =>
                         have h14 : k < i := of_decide_eq_true hd14
                         clear hd14
                         refine wp_cond_true rfl ?_
                         refine wp_skip ?_
                         change Code.wp ..
                         refine wp_seq ?_
                         refine wp_block ?_
                         refine wp_region_L _ hW42 ?_
                         refine lm (v := .int .i64 ((v : Nat) : Int)) rfl rfl ?_
                         refine lp (v := .int .i64 (((2 * v) : Nat) : Int)) rfl rfl (run_bin rfl (vx := (.int .i64 ((2 : Nat) : Int))) (vy := (.int .i64 ((v : Nat) : Int))) Tw.kr Tw.kr fun w => bn_mul (z := (2 * v)) rfl (wr_i64 Tw.om) w) ?_
                         refine lm (v := .int .i64 (((2 * v) : Nat) : Int)) rfl rfl ?_
                         refine wpL_done (fun W45 hW45 => ?_)
                         change Code.wp ..
                         refine wp_region_L _ hW45 ?_
                         refine lm (v := .int .i64 ((k : Nat) : Int)) rfl rfl ?_
                         refine lp (v := .int .i64 (((k + 1) : Nat) : Int)) rfl rfl (run_bin rfl (vx := (.int .i64 ((k : Nat) : Int))) (vy := (.int .i64 ((1 : Nat) : Int))) Tw.kr Tw.kr fun w => bn_add (z := (k + 1)) rfl (wr_i64 Tw.om) w) ?_
                         refine lm (v := .int .i64 (((k + 1) : Nat) : Int)) rfl rfl ?_
                         refine wpL_done (fun W46 hW46 => ?_)
                         go_roundw
                         case rel =>
                           repeat apply Exists.intro
                           exact ⟨⟨k + 1, 2 * v, Tw.om, (by rw [hv, Nat.pow_succ, Nat.mul_comm 2, Nat.mul_assoc]), rfl, rfl, (hW46.sub (fun p hp => by first | exact hp | (simp only [List.mem_cons, List.mem_append, List.nil_append, List.not_mem_nil, or_assoc, or_false, false_or] at hp ⊢ <;> grind)))⟩, rfl⟩
                         case measure => (show i - (intOf (.int .i64 (((k + 1) : Nat) : Int))).toNat < i - (intOf (.int .i64 ((k : Nat) : Int))).toNat); simp only [intOf]; omega
                 | true =>
                   have h12 : b2.toNat = 74 := of_decide_eq_true hd12
                   clear hd12
                   refine ln rfl ?_
                   refine ln rfl ?_
                   refine lm (v := .bool false) rfl rfl ?_
                   refine lm (v := .bool false) rfl rfl ?_
                   refine lm (v := .bool false) rfl rfl ?_
                   refine lm (v := .int .i64 ((i : Nat) : Int)) rfl rfl ?_
                   refine lp (v := .bool false) rfl rfl (run_bin rfl (vx := (.int .i64 ((i : Nat) : Int))) (vy := (.int .i64 ((3 : Nat) : Int))) Tw.kr Tw.kr fun w => bn_gtr (decide_eq_false Tw.om) w) ?_
                   refine lm (v := .bool false) rfl rfl ?_
                   refine ln rfl ?_
                   refine ln rfl ?_
                   refine ln rfl ?_
                   refine ln rfl ?_
                   refine ln rfl ?_
                   refine ln rfl ?_
                   refine lm (v := .bool false) rfl rfl ?_
                   refine lm (v := .bool false) rfl rfl ?_
                   refine wpL_done (fun W47 hW47 => ?_)
                   change Code.wp ..
                   refine wp_cond_false rfl ?_
                   refine wp_skip ?_
                   change Code.wp ..
                   refine wp_seq ?_
                   refine wp_region_L _ hW47 ?_
                   refine lm (v := .int .u8 ((b2.toNat : Nat) : Int)) rfl rfl ?_
                   refine lp (v := .int .i64 ((b2.toNat : Nat) : Int)) rfl rfl (run_conv rfl (vx := (.int .u8 ((b2.toNat : Nat) : Int))) Tw.kr fun w => cv_int Tryd.underlying5 Tryd.underlying3 (wr_i64 Tw.om) w) ?_
                   refine lp (v := .int .i64 (((b2.toNat - 48) : Nat) : Int)) rfl rfl (run_bin rfl (vx := (.int .i64 ((b2.toNat : Nat) : Int))) (vy := (.int .i64 ((48 : Nat) : Int))) Tw.kr Tw.kr fun w => bn_sub (z := (b2.toNat - 48)) rfl Tw.om (wr_i64 Tw.om) w) ?_
                   refine lm (v := .int .i64 (((b2.toNat - 48) : Nat) : Int)) rfl rfl ?_
                   refine wpL_done (fun W48 hW48 => ?_)
                   change Code.wp ..
                   refine wp_seq ?_
                   refine wp_seq ?_
                   refine wp_region_L _ hW48 ?_
                   refine lm (v := .int .i64 ((i : Nat) : Int)) rfl rfl ?_
                   refine lp (v := .bool true) rfl rfl (run_bin rfl (vx := (.int .i64 ((i : Nat) : Int))) (vy := (.int .i64 ((4 : Nat) : Int))) Tw.kr Tw.kr fun w => bn_lss (decide_eq_true (by assumption)) w) ?_
                   refine wpL_done (fun W49 hW49 => ?_)
                   change Code.wp ..
                   refine wp_cond_true rfl ?_
                   refine wp_region_L _ hW49 ?_
                   refine lm (v := .int .u8 ((b2.toNat : Nat) : Int)) rfl rfl ?_
                   refine lv (v := .int .i64 (((vN b2) : Nat) : Int)) rfl rfl (yb_call (f := 67) (args := #[.int .u8 ((b2.toNat : Nat) : Int)]) Tw.kf fun W hW => letter_any b2 Tw.om Tw.om W) ?_
                   refine lm (v := .int .i64 (((vN b2) : Nat) : Int)) rfl rfl ?_
                   refine wpL_done (fun W50 hW50 => ?_)
                   change Code.wp ..
                   refine wp_seq ?_
                   refine wp_seq ?_
                   refine wp_region_L _ hW50 ?_
                   refine lm (v := .int .i64 0) rfl rfl ?_
                   refine wpL_done (fun W51 hW51 => ?_)
                   change Code.wp ..
                   refine wp_block ?_
                   have hvb : (vN b2) = vN b2 := rfl
                   have hmb : mayB i b2 = true := by unfold mayB isCap isCat isDig; (repeat' split) <;> first | omega | (simp; done) | (simp; omega)
                   go_loopw [6, 7] (fun u6 u7 wr => ∃ (k v : Nat), (k ≤ i) ∧ (v = vN b2 * 2 ^ k) ∧ u6 = .int .i64 ((v : Nat) : Int) ∧ u7 = .int .i64 ((k : Nat) : Int) ∧ KS w [] wr) (fun _ u7 _ => i - (intOf u7).toNat)
                   case atStart => exact ⟨0, (vN b2), (Nat.zero_le _), (by simp only [Nat.pow_zero, Nat.mul_one]; first | done | exact hvb), rfl, rfl, (hW51.sub (fun p hp => by first | exact hp | (simp only [List.mem_cons, List.mem_append, List.nil_append, List.not_mem_nil, or_assoc, or_false, false_or] at hp ⊢ <;> grind)))⟩
                   case round =>
                     obtain ⟨k, v, hk, hv, rfl, rfl, hL52⟩ := hrel
                     have hvl := vshl_le b2 (show k ≤ 20 by omega)
                     refine wp_seq ?_
                     refine wp_seq ?_
                     refine wp_region_L _ hL52 ?_
                     refine lm (v := .int .i64 ((k : Nat) : Int)) rfl rfl ?_
                     refine lm (v := .int .i64 ((i : Nat) : Int)) rfl rfl ?_
                     refine lp (v := .bool (decide (k < i))) rfl rfl (run_bin rfl (vx := (.int .i64 ((k : Nat) : Int))) (vy := (.int .i64 ((i : Nat) : Int))) Tw.kr Tw.kr fun w => bn_lss rfl w) ?_
                     refine wpL_done (fun W53 hW53 => ?_)
                     change Code.wp ..
                     cases hd15 : (decide (k < i)) with
                     | false =>
                       have h15 : ¬ (k < i) := of_decide_eq_false hd15
                       clear hd15
                       refine wp_cond_false rfl ?_
                       refine wp_exit ?_
                       change Code.wp ..
                       have hki : k = i := by omega
                       have hsb := sum_bnd (l.take i) (by rw [List.length_take]; omega)
                       have hvl2 := vshl_le b2 (show k ≤ 20 by omega)
                       have hsn : sumF 0 (l.take i) + v = sumF 0 (l.take (i + 1)) := by rw [sumF_snoc hb2, hv, hki]
                       refine wp_region_L _ hW53 ?_
                       refine lm (v := .int .i64 (((sumF 0 (l.take i)) : Nat) : Int)) rfl rfl ?_
                       refine lm (v := .int .i64 ((v : Nat) : Int)) rfl rfl ?_
                       refine lp (v := .int .i64 (((sumF 0 (l.take (i + 1))) : Nat) : Int)) rfl rfl (run_bin rfl (vx := (.int .i64 (((sumF 0 (l.take i)) : Nat) : Int))) (vy := (.int .i64 ((v : Nat) : Int))) Tw.kr Tw.kr fun w => bn_add (z := (sumF 0 (l.take (i + 1)))) hsn (wr_i64 Tw.om) w) ?_
                       refine lm (v := .int .i64 (((sumF 0 (l.take (i + 1))) : Nat) : Int)) rfl rfl ?_
                       refine wpL_done (fun W54 hW54 => ?_)
                       change Code.wp ..
                       refine wp_region_L _ hW54 ?_
                       refine lm (v := .int .i64 ((i : Nat) : Int)) rfl rfl ?_
                       refine lp (v := .int .i64 (((i + 1) : Nat) : Int)) rfl rfl (run_bin rfl (vx := (.int .i64 ((i : Nat) : Int))) (vy := (.int .i64 ((1 : Nat) : Int))) Tw.kr Tw.kr fun w => bn_add (z := (i + 1)) rfl (wr_i64 Tw.om) w) ?_
                       refine lm (v := .int .i64 (((i + 1) : Nat) : Int)) rfl rfl ?_
                       refine wpL_done (fun W55 hW55 => ?_)
                       go_roundw
                       case rel =>
                         repeat apply Exists.intro
                         exact ⟨⟨i + 1, Tw.om, (by rw [hf, fitF_drop hb2, hmb]; rfl), rfl, rfl, (hW55.sub (fun p hp => by first | exact hp | (simp only [List.mem_cons, List.mem_append, List.nil_append, List.not_mem_nil, or_assoc, or_false, false_or] at hp ⊢ <;> grind)))⟩, rfl⟩
                       case measure => (show 10 - (intOf (.int .i64 (((i + 1) : Nat) : Int))).toNat < 10 - (intOf (.int .i64 ((i : Nat) : Int))).toNat); simp only [intOf]; omega
                     | true =>
                       have h15 : k < i := of_decide_eq_true hd15
                       clear hd15
                       refine wp_cond_true rfl ?_
                       refine wp_skip ?_
                       change Code.wp ..
                       refine wp_seq ?_
                       refine wp_block ?_
                       refine wp_region_L _ hW53 ?_
                       refine lm (v := .int .i64 ((v : Nat) : Int)) rfl rfl ?_
                       refine lp (v := .int .i64 (((2 * v) : Nat) : Int)) rfl rfl (run_bin rfl (vx := (.int .i64 ((2 : Nat) : Int))) (vy := (.int .i64 ((v : Nat) : Int))) Tw.kr Tw.kr fun w => bn_mul (z := (2 * v)) rfl (wr_i64 Tw.om) w) ?_
                       refine lm (v := .int .i64 (((2 * v) : Nat) : Int)) rfl rfl ?_
                       refine wpL_done (fun W56 hW56 => ?_)
                       change Code.wp ..
                       refine wp_region_L _ hW56 ?_
                       refine lm (v := .int .i64 ((k : Nat) : Int)) rfl rfl ?_
                       refine lp (v := .int .i64 (((k + 1) : Nat) : Int)) rfl rfl (run_bin rfl (vx := (.int .i64 ((k : Nat) : Int))) (vy := (.int .i64 ((1 : Nat) : Int))) Tw.kr Tw.kr fun w => bn_add (z := (k + 1)) rfl (wr_i64 Tw.om) w) ?_
                       refine lm (v := .int .i64 (((k + 1) : Nat) : Int)) rfl rfl ?_
                       refine wpL_done (fun W57 hW57 => ?_)
                       go_roundw
                       case rel =>
                         repeat apply Exists.intro
                         exact ⟨⟨k + 1, 2 * v, Tw.om, (by rw [hv, Nat.pow_succ, Nat.mul_comm 2, Nat.mul_assoc]), rfl, rfl, (hW57.sub (fun p hp => by first | exact hp | (simp only [List.mem_cons, List.mem_append, List.nil_append, List.not_mem_nil, or_assoc, or_false, false_or] at hp ⊢ <;> grind)))⟩, rfl⟩
                       case measure => (show i - (intOf (.int .i64 (((k + 1) : Nat) : Int))).toNat < i - (intOf (.int .i64 ((k : Nat) : Int))).toNat); simp only [intOf]; omega
               | true =>
                 have h11 : b2.toNat = 85 := of_decide_eq_true hd11
                 clear hd11
                 refine ln rfl ?_
                 refine ln rfl ?_
                 refine lm (v := .bool false) rfl rfl ?_
                 refine lm (v := .bool false) rfl rfl ?_
                 refine ln rfl ?_
                 refine ln rfl ?_
                 refine lm (v := .bool false) rfl rfl ?_
                 refine lm (v := .bool false) rfl rfl ?_
                 refine lm (v := .bool false) rfl rfl ?_
                 refine lm (v := .int .i64 ((i : Nat) : Int)) rfl rfl ?_
                 refine lp (v := .bool false) rfl rfl (run_bin rfl (vx := (.int .i64 ((i : Nat) : Int))) (vy := (.int .i64 ((3 : Nat) : Int))) Tw.kr Tw.kr fun w => bn_gtr (decide_eq_false Tw.om) w) ?_
                 refine lm (v := .bool false) rfl rfl ?_
                 refine ln rfl ?_
                 refine ln rfl ?_
                 refine ln rfl ?_
                 refine ln rfl ?_
                 refine ln rfl ?_
                 refine ln rfl ?_
                 refine lm (v := .bool false) rfl rfl ?_
                 refine lm (v := .bool false) rfl rfl ?_
                 refine wpL_done (fun W58 hW58 => ?_)
                 change Code.wp ..
                 refine wp_cond_false rfl ?_
                 refine wp_skip ?_
                 change Code.wp ..
                 refine wp_seq ?_
                 refine wp_region_L _ hW58 ?_
                 refine lm (v := .int .u8 ((b2.toNat : Nat) : Int)) rfl rfl ?_
                 refine lp (v := .int .i64 ((b2.toNat : Nat) : Int)) rfl rfl (run_conv rfl (vx := (.int .u8 ((b2.toNat : Nat) : Int))) Tw.kr fun w => cv_int Tryd.underlying5 Tryd.underlying3 (wr_i64 Tw.om) w) ?_
                 refine lp (v := .int .i64 (((b2.toNat - 48) : Nat) : Int)) rfl rfl (run_bin rfl (vx := (.int .i64 ((b2.toNat : Nat) : Int))) (vy := (.int .i64 ((48 : Nat) : Int))) Tw.kr Tw.kr fun w => bn_sub (z := (b2.toNat - 48)) rfl Tw.om (wr_i64 Tw.om) w) ?_
                 refine lm (v := .int .i64 (((b2.toNat - 48) : Nat) : Int)) rfl rfl ?_
                 refine wpL_done (fun W59 hW59 => ?_)
                 change Code.wp ..
                 refine wp_seq ?_
                 refine wp_seq ?_
                 refine wp_region_L _ hW59 ?_
                 refine lm (v := .int .i64 ((i : Nat) : Int)) rfl rfl ?_
                 refine lp (v := .bool true) rfl rfl (run_bin rfl (vx := (.int .i64 ((i : Nat) : Int))) (vy := (.int .i64 ((4 : Nat) : Int))) Tw.kr Tw.kr fun w => bn_lss (decide_eq_true (by assumption)) w) ?_
                 refine wpL_done (fun W60 hW60 => ?_)
                 change Code.wp ..
                 refine wp_cond_true rfl ?_
                 refine wp_region_L _ hW60 ?_
                 refine lm (v := .int .u8 ((b2.toNat : Nat) : Int)) rfl rfl ?_
                 refine lv (v := .int .i64 (((vN b2) : Nat) : Int)) rfl rfl (yb_call (f := 67) (args := #[.int .u8 ((b2.toNat : Nat) : Int)]) Tw.kf fun W hW => letter_any b2 Tw.om Tw.om W) ?_
                 refine lm (v := .int .i64 (((vN b2) : Nat) : Int)) rfl rfl ?_
                 refine wpL_done (fun W61 hW61 => ?_)
                 change Code.wp ..
                 refine wp_seq ?_
                 refine wp_seq ?_
                 refine wp_region_L _ hW61 ?_
                 refine lm (v := .int .i64 0) rfl rfl ?_
                 refine wpL_done (fun W62 hW62 => ?_)
                 change Code.wp ..
                 refine wp_block ?_
                 have hvb : (vN b2) = vN b2 := rfl
                 have hmb : mayB i b2 = true := by unfold mayB isCap isCat isDig; (repeat' split) <;> first | omega | (simp; done) | (simp; omega)
                 go_loopw [6, 7] (fun u6 u7 wr => ∃ (k v : Nat), (k ≤ i) ∧ (v = vN b2 * 2 ^ k) ∧ u6 = .int .i64 ((v : Nat) : Int) ∧ u7 = .int .i64 ((k : Nat) : Int) ∧ KS w [] wr) (fun _ u7 _ => i - (intOf u7).toNat)
                 case atStart => exact ⟨0, (vN b2), (Nat.zero_le _), (by simp only [Nat.pow_zero, Nat.mul_one]; first | done | exact hvb), rfl, rfl, (hW62.sub (fun p hp => by first | exact hp | (simp only [List.mem_cons, List.mem_append, List.nil_append, List.not_mem_nil, or_assoc, or_false, false_or] at hp ⊢ <;> grind)))⟩
                 case round =>
                   obtain ⟨k, v, hk, hv, rfl, rfl, hL63⟩ := hrel
                   have hvl := vshl_le b2 (show k ≤ 20 by omega)
                   refine wp_seq ?_
                   refine wp_seq ?_
                   refine wp_region_L _ hL63 ?_
                   refine lm (v := .int .i64 ((k : Nat) : Int)) rfl rfl ?_
                   refine lm (v := .int .i64 ((i : Nat) : Int)) rfl rfl ?_
                   refine lp (v := .bool (decide (k < i))) rfl rfl (run_bin rfl (vx := (.int .i64 ((k : Nat) : Int))) (vy := (.int .i64 ((i : Nat) : Int))) Tw.kr Tw.kr fun w => bn_lss rfl w) ?_
                   refine wpL_done (fun W64 hW64 => ?_)
                   change Code.wp ..
                   cases hd16 : (decide (k < i)) with
                   | false =>
                     have h16 : ¬ (k < i) := of_decide_eq_false hd16
                     clear hd16
                     refine wp_cond_false rfl ?_
                     refine wp_exit ?_
                     change Code.wp ..
                     have hki : k = i := by omega
                     have hsb := sum_bnd (l.take i) (by rw [List.length_take]; omega)
                     have hvl2 := vshl_le b2 (show k ≤ 20 by omega)
                     have hsn : sumF 0 (l.take i) + v = sumF 0 (l.take (i + 1)) := by rw [sumF_snoc hb2, hv, hki]
                     refine wp_region_L _ hW64 ?_
                     refine lm (v := .int .i64 (((sumF 0 (l.take i)) : Nat) : Int)) rfl rfl ?_
                     refine lm (v := .int .i64 ((v : Nat) : Int)) rfl rfl ?_
                     refine lp (v := .int .i64 (((sumF 0 (l.take (i + 1))) : Nat) : Int)) rfl rfl (run_bin rfl (vx := (.int .i64 (((sumF 0 (l.take i)) : Nat) : Int))) (vy := (.int .i64 ((v : Nat) : Int))) Tw.kr Tw.kr fun w => bn_add (z := (sumF 0 (l.take (i + 1)))) hsn (wr_i64 Tw.om) w) ?_
                     refine lm (v := .int .i64 (((sumF 0 (l.take (i + 1))) : Nat) : Int)) rfl rfl ?_
                     refine wpL_done (fun W65 hW65 => ?_)
                     change Code.wp ..
                     refine wp_region_L _ hW65 ?_
                     refine lm (v := .int .i64 ((i : Nat) : Int)) rfl rfl ?_
                     refine lp (v := .int .i64 (((i + 1) : Nat) : Int)) rfl rfl (run_bin rfl (vx := (.int .i64 ((i : Nat) : Int))) (vy := (.int .i64 ((1 : Nat) : Int))) Tw.kr Tw.kr fun w => bn_add (z := (i + 1)) rfl (wr_i64 Tw.om) w) ?_
                     refine lm (v := .int .i64 (((i + 1) : Nat) : Int)) rfl rfl ?_
                     refine wpL_done (fun W66 hW66 => ?_)
                     go_roundw
                     case rel =>
                       repeat apply Exists.intro
                       exact ⟨⟨i + 1, Tw.om, (by rw [hf, fitF_drop hb2, hmb]; rfl), rfl, rfl, (hW66.sub (fun p hp => by first | exact hp | (simp only [List.mem_cons, List.mem_append, List.nil_append, List.not_mem_nil, or_assoc, or_false, false_or] at hp ⊢ <;> grind)))⟩, rfl⟩
                     case measure => (show 10 - (intOf (.int .i64 (((i + 1) : Nat) : Int))).toNat < 10 - (intOf (.int .i64 ((i : Nat) : Int))).toNat); simp only [intOf]; omega
                   | true =>
                     have h16 : k < i := of_decide_eq_true hd16
                     clear hd16
                     refine wp_cond_true rfl ?_
                     refine wp_skip ?_
                     change Code.wp ..
                     refine wp_seq ?_
                     refine wp_block ?_
                     refine wp_region_L _ hW64 ?_
                     refine lm (v := .int .i64 ((v : Nat) : Int)) rfl rfl ?_
                     refine lp (v := .int .i64 (((2 * v) : Nat) : Int)) rfl rfl (run_bin rfl (vx := (.int .i64 ((2 : Nat) : Int))) (vy := (.int .i64 ((v : Nat) : Int))) Tw.kr Tw.kr fun w => bn_mul (z := (2 * v)) rfl (wr_i64 Tw.om) w) ?_
                     refine lm (v := .int .i64 (((2 * v) : Nat) : Int)) rfl rfl ?_
                     refine wpL_done (fun W67 hW67 => ?_)
                     change Code.wp ..
                     refine wp_region_L _ hW67 ?_
                     refine lm (v := .int .i64 ((k : Nat) : Int)) rfl rfl ?_
                     refine lp (v := .int .i64 (((k + 1) : Nat) : Int)) rfl rfl (run_bin rfl (vx := (.int .i64 ((k : Nat) : Int))) (vy := (.int .i64 ((1 : Nat) : Int))) Tw.kr Tw.kr fun w => bn_add (z := (k + 1)) rfl (wr_i64 Tw.om) w) ?_
                     refine lm (v := .int .i64 (((k + 1) : Nat) : Int)) rfl rfl ?_
                     refine wpL_done (fun W68 hW68 => ?_)
                     go_roundw
                     case rel =>
                       repeat apply Exists.intro
                       exact ⟨⟨k + 1, 2 * v, Tw.om, (by rw [hv, Nat.pow_succ, Nat.mul_comm 2, Nat.mul_assoc]), rfl, rfl, (hW68.sub (fun p hp => by first | exact hp | (simp only [List.mem_cons, List.mem_append, List.nil_append, List.not_mem_nil, or_assoc, or_false, false_or] at hp ⊢ <;> grind)))⟩, rfl⟩
                     case measure => (show i - (intOf (.int .i64 (((k + 1) : Nat) : Int))).toNat < i - (intOf (.int .i64 ((k : Nat) : Int))).toNat); simp only [intOf]; omega
           | true =>
             have h8 : 90 < b2.toNat := of_decide_eq_true hd8
             clear hd8
             refine ln rfl ?_
             refine ln rfl ?_
             refine ln rfl ?_
             refine ln rfl ?_
             refine ln rfl ?_
             refine ln rfl ?_
             refine ln rfl ?_
             refine ln rfl ?_
             refine ln rfl ?_
             refine ln rfl ?_
             refine ln rfl ?_
             refine ln rfl ?_
             refine ln rfl ?_
             refine ln rfl ?_
             refine lm (v := .bool true) rfl rfl ?_
             refine lm (v := .bool true) rfl rfl ?_
             refine ln rfl ?_
             refine ln rfl ?_
             refine ln rfl ?_
             refine ln rfl ?_
             refine ln rfl ?_
             refine ln rfl ?_
             refine ln rfl ?_
             refine ln rfl ?_
             refine ln rfl ?_
             refine ln rfl ?_
             refine lm (v := .bool true) rfl rfl ?_
             refine wpL_done (fun W69 hW69 => ?_)
             change Code.wp ..
             refine wp_cond_true rfl ?_
             refine wp_seq ?_
             refine wp_region_L _ hW69 ?_
             refine lm (v := .bool false) rfl rfl ?_
             refine wpL_done (fun W70 hW70 => ?_)
             change Code.wp ..
             refine wp_ret ?_
             try simp only [inBlock_ret, then_ret]
             refine bodyPost_ret (v := .bool false) ?_ rfl ?_
             · kernel_rfl
             · exact ⟨(bool_is (fit_no hf hb2 (by unfold mayB isCap isCat isDig; (repeat' split) <;> first | omega | (simp; done) | (simp; omega))).symm), hW70.1⟩
         | true =>
           have h7 : b2.toNat < 65 := of_decide_eq_true hd7
           clear hd7
           refine ln rfl ?_
           refine ln rfl ?_
           refine lm (v := .bool true) rfl rfl ?_
           refine lm (v := .bool true) rfl rfl ?_
           refine lm (v := .bool true) rfl rfl ?_
           refine ln rfl ?_
           refine ln rfl ?_
           refine ln rfl ?_
           refine ln rfl ?_
           refine ln rfl ?_
           refine ln rfl ?_
           refine ln rfl ?_
           refine ln rfl ?_
           refine ln rfl ?_
           refine ln rfl ?_
           refine ln rfl ?_
           refine ln rfl ?_
           refine ln rfl ?_
           refine ln rfl ?_
           refine lm (v := .bool true) rfl rfl ?_
           refine lm (v := .bool true) rfl rfl ?_
           refine ln rfl ?_
           refine ln rfl ?_
           refine ln rfl ?_
           refine ln rfl ?_
           refine ln rfl ?_
           refine ln rfl ?_
           refine ln rfl ?_
           refine ln rfl ?_
           refine ln rfl ?_
           refine ln rfl ?_
           refine lm (v := .bool true) rfl rfl ?_
           refine wpL_done (fun W71 hW71 => ?_)
           change Code.wp ..
           refine wp_cond_true rfl ?_
           refine wp_seq ?_
           refine wp_region_L _ hW71 ?_
           refine lm (v := .bool false) rfl rfl ?_
           refine wpL_done (fun W72 hW72 => ?_)
           change Code.wp ..
           refine wp_ret ?_
           try simp only [inBlock_ret, then_ret]
           refine bodyPost_ret (v := .bool false) ?_ rfl ?_
           · kernel_rfl
           · exact ⟨(bool_is (fit_no hf hb2 (by unfold mayB isCap isCat isDig; (repeat' split) <;> first | omega | (simp; done) | (simp; omega))).symm), hW72.1⟩
end Go.Proofs.YtllmpemmknblaaaDoor
namespace Go.Proofs.YtllmpemmknblaaaDoor
open Go Go.RowKit Tw
theorem right_w {a b : Bool} (h : a = b) : a = b := h
set_option maxRecDepth 100000 in
set_option maxHeartbeats 4000000 in
theorem RRight_any (b : Bx) (w : World) : Calls Tryd.prog 38 #[bxV b] w fun e w' => e = .returned (.bool (rightX b)) ∧ Below w.heap.size w w' := by
 go_enter Tryd.func38, Tryd.ntmps38
 refine wp_seq ?_
 refine wp_region_L [] (KS.start w) ?_
 refine wpL_new (fun g => .pointer (some ⟨g, 0, none⟩)) (obi := .cells (bxC b) 26 (0, 0)) rfl rfl Tw.kf Tw.pf fun g1 Bg1 Fg1 => ?_
 refine lm (v := .bool false) rfl rfl ?_
 refine wpL_done (fun W1 hW1 => ?_)
 change Code.wp ..
 refine wp_seq ?_
 refine wp_seq ?_
 refine wp_region_L _ hW1 ?_
 refine lm (v := .pointer (some ⟨g1, 2, none⟩)) rfl rfl ?_
 refine lv (v := .int .u8 ((b.size : Nat) : Int)) rfl rfl (yb_cell (off := 2) rfl Tw.kr Tw.m0 Tryd.underlying5 rfl Tw.kr) ?_
 refine lp (v := .bool (!(decide (b.size = 20)))) rfl rfl (run_bin rfl (vx := (.int .u8 ((b.size : Nat) : Int))) (vy := (.int .u8 ((20 : Nat) : Int))) Tw.kr Tw.kr fun w => bn_neq rfl w) ?_
 refine lm (v := .bool (!(decide (b.size = 20)))) rfl rfl ?_
 cases hd1 : (decide (b.size = 20)) with
 | false =>
   have h1 : ¬ (b.size = 20) := of_decide_eq_false hd1
   clear hd1
   refine lm (v := .pointer (some ⟨g1, 2, none⟩)) rfl rfl ?_
   refine lv (v := .int .u8 ((b.size : Nat) : Int)) rfl rfl (yb_cell (off := 2) rfl Tw.kr Tw.m0 Tryd.underlying5 rfl Tw.kr) ?_
   refine lp (v := .bool (!(decide (b.size = 40)))) rfl rfl (run_bin rfl (vx := (.int .u8 ((b.size : Nat) : Int))) (vy := (.int .u8 ((40 : Nat) : Int))) Tw.kr Tw.kr fun w => bn_neq rfl w) ?_
   refine lm (v := .bool (!(decide (b.size = 40)))) rfl rfl ?_
   refine lm (v := .bool (!(decide (b.size = 40)))) rfl rfl ?_
   cases hd2 : (decide (b.size = 40)) with
   | false =>
     have h2 : ¬ (b.size = 40) := of_decide_eq_false hd2
     clear hd2
     refine ln rfl ?_
     refine ln rfl ?_
     refine ln rfl ?_
     refine ln rfl ?_
     refine ln rfl ?_
     refine ln rfl ?_
     refine ln rfl ?_
     refine lm (v := .bool true) rfl rfl ?_
     refine wpL_done (fun W2 hW2 => ?_)
     change Code.wp ..
     refine wp_cond_true rfl ?_
     refine wp_seq ?_
     refine wp_region_L _ hW2 ?_
     refine lm (v := .bool false) rfl rfl ?_
     refine wpL_done (fun W3 hW3 => ?_)
     change Code.wp ..
     refine wp_ret ?_
     try simp only [inBlock_ret, then_ret]
     refine bodyPost_ret (v := .bool false) ?_ rfl ?_
     · kernel_rfl
     · exact ⟨(bool_is (right_w (by first | (simp [rightX, rul1, rul2, rul3, rul4, rul5, rul8, rul9, rul10, rulW, *] <;> omega) | (rw [Bool.eq_iff_iff]; simp [rightX, rul1, rul2, rul3, rul4, rul5, rul8, rul9, rul10, rulW, *] <;> omega)))), hW3.1⟩
   | true =>
     have h2 : b.size = 40 := of_decide_eq_true hd2
     clear hd2
     refine lm (v := .pointer (some ⟨g1, 3, none⟩)) rfl rfl ?_
     refine lv (v := .bool b.high) rfl rfl (yb_cell (off := 3) rfl Tw.kr Tw.m0 Tryd.underlying4 rfl Tw.kr) ?_
     refine lm (v := .bool b.high) rfl rfl ?_
     cases h3 : b.high with
     | false =>
       refine ln rfl ?_
       refine ln rfl ?_
       refine ln rfl ?_
       refine lm (v := .bool false) rfl rfl ?_
       refine lm (v := .bool false) rfl rfl ?_
       refine wpL_done (fun W4 hW4 => ?_)
       change Code.wp ..
       refine wp_cond_false rfl ?_
       refine wp_skip ?_
       change Code.wp ..
       refine wp_seq ?_
       refine wp_seq ?_
       refine wp_region_L _ hW4 ?_
       refine lm (v := .pointer (some ⟨g1, 4, none⟩)) rfl rfl ?_
       refine lv (v := .int .i64 b.kilos) rfl rfl (yb_cell (off := 4) rfl Tw.kr Tw.m0 Tryd.underlying3 rfl Tw.kr) ?_
       refine lp (v := .bool (decide (b.kilos < 1))) rfl rfl (run_bin rfl (vx := (.int .i64 b.kilos)) (vy := (.int .i64 1)) Tw.kr Tw.kr fun w => bi_lss rfl w) ?_
       refine lm (v := .bool (decide (b.kilos < 1))) rfl rfl ?_
       cases hd4 : (decide (b.kilos < 1)) with
       | false =>
         have h4 : ¬ (b.kilos < 1) := of_decide_eq_false hd4
         clear hd4
         refine lm (v := .pointer (some ⟨g1, 4, none⟩)) rfl rfl ?_
         refine lv (v := .int .i64 b.kilos) rfl rfl (yb_cell (off := 4) rfl Tw.kr Tw.m0 Tryd.underlying3 rfl Tw.kr) ?_
         refine lp (v := .bool (decide (40000 < b.kilos))) rfl rfl (run_bin rfl (vx := (.int .i64 b.kilos)) (vy := (.int .i64 40000)) Tw.kr Tw.kr fun w => bi_gtr rfl w) ?_
         refine lm (v := .bool (decide (40000 < b.kilos))) rfl rfl ?_
         refine lm (v := .bool (decide (40000 < b.kilos))) rfl rfl ?_
         cases hd5 : (decide (40000 < b.kilos)) with
         | false =>
           have h5 : ¬ (40000 < b.kilos) := of_decide_eq_false hd5
           clear hd5
           refine lm (v := .pointer (some ⟨g1, 2, none⟩)) rfl rfl ?_
           refine lv (v := .int .u8 ((b.size : Nat) : Int)) rfl rfl (yb_cell (off := 2) rfl Tw.kr Tw.m0 Tryd.underlying5 rfl Tw.kr) ?_
           refine lp (v := .bool false) rfl rfl (run_bin rfl (vx := (.int .u8 ((b.size : Nat) : Int))) (vy := (.int .u8 ((20 : Nat) : Int))) Tw.kr Tw.kr fun w => bn_eql (decide_eq_false (by assumption)) w) ?_
           refine lm (v := .bool false) rfl rfl ?_
           refine ln rfl ?_
           refine ln rfl ?_
           refine ln rfl ?_
           refine lm (v := .bool false) rfl rfl ?_
           refine lm (v := .bool false) rfl rfl ?_
           refine wpL_done (fun W5 hW5 => ?_)
           change Code.wp ..
           refine wp_cond_false rfl ?_
           refine wp_skip ?_
           change Code.wp ..
           refine wp_seq ?_
           refine wp_seq ?_
           refine wp_region_L _ hW5 ?_
           refine lm (v := .pointer (some ⟨g1, 0, none⟩)) rfl rfl ?_
           refine lv (v := .int .i64 b.id) rfl rfl (yb_cell (off := 0) rfl Tw.kr Tw.m0 Tryd.underlying3 rfl Tw.kr) ?_
           refine lp (v := .bool (decide (b.id < 1))) rfl rfl (run_bin rfl (vx := (.int .i64 b.id)) (vy := (.int .i64 1)) Tw.kr Tw.kr fun w => bi_lss rfl w) ?_
           refine lm (v := .bool (decide (b.id < 1))) rfl rfl ?_
           cases hd6 : (decide (b.id < 1)) with
           | false =>
             have h6 : ¬ (b.id < 1) := of_decide_eq_false hd6
             clear hd6
             refine lm (v := .pointer (some ⟨g1, 0, none⟩)) rfl rfl ?_
             refine lv (v := .int .i64 b.id) rfl rfl (yb_cell (off := 0) rfl Tw.kr Tw.m0 Tryd.underlying3 rfl Tw.kr) ?_
             refine lp (v := .bool (decide (999999 < b.id))) rfl rfl (run_bin rfl (vx := (.int .i64 b.id)) (vy := (.int .i64 999999)) Tw.kr Tw.kr fun w => bi_gtr rfl w) ?_
             refine lm (v := .bool (decide (999999 < b.id))) rfl rfl ?_
             refine lm (v := .bool (decide (999999 < b.id))) rfl rfl ?_
             cases hd7 : (decide (999999 < b.id)) with
             | false =>
               have h7 : ¬ (999999 < b.id) := of_decide_eq_false hd7
               clear hd7
               refine lm (v := .pointer (some ⟨g1, 1, none⟩)) rfl rfl ?_
               refine lv (v := strV b.num) rfl rfl (yb_cell (off := 1) rfl Tw.kr Tw.m0 Tryd.underlying9 rfl Tw.kr) ?_
               refine lp (v := .bool (!(decide (b.num = [])))) rfl rfl (run_bin rfl (vx := strV b.num) (vy := strV []) Tw.kr Tw.kr fun w => bs_neq rfl w) ?_
               refine lm (v := .bool (!(decide (b.num = [])))) rfl rfl ?_
               cases hd8 : (decide (b.num = [])) with
               | false =>
                 have h8 : ¬ (b.num = []) := of_decide_eq_false hd8
                 clear hd8
                 refine lm (v := .pointer (some ⟨g1, 1, none⟩)) rfl rfl ?_
                 refine lv (v := strV b.num) rfl rfl (yb_cell (off := 1) rfl Tw.kr Tw.m0 Tryd.underlying9 rfl Tw.kr) ?_
                 refine lv (v := .bool (decide (judgeN b.num = 0))) rfl rfl (yb_call (f := 50) (args := #[strV b.num]) Tw.kf fun W hW => RNumber_any b.num W) ?_
                 refine lp (v := .bool (!(decide (judgeN b.num = 0)))) rfl rfl (run_un rfl Tw.kr fun w => un_not w) ?_
                 refine lm (v := .bool (!(decide (judgeN b.num = 0)))) rfl rfl ?_
                 refine lm (v := .bool (!(decide (judgeN b.num = 0)))) rfl rfl ?_
                 refine wpL_done (fun W6 hW6 => ?_)
                 change Code.wp ..
                 cases h9 : (decide (judgeN b.num = 0)) with
                 | false =>
                   refine wp_cond_true rfl ?_
                   refine wp_seq ?_
                   refine wp_region_L _ hW6 ?_
                   refine lm (v := .bool false) rfl rfl ?_
                   refine wpL_done (fun W7 hW7 => ?_)
                   change Code.wp ..
                   refine wp_ret ?_
                   try simp only [inBlock_ret, then_ret]
                   refine bodyPost_ret (v := .bool false) ?_ rfl ?_
                   · kernel_rfl
                   · exact ⟨(bool_is (right_w (by first | (simp [rightX, rul1, rul2, rul3, rul4, rul5, rul8, rul9, rul10, rulW, *] <;> omega) | (rw [Bool.eq_iff_iff]; simp [rightX, rul1, rul2, rul3, rul4, rul5, rul8, rul9, rul10, rulW, *] <;> omega)))), hW7.1⟩
                 | true =>
                   refine wp_cond_false rfl ?_
                   refine wp_skip ?_
                   change Code.wp ..
                   refine wp_seq ?_
                   refine wp_region_L _ hW6 ?_
                   refine lm (v := .pointer (some ⟨g1, 5, none⟩)) rfl rfl ?_
                   refine lv (v := .int .i64 b.load) rfl rfl (yb_cell (off := 5) rfl Tw.kr Tw.m0 Tryd.underlying3 rfl Tw.kr) ?_
                   refine lp (v := .bool (!(decide (b.load < 0)))) rfl rfl (run_bin rfl (vx := (.int .i64 0)) (vy := (.int .i64 b.load)) Tw.kr Tw.kr fun w => bi_leq rfl w) ?_
                   refine lm (v := .bool (!(decide (b.load < 0)))) rfl rfl ?_
                   cases hd10 : (decide (b.load < 0)) with
                   | false =>
                     have h10 : ¬ (b.load < 0) := of_decide_eq_false hd10
                     clear hd10
                     refine lm (v := .pointer (some ⟨g1, 5, none⟩)) rfl rfl ?_
                     refine lv (v := .int .i64 b.load) rfl rfl (yb_cell (off := 5) rfl Tw.kr Tw.m0 Tryd.underlying3 rfl Tw.kr) ?_
                     refine lm (v := .pointer (some ⟨g1, 6, none⟩)) rfl rfl ?_
                     refine lv (v := .int .i64 b.dis) rfl rfl (yb_cell (off := 6) rfl Tw.kr Tw.m0 Tryd.underlying3 rfl Tw.kr) ?_
                     refine lp (v := .bool (decide (b.load < b.dis))) rfl rfl (run_bin rfl (vx := (.int .i64 b.load)) (vy := (.int .i64 b.dis)) Tw.kr Tw.kr fun w => bi_lss rfl w) ?_
                     refine lm (v := .bool (decide (b.load < b.dis))) rfl rfl ?_
                     refine lm (v := .bool (decide (b.load < b.dis))) rfl rfl ?_
                     cases hd11 : (decide (b.load < b.dis)) with
                     | false =>
                       have h11 : ¬ (b.load < b.dis) := of_decide_eq_false hd11
                       clear hd11
                       refine ln rfl ?_
                       refine ln rfl ?_
                       refine ln rfl ?_
                       refine lm (v := .bool false) rfl rfl ?_
                       refine lm (v := .bool false) rfl rfl ?_
                       refine ln rfl ?_
                       refine ln rfl ?_
                       refine ln rfl ?_
                       refine lm (v := .bool false) rfl rfl ?_
                       refine lm (v := .bool false) rfl rfl ?_
                       refine wpL_done (fun W8 hW8 => ?_)
                       change Code.wp ..
                       refine wp_ret ?_
                       try simp only [inBlock_ret, then_ret]
                       refine bodyPost_ret (v := .bool false) ?_ rfl ?_
                       · kernel_rfl
                       · exact ⟨(bool_is (right_w (by first | (simp [rightX, rul1, rul2, rul3, rul4, rul5, rul8, rul9, rul10, rulW, *] <;> omega) | (rw [Bool.eq_iff_iff]; simp [rightX, rul1, rul2, rul3, rul4, rul5, rul8, rul9, rul10, rulW, *] <;> omega)))), hW8.1⟩
                     | true =>
                       have h11 : b.load < b.dis := of_decide_eq_true hd11
                       clear hd11
                       refine lm (v := .pointer (some ⟨g1, 6, none⟩)) rfl rfl ?_
                       refine lv (v := .int .i64 b.dis) rfl rfl (yb_cell (off := 6) rfl Tw.kr Tw.m0 Tryd.underlying3 rfl Tw.kr) ?_
                       refine lp (v := .bool (decide (b.dis < 20))) rfl rfl (run_bin rfl (vx := (.int .i64 b.dis)) (vy := (.int .i64 20)) Tw.kr Tw.kr fun w => bi_lss rfl w) ?_
                       refine lm (v := .bool (decide (b.dis < 20))) rfl rfl ?_
                       refine lm (v := .bool (decide (b.dis < 20))) rfl rfl ?_
                       cases hd12 : (decide (b.dis < 20)) with
                       | false =>
                         have h12 : ¬ (b.dis < 20) := of_decide_eq_false hd12
                         clear hd12
                         refine ln rfl ?_
                         refine ln rfl ?_
                         refine ln rfl ?_
                         refine lm (v := .bool false) rfl rfl ?_
                         refine lm (v := .bool false) rfl rfl ?_
                         refine wpL_done (fun W9 hW9 => ?_)
                         change Code.wp ..
                         refine wp_ret ?_
                         try simp only [inBlock_ret, then_ret]
                         refine bodyPost_ret (v := .bool false) ?_ rfl ?_
                         · kernel_rfl
                         · exact ⟨(bool_is (right_w (by first | (simp [rightX, rul1, rul2, rul3, rul4, rul5, rul8, rul9, rul10, rulW, *] <;> omega) | (rw [Bool.eq_iff_iff]; simp [rightX, rul1, rul2, rul3, rul4, rul5, rul8, rul9, rul10, rulW, *] <;> omega)))), hW9.1⟩
                       | true =>
                         have h12 : b.dis < 20 := of_decide_eq_true hd12
                         clear hd12
                         refine lm (v := .pointer (some ⟨g1, 7, none⟩)) rfl rfl ?_
                         refine lv (v := .int .u8 ((b.cls : Nat) : Int)) rfl rfl (yb_cell (off := 7) rfl Tw.kr Tw.m0 Tryd.underlying5 rfl Tw.kr) ?_
                         refine lp (v := .bool (decide (b.cls < 10))) rfl rfl (run_bin rfl (vx := (.int .u8 ((b.cls : Nat) : Int))) (vy := (.int .u8 ((10 : Nat) : Int))) Tw.kr Tw.kr fun w => bn_lss rfl w) ?_
                         refine lm (v := .bool (decide (b.cls < 10))) rfl rfl ?_
                         refine lm (v := .bool (decide (b.cls < 10))) rfl rfl ?_
                         refine wpL_done (fun W10 hW10 => ?_)
                         change Code.wp ..
                         refine wp_ret ?_
                         try simp only [inBlock_ret, then_ret]
                         refine bodyPost_ret (v := .bool (decide (b.cls < 10))) ?_ rfl ?_
                         · kernel_rfl
                         · exact ⟨(bool_is (right_w (by first | (simp [rightX, rul1, rul2, rul3, rul4, rul5, rul8, rul9, rul10, rulW, *] <;> omega) | (rw [Bool.eq_iff_iff]; simp [rightX, rul1, rul2, rul3, rul4, rul5, rul8, rul9, rul10, rulW, *] <;> omega)))), hW10.1⟩
                   | true =>
                     have h10 : b.load < 0 := of_decide_eq_true hd10
                     clear hd10
                     refine ln rfl ?_
                     refine ln rfl ?_
                     refine ln rfl ?_
                     refine ln rfl ?_
                     refine ln rfl ?_
                     refine lm (v := .bool false) rfl rfl ?_
                     refine lm (v := .bool false) rfl rfl ?_
                     refine ln rfl ?_
                     refine ln rfl ?_
                     refine ln rfl ?_
                     refine lm (v := .bool false) rfl rfl ?_
                     refine lm (v := .bool false) rfl rfl ?_
                     refine ln rfl ?_
                     refine ln rfl ?_
                     refine ln rfl ?_
                     refine lm (v := .bool false) rfl rfl ?_
                     refine lm (v := .bool false) rfl rfl ?_
                     refine wpL_done (fun W11 hW11 => ?_)
                     change Code.wp ..
                     refine wp_ret ?_
                     try simp only [inBlock_ret, then_ret]
                     refine bodyPost_ret (v := .bool false) ?_ rfl ?_
                     · kernel_rfl
                     · exact ⟨(bool_is (right_w (by first | (simp [rightX, rul1, rul2, rul3, rul4, rul5, rul8, rul9, rul10, rulW, *] <;> omega) | (rw [Bool.eq_iff_iff]; simp [rightX, rul1, rul2, rul3, rul4, rul5, rul8, rul9, rul10, rulW, *] <;> omega)))), hW11.1⟩
               | true =>
                 have h8 : b.num = [] := of_decide_eq_true hd8
                 clear hd8
                 refine ln rfl ?_
                 refine ln rfl ?_
                 refine ln rfl ?_
                 refine ln rfl ?_
                 refine lm (v := .bool false) rfl rfl ?_
                 refine lm (v := .bool false) rfl rfl ?_
                 refine wpL_done (fun W12 hW12 => ?_)
                 change Code.wp ..
                 refine wp_cond_false rfl ?_
                 refine wp_skip ?_
                 change Code.wp ..
                 refine wp_seq ?_
                 refine wp_region_L _ hW12 ?_
                 refine lm (v := .pointer (some ⟨g1, 5, none⟩)) rfl rfl ?_
                 refine lv (v := .int .i64 b.load) rfl rfl (yb_cell (off := 5) rfl Tw.kr Tw.m0 Tryd.underlying3 rfl Tw.kr) ?_
                 refine lp (v := .bool (!(decide (b.load < 0)))) rfl rfl (run_bin rfl (vx := (.int .i64 0)) (vy := (.int .i64 b.load)) Tw.kr Tw.kr fun w => bi_leq rfl w) ?_
                 refine lm (v := .bool (!(decide (b.load < 0)))) rfl rfl ?_
                 cases hd13 : (decide (b.load < 0)) with
                 | false =>
                   have h13 : ¬ (b.load < 0) := of_decide_eq_false hd13
                   clear hd13
                   refine lm (v := .pointer (some ⟨g1, 5, none⟩)) rfl rfl ?_
                   refine lv (v := .int .i64 b.load) rfl rfl (yb_cell (off := 5) rfl Tw.kr Tw.m0 Tryd.underlying3 rfl Tw.kr) ?_
                   refine lm (v := .pointer (some ⟨g1, 6, none⟩)) rfl rfl ?_
                   refine lv (v := .int .i64 b.dis) rfl rfl (yb_cell (off := 6) rfl Tw.kr Tw.m0 Tryd.underlying3 rfl Tw.kr) ?_
                   refine lp (v := .bool (decide (b.load < b.dis))) rfl rfl (run_bin rfl (vx := (.int .i64 b.load)) (vy := (.int .i64 b.dis)) Tw.kr Tw.kr fun w => bi_lss rfl w) ?_
                   refine lm (v := .bool (decide (b.load < b.dis))) rfl rfl ?_
                   refine lm (v := .bool (decide (b.load < b.dis))) rfl rfl ?_
                   cases hd14 : (decide (b.load < b.dis)) with
                   | false =>
                     have h14 : ¬ (b.load < b.dis) := of_decide_eq_false hd14
                     clear hd14
                     refine ln rfl ?_
                     refine ln rfl ?_
                     refine ln rfl ?_
                     refine lm (v := .bool false) rfl rfl ?_
                     refine lm (v := .bool false) rfl rfl ?_
                     refine ln rfl ?_
                     refine ln rfl ?_
                     refine ln rfl ?_
                     refine lm (v := .bool false) rfl rfl ?_
                     refine lm (v := .bool false) rfl rfl ?_
                     refine wpL_done (fun W13 hW13 => ?_)
                     change Code.wp ..
                     refine wp_ret ?_
                     try simp only [inBlock_ret, then_ret]
                     refine bodyPost_ret (v := .bool false) ?_ rfl ?_
                     · kernel_rfl
                     · exact ⟨(bool_is (right_w (by first | (simp [rightX, rul1, rul2, rul3, rul4, rul5, rul8, rul9, rul10, rulW, *] <;> omega) | (rw [Bool.eq_iff_iff]; simp [rightX, rul1, rul2, rul3, rul4, rul5, rul8, rul9, rul10, rulW, *] <;> omega)))), hW13.1⟩
                   | true =>
                     have h14 : b.load < b.dis := of_decide_eq_true hd14
                     clear hd14
                     refine lm (v := .pointer (some ⟨g1, 6, none⟩)) rfl rfl ?_
                     refine lv (v := .int .i64 b.dis) rfl rfl (yb_cell (off := 6) rfl Tw.kr Tw.m0 Tryd.underlying3 rfl Tw.kr) ?_
                     refine lp (v := .bool (decide (b.dis < 20))) rfl rfl (run_bin rfl (vx := (.int .i64 b.dis)) (vy := (.int .i64 20)) Tw.kr Tw.kr fun w => bi_lss rfl w) ?_
                     refine lm (v := .bool (decide (b.dis < 20))) rfl rfl ?_
                     refine lm (v := .bool (decide (b.dis < 20))) rfl rfl ?_
                     cases hd15 : (decide (b.dis < 20)) with
                     | false =>
                       have h15 : ¬ (b.dis < 20) := of_decide_eq_false hd15
                       clear hd15
                       refine ln rfl ?_
                       refine ln rfl ?_
                       refine ln rfl ?_
                       refine lm (v := .bool false) rfl rfl ?_
                       refine lm (v := .bool false) rfl rfl ?_
                       refine wpL_done (fun W14 hW14 => ?_)
                       change Code.wp ..
                       refine wp_ret ?_
                       try simp only [inBlock_ret, then_ret]
                       refine bodyPost_ret (v := .bool false) ?_ rfl ?_
                       · kernel_rfl
                       · exact ⟨(bool_is (right_w (by first | (simp [rightX, rul1, rul2, rul3, rul4, rul5, rul8, rul9, rul10, rulW, *] <;> omega) | (rw [Bool.eq_iff_iff]; simp [rightX, rul1, rul2, rul3, rul4, rul5, rul8, rul9, rul10, rulW, *] <;> omega)))), hW14.1⟩
                     | true =>
                       have h15 : b.dis < 20 := of_decide_eq_true hd15
                       clear hd15
                       refine lm (v := .pointer (some ⟨g1, 7, none⟩)) rfl rfl ?_
                       refine lv (v := .int .u8 ((b.cls : Nat) : Int)) rfl rfl (yb_cell (off := 7) rfl Tw.kr Tw.m0 Tryd.underlying5 rfl Tw.kr) ?_
                       refine lp (v := .bool (decide (b.cls < 10))) rfl rfl (run_bin rfl (vx := (.int .u8 ((b.cls : Nat) : Int))) (vy := (.int .u8 ((10 : Nat) : Int))) Tw.kr Tw.kr fun w => bn_lss rfl w) ?_
                       refine lm (v := .bool (decide (b.cls < 10))) rfl rfl ?_
                       refine lm (v := .bool (decide (b.cls < 10))) rfl rfl ?_
                       refine wpL_done (fun W15 hW15 => ?_)
                       change Code.wp ..
                       refine wp_ret ?_
                       try simp only [inBlock_ret, then_ret]
                       refine bodyPost_ret (v := .bool (decide (b.cls < 10))) ?_ rfl ?_
                       · kernel_rfl
                       · exact ⟨(bool_is (right_w (by first | (simp [rightX, rul1, rul2, rul3, rul4, rul5, rul8, rul9, rul10, rulW, *] <;> omega) | (rw [Bool.eq_iff_iff]; simp [rightX, rul1, rul2, rul3, rul4, rul5, rul8, rul9, rul10, rulW, *] <;> omega)))), hW15.1⟩
                 | true =>
                   have h13 : b.load < 0 := of_decide_eq_true hd13
                   clear hd13
                   refine ln rfl ?_
                   refine ln rfl ?_
                   refine ln rfl ?_
                   refine ln rfl ?_
                   refine ln rfl ?_
                   refine lm (v := .bool false) rfl rfl ?_
                   refine lm (v := .bool false) rfl rfl ?_
                   refine ln rfl ?_
                   refine ln rfl ?_
                   refine ln rfl ?_
                   refine lm (v := .bool false) rfl rfl ?_
                   refine lm (v := .bool false) rfl rfl ?_
                   refine ln rfl ?_
                   refine ln rfl ?_
                   refine ln rfl ?_
                   refine lm (v := .bool false) rfl rfl ?_
                   refine lm (v := .bool false) rfl rfl ?_
                   refine wpL_done (fun W16 hW16 => ?_)
                   change Code.wp ..
                   refine wp_ret ?_
                   try simp only [inBlock_ret, then_ret]
                   refine bodyPost_ret (v := .bool false) ?_ rfl ?_
                   · kernel_rfl
                   · exact ⟨(bool_is (right_w (by first | (simp [rightX, rul1, rul2, rul3, rul4, rul5, rul8, rul9, rul10, rulW, *] <;> omega) | (rw [Bool.eq_iff_iff]; simp [rightX, rul1, rul2, rul3, rul4, rul5, rul8, rul9, rul10, rulW, *] <;> omega)))), hW16.1⟩
             | true =>
               have h7 : 999999 < b.id := of_decide_eq_true hd7
               clear hd7
               refine ln rfl ?_
               refine ln rfl ?_
               refine ln rfl ?_
               refine ln rfl ?_
               refine ln rfl ?_
               refine ln rfl ?_
               refine ln rfl ?_
               refine ln rfl ?_
               refine ln rfl ?_
               refine lm (v := .bool true) rfl rfl ?_
               refine wpL_done (fun W17 hW17 => ?_)
               change Code.wp ..
               refine wp_cond_true rfl ?_
               refine wp_seq ?_
               refine wp_region_L _ hW17 ?_
               refine lm (v := .bool false) rfl rfl ?_
               refine wpL_done (fun W18 hW18 => ?_)
               change Code.wp ..
               refine wp_ret ?_
               try simp only [inBlock_ret, then_ret]
               refine bodyPost_ret (v := .bool false) ?_ rfl ?_
               · kernel_rfl
               · exact ⟨(bool_is (right_w (by first | (simp [rightX, rul1, rul2, rul3, rul4, rul5, rul8, rul9, rul10, rulW, *] <;> omega) | (rw [Bool.eq_iff_iff]; simp [rightX, rul1, rul2, rul3, rul4, rul5, rul8, rul9, rul10, rulW, *] <;> omega)))), hW18.1⟩
           | true =>
             have h6 : b.id < 1 := of_decide_eq_true hd6
             clear hd6
             refine ln rfl ?_
             refine ln rfl ?_
             refine ln rfl ?_
             refine lm (v := .bool true) rfl rfl ?_
             refine lm (v := .bool true) rfl rfl ?_
             refine ln rfl ?_
             refine ln rfl ?_
             refine ln rfl ?_
             refine ln rfl ?_
             refine ln rfl ?_
             refine ln rfl ?_
             refine ln rfl ?_
             refine ln rfl ?_
             refine ln rfl ?_
             refine lm (v := .bool true) rfl rfl ?_
             refine wpL_done (fun W19 hW19 => ?_)
             change Code.wp ..
             refine wp_cond_true rfl ?_
             refine wp_seq ?_
             refine wp_region_L _ hW19 ?_
             refine lm (v := .bool false) rfl rfl ?_
             refine wpL_done (fun W20 hW20 => ?_)
             change Code.wp ..
             refine wp_ret ?_
             try simp only [inBlock_ret, then_ret]
             refine bodyPost_ret (v := .bool false) ?_ rfl ?_
             · kernel_rfl
             · exact ⟨(bool_is (right_w (by first | (simp [rightX, rul1, rul2, rul3, rul4, rul5, rul8, rul9, rul10, rulW, *] <;> omega) | (rw [Bool.eq_iff_iff]; simp [rightX, rul1, rul2, rul3, rul4, rul5, rul8, rul9, rul10, rulW, *] <;> omega)))), hW20.1⟩
         | true =>
           have h5 : 40000 < b.kilos := of_decide_eq_true hd5
           clear hd5
           refine ln rfl ?_
           refine ln rfl ?_
           refine ln rfl ?_
           refine ln rfl ?_
           refine ln rfl ?_
           refine ln rfl ?_
           refine ln rfl ?_
           refine ln rfl ?_
           refine lm (v := .bool true) rfl rfl ?_
           refine wpL_done (fun W21 hW21 => ?_)
           change Code.wp ..
           refine wp_cond_true rfl ?_
           refine wp_seq ?_
           refine wp_region_L _ hW21 ?_
           refine lm (v := .bool false) rfl rfl ?_
           refine wpL_done (fun W22 hW22 => ?_)
           change Code.wp ..
           refine wp_ret ?_
           try simp only [inBlock_ret, then_ret]
           refine bodyPost_ret (v := .bool false) ?_ rfl ?_
           · kernel_rfl
           · exact ⟨(bool_is (right_w (by first | (simp [rightX, rul1, rul2, rul3, rul4, rul5, rul8, rul9, rul10, rulW, *] <;> omega) | (rw [Bool.eq_iff_iff]; simp [rightX, rul1, rul2, rul3, rul4, rul5, rul8, rul9, rul10, rulW, *] <;> omega)))), hW22.1⟩
       | true =>
         have h4 : b.kilos < 1 := of_decide_eq_true hd4
         clear hd4
         refine ln rfl ?_
         refine ln rfl ?_
         refine ln rfl ?_
         refine lm (v := .bool true) rfl rfl ?_
         refine lm (v := .bool true) rfl rfl ?_
         refine ln rfl ?_
         refine ln rfl ?_
         refine ln rfl ?_
         refine ln rfl ?_
         refine ln rfl ?_
         refine ln rfl ?_
         refine ln rfl ?_
         refine ln rfl ?_
         refine lm (v := .bool true) rfl rfl ?_
         refine wpL_done (fun W23 hW23 => ?_)
         change Code.wp ..
         refine wp_cond_true rfl ?_
         refine wp_seq ?_
         refine wp_region_L _ hW23 ?_
         refine lm (v := .bool false) rfl rfl ?_
         refine wpL_done (fun W24 hW24 => ?_)
         change Code.wp ..
         refine wp_ret ?_
         try simp only [inBlock_ret, then_ret]
         refine bodyPost_ret (v := .bool false) ?_ rfl ?_
         · kernel_rfl
         · exact ⟨(bool_is (right_w (by first | (simp [rightX, rul1, rul2, rul3, rul4, rul5, rul8, rul9, rul10, rulW, *] <;> omega) | (rw [Bool.eq_iff_iff]; simp [rightX, rul1, rul2, rul3, rul4, rul5, rul8, rul9, rul10, rulW, *] <;> omega)))), hW24.1⟩
     | true =>
       refine lm (v := .pointer (some ⟨g1, 2, none⟩)) rfl rfl ?_
       refine lv (v := .int .u8 ((b.size : Nat) : Int)) rfl rfl (yb_cell (off := 2) rfl Tw.kr Tw.m0 Tryd.underlying5 rfl Tw.kr) ?_
       refine lp (v := .bool false) rfl rfl (run_bin rfl (vx := (.int .u8 ((b.size : Nat) : Int))) (vy := (.int .u8 ((20 : Nat) : Int))) Tw.kr Tw.kr fun w => bn_eql (decide_eq_false (by assumption)) w) ?_
       refine lm (v := .bool false) rfl rfl ?_
       refine lm (v := .bool false) rfl rfl ?_
       refine wpL_done (fun W25 hW25 => ?_)
       change Code.wp ..
       refine wp_cond_false rfl ?_
       refine wp_skip ?_
       change Code.wp ..
       refine wp_seq ?_
       refine wp_seq ?_
       refine wp_region_L _ hW25 ?_
       refine lm (v := .pointer (some ⟨g1, 4, none⟩)) rfl rfl ?_
       refine lv (v := .int .i64 b.kilos) rfl rfl (yb_cell (off := 4) rfl Tw.kr Tw.m0 Tryd.underlying3 rfl Tw.kr) ?_
       refine lp (v := .bool (decide (b.kilos < 1))) rfl rfl (run_bin rfl (vx := (.int .i64 b.kilos)) (vy := (.int .i64 1)) Tw.kr Tw.kr fun w => bi_lss rfl w) ?_
       refine lm (v := .bool (decide (b.kilos < 1))) rfl rfl ?_
       cases hd16 : (decide (b.kilos < 1)) with
       | false =>
         have h16 : ¬ (b.kilos < 1) := of_decide_eq_false hd16
         clear hd16
         refine lm (v := .pointer (some ⟨g1, 4, none⟩)) rfl rfl ?_
         refine lv (v := .int .i64 b.kilos) rfl rfl (yb_cell (off := 4) rfl Tw.kr Tw.m0 Tryd.underlying3 rfl Tw.kr) ?_
         refine lp (v := .bool (decide (40000 < b.kilos))) rfl rfl (run_bin rfl (vx := (.int .i64 b.kilos)) (vy := (.int .i64 40000)) Tw.kr Tw.kr fun w => bi_gtr rfl w) ?_
         refine lm (v := .bool (decide (40000 < b.kilos))) rfl rfl ?_
         refine lm (v := .bool (decide (40000 < b.kilos))) rfl rfl ?_
         cases hd17 : (decide (40000 < b.kilos)) with
         | false =>
           have h17 : ¬ (40000 < b.kilos) := of_decide_eq_false hd17
           clear hd17
           refine lm (v := .pointer (some ⟨g1, 2, none⟩)) rfl rfl ?_
           refine lv (v := .int .u8 ((b.size : Nat) : Int)) rfl rfl (yb_cell (off := 2) rfl Tw.kr Tw.m0 Tryd.underlying5 rfl Tw.kr) ?_
           refine lp (v := .bool false) rfl rfl (run_bin rfl (vx := (.int .u8 ((b.size : Nat) : Int))) (vy := (.int .u8 ((20 : Nat) : Int))) Tw.kr Tw.kr fun w => bn_eql (decide_eq_false (by assumption)) w) ?_
           refine lm (v := .bool false) rfl rfl ?_
           refine ln rfl ?_
           refine ln rfl ?_
           refine ln rfl ?_
           refine lm (v := .bool false) rfl rfl ?_
           refine lm (v := .bool false) rfl rfl ?_
           refine wpL_done (fun W26 hW26 => ?_)
           change Code.wp ..
           refine wp_cond_false rfl ?_
           refine wp_skip ?_
           change Code.wp ..
           refine wp_seq ?_
           refine wp_seq ?_
           refine wp_region_L _ hW26 ?_
           refine lm (v := .pointer (some ⟨g1, 0, none⟩)) rfl rfl ?_
           refine lv (v := .int .i64 b.id) rfl rfl (yb_cell (off := 0) rfl Tw.kr Tw.m0 Tryd.underlying3 rfl Tw.kr) ?_
           refine lp (v := .bool (decide (b.id < 1))) rfl rfl (run_bin rfl (vx := (.int .i64 b.id)) (vy := (.int .i64 1)) Tw.kr Tw.kr fun w => bi_lss rfl w) ?_
           refine lm (v := .bool (decide (b.id < 1))) rfl rfl ?_
           cases hd18 : (decide (b.id < 1)) with
           | false =>
             have h18 : ¬ (b.id < 1) := of_decide_eq_false hd18
             clear hd18
             refine lm (v := .pointer (some ⟨g1, 0, none⟩)) rfl rfl ?_
             refine lv (v := .int .i64 b.id) rfl rfl (yb_cell (off := 0) rfl Tw.kr Tw.m0 Tryd.underlying3 rfl Tw.kr) ?_
             refine lp (v := .bool (decide (999999 < b.id))) rfl rfl (run_bin rfl (vx := (.int .i64 b.id)) (vy := (.int .i64 999999)) Tw.kr Tw.kr fun w => bi_gtr rfl w) ?_
             refine lm (v := .bool (decide (999999 < b.id))) rfl rfl ?_
             refine lm (v := .bool (decide (999999 < b.id))) rfl rfl ?_
             cases hd19 : (decide (999999 < b.id)) with
             | false =>
               have h19 : ¬ (999999 < b.id) := of_decide_eq_false hd19
               clear hd19
               refine lm (v := .pointer (some ⟨g1, 1, none⟩)) rfl rfl ?_
               refine lv (v := strV b.num) rfl rfl (yb_cell (off := 1) rfl Tw.kr Tw.m0 Tryd.underlying9 rfl Tw.kr) ?_
               refine lp (v := .bool (!(decide (b.num = [])))) rfl rfl (run_bin rfl (vx := strV b.num) (vy := strV []) Tw.kr Tw.kr fun w => bs_neq rfl w) ?_
               refine lm (v := .bool (!(decide (b.num = [])))) rfl rfl ?_
               cases hd20 : (decide (b.num = [])) with
               | false =>
                 have h20 : ¬ (b.num = []) := of_decide_eq_false hd20
                 clear hd20
                 refine lm (v := .pointer (some ⟨g1, 1, none⟩)) rfl rfl ?_
                 refine lv (v := strV b.num) rfl rfl (yb_cell (off := 1) rfl Tw.kr Tw.m0 Tryd.underlying9 rfl Tw.kr) ?_
                 refine lv (v := .bool (decide (judgeN b.num = 0))) rfl rfl (yb_call (f := 50) (args := #[strV b.num]) Tw.kf fun W hW => RNumber_any b.num W) ?_
                 refine lp (v := .bool (!(decide (judgeN b.num = 0)))) rfl rfl (run_un rfl Tw.kr fun w => un_not w) ?_
                 refine lm (v := .bool (!(decide (judgeN b.num = 0)))) rfl rfl ?_
                 refine lm (v := .bool (!(decide (judgeN b.num = 0)))) rfl rfl ?_
                 refine wpL_done (fun W27 hW27 => ?_)
                 change Code.wp ..
                 cases h21 : (decide (judgeN b.num = 0)) with
                 | false =>
                   refine wp_cond_true rfl ?_
                   refine wp_seq ?_
                   refine wp_region_L _ hW27 ?_
                   refine lm (v := .bool false) rfl rfl ?_
                   refine wpL_done (fun W28 hW28 => ?_)
                   change Code.wp ..
                   refine wp_ret ?_
                   try simp only [inBlock_ret, then_ret]
                   refine bodyPost_ret (v := .bool false) ?_ rfl ?_
                   · kernel_rfl
                   · exact ⟨(bool_is (right_w (by first | (simp [rightX, rul1, rul2, rul3, rul4, rul5, rul8, rul9, rul10, rulW, *] <;> omega) | (rw [Bool.eq_iff_iff]; simp [rightX, rul1, rul2, rul3, rul4, rul5, rul8, rul9, rul10, rulW, *] <;> omega)))), hW28.1⟩
                 | true =>
                   refine wp_cond_false rfl ?_
                   refine wp_skip ?_
                   change Code.wp ..
                   refine wp_seq ?_
                   refine wp_region_L _ hW27 ?_
                   refine lm (v := .pointer (some ⟨g1, 5, none⟩)) rfl rfl ?_
                   refine lv (v := .int .i64 b.load) rfl rfl (yb_cell (off := 5) rfl Tw.kr Tw.m0 Tryd.underlying3 rfl Tw.kr) ?_
                   refine lp (v := .bool (!(decide (b.load < 0)))) rfl rfl (run_bin rfl (vx := (.int .i64 0)) (vy := (.int .i64 b.load)) Tw.kr Tw.kr fun w => bi_leq rfl w) ?_
                   refine lm (v := .bool (!(decide (b.load < 0)))) rfl rfl ?_
                   cases hd22 : (decide (b.load < 0)) with
                   | false =>
                     have h22 : ¬ (b.load < 0) := of_decide_eq_false hd22
                     clear hd22
                     refine lm (v := .pointer (some ⟨g1, 5, none⟩)) rfl rfl ?_
                     refine lv (v := .int .i64 b.load) rfl rfl (yb_cell (off := 5) rfl Tw.kr Tw.m0 Tryd.underlying3 rfl Tw.kr) ?_
                     refine lm (v := .pointer (some ⟨g1, 6, none⟩)) rfl rfl ?_
                     refine lv (v := .int .i64 b.dis) rfl rfl (yb_cell (off := 6) rfl Tw.kr Tw.m0 Tryd.underlying3 rfl Tw.kr) ?_
                     refine lp (v := .bool (decide (b.load < b.dis))) rfl rfl (run_bin rfl (vx := (.int .i64 b.load)) (vy := (.int .i64 b.dis)) Tw.kr Tw.kr fun w => bi_lss rfl w) ?_
                     refine lm (v := .bool (decide (b.load < b.dis))) rfl rfl ?_
                     refine lm (v := .bool (decide (b.load < b.dis))) rfl rfl ?_
                     cases hd23 : (decide (b.load < b.dis)) with
                     | false =>
                       have h23 : ¬ (b.load < b.dis) := of_decide_eq_false hd23
                       clear hd23
                       refine ln rfl ?_
                       refine ln rfl ?_
                       refine ln rfl ?_
                       refine lm (v := .bool false) rfl rfl ?_
                       refine lm (v := .bool false) rfl rfl ?_
                       refine ln rfl ?_
                       refine ln rfl ?_
                       refine ln rfl ?_
                       refine lm (v := .bool false) rfl rfl ?_
                       refine lm (v := .bool false) rfl rfl ?_
                       refine wpL_done (fun W29 hW29 => ?_)
                       change Code.wp ..
                       refine wp_ret ?_
                       try simp only [inBlock_ret, then_ret]
                       refine bodyPost_ret (v := .bool false) ?_ rfl ?_
                       · kernel_rfl
                       · exact ⟨(bool_is (right_w (by first | (simp [rightX, rul1, rul2, rul3, rul4, rul5, rul8, rul9, rul10, rulW, *] <;> omega) | (rw [Bool.eq_iff_iff]; simp [rightX, rul1, rul2, rul3, rul4, rul5, rul8, rul9, rul10, rulW, *] <;> omega)))), hW29.1⟩
                     | true =>
                       have h23 : b.load < b.dis := of_decide_eq_true hd23
                       clear hd23
                       refine lm (v := .pointer (some ⟨g1, 6, none⟩)) rfl rfl ?_
                       refine lv (v := .int .i64 b.dis) rfl rfl (yb_cell (off := 6) rfl Tw.kr Tw.m0 Tryd.underlying3 rfl Tw.kr) ?_
                       refine lp (v := .bool (decide (b.dis < 20))) rfl rfl (run_bin rfl (vx := (.int .i64 b.dis)) (vy := (.int .i64 20)) Tw.kr Tw.kr fun w => bi_lss rfl w) ?_
                       refine lm (v := .bool (decide (b.dis < 20))) rfl rfl ?_
                       refine lm (v := .bool (decide (b.dis < 20))) rfl rfl ?_
                       cases hd24 : (decide (b.dis < 20)) with
                       | false =>
                         have h24 : ¬ (b.dis < 20) := of_decide_eq_false hd24
                         clear hd24
                         refine ln rfl ?_
                         refine ln rfl ?_
                         refine ln rfl ?_
                         refine lm (v := .bool false) rfl rfl ?_
                         refine lm (v := .bool false) rfl rfl ?_
                         refine wpL_done (fun W30 hW30 => ?_)
                         change Code.wp ..
                         refine wp_ret ?_
                         try simp only [inBlock_ret, then_ret]
                         refine bodyPost_ret (v := .bool false) ?_ rfl ?_
                         · kernel_rfl
                         · exact ⟨(bool_is (right_w (by first | (simp [rightX, rul1, rul2, rul3, rul4, rul5, rul8, rul9, rul10, rulW, *] <;> omega) | (rw [Bool.eq_iff_iff]; simp [rightX, rul1, rul2, rul3, rul4, rul5, rul8, rul9, rul10, rulW, *] <;> omega)))), hW30.1⟩
                       | true =>
                         have h24 : b.dis < 20 := of_decide_eq_true hd24
                         clear hd24
                         refine lm (v := .pointer (some ⟨g1, 7, none⟩)) rfl rfl ?_
                         refine lv (v := .int .u8 ((b.cls : Nat) : Int)) rfl rfl (yb_cell (off := 7) rfl Tw.kr Tw.m0 Tryd.underlying5 rfl Tw.kr) ?_
                         refine lp (v := .bool (decide (b.cls < 10))) rfl rfl (run_bin rfl (vx := (.int .u8 ((b.cls : Nat) : Int))) (vy := (.int .u8 ((10 : Nat) : Int))) Tw.kr Tw.kr fun w => bn_lss rfl w) ?_
                         refine lm (v := .bool (decide (b.cls < 10))) rfl rfl ?_
                         refine lm (v := .bool (decide (b.cls < 10))) rfl rfl ?_
                         refine wpL_done (fun W31 hW31 => ?_)
                         change Code.wp ..
                         refine wp_ret ?_
                         try simp only [inBlock_ret, then_ret]
                         refine bodyPost_ret (v := .bool (decide (b.cls < 10))) ?_ rfl ?_
                         · kernel_rfl
                         · exact ⟨(bool_is (right_w (by first | (simp [rightX, rul1, rul2, rul3, rul4, rul5, rul8, rul9, rul10, rulW, *] <;> omega) | (rw [Bool.eq_iff_iff]; simp [rightX, rul1, rul2, rul3, rul4, rul5, rul8, rul9, rul10, rulW, *] <;> omega)))), hW31.1⟩
                   | true =>
                     have h22 : b.load < 0 := of_decide_eq_true hd22
                     clear hd22
                     refine ln rfl ?_
                     refine ln rfl ?_
                     refine ln rfl ?_
                     refine ln rfl ?_
                     refine ln rfl ?_
                     refine lm (v := .bool false) rfl rfl ?_
                     refine lm (v := .bool false) rfl rfl ?_
                     refine ln rfl ?_
                     refine ln rfl ?_
                     refine ln rfl ?_
                     refine lm (v := .bool false) rfl rfl ?_
                     refine lm (v := .bool false) rfl rfl ?_
                     refine ln rfl ?_
                     refine ln rfl ?_
                     refine ln rfl ?_
                     refine lm (v := .bool false) rfl rfl ?_
                     refine lm (v := .bool false) rfl rfl ?_
                     refine wpL_done (fun W32 hW32 => ?_)
                     change Code.wp ..
                     refine wp_ret ?_
                     try simp only [inBlock_ret, then_ret]
                     refine bodyPost_ret (v := .bool false) ?_ rfl ?_
                     · kernel_rfl
                     · exact ⟨(bool_is (right_w (by first | (simp [rightX, rul1, rul2, rul3, rul4, rul5, rul8, rul9, rul10, rulW, *] <;> omega) | (rw [Bool.eq_iff_iff]; simp [rightX, rul1, rul2, rul3, rul4, rul5, rul8, rul9, rul10, rulW, *] <;> omega)))), hW32.1⟩
               | true =>
                 have h20 : b.num = [] := of_decide_eq_true hd20
                 clear hd20
                 refine ln rfl ?_
                 refine ln rfl ?_
                 refine ln rfl ?_
                 refine ln rfl ?_
                 refine lm (v := .bool false) rfl rfl ?_
                 refine lm (v := .bool false) rfl rfl ?_
                 refine wpL_done (fun W33 hW33 => ?_)
                 change Code.wp ..
                 refine wp_cond_false rfl ?_
                 refine wp_skip ?_
                 change Code.wp ..
                 refine wp_seq ?_
                 refine wp_region_L _ hW33 ?_
                 refine lm (v := .pointer (some ⟨g1, 5, none⟩)) rfl rfl ?_
                 refine lv (v := .int .i64 b.load) rfl rfl (yb_cell (off := 5) rfl Tw.kr Tw.m0 Tryd.underlying3 rfl Tw.kr) ?_
                 refine lp (v := .bool (!(decide (b.load < 0)))) rfl rfl (run_bin rfl (vx := (.int .i64 0)) (vy := (.int .i64 b.load)) Tw.kr Tw.kr fun w => bi_leq rfl w) ?_
                 refine lm (v := .bool (!(decide (b.load < 0)))) rfl rfl ?_
                 cases hd25 : (decide (b.load < 0)) with
                 | false =>
                   have h25 : ¬ (b.load < 0) := of_decide_eq_false hd25
                   clear hd25
                   refine lm (v := .pointer (some ⟨g1, 5, none⟩)) rfl rfl ?_
                   refine lv (v := .int .i64 b.load) rfl rfl (yb_cell (off := 5) rfl Tw.kr Tw.m0 Tryd.underlying3 rfl Tw.kr) ?_
                   refine lm (v := .pointer (some ⟨g1, 6, none⟩)) rfl rfl ?_
                   refine lv (v := .int .i64 b.dis) rfl rfl (yb_cell (off := 6) rfl Tw.kr Tw.m0 Tryd.underlying3 rfl Tw.kr) ?_
                   refine lp (v := .bool (decide (b.load < b.dis))) rfl rfl (run_bin rfl (vx := (.int .i64 b.load)) (vy := (.int .i64 b.dis)) Tw.kr Tw.kr fun w => bi_lss rfl w) ?_
                   refine lm (v := .bool (decide (b.load < b.dis))) rfl rfl ?_
                   refine lm (v := .bool (decide (b.load < b.dis))) rfl rfl ?_
                   cases hd26 : (decide (b.load < b.dis)) with
                   | false =>
                     have h26 : ¬ (b.load < b.dis) := of_decide_eq_false hd26
                     clear hd26
                     refine ln rfl ?_
                     refine ln rfl ?_
                     refine ln rfl ?_
                     refine lm (v := .bool false) rfl rfl ?_
                     refine lm (v := .bool false) rfl rfl ?_
                     refine ln rfl ?_
                     refine ln rfl ?_
                     refine ln rfl ?_
                     refine lm (v := .bool false) rfl rfl ?_
                     refine lm (v := .bool false) rfl rfl ?_
                     refine wpL_done (fun W34 hW34 => ?_)
                     change Code.wp ..
                     refine wp_ret ?_
                     try simp only [inBlock_ret, then_ret]
                     refine bodyPost_ret (v := .bool false) ?_ rfl ?_
                     · kernel_rfl
                     · exact ⟨(bool_is (right_w (by first | (simp [rightX, rul1, rul2, rul3, rul4, rul5, rul8, rul9, rul10, rulW, *] <;> omega) | (rw [Bool.eq_iff_iff]; simp [rightX, rul1, rul2, rul3, rul4, rul5, rul8, rul9, rul10, rulW, *] <;> omega)))), hW34.1⟩
                   | true =>
                     have h26 : b.load < b.dis := of_decide_eq_true hd26
                     clear hd26
                     refine lm (v := .pointer (some ⟨g1, 6, none⟩)) rfl rfl ?_
                     refine lv (v := .int .i64 b.dis) rfl rfl (yb_cell (off := 6) rfl Tw.kr Tw.m0 Tryd.underlying3 rfl Tw.kr) ?_
                     refine lp (v := .bool (decide (b.dis < 20))) rfl rfl (run_bin rfl (vx := (.int .i64 b.dis)) (vy := (.int .i64 20)) Tw.kr Tw.kr fun w => bi_lss rfl w) ?_
                     refine lm (v := .bool (decide (b.dis < 20))) rfl rfl ?_
                     refine lm (v := .bool (decide (b.dis < 20))) rfl rfl ?_
                     cases hd27 : (decide (b.dis < 20)) with
                     | false =>
                       have h27 : ¬ (b.dis < 20) := of_decide_eq_false hd27
                       clear hd27
                       refine ln rfl ?_
                       refine ln rfl ?_
                       refine ln rfl ?_
                       refine lm (v := .bool false) rfl rfl ?_
                       refine lm (v := .bool false) rfl rfl ?_
                       refine wpL_done (fun W35 hW35 => ?_)
                       change Code.wp ..
                       refine wp_ret ?_
                       try simp only [inBlock_ret, then_ret]
                       refine bodyPost_ret (v := .bool false) ?_ rfl ?_
                       · kernel_rfl
                       · exact ⟨(bool_is (right_w (by first | (simp [rightX, rul1, rul2, rul3, rul4, rul5, rul8, rul9, rul10, rulW, *] <;> omega) | (rw [Bool.eq_iff_iff]; simp [rightX, rul1, rul2, rul3, rul4, rul5, rul8, rul9, rul10, rulW, *] <;> omega)))), hW35.1⟩
                     | true =>
                       have h27 : b.dis < 20 := of_decide_eq_true hd27
                       clear hd27
                       refine lm (v := .pointer (some ⟨g1, 7, none⟩)) rfl rfl ?_
                       refine lv (v := .int .u8 ((b.cls : Nat) : Int)) rfl rfl (yb_cell (off := 7) rfl Tw.kr Tw.m0 Tryd.underlying5 rfl Tw.kr) ?_
                       refine lp (v := .bool (decide (b.cls < 10))) rfl rfl (run_bin rfl (vx := (.int .u8 ((b.cls : Nat) : Int))) (vy := (.int .u8 ((10 : Nat) : Int))) Tw.kr Tw.kr fun w => bn_lss rfl w) ?_
                       refine lm (v := .bool (decide (b.cls < 10))) rfl rfl ?_
                       refine lm (v := .bool (decide (b.cls < 10))) rfl rfl ?_
                       refine wpL_done (fun W36 hW36 => ?_)
                       change Code.wp ..
                       refine wp_ret ?_
                       try simp only [inBlock_ret, then_ret]
                       refine bodyPost_ret (v := .bool (decide (b.cls < 10))) ?_ rfl ?_
                       · kernel_rfl
                       · exact ⟨(bool_is (right_w (by first | (simp [rightX, rul1, rul2, rul3, rul4, rul5, rul8, rul9, rul10, rulW, *] <;> omega) | (rw [Bool.eq_iff_iff]; simp [rightX, rul1, rul2, rul3, rul4, rul5, rul8, rul9, rul10, rulW, *] <;> omega)))), hW36.1⟩
                 | true =>
                   have h25 : b.load < 0 := of_decide_eq_true hd25
                   clear hd25
                   refine ln rfl ?_
                   refine ln rfl ?_
                   refine ln rfl ?_
                   refine ln rfl ?_
                   refine ln rfl ?_
                   refine lm (v := .bool false) rfl rfl ?_
                   refine lm (v := .bool false) rfl rfl ?_
                   refine ln rfl ?_
                   refine ln rfl ?_
                   refine ln rfl ?_
                   refine lm (v := .bool false) rfl rfl ?_
                   refine lm (v := .bool false) rfl rfl ?_
                   refine ln rfl ?_
                   refine ln rfl ?_
                   refine ln rfl ?_
                   refine lm (v := .bool false) rfl rfl ?_
                   refine lm (v := .bool false) rfl rfl ?_
                   refine wpL_done (fun W37 hW37 => ?_)
                   change Code.wp ..
                   refine wp_ret ?_
                   try simp only [inBlock_ret, then_ret]
                   refine bodyPost_ret (v := .bool false) ?_ rfl ?_
                   · kernel_rfl
                   · exact ⟨(bool_is (right_w (by first | (simp [rightX, rul1, rul2, rul3, rul4, rul5, rul8, rul9, rul10, rulW, *] <;> omega) | (rw [Bool.eq_iff_iff]; simp [rightX, rul1, rul2, rul3, rul4, rul5, rul8, rul9, rul10, rulW, *] <;> omega)))), hW37.1⟩
             | true =>
               have h19 : 999999 < b.id := of_decide_eq_true hd19
               clear hd19
               refine ln rfl ?_
               refine ln rfl ?_
               refine ln rfl ?_
               refine ln rfl ?_
               refine ln rfl ?_
               refine ln rfl ?_
               refine ln rfl ?_
               refine ln rfl ?_
               refine ln rfl ?_
               refine lm (v := .bool true) rfl rfl ?_
               refine wpL_done (fun W38 hW38 => ?_)
               change Code.wp ..
               refine wp_cond_true rfl ?_
               refine wp_seq ?_
               refine wp_region_L _ hW38 ?_
               refine lm (v := .bool false) rfl rfl ?_
               refine wpL_done (fun W39 hW39 => ?_)
               change Code.wp ..
               refine wp_ret ?_
               try simp only [inBlock_ret, then_ret]
               refine bodyPost_ret (v := .bool false) ?_ rfl ?_
               · kernel_rfl
               · exact ⟨(bool_is (right_w (by first | (simp [rightX, rul1, rul2, rul3, rul4, rul5, rul8, rul9, rul10, rulW, *] <;> omega) | (rw [Bool.eq_iff_iff]; simp [rightX, rul1, rul2, rul3, rul4, rul5, rul8, rul9, rul10, rulW, *] <;> omega)))), hW39.1⟩
           | true =>
             have h18 : b.id < 1 := of_decide_eq_true hd18
             clear hd18
             refine ln rfl ?_
             refine ln rfl ?_
             refine ln rfl ?_
             refine lm (v := .bool true) rfl rfl ?_
             refine lm (v := .bool true) rfl rfl ?_
             refine ln rfl ?_
             refine ln rfl ?_
             refine ln rfl ?_
             refine ln rfl ?_
             refine ln rfl ?_
             refine ln rfl ?_
             refine ln rfl ?_
             refine ln rfl ?_
             refine ln rfl ?_
             refine lm (v := .bool true) rfl rfl ?_
             refine wpL_done (fun W40 hW40 => ?_)
             change Code.wp ..
             refine wp_cond_true rfl ?_
             refine wp_seq ?_
             refine wp_region_L _ hW40 ?_
             refine lm (v := .bool false) rfl rfl ?_
             refine wpL_done (fun W41 hW41 => ?_)
             change Code.wp ..
             refine wp_ret ?_
             try simp only [inBlock_ret, then_ret]
             refine bodyPost_ret (v := .bool false) ?_ rfl ?_
             · kernel_rfl
             · exact ⟨(bool_is (right_w (by first | (simp [rightX, rul1, rul2, rul3, rul4, rul5, rul8, rul9, rul10, rulW, *] <;> omega) | (rw [Bool.eq_iff_iff]; simp [rightX, rul1, rul2, rul3, rul4, rul5, rul8, rul9, rul10, rulW, *] <;> omega)))), hW41.1⟩
         | true =>
           have h17 : 40000 < b.kilos := of_decide_eq_true hd17
           clear hd17
           refine ln rfl ?_
           refine ln rfl ?_
           refine ln rfl ?_
           refine ln rfl ?_
           refine ln rfl ?_
           refine ln rfl ?_
           refine ln rfl ?_
           refine ln rfl ?_
           refine lm (v := .bool true) rfl rfl ?_
           refine wpL_done (fun W42 hW42 => ?_)
           change Code.wp ..
           refine wp_cond_true rfl ?_
           refine wp_seq ?_
           refine wp_region_L _ hW42 ?_
           refine lm (v := .bool false) rfl rfl ?_
           refine wpL_done (fun W43 hW43 => ?_)
           change Code.wp ..
           refine wp_ret ?_
           try simp only [inBlock_ret, then_ret]
           refine bodyPost_ret (v := .bool false) ?_ rfl ?_
           · kernel_rfl
           · exact ⟨(bool_is (right_w (by first | (simp [rightX, rul1, rul2, rul3, rul4, rul5, rul8, rul9, rul10, rulW, *] <;> omega) | (rw [Bool.eq_iff_iff]; simp [rightX, rul1, rul2, rul3, rul4, rul5, rul8, rul9, rul10, rulW, *] <;> omega)))), hW43.1⟩
       | true =>
         have h16 : b.kilos < 1 := of_decide_eq_true hd16
         clear hd16
         refine ln rfl ?_
         refine ln rfl ?_
         refine ln rfl ?_
         refine lm (v := .bool true) rfl rfl ?_
         refine lm (v := .bool true) rfl rfl ?_
         refine ln rfl ?_
         refine ln rfl ?_
         refine ln rfl ?_
         refine ln rfl ?_
         refine ln rfl ?_
         refine ln rfl ?_
         refine ln rfl ?_
         refine ln rfl ?_
         refine lm (v := .bool true) rfl rfl ?_
         refine wpL_done (fun W44 hW44 => ?_)
         change Code.wp ..
         refine wp_cond_true rfl ?_
         refine wp_seq ?_
         refine wp_region_L _ hW44 ?_
         refine lm (v := .bool false) rfl rfl ?_
         refine wpL_done (fun W45 hW45 => ?_)
         change Code.wp ..
         refine wp_ret ?_
         try simp only [inBlock_ret, then_ret]
         refine bodyPost_ret (v := .bool false) ?_ rfl ?_
         · kernel_rfl
         · exact ⟨(bool_is (right_w (by first | (simp [rightX, rul1, rul2, rul3, rul4, rul5, rul8, rul9, rul10, rulW, *] <;> omega) | (rw [Bool.eq_iff_iff]; simp [rightX, rul1, rul2, rul3, rul4, rul5, rul8, rul9, rul10, rulW, *] <;> omega)))), hW45.1⟩
 | true =>
   have h1 : b.size = 20 := of_decide_eq_true hd1
   clear hd1
   refine ln rfl ?_
   refine ln rfl ?_
   refine ln rfl ?_
   refine lm (v := .bool false) rfl rfl ?_
   refine lm (v := .bool false) rfl rfl ?_
   refine lm (v := .pointer (some ⟨g1, 3, none⟩)) rfl rfl ?_
   refine lv (v := .bool b.high) rfl rfl (yb_cell (off := 3) rfl Tw.kr Tw.m0 Tryd.underlying4 rfl Tw.kr) ?_
   refine lm (v := .bool b.high) rfl rfl ?_
   cases h28 : b.high with
   | false =>
     refine ln rfl ?_
     refine ln rfl ?_
     refine ln rfl ?_
     refine lm (v := .bool false) rfl rfl ?_
     refine lm (v := .bool false) rfl rfl ?_
     refine wpL_done (fun W46 hW46 => ?_)
     change Code.wp ..
     refine wp_cond_false rfl ?_
     refine wp_skip ?_
     change Code.wp ..
     refine wp_seq ?_
     refine wp_seq ?_
     refine wp_region_L _ hW46 ?_
     refine lm (v := .pointer (some ⟨g1, 4, none⟩)) rfl rfl ?_
     refine lv (v := .int .i64 b.kilos) rfl rfl (yb_cell (off := 4) rfl Tw.kr Tw.m0 Tryd.underlying3 rfl Tw.kr) ?_
     refine lp (v := .bool (decide (b.kilos < 1))) rfl rfl (run_bin rfl (vx := (.int .i64 b.kilos)) (vy := (.int .i64 1)) Tw.kr Tw.kr fun w => bi_lss rfl w) ?_
     refine lm (v := .bool (decide (b.kilos < 1))) rfl rfl ?_
     cases hd29 : (decide (b.kilos < 1)) with
     | false =>
       have h29 : ¬ (b.kilos < 1) := of_decide_eq_false hd29
       clear hd29
       refine lm (v := .pointer (some ⟨g1, 4, none⟩)) rfl rfl ?_
       refine lv (v := .int .i64 b.kilos) rfl rfl (yb_cell (off := 4) rfl Tw.kr Tw.m0 Tryd.underlying3 rfl Tw.kr) ?_
       refine lp (v := .bool (decide (40000 < b.kilos))) rfl rfl (run_bin rfl (vx := (.int .i64 b.kilos)) (vy := (.int .i64 40000)) Tw.kr Tw.kr fun w => bi_gtr rfl w) ?_
       refine lm (v := .bool (decide (40000 < b.kilos))) rfl rfl ?_
       refine lm (v := .bool (decide (40000 < b.kilos))) rfl rfl ?_
       cases hd30 : (decide (40000 < b.kilos)) with
       | false =>
         have h30 : ¬ (40000 < b.kilos) := of_decide_eq_false hd30
         clear hd30
         refine lm (v := .pointer (some ⟨g1, 2, none⟩)) rfl rfl ?_
         refine lv (v := .int .u8 ((b.size : Nat) : Int)) rfl rfl (yb_cell (off := 2) rfl Tw.kr Tw.m0 Tryd.underlying5 rfl Tw.kr) ?_
         refine lp (v := .bool true) rfl rfl (run_bin rfl (vx := (.int .u8 ((b.size : Nat) : Int))) (vy := (.int .u8 ((20 : Nat) : Int))) Tw.kr Tw.kr fun w => bn_eql (decide_eq_true (by assumption)) w) ?_
         refine lm (v := .bool true) rfl rfl ?_
         refine lm (v := .pointer (some ⟨g1, 4, none⟩)) rfl rfl ?_
         refine lv (v := .int .i64 b.kilos) rfl rfl (yb_cell (off := 4) rfl Tw.kr Tw.m0 Tryd.underlying3 rfl Tw.kr) ?_
         refine lp (v := .bool (decide (32000 < b.kilos))) rfl rfl (run_bin rfl (vx := (.int .i64 b.kilos)) (vy := (.int .i64 32000)) Tw.kr Tw.kr fun w => bi_gtr rfl w) ?_
         refine lm (v := .bool (decide (32000 < b.kilos))) rfl rfl ?_
         refine lm (v := .bool (decide (32000 < b.kilos))) rfl rfl ?_
         refine wpL_done (fun W47 hW47 => ?_)
         change Code.wp ..
         cases hd31 : (decide (32000 < b.kilos)) with
         | false =>
           have h31 : ¬ (32000 < b.kilos) := of_decide_eq_false hd31
           clear hd31
           refine wp_cond_false rfl ?_
           refine wp_skip ?_
           change Code.wp ..
           refine wp_seq ?_
           refine wp_seq ?_
           refine wp_region_L _ hW47 ?_
           refine lm (v := .pointer (some ⟨g1, 0, none⟩)) rfl rfl ?_
           refine lv (v := .int .i64 b.id) rfl rfl (yb_cell (off := 0) rfl Tw.kr Tw.m0 Tryd.underlying3 rfl Tw.kr) ?_
           refine lp (v := .bool (decide (b.id < 1))) rfl rfl (run_bin rfl (vx := (.int .i64 b.id)) (vy := (.int .i64 1)) Tw.kr Tw.kr fun w => bi_lss rfl w) ?_
           refine lm (v := .bool (decide (b.id < 1))) rfl rfl ?_
           cases hd32 : (decide (b.id < 1)) with
           | false =>
             have h32 : ¬ (b.id < 1) := of_decide_eq_false hd32
             clear hd32
             refine lm (v := .pointer (some ⟨g1, 0, none⟩)) rfl rfl ?_
             refine lv (v := .int .i64 b.id) rfl rfl (yb_cell (off := 0) rfl Tw.kr Tw.m0 Tryd.underlying3 rfl Tw.kr) ?_
             refine lp (v := .bool (decide (999999 < b.id))) rfl rfl (run_bin rfl (vx := (.int .i64 b.id)) (vy := (.int .i64 999999)) Tw.kr Tw.kr fun w => bi_gtr rfl w) ?_
             refine lm (v := .bool (decide (999999 < b.id))) rfl rfl ?_
             refine lm (v := .bool (decide (999999 < b.id))) rfl rfl ?_
             cases hd33 : (decide (999999 < b.id)) with
             | false =>
               have h33 : ¬ (999999 < b.id) := of_decide_eq_false hd33
               clear hd33
               refine lm (v := .pointer (some ⟨g1, 1, none⟩)) rfl rfl ?_
               refine lv (v := strV b.num) rfl rfl (yb_cell (off := 1) rfl Tw.kr Tw.m0 Tryd.underlying9 rfl Tw.kr) ?_
               refine lp (v := .bool (!(decide (b.num = [])))) rfl rfl (run_bin rfl (vx := strV b.num) (vy := strV []) Tw.kr Tw.kr fun w => bs_neq rfl w) ?_
               refine lm (v := .bool (!(decide (b.num = [])))) rfl rfl ?_
               cases hd34 : (decide (b.num = [])) with
               | false =>
                 have h34 : ¬ (b.num = []) := of_decide_eq_false hd34
                 clear hd34
                 refine lm (v := .pointer (some ⟨g1, 1, none⟩)) rfl rfl ?_
                 refine lv (v := strV b.num) rfl rfl (yb_cell (off := 1) rfl Tw.kr Tw.m0 Tryd.underlying9 rfl Tw.kr) ?_
                 refine lv (v := .bool (decide (judgeN b.num = 0))) rfl rfl (yb_call (f := 50) (args := #[strV b.num]) Tw.kf fun W hW => RNumber_any b.num W) ?_
                 refine lp (v := .bool (!(decide (judgeN b.num = 0)))) rfl rfl (run_un rfl Tw.kr fun w => un_not w) ?_
                 refine lm (v := .bool (!(decide (judgeN b.num = 0)))) rfl rfl ?_
                 refine lm (v := .bool (!(decide (judgeN b.num = 0)))) rfl rfl ?_
                 refine wpL_done (fun W48 hW48 => ?_)
                 change Code.wp ..
                 cases h35 : (decide (judgeN b.num = 0)) with
                 | false =>
                   refine wp_cond_true rfl ?_
                   refine wp_seq ?_
                   refine wp_region_L _ hW48 ?_
                   refine lm (v := .bool false) rfl rfl ?_
                   refine wpL_done (fun W49 hW49 => ?_)
                   change Code.wp ..
                   refine wp_ret ?_
                   try simp only [inBlock_ret, then_ret]
                   refine bodyPost_ret (v := .bool false) ?_ rfl ?_
                   · kernel_rfl
                   · exact ⟨(bool_is (right_w (by first | (simp [rightX, rul1, rul2, rul3, rul4, rul5, rul8, rul9, rul10, rulW, *] <;> omega) | (rw [Bool.eq_iff_iff]; simp [rightX, rul1, rul2, rul3, rul4, rul5, rul8, rul9, rul10, rulW, *] <;> omega)))), hW49.1⟩
                 | true =>
                   refine wp_cond_false rfl ?_
                   refine wp_skip ?_
                   change Code.wp ..
                   refine wp_seq ?_
                   refine wp_region_L _ hW48 ?_
                   refine lm (v := .pointer (some ⟨g1, 5, none⟩)) rfl rfl ?_
                   refine lv (v := .int .i64 b.load) rfl rfl (yb_cell (off := 5) rfl Tw.kr Tw.m0 Tryd.underlying3 rfl Tw.kr) ?_
                   refine lp (v := .bool (!(decide (b.load < 0)))) rfl rfl (run_bin rfl (vx := (.int .i64 0)) (vy := (.int .i64 b.load)) Tw.kr Tw.kr fun w => bi_leq rfl w) ?_
                   refine lm (v := .bool (!(decide (b.load < 0)))) rfl rfl ?_
                   cases hd36 : (decide (b.load < 0)) with
                   | false =>
                     have h36 : ¬ (b.load < 0) := of_decide_eq_false hd36
                     clear hd36
                     refine lm (v := .pointer (some ⟨g1, 5, none⟩)) rfl rfl ?_
                     refine lv (v := .int .i64 b.load) rfl rfl (yb_cell (off := 5) rfl Tw.kr Tw.m0 Tryd.underlying3 rfl Tw.kr) ?_
                     refine lm (v := .pointer (some ⟨g1, 6, none⟩)) rfl rfl ?_
                     refine lv (v := .int .i64 b.dis) rfl rfl (yb_cell (off := 6) rfl Tw.kr Tw.m0 Tryd.underlying3 rfl Tw.kr) ?_
                     refine lp (v := .bool (decide (b.load < b.dis))) rfl rfl (run_bin rfl (vx := (.int .i64 b.load)) (vy := (.int .i64 b.dis)) Tw.kr Tw.kr fun w => bi_lss rfl w) ?_
                     refine lm (v := .bool (decide (b.load < b.dis))) rfl rfl ?_
                     refine lm (v := .bool (decide (b.load < b.dis))) rfl rfl ?_
                     cases hd37 : (decide (b.load < b.dis)) with
                     | false =>
                       have h37 : ¬ (b.load < b.dis) := of_decide_eq_false hd37
                       clear hd37
                       refine ln rfl ?_
                       refine ln rfl ?_
                       refine ln rfl ?_
                       refine lm (v := .bool false) rfl rfl ?_
                       refine lm (v := .bool false) rfl rfl ?_
                       refine ln rfl ?_
                       refine ln rfl ?_
                       refine ln rfl ?_
                       refine lm (v := .bool false) rfl rfl ?_
                       refine lm (v := .bool false) rfl rfl ?_
                       refine wpL_done (fun W50 hW50 => ?_)
                       change Code.wp ..
                       refine wp_ret ?_
                       try simp only [inBlock_ret, then_ret]
                       refine bodyPost_ret (v := .bool false) ?_ rfl ?_
                       · kernel_rfl
                       · exact ⟨(bool_is (right_w (by first | (simp [rightX, rul1, rul2, rul3, rul4, rul5, rul8, rul9, rul10, rulW, *] <;> omega) | (rw [Bool.eq_iff_iff]; simp [rightX, rul1, rul2, rul3, rul4, rul5, rul8, rul9, rul10, rulW, *] <;> omega)))), hW50.1⟩
                     | true =>
                       have h37 : b.load < b.dis := of_decide_eq_true hd37
                       clear hd37
                       refine lm (v := .pointer (some ⟨g1, 6, none⟩)) rfl rfl ?_
                       refine lv (v := .int .i64 b.dis) rfl rfl (yb_cell (off := 6) rfl Tw.kr Tw.m0 Tryd.underlying3 rfl Tw.kr) ?_
                       refine lp (v := .bool (decide (b.dis < 20))) rfl rfl (run_bin rfl (vx := (.int .i64 b.dis)) (vy := (.int .i64 20)) Tw.kr Tw.kr fun w => bi_lss rfl w) ?_
                       refine lm (v := .bool (decide (b.dis < 20))) rfl rfl ?_
                       refine lm (v := .bool (decide (b.dis < 20))) rfl rfl ?_
                       cases hd38 : (decide (b.dis < 20)) with
                       | false =>
                         have h38 : ¬ (b.dis < 20) := of_decide_eq_false hd38
                         clear hd38
                         refine ln rfl ?_
                         refine ln rfl ?_
                         refine ln rfl ?_
                         refine lm (v := .bool false) rfl rfl ?_
                         refine lm (v := .bool false) rfl rfl ?_
                         refine wpL_done (fun W51 hW51 => ?_)
                         change Code.wp ..
                         refine wp_ret ?_
                         try simp only [inBlock_ret, then_ret]
                         refine bodyPost_ret (v := .bool false) ?_ rfl ?_
                         · kernel_rfl
                         · exact ⟨(bool_is (right_w (by first | (simp [rightX, rul1, rul2, rul3, rul4, rul5, rul8, rul9, rul10, rulW, *] <;> omega) | (rw [Bool.eq_iff_iff]; simp [rightX, rul1, rul2, rul3, rul4, rul5, rul8, rul9, rul10, rulW, *] <;> omega)))), hW51.1⟩
                       | true =>
                         have h38 : b.dis < 20 := of_decide_eq_true hd38
                         clear hd38
                         refine lm (v := .pointer (some ⟨g1, 7, none⟩)) rfl rfl ?_
                         refine lv (v := .int .u8 ((b.cls : Nat) : Int)) rfl rfl (yb_cell (off := 7) rfl Tw.kr Tw.m0 Tryd.underlying5 rfl Tw.kr) ?_
                         refine lp (v := .bool (decide (b.cls < 10))) rfl rfl (run_bin rfl (vx := (.int .u8 ((b.cls : Nat) : Int))) (vy := (.int .u8 ((10 : Nat) : Int))) Tw.kr Tw.kr fun w => bn_lss rfl w) ?_
                         refine lm (v := .bool (decide (b.cls < 10))) rfl rfl ?_
                         refine lm (v := .bool (decide (b.cls < 10))) rfl rfl ?_
                         refine wpL_done (fun W52 hW52 => ?_)
                         change Code.wp ..
                         refine wp_ret ?_
                         try simp only [inBlock_ret, then_ret]
                         refine bodyPost_ret (v := .bool (decide (b.cls < 10))) ?_ rfl ?_
                         · kernel_rfl
                         · exact ⟨(bool_is (right_w (by first | (simp [rightX, rul1, rul2, rul3, rul4, rul5, rul8, rul9, rul10, rulW, *] <;> omega) | (rw [Bool.eq_iff_iff]; simp [rightX, rul1, rul2, rul3, rul4, rul5, rul8, rul9, rul10, rulW, *] <;> omega)))), hW52.1⟩
                   | true =>
                     have h36 : b.load < 0 := of_decide_eq_true hd36
                     clear hd36
                     refine ln rfl ?_
                     refine ln rfl ?_
                     refine ln rfl ?_
                     refine ln rfl ?_
                     refine ln rfl ?_
                     refine lm (v := .bool false) rfl rfl ?_
                     refine lm (v := .bool false) rfl rfl ?_
                     refine ln rfl ?_
                     refine ln rfl ?_
                     refine ln rfl ?_
                     refine lm (v := .bool false) rfl rfl ?_
                     refine lm (v := .bool false) rfl rfl ?_
                     refine ln rfl ?_
                     refine ln rfl ?_
                     refine ln rfl ?_
                     refine lm (v := .bool false) rfl rfl ?_
                     refine lm (v := .bool false) rfl rfl ?_
                     refine wpL_done (fun W53 hW53 => ?_)
                     change Code.wp ..
                     refine wp_ret ?_
                     try simp only [inBlock_ret, then_ret]
                     refine bodyPost_ret (v := .bool false) ?_ rfl ?_
                     · kernel_rfl
                     · exact ⟨(bool_is (right_w (by first | (simp [rightX, rul1, rul2, rul3, rul4, rul5, rul8, rul9, rul10, rulW, *] <;> omega) | (rw [Bool.eq_iff_iff]; simp [rightX, rul1, rul2, rul3, rul4, rul5, rul8, rul9, rul10, rulW, *] <;> omega)))), hW53.1⟩
               | true =>
                 have h34 : b.num = [] := of_decide_eq_true hd34
                 clear hd34
                 refine ln rfl ?_
                 refine ln rfl ?_
                 refine ln rfl ?_
                 refine ln rfl ?_
                 refine lm (v := .bool false) rfl rfl ?_
                 refine lm (v := .bool false) rfl rfl ?_
                 refine wpL_done (fun W54 hW54 => ?_)
                 change Code.wp ..
                 refine wp_cond_false rfl ?_
                 refine wp_skip ?_
                 change Code.wp ..
                 refine wp_seq ?_
                 refine wp_region_L _ hW54 ?_
                 refine lm (v := .pointer (some ⟨g1, 5, none⟩)) rfl rfl ?_
                 refine lv (v := .int .i64 b.load) rfl rfl (yb_cell (off := 5) rfl Tw.kr Tw.m0 Tryd.underlying3 rfl Tw.kr) ?_
                 refine lp (v := .bool (!(decide (b.load < 0)))) rfl rfl (run_bin rfl (vx := (.int .i64 0)) (vy := (.int .i64 b.load)) Tw.kr Tw.kr fun w => bi_leq rfl w) ?_
                 refine lm (v := .bool (!(decide (b.load < 0)))) rfl rfl ?_
                 cases hd39 : (decide (b.load < 0)) with
                 | false =>
                   have h39 : ¬ (b.load < 0) := of_decide_eq_false hd39
                   clear hd39
                   refine lm (v := .pointer (some ⟨g1, 5, none⟩)) rfl rfl ?_
                   refine lv (v := .int .i64 b.load) rfl rfl (yb_cell (off := 5) rfl Tw.kr Tw.m0 Tryd.underlying3 rfl Tw.kr) ?_
                   refine lm (v := .pointer (some ⟨g1, 6, none⟩)) rfl rfl ?_
                   refine lv (v := .int .i64 b.dis) rfl rfl (yb_cell (off := 6) rfl Tw.kr Tw.m0 Tryd.underlying3 rfl Tw.kr) ?_
                   refine lp (v := .bool (decide (b.load < b.dis))) rfl rfl (run_bin rfl (vx := (.int .i64 b.load)) (vy := (.int .i64 b.dis)) Tw.kr Tw.kr fun w => bi_lss rfl w) ?_
                   refine lm (v := .bool (decide (b.load < b.dis))) rfl rfl ?_
                   refine lm (v := .bool (decide (b.load < b.dis))) rfl rfl ?_
                   cases hd40 : (decide (b.load < b.dis)) with
                   | false =>
                     have h40 : ¬ (b.load < b.dis) := of_decide_eq_false hd40
                     clear hd40
                     refine ln rfl ?_
                     refine ln rfl ?_
                     refine ln rfl ?_
                     refine lm (v := .bool false) rfl rfl ?_
                     refine lm (v := .bool false) rfl rfl ?_
                     refine ln rfl ?_
                     refine ln rfl ?_
                     refine ln rfl ?_
                     refine lm (v := .bool false) rfl rfl ?_
                     refine lm (v := .bool false) rfl rfl ?_
                     refine wpL_done (fun W55 hW55 => ?_)
                     change Code.wp ..
                     refine wp_ret ?_
                     try simp only [inBlock_ret, then_ret]
                     refine bodyPost_ret (v := .bool false) ?_ rfl ?_
                     · kernel_rfl
                     · exact ⟨(bool_is (right_w (by first | (simp [rightX, rul1, rul2, rul3, rul4, rul5, rul8, rul9, rul10, rulW, *] <;> omega) | (rw [Bool.eq_iff_iff]; simp [rightX, rul1, rul2, rul3, rul4, rul5, rul8, rul9, rul10, rulW, *] <;> omega)))), hW55.1⟩
                   | true =>
                     have h40 : b.load < b.dis := of_decide_eq_true hd40
                     clear hd40
                     refine lm (v := .pointer (some ⟨g1, 6, none⟩)) rfl rfl ?_
                     refine lv (v := .int .i64 b.dis) rfl rfl (yb_cell (off := 6) rfl Tw.kr Tw.m0 Tryd.underlying3 rfl Tw.kr) ?_
                     refine lp (v := .bool (decide (b.dis < 20))) rfl rfl (run_bin rfl (vx := (.int .i64 b.dis)) (vy := (.int .i64 20)) Tw.kr Tw.kr fun w => bi_lss rfl w) ?_
                     refine lm (v := .bool (decide (b.dis < 20))) rfl rfl ?_
                     refine lm (v := .bool (decide (b.dis < 20))) rfl rfl ?_
                     cases hd41 : (decide (b.dis < 20)) with
                     | false =>
                       have h41 : ¬ (b.dis < 20) := of_decide_eq_false hd41
                       clear hd41
                       refine ln rfl ?_
                       refine ln rfl ?_
                       refine ln rfl ?_
                       refine lm (v := .bool false) rfl rfl ?_
                       refine lm (v := .bool false) rfl rfl ?_
                       refine wpL_done (fun W56 hW56 => ?_)
                       change Code.wp ..
                       refine wp_ret ?_
                       try simp only [inBlock_ret, then_ret]
                       refine bodyPost_ret (v := .bool false) ?_ rfl ?_
                       · kernel_rfl
                       · exact ⟨(bool_is (right_w (by first | (simp [rightX, rul1, rul2, rul3, rul4, rul5, rul8, rul9, rul10, rulW, *] <;> omega) | (rw [Bool.eq_iff_iff]; simp [rightX, rul1, rul2, rul3, rul4, rul5, rul8, rul9, rul10, rulW, *] <;> omega)))), hW56.1⟩
                     | true =>
                       have h41 : b.dis < 20 := of_decide_eq_true hd41
                       clear hd41
                       refine lm (v := .pointer (some ⟨g1, 7, none⟩)) rfl rfl ?_
                       refine lv (v := .int .u8 ((b.cls : Nat) : Int)) rfl rfl (yb_cell (off := 7) rfl Tw.kr Tw.m0 Tryd.underlying5 rfl Tw.kr) ?_
                       refine lp (v := .bool (decide (b.cls < 10))) rfl rfl (run_bin rfl (vx := (.int .u8 ((b.cls : Nat) : Int))) (vy := (.int .u8 ((10 : Nat) : Int))) Tw.kr Tw.kr fun w => bn_lss rfl w) ?_
                       refine lm (v := .bool (decide (b.cls < 10))) rfl rfl ?_
                       refine lm (v := .bool (decide (b.cls < 10))) rfl rfl ?_
                       refine wpL_done (fun W57 hW57 => ?_)
                       change Code.wp ..
                       refine wp_ret ?_
                       try simp only [inBlock_ret, then_ret]
                       refine bodyPost_ret (v := .bool (decide (b.cls < 10))) ?_ rfl ?_
                       · kernel_rfl
                       · exact ⟨(bool_is (right_w (by first | (simp [rightX, rul1, rul2, rul3, rul4, rul5, rul8, rul9, rul10, rulW, *] <;> omega) | (rw [Bool.eq_iff_iff]; simp [rightX, rul1, rul2, rul3, rul4, rul5, rul8, rul9, rul10, rulW, *] <;> omega)))), hW57.1⟩
                 | true =>
                   have h39 : b.load < 0 := of_decide_eq_true hd39
                   clear hd39
                   refine ln rfl ?_
                   refine ln rfl ?_
                   refine ln rfl ?_
                   refine ln rfl ?_
                   refine ln rfl ?_
                   refine lm (v := .bool false) rfl rfl ?_
                   refine lm (v := .bool false) rfl rfl ?_
                   refine ln rfl ?_
                   refine ln rfl ?_
                   refine ln rfl ?_
                   refine lm (v := .bool false) rfl rfl ?_
                   refine lm (v := .bool false) rfl rfl ?_
                   refine ln rfl ?_
                   refine ln rfl ?_
                   refine ln rfl ?_
                   refine lm (v := .bool false) rfl rfl ?_
                   refine lm (v := .bool false) rfl rfl ?_
                   refine wpL_done (fun W58 hW58 => ?_)
                   change Code.wp ..
                   refine wp_ret ?_
                   try simp only [inBlock_ret, then_ret]
                   refine bodyPost_ret (v := .bool false) ?_ rfl ?_
                   · kernel_rfl
                   · exact ⟨(bool_is (right_w (by first | (simp [rightX, rul1, rul2, rul3, rul4, rul5, rul8, rul9, rul10, rulW, *] <;> omega) | (rw [Bool.eq_iff_iff]; simp [rightX, rul1, rul2, rul3, rul4, rul5, rul8, rul9, rul10, rulW, *] <;> omega)))), hW58.1⟩
             | true =>
               have h33 : 999999 < b.id := of_decide_eq_true hd33
               clear hd33
               refine ln rfl ?_
               refine ln rfl ?_
               refine ln rfl ?_
               refine ln rfl ?_
               refine ln rfl ?_
               refine ln rfl ?_
               refine ln rfl ?_
               refine ln rfl ?_
               refine ln rfl ?_
               refine lm (v := .bool true) rfl rfl ?_
               refine wpL_done (fun W59 hW59 => ?_)
               change Code.wp ..
               refine wp_cond_true rfl ?_
               refine wp_seq ?_
               refine wp_region_L _ hW59 ?_
               refine lm (v := .bool false) rfl rfl ?_
               refine wpL_done (fun W60 hW60 => ?_)
               change Code.wp ..
               refine wp_ret ?_
               try simp only [inBlock_ret, then_ret]
               refine bodyPost_ret (v := .bool false) ?_ rfl ?_
               · kernel_rfl
               · exact ⟨(bool_is (right_w (by first | (simp [rightX, rul1, rul2, rul3, rul4, rul5, rul8, rul9, rul10, rulW, *] <;> omega) | (rw [Bool.eq_iff_iff]; simp [rightX, rul1, rul2, rul3, rul4, rul5, rul8, rul9, rul10, rulW, *] <;> omega)))), hW60.1⟩
           | true =>
             have h32 : b.id < 1 := of_decide_eq_true hd32
             clear hd32
             refine ln rfl ?_
             refine ln rfl ?_
             refine ln rfl ?_
             refine lm (v := .bool true) rfl rfl ?_
             refine lm (v := .bool true) rfl rfl ?_
             refine ln rfl ?_
             refine ln rfl ?_
             refine ln rfl ?_
             refine ln rfl ?_
             refine ln rfl ?_
             refine ln rfl ?_
             refine ln rfl ?_
             refine ln rfl ?_
             refine ln rfl ?_
             refine lm (v := .bool true) rfl rfl ?_
             refine wpL_done (fun W61 hW61 => ?_)
             change Code.wp ..
             refine wp_cond_true rfl ?_
             refine wp_seq ?_
             refine wp_region_L _ hW61 ?_
             refine lm (v := .bool false) rfl rfl ?_
             refine wpL_done (fun W62 hW62 => ?_)
             change Code.wp ..
             refine wp_ret ?_
             try simp only [inBlock_ret, then_ret]
             refine bodyPost_ret (v := .bool false) ?_ rfl ?_
             · kernel_rfl
             · exact ⟨(bool_is (right_w (by first | (simp [rightX, rul1, rul2, rul3, rul4, rul5, rul8, rul9, rul10, rulW, *] <;> omega) | (rw [Bool.eq_iff_iff]; simp [rightX, rul1, rul2, rul3, rul4, rul5, rul8, rul9, rul10, rulW, *] <;> omega)))), hW62.1⟩
         | true =>
           have h31 : 32000 < b.kilos := of_decide_eq_true hd31
           clear hd31
           refine wp_cond_true rfl ?_
           refine wp_seq ?_
           refine wp_region_L _ hW47 ?_
           refine lm (v := .bool false) rfl rfl ?_
           refine wpL_done (fun W63 hW63 => ?_)
           change Code.wp ..
           refine wp_ret ?_
           try simp only [inBlock_ret, then_ret]
           refine bodyPost_ret (v := .bool false) ?_ rfl ?_
           · kernel_rfl
           · exact ⟨(bool_is (right_w (by first | (simp [rightX, rul1, rul2, rul3, rul4, rul5, rul8, rul9, rul10, rulW, *] <;> omega) | (rw [Bool.eq_iff_iff]; simp [rightX, rul1, rul2, rul3, rul4, rul5, rul8, rul9, rul10, rulW, *] <;> omega)))), hW63.1⟩
       | true =>
         have h30 : 40000 < b.kilos := of_decide_eq_true hd30
         clear hd30
         refine ln rfl ?_
         refine ln rfl ?_
         refine ln rfl ?_
         refine ln rfl ?_
         refine ln rfl ?_
         refine ln rfl ?_
         refine ln rfl ?_
         refine ln rfl ?_
         refine lm (v := .bool true) rfl rfl ?_
         refine wpL_done (fun W64 hW64 => ?_)
         change Code.wp ..
         refine wp_cond_true rfl ?_
         refine wp_seq ?_
         refine wp_region_L _ hW64 ?_
         refine lm (v := .bool false) rfl rfl ?_
         refine wpL_done (fun W65 hW65 => ?_)
         change Code.wp ..
         refine wp_ret ?_
         try simp only [inBlock_ret, then_ret]
         refine bodyPost_ret (v := .bool false) ?_ rfl ?_
         · kernel_rfl
         · exact ⟨(bool_is (right_w (by first | (simp [rightX, rul1, rul2, rul3, rul4, rul5, rul8, rul9, rul10, rulW, *] <;> omega) | (rw [Bool.eq_iff_iff]; simp [rightX, rul1, rul2, rul3, rul4, rul5, rul8, rul9, rul10, rulW, *] <;> omega)))), hW65.1⟩
     | true =>
       have h29 : b.kilos < 1 := of_decide_eq_true hd29
       clear hd29
       refine ln rfl ?_
       refine ln rfl ?_
       refine ln rfl ?_
       refine lm (v := .bool true) rfl rfl ?_
       refine lm (v := .bool true) rfl rfl ?_
       refine ln rfl ?_
       refine ln rfl ?_
       refine ln rfl ?_
       refine ln rfl ?_
       refine ln rfl ?_
       refine ln rfl ?_
       refine ln rfl ?_
       refine ln rfl ?_
       refine lm (v := .bool true) rfl rfl ?_
       refine wpL_done (fun W66 hW66 => ?_)
       change Code.wp ..
       refine wp_cond_true rfl ?_
       refine wp_seq ?_
       refine wp_region_L _ hW66 ?_
       refine lm (v := .bool false) rfl rfl ?_
       refine wpL_done (fun W67 hW67 => ?_)
       change Code.wp ..
       refine wp_ret ?_
       try simp only [inBlock_ret, then_ret]
       refine bodyPost_ret (v := .bool false) ?_ rfl ?_
       · kernel_rfl
       · exact ⟨(bool_is (right_w (by first | (simp [rightX, rul1, rul2, rul3, rul4, rul5, rul8, rul9, rul10, rulW, *] <;> omega) | (rw [Bool.eq_iff_iff]; simp [rightX, rul1, rul2, rul3, rul4, rul5, rul8, rul9, rul10, rulW, *] <;> omega)))), hW67.1⟩
   | true =>
     refine lm (v := .pointer (some ⟨g1, 2, none⟩)) rfl rfl ?_
     refine lv (v := .int .u8 ((b.size : Nat) : Int)) rfl rfl (yb_cell (off := 2) rfl Tw.kr Tw.m0 Tryd.underlying5 rfl Tw.kr) ?_
     refine lp (v := .bool true) rfl rfl (run_bin rfl (vx := (.int .u8 ((b.size : Nat) : Int))) (vy := (.int .u8 ((20 : Nat) : Int))) Tw.kr Tw.kr fun w => bn_eql (decide_eq_true (by assumption)) w) ?_
     refine lm (v := .bool true) rfl rfl ?_
     refine lm (v := .bool true) rfl rfl ?_
     refine wpL_done (fun W68 hW68 => ?_)
     change Code.wp ..
     refine wp_cond_true rfl ?_
     refine wp_seq ?_
     refine wp_region_L _ hW68 ?_
     refine lm (v := .bool false) rfl rfl ?_
     refine wpL_done (fun W69 hW69 => ?_)
     change Code.wp ..
     refine wp_ret ?_
     try simp only [inBlock_ret, then_ret]
     refine bodyPost_ret (v := .bool false) ?_ rfl ?_
     · kernel_rfl
     · exact ⟨(bool_is (right_w (by first | (simp [rightX, rul1, rul2, rul3, rul4, rul5, rul8, rul9, rul10, rulW, *] <;> omega) | (rw [Bool.eq_iff_iff]; simp [rightX, rul1, rul2, rul3, rul4, rul5, rul8, rul9, rul10, rulW, *] <;> omega)))), hW69.1⟩
set_option maxRecDepth 100000 in
set_option maxHeartbeats 4000000 in
theorem RHeight_any (b : Bx) (w : World) : Calls Tryd.prog 39 #[bxV b] w fun e w' => e = .returned (.int .i64 (((heightX b) : Nat) : Int)) ∧ Below w.heap.size w w' := by
 go_enter Tryd.func39, Tryd.ntmps39
 refine wp_seq ?_
 refine wp_region_L [] (KS.start w) ?_
 refine wpL_new (fun g => .pointer (some ⟨g, 0, none⟩)) (obi := .cells (bxC b) 26 (0, 0)) rfl rfl Tw.kf Tw.pf fun g1 Bg1 Fg1 => ?_
 refine lm (v := .int .i64 0) rfl rfl ?_
 refine wpL_done (fun W1 hW1 => ?_)
 change Code.wp ..
 refine wp_seq ?_
 refine wp_seq ?_
 refine wp_region_L _ hW1 ?_
 refine lm (v := .pointer (some ⟨g1, 3, none⟩)) rfl rfl ?_
 refine lv (v := .bool b.high) rfl rfl (yb_cell (off := 3) rfl Tw.kr Tw.m0 Tryd.underlying4 rfl Tw.kr) ?_
 refine wpL_done (fun W2 hW2 => ?_)
 change Code.wp ..
 cases h1 : b.high with
 | false =>
   refine wp_cond_false rfl ?_
   refine wp_skip ?_
   change Code.wp ..
   refine wp_seq ?_
   refine wp_region_L _ hW2 ?_
   refine lm (v := .int .i64 2591) rfl rfl ?_
   refine wpL_done (fun W3 hW3 => ?_)
   change Code.wp ..
   refine wp_ret ?_
   try simp only [inBlock_ret, then_ret]
   refine bodyPost_ret (v := .int .i64 2591) ?_ rfl ?_
   · kernel_rfl
   · exact ⟨(int_is (by simp [heightX, *])), hW3.1⟩
 | true =>
   refine wp_cond_true rfl ?_
   refine wp_seq ?_
   refine wp_region_L _ hW2 ?_
   refine lm (v := .int .i64 2896) rfl rfl ?_
   refine wpL_done (fun W4 hW4 => ?_)
   change Code.wp ..
   refine wp_ret ?_
   try simp only [inBlock_ret, then_ret]
   refine bodyPost_ret (v := .int .i64 2896) ?_ rfl ?_
   · kernel_rfl
   · exact ⟨(int_is (by simp [heightX, *])), hW4.1⟩
set_option maxRecDepth 100000 in
set_option maxHeartbeats 4000000 in
theorem RHalves_any (b : Bx) (w : World) : Calls Tryd.prog 40 #[bxV b] w fun e w' => e = .returned (.int .i64 (((halvesX b) : Nat) : Int)) ∧ Below w.heap.size w w' := by
 go_enter Tryd.func40, Tryd.ntmps40
 refine wp_seq ?_
 refine wp_region_L [] (KS.start w) ?_
 refine wpL_new (fun g => .pointer (some ⟨g, 0, none⟩)) (obi := .cells (bxC b) 26 (0, 0)) rfl rfl Tw.kf Tw.pf fun g1 Bg1 Fg1 => ?_
 refine lm (v := .int .i64 0) rfl rfl ?_
 refine wpL_done (fun W1 hW1 => ?_)
 change Code.wp ..
 refine wp_seq ?_
 refine wp_seq ?_
 refine wp_region_L _ hW1 ?_
 refine lm (v := .pointer (some ⟨g1, 2, none⟩)) rfl rfl ?_
 refine lv (v := .int .u8 ((b.size : Nat) : Int)) rfl rfl (yb_cell (off := 2) rfl Tw.kr Tw.m0 Tryd.underlying5 rfl Tw.kr) ?_
 refine lp (v := .bool (decide (b.size = 20))) rfl rfl (run_bin rfl (vx := (.int .u8 ((b.size : Nat) : Int))) (vy := (.int .u8 ((20 : Nat) : Int))) Tw.kr Tw.kr fun w => bn_eql rfl w) ?_
 refine lm (v := .bool (decide (b.size = 20))) rfl rfl ?_
 cases hd1 : (decide (b.size = 20)) with
 | false =>
   have h1 : ¬ (b.size = 20) := of_decide_eq_false hd1
   clear hd1
   refine lm (v := .pointer (some ⟨g1, 2, none⟩)) rfl rfl ?_
   refine lv (v := .int .u8 ((b.size : Nat) : Int)) rfl rfl (yb_cell (off := 2) rfl Tw.kr Tw.m0 Tryd.underlying5 rfl Tw.kr) ?_
   refine lp (v := .bool (decide (b.size = 40))) rfl rfl (run_bin rfl (vx := (.int .u8 ((b.size : Nat) : Int))) (vy := (.int .u8 ((40 : Nat) : Int))) Tw.kr Tw.kr fun w => bn_eql rfl w) ?_
   refine lm (v := .bool (decide (b.size = 40))) rfl rfl ?_
   refine wpL_done (fun W2 hW2 => ?_)
   change Code.wp ..
   cases hd2 : (decide (b.size = 40)) with
   | false =>
     have h2 : ¬ (b.size = 40) := of_decide_eq_false hd2
     clear hd2
     refine wp_cond_false rfl ?_
     refine wp_skip ?_
     change Code.wp ..
     refine wp_seq ?_
     refine wp_region_L _ hW2 ?_
     refine lm (v := .int .i64 0) rfl rfl ?_
     refine wpL_done (fun W3 hW3 => ?_)
     change Code.wp ..
     refine wp_ret ?_
     try simp only [inBlock_ret, then_ret]
     refine bodyPost_ret (v := .int .i64 0) ?_ rfl ?_
     · kernel_rfl
     · exact ⟨(int_is (by first | (simp [halvesX, *]; done) | (unfold halvesX; (repeat' split) <;> omega))), hW3.1⟩
   | true =>
     have h2 : b.size = 40 := of_decide_eq_true hd2
     clear hd2
     refine wp_cond_true rfl ?_
     refine wp_seq ?_
     refine wp_region_L _ hW2 ?_
     refine lm (v := .pointer (some ⟨g1, 2, none⟩)) rfl rfl ?_
     refine lv (v := .int .u8 ((b.size : Nat) : Int)) rfl rfl (yb_cell (off := 2) rfl Tw.kr Tw.m0 Tryd.underlying5 rfl Tw.kr) ?_
     refine lp (v := .int .i64 ((b.size : Nat) : Int)) rfl rfl (run_conv rfl (vx := (.int .u8 ((b.size : Nat) : Int))) Tw.kr fun w => cv_int Tryd.underlying5 Tryd.underlying3 (wr_i64 Tw.om) w) ?_
     refine lp (v := .int .i64 (((b.size / 20) : Nat) : Int)) rfl rfl (run_bin rfl (vx := (.int .i64 ((b.size : Nat) : Int))) (vy := (.int .i64 ((20 : Nat) : Int))) Tw.kr Tw.kr fun w => bn_quo (z := (b.size / 20)) rfl Tw.om (wr_i64 Tw.om) w) ?_
     refine lm (v := .int .i64 (((b.size / 20) : Nat) : Int)) rfl rfl ?_
     refine wpL_done (fun W4 hW4 => ?_)
     change Code.wp ..
     refine wp_ret ?_
     try simp only [inBlock_ret, then_ret]
     refine bodyPost_ret (v := .int .i64 (((b.size / 20) : Nat) : Int)) ?_ rfl ?_
     · kernel_rfl
     · exact ⟨(int_is (by first | (simp [halvesX, *]; done) | (unfold halvesX; (repeat' split) <;> omega))), hW4.1⟩
 | true =>
   have h1 : b.size = 20 := of_decide_eq_true hd1
   clear hd1
   refine ln rfl ?_
   refine ln rfl ?_
   refine ln rfl ?_
   refine lm (v := .bool true) rfl rfl ?_
   refine wpL_done (fun W5 hW5 => ?_)
   change Code.wp ..
   refine wp_cond_true rfl ?_
   refine wp_seq ?_
   refine wp_region_L _ hW5 ?_
   refine lm (v := .pointer (some ⟨g1, 2, none⟩)) rfl rfl ?_
   refine lv (v := .int .u8 ((b.size : Nat) : Int)) rfl rfl (yb_cell (off := 2) rfl Tw.kr Tw.m0 Tryd.underlying5 rfl Tw.kr) ?_
   refine lp (v := .int .i64 ((b.size : Nat) : Int)) rfl rfl (run_conv rfl (vx := (.int .u8 ((b.size : Nat) : Int))) Tw.kr fun w => cv_int Tryd.underlying5 Tryd.underlying3 (wr_i64 Tw.om) w) ?_
   refine lp (v := .int .i64 (((b.size / 20) : Nat) : Int)) rfl rfl (run_bin rfl (vx := (.int .i64 ((b.size : Nat) : Int))) (vy := (.int .i64 ((20 : Nat) : Int))) Tw.kr Tw.kr fun w => bn_quo (z := (b.size / 20)) rfl Tw.om (wr_i64 Tw.om) w) ?_
   refine lm (v := .int .i64 (((b.size / 20) : Nat) : Int)) rfl rfl ?_
   refine wpL_done (fun W6 hW6 => ?_)
   change Code.wp ..
   refine wp_ret ?_
   try simp only [inBlock_ret, then_ret]
   refine bodyPost_ret (v := .int .i64 (((b.size / 20) : Nat) : Int)) ?_ rfl ?_
   · kernel_rfl
   · exact ⟨(int_is (by first | (simp [halvesX, *]; done) | (unfold halvesX; (repeat' split) <;> omega))), hW6.1⟩
set_option maxRecDepth 100000 in
set_option maxHeartbeats 4000000 in
theorem RAboard_any (b : Bx) (c : Int) (w : World) : Calls Tryd.prog 41 #[bxV b, .int .i64 c] w fun e w' => e = .returned (.bool (aboardX b c)) ∧ Below w.heap.size w w' := by
 go_enter Tryd.func41, Tryd.ntmps41
 refine wp_seq ?_
 refine wp_region_L [] (KS.start w) ?_
 refine wpL_new (fun g => .pointer (some ⟨g, 0, none⟩)) (obi := .cells (bxC b) 26 (0, 0)) rfl rfl Tw.kf Tw.pf fun g1 Bg1 Fg1 => ?_
 refine lm (v := .bool false) rfl rfl ?_
 refine wpL_done (fun W1 hW1 => ?_)
 change Code.wp ..
 refine wp_seq ?_
 refine wp_region_L _ hW1 ?_
 refine lm (v := .pointer (some ⟨g1, 5, none⟩)) rfl rfl ?_
 refine lv (v := .int .i64 b.load) rfl rfl (yb_cell (off := 5) rfl Tw.kr Tw.m0 Tryd.underlying3 rfl Tw.kr) ?_
 refine lm (v := .int .i64 c) rfl rfl ?_
 refine lp (v := .bool (!(decide (c < b.load)))) rfl rfl (run_bin rfl (vx := (.int .i64 b.load)) (vy := (.int .i64 c)) Tw.kr Tw.kr fun w => bi_leq rfl w) ?_
 refine lm (v := .bool (!(decide (c < b.load)))) rfl rfl ?_
 cases hd1 : (decide (c < b.load)) with
 | false =>
   have h1 : ¬ (c < b.load) := of_decide_eq_false hd1
   clear hd1
   refine lm (v := .int .i64 c) rfl rfl ?_
   refine lm (v := .pointer (some ⟨g1, 6, none⟩)) rfl rfl ?_
   refine lv (v := .int .i64 b.dis) rfl rfl (yb_cell (off := 6) rfl Tw.kr Tw.m0 Tryd.underlying3 rfl Tw.kr) ?_
   refine lp (v := .bool (decide (c < b.dis))) rfl rfl (run_bin rfl (vx := (.int .i64 c)) (vy := (.int .i64 b.dis)) Tw.kr Tw.kr fun w => bi_lss rfl w) ?_
   refine lm (v := .bool (decide (c < b.dis))) rfl rfl ?_
   refine lm (v := .bool (decide (c < b.dis))) rfl rfl ?_
   refine wpL_done (fun W2 hW2 => ?_)
   change Code.wp ..
   refine wp_ret ?_
   try simp only [inBlock_ret, then_ret]
   refine bodyPost_ret (v := .bool (decide (c < b.dis))) ?_ rfl ?_
   · kernel_rfl
   · exact ⟨(bool_is (by simp [aboardX, *] <;> omega)), hW2.1⟩
 | true =>
   have h1 : c < b.load := of_decide_eq_true hd1
   clear hd1
   refine ln rfl ?_
   refine ln rfl ?_
   refine ln rfl ?_
   refine ln rfl ?_
   refine lm (v := .bool false) rfl rfl ?_
   refine lm (v := .bool false) rfl rfl ?_
   refine wpL_done (fun W3 hW3 => ?_)
   change Code.wp ..
   refine wp_ret ?_
   try simp only [inBlock_ret, then_ret]
   refine bodyPost_ret (v := .bool false) ?_ rfl ?_
   · kernel_rfl
   · exact ⟨(bool_is (by simp [aboardX, *] <;> omega)), hW3.1⟩
set_option maxRecDepth 100000 in
set_option maxHeartbeats 4000000 in
theorem RBefore_any (a b : Bx) (w : World) : Calls Tryd.prog 49 #[bxV a, bxV b] w fun e w' => e = .returned (.bool (before a b)) ∧ Below w.heap.size w w' := by
 go_enter Tryd.func49, Tryd.ntmps49
 refine wp_seq ?_
 refine wp_region_L [] (KS.start w) ?_
 refine wpL_new (fun g => .pointer (some ⟨g, 0, none⟩)) (obi := .cells (bxC a) 26 (0, 0)) rfl rfl Tw.kf Tw.pf fun g1 Bg1 Fg1 => ?_
 refine wpL_new (fun g => .pointer (some ⟨g, 0, none⟩)) (obi := .cells (bxC b) 26 (0, 0)) rfl rfl Tw.kf Tw.pf fun g2 Bg2 Fg2 => ?_
 obtain dj3_0 : g1 ≠ g2 := Tw.dkf Fg2
 refine lm (v := .bool false) rfl rfl ?_
 refine wpL_done (fun W1 hW1 => ?_)
 change Code.wp ..
 refine wp_seq ?_
 refine wp_seq ?_
 refine wp_region_L _ hW1 ?_
 refine lm (v := .pointer (some ⟨g1, 6, none⟩)) rfl rfl ?_
 refine lv (v := .int .i64 a.dis) rfl rfl (yb_cell (off := 6) rfl Tw.kr Tw.m1 Tryd.underlying3 rfl Tw.kr) ?_
 refine lm (v := .pointer (some ⟨g2, 6, none⟩)) rfl rfl ?_
 refine lv (v := .int .i64 b.dis) rfl rfl (yb_cell (off := 6) rfl Tw.kr Tw.m0 Tryd.underlying3 rfl Tw.kr) ?_
 refine lp (v := .bool (!(decide (a.dis = b.dis)))) rfl rfl (run_bin rfl (vx := (.int .i64 a.dis)) (vy := (.int .i64 b.dis)) Tw.kr Tw.kr fun w => bi_neq rfl w) ?_
 refine wpL_done (fun W2 hW2 => ?_)
 change Code.wp ..
 cases hd1 : (decide (a.dis = b.dis)) with
 | false =>
   have h1 : ¬ (a.dis = b.dis) := of_decide_eq_false hd1
   clear hd1
   refine wp_cond_true rfl ?_
   refine wp_seq ?_
   refine wp_region_L _ hW2 ?_
   refine lm (v := .pointer (some ⟨g1, 6, none⟩)) rfl rfl ?_
   refine lv (v := .int .i64 a.dis) rfl rfl (yb_cell (off := 6) rfl Tw.kr Tw.m1 Tryd.underlying3 rfl Tw.kr) ?_
   refine lm (v := .pointer (some ⟨g2, 6, none⟩)) rfl rfl ?_
   refine lv (v := .int .i64 b.dis) rfl rfl (yb_cell (off := 6) rfl Tw.kr Tw.m0 Tryd.underlying3 rfl Tw.kr) ?_
   refine lp (v := .bool (decide (b.dis < a.dis))) rfl rfl (run_bin rfl (vx := (.int .i64 a.dis)) (vy := (.int .i64 b.dis)) Tw.kr Tw.kr fun w => bi_gtr rfl w) ?_
   refine lm (v := .bool (decide (b.dis < a.dis))) rfl rfl ?_
   refine wpL_done (fun W3 hW3 => ?_)
   change Code.wp ..
   refine wp_ret ?_
   try simp only [inBlock_ret, then_ret]
   refine bodyPost_ret (v := .bool (decide (b.dis < a.dis))) ?_ rfl ?_
   · kernel_rfl
   · exact ⟨(bool_is (by simp [before, *] <;> omega)), hW3.1⟩
 | true =>
   have h1 : a.dis = b.dis := of_decide_eq_true hd1
   clear hd1
   refine wp_cond_false rfl ?_
   refine wp_skip ?_
   change Code.wp ..
   refine wp_seq ?_
   refine wp_seq ?_
   refine wp_region_L _ hW2 ?_
   refine lm (v := .pointer (some ⟨g1, 4, none⟩)) rfl rfl ?_
   refine lv (v := .int .i64 a.kilos) rfl rfl (yb_cell (off := 4) rfl Tw.kr Tw.m1 Tryd.underlying3 rfl Tw.kr) ?_
   refine lm (v := .pointer (some ⟨g2, 4, none⟩)) rfl rfl ?_
   refine lv (v := .int .i64 b.kilos) rfl rfl (yb_cell (off := 4) rfl Tw.kr Tw.m0 Tryd.underlying3 rfl Tw.kr) ?_
   refine lp (v := .bool (!(decide (a.kilos = b.kilos)))) rfl rfl (run_bin rfl (vx := (.int .i64 a.kilos)) (vy := (.int .i64 b.kilos)) Tw.kr Tw.kr fun w => bi_neq rfl w) ?_
   refine wpL_done (fun W4 hW4 => ?_)
   change Code.wp ..
   cases hd2 : (decide (a.kilos = b.kilos)) with
   | false =>
     have h2 : ¬ (a.kilos = b.kilos) := of_decide_eq_false hd2
     clear hd2
     refine wp_cond_true rfl ?_
     refine wp_seq ?_
     refine wp_region_L _ hW4 ?_
     refine lm (v := .pointer (some ⟨g1, 4, none⟩)) rfl rfl ?_
     refine lv (v := .int .i64 a.kilos) rfl rfl (yb_cell (off := 4) rfl Tw.kr Tw.m1 Tryd.underlying3 rfl Tw.kr) ?_
     refine lm (v := .pointer (some ⟨g2, 4, none⟩)) rfl rfl ?_
     refine lv (v := .int .i64 b.kilos) rfl rfl (yb_cell (off := 4) rfl Tw.kr Tw.m0 Tryd.underlying3 rfl Tw.kr) ?_
     refine lp (v := .bool (decide (b.kilos < a.kilos))) rfl rfl (run_bin rfl (vx := (.int .i64 a.kilos)) (vy := (.int .i64 b.kilos)) Tw.kr Tw.kr fun w => bi_gtr rfl w) ?_
     refine lm (v := .bool (decide (b.kilos < a.kilos))) rfl rfl ?_
     refine wpL_done (fun W5 hW5 => ?_)
     change Code.wp ..
     refine wp_ret ?_
     try simp only [inBlock_ret, then_ret]
     refine bodyPost_ret (v := .bool (decide (b.kilos < a.kilos))) ?_ rfl ?_
     · kernel_rfl
     · exact ⟨(bool_is (by simp [before, *] <;> omega)), hW5.1⟩
   | true =>
     have h2 : a.kilos = b.kilos := of_decide_eq_true hd2
     clear hd2
     refine wp_cond_false rfl ?_
     refine wp_skip ?_
     change Code.wp ..
     refine wp_seq ?_
     refine wp_region_L _ hW4 ?_
     refine lm (v := .pointer (some ⟨g1, 0, none⟩)) rfl rfl ?_
     refine lv (v := .int .i64 a.id) rfl rfl (yb_cell (off := 0) rfl Tw.kr Tw.m1 Tryd.underlying3 rfl Tw.kr) ?_
     refine lm (v := .pointer (some ⟨g2, 0, none⟩)) rfl rfl ?_
     refine lv (v := .int .i64 b.id) rfl rfl (yb_cell (off := 0) rfl Tw.kr Tw.m0 Tryd.underlying3 rfl Tw.kr) ?_
     refine lp (v := .bool (decide (a.id < b.id))) rfl rfl (run_bin rfl (vx := (.int .i64 a.id)) (vy := (.int .i64 b.id)) Tw.kr Tw.kr fun w => bi_lss rfl w) ?_
     refine lm (v := .bool (decide (a.id < b.id))) rfl rfl ?_
     refine wpL_done (fun W6 hW6 => ?_)
     change Code.wp ..
     refine wp_ret ?_
     try simp only [inBlock_ret, then_ret]
     refine bodyPost_ret (v := .bool (decide (a.id < b.id))) ?_ rfl ?_
     · kernel_rfl
     · exact ⟨(bool_is (by simp [before, *] <;> omega)), hW6.1⟩
end Go.Proofs.YtllmpemmknblaaaDoor
namespace Go.Proofs.YtllmpemmknblaaaDoor
open Go Go.RowKit Tw
def numP (n : List UInt8) (b : Bx) : Bool := !decide (n = []) && numIs n b
def idxFrom (p : Bx → Bool) : Nat → List Bx → Int
 | _, [] => -1
 | k, b :: l => if p b = true then ((k : Nat) : Int) else idxFrom p (k + 1) l
section
variable {p : Bx → Bool} {l : List Bx} {k : Nat} {b : Bx}
theorem drop_at (hb : l[k]? = some b) : l.drop k = b :: l.drop (k + 1) := by
 obtain ⟨hk, rfl⟩ := List.getElem?_eq_some_iff.1 hb
 exact List.drop_eq_getElem_cons hk
theorem idx_on (hf : idxFrom p 0 l = idxFrom p k (l.drop k)) (hb : l[k]? = some b) (hp : p b = false) : idxFrom p 0 l = idxFrom p (k + 1) (l.drop (k + 1)) := by
 rw [hf, drop_at hb]
 show (if p b = true then _ else _) = _
 rw [if_neg (by rw [hp]; decide)]
theorem idx_at (hf : idxFrom p 0 l = idxFrom p k (l.drop k)) (hb : l[k]? = some b) (hp : p b = true) : idxFrom p 0 l = ((k : Nat) : Int) := by
 rw [hf, drop_at hb]
 show (if p b = true then _ else _) = _
 rw [if_pos hp]
theorem idx_end (hf : idxFrom p 0 l = idxFrom p k (l.drop k)) (hk : ¬ k < l.length) : idxFrom p 0 l = -1 := by
 rw [hf, List.drop_of_length_le Tw.om]
 rfl
end
theorem idx_find {p : Bx → Bool} : ∀ {l : List Bx} {k : Nat}, (l.find? p = none ∧ idxFrom p k l = -1) ∨ ∃ b j, l.find? p = some b ∧ idxFrom p k l = ((k + j : Nat) : Int) ∧ l[j]? = some b
 | [], _ => .inl ⟨rfl, rfl⟩
 | b :: l, k => by
   cases hp : p b with
   | true => exact .inr ⟨b, 0, by simp [hp], by show (if p b = true then _ else _) = _; rw [if_pos hp]; rfl, rfl⟩
   | false =>
     have e : idxFrom p k (b :: l) = idxFrom p (k + 1) l := by show (if p b = true then _ else _) = _; rw [if_neg (by rw [hp]; decide)]
     rcases idx_find (p := p) (l := l) (k := k + 1) with ⟨h1, h2⟩ | ⟨c, j, h1, h2, h3⟩
     · exact .inl ⟨by simp [hp, h1], by rw [e, h2]⟩
     · exact .inr ⟨c, j + 1, by simp [hp, h1], by rw [e, h2]; omega, h3⟩
theorem seen_mono {l : List Bx} {n : List UInt8} {j k : Nat} (hjk : j ≤ k) (h : seenX l j n = true) : seenX l k n = true := by
 unfold seenX at *
 simp only [Bool.and_eq_true, List.any_eq_true] at *
 refine ⟨h.1, ?_⟩
 obtain ⟨b, hb, h2⟩ := h.2
 refine ⟨b, ?_, h2⟩
 rw [← Nat.min_eq_left hjk, ← List.take_take] at hb
 exact List.mem_of_mem_take hb
theorem seen_no {l : List Bx} {j : Nat} {b : Bx} {n : List UInt8} (hs : seenX l j n = false) (hb : l[j]? = some b) (h : n = [] ∨ ¬ (b.num = n)) : seenX l (j + 1) n = false := by
 rw [seen_succ hb, hs]
 rcases h with h | h <;> simp [h]
theorem seen_yes {l : List Bx} {j : Nat} {b : Bx} {n : List UInt8} (hb : l[j]? = some b) (h0 : ¬ (n = [])) (h : b.num = n) : seenX l (j + 1) n = true := by
 rw [seen_succ hb]
 simp [h0, h]
set_option maxRecDepth 100000 in
set_option maxHeartbeats 4000000 in
theorem RFind_any (l : List Bx) (p : Option Addr) (c : Nat) (n : Int) (hl : l.length ≤ 4000000000) (w : World) (hp : SLV w p (bcs l)) : Calls Tryd.prog 35 #[.slice p l.length c, .int .i64 n] w fun e w' => e = .returned (.int .i64 (idxFrom (idIs n) 0 l)) ∧ Below w.heap.size w w' := by
 have HP := Lib.hid hp
 clear hp
 go_enter Tryd.func35, Tryd.ntmps35
 refine wp_seq ?_
 refine wp_region_L [] (KS.start w) ?_
 refine lm (v := .int .i64 0) rfl rfl ?_
 refine wpL_done (fun W1 hW1 => ?_)
 change Code.wp ..
 refine wp_seq ?_
 refine wp_seq ?_
 refine wp_region_L _ hW1 ?_
 refine lm (v := .int .i64 0) rfl rfl ?_
 refine wpL_done (fun W2 hW2 => ?_)
 change Code.wp ..
 refine wp_block ?_
 go_loopw [5] (fun u5 wr => ∃ (k : Nat), (k ≤ l.length) ∧ (idxFrom (idIs n) 0 l = idxFrom (idIs n) k (l.drop k)) ∧ u5 = .int .i64 ((k : Nat) : Int) ∧ KS w [] wr) (fun u5 _ => l.length - (intOf u5).toNat)
 case atStart => exact ⟨0, (Nat.zero_le _), rfl, rfl, (hW2.sub (fun p hp => by first | exact hp | (simp only [List.mem_cons, List.mem_append, List.nil_append, List.not_mem_nil, or_assoc, or_false, false_or] at hp ⊢ <;> grind)))⟩
 case round =>
   obtain ⟨k, hk, hf, rfl, hL3⟩ := hrel
   refine wp_seq ?_
   refine wp_seq ?_
   refine wp_region_L _ hL3 ?_
   refine lm (v := .int .i64 ((k : Nat) : Int)) rfl rfl ?_
   refine lm (v := .slice p l.length c) rfl rfl ?_
   refine lp (v := .int .i64 ((l.length : Nat) : Int)) rfl rfl (run_lenL (p := p) (cap := c) (n := l.length) rfl Tryd.underlying22 Tw.kr) ?_
   refine lp (v := .bool (decide (k < l.length))) rfl rfl (run_bin rfl (vx := (.int .i64 ((k : Nat) : Int))) (vy := (.int .i64 ((l.length : Nat) : Int))) Tw.kr Tw.kr fun w => bn_lss rfl w) ?_
   refine wpL_done (fun W4 hW4 => ?_)
   change Code.wp ..
   cases hd1 : (decide (k < l.length)) with
   | false =>
     have h1 : ¬ (k < l.length) := of_decide_eq_false hd1
     clear hd1
     refine wp_cond_false rfl ?_
     refine wp_exit ?_
     change Code.wp ..
     refine wp_seq ?_
     refine wp_region_L _ hW4 ?_
     refine lm (v := .int .i64 (-1)) rfl rfl ?_
     refine wpL_done (fun W5 hW5 => ?_)
     change Code.wp ..
     refine wp_ret ?_
     try simp only [inBlock_ret, then_ret]
     refine bodyPost_ret (v := .int .i64 (-1)) ?_ rfl ?_
     · kernel_rfl
     · exact ⟨(z_is (idx_end hf h1).symm), hW5.1⟩
   | true =>
     have h1 : k < l.length := of_decide_eq_true hd1
     clear hd1
     refine wp_cond_true rfl ?_
     refine wp_skip ?_
     change Code.wp ..
     refine wp_seq ?_
     refine wp_block ?_
     refine wp_seq ?_
     refine wp_region_L _ hW4 ?_
     refine lm (v := .slice p l.length c) rfl rfl ?_
     refine lm (v := .int .i64 ((k : Nat) : Int)) rfl rfl ?_
     obtain ⟨b1, g1_, f1, hy1, hp1, lt1, hc1⟩ := bl_at (k := k) HP.out Tw.om
     refine lp (v := .pointer (some ⟨g1_, f1 + k * 9, none⟩)) rfl rfl (run_idxQ (p := p) (cap := c) (n := l.length) (j := .i64) (k := k) (sz := 9) rfl Tryd.underlying22 Tw.kr Tw.kr hp1 Tw.kr Tw.om) ?_
     refine lm (v := .pointer (some ⟨g1_, f1 + k * 9, none⟩)) rfl rfl ?_
     refine lv (v := .int .i64 b1.id) rfl rfl (yb_old (off := f1 + k * 9 + 0) rfl Tw.kr (hc1 0 _ rfl) lt1 Tryd.underlying3 rfl) ?_
     refine lm (v := .int .i64 n) rfl rfl ?_
     refine lp (v := .bool (decide (b1.id = n))) rfl rfl (run_bin rfl (vx := (.int .i64 b1.id)) (vy := (.int .i64 n)) Tw.kr Tw.kr fun w => bi_eql rfl w) ?_
     refine wpL_done (fun W6 hW6 => ?_)
     change Code.wp ..
     cases hd2 : (decide (b1.id = n)) with
     | false =>
       have h2 : ¬ (b1.id = n) := of_decide_eq_false hd2
       clear hd2
       refine wp_cond_false rfl ?_
       refine wp_skip ?_
       change Code.wp ..
       refine wp_region_L _ hW6 ?_
       refine lm (v := .int .i64 ((k : Nat) : Int)) rfl rfl ?_
       refine lp (v := .int .i64 (((k + 1) : Nat) : Int)) rfl rfl (run_bin rfl (vx := (.int .i64 ((k : Nat) : Int))) (vy := (.int .i64 ((1 : Nat) : Int))) Tw.kr Tw.kr fun w => bn_add (z := (k + 1)) rfl (wr_i64 Tw.om) w) ?_
       refine lm (v := .int .i64 (((k + 1) : Nat) : Int)) rfl rfl ?_
       refine wpL_done (fun W7 hW7 => ?_)
       go_roundw
       case rel =>
         repeat apply Exists.intro
         exact ⟨⟨k + 1, Tw.om, (idx_on hf hy1 (decide_eq_false h2)), rfl, (hW7.sub (fun p hp => by first | exact hp | (simp only [List.mem_cons, List.mem_append, List.nil_append, List.not_mem_nil, or_assoc, or_false, false_or] at hp ⊢ <;> grind)))⟩, rfl⟩
       case measure => (show l.length - (intOf (.int .i64 (((k + 1) : Nat) : Int))).toNat < l.length - (intOf (.int .i64 ((k : Nat) : Int))).toNat); simp only [intOf]; omega
     | true =>
       have h2 : b1.id = n := of_decide_eq_true hd2
       clear hd2
       refine wp_cond_true rfl ?_
       refine wp_seq ?_
       refine wp_region_L _ hW6 ?_
       refine lm (v := .int .i64 ((k : Nat) : Int)) rfl rfl ?_
       refine lm (v := .int .i64 ((k : Nat) : Int)) rfl rfl ?_
       refine wpL_done (fun W8 hW8 => ?_)
       change Code.wp ..
       refine wp_ret ?_
       try simp only [inBlock_ret, then_ret]
       refine bodyPost_ret (v := .int .i64 ((k : Nat) : Int)) ?_ rfl ?_
       · kernel_rfl
       · exact ⟨(z_is (idx_at hf hy1 (decide_eq_true h2)).symm), hW8.1⟩
set_option maxRecDepth 100000 in
set_option maxHeartbeats 4000000 in
theorem RNumbered_any (l : List Bx) (p : Option Addr) (c : Nat) (n : List UInt8) (hl : l.length ≤ 4000000000) (w : World) (hp : SLV w p (bcs l)) : Calls Tryd.prog 36 #[.slice p l.length c, strV n] w fun e w' => e = .returned (.int .i64 (idxFrom (numP n) 0 l)) ∧ Below w.heap.size w w' := by
 have HP := Lib.hid hp
 clear hp
 go_enter Tryd.func36, Tryd.ntmps36
 refine wp_seq ?_
 refine wp_region_L [] (KS.start w) ?_
 refine lm (v := .int .i64 0) rfl rfl ?_
 refine wpL_done (fun W1 hW1 => ?_)
 change Code.wp ..
 refine wp_seq ?_
 refine wp_seq ?_
 refine wp_region_L _ hW1 ?_
 refine lm (v := .int .i64 0) rfl rfl ?_
 refine wpL_done (fun W2 hW2 => ?_)
 change Code.wp ..
 refine wp_block ?_
 go_loopw [5] (fun u5 wr => ∃ (k : Nat), (k ≤ l.length) ∧ (idxFrom (numP n) 0 l = idxFrom (numP n) k (l.drop k)) ∧ u5 = .int .i64 ((k : Nat) : Int) ∧ KS w [] wr) (fun u5 _ => l.length - (intOf u5).toNat)
 case atStart => exact ⟨0, (Nat.zero_le _), rfl, rfl, (hW2.sub (fun p hp => by first | exact hp | (simp only [List.mem_cons, List.mem_append, List.nil_append, List.not_mem_nil, or_assoc, or_false, false_or] at hp ⊢ <;> grind)))⟩
 case round =>
   obtain ⟨k, hk, hf, rfl, hL3⟩ := hrel
   refine wp_seq ?_
   refine wp_seq ?_
   refine wp_region_L _ hL3 ?_
   refine lm (v := .int .i64 ((k : Nat) : Int)) rfl rfl ?_
   refine lm (v := .slice p l.length c) rfl rfl ?_
   refine lp (v := .int .i64 ((l.length : Nat) : Int)) rfl rfl (run_lenL (p := p) (cap := c) (n := l.length) rfl Tryd.underlying22 Tw.kr) ?_
   refine lp (v := .bool (decide (k < l.length))) rfl rfl (run_bin rfl (vx := (.int .i64 ((k : Nat) : Int))) (vy := (.int .i64 ((l.length : Nat) : Int))) Tw.kr Tw.kr fun w => bn_lss rfl w) ?_
   refine wpL_done (fun W4 hW4 => ?_)
   change Code.wp ..
   cases hd1 : (decide (k < l.length)) with
   | false =>
     have h1 : ¬ (k < l.length) := of_decide_eq_false hd1
     clear hd1
     refine wp_cond_false rfl ?_
     refine wp_exit ?_
     change Code.wp ..
     refine wp_seq ?_
     refine wp_region_L _ hW4 ?_
     refine lm (v := .int .i64 (-1)) rfl rfl ?_
     refine wpL_done (fun W5 hW5 => ?_)
     change Code.wp ..
     refine wp_ret ?_
     try simp only [inBlock_ret, then_ret]
     refine bodyPost_ret (v := .int .i64 (-1)) ?_ rfl ?_
     · kernel_rfl
     · exact ⟨(z_is (idx_end hf h1).symm), hW5.1⟩
   | true =>
     have h1 : k < l.length := of_decide_eq_true hd1
     clear hd1
     refine wp_cond_true rfl ?_
     refine wp_skip ?_
     change Code.wp ..
     refine wp_seq ?_
     refine wp_block ?_
     refine wp_seq ?_
     refine wp_region_L _ hW4 ?_
     refine lm (v := strV n) rfl rfl ?_
     refine lp (v := .bool (!(decide (n = [])))) rfl rfl (run_bin rfl (vx := strV n) (vy := strV []) Tw.kr Tw.kr fun w => bs_neq rfl w) ?_
     refine lm (v := .bool (!(decide (n = [])))) rfl rfl ?_
     cases hd2 : (decide (n = [])) with
     | false =>
       have h2 : ¬ (n = []) := of_decide_eq_false hd2
       clear hd2
       refine lm (v := .slice p l.length c) rfl rfl ?_
       refine lm (v := .int .i64 ((k : Nat) : Int)) rfl rfl ?_
       obtain ⟨b1, g1_, f1, hy1, hp1, lt1, hc1⟩ := bl_at (k := k) HP.out Tw.om
       refine lp (v := .pointer (some ⟨g1_, f1 + k * 9, none⟩)) rfl rfl (run_idxQ (p := p) (cap := c) (n := l.length) (j := .i64) (k := k) (sz := 9) rfl Tryd.underlying22 Tw.kr Tw.kr hp1 Tw.kr Tw.om) ?_
       refine lm (v := .pointer (some ⟨g1_, f1 + k * 9 + 1, none⟩)) rfl rfl ?_
       refine lv (v := strV b1.num) rfl rfl (yb_old (off := f1 + k * 9 + 1) rfl Tw.kr (hc1 1 _ rfl) lt1 Tryd.underlying9 rfl) ?_
       refine lm (v := strV n) rfl rfl ?_
       refine lp (v := .bool (decide (b1.num = n))) rfl rfl (run_bin rfl (vx := strV b1.num) (vy := strV n) Tw.kr Tw.kr fun w => bs_eql rfl w) ?_
       refine lm (v := .bool (decide (b1.num = n))) rfl rfl ?_
       refine wpL_done (fun W6 hW6 => ?_)
       change Code.wp ..
       cases hd3 : (decide (b1.num = n)) with
       | false =>
         have h3 : ¬ (b1.num = n) := of_decide_eq_false hd3
         clear hd3
         refine wp_cond_false rfl ?_
         refine wp_skip ?_
         change Code.wp ..
         refine wp_region_L _ hW6 ?_
         refine lm (v := .int .i64 ((k : Nat) : Int)) rfl rfl ?_
         refine lp (v := .int .i64 (((k + 1) : Nat) : Int)) rfl rfl (run_bin rfl (vx := (.int .i64 ((k : Nat) : Int))) (vy := (.int .i64 ((1 : Nat) : Int))) Tw.kr Tw.kr fun w => bn_add (z := (k + 1)) rfl (wr_i64 Tw.om) w) ?_
         refine lm (v := .int .i64 (((k + 1) : Nat) : Int)) rfl rfl ?_
         refine wpL_done (fun W7 hW7 => ?_)
         go_roundw
         case rel =>
           repeat apply Exists.intro
           exact ⟨⟨k + 1, Tw.om, (idx_on hf hy1 (by simp [numP, numIs, h3])), rfl, (hW7.sub (fun p hp => by first | exact hp | (simp only [List.mem_cons, List.mem_append, List.nil_append, List.not_mem_nil, or_assoc, or_false, false_or] at hp ⊢ <;> grind)))⟩, rfl⟩
         case measure => (show l.length - (intOf (.int .i64 (((k + 1) : Nat) : Int))).toNat < l.length - (intOf (.int .i64 ((k : Nat) : Int))).toNat); simp only [intOf]; omega
       | true =>
         have h3 : b1.num = n := of_decide_eq_true hd3
         clear hd3
         refine wp_cond_true rfl ?_
         refine wp_seq ?_
         refine wp_region_L _ hW6 ?_
         refine lm (v := .int .i64 ((k : Nat) : Int)) rfl rfl ?_
         refine lm (v := .int .i64 ((k : Nat) : Int)) rfl rfl ?_
         refine wpL_done (fun W8 hW8 => ?_)
         change Code.wp ..
         refine wp_ret ?_
         try simp only [inBlock_ret, then_ret]
         refine bodyPost_ret (v := .int .i64 ((k : Nat) : Int)) ?_ rfl ?_
         · kernel_rfl
         · exact ⟨(z_is (idx_at (p := (numP n)) hf hy1 (by simp [numP, numIs, h3, h2])).symm), hW8.1⟩
     | true =>
       have h2 : n = [] := of_decide_eq_true hd2
       clear hd2
       refine ln rfl ?_
       refine ln rfl ?_
       refine ln rfl ?_
       refine ln rfl ?_
       refine ln rfl ?_
       refine ln rfl ?_
       refine ln rfl ?_
       refine lm (v := .bool false) rfl rfl ?_
       refine wpL_done (fun W9 hW9 => ?_)
       change Code.wp ..
       refine wp_cond_false rfl ?_
       refine wp_skip ?_
       change Code.wp ..
       refine wp_region_L _ hW9 ?_
       refine lm (v := .int .i64 ((k : Nat) : Int)) rfl rfl ?_
       refine lp (v := .int .i64 (((k + 1) : Nat) : Int)) rfl rfl (run_bin rfl (vx := (.int .i64 ((k : Nat) : Int))) (vy := (.int .i64 ((1 : Nat) : Int))) Tw.kr Tw.kr fun w => bn_add (z := (k + 1)) rfl (wr_i64 Tw.om) w) ?_
       refine lm (v := .int .i64 (((k + 1) : Nat) : Int)) rfl rfl ?_
       refine wpL_done (fun W10 hW10 => ?_)
       obtain ⟨bz, hbz⟩ : ∃ bz, l[k]? = some bz := ⟨_, List.getElem?_eq_getElem Tw.om⟩
       go_roundw
       case rel =>
         repeat apply Exists.intro
         exact ⟨⟨k + 1, Tw.om, (idx_on hf hbz (by simp [numP, h2])), rfl, (hW10.sub (fun p hp => by first | exact hp | (simp only [List.mem_cons, List.mem_append, List.nil_append, List.not_mem_nil, or_assoc, or_false, false_or] at hp ⊢ <;> grind)))⟩, rfl⟩
       case measure => (show l.length - (intOf (.int .i64 (((k + 1) : Nat) : Int))).toNat < l.length - (intOf (.int .i64 ((k : Nat) : Int))).toNat); simp only [intOf]; omega
end Go.Proofs.YtllmpemmknblaaaDoor
namespace Go.Proofs.YtllmpemmknblaaaDoor
open Go Go.RowKit Tw
set_option maxRecDepth 100000 in
set_option maxHeartbeats 4000000 in
theorem RValid_any (l : List Bx) (p : Option Addr) (c : Nat) (hl : l.length ≤ 4000000000) (w : World) (hp : SLV w p (bcs l)) : Calls Tryd.prog 32 #[.slice p l.length c] w fun e w' => e = .returned (validV l) ∧ Below w.heap.size w w' := by
 have HP := Lib.hid hp
 clear hp
 obtain ⟨V, hV⟩ : ∃ V : Value, V = validV l := ⟨_, rfl⟩
 rw [← hV]
 unfold validV at hV
 go_enter Tryd.func32, Tryd.ntmps32
 refine wp_seq ?_
 refine wp_region_L [] (KS.start w) ?_
 refine lm (v := .int .i64 0) rfl rfl ?_
 refine lm (v := .int .i64 0) rfl rfl ?_
 refine wpL_done (fun W1 hW1 => ?_)
 change Code.wp ..
 refine wp_seq ?_
 refine wp_seq ?_
 refine wp_region_L _ hW1 ?_
 refine lm (v := .slice p l.length c) rfl rfl ?_
 refine lp (v := .int .i64 ((l.length : Nat) : Int)) rfl rfl (run_lenL (p := p) (cap := c) (n := l.length) rfl Tryd.underlying22 Tw.kr) ?_
 refine lp (v := .bool (decide (2000 < l.length))) rfl rfl (run_bin rfl (vx := (.int .i64 ((l.length : Nat) : Int))) (vy := (.int .i64 ((2000 : Nat) : Int))) Tw.kr Tw.kr fun w => bn_gtr rfl w) ?_
 refine wpL_done (fun W2 hW2 => ?_)
 change Code.wp ..
 cases hd1 : (decide (2000 < l.length)) with
 | false =>
   have h1 : ¬ (2000 < l.length) := of_decide_eq_false hd1
   clear hd1
   refine wp_cond_false rfl ?_
   refine wp_skip ?_
   change Code.wp ..
   refine wp_seq ?_
   refine wp_seq ?_
   refine wp_region_L _ hW2 ?_
   refine lm (v := .int .i64 0) rfl rfl ?_
   refine wpL_done (fun W3 hW3 => ?_)
   change Code.wp ..
   refine wp_block ?_
   go_loopw [4] (fun u4 wr => ∃ (k : Nat), (k ≤ l.length) ∧ (∀ j, j < k → badX l j = false) ∧ u4 = .int .i64 ((k : Nat) : Int) ∧ KS w [] wr) (fun u4 _ => l.length - (intOf u4).toNat)
   case atStart => exact ⟨0, (Nat.zero_le _), (fun j hj => absurd hj (Nat.not_lt_zero _)), rfl, (hW3.sub (fun p hp => by first | exact hp | (simp only [List.mem_cons, List.mem_append, List.nil_append, List.not_mem_nil, or_assoc, or_false, false_or] at hp ⊢ <;> grind)))⟩
   case round =>
     obtain ⟨k, hk, hb, rfl, hL4⟩ := hrel
     refine wp_seq ?_
     refine wp_seq ?_
     refine wp_region_L _ hL4 ?_
     refine lm (v := .int .i64 ((k : Nat) : Int)) rfl rfl ?_
     refine lm (v := .slice p l.length c) rfl rfl ?_
     refine lp (v := .int .i64 ((l.length : Nat) : Int)) rfl rfl (run_lenL (p := p) (cap := c) (n := l.length) rfl Tryd.underlying22 Tw.kr) ?_
     refine lp (v := .bool (decide (k < l.length))) rfl rfl (run_bin rfl (vx := (.int .i64 ((k : Nat) : Int))) (vy := (.int .i64 ((l.length : Nat) : Int))) Tw.kr Tw.kr fun w => bn_lss rfl w) ?_
     refine wpL_done (fun W5 hW5 => ?_)
     change Code.wp ..
     cases hd2 : (decide (k < l.length)) with
     | false =>
       have h2 : ¬ (k < l.length) := of_decide_eq_false hd2
       clear hd2
       refine wp_cond_false rfl ?_
       refine wp_exit ?_
       change Code.wp ..
       refine wp_seq ?_
       refine wp_region_L _ hW5 ?_
       refine lm (v := .int .i64 (-1)) rfl rfl ?_
       refine lm (v := .int .i64 0) rfl rfl ?_
       refine wpL_done (fun W6 hW6 => ?_)
       change Code.wp ..
       refine wp_ret ?_
       try simp only [inBlock_ret, then_ret]
       refine bodyPost_ret (v := .tuple #[.int .i64 (-1), .int .i64 0]) ?_ rfl ?_
       · kernel_rfl
       · exact ⟨(ret_v (by rw [hV, if_neg h1, firstBad_none (fun j hj => hb j Tw.om)])), hW6.1⟩
     | true =>
       have h2 : k < l.length := of_decide_eq_true hd2
       clear hd2
       refine wp_cond_true rfl ?_
       refine wp_skip ?_
       change Code.wp ..
       refine wp_seq ?_
       refine wp_block ?_
       refine wp_seq ?_
       refine wp_seq ?_
       refine wp_region_V _ Tw.kr hW5 ?_
       refine vm (i := 0) (v := .slice p l.length c) rfl rfl rfl ?_
       refine vm (i := 1) (v := .int .i64 ((k : Nat) : Int)) rfl rfl rfl ?_
       obtain ⟨b1, g1_, f1, hy1, hp1, lt1, hc1⟩ := bl_at (k := k) HP.out Tw.om
       refine vp (i := 2) (v := .pointer (some ⟨g1_, f1 + k * 9, none⟩)) rfl rfl rfl (run_idxQ (p := p) (cap := c) (n := l.length) (j := .i64) (k := k) (sz := 9) rfl Tryd.underlying22 Tw.kr Tw.kr hp1 Tw.kr Tw.om) ?_
       refine vv (i := 3) (v := bxV b1) rfl rfl rfl (yb_olds (off := f1 + k * 9) (cs := (bxC b1).toList) rfl Tw.kr hc1 lt1 Tryd.underlying26 rfl Tw.kr) ?_
       refine vv (i := 4) (v := .bool (rightX b1)) rfl rfl rfl (yb_call (f := 38) (args := #[bxV b1]) Tw.kf fun W hW => RRight_any b1 W) ?_
       refine vp (i := 5) (v := .bool (!(rightX b1))) rfl rfl rfl (run_un rfl Tw.kr fun w => un_not w) ?_
       refine vm (i := 6) (v := .bool (!(rightX b1))) rfl rfl rfl ?_
       cases h3 : (rightX b1) with
       | false =>
         refine vn (i := 7) rfl rfl ?_
         refine vn (i := 8) rfl rfl ?_
         refine vn (i := 9) rfl rfl ?_
         refine vn (i := 10) rfl rfl ?_
         refine vn (i := 11) rfl rfl ?_
         refine vn (i := 12) rfl rfl ?_
         refine vn (i := 13) rfl rfl ?_
         refine vn (i := 14) rfl rfl ?_
         refine vn (i := 15) rfl rfl ?_
         refine vn (i := 16) rfl rfl ?_
         refine vn (i := 17) rfl rfl ?_
         refine vn (i := 18) rfl rfl ?_
         refine vn (i := 19) rfl rfl ?_
         refine vn (i := 20) rfl rfl ?_
         refine vn (i := 21) rfl rfl ?_
         refine vn (i := 22) rfl rfl ?_
         refine vm (i := 23) (v := .bool true) rfl rfl rfl ?_
         refine wpV_done Tw.kr (fun W7 hW7 => ?_) _
         change Code.wp ..
         refine wp_cond_true rfl ?_
         refine wp_seq ?_
         refine wp_region_L _ hW7 ?_
         refine lm (v := .int .i64 ((k : Nat) : Int)) rfl rfl ?_
         refine lm (v := .int .i64 ((k : Nat) : Int)) rfl rfl ?_
         refine lm (v := .int .i64 60) rfl rfl ?_
         refine wpL_done (fun W8 hW8 => ?_)
         change Code.wp ..
         refine wp_ret ?_
         try simp only [inBlock_ret, then_ret]
         refine bodyPost_ret (v := .tuple #[.int .i64 ((k : Nat) : Int), .int .i64 60]) ?_ rfl ?_
         · kernel_rfl
         · exact ⟨(ret_v (by rw [hV, if_neg h1, firstBad_some Tw.om hb (bad_right hy1 h3)])), hW8.1⟩
       | true =>
         refine vm (i := 7) (v := .int .i64 ((k : Nat) : Int)) rfl rfl rfl ?_
         refine vp (i := 8) (v := .bool (decide (0 < k))) rfl rfl rfl (run_bin rfl (vx := (.int .i64 ((k : Nat) : Int))) (vy := (.int .i64 ((0 : Nat) : Int))) Tw.kr Tw.kr fun w => bn_gtr rfl w) ?_
         refine vm (i := 9) (v := .bool (decide (0 < k))) rfl rfl rfl ?_
         cases hd4 : (decide (0 < k)) with
         | false =>
           have h4 : ¬ (0 < k) := of_decide_eq_false hd4
           clear hd4
           refine vn (i := 10) rfl rfl ?_
           refine vn (i := 11) rfl rfl ?_
           refine vn (i := 12) rfl rfl ?_
           refine vn (i := 13) rfl rfl ?_
           refine vn (i := 14) rfl rfl ?_
           refine vn (i := 15) rfl rfl ?_
           refine vn (i := 16) rfl rfl ?_
           refine vn (i := 17) rfl rfl ?_
           refine vn (i := 18) rfl rfl ?_
           refine vn (i := 19) rfl rfl ?_
           refine vn (i := 20) rfl rfl ?_
           refine vn (i := 21) rfl rfl ?_
           refine vm (i := 22) (v := .bool false) rfl rfl rfl ?_
           refine vm (i := 23) (v := .bool false) rfl rfl rfl ?_
           refine wpV_done Tw.kr (fun W9 hW9 => ?_) _
           change Code.wp ..
           refine wp_cond_false rfl ?_
           refine wp_skip ?_
           change Code.wp ..
           refine wp_seq ?_
           refine wp_region_L _ hW9 ?_
           refine lm (v := .int .i64 0) rfl rfl ?_
           refine wpL_done (fun W10 hW10 => ?_)
           change Code.wp ..
           refine wp_block ?_
           go_loopw [5] (fun u5 wr => ∃ (j : Nat), (j ≤ k) ∧ (seenX l j b1.num = false) ∧ u5 = .int .i64 ((j : Nat) : Int) ∧ KS w [] wr) (fun u5 _ => k - (intOf u5).toNat)
           case atStart => exact ⟨0, (Nat.zero_le _), (seen_zero _ _), rfl, (hW10.sub (fun p hp => by first | exact hp | (simp only [List.mem_cons, List.mem_append, List.nil_append, List.not_mem_nil, or_assoc, or_false, false_or] at hp ⊢ <;> grind)))⟩
           case round =>
             obtain ⟨j, hj, hs, rfl, hL11⟩ := hrel
             refine wp_seq ?_
             refine wp_seq ?_
             refine wp_region_L _ hL11 ?_
             refine lm (v := .int .i64 ((j : Nat) : Int)) rfl rfl ?_
             refine lm (v := .int .i64 ((k : Nat) : Int)) rfl rfl ?_
             refine lp (v := .bool (decide (j < k))) rfl rfl (run_bin rfl (vx := (.int .i64 ((j : Nat) : Int))) (vy := (.int .i64 ((k : Nat) : Int))) Tw.kr Tw.kr fun w => bn_lss rfl w) ?_
             refine wpL_done (fun W12 hW12 => ?_)
             change Code.wp ..
             cases hd5 : (decide (j < k)) with
             | false =>
               have h5 : ¬ (j < k) := of_decide_eq_false hd5
               clear hd5
               refine wp_cond_false rfl ?_
               refine wp_exit ?_
               change Code.wp ..
               refine wp_region_L _ hW12 ?_
               refine lm (v := .int .i64 ((k : Nat) : Int)) rfl rfl ?_
               refine lp (v := .int .i64 (((k + 1) : Nat) : Int)) rfl rfl (run_bin rfl (vx := (.int .i64 ((k : Nat) : Int))) (vy := (.int .i64 ((1 : Nat) : Int))) Tw.kr Tw.kr fun w => bn_add (z := (k + 1)) rfl (wr_i64 Tw.om) w) ?_
               refine lm (v := .int .i64 (((k + 1) : Nat) : Int)) rfl rfl ?_
               refine wpL_done (fun W13 hW13 => ?_)
               go_roundw
               case rel =>
                 repeat apply Exists.intro
                 exact ⟨⟨k + 1, Tw.om, (goods_on hb (good_0 hy1 h3 (show seenX l k b1.num = false from by rw [show k = j from by omega]; exact hs) h4)), rfl, (hW13.sub (fun p hp => by first | exact hp | (simp only [List.mem_cons, List.mem_append, List.nil_append, List.not_mem_nil, or_assoc, or_false, false_or] at hp ⊢ <;> grind)))⟩, rfl⟩
               case measure => (show l.length - (intOf (.int .i64 (((k + 1) : Nat) : Int))).toNat < l.length - (intOf (.int .i64 ((k : Nat) : Int))).toNat); simp only [intOf]; omega
             | true =>
               have h5 : j < k := of_decide_eq_true hd5
               clear hd5
               refine wp_cond_true rfl ?_
               refine wp_skip ?_
               change Code.wp ..
               refine wp_seq ?_
               refine wp_block ?_
               refine wp_seq ?_
               refine wp_region_V _ Tw.kr hW12 ?_
               refine vm (i := 0) (v := .slice p l.length c) rfl rfl rfl ?_
               refine vm (i := 1) (v := .int .i64 ((k : Nat) : Int)) rfl rfl rfl ?_
               refine vp (i := 2) (v := .pointer (some ⟨g1_, f1 + k * 9, none⟩)) rfl rfl rfl (run_idxQ (p := p) (cap := c) (n := l.length) (j := .i64) (k := k) (sz := 9) rfl Tryd.underlying22 Tw.kr Tw.kr hp1 Tw.kr Tw.om) ?_
               refine vm (i := 3) (v := .pointer (some ⟨g1_, f1 + k * 9 + 1, none⟩)) rfl rfl rfl ?_
               refine vv (i := 4) (v := strV b1.num) rfl rfl rfl (yb_old (off := f1 + k * 9 + 1) rfl Tw.kr (hc1 1 _ rfl) lt1 Tryd.underlying9 rfl) ?_
               refine vp (i := 5) (v := .bool (!(decide (b1.num = [])))) rfl rfl rfl (run_bin rfl (vx := strV b1.num) (vy := strV []) Tw.kr Tw.kr fun w => bs_neq rfl w) ?_
               refine vm (i := 6) (v := .bool (!(decide (b1.num = [])))) rfl rfl rfl ?_
               cases hd6 : (decide (b1.num = [])) with
               | false =>
                 have h6 : ¬ (b1.num = []) := of_decide_eq_false hd6
                 clear hd6
                 refine vm (i := 7) (v := .slice p l.length c) rfl rfl rfl ?_
                 refine vm (i := 8) (v := .int .i64 ((j : Nat) : Int)) rfl rfl rfl ?_
                 obtain ⟨b2, g2_, f2, hy2, hp2, lt2, hc2⟩ := bl_at (k := j) HP.out Tw.om
                 refine vp (i := 9) (v := .pointer (some ⟨g2_, f2 + j * 9, none⟩)) rfl rfl rfl (run_idxQ (p := p) (cap := c) (n := l.length) (j := .i64) (k := j) (sz := 9) rfl Tryd.underlying22 Tw.kr Tw.kr hp2 Tw.kr Tw.om) ?_
                 refine vm (i := 10) (v := .pointer (some ⟨g2_, f2 + j * 9 + 1, none⟩)) rfl rfl rfl ?_
                 refine vv (i := 11) (v := strV b2.num) rfl rfl rfl (yb_old (off := f2 + j * 9 + 1) rfl Tw.kr (hc2 1 _ rfl) lt2 Tryd.underlying9 rfl) ?_
                 refine vm (i := 12) (v := .slice p l.length c) rfl rfl rfl ?_
                 refine vm (i := 13) (v := .int .i64 ((k : Nat) : Int)) rfl rfl rfl ?_
                 refine vp (i := 14) (v := .pointer (some ⟨g1_, f1 + k * 9, none⟩)) rfl rfl rfl (run_idxQ (p := p) (cap := c) (n := l.length) (j := .i64) (k := k) (sz := 9) rfl Tryd.underlying22 Tw.kr Tw.kr hp1 Tw.kr Tw.om) ?_
                 refine vm (i := 15) (v := .pointer (some ⟨g1_, f1 + k * 9 + 1, none⟩)) rfl rfl rfl ?_
                 refine vv (i := 16) (v := strV b1.num) rfl rfl rfl (yb_old (off := f1 + k * 9 + 1) rfl Tw.kr (hc1 1 _ rfl) lt1 Tryd.underlying9 rfl) ?_
                 refine vp (i := 17) (v := .bool (decide (b2.num = b1.num))) rfl rfl rfl (run_bin rfl (vx := strV b2.num) (vy := strV b1.num) Tw.kr Tw.kr fun w => bs_eql rfl w) ?_
                 refine vm (i := 18) (v := .bool (decide (b2.num = b1.num))) rfl rfl rfl ?_
                 refine wpV_done Tw.kr (fun W14 hW14 => ?_) _
                 change Code.wp ..
                 cases hd7 : (decide (b2.num = b1.num)) with
                 | false =>
                   have h7 : ¬ (b2.num = b1.num) := of_decide_eq_false hd7
                   clear hd7
                   refine wp_cond_false rfl ?_
                   refine wp_skip ?_
                   change Code.wp ..
                   refine wp_region_L _ hW14 ?_
                   refine lm (v := .int .i64 ((j : Nat) : Int)) rfl rfl ?_
                   refine lp (v := .int .i64 (((j + 1) : Nat) : Int)) rfl rfl (run_bin rfl (vx := (.int .i64 ((j : Nat) : Int))) (vy := (.int .i64 ((1 : Nat) : Int))) Tw.kr Tw.kr fun w => bn_add (z := (j + 1)) rfl (wr_i64 Tw.om) w) ?_
                   refine lm (v := .int .i64 (((j + 1) : Nat) : Int)) rfl rfl ?_
                   refine wpL_done (fun W15 hW15 => ?_)
                   go_roundw
                   case rel =>
                     repeat apply Exists.intro
                     exact ⟨⟨j + 1, Tw.om, (seen_no hs hy2 (.inr h7)), rfl, (hW15.sub (fun p hp => by first | exact hp | (simp only [List.mem_cons, List.mem_append, List.nil_append, List.not_mem_nil, or_assoc, or_false, false_or] at hp ⊢ <;> grind)))⟩, rfl⟩
                   case measure => (show k - (intOf (.int .i64 (((j + 1) : Nat) : Int))).toNat < k - (intOf (.int .i64 ((j : Nat) : Int))).toNat); simp only [intOf]; omega
                 | true =>
                   have h7 : b2.num = b1.num := of_decide_eq_true hd7
                   clear hd7
                   refine wp_cond_true rfl ?_
                   refine wp_seq ?_
                   refine wp_region_L _ hW14 ?_
                   refine lm (v := .int .i64 ((k : Nat) : Int)) rfl rfl ?_
                   refine lm (v := .int .i64 ((k : Nat) : Int)) rfl rfl ?_
                   refine lm (v := .int .i64 60) rfl rfl ?_
                   refine wpL_done (fun W16 hW16 => ?_)
                   change Code.wp ..
                   refine wp_ret ?_
                   try simp only [inBlock_ret, then_ret]
                   refine bodyPost_ret (v := .tuple #[.int .i64 ((k : Nat) : Int), .int .i64 60]) ?_ rfl ?_
                   · kernel_rfl
                   · exact ⟨(ret_v (by rw [hV, if_neg h1, firstBad_some Tw.om hb (bad_seen hy1 (seen_mono (show j + 1 ≤ k by omega) (seen_yes hy2 h6 h7)))])), hW16.1⟩
               | true =>
                 have h6 : b1.num = [] := of_decide_eq_true hd6
                 clear hd6
                 refine vn (i := 7) rfl rfl ?_
                 refine vn (i := 8) rfl rfl ?_
                 refine vn (i := 9) rfl rfl ?_
                 refine vn (i := 10) rfl rfl ?_
                 refine vn (i := 11) rfl rfl ?_
                 refine vn (i := 12) rfl rfl ?_
                 refine vn (i := 13) rfl rfl ?_
                 refine vn (i := 14) rfl rfl ?_
                 refine vn (i := 15) rfl rfl ?_
                 refine vn (i := 16) rfl rfl ?_
                 refine vn (i := 17) rfl rfl ?_
                 refine vm (i := 18) (v := .bool false) rfl rfl rfl ?_
                 refine wpV_done Tw.kr (fun W17 hW17 => ?_) _
                 change Code.wp ..
                 refine wp_cond_false rfl ?_
                 refine wp_skip ?_
                 change Code.wp ..
                 refine wp_region_L _ hW17 ?_
                 refine lm (v := .int .i64 ((j : Nat) : Int)) rfl rfl ?_
                 refine lp (v := .int .i64 (((j + 1) : Nat) : Int)) rfl rfl (run_bin rfl (vx := (.int .i64 ((j : Nat) : Int))) (vy := (.int .i64 ((1 : Nat) : Int))) Tw.kr Tw.kr fun w => bn_add (z := (j + 1)) rfl (wr_i64 Tw.om) w) ?_
                 refine lm (v := .int .i64 (((j + 1) : Nat) : Int)) rfl rfl ?_
                 refine wpL_done (fun W18 hW18 => ?_)
                 obtain ⟨bz, hbz⟩ : ∃ bz, l[j]? = some bz := ⟨_, List.getElem?_eq_getElem Tw.om⟩
                 go_roundw
                 case rel =>
                   repeat apply Exists.intro
                   exact ⟨⟨j + 1, Tw.om, (seen_no hs hbz (.inl h6)), rfl, (hW18.sub (fun p hp => by first | exact hp | (simp only [List.mem_cons, List.mem_append, List.nil_append, List.not_mem_nil, or_assoc, or_false, false_or] at hp ⊢ <;> grind)))⟩, rfl⟩
                 case measure => (show k - (intOf (.int .i64 (((j + 1) : Nat) : Int))).toNat < k - (intOf (.int .i64 ((j : Nat) : Int))).toNat); simp only [intOf]; omega
         | true =>
           have h4 : 0 < k := of_decide_eq_true hd4
           clear hd4
           refine vm (i := 10) (v := .slice p l.length c) rfl rfl rfl ?_
           refine vm (i := 11) (v := .int .i64 ((k : Nat) : Int)) rfl rfl rfl ?_
           refine vp (i := 12) (v := .pointer (some ⟨g1_, f1 + k * 9, none⟩)) rfl rfl rfl (run_idxQ (p := p) (cap := c) (n := l.length) (j := .i64) (k := k) (sz := 9) rfl Tryd.underlying22 Tw.kr Tw.kr hp1 Tw.kr Tw.om) ?_
           refine vm (i := 13) (v := .pointer (some ⟨g1_, f1 + k * 9, none⟩)) rfl rfl rfl ?_
           refine vv (i := 14) (v := .int .i64 b1.id) rfl rfl rfl (yb_old (off := f1 + k * 9 + 0) rfl Tw.kr (hc1 0 _ rfl) lt1 Tryd.underlying3 rfl) ?_
           refine vm (i := 15) (v := .slice p l.length c) rfl rfl rfl ?_
           refine vm (i := 16) (v := .int .i64 ((k : Nat) : Int)) rfl rfl rfl ?_
           refine vp (i := 17) (v := .int .i64 (((k - 1) : Nat) : Int)) rfl rfl rfl (run_bin rfl (vx := (.int .i64 ((k : Nat) : Int))) (vy := (.int .i64 ((1 : Nat) : Int))) Tw.kr Tw.kr fun w => bn_sub (z := (k - 1)) rfl Tw.om (wr_i64 Tw.om) w) ?_
           obtain ⟨b3, g3_, f3, hy3, hp3, lt3, hc3⟩ := bl_at (k := (k - 1)) HP.out Tw.om
           refine vp (i := 18) (v := .pointer (some ⟨g3_, f3 + (k - 1) * 9, none⟩)) rfl rfl rfl (run_idxQ (p := p) (cap := c) (n := l.length) (j := .i64) (k := (k - 1)) (sz := 9) rfl Tryd.underlying22 Tw.kr Tw.kr hp3 Tw.kr Tw.om) ?_
           refine vm (i := 19) (v := .pointer (some ⟨g3_, f3 + (k - 1) * 9, none⟩)) rfl rfl rfl ?_
           refine vv (i := 20) (v := .int .i64 b3.id) rfl rfl rfl (yb_old (off := f3 + (k - 1) * 9 + 0) rfl Tw.kr (hc3 0 _ rfl) lt3 Tryd.underlying3 rfl) ?_
           refine vp (i := 21) (v := .bool (!(decide (b3.id < b1.id)))) rfl rfl rfl (run_bin rfl (vx := (.int .i64 b1.id)) (vy := (.int .i64 b3.id)) Tw.kr Tw.kr fun w => bi_leq rfl w) ?_
           refine vm (i := 22) (v := .bool (!(decide (b3.id < b1.id)))) rfl rfl rfl ?_
           refine vm (i := 23) (v := .bool (!(decide (b3.id < b1.id)))) rfl rfl rfl ?_
           refine wpV_done Tw.kr (fun W19 hW19 => ?_) _
           change Code.wp ..
           cases hd8 : (decide (b3.id < b1.id)) with
           | false =>
             have h8 : ¬ (b3.id < b1.id) := of_decide_eq_false hd8
             clear hd8
             refine wp_cond_true rfl ?_
             refine wp_seq ?_
             refine wp_region_L _ hW19 ?_
             refine lm (v := .int .i64 ((k : Nat) : Int)) rfl rfl ?_
             refine lm (v := .int .i64 ((k : Nat) : Int)) rfl rfl ?_
             refine lm (v := .int .i64 60) rfl rfl ?_
             refine wpL_done (fun W20 hW20 => ?_)
             change Code.wp ..
             refine wp_ret ?_
             try simp only [inBlock_ret, then_ret]
             refine bodyPost_ret (v := .tuple #[.int .i64 ((k : Nat) : Int), .int .i64 60]) ?_ rfl ?_
             · kernel_rfl
             · exact ⟨(ret_v (by rw [hV, if_neg h1, firstBad_some Tw.om hb (bad_prev hy1 hy3 h4 h8)])), hW20.1⟩
           | true =>
             have h8 : b3.id < b1.id := of_decide_eq_true hd8
             clear hd8
             refine wp_cond_false rfl ?_
             refine wp_skip ?_
             change Code.wp ..
             refine wp_seq ?_
             refine wp_region_L _ hW19 ?_
             refine lm (v := .int .i64 0) rfl rfl ?_
             refine wpL_done (fun W21 hW21 => ?_)
             change Code.wp ..
             refine wp_block ?_
             go_loopw [5] (fun u5 wr => ∃ (j : Nat), (j ≤ k) ∧ (seenX l j b1.num = false) ∧ u5 = .int .i64 ((j : Nat) : Int) ∧ KS w [] wr) (fun u5 _ => k - (intOf u5).toNat)
             case atStart => exact ⟨0, (Nat.zero_le _), (seen_zero _ _), rfl, (hW21.sub (fun p hp => by first | exact hp | (simp only [List.mem_cons, List.mem_append, List.nil_append, List.not_mem_nil, or_assoc, or_false, false_or] at hp ⊢ <;> grind)))⟩
             case round =>
               obtain ⟨j, hj, hs, rfl, hL22⟩ := hrel
               refine wp_seq ?_
               refine wp_seq ?_
               refine wp_region_L _ hL22 ?_
               refine lm (v := .int .i64 ((j : Nat) : Int)) rfl rfl ?_
               refine lm (v := .int .i64 ((k : Nat) : Int)) rfl rfl ?_
               refine lp (v := .bool (decide (j < k))) rfl rfl (run_bin rfl (vx := (.int .i64 ((j : Nat) : Int))) (vy := (.int .i64 ((k : Nat) : Int))) Tw.kr Tw.kr fun w => bn_lss rfl w) ?_
               refine wpL_done (fun W23 hW23 => ?_)
               change Code.wp ..
               cases hd9 : (decide (j < k)) with
               | false =>
                 have h9 : ¬ (j < k) := of_decide_eq_false hd9
                 clear hd9
                 refine wp_cond_false rfl ?_
                 refine wp_exit ?_
                 change Code.wp ..
                 refine wp_region_L _ hW23 ?_
                 refine lm (v := .int .i64 ((k : Nat) : Int)) rfl rfl ?_
                 refine lp (v := .int .i64 (((k + 1) : Nat) : Int)) rfl rfl (run_bin rfl (vx := (.int .i64 ((k : Nat) : Int))) (vy := (.int .i64 ((1 : Nat) : Int))) Tw.kr Tw.kr fun w => bn_add (z := (k + 1)) rfl (wr_i64 Tw.om) w) ?_
                 refine lm (v := .int .i64 (((k + 1) : Nat) : Int)) rfl rfl ?_
                 refine wpL_done (fun W24 hW24 => ?_)
                 go_roundw
                 case rel =>
                   repeat apply Exists.intro
                   exact ⟨⟨k + 1, Tw.om, (goods_on hb (good_1 hy1 h3 (show seenX l k b1.num = false from by rw [show k = j from by omega]; exact hs) hy3 h8)), rfl, (hW24.sub (fun p hp => by first | exact hp | (simp only [List.mem_cons, List.mem_append, List.nil_append, List.not_mem_nil, or_assoc, or_false, false_or] at hp ⊢ <;> grind)))⟩, rfl⟩
                 case measure => (show l.length - (intOf (.int .i64 (((k + 1) : Nat) : Int))).toNat < l.length - (intOf (.int .i64 ((k : Nat) : Int))).toNat); simp only [intOf]; omega
               | true =>
                 have h9 : j < k := of_decide_eq_true hd9
                 clear hd9
                 refine wp_cond_true rfl ?_
                 refine wp_skip ?_
                 change Code.wp ..
                 refine wp_seq ?_
                 refine wp_block ?_
                 refine wp_seq ?_
                 refine wp_region_V _ Tw.kr hW23 ?_
                 refine vm (i := 0) (v := .slice p l.length c) rfl rfl rfl ?_
                 refine vm (i := 1) (v := .int .i64 ((k : Nat) : Int)) rfl rfl rfl ?_
                 refine vp (i := 2) (v := .pointer (some ⟨g1_, f1 + k * 9, none⟩)) rfl rfl rfl (run_idxQ (p := p) (cap := c) (n := l.length) (j := .i64) (k := k) (sz := 9) rfl Tryd.underlying22 Tw.kr Tw.kr hp1 Tw.kr Tw.om) ?_
                 refine vm (i := 3) (v := .pointer (some ⟨g1_, f1 + k * 9 + 1, none⟩)) rfl rfl rfl ?_
                 refine vv (i := 4) (v := strV b1.num) rfl rfl rfl (yb_old (off := f1 + k * 9 + 1) rfl Tw.kr (hc1 1 _ rfl) lt1 Tryd.underlying9 rfl) ?_
                 refine vp (i := 5) (v := .bool (!(decide (b1.num = [])))) rfl rfl rfl (run_bin rfl (vx := strV b1.num) (vy := strV []) Tw.kr Tw.kr fun w => bs_neq rfl w) ?_
                 refine vm (i := 6) (v := .bool (!(decide (b1.num = [])))) rfl rfl rfl ?_
                 cases hd10 : (decide (b1.num = [])) with
                 | false =>
                   have h10 : ¬ (b1.num = []) := of_decide_eq_false hd10
                   clear hd10
                   refine vm (i := 7) (v := .slice p l.length c) rfl rfl rfl ?_
                   refine vm (i := 8) (v := .int .i64 ((j : Nat) : Int)) rfl rfl rfl ?_
                   obtain ⟨b4, g4_, f4, hy4, hp4, lt4, hc4⟩ := bl_at (k := j) HP.out Tw.om
                   refine vp (i := 9) (v := .pointer (some ⟨g4_, f4 + j * 9, none⟩)) rfl rfl rfl (run_idxQ (p := p) (cap := c) (n := l.length) (j := .i64) (k := j) (sz := 9) rfl Tryd.underlying22 Tw.kr Tw.kr hp4 Tw.kr Tw.om) ?_
                   refine vm (i := 10) (v := .pointer (some ⟨g4_, f4 + j * 9 + 1, none⟩)) rfl rfl rfl ?_
                   refine vv (i := 11) (v := strV b4.num) rfl rfl rfl (yb_old (off := f4 + j * 9 + 1) rfl Tw.kr (hc4 1 _ rfl) lt4 Tryd.underlying9 rfl) ?_
                   refine vm (i := 12) (v := .slice p l.length c) rfl rfl rfl ?_
                   refine vm (i := 13) (v := .int .i64 ((k : Nat) : Int)) rfl rfl rfl ?_
                   refine vp (i := 14) (v := .pointer (some ⟨g1_, f1 + k * 9, none⟩)) rfl rfl rfl (run_idxQ (p := p) (cap := c) (n := l.length) (j := .i64) (k := k) (sz := 9) rfl Tryd.underlying22 Tw.kr Tw.kr hp1 Tw.kr Tw.om) ?_
                   refine vm (i := 15) (v := .pointer (some ⟨g1_, f1 + k * 9 + 1, none⟩)) rfl rfl rfl ?_
                   refine vv (i := 16) (v := strV b1.num) rfl rfl rfl (yb_old (off := f1 + k * 9 + 1) rfl Tw.kr (hc1 1 _ rfl) lt1 Tryd.underlying9 rfl) ?_
                   refine vp (i := 17) (v := .bool (decide (b4.num = b1.num))) rfl rfl rfl (run_bin rfl (vx := strV b4.num) (vy := strV b1.num) Tw.kr Tw.kr fun w => bs_eql rfl w) ?_
                   refine vm (i := 18) (v := .bool (decide (b4.num = b1.num))) rfl rfl rfl ?_
                   refine wpV_done Tw.kr (fun W25 hW25 => ?_) _
                   change Code.wp ..
                   cases hd11 : (decide (b4.num = b1.num)) with
                   | false =>
                     have h11 : ¬ (b4.num = b1.num) := of_decide_eq_false hd11
                     clear hd11
                     refine wp_cond_false rfl ?_
                     refine wp_skip ?_
                     change Code.wp ..
                     refine wp_region_L _ hW25 ?_
                     refine lm (v := .int .i64 ((j : Nat) : Int)) rfl rfl ?_
                     refine lp (v := .int .i64 (((j + 1) : Nat) : Int)) rfl rfl (run_bin rfl (vx := (.int .i64 ((j : Nat) : Int))) (vy := (.int .i64 ((1 : Nat) : Int))) Tw.kr Tw.kr fun w => bn_add (z := (j + 1)) rfl (wr_i64 Tw.om) w) ?_
                     refine lm (v := .int .i64 (((j + 1) : Nat) : Int)) rfl rfl ?_
                     refine wpL_done (fun W26 hW26 => ?_)
                     go_roundw
                     case rel =>
                       repeat apply Exists.intro
                       exact ⟨⟨j + 1, Tw.om, (seen_no hs hy4 (.inr h11)), rfl, (hW26.sub (fun p hp => by first | exact hp | (simp only [List.mem_cons, List.mem_append, List.nil_append, List.not_mem_nil, or_assoc, or_false, false_or] at hp ⊢ <;> grind)))⟩, rfl⟩
                     case measure => (show k - (intOf (.int .i64 (((j + 1) : Nat) : Int))).toNat < k - (intOf (.int .i64 ((j : Nat) : Int))).toNat); simp only [intOf]; omega
                   | true =>
                     have h11 : b4.num = b1.num := of_decide_eq_true hd11
                     clear hd11
                     refine wp_cond_true rfl ?_
                     refine wp_seq ?_
                     refine wp_region_L _ hW25 ?_
                     refine lm (v := .int .i64 ((k : Nat) : Int)) rfl rfl ?_
                     refine lm (v := .int .i64 ((k : Nat) : Int)) rfl rfl ?_
                     refine lm (v := .int .i64 60) rfl rfl ?_
                     refine wpL_done (fun W27 hW27 => ?_)
                     change Code.wp ..
                     refine wp_ret ?_
                     try simp only [inBlock_ret, then_ret]
                     refine bodyPost_ret (v := .tuple #[.int .i64 ((k : Nat) : Int), .int .i64 60]) ?_ rfl ?_
                     · kernel_rfl
                     · exact ⟨(ret_v (by rw [hV, if_neg h1, firstBad_some Tw.om hb (bad_seen hy1 (seen_mono (show j + 1 ≤ k by omega) (seen_yes hy4 h10 h11)))])), hW27.1⟩
                 | true =>
                   have h10 : b1.num = [] := of_decide_eq_true hd10
                   clear hd10
                   refine vn (i := 7) rfl rfl ?_
                   refine vn (i := 8) rfl rfl ?_
                   refine vn (i := 9) rfl rfl ?_
                   refine vn (i := 10) rfl rfl ?_
                   refine vn (i := 11) rfl rfl ?_
                   refine vn (i := 12) rfl rfl ?_
                   refine vn (i := 13) rfl rfl ?_
                   refine vn (i := 14) rfl rfl ?_
                   refine vn (i := 15) rfl rfl ?_
                   refine vn (i := 16) rfl rfl ?_
                   refine vn (i := 17) rfl rfl ?_
                   refine vm (i := 18) (v := .bool false) rfl rfl rfl ?_
                   refine wpV_done Tw.kr (fun W28 hW28 => ?_) _
                   change Code.wp ..
                   refine wp_cond_false rfl ?_
                   refine wp_skip ?_
                   change Code.wp ..
                   refine wp_region_L _ hW28 ?_
                   refine lm (v := .int .i64 ((j : Nat) : Int)) rfl rfl ?_
                   refine lp (v := .int .i64 (((j + 1) : Nat) : Int)) rfl rfl (run_bin rfl (vx := (.int .i64 ((j : Nat) : Int))) (vy := (.int .i64 ((1 : Nat) : Int))) Tw.kr Tw.kr fun w => bn_add (z := (j + 1)) rfl (wr_i64 Tw.om) w) ?_
                   refine lm (v := .int .i64 (((j + 1) : Nat) : Int)) rfl rfl ?_
                   refine wpL_done (fun W29 hW29 => ?_)
                   obtain ⟨bz, hbz⟩ : ∃ bz, l[j]? = some bz := ⟨_, List.getElem?_eq_getElem Tw.om⟩
                   go_roundw
                   case rel =>
                     repeat apply Exists.intro
                     exact ⟨⟨j + 1, Tw.om, (seen_no hs hbz (.inl h10)), rfl, (hW29.sub (fun p hp => by first | exact hp | (simp only [List.mem_cons, List.mem_append, List.nil_append, List.not_mem_nil, or_assoc, or_false, false_or] at hp ⊢ <;> grind)))⟩, rfl⟩
                   case measure => (show k - (intOf (.int .i64 (((j + 1) : Nat) : Int))).toNat < k - (intOf (.int .i64 ((j : Nat) : Int))).toNat); simp only [intOf]; omega
 | true =>
   have h1 : 2000 < l.length := of_decide_eq_true hd1
   clear hd1
   refine wp_cond_true rfl ?_
   refine wp_seq ?_
   refine wp_region_L _ hW2 ?_
   refine lm (v := .int .i64 (-1)) rfl rfl ?_
   refine lm (v := .int .i64 5) rfl rfl ?_
   refine wpL_done (fun W30 hW30 => ?_)
   change Code.wp ..
   refine wp_ret ?_
   try simp only [inBlock_ret, then_ret]
   refine bodyPost_ret (v := .tuple #[.int .i64 (-1), .int .i64 5]) ?_ rfl ?_
   · kernel_rfl
   · exact ⟨(ret_v (by rw [hV, if_pos h1])), hW30.1⟩
end Go.Proofs.YtllmpemmknblaaaDoor
