import Derived.Test.YtlinjngifacmoaaDoorSA03
import Derived.Test.YtlinjngifacmoaaDoorSA01
import Derived.Test.YtlinjngifacmoaaDoorSA00
import Derived.Test.YtlinjngifacmoaaDoorSA04
import Derived.Test.YtlinjngifacmoaaDoorSA02
import Derived.Maps.Range
/- SlotAll: the law holds for every input; no condition but the row's own. -/
set_option linter.unusedVariables false
set_option linter.unusedSimpArgs false
set_option linter.unusedSectionVars false
/- Ships that are not right, slots that there are not, texts that are no names. -/
namespace Go.Proofs.YtlinjngifacmoaaDoor
open Go Go.RowKit Tw
section
variable {cs : List Col} {os : List Cov} {x : Slt} {l : List UInt8}
end
end Go.Proofs.YtlinjngifacmoaaDoor
/- All slots of a ship: plain facts. -/
namespace Go.Proofs.YtlinjngifacmoaaDoor
open Go Go.RowKit Tw
theorem posT_app (a b : List Col) : posT (a ++ b) = posT a + posT b := by
 induction a with
 | nil => simp [posT]
 | cons c a ih => simp only [List.cons_append, posT, ih, Nat.add_assoc]
theorem posT_snoc8 {cs : List Col} {k : Nat} {y : Col} (hy : cs[k]? = some y) (h : 0 ≤ y.tiers) : ((posT (cs.take (k + 1)) : Nat) : Int) = ((posT (cs.take k) : Nat) : Int) + y.tiers := by
 obtain ⟨hk, rfl⟩ := List.getElem?_eq_some_iff.1 hy
 rw [List.take_succ_eq_append_getElem hk, posT_app]
 simp only [posT, Nat.add_zero]
 omega
theorem posT_bnd {cs : List Col} (h : ∀ c ∈ cs, c.tiers ≤ 10) (k : Nat) : posT (cs.take k) ≤ cs.length * 10 :=
 Nat.le_trans (posT_le (m := 10) fun c hc => h c (List.mem_of_mem_take hc)) (Nat.mul_le_mul_right _ (by rw [List.length_take]; omega))
def esM (tq : Int) : Array MapEntry := #[{ key := .int .u8 20, val := .int .i64 (2 * tq), born := 0 }, { key := .int .u8 40, val := .int .i64 tq, born := 1 }, { key := .int .u8 0, val := .int .i64 0, born := 2 }, { key := .int .u8 45, val := .int .i64 0, born := 3 }]
theorem esM_old (tq : Int) : ∀ e ∈ (esM tq).toList, e.born < 4 := by
 intro e he
 simp only [esM, List.mem_cons, List.not_mem_nil, or_false] at he
 rcases he with rfl | rfl | rfl | rfl <;> exact Nat.le_of_ble_eq_true rfl
theorem esM_ok {cs : List Col} {tq : Int} (h : tq = ((posT cs : Nat) : Int)) : ∀ e ∈ (esM tq).toList, ∃ z : Nat, z ≤ 255 ∧ e.key = .int .u8 ((z : Nat) : Int) ∧ e.val = .int .i64 (((slotsX cs z).length : Nat) : Int) ∧ (esM tq).toList.find? (fun x => x.born == e.born) = some { key := .int .u8 ((z : Nat) : Int), val := .int .i64 (((slotsX cs z).length : Nat) : Int), born := e.born } := by
 intro e he
 simp only [esM, List.mem_cons, List.not_mem_nil, or_false] at he
 have h20 : (((slotsX cs 20).length : Nat) : Int) = 2 * tq := by
   rw [slots_len, h, show (hsX 20).length = 2 from rfl]; omega
 have h40 : (((slotsX cs 40).length : Nat) : Int) = tq := by
   rw [slots_len, h, show (hsX 40).length = 1 from rfl]; omega
 have h0 : (((slotsX cs 0).length : Nat) : Int) = 0 := by
   rw [slots_len, show (hsX 0).length = 0 from rfl]; omega
 have h45 : (((slotsX cs 45).length : Nat) : Int) = 0 := by
   rw [slots_len, show (hsX 45).length = 0 from rfl]; omega
 rcases he with rfl | rfl | rfl | rfl
 · exact ⟨20, by omega, rfl, by rw [h20], by rw [h20]; rfl⟩
 · exact ⟨40, by omega, rfl, by rw [h40], by rw [h40]; rfl⟩
 · exact ⟨0, by omega, rfl, by rw [h0], by rw [h0]; rfl⟩
 · exact ⟨45, by omega, rfl, by rw [h45], by rw [h45]; rfl⟩
theorem mem_tk {L : List Slt} {k : Nat} {y x : Slt} (hy : L[k]? = some y) : x ∈ L.take (k + 1) ↔ x ∈ L.take k ∨ x = y := by
 obtain ⟨hk, rfl⟩ := List.getElem?_eq_some_iff.1 hy
 rw [List.take_succ_eq_append_getElem hk, List.mem_append, List.mem_singleton]
theorem in_yes {L : List Slt} {k : Nat} {y x : Slt} {b : Bool} (hy : L[k]? = some y) (h : b = true ↔ x ∈ L.take k) (hb : b = true) : true = true ↔ x ∈ L.take (k + 1) := by
 rw [mem_tk hy, ← h]
 exact ⟨fun _ => .inl hb, fun _ => rfl⟩
theorem in_no {L : List Slt} {k : Nat} {y x : Slt} {b : Bool} (hy : L[k]? = some y) (h : b = true ↔ x ∈ L.take k) (hb : b = false) : eqS y x = true ↔ x ∈ L.take (k + 1) := by
 rw [mem_tk hy, ← h, hb, eqS_iff]
 exact ⟨fun e => .inr e.symm, fun e => by rcases e with e | e; cases e; exact e.symm⟩
theorem in_all {cs : List Col} {z k : Nat} {x : Slt} {b : Bool} (h : b = true ↔ x ∈ (slotsX cs z).take k) (hk : ¬ k < (slotsX cs z).length) : b = rightS cs x z := by
 rw [Bool.eq_iff_iff, h, List.take_of_length_le Tw.om, slots_mem]
end Go.Proofs.YtlinjngifacmoaaDoor
/- A map with small keys that is ranged over, among known blocks. Over any program. -/
namespace Tw
open Go Go.RowKit Go.Proofs.YtlinjngifacmoaaDoor
section
variable {P : Program} {W0 : Base} {T kt et : TypeId}
theorem find_u8 {i : IntKind} (hkt : P.underlying kt = some (.int i)) (k : Int) (es : List MapEntry) (h : ∀ e ∈ es, ∃ m : Int, e.key = .int .u8 m ∧ k ≠ m) (w : World) : (Instr.findKey kt (.int .u8 k) es).run P w = .ok none w := by
 have key : ∀ (l : List MapEntry) (j : Nat), (∀ e ∈ l, ∃ m : Int, e.key = .int .u8 m ∧ k ≠ m) → Instr.findNow (.int i) (.int .u8 k) l j = some none := by
   intro l
   induction l with
   | nil => intro j _; rfl
   | cons e l ih =>
     intro j h
     obtain ⟨m, hm, hk⟩ := h e Tw.m0
     have hs : Instr.sameNow (.int i) (.int .u8 k) e.key = some false := by
       rw [hm]
       show (if IntKind.u8 = IntKind.u8 then some (k == m) else none) = some false
       rw [if_pos rfl]
       simp [hk]
     unfold Instr.findNow
     rw [hs]
     exact ih (j + 1) fun e he => h e (.tail _ he)
 unfold Instr.findKey
 rw [Sem.run_bind, run_underlying hkt w]
 simp only [Result.andThen_ok, key es 0 h]
 rfl
theorem st_insU {i : IntKind} {o : Oper} {a : Act} {K K' : List (Nat × Obj)} {x y u : Operand} {g cl : Nat} {es : Array MapEntry} {k : Int} {v : Value} (ho : o.op = .insert T x y u) (hx : a.eval x = .map (some g)) (hy : a.eval y = .int .u8 k) (hu : a.eval u = v)
   (hm : (g, .map es cl) ∈ K) (hB : W0.B ≤ g) (hT : P.underlying T = some (.map kt et)) (hkt : P.underlying kt = some (.int i)) (h : ∀ e ∈ es.toList, ∃ m : Int, e.key = .int .u8 m ∧ k ≠ m)
   (hKs : ∀ p ∈ K', p = (g, .map (es.push { key := .int .u8 k, val := v, born := cl }) (cl + 1)) ∨ (p ∈ K ∧ p.1 ≠ g)) : ∀ w, KS W0 K w → ∃ w', (execOp a.eval o).run P w = .ok .skip w' ∧ KS W0 K' w' := by
 intro w hw
 have hg := hw.2 _ hm
 have hr := find_u8 (P := P) hkt k es.toList h w
 have hc : (Instr.checkKey false 10000 kt (.int .u8 k)).run P w = .ok () w := by
   unfold Instr.checkKey
   rw [Sem.run_bind, run_underlying hkt w]
   rfl
 have hrun : (Instr.mapUpdate T (.map (some g)) (.int .u8 k) v).run P w = .ok () { w with heap := w.heap.setIfInBounds g (.map (es.push { key := .int .u8 k, val := v, born := cl }) (cl + 1)) } := by
   unfold Instr.mapUpdate
   simp only [Sem.run_bind, run_underlying hT w, Result.andThen_ok, MapKept.run_getObj_map hg, hc, hr, MapKept.run_setObj_map _ hg]
 refine ⟨ChangeMaps.setBlock w g (.map (es.push { key := .int .u8 k, val := v, born := cl }) (cl + 1)), ?_, ⟨⟨hw.1.os, hw.1.tape, hw.1.output, ?_, fun j hj => ?_⟩, fun p hp => ?_⟩⟩
 · unfold execOp
   simp only [ho, hx, hy, hu, Sem.run_bind, hrun, Result.andThen_ok, Sem.run_pure]
   rfl
 · simpa [ChangeMaps.setBlock] using hw.1.size
 · have hne : j ≠ g := by omega
   exact (ChangeMaps.heap_setBlock_other hg _ hne).trans (hw.1.block j hj)
 · rcases hKs p hp with rfl | ⟨hp, hne⟩
   · exact ChangeMaps.heap_setBlock_same hg _
   · exact (ChangeMaps.heap_setBlock_other hg _ hne).trans (hw.2 _ hp)
def RgM (W0 : Base) (K : List (Nat × Obj)) (g cl : Nat) (v : Value) (K' : List (Nat × Obj)) : Prop := ∃ r, v = .pointer (some ⟨r, 0, none⟩) ∧ W0.B ≤ r ∧ (∀ p ∈ K, p.1 ≠ r) ∧ K' = (r, .mapIter (some g) cl #[] cl) :: K
theorem rg_map {o : Oper} {a : Act} {K : List (Nat × Obj)} {x : Operand} {g cl : Nat} {es : Array MapEntry} (ho : o.op = .range T x) (hx : a.eval x = .map (some g)) (hm : (g, .map es cl) ∈ K) (hT : P.underlying T = some (.map kt et)) :
   ∀ w, KS W0 K w → ∃ v K' w', (execOp a.eval o).run P w = .ok (.value v) w' ∧ KS W0 K' w' ∧ RgM W0 K g cl v K' := by
 intro w hw
 have hr := run_range_map (P := P) w T kt et g es cl hT (hw.2 _ hm)
 refine ⟨_, _, _, ?_, hw.alloc _, w.heap.size, rfl, hw.size, fun p hp e => ?_, rfl⟩
 · unfold execOp
   simp only [ho, hx, Sem.run_bind, hr, Result.andThen_ok, Sem.run_pure]
 · have := lt_of_block (hw.2 p hp); omega
theorem nx_mend {o : Oper} {a : Act} {K : List (Nat × Obj)} {x : Operand} {g r cl : Nat} {es : Array MapEntry} {seen : Array Nat} (ho : o.op = .next x false) (hx : a.eval x = .pointer (some ⟨r, 0, none⟩)) (hr : (r, .mapIter (some g) cl seen cl) ∈ K) (hm : (g, .map es cl) ∈ K)
   (hold : ∀ e ∈ es.toList, e.born < cl) (h0 : (leftOf es seen).size = 0) :
   ∀ w, KS W0 K w → ∀ K' : Act → World → Prop, (∀ w', Below w.heap.size w w' → K' (a.put o.dst (.tuple #[.bool false])) w') → Oper.wp P o a w K' (fun _ _ _ => False) := by
 intro w hw K' hk'
 have hrun : (Instr.next (.pointer (some ⟨r, 0, none⟩)) false o.type).run P w = .ok (.tuple #[.bool false]) w := by
   rcases run_next_at (P := P) w o.type r g cl cl seen es cl (hw.2 _ hr) (hw.2 _ hm) hold (Nat.le_refl _) with h | ⟨e, he, _⟩
   · exact h.2
   · have h1 : (leftOf es seen).toList = [] := List.eq_nil_of_length_eq_zero (by simpa using h0)
     rw [h1] at he; cases he
 unfold Oper.wp execOp
 simp only [ho, hx, Sem.run_bind, Sem.run_pure, Result.andThen_ok, hrun]
 exact hk' w (Below.refl _ _)
def NxM (es : Array MapEntry) (seen : Array Nat) (Kf : Array Nat → List (Nat × Obj)) (v : Value) (K' : List (Nat × Obj)) : Prop :=
 ∃ e, e ∈ es.toList ∧ (leftOf es (seen.push e.born)).size < (leftOf es seen).size ∧ v = .tuple #[.bool true, e.key, e.val] ∧ K' = Kf (seen.push e.born)
theorem nx_msome {o : Oper} {a : Act} {K : List (Nat × Obj)} {Kf : Array Nat → List (Nat × Obj)} {x : Operand} {g r cl : Nat} {es : Array MapEntry} {seen : Array Nat} (ho : o.op = .next x false) (hx : a.eval x = .pointer (some ⟨r, 0, none⟩)) (hr : (r, .mapIter (some g) cl seen cl) ∈ K) (hm : (g, .map es cl) ∈ K) (hB : W0.B ≤ r)
   (hold : ∀ e ∈ es.toList, e.born < cl) (h0 : ¬ (leftOf es seen).size = 0) (hK : ∀ s, ∀ p ∈ Kf s, p = (r, .mapIter (some g) cl s cl) ∨ (p ∈ K ∧ p.1 ≠ r)) :
   ∀ w, KS W0 K w → ∃ v K' w', (execOp a.eval o).run P w = .ok (.value v) w' ∧ KS W0 K' w' ∧ NxM es seen Kf v K' := by
 intro w hw
 rcases run_next_at (P := P) w o.type r g cl cl seen es cl (hw.2 _ hr) (hw.2 _ hm) hold (Nat.le_refl _) with h | ⟨e, he, w1, h1, hrun⟩
 · exact absurd h.1 h0
 · have hw1 : KS W0 K w1 := by
     rcases h1 with rfl | rfl
     · exact hw
     · exact ⟨⟨hw.1.os, hw.1.tape, hw.1.output, hw.1.size, hw.1.block⟩, hw.2⟩
   refine ⟨_, Kf (seen.push e.born), _, ?_, hw1.setObj (o' := .mapIter (some g) cl (seen.push e.born) cl) hB (hw1.2 _ hr) (hK (seen.push e.born)), e, (mem_left he).1, left_shrinks es seen e he, rfl, rfl⟩
   unfold execOp
   simp only [ho, hx, Sem.run_bind, Sem.run_pure, Result.andThen_ok, hrun]
   rfl
theorem yb_ment {o : Oper} {a : Act} {K : List (Nat × Obj)} {x : Operand} {g r cl b : Nat} {es : Array MapEntry} {seen : Array Nat} {k v : Value} (ho : o.op = .entry x) (hx : a.eval x = .pointer (some ⟨r, 0, none⟩)) (hr : (r, .mapIter (some g) cl (seen.push b) cl) ∈ K) (hm : (g, .map es cl) ∈ K)
   (hf : es.toList.find? (fun e => e.born == b) = some { key := k, val := v, born := b }) :
   ∀ w, KS W0 K w → ∀ K' : Act → World → Prop, (∀ w', Below w.heap.size w w' → K' (a.put o.dst (.tuple #[k, v])) w') → Oper.wp P o a w K' (fun _ _ _ => False) := by
 intro w hw K' hk'
 have hg := hw.2 _ hr
 have hb := hw.2 _ hm
 have hf2 : es.find? (fun e => e.born == b) = some { key := k, val := v, born := b } := by rw [← Array.find?_toList]; exact hf
 have hrun : (Instr.entry (.pointer (some ⟨r, 0, none⟩))).run P w = .ok (.tuple #[k, v]) w := by
   simp only [Instr.entry, getObj, Sem.run_bind, Sem.run, hg, hb, Result.andThen, Array.back?_push, bne_self_eq_false, Bool.false_eq_true, if_false, hf2]
   rfl
 unfold Oper.wp execOp
 simp only [ho, hx, Sem.run_bind, Sem.run_pure, Result.andThen_ok, hrun]
 exact hk' w (Below.refl _ _)
theorem left_of {w : World} {g r cl : Nat} {es : Array MapEntry} {seen : Array Nat} (hm : w.heap[g]? = some (.map es cl)) (hr : w.heap[r]? = some (.mapIter (some g) cl seen cl)) : w.rangeLeft g r = (leftOf es seen).size := by
 unfold World.rangeLeft
 rw [hm, hr]
end
end Tw
/- The order of slots. -/
namespace Go.Proofs.YtlinjngifacmoaaDoor
open Go Go.RowKit Tw
structure Tri where
 a : Slt
 b : Slt
 c : Slt
end Go.Proofs.YtlinjngifacmoaaDoor
namespace Go.Proofs.YtlinjngifacmoaaDoor
open Go Go.RowKit Tw
end Go.Proofs.YtlinjngifacmoaaDoor
/- What holds a slot of a few. -/
namespace Go.Proofs.YtlinjngifacmoaaDoor
open Go Go.RowKit Tw
end Go.Proofs.YtlinjngifacmoaaDoor
namespace Go.Proofs.YtlinjngifacmoaaDoor
open Go Go.RowKit Tw
section
variable {P : Program} {md : Region.Mode} {ops : Array Oper} {Q : Exit → Act → World → Prop} {W0 : Base}
end
end Go.Proofs.YtlinjngifacmoaaDoor
namespace Go.Proofs.YtlinjngifacmoaaDoor
open Go Go.RowKit Tw
set_option maxRecDepth 100000 in
set_option maxHeartbeats 4000000 in
theorem Built_any {W0 : Base} (l : List Pl) (p : Option Addr) (c : Nat) (n : Nat) (hl : l.length ≤ 9223372036854775807) (hcap : l.length ≤ c) (hok : ∀ y ∈ l, plOk y) (hn : n ≤ 4294967295) (hp : RL plC W0 p l []) (w : World) (hw : KS W0 [] w) : Calls Tryd.prog 33 #[.slice p l.length c, .int .u32 ((n : Nat) : Int)] w fun e w' => ∃ v T, e = .returned v ∧ KS W0 T w' ∧ ShipT W0 (builtC l) (builtO n) v T := by
 obtain ⟨m, hm⟩ : ∃ m : Nat, m = min l.length 12 := ⟨_, rfl⟩
 go_enter Tryd.func33, Tryd.ntmps33
 refine wp_seq ?_
 refine wp_region_L (W0 := W0) [] (hw) ?_
 refine wpL_new (fun g => .pointer (some ⟨g, 0, none⟩)) (obi := .cells (shC (.slice none 0 0) (.slice none 0 0) tl0).toArray 32 (0, 0)) rfl rfl Tw.kf Tw.pf fun g1 Bg1 Fg1 => ?_
 refine wpL_done (fun W1 hW1 => ?_)
 change Code.wp ..
 refine wp_seq ?_
 refine wp_region_L (W0 := W0) [(g1, .cells (shC (.slice none 0 0) (.slice none 0 0) tl0).toArray 32 (0, 0))] (hW1) ?_
 refine wpL_new (fun g => .pointer (some ⟨g, 0, none⟩)) (obi := .cells (shC (.slice none 0 0) (.slice none 0 0) tl0).toArray 32 (0, 0)) rfl rfl Tw.kf Tw.pf fun g2 Bg2 Fg2 => ?_
 obtain dj3_0 : g1 ≠ g2 := Tw.dkf Fg2
 refine wpL_done (fun W2 hW2 => ?_)
 change Code.wp ..
 refine wp_seq ?_
 refine wp_seq ?_
 refine wp_region_L (W0 := W0) [(g2, .cells (shC (.slice none 0 0) (.slice none 0 0) tl0).toArray 32 (0, 0)), (g1, .cells (shC (.slice none 0 0) (.slice none 0 0) tl0).toArray 32 (0, 0))] (hW2) ?_
 refine lm (v := .slice p l.length c) rfl rfl ?_
 refine lm (v := .slice p l.length c) rfl rfl ?_
 refine lp (v := .int .i64 ((l.length : Nat) : Int)) rfl rfl (run_lenL (p := p) (cap := c) (n := l.length) rfl Tryd.underlying60 Tw.kr) ?_
 refine lp (v := .int .i64 ((m : Nat) : Int)) rfl rfl (run_min2 (x := ((l.length : Nat) : Int)) (y := 12) (z := ((m : Nat) : Int)) rfl Tw.kr Tw.kr Tw.om) ?_
 refine lp (v := .slice p m c) rfl rfl (run_slt (kd := .i64) (j := m) (n := l.length) (c := c) (sz := 4) rfl Tryd.underlying60 Tw.kr Tw.kr Tw.kr Tw.om) ?_
 refine lp (v := .int .i64 ((m : Nat) : Int)) rfl rfl (run_lenL (p := p) (cap := c) (n := m) rfl Tryd.underlying60 Tw.kr) ?_
 refine lm (v := .int .i64 0) rfl rfl ?_
 refine wpL_done (fun W3 hW3 => ?_)
 change Code.wp ..
 refine wp_block ?_
 go_loopw [18] (fun u18 wr => ∃ (k : Nat) (cs : List Col) (vc : Value) (Kc : List (Nat × Obj)), (k ≤ m) ∧ (cs = bld ((l.take m).take k)) ∧ (cs.length ≤ k) ∧ (OwnL W0 65 12 vc cs.length (cs.flatMap colC) Kc) ∧ (Dk g2 Kc) ∧ (Dk g1 Kc) ∧ u18 = .int .i64 ((k : Nat) : Int) ∧ KS W0 ((g2, .cells (shC (vc) (.slice none 0 0) tl0).toArray 32 (0, 0)) :: (g1, .cells (shC (.slice none 0 0) (.slice none 0 0) tl0).toArray 32 (0, 0)) :: Kc) wr) (fun u18 _ => m - (intOf u18).toNat)
 case atStart => exact ⟨0, [], (.slice none 0 0), [], (Nat.zero_le _), rfl, (Nat.le_refl _), (OwnL.nil _ _ _), (show Dk g2 [] from Tw.djt), (show Dk g1 [] from Tw.djt), rfl, (hW3.sub (fun p hp => by first | exact hp | (simp only [List.mem_cons, List.mem_append, List.nil_append, List.not_mem_nil, or_assoc, or_false, false_or] at hp ⊢ <;> grind)))⟩
 case round =>
   obtain ⟨k, cs, vc, Kc, hk, hcs, hlc, hOc, dh4_0, dh4_1, rfl, hL4⟩ := hrel
   obtain ⟨pc, cc, rfl, hcc, RC⟩ := own_rl hOc
   refine wp_seq ?_
   refine wp_region_L (W0 := W0) ((g2, .cells (shC (.slice pc cs.length cc) (.slice none 0 0) tl0).toArray 32 (0, 0)) :: (g1, .cells (shC (.slice none 0 0) (.slice none 0 0) tl0).toArray 32 (0, 0)) :: Kc) (hL4) ?_
   refine lp (v := .bool (decide (k < m))) rfl rfl (run_bin rfl (vx := (.int .i64 ((k : Nat) : Int))) (vy := (.int .i64 ((m : Nat) : Int))) Tw.kr Tw.kr fun w => bn_lss rfl w) ?_
   refine wpL_done (fun W5 hW5 => ?_)
   change Code.wp ..
   refine wp_seq ?_
   cases hd1 : (decide (k < m)) with
   | false =>
     have h1 : ¬ (k < m) := of_decide_eq_false hd1
     clear hd1
     refine wp_cond_false rfl ?_
     refine wp_exit ?_
     change Code.wp ..
     refine wp_seq ?_
     refine wp_seq ?_
     refine wp_region_L (W0 := W0) ((g2, .cells (shC (.slice pc cs.length cc) (.slice none 0 0) tl0).toArray 32 (0, 0)) :: (g1, .cells (shC (.slice none 0 0) (.slice none 0 0) tl0).toArray 32 (0, 0)) :: Kc) (hW5) ?_
     refine lm (v := .pointer (some ⟨g2, 0, none⟩)) rfl rfl ?_
     refine lv (v := .slice pc cs.length cc) rfl rfl (yb_cell (off := 0) rfl Tw.kr Tw.m0 Tryd.underlying22 rfl Tw.kr) ?_
     refine lp (v := .int .i64 ((cs.length : Nat) : Int)) rfl rfl (run_lenO (W0 := W0) rfl Tryd.underlying22 Tw.kr hOc) ?_
     refine lp (v := .bool (decide (cs.length = 0))) rfl rfl (run_bin rfl (vx := (.int .i64 ((cs.length : Nat) : Int))) (vy := (.int .i64 ((0 : Nat) : Int))) Tw.kr Tw.kr fun w => bn_eql rfl w) ?_
     refine wpL_done (fun W6 hW6 => ?_)
     change Code.wp ..
     cases hd2 : (decide (cs.length = 0)) with
     | false =>
       have h2 : ¬ (cs.length = 0) := of_decide_eq_false hd2
       clear hd2
       refine wp_cond_false rfl ?_
       refine wp_skip ?_
       change Code.wp ..
       refine wp_seq ?_
       refine wp_seq ?_
       refine wp_region_L (W0 := W0) ((g2, .cells (shC (.slice pc cs.length cc) (.slice none 0 0) tl0).toArray 32 (0, 0)) :: (g1, .cells (shC (.slice none 0 0) (.slice none 0 0) tl0).toArray 32 (0, 0)) :: Kc) (hW6) ?_
       refine lm (v := .int .i64 0) rfl rfl ?_
       refine wpL_done (fun W7 hW7 => ?_)
       change Code.wp ..
       refine wp_block ?_
       have hB : builtC l = cs := by unfold builtC; rw [← hm, ← show cs = bld (l.take m) from by rw [hcs, List.take_of_length_le (by rw [List.length_take]; omega)]]; exact if_neg h2
       go_loopw [11] (fun u11 wr => ∃ (i : Nat) (os : List Cov) (vo : Value) (Tr Ko : List (Nat × Obj)), (i ≤ 5) ∧ (os.map (fun o => (o.bay, o.rows)) = covTo n i) ∧ (os.length ≤ 2 * i) ∧ (OwnL W0 67 2 vo os.length (os.flatMap covC) Ko) ∧ (∀ W, KS W0 Tr W → RwR W os) ∧ (Dk g2 Tr) ∧ (Dk g1 Tr) ∧ (Dj Kc Tr) ∧ (Dk g2 Ko) ∧ (Dk g1 Ko) ∧ (Dj Kc Ko) ∧ (Dj Tr Ko) ∧ u11 = .int .i64 ((i : Nat) : Int) ∧ KS W0 ((g2, .cells (shC (.slice pc cs.length cc) (vo) tl0).toArray 32 (0, 0)) :: (g1, .cells (shC (.slice none 0 0) (.slice none 0 0) tl0).toArray 32 (0, 0)) :: (Kc ++ (Tr ++ Ko))) wr) (fun u11 _ => 5 - (intOf u11).toNat)
       case atStart => exact ⟨0, [], (.slice none 0 0), [], [], (Nat.zero_le _), rfl, (Nat.le_refl _), (OwnL.nil _ _ _), (fun _ _ => rw_nil), (show Dk g2 [] from Tw.djt), (show Dk g1 [] from Tw.djt), (show Dj Kc [] from Tw.djt), (show Dk g2 [] from Tw.djt), (show Dk g1 [] from Tw.djt), (show Dj Kc [] from Tw.djt), (show Dj [] [] from Tw.djt), rfl, (hW7.sub (fun p hp => by first | exact hp | (simp only [List.mem_cons, List.mem_append, List.nil_append, List.not_mem_nil, or_assoc, or_false, false_or] at hp ⊢ <;> grind)))⟩
       case round =>
         obtain ⟨i, os, vo, Tr, Ko, hi, hos, hlo, hOo, hRo, dh5_0, dh5_1, dh5_2, dh5_3, dh5_4, dh5_5, dh5_6, rfl, hL8⟩ := hrel
         obtain ⟨po, co, rfl, hco, RO⟩ := own_rl hOo
         refine wp_seq ?_
         refine wp_seq ?_
         refine wp_region_L (W0 := W0) ((g2, .cells (shC (.slice pc cs.length cc) (.slice po os.length co) tl0).toArray 32 (0, 0)) :: (g1, .cells (shC (.slice none 0 0) (.slice none 0 0) tl0).toArray 32 (0, 0)) :: (Kc ++ (Tr ++ Ko))) (hL8) ?_
         refine lm (v := .int .i64 ((i : Nat) : Int)) rfl rfl ?_
         refine lp (v := .bool (decide (i < 5))) rfl rfl (run_bin rfl (vx := (.int .i64 ((i : Nat) : Int))) (vy := (.int .i64 ((5 : Nat) : Int))) Tw.kr Tw.kr fun w => bn_lss rfl w) ?_
         refine wpL_done (fun W9 hW9 => ?_)
         change Code.wp ..
         cases hd3 : (decide (i < 5)) with
         | false =>
           have h3 : ¬ (i < 5) := of_decide_eq_false hd3
           clear hd3
           refine wp_cond_false rfl ?_
           refine wp_exit ?_
           change Code.wp ..
           refine wp_seq ?_
           refine wp_region_L (W0 := W0) ((g2, .cells (shC (.slice pc cs.length cc) (.slice po os.length co) tl0).toArray 32 (0, 0)) :: (g1, .cells (shC (.slice none 0 0) (.slice none 0 0) tl0).toArray 32 (0, 0)) :: (Kc ++ (Tr ++ Ko))) (hW9) ?_
           refine lv (v := .agg (shC (.slice pc cs.length cc) (.slice po os.length co) tl0).toArray) rfl rfl (yb_load (n := 13) (off := 0) rfl Tw.kr Tw.m0 Tryd.underlying32 rfl Tw.kr (by first | (simp [Value.cells]; done) | exact Nat.le_of_ble_eq_true rfl) Tw.kr) ?_
           refine wpL_s ((g2, .cells (shC (.slice pc cs.length cc) (.slice po os.length co) tl0).toArray 32 (0, 0)) :: (g1, .cells (shC (.slice pc cs.length cc) (.slice po os.length co) tl0).toArray 32 (0, 0)) :: (Kc ++ (Tr ++ Ko))) rfl rfl (st_row (off := 0) (v := .agg (shC (.slice pc cs.length cc) (.slice po os.length co) tl0).toArray) rfl Tw.kr Tw.kr Tw.m1 Bg1 Tw.kr (by first | (simp [Value.cells]; done) | exact Nat.le_of_ble_eq_true rfl) (fun v hv => shC_one v hv) Tw.kr (List.forall_mem_cons.2 ⟨.inr ⟨Tw.m0, Tw.nee⟩, (List.forall_mem_cons.2 ⟨.inl rfl, (fun p hp => .inr ⟨(.tail _ (.tail _ hp)), ((show Dk g1 (Kc ++ (Tr ++ Ko)) from Tw.djt) _ hp)⟩)⟩)⟩)) ?_
           refine wpL_done (fun W10 hW10 => ?_)
           change Code.wp ..
           refine wp_ret ?_
           try simp only [inBlock_ret, then_ret]
           refine bodyPost_ret (v := .agg (shC (.slice pc cs.length cc) (.slice po os.length co) tl0).toArray) ?_ rfl ?_
           · exact (res_cell (p := 4) rfl rfl (hW10.2 _ Tw.m1) Tryd.underlying32 rfl Tw.kr)
           · exact ⟨_, ((g2, .cells (shC (.slice pc cs.length cc) (.slice po os.length co) tl0).toArray 32 (0, 0)) :: (g1, .cells (shC (.slice pc cs.length cc) (.slice po os.length co) tl0).toArray 32 (0, 0)) :: (Kc ++ (Tr ++ Ko))), rfl, hW10, (by rw [hB]; exact ⟨pc, cc, os, po, co, rfl, hcc, hco, RC.mono (fun p hp => by simp only [List.mem_cons, List.mem_append, hp, true_or, or_true]), RO.mono (fun p hp => by simp only [List.mem_cons, List.mem_append, hp, true_or, or_true]), (fun W hW => hRo W (hW.sub (fun p hp => by simp only [List.mem_cons, List.mem_append, hp, true_or, or_true]))), (by rw [hos, show i = 5 from by omega]; rfl)⟩)⟩
         | true =>
           have h3 : i < 5 := of_decide_eq_true hd3
           clear hd3
           refine wp_cond_true rfl ?_
           refine wp_skip ?_
           change Code.wp ..
           refine wp_seq ?_
           refine wp_block ?_
           refine wp_seq ?_
           refine wp_seq ?_
           refine wp_region_L (W0 := W0) ((g2, .cells (shC (.slice pc cs.length cc) (.slice po os.length co) tl0).toArray 32 (0, 0)) :: (g1, .cells (shC (.slice none 0 0) (.slice none 0 0) tl0).toArray 32 (0, 0)) :: (Kc ++ (Tr ++ Ko))) (hW9) ?_
           refine lm (v := .int .u32 ((n : Nat) : Int)) rfl rfl ?_
           refine lm (v := .int .i64 ((i : Nat) : Int)) rfl rfl ?_
           refine lp (v := .int .i64 (((2 * i) : Nat) : Int)) rfl rfl (run_bin rfl (vx := (.int .i64 ((2 : Nat) : Int))) (vy := (.int .i64 ((i : Nat) : Int))) Tw.kr Tw.kr fun w => bn_mul (z := (2 * i)) rfl (wr_i64 Tw.om) w) ?_
           refine lp (v := .int .u32 (((n / 2 ^ (2 * i)) : Nat) : Int)) rfl rfl (run_bin rfl (vx := (.int .u32 ((n : Nat) : Int))) (vy := (.int .i64 (((2 * i) : Nat) : Int))) Tw.kr Tw.kr fun w => bn_shr (z := (n / 2 ^ (2 * i))) rfl (by first | omega | decide | (simp only [IntKind.bits]; omega)) w) ?_
           refine lp (v := .int .u32 ((((n / 2 ^ (2 * i)) % 2) : Nat) : Int)) rfl rfl (run_bin rfl (vx := (.int .u32 (((n / 2 ^ (2 * i)) : Nat) : Int))) (vy := (.int .u32 ((1 : Nat) : Int))) Tw.kr Tw.kr fun w => bn_and (z := ((n / 2 ^ (2 * i)) % 2)) (Nat.and_one_is_mod _) (by rw [show IntKind.u32.bits = 32 from rfl]; exact Nat.lt_of_le_of_lt (Nat.div_le_self _ _) Tw.om) (by decide) (wr_u32 Tw.om) w) ?_
           refine lp (v := .bool (decide (((n / 2 ^ (2 * i)) % 2) = 1))) rfl rfl (run_bin rfl (vx := (.int .u32 ((((n / 2 ^ (2 * i)) % 2) : Nat) : Int))) (vy := (.int .u32 ((1 : Nat) : Int))) Tw.kr Tw.kr fun w => bn_eql rfl w) ?_
           refine wpL_done (fun W11 hW11 => ?_)
           change Code.wp ..
           cases hd4 : (decide (((n / 2 ^ (2 * i)) % 2) = 1)) with
           | false =>
             have h4 : ¬ (((n / 2 ^ (2 * i)) % 2) = 1) := of_decide_eq_false hd4
             clear hd4
             refine wp_cond_false rfl ?_
             refine wp_skip ?_
             change Code.wp ..
             refine wp_seq ?_
             refine wp_region_L (W0 := W0) ((g2, .cells (shC (.slice pc cs.length cc) (.slice po os.length co) tl0).toArray 32 (0, 0)) :: (g1, .cells (shC (.slice none 0 0) (.slice none 0 0) tl0).toArray 32 (0, 0)) :: (Kc ++ (Tr ++ Ko))) (hW11) ?_
             refine lm (v := .int .u32 ((n : Nat) : Int)) rfl rfl ?_
             refine lm (v := .int .i64 ((i : Nat) : Int)) rfl rfl ?_
             refine lp (v := .int .i64 (((2 * i) : Nat) : Int)) rfl rfl (run_bin rfl (vx := (.int .i64 ((2 : Nat) : Int))) (vy := (.int .i64 ((i : Nat) : Int))) Tw.kr Tw.kr fun w => bn_mul (z := (2 * i)) rfl (wr_i64 Tw.om) w) ?_
             refine lp (v := .int .i64 ((((2 * i) + 1) : Nat) : Int)) rfl rfl (run_bin rfl (vx := (.int .i64 (((2 * i) : Nat) : Int))) (vy := (.int .i64 ((1 : Nat) : Int))) Tw.kr Tw.kr fun w => bn_add (z := ((2 * i) + 1)) rfl (wr_i64 Tw.om) w) ?_
             refine lp (v := .int .u32 (((n / 2 ^ ((2 * i) + 1)) : Nat) : Int)) rfl rfl (run_bin rfl (vx := (.int .u32 ((n : Nat) : Int))) (vy := (.int .i64 ((((2 * i) + 1) : Nat) : Int))) Tw.kr Tw.kr fun w => bn_shr (z := (n / 2 ^ ((2 * i) + 1))) rfl (by first | omega | decide | (simp only [IntKind.bits]; omega)) w) ?_
             refine lp (v := .int .u32 ((((n / 2 ^ ((2 * i) + 1)) % 2) : Nat) : Int)) rfl rfl (run_bin rfl (vx := (.int .u32 (((n / 2 ^ ((2 * i) + 1)) : Nat) : Int))) (vy := (.int .u32 ((1 : Nat) : Int))) Tw.kr Tw.kr fun w => bn_and (z := ((n / 2 ^ ((2 * i) + 1)) % 2)) (Nat.and_one_is_mod _) (by rw [show IntKind.u32.bits = 32 from rfl]; exact Nat.lt_of_le_of_lt (Nat.div_le_self _ _) Tw.om) (by decide) (wr_u32 Tw.om) w) ?_
             refine lp (v := .bool (decide (((n / 2 ^ ((2 * i) + 1)) % 2) = 1))) rfl rfl (run_bin rfl (vx := (.int .u32 ((((n / 2 ^ ((2 * i) + 1)) % 2) : Nat) : Int))) (vy := (.int .u32 ((1 : Nat) : Int))) Tw.kr Tw.kr fun w => bn_eql rfl w) ?_
             refine wpL_done (fun W12 hW12 => ?_)
             change Code.wp ..
             cases hd5 : (decide (((n / 2 ^ ((2 * i) + 1)) % 2) = 1)) with
             | false =>
               have h5 : ¬ (((n / 2 ^ ((2 * i) + 1)) % 2) = 1) := of_decide_eq_false hd5
               clear hd5
               refine wp_cond_false rfl ?_
               refine wp_skip ?_
               change Code.wp ..
               refine wp_region_L (W0 := W0) ((g2, .cells (shC (.slice pc cs.length cc) (.slice po os.length co) tl0).toArray 32 (0, 0)) :: (g1, .cells (shC (.slice none 0 0) (.slice none 0 0) tl0).toArray 32 (0, 0)) :: (Kc ++ (Tr ++ Ko))) (hW12) ?_
               refine lm (v := .int .i64 ((i : Nat) : Int)) rfl rfl ?_
               refine lp (v := .int .i64 (((i + 1) : Nat) : Int)) rfl rfl (run_bin rfl (vx := (.int .i64 ((i : Nat) : Int))) (vy := (.int .i64 ((1 : Nat) : Int))) Tw.kr Tw.kr fun w => bn_add (z := (i + 1)) rfl (wr_i64 Tw.om) w) ?_
               refine lm (v := .int .i64 (((i + 1) : Nat) : Int)) rfl rfl ?_
               refine wpL_done (fun W13 hW13 => ?_)
               go_roundw
               case rel =>
                 repeat apply Exists.intro
                 exact ⟨⟨i + 1, os, (.slice po os.length co), Tr, Ko, Tw.om, (by rw [cov_00 h4 h5, hos]), Tw.om, hOo, hRo, (show Dk g2 Tr from Tw.djt), (show Dk g1 Tr from Tw.djt), (show Dj Kc Tr from Tw.djt), (show Dk g2 Ko from Tw.djt), (show Dk g1 Ko from Tw.djt), (show Dj Kc Ko from Tw.djt), (show Dj Tr Ko from Tw.djt), rfl, (hW13.sub (fun p hp => by first | exact hp | (simp only [List.mem_cons, List.mem_append, List.nil_append, List.not_mem_nil, or_assoc, or_false, false_or] at hp ⊢ <;> grind)))⟩, rfl⟩
               case measure => (show 5 - (intOf (.int .i64 (((i + 1) : Nat) : Int))).toNat < 5 - (intOf (.int .i64 ((i : Nat) : Int))).toNat); simp only [intOf]; omega
             | true =>
               have h5 : ((n / 2 ^ ((2 * i) + 1)) % 2) = 1 := of_decide_eq_true hd5
               clear hd5
               refine wp_cond_true rfl ?_
               refine wp_region_L (W0 := W0) ((g2, .cells (shC (.slice pc cs.length cc) (.slice po os.length co) tl0).toArray 32 (0, 0)) :: (g1, .cells (shC (.slice none 0 0) (.slice none 0 0) tl0).toArray 32 (0, 0)) :: (Kc ++ (Tr ++ Ko))) (hW12) ?_
               refine lm (v := .pointer (some ⟨g2, 1, none⟩)) rfl rfl ?_
               refine lv (v := .slice po os.length co) rfl rfl (yb_cell (off := 1) rfl Tw.kr Tw.m0 Tryd.underlying23 rfl Tw.kr) ?_
               refine lm (v := .int .i64 ((i : Nat) : Int)) rfl rfl ?_
               refine wpL_new (fun g => .slice (some ⟨g, 0, none⟩) 3 3) (obi := .cells #[.int .i64 2, .int .i64 3, .int .i64 4] 3 (0, 0)) rfl rfl Tw.kf Tw.pf fun g6 Bg6 Fg6 => ?_
               obtain ⟨dj7_0, dj7_1, dj7_2, dj7_3, dj7_4⟩ : g2 ≠ g6 ∧ g1 ≠ g6 ∧ Dk g6 Kc ∧ Dk g6 Tr ∧ Dk g6 Ko := Tw.dkf Fg6
               refine lm (v := .agg #[.int .i64 ((i : Nat) : Int), .slice (some ⟨g6, 0, none⟩) 3 3]) rfl rfl ?_
               refine wpL_new (fun g => .slice (some ⟨g, 0, none⟩) 1 1) (obi := .cells #[.int .i64 ((i : Nat) : Int), .slice (some ⟨g6, 0, none⟩) 3 3] 67 (0, 0)) rfl rfl Tw.kf Tw.pf fun g8 Bg8 Fg8 => ?_
               obtain ⟨dj9_0, dj9_1, dj9_2, dj9_3, dj9_4, dj9_5⟩ : g6 ≠ g8 ∧ g2 ≠ g8 ∧ g1 ≠ g8 ∧ Dk g8 Kc ∧ Dk g8 Tr ∧ Dk g8 Ko := Tw.dkf Fg8
               refine wpL_g (AppO W0 67 2 ((g6, .cells #[.int .i64 2, .int .i64 3, .int .i64 4] 3 (0, 0)) :: (g2, .cells (shC (.slice pc cs.length cc) (.slice po os.length co) tl0).toArray 32 (0, 0)) :: (g1, .cells (shC (.slice none 0 0) (.slice none 0 0) tl0).toArray 32 (0, 0)) :: (Kc ++ Tr)) (os.length + 1) ((os.flatMap covC) ++ [.int .i64 ((i : Nat) : Int), .slice (some ⟨g6, 0, none⟩) 3 3])) rfl rfl (app_own el_cov (m := 1) (c := 1) (news := [.int .i64 ((i : Nat) : Int), .slice (some ⟨g6, 0, none⟩) 3 3]) rfl Tw.kr Tw.kr Tw.m0 hOo Tw.sc (fun p hp => ⟨by simp only [List.mem_cons, List.mem_append, List.nil_append, List.not_mem_nil, or_assoc, or_false, false_or] at hp ⊢ <;> grind, (show Dj ((g6, .cells #[.int .i64 2, .int .i64 3, .int .i64 4] 3 (0, 0)) :: (g2, .cells (shC (.slice pc cs.length cc) (.slice po os.length co) tl0).toArray 32 (0, 0)) :: (g1, .cells (shC (.slice none 0 0) (.slice none 0 0) tl0).toArray 32 (0, 0)) :: (Kc ++ Tr)) Ko from Tw.djt) p hp⟩) rfl (by simp [strV, Value.oneCell']) Tw.om Tw.om Tw.om) Tw.pf ?_
               rintro v10 K9 ⟨Kl10, O10, N10, rfl⟩
               obtain ⟨dj11_0, dj11_1, dj11_2, dj11_3, dj11_4⟩ : Dk g6 Kl10 ∧ Dk g2 Kl10 ∧ Dk g1 Kl10 ∧ Dj Kc Kl10 ∧ Dj Tr Kl10 := Tw.djf N10
               refine lm (v := .pointer (some ⟨g2, 1, none⟩)) rfl rfl ?_
               obtain ⟨p12, c12, rfl⟩ := own_shape O10
               refine wpL_s ((g6, .cells #[.int .i64 2, .int .i64 3, .int .i64 4] 3 (0, 0)) :: (g2, .cells (shC (.slice pc cs.length cc) (.slice p12 (os.length + 1) c12) tl0).toArray 32 (0, 0)) :: (g1, .cells (shC (.slice none 0 0) (.slice none 0 0) tl0).toArray 32 (0, 0)) :: ((Kc ++ Tr) ++ Kl10)) rfl rfl (st_row (off := 1) (v := .slice p12 (os.length + 1) c12) rfl Tw.kr Tw.kr Tw.m1 Bg2 Tw.kr (by first | (simp [Value.cells]; done) | exact Nat.le_of_ble_eq_true rfl) (by intro v hv; simp [Value.cells] at hv; first | (subst hv; rfl) | (rcases hv with rfl <;> rfl)) Tw.kr (List.forall_mem_cons.2 ⟨.inr ⟨Tw.m0, Tw.nee⟩, (List.forall_mem_cons.2 ⟨.inl rfl, (List.forall_mem_cons.2 ⟨.inr ⟨Tw.m2, Tw.nee⟩, (fun p hp => .inr ⟨(.tail _ (.tail _ (.tail _ hp))), ((show Dk g2 ((Kc ++ Tr) ++ Kl10) from Tw.djt) _ hp)⟩)⟩)⟩)⟩)) ?_
               refine wpL_done (fun W14 hW14 => ?_)
               change Code.wp ..
               refine wp_region_L (W0 := W0) ((g6, .cells #[.int .i64 2, .int .i64 3, .int .i64 4] 3 (0, 0)) :: (g2, .cells (shC (.slice pc cs.length cc) (.slice p12 (os.length + 1) c12) tl0).toArray 32 (0, 0)) :: (g1, .cells (shC (.slice none 0 0) (.slice none 0 0) tl0).toArray 32 (0, 0)) :: ((Kc ++ Tr) ++ Kl10)) (hW14) ?_
               refine lm (v := .int .i64 ((i : Nat) : Int)) rfl rfl ?_
               refine lp (v := .int .i64 (((i + 1) : Nat) : Int)) rfl rfl (run_bin rfl (vx := (.int .i64 ((i : Nat) : Int))) (vy := (.int .i64 ((1 : Nat) : Int))) Tw.kr Tw.kr fun w => bn_add (z := (i + 1)) rfl (wr_i64 Tw.om) w) ?_
               refine lm (v := .int .i64 (((i + 1) : Nat) : Int)) rfl rfl ?_
               refine wpL_done (fun W15 hW15 => ?_)
               go_roundw
               case rel =>
                 repeat apply Exists.intro
                 exact ⟨⟨i + 1, (os ++ [⟨((i : Nat) : Int), [2, 3, 4], some ⟨g6, 0, none⟩, 3⟩]), .slice p12 (os.length + 1) c12, ((g6, .cells #[.int .i64 2, .int .i64 3, .int .i64 4] 3 (0, 0)) :: Tr), Kl10, Tw.om, (by rw [cov_01 h4 h5]; simp only [List.map_append, List.map_cons, List.map_nil, hos, List.append_assoc, List.cons_append, List.nil_append]), (by simp only [List.length_append, List.length_singleton, List.length_cons, List.length_nil]; omega), (own_app O10 (by simp only [List.flatMap_append, List.append_assoc]; rfl) (by simp only [List.length_append]; rfl)), (fun W hW => (rw_snoc (hRo W (hW.sub (fun p hp => by simp only [List.mem_cons, hp, or_true]))) (o := ⟨((i : Nat) : Int), [2, 3, 4], some ⟨g6, 0, none⟩, 3⟩) (blk_slv hW Tw.m0))), (show Dk g2 ((g6, .cells #[.int .i64 2, .int .i64 3, .int .i64 4] 3 (0, 0)) :: Tr) from Tw.djt), (show Dk g1 ((g6, .cells #[.int .i64 2, .int .i64 3, .int .i64 4] 3 (0, 0)) :: Tr) from Tw.djt), (show Dj Kc ((g6, .cells #[.int .i64 2, .int .i64 3, .int .i64 4] 3 (0, 0)) :: Tr) from Tw.djt), (show Dk g2 Kl10 from Tw.djt), (show Dk g1 Kl10 from Tw.djt), (show Dj Kc Kl10 from Tw.djt), (show Dj ((g6, .cells #[.int .i64 2, .int .i64 3, .int .i64 4] 3 (0, 0)) :: Tr) Kl10 from Tw.djt), rfl, (hW15.sub (fun p hp => by first | exact hp | (simp only [List.mem_cons, List.mem_append, List.nil_append, List.not_mem_nil, or_assoc, or_false, false_or] at hp ⊢ <;> grind)))⟩, rfl⟩
               case measure => (show 5 - (intOf (.int .i64 (((i + 1) : Nat) : Int))).toNat < 5 - (intOf (.int .i64 ((i : Nat) : Int))).toNat); simp only [intOf]; omega
           | true =>
             have h4 : ((n / 2 ^ (2 * i)) % 2) = 1 := of_decide_eq_true hd4
             clear hd4
             refine wp_cond_true rfl ?_
             refine wp_region_L (W0 := W0) ((g2, .cells (shC (.slice pc cs.length cc) (.slice po os.length co) tl0).toArray 32 (0, 0)) :: (g1, .cells (shC (.slice none 0 0) (.slice none 0 0) tl0).toArray 32 (0, 0)) :: (Kc ++ (Tr ++ Ko))) (hW11) ?_
             refine lm (v := .pointer (some ⟨g2, 1, none⟩)) rfl rfl ?_
             refine lv (v := .slice po os.length co) rfl rfl (yb_cell (off := 1) rfl Tw.kr Tw.m0 Tryd.underlying23 rfl Tw.kr) ?_
             refine lm (v := .int .i64 ((i : Nat) : Int)) rfl rfl ?_
             refine wpL_new (fun g => .slice (some ⟨g, 0, none⟩) 2 2) (obi := .cells #[.int .i64 0, .int .i64 1] 3 (0, 0)) rfl rfl Tw.kf Tw.pf fun g13 Bg13 Fg13 => ?_
             obtain ⟨dj14_0, dj14_1, dj14_2, dj14_3, dj14_4⟩ : g2 ≠ g13 ∧ g1 ≠ g13 ∧ Dk g13 Kc ∧ Dk g13 Tr ∧ Dk g13 Ko := Tw.dkf Fg13
             refine lm (v := .agg #[.int .i64 ((i : Nat) : Int), .slice (some ⟨g13, 0, none⟩) 2 2]) rfl rfl ?_
             refine wpL_new (fun g => .slice (some ⟨g, 0, none⟩) 1 1) (obi := .cells #[.int .i64 ((i : Nat) : Int), .slice (some ⟨g13, 0, none⟩) 2 2] 67 (0, 0)) rfl rfl Tw.kf Tw.pf fun g15 Bg15 Fg15 => ?_
             obtain ⟨dj16_0, dj16_1, dj16_2, dj16_3, dj16_4, dj16_5⟩ : g13 ≠ g15 ∧ g2 ≠ g15 ∧ g1 ≠ g15 ∧ Dk g15 Kc ∧ Dk g15 Tr ∧ Dk g15 Ko := Tw.dkf Fg15
             refine wpL_g (AppO W0 67 2 ((g13, .cells #[.int .i64 0, .int .i64 1] 3 (0, 0)) :: (g2, .cells (shC (.slice pc cs.length cc) (.slice po os.length co) tl0).toArray 32 (0, 0)) :: (g1, .cells (shC (.slice none 0 0) (.slice none 0 0) tl0).toArray 32 (0, 0)) :: (Kc ++ Tr)) (os.length + 1) ((os.flatMap covC) ++ [.int .i64 ((i : Nat) : Int), .slice (some ⟨g13, 0, none⟩) 2 2])) rfl rfl (app_own el_cov (m := 1) (c := 1) (news := [.int .i64 ((i : Nat) : Int), .slice (some ⟨g13, 0, none⟩) 2 2]) rfl Tw.kr Tw.kr Tw.m0 hOo Tw.sc (fun p hp => ⟨by simp only [List.mem_cons, List.mem_append, List.nil_append, List.not_mem_nil, or_assoc, or_false, false_or] at hp ⊢ <;> grind, (show Dj ((g13, .cells #[.int .i64 0, .int .i64 1] 3 (0, 0)) :: (g2, .cells (shC (.slice pc cs.length cc) (.slice po os.length co) tl0).toArray 32 (0, 0)) :: (g1, .cells (shC (.slice none 0 0) (.slice none 0 0) tl0).toArray 32 (0, 0)) :: (Kc ++ Tr)) Ko from Tw.djt) p hp⟩) rfl (by simp [strV, Value.oneCell']) Tw.om Tw.om Tw.om) Tw.pf ?_
             rintro v17 K9 ⟨Kl17, O17, N17, rfl⟩
             obtain ⟨dj18_0, dj18_1, dj18_2, dj18_3, dj18_4⟩ : Dk g13 Kl17 ∧ Dk g2 Kl17 ∧ Dk g1 Kl17 ∧ Dj Kc Kl17 ∧ Dj Tr Kl17 := Tw.djf N17
             refine lm (v := .pointer (some ⟨g2, 1, none⟩)) rfl rfl ?_
             obtain ⟨p19, c19, rfl⟩ := own_shape O17
             refine wpL_s ((g13, .cells #[.int .i64 0, .int .i64 1] 3 (0, 0)) :: (g2, .cells (shC (.slice pc cs.length cc) (.slice p19 (os.length + 1) c19) tl0).toArray 32 (0, 0)) :: (g1, .cells (shC (.slice none 0 0) (.slice none 0 0) tl0).toArray 32 (0, 0)) :: ((Kc ++ Tr) ++ Kl17)) rfl rfl (st_row (off := 1) (v := .slice p19 (os.length + 1) c19) rfl Tw.kr Tw.kr Tw.m1 Bg2 Tw.kr (by first | (simp [Value.cells]; done) | exact Nat.le_of_ble_eq_true rfl) (by intro v hv; simp [Value.cells] at hv; first | (subst hv; rfl) | (rcases hv with rfl <;> rfl)) Tw.kr (List.forall_mem_cons.2 ⟨.inr ⟨Tw.m0, Tw.nee⟩, (List.forall_mem_cons.2 ⟨.inl rfl, (List.forall_mem_cons.2 ⟨.inr ⟨Tw.m2, Tw.nee⟩, (fun p hp => .inr ⟨(.tail _ (.tail _ (.tail _ hp))), ((show Dk g2 ((Kc ++ Tr) ++ Kl17) from Tw.djt) _ hp)⟩)⟩)⟩)⟩)) ?_
             refine wpL_done (fun W16 hW16 => ?_)
             change Code.wp ..
             refine wp_seq ?_
             refine wp_region_L (W0 := W0) ((g13, .cells #[.int .i64 0, .int .i64 1] 3 (0, 0)) :: (g2, .cells (shC (.slice pc cs.length cc) (.slice p19 (os.length + 1) c19) tl0).toArray 32 (0, 0)) :: (g1, .cells (shC (.slice none 0 0) (.slice none 0 0) tl0).toArray 32 (0, 0)) :: ((Kc ++ Tr) ++ Kl17)) (hW16) ?_
             refine lm (v := .int .u32 ((n : Nat) : Int)) rfl rfl ?_
             refine lm (v := .int .i64 ((i : Nat) : Int)) rfl rfl ?_
             refine lp (v := .int .i64 (((2 * i) : Nat) : Int)) rfl rfl (run_bin rfl (vx := (.int .i64 ((2 : Nat) : Int))) (vy := (.int .i64 ((i : Nat) : Int))) Tw.kr Tw.kr fun w => bn_mul (z := (2 * i)) rfl (wr_i64 Tw.om) w) ?_
             refine lp (v := .int .i64 ((((2 * i) + 1) : Nat) : Int)) rfl rfl (run_bin rfl (vx := (.int .i64 (((2 * i) : Nat) : Int))) (vy := (.int .i64 ((1 : Nat) : Int))) Tw.kr Tw.kr fun w => bn_add (z := ((2 * i) + 1)) rfl (wr_i64 Tw.om) w) ?_
             refine lp (v := .int .u32 (((n / 2 ^ ((2 * i) + 1)) : Nat) : Int)) rfl rfl (run_bin rfl (vx := (.int .u32 ((n : Nat) : Int))) (vy := (.int .i64 ((((2 * i) + 1) : Nat) : Int))) Tw.kr Tw.kr fun w => bn_shr (z := (n / 2 ^ ((2 * i) + 1))) rfl (by first | omega | decide | (simp only [IntKind.bits]; omega)) w) ?_
             refine lp (v := .int .u32 ((((n / 2 ^ ((2 * i) + 1)) % 2) : Nat) : Int)) rfl rfl (run_bin rfl (vx := (.int .u32 (((n / 2 ^ ((2 * i) + 1)) : Nat) : Int))) (vy := (.int .u32 ((1 : Nat) : Int))) Tw.kr Tw.kr fun w => bn_and (z := ((n / 2 ^ ((2 * i) + 1)) % 2)) (Nat.and_one_is_mod _) (by rw [show IntKind.u32.bits = 32 from rfl]; exact Nat.lt_of_le_of_lt (Nat.div_le_self _ _) Tw.om) (by decide) (wr_u32 Tw.om) w) ?_
             refine lp (v := .bool (decide (((n / 2 ^ ((2 * i) + 1)) % 2) = 1))) rfl rfl (run_bin rfl (vx := (.int .u32 ((((n / 2 ^ ((2 * i) + 1)) % 2) : Nat) : Int))) (vy := (.int .u32 ((1 : Nat) : Int))) Tw.kr Tw.kr fun w => bn_eql rfl w) ?_
             refine wpL_done (fun W17 hW17 => ?_)
             change Code.wp ..
             cases hd6 : (decide (((n / 2 ^ ((2 * i) + 1)) % 2) = 1)) with
             | false =>
               have h6 : ¬ (((n / 2 ^ ((2 * i) + 1)) % 2) = 1) := of_decide_eq_false hd6
               clear hd6
               refine wp_cond_false rfl ?_
               refine wp_skip ?_
               change Code.wp ..
               refine wp_region_L (W0 := W0) ((g13, .cells #[.int .i64 0, .int .i64 1] 3 (0, 0)) :: (g2, .cells (shC (.slice pc cs.length cc) (.slice p19 (os.length + 1) c19) tl0).toArray 32 (0, 0)) :: (g1, .cells (shC (.slice none 0 0) (.slice none 0 0) tl0).toArray 32 (0, 0)) :: ((Kc ++ Tr) ++ Kl17)) (hW17) ?_
               refine lm (v := .int .i64 ((i : Nat) : Int)) rfl rfl ?_
               refine lp (v := .int .i64 (((i + 1) : Nat) : Int)) rfl rfl (run_bin rfl (vx := (.int .i64 ((i : Nat) : Int))) (vy := (.int .i64 ((1 : Nat) : Int))) Tw.kr Tw.kr fun w => bn_add (z := (i + 1)) rfl (wr_i64 Tw.om) w) ?_
               refine lm (v := .int .i64 (((i + 1) : Nat) : Int)) rfl rfl ?_
               refine wpL_done (fun W18 hW18 => ?_)
               go_roundw
               case rel =>
                 repeat apply Exists.intro
                 exact ⟨⟨i + 1, (os ++ [⟨((i : Nat) : Int), [0, 1], some ⟨g13, 0, none⟩, 2⟩]), .slice p19 (os.length + 1) c19, ((g13, .cells #[.int .i64 0, .int .i64 1] 3 (0, 0)) :: Tr), Kl17, Tw.om, (by rw [cov_10 h4 h6]; simp only [List.map_append, List.map_cons, List.map_nil, hos, List.append_assoc, List.cons_append, List.nil_append]), (by simp only [List.length_append, List.length_singleton, List.length_cons, List.length_nil]; omega), (own_app O17 (by simp only [List.flatMap_append, List.append_assoc]; rfl) (by simp only [List.length_append]; rfl)), (fun W hW => (rw_snoc (hRo W (hW.sub (fun p hp => by simp only [List.mem_cons, hp, or_true]))) (o := ⟨((i : Nat) : Int), [0, 1], some ⟨g13, 0, none⟩, 2⟩) (blk_slv hW Tw.m0))), (show Dk g2 ((g13, .cells #[.int .i64 0, .int .i64 1] 3 (0, 0)) :: Tr) from Tw.djt), (show Dk g1 ((g13, .cells #[.int .i64 0, .int .i64 1] 3 (0, 0)) :: Tr) from Tw.djt), (show Dj Kc ((g13, .cells #[.int .i64 0, .int .i64 1] 3 (0, 0)) :: Tr) from Tw.djt), (show Dk g2 Kl17 from Tw.djt), (show Dk g1 Kl17 from Tw.djt), (show Dj Kc Kl17 from Tw.djt), (show Dj ((g13, .cells #[.int .i64 0, .int .i64 1] 3 (0, 0)) :: Tr) Kl17 from Tw.djt), rfl, (hW18.sub (fun p hp => by first | exact hp | (simp only [List.mem_cons, List.mem_append, List.nil_append, List.not_mem_nil, or_assoc, or_false, false_or] at hp ⊢ <;> grind)))⟩, rfl⟩
               case measure => (show 5 - (intOf (.int .i64 (((i + 1) : Nat) : Int))).toNat < 5 - (intOf (.int .i64 ((i : Nat) : Int))).toNat); simp only [intOf]; omega
             | true =>
               have h6 : ((n / 2 ^ ((2 * i) + 1)) % 2) = 1 := of_decide_eq_true hd6
               clear hd6
               refine wp_cond_true rfl ?_
               refine wp_region_L (W0 := W0) ((g13, .cells #[.int .i64 0, .int .i64 1] 3 (0, 0)) :: (g2, .cells (shC (.slice pc cs.length cc) (.slice p19 (os.length + 1) c19) tl0).toArray 32 (0, 0)) :: (g1, .cells (shC (.slice none 0 0) (.slice none 0 0) tl0).toArray 32 (0, 0)) :: ((Kc ++ Tr) ++ Kl17)) (hW17) ?_
               refine lm (v := .pointer (some ⟨g2, 1, none⟩)) rfl rfl ?_
               refine lv (v := .slice p19 (os.length + 1) c19) rfl rfl (yb_cell (off := 1) rfl Tw.kr Tw.m1 Tryd.underlying23 rfl Tw.kr) ?_
               refine lm (v := .int .i64 ((i : Nat) : Int)) rfl rfl ?_
               refine wpL_new (fun g => .slice (some ⟨g, 0, none⟩) 3 3) (obi := .cells #[.int .i64 2, .int .i64 3, .int .i64 4] 3 (0, 0)) rfl rfl Tw.kf Tw.pf fun g20 Bg20 Fg20 => ?_
               obtain ⟨dj21_0, dj21_1, dj21_2, dj21_3, dj21_4, dj21_5⟩ : g13 ≠ g20 ∧ g2 ≠ g20 ∧ g1 ≠ g20 ∧ Dk g20 Kc ∧ Dk g20 Tr ∧ Dk g20 Kl17 := Tw.dkf Fg20
               refine lm (v := .agg #[.int .i64 ((i : Nat) : Int), .slice (some ⟨g20, 0, none⟩) 3 3]) rfl rfl ?_
               refine wpL_new (fun g => .slice (some ⟨g, 0, none⟩) 1 1) (obi := .cells #[.int .i64 ((i : Nat) : Int), .slice (some ⟨g20, 0, none⟩) 3 3] 67 (0, 0)) rfl rfl Tw.kf Tw.pf fun g22 Bg22 Fg22 => ?_
               obtain ⟨dj23_0, dj23_1, dj23_2, dj23_3, dj23_4, dj23_5, dj23_6⟩ : g20 ≠ g22 ∧ g13 ≠ g22 ∧ g2 ≠ g22 ∧ g1 ≠ g22 ∧ Dk g22 Kc ∧ Dk g22 Tr ∧ Dk g22 Kl17 := Tw.dkf Fg22
               refine wpL_g (AppO W0 67 2 ((g20, .cells #[.int .i64 2, .int .i64 3, .int .i64 4] 3 (0, 0)) :: (g13, .cells #[.int .i64 0, .int .i64 1] 3 (0, 0)) :: (g2, .cells (shC (.slice pc cs.length cc) (.slice p19 (os.length + 1) c19) tl0).toArray 32 (0, 0)) :: (g1, .cells (shC (.slice none 0 0) (.slice none 0 0) tl0).toArray 32 (0, 0)) :: (Kc ++ Tr)) ((os.length + 1) + 1) (((os.flatMap covC) ++ [.int .i64 ((i : Nat) : Int), .slice (some ⟨g13, 0, none⟩) 2 2]) ++ [.int .i64 ((i : Nat) : Int), .slice (some ⟨g20, 0, none⟩) 3 3])) rfl rfl (app_own el_cov (m := 1) (c := 1) (news := [.int .i64 ((i : Nat) : Int), .slice (some ⟨g20, 0, none⟩) 3 3]) rfl Tw.kr Tw.kr Tw.m0 O17 Tw.sc (fun p hp => ⟨by simp only [List.mem_cons, List.mem_append, List.nil_append, List.not_mem_nil, or_assoc, or_false, false_or] at hp ⊢ <;> grind, (show Dj ((g20, .cells #[.int .i64 2, .int .i64 3, .int .i64 4] 3 (0, 0)) :: (g13, .cells #[.int .i64 0, .int .i64 1] 3 (0, 0)) :: (g2, .cells (shC (.slice pc cs.length cc) (.slice p19 (os.length + 1) c19) tl0).toArray 32 (0, 0)) :: (g1, .cells (shC (.slice none 0 0) (.slice none 0 0) tl0).toArray 32 (0, 0)) :: (Kc ++ Tr)) Kl17 from Tw.djt) p hp⟩) rfl (by simp [strV, Value.oneCell']) Tw.om Tw.om Tw.om) Tw.pf ?_
               rintro v24 K9 ⟨Kl24, O24, N24, rfl⟩
               obtain ⟨dj25_0, dj25_1, dj25_2, dj25_3, dj25_4, dj25_5⟩ : Dk g20 Kl24 ∧ Dk g13 Kl24 ∧ Dk g2 Kl24 ∧ Dk g1 Kl24 ∧ Dj Kc Kl24 ∧ Dj Tr Kl24 := Tw.djf N24
               refine lm (v := .pointer (some ⟨g2, 1, none⟩)) rfl rfl ?_
               obtain ⟨p26, c26, rfl⟩ := own_shape O24
               refine wpL_s ((g20, .cells #[.int .i64 2, .int .i64 3, .int .i64 4] 3 (0, 0)) :: (g13, .cells #[.int .i64 0, .int .i64 1] 3 (0, 0)) :: (g2, .cells (shC (.slice pc cs.length cc) (.slice p26 ((os.length + 1) + 1) c26) tl0).toArray 32 (0, 0)) :: (g1, .cells (shC (.slice none 0 0) (.slice none 0 0) tl0).toArray 32 (0, 0)) :: ((Kc ++ Tr) ++ Kl24)) rfl rfl (st_row (off := 1) (v := .slice p26 ((os.length + 1) + 1) c26) rfl Tw.kr Tw.kr Tw.m2 Bg2 Tw.kr (by first | (simp [Value.cells]; done) | exact Nat.le_of_ble_eq_true rfl) (by intro v hv; simp [Value.cells] at hv; first | (subst hv; rfl) | (rcases hv with rfl <;> rfl)) Tw.kr (List.forall_mem_cons.2 ⟨.inr ⟨Tw.m0, Tw.nee⟩, (List.forall_mem_cons.2 ⟨.inr ⟨Tw.m1, Tw.nee⟩, (List.forall_mem_cons.2 ⟨.inl rfl, (List.forall_mem_cons.2 ⟨.inr ⟨Tw.m3, Tw.nee⟩, (fun p hp => .inr ⟨(.tail _ (.tail _ (.tail _ (.tail _ hp)))), ((show Dk g2 ((Kc ++ Tr) ++ Kl24) from Tw.djt) _ hp)⟩)⟩)⟩)⟩)⟩)) ?_
               refine wpL_done (fun W19 hW19 => ?_)
               change Code.wp ..
               refine wp_region_L (W0 := W0) ((g20, .cells #[.int .i64 2, .int .i64 3, .int .i64 4] 3 (0, 0)) :: (g13, .cells #[.int .i64 0, .int .i64 1] 3 (0, 0)) :: (g2, .cells (shC (.slice pc cs.length cc) (.slice p26 ((os.length + 1) + 1) c26) tl0).toArray 32 (0, 0)) :: (g1, .cells (shC (.slice none 0 0) (.slice none 0 0) tl0).toArray 32 (0, 0)) :: ((Kc ++ Tr) ++ Kl24)) (hW19) ?_
               refine lm (v := .int .i64 ((i : Nat) : Int)) rfl rfl ?_
               refine lp (v := .int .i64 (((i + 1) : Nat) : Int)) rfl rfl (run_bin rfl (vx := (.int .i64 ((i : Nat) : Int))) (vy := (.int .i64 ((1 : Nat) : Int))) Tw.kr Tw.kr fun w => bn_add (z := (i + 1)) rfl (wr_i64 Tw.om) w) ?_
               refine lm (v := .int .i64 (((i + 1) : Nat) : Int)) rfl rfl ?_
               refine wpL_done (fun W20 hW20 => ?_)
               go_roundw
               case rel =>
                 repeat apply Exists.intro
                 exact ⟨⟨i + 1, ((os ++ [⟨((i : Nat) : Int), [0, 1], some ⟨g13, 0, none⟩, 2⟩]) ++ [⟨((i : Nat) : Int), [2, 3, 4], some ⟨g20, 0, none⟩, 3⟩]), .slice p26 ((os.length + 1) + 1) c26, ((g20, .cells #[.int .i64 2, .int .i64 3, .int .i64 4] 3 (0, 0)) :: ((g13, .cells #[.int .i64 0, .int .i64 1] 3 (0, 0)) :: Tr)), Kl24, Tw.om, (by rw [cov_11 h4 h6]; simp only [List.map_append, List.map_cons, List.map_nil, hos, List.append_assoc, List.cons_append, List.nil_append]), (by simp only [List.length_append, List.length_singleton, List.length_cons, List.length_nil]; omega), (own_app O24 (by simp only [List.flatMap_append, List.append_assoc]; rfl) (by simp only [List.length_append]; rfl)), (fun W hW => (rw_snoc (rw_snoc (hRo W (hW.sub (fun p hp => by simp only [List.mem_cons, hp, or_true]))) (o := ⟨((i : Nat) : Int), [0, 1], some ⟨g13, 0, none⟩, 2⟩) (blk_slv hW Tw.m1)) (o := ⟨((i : Nat) : Int), [2, 3, 4], some ⟨g20, 0, none⟩, 3⟩) (blk_slv hW Tw.m0))), (show Dk g2 ((g20, .cells #[.int .i64 2, .int .i64 3, .int .i64 4] 3 (0, 0)) :: ((g13, .cells #[.int .i64 0, .int .i64 1] 3 (0, 0)) :: Tr)) from Tw.djt), (show Dk g1 ((g20, .cells #[.int .i64 2, .int .i64 3, .int .i64 4] 3 (0, 0)) :: ((g13, .cells #[.int .i64 0, .int .i64 1] 3 (0, 0)) :: Tr)) from Tw.djt), (show Dj Kc ((g20, .cells #[.int .i64 2, .int .i64 3, .int .i64 4] 3 (0, 0)) :: ((g13, .cells #[.int .i64 0, .int .i64 1] 3 (0, 0)) :: Tr)) from Tw.djt), (show Dk g2 Kl24 from Tw.djt), (show Dk g1 Kl24 from Tw.djt), (show Dj Kc Kl24 from Tw.djt), (show Dj ((g20, .cells #[.int .i64 2, .int .i64 3, .int .i64 4] 3 (0, 0)) :: ((g13, .cells #[.int .i64 0, .int .i64 1] 3 (0, 0)) :: Tr)) Kl24 from Tw.djt), rfl, (hW20.sub (fun p hp => by first | exact hp | (simp only [List.mem_cons, List.mem_append, List.nil_append, List.not_mem_nil, or_assoc, or_false, false_or] at hp ⊢ <;> grind)))⟩, rfl⟩
               case measure => (show 5 - (intOf (.int .i64 (((i + 1) : Nat) : Int))).toNat < 5 - (intOf (.int .i64 ((i : Nat) : Int))).toNat); simp only [intOf]; omega
     | true =>
       have h2 : cs.length = 0 := of_decide_eq_true hd2
       clear hd2
       refine wp_cond_true rfl ?_
       refine wp_region_L (W0 := W0) ((g2, .cells (shC (.slice pc cs.length cc) (.slice none 0 0) tl0).toArray 32 (0, 0)) :: (g1, .cells (shC (.slice none 0 0) (.slice none 0 0) tl0).toArray 32 (0, 0)) :: Kc) (hW6) ?_
       refine lm (v := .agg #[.int .i64 0, .int .i64 0, .bool false, .int .i64 3, .int .i64 0, .int .i64 500000000, .int .i64 500000000, .int .i64 0, .slice none 0 0, .int .i64 0, .int .i64 0, .int .i64 2000]) rfl rfl ?_
       refine wpL_new (fun g => .slice (some ⟨g, 0, none⟩) 1 1) (obi := .cells #[.int .i64 0, .int .i64 0, .bool false, .int .i64 3, .int .i64 0, .int .i64 500000000, .int .i64 500000000, .int .i64 0, .slice none 0 0, .int .i64 0, .int .i64 0, .int .i64 2000] 65 (0, 0)) rfl rfl Tw.kf Tw.pf fun g27 Bg27 Fg27 => ?_
       obtain ⟨dj28_0, dj28_1, dj28_2⟩ : g2 ≠ g27 ∧ g1 ≠ g27 ∧ Dk g27 Kc := Tw.dkf Fg27
       refine lm (v := .pointer (some ⟨g2, 0, none⟩)) rfl rfl ?_
       refine wpL_s ((g27, .cells #[.int .i64 0, .int .i64 0, .bool false, .int .i64 3, .int .i64 0, .int .i64 500000000, .int .i64 500000000, .int .i64 0, .slice none 0 0, .int .i64 0, .int .i64 0, .int .i64 2000] 65 (0, 0)) :: (g2, .cells (shC (.slice (some ⟨g27, 0, none⟩) 1 1) (.slice none 0 0) tl0).toArray 32 (0, 0)) :: (g1, .cells (shC (.slice none 0 0) (.slice none 0 0) tl0).toArray 32 (0, 0)) :: Kc) rfl rfl (st_row (off := 0) (v := .slice (some ⟨g27, 0, none⟩) 1 1) rfl Tw.kr Tw.kr Tw.m1 Bg2 Tw.kr (by first | (simp [Value.cells]; done) | exact Nat.le_of_ble_eq_true rfl) (by intro v hv; simp [Value.cells] at hv; first | (subst hv; rfl) | (rcases hv with rfl <;> rfl)) Tw.kr (List.forall_mem_cons.2 ⟨.inr ⟨Tw.m0, Tw.nee⟩, (List.forall_mem_cons.2 ⟨.inl rfl, (List.forall_mem_cons.2 ⟨.inr ⟨Tw.m2, Tw.nee⟩, (fun p hp => .inr ⟨(.tail _ (.tail _ (.tail _ hp))), ((show Dk g2 Kc from Tw.djt) _ hp)⟩)⟩)⟩)⟩)) ?_
       refine wpL_done (fun W21 hW21 => ?_)
       change Code.wp ..
       refine wp_seq ?_
       refine wp_seq ?_
       refine wp_region_L (W0 := W0) ((g27, .cells #[.int .i64 0, .int .i64 0, .bool false, .int .i64 3, .int .i64 0, .int .i64 500000000, .int .i64 500000000, .int .i64 0, .slice none 0 0, .int .i64 0, .int .i64 0, .int .i64 2000] 65 (0, 0)) :: (g2, .cells (shC (.slice (some ⟨g27, 0, none⟩) 1 1) (.slice none 0 0) tl0).toArray 32 (0, 0)) :: (g1, .cells (shC (.slice none 0 0) (.slice none 0 0) tl0).toArray 32 (0, 0)) :: Kc) (hW21) ?_
       refine lm (v := .int .i64 0) rfl rfl ?_
       refine wpL_done (fun W22 hW22 => ?_)
       change Code.wp ..
       refine wp_block ?_
       have hB : builtC l = [col1] := by unfold builtC; rw [← hm, ← show cs = bld (l.take m) from by rw [hcs, List.take_of_length_le (by rw [List.length_take]; omega)]]; exact if_pos h2
       go_loopw [11] (fun u11 wr => ∃ (i : Nat) (os : List Cov) (vo : Value) (Tr Ko : List (Nat × Obj)), (i ≤ 5) ∧ (os.map (fun o => (o.bay, o.rows)) = covTo n i) ∧ (os.length ≤ 2 * i) ∧ (OwnL W0 67 2 vo os.length (os.flatMap covC) Ko) ∧ (∀ W, KS W0 Tr W → RwR W os) ∧ (Dk g27 Tr) ∧ (Dk g2 Tr) ∧ (Dk g1 Tr) ∧ (Dj Kc Tr) ∧ (Dk g27 Ko) ∧ (Dk g2 Ko) ∧ (Dk g1 Ko) ∧ (Dj Kc Ko) ∧ (Dj Tr Ko) ∧ u11 = .int .i64 ((i : Nat) : Int) ∧ KS W0 ((g27, .cells #[.int .i64 0, .int .i64 0, .bool false, .int .i64 3, .int .i64 0, .int .i64 500000000, .int .i64 500000000, .int .i64 0, .slice none 0 0, .int .i64 0, .int .i64 0, .int .i64 2000] 65 (0, 0)) :: (g2, .cells (shC (.slice (some ⟨g27, 0, none⟩) 1 1) (vo) tl0).toArray 32 (0, 0)) :: (g1, .cells (shC (.slice none 0 0) (.slice none 0 0) tl0).toArray 32 (0, 0)) :: (Kc ++ (Tr ++ Ko))) wr) (fun u11 _ => 5 - (intOf u11).toNat)
       case atStart => exact ⟨0, [], (.slice none 0 0), [], [], (Nat.zero_le _), rfl, (Nat.le_refl _), (OwnL.nil _ _ _), (fun _ _ => rw_nil), (show Dk g27 [] from Tw.djt), (show Dk g2 [] from Tw.djt), (show Dk g1 [] from Tw.djt), (show Dj Kc [] from Tw.djt), (show Dk g27 [] from Tw.djt), (show Dk g2 [] from Tw.djt), (show Dk g1 [] from Tw.djt), (show Dj Kc [] from Tw.djt), (show Dj [] [] from Tw.djt), rfl, (hW22.sub (fun p hp => by first | exact hp | (simp only [List.mem_cons, List.mem_append, List.nil_append, List.not_mem_nil, or_assoc, or_false, false_or] at hp ⊢ <;> grind)))⟩
       case round =>
         obtain ⟨i, os, vo, Tr, Ko, hi, hos, hlo, hOo, hRo, dh29_0, dh29_1, dh29_2, dh29_3, dh29_4, dh29_5, dh29_6, dh29_7, dh29_8, rfl, hL23⟩ := hrel
         obtain ⟨po, co, rfl, hco, RO⟩ := own_rl hOo
         refine wp_seq ?_
         refine wp_seq ?_
         refine wp_region_L (W0 := W0) ((g27, .cells #[.int .i64 0, .int .i64 0, .bool false, .int .i64 3, .int .i64 0, .int .i64 500000000, .int .i64 500000000, .int .i64 0, .slice none 0 0, .int .i64 0, .int .i64 0, .int .i64 2000] 65 (0, 0)) :: (g2, .cells (shC (.slice (some ⟨g27, 0, none⟩) 1 1) (.slice po os.length co) tl0).toArray 32 (0, 0)) :: (g1, .cells (shC (.slice none 0 0) (.slice none 0 0) tl0).toArray 32 (0, 0)) :: (Kc ++ (Tr ++ Ko))) (hL23) ?_
         refine lm (v := .int .i64 ((i : Nat) : Int)) rfl rfl ?_
         refine lp (v := .bool (decide (i < 5))) rfl rfl (run_bin rfl (vx := (.int .i64 ((i : Nat) : Int))) (vy := (.int .i64 ((5 : Nat) : Int))) Tw.kr Tw.kr fun w => bn_lss rfl w) ?_
         refine wpL_done (fun W24 hW24 => ?_)
         change Code.wp ..
         cases hd7 : (decide (i < 5)) with
         | false =>
           have h7 : ¬ (i < 5) := of_decide_eq_false hd7
           clear hd7
           refine wp_cond_false rfl ?_
           refine wp_exit ?_
           change Code.wp ..
           refine wp_seq ?_
           refine wp_region_L (W0 := W0) ((g27, .cells #[.int .i64 0, .int .i64 0, .bool false, .int .i64 3, .int .i64 0, .int .i64 500000000, .int .i64 500000000, .int .i64 0, .slice none 0 0, .int .i64 0, .int .i64 0, .int .i64 2000] 65 (0, 0)) :: (g2, .cells (shC (.slice (some ⟨g27, 0, none⟩) 1 1) (.slice po os.length co) tl0).toArray 32 (0, 0)) :: (g1, .cells (shC (.slice none 0 0) (.slice none 0 0) tl0).toArray 32 (0, 0)) :: (Kc ++ (Tr ++ Ko))) (hW24) ?_
           refine lv (v := .agg (shC (.slice (some ⟨g27, 0, none⟩) 1 1) (.slice po os.length co) tl0).toArray) rfl rfl (yb_load (n := 13) (off := 0) rfl Tw.kr Tw.m1 Tryd.underlying32 rfl Tw.kr (by first | (simp [Value.cells]; done) | exact Nat.le_of_ble_eq_true rfl) Tw.kr) ?_
           refine wpL_s ((g27, .cells #[.int .i64 0, .int .i64 0, .bool false, .int .i64 3, .int .i64 0, .int .i64 500000000, .int .i64 500000000, .int .i64 0, .slice none 0 0, .int .i64 0, .int .i64 0, .int .i64 2000] 65 (0, 0)) :: (g2, .cells (shC (.slice (some ⟨g27, 0, none⟩) 1 1) (.slice po os.length co) tl0).toArray 32 (0, 0)) :: (g1, .cells (shC (.slice (some ⟨g27, 0, none⟩) 1 1) (.slice po os.length co) tl0).toArray 32 (0, 0)) :: (Kc ++ (Tr ++ Ko))) rfl rfl (st_row (off := 0) (v := .agg (shC (.slice (some ⟨g27, 0, none⟩) 1 1) (.slice po os.length co) tl0).toArray) rfl Tw.kr Tw.kr Tw.m2 Bg1 Tw.kr (by first | (simp [Value.cells]; done) | exact Nat.le_of_ble_eq_true rfl) (fun v hv => shC_one v hv) Tw.kr (List.forall_mem_cons.2 ⟨.inr ⟨Tw.m0, Tw.nee⟩, (List.forall_mem_cons.2 ⟨.inr ⟨Tw.m1, Tw.nee⟩, (List.forall_mem_cons.2 ⟨.inl rfl, (fun p hp => .inr ⟨(.tail _ (.tail _ (.tail _ hp))), ((show Dk g1 (Kc ++ (Tr ++ Ko)) from Tw.djt) _ hp)⟩)⟩)⟩)⟩)) ?_
           refine wpL_done (fun W25 hW25 => ?_)
           change Code.wp ..
           refine wp_ret ?_
           try simp only [inBlock_ret, then_ret]
           refine bodyPost_ret (v := .agg (shC (.slice (some ⟨g27, 0, none⟩) 1 1) (.slice po os.length co) tl0).toArray) ?_ rfl ?_
           · exact (res_cell (p := 4) rfl rfl (hW25.2 _ Tw.m2) Tryd.underlying32 rfl Tw.kr)
           · exact ⟨_, ((g27, .cells #[.int .i64 0, .int .i64 0, .bool false, .int .i64 3, .int .i64 0, .int .i64 500000000, .int .i64 500000000, .int .i64 0, .slice none 0 0, .int .i64 0, .int .i64 0, .int .i64 2000] 65 (0, 0)) :: (g2, .cells (shC (.slice (some ⟨g27, 0, none⟩) 1 1) (.slice po os.length co) tl0).toArray 32 (0, 0)) :: (g1, .cells (shC (.slice (some ⟨g27, 0, none⟩) 1 1) (.slice po os.length co) tl0).toArray 32 (0, 0)) :: (Kc ++ (Tr ++ Ko))), rfl, hW25, (by rw [hB]; exact ⟨some ⟨g27, 0, none⟩, 1, os, po, co, rfl, Nat.le_refl _, hco, (fun W hW => blk_slv (cs := [col1].flatMap colC) hW Tw.m0), RO.mono (fun p hp => by simp only [List.mem_cons, List.mem_append, hp, true_or, or_true]), (fun W hW => hRo W (hW.sub (fun p hp => by simp only [List.mem_cons, List.mem_append, hp, true_or, or_true]))), (by rw [hos, show i = 5 from by omega]; rfl)⟩)⟩
         | true =>
           have h7 : i < 5 := of_decide_eq_true hd7
           clear hd7
           refine wp_cond_true rfl ?_
           refine wp_skip ?_
           change Code.wp ..
           refine wp_seq ?_
           refine wp_block ?_
           refine wp_seq ?_
           refine wp_seq ?_
           refine wp_region_L (W0 := W0) ((g27, .cells #[.int .i64 0, .int .i64 0, .bool false, .int .i64 3, .int .i64 0, .int .i64 500000000, .int .i64 500000000, .int .i64 0, .slice none 0 0, .int .i64 0, .int .i64 0, .int .i64 2000] 65 (0, 0)) :: (g2, .cells (shC (.slice (some ⟨g27, 0, none⟩) 1 1) (.slice po os.length co) tl0).toArray 32 (0, 0)) :: (g1, .cells (shC (.slice none 0 0) (.slice none 0 0) tl0).toArray 32 (0, 0)) :: (Kc ++ (Tr ++ Ko))) (hW24) ?_
           refine lm (v := .int .u32 ((n : Nat) : Int)) rfl rfl ?_
           refine lm (v := .int .i64 ((i : Nat) : Int)) rfl rfl ?_
           refine lp (v := .int .i64 (((2 * i) : Nat) : Int)) rfl rfl (run_bin rfl (vx := (.int .i64 ((2 : Nat) : Int))) (vy := (.int .i64 ((i : Nat) : Int))) Tw.kr Tw.kr fun w => bn_mul (z := (2 * i)) rfl (wr_i64 Tw.om) w) ?_
           refine lp (v := .int .u32 (((n / 2 ^ (2 * i)) : Nat) : Int)) rfl rfl (run_bin rfl (vx := (.int .u32 ((n : Nat) : Int))) (vy := (.int .i64 (((2 * i) : Nat) : Int))) Tw.kr Tw.kr fun w => bn_shr (z := (n / 2 ^ (2 * i))) rfl (by first | omega | decide | (simp only [IntKind.bits]; omega)) w) ?_
           refine lp (v := .int .u32 ((((n / 2 ^ (2 * i)) % 2) : Nat) : Int)) rfl rfl (run_bin rfl (vx := (.int .u32 (((n / 2 ^ (2 * i)) : Nat) : Int))) (vy := (.int .u32 ((1 : Nat) : Int))) Tw.kr Tw.kr fun w => bn_and (z := ((n / 2 ^ (2 * i)) % 2)) (Nat.and_one_is_mod _) (by rw [show IntKind.u32.bits = 32 from rfl]; exact Nat.lt_of_le_of_lt (Nat.div_le_self _ _) Tw.om) (by decide) (wr_u32 Tw.om) w) ?_
           refine lp (v := .bool (decide (((n / 2 ^ (2 * i)) % 2) = 1))) rfl rfl (run_bin rfl (vx := (.int .u32 ((((n / 2 ^ (2 * i)) % 2) : Nat) : Int))) (vy := (.int .u32 ((1 : Nat) : Int))) Tw.kr Tw.kr fun w => bn_eql rfl w) ?_
           refine wpL_done (fun W26 hW26 => ?_)
           change Code.wp ..
           cases hd8 : (decide (((n / 2 ^ (2 * i)) % 2) = 1)) with
           | false =>
             have h8 : ¬ (((n / 2 ^ (2 * i)) % 2) = 1) := of_decide_eq_false hd8
             clear hd8
             refine wp_cond_false rfl ?_
             refine wp_skip ?_
             change Code.wp ..
             refine wp_seq ?_
             refine wp_region_L (W0 := W0) ((g27, .cells #[.int .i64 0, .int .i64 0, .bool false, .int .i64 3, .int .i64 0, .int .i64 500000000, .int .i64 500000000, .int .i64 0, .slice none 0 0, .int .i64 0, .int .i64 0, .int .i64 2000] 65 (0, 0)) :: (g2, .cells (shC (.slice (some ⟨g27, 0, none⟩) 1 1) (.slice po os.length co) tl0).toArray 32 (0, 0)) :: (g1, .cells (shC (.slice none 0 0) (.slice none 0 0) tl0).toArray 32 (0, 0)) :: (Kc ++ (Tr ++ Ko))) (hW26) ?_
             refine lm (v := .int .u32 ((n : Nat) : Int)) rfl rfl ?_
             refine lm (v := .int .i64 ((i : Nat) : Int)) rfl rfl ?_
             refine lp (v := .int .i64 (((2 * i) : Nat) : Int)) rfl rfl (run_bin rfl (vx := (.int .i64 ((2 : Nat) : Int))) (vy := (.int .i64 ((i : Nat) : Int))) Tw.kr Tw.kr fun w => bn_mul (z := (2 * i)) rfl (wr_i64 Tw.om) w) ?_
             refine lp (v := .int .i64 ((((2 * i) + 1) : Nat) : Int)) rfl rfl (run_bin rfl (vx := (.int .i64 (((2 * i) : Nat) : Int))) (vy := (.int .i64 ((1 : Nat) : Int))) Tw.kr Tw.kr fun w => bn_add (z := ((2 * i) + 1)) rfl (wr_i64 Tw.om) w) ?_
             refine lp (v := .int .u32 (((n / 2 ^ ((2 * i) + 1)) : Nat) : Int)) rfl rfl (run_bin rfl (vx := (.int .u32 ((n : Nat) : Int))) (vy := (.int .i64 ((((2 * i) + 1) : Nat) : Int))) Tw.kr Tw.kr fun w => bn_shr (z := (n / 2 ^ ((2 * i) + 1))) rfl (by first | omega | decide | (simp only [IntKind.bits]; omega)) w) ?_
             refine lp (v := .int .u32 ((((n / 2 ^ ((2 * i) + 1)) % 2) : Nat) : Int)) rfl rfl (run_bin rfl (vx := (.int .u32 (((n / 2 ^ ((2 * i) + 1)) : Nat) : Int))) (vy := (.int .u32 ((1 : Nat) : Int))) Tw.kr Tw.kr fun w => bn_and (z := ((n / 2 ^ ((2 * i) + 1)) % 2)) (Nat.and_one_is_mod _) (by rw [show IntKind.u32.bits = 32 from rfl]; exact Nat.lt_of_le_of_lt (Nat.div_le_self _ _) Tw.om) (by decide) (wr_u32 Tw.om) w) ?_
             refine lp (v := .bool (decide (((n / 2 ^ ((2 * i) + 1)) % 2) = 1))) rfl rfl (run_bin rfl (vx := (.int .u32 ((((n / 2 ^ ((2 * i) + 1)) % 2) : Nat) : Int))) (vy := (.int .u32 ((1 : Nat) : Int))) Tw.kr Tw.kr fun w => bn_eql rfl w) ?_
             refine wpL_done (fun W27 hW27 => ?_)
             change Code.wp ..
             cases hd9 : (decide (((n / 2 ^ ((2 * i) + 1)) % 2) = 1)) with
             | false =>
               have h9 : ¬ (((n / 2 ^ ((2 * i) + 1)) % 2) = 1) := of_decide_eq_false hd9
               clear hd9
               refine wp_cond_false rfl ?_
               refine wp_skip ?_
               change Code.wp ..
               refine wp_region_L (W0 := W0) ((g27, .cells #[.int .i64 0, .int .i64 0, .bool false, .int .i64 3, .int .i64 0, .int .i64 500000000, .int .i64 500000000, .int .i64 0, .slice none 0 0, .int .i64 0, .int .i64 0, .int .i64 2000] 65 (0, 0)) :: (g2, .cells (shC (.slice (some ⟨g27, 0, none⟩) 1 1) (.slice po os.length co) tl0).toArray 32 (0, 0)) :: (g1, .cells (shC (.slice none 0 0) (.slice none 0 0) tl0).toArray 32 (0, 0)) :: (Kc ++ (Tr ++ Ko))) (hW27) ?_
               refine lm (v := .int .i64 ((i : Nat) : Int)) rfl rfl ?_
               refine lp (v := .int .i64 (((i + 1) : Nat) : Int)) rfl rfl (run_bin rfl (vx := (.int .i64 ((i : Nat) : Int))) (vy := (.int .i64 ((1 : Nat) : Int))) Tw.kr Tw.kr fun w => bn_add (z := (i + 1)) rfl (wr_i64 Tw.om) w) ?_
               refine lm (v := .int .i64 (((i + 1) : Nat) : Int)) rfl rfl ?_
               refine wpL_done (fun W28 hW28 => ?_)
               go_roundw
               case rel =>
                 repeat apply Exists.intro
                 exact ⟨⟨i + 1, os, (.slice po os.length co), Tr, Ko, Tw.om, (by rw [cov_00 h8 h9, hos]), Tw.om, hOo, hRo, (show Dk g27 Tr from Tw.djt), (show Dk g2 Tr from Tw.djt), (show Dk g1 Tr from Tw.djt), (show Dj Kc Tr from Tw.djt), (show Dk g27 Ko from Tw.djt), (show Dk g2 Ko from Tw.djt), (show Dk g1 Ko from Tw.djt), (show Dj Kc Ko from Tw.djt), (show Dj Tr Ko from Tw.djt), rfl, (hW28.sub (fun p hp => by first | exact hp | (simp only [List.mem_cons, List.mem_append, List.nil_append, List.not_mem_nil, or_assoc, or_false, false_or] at hp ⊢ <;> grind)))⟩, rfl⟩
               case measure => (show 5 - (intOf (.int .i64 (((i + 1) : Nat) : Int))).toNat < 5 - (intOf (.int .i64 ((i : Nat) : Int))).toNat); simp only [intOf]; omega
             | true =>
               have h9 : ((n / 2 ^ ((2 * i) + 1)) % 2) = 1 := of_decide_eq_true hd9
               clear hd9
               refine wp_cond_true rfl ?_
               refine wp_region_L (W0 := W0) ((g27, .cells #[.int .i64 0, .int .i64 0, .bool false, .int .i64 3, .int .i64 0, .int .i64 500000000, .int .i64 500000000, .int .i64 0, .slice none 0 0, .int .i64 0, .int .i64 0, .int .i64 2000] 65 (0, 0)) :: (g2, .cells (shC (.slice (some ⟨g27, 0, none⟩) 1 1) (.slice po os.length co) tl0).toArray 32 (0, 0)) :: (g1, .cells (shC (.slice none 0 0) (.slice none 0 0) tl0).toArray 32 (0, 0)) :: (Kc ++ (Tr ++ Ko))) (hW27) ?_
               refine lm (v := .pointer (some ⟨g2, 1, none⟩)) rfl rfl ?_
               refine lv (v := .slice po os.length co) rfl rfl (yb_cell (off := 1) rfl Tw.kr Tw.m1 Tryd.underlying23 rfl Tw.kr) ?_
               refine lm (v := .int .i64 ((i : Nat) : Int)) rfl rfl ?_
               refine wpL_new (fun g => .slice (some ⟨g, 0, none⟩) 3 3) (obi := .cells #[.int .i64 2, .int .i64 3, .int .i64 4] 3 (0, 0)) rfl rfl Tw.kf Tw.pf fun g30 Bg30 Fg30 => ?_
               obtain ⟨dj31_0, dj31_1, dj31_2, dj31_3, dj31_4, dj31_5⟩ : g27 ≠ g30 ∧ g2 ≠ g30 ∧ g1 ≠ g30 ∧ Dk g30 Kc ∧ Dk g30 Tr ∧ Dk g30 Ko := Tw.dkf Fg30
               refine lm (v := .agg #[.int .i64 ((i : Nat) : Int), .slice (some ⟨g30, 0, none⟩) 3 3]) rfl rfl ?_
               refine wpL_new (fun g => .slice (some ⟨g, 0, none⟩) 1 1) (obi := .cells #[.int .i64 ((i : Nat) : Int), .slice (some ⟨g30, 0, none⟩) 3 3] 67 (0, 0)) rfl rfl Tw.kf Tw.pf fun g32 Bg32 Fg32 => ?_
               obtain ⟨dj33_0, dj33_1, dj33_2, dj33_3, dj33_4, dj33_5, dj33_6⟩ : g30 ≠ g32 ∧ g27 ≠ g32 ∧ g2 ≠ g32 ∧ g1 ≠ g32 ∧ Dk g32 Kc ∧ Dk g32 Tr ∧ Dk g32 Ko := Tw.dkf Fg32
               refine wpL_g (AppO W0 67 2 ((g30, .cells #[.int .i64 2, .int .i64 3, .int .i64 4] 3 (0, 0)) :: (g27, .cells #[.int .i64 0, .int .i64 0, .bool false, .int .i64 3, .int .i64 0, .int .i64 500000000, .int .i64 500000000, .int .i64 0, .slice none 0 0, .int .i64 0, .int .i64 0, .int .i64 2000] 65 (0, 0)) :: (g2, .cells (shC (.slice (some ⟨g27, 0, none⟩) 1 1) (.slice po os.length co) tl0).toArray 32 (0, 0)) :: (g1, .cells (shC (.slice none 0 0) (.slice none 0 0) tl0).toArray 32 (0, 0)) :: (Kc ++ Tr)) (os.length + 1) ((os.flatMap covC) ++ [.int .i64 ((i : Nat) : Int), .slice (some ⟨g30, 0, none⟩) 3 3])) rfl rfl (app_own el_cov (m := 1) (c := 1) (news := [.int .i64 ((i : Nat) : Int), .slice (some ⟨g30, 0, none⟩) 3 3]) rfl Tw.kr Tw.kr Tw.m0 hOo Tw.sc (fun p hp => ⟨by simp only [List.mem_cons, List.mem_append, List.nil_append, List.not_mem_nil, or_assoc, or_false, false_or] at hp ⊢ <;> grind, (show Dj ((g30, .cells #[.int .i64 2, .int .i64 3, .int .i64 4] 3 (0, 0)) :: (g27, .cells #[.int .i64 0, .int .i64 0, .bool false, .int .i64 3, .int .i64 0, .int .i64 500000000, .int .i64 500000000, .int .i64 0, .slice none 0 0, .int .i64 0, .int .i64 0, .int .i64 2000] 65 (0, 0)) :: (g2, .cells (shC (.slice (some ⟨g27, 0, none⟩) 1 1) (.slice po os.length co) tl0).toArray 32 (0, 0)) :: (g1, .cells (shC (.slice none 0 0) (.slice none 0 0) tl0).toArray 32 (0, 0)) :: (Kc ++ Tr)) Ko from Tw.djt) p hp⟩) rfl (by simp [strV, Value.oneCell']) Tw.om Tw.om Tw.om) Tw.pf ?_
               rintro v34 K9 ⟨Kl34, O34, N34, rfl⟩
               obtain ⟨dj35_0, dj35_1, dj35_2, dj35_3, dj35_4, dj35_5⟩ : Dk g30 Kl34 ∧ Dk g27 Kl34 ∧ Dk g2 Kl34 ∧ Dk g1 Kl34 ∧ Dj Kc Kl34 ∧ Dj Tr Kl34 := Tw.djf N34
               refine lm (v := .pointer (some ⟨g2, 1, none⟩)) rfl rfl ?_
               obtain ⟨p36, c36, rfl⟩ := own_shape O34
               refine wpL_s ((g30, .cells #[.int .i64 2, .int .i64 3, .int .i64 4] 3 (0, 0)) :: (g27, .cells #[.int .i64 0, .int .i64 0, .bool false, .int .i64 3, .int .i64 0, .int .i64 500000000, .int .i64 500000000, .int .i64 0, .slice none 0 0, .int .i64 0, .int .i64 0, .int .i64 2000] 65 (0, 0)) :: (g2, .cells (shC (.slice (some ⟨g27, 0, none⟩) 1 1) (.slice p36 (os.length + 1) c36) tl0).toArray 32 (0, 0)) :: (g1, .cells (shC (.slice none 0 0) (.slice none 0 0) tl0).toArray 32 (0, 0)) :: ((Kc ++ Tr) ++ Kl34)) rfl rfl (st_row (off := 1) (v := .slice p36 (os.length + 1) c36) rfl Tw.kr Tw.kr Tw.m2 Bg2 Tw.kr (by first | (simp [Value.cells]; done) | exact Nat.le_of_ble_eq_true rfl) (by intro v hv; simp [Value.cells] at hv; first | (subst hv; rfl) | (rcases hv with rfl <;> rfl)) Tw.kr (List.forall_mem_cons.2 ⟨.inr ⟨Tw.m0, Tw.nee⟩, (List.forall_mem_cons.2 ⟨.inr ⟨Tw.m1, Tw.nee⟩, (List.forall_mem_cons.2 ⟨.inl rfl, (List.forall_mem_cons.2 ⟨.inr ⟨Tw.m3, Tw.nee⟩, (fun p hp => .inr ⟨(.tail _ (.tail _ (.tail _ (.tail _ hp)))), ((show Dk g2 ((Kc ++ Tr) ++ Kl34) from Tw.djt) _ hp)⟩)⟩)⟩)⟩)⟩)) ?_
               refine wpL_done (fun W29 hW29 => ?_)
               change Code.wp ..
               refine wp_region_L (W0 := W0) ((g30, .cells #[.int .i64 2, .int .i64 3, .int .i64 4] 3 (0, 0)) :: (g27, .cells #[.int .i64 0, .int .i64 0, .bool false, .int .i64 3, .int .i64 0, .int .i64 500000000, .int .i64 500000000, .int .i64 0, .slice none 0 0, .int .i64 0, .int .i64 0, .int .i64 2000] 65 (0, 0)) :: (g2, .cells (shC (.slice (some ⟨g27, 0, none⟩) 1 1) (.slice p36 (os.length + 1) c36) tl0).toArray 32 (0, 0)) :: (g1, .cells (shC (.slice none 0 0) (.slice none 0 0) tl0).toArray 32 (0, 0)) :: ((Kc ++ Tr) ++ Kl34)) (hW29) ?_
               refine lm (v := .int .i64 ((i : Nat) : Int)) rfl rfl ?_
               refine lp (v := .int .i64 (((i + 1) : Nat) : Int)) rfl rfl (run_bin rfl (vx := (.int .i64 ((i : Nat) : Int))) (vy := (.int .i64 ((1 : Nat) : Int))) Tw.kr Tw.kr fun w => bn_add (z := (i + 1)) rfl (wr_i64 Tw.om) w) ?_
               refine lm (v := .int .i64 (((i + 1) : Nat) : Int)) rfl rfl ?_
               refine wpL_done (fun W30 hW30 => ?_)
               go_roundw
               case rel =>
                 repeat apply Exists.intro
                 exact ⟨⟨i + 1, (os ++ [⟨((i : Nat) : Int), [2, 3, 4], some ⟨g30, 0, none⟩, 3⟩]), .slice p36 (os.length + 1) c36, ((g30, .cells #[.int .i64 2, .int .i64 3, .int .i64 4] 3 (0, 0)) :: Tr), Kl34, Tw.om, (by rw [cov_01 h8 h9]; simp only [List.map_append, List.map_cons, List.map_nil, hos, List.append_assoc, List.cons_append, List.nil_append]), (by simp only [List.length_append, List.length_singleton, List.length_cons, List.length_nil]; omega), (own_app O34 (by simp only [List.flatMap_append, List.append_assoc]; rfl) (by simp only [List.length_append]; rfl)), (fun W hW => (rw_snoc (hRo W (hW.sub (fun p hp => by simp only [List.mem_cons, hp, or_true]))) (o := ⟨((i : Nat) : Int), [2, 3, 4], some ⟨g30, 0, none⟩, 3⟩) (blk_slv hW Tw.m0))), (show Dk g27 ((g30, .cells #[.int .i64 2, .int .i64 3, .int .i64 4] 3 (0, 0)) :: Tr) from Tw.djt), (show Dk g2 ((g30, .cells #[.int .i64 2, .int .i64 3, .int .i64 4] 3 (0, 0)) :: Tr) from Tw.djt), (show Dk g1 ((g30, .cells #[.int .i64 2, .int .i64 3, .int .i64 4] 3 (0, 0)) :: Tr) from Tw.djt), (show Dj Kc ((g30, .cells #[.int .i64 2, .int .i64 3, .int .i64 4] 3 (0, 0)) :: Tr) from Tw.djt), (show Dk g27 Kl34 from Tw.djt), (show Dk g2 Kl34 from Tw.djt), (show Dk g1 Kl34 from Tw.djt), (show Dj Kc Kl34 from Tw.djt), (show Dj ((g30, .cells #[.int .i64 2, .int .i64 3, .int .i64 4] 3 (0, 0)) :: Tr) Kl34 from Tw.djt), rfl, (hW30.sub (fun p hp => by first | exact hp | (simp only [List.mem_cons, List.mem_append, List.nil_append, List.not_mem_nil, or_assoc, or_false, false_or] at hp ⊢ <;> grind)))⟩, rfl⟩
               case measure => (show 5 - (intOf (.int .i64 (((i + 1) : Nat) : Int))).toNat < 5 - (intOf (.int .i64 ((i : Nat) : Int))).toNat); simp only [intOf]; omega
           | true =>
             have h8 : ((n / 2 ^ (2 * i)) % 2) = 1 := of_decide_eq_true hd8
             clear hd8
             refine wp_cond_true rfl ?_
             refine wp_region_L (W0 := W0) ((g27, .cells #[.int .i64 0, .int .i64 0, .bool false, .int .i64 3, .int .i64 0, .int .i64 500000000, .int .i64 500000000, .int .i64 0, .slice none 0 0, .int .i64 0, .int .i64 0, .int .i64 2000] 65 (0, 0)) :: (g2, .cells (shC (.slice (some ⟨g27, 0, none⟩) 1 1) (.slice po os.length co) tl0).toArray 32 (0, 0)) :: (g1, .cells (shC (.slice none 0 0) (.slice none 0 0) tl0).toArray 32 (0, 0)) :: (Kc ++ (Tr ++ Ko))) (hW26) ?_
             refine lm (v := .pointer (some ⟨g2, 1, none⟩)) rfl rfl ?_
             refine lv (v := .slice po os.length co) rfl rfl (yb_cell (off := 1) rfl Tw.kr Tw.m1 Tryd.underlying23 rfl Tw.kr) ?_
             refine lm (v := .int .i64 ((i : Nat) : Int)) rfl rfl ?_
             refine wpL_new (fun g => .slice (some ⟨g, 0, none⟩) 2 2) (obi := .cells #[.int .i64 0, .int .i64 1] 3 (0, 0)) rfl rfl Tw.kf Tw.pf fun g37 Bg37 Fg37 => ?_
             obtain ⟨dj38_0, dj38_1, dj38_2, dj38_3, dj38_4, dj38_5⟩ : g27 ≠ g37 ∧ g2 ≠ g37 ∧ g1 ≠ g37 ∧ Dk g37 Kc ∧ Dk g37 Tr ∧ Dk g37 Ko := Tw.dkf Fg37
             refine lm (v := .agg #[.int .i64 ((i : Nat) : Int), .slice (some ⟨g37, 0, none⟩) 2 2]) rfl rfl ?_
             refine wpL_new (fun g => .slice (some ⟨g, 0, none⟩) 1 1) (obi := .cells #[.int .i64 ((i : Nat) : Int), .slice (some ⟨g37, 0, none⟩) 2 2] 67 (0, 0)) rfl rfl Tw.kf Tw.pf fun g39 Bg39 Fg39 => ?_
             obtain ⟨dj40_0, dj40_1, dj40_2, dj40_3, dj40_4, dj40_5, dj40_6⟩ : g37 ≠ g39 ∧ g27 ≠ g39 ∧ g2 ≠ g39 ∧ g1 ≠ g39 ∧ Dk g39 Kc ∧ Dk g39 Tr ∧ Dk g39 Ko := Tw.dkf Fg39
             refine wpL_g (AppO W0 67 2 ((g37, .cells #[.int .i64 0, .int .i64 1] 3 (0, 0)) :: (g27, .cells #[.int .i64 0, .int .i64 0, .bool false, .int .i64 3, .int .i64 0, .int .i64 500000000, .int .i64 500000000, .int .i64 0, .slice none 0 0, .int .i64 0, .int .i64 0, .int .i64 2000] 65 (0, 0)) :: (g2, .cells (shC (.slice (some ⟨g27, 0, none⟩) 1 1) (.slice po os.length co) tl0).toArray 32 (0, 0)) :: (g1, .cells (shC (.slice none 0 0) (.slice none 0 0) tl0).toArray 32 (0, 0)) :: (Kc ++ Tr)) (os.length + 1) ((os.flatMap covC) ++ [.int .i64 ((i : Nat) : Int), .slice (some ⟨g37, 0, none⟩) 2 2])) rfl rfl (app_own el_cov (m := 1) (c := 1) (news := [.int .i64 ((i : Nat) : Int), .slice (some ⟨g37, 0, none⟩) 2 2]) rfl Tw.kr Tw.kr Tw.m0 hOo Tw.sc (fun p hp => ⟨by simp only [List.mem_cons, List.mem_append, List.nil_append, List.not_mem_nil, or_assoc, or_false, false_or] at hp ⊢ <;> grind, (show Dj ((g37, .cells #[.int .i64 0, .int .i64 1] 3 (0, 0)) :: (g27, .cells #[.int .i64 0, .int .i64 0, .bool false, .int .i64 3, .int .i64 0, .int .i64 500000000, .int .i64 500000000, .int .i64 0, .slice none 0 0, .int .i64 0, .int .i64 0, .int .i64 2000] 65 (0, 0)) :: (g2, .cells (shC (.slice (some ⟨g27, 0, none⟩) 1 1) (.slice po os.length co) tl0).toArray 32 (0, 0)) :: (g1, .cells (shC (.slice none 0 0) (.slice none 0 0) tl0).toArray 32 (0, 0)) :: (Kc ++ Tr)) Ko from Tw.djt) p hp⟩) rfl (by simp [strV, Value.oneCell']) Tw.om Tw.om Tw.om) Tw.pf ?_
             rintro v41 K9 ⟨Kl41, O41, N41, rfl⟩
             obtain ⟨dj42_0, dj42_1, dj42_2, dj42_3, dj42_4, dj42_5⟩ : Dk g37 Kl41 ∧ Dk g27 Kl41 ∧ Dk g2 Kl41 ∧ Dk g1 Kl41 ∧ Dj Kc Kl41 ∧ Dj Tr Kl41 := Tw.djf N41
             refine lm (v := .pointer (some ⟨g2, 1, none⟩)) rfl rfl ?_
             obtain ⟨p43, c43, rfl⟩ := own_shape O41
             refine wpL_s ((g37, .cells #[.int .i64 0, .int .i64 1] 3 (0, 0)) :: (g27, .cells #[.int .i64 0, .int .i64 0, .bool false, .int .i64 3, .int .i64 0, .int .i64 500000000, .int .i64 500000000, .int .i64 0, .slice none 0 0, .int .i64 0, .int .i64 0, .int .i64 2000] 65 (0, 0)) :: (g2, .cells (shC (.slice (some ⟨g27, 0, none⟩) 1 1) (.slice p43 (os.length + 1) c43) tl0).toArray 32 (0, 0)) :: (g1, .cells (shC (.slice none 0 0) (.slice none 0 0) tl0).toArray 32 (0, 0)) :: ((Kc ++ Tr) ++ Kl41)) rfl rfl (st_row (off := 1) (v := .slice p43 (os.length + 1) c43) rfl Tw.kr Tw.kr Tw.m2 Bg2 Tw.kr (by first | (simp [Value.cells]; done) | exact Nat.le_of_ble_eq_true rfl) (by intro v hv; simp [Value.cells] at hv; first | (subst hv; rfl) | (rcases hv with rfl <;> rfl)) Tw.kr (List.forall_mem_cons.2 ⟨.inr ⟨Tw.m0, Tw.nee⟩, (List.forall_mem_cons.2 ⟨.inr ⟨Tw.m1, Tw.nee⟩, (List.forall_mem_cons.2 ⟨.inl rfl, (List.forall_mem_cons.2 ⟨.inr ⟨Tw.m3, Tw.nee⟩, (fun p hp => .inr ⟨(.tail _ (.tail _ (.tail _ (.tail _ hp)))), ((show Dk g2 ((Kc ++ Tr) ++ Kl41) from Tw.djt) _ hp)⟩)⟩)⟩)⟩)⟩)) ?_
             refine wpL_done (fun W31 hW31 => ?_)
             change Code.wp ..
             refine wp_seq ?_
             refine wp_region_L (W0 := W0) ((g37, .cells #[.int .i64 0, .int .i64 1] 3 (0, 0)) :: (g27, .cells #[.int .i64 0, .int .i64 0, .bool false, .int .i64 3, .int .i64 0, .int .i64 500000000, .int .i64 500000000, .int .i64 0, .slice none 0 0, .int .i64 0, .int .i64 0, .int .i64 2000] 65 (0, 0)) :: (g2, .cells (shC (.slice (some ⟨g27, 0, none⟩) 1 1) (.slice p43 (os.length + 1) c43) tl0).toArray 32 (0, 0)) :: (g1, .cells (shC (.slice none 0 0) (.slice none 0 0) tl0).toArray 32 (0, 0)) :: ((Kc ++ Tr) ++ Kl41)) (hW31) ?_
             refine lm (v := .int .u32 ((n : Nat) : Int)) rfl rfl ?_
             refine lm (v := .int .i64 ((i : Nat) : Int)) rfl rfl ?_
             refine lp (v := .int .i64 (((2 * i) : Nat) : Int)) rfl rfl (run_bin rfl (vx := (.int .i64 ((2 : Nat) : Int))) (vy := (.int .i64 ((i : Nat) : Int))) Tw.kr Tw.kr fun w => bn_mul (z := (2 * i)) rfl (wr_i64 Tw.om) w) ?_
             refine lp (v := .int .i64 ((((2 * i) + 1) : Nat) : Int)) rfl rfl (run_bin rfl (vx := (.int .i64 (((2 * i) : Nat) : Int))) (vy := (.int .i64 ((1 : Nat) : Int))) Tw.kr Tw.kr fun w => bn_add (z := ((2 * i) + 1)) rfl (wr_i64 Tw.om) w) ?_
             refine lp (v := .int .u32 (((n / 2 ^ ((2 * i) + 1)) : Nat) : Int)) rfl rfl (run_bin rfl (vx := (.int .u32 ((n : Nat) : Int))) (vy := (.int .i64 ((((2 * i) + 1) : Nat) : Int))) Tw.kr Tw.kr fun w => bn_shr (z := (n / 2 ^ ((2 * i) + 1))) rfl (by first | omega | decide | (simp only [IntKind.bits]; omega)) w) ?_
             refine lp (v := .int .u32 ((((n / 2 ^ ((2 * i) + 1)) % 2) : Nat) : Int)) rfl rfl (run_bin rfl (vx := (.int .u32 (((n / 2 ^ ((2 * i) + 1)) : Nat) : Int))) (vy := (.int .u32 ((1 : Nat) : Int))) Tw.kr Tw.kr fun w => bn_and (z := ((n / 2 ^ ((2 * i) + 1)) % 2)) (Nat.and_one_is_mod _) (by rw [show IntKind.u32.bits = 32 from rfl]; exact Nat.lt_of_le_of_lt (Nat.div_le_self _ _) Tw.om) (by decide) (wr_u32 Tw.om) w) ?_
             refine lp (v := .bool (decide (((n / 2 ^ ((2 * i) + 1)) % 2) = 1))) rfl rfl (run_bin rfl (vx := (.int .u32 ((((n / 2 ^ ((2 * i) + 1)) % 2) : Nat) : Int))) (vy := (.int .u32 ((1 : Nat) : Int))) Tw.kr Tw.kr fun w => bn_eql rfl w) ?_
             refine wpL_done (fun W32 hW32 => ?_)
             change Code.wp ..
             cases hd10 : (decide (((n / 2 ^ ((2 * i) + 1)) % 2) = 1)) with
             | false =>
               have h10 : ¬ (((n / 2 ^ ((2 * i) + 1)) % 2) = 1) := of_decide_eq_false hd10
               clear hd10
               refine wp_cond_false rfl ?_
               refine wp_skip ?_
               change Code.wp ..
               refine wp_region_L (W0 := W0) ((g37, .cells #[.int .i64 0, .int .i64 1] 3 (0, 0)) :: (g27, .cells #[.int .i64 0, .int .i64 0, .bool false, .int .i64 3, .int .i64 0, .int .i64 500000000, .int .i64 500000000, .int .i64 0, .slice none 0 0, .int .i64 0, .int .i64 0, .int .i64 2000] 65 (0, 0)) :: (g2, .cells (shC (.slice (some ⟨g27, 0, none⟩) 1 1) (.slice p43 (os.length + 1) c43) tl0).toArray 32 (0, 0)) :: (g1, .cells (shC (.slice none 0 0) (.slice none 0 0) tl0).toArray 32 (0, 0)) :: ((Kc ++ Tr) ++ Kl41)) (hW32) ?_
               refine lm (v := .int .i64 ((i : Nat) : Int)) rfl rfl ?_
               refine lp (v := .int .i64 (((i + 1) : Nat) : Int)) rfl rfl (run_bin rfl (vx := (.int .i64 ((i : Nat) : Int))) (vy := (.int .i64 ((1 : Nat) : Int))) Tw.kr Tw.kr fun w => bn_add (z := (i + 1)) rfl (wr_i64 Tw.om) w) ?_
               refine lm (v := .int .i64 (((i + 1) : Nat) : Int)) rfl rfl ?_
               refine wpL_done (fun W33 hW33 => ?_)
               go_roundw
               case rel =>
                 repeat apply Exists.intro
                 exact ⟨⟨i + 1, (os ++ [⟨((i : Nat) : Int), [0, 1], some ⟨g37, 0, none⟩, 2⟩]), .slice p43 (os.length + 1) c43, ((g37, .cells #[.int .i64 0, .int .i64 1] 3 (0, 0)) :: Tr), Kl41, Tw.om, (by rw [cov_10 h8 h10]; simp only [List.map_append, List.map_cons, List.map_nil, hos, List.append_assoc, List.cons_append, List.nil_append]), (by simp only [List.length_append, List.length_singleton, List.length_cons, List.length_nil]; omega), (own_app O41 (by simp only [List.flatMap_append, List.append_assoc]; rfl) (by simp only [List.length_append]; rfl)), (fun W hW => (rw_snoc (hRo W (hW.sub (fun p hp => by simp only [List.mem_cons, hp, or_true]))) (o := ⟨((i : Nat) : Int), [0, 1], some ⟨g37, 0, none⟩, 2⟩) (blk_slv hW Tw.m0))), (show Dk g27 ((g37, .cells #[.int .i64 0, .int .i64 1] 3 (0, 0)) :: Tr) from Tw.djt), (show Dk g2 ((g37, .cells #[.int .i64 0, .int .i64 1] 3 (0, 0)) :: Tr) from Tw.djt), (show Dk g1 ((g37, .cells #[.int .i64 0, .int .i64 1] 3 (0, 0)) :: Tr) from Tw.djt), (show Dj Kc ((g37, .cells #[.int .i64 0, .int .i64 1] 3 (0, 0)) :: Tr) from Tw.djt), (show Dk g27 Kl41 from Tw.djt), (show Dk g2 Kl41 from Tw.djt), (show Dk g1 Kl41 from Tw.djt), (show Dj Kc Kl41 from Tw.djt), (show Dj ((g37, .cells #[.int .i64 0, .int .i64 1] 3 (0, 0)) :: Tr) Kl41 from Tw.djt), rfl, (hW33.sub (fun p hp => by first | exact hp | (simp only [List.mem_cons, List.mem_append, List.nil_append, List.not_mem_nil, or_assoc, or_false, false_or] at hp ⊢ <;> grind)))⟩, rfl⟩
               case measure => (show 5 - (intOf (.int .i64 (((i + 1) : Nat) : Int))).toNat < 5 - (intOf (.int .i64 ((i : Nat) : Int))).toNat); simp only [intOf]; omega
             | true =>
               have h10 : ((n / 2 ^ ((2 * i) + 1)) % 2) = 1 := of_decide_eq_true hd10
               clear hd10
               refine wp_cond_true rfl ?_
               refine wp_region_L (W0 := W0) ((g37, .cells #[.int .i64 0, .int .i64 1] 3 (0, 0)) :: (g27, .cells #[.int .i64 0, .int .i64 0, .bool false, .int .i64 3, .int .i64 0, .int .i64 500000000, .int .i64 500000000, .int .i64 0, .slice none 0 0, .int .i64 0, .int .i64 0, .int .i64 2000] 65 (0, 0)) :: (g2, .cells (shC (.slice (some ⟨g27, 0, none⟩) 1 1) (.slice p43 (os.length + 1) c43) tl0).toArray 32 (0, 0)) :: (g1, .cells (shC (.slice none 0 0) (.slice none 0 0) tl0).toArray 32 (0, 0)) :: ((Kc ++ Tr) ++ Kl41)) (hW32) ?_
               refine lm (v := .pointer (some ⟨g2, 1, none⟩)) rfl rfl ?_
               refine lv (v := .slice p43 (os.length + 1) c43) rfl rfl (yb_cell (off := 1) rfl Tw.kr Tw.m2 Tryd.underlying23 rfl Tw.kr) ?_
               refine lm (v := .int .i64 ((i : Nat) : Int)) rfl rfl ?_
               refine wpL_new (fun g => .slice (some ⟨g, 0, none⟩) 3 3) (obi := .cells #[.int .i64 2, .int .i64 3, .int .i64 4] 3 (0, 0)) rfl rfl Tw.kf Tw.pf fun g44 Bg44 Fg44 => ?_
               obtain ⟨dj45_0, dj45_1, dj45_2, dj45_3, dj45_4, dj45_5, dj45_6⟩ : g37 ≠ g44 ∧ g27 ≠ g44 ∧ g2 ≠ g44 ∧ g1 ≠ g44 ∧ Dk g44 Kc ∧ Dk g44 Tr ∧ Dk g44 Kl41 := Tw.dkf Fg44
               refine lm (v := .agg #[.int .i64 ((i : Nat) : Int), .slice (some ⟨g44, 0, none⟩) 3 3]) rfl rfl ?_
               refine wpL_new (fun g => .slice (some ⟨g, 0, none⟩) 1 1) (obi := .cells #[.int .i64 ((i : Nat) : Int), .slice (some ⟨g44, 0, none⟩) 3 3] 67 (0, 0)) rfl rfl Tw.kf Tw.pf fun g46 Bg46 Fg46 => ?_
               obtain ⟨dj47_0, dj47_1, dj47_2, dj47_3, dj47_4, dj47_5, dj47_6, dj47_7⟩ : g44 ≠ g46 ∧ g37 ≠ g46 ∧ g27 ≠ g46 ∧ g2 ≠ g46 ∧ g1 ≠ g46 ∧ Dk g46 Kc ∧ Dk g46 Tr ∧ Dk g46 Kl41 := Tw.dkf Fg46
               refine wpL_g (AppO W0 67 2 ((g44, .cells #[.int .i64 2, .int .i64 3, .int .i64 4] 3 (0, 0)) :: (g37, .cells #[.int .i64 0, .int .i64 1] 3 (0, 0)) :: (g27, .cells #[.int .i64 0, .int .i64 0, .bool false, .int .i64 3, .int .i64 0, .int .i64 500000000, .int .i64 500000000, .int .i64 0, .slice none 0 0, .int .i64 0, .int .i64 0, .int .i64 2000] 65 (0, 0)) :: (g2, .cells (shC (.slice (some ⟨g27, 0, none⟩) 1 1) (.slice p43 (os.length + 1) c43) tl0).toArray 32 (0, 0)) :: (g1, .cells (shC (.slice none 0 0) (.slice none 0 0) tl0).toArray 32 (0, 0)) :: (Kc ++ Tr)) ((os.length + 1) + 1) (((os.flatMap covC) ++ [.int .i64 ((i : Nat) : Int), .slice (some ⟨g37, 0, none⟩) 2 2]) ++ [.int .i64 ((i : Nat) : Int), .slice (some ⟨g44, 0, none⟩) 3 3])) rfl rfl (app_own el_cov (m := 1) (c := 1) (news := [.int .i64 ((i : Nat) : Int), .slice (some ⟨g44, 0, none⟩) 3 3]) rfl Tw.kr Tw.kr Tw.m0 O41 Tw.sc (fun p hp => ⟨by simp only [List.mem_cons, List.mem_append, List.nil_append, List.not_mem_nil, or_assoc, or_false, false_or] at hp ⊢ <;> grind, (show Dj ((g44, .cells #[.int .i64 2, .int .i64 3, .int .i64 4] 3 (0, 0)) :: (g37, .cells #[.int .i64 0, .int .i64 1] 3 (0, 0)) :: (g27, .cells #[.int .i64 0, .int .i64 0, .bool false, .int .i64 3, .int .i64 0, .int .i64 500000000, .int .i64 500000000, .int .i64 0, .slice none 0 0, .int .i64 0, .int .i64 0, .int .i64 2000] 65 (0, 0)) :: (g2, .cells (shC (.slice (some ⟨g27, 0, none⟩) 1 1) (.slice p43 (os.length + 1) c43) tl0).toArray 32 (0, 0)) :: (g1, .cells (shC (.slice none 0 0) (.slice none 0 0) tl0).toArray 32 (0, 0)) :: (Kc ++ Tr)) Kl41 from Tw.djt) p hp⟩) rfl (by simp [strV, Value.oneCell']) Tw.om Tw.om Tw.om) Tw.pf ?_
               rintro v48 K9 ⟨Kl48, O48, N48, rfl⟩
               obtain ⟨dj49_0, dj49_1, dj49_2, dj49_3, dj49_4, dj49_5, dj49_6⟩ : Dk g44 Kl48 ∧ Dk g37 Kl48 ∧ Dk g27 Kl48 ∧ Dk g2 Kl48 ∧ Dk g1 Kl48 ∧ Dj Kc Kl48 ∧ Dj Tr Kl48 := Tw.djf N48
               refine lm (v := .pointer (some ⟨g2, 1, none⟩)) rfl rfl ?_
               obtain ⟨p50, c50, rfl⟩ := own_shape O48
               refine wpL_s ((g44, .cells #[.int .i64 2, .int .i64 3, .int .i64 4] 3 (0, 0)) :: (g37, .cells #[.int .i64 0, .int .i64 1] 3 (0, 0)) :: (g27, .cells #[.int .i64 0, .int .i64 0, .bool false, .int .i64 3, .int .i64 0, .int .i64 500000000, .int .i64 500000000, .int .i64 0, .slice none 0 0, .int .i64 0, .int .i64 0, .int .i64 2000] 65 (0, 0)) :: (g2, .cells (shC (.slice (some ⟨g27, 0, none⟩) 1 1) (.slice p50 ((os.length + 1) + 1) c50) tl0).toArray 32 (0, 0)) :: (g1, .cells (shC (.slice none 0 0) (.slice none 0 0) tl0).toArray 32 (0, 0)) :: ((Kc ++ Tr) ++ Kl48)) rfl rfl (st_row (off := 1) (v := .slice p50 ((os.length + 1) + 1) c50) rfl Tw.kr Tw.kr Tw.m3 Bg2 Tw.kr (by first | (simp [Value.cells]; done) | exact Nat.le_of_ble_eq_true rfl) (by intro v hv; simp [Value.cells] at hv; first | (subst hv; rfl) | (rcases hv with rfl <;> rfl)) Tw.kr (List.forall_mem_cons.2 ⟨.inr ⟨Tw.m0, Tw.nee⟩, (List.forall_mem_cons.2 ⟨.inr ⟨Tw.m1, Tw.nee⟩, (List.forall_mem_cons.2 ⟨.inr ⟨Tw.m2, Tw.nee⟩, (List.forall_mem_cons.2 ⟨.inl rfl, (List.forall_mem_cons.2 ⟨.inr ⟨Tw.m4, Tw.nee⟩, (fun p hp => .inr ⟨(.tail _ (.tail _ (.tail _ (.tail _ (.tail _ hp))))), ((show Dk g2 ((Kc ++ Tr) ++ Kl48) from Tw.djt) _ hp)⟩)⟩)⟩)⟩)⟩)⟩)) ?_
               refine wpL_done (fun W34 hW34 => ?_)
               change Code.wp ..
               refine wp_region_L (W0 := W0) ((g44, .cells #[.int .i64 2, .int .i64 3, .int .i64 4] 3 (0, 0)) :: (g37, .cells #[.int .i64 0, .int .i64 1] 3 (0, 0)) :: (g27, .cells #[.int .i64 0, .int .i64 0, .bool false, .int .i64 3, .int .i64 0, .int .i64 500000000, .int .i64 500000000, .int .i64 0, .slice none 0 0, .int .i64 0, .int .i64 0, .int .i64 2000] 65 (0, 0)) :: (g2, .cells (shC (.slice (some ⟨g27, 0, none⟩) 1 1) (.slice p50 ((os.length + 1) + 1) c50) tl0).toArray 32 (0, 0)) :: (g1, .cells (shC (.slice none 0 0) (.slice none 0 0) tl0).toArray 32 (0, 0)) :: ((Kc ++ Tr) ++ Kl48)) (hW34) ?_
               refine lm (v := .int .i64 ((i : Nat) : Int)) rfl rfl ?_
               refine lp (v := .int .i64 (((i + 1) : Nat) : Int)) rfl rfl (run_bin rfl (vx := (.int .i64 ((i : Nat) : Int))) (vy := (.int .i64 ((1 : Nat) : Int))) Tw.kr Tw.kr fun w => bn_add (z := (i + 1)) rfl (wr_i64 Tw.om) w) ?_
               refine lm (v := .int .i64 (((i + 1) : Nat) : Int)) rfl rfl ?_
               refine wpL_done (fun W35 hW35 => ?_)
               go_roundw
               case rel =>
                 repeat apply Exists.intro
                 exact ⟨⟨i + 1, ((os ++ [⟨((i : Nat) : Int), [0, 1], some ⟨g37, 0, none⟩, 2⟩]) ++ [⟨((i : Nat) : Int), [2, 3, 4], some ⟨g44, 0, none⟩, 3⟩]), .slice p50 ((os.length + 1) + 1) c50, ((g44, .cells #[.int .i64 2, .int .i64 3, .int .i64 4] 3 (0, 0)) :: ((g37, .cells #[.int .i64 0, .int .i64 1] 3 (0, 0)) :: Tr)), Kl48, Tw.om, (by rw [cov_11 h8 h10]; simp only [List.map_append, List.map_cons, List.map_nil, hos, List.append_assoc, List.cons_append, List.nil_append]), (by simp only [List.length_append, List.length_singleton, List.length_cons, List.length_nil]; omega), (own_app O48 (by simp only [List.flatMap_append, List.append_assoc]; rfl) (by simp only [List.length_append]; rfl)), (fun W hW => (rw_snoc (rw_snoc (hRo W (hW.sub (fun p hp => by simp only [List.mem_cons, hp, or_true]))) (o := ⟨((i : Nat) : Int), [0, 1], some ⟨g37, 0, none⟩, 2⟩) (blk_slv hW Tw.m1)) (o := ⟨((i : Nat) : Int), [2, 3, 4], some ⟨g44, 0, none⟩, 3⟩) (blk_slv hW Tw.m0))), (show Dk g27 ((g44, .cells #[.int .i64 2, .int .i64 3, .int .i64 4] 3 (0, 0)) :: ((g37, .cells #[.int .i64 0, .int .i64 1] 3 (0, 0)) :: Tr)) from Tw.djt), (show Dk g2 ((g44, .cells #[.int .i64 2, .int .i64 3, .int .i64 4] 3 (0, 0)) :: ((g37, .cells #[.int .i64 0, .int .i64 1] 3 (0, 0)) :: Tr)) from Tw.djt), (show Dk g1 ((g44, .cells #[.int .i64 2, .int .i64 3, .int .i64 4] 3 (0, 0)) :: ((g37, .cells #[.int .i64 0, .int .i64 1] 3 (0, 0)) :: Tr)) from Tw.djt), (show Dj Kc ((g44, .cells #[.int .i64 2, .int .i64 3, .int .i64 4] 3 (0, 0)) :: ((g37, .cells #[.int .i64 0, .int .i64 1] 3 (0, 0)) :: Tr)) from Tw.djt), (show Dk g27 Kl48 from Tw.djt), (show Dk g2 Kl48 from Tw.djt), (show Dk g1 Kl48 from Tw.djt), (show Dj Kc Kl48 from Tw.djt), (show Dj ((g44, .cells #[.int .i64 2, .int .i64 3, .int .i64 4] 3 (0, 0)) :: ((g37, .cells #[.int .i64 0, .int .i64 1] 3 (0, 0)) :: Tr)) Kl48 from Tw.djt), rfl, (hW35.sub (fun p hp => by first | exact hp | (simp only [List.mem_cons, List.mem_append, List.nil_append, List.not_mem_nil, or_assoc, or_false, false_or] at hp ⊢ <;> grind)))⟩, rfl⟩
               case measure => (show 5 - (intOf (.int .i64 (((i + 1) : Nat) : Int))).toNat < 5 - (intOf (.int .i64 ((i : Nat) : Int))).toNat); simp only [intOf]; omega
   | true =>
     have h1 : k < m := of_decide_eq_true hd1
     clear hd1
     refine wp_cond_true rfl ?_
     refine wp_skip ?_
     change Code.wp ..
     refine wp_seq ?_
     refine wp_block ?_
     refine wp_seq ?_
     refine wp_region_L (W0 := W0) ((g2, .cells (shC (.slice pc cs.length cc) (.slice none 0 0) tl0).toArray 32 (0, 0)) :: (g1, .cells (shC (.slice none 0 0) (.slice none 0 0) tl0).toArray 32 (0, 0)) :: Kc) (hW5) ?_
     obtain ⟨y51, g51_, f51_, hy51, hp51, hc51⟩ := RL.at (hp.take plC_len m) plC_len (by decide) (hW5.sub (fun _ h => by cases h)) (k := k) (by first | omega | (rw [List.length_take]; omega))
     have ok51 := hok y51 (List.mem_of_mem_take (List.mem_of_getElem? hy51))
     obtain ⟨ob51, or51, ot51⟩ := ok51
     refine lp (v := .pointer (some ⟨g51_, f51_ + k * 4, none⟩)) rfl rfl (run_idxQ (p := p) (cap := c) (n := m) (j := .i64) (k := k) (sz := 4) rfl Tryd.underlying60 Tw.kr Tw.kr hp51 Tw.kr (by first | omega | (rw [List.length_take]; omega))) ?_
     refine lv (v := .agg (plC y51).toArray) rfl rfl (yb_rs (off := f51_ + k * 4) (cs := plC y51) rfl Tw.kr (fun W hW => hc51 W (hW.sub (fun _ h => by cases h))) Tryd.underlying117 rfl Tw.kr) ?_
     refine wpL_new (fun g => .pointer (some ⟨g, 0, none⟩)) (obi := .cells #[.int .u8 0, .int .u8 0, .int .u8 0, .bool false] 117 (0, 0)) rfl rfl Tw.kf Tw.pf fun g52 Bg52 Fg52 => ?_
     obtain ⟨dj53_0, dj53_1, dj53_2⟩ : g2 ≠ g52 ∧ g1 ≠ g52 ∧ Dk g52 Kc := Tw.dkf Fg52
     refine wpL_s ((g52, .cells (plC y51).toArray 117 (0, 0)) :: (g2, .cells (shC (.slice pc cs.length cc) (.slice none 0 0) tl0).toArray 32 (0, 0)) :: (g1, .cells (shC (.slice none 0 0) (.slice none 0 0) tl0).toArray 32 (0, 0)) :: Kc) rfl rfl (st_row (off := 0) (v := .agg (plC y51).toArray) rfl Tw.kr Tw.kr Tw.m0 Bg52 Tw.kr (by first | (simp [Value.cells]; done) | exact Nat.le_of_ble_eq_true rfl) (fun v hv => plC_one y51 v hv) Tw.kr (List.forall_mem_cons.2 ⟨.inl rfl, (List.forall_mem_cons.2 ⟨.inr ⟨Tw.m1, Tw.nee⟩, (List.forall_mem_cons.2 ⟨.inr ⟨Tw.m2, Tw.nee⟩, (fun p hp => .inr ⟨(.tail _ (.tail _ (.tail _ hp))), ((show Dk g52 Kc from Tw.djt) _ hp)⟩)⟩)⟩)⟩)) ?_
     refine wpL_done (fun W36 hW36 => ?_)
     change Code.wp ..
     refine wp_seq ?_
     refine wp_region_L (W0 := W0) ((g52, .cells (plC y51).toArray 117 (0, 0)) :: (g2, .cells (shC (.slice pc cs.length cc) (.slice none 0 0) tl0).toArray 32 (0, 0)) :: (g1, .cells (shC (.slice none 0 0) (.slice none 0 0) tl0).toArray 32 (0, 0)) :: Kc) (hW36) ?_
     refine lm (v := .pointer (some ⟨g52, 0, none⟩)) rfl rfl ?_
     refine lv (v := .int .u8 ((y51.bay : Nat) : Int)) rfl rfl (yb_cell (off := 0) rfl Tw.kr Tw.m0 Tryd.underlying5 rfl Tw.kr) ?_
     refine lp (v := .int .i64 ((y51.bay : Nat) : Int)) rfl rfl (run_conv rfl (vx := (.int .u8 ((y51.bay : Nat) : Int))) Tw.kr fun w => cv_int Tryd.underlying5 Tryd.underlying3 (wr_i64 Tw.om) w) ?_
     refine lp (v := .int .i64 (((y51.bay % 5) : Nat) : Int)) rfl rfl (run_bin rfl (vx := (.int .i64 ((y51.bay : Nat) : Int))) (vy := (.int .i64 ((5 : Nat) : Int))) Tw.kr Tw.kr fun w => bn_rem (z := (y51.bay % 5)) rfl Tw.om w) ?_
     refine lm (v := .pointer (some ⟨g52, 1, none⟩)) rfl rfl ?_
     refine lv (v := .int .u8 ((y51.row : Nat) : Int)) rfl rfl (yb_cell (off := 1) rfl Tw.kr Tw.m0 Tryd.underlying5 rfl Tw.kr) ?_
     refine lp (v := .int .i64 ((y51.row : Nat) : Int)) rfl rfl (run_conv rfl (vx := (.int .u8 ((y51.row : Nat) : Int))) Tw.kr fun w => cv_int Tryd.underlying5 Tryd.underlying3 (wr_i64 Tw.om) w) ?_
     refine lp (v := .int .i64 (((y51.row % 5) : Nat) : Int)) rfl rfl (run_bin rfl (vx := (.int .i64 ((y51.row : Nat) : Int))) (vy := (.int .i64 ((5 : Nat) : Int))) Tw.kr Tw.kr fun w => bn_rem (z := (y51.row % 5)) rfl Tw.om w) ?_
     refine lm (v := .pointer (some ⟨g52, 3, none⟩)) rfl rfl ?_
     refine lv (v := .bool y51.deck) rfl rfl (yb_cell (off := 3) rfl Tw.kr Tw.m0 Tryd.underlying4 rfl Tw.kr) ?_
     refine lm (v := .pointer (some ⟨g52, 2, none⟩)) rfl rfl ?_
     refine lv (v := .int .u8 ((y51.tiers : Nat) : Int)) rfl rfl (yb_cell (off := 2) rfl Tw.kr Tw.m0 Tryd.underlying5 rfl Tw.kr) ?_
     refine lp (v := .int .i64 ((y51.tiers : Nat) : Int)) rfl rfl (run_conv rfl (vx := (.int .u8 ((y51.tiers : Nat) : Int))) Tw.kr fun w => cv_int Tryd.underlying5 Tryd.underlying3 (wr_i64 Tw.om) w) ?_
     refine lp (v := .int .i64 (((y51.tiers % 4) : Nat) : Int)) rfl rfl (run_bin rfl (vx := (.int .i64 ((y51.tiers : Nat) : Int))) (vy := (.int .i64 ((4 : Nat) : Int))) Tw.kr Tw.kr fun w => bn_rem (z := (y51.tiers % 4)) rfl Tw.om w) ?_
     refine lp (v := .int .i64 (((2 + (y51.tiers % 4)) : Nat) : Int)) rfl rfl (run_bin rfl (vx := (.int .i64 ((2 : Nat) : Int))) (vy := (.int .i64 (((y51.tiers % 4) : Nat) : Int))) Tw.kr Tw.kr fun w => bn_add (z := (2 + (y51.tiers % 4))) rfl (wr_i64 Tw.om) w) ?_
     refine lm (v := .agg #[.int .i64 (((y51.bay % 5) : Nat) : Int), .int .i64 (((y51.row % 5) : Nat) : Int), .bool y51.deck, .int .i64 (((2 + (y51.tiers % 4)) : Nat) : Int), .int .i64 0, .int .i64 500000000, .int .i64 500000000, .int .i64 0, .slice none 0 0, .int .i64 0, .int .i64 0, .int .i64 0]) rfl rfl ?_
     refine wpL_new (fun g => .pointer (some ⟨g, 0, none⟩)) (obi := .cells #[.int .i64 0, .int .i64 0, .bool false, .int .i64 0, .int .i64 0, .int .i64 0, .int .i64 0, .int .i64 0, .slice none 0 0, .int .i64 0, .int .i64 0, .int .i64 0] 65 (0, 0)) rfl rfl Tw.kf Tw.pf fun g54 Bg54 Fg54 => ?_
     obtain ⟨dj55_0, dj55_1, dj55_2, dj55_3⟩ : g52 ≠ g54 ∧ g2 ≠ g54 ∧ g1 ≠ g54 ∧ Dk g54 Kc := Tw.dkf Fg54
     refine wpL_s ((g54, .cells #[.int .i64 (((y51.bay % 5) : Nat) : Int), .int .i64 (((y51.row % 5) : Nat) : Int), .bool y51.deck, .int .i64 (((2 + (y51.tiers % 4)) : Nat) : Int), .int .i64 0, .int .i64 500000000, .int .i64 500000000, .int .i64 0, .slice none 0 0, .int .i64 0, .int .i64 0, .int .i64 0] 65 (0, 0)) :: (g52, .cells (plC y51).toArray 117 (0, 0)) :: (g2, .cells (shC (.slice pc cs.length cc) (.slice none 0 0) tl0).toArray 32 (0, 0)) :: (g1, .cells (shC (.slice none 0 0) (.slice none 0 0) tl0).toArray 32 (0, 0)) :: Kc) rfl rfl (st_row (off := 0) (v := .agg #[.int .i64 (((y51.bay % 5) : Nat) : Int), .int .i64 (((y51.row % 5) : Nat) : Int), .bool y51.deck, .int .i64 (((2 + (y51.tiers % 4)) : Nat) : Int), .int .i64 0, .int .i64 500000000, .int .i64 500000000, .int .i64 0, .slice none 0 0, .int .i64 0, .int .i64 0, .int .i64 0]) rfl Tw.kr Tw.kr Tw.m0 Bg54 Tw.kr (by first | (simp [Value.cells]; done) | exact Nat.le_of_ble_eq_true rfl) (by intro v hv; simp [Value.cells] at hv; first | (subst hv; rfl) | (rcases hv with rfl | rfl | rfl | rfl | rfl | rfl | rfl | rfl | rfl | rfl | rfl | rfl <;> rfl)) Tw.kr (List.forall_mem_cons.2 ⟨.inl rfl, (List.forall_mem_cons.2 ⟨.inr ⟨Tw.m1, Tw.nee⟩, (List.forall_mem_cons.2 ⟨.inr ⟨Tw.m2, Tw.nee⟩, (List.forall_mem_cons.2 ⟨.inr ⟨Tw.m3, Tw.nee⟩, (fun p hp => .inr ⟨(.tail _ (.tail _ (.tail _ (.tail _ hp)))), ((show Dk g54 Kc from Tw.djt) _ hp)⟩)⟩)⟩)⟩)⟩)) ?_
     refine wpL_done (fun W37 hW37 => ?_)
     change Code.wp ..
     refine wp_seq ?_
     refine wp_region_L (W0 := W0) ((g54, .cells #[.int .i64 (((y51.bay % 5) : Nat) : Int), .int .i64 (((y51.row % 5) : Nat) : Int), .bool y51.deck, .int .i64 (((2 + (y51.tiers % 4)) : Nat) : Int), .int .i64 0, .int .i64 500000000, .int .i64 500000000, .int .i64 0, .slice none 0 0, .int .i64 0, .int .i64 0, .int .i64 0] 65 (0, 0)) :: (g52, .cells (plC y51).toArray 117 (0, 0)) :: (g2, .cells (shC (.slice pc cs.length cc) (.slice none 0 0) tl0).toArray 32 (0, 0)) :: (g1, .cells (shC (.slice none 0 0) (.slice none 0 0) tl0).toArray 32 (0, 0)) :: Kc) (hW37) ?_
     refine lm (v := .pointer (some ⟨g54, 0, none⟩)) rfl rfl ?_
     refine lv (v := .int .i64 (((y51.bay % 5) : Nat) : Int)) rfl rfl (yb_cell (off := 0) rfl Tw.kr Tw.m0 Tryd.underlying3 rfl Tw.kr) ?_
     refine lp (v := .int .i64 (((13000 * (y51.bay % 5)) : Nat) : Int)) rfl rfl (run_bin rfl (vx := (.int .i64 ((13000 : Nat) : Int))) (vy := (.int .i64 (((y51.bay % 5) : Nat) : Int))) Tw.kr Tw.kr fun w => bn_mul (z := (13000 * (y51.bay % 5))) rfl (wr_i64 Tw.om) w) ?_
     refine lp (v := .int .i64 ((((13000 * (y51.bay % 5)) : Nat) : Int) - 26000)) rfl rfl (run_bin rfl (vx := (.int .i64 (((13000 * (y51.bay % 5)) : Nat) : Int))) (vy := (.int .i64 26000)) Tw.kr Tw.kr fun w => bi_sub (z := ((((13000 * (y51.bay % 5)) : Nat) : Int) - 26000)) rfl (wi_i64 Tw.om) w) ?_
     refine lm (v := .pointer (some ⟨g54, 1, none⟩)) rfl rfl ?_
     refine lv (v := .int .i64 (((y51.row % 5) : Nat) : Int)) rfl rfl (yb_cell (off := 1) rfl Tw.kr Tw.m0 Tryd.underlying3 rfl Tw.kr) ?_
     refine lp (v := .int .i64 (((2500 * (y51.row % 5)) : Nat) : Int)) rfl rfl (run_bin rfl (vx := (.int .i64 ((2500 : Nat) : Int))) (vy := (.int .i64 (((y51.row % 5) : Nat) : Int))) Tw.kr Tw.kr fun w => bn_mul (z := (2500 * (y51.row % 5))) rfl (wr_i64 Tw.om) w) ?_
     refine lp (v := .int .i64 ((((2500 * (y51.row % 5)) : Nat) : Int) - 5000)) rfl rfl (run_bin rfl (vx := (.int .i64 (((2500 * (y51.row % 5)) : Nat) : Int))) (vy := (.int .i64 5000)) Tw.kr Tw.kr fun w => bi_sub (z := ((((2500 * (y51.row % 5)) : Nat) : Int) - 5000)) rfl (wi_i64 Tw.om) w) ?_
     refine lm (v := .pointer (some ⟨g54, 9, none⟩)) rfl rfl ?_
     refine wpL_s ((g54, .cells #[.int .i64 (((y51.bay % 5) : Nat) : Int), .int .i64 (((y51.row % 5) : Nat) : Int), .bool y51.deck, .int .i64 (((2 + (y51.tiers % 4)) : Nat) : Int), .int .i64 0, .int .i64 500000000, .int .i64 500000000, .int .i64 0, .slice none 0 0, .int .i64 ((((13000 * (y51.bay % 5)) : Nat) : Int) - 26000), .int .i64 0, .int .i64 0] 65 (0, 0)) :: (g52, .cells (plC y51).toArray 117 (0, 0)) :: (g2, .cells (shC (.slice pc cs.length cc) (.slice none 0 0) tl0).toArray 32 (0, 0)) :: (g1, .cells (shC (.slice none 0 0) (.slice none 0 0) tl0).toArray 32 (0, 0)) :: Kc) rfl rfl (st_row (off := 9) (v := .int .i64 ((((13000 * (y51.bay % 5)) : Nat) : Int) - 26000)) rfl Tw.kr Tw.kr Tw.m0 Bg54 Tw.kr (by first | (simp [Value.cells]; done) | exact Nat.le_of_ble_eq_true rfl) (by intro v hv; simp [Value.cells] at hv; first | (subst hv; rfl) | (rcases hv with rfl <;> rfl)) Tw.kr (List.forall_mem_cons.2 ⟨.inl rfl, (List.forall_mem_cons.2 ⟨.inr ⟨Tw.m1, Tw.nee⟩, (List.forall_mem_cons.2 ⟨.inr ⟨Tw.m2, Tw.nee⟩, (List.forall_mem_cons.2 ⟨.inr ⟨Tw.m3, Tw.nee⟩, (fun p hp => .inr ⟨(.tail _ (.tail _ (.tail _ (.tail _ hp)))), ((show Dk g54 Kc from Tw.djt) _ hp)⟩)⟩)⟩)⟩)⟩)) ?_
     refine lm (v := .pointer (some ⟨g54, 10, none⟩)) rfl rfl ?_
     refine wpL_s ((g54, .cells #[.int .i64 (((y51.bay % 5) : Nat) : Int), .int .i64 (((y51.row % 5) : Nat) : Int), .bool y51.deck, .int .i64 (((2 + (y51.tiers % 4)) : Nat) : Int), .int .i64 0, .int .i64 500000000, .int .i64 500000000, .int .i64 0, .slice none 0 0, .int .i64 ((((13000 * (y51.bay % 5)) : Nat) : Int) - 26000), .int .i64 ((((2500 * (y51.row % 5)) : Nat) : Int) - 5000), .int .i64 0] 65 (0, 0)) :: (g52, .cells (plC y51).toArray 117 (0, 0)) :: (g2, .cells (shC (.slice pc cs.length cc) (.slice none 0 0) tl0).toArray 32 (0, 0)) :: (g1, .cells (shC (.slice none 0 0) (.slice none 0 0) tl0).toArray 32 (0, 0)) :: Kc) rfl rfl (st_row (off := 10) (v := .int .i64 ((((2500 * (y51.row % 5)) : Nat) : Int) - 5000)) rfl Tw.kr Tw.kr Tw.m0 Bg54 Tw.kr (by first | (simp [Value.cells]; done) | exact Nat.le_of_ble_eq_true rfl) (by intro v hv; simp [Value.cells] at hv; first | (subst hv; rfl) | (rcases hv with rfl <;> rfl)) Tw.kr (List.forall_mem_cons.2 ⟨.inl rfl, (List.forall_mem_cons.2 ⟨.inr ⟨Tw.m1, Tw.nee⟩, (List.forall_mem_cons.2 ⟨.inr ⟨Tw.m2, Tw.nee⟩, (List.forall_mem_cons.2 ⟨.inr ⟨Tw.m3, Tw.nee⟩, (fun p hp => .inr ⟨(.tail _ (.tail _ (.tail _ (.tail _ hp)))), ((show Dk g54 Kc from Tw.djt) _ hp)⟩)⟩)⟩)⟩)⟩)) ?_
     refine lm (v := .pointer (some ⟨g54, 11, none⟩)) rfl rfl ?_
     refine wpL_s ((g54, .cells #[.int .i64 (((y51.bay % 5) : Nat) : Int), .int .i64 (((y51.row % 5) : Nat) : Int), .bool y51.deck, .int .i64 (((2 + (y51.tiers % 4)) : Nat) : Int), .int .i64 0, .int .i64 500000000, .int .i64 500000000, .int .i64 0, .slice none 0 0, .int .i64 ((((13000 * (y51.bay % 5)) : Nat) : Int) - 26000), .int .i64 ((((2500 * (y51.row % 5)) : Nat) : Int) - 5000), .int .i64 2000] 65 (0, 0)) :: (g52, .cells (plC y51).toArray 117 (0, 0)) :: (g2, .cells (shC (.slice pc cs.length cc) (.slice none 0 0) tl0).toArray 32 (0, 0)) :: (g1, .cells (shC (.slice none 0 0) (.slice none 0 0) tl0).toArray 32 (0, 0)) :: Kc) rfl rfl (st_row (off := 11) (v := .int .i64 2000) rfl Tw.kr Tw.kr Tw.m0 Bg54 Tw.kr (by first | (simp [Value.cells]; done) | exact Nat.le_of_ble_eq_true rfl) (by intro v hv; simp [Value.cells] at hv; first | (subst hv; rfl) | (rcases hv with rfl <;> rfl)) Tw.kr (List.forall_mem_cons.2 ⟨.inl rfl, (List.forall_mem_cons.2 ⟨.inr ⟨Tw.m1, Tw.nee⟩, (List.forall_mem_cons.2 ⟨.inr ⟨Tw.m2, Tw.nee⟩, (List.forall_mem_cons.2 ⟨.inr ⟨Tw.m3, Tw.nee⟩, (fun p hp => .inr ⟨(.tail _ (.tail _ (.tail _ (.tail _ hp)))), ((show Dk g54 Kc from Tw.djt) _ hp)⟩)⟩)⟩)⟩)⟩)) ?_
     refine wpL_done (fun W38 hW38 => ?_)
     change Code.wp ..
     refine wp_seq ?_
     refine wp_seq ?_
     refine wp_region_L (W0 := W0) ((g54, .cells #[.int .i64 (((y51.bay % 5) : Nat) : Int), .int .i64 (((y51.row % 5) : Nat) : Int), .bool y51.deck, .int .i64 (((2 + (y51.tiers % 4)) : Nat) : Int), .int .i64 0, .int .i64 500000000, .int .i64 500000000, .int .i64 0, .slice none 0 0, .int .i64 ((((13000 * (y51.bay % 5)) : Nat) : Int) - 26000), .int .i64 ((((2500 * (y51.row % 5)) : Nat) : Int) - 5000), .int .i64 2000] 65 (0, 0)) :: (g52, .cells (plC y51).toArray 117 (0, 0)) :: (g2, .cells (shC (.slice pc cs.length cc) (.slice none 0 0) tl0).toArray 32 (0, 0)) :: (g1, .cells (shC (.slice none 0 0) (.slice none 0 0) tl0).toArray 32 (0, 0)) :: Kc) (hW38) ?_
     refine lm (v := .pointer (some ⟨g54, 2, none⟩)) rfl rfl ?_
     refine lv (v := .bool y51.deck) rfl rfl (yb_cell (off := 2) rfl Tw.kr Tw.m0 Tryd.underlying4 rfl Tw.kr) ?_
     refine wpL_done (fun W39 hW39 => ?_)
     change Code.wp ..
     cases h11 : y51.deck with
     | false =>
       rw [h11] at hW39
       refine wp_cond_false rfl ?_
       refine wp_skip ?_
       change Code.wp ..
       refine wp_seq ?_
       refine wp_region_L (W0 := W0) ((g54, .cells #[.int .i64 (((y51.bay % 5) : Nat) : Int), .int .i64 (((y51.row % 5) : Nat) : Int), .bool false, .int .i64 (((2 + (y51.tiers % 4)) : Nat) : Int), .int .i64 0, .int .i64 500000000, .int .i64 500000000, .int .i64 0, .slice none 0 0, .int .i64 ((((13000 * (y51.bay % 5)) : Nat) : Int) - 26000), .int .i64 ((((2500 * (y51.row % 5)) : Nat) : Int) - 5000), .int .i64 2000] 65 (0, 0)) :: (g52, .cells (plC y51).toArray 117 (0, 0)) :: (g2, .cells (shC (.slice pc cs.length cc) (.slice none 0 0) tl0).toArray 32 (0, 0)) :: (g1, .cells (shC (.slice none 0 0) (.slice none 0 0) tl0).toArray 32 (0, 0)) :: Kc) (hW39) ?_
       refine lv (v := .agg (shC (.slice pc cs.length cc) (.slice none 0 0) tl0).toArray) rfl rfl (yb_load (n := 13) (off := 0) rfl Tw.kr Tw.m2 Tryd.underlying32 rfl Tw.kr (by first | (simp [Value.cells]; done) | exact Nat.le_of_ble_eq_true rfl) Tw.kr) ?_
       refine lm (v := .pointer (some ⟨g54, 0, none⟩)) rfl rfl ?_
       refine lv (v := .int .i64 (((y51.bay % 5) : Nat) : Int)) rfl rfl (yb_cell (off := 0) rfl Tw.kr Tw.m0 Tryd.underlying3 rfl Tw.kr) ?_
       refine lm (v := .pointer (some ⟨g54, 1, none⟩)) rfl rfl ?_
       refine lv (v := .int .i64 (((y51.row % 5) : Nat) : Int)) rfl rfl (yb_cell (off := 1) rfl Tw.kr Tw.m0 Tryd.underlying3 rfl Tw.kr) ?_
       refine lm (v := .pointer (some ⟨g54, 2, none⟩)) rfl rfl ?_
       refine lv (v := .bool false) rfl rfl (yb_cell (off := 2) rfl Tw.kr Tw.m0 Tryd.underlying4 rfl Tw.kr) ?_
       refine lv (v := .tuple #[.int .i64 (findN (fst (isAt (((y51.bay % 5) : Nat) : Int) (((y51.row % 5) : Nat) : Int) false) cs)), .bool ((fst (isAt (((y51.bay % 5) : Nat) : Int) (((y51.row % 5) : Nat) : Int) false) cs).isSome)]) rfl rfl (yb_call (f := 70) (args := #[.agg (shC (.slice pc cs.length cc) (.slice none 0 0) tl0).toArray, .int .i64 (((y51.bay % 5) : Nat) : Int), .int .i64 (((y51.row % 5) : Nat) : Int), .bool false]) Tw.kf fun W hW => Find_any cs pc cc Tw.om ([] : List Cov) none 0 (Nat.zero_le _) tl0 (((y51.bay % 5) : Nat) : Int) (((y51.row % 5) : Nat) : Int) false W (RC _ (hW.sub (fun p hp => by simp only [List.mem_cons, List.mem_append, List.nil_append, List.not_mem_nil, or_assoc, or_false, false_or, hp, true_or, or_true]))) ((RL.nil (T := [])) _ (hW.sub (fun _ h => by cases h)))) ?_
       refine lm (v := .tuple #[.int .i64 (findN (fst (isAt (((y51.bay % 5) : Nat) : Int) (((y51.row % 5) : Nat) : Int) false) cs)), .bool ((fst (isAt (((y51.bay % 5) : Nat) : Int) (((y51.row % 5) : Nat) : Int) false) cs).isSome)]) rfl rfl ?_
       refine lm (v := .int .i64 (findN (fst (isAt (((y51.bay % 5) : Nat) : Int) (((y51.row % 5) : Nat) : Int) false) cs))) rfl rfl ?_
       refine lm (v := .bool ((fst (isAt (((y51.bay % 5) : Nat) : Int) (((y51.row % 5) : Nat) : Int) false) cs).isSome)) rfl rfl ?_
       refine lm (v := .int .i64 (findN (fst (isAt (((y51.bay % 5) : Nat) : Int) (((y51.row % 5) : Nat) : Int) false) cs))) rfl rfl ?_
       refine lm (v := .bool ((fst (isAt (((y51.bay % 5) : Nat) : Int) (((y51.row % 5) : Nat) : Int) false) cs).isSome)) rfl rfl ?_
       refine wpL_done (fun W40 hW40 => ?_)
       change Code.wp ..
       refine wp_seq ?_
       refine wp_region_L (W0 := W0) ((g54, .cells #[.int .i64 (((y51.bay % 5) : Nat) : Int), .int .i64 (((y51.row % 5) : Nat) : Int), .bool false, .int .i64 (((2 + (y51.tiers % 4)) : Nat) : Int), .int .i64 0, .int .i64 500000000, .int .i64 500000000, .int .i64 0, .slice none 0 0, .int .i64 ((((13000 * (y51.bay % 5)) : Nat) : Int) - 26000), .int .i64 ((((2500 * (y51.row % 5)) : Nat) : Int) - 5000), .int .i64 2000] 65 (0, 0)) :: (g52, .cells (plC y51).toArray 117 (0, 0)) :: (g2, .cells (shC (.slice pc cs.length cc) (.slice none 0 0) tl0).toArray 32 (0, 0)) :: (g1, .cells (shC (.slice none 0 0) (.slice none 0 0) tl0).toArray 32 (0, 0)) :: Kc) (hW40) ?_
       refine lm (v := .bool ((fst (isAt (((y51.bay % 5) : Nat) : Int) (((y51.row % 5) : Nat) : Int) false) cs).isSome)) rfl rfl ?_
       refine lp (v := .bool (!((fst (isAt (((y51.bay % 5) : Nat) : Int) (((y51.row % 5) : Nat) : Int) false) cs).isSome))) rfl rfl (run_un rfl Tw.kr fun w => un_not w) ?_
       refine wpL_done (fun W41 hW41 => ?_)
       change Code.wp ..
       cases h12 : ((fst (isAt (((y51.bay % 5) : Nat) : Int) (((y51.row % 5) : Nat) : Int) false) cs).isSome) with
       | false =>
         refine wp_cond_true rfl ?_
         refine wp_region_L (W0 := W0) ((g54, .cells #[.int .i64 (((y51.bay % 5) : Nat) : Int), .int .i64 (((y51.row % 5) : Nat) : Int), .bool false, .int .i64 (((2 + (y51.tiers % 4)) : Nat) : Int), .int .i64 0, .int .i64 500000000, .int .i64 500000000, .int .i64 0, .slice none 0 0, .int .i64 ((((13000 * (y51.bay % 5)) : Nat) : Int) - 26000), .int .i64 ((((2500 * (y51.row % 5)) : Nat) : Int) - 5000), .int .i64 2000] 65 (0, 0)) :: (g52, .cells (plC y51).toArray 117 (0, 0)) :: (g2, .cells (shC (.slice pc cs.length cc) (.slice none 0 0) tl0).toArray 32 (0, 0)) :: (g1, .cells (shC (.slice none 0 0) (.slice none 0 0) tl0).toArray 32 (0, 0)) :: Kc) (hW41) ?_
         refine lm (v := .pointer (some ⟨g2, 0, none⟩)) rfl rfl ?_
         refine lv (v := .slice pc cs.length cc) rfl rfl (yb_cell (off := 0) rfl Tw.kr Tw.m2 Tryd.underlying22 rfl Tw.kr) ?_
         refine lv (v := .agg #[.int .i64 (((y51.bay % 5) : Nat) : Int), .int .i64 (((y51.row % 5) : Nat) : Int), .bool false, .int .i64 (((2 + (y51.tiers % 4)) : Nat) : Int), .int .i64 0, .int .i64 500000000, .int .i64 500000000, .int .i64 0, .slice none 0 0, .int .i64 ((((13000 * (y51.bay % 5)) : Nat) : Int) - 26000), .int .i64 ((((2500 * (y51.row % 5)) : Nat) : Int) - 5000), .int .i64 2000]) rfl rfl (yb_load (n := 12) (off := 0) rfl Tw.kr Tw.m0 Tryd.underlying65 rfl Tw.kr (by first | (simp [Value.cells]; done) | exact Nat.le_of_ble_eq_true rfl) Tw.kr) ?_
         refine wpL_new (fun g => .slice (some ⟨g, 0, none⟩) 1 1) (obi := .cells #[.int .i64 (((y51.bay % 5) : Nat) : Int), .int .i64 (((y51.row % 5) : Nat) : Int), .bool false, .int .i64 (((2 + (y51.tiers % 4)) : Nat) : Int), .int .i64 0, .int .i64 500000000, .int .i64 500000000, .int .i64 0, .slice none 0 0, .int .i64 ((((13000 * (y51.bay % 5)) : Nat) : Int) - 26000), .int .i64 ((((2500 * (y51.row % 5)) : Nat) : Int) - 5000), .int .i64 2000] 65 (0, 0)) rfl rfl Tw.kf Tw.pf fun g56 Bg56 Fg56 => ?_
         obtain ⟨dj57_0, dj57_1, dj57_2, dj57_3, dj57_4⟩ : g54 ≠ g56 ∧ g52 ≠ g56 ∧ g2 ≠ g56 ∧ g1 ≠ g56 ∧ Dk g56 Kc := Tw.dkf Fg56
         refine wpL_g (AppO W0 65 12 [(g54, .cells #[.int .i64 (((y51.bay % 5) : Nat) : Int), .int .i64 (((y51.row % 5) : Nat) : Int), .bool false, .int .i64 (((2 + (y51.tiers % 4)) : Nat) : Int), .int .i64 0, .int .i64 500000000, .int .i64 500000000, .int .i64 0, .slice none 0 0, .int .i64 ((((13000 * (y51.bay % 5)) : Nat) : Int) - 26000), .int .i64 ((((2500 * (y51.row % 5)) : Nat) : Int) - 5000), .int .i64 2000] 65 (0, 0)), (g52, .cells (plC y51).toArray 117 (0, 0)), (g2, .cells (shC (.slice pc cs.length cc) (.slice none 0 0) tl0).toArray 32 (0, 0)), (g1, .cells (shC (.slice none 0 0) (.slice none 0 0) tl0).toArray 32 (0, 0))] (cs.length + 1) ((cs.flatMap colC) ++ [.int .i64 (((y51.bay % 5) : Nat) : Int), .int .i64 (((y51.row % 5) : Nat) : Int), .bool false, .int .i64 (((2 + (y51.tiers % 4)) : Nat) : Int), .int .i64 0, .int .i64 500000000, .int .i64 500000000, .int .i64 0, .slice none 0 0, .int .i64 ((((13000 * (y51.bay % 5)) : Nat) : Int) - 26000), .int .i64 ((((2500 * (y51.row % 5)) : Nat) : Int) - 5000), .int .i64 2000])) rfl rfl (app_own el_col (m := 1) (c := 1) (news := [.int .i64 (((y51.bay % 5) : Nat) : Int), .int .i64 (((y51.row % 5) : Nat) : Int), .bool false, .int .i64 (((2 + (y51.tiers % 4)) : Nat) : Int), .int .i64 0, .int .i64 500000000, .int .i64 500000000, .int .i64 0, .slice none 0 0, .int .i64 ((((13000 * (y51.bay % 5)) : Nat) : Int) - 26000), .int .i64 ((((2500 * (y51.row % 5)) : Nat) : Int) - 5000), .int .i64 2000]) rfl Tw.kr Tw.kr Tw.m0 hOc Tw.sc (fun p hp => ⟨by simp only [List.mem_cons, List.mem_append, List.nil_append, List.not_mem_nil, or_assoc, or_false, false_or] at hp ⊢ <;> grind, (show Dj [(g54, .cells #[.int .i64 (((y51.bay % 5) : Nat) : Int), .int .i64 (((y51.row % 5) : Nat) : Int), .bool false, .int .i64 (((2 + (y51.tiers % 4)) : Nat) : Int), .int .i64 0, .int .i64 500000000, .int .i64 500000000, .int .i64 0, .slice none 0 0, .int .i64 ((((13000 * (y51.bay % 5)) : Nat) : Int) - 26000), .int .i64 ((((2500 * (y51.row % 5)) : Nat) : Int) - 5000), .int .i64 2000] 65 (0, 0)), (g52, .cells (plC y51).toArray 117 (0, 0)), (g2, .cells (shC (.slice pc cs.length cc) (.slice none 0 0) tl0).toArray 32 (0, 0)), (g1, .cells (shC (.slice none 0 0) (.slice none 0 0) tl0).toArray 32 (0, 0))] Kc from Tw.djt) p hp⟩) rfl (by simp [strV, Value.oneCell']) Tw.om Tw.om Tw.om) Tw.pf ?_
         rintro v58 K9 ⟨Kl58, O58, N58, rfl⟩
         obtain ⟨dj59_0, dj59_1, dj59_2, dj59_3⟩ : Dk g54 Kl58 ∧ Dk g52 Kl58 ∧ Dk g2 Kl58 ∧ Dk g1 Kl58 := Tw.djf N58
         refine lm (v := .pointer (some ⟨g2, 0, none⟩)) rfl rfl ?_
         obtain ⟨p60, c60, rfl⟩ := own_shape O58
         refine wpL_s ((g54, .cells #[.int .i64 (((y51.bay % 5) : Nat) : Int), .int .i64 (((y51.row % 5) : Nat) : Int), .bool false, .int .i64 (((2 + (y51.tiers % 4)) : Nat) : Int), .int .i64 0, .int .i64 500000000, .int .i64 500000000, .int .i64 0, .slice none 0 0, .int .i64 ((((13000 * (y51.bay % 5)) : Nat) : Int) - 26000), .int .i64 ((((2500 * (y51.row % 5)) : Nat) : Int) - 5000), .int .i64 2000] 65 (0, 0)) :: (g52, .cells (plC y51).toArray 117 (0, 0)) :: (g2, .cells (shC (.slice p60 (cs.length + 1) c60) (.slice none 0 0) tl0).toArray 32 (0, 0)) :: (g1, .cells (shC (.slice none 0 0) (.slice none 0 0) tl0).toArray 32 (0, 0)) :: Kl58) rfl rfl (st_row (off := 0) (v := .slice p60 (cs.length + 1) c60) rfl Tw.kr Tw.kr Tw.m2 Bg2 Tw.kr (by first | (simp [Value.cells]; done) | exact Nat.le_of_ble_eq_true rfl) (by intro v hv; simp [Value.cells] at hv; first | (subst hv; rfl) | (rcases hv with rfl <;> rfl)) Tw.kr (List.forall_mem_cons.2 ⟨.inr ⟨Tw.m0, Tw.nee⟩, (List.forall_mem_cons.2 ⟨.inr ⟨Tw.m1, Tw.nee⟩, (List.forall_mem_cons.2 ⟨.inl rfl, (List.forall_mem_cons.2 ⟨.inr ⟨Tw.m3, Tw.nee⟩, (fun p hp => .inr ⟨(.tail _ (.tail _ (.tail _ (.tail _ hp)))), ((show Dk g2 Kl58 from Tw.djt) _ hp)⟩)⟩)⟩)⟩)⟩)) ?_
         refine wpL_done (fun W42 hW42 => ?_)
         change Code.wp ..
         refine wp_region_L (W0 := W0) ((g54, .cells #[.int .i64 (((y51.bay % 5) : Nat) : Int), .int .i64 (((y51.row % 5) : Nat) : Int), .bool false, .int .i64 (((2 + (y51.tiers % 4)) : Nat) : Int), .int .i64 0, .int .i64 500000000, .int .i64 500000000, .int .i64 0, .slice none 0 0, .int .i64 ((((13000 * (y51.bay % 5)) : Nat) : Int) - 26000), .int .i64 ((((2500 * (y51.row % 5)) : Nat) : Int) - 5000), .int .i64 2000] 65 (0, 0)) :: (g52, .cells (plC y51).toArray 117 (0, 0)) :: (g2, .cells (shC (.slice p60 (cs.length + 1) c60) (.slice none 0 0) tl0).toArray 32 (0, 0)) :: (g1, .cells (shC (.slice none 0 0) (.slice none 0 0) tl0).toArray 32 (0, 0)) :: Kl58) (hW42) ?_
         refine lp (v := .int .i64 (((k + 1) : Nat) : Int)) rfl rfl (run_bin rfl (vx := (.int .i64 ((k : Nat) : Int))) (vy := (.int .i64 ((1 : Nat) : Int))) Tw.kr Tw.kr fun w => bn_add (z := (k + 1)) rfl (wr_i64 Tw.om) w) ?_
         refine lm (v := .int .i64 (((k + 1) : Nat) : Int)) rfl rfl ?_
         refine wpL_done (fun W43 hW43 => ?_)
         go_roundw
         case rel =>
           repeat apply Exists.intro
           exact ⟨⟨k + 1, (cs ++ [colD y51 false]), .slice p60 (cs.length + 1) c60, Kl58, Tw.om, (by rw [bld_snoc hy51, ← hcs, add_no h11 h12]), (by rw [List.length_append, List.length_singleton]; omega), (own_app O58 (by rw [List.flatMap_append]; rfl) (by rw [List.length_append]; rfl)), (show Dk g2 Kl58 from Tw.djt), (show Dk g1 Kl58 from Tw.djt), rfl, (hW43.sub (fun p hp => by first | exact hp | (simp only [List.mem_cons, List.mem_append, List.nil_append, List.not_mem_nil, or_assoc, or_false, false_or] at hp ⊢ <;> grind)))⟩, rfl⟩
         case measure => (show m - (intOf (.int .i64 (((k + 1) : Nat) : Int))).toNat < m - (intOf (.int .i64 ((k : Nat) : Int))).toNat); simp only [intOf]; omega
       | true =>
         refine wp_cond_false rfl ?_
         refine wp_skip ?_
         change Code.wp ..
         refine wp_region_L (W0 := W0) ((g54, .cells #[.int .i64 (((y51.bay % 5) : Nat) : Int), .int .i64 (((y51.row % 5) : Nat) : Int), .bool false, .int .i64 (((2 + (y51.tiers % 4)) : Nat) : Int), .int .i64 0, .int .i64 500000000, .int .i64 500000000, .int .i64 0, .slice none 0 0, .int .i64 ((((13000 * (y51.bay % 5)) : Nat) : Int) - 26000), .int .i64 ((((2500 * (y51.row % 5)) : Nat) : Int) - 5000), .int .i64 2000] 65 (0, 0)) :: (g52, .cells (plC y51).toArray 117 (0, 0)) :: (g2, .cells (shC (.slice pc cs.length cc) (.slice none 0 0) tl0).toArray 32 (0, 0)) :: (g1, .cells (shC (.slice none 0 0) (.slice none 0 0) tl0).toArray 32 (0, 0)) :: Kc) (hW41) ?_
         refine lp (v := .int .i64 (((k + 1) : Nat) : Int)) rfl rfl (run_bin rfl (vx := (.int .i64 ((k : Nat) : Int))) (vy := (.int .i64 ((1 : Nat) : Int))) Tw.kr Tw.kr fun w => bn_add (z := (k + 1)) rfl (wr_i64 Tw.om) w) ?_
         refine lm (v := .int .i64 (((k + 1) : Nat) : Int)) rfl rfl ?_
         refine wpL_done (fun W44 hW44 => ?_)
         go_roundw
         case rel =>
           repeat apply Exists.intro
           exact ⟨⟨k + 1, cs, .slice pc cs.length cc, Kc, Tw.om, (by rw [bld_snoc hy51, ← hcs, add_yes h11 h12]), Tw.om, hOc, (show Dk g2 Kc from Tw.djt), (show Dk g1 Kc from Tw.djt), rfl, (hW44.sub (fun p hp => by first | exact hp | (simp only [List.mem_cons, List.mem_append, List.nil_append, List.not_mem_nil, or_assoc, or_false, false_or] at hp ⊢ <;> grind)))⟩, rfl⟩
         case measure => (show m - (intOf (.int .i64 (((k + 1) : Nat) : Int))).toNat < m - (intOf (.int .i64 ((k : Nat) : Int))).toNat); simp only [intOf]; omega
     | true =>
       rw [h11] at hW39
       refine wp_cond_true rfl ?_
       refine wp_region_L (W0 := W0) ((g54, .cells #[.int .i64 (((y51.bay % 5) : Nat) : Int), .int .i64 (((y51.row % 5) : Nat) : Int), .bool true, .int .i64 (((2 + (y51.tiers % 4)) : Nat) : Int), .int .i64 0, .int .i64 500000000, .int .i64 500000000, .int .i64 0, .slice none 0 0, .int .i64 ((((13000 * (y51.bay % 5)) : Nat) : Int) - 26000), .int .i64 ((((2500 * (y51.row % 5)) : Nat) : Int) - 5000), .int .i64 2000] 65 (0, 0)) :: (g52, .cells (plC y51).toArray 117 (0, 0)) :: (g2, .cells (shC (.slice pc cs.length cc) (.slice none 0 0) tl0).toArray 32 (0, 0)) :: (g1, .cells (shC (.slice none 0 0) (.slice none 0 0) tl0).toArray 32 (0, 0)) :: Kc) (hW39) ?_
       refine lm (v := .pointer (some ⟨g54, 11, none⟩)) rfl rfl ?_
       refine wpL_s ((g54, .cells #[.int .i64 (((y51.bay % 5) : Nat) : Int), .int .i64 (((y51.row % 5) : Nat) : Int), .bool true, .int .i64 (((2 + (y51.tiers % 4)) : Nat) : Int), .int .i64 0, .int .i64 500000000, .int .i64 500000000, .int .i64 0, .slice none 0 0, .int .i64 ((((13000 * (y51.bay % 5)) : Nat) : Int) - 26000), .int .i64 ((((2500 * (y51.row % 5)) : Nat) : Int) - 5000), .int .i64 20000] 65 (0, 0)) :: (g52, .cells (plC y51).toArray 117 (0, 0)) :: (g2, .cells (shC (.slice pc cs.length cc) (.slice none 0 0) tl0).toArray 32 (0, 0)) :: (g1, .cells (shC (.slice none 0 0) (.slice none 0 0) tl0).toArray 32 (0, 0)) :: Kc) rfl rfl (st_row (off := 11) (v := .int .i64 20000) rfl Tw.kr Tw.kr Tw.m0 Bg54 Tw.kr (by first | (simp [Value.cells]; done) | exact Nat.le_of_ble_eq_true rfl) (by intro v hv; simp [Value.cells] at hv; first | (subst hv; rfl) | (rcases hv with rfl <;> rfl)) Tw.kr (List.forall_mem_cons.2 ⟨.inl rfl, (List.forall_mem_cons.2 ⟨.inr ⟨Tw.m1, Tw.nee⟩, (List.forall_mem_cons.2 ⟨.inr ⟨Tw.m2, Tw.nee⟩, (List.forall_mem_cons.2 ⟨.inr ⟨Tw.m3, Tw.nee⟩, (fun p hp => .inr ⟨(.tail _ (.tail _ (.tail _ (.tail _ hp)))), ((show Dk g54 Kc from Tw.djt) _ hp)⟩)⟩)⟩)⟩)⟩)) ?_
       refine wpL_done (fun W45 hW45 => ?_)
       change Code.wp ..
       refine wp_seq ?_
       refine wp_region_L (W0 := W0) ((g54, .cells #[.int .i64 (((y51.bay % 5) : Nat) : Int), .int .i64 (((y51.row % 5) : Nat) : Int), .bool true, .int .i64 (((2 + (y51.tiers % 4)) : Nat) : Int), .int .i64 0, .int .i64 500000000, .int .i64 500000000, .int .i64 0, .slice none 0 0, .int .i64 ((((13000 * (y51.bay % 5)) : Nat) : Int) - 26000), .int .i64 ((((2500 * (y51.row % 5)) : Nat) : Int) - 5000), .int .i64 20000] 65 (0, 0)) :: (g52, .cells (plC y51).toArray 117 (0, 0)) :: (g2, .cells (shC (.slice pc cs.length cc) (.slice none 0 0) tl0).toArray 32 (0, 0)) :: (g1, .cells (shC (.slice none 0 0) (.slice none 0 0) tl0).toArray 32 (0, 0)) :: Kc) (hW45) ?_
       refine lv (v := .agg (shC (.slice pc cs.length cc) (.slice none 0 0) tl0).toArray) rfl rfl (yb_load (n := 13) (off := 0) rfl Tw.kr Tw.m2 Tryd.underlying32 rfl Tw.kr (by first | (simp [Value.cells]; done) | exact Nat.le_of_ble_eq_true rfl) Tw.kr) ?_
       refine lm (v := .pointer (some ⟨g54, 0, none⟩)) rfl rfl ?_
       refine lv (v := .int .i64 (((y51.bay % 5) : Nat) : Int)) rfl rfl (yb_cell (off := 0) rfl Tw.kr Tw.m0 Tryd.underlying3 rfl Tw.kr) ?_
       refine lm (v := .pointer (some ⟨g54, 1, none⟩)) rfl rfl ?_
       refine lv (v := .int .i64 (((y51.row % 5) : Nat) : Int)) rfl rfl (yb_cell (off := 1) rfl Tw.kr Tw.m0 Tryd.underlying3 rfl Tw.kr) ?_
       refine lm (v := .pointer (some ⟨g54, 2, none⟩)) rfl rfl ?_
       refine lv (v := .bool true) rfl rfl (yb_cell (off := 2) rfl Tw.kr Tw.m0 Tryd.underlying4 rfl Tw.kr) ?_
       refine lv (v := .tuple #[.int .i64 (findN (fst (isAt (((y51.bay % 5) : Nat) : Int) (((y51.row % 5) : Nat) : Int) true) cs)), .bool ((fst (isAt (((y51.bay % 5) : Nat) : Int) (((y51.row % 5) : Nat) : Int) true) cs).isSome)]) rfl rfl (yb_call (f := 70) (args := #[.agg (shC (.slice pc cs.length cc) (.slice none 0 0) tl0).toArray, .int .i64 (((y51.bay % 5) : Nat) : Int), .int .i64 (((y51.row % 5) : Nat) : Int), .bool true]) Tw.kf fun W hW => Find_any cs pc cc Tw.om ([] : List Cov) none 0 (Nat.zero_le _) tl0 (((y51.bay % 5) : Nat) : Int) (((y51.row % 5) : Nat) : Int) true W (RC _ (hW.sub (fun p hp => by simp only [List.mem_cons, List.mem_append, List.nil_append, List.not_mem_nil, or_assoc, or_false, false_or, hp, true_or, or_true]))) ((RL.nil (T := [])) _ (hW.sub (fun _ h => by cases h)))) ?_
       refine lm (v := .tuple #[.int .i64 (findN (fst (isAt (((y51.bay % 5) : Nat) : Int) (((y51.row % 5) : Nat) : Int) true) cs)), .bool ((fst (isAt (((y51.bay % 5) : Nat) : Int) (((y51.row % 5) : Nat) : Int) true) cs).isSome)]) rfl rfl ?_
       refine lm (v := .int .i64 (findN (fst (isAt (((y51.bay % 5) : Nat) : Int) (((y51.row % 5) : Nat) : Int) true) cs))) rfl rfl ?_
       refine lm (v := .bool ((fst (isAt (((y51.bay % 5) : Nat) : Int) (((y51.row % 5) : Nat) : Int) true) cs).isSome)) rfl rfl ?_
       refine lm (v := .int .i64 (findN (fst (isAt (((y51.bay % 5) : Nat) : Int) (((y51.row % 5) : Nat) : Int) true) cs))) rfl rfl ?_
       refine lm (v := .bool ((fst (isAt (((y51.bay % 5) : Nat) : Int) (((y51.row % 5) : Nat) : Int) true) cs).isSome)) rfl rfl ?_
       refine wpL_done (fun W46 hW46 => ?_)
       change Code.wp ..
       refine wp_seq ?_
       refine wp_region_L (W0 := W0) ((g54, .cells #[.int .i64 (((y51.bay % 5) : Nat) : Int), .int .i64 (((y51.row % 5) : Nat) : Int), .bool true, .int .i64 (((2 + (y51.tiers % 4)) : Nat) : Int), .int .i64 0, .int .i64 500000000, .int .i64 500000000, .int .i64 0, .slice none 0 0, .int .i64 ((((13000 * (y51.bay % 5)) : Nat) : Int) - 26000), .int .i64 ((((2500 * (y51.row % 5)) : Nat) : Int) - 5000), .int .i64 20000] 65 (0, 0)) :: (g52, .cells (plC y51).toArray 117 (0, 0)) :: (g2, .cells (shC (.slice pc cs.length cc) (.slice none 0 0) tl0).toArray 32 (0, 0)) :: (g1, .cells (shC (.slice none 0 0) (.slice none 0 0) tl0).toArray 32 (0, 0)) :: Kc) (hW46) ?_
       refine lm (v := .bool ((fst (isAt (((y51.bay % 5) : Nat) : Int) (((y51.row % 5) : Nat) : Int) true) cs).isSome)) rfl rfl ?_
       refine lp (v := .bool (!((fst (isAt (((y51.bay % 5) : Nat) : Int) (((y51.row % 5) : Nat) : Int) true) cs).isSome))) rfl rfl (run_un rfl Tw.kr fun w => un_not w) ?_
       refine wpL_done (fun W47 hW47 => ?_)
       change Code.wp ..
       cases h13 : ((fst (isAt (((y51.bay % 5) : Nat) : Int) (((y51.row % 5) : Nat) : Int) true) cs).isSome) with
       | false =>
         refine wp_cond_true rfl ?_
         refine wp_region_L (W0 := W0) ((g54, .cells #[.int .i64 (((y51.bay % 5) : Nat) : Int), .int .i64 (((y51.row % 5) : Nat) : Int), .bool true, .int .i64 (((2 + (y51.tiers % 4)) : Nat) : Int), .int .i64 0, .int .i64 500000000, .int .i64 500000000, .int .i64 0, .slice none 0 0, .int .i64 ((((13000 * (y51.bay % 5)) : Nat) : Int) - 26000), .int .i64 ((((2500 * (y51.row % 5)) : Nat) : Int) - 5000), .int .i64 20000] 65 (0, 0)) :: (g52, .cells (plC y51).toArray 117 (0, 0)) :: (g2, .cells (shC (.slice pc cs.length cc) (.slice none 0 0) tl0).toArray 32 (0, 0)) :: (g1, .cells (shC (.slice none 0 0) (.slice none 0 0) tl0).toArray 32 (0, 0)) :: Kc) (hW47) ?_
         refine lm (v := .pointer (some ⟨g2, 0, none⟩)) rfl rfl ?_
         refine lv (v := .slice pc cs.length cc) rfl rfl (yb_cell (off := 0) rfl Tw.kr Tw.m2 Tryd.underlying22 rfl Tw.kr) ?_
         refine lv (v := .agg #[.int .i64 (((y51.bay % 5) : Nat) : Int), .int .i64 (((y51.row % 5) : Nat) : Int), .bool true, .int .i64 (((2 + (y51.tiers % 4)) : Nat) : Int), .int .i64 0, .int .i64 500000000, .int .i64 500000000, .int .i64 0, .slice none 0 0, .int .i64 ((((13000 * (y51.bay % 5)) : Nat) : Int) - 26000), .int .i64 ((((2500 * (y51.row % 5)) : Nat) : Int) - 5000), .int .i64 20000]) rfl rfl (yb_load (n := 12) (off := 0) rfl Tw.kr Tw.m0 Tryd.underlying65 rfl Tw.kr (by first | (simp [Value.cells]; done) | exact Nat.le_of_ble_eq_true rfl) Tw.kr) ?_
         refine wpL_new (fun g => .slice (some ⟨g, 0, none⟩) 1 1) (obi := .cells #[.int .i64 (((y51.bay % 5) : Nat) : Int), .int .i64 (((y51.row % 5) : Nat) : Int), .bool true, .int .i64 (((2 + (y51.tiers % 4)) : Nat) : Int), .int .i64 0, .int .i64 500000000, .int .i64 500000000, .int .i64 0, .slice none 0 0, .int .i64 ((((13000 * (y51.bay % 5)) : Nat) : Int) - 26000), .int .i64 ((((2500 * (y51.row % 5)) : Nat) : Int) - 5000), .int .i64 20000] 65 (0, 0)) rfl rfl Tw.kf Tw.pf fun g61 Bg61 Fg61 => ?_
         obtain ⟨dj62_0, dj62_1, dj62_2, dj62_3, dj62_4⟩ : g54 ≠ g61 ∧ g52 ≠ g61 ∧ g2 ≠ g61 ∧ g1 ≠ g61 ∧ Dk g61 Kc := Tw.dkf Fg61
         refine wpL_g (AppO W0 65 12 [(g54, .cells #[.int .i64 (((y51.bay % 5) : Nat) : Int), .int .i64 (((y51.row % 5) : Nat) : Int), .bool true, .int .i64 (((2 + (y51.tiers % 4)) : Nat) : Int), .int .i64 0, .int .i64 500000000, .int .i64 500000000, .int .i64 0, .slice none 0 0, .int .i64 ((((13000 * (y51.bay % 5)) : Nat) : Int) - 26000), .int .i64 ((((2500 * (y51.row % 5)) : Nat) : Int) - 5000), .int .i64 20000] 65 (0, 0)), (g52, .cells (plC y51).toArray 117 (0, 0)), (g2, .cells (shC (.slice pc cs.length cc) (.slice none 0 0) tl0).toArray 32 (0, 0)), (g1, .cells (shC (.slice none 0 0) (.slice none 0 0) tl0).toArray 32 (0, 0))] (cs.length + 1) ((cs.flatMap colC) ++ [.int .i64 (((y51.bay % 5) : Nat) : Int), .int .i64 (((y51.row % 5) : Nat) : Int), .bool true, .int .i64 (((2 + (y51.tiers % 4)) : Nat) : Int), .int .i64 0, .int .i64 500000000, .int .i64 500000000, .int .i64 0, .slice none 0 0, .int .i64 ((((13000 * (y51.bay % 5)) : Nat) : Int) - 26000), .int .i64 ((((2500 * (y51.row % 5)) : Nat) : Int) - 5000), .int .i64 20000])) rfl rfl (app_own el_col (m := 1) (c := 1) (news := [.int .i64 (((y51.bay % 5) : Nat) : Int), .int .i64 (((y51.row % 5) : Nat) : Int), .bool true, .int .i64 (((2 + (y51.tiers % 4)) : Nat) : Int), .int .i64 0, .int .i64 500000000, .int .i64 500000000, .int .i64 0, .slice none 0 0, .int .i64 ((((13000 * (y51.bay % 5)) : Nat) : Int) - 26000), .int .i64 ((((2500 * (y51.row % 5)) : Nat) : Int) - 5000), .int .i64 20000]) rfl Tw.kr Tw.kr Tw.m0 hOc Tw.sc (fun p hp => ⟨by simp only [List.mem_cons, List.mem_append, List.nil_append, List.not_mem_nil, or_assoc, or_false, false_or] at hp ⊢ <;> grind, (show Dj [(g54, .cells #[.int .i64 (((y51.bay % 5) : Nat) : Int), .int .i64 (((y51.row % 5) : Nat) : Int), .bool true, .int .i64 (((2 + (y51.tiers % 4)) : Nat) : Int), .int .i64 0, .int .i64 500000000, .int .i64 500000000, .int .i64 0, .slice none 0 0, .int .i64 ((((13000 * (y51.bay % 5)) : Nat) : Int) - 26000), .int .i64 ((((2500 * (y51.row % 5)) : Nat) : Int) - 5000), .int .i64 20000] 65 (0, 0)), (g52, .cells (plC y51).toArray 117 (0, 0)), (g2, .cells (shC (.slice pc cs.length cc) (.slice none 0 0) tl0).toArray 32 (0, 0)), (g1, .cells (shC (.slice none 0 0) (.slice none 0 0) tl0).toArray 32 (0, 0))] Kc from Tw.djt) p hp⟩) rfl (by simp [strV, Value.oneCell']) Tw.om Tw.om Tw.om) Tw.pf ?_
         rintro v63 K9 ⟨Kl63, O63, N63, rfl⟩
         obtain ⟨dj64_0, dj64_1, dj64_2, dj64_3⟩ : Dk g54 Kl63 ∧ Dk g52 Kl63 ∧ Dk g2 Kl63 ∧ Dk g1 Kl63 := Tw.djf N63
         refine lm (v := .pointer (some ⟨g2, 0, none⟩)) rfl rfl ?_
         obtain ⟨p65, c65, rfl⟩ := own_shape O63
         refine wpL_s ((g54, .cells #[.int .i64 (((y51.bay % 5) : Nat) : Int), .int .i64 (((y51.row % 5) : Nat) : Int), .bool true, .int .i64 (((2 + (y51.tiers % 4)) : Nat) : Int), .int .i64 0, .int .i64 500000000, .int .i64 500000000, .int .i64 0, .slice none 0 0, .int .i64 ((((13000 * (y51.bay % 5)) : Nat) : Int) - 26000), .int .i64 ((((2500 * (y51.row % 5)) : Nat) : Int) - 5000), .int .i64 20000] 65 (0, 0)) :: (g52, .cells (plC y51).toArray 117 (0, 0)) :: (g2, .cells (shC (.slice p65 (cs.length + 1) c65) (.slice none 0 0) tl0).toArray 32 (0, 0)) :: (g1, .cells (shC (.slice none 0 0) (.slice none 0 0) tl0).toArray 32 (0, 0)) :: Kl63) rfl rfl (st_row (off := 0) (v := .slice p65 (cs.length + 1) c65) rfl Tw.kr Tw.kr Tw.m2 Bg2 Tw.kr (by first | (simp [Value.cells]; done) | exact Nat.le_of_ble_eq_true rfl) (by intro v hv; simp [Value.cells] at hv; first | (subst hv; rfl) | (rcases hv with rfl <;> rfl)) Tw.kr (List.forall_mem_cons.2 ⟨.inr ⟨Tw.m0, Tw.nee⟩, (List.forall_mem_cons.2 ⟨.inr ⟨Tw.m1, Tw.nee⟩, (List.forall_mem_cons.2 ⟨.inl rfl, (List.forall_mem_cons.2 ⟨.inr ⟨Tw.m3, Tw.nee⟩, (fun p hp => .inr ⟨(.tail _ (.tail _ (.tail _ (.tail _ hp)))), ((show Dk g2 Kl63 from Tw.djt) _ hp)⟩)⟩)⟩)⟩)⟩)) ?_
         refine wpL_done (fun W48 hW48 => ?_)
         change Code.wp ..
         refine wp_region_L (W0 := W0) ((g54, .cells #[.int .i64 (((y51.bay % 5) : Nat) : Int), .int .i64 (((y51.row % 5) : Nat) : Int), .bool true, .int .i64 (((2 + (y51.tiers % 4)) : Nat) : Int), .int .i64 0, .int .i64 500000000, .int .i64 500000000, .int .i64 0, .slice none 0 0, .int .i64 ((((13000 * (y51.bay % 5)) : Nat) : Int) - 26000), .int .i64 ((((2500 * (y51.row % 5)) : Nat) : Int) - 5000), .int .i64 20000] 65 (0, 0)) :: (g52, .cells (plC y51).toArray 117 (0, 0)) :: (g2, .cells (shC (.slice p65 (cs.length + 1) c65) (.slice none 0 0) tl0).toArray 32 (0, 0)) :: (g1, .cells (shC (.slice none 0 0) (.slice none 0 0) tl0).toArray 32 (0, 0)) :: Kl63) (hW48) ?_
         refine lp (v := .int .i64 (((k + 1) : Nat) : Int)) rfl rfl (run_bin rfl (vx := (.int .i64 ((k : Nat) : Int))) (vy := (.int .i64 ((1 : Nat) : Int))) Tw.kr Tw.kr fun w => bn_add (z := (k + 1)) rfl (wr_i64 Tw.om) w) ?_
         refine lm (v := .int .i64 (((k + 1) : Nat) : Int)) rfl rfl ?_
         refine wpL_done (fun W49 hW49 => ?_)
         go_roundw
         case rel =>
           repeat apply Exists.intro
           exact ⟨⟨k + 1, (cs ++ [colD y51 true]), .slice p65 (cs.length + 1) c65, Kl63, Tw.om, (by rw [bld_snoc hy51, ← hcs, add_no h11 h13]), (by rw [List.length_append, List.length_singleton]; omega), (own_app O63 (by rw [List.flatMap_append]; rfl) (by rw [List.length_append]; rfl)), (show Dk g2 Kl63 from Tw.djt), (show Dk g1 Kl63 from Tw.djt), rfl, (hW49.sub (fun p hp => by first | exact hp | (simp only [List.mem_cons, List.mem_append, List.nil_append, List.not_mem_nil, or_assoc, or_false, false_or] at hp ⊢ <;> grind)))⟩, rfl⟩
         case measure => (show m - (intOf (.int .i64 (((k + 1) : Nat) : Int))).toNat < m - (intOf (.int .i64 ((k : Nat) : Int))).toNat); simp only [intOf]; omega
       | true =>
         refine wp_cond_false rfl ?_
         refine wp_skip ?_
         change Code.wp ..
         refine wp_region_L (W0 := W0) ((g54, .cells #[.int .i64 (((y51.bay % 5) : Nat) : Int), .int .i64 (((y51.row % 5) : Nat) : Int), .bool true, .int .i64 (((2 + (y51.tiers % 4)) : Nat) : Int), .int .i64 0, .int .i64 500000000, .int .i64 500000000, .int .i64 0, .slice none 0 0, .int .i64 ((((13000 * (y51.bay % 5)) : Nat) : Int) - 26000), .int .i64 ((((2500 * (y51.row % 5)) : Nat) : Int) - 5000), .int .i64 20000] 65 (0, 0)) :: (g52, .cells (plC y51).toArray 117 (0, 0)) :: (g2, .cells (shC (.slice pc cs.length cc) (.slice none 0 0) tl0).toArray 32 (0, 0)) :: (g1, .cells (shC (.slice none 0 0) (.slice none 0 0) tl0).toArray 32 (0, 0)) :: Kc) (hW47) ?_
         refine lp (v := .int .i64 (((k + 1) : Nat) : Int)) rfl rfl (run_bin rfl (vx := (.int .i64 ((k : Nat) : Int))) (vy := (.int .i64 ((1 : Nat) : Int))) Tw.kr Tw.kr fun w => bn_add (z := (k + 1)) rfl (wr_i64 Tw.om) w) ?_
         refine lm (v := .int .i64 (((k + 1) : Nat) : Int)) rfl rfl ?_
         refine wpL_done (fun W50 hW50 => ?_)
         go_roundw
         case rel =>
           repeat apply Exists.intro
           exact ⟨⟨k + 1, cs, .slice pc cs.length cc, Kc, Tw.om, (by rw [bld_snoc hy51, ← hcs, add_yes h11 h13]), Tw.om, hOc, (show Dk g2 Kc from Tw.djt), (show Dk g1 Kc from Tw.djt), rfl, (hW50.sub (fun p hp => by first | exact hp | (simp only [List.mem_cons, List.mem_append, List.nil_append, List.not_mem_nil, or_assoc, or_false, false_or] at hp ⊢ <;> grind)))⟩, rfl⟩
         case measure => (show m - (intOf (.int .i64 (((k + 1) : Nat) : Int))).toNat < m - (intOf (.int .i64 ((k : Nat) : Int))).toNat); simp only [intOf]; omega
end Go.Proofs.YtlinjngifacmoaaDoor
namespace Go.Proofs.YtlinjngifacmoaaDoor
open Go Go.RowKit Tw
theorem slots_few10 {cs : List Col} (hg : Good cs) (h12 : cs.length ≤ 12) (z : Nat) : (slotsX cs z).length ≤ 4000 := by
 rw [slots_len]
 have h3 := posT_le (cs := cs) (m := 10) fun c hc => by have := colx_in (hg.1 c hc).1; omega
 have h4 := hsX_len z
 have h5 : posT cs * (hsX z).length ≤ 120 * 2 := Nat.mul_le_mul Tw.om h4
 omega
set_option maxRecDepth 100000 in
set_option maxHeartbeats 40000000 in
theorem SlotAll_any (l : List Pl) (p : Option Addr) (c : Nat) (n : Nat) (hl : l.length ≤ 9223372036854775807) (hcap : l.length ≤ c) (hok : ∀ y ∈ l, plOk y) (hn : n ≤ 4294967295) (x : Slt) (w : World) (hp : SLV w p (l.flatMap plC)) (hE : Env w) : Calls Tryd.prog 6 #[.slice p l.length c, .int .u32 ((n : Nat) : Int), .agg (sltC x).toArray] w fun e w' => e = .returned (.bool true) ∧ Below w.heap.size w w' := by
 have HE := Lib.hid hE
 clear hE
 have HP := Lib.hid hp
 clear hp
 obtain ⟨cs, hcs⟩ : ∃ cs, builtC l = cs := ⟨_, rfl⟩
 have hg : Good cs := hcs ▸ built_good l
 obtain ⟨h0, h12⟩ : 0 < cs.length ∧ cs.length ≤ 12 := hcs ▸ built_len l
 have hct : ∀ c ∈ cs, c.tiers ≤ 10 ∧ 1 ≤ c.tiers := fun c hc => by have := colx_in (hg.1 c hc).1; omega
 go_enter Tryd.func6, Tryd.ntmps6
 refine wp_seq ?_
 refine wp_region_L [] (KS.start w) ?_
 refine wpL_new (fun g => .pointer (some ⟨g, 0, none⟩)) (obi := .cells (sltC x).toArray 34 (0, 0)) rfl rfl Tw.kf Tw.pf fun g1 Bg1 Fg1 => ?_
 refine lm (v := .bool false) rfl rfl ?_
 refine wpL_done (fun W1 hW1 => ?_)
 change Code.wp ..
 refine wp_seq ?_
 have HG7 := Lib.hid (CapR.of (cs := sltC x) hW1 Tw.m0)
 have hb7 := hW1.1
 have HP7 := Lib.hid (HP.out.keep hb7)
 refine wp_region_L (W0 := W1) [] ((KS.start W1)) ?_
 refine lm (v := .slice p l.length c) rfl rfl ?_
 refine lm (v := .int .u32 ((n : Nat) : Int)) rfl rfl ?_
 refine wpL_c (f := 33) (args := #[.slice p l.length c, .int .u32 ((n : Nat) : Int)]) (ShipT W1 cs (builtO n)) rfl Tw.kr Tw.kf (fun W hW => (by have h9 := Built_any l p c n hl hcap hok hn (RL.base HP7.out) W hW; rw [hcs] at h9; exact h9)) Tw.pf ?_
 rintro _ TS ⟨pcS, ccS, osS, poS, coS, rfl, hccS, hcoS, hCS, hOS, hRS, hMS⟩
 refine wpL_rebase fun WB hWB => ?_
 have HCS := Lib.hid (hCS WB hWB)
 have HOS := Lib.hid (hOS WB hWB)
 have HRS := Lib.hid (hRS WB hWB)
 clear hCS hOS hRS
 have hoS : GoodO (osS.map fun o => (o.bay, o.rows)) := by rw [hMS]; exact builtO_sub n
 have lrS := goodO_rows hoS
 have HPS := Lib.hid ((good_plugs hg).1 WB)
 have lpS := (good_plugs hg).2
 have loS : osS.length ≤ 10 := by have h8 := congrArg List.length hMS; rw [List.length_map] at h8; have h9 := builtO_len n; omega
 have hbB := hb7.trans (hWB.1.mono hb7.size)
 have HG7 := Lib.hid (HG7.out.keep hWB.1)
 refine wpL_new (fun g => .pointer (some ⟨g, 0, none⟩)) (obi := .cells (shC (.slice none 0 0) (.slice none 0 0) tl0).toArray 32 (0, 0)) rfl rfl Tw.kf Tw.pf fun g2 Bg2 Fg2 => ?_
 refine wpL_s [(g2, .cells (shC (.slice pcS cs.length ccS) (.slice poS osS.length coS) tl0).toArray 32 (0, 0))] rfl rfl (st_row (off := 0) (v := .agg (shC (.slice pcS cs.length ccS) (.slice poS osS.length coS) tl0).toArray) rfl Tw.kr Tw.kr Tw.m0 Bg2 Tw.kr (by first | (simp [Value.cells]; done) | exact Nat.le_of_ble_eq_true rfl) (fun v hv => shC_one v hv) Tw.kr (List.forall_mem_cons.2 ⟨.inl rfl, (List.forall_mem_nil _)⟩)) ?_
 refine wpL_done (fun W2 hW2 => ?_)
 change Code.wp ..
 refine wp_seq ?_
 have HG7 := Lib.hid (HG7.out.keep hW2.1)
 have hbZ := hbB.trans (hW2.1.mono hbB.size)
 have HCZ := Lib.hid (HCS.out.keep hW2.1)
 have HOZ := Lib.hid (HOS.out.keep hW2.1)
 have HRZ := Lib.hid (HRS.out.keep hW2.1)
 have HGZ := Lib.hid (CapR.of (cs := (shC (.slice pcS cs.length ccS) (.slice poS osS.length coS) tl0)) hW2 Tw.m0)
 clear HCS HOS HRS HPS
 have HPS := Lib.hid ((good_plugs hg).1 W2)
 refine wp_region_L (W0 := W2) [] ((KS.start W2)) ?_
 refine lm (v := .int .i64 0) rfl rfl ?_
 refine wpL_done (fun W3 hW3 => ?_)
 change Code.wp ..
 refine wp_seq ?_
 refine wp_seq ?_
 refine wp_region_L (W0 := W2) [] (hW3) ?_
 refine lm (v := .pointer (some ⟨g2, 0, none⟩)) rfl rfl ?_
 refine lv (v := .slice pcS cs.length ccS) rfl rfl (yb_rf (v := .slice pcS cs.length ccS) rfl Tw.kr (fun W hW => ((HGZ.out).keep hW.1).2 0 _ rfl) Tryd.underlying22 rfl) ?_
 refine lp (v := .int .i64 ((cs.length : Nat) : Int)) rfl rfl (run_lenL (p := pcS) (cap := ccS) (n := cs.length) rfl Tryd.underlying22 Tw.kr) ?_
 refine lm (v := .int .i64 0) rfl rfl ?_
 refine wpL_done (fun W4 hW4 => ?_)
 change Code.wp ..
 refine wp_block ?_
 go_loopw [23, 8] (fun u23 u8 wr => ∃ (k : Nat) (tk : Int), (k ≤ cs.length) ∧ (tk = ((posT (cs.take k) : Nat) : Int)) ∧ u23 = .int .i64 ((k : Nat) : Int) ∧ u8 = .int .i64 tk ∧ KS W2 [] wr) (fun u23 _ _ => cs.length - (intOf u23).toNat)
 case atStart => exact ⟨0, 0, (Nat.zero_le _), rfl, rfl, rfl, (hW4.sub (fun p hp => by first | exact hp | (simp only [List.mem_cons, List.mem_append, List.nil_append, List.not_mem_nil, or_assoc, or_false, false_or] at hp ⊢ <;> grind)))⟩
 case round =>
   obtain ⟨k, tk, hk, htk, rfl, rfl, hL5⟩ := hrel
   refine wp_seq ?_
   refine wp_region_L (W0 := W2) [] (hL5) ?_
   refine lp (v := .bool (decide (k < cs.length))) rfl rfl (run_bin rfl (vx := (.int .i64 ((k : Nat) : Int))) (vy := (.int .i64 ((cs.length : Nat) : Int))) Tw.kr Tw.kr fun w => bn_lss rfl w) ?_
   refine wpL_done (fun W6 hW6 => ?_)
   change Code.wp ..
   refine wp_seq ?_
   cases hd1 : (decide (k < cs.length)) with
   | false =>
     have h1 : ¬ (k < cs.length) := of_decide_eq_false hd1
     clear hd1
     refine wp_cond_false rfl ?_
     refine wp_exit ?_
     change Code.wp ..
     refine wp_seq ?_
     refine wp_seq ?_
     obtain ⟨tq, htq0⟩ : ∃ t, t = tk := ⟨_, rfl⟩
     subst htq0
     have htq : tq = ((posT cs : Nat) : Int) := by rw [htk, List.take_of_length_le Tw.om]
     have hpb0 := posT_bnd (fun c hc => (hct c hc).1) k
     refine wp_region_L (W0 := W2) [] (hW6) ?_
     refine wpL_new (fun g => .map (some g)) (obi := .map #[] 0) rfl rfl Tw.kf Tw.pf fun g3 Bg3 Fg3 => ?_
     refine lm (v := .int .i64 tq) rfl rfl ?_
     refine lp (v := .int .i64 (2 * tq)) rfl rfl (run_bin rfl (vx := (.int .i64 2)) (vy := (.int .i64 tq)) Tw.kr Tw.kr fun w => bi_mul (z := (2 * tq)) rfl (wi_i64 Tw.om) w) ?_
     refine wpL_s [(g3, .map #[{ key := .int .u8 20, val := .int .i64 (2 * tq), born := 0 }] 1)] rfl rfl (st_insU (k := 20) (v := .int .i64 (2 * tq)) rfl Tw.kr Tw.kr Tw.kr Tw.m0 Bg3 Tryd.underlying71 Tryd.underlying5 (fun _ h => by cases h) (List.forall_mem_cons.2 ⟨.inl rfl, (List.forall_mem_nil _)⟩)) ?_
     refine lm (v := .int .i64 tq) rfl rfl ?_
     refine wpL_s [(g3, .map #[{ key := .int .u8 20, val := .int .i64 (2 * tq), born := 0 }, { key := .int .u8 40, val := .int .i64 tq, born := 1 }] 2)] rfl rfl (st_insU (k := 40) (v := .int .i64 tq) rfl Tw.kr Tw.kr Tw.kr Tw.m0 Bg3 Tryd.underlying71 Tryd.underlying5 (by intro e he; simp only [List.mem_cons, List.not_mem_nil, or_false] at he; subst he; exact ⟨_, rfl, by decide⟩) (List.forall_mem_cons.2 ⟨.inl rfl, (List.forall_mem_nil _)⟩)) ?_
     refine wpL_s [(g3, .map #[{ key := .int .u8 20, val := .int .i64 (2 * tq), born := 0 }, { key := .int .u8 40, val := .int .i64 tq, born := 1 }, { key := .int .u8 0, val := .int .i64 0, born := 2 }] 3)] rfl rfl (st_insU (k := 0) (v := .int .i64 0) rfl Tw.kr Tw.kr Tw.kr Tw.m0 Bg3 Tryd.underlying71 Tryd.underlying5 (by intro e he; simp only [List.mem_cons, List.not_mem_nil, or_false] at he; rcases he with rfl | rfl <;> exact ⟨_, rfl, by decide⟩) (List.forall_mem_cons.2 ⟨.inl rfl, (List.forall_mem_nil _)⟩)) ?_
     refine wpL_s [(g3, .map (esM tq) 4)] rfl rfl (st_insU (k := 45) (v := .int .i64 0) rfl Tw.kr Tw.kr Tw.kr Tw.m0 Bg3 Tryd.underlying71 Tryd.underlying5 (by intro e he; simp only [List.mem_cons, List.not_mem_nil, or_false] at he; rcases he with rfl | rfl | rfl <;> exact ⟨_, rfl, by decide⟩) (List.forall_mem_cons.2 ⟨.inl rfl, (List.forall_mem_nil _)⟩)) ?_
     refine lm (v := .map (some g3)) rfl rfl ?_
     refine wpL_g (RgM W2 [(g3, .map (esM tq) 4)] g3 4) rfl rfl (rg_map rfl Tw.kr Tw.m0 Tryd.underlying71) Tw.pf ?_
     rintro _ _ ⟨gi, rfl, Bgi, Fgi, rfl⟩
     obtain dj4_0 : g3 ≠ gi := Tw.dkf Fgi
     refine wpL_done (fun W7 hW7 => ?_)
     change Code.wp ..
     refine wp_block ?_
     go_loopw [] (fun  wr => ∃ (seen : Array Nat), KS W2 [(gi, .mapIter (some g3) 4 seen 4), (g3, .map (esM tq) 4)] wr) (fun  wz => World.rangeLeft wz g3 gi)
     case atStart => exact ⟨#[], (hW7.sub (fun p hp => by first | exact hp | (simp only [List.mem_cons, List.mem_append, List.nil_append, List.not_mem_nil, or_assoc, or_false, false_or] at hp ⊢ <;> grind)))⟩
     case round =>
       obtain ⟨seen, hL8⟩ := hrel
       refine wp_seq ?_
       refine wp_region_L (W0 := W2) [(gi, .mapIter (some g3) 4 seen 4), (g3, .map (esM tq) 4)] (hL8) ?_
       cases hd2 : (decide ((leftOf (esM tq) seen).size = 0)) with
       | false =>
         have h2 : ¬ ((leftOf (esM tq) seen).size = 0) := of_decide_eq_false hd2
         clear hd2
         refine wpL_g (NxM (esM tq) seen (fun s => [(gi, .mapIter (some g3) 4 s 4), (g3, .map (esM tq) 4)])) rfl rfl (nx_msome (Kf := fun s => [(gi, .mapIter (some g3) 4 s 4), (g3, .map (esM tq) 4)]) rfl Tw.kr Tw.m0 Tw.m1 Bgi (esM_old tq) h2 (fun s => (List.forall_mem_cons.2 ⟨.inl rfl, (List.forall_mem_cons.2 ⟨.inr ⟨Tw.m1, Tw.nee⟩, (List.forall_mem_nil _)⟩)⟩))) Tw.pf ?_
         rintro _ K9 ⟨e5, he5, hlt5, rfl, rfl⟩
         obtain ⟨z5, hz5, hk5, hv5, hf5⟩ := esM_ok htq e5 he5
         rw [hk5, hv5]
         have hl5 := slots_few10 hg h12 z5
         refine lm (v := .bool true) rfl rfl ?_
         refine wpL_done (fun W9 hW9 => ?_)
         change Code.wp ..
         refine wp_seq ?_
         refine wp_cond_true rfl ?_
         refine wp_skip ?_
         change Code.wp ..
         refine wp_block ?_
         refine wp_seq ?_
         refine wp_region_L (W0 := W2) [(gi, .mapIter (some g3) 4 (seen.push e5.born) 4), (g3, .map (esM tq) 4)] (hW9) ?_
         refine lv (v := .tuple #[.int .u8 ((z5 : Nat) : Int), .int .i64 ((((slotsX cs z5).length) : Nat) : Int)]) rfl rfl (yb_ment rfl Tw.kr Tw.m0 Tw.m1 hf5) ?_
         refine lm (v := .int .u8 ((z5 : Nat) : Int)) rfl rfl ?_
         refine lm (v := .int .i64 ((((slotsX cs z5).length) : Nat) : Int)) rfl rfl ?_
         refine lm (v := .int .u8 ((z5 : Nat) : Int)) rfl rfl ?_
         refine lm (v := .int .i64 ((((slotsX cs z5).length) : Nat) : Int)) rfl rfl ?_
         refine wpL_done (fun W10 hW10 => ?_)
         change Code.wp ..
         refine wp_seq ?_
         refine wp_region_L (W0 := W2) [(gi, .mapIter (some g3) 4 (seen.push e5.born) 4), (g3, .map (esM tq) 4)] (hW10) ?_
         refine lv (v := .agg (shC (.slice pcS cs.length ccS) (.slice poS osS.length coS) tl0).toArray) rfl rfl (yb_rs (off := 0) (cs := _) rfl Tw.kr (fun W hW => ((HGZ.out).keep hW.1).2) Tryd.underlying32 rfl Tw.kr) ?_
         refine lm (v := .int .u8 ((z5 : Nat) : Int)) rfl rfl ?_
         refine wpL_c (f := 17) (args := #[.agg (shC (.slice pcS cs.length ccS) (.slice poS osS.length coS) tl0).toArray, .int .u8 ((z5 : Nat) : Int)]) (OutRL sltC W2 [(gi, .mapIter (some g3) 4 (seen.push e5.born) 4), (g3, .map (esM tq) 4)] (slotsX cs z5)) rfl Tw.kr Tw.kf (fun W hW => calls_r hW (All_any cs pcS ccS Tw.om osS poS coS Tw.om tl0 (fun c hc => by have := hct c hc; omega) z5 W ((RL.base HCZ.out) _ (hW.sub (fun _ h => by cases h))) ((RL.base HOZ.out) _ (hW.sub (fun _ h => by cases h))))) Tw.pf ?_
         rintro _ _ ⟨p6, c6, Kl6, rfl, n6, R6, N6, rfl⟩
         obtain ⟨dj7_0, dj7_1⟩ : Dk gi Kl6 ∧ Dk g3 Kl6 := Tw.djf N6
         refine lm (v := .slice p6 ((slotsX cs z5).length) c6) rfl rfl ?_
         refine wpL_done (fun W11 hW11 => ?_)
         change Code.wp ..
         refine wp_seq ?_
         refine wp_seq ?_
         refine wp_region_L (W0 := W2) ((gi, .mapIter (some g3) 4 (seen.push e5.born) 4) :: (g3, .map (esM tq) 4) :: Kl6) (hW11) ?_
         refine lm (v := .slice p6 ((slotsX cs z5).length) c6) rfl rfl ?_
         refine lp (v := .int .i64 ((((slotsX cs z5).length) : Nat) : Int)) rfl rfl (run_lenL (p := p6) (cap := c6) (n := (slotsX cs z5).length) rfl Tryd.underlying35 Tw.kr) ?_
         refine lm (v := .int .i64 ((((slotsX cs z5).length) : Nat) : Int)) rfl rfl ?_
         refine lp (v := .bool false) rfl rfl (run_bin rfl (vx := (.int .i64 ((((slotsX cs z5).length) : Nat) : Int))) (vy := (.int .i64 ((((slotsX cs z5).length) : Nat) : Int))) Tw.kr Tw.kr fun w => bn_neq (decide_eq_true rfl) w) ?_
         refine wpL_done (fun W12 hW12 => ?_)
         change Code.wp ..
         refine wp_cond_false rfl ?_
         refine wp_skip ?_
         change Code.wp ..
         refine wp_seq ?_
         refine wp_region_L (W0 := W2) ((gi, .mapIter (some g3) 4 (seen.push e5.born) 4) :: (g3, .map (esM tq) 4) :: Kl6) (hW12) ?_
         refine lm (v := .bool false) rfl rfl ?_
         refine wpL_done (fun W13 hW13 => ?_)
         change Code.wp ..
         refine wp_seq ?_
         refine wp_seq ?_
         refine wp_region_L (W0 := W2) ((gi, .mapIter (some g3) 4 (seen.push e5.born) 4) :: (g3, .map (esM tq) 4) :: Kl6) (hW13) ?_
         refine lm (v := .slice p6 ((slotsX cs z5).length) c6) rfl rfl ?_
         refine lp (v := .int .i64 ((((slotsX cs z5).length) : Nat) : Int)) rfl rfl (run_lenL (p := p6) (cap := c6) (n := (slotsX cs z5).length) rfl Tryd.underlying35 Tw.kr) ?_
         refine lm (v := .int .i64 0) rfl rfl ?_
         refine wpL_done (fun W14 hW14 => ?_)
         change Code.wp ..
         refine wp_block ?_
         go_loopw [52, 14] (fun u52 u14 wr => ∃ (k2 : Nat) (bk : Bool), (k2 ≤ (slotsX cs z5).length) ∧ (bk = true ↔ x ∈ (slotsX cs z5).take k2) ∧ u52 = .int .i64 ((k2 : Nat) : Int) ∧ u14 = .bool bk ∧ KS W2 ((gi, .mapIter (some g3) 4 (seen.push e5.born) 4) :: (g3, .map (esM tq) 4) :: Kl6) wr) (fun u52 _ _ => (slotsX cs z5).length - (intOf u52).toNat)
         case atStart => exact ⟨0, false, (Nat.zero_le _), (by simp), rfl, rfl, (hW14.sub (fun p hp => by first | exact hp | (simp only [List.mem_cons, List.mem_append, List.nil_append, List.not_mem_nil, or_assoc, or_false, false_or] at hp ⊢ <;> grind)))⟩
         case round =>
           obtain ⟨k2, bk, hk2, hbk, rfl, rfl, hL15⟩ := hrel
           refine wp_seq ?_
           refine wp_region_L (W0 := W2) ((gi, .mapIter (some g3) 4 (seen.push e5.born) 4) :: (g3, .map (esM tq) 4) :: Kl6) (hL15) ?_
           refine lp (v := .bool (decide (k2 < ((slotsX cs z5).length)))) rfl rfl (run_bin rfl (vx := (.int .i64 ((k2 : Nat) : Int))) (vy := (.int .i64 ((((slotsX cs z5).length) : Nat) : Int))) Tw.kr Tw.kr fun w => bn_lss rfl w) ?_
           refine wpL_done (fun W16 hW16 => ?_)
           change Code.wp ..
           refine wp_seq ?_
           cases hd3 : (decide (k2 < ((slotsX cs z5).length))) with
           | false =>
             have h3 : ¬ (k2 < ((slotsX cs z5).length)) := of_decide_eq_false hd3
             clear hd3
             refine wp_cond_false rfl ?_
             refine wp_exit ?_
             change Code.wp ..
             refine wp_seq ?_
             have hbx := in_all hbk h3
             refine wp_region_L (W0 := W2) ((gi, .mapIter (some g3) 4 (seen.push e5.born) 4) :: (g3, .map (esM tq) 4) :: Kl6) (hW16) ?_
             refine lm (v := .bool bk) rfl rfl ?_
             refine lv (v := .agg (shC (.slice pcS cs.length ccS) (.slice poS osS.length coS) tl0).toArray) rfl rfl (yb_rs (off := 0) (cs := _) rfl Tw.kr (fun W hW => ((HGZ.out).keep hW.1).2) Tryd.underlying32 rfl Tw.kr) ?_
             refine lv (v := .agg (sltC x).toArray) rfl rfl (yb_rs (off := 0) (cs := _) rfl Tw.kr (fun W hW => ((HG7.out).keep hW.1).2) Tryd.underlying34 rfl Tw.kr) ?_
             refine lm (v := .int .u8 ((z5 : Nat) : Int)) rfl rfl ?_
             refine lv (v := .bool bk) rfl rfl (yb_call (f := 14) (args := #[.agg (shC (.slice pcS cs.length ccS) (.slice poS osS.length coS) tl0).toArray, .agg (sltC x).toArray, .int .u8 ((z5 : Nat) : Int)]) Tw.kf fun W hW => (by have h9 := SRight_any cs pcS ccS Tw.om osS poS coS Tw.om tl0 x z5 W ((RL.base HCZ.out) _ (hW.sub (fun _ h => by cases h))) ((RL.base HOZ.out) _ (hW.sub (fun _ h => by cases h))); rw [← hbx] at h9; exact h9)) ?_
             refine lp (v := .bool false) rfl rfl (run_bin rfl (vx := .bool bk) (vy := .bool bk) Tw.kr Tw.kr fun w => bn_bool_neq (b := true) (beq_self_eq_true _) Tryd.underlying4 w) ?_
             refine wpL_done (fun W17 hW17 => ?_)
             change Code.wp ..
             refine wp_cond_false rfl ?_
             refine wp_skip ?_
             go_roundw
             case rel =>
               repeat apply Exists.intro
               exact ⟨⟨(seen.push e5.born), (hW17.sub (fun p hp => by first | exact hp | (simp only [List.mem_cons, List.mem_append, List.nil_append, List.not_mem_nil, or_assoc, or_false, false_or] at hp ⊢ <;> grind)))⟩, rfl⟩
             case measure => have e1 := left_of (hL8.2 _ Tw.m1) (hL8.2 _ Tw.m0); have e2 := left_of (hW17.2 _ Tw.m1) (hW17.2 _ Tw.m0); rw [e1, e2]; exact hlt5
           | true =>
             have h3 : k2 < ((slotsX cs z5).length) := of_decide_eq_true hd3
             clear hd3
             refine wp_cond_true rfl ?_
             refine wp_skip ?_
             change Code.wp ..
             refine wp_seq ?_
             refine wp_block ?_
             refine wp_seq ?_
             refine wp_region_L (W0 := W2) ((gi, .mapIter (some g3) 4 (seen.push e5.born) 4) :: (g3, .map (esM tq) 4) :: Kl6) (hW16) ?_
             refine lm (v := .int .i64 ((k2 : Nat) : Int)) rfl rfl ?_
             obtain ⟨y8, g8_, f8_, hy8, hp8, hc8⟩ := RL.at R6 sltC_len (by decide) (hW16.sub (fun p hp => by simp only [List.mem_cons, List.mem_append, List.nil_append, List.not_mem_nil, or_assoc, or_false, false_or, hp, true_or, or_true])) (k := k2) Tw.om
             refine lp (v := .pointer (some ⟨g8_, f8_ + k2 * 3, none⟩)) rfl rfl (run_idxQ (p := p6) (cap := c6) (n := (slotsX cs z5).length) (j := .i64) (k := k2) (sz := 3) rfl Tryd.underlying35 Tw.kr Tw.kr hp8 Tw.kr Tw.om) ?_
             refine lv (v := .agg (sltC y8).toArray) rfl rfl (yb_rs (off := f8_ + k2 * 3) (cs := sltC y8) rfl Tw.kr (fun W hW => hc8 W (hW.sub (fun p hp => by simp only [List.mem_cons, List.mem_append, List.nil_append, List.not_mem_nil, or_assoc, or_false, false_or, hp, true_or, or_true]))) Tryd.underlying34 rfl Tw.kr) ?_
             refine wpL_new (fun g => .pointer (some ⟨g, 0, none⟩)) (obi := .cells #[.int .i64 0, .int .i64 0, .int .u8 0] 34 (0, 0)) rfl rfl Tw.kf Tw.pf fun g9 Bg9 Fg9 => ?_
             obtain ⟨dj10_0, dj10_1, dj10_2⟩ : gi ≠ g9 ∧ g3 ≠ g9 ∧ Dk g9 Kl6 := Tw.dkf Fg9
             refine lm (v := .int .i64 ((k2 : Nat) : Int)) rfl rfl ?_
             refine wpL_s ((g9, .cells (sltC y8).toArray 34 (0, 0)) :: (gi, .mapIter (some g3) 4 (seen.push e5.born) 4) :: (g3, .map (esM tq) 4) :: Kl6) rfl rfl (st_row (off := 0) (v := .agg (sltC y8).toArray) rfl Tw.kr Tw.kr Tw.m0 Bg9 Tw.kr (by first | (simp [Value.cells]; done) | exact Nat.le_of_ble_eq_true rfl) (fun v hv => sltC_one y8 v hv) Tw.kr (List.forall_mem_cons.2 ⟨.inl rfl, (List.forall_mem_cons.2 ⟨.inr ⟨Tw.m1, Tw.nee⟩, (List.forall_mem_cons.2 ⟨.inr ⟨Tw.m2, Tw.nee⟩, (fun p hp => .inr ⟨(.tail _ (.tail _ (.tail _ hp))), ((show Dk g9 Kl6 from Tw.djt) _ hp)⟩)⟩)⟩)⟩)) ?_
             refine wpL_done (fun W18 hW18 => ?_)
             change Code.wp ..
             refine wp_seq ?_
             refine wp_seq ?_
             refine wp_region_V (W0 := W2) ((g9, .cells (sltC y8).toArray 34 (0, 0)) :: (gi, .mapIter (some g3) 4 (seen.push e5.born) 4) :: (g3, .map (esM tq) 4) :: Kl6) Tw.kr (hW18) ?_
             refine vb (i := 0) (v := .agg (shC (.slice pcS cs.length ccS) (.slice poS osS.length coS) tl0).toArray) rfl rfl rfl (yb_rs (off := 0) (cs := _) rfl Tw.kr (fun W hW => ((HGZ.out).keep hW.1).2) Tryd.underlying32 rfl Tw.kr) ?_
             refine vv (i := 1) (v := .agg (sltC y8).toArray) rfl rfl rfl (yb_load (n := 3) (off := 0) rfl Tw.kr Tw.m0 Tryd.underlying34 rfl Tw.kr (by first | (simp [Value.cells]; done) | exact Nat.le_of_ble_eq_true rfl) Tw.kr) ?_
             refine vm (i := 2) (v := .int .u8 ((z5 : Nat) : Int)) rfl rfl rfl ?_
             refine vv (i := 3) (v := .bool true) rfl rfl rfl (yb_call (f := 14) (args := #[.agg (shC (.slice pcS cs.length ccS) (.slice poS osS.length coS) tl0).toArray, .agg (sltC y8).toArray, .int .u8 ((z5 : Nat) : Int)]) Tw.kf fun W hW => (by have h9 := SRight_any cs pcS ccS Tw.om osS poS coS Tw.om tl0 y8 z5 W ((RL.base HCZ.out) _ (hW.sub (fun _ h => by cases h))) ((RL.base HOZ.out) _ (hW.sub (fun _ h => by cases h))); rw [slots_mem.1 (List.mem_of_getElem? hy8)] at h9; exact h9)) ?_
             refine vm (i := 4) (v := .bool false) rfl rfl rfl ?_
             refine vm (i := 5) (v := .bool false) rfl rfl rfl ?_
             refine vm (i := 6) (v := .int .i64 ((k2 : Nat) : Int)) rfl rfl rfl ?_
             refine vp (i := 7) (v := .bool (decide (0 < k2))) rfl rfl rfl (run_bin rfl (vx := (.int .i64 ((k2 : Nat) : Int))) (vy := (.int .i64 ((0 : Nat) : Int))) Tw.kr Tw.kr fun w => bn_gtr rfl w) ?_
             refine vm (i := 8) (v := .bool (decide (0 < k2))) rfl rfl rfl ?_
             cases hd4 : (decide (0 < k2)) with
             | false =>
               have h4 : ¬ (0 < k2) := of_decide_eq_false hd4
               clear hd4
               refine vn (i := 9) rfl rfl ?_
               refine vn (i := 10) rfl rfl ?_
               refine vn (i := 11) rfl rfl ?_
               refine vn (i := 12) rfl rfl ?_
               refine vn (i := 13) rfl rfl ?_
               refine vn (i := 14) rfl rfl ?_
               refine vn (i := 15) rfl rfl ?_
               refine vn (i := 16) rfl rfl ?_
               refine vm (i := 17) (v := .bool false) rfl rfl rfl ?_
               refine vm (i := 18) (v := .bool false) rfl rfl rfl ?_
               refine wpV_done Tw.kr (fun W19 hW19 => ?_) _
               change Code.wp ..
               refine wp_cond_false rfl ?_
               refine wp_skip ?_
               change Code.wp ..
               refine wp_region_L (W0 := W2) ((g9, .cells (sltC y8).toArray 34 (0, 0)) :: (gi, .mapIter (some g3) 4 (seen.push e5.born) 4) :: (g3, .map (esM tq) 4) :: Kl6) (hW19) ?_
               refine lm (v := .bool bk) rfl rfl ?_
               refine lm (v := .bool bk) rfl rfl ?_
               cases h5 : bk with
               | false =>
                 refine lv (v := .agg (sltC y8).toArray) rfl rfl (yb_load (n := 3) (off := 0) rfl Tw.kr Tw.m0 Tryd.underlying34 rfl Tw.kr (by first | (simp [Value.cells]; done) | exact Nat.le_of_ble_eq_true rfl) Tw.kr) ?_
                 refine lv (v := .agg (sltC x).toArray) rfl rfl (yb_rs (off := 0) (cs := _) rfl Tw.kr (fun W hW => ((HG7.out).keep hW.1).2) Tryd.underlying34 rfl Tw.kr) ?_
                 refine lp (v := .bool (eqS y8 x)) rfl rfl (run_bin rfl (vx := .agg (sltC y8).toArray) (vy := .agg (sltC x).toArray) Tw.kr Tw.kr fun w => eq_slt w) ?_
                 refine lm (v := .bool (eqS y8 x)) rfl rfl ?_
                 refine lm (v := .bool (eqS y8 x)) rfl rfl ?_
                 refine wpL_done (fun W20 hW20 => ?_)
                 change Code.wp ..
                 refine wp_region_L (W0 := W2) ((g9, .cells (sltC y8).toArray 34 (0, 0)) :: (gi, .mapIter (some g3) 4 (seen.push e5.born) 4) :: (g3, .map (esM tq) 4) :: Kl6) (hW20) ?_
                 refine lp (v := .int .i64 (((k2 + 1) : Nat) : Int)) rfl rfl (run_bin rfl (vx := (.int .i64 ((k2 : Nat) : Int))) (vy := (.int .i64 ((1 : Nat) : Int))) Tw.kr Tw.kr fun w => bn_add (z := (k2 + 1)) rfl (wr_i64 Tw.om) w) ?_
                 refine lm (v := .int .i64 (((k2 + 1) : Nat) : Int)) rfl rfl ?_
                 refine wpL_done (fun W21 hW21 => ?_)
                 go_roundw
                 case rel =>
                   repeat apply Exists.intro
                   exact ⟨⟨k2 + 1, (eqS y8 x), Tw.om, (in_no hy8 hbk h5), rfl, rfl, (hW21.sub (fun p hp => by first | exact hp | (simp only [List.mem_cons, List.mem_append, List.nil_append, List.not_mem_nil, or_assoc, or_false, false_or] at hp ⊢ <;> grind)))⟩, rfl⟩
                 case measure => (show (slotsX cs z5).length - (intOf (.int .i64 (((k2 + 1) : Nat) : Int))).toNat < (slotsX cs z5).length - (intOf (.int .i64 ((k2 : Nat) : Int))).toNat); simp only [intOf]; omega
               | true =>
                 refine ln rfl ?_
                 refine ln rfl ?_
                 refine ln rfl ?_
                 refine lm (v := .bool true) rfl rfl ?_
                 refine lm (v := .bool true) rfl rfl ?_
                 refine wpL_done (fun W22 hW22 => ?_)
                 change Code.wp ..
                 refine wp_region_L (W0 := W2) ((g9, .cells (sltC y8).toArray 34 (0, 0)) :: (gi, .mapIter (some g3) 4 (seen.push e5.born) 4) :: (g3, .map (esM tq) 4) :: Kl6) (hW22) ?_
                 refine lp (v := .int .i64 (((k2 + 1) : Nat) : Int)) rfl rfl (run_bin rfl (vx := (.int .i64 ((k2 : Nat) : Int))) (vy := (.int .i64 ((1 : Nat) : Int))) Tw.kr Tw.kr fun w => bn_add (z := (k2 + 1)) rfl (wr_i64 Tw.om) w) ?_
                 refine lm (v := .int .i64 (((k2 + 1) : Nat) : Int)) rfl rfl ?_
                 refine wpL_done (fun W23 hW23 => ?_)
                 go_roundw
                 case rel =>
                   repeat apply Exists.intro
                   exact ⟨⟨k2 + 1, true, Tw.om, (in_yes hy8 hbk h5), rfl, rfl, (hW23.sub (fun p hp => by first | exact hp | (simp only [List.mem_cons, List.mem_append, List.nil_append, List.not_mem_nil, or_assoc, or_false, false_or] at hp ⊢ <;> grind)))⟩, rfl⟩
                 case measure => (show (slotsX cs z5).length - (intOf (.int .i64 (((k2 + 1) : Nat) : Int))).toNat < (slotsX cs z5).length - (intOf (.int .i64 ((k2 : Nat) : Int))).toNat); simp only [intOf]; omega
             | true =>
               have h4 : 0 < k2 := of_decide_eq_true hd4
               clear hd4
               refine vm (i := 9) (v := .slice p6 ((slotsX cs z5).length) c6) rfl rfl rfl ?_
               refine vm (i := 10) (v := .int .i64 ((k2 : Nat) : Int)) rfl rfl rfl ?_
               refine vp (i := 11) (v := .int .i64 (((k2 - 1) : Nat) : Int)) rfl rfl rfl (run_bin rfl (vx := (.int .i64 ((k2 : Nat) : Int))) (vy := (.int .i64 ((1 : Nat) : Int))) Tw.kr Tw.kr fun w => bn_sub (z := (k2 - 1)) rfl Tw.om (wr_i64 Tw.om) w) ?_
               obtain ⟨y11, g11_, f11_, hy11, hp11, hc11⟩ := RL.at R6 sltC_len (by decide) (hW18.sub (fun p hp => by simp only [List.mem_cons, List.mem_append, List.nil_append, List.not_mem_nil, or_assoc, or_false, false_or, hp, true_or, or_true])) (k := (k2 - 1)) Tw.om
               refine vp (i := 12) (v := .pointer (some ⟨g11_, f11_ + (k2 - 1) * 3, none⟩)) rfl rfl rfl (run_idxQ (p := p6) (cap := c6) (n := (slotsX cs z5).length) (j := .i64) (k := (k2 - 1)) (sz := 3) rfl Tryd.underlying35 Tw.kr Tw.kr hp11 Tw.kr Tw.om) ?_
               refine vv (i := 13) (v := .agg (sltC y11).toArray) rfl rfl rfl (yb_rs (off := f11_ + (k2 - 1) * 3) (cs := sltC y11) rfl Tw.kr (fun W hW => hc11 W (hW.sub (fun p hp => by simp only [List.mem_cons, List.mem_append, List.nil_append, List.not_mem_nil, or_assoc, or_false, false_or, hp, true_or, or_true]))) Tryd.underlying34 rfl Tw.kr) ?_
               refine vv (i := 14) (v := .agg (sltC y8).toArray) rfl rfl rfl (yb_load (n := 3) (off := 0) rfl Tw.kr Tw.m0 Tryd.underlying34 rfl Tw.kr (by first | (simp [Value.cells]; done) | exact Nat.le_of_ble_eq_true rfl) Tw.kr) ?_
               refine vv (i := 15) (v := .int .i64 (-1)) rfl rfl rfl (yb_call (f := 19) (args := #[.agg (sltC y11).toArray, .agg (sltC y8).toArray]) Tw.kf fun W hW => (by have h9 := Compare_any y11 y8 W; rw [slots_next Tw.om hy11 hy8] at h9; exact h9)) ?_
               refine vm (i := 16) (v := .bool false) rfl rfl rfl ?_
               refine vm (i := 17) (v := .bool false) rfl rfl rfl ?_
               refine vm (i := 18) (v := .bool false) rfl rfl rfl ?_
               refine wpV_done Tw.kr (fun W24 hW24 => ?_) _
               change Code.wp ..
               refine wp_cond_false rfl ?_
               refine wp_skip ?_
               change Code.wp ..
               refine wp_region_L (W0 := W2) ((g9, .cells (sltC y8).toArray 34 (0, 0)) :: (gi, .mapIter (some g3) 4 (seen.push e5.born) 4) :: (g3, .map (esM tq) 4) :: Kl6) (hW24) ?_
               refine lm (v := .bool bk) rfl rfl ?_
               refine lm (v := .bool bk) rfl rfl ?_
               cases h6 : bk with
               | false =>
                 refine lv (v := .agg (sltC y8).toArray) rfl rfl (yb_load (n := 3) (off := 0) rfl Tw.kr Tw.m0 Tryd.underlying34 rfl Tw.kr (by first | (simp [Value.cells]; done) | exact Nat.le_of_ble_eq_true rfl) Tw.kr) ?_
                 refine lv (v := .agg (sltC x).toArray) rfl rfl (yb_rs (off := 0) (cs := _) rfl Tw.kr (fun W hW => ((HG7.out).keep hW.1).2) Tryd.underlying34 rfl Tw.kr) ?_
                 refine lp (v := .bool (eqS y8 x)) rfl rfl (run_bin rfl (vx := .agg (sltC y8).toArray) (vy := .agg (sltC x).toArray) Tw.kr Tw.kr fun w => eq_slt w) ?_
                 refine lm (v := .bool (eqS y8 x)) rfl rfl ?_
                 refine lm (v := .bool (eqS y8 x)) rfl rfl ?_
                 refine wpL_done (fun W25 hW25 => ?_)
                 change Code.wp ..
                 refine wp_region_L (W0 := W2) ((g9, .cells (sltC y8).toArray 34 (0, 0)) :: (gi, .mapIter (some g3) 4 (seen.push e5.born) 4) :: (g3, .map (esM tq) 4) :: Kl6) (hW25) ?_
                 refine lp (v := .int .i64 (((k2 + 1) : Nat) : Int)) rfl rfl (run_bin rfl (vx := (.int .i64 ((k2 : Nat) : Int))) (vy := (.int .i64 ((1 : Nat) : Int))) Tw.kr Tw.kr fun w => bn_add (z := (k2 + 1)) rfl (wr_i64 Tw.om) w) ?_
                 refine lm (v := .int .i64 (((k2 + 1) : Nat) : Int)) rfl rfl ?_
                 refine wpL_done (fun W26 hW26 => ?_)
                 go_roundw
                 case rel =>
                   repeat apply Exists.intro
                   exact ⟨⟨k2 + 1, (eqS y8 x), Tw.om, (in_no hy8 hbk h6), rfl, rfl, (hW26.sub (fun p hp => by first | exact hp | (simp only [List.mem_cons, List.mem_append, List.nil_append, List.not_mem_nil, or_assoc, or_false, false_or] at hp ⊢ <;> grind)))⟩, rfl⟩
                 case measure => (show (slotsX cs z5).length - (intOf (.int .i64 (((k2 + 1) : Nat) : Int))).toNat < (slotsX cs z5).length - (intOf (.int .i64 ((k2 : Nat) : Int))).toNat); simp only [intOf]; omega
               | true =>
                 refine ln rfl ?_
                 refine ln rfl ?_
                 refine ln rfl ?_
                 refine lm (v := .bool true) rfl rfl ?_
                 refine lm (v := .bool true) rfl rfl ?_
                 refine wpL_done (fun W27 hW27 => ?_)
                 change Code.wp ..
                 refine wp_region_L (W0 := W2) ((g9, .cells (sltC y8).toArray 34 (0, 0)) :: (gi, .mapIter (some g3) 4 (seen.push e5.born) 4) :: (g3, .map (esM tq) 4) :: Kl6) (hW27) ?_
                 refine lp (v := .int .i64 (((k2 + 1) : Nat) : Int)) rfl rfl (run_bin rfl (vx := (.int .i64 ((k2 : Nat) : Int))) (vy := (.int .i64 ((1 : Nat) : Int))) Tw.kr Tw.kr fun w => bn_add (z := (k2 + 1)) rfl (wr_i64 Tw.om) w) ?_
                 refine lm (v := .int .i64 (((k2 + 1) : Nat) : Int)) rfl rfl ?_
                 refine wpL_done (fun W28 hW28 => ?_)
                 go_roundw
                 case rel =>
                   repeat apply Exists.intro
                   exact ⟨⟨k2 + 1, true, Tw.om, (in_yes hy8 hbk h6), rfl, rfl, (hW28.sub (fun p hp => by first | exact hp | (simp only [List.mem_cons, List.mem_append, List.nil_append, List.not_mem_nil, or_assoc, or_false, false_or] at hp ⊢ <;> grind)))⟩, rfl⟩
                 case measure => (show (slotsX cs z5).length - (intOf (.int .i64 (((k2 + 1) : Nat) : Int))).toNat < (slotsX cs z5).length - (intOf (.int .i64 ((k2 : Nat) : Int))).toNat); simp only [intOf]; omega
       | true =>
         have h2 : (leftOf (esM tq) seen).size = 0 := of_decide_eq_true hd2
         clear hd2
         refine lv (v := .tuple #[.bool false]) rfl rfl (nx_mend rfl Tw.kr Tw.m0 Tw.m1 (esM_old tq) h2) ?_
         refine lm (v := .bool false) rfl rfl ?_
         refine wpL_done (fun W29 hW29 => ?_)
         change Code.wp ..
         refine wp_seq ?_
         refine wp_cond_false rfl ?_
         refine wp_exit ?_
         change Code.wp ..
         refine wp_seq ?_
         refine wp_region_L (W0 := W2) [(gi, .mapIter (some g3) 4 seen 4), (g3, .map (esM tq) 4)] (hW29) ?_
         refine lv (v := .bool true) rfl rfl (yb_call (f := 11) (args := #[]) Tw.kf fun W hW => awake8_any W (HE.out.keep (hbZ.trans (hW.1.mono hbZ.size)))) ?_
         refine lm (v := .bool true) rfl rfl ?_
         refine wpL_done (fun W30 hW30 => ?_)
         change Code.wp ..
         refine wp_ret ?_
         try simp only [inBlock_ret, then_ret]
         refine bodyPost_ret (v := .bool true) ?_ rfl ?_
         · kernel_rfl
         · exact ⟨rfl, (hbZ.trans (hW30.1.mono hbZ.size))⟩
   | true =>
     have h1 : k < cs.length := of_decide_eq_true hd1
     clear hd1
     refine wp_cond_true rfl ?_
     refine wp_skip ?_
     change Code.wp ..
     refine wp_seq ?_
     refine wp_block ?_
     refine wp_seq ?_
     refine wp_region_L (W0 := W2) [] (hW6) ?_
     obtain ⟨y12, g12_, f12_, hy12, hp12, hc12⟩ := RL.at (RL.base HCZ.out) colC_len (by decide) (hW6.sub (fun _ h => by cases h)) (k := k) Tw.om
     have hcy12 := hct y12 (List.mem_of_getElem? hy12)
     have hpb12 := posT_bnd (fun c hc => (hct c hc).1) k
     refine lp (v := .pointer (some ⟨g12_, f12_ + k * 12, none⟩)) rfl rfl (run_idxQ (p := pcS) (cap := ccS) (n := cs.length) (j := .i64) (k := k) (sz := 12) rfl Tryd.underlying22 Tw.kr Tw.kr hp12 Tw.kr Tw.om) ?_
     refine lv (v := .agg (colC y12).toArray) rfl rfl (yb_rs (off := f12_ + k * 12) (cs := colC y12) rfl Tw.kr (fun W hW => hc12 W (hW.sub (fun _ h => by cases h))) Tryd.underlying65 rfl Tw.kr) ?_
     refine wpL_new (fun g => .pointer (some ⟨g, 0, none⟩)) (obi := .cells #[.int .i64 0, .int .i64 0, .bool false, .int .i64 0, .int .i64 0, .int .i64 0, .int .i64 0, .int .i64 0, .slice none 0 0, .int .i64 0, .int .i64 0, .int .i64 0] 65 (0, 0)) rfl rfl Tw.kf Tw.pf fun g13 Bg13 Fg13 => ?_
     refine wpL_s [(g13, .cells (colC y12).toArray 65 (0, 0))] rfl rfl (st_row (off := 0) (v := .agg (colC y12).toArray) rfl Tw.kr Tw.kr Tw.m0 Bg13 Tw.kr (by first | (simp [Value.cells]; done) | exact Nat.le_of_ble_eq_true rfl) (fun v hv => colC_one y12 v hv) Tw.kr (List.forall_mem_cons.2 ⟨.inl rfl, (List.forall_mem_nil _)⟩)) ?_
     refine wpL_done (fun W31 hW31 => ?_)
     change Code.wp ..
     refine wp_region_L (W0 := W2) [(g13, .cells (colC y12).toArray 65 (0, 0))] (hW31) ?_
     refine lm (v := .int .i64 tk) rfl rfl ?_
     refine lm (v := .pointer (some ⟨g13, 3, none⟩)) rfl rfl ?_
     refine lv (v := .int .i64 y12.tiers) rfl rfl (yb_cell (off := 3) rfl Tw.kr Tw.m0 Tryd.underlying3 rfl Tw.kr) ?_
     refine lp (v := .int .i64 (tk + y12.tiers)) rfl rfl (run_bin rfl (vx := (.int .i64 tk)) (vy := (.int .i64 y12.tiers)) Tw.kr Tw.kr fun w => bi_add (z := (tk + y12.tiers)) rfl (wi_i64 Tw.om) w) ?_
     refine lm (v := .int .i64 (tk + y12.tiers)) rfl rfl ?_
     refine wpL_done (fun W32 hW32 => ?_)
     change Code.wp ..
     refine wp_region_L (W0 := W2) [(g13, .cells (colC y12).toArray 65 (0, 0))] (hW32) ?_
     refine lp (v := .int .i64 (((k + 1) : Nat) : Int)) rfl rfl (run_bin rfl (vx := (.int .i64 ((k : Nat) : Int))) (vy := (.int .i64 ((1 : Nat) : Int))) Tw.kr Tw.kr fun w => bn_add (z := (k + 1)) rfl (wr_i64 Tw.om) w) ?_
     refine lm (v := .int .i64 (((k + 1) : Nat) : Int)) rfl rfl ?_
     refine wpL_done (fun W33 hW33 => ?_)
     go_roundw
     case rel =>
       repeat apply Exists.intro
       exact ⟨⟨k + 1, (tk + y12.tiers), Tw.om, (by rw [posT_snoc8 hy12 Tw.om, ← htk]), rfl, rfl, (hW33.sub (fun p hp => by first | exact hp | (simp only [List.mem_cons, List.mem_append, List.nil_append, List.not_mem_nil, or_assoc, or_false, false_or] at hp ⊢ <;> grind)))⟩, rfl⟩
     case measure => (show cs.length - (intOf (.int .i64 (((k + 1) : Nat) : Int))).toNat < cs.length - (intOf (.int .i64 ((k : Nat) : Int))).toNat); simp only [intOf]; omega
end Go.Proofs.YtlinjngifacmoaaDoor
/- Places that came in. -/
namespace Go.Proofs.YtlinjngifacmoaaDoor
open Go.ChangeShapes Go.WideShapes Go.ChangeAt Go.RowKit Tw
open Go
theorem opens_pl : OpensC Tryd.prog 117 plC plOk := by
 intro H enc w base sp held fuel cs x h
 obtain ⟨hl, hf⟩ := trod_fld Tryd.underlying117 h
 have c1 : Tryd.prog.cellsOf 5 = 1 := by kernel_rfl
 have c2 : Tryd.prog.cellsOf 4 = 1 := by kernel_rfl
 have c6 : Tryd.prog.cellsOf 117 = 4 := by kernel_rfl
 rw [c6] at hl
 obtain ⟨v0, v1, v2, v3, rfl⟩ : ∃ v0 v1 v2 v3, cs = [v0, v1, v2, v3] := by
   rcases cs with _ | ⟨v0, _ | ⟨v1, _ | ⟨v2, _ | ⟨v3, _ | ⟨v4, cs⟩⟩⟩⟩⟩ <;> simp at hl
   exact ⟨v0, v1, v2, v3, rfl⟩
 have key : ∀ (i : Nat) (f : Field) (v : Value), (#[v0, v1, v2, v3] : Array Value)[i]? = some v → f.type = 5 → f.offset = i → (∃ n y, DataW.trod enc Tryd.prog w base sp held n f.type ((([v0, v1, v2, v3] : List Value).drop f.offset).take (Tryd.prog.cellsOf f.type)) = some y) → ∃ n : Nat, v = .int .u8 ((n : Nat) : Int) ∧ n ≤ 255 := by
   intro i f v hv ht ho ⟨n, y, hy⟩
   rw [ht, c1, ho] at hy
   obtain ⟨z, hz, hz1, hz2⟩ := fld_int (P := Tryd.prog) Tryd.underlying5 hy
   have hv2 : ([v0, v1, v2, v3] : List Value)[i]? = some v := by simpa using hv
   obtain ⟨hi, hvi⟩ := List.getElem?_eq_some_iff.1 hv2
   rw [List.drop_eq_getElem_cons hi, hvi] at hz
   have hz0 : v = .int .u8 z := by simpa using hz
   have m1 : IntKind.u8.min = 0 := by decide
   have m2 : IntKind.u8.max = 255 := by decide
   rw [m1] at hz1; rw [m2] at hz2
   exact ⟨z.toNat, by rw [hz0, Int.toNat_of_nonneg hz1], by omega⟩
 obtain ⟨n0, rfl, b0⟩ := key 0 _ v0 rfl rfl rfl (hf 0 _ rfl)
 obtain ⟨n1, rfl, b1⟩ := key 1 _ v1 rfl rfl rfl (hf 1 _ rfl)
 obtain ⟨n2, rfl, b2⟩ := key 2 _ v2 rfl rfl rfl (hf 2 _ rfl)
 obtain ⟨n, y, hy⟩ := hf 3 _ rfl
 obtain ⟨d, hd⟩ := fld_bool (P := Tryd.prog) Tryd.underlying4 hy
 have hd0 : v3 = .bool d := by
   have e : Tryd.prog.cellsOf 4 = 1 := c2
   have hd2 : (([.int .u8 ((n0 : Nat) : Int), .int .u8 ((n1 : Nat) : Int), .int .u8 ((n2 : Nat) : Int), v3] : List Value).drop 3).take (Tryd.prog.cellsOf 4) = [.bool d] := hd
   rw [e] at hd2
   simpa using hd2
 subst hd0
 exact ⟨⟨n0, n1, n2, d⟩, rfl, b0, b1, b2⟩
end Go.Proofs.YtlinjngifacmoaaDoor
/- SlotAll holds for every input: the program's own answer is true, wherever the listed variables are as the program's text lays them; each argument reads afterwards as it read before. -/
namespace Go.Proofs.YtlinjngifacmoaaDoor
open Go.ChangeShapes Go.WideShapes Go.ChangeAt Go.RowKit Tw
set_option maxRecDepth 100000 in
theorem slotAll_lifted (os : Os) (started : os.Started) (H : Type) (enc : TypeId × Value → H) :
   ReturnsInHanded {} Tryd.checked os 6 .any (fun w args => (Rows.slotAllSpec.pre enc Tryd.prog Tryd.f6 Rows.slotAllRow.domain false w args ∧ laidMetH Tryd.prog laidN w) ∧ sizedMet enc Tryd.prog Tryd.f6 (OpenSpec.ofChange Rows.slotAllSpec) false w args) (Rows.slotAllSpec.post enc Tryd.prog Tryd.f6 false true false false) := by
 refine handed_and_sized (C := Tryd.checked) (X := fun w => laidMetH Tryd.prog laidN w) (fun _ _ hh h => h.of_heap hh) own started Tw.kr Tryd.func6
   (ChangeSpec.witness_shaped (enc := enc) (C := Tryd.checked) (os := os) (X := fun w _ => laidMetH Tryd.prog laidN w) false (World.doorLaid Tryd.prog 1000 os) #[.slice none 0 0, .int .u32 0, .agg #[.int .i64 0, .int .i64 0, .int .u8 0]] 8 rfl (World.shaped_of_RefB Tw.kr Tw.kr) Tw.kr Tw.kr Tw.kr (door_met os _)) ?_
 intro W base args ds gs before hval0 hW hL hsh hsz
 have hval : ∀ (j : Nat) t v, Tryd.f6.params[j]? = some t → args[j]? = some v → Value.okWide Tryd.prog W .any base t v := hval0
 have hW2 := hW
 obtain ⟨p, q, hA0, hV, rfl, hfz, hnd⟩ := hW2
 have hA : DataW.TrodAll enc Tryd.prog W 0 (fun _ => true) true Tryd.f6.params.toList args.toList ds p := hA0
 rw [Tryd.params6] at hA hval
 obtain ⟨v0, vs0, d0, ds0, p0, q0, hargs, rfl, rfl, h0, r0⟩ := trodAll_cons hA
 obtain ⟨v1, vs1, d1, ds1, p1, q1, rfl, rfl, rfl, h1, r1⟩ := trodAll_cons r0
 obtain ⟨v2, vs2, d2, ds2, p2, q2, rfl, rfl, rfl, h2, r2⟩ := trodAll_cons r1
 obtain ⟨rfl, rfl, rfl⟩ := trodAll_nil r2
 obtain rfl : args = #[v0, v1, v2] := by cases args; simp_all
 obtain ⟨rfl, rfl⟩ := trodVars_none hV
 have k0 := h0
 have lt0 : ∀ x ∈ p0, x.block < W.heap.size := by obtain ⟨m, hm⟩ := k0; exact DataW.trod_lt m _ _ _ hm
 obtain ⟨p0_, c0, l0, rfl, ok0⟩ := open_recsS (sz := 4) (by_ := 4) Tryd.underlying60 (OpensS.of opens_pl) Tw.kr Tw.om (fun _ => rfl) Tw.kr (hval 0 60 v0 rfl rfl) h0 (sized_par (j := 0) (t := 60) hsz rfl rfl)
 obtain ⟨a1, rfl, rfl, rfl, w1⟩ := open_int Tryd.underlying61 (hval 1 61 v1 rfl rfl) h1
 have rr1 : 0 ≤ a1 ∧ a1 ≤ 4294967295 := of_wf w1
 obtain ⟨n1, rfl⟩ : ∃ n : Nat, a1 = (n : Int) := ⟨a1.toNat, by omega⟩
 have k2 := h2
 have lt2 : ∀ x ∈ p2, x.block < W.heap.size := by obtain ⟨m, hm⟩ := k2; exact DataW.trod_lt m _ _ _ hm
 obtain ⟨y2, rfl, ok2⟩ := open_recS Tryd.underlying34 (OpensS.of opens_slt) (hval 2 34 v2 rfl rfl) h2 (sized_par (j := 2) (t := 34) hsz rfl rfl)
 clear hA0 hval0
 refine (SlotAll_any l0 p0_ c0 n1 (Nat.le_trans ok0.1.2.2.1 (by unfold maxLen; omega)) ok0.1.2.2.2 ok0.1.2.1 Tw.om y2 W ok0.1.1 (env_of hL)).mono fun e W' ⟨he, bel⟩ => ?_
 subst he
 exact ⟨_, rfl, _, _, _, [], _, [], hW, (trodAll_cons_mk (shut_bool Tryd.underlying4 _) trodAll_mk0), (trodAll_cons_mk (Below.trod laidOut Tw.kr (of_decide_eq_true Tw.kr) k0 bel lt0) (trodAll_cons_mk (shut_int Tryd.underlying61 w1) (trodAll_cons_mk (Below.trod laidOut Tw.kr (of_decide_eq_true Tw.kr) k2 bel lt2) trodAll_mk0))), rfl, bel.frame _, fun h => by cases h⟩
theorem slotAll_said : Rows.SlotAllSaid :=
 OpenClaim.holds_of_wide 6 Tryd.f6 rfl rfl rfl rfl rfl rfl rfl ⟨rfl, rfl, rfl, rfl, rfl⟩ rfl rfl rfl rfl rfl Tw.kr Tryd.func6 Tw.kr
   (of_decide_eq_true Tw.kr) (by unfold Func.isWrapper; first | (rw [if_pos (by decide +kernel)]; kernel_rfl) | (rw [if_neg (by decide +kernel)]; exact ⟨rfl, rfl⟩))
   (fun os started H enc _ => slotAll_lifted os started H enc)
theorem slotAll_proved : Rows.SlotAllCardSaid :=
 Claim7.holds_tied_plain_at .later [] [.data] true Rows.slotAllCard.stood.harness Rows.slotAllCard.stood.looks
   slotAll_said (fun _ h => by cases h) Tw.kr (fun _ h => by cases h) slotAll_row_tie rfl ⟨rfl, rfl⟩ Tw.kr rfl
   (fun f fn hf hfn => by
     obtain rfl : f = 6 := Option.some.inj ((show Tryd.prog.funcNamed "twistlock/twistlocklaw08.SlotAll" = some 6 by kernel_rfl).symm.trans hf) |>.symm
     obtain rfl : fn = Tryd.f6 := (Option.some.inj (Tryd.func6.symm.trans hfn)).symm
     exact ⟨by kernel_rfl, fun j t ht => by
       rw [Tryd.params6] at ht
       have hm : t ∈ [60, 61, 34] := by simpa using Array.mem_of_getElem? ht
       have hall : ([60, 61, 34].all fun u => !Tryd.prog.wantsStandIn u) = true := by kernel_rfl
       exact (show Tryd.prog.wantsStandIn t = false by simpa using List.all_eq_true.1 hall t hm)⟩)
   Tw.kr
#print axioms slotAll_proved
end Go.Proofs.YtlinjngifacmoaaDoor
