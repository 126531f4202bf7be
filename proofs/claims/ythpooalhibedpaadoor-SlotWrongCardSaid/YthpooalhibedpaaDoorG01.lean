import Derived.Test.YthpooalhibedpaaDoorG00
import Derived.Laws.RangeAny
import Derived.Laws.Rows
import Derived.Lib.LaidTab
import Derived.LaidByText
import Derived.Test.YthpooalhibedpaaDoorProg
/- Part of the proof: Sr, Sj, Hs, Sq, T2, T3, T4, T5, T6, T7, T8, T9, TA, TC. -/
set_option linter.unusedVariables false
set_option linter.unusedSimpArgs false
set_option linter.unusedSectionVars false
/- Loops over a string, calls of method values, lists cut to nothing. Over any program. -/
namespace Tw
open Go Go.RowKit Go.Proofs.YthpooalhibedpaaDoor
section
variable {P : Program} {W0 : Base} {T E : TypeId}
theorem KS.setObj {K K' : List (Nat × Obj)} {w : World} {g : Nat} {o o' : Obj} (h : KS W0 K w) (hB : W0.B ≤ g) (hg : w.heap[g]? = some o)
    (hK : ∀ p ∈ K', p = (g, o') ∨ (p ∈ K ∧ p.1 ≠ g)) : KS W0 K' { w with heap := w.heap.setIfInBounds g o' } := by
  have hlt := lt_of_block hg
  refine ⟨h.1.trans ⟨rfl, rfl, rfl, by simp, fun k hk => ?_⟩, fun p hp => ?_⟩
  · show (w.heap.setIfInBounds g o')[k]? = _
    rw [Array.getElem?_setIfInBounds_ne (by omega)]
  · show (w.heap.setIfInBounds g o')[p.1]? = _
    rcases hK p hp with rfl | ⟨hp, hne⟩
    · rw [Array.getElem?_setIfInBounds]
      simp [hlt]
    · rw [Array.getElem?_setIfInBounds_ne (Ne.symm hne)]
      exact h.2 p hp
def Rn (b : UInt8) (r n : Nat) : Prop := (r = b.toNat ∧ n = 1 ∧ b.toNat < 128) ∨ (128 ≤ b.toNat ∧ 128 ≤ r ∧ r ≤ 2147483647 ∧ 1 ≤ n)
theorem rg_str {o : Oper} {a : Act} {l : List UInt8} {x : Operand} (ho : o.op = .range T x) (hT : P.underlying T = some .string) (hx : a.eval x = strV l) (w : World) : (execOp a.eval o).run P w = .ok (.value (.pointer (some ⟨w.heap.size, 0, none⟩))) (w.alloc (.stringIter ⟨l.toArray⟩ 0)) := by
  unfold execOp
  unfold strV at hx
  simp only [ho, hx, Sem.run_bind, Sem.run_pure, Result.andThen_ok, run_range_string w T _ hT]
  rfl
theorem nx_end {o : Oper} {a : Act} {K : List (Nat × Obj)} {l : List UInt8} {k g : Nat} {x : Operand} (ho : o.op = .next x true) (hx : a.eval x = .pointer (some ⟨g, 0, none⟩)) (hm : (g, .stringIter ⟨l.toArray⟩ k) ∈ K) (hk : ¬ k < l.length) :
    ∀ w, KS W0 K w → ∀ K' : Act → World → Prop, (∀ w', Below w.heap.size w w' → K' (a.put o.dst (.tuple #[.bool false])) w') → Oper.wp P o a w K' (fun _ _ _ => False) := by
  intro w hw K' hk'
  have hg := hw.2 _ hm
  have hs := ba_size l
  have hn : ¬ k < (⟨l.toArray⟩ : ByteArray).size := by rw [hs]; exact hk
  have hr : (Instr.next (.pointer (some ⟨g, 0, none⟩)) true o.type).run P w = .ok (.tuple #[.bool false]) w := by
    simp [Instr.next, getObj, Sem.run, hg, hn]
  unfold Oper.wp execOp
  simp only [ho, hx, Sem.run_bind, Sem.run_pure, Result.andThen_ok, hr]
  exact hk' w (Below.refl _ _)
def NxO (l : List UInt8) (k : Nat) (b : UInt8) (Kf : Nat → List (Nat × Obj)) (v : Value) (K' : List (Nat × Obj)) : Prop :=
  ∃ r n : Nat, v = .tuple #[.bool true, .int .i64 ((k : Nat) : Int), .int .i32 ((r : Nat) : Int)] ∧ K' = Kf n ∧ Rn b r n
theorem nx_some {o : Oper} {a : Act} {K : List (Nat × Obj)} {Kf : Nat → List (Nat × Obj)} {l : List UInt8} {k g : Nat} {b : UInt8} {x : Operand} (ho : o.op = .next x true) (hx : a.eval x = .pointer (some ⟨g, 0, none⟩)) (hm : (g, .stringIter ⟨l.toArray⟩ k) ∈ K) (hB : W0.B ≤ g) (hb : l[k]? = some b)
    (hK : ∀ n, ∀ p ∈ Kf n, p = (g, .stringIter ⟨l.toArray⟩ (k + n)) ∨ (p ∈ K ∧ p.1 ≠ g)) :
    ∀ w, KS W0 K w → ∃ v K' w', (execOp a.eval o).run P w = .ok (.value v) w' ∧ KS W0 K' w' ∧ NxO l k b Kf v K' := by
  intro w hw
  have hg := hw.2 _ hm
  obtain ⟨hk, hbk⟩ := List.getElem?_eq_some_iff.1 hb
  have hs := ba_size l
  have hk2 : k < (⟨l.toArray⟩ : ByteArray).size := by rw [hs]; exact hk
  have hget : ((⟨l.toArray⟩ : ByteArray)[k]'hk2) = b := by rw [← hbk]; rfl
  have hr : (Instr.next (.pointer (some ⟨g, 0, none⟩)) true o.type).run P w = .ok (.tuple #[.bool true, .int .i64 ((k : Nat) : Int), .int .i32 (Utf8.decode ⟨l.toArray⟩ k).1]) { w with heap := w.heap.setIfInBounds g (.stringIter ⟨l.toArray⟩ (k + (Utf8.decode ⟨l.toArray⟩ k).2)) } := by
    simp [Instr.next, getObj, setObj, Sem.run, hg, hk2, goInt, Result.andThen]
  refine ⟨_, _, _, ?_, hw.setObj hB hg (hK (Utf8.decode ⟨l.toArray⟩ k).2), (Utf8.decode ⟨l.toArray⟩ k).1, (Utf8.decode ⟨l.toArray⟩ k).2, rfl, rfl, ?_⟩
  · unfold execOp
    simp only [ho, hx, Sem.run_bind, Sem.run_pure, Result.andThen_ok, hr]
  · rcases Nat.lt_or_ge b.toNat 128 with h | h
    · rw [decode_ascii _ _ hk2 (by rw [hget]; exact h), hget]
      exact .inl ⟨rfl, rfl, h⟩
    · obtain ⟨h1, h2⟩ := decode_high _ _ hk2 (by rw [hget]; exact h)
      exact .inr ⟨h, h1, decode_le _ _, h2⟩
theorem cut_own {o : Oper} {a : Act} {K Kl : List (Nat × Obj)} {x z : Operand} {v : Value} {n : Nat} {xs : List Value} {kd : IntKind} (ho : o.op = .slice T x none (some z) none) (hT : P.underlying T = some (.slice E)) (hi : (P.info? E).map (·.size) = some 1) (hx : a.eval x = v) (hz : a.eval z = .int kd 0) (hO : OwnL W0 E 1 v n xs Kl) :
    ∀ w, KS W0 K w → ∃ v' K' w', (execOp a.eval o).run P w = .ok (.value v') w' ∧ KS W0 K' w' ∧ ((∃ p c, v' = .slice p 0 c) ∧ OwnL W0 E 1 v' 0 [] Kl ∧ K' = K) := by
  intro w hw
  have hsz : (Go.sizeOf E).run P w = .ok 1 w := by
    cases hq : P.info? E with
    | none => simp [hq] at hi
    | some i =>
      have hs : i.size = 1 := by simpa [hq] using hi
      simp [Go.sizeOf, typeInfo, hq, hs]
  rcases hO with ⟨rfl, rfl, rfl, rfl⟩ | ⟨g, cap, cur, rfl, hB, ⟨r1, r2, r3, r4, r5⟩, rfl⟩
  · refine ⟨.slice none 0 0, K, w, ?_, hw, ⟨_, _, rfl⟩, .inl ⟨rfl, rfl, rfl, rfl⟩, rfl⟩
    unfold execOp
    simp [ho, hx, hz, Instr.sliceAt, Instr.slice, Instr.sliceBounds, Instr.sliceBound, asIntOf, run_underlying hT, hsz]
  · refine ⟨.slice (some ⟨g, 0, none⟩) 0 cap, K, w, ?_, hw, ⟨_, _, rfl⟩, .inr ⟨g, cap, cur, rfl, hB, ⟨r1, r2, Nat.zero_le _, by simp, by simp⟩, rfl⟩, rfl⟩
    unfold execOp
    have ha : (⟨g, 0, none⟩ : Addr).add 0 = ⟨g, 0, none⟩ := by rw [addr_add]
    simp [ho, hx, hz, Instr.sliceAt, Instr.slice, Instr.sliceBounds, Instr.sliceBound, asIntOf, run_underlying hT, hsz, ha]
theorem run_callm {o : Oper} {a : Act} {x y z : Operand} {f : FuncId} {r u v : Value} {tt : Array TypeId} (ho : o.op = .call { callee := .value x, args := #[y, z], argTypes := tt }) (hx : a.eval x = .func (.func f) #[r] #[]) (hy : a.eval y = u) (hz : a.eval z = v) (hf : ∀ args w, (callFunc f args).run P w = .ok (.enter f args) w) (w : World) : (execOp a.eval o).run P w = .ok (.enter f #[r, u, v]) w := by
  unfold execOp
  simp [ho, resolve, Deferred.ofValue, hx, hy, hz, invoke, hf]
end
section
def OVp {α : Type} (B : Nat) (E : TypeId) (R : World → Value → α → Prop) (W : World) (p : Option Addr) (l : List α) : Prop :=
  ∃ vs : List Value, vs.length = l.length ∧ (vs = [] ∨ ∃ g cur, p = some ⟨g, 0, none⟩ ∧ B ≤ g ∧ W.heap[g]? = some (.cells cur E (0, 0)) ∧ cur.toList.take vs.length = vs) ∧ ∀ (k : Nat) (x : Value) (y : α), vs[k]? = some x → l[k]? = some y → R W x y
def OV {α : Type} (B : Nat) (E : TypeId) (R : World → Value → α → Prop) (W : World) (v : Value) (l : List α) : Prop := ∃ p cap, v = .slice p l.length cap ∧ OVp B E R W p l
theorem OV.keeps {α : Type} {B : Nat} {E : TypeId} {R : World → Value → α → Prop} (hR : Keeps R) : Keeps (OV B E R) := by
  rintro W W' v y ⟨p, cap, h1, vs, h2, h3, h4⟩ hB
  refine ⟨p, cap, h1, vs, h2, h3.imp id ?_, fun k x y hx hy => hR _ _ _ _ (h4 k x y hx hy) hB⟩
  rintro ⟨g, cur, e1, e2, e3, e4⟩
  exact ⟨g, cur, e1, e2, (hB.block g (lt_of_block e3)).trans e3, e4⟩
theorem OVp.lvp {α : Type} {B : Nat} {E : TypeId} {R R' : World → Value → α → Prop} (hR : ∀ W v y, R W v y → R' W v y) {W : World} {p : Option Addr} {l : List α} (h : OVp B E R W p l) : LVp R' W p l := by
  obtain ⟨vs, h2, h3, h4⟩ := h
  refine ⟨vs, ?_, h2, fun k x y hx hy => hR _ _ _ (h4 k x y hx hy)⟩
  rcases h3 with h | ⟨g, cur, e1, e2, e3, e4⟩
  · exact .inl h
  · refine .inr ⟨g, 0, e1, lt_of_block e3, fun i u hu => ?_⟩
    rw [Nat.zero_add, cell_of_row W g i cur _ _ e3]
    rw [← e4, List.getElem?_take] at hu
    split at hu
    · simpa using hu
    · cases hu
theorem OV.lv {α : Type} {B : Nat} {E : TypeId} {R R' : World → Value → α → Prop} (hR : ∀ W v y, R W v y → R' W v y) (W : World) (v : Value) (l : List α) (h : OV B E R W v l) : LV R' W v l := by
  obtain ⟨p, cap, h1, h2⟩ := h
  exact ⟨p, cap, h1, h2.lvp hR⟩
theorem MkE.own {α : Type} {R : World → Value → α → Prop} {W0 : Base} {E : TypeId} {v : Value} {n : Nat} {xs : List Value} {l : List α} {K T : List (Nat × Obj)} (hO : OwnL W0 E 1 v n xs K) (hE : MkE R W0 xs l T) (hn : n = l.length) : MkV (OV W0.B E R) W0 v l (T ++ K) := by
  obtain ⟨h1, h2⟩ := hE
  intro W hW
  have hA := h2 W (hW.sub (fun p hp => List.mem_append_left K hp))
  rcases hO with ⟨rfl, rfl, rfl, rfl⟩ | ⟨g, cap, cur, rfl, hB, hR, rfl⟩
  · exact ⟨none, 0, by rw [← hn], [], h1, .inl rfl, hA⟩
  · have hb := hW.2 _ (List.mem_append_right T (.head _))
    refine ⟨some ⟨g, 0, none⟩, cap, by rw [hn], xs, h1, .inr ⟨g, cur, rfl, hB, hb, ?_⟩, hA⟩
    have := hR.2.2.2.2
    rwa [Nat.mul_one, hn, ← h1] at this
end
theorem wpV_g {P : Program} {md : Region.Mode} {ops : Array Oper} {Q : Exit → Act → World → Prop} {W0 : Base} {i : Nat} {oi : Oper} {d n : Nat} {listed : Array Bool} {tm : Array Value} {df : List Deferred} {K : List (Nat × Obj)} {T : Value → Array Value} (G : Value → List (Nat × Obj) → Prop)
    (hi : ops[i]? = some oi) (hdi : oi.dst = some d) (hs : isStore oi = true) (hr : Region.ready md ops listed = [i]) (hw : Region.wanted oi (yielded ops tm) = true)
    (hg : ∀ w, KS W0 K w → ∃ v K' w', (execOp (Act.eval ⟨tm, df⟩) oi).run P w = .ok (.value v) w' ∧ KS W0 K' w' ∧ G v K')
    (hT : ∀ v, tm.setIfInBounds d v = T v)
    (h : ∀ v K', G v K' → wpV P md ops Q W0 n (listed.setIfInBounds i true) ⟨T v, df⟩ K') : wpV P md ops Q W0 (n + 1) listed ⟨tm, df⟩ K :=
  ⟨fun h0 => (by rw [hr] at h0; cases h0), fun j hj => by
    rw [hr] at hj
    cases List.mem_singleton.1 hj
    refine ⟨oi, hi, .inr (.inr (.inr ⟨G, .inl hs, ⟨hw, fun w hK => (let ⟨_, K', _, h1, h2, h3⟩ := hg w hK; oto_of_run h1 ⟨K', h2, h3⟩)⟩, fun v K' hG => ?_⟩))⟩
    rw [hdi]
    simp only [Act.put]
    rw [hT v]
    exact h v K' hG⟩
end Tw
/- Paths of a walk that come together again. -/
namespace Tw
open Go Go.RowKit Go.Proofs.YthpooalhibedpaaDoor
def normQ (R : Act → World → Prop) : Exit → Act → World → Prop
  | .normal, a, w => R a w
  | _, _, _ => False
def preW (P : Program) (R : Act → World → Prop) : Nat → Code → Act → World → Prop
  | 0, _, a, w => R a w
  | n + 1, .seq x y, a, w => x.wp P (normQ (preW P R n y)) a w
  | _ + 1, _, _, _ => False
def cutT : Nat → Code → Code
  | n + 1, .seq _ b => cutT n b
  | _, c => c
theorem wp_joins {P : Program} {Q : Exit → Act → World → Prop} (R : Act → World → Prop) : ∀ (n : Nat) {c : Code} {a : Act} {w : World}, preW P R n c a w → (∀ a' w', R a' w' → (cutT n c).wp P Q a' w') → c.wp P Q a w
  | 0, c, a, w, h1, h2 => by
    have := h2 a w h1
    cases c <;> exact this
  | n + 1, c, a, w, h1, h2 => by
    cases c with
    | seq x y =>
      refine wp_seq (wp_mono h1 ?_)
      rintro e a' w' hq
      cases e with
      | normal => exact wp_joins R n hq h2
      | _ => exact hq.elim
    | _ => exact h1.elim
def JoinR (F : (Nat → Value) → Array Value) (W0 : Base) (K : List (Nat × Obj)) (a : Act) (w : World) : Prop := (∃ z, a = { tmps := F z, defers := [] }) ∧ KS W0 K w
theorem join_mk {F : (Nat → Value) → Array Value} {W0 : Base} {K : List (Nat × Obj)} {T : Array Value} {w : World} (h : F (fun i => T.getD i undef) = T) (hK : KS W0 K w) : JoinR F W0 K { tmps := T, defers := [] } w := ⟨⟨_, by rw [h]⟩, hK⟩
end Tw
/- Steps of a drawn statement where several operations may come next. Over any program. -/
namespace Tw
open Go Go.RowKit Go.Proofs.YthpooalhibedpaaDoor
section
variable {P : Program} {md : Region.Mode} {ops : Array Oper} {Q R : Exit → Act → World → Prop} {W0 : Base}
theorem wpVs_1 {i n : Nat} {listed : Array Bool} {a : Act} {K : List (Nat × Obj)} (hr : Region.ready md ops listed = [i]) (h : StepV P md ops Q W0 n listed a K i) : wpV P md ops Q W0 (n + 1) listed a K :=
  ⟨fun h0 => (by rw [hr] at h0; cases h0), fun k hk => by
    rw [hr] at hk
    cases List.mem_singleton.1 hk
    exact h⟩
theorem wpVs_3 {i j m n : Nat} {listed : Array Bool} {a : Act} {K : List (Nat × Obj)} (hr : Region.ready md ops listed = [i, j, m]) (h : StepV P md ops Q W0 n listed a K i) (h' : StepV P md ops Q W0 n listed a K j) (h'' : StepV P md ops Q W0 n listed a K m) : wpV P md ops Q W0 (n + 1) listed a K :=
  ⟨fun h0 => (by rw [hr] at h0; cases h0), fun k hk => by
    rw [hr] at hk
    rcases List.mem_cons.1 hk with rfl | hk
    · exact h
    · rcases List.mem_cons.1 hk with rfl | hk
      · exact h'
      · cases List.mem_singleton.1 hk
        exact h''⟩
theorem stepV_nsg {i : Nat} {oi : Oper} {d : Nat} {obi : Obj} {n : Nat} {listed : Array Bool} {tm : Array Value} {df : List Deferred} {K : List (Nat × Obj)} {T : Nat → Array Value} (mk : Nat → Value)
    (hi : ops[i]? = some oi) (hdi : oi.dst = some d) (hw : Region.wanted oi (yielded ops tm) = true)
    (hai : ∀ w, (execOp (Act.eval ⟨tm, df⟩) oi).run P w = .ok (.value (mk w.heap.size)) (w.alloc obi))
    (hT : ∀ g, (tm.setIfInBounds d (mk g)) = T g)
    (h : ∀ g, W0.B ≤ g → (∀ p ∈ K, p.1 ≠ g) → wpV P md ops Q W0 n (listed.setIfInBounds i true) ⟨T g, df⟩ ((g, obi) :: K)) : StepV P md ops Q W0 n listed ⟨tm, df⟩ K i := by
  refine stepV_alloc mk hi hw hai fun g hg hf => ?_
  rw [hdi]
  simp only [Act.put]
  rw [hT g]
  exact h g hg hf
theorem stepV_ns {i : Nat} {oi : Oper} {d : Nat} {obi : Obj} {n : Nat} {listed : Array Bool} {tm : Array Value} {df : List Deferred} {K : List (Nat × Obj)} {T : Nat → Array Value} (mk : Nat → Value)
    (hi : ops[i]? = some oi) (hdi : oi.dst = some d) (hg : oi.guard = none)
    (hai : ∀ w, (execOp (Act.eval ⟨tm, df⟩) oi).run P w = .ok (.value (mk w.heap.size)) (w.alloc obi))
    (hT : ∀ g, (tm.setIfInBounds d (mk g)) = T g)
    (h : ∀ g, W0.B ≤ g → (∀ p ∈ K, p.1 ≠ g) → wpV P md ops Q W0 n (listed.setIfInBounds i true) ⟨T g, df⟩ ((g, obi) :: K)) : StepV P md ops Q W0 n listed ⟨tm, df⟩ K i := stepV_nsg mk hi hdi (wanted_no hg) hai hT h
theorem stepV_c {i : Nat} {oi : Oper} {d n : Nat} {listed : Array Bool} {tm : Array Value} {df : List Deferred} {K : List (Nat × Obj)} {T : Value → Array Value} {f : FuncId} {args : Array Value} (G : Value → List (Nat × Obj) → Prop)
    (hi : ops[i]? = some oi) (hdi : oi.dst = some d) (hw : Region.wanted oi (yielded ops tm) = true)
    (hf : ∀ w, (execOp (Act.eval ⟨tm, df⟩) oi).run P w = .ok (.enter f args) w)
    (hc : ∀ w, KS W0 K w → Calls P f args w fun e w' => ∃ v K', e = .returned v ∧ KS W0 K' w' ∧ G v K') (hm : ∀ v K', G v K' → ∀ p ∈ K, p ∈ K')
    (hT : ∀ v, tm.setIfInBounds d v = T v)
    (h : ∀ v K', G v K' → wpV P md ops Q W0 n (listed.setIfInBounds i true) ⟨T v, df⟩ K') : StepV P md ops Q W0 n listed ⟨tm, df⟩ K i := by
    refine ⟨oi, hi, .inr (.inr (.inr ⟨G, .inr (.inl hm), ⟨hw, fun w hK => ?_⟩, fun v K' hG => ?_⟩))⟩
    · unfold Oto
      rw [hf w]
      exact (hc w hK).mono fun e w' ⟨v, K', he, hk, hG⟩ => ⟨v, he, K', hk, hG⟩
    · rw [hdi]
      simp only [Act.put]
      rw [hT v]
      exact h v K' hG
theorem stepV_vg {i : Nat} {oi : Oper} {v : Value} {d n : Nat} {listed : Array Bool} {tm : Array Value} {df : List Deferred} {K : List (Nat × Obj)} (hi : ops[i]? = some oi) (hd : oi.dst = some d) (hlt : Nat.blt d tm.size = true) (hw : Region.wanted oi (yielded ops tm) = true)
    (hy : ∀ w, KS W0 K w → ∀ K' : Act → World → Prop, (∀ w', Below w.heap.size w w' → K' (Act.put ⟨tm, df⟩ oi.dst v) w') → Oper.wp P oi ⟨tm, df⟩ w K' (fun _ _ _ => False))
    {T : Array Value} (hT : tm.setIfInBounds d v = T)
    (h : wpV P md ops Q W0 n (listed.setIfInBounds i true) ⟨T, df⟩ K) : StepV P md ops Q W0 n listed ⟨tm, df⟩ K i := by
  refine stepV_val hi hd hlt hw hy ?_
  rw [hd]
  subst hT
  exact h
theorem stepV_pg {i : Nat} {oi : Oper} {v : Value} {d n : Nat} {listed : Array Bool} {tm : Array Value} {df : List Deferred} {K : List (Nat × Obj)} (hi : ops[i]? = some oi) (hd : oi.dst = some d) (hlt : Nat.blt d tm.size = true) (hw : Region.wanted oi (yielded ops tm) = true)
    (hy : ∀ w, (execOp (Act.eval ⟨tm, df⟩) oi).run P w = .ok (.value v) w)
    {T : Array Value} (hT : tm.setIfInBounds d v = T)
    (h : wpV P md ops Q W0 n (listed.setIfInBounds i true) ⟨T, df⟩ K) : StepV P md ops Q W0 n listed ⟨tm, df⟩ K i := stepV_vg hi hd hlt hw (yb_pure hy) hT h
theorem stepV_sg {i : Nat} {oi : Oper} {n : Nat} {listed : Array Bool} {tm : Array Value} {df : List Deferred} {K : List (Nat × Obj)} (K' : List (Nat × Obj)) (hi : ops[i]? = some oi) (hd : oi.dst = none)
    (hs : isStore oi = true) (hw : Region.wanted oi (yielded ops tm) = true) (hst : ∀ w, KS W0 K w → ∃ w', (execOp (Act.eval ⟨tm, df⟩) oi).run P w = .ok .skip w' ∧ KS W0 K' w')
    (h : wpV P md ops Q W0 n (listed.setIfInBounds i true) ⟨tm, df⟩ K') : StepV P md ops Q W0 n listed ⟨tm, df⟩ K i := by
  refine stepV_store hi hs hw hst ?_
  rw [hd]
  exact h
theorem vb {i : Nat} {oi : Oper} {v : Value} {d n : Nat} {listed : Array Bool} {tm : Array Value} {df : List Deferred} {K : List (Nat × Obj)} {T : Array Value} (hi : ops[i]? = some oi) (hd : oi.dst = some d) (hw : Region.wanted oi (yielded ops tm) = true)
    (hy : ∀ w, KS W0 [] w → ∀ K' : Act → World → Prop, (∀ w', Below w.heap.size w w' → K' (Act.put ⟨tm, df⟩ oi.dst v) w') → Oper.wp P oi ⟨tm, df⟩ w K' (fun _ _ _ => False))
    (h : wpV P md ops Q W0 n (listed.setIfInBounds i true) ⟨T, df⟩ K) (hlt : Nat.blt d tm.size = true := by kernel_rfl) (hf : freeP md ops listed i = true := by kernel_rfl) (hT : tm.setIfInBounds d v = T := by simp only [List.setIfInBounds_toArray, List.set_cons_succ, List.set_cons_zero] <;> rfl) : wpV P md ops Q W0 (n + 1) listed ⟨tm, df⟩ K := by
  unfold freeP at hf
  simp only [Bool.and_eq_true] at hf
  obtain ⟨h1, h2, h3, h4⟩ := hf
  refine wpV_first (v := v) hi (Region.noSelect_spec h1) n listed _ K (closed_of h4) (Region.free_spec hi h2) (by simpa using h3)
    (.inl fun K' => .inl ⟨hw, fun w hk => Oto.of_wp hd (Nat.le_of_ble_eq_true hlt) (hy w (hk.sub (fun _ h => by cases h)))⟩) ?_
  rw [hd]
  subst hT
  exact h
theorem wpV_mono (hQ : ∀ a w, R .normal a w → Q .normal a w) : ∀ (n : Nat) (listed : Array Bool) (a : Act) (K : List (Nat × Obj)), wpV P md ops R W0 n listed a K → wpV P md ops Q W0 n listed a K
  | 0, _, _, _, h => ⟨h.1, fun w hw => hQ _ _ (h.2 w hw)⟩
  | n + 1, listed, a, K, h => by
    refine ⟨fun hr w hw => hQ _ _ (h.1 hr w hw), fun i hi => ?_⟩
    obtain ⟨o, ho, hc⟩ := h.2 i hi
    refine ⟨o, ho, ?_⟩
    rcases hc with ⟨v, hy, hu⟩ | ⟨obj, mk, hal, hu⟩ | ⟨hst, K2, hs2, hu⟩ | ⟨G, hst, hg2, hu⟩
    · exact .inl ⟨v, hy, wpV_mono hQ n _ _ _ hu⟩
    · exact .inr (.inl ⟨obj, mk, hal, fun g hg hf => wpV_mono hQ n _ _ _ (hu g hg hf)⟩)
    · exact .inr (.inr (.inl ⟨hst, K2, hs2, wpV_mono hQ n _ _ _ hu⟩))
    · exact .inr (.inr (.inr ⟨G, hst, hg2, fun v K' hG => wpV_mono hQ n _ _ _ (hu v K' hG)⟩))
theorem wpV_joins (R : Act → World → Prop) {n : Nat} {listed : Array Bool} {a : Act} {K : List (Nat × Obj)} (h : wpV P md ops (fun _ a w => R a w) W0 n listed a K) (hR : ∀ a w, R a w → Q .normal a w) : wpV P md ops Q W0 n listed a K :=
  wpV_mono hR n listed a K h
end
-- a statement that has the world of now as its base
theorem KS.comp {W0 : Base} {K K2 : List (Nat × Obj)} {W1 W2 : World} (h1 : KS W0 K W1) (h2 : KS (W1 : Base) K2 W2) : KS W0 (K2 ++ K) W2 :=
  ⟨h1.1.trans (h2.1.mono h1.size), fun p hp => by
    rcases List.mem_append.1 hp with hp | hp
    · exact h2.2 p hp
    · exact (h2.1.block p.1 (lt_of_block (h1.2 p hp))).trans (h1.2 p hp)⟩
theorem ks_ne {W0 : Base} {K : List (Nat × Obj)} {W1 : World} {g h : Nat} {o : Obj} (h1 : KS W0 K W1) (hp : (h, o) ∈ K) (hg : W1.heap.size ≤ g) : h ≠ g := by
  have := lt_of_block (h1.2 _ hp)
  intro e
  have e' : h = g := e
  omega
theorem ks_dk {W0 : Base} {K T : List (Nat × Obj)} {W1 : World} {g : Nat} (h1 : KS W0 K W1) (hs : ∀ q ∈ T, q ∈ K) (hg : W1.heap.size ≤ g) : Dk g T := fun q hq => ks_ne (o := q.2) h1 (hs q hq) hg
theorem ks_cell {W0 : Base} {K : List (Nat × Obj)} {W1 : World} {g : Nat} {cs : Array Value} {t : TypeId} {fr : Nat × Nat} {j : Nat} {v : Value} (h1 : KS W0 K W1) (hp : (g, .cells cs t fr) ∈ K) (hv : cs[j]? = some v) : W1.cell? ⟨g, j, none⟩ = some v := (cell_of_row W1 g j cs t fr (h1.2 _ hp)).trans hv
end Tw
/- A package-level variable of plain data reads as its cells: structs, arrays, numbers, bools, strings. Over any program. -/
namespace Tw
open Go Go.RowKit Go.Proofs.YthpooalhibedpaaDoor
section
variable {H : Type} {P : Program}
def contig : Nat → List (Nat × Nat) → Option Nat
  | off, [] => some off
  | off, (o, n) :: r => if o = off then contig (off + n) r else none
theorem chunks {cs : List Value} : ∀ (l : List (Nat × Nat)) (ch : List (List Value)) (off tot : Nat), contig off l = some tot → cs.length = tot → l.length = ch.length →
    (∀ (i : Nat) (x : Nat × Nat) (c : List Value), l[i]? = some x → ch[i]? = some c → (cs.drop x.1).take x.2 = c) → cs.drop off = ch.flatten
  | [], [], off, tot, h, hl, _, _ => by
    simp only [contig, Option.some.injEq] at h
    rw [List.drop_eq_nil_of_le (by omega)]
    rfl
  | [], _ :: _, _, _, _, _, hn, _ => by simp at hn
  | _ :: _, [], _, _, _, _, hn, _ => by simp at hn
  | (o, n) :: l, c :: ch, off, tot, h, hl, hn, hc => by
    simp only [contig] at h
    split at h
    · rename_i ho
      subst ho
      have h0 := hc 0 (o, n) c rfl rfl
      have ih := chunks l ch (o + n) tot h hl (by simpa using hn) (fun i x d hx hd => hc (i + 1) x d (by simpa using hx) (by simpa using hd))
      rw [List.flatten_cons, ← ih, ← h0, ← List.drop_drop]
      exact (List.take_append_drop n (cs.drop o)).symm
    · cases h
def plainOf (P : Program) : Nat → TypeId → DataW H → Option (List Value)
  | 0, _, _ => none
  | f + 1, t, d => match P.underlying t, d with
    | some .bool, .lit (.bool b) => some [.bool b]
    | some (.int _), .lit (.int k n) => some [.int k n]
    | some .string, .lit (.string s) => some [.string ⟨s.toArray⟩]
    | some (.struct fs), .agg ds =>
      if fs.size = ds.length ∧ contig 0 (fs.toList.map fun f => (f.offset, P.cellsOf f.type)) = some (P.cellsOf t) then ((fs.toList.zip ds).mapM fun x => plainOf P f x.1.type x.2).map List.flatten else none
    | some (.array n e), .agg ds =>
      if n = ds.length ∧ contig 0 ((List.range n).map fun i => (i * P.cellsOf e, P.cellsOf e)) = some (P.cellsOf t) then (ds.mapM fun x => plainOf P f e x).map List.flatten else none
    | _, _ => none
theorem mapM_get {α β : Type} {f : α → Option β} : ∀ {l : List α} {r : List β}, l.mapM f = some r → r.length = l.length ∧ ∀ (i : Nat) (a : α), l[i]? = some a → ∃ b, r[i]? = some b ∧ f a = some b := fun h => ⟨Lib.mapM_length h, Lib.mapM_at h⟩
theorem plain_inv {enc : TypeId × Value → H} {w : World} {base : Nat} {sp : Nat → Bool} {held : Bool} : ∀ (f fuel : Nat) (t : TypeId) (d : DataW H) (cs cs0 : List Value) (p : List MemPlace),
    plainOf P f t d = some cs0 → DataW.trod enc P w base sp held fuel t cs = some (d, p) → cs = cs0
  | 0, _, _, _, _, _, _, h, _ => by cases h
  | _ + 1, 0, _, _, _, _, _, _, h => by simp [DataW.trod] at h
  | f + 1, fuel + 1, t, d, cs, cs0, p, hp, ht => by
    unfold plainOf at hp
    unfold DataW.trod at ht
    split at hp
    · rename_i hu
      rw [hu] at ht
      simp only at ht
      split at ht <;> simp_all
    · rename_i hu
      rw [hu] at ht
      simp only at ht
      split at ht <;> simp_all
    · rename_i hu
      rw [hu] at ht
      simp only at ht
      split at ht <;> simp_all
      obtain ⟨_, h2, _⟩ := ht
      rw [← hp, ← h2]
    · rename_i fs ds hu
      rw [hu] at ht
      simp only at ht
      split at hp
      · rename_i hg
        obtain ⟨h1, h2⟩ := hg
        split at ht
        · rename_i hl
          obtain ⟨xs, hm, hx⟩ := Option.map_eq_some_iff.1 ht
          obtain ⟨ys, hn, hy⟩ := Option.map_eq_some_iff.1 hp
          simp only [Prod.mk.injEq, DataW.agg.injEq] at hx
          obtain ⟨hx, _⟩ := hx
          obtain ⟨m1, m2⟩ := mapM_get hm
          obtain ⟨n1, n2⟩ := mapM_get hn
          have hzl : (fs.toList.zip ds).length = fs.size := by simp [List.length_zip]; omega
          subst hy
          have := chunks (cs := cs) _ ys 0 _ h2 hl (by simp only [List.length_map, Array.length_toList]; omega) (fun i x c hx1 hc => by
            rw [List.getElem?_map] at hx1
            obtain ⟨fd, hfd, rfl⟩ := Option.map_eq_some_iff.1 hx1
            obtain ⟨b, hb, hfb⟩ := m2 i fd hfd
            have hdi : ds[i]? = some b.1 := by rw [← hx, List.getElem?_map, hb]; rfl
            have hz : (fs.toList.zip ds)[i]? = some (fd, b.1) := by rw [List.getElem?_zip_eq_some]; exact ⟨hfd, hdi⟩
            obtain ⟨c', hc', hpl⟩ := n2 i _ hz
            rw [hc] at hc'
            cases hc'
            exact plain_inv f fuel _ _ _ _ b.2 hpl hfb)
          simpa using this
        · cases ht
      · cases hp
    · rename_i n e ds hu
      rw [hu] at ht
      simp only at ht
      split at hp
      · rename_i hg
        obtain ⟨h1, h2⟩ := hg
        split at ht
        · rename_i hl
          obtain ⟨xs, hm, hx⟩ := Option.map_eq_some_iff.1 ht
          obtain ⟨ys, hn, hy⟩ := Option.map_eq_some_iff.1 hp
          simp only [Prod.mk.injEq, DataW.agg.injEq] at hx
          obtain ⟨hx, _⟩ := hx
          obtain ⟨m1, m2⟩ := mapM_get hm
          obtain ⟨n1, n2⟩ := mapM_get hn
          subst hy
          have := chunks (cs := cs) _ ys 0 _ h2 hl (by simp only [List.length_map, List.length_range]; omega) (fun i x c hx1 hc => by
            rw [List.getElem?_map] at hx1
            obtain ⟨j, hj, rfl⟩ := Option.map_eq_some_iff.1 hx1
            obtain ⟨b, hb, hfb⟩ := m2 i j hj
            have hij : j = i := by
              obtain ⟨hi, hi2⟩ := List.getElem?_eq_some_iff.1 hj
              rw [List.getElem_range] at hi2
              exact hi2.symm
            subst hij
            have hdi : ds[j]? = some b.1 := by rw [← hx, List.getElem?_map, hb]; rfl
            obtain ⟨c', hc', hpl⟩ := n2 j _ hdi
            rw [hc] at hc'
            cases hc'
            exact plain_inv f fuel _ _ _ _ b.2 hpl hfb)
          simpa using this
        · cases ht
      · cases hp
    · cases hp
theorem laid_plain {w : World} {name : String} {d : DataW Unit} {rest : List (String × DataW Unit)} {g : Nat} {t : TypeId} {cs0 : List Value} (f : Nat) (h : laidMet P ((name, d) :: rest) w)
    (hg : P.globalNamed name = some g) (ht : (P.globals[g]?).map (·.type) = some t) (hp : plainOf P f t d = some cs0) : w.var? P name = some cs0.toArray := by
  obtain ⟨ps, ⟨g', t', cs, fuel, p, q, hg', ht', hv, hd, _, _⟩, _⟩ := h
  obtain rfl := Option.some.inj (hg.symm.trans hg')
  obtain rfl := Option.some.inj (ht.symm.trans ht')
  have := plain_inv f fuel _ _ _ _ _ hp hd
  rw [hv]
  congr 1
  obtain ⟨l⟩ := cs
  exact congrArg Array.mk this
end
end Tw
/- What the layer ship says, in plain lists of columns and covers; how these lie in memory. -/
namespace Go.Proofs.YthpooalhibedpaaDoor
open Go Go.RowKit Tw
structure Col where
  bay : Int
  row : Int
  deck : Bool
  tiers : Int
  height : Int
  k20 : Int
  k40 : Int
  lash : Int
  plugs : List Int
  pp : Option Addr
  pc : Nat
  x : Int
  y : Int
  z : Int
structure Cov where
  bay : Int
  rows : List Int
  rp : Option Addr
  rc : Nat
def inC (n : Int) : List Value := [.int .i64 n]
def colC (c : Col) : List Value := [.int .i64 c.bay, .int .i64 c.row, .bool c.deck, .int .i64 c.tiers, .int .i64 c.height, .int .i64 c.k20, .int .i64 c.k40, .int .i64 c.lash, .slice c.pp c.plugs.length c.pc, .int .i64 c.x, .int .i64 c.y, .int .i64 c.z]
def covC (c : Cov) : List Value := [.int .i64 c.bay, .slice c.rp c.rows.length c.rc]
theorem inC_len (n : Int) : (inC n).length = 1 := rfl
theorem colC_len (c : Col) : (colC c).length = 12 := rfl
theorem covC_len (c : Cov) : (covC c).length = 2 := rfl
theorem inC_one (n : Int) : ∀ v ∈ inC n, v.oneCell' = true := fun v hv => by
  cases List.mem_singleton.1 hv; rfl
theorem colC_one (c : Col) : ∀ v ∈ colC c, v.oneCell' = true := fun v hv => by
  unfold colC at hv
  simp only [List.mem_cons, List.not_mem_nil, or_false] at hv
  rcases hv with rfl | rfl | rfl | rfl | rfl | rfl | rfl | rfl | rfl | rfl | rfl | rfl <;> rfl
theorem covC_one (c : Cov) : ∀ v ∈ covC c, v.oneCell' = true := fun v hv => by
  unfold covC at hv
  simp only [List.mem_cons, List.not_mem_nil, or_false] at hv
  rcases hv with rfl | rfl <;> rfl
structure Tl where
  a0 : Value
  a1 : Value
  a2 : Value
  a3 : Value
  a4 : Value
  a5 : Value
  a6 : Value
  a7 : Value
  a8 : Value
  a9 : Value
  aA : Value
def shC (cv ov : Value) (t : Tl) : List Value := [cv, ov, t.a0, t.a1, t.a2, t.a3, t.a4, t.a5, t.a6, t.a7, t.a8, t.a9, t.aA]
def tl0 : Tl := ⟨.int .i64 0, .int .i64 0, .int .i64 0, .int .i64 0, .slice none 0 0, .slice none 0 0, .slice none 0 0, .int .i64 0, .int .i64 0, .int .i64 0, .int .i64 0⟩
def OneT (t : Tl) : Prop := t.a0.oneCell' = true ∧ t.a1.oneCell' = true ∧ t.a2.oneCell' = true ∧ t.a3.oneCell' = true ∧ t.a4.oneCell' = true ∧ t.a5.oneCell' = true ∧ t.a6.oneCell' = true ∧ t.a7.oneCell' = true ∧ t.a8.oneCell' = true ∧ t.a9.oneCell' = true ∧ t.aA.oneCell' = true
theorem tl0_one : OneT tl0 := ⟨rfl, rfl, rfl, rfl, rfl, rfl, rfl, rfl, rfl, rfl, rfl⟩
-- what the layer says
def isAt (bay row : Int) (deck : Bool) (c : Col) : Bool := decide (c.bay = bay) && (decide (c.row = row) && (c.deck == deck))
def fiN : Option Nat → Int
  | some k => ((k : Nat) : Int)
  | none => -1
def findN : Option Nat → Int
  | some k => ((k : Nat) : Int)
  | none => 0
def elB {α : Type} (l : List α) (n : Int) : Bool := !decide (n < 0) && decide (n < ((l.length : Nat) : Int))
def elC {α : Type} (d : α) (l : List α) (n : Int) : α := if n < 0 then d else (l[n.toNat]?).getD d
def col0 : Col := ⟨0, 0, false, 0, 0, 0, 0, 0, [], none, 0, 0, 0, 0⟩
def cov0 : Cov := ⟨0, [], none, 0⟩
theorem el_neg {α : Type} {d : α} {l : List α} {n : Int} (h : n < 0) : elB l n = false ∧ elC d l n = d := by simp [elB, elC, h]
theorem el_big {α : Type} {d : α} {l : List α} {n : Int} (h : ¬ n < 0) (h2 : ¬ n < ((l.length : Nat) : Int)) : elB l n = false ∧ elC d l n = d := by
  refine ⟨by simp [elB, h2], ?_⟩
  unfold elC
  rw [if_neg h, List.getElem?_eq_none (by omega)]
  rfl
theorem el_in {α : Type} {d : α} {l : List α} {n : Int} {y : α} (h : ¬ n < 0) (hy : l[n.toNat]? = some y) : elB l n = true ∧ elC d l n = y := by
  have hl := (List.getElem?_eq_some_iff.1 hy).1
  refine ⟨?_, by unfold elC; rw [if_neg h, hy]; rfl⟩
  unfold elB
  simp [h]; omega
theorem el_mem {α : Type} {d : α} {l : List α} {n : Int} (h : elB l n = true) : l[n.toNat]? = some (elC d l n) ∧ 0 ≤ n ∧ n < ((l.length : Nat) : Int) := by
  unfold elB at h
  simp at h
  have hy : l[n.toNat]? = some (l[n.toNat]'(by omega)) := List.getElem?_eq_getElem _
  exact ⟨by rw [(el_in (d := d) (by omega) hy).2]; exact hy, by omega, by omega⟩
def fstF {α : Type} (P : α → Bool) : Nat → List α → Option Nat
  | _, [] => none
  | i, x :: l => if P x = true then some i else fstF P (i + 1) l
def fst {α : Type} (P : α → Bool) (l : List α) : Option Nat := fstF P 0 l
theorem fstF_app {α : Type} (P : α → Bool) (l m : List α) : ∀ i, fstF P i l = none → fstF P i (l ++ m) = fstF P (i + l.length) m := by
  induction l with
  | nil => intro i _; simp
  | cons x l ih =>
    intro i h
    unfold fstF at h
    split at h
    · cases h
    · rename_i hx
      show (if P x = true then some i else fstF P (i + 1) (l ++ m)) = _
      rw [if_neg hx, ih _ h, List.length_cons]
      congr 1; omega
section
variable {α : Type} {P : α → Bool} {l : List α} {k : Nat} {x : α}
theorem fst_zero : fstF P 0 (l.take 0) = none := rfl
theorem fst_next (h : fstF P 0 (l.take k) = none) (hx : l[k]? = some x) (hp : P x = false) : fstF P 0 (l.take (k + 1)) = none := by
  obtain ⟨hk, rfl⟩ := List.getElem?_eq_some_iff.1 hx
  rw [List.take_succ_eq_append_getElem hk, fstF_app _ _ _ _ h]
  simp [fstF, hp]
theorem fst_here (h : fstF P 0 (l.take k) = none) (hx : l[k]? = some x) (hp : P x = true) : fst P l = some k := by
  obtain ⟨hk, rfl⟩ := List.getElem?_eq_some_iff.1 hx
  unfold fst
  conv => lhs; rw [← List.take_append_drop k l]
  rw [fstF_app _ _ _ _ h, List.drop_eq_getElem_cons hk]
  simp only [fstF, hp, if_true, List.length_take, Nat.zero_add]
  congr 1; omega
theorem fst_end (h : fstF P 0 (l.take k) = none) (hk : ¬ k < l.length) : fst P l = none := by
  rwa [List.take_of_length_le (by omega)] at h
theorem fst_none (h : fst P l = none) : ∀ x ∈ l, P x = false := by
  have key : ∀ (l : List α) i, fstF P i l = none → ∀ x ∈ l, P x = false := by
    intro l
    induction l with
    | nil => intro i _ x hx; cases hx
    | cons y l ih =>
      intro i h x hx
      unfold fstF at h
      split at h
      · cases h
      · rename_i hy
        rcases List.mem_cons.1 hx with rfl | hx
        · simpa using hy
        · exact ih _ h x hx
  exact key l 0 h
theorem fst_some (h : fst P l = some k) : ∃ x, l[k]? = some x ∧ P x = true ∧ ∀ j y, j < k → l[j]? = some y → P y = false := by
  have key : ∀ (l : List α) i k, fstF P i l = some k → i ≤ k ∧ ∃ x, l[k - i]? = some x ∧ P x = true ∧ ∀ j y, j < k - i → l[j]? = some y → P y = false := by
    intro l
    induction l with
    | nil => intro i k h; cases h
    | cons y l ih =>
      intro i k h
      unfold fstF at h
      split at h
      · rename_i hy
        cases h
        exact ⟨Nat.le_refl _, y, by simp, hy, fun j z hj => by omega⟩
      · rename_i hy
        obtain ⟨h1, x, h2, h3, h4⟩ := ih _ _ h
        refine ⟨by omega, x, ?_, h3, fun j z hj hz => ?_⟩
        · rw [show k - i = (k - (i + 1)) + 1 from by omega, List.getElem?_cons_succ]; exact h2
        · cases j with
          | zero => simp at hz; subst hz; simpa using hy
          | succ j => rw [List.getElem?_cons_succ] at hz; exact h4 j z (by omega) hz
  obtain ⟨_, x, h2, h3, h4⟩ := key l 0 k h
  exact ⟨x, h2, h3, h4⟩
theorem fst_is (hx : l[k]? = some x) (hp : P x = true) (hn : ∀ j y, j < k → l[j]? = some y → P y = false) : fst P l = some k := by
  cases h : fst P l with
  | none => have := fst_none h x (List.mem_of_getElem? hx); rw [this] at hp; cases hp
  | some j =>
    obtain ⟨y, h1, h2, h3⟩ := fst_some h
    rcases Nat.lt_trichotomy j k with hj | rfl | hj
    · have := hn j y hj h1; rw [this] at h2; cases h2
    · rfl
    · have := h3 k x hj hx; rw [this] at hp; cases hp
theorem fst_mem_none (h : ∀ x ∈ l, P x = false) : fst P l = none := by
  cases hf : fst P l with
  | none => rfl
  | some k =>
    obtain ⟨x, h1, h2, _⟩ := fst_some hf
    rw [h x (List.mem_of_getElem? h1)] at h2; cases h2
end
def idxF {α : Type} (P : α → Bool) : Nat → List α → List Int
  | _, [] => []
  | i, x :: l => if P x = true then ((i : Nat) : Int) :: idxF P (i + 1) l else idxF P (i + 1) l
def idx {α : Type} (P : α → Bool) (l : List α) : List Int := idxF P 0 l
theorem idxF_app {α : Type} (P : α → Bool) (l m : List α) : ∀ i, idxF P i (l ++ m) = idxF P i l ++ idxF P (i + l.length) m := by
  induction l with
  | nil => intro i; rfl
  | cons x l ih =>
    intro i
    show (if P x = true then ((i : Nat) : Int) :: idxF P (i + 1) (l ++ m) else idxF P (i + 1) (l ++ m)) = _
    rw [ih, List.length_cons, show i + 1 + l.length = i + (l.length + 1) from by omega]
    show _ = (if P x = true then ((i : Nat) : Int) :: idxF P (i + 1) l else idxF P (i + 1) l) ++ _
    split <;> rfl
theorem idxF_len {α : Type} (P : α → Bool) (l : List α) : ∀ i, (idxF P i l).length ≤ l.length := by
  induction l with
  | nil => intro i; exact Nat.le_refl _
  | cons x l ih =>
    intro i
    have := ih (i + 1)
    unfold idxF
    split
    · rw [List.length_cons, List.length_cons]; omega
    · rw [List.length_cons]; omega
section
variable {α : Type} {P : α → Bool} {l : List α} {k : Nat} {x : α}
theorem idx_yes (hx : l[k]? = some x) (hp : P x = true) : idx P (l.take (k + 1)) = idx P (l.take k) ++ [((k : Nat) : Int)] := by
  obtain ⟨hk, rfl⟩ := List.getElem?_eq_some_iff.1 hx
  unfold idx
  rw [List.take_succ_eq_append_getElem hk, idxF_app]
  simp only [idxF, hp, if_true, List.length_take, Nat.zero_add]
  congr 3
  omega
theorem idx_no (hx : l[k]? = some x) (hp : P x = false) : idx P (l.take (k + 1)) = idx P (l.take k) := by
  obtain ⟨hk, rfl⟩ := List.getElem?_eq_some_iff.1 hx
  unfold idx
  rw [List.take_succ_eq_append_getElem hk, idxF_app]
  simp [idxF, hp]
theorem idx_all (hk : ¬ k < l.length) : idx P (l.take k) = idx P l := by rw [List.take_of_length_le (by omega)]
theorem idx_mem {n : Int} : n ∈ idx P l ↔ ∃ (j : Nat) (y : α), n = ((j : Nat) : Int) ∧ l[j]? = some y ∧ P y = true := by
  have key : ∀ (l : List α) i, n ∈ idxF P i l ↔ ∃ (j : Nat) (y : α), n = ((i + j : Nat) : Int) ∧ l[j]? = some y ∧ P y = true := by
    intro l
    induction l with
    | nil => intro i; simp [idxF]
    | cons z l ih =>
      intro i
      have hs : (n ∈ idxF P (i + 1) l) ↔ ∃ (j : Nat) (y : α), n = ((i + (j + 1) : Nat) : Int) ∧ (z :: l)[j + 1]? = some y ∧ P y = true := by
        rw [ih]
        constructor
        · rintro ⟨j, y, h1, h2, h3⟩; exact ⟨j, y, by rw [h1]; congr 1; omega, by simpa using h2, h3⟩
        · rintro ⟨j, y, h1, h2, h3⟩; exact ⟨j, y, by rw [h1]; congr 1; omega, by simpa using h2, h3⟩
      unfold idxF
      by_cases hz : P z = true
      · rw [if_pos hz, List.mem_cons, hs]
        constructor
        · rintro (h | ⟨j, y, h1, h2, h3⟩)
          · exact ⟨0, z, by rw [h]; rfl, by simp, hz⟩
          · exact ⟨j + 1, y, h1, h2, h3⟩
        · rintro ⟨j, y, h1, h2, h3⟩
          cases j with
          | zero => left; rw [h1]; rfl
          | succ j => right; exact ⟨j, y, h1, h2, h3⟩
      · rw [if_neg hz, hs]
        constructor
        · rintro ⟨j, y, h1, h2, h3⟩; exact ⟨j + 1, y, h1, h2, h3⟩
        · rintro ⟨j, y, h1, h2, h3⟩
          cases j with
          | zero => simp at h2; subst h2; exact absurd h3 hz
          | succ j => exact ⟨j, y, h1, h2, h3⟩
  have := key l 0
  simpa [idx] using this
end
def hasN (l : List Int) (n : Int) : Bool := decide (n ∈ l)
theorem has_fst {l : List Int} {n : Int} : hasN l n = (fst (fun m => decide (n = m)) l).isSome := by
  unfold hasN
  cases h : fst (fun m => decide (n = m)) l with
  | none =>
    have := fst_none h
    simp only [Option.isSome_none, decide_eq_false_iff_not]
    intro hn
    have := this n hn
    simp at this
  | some k =>
    obtain ⟨x, h1, h2, _⟩ := fst_some h
    have h2 : n = x := by simpa using h2
    subst h2
    simp [List.mem_of_getElem? h1]
def belX (c : Col) (o : Cov) : Bool := decide (o.bay = c.bay) && hasN o.rows c.row
def covOf (cs : List Col) (os : List Cov) (n : Int) : Option Nat := if elB cs n = true then fst (belX (elC col0 cs n)) os else none
def partOf (deck : Bool) (o : Cov) (c : Col) : Bool := (c.deck == deck) && belX c o
def alongX (cs : List Col) (os : List Cov) (n : Int) (deck : Bool) : List Int := if elB os n = true then idx (partOf deck (elC cov0 os n)) cs else []
def diffX (a b : Int) : Int := IntKind.i64.wrap (max a b - min a b)
def besideB (c o : Col) : Bool := decide (o.bay = c.bay) && ((o.deck == c.deck) && decide (diffX o.row c.row = 1))
def besideX (cs : List Col) (n : Int) : List Int := if elB cs n = true then idx (besideB (elC col0 cs n)) cs else []
def bayB (cs : List Col) (n : Int) : Bool := elB cs n && (!decide ((elC col0 cs n).bay < 0) && !decide (39 < (elC col0 cs n).bay))
def bayN (cs : List Col) (n : Int) : Int := (elC col0 cs n).bay
def apB (cs : List Col) (a b : Int) : Bool := bayB cs a && bayB cs b
def apN (cs : List Col) (a b : Int) : Int := if apB cs a b = true then diffX (bayN cs a) (bayN cs b) else 0
def tallF : Int → List Col → Int
  | m, [] => m
  | m, c :: cs => tallF (max m c.tiers) cs
def tallX : List Col → Int
  | [] => 0
  | c :: cs => tallF c.tiers cs
def tiersF : Int → List Col → Int
  | m, [] => m
  | m, c :: cs => tiersF (IntKind.i64.wrap (m + c.tiers)) cs
def placesX (cs : List Col) : Int := IntKind.i64.wrap (2 * tiersF 0 cs)
-- right
def incF (most : Int) : Int → List Int → Bool
  | _, [] => true
  | last, n :: l => decide (last < n) && (decide (n ≤ most) && incF most n l)
def incX (l : List Int) (most : Int) : Bool := incF most (-1) l
abbrev Rg := Int × Int × Int
def rgC (r : Rg) : List Value := [.int .i64 r.1, .int .i64 r.2.1, .int .i64 r.2.2]
theorem rgC_len (r : Rg) : (rgC r).length = 3 := rfl
def rgsX : List Rg → Bool
  | [] => true
  | r :: l => !decide (r.1 < r.2.1) && (!decide (r.2.2 < r.1) && rgsX l)
def rangesX (c : Col) : List Rg := [(c.bay, 0, 39), (c.row, 0, 30), (c.tiers, 1, 10), (c.height, 0, 40000), (c.k20, 0, 500000000), (c.k40, 0, 500000000), (c.lash, 0, 1000000000000), (c.x, -500000, 500000), (c.y, -500000, 500000), (c.z, -500000, 500000)]
def colX (c : Col) : Bool := rgsX (rangesX c) && incX c.plugs (IntKind.i64.wrap (c.tiers - 1))
def placeX (c : Col) : I3 := (c.bay, c.row, if c.deck = true then 1 else 0)
def colsF : List I3 → List Col → Bool
  | _, [] => true
  | L, c :: cs => colX c && (!decide (placeX c ∈ L) && colsF (L ++ [placeX c]) cs)
def colsX (cs : List Col) : Bool := !decide (cs.length = 0) && (!decide (200 < cs.length) && colsF [] cs)
def ovX (o : Cov) : Bool := decide (0 ≤ o.bay) && (decide (o.bay ≤ 39) && (decide (0 < o.rows.length) && incX o.rows 30))
def freshF (bay : Int) : List I2 → List Int → Bool
  | _, [] => true
  | L, r :: l => !decide ((bay, r) ∈ L) && freshF bay (L ++ [(bay, r)]) l
def ovsF : List I2 → List Cov → Bool
  | _, [] => true
  | L, o :: os => ovX o && (freshF o.bay L o.rows && ovsF (L ++ o.rows.map (fun r => (o.bay, r))) os)
def ovsX (os : List Cov) : Bool := !decide (40 < os.length) && ovsF [] os
def rightX (cs : List Col) (os : List Cov) : Bool := colsX cs && ovsX os
def PlR (W : World) (cs : List Col) : Prop := ∀ c ∈ cs, SLV W c.pp (c.plugs.flatMap inC)
def RwR (W : World) (os : List Cov) : Prop := ∀ o ∈ os, SLV W o.rp (o.rows.flatMap inC)
theorem PlR.keep {W W' : World} {cs : List Col} (h : PlR W cs) (hb : Below W.heap.size W W') : PlR W' cs := fun c hc => (h c hc).keep hb
theorem RwR.keep {W W' : World} {os : List Cov} (h : RwR W os) (hb : Below W.heap.size W W') : RwR W' os := fun c hc => (h c hc).keep hb
theorem RwR.el {W : World} {os : List Cov} (h : RwR W os) (n : Int) : SLV W (elC cov0 os n).rp ((elC cov0 os n).rows.flatMap inC) := by
  unfold elC
  split
  · exact .inl rfl
  · cases hy : os[n.toNat]? with
    | none => exact .inl rfl
    | some y => exact h y (List.mem_of_getElem? hy)
def CapR (W : World) (g : Nat) (cs : List Value) : Prop := g < W.heap.size ∧ ∀ (j : Nat) (v : Value), cs[j]? = some v → W.cell? ⟨g, 0 + j, none⟩ = some v
theorem CapR.keep {W W' : World} {g : Nat} {cs : List Value} (h : CapR W g cs) (hb : Below W.heap.size W W') : CapR W' g cs :=
  ⟨Nat.lt_of_lt_of_le h.1 hb.size, fun j v hv => by rw [hb.cell (p := ⟨g, 0 + j, none⟩) h.1]; exact h.2 j v hv⟩
theorem CapR.of {W0 : Base} {K : List (Nat × Obj)} {W : World} {g : Nat} {cs : List Value} {t : TypeId} {fr : Nat × Nat} (hW : KS W0 K W) (hm : (g, .cells cs.toArray t fr) ∈ K) : CapR W g cs :=
  ⟨lt_of_block (hW.2 _ hm), fun j v hv => by rw [cell_of_row W g (0 + j) cs.toArray t fr (hW.2 _ hm), Nat.zero_add]; simpa using hv⟩
theorem blk_slv {W0 : Base} {K : List (Nat × Obj)} {W : World} {g : Nat} {cs : List Value} {t : TypeId} {fr : Nat × Nat} (hW : KS W0 K W) (hm : (g, .cells cs.toArray t fr) ∈ K) : SLV W (some ⟨g, 0, none⟩) cs :=
  .inr ⟨g, 0, rfl, lt_of_block (hW.2 _ hm), fun j v hv => by rw [cell_of_row W g (0 + j) cs.toArray t fr (hW.2 _ hm), Nat.zero_add]; simpa using hv⟩
theorem bool_is {b c : Bool} (h : b = c) : Ending.returned (.bool b) = .returned (.bool c) := by rw [h]
theorem int_is {a b : Int} (h : a = b) : Ending.returned (.int .i64 a) = .returned (.int .i64 b) := by rw [h]
theorem ib_is {a b : Int} {c d : Bool} (h : a = b) (h2 : c = d) : Ending.returned (.tuple #[.int .i64 a, .bool c]) = .returned (.tuple #[.int .i64 b, .bool d]) := by rw [h, h2]
theorem el_int : Elem Tryd.prog 63 3 1 8 (.int .i64 0) := Elem.mk' Tryd.underlying63 (by kernel_rfl) rfl
theorem bn_dec {a b : Bool} : (a == b) = decide (a = b) := by cases a <;> cases b <;> rfl
-- steps of the plain functions
theorem inc_step {l : List Int} {k : Nat} {n last most : Int} (hy : l[k]? = some n) : incF most last (l.drop k) = (decide (last < n) && (decide (n ≤ most) && incF most n (l.drop (k + 1)))) := by
  obtain ⟨hk, rfl⟩ := List.getElem?_eq_some_iff.1 hy
  rw [List.drop_eq_getElem_cons hk]; rfl
theorem inc_end {l : List Int} {k : Nat} {last most : Int} (hk : ¬ k < l.length) : incF most last (l.drop k) = true := by
  rw [List.drop_eq_nil_of_le (by omega)]; rfl
theorem rgs_step {l : List Rg} {k : Nat} {r : Rg} (hy : l[k]? = some r) : rgsX (l.drop k) = (!decide (r.1 < r.2.1) && (!decide (r.2.2 < r.1) && rgsX (l.drop (k + 1)))) := by
  obtain ⟨hk, rfl⟩ := List.getElem?_eq_some_iff.1 hy
  rw [List.drop_eq_getElem_cons hk]; rfl
theorem rgs_end {l : List Rg} {k : Nat} (hk : ¬ k < l.length) : rgsX (l.drop k) = true := by
  rw [List.drop_eq_nil_of_le (by omega)]; rfl
theorem tall_step {l : List Col} {k : Nat} {c : Col} {m : Int} (hy : l[k]? = some c) : tallF m (l.drop k) = tallF (max m c.tiers) (l.drop (k + 1)) := by
  obtain ⟨hk, rfl⟩ := List.getElem?_eq_some_iff.1 hy
  rw [List.drop_eq_getElem_cons hk]; rfl
theorem tiers_step {l : List Col} {k : Nat} {c : Col} {m : Int} (hy : l[k]? = some c) : tiersF m (l.drop k) = tiersF (IntKind.i64.wrap (m + c.tiers)) (l.drop (k + 1)) := by
  obtain ⟨hk, rfl⟩ := List.getElem?_eq_some_iff.1 hy
  rw [List.drop_eq_getElem_cons hk]; rfl
theorem cols_step {l : List Col} {k : Nat} {c : Col} {L : List I3} (hy : l[k]? = some c) : colsF L (l.drop k) = (colX c && (!decide (placeX c ∈ L) && colsF (L ++ [placeX c]) (l.drop (k + 1)))) := by
  obtain ⟨hk, rfl⟩ := List.getElem?_eq_some_iff.1 hy
  rw [List.drop_eq_getElem_cons hk]; rfl
theorem cols_end {l : List Col} {k : Nat} {L : List I3} (hk : ¬ k < l.length) : colsF L (l.drop k) = true := by
  rw [List.drop_eq_nil_of_le (by omega)]; rfl
theorem ovs_step {l : List Cov} {k : Nat} {o : Cov} {L : List I2} (hy : l[k]? = some o) : ovsF L (l.drop k) = (ovX o && (freshF o.bay L o.rows && ovsF (L ++ o.rows.map (fun r => (o.bay, r))) (l.drop (k + 1)))) := by
  obtain ⟨hk, rfl⟩ := List.getElem?_eq_some_iff.1 hy
  rw [List.drop_eq_getElem_cons hk]; rfl
theorem ovs_end {l : List Cov} {k : Nat} {L : List I2} (hk : ¬ k < l.length) : ovsF L (l.drop k) = true := by
  rw [List.drop_eq_nil_of_le (by omega)]; rfl
theorem fresh_step {l : List Int} {k : Nat} {r bay : Int} {L : List I2} (hy : l[k]? = some r) : freshF bay L (l.drop k) = (!decide ((bay, r) ∈ L) && freshF bay (L ++ [(bay, r)]) (l.drop (k + 1))) := by
  obtain ⟨hk, rfl⟩ := List.getElem?_eq_some_iff.1 hy
  rw [List.drop_eq_getElem_cons hk]; rfl
theorem fresh_end {l : List Int} {k : Nat} {bay : Int} {L : List I2} (hk : ¬ k < l.length) : freshF bay L (l.drop k) = true := by
  rw [List.drop_eq_nil_of_le (by omega)]; rfl
theorem map_snoc {α β : Type} {l : List α} {k : Nat} {x : α} (f : α → β) (hy : l[k]? = some x) : (l.take (k + 1)).map f = (l.take k).map f ++ [f x] := by
  obtain ⟨hk, rfl⟩ := List.getElem?_eq_some_iff.1 hy
  rw [List.take_succ_eq_append_getElem hk, List.map_append]; rfl
theorem fi_ge (o : Option Nat) : (!decide (fiN o < 0)) = o.isSome := by
  cases o with
  | none => rfl
  | some k =>
    have h0 : ¬ (((k : Nat) : Int) < 0) := by omega
    show (!decide (((k : Nat) : Int) < 0)) = true
    rw [decide_eq_false h0]; rfl
def OutRL {α : Type} (cells : α → List Value) (W0 : Base) (K : List (Nat × Obj)) (l : List α) (v : Value) (K' : List (Nat × Obj)) : Prop :=
  ∃ p c Kl, v = .slice p l.length c ∧ l.length ≤ c ∧ RL cells W0 p l Kl ∧ (∀ p ∈ K, ∀ q ∈ Kl, q.1 ≠ p.1) ∧ K' = K ++ Kl
theorem OutRL.sub {α : Type} {cells : α → List Value} {W0 : Base} {K K' : List (Nat × Obj)} {l : List α} {v : Value} (h : OutRL cells W0 K l v K') : ∀ p ∈ K, p ∈ K' := by
  obtain ⟨_, _, _, _, _, _, _, rfl⟩ := h
  exact fun p hp => List.mem_append_left _ hp
def OutOL (W0 : Base) (K : List (Nat × Obj)) (E : TypeId) (sz n : Nat) (xs : List Value) (v : Value) (K' : List (Nat × Obj)) : Prop :=
  ∃ Kl, OwnL W0 E sz v n xs Kl ∧ (∀ p ∈ K, ∀ q ∈ Kl, q.1 ≠ p.1) ∧ K' = K ++ Kl
section
variable {P : Program} {W0 : Base} {K : List (Nat × Obj)} {W : World} {E : TypeId} {sz n : Nat} {f : FuncId} {args : Array Value}
theorem calls_r {α : Type} {cells : α → List Value} {l : List α} (hW : KS W0 K W) (h : Calls P f args W fun e w' => ∃ v, e = .returned v ∧ OutV W w' E sz v l.length (l.flatMap cells) ∧ Below W.heap.size W w') :
    Calls P f args W fun e w' => ∃ v K', e = .returned v ∧ KS W0 K' w' ∧ OutRL cells W0 K l v K' :=
  (calls_rl hW h).mono fun _ _ ⟨v, K', he, hk, p, c, Kl, hv, hn, hR, hd, hK⟩ => ⟨v, K', he, hk, p, c, Kl, hv, hn, hR, hd, hK⟩
theorem calls_o {xs : List Value} (hW : KS W0 K W) (h : Calls P f args W fun e w' => ∃ v, e = .returned v ∧ OutV W w' E sz v n xs ∧ Below W.heap.size W w') :
    Calls P f args W fun e w' => ∃ v K', e = .returned v ∧ KS W0 K' w' ∧ OutOL W0 K E sz n xs v K' :=
  h.mono fun e w' ⟨v, he, hO, hb⟩ => by
    obtain ⟨Kl, h1, h2, h3⟩ := hO.own hW hb
    exact ⟨v, _, he, h3, Kl, h1, h2, rfl⟩
end
theorem tall_start {cs : List Col} {y : Col} (h : cs[0]? = some y) : tallX cs = tallF y.tiers (cs.drop 0) := by
  cases cs with
  | nil => cases h
  | cons c cs =>
    cases h
    show tallF y.tiers cs = tallF (max y.tiers y.tiers) cs
    rw [Int.max_self]
theorem tall_end {cs : List Col} {k : Nat} {m : Int} (hk : ¬ k < cs.length) : tallF m (cs.drop k) = m := by rw [List.drop_eq_nil_of_le (by omega)]; rfl
theorem tiers_end {cs : List Col} {k : Nat} {m : Int} (hk : ¬ k < cs.length) : tiersF m (cs.drop k) = m := by rw [List.drop_eq_nil_of_le (by omega)]; rfl
theorem out_nil {w w' : World} {E : TypeId} {sz : Nat} {l : List Int} (h : l = []) : OutV w w' E sz (.slice none 0 0) l.length (l.flatMap inC) := by subst h; exact .inl ⟨rfl, rfl, rfl⟩
theorem own_snoc {W0 : Base} {E : TypeId} {v : Value} {n : Nat} {l l' : List Int} {k : Int} {K : List (Nat × Obj)} (h : OwnL W0 E 1 v n (l.flatMap inC ++ [.int .i64 k]) K) (e : l' = l ++ [k]) : OwnL W0 E 1 v n (l'.flatMap inC) K := by
  subst e; rw [List.flatMap_append]; exact h
theorem rgC_one (r : Rg) : ∀ v ∈ rgC r, v.oneCell' = true := fun v hv => by
  unfold rgC at hv
  simp only [List.mem_cons, List.not_mem_nil, or_false] at hv
  rcases hv with rfl | rfl | rfl <;> rfl
def ShipT (W0 : Base) (cs : List Col) (ov : List (Int × List Int)) (v : Value) (T : List (Nat × Obj)) : Prop :=
  ∃ pc cc os po co, v = .agg (shC (.slice pc cs.length cc) (.slice po os.length co) tl0).toArray ∧ cs.length ≤ cc ∧ os.length ≤ co ∧ RL colC W0 pc cs T ∧ RL covC W0 po os T ∧ (∀ W, KS W0 T W → RwR W os) ∧ os.map (fun o => (o.bay, o.rows)) = ov
def exCs : List Col := [⟨0, 0, false, 2, 0, 0, 0, 0, [], none, 0, 0, 0, 0⟩, ⟨0, 1, false, 2, 0, 0, 0, 0, [], none, 0, 0, 0, 0⟩, ⟨0, 0, true, 3, 0, 0, 0, 0, [], none, 0, 0, 0, 0⟩, ⟨0, 1, true, 3, 0, 0, 0, 0, [], none, 0, 0, 0, 0⟩, ⟨1, 1, true, 4, 0, 0, 0, 0, [], none, 0, 0, 0, 0⟩]
theorem one_cov {os : List Cov} {b : Int} {l : List Int} (h : os.map (fun o => (o.bay, o.rows)) = [(b, l)]) : ∃ p c, os = [⟨b, l, p, c⟩] := by
  rcases os with _ | ⟨o, _ | ⟨o2, os⟩⟩
  · cases h
  · obtain ⟨a, r, p, c⟩ := o
    simp at h
    obtain ⟨rfl, rfl⟩ := h
    exact ⟨p, c, rfl⟩
  · simp at h
theorem plr_nil {W : World} {cs : List Col} (h : ∀ c ∈ cs, c.plugs = []) : PlR W cs := fun c hc => by rw [h c hc]; exact .inl rfl
theorem shC_one {p q : Option Addr} {n c m d : Nat} : ∀ v ∈ shC (.slice p n c) (.slice q m d) tl0, v.oneCell' = true := fun v hv => by
  unfold shC tl0 at hv
  simp only [List.mem_cons, List.not_mem_nil, or_false] at hv
  rcases hv with rfl | rfl | rfl | rfl | rfl | rfl | rfl | rfl | rfl | rfl | rfl | rfl | rfl <;> rfl
end Go.Proofs.YthpooalhibedpaaDoor
namespace Go.Proofs.YthpooalhibedpaaDoor
open Go Go.RowKit Tw
end Go.Proofs.YthpooalhibedpaaDoor
namespace Go.Proofs.YthpooalhibedpaaDoor
open Go Go.RowKit Tw
set_option maxRecDepth 100000 in
set_option maxHeartbeats 4000000 in
theorem Find1_any (c : Col) (bay row : Int) (deck : Bool) (g1 g2 g3 : Nat) (w : World) (h1 : CapR w g1 [.int .i64 bay]) (h2 : CapR w g2 [.int .i64 row]) (h3 : CapR w g3 [.bool deck]) : Calls Tryd.prog 107 #[.agg (colC c).toArray, .pointer (some ⟨g1, 0, none⟩), .pointer (some ⟨g2, 0, none⟩), .pointer (some ⟨g3, 0, none⟩)] w fun e w' => e = .returned (.bool (isAt bay row deck c)) ∧ Below w.heap.size w w' := by
  have H1 := Lib.hid h1
  clear h1
  have H2 := Lib.hid h2
  clear h2
  have H3 := Lib.hid h3
  clear h3
  go_enter Tryd.func107, Tryd.ntmps107
  refine wp_seq ?_
  refine wp_region_L (W0 := w) [] (KS.start w) ?_
  refine wpL_new (fun g => .pointer (some ⟨g, 0, none⟩)) (obi := .cells (colC c).toArray 65 (0, 0)) rfl rfl (fun _ => by kernel_rfl) (fun _ => by simp only [List.setIfInBounds_toArray, List.set_cons_succ, List.set_cons_zero] <;> rfl) fun g21 Bg21 Fg21 => ?_
  refine lm (v := .bool false) rfl rfl ?_
  refine wpL_done (fun W1 hW1 => ?_)
  refine (show Code.wp _ _ _ _ _ from ?_)
  refine wp_seq ?_
  refine wp_region_L (W0 := w) [(g21, .cells (colC c).toArray 65 (0, 0))] (hW1) ?_
  refine lm (v := .pointer (some ⟨g21, 0, none⟩)) rfl rfl ?_
  refine lv (v := .int .i64 c.bay) rfl rfl (yb_cell (off := 0) rfl (by kernel_rfl) (.head _) Tryd.underlying3 rfl (by kernel_rfl)) ?_
  refine lv (v := .int .i64 bay) rfl rfl (yb_rf (v := .int .i64 bay) rfl (by kernel_rfl) (fun W hW => ((H1.out).keep hW.1).2 0 _ rfl) Tryd.underlying3 rfl) ?_
  refine lp (v := .bool (decide (c.bay = bay))) rfl rfl (run_bin rfl (vx := (.int .i64 c.bay)) (vy := (.int .i64 bay)) (by kernel_rfl) (by kernel_rfl) fun w => bi_eql rfl w) ?_
  refine lm (v := .bool (decide (c.bay = bay))) rfl rfl ?_
  cases hd1 : (decide (c.bay = bay)) with
  | false =>
    have h1 : ¬ (c.bay = bay) := of_decide_eq_false hd1
    clear hd1
    refine ln rfl ?_
    refine ln rfl ?_
    refine ln rfl ?_
    refine ln rfl ?_
    refine lm (v := .bool false) rfl rfl ?_
    refine lm (v := .bool false) rfl rfl ?_
    refine ln rfl ?_
    refine ln rfl ?_
    refine ln rfl ?_
    refine ln rfl ?_
    refine lm (v := .bool false) rfl rfl ?_
    refine lm (v := .bool false) rfl rfl ?_
    refine wpL_done (fun W2 hW2 => ?_)
    refine (show Code.wp _ _ _ _ _ from ?_)
    refine wp_ret ?_
    try simp only [inBlock_ret, then_ret]
    refine bodyPost_ret (v := .bool false) ?_ rfl ?_
    · kernel_rfl
    · exact ⟨(bool_is (by unfold isAt; simp [*])), hW2.1⟩
  | true =>
    have h1 : c.bay = bay := of_decide_eq_true hd1
    clear hd1
    refine lm (v := .pointer (some ⟨g21, 1, none⟩)) rfl rfl ?_
    refine lv (v := .int .i64 c.row) rfl rfl (yb_cell (off := 1) rfl (by kernel_rfl) (.head _) Tryd.underlying3 rfl (by kernel_rfl)) ?_
    refine lv (v := .int .i64 row) rfl rfl (yb_rf (v := .int .i64 row) rfl (by kernel_rfl) (fun W hW => ((H2.out).keep hW.1).2 0 _ rfl) Tryd.underlying3 rfl) ?_
    refine lp (v := .bool (decide (c.row = row))) rfl rfl (run_bin rfl (vx := (.int .i64 c.row)) (vy := (.int .i64 row)) (by kernel_rfl) (by kernel_rfl) fun w => bi_eql rfl w) ?_
    refine lm (v := .bool (decide (c.row = row))) rfl rfl ?_
    refine lm (v := .bool (decide (c.row = row))) rfl rfl ?_
    cases hd2 : (decide (c.row = row)) with
    | false =>
      have h2 : ¬ (c.row = row) := of_decide_eq_false hd2
      clear hd2
      refine ln rfl ?_
      refine ln rfl ?_
      refine ln rfl ?_
      refine ln rfl ?_
      refine lm (v := .bool false) rfl rfl ?_
      refine lm (v := .bool false) rfl rfl ?_
      refine wpL_done (fun W3 hW3 => ?_)
      refine (show Code.wp _ _ _ _ _ from ?_)
      refine wp_ret ?_
      try simp only [inBlock_ret, then_ret]
      refine bodyPost_ret (v := .bool false) ?_ rfl ?_
      · kernel_rfl
      · exact ⟨(bool_is (by unfold isAt; simp [*])), hW3.1⟩
    | true =>
      have h2 : c.row = row := of_decide_eq_true hd2
      clear hd2
      refine lm (v := .pointer (some ⟨g21, 2, none⟩)) rfl rfl ?_
      refine lv (v := .bool c.deck) rfl rfl (yb_cell (off := 2) rfl (by kernel_rfl) (.head _) Tryd.underlying4 rfl (by kernel_rfl)) ?_
      refine lv (v := .bool deck) rfl rfl (yb_rf (v := .bool deck) rfl (by kernel_rfl) (fun W hW => ((H3.out).keep hW.1).2 0 _ rfl) Tryd.underlying4 rfl) ?_
      refine lp (v := .bool (c.deck == deck)) rfl rfl (run_bin rfl (vx := .bool c.deck) (vy := .bool deck) (by kernel_rfl) (by kernel_rfl) fun w => bn_bool_eql rfl Tryd.underlying4 w) ?_
      refine lm (v := .bool (c.deck == deck)) rfl rfl ?_
      refine lm (v := .bool (c.deck == deck)) rfl rfl ?_
      refine wpL_done (fun W4 hW4 => ?_)
      refine (show Code.wp _ _ _ _ _ from ?_)
      refine wp_ret ?_
      try simp only [inBlock_ret, then_ret]
      refine bodyPost_ret (v := .bool (c.deck == deck)) ?_ rfl ?_
      · kernel_rfl
      · exact ⟨(bool_is (by unfold isAt; simp [*])), hW4.1⟩
set_option maxRecDepth 100000 in
set_option maxHeartbeats 4000000 in
theorem IndexFunc_col (l : List Col) (p : Option Addr) (c : Nat) (hl : l.length ≤ 4000000000) (fv : FuncId) (caps : Array Value) (P : Col → Bool) (A : Col → Array Value) (hA : ∀ y, A y = #[.agg (colC y).toArray] ++ caps) (hcf : ∀ args w, (callFunc fv args).run Tryd.prog w = .ok (.enter fv args) w) (w : World) (hp : SLV w p (l.flatMap colC)) (hf : ∀ W, Below w.heap.size w W → ∀ y ∈ l, Calls Tryd.prog fv (A y) W fun e w' => e = .returned (.bool (P y)) ∧ Below W.heap.size W w') : Calls Tryd.prog 106 #[.slice p l.length c, .func (.func fv) #[] caps] w fun e w' => e = .returned (.int .i64 (fiN (fst P l))) ∧ Below w.heap.size w w' := by
  have HP := Lib.hid hp
  clear hp
  go_enter Tryd.func106, Tryd.ntmps106
  refine wp_seq ?_
  refine wp_region_L (W0 := w) [] (KS.start w) ?_
  refine lm (v := .int .i64 0) rfl rfl ?_
  refine wpL_done (fun W1 hW1 => ?_)
  refine (show Code.wp _ _ _ _ _ from ?_)
  refine wp_seq ?_
  refine wp_seq ?_
  refine wp_region_L (W0 := w) [] (hW1) ?_
  refine lm (v := .slice p l.length c) rfl rfl ?_
  refine lp (v := .int .i64 ((l.length : Nat) : Int)) rfl rfl (run_lenL (p := p) (cap := c) (n := l.length) rfl Tryd.underlying22 (by kernel_rfl)) ?_
  refine lm (v := .int .i64 0) rfl rfl ?_
  refine wpL_done (fun W2 hW2 => ?_)
  refine (show Code.wp _ _ _ _ _ from ?_)
  refine wp_block ?_
  go_loopw [8] (fun u8 wr => ∃ (k : Nat), (k ≤ l.length) ∧ (fstF P 0 (l.take k) = none) ∧ u8 = .int .i64 ((k : Nat) : Int) ∧ KS w [] wr) (fun u8 _ => l.length - (intOf u8).toNat)
  case atStart => exact ⟨0, (Nat.zero_le _), fst_zero, rfl, (hW2.sub (fun p hp => by first | exact hp | (simp only [List.mem_cons, List.mem_append, List.nil_append, List.not_mem_nil, or_assoc, or_false, false_or] at hp ⊢ <;> grind)))⟩
  case round =>
    obtain ⟨k, hk, hF, rfl, hL3⟩ := hrel
    refine wp_seq ?_
    refine wp_region_L (W0 := w) [] (hL3) ?_
    refine lp (v := .bool (decide (k < l.length))) rfl rfl (run_bin rfl (vx := (.int .i64 ((k : Nat) : Int))) (vy := (.int .i64 ((l.length : Nat) : Int))) (by kernel_rfl) (by kernel_rfl) fun w => bn_lss rfl w) ?_
    refine wpL_done (fun W4 hW4 => ?_)
    refine (show Code.wp _ _ _ _ _ from ?_)
    refine wp_seq ?_
    cases hd1 : (decide (k < l.length)) with
    | false =>
      have h1 : ¬ (k < l.length) := of_decide_eq_false hd1
      clear hd1
      refine wp_cond_false rfl ?_
      refine wp_exit ?_
      refine (show Code.wp _ _ _ _ _ from ?_)
      refine wp_seq ?_
      refine wp_region_L (W0 := w) [] (hW4) ?_
      refine lm (v := .int .i64 (-1)) rfl rfl ?_
      refine wpL_done (fun W5 hW5 => ?_)
      refine (show Code.wp _ _ _ _ _ from ?_)
      refine wp_ret ?_
      try simp only [inBlock_ret, then_ret]
      refine bodyPost_ret (v := .int .i64 (-1)) ?_ rfl ?_
      · kernel_rfl
      · exact ⟨(int_is (by rw [fst_end hF h1]; rfl)), hW5.1⟩
    | true =>
      have h1 : k < l.length := of_decide_eq_true hd1
      clear hd1
      refine wp_cond_true rfl ?_
      refine wp_skip ?_
      refine (show Code.wp _ _ _ _ _ from ?_)
      refine wp_seq ?_
      refine wp_block ?_
      refine wp_seq ?_
      refine wp_region_L (W0 := w) [] (hW4) ?_
      refine lm (v := .int .i64 ((k : Nat) : Int)) rfl rfl ?_
      refine lm (v := .int .i64 ((k : Nat) : Int)) rfl rfl ?_
      refine wpL_done (fun W6 hW6 => ?_)
      refine (show Code.wp _ _ _ _ _ from ?_)
      refine wp_seq ?_
      refine wp_region_L (W0 := w) [] (hW6) ?_
      refine lm (v := .func (.func fv) #[] caps) rfl rfl ?_
      refine lm (v := .slice p l.length c) rfl rfl ?_
      refine lm (v := .int .i64 ((k : Nat) : Int)) rfl rfl ?_
      obtain ⟨y1, g1_, f1_, hy1, hp1, hc1⟩ := RL.at (RL.base HP.out) colC_len (by decide) (hW6.sub (fun _ h => by cases h)) (k := k) (by omega)
      refine lp (v := .pointer (some ⟨g1_, f1_ + k * 12, none⟩)) rfl rfl (run_idxQ (p := p) (cap := c) (n := l.length) (j := .i64) (k := k) (sz := 12) rfl Tryd.underlying22 (by kernel_rfl) (by kernel_rfl) hp1 (by kernel_rfl) (by omega)) ?_
      refine lv (v := .agg (colC y1).toArray) rfl rfl (yb_rs (off := f1_ + k * 12) (cs := colC y1) rfl (by kernel_rfl) (fun W hW => hc1 W (hW.sub (fun _ h => by cases h))) Tryd.underlying65 rfl (by kernel_rfl)) ?_
      refine lv (v := .bool (P y1)) rfl rfl (yb_call (f := fv) (args := A y1) (fun w => (run_callv rfl (by kernel_rfl) (by kernel_rfl) hcf w).trans (by rw [← hA])) fun W hW => hf W hW.1 y1 (List.mem_of_getElem? hy1)) ?_
      refine wpL_done (fun W7 hW7 => ?_)
      refine (show Code.wp _ _ _ _ _ from ?_)
      cases h2 : (P y1) with
      | false =>
        refine wp_cond_false rfl ?_
        refine wp_skip ?_
        refine (show Code.wp _ _ _ _ _ from ?_)
        refine wp_region_L (W0 := w) [] (hW7) ?_
        refine lp (v := .int .i64 (((k + 1) : Nat) : Int)) rfl rfl (run_bin rfl (vx := (.int .i64 ((k : Nat) : Int))) (vy := (.int .i64 ((1 : Nat) : Int))) (by kernel_rfl) (by kernel_rfl) fun w => bn_add (z := (k + 1)) rfl (wr_i64 (by omega)) w) ?_
        refine lm (v := .int .i64 (((k + 1) : Nat) : Int)) rfl rfl ?_
        refine wpL_done (fun W8 hW8 => ?_)
        go_roundw
        case rel =>
          repeat apply Exists.intro
          exact ⟨⟨k + 1, (by omega), (fst_next hF hy1 h2), rfl, (hW8.sub (fun p hp => by first | exact hp | (simp only [List.mem_cons, List.mem_append, List.nil_append, List.not_mem_nil, or_assoc, or_false, false_or] at hp ⊢ <;> grind)))⟩, rfl⟩
        case measure => (show l.length - (intOf (.int .i64 (((k + 1) : Nat) : Int))).toNat < l.length - (intOf (.int .i64 ((k : Nat) : Int))).toNat); simp only [intOf]; omega
      | true =>
        refine wp_cond_true rfl ?_
        refine wp_seq ?_
        refine wp_region_L (W0 := w) [] (hW7) ?_
        refine lm (v := .int .i64 ((k : Nat) : Int)) rfl rfl ?_
        refine lm (v := .int .i64 ((k : Nat) : Int)) rfl rfl ?_
        refine wpL_done (fun W9 hW9 => ?_)
        refine (show Code.wp _ _ _ _ _ from ?_)
        refine wp_ret ?_
        try simp only [inBlock_ret, then_ret]
        refine bodyPost_ret (v := .int .i64 ((k : Nat) : Int)) ?_ rfl ?_
        · kernel_rfl
        · exact ⟨(int_is (by rw [fst_here hF hy1 h2]; rfl)), hW9.1⟩
theorem fi_none {o : Option Nat} (h : fiN o < 0) : o = none ∧ True := by
  cases o with
  | none => exact ⟨rfl, trivial⟩
  | some k => simp [fiN] at h; omega
theorem fi_some {o : Option Nat} (h : ¬ (fiN o < 0)) : findN o = fiN o ∧ o.isSome = true := by
  cases o with
  | none => simp [fiN] at h
  | some k => exact ⟨rfl, rfl⟩
set_option maxRecDepth 100000 in
set_option maxHeartbeats 4000000 in
theorem Find_any (cs : List Col) (pc : Option Addr) (cc : Nat) (lc : cs.length ≤ 4000000000) (os : List Cov) (po : Option Addr) (co : Nat) (lo : os.length ≤ 4000000000) (t : Tl) (bay row : Int) (deck : Bool) (w : World) (hc : SLV w pc (cs.flatMap colC)) (ho : SLV w po (os.flatMap covC)) : Calls Tryd.prog 70 #[.agg (shC (.slice pc cs.length cc) (.slice po os.length co) t).toArray, .int .i64 bay, .int .i64 row, .bool deck] w fun e w' => e = .returned (.tuple #[.int .i64 (findN (fst (isAt bay row deck) cs)), .bool (fst (isAt bay row deck) cs).isSome]) ∧ Below w.heap.size w w' := by
  have HC := Lib.hid hc
  clear hc
  have HO := Lib.hid ho
  clear ho
  go_enter Tryd.func70, Tryd.ntmps70
  refine wp_seq ?_
  refine wp_region_L (W0 := w) [] (KS.start w) ?_
  refine wpL_new (fun g => .pointer (some ⟨g, 0, none⟩)) (obi := .cells (shC (.slice pc cs.length cc) (.slice po os.length co) t).toArray 32 (0, 0)) rfl rfl (fun _ => by kernel_rfl) (fun _ => by simp only [List.setIfInBounds_toArray, List.set_cons_succ, List.set_cons_zero] <;> rfl) fun g1 Bg1 Fg1 => ?_
  refine wpL_new (fun g => .pointer (some ⟨g, 0, none⟩)) (obi := .cells #[.int .i64 bay] 3 (0, 0)) rfl rfl (fun _ => by kernel_rfl) (fun _ => by simp only [List.setIfInBounds_toArray, List.set_cons_succ, List.set_cons_zero] <;> rfl) fun g2 Bg2 Fg2 => ?_
  obtain dj3_0 : g1 ≠ g2 := by simpa only [dj_app_l, dj_app_r, dj_cons_l, dj_cons_r, dj_nil_l, dj_nil_r, dk_app, dk_cons, dk_nil, and_true, true_and, and_assoc] using (show Dk g2 [(g1, .cells (shC (.slice pc cs.length cc) (.slice po os.length co) t).toArray 32 (0, 0))] from Fg2)
  refine wpL_new (fun g => .pointer (some ⟨g, 0, none⟩)) (obi := .cells #[.int .i64 row] 3 (0, 0)) rfl rfl (fun _ => by kernel_rfl) (fun _ => by simp only [List.setIfInBounds_toArray, List.set_cons_succ, List.set_cons_zero] <;> rfl) fun g4 Bg4 Fg4 => ?_
  obtain ⟨dj5_0, dj5_1⟩ : g2 ≠ g4 ∧ g1 ≠ g4 := by simpa only [dj_app_l, dj_app_r, dj_cons_l, dj_cons_r, dj_nil_l, dj_nil_r, dk_app, dk_cons, dk_nil, and_true, true_and, and_assoc] using (show Dk g4 [(g2, .cells #[.int .i64 bay] 3 (0, 0)), (g1, .cells (shC (.slice pc cs.length cc) (.slice po os.length co) t).toArray 32 (0, 0))] from Fg4)
  refine wpL_new (fun g => .pointer (some ⟨g, 0, none⟩)) (obi := .cells #[.bool deck] 4 (0, 0)) rfl rfl (fun _ => by kernel_rfl) (fun _ => by simp only [List.setIfInBounds_toArray, List.set_cons_succ, List.set_cons_zero] <;> rfl) fun g6 Bg6 Fg6 => ?_
  obtain ⟨dj7_0, dj7_1, dj7_2⟩ : g4 ≠ g6 ∧ g2 ≠ g6 ∧ g1 ≠ g6 := by simpa only [dj_app_l, dj_app_r, dj_cons_l, dj_cons_r, dj_nil_l, dj_nil_r, dk_app, dk_cons, dk_nil, and_true, true_and, and_assoc] using (show Dk g6 [(g4, .cells #[.int .i64 row] 3 (0, 0)), (g2, .cells #[.int .i64 bay] 3 (0, 0)), (g1, .cells (shC (.slice pc cs.length cc) (.slice po os.length co) t).toArray 32 (0, 0))] from Fg6)
  refine lm (v := .int .i64 0) rfl rfl ?_
  refine lm (v := .bool false) rfl rfl ?_
  refine wpL_done (fun W1 hW1 => ?_)
  refine (show Code.wp _ _ _ _ _ from ?_)
  refine wp_seq ?_
  refine wp_region_L (W0 := w) [(g6, .cells #[.bool deck] 4 (0, 0)), (g4, .cells #[.int .i64 row] 3 (0, 0)), (g2, .cells #[.int .i64 bay] 3 (0, 0)), (g1, .cells (shC (.slice pc cs.length cc) (.slice po os.length co) t).toArray 32 (0, 0))] (hW1) ?_
  refine lm (v := .pointer (some ⟨g1, 0, none⟩)) rfl rfl ?_
  refine lv (v := .slice pc cs.length cc) rfl rfl (yb_cell (off := 0) rfl (by kernel_rfl) (.tail _ (.tail _ (.tail _ (.head _)))) Tryd.underlying22 rfl (by kernel_rfl)) ?_
  refine lm (v := .func (.func 107) #[] #[.pointer (some ⟨g2, 0, none⟩), .pointer (some ⟨g4, 0, none⟩), .pointer (some ⟨g6, 0, none⟩)]) rfl rfl ?_
  refine lv (v := .int .i64 (fiN (fst (isAt bay row deck) cs))) rfl rfl (yb_call (f := 106) (args := #[.slice pc cs.length cc, .func (.func 107) #[] #[.pointer (some ⟨g2, 0, none⟩), .pointer (some ⟨g4, 0, none⟩), .pointer (some ⟨g6, 0, none⟩)]]) (fun _ => by kernel_rfl) fun W hW => IndexFunc_col cs pc cc (by omega) 107 #[.pointer (some ⟨g2, 0, none⟩), .pointer (some ⟨g4, 0, none⟩), .pointer (some ⟨g6, 0, none⟩)] (isAt bay row deck) (fun y => #[.agg (colC y).toArray, .pointer (some ⟨g2, 0, none⟩), .pointer (some ⟨g4, 0, none⟩), .pointer (some ⟨g6, 0, none⟩)]) (fun _ => by kernel_rfl) (fun _ _ => by kernel_rfl) W ((RL.base HC.out) _ (hW.sub (fun _ h => by cases h))) (fun W2 hb y hm => Find1_any y bay row deck g2 g4 g6 W2 ((CapR.of hW (.tail _ (.tail _ (.head _)))).keep hb) ((CapR.of hW (.tail _ (.head _))).keep hb) ((CapR.of hW (.head _)).keep hb))) ?_
  refine lm (v := .int .i64 (fiN (fst (isAt bay row deck) cs))) rfl rfl ?_
  refine wpL_done (fun W2 hW2 => ?_)
  refine (show Code.wp _ _ _ _ _ from ?_)
  refine wp_seq ?_
  refine wp_seq ?_
  refine wp_region_L (W0 := w) [(g6, .cells #[.bool deck] 4 (0, 0)), (g4, .cells #[.int .i64 row] 3 (0, 0)), (g2, .cells #[.int .i64 bay] 3 (0, 0)), (g1, .cells (shC (.slice pc cs.length cc) (.slice po os.length co) t).toArray 32 (0, 0))] (hW2) ?_
  refine lm (v := .int .i64 (fiN (fst (isAt bay row deck) cs))) rfl rfl ?_
  refine lp (v := .bool (decide ((fiN (fst (isAt bay row deck) cs)) < 0))) rfl rfl (run_bin rfl (vx := (.int .i64 (fiN (fst (isAt bay row deck) cs)))) (vy := (.int .i64 0)) (by kernel_rfl) (by kernel_rfl) fun w => bi_lss rfl w) ?_
  refine wpL_done (fun W3 hW3 => ?_)
  refine (show Code.wp _ _ _ _ _ from ?_)
  cases hd1 : (decide ((fiN (fst (isAt bay row deck) cs)) < 0)) with
  | false =>
    have h1 : ¬ ((fiN (fst (isAt bay row deck) cs)) < 0) := of_decide_eq_false hd1
    clear hd1
    obtain ⟨h8, h9⟩ := fi_some h1
    refine wp_cond_false rfl ?_
    refine wp_skip ?_
    refine (show Code.wp _ _ _ _ _ from ?_)
    refine wp_seq ?_
    refine wp_region_L (W0 := w) [(g6, .cells #[.bool deck] 4 (0, 0)), (g4, .cells #[.int .i64 row] 3 (0, 0)), (g2, .cells #[.int .i64 bay] 3 (0, 0)), (g1, .cells (shC (.slice pc cs.length cc) (.slice po os.length co) t).toArray 32 (0, 0))] (hW3) ?_
    refine lm (v := .int .i64 (fiN (fst (isAt bay row deck) cs))) rfl rfl ?_
    refine lm (v := .int .i64 (fiN (fst (isAt bay row deck) cs))) rfl rfl ?_
    refine lm (v := .bool true) rfl rfl ?_
    refine wpL_done (fun W4 hW4 => ?_)
    refine (show Code.wp _ _ _ _ _ from ?_)
    refine wp_ret ?_
    try simp only [inBlock_ret, then_ret]
    refine bodyPost_ret (v := .tuple #[.int .i64 (fiN (fst (isAt bay row deck) cs)), .bool true]) ?_ rfl ?_
    · kernel_rfl
    · exact ⟨(by rw [h8]; first | rfl | (rw [h9])), hW4.1⟩
  | true =>
    have h1 : (fiN (fst (isAt bay row deck) cs)) < 0 := of_decide_eq_true hd1
    clear hd1
    obtain ⟨h8, h9⟩ := fi_none h1
    refine wp_cond_true rfl ?_
    refine wp_seq ?_
    refine wp_region_L (W0 := w) [(g6, .cells #[.bool deck] 4 (0, 0)), (g4, .cells #[.int .i64 row] 3 (0, 0)), (g2, .cells #[.int .i64 bay] 3 (0, 0)), (g1, .cells (shC (.slice pc cs.length cc) (.slice po os.length co) t).toArray 32 (0, 0))] (hW3) ?_
    refine lm (v := .int .i64 0) rfl rfl ?_
    refine lm (v := .bool false) rfl rfl ?_
    refine wpL_done (fun W5 hW5 => ?_)
    refine (show Code.wp _ _ _ _ _ from ?_)
    refine wp_ret ?_
    try simp only [inBlock_ret, then_ret]
    refine bodyPost_ret (v := .tuple #[.int .i64 0, .bool false]) ?_ rfl ?_
    · kernel_rfl
    · exact ⟨(by rw [h8]; first | rfl | (rw [h9])), hW5.1⟩
end Go.Proofs.YthpooalhibedpaaDoor
namespace Go.Proofs.YthpooalhibedpaaDoor
open Go Go.RowKit Tw
theorem lr_el {os : List Cov} (h : ∀ o ∈ os, o.rows.length ≤ 4000000000) (n : Int) : (elC cov0 os n).rows.length ≤ 4000000000 := by
  unfold elC
  split
  · exact Nat.zero_le _
  · cases hy : os[n.toNat]? with
    | none => exact Nat.zero_le _
    | some y => exact h y (List.mem_of_getElem? hy)
end Go.Proofs.YthpooalhibedpaaDoor
namespace Go.Proofs.YthpooalhibedpaaDoor
open Go Go.RowKit Tw
end Go.Proofs.YthpooalhibedpaaDoor
namespace Go.Proofs.YthpooalhibedpaaDoor
open Go Go.RowKit Tw
set_option maxRecDepth 100000 in
set_option maxHeartbeats 4000000 in
theorem Within_any (l : List Rg) (p : Option Addr) (c : Nat) (hl : l.length ≤ 4000000000) (w : World) (hp : SLV w p (l.flatMap rgC)) : Calls Tryd.prog 115 #[.slice p l.length c] w fun e w' => e = .returned (.bool (rgsX l)) ∧ Below w.heap.size w w' := by
  have HP := Lib.hid hp
  clear hp
  go_enter Tryd.func115, Tryd.ntmps115
  refine wp_seq ?_
  refine wp_region_L (W0 := w) [] (KS.start w) ?_
  refine lm (v := .bool false) rfl rfl ?_
  refine wpL_done (fun W1 hW1 => ?_)
  refine (show Code.wp _ _ _ _ _ from ?_)
  refine wp_seq ?_
  refine wp_seq ?_
  refine wp_region_L (W0 := w) [] (hW1) ?_
  refine lm (v := .slice p l.length c) rfl rfl ?_
  refine lp (v := .int .i64 ((l.length : Nat) : Int)) rfl rfl (run_lenL (p := p) (cap := c) (n := l.length) rfl Tryd.underlying166 (by kernel_rfl)) ?_
  refine lm (v := .int .i64 0) rfl rfl ?_
  refine wpL_done (fun W2 hW2 => ?_)
  refine (show Code.wp _ _ _ _ _ from ?_)
  refine wp_block ?_
  go_loopw [7] (fun u7 wr => ∃ (k : Nat), (k ≤ l.length) ∧ (rgsX l = rgsX (l.drop k)) ∧ u7 = .int .i64 ((k : Nat) : Int) ∧ KS w [] wr) (fun u7 _ => l.length - (intOf u7).toNat)
  case atStart => exact ⟨0, (Nat.zero_le _), rfl, rfl, (hW2.sub (fun p hp => by first | exact hp | (simp only [List.mem_cons, List.mem_append, List.nil_append, List.not_mem_nil, or_assoc, or_false, false_or] at hp ⊢ <;> grind)))⟩
  case round =>
    obtain ⟨k, hk, hR, rfl, hL3⟩ := hrel
    refine wp_seq ?_
    refine wp_region_L (W0 := w) [] (hL3) ?_
    refine lp (v := .bool (decide (k < l.length))) rfl rfl (run_bin rfl (vx := (.int .i64 ((k : Nat) : Int))) (vy := (.int .i64 ((l.length : Nat) : Int))) (by kernel_rfl) (by kernel_rfl) fun w => bn_lss rfl w) ?_
    refine wpL_done (fun W4 hW4 => ?_)
    refine (show Code.wp _ _ _ _ _ from ?_)
    refine wp_seq ?_
    cases hd1 : (decide (k < l.length)) with
    | false =>
      have h1 : ¬ (k < l.length) := of_decide_eq_false hd1
      clear hd1
      refine wp_cond_false rfl ?_
      refine wp_exit ?_
      refine (show Code.wp _ _ _ _ _ from ?_)
      refine wp_seq ?_
      refine wp_region_L (W0 := w) [] (hW4) ?_
      refine lm (v := .bool true) rfl rfl ?_
      refine wpL_done (fun W5 hW5 => ?_)
      refine (show Code.wp _ _ _ _ _ from ?_)
      refine wp_ret ?_
      try simp only [inBlock_ret, then_ret]
      refine bodyPost_ret (v := .bool true) ?_ rfl ?_
      · kernel_rfl
      · exact ⟨(bool_is (by rw [hR, rgs_end h1])), hW5.1⟩
    | true =>
      have h1 : k < l.length := of_decide_eq_true hd1
      clear hd1
      refine wp_cond_true rfl ?_
      refine wp_skip ?_
      refine (show Code.wp _ _ _ _ _ from ?_)
      refine wp_seq ?_
      refine wp_block ?_
      refine wp_seq ?_
      refine wp_region_L (W0 := w) [] (hW4) ?_
      obtain ⟨y1, g1_, f1_, hy1, hp1, hc1⟩ := RL.at (RL.base HP.out) rgC_len (by decide) (hW4.sub (fun _ h => by cases h)) (k := k) (by omega)
      refine lp (v := .pointer (some ⟨g1_, f1_ + k * 3, none⟩)) rfl rfl (run_idxQ (p := p) (cap := c) (n := l.length) (j := .i64) (k := k) (sz := 3) rfl Tryd.underlying166 (by kernel_rfl) (by kernel_rfl) hp1 (by kernel_rfl) (by omega)) ?_
      refine lv (v := .agg (rgC y1).toArray) rfl rfl (yb_rs (off := f1_ + k * 3) (cs := rgC y1) rfl (by kernel_rfl) (fun W hW => hc1 W (hW.sub (fun _ h => by cases h))) Tryd.underlying168 rfl (by kernel_rfl)) ?_
      refine wpL_new (fun g => .pointer (some ⟨g, 0, none⟩)) (obi := .cells #[.int .i64 0, .int .i64 0, .int .i64 0] 168 (0, 0)) rfl rfl (fun _ => by kernel_rfl) (fun _ => by simp only [List.setIfInBounds_toArray, List.set_cons_succ, List.set_cons_zero] <;> rfl) fun g2 Bg2 Fg2 => ?_
      refine wpL_s [(g2, .cells (rgC y1).toArray 168 (0, 0))] rfl rfl (st_row (off := 0) (v := .agg (rgC y1).toArray) rfl (by kernel_rfl) (by kernel_rfl) (.head _) Bg2 (by kernel_rfl) (by first | (simp [Value.cells]; done) | exact Nat.le_of_ble_eq_true rfl) (fun v hv => rgC_one y1 v hv) (by kernel_rfl) (List.forall_mem_cons.2 ⟨.inl rfl, (List.forall_mem_nil _)⟩)) ?_
      refine wpL_done (fun W6 hW6 => ?_)
      refine (show Code.wp _ _ _ _ _ from ?_)
      refine wp_seq ?_
      refine wp_region_L (W0 := w) [(g2, .cells (rgC y1).toArray 168 (0, 0))] (hW6) ?_
      refine lm (v := .pointer (some ⟨g2, 0, none⟩)) rfl rfl ?_
      refine lv (v := .int .i64 y1.1) rfl rfl (yb_cell (off := 0) rfl (by kernel_rfl) (.head _) Tryd.underlying3 rfl (by kernel_rfl)) ?_
      refine lm (v := .pointer (some ⟨g2, 1, none⟩)) rfl rfl ?_
      refine lv (v := .int .i64 y1.2.1) rfl rfl (yb_cell (off := 1) rfl (by kernel_rfl) (.head _) Tryd.underlying3 rfl (by kernel_rfl)) ?_
      refine lp (v := .bool (decide (y1.1 < y1.2.1))) rfl rfl (run_bin rfl (vx := (.int .i64 y1.1)) (vy := (.int .i64 y1.2.1)) (by kernel_rfl) (by kernel_rfl) fun w => bi_lss rfl w) ?_
      refine lm (v := .bool (decide (y1.1 < y1.2.1))) rfl rfl ?_
      cases hd2 : (decide (y1.1 < y1.2.1)) with
      | false =>
        have h2 : ¬ (y1.1 < y1.2.1) := of_decide_eq_false hd2
        clear hd2
        refine lm (v := .pointer (some ⟨g2, 0, none⟩)) rfl rfl ?_
        refine lv (v := .int .i64 y1.1) rfl rfl (yb_cell (off := 0) rfl (by kernel_rfl) (.head _) Tryd.underlying3 rfl (by kernel_rfl)) ?_
        refine lm (v := .pointer (some ⟨g2, 2, none⟩)) rfl rfl ?_
        refine lv (v := .int .i64 y1.2.2) rfl rfl (yb_cell (off := 2) rfl (by kernel_rfl) (.head _) Tryd.underlying3 rfl (by kernel_rfl)) ?_
        refine lp (v := .bool (decide (y1.2.2 < y1.1))) rfl rfl (run_bin rfl (vx := (.int .i64 y1.1)) (vy := (.int .i64 y1.2.2)) (by kernel_rfl) (by kernel_rfl) fun w => bi_gtr rfl w) ?_
        refine lm (v := .bool (decide (y1.2.2 < y1.1))) rfl rfl ?_
        refine wpL_done (fun W7 hW7 => ?_)
        refine (show Code.wp _ _ _ _ _ from ?_)
        cases hd3 : (decide (y1.2.2 < y1.1)) with
        | false =>
          have h3 : ¬ (y1.2.2 < y1.1) := of_decide_eq_false hd3
          clear hd3
          refine wp_cond_false rfl ?_
          refine wp_skip ?_
          refine (show Code.wp _ _ _ _ _ from ?_)
          refine wp_region_L (W0 := w) [(g2, .cells (rgC y1).toArray 168 (0, 0))] (hW7) ?_
          refine lp (v := .int .i64 (((k + 1) : Nat) : Int)) rfl rfl (run_bin rfl (vx := (.int .i64 ((k : Nat) : Int))) (vy := (.int .i64 ((1 : Nat) : Int))) (by kernel_rfl) (by kernel_rfl) fun w => bn_add (z := (k + 1)) rfl (wr_i64 (by omega)) w) ?_
          refine lm (v := .int .i64 (((k + 1) : Nat) : Int)) rfl rfl ?_
          refine wpL_done (fun W8 hW8 => ?_)
          go_roundw
          case rel =>
            repeat apply Exists.intro
            exact ⟨⟨k + 1, (by omega), (by rw [hR, rgs_step hy1]; simp [h2, h3]), rfl, (hW8.sub (fun p hp => by first | exact hp | (simp only [List.mem_cons, List.mem_append, List.nil_append, List.not_mem_nil, or_assoc, or_false, false_or] at hp ⊢ <;> grind)))⟩, rfl⟩
          case measure => (show l.length - (intOf (.int .i64 (((k + 1) : Nat) : Int))).toNat < l.length - (intOf (.int .i64 ((k : Nat) : Int))).toNat); simp only [intOf]; omega
        | true =>
          have h3 : y1.2.2 < y1.1 := of_decide_eq_true hd3
          clear hd3
          refine wp_cond_true rfl ?_
          refine wp_seq ?_
          refine wp_region_L (W0 := w) [(g2, .cells (rgC y1).toArray 168 (0, 0))] (hW7) ?_
          refine lm (v := .bool false) rfl rfl ?_
          refine wpL_done (fun W9 hW9 => ?_)
          refine (show Code.wp _ _ _ _ _ from ?_)
          refine wp_ret ?_
          try simp only [inBlock_ret, then_ret]
          refine bodyPost_ret (v := .bool false) ?_ rfl ?_
          · kernel_rfl
          · exact ⟨(bool_is (by rw [hR, rgs_step hy1]; simp [h3])), hW9.1⟩
      | true =>
        have h2 : y1.1 < y1.2.1 := of_decide_eq_true hd2
        clear hd2
        refine ln rfl ?_
        refine ln rfl ?_
        refine ln rfl ?_
        refine ln rfl ?_
        refine ln rfl ?_
        refine lm (v := .bool true) rfl rfl ?_
        refine wpL_done (fun W10 hW10 => ?_)
        refine (show Code.wp _ _ _ _ _ from ?_)
        refine wp_cond_true rfl ?_
        refine wp_seq ?_
        refine wp_region_L (W0 := w) [(g2, .cells (rgC y1).toArray 168 (0, 0))] (hW10) ?_
        refine lm (v := .bool false) rfl rfl ?_
        refine wpL_done (fun W11 hW11 => ?_)
        refine (show Code.wp _ _ _ _ _ from ?_)
        refine wp_ret ?_
        try simp only [inBlock_ret, then_ret]
        refine bodyPost_ret (v := .bool false) ?_ rfl ?_
        · kernel_rfl
        · exact ⟨(bool_is (by rw [hR, rgs_step hy1]; simp [h2])), hW11.1⟩
set_option maxRecDepth 100000 in
set_option maxHeartbeats 4000000 in
theorem increasing_any (l : List Int) (p : Option Addr) (c : Nat) (most : Int) (hl : l.length ≤ 4000000000) (w : World) (hp : SLV w p (l.flatMap inC)) : Calls Tryd.prog 116 #[.slice p l.length c, .int .i64 most] w fun e w' => e = .returned (.bool (incX l most)) ∧ Below w.heap.size w w' := by
  have HP := Lib.hid hp
  clear hp
  go_enter Tryd.func116, Tryd.ntmps116
  refine wp_seq ?_
  refine wp_region_L (W0 := w) [] (KS.start w) ?_
  refine lm (v := .bool false) rfl rfl ?_
  refine wpL_done (fun W1 hW1 => ?_)
  refine (show Code.wp _ _ _ _ _ from ?_)
  refine wp_seq ?_
  refine wp_region_L (W0 := w) [] (hW1) ?_
  refine lm (v := .int .i64 (-1)) rfl rfl ?_
  refine wpL_done (fun W2 hW2 => ?_)
  refine (show Code.wp _ _ _ _ _ from ?_)
  refine wp_seq ?_
  refine wp_seq ?_
  refine wp_region_L (W0 := w) [] (hW2) ?_
  refine lm (v := .slice p l.length c) rfl rfl ?_
  refine lp (v := .int .i64 ((l.length : Nat) : Int)) rfl rfl (run_lenL (p := p) (cap := c) (n := l.length) rfl Tryd.underlying63 (by kernel_rfl)) ?_
  refine lm (v := .int .i64 0) rfl rfl ?_
  refine wpL_done (fun W3 hW3 => ?_)
  refine (show Code.wp _ _ _ _ _ from ?_)
  refine wp_block ?_
  go_loopw [10, 5] (fun u10 u5 wr => ∃ (k : Nat) (last : Int), (k ≤ l.length) ∧ (incX l most = incF most last (l.drop k)) ∧ u10 = .int .i64 ((k : Nat) : Int) ∧ u5 = .int .i64 last ∧ KS w [] wr) (fun u10 _ _ => l.length - (intOf u10).toNat)
  case atStart => exact ⟨0, (-1), (Nat.zero_le _), rfl, rfl, rfl, (hW3.sub (fun p hp => by first | exact hp | (simp only [List.mem_cons, List.mem_append, List.nil_append, List.not_mem_nil, or_assoc, or_false, false_or] at hp ⊢ <;> grind)))⟩
  case round =>
    obtain ⟨k, last, hk, hR, rfl, rfl, hL4⟩ := hrel
    refine wp_seq ?_
    refine wp_region_L (W0 := w) [] (hL4) ?_
    refine lp (v := .bool (decide (k < l.length))) rfl rfl (run_bin rfl (vx := (.int .i64 ((k : Nat) : Int))) (vy := (.int .i64 ((l.length : Nat) : Int))) (by kernel_rfl) (by kernel_rfl) fun w => bn_lss rfl w) ?_
    refine wpL_done (fun W5 hW5 => ?_)
    refine (show Code.wp _ _ _ _ _ from ?_)
    refine wp_seq ?_
    cases hd1 : (decide (k < l.length)) with
    | false =>
      have h1 : ¬ (k < l.length) := of_decide_eq_false hd1
      clear hd1
      refine wp_cond_false rfl ?_
      refine wp_exit ?_
      refine (show Code.wp _ _ _ _ _ from ?_)
      refine wp_seq ?_
      refine wp_region_L (W0 := w) [] (hW5) ?_
      refine lm (v := .bool true) rfl rfl ?_
      refine wpL_done (fun W6 hW6 => ?_)
      refine (show Code.wp _ _ _ _ _ from ?_)
      refine wp_ret ?_
      try simp only [inBlock_ret, then_ret]
      refine bodyPost_ret (v := .bool true) ?_ rfl ?_
      · kernel_rfl
      · exact ⟨(bool_is (by rw [hR, inc_end h1])), hW6.1⟩
    | true =>
      have h1 : k < l.length := of_decide_eq_true hd1
      clear hd1
      refine wp_cond_true rfl ?_
      refine wp_skip ?_
      refine (show Code.wp _ _ _ _ _ from ?_)
      refine wp_seq ?_
      refine wp_block ?_
      refine wp_seq ?_
      refine wp_region_L (W0 := w) [] (hW5) ?_
      obtain ⟨y1, g1_, f1_, hy1, hp1, hc1⟩ := RL.at (RL.base HP.out) inC_len (by decide) (hW5.sub (fun _ h => by cases h)) (k := k) (by omega)
      refine lp (v := .pointer (some ⟨g1_, f1_ + k * 1, none⟩)) rfl rfl (run_idxQ (p := p) (cap := c) (n := l.length) (j := .i64) (k := k) (sz := 1) rfl Tryd.underlying63 (by kernel_rfl) (by kernel_rfl) hp1 (by kernel_rfl) (by omega)) ?_
      refine lv (v := .int .i64 y1) rfl rfl (yb_rf (v := .int .i64 y1) rfl (by kernel_rfl) (fun W hW => hc1 W (hW.sub (fun _ h => by cases h)) 0 _ rfl) Tryd.underlying3 rfl) ?_
      refine lm (v := .int .i64 y1) rfl rfl ?_
      refine wpL_done (fun W7 hW7 => ?_)
      refine (show Code.wp _ _ _ _ _ from ?_)
      refine wp_seq ?_
      refine wp_seq ?_
      refine wp_region_L (W0 := w) [] (hW7) ?_
      refine lm (v := .int .i64 y1) rfl rfl ?_
      refine lm (v := .int .i64 last) rfl rfl ?_
      refine lp (v := .bool (!(decide (last < y1)))) rfl rfl (run_bin rfl (vx := (.int .i64 y1)) (vy := (.int .i64 last)) (by kernel_rfl) (by kernel_rfl) fun w => bi_leq rfl w) ?_
      refine lm (v := .bool (!(decide (last < y1)))) rfl rfl ?_
      cases hd2 : (decide (last < y1)) with
      | false =>
        have h2 : ¬ (last < y1) := of_decide_eq_false hd2
        clear hd2
        refine ln rfl ?_
        refine ln rfl ?_
        refine ln rfl ?_
        refine lm (v := .bool true) rfl rfl ?_
        refine wpL_done (fun W8 hW8 => ?_)
        refine (show Code.wp _ _ _ _ _ from ?_)
        refine wp_cond_true rfl ?_
        refine wp_seq ?_
        refine wp_region_L (W0 := w) [] (hW8) ?_
        refine lm (v := .bool false) rfl rfl ?_
        refine wpL_done (fun W9 hW9 => ?_)
        refine (show Code.wp _ _ _ _ _ from ?_)
        refine wp_ret ?_
        try simp only [inBlock_ret, then_ret]
        refine bodyPost_ret (v := .bool false) ?_ rfl ?_
        · kernel_rfl
        · exact ⟨(bool_is (by rw [hR, inc_step hy1, decide_eq_false (p := last < y1) (by omega)]; rfl)), hW9.1⟩
      | true =>
        have h2 : last < y1 := of_decide_eq_true hd2
        clear hd2
        refine lm (v := .int .i64 y1) rfl rfl ?_
        refine lm (v := .int .i64 most) rfl rfl ?_
        refine lp (v := .bool (decide (most < y1))) rfl rfl (run_bin rfl (vx := (.int .i64 y1)) (vy := (.int .i64 most)) (by kernel_rfl) (by kernel_rfl) fun w => bi_gtr rfl w) ?_
        refine lm (v := .bool (decide (most < y1))) rfl rfl ?_
        refine wpL_done (fun W10 hW10 => ?_)
        refine (show Code.wp _ _ _ _ _ from ?_)
        cases hd3 : (decide (most < y1)) with
        | false =>
          have h3 : ¬ (most < y1) := of_decide_eq_false hd3
          clear hd3
          refine wp_cond_false rfl ?_
          refine wp_skip ?_
          refine (show Code.wp _ _ _ _ _ from ?_)
          refine wp_region_L (W0 := w) [] (hW10) ?_
          refine lm (v := .int .i64 y1) rfl rfl ?_
          refine lm (v := .int .i64 y1) rfl rfl ?_
          refine wpL_done (fun W11 hW11 => ?_)
          refine (show Code.wp _ _ _ _ _ from ?_)
          refine wp_region_L (W0 := w) [] (hW11) ?_
          refine lp (v := .int .i64 (((k + 1) : Nat) : Int)) rfl rfl (run_bin rfl (vx := (.int .i64 ((k : Nat) : Int))) (vy := (.int .i64 ((1 : Nat) : Int))) (by kernel_rfl) (by kernel_rfl) fun w => bn_add (z := (k + 1)) rfl (wr_i64 (by omega)) w) ?_
          refine lm (v := .int .i64 (((k + 1) : Nat) : Int)) rfl rfl ?_
          refine wpL_done (fun W12 hW12 => ?_)
          go_roundw
          case rel =>
            repeat apply Exists.intro
            exact ⟨⟨k + 1, y1, (by omega), (by rw [hR, inc_step hy1, decide_eq_true (by omega), decide_eq_true (by omega)]; rfl), rfl, rfl, (hW12.sub (fun p hp => by first | exact hp | (simp only [List.mem_cons, List.mem_append, List.nil_append, List.not_mem_nil, or_assoc, or_false, false_or] at hp ⊢ <;> grind)))⟩, rfl⟩
          case measure => (show l.length - (intOf (.int .i64 (((k + 1) : Nat) : Int))).toNat < l.length - (intOf (.int .i64 ((k : Nat) : Int))).toNat); simp only [intOf]; omega
        | true =>
          have h3 : most < y1 := of_decide_eq_true hd3
          clear hd3
          refine wp_cond_true rfl ?_
          refine wp_seq ?_
          refine wp_region_L (W0 := w) [] (hW10) ?_
          refine lm (v := .bool false) rfl rfl ?_
          refine wpL_done (fun W13 hW13 => ?_)
          refine (show Code.wp _ _ _ _ _ from ?_)
          refine wp_ret ?_
          try simp only [inBlock_ret, then_ret]
          refine bodyPost_ret (v := .bool false) ?_ rfl ?_
          · kernel_rfl
          · exact ⟨(bool_is (by rw [hR, inc_step hy1, decide_eq_false (p := y1 ≤ most) (by omega)]; simp)), hW13.1⟩
set_option maxRecDepth 100000 in
set_option maxHeartbeats 4000000 in
theorem columnRight_any (c : Col) (hl : c.plugs.length ≤ 4000000000) (w : World) (hp : SLV w c.pp (c.plugs.flatMap inC)) : Calls Tryd.prog 112 #[.agg (colC c).toArray] w fun e w' => e = .returned (.bool (colX c)) ∧ Below w.heap.size w w' := by
  have HP := Lib.hid hp
  clear hp
  go_enter Tryd.func112, Tryd.ntmps112
  refine wp_seq ?_
  refine wp_region_L (W0 := w) [] (KS.start w) ?_
  refine wpL_new (fun g => .pointer (some ⟨g, 0, none⟩)) (obi := .cells (colC c).toArray 65 (0, 0)) rfl rfl (fun _ => by kernel_rfl) (fun _ => by simp only [List.setIfInBounds_toArray, List.set_cons_succ, List.set_cons_zero] <;> rfl) fun g1 Bg1 Fg1 => ?_
  refine lm (v := .bool false) rfl rfl ?_
  refine wpL_done (fun W1 hW1 => ?_)
  refine (show Code.wp _ _ _ _ _ from ?_)
  refine wp_seq ?_
  refine wp_region_L (W0 := w) [(g1, .cells (colC c).toArray 65 (0, 0))] (hW1) ?_
  refine lm (v := .func (.func 115) #[] #[]) rfl rfl ?_
  refine wpL_done (fun W2 hW2 => ?_)
  refine (show Code.wp _ _ _ _ _ from ?_)
  refine wp_seq ?_
  refine wp_region_L (W0 := w) [(g1, .cells (colC c).toArray 65 (0, 0))] (hW2) ?_
  refine lm (v := .func (.func 115) #[] #[]) rfl rfl ?_
  refine lm (v := .pointer (some ⟨g1, 0, none⟩)) rfl rfl ?_
  refine lv (v := .int .i64 c.bay) rfl rfl (yb_cell (off := 0) rfl (by kernel_rfl) (.head _) Tryd.underlying3 rfl (by kernel_rfl)) ?_
  refine lm (v := .agg #[.int .i64 c.bay, .int .i64 0, .int .i64 39]) rfl rfl ?_
  refine lm (v := .pointer (some ⟨g1, 1, none⟩)) rfl rfl ?_
  refine lv (v := .int .i64 c.row) rfl rfl (yb_cell (off := 1) rfl (by kernel_rfl) (.head _) Tryd.underlying3 rfl (by kernel_rfl)) ?_
  refine lm (v := .agg #[.int .i64 c.row, .int .i64 0, .int .i64 30]) rfl rfl ?_
  refine lm (v := .pointer (some ⟨g1, 3, none⟩)) rfl rfl ?_
  refine lv (v := .int .i64 c.tiers) rfl rfl (yb_cell (off := 3) rfl (by kernel_rfl) (.head _) Tryd.underlying3 rfl (by kernel_rfl)) ?_
  refine lm (v := .agg #[.int .i64 c.tiers, .int .i64 1, .int .i64 10]) rfl rfl ?_
  refine lm (v := .pointer (some ⟨g1, 4, none⟩)) rfl rfl ?_
  refine lv (v := .int .i64 c.height) rfl rfl (yb_cell (off := 4) rfl (by kernel_rfl) (.head _) Tryd.underlying3 rfl (by kernel_rfl)) ?_
  refine lm (v := .agg #[.int .i64 c.height, .int .i64 0, .int .i64 40000]) rfl rfl ?_
  refine lm (v := .pointer (some ⟨g1, 5, none⟩)) rfl rfl ?_
  refine lv (v := .int .i64 c.k20) rfl rfl (yb_cell (off := 5) rfl (by kernel_rfl) (.head _) Tryd.underlying3 rfl (by kernel_rfl)) ?_
  refine lm (v := .agg #[.int .i64 c.k20, .int .i64 0, .int .i64 500000000]) rfl rfl ?_
  refine lm (v := .pointer (some ⟨g1, 6, none⟩)) rfl rfl ?_
  refine lv (v := .int .i64 c.k40) rfl rfl (yb_cell (off := 6) rfl (by kernel_rfl) (.head _) Tryd.underlying3 rfl (by kernel_rfl)) ?_
  refine lm (v := .agg #[.int .i64 c.k40, .int .i64 0, .int .i64 500000000]) rfl rfl ?_
  refine lm (v := .pointer (some ⟨g1, 7, none⟩)) rfl rfl ?_
  refine lv (v := .int .i64 c.lash) rfl rfl (yb_cell (off := 7) rfl (by kernel_rfl) (.head _) Tryd.underlying3 rfl (by kernel_rfl)) ?_
  refine lm (v := .agg #[.int .i64 c.lash, .int .i64 0, .int .i64 1000000000000]) rfl rfl ?_
  refine lm (v := .pointer (some ⟨g1, 9, none⟩)) rfl rfl ?_
  refine lv (v := .int .i64 c.x) rfl rfl (yb_cell (off := 9) rfl (by kernel_rfl) (.head _) Tryd.underlying3 rfl (by kernel_rfl)) ?_
  refine lm (v := .agg #[.int .i64 c.x, .int .i64 (-500000), .int .i64 500000]) rfl rfl ?_
  refine lm (v := .pointer (some ⟨g1, 10, none⟩)) rfl rfl ?_
  refine lv (v := .int .i64 c.y) rfl rfl (yb_cell (off := 10) rfl (by kernel_rfl) (.head _) Tryd.underlying3 rfl (by kernel_rfl)) ?_
  refine lm (v := .agg #[.int .i64 c.y, .int .i64 (-500000), .int .i64 500000]) rfl rfl ?_
  refine lm (v := .pointer (some ⟨g1, 11, none⟩)) rfl rfl ?_
  refine lv (v := .int .i64 c.z) rfl rfl (yb_cell (off := 11) rfl (by kernel_rfl) (.head _) Tryd.underlying3 rfl (by kernel_rfl)) ?_
  refine lm (v := .agg #[.int .i64 c.z, .int .i64 (-500000), .int .i64 500000]) rfl rfl ?_
  refine wpL_new (fun g => .slice (some ⟨g, 0, none⟩) 10 10) (obi := .cells #[.int .i64 c.bay, .int .i64 0, .int .i64 39, .int .i64 c.row, .int .i64 0, .int .i64 30, .int .i64 c.tiers, .int .i64 1, .int .i64 10, .int .i64 c.height, .int .i64 0, .int .i64 40000, .int .i64 c.k20, .int .i64 0, .int .i64 500000000, .int .i64 c.k40, .int .i64 0, .int .i64 500000000, .int .i64 c.lash, .int .i64 0, .int .i64 1000000000000, .int .i64 c.x, .int .i64 (-500000), .int .i64 500000, .int .i64 c.y, .int .i64 (-500000), .int .i64 500000, .int .i64 c.z, .int .i64 (-500000), .int .i64 500000] 168 (0, 0)) rfl rfl (fun _ => by kernel_rfl) (fun _ => by simp only [List.setIfInBounds_toArray, List.set_cons_succ, List.set_cons_zero] <;> rfl) fun g2 Bg2 Fg2 => ?_
  obtain dj3_0 : g1 ≠ g2 := by simpa only [dj_app_l, dj_app_r, dj_cons_l, dj_cons_r, dj_nil_l, dj_nil_r, dk_app, dk_cons, dk_nil, and_true, true_and, and_assoc] using (show Dk g2 [(g1, .cells (colC c).toArray 65 (0, 0))] from Fg2)
  refine lv (v := .bool (rgsX (rangesX c))) rfl rfl (yb_call (f := 115) (args := #[.slice (some ⟨g2, 0, none⟩) 10 10]) (fun _ => by kernel_rfl) fun W hW => Within_any (rangesX c) (some ⟨g2, 0, none⟩) 10 (by show (10 : Nat) ≤ _; omega) W (blk_slv hW (.head _))) ?_
  refine lm (v := .bool (rgsX (rangesX c))) rfl rfl ?_
  cases h1 : (rgsX (rangesX c)) with
  | false =>
    refine ln rfl ?_
    refine ln rfl ?_
    refine ln rfl ?_
    refine ln rfl ?_
    refine ln rfl ?_
    refine ln rfl ?_
    refine lm (v := .bool false) rfl rfl ?_
    refine lm (v := .bool false) rfl rfl ?_
    refine wpL_done (fun W3 hW3 => ?_)
    refine (show Code.wp _ _ _ _ _ from ?_)
    refine wp_ret ?_
    try simp only [inBlock_ret, then_ret]
    refine bodyPost_ret (v := .bool false) ?_ rfl ?_
    · kernel_rfl
    · exact ⟨(bool_is (by unfold colX; simp [*])), hW3.1⟩
  | true =>
    refine lm (v := .pointer (some ⟨g1, 8, none⟩)) rfl rfl ?_
    refine lv (v := .slice c.pp c.plugs.length c.pc) rfl rfl (yb_cell (off := 8) rfl (by kernel_rfl) (.tail _ (.head _)) Tryd.underlying63 rfl (by kernel_rfl)) ?_
    refine lm (v := .pointer (some ⟨g1, 3, none⟩)) rfl rfl ?_
    refine lv (v := .int .i64 c.tiers) rfl rfl (yb_cell (off := 3) rfl (by kernel_rfl) (.tail _ (.head _)) Tryd.underlying3 rfl (by kernel_rfl)) ?_
    refine lp (v := .int .i64 (IntKind.i64.wrap (c.tiers - 1))) rfl rfl (run_bin rfl (vx := .int .i64 c.tiers) (vy := .int .i64 1) (by kernel_rfl) (by kernel_rfl) fun w => bw_sub (z := (IntKind.i64.wrap (c.tiers - 1))) rfl w) ?_
    refine lv (v := .bool (incX c.plugs (IntKind.i64.wrap (c.tiers - 1)))) rfl rfl (yb_call (f := 116) (args := #[.slice c.pp c.plugs.length c.pc, .int .i64 (IntKind.i64.wrap (c.tiers - 1))]) (fun _ => by kernel_rfl) fun W hW => increasing_any c.plugs c.pp c.pc (IntKind.i64.wrap (c.tiers - 1)) (by omega) W ((RL.base HP.out) _ (hW.sub (fun _ h => by cases h)))) ?_
    refine lm (v := .bool (incX c.plugs (IntKind.i64.wrap (c.tiers - 1)))) rfl rfl ?_
    refine lm (v := .bool (incX c.plugs (IntKind.i64.wrap (c.tiers - 1)))) rfl rfl ?_
    refine wpL_done (fun W4 hW4 => ?_)
    refine (show Code.wp _ _ _ _ _ from ?_)
    refine wp_ret ?_
    try simp only [inBlock_ret, then_ret]
    refine bodyPost_ret (v := .bool (incX c.plugs (IntKind.i64.wrap (c.tiers - 1)))) ?_ rfl ?_
    · kernel_rfl
    · exact ⟨(bool_is (by unfold colX; simp [*])), hW4.1⟩
set_option maxRecDepth 100000 in
set_option maxHeartbeats 4000000 in
theorem coverRight_any (o : Cov) (hl : o.rows.length ≤ 4000000000) (w : World) (hp : SLV w o.rp (o.rows.flatMap inC)) : Calls Tryd.prog 113 #[.agg (covC o).toArray] w fun e w' => e = .returned (.bool (ovX o)) ∧ Below w.heap.size w w' := by
  have HP := Lib.hid hp
  clear hp
  go_enter Tryd.func113, Tryd.ntmps113
  refine wp_seq ?_
  refine wp_region_L (W0 := w) [] (KS.start w) ?_
  refine wpL_new (fun g => .pointer (some ⟨g, 0, none⟩)) (obi := .cells (covC o).toArray 67 (0, 0)) rfl rfl (fun _ => by kernel_rfl) (fun _ => by simp only [List.setIfInBounds_toArray, List.set_cons_succ, List.set_cons_zero] <;> rfl) fun g1 Bg1 Fg1 => ?_
  refine lm (v := .bool false) rfl rfl ?_
  refine wpL_done (fun W1 hW1 => ?_)
  refine (show Code.wp _ _ _ _ _ from ?_)
  refine wp_seq ?_
  refine wp_region_L (W0 := w) [(g1, .cells (covC o).toArray 67 (0, 0))] (hW1) ?_
  refine lm (v := .pointer (some ⟨g1, 0, none⟩)) rfl rfl ?_
  refine lv (v := .int .i64 o.bay) rfl rfl (yb_cell (off := 0) rfl (by kernel_rfl) (.head _) Tryd.underlying3 rfl (by kernel_rfl)) ?_
  refine lp (v := .bool (!(decide (o.bay < 0)))) rfl rfl (run_bin rfl (vx := (.int .i64 o.bay)) (vy := (.int .i64 0)) (by kernel_rfl) (by kernel_rfl) fun w => bi_geq rfl w) ?_
  refine lm (v := .bool (!(decide (o.bay < 0)))) rfl rfl ?_
  cases hd1 : (decide (o.bay < 0)) with
  | false =>
    have h1 : ¬ (o.bay < 0) := of_decide_eq_false hd1
    clear hd1
    refine lm (v := .pointer (some ⟨g1, 0, none⟩)) rfl rfl ?_
    refine lv (v := .int .i64 o.bay) rfl rfl (yb_cell (off := 0) rfl (by kernel_rfl) (.head _) Tryd.underlying3 rfl (by kernel_rfl)) ?_
    refine lp (v := .bool (!(decide (39 < o.bay)))) rfl rfl (run_bin rfl (vx := (.int .i64 o.bay)) (vy := (.int .i64 39)) (by kernel_rfl) (by kernel_rfl) fun w => bi_leq rfl w) ?_
    refine lm (v := .bool (!(decide (39 < o.bay)))) rfl rfl ?_
    refine lm (v := .bool (!(decide (39 < o.bay)))) rfl rfl ?_
    cases hd2 : (decide (39 < o.bay)) with
    | false =>
      have h2 : ¬ (39 < o.bay) := of_decide_eq_false hd2
      clear hd2
      refine lm (v := .pointer (some ⟨g1, 1, none⟩)) rfl rfl ?_
      refine lv (v := .slice o.rp o.rows.length o.rc) rfl rfl (yb_cell (off := 1) rfl (by kernel_rfl) (.head _) Tryd.underlying63 rfl (by kernel_rfl)) ?_
      refine lp (v := .int .i64 ((o.rows.length : Nat) : Int)) rfl rfl (run_lenL (p := o.rp) (cap := o.rc) (n := o.rows.length) rfl Tryd.underlying63 (by kernel_rfl)) ?_
      refine lp (v := .bool (decide (0 < o.rows.length))) rfl rfl (run_bin rfl (vx := (.int .i64 ((o.rows.length : Nat) : Int))) (vy := (.int .i64 ((0 : Nat) : Int))) (by kernel_rfl) (by kernel_rfl) fun w => bn_gtr rfl w) ?_
      refine lm (v := .bool (decide (0 < o.rows.length))) rfl rfl ?_
      refine lm (v := .bool (decide (0 < o.rows.length))) rfl rfl ?_
      cases hd3 : (decide (0 < o.rows.length)) with
      | false =>
        have h3 : ¬ (0 < o.rows.length) := of_decide_eq_false hd3
        clear hd3
        refine ln rfl ?_
        refine ln rfl ?_
        refine ln rfl ?_
        refine lm (v := .bool false) rfl rfl ?_
        refine lm (v := .bool false) rfl rfl ?_
        refine wpL_done (fun W2 hW2 => ?_)
        refine (show Code.wp _ _ _ _ _ from ?_)
        refine wp_ret ?_
        try simp only [inBlock_ret, then_ret]
        refine bodyPost_ret (v := .bool false) ?_ rfl ?_
        · kernel_rfl
        · exact ⟨(bool_is (by unfold ovX; rw [decide_eq_true (p := 0 ≤ o.bay) (by omega), decide_eq_true (p := o.bay ≤ 39) (by omega), decide_eq_false (p := 0 < o.rows.length) h3]; simp)), hW2.1⟩
      | true =>
        have h3 : 0 < o.rows.length := of_decide_eq_true hd3
        clear hd3
        refine lm (v := .pointer (some ⟨g1, 1, none⟩)) rfl rfl ?_
        refine lv (v := .slice o.rp o.rows.length o.rc) rfl rfl (yb_cell (off := 1) rfl (by kernel_rfl) (.head _) Tryd.underlying63 rfl (by kernel_rfl)) ?_
        refine lv (v := .bool (incX o.rows 30)) rfl rfl (yb_call (f := 116) (args := #[.slice o.rp o.rows.length o.rc, .int .i64 30]) (fun _ => by kernel_rfl) fun W hW => increasing_any o.rows o.rp o.rc 30 (by omega) W ((RL.base HP.out) _ (hW.sub (fun _ h => by cases h)))) ?_
        refine lm (v := .bool (incX o.rows 30)) rfl rfl ?_
        refine lm (v := .bool (incX o.rows 30)) rfl rfl ?_
        refine wpL_done (fun W3 hW3 => ?_)
        refine (show Code.wp _ _ _ _ _ from ?_)
        refine wp_ret ?_
        try simp only [inBlock_ret, then_ret]
        refine bodyPost_ret (v := .bool (incX o.rows 30)) ?_ rfl ?_
        · kernel_rfl
        · exact ⟨(bool_is (by unfold ovX; rw [decide_eq_true (p := 0 ≤ o.bay) (by omega), decide_eq_true (p := o.bay ≤ 39) (by omega), decide_eq_true (p := 0 < o.rows.length) h3]; simp)), hW3.1⟩
    | true =>
      have h2 : 39 < o.bay := of_decide_eq_true hd2
      clear hd2
      refine ln rfl ?_
      refine ln rfl ?_
      refine ln rfl ?_
      refine ln rfl ?_
      refine lm (v := .bool false) rfl rfl ?_
      refine lm (v := .bool false) rfl rfl ?_
      refine ln rfl ?_
      refine ln rfl ?_
      refine ln rfl ?_
      refine lm (v := .bool false) rfl rfl ?_
      refine lm (v := .bool false) rfl rfl ?_
      refine wpL_done (fun W4 hW4 => ?_)
      refine (show Code.wp _ _ _ _ _ from ?_)
      refine wp_ret ?_
      try simp only [inBlock_ret, then_ret]
      refine bodyPost_ret (v := .bool false) ?_ rfl ?_
      · kernel_rfl
      · exact ⟨(bool_is (by unfold ovX; rw [decide_eq_true (p := 0 ≤ o.bay) (by omega), decide_eq_false (p := o.bay ≤ 39) (by omega)]; simp)), hW4.1⟩
  | true =>
    have h1 : o.bay < 0 := of_decide_eq_true hd1
    clear hd1
    refine ln rfl ?_
    refine ln rfl ?_
    refine ln rfl ?_
    refine lm (v := .bool false) rfl rfl ?_
    refine lm (v := .bool false) rfl rfl ?_
    refine ln rfl ?_
    refine ln rfl ?_
    refine ln rfl ?_
    refine ln rfl ?_
    refine lm (v := .bool false) rfl rfl ?_
    refine lm (v := .bool false) rfl rfl ?_
    refine ln rfl ?_
    refine ln rfl ?_
    refine ln rfl ?_
    refine lm (v := .bool false) rfl rfl ?_
    refine lm (v := .bool false) rfl rfl ?_
    refine wpL_done (fun W5 hW5 => ?_)
    refine (show Code.wp _ _ _ _ _ from ?_)
    refine wp_ret ?_
    try simp only [inBlock_ret, then_ret]
    refine bodyPost_ret (v := .bool false) ?_ rfl ?_
    · kernel_rfl
    · exact ⟨(bool_is (by unfold ovX; rw [decide_eq_false (p := 0 ≤ o.bay) (by omega)]; simp)), hW5.1⟩
set_option maxRecDepth 100000 in
set_option maxHeartbeats 4000000 in
theorem placeOf_any (c : Col) (w : World) : Calls Tryd.prog 111 #[.agg (colC c).toArray] w fun e w' => e = .returned (kv3 (placeX c)) ∧ Below w.heap.size w w' := by
  go_enter Tryd.func111, Tryd.ntmps111
  refine wp_seq ?_
  refine wp_region_L (W0 := w) [] (KS.start w) ?_
  refine wpL_new (fun g => .pointer (some ⟨g, 0, none⟩)) (obi := .cells (colC c).toArray 65 (0, 0)) rfl rfl (fun _ => by kernel_rfl) (fun _ => by simp only [List.setIfInBounds_toArray, List.set_cons_succ, List.set_cons_zero] <;> rfl) fun g1 Bg1 Fg1 => ?_
  refine wpL_new (fun g => .pointer (some ⟨g, 0, none⟩)) (obi := .cells #[.int .i64 0, .int .i64 0, .int .i64 0] 141 (0, 0)) rfl rfl (fun _ => by kernel_rfl) (fun _ => by simp only [List.setIfInBounds_toArray, List.set_cons_succ, List.set_cons_zero] <;> rfl) fun g2 Bg2 Fg2 => ?_
  obtain dj3_0 : g1 ≠ g2 := by simpa only [dj_app_l, dj_app_r, dj_cons_l, dj_cons_r, dj_nil_l, dj_nil_r, dk_app, dk_cons, dk_nil, and_true, true_and, and_assoc] using (show Dk g2 [(g1, .cells (colC c).toArray 65 (0, 0))] from Fg2)
  refine wpL_done (fun W1 hW1 => ?_)
  refine (show Code.wp _ _ _ _ _ from ?_)
  refine wp_seq ?_
  refine wp_seq ?_
  refine wp_region_L (W0 := w) [(g2, .cells #[.int .i64 0, .int .i64 0, .int .i64 0] 141 (0, 0)), (g1, .cells (colC c).toArray 65 (0, 0))] (hW1) ?_
  refine lm (v := .pointer (some ⟨g1, 2, none⟩)) rfl rfl ?_
  refine lv (v := .bool c.deck) rfl rfl (yb_cell (off := 2) rfl (by kernel_rfl) (.tail _ (.head _)) Tryd.underlying4 rfl (by kernel_rfl)) ?_
  refine wpL_done (fun W2 hW2 => ?_)
  refine (show Code.wp _ _ _ _ _ from ?_)
  cases h1 : c.deck with
  | false =>
    refine wp_cond_false rfl ?_
    refine wp_skip ?_
    refine (show Code.wp _ _ _ _ _ from ?_)
    refine wp_seq ?_
    refine wp_region_L (W0 := w) [(g2, .cells #[.int .i64 0, .int .i64 0, .int .i64 0] 141 (0, 0)), (g1, .cells (colC c).toArray 65 (0, 0))] (hW2) ?_
    refine lm (v := .pointer (some ⟨g1, 0, none⟩)) rfl rfl ?_
    refine lv (v := .int .i64 c.bay) rfl rfl (yb_cell (off := 0) rfl (by kernel_rfl) (.tail _ (.head _)) Tryd.underlying3 rfl (by kernel_rfl)) ?_
    refine lm (v := .pointer (some ⟨g1, 1, none⟩)) rfl rfl ?_
    refine lv (v := .int .i64 c.row) rfl rfl (yb_cell (off := 1) rfl (by kernel_rfl) (.tail _ (.head _)) Tryd.underlying3 rfl (by kernel_rfl)) ?_
    refine lm (v := .agg #[.int .i64 c.bay, .int .i64 c.row, .int .i64 0]) rfl rfl ?_
    refine wpL_s [(g2, .cells #[.int .i64 c.bay, .int .i64 c.row, .int .i64 0] 141 (0, 0)), (g1, .cells (colC c).toArray 65 (0, 0))] rfl rfl (st_row (off := 0) (v := .agg #[.int .i64 c.bay, .int .i64 c.row, .int .i64 0]) rfl (by kernel_rfl) (by kernel_rfl) (.head _) Bg2 (by kernel_rfl) (by first | (simp [Value.cells]; done) | exact Nat.le_of_ble_eq_true rfl) (by intro v hv; simp [Value.cells] at hv; first | (subst hv; rfl) | (rcases hv with rfl | rfl | rfl <;> rfl)) (by kernel_rfl) (List.forall_mem_cons.2 ⟨.inl rfl, (List.forall_mem_cons.2 ⟨.inr ⟨(.tail _ (.head _)), (by first | assumption | exact Ne.symm (by assumption))⟩, (List.forall_mem_nil _)⟩)⟩)) ?_
    refine wpL_done (fun W3 hW3 => ?_)
    refine (show Code.wp _ _ _ _ _ from ?_)
    refine wp_ret ?_
    try simp only [inBlock_ret, then_ret]
    refine bodyPost_ret (v := .agg #[.int .i64 c.bay, .int .i64 c.row, .int .i64 0]) ?_ rfl ?_
    · exact (res_cell (p := 2) rfl rfl (hW3.2 _ (.head _)) Tryd.underlying141 rfl (by kernel_rfl))
    · exact ⟨(by unfold placeX; rw [h1]; rfl), hW3.1⟩
  | true =>
    refine wp_cond_true rfl ?_
    refine wp_seq ?_
    refine wp_region_L (W0 := w) [(g2, .cells #[.int .i64 0, .int .i64 0, .int .i64 0] 141 (0, 0)), (g1, .cells (colC c).toArray 65 (0, 0))] (hW2) ?_
    refine lm (v := .pointer (some ⟨g1, 0, none⟩)) rfl rfl ?_
    refine lv (v := .int .i64 c.bay) rfl rfl (yb_cell (off := 0) rfl (by kernel_rfl) (.tail _ (.head _)) Tryd.underlying3 rfl (by kernel_rfl)) ?_
    refine lm (v := .pointer (some ⟨g1, 1, none⟩)) rfl rfl ?_
    refine lv (v := .int .i64 c.row) rfl rfl (yb_cell (off := 1) rfl (by kernel_rfl) (.tail _ (.head _)) Tryd.underlying3 rfl (by kernel_rfl)) ?_
    refine lm (v := .agg #[.int .i64 c.bay, .int .i64 c.row, .int .i64 1]) rfl rfl ?_
    refine wpL_s [(g2, .cells #[.int .i64 c.bay, .int .i64 c.row, .int .i64 1] 141 (0, 0)), (g1, .cells (colC c).toArray 65 (0, 0))] rfl rfl (st_row (off := 0) (v := .agg #[.int .i64 c.bay, .int .i64 c.row, .int .i64 1]) rfl (by kernel_rfl) (by kernel_rfl) (.head _) Bg2 (by kernel_rfl) (by first | (simp [Value.cells]; done) | exact Nat.le_of_ble_eq_true rfl) (by intro v hv; simp [Value.cells] at hv; first | (subst hv; rfl) | (rcases hv with rfl | rfl | rfl <;> rfl)) (by kernel_rfl) (List.forall_mem_cons.2 ⟨.inl rfl, (List.forall_mem_cons.2 ⟨.inr ⟨(.tail _ (.head _)), (by first | assumption | exact Ne.symm (by assumption))⟩, (List.forall_mem_nil _)⟩)⟩)) ?_
    refine wpL_done (fun W4 hW4 => ?_)
    refine (show Code.wp _ _ _ _ _ from ?_)
    refine wp_ret ?_
    try simp only [inBlock_ret, then_ret]
    refine bodyPost_ret (v := .agg #[.int .i64 c.bay, .int .i64 c.row, .int .i64 1]) ?_ rfl ?_
    · exact (res_cell (p := 2) rfl rfl (hW4.2 _ (.head _)) Tryd.underlying141 rfl (by kernel_rfl))
    · exact ⟨(by unfold placeX; rw [h1]; rfl), hW4.1⟩
set_option maxRecDepth 100000 in
set_option maxHeartbeats 4000000 in
theorem columnsRight_any (cs : List Col) (pc : Option Addr) (cc : Nat) (w : World) (hc : SLV w pc (cs.flatMap colC)) (hq : PlR w cs) (lq : ∀ c ∈ cs, c.plugs.length ≤ 4000000000) : Calls Tryd.prog 96 #[.slice pc cs.length cc] w fun e w' => e = .returned (.bool (colsX cs)) ∧ Below w.heap.size w w' := by
  have HC := Lib.hid hc
  clear hc
  have HQ := Lib.hid hq
  clear hq
  go_enter Tryd.func96, Tryd.ntmps96
  refine wp_seq ?_
  refine wp_region_L (W0 := w) [] (KS.start w) ?_
  refine lm (v := .bool false) rfl rfl ?_
  refine wpL_done (fun W1 hW1 => ?_)
  refine (show Code.wp _ _ _ _ _ from ?_)
  refine wp_seq ?_
  refine wp_seq ?_
  refine wp_region_L (W0 := w) [] (hW1) ?_
  refine lm (v := .slice pc cs.length cc) rfl rfl ?_
  refine lp (v := .int .i64 ((cs.length : Nat) : Int)) rfl rfl (run_lenL (p := pc) (cap := cc) (n := cs.length) rfl Tryd.underlying22 (by kernel_rfl)) ?_
  refine lp (v := .bool (decide (cs.length = 0))) rfl rfl (run_bin rfl (vx := (.int .i64 ((cs.length : Nat) : Int))) (vy := (.int .i64 ((0 : Nat) : Int))) (by kernel_rfl) (by kernel_rfl) fun w => bn_eql rfl w) ?_
  refine lm (v := .bool (decide (cs.length = 0))) rfl rfl ?_
  cases hd1 : (decide (cs.length = 0)) with
  | false =>
    have h1 : ¬ (cs.length = 0) := of_decide_eq_false hd1
    clear hd1
    refine lm (v := .slice pc cs.length cc) rfl rfl ?_
    refine lp (v := .int .i64 ((cs.length : Nat) : Int)) rfl rfl (run_lenL (p := pc) (cap := cc) (n := cs.length) rfl Tryd.underlying22 (by kernel_rfl)) ?_
    refine lp (v := .bool (decide (200 < cs.length))) rfl rfl (run_bin rfl (vx := (.int .i64 ((cs.length : Nat) : Int))) (vy := (.int .i64 ((200 : Nat) : Int))) (by kernel_rfl) (by kernel_rfl) fun w => bn_gtr rfl w) ?_
    refine lm (v := .bool (decide (200 < cs.length))) rfl rfl ?_
    refine wpL_done (fun W2 hW2 => ?_)
    refine (show Code.wp _ _ _ _ _ from ?_)
    cases hd2 : (decide (200 < cs.length)) with
    | false =>
      have h2 : ¬ (200 < cs.length) := of_decide_eq_false hd2
      clear hd2
      refine wp_cond_false rfl ?_
      refine wp_skip ?_
      refine (show Code.wp _ _ _ _ _ from ?_)
      refine wp_seq ?_
      refine wp_region_L (W0 := w) [] (hW2) ?_
      refine wpL_new (fun g => .map (some g)) (obi := .map #[] 0) rfl rfl (fun _ => by kernel_rfl) (fun _ => by simp only [List.setIfInBounds_toArray, List.set_cons_succ, List.set_cons_zero] <;> rfl) fun g1 Bg1 Fg1 => ?_
      refine lm (v := .map (some g1)) rfl rfl ?_
      refine wpL_done (fun W3 hW3 => ?_)
      refine (show Code.wp _ _ _ _ _ from ?_)
      refine wp_seq ?_
      refine wp_seq ?_
      refine wp_region_L (W0 := w) [(g1, .map #[] 0)] (hW3) ?_
      refine lm (v := .slice pc cs.length cc) rfl rfl ?_
      refine lp (v := .int .i64 ((cs.length : Nat) : Int)) rfl rfl (run_lenL (p := pc) (cap := cc) (n := cs.length) rfl Tryd.underlying22 (by kernel_rfl)) ?_
      refine lm (v := .int .i64 0) rfl rfl ?_
      refine wpL_done (fun W4 hW4 => ?_)
      refine (show Code.wp _ _ _ _ _ from ?_)
      refine wp_block ?_
      go_loopw [18] (fun u18 wr => ∃ (k : Nat) (es : Array MapEntry) (cl : Nat), (k ≤ cs.length) ∧ (colsF [] cs = colsF ((cs.take k).map placeX) (cs.drop k)) ∧ (SetM kv3 es ((cs.take k).map placeX)) ∧ u18 = .int .i64 ((k : Nat) : Int) ∧ KS w [(g1, .map es cl)] wr) (fun u18 _ => cs.length - (intOf u18).toNat)
      case atStart => exact ⟨0, #[], 0, (Nat.zero_le _), rfl, SetM.nil, rfl, (hW4.sub (fun p hp => by first | exact hp | (simp only [List.mem_cons, List.mem_append, List.nil_append, List.not_mem_nil, or_assoc, or_false, false_or] at hp ⊢ <;> grind)))⟩
      case round =>
        obtain ⟨k, es, cl, hk, hR, hS, rfl, hL5⟩ := hrel
        refine wp_seq ?_
        refine wp_region_L (W0 := w) [(g1, .map es cl)] (hL5) ?_
        refine lp (v := .bool (decide (k < cs.length))) rfl rfl (run_bin rfl (vx := (.int .i64 ((k : Nat) : Int))) (vy := (.int .i64 ((cs.length : Nat) : Int))) (by kernel_rfl) (by kernel_rfl) fun w => bn_lss rfl w) ?_
        refine wpL_done (fun W6 hW6 => ?_)
        refine (show Code.wp _ _ _ _ _ from ?_)
        refine wp_seq ?_
        cases hd3 : (decide (k < cs.length)) with
        | false =>
          have h3 : ¬ (k < cs.length) := of_decide_eq_false hd3
          clear hd3
          refine wp_cond_false rfl ?_
          refine wp_exit ?_
          refine (show Code.wp _ _ _ _ _ from ?_)
          refine wp_seq ?_
          refine wp_region_L (W0 := w) [(g1, .map es cl)] (hW6) ?_
          refine lm (v := .bool true) rfl rfl ?_
          refine wpL_done (fun W7 hW7 => ?_)
          refine (show Code.wp _ _ _ _ _ from ?_)
          refine wp_ret ?_
          try simp only [inBlock_ret, then_ret]
          refine bodyPost_ret (v := .bool true) ?_ rfl ?_
          · kernel_rfl
          · exact ⟨(bool_is (by unfold colsX; rw [decide_eq_false h1, decide_eq_false h2, hR, cols_end h3]; rfl)), hW7.1⟩
        | true =>
          have h3 : k < cs.length := of_decide_eq_true hd3
          clear hd3
          refine wp_cond_true rfl ?_
          refine wp_skip ?_
          refine (show Code.wp _ _ _ _ _ from ?_)
          refine wp_seq ?_
          refine wp_block ?_
          refine wp_seq ?_
          refine wp_region_L (W0 := w) [(g1, .map es cl)] (hW6) ?_
          obtain ⟨y2, g2_, f2_, hy2, hp2, hc2⟩ := RL.at (RL.base HC.out) colC_len (by decide) (hW6.sub (fun _ h => by cases h)) (k := k) (by omega)
          refine lp (v := .pointer (some ⟨g2_, f2_ + k * 12, none⟩)) rfl rfl (run_idxQ (p := pc) (cap := cc) (n := cs.length) (j := .i64) (k := k) (sz := 12) rfl Tryd.underlying22 (by kernel_rfl) (by kernel_rfl) hp2 (by kernel_rfl) (by omega)) ?_
          refine lv (v := .agg (colC y2).toArray) rfl rfl (yb_rs (off := f2_ + k * 12) (cs := colC y2) rfl (by kernel_rfl) (fun W hW => hc2 W (hW.sub (fun _ h => by cases h))) Tryd.underlying65 rfl (by kernel_rfl)) ?_
          refine wpL_new (fun g => .pointer (some ⟨g, 0, none⟩)) (obi := .cells #[.int .i64 0, .int .i64 0, .bool false, .int .i64 0, .int .i64 0, .int .i64 0, .int .i64 0, .int .i64 0, .slice none 0 0, .int .i64 0, .int .i64 0, .int .i64 0] 65 (0, 0)) rfl rfl (fun _ => by kernel_rfl) (fun _ => by simp only [List.setIfInBounds_toArray, List.set_cons_succ, List.set_cons_zero] <;> rfl) fun g3 Bg3 Fg3 => ?_
          obtain dj4_0 : g1 ≠ g3 := by simpa only [dj_app_l, dj_app_r, dj_cons_l, dj_cons_r, dj_nil_l, dj_nil_r, dk_app, dk_cons, dk_nil, and_true, true_and, and_assoc] using (show Dk g3 [(g1, .map es cl)] from Fg3)
          refine wpL_s [(g3, .cells (colC y2).toArray 65 (0, 0)), (g1, .map es cl)] rfl rfl (st_row (off := 0) (v := .agg (colC y2).toArray) rfl (by kernel_rfl) (by kernel_rfl) (.head _) Bg3 (by kernel_rfl) (by first | (simp [Value.cells]; done) | exact Nat.le_of_ble_eq_true rfl) (fun v hv => colC_one y2 v hv) (by kernel_rfl) (List.forall_mem_cons.2 ⟨.inl rfl, (List.forall_mem_cons.2 ⟨.inr ⟨(.tail _ (.head _)), (by first | assumption | exact Ne.symm (by assumption))⟩, (List.forall_mem_nil _)⟩)⟩)) ?_
          refine wpL_done (fun W8 hW8 => ?_)
          refine (show Code.wp _ _ _ _ _ from ?_)
          refine wp_seq ?_
          refine wp_region_L (W0 := w) [(g3, .cells (colC y2).toArray 65 (0, 0)), (g1, .map es cl)] (hW8) ?_
          refine lv (v := .agg (colC y2).toArray) rfl rfl (yb_load (n := 12) (off := 0) rfl (by kernel_rfl) (.head _) Tryd.underlying65 rfl (by kernel_rfl) (by first | (simp [Value.cells]; done) | exact Nat.le_of_ble_eq_true rfl) (by kernel_rfl)) ?_
          refine lv (v := .agg #[.int .i64 ((placeX y2).1), .int .i64 ((placeX y2).2.1), .int .i64 ((placeX y2).2.2)]) rfl rfl (yb_call (f := 111) (args := #[.agg (colC y2).toArray]) (fun _ => by kernel_rfl) fun W hW => placeOf_any y2 W) ?_
          refine wpL_new (fun g => .pointer (some ⟨g, 0, none⟩)) (obi := .cells #[.int .i64 0, .int .i64 0, .int .i64 0] 141 (0, 0)) rfl rfl (fun _ => by kernel_rfl) (fun _ => by simp only [List.setIfInBounds_toArray, List.set_cons_succ, List.set_cons_zero] <;> rfl) fun g5 Bg5 Fg5 => ?_
          obtain ⟨dj6_0, dj6_1⟩ : g3 ≠ g5 ∧ g1 ≠ g5 := by simpa only [dj_app_l, dj_app_r, dj_cons_l, dj_cons_r, dj_nil_l, dj_nil_r, dk_app, dk_cons, dk_nil, and_true, true_and, and_assoc] using (show Dk g5 [(g3, .cells (colC y2).toArray 65 (0, 0)), (g1, .map es cl)] from Fg5)
          refine wpL_s [(g5, .cells #[.int .i64 ((placeX y2).1), .int .i64 ((placeX y2).2.1), .int .i64 ((placeX y2).2.2)] 141 (0, 0)), (g3, .cells (colC y2).toArray 65 (0, 0)), (g1, .map es cl)] rfl rfl (st_row (off := 0) (v := .agg #[.int .i64 ((placeX y2).1), .int .i64 ((placeX y2).2.1), .int .i64 ((placeX y2).2.2)]) rfl (by kernel_rfl) (by kernel_rfl) (.head _) Bg5 (by kernel_rfl) (by first | (simp [Value.cells]; done) | exact Nat.le_of_ble_eq_true rfl) (by intro v hv; simp [Value.cells] at hv; first | (subst hv; rfl) | (rcases hv with rfl | rfl | rfl <;> rfl)) (by kernel_rfl) (List.forall_mem_cons.2 ⟨.inl rfl, (List.forall_mem_cons.2 ⟨.inr ⟨(.tail _ (.head _)), (by first | assumption | exact Ne.symm (by assumption))⟩, (List.forall_mem_cons.2 ⟨.inr ⟨(.tail _ (.tail _ (.head _))), (by first | assumption | exact Ne.symm (by assumption))⟩, (List.forall_mem_nil _)⟩)⟩)⟩)) ?_
          refine wpL_done (fun W9 hW9 => ?_)
          refine (show Code.wp _ _ _ _ _ from ?_)
          refine wp_seq ?_
          refine wp_seq ?_
          refine wp_region_L (W0 := w) [(g5, .cells #[.int .i64 ((placeX y2).1), .int .i64 ((placeX y2).2.1), .int .i64 ((placeX y2).2.2)] 141 (0, 0)), (g3, .cells (colC y2).toArray 65 (0, 0)), (g1, .map es cl)] (hW9) ?_
          refine lv (v := .agg (colC y2).toArray) rfl rfl (yb_load (n := 12) (off := 0) rfl (by kernel_rfl) (.tail _ (.head _)) Tryd.underlying65 rfl (by kernel_rfl) (by first | (simp [Value.cells]; done) | exact Nat.le_of_ble_eq_true rfl) (by kernel_rfl)) ?_
          refine lv (v := .bool (colX y2)) rfl rfl (yb_call (f := 112) (args := #[.agg (colC y2).toArray]) (fun _ => by kernel_rfl) fun W hW => columnRight_any y2 (lq y2 (List.mem_of_getElem? hy2)) W ((RL.base (HQ.out y2 (List.mem_of_getElem? hy2))) _ (hW.sub (fun _ h => by cases h)))) ?_
          refine lp (v := .bool (!(colX y2))) rfl rfl (run_un rfl (by kernel_rfl) fun w => un_not w) ?_
          refine lm (v := .bool (!(colX y2))) rfl rfl ?_
          cases h4 : (colX y2) with
          | false =>
            refine ln rfl ?_
            refine ln rfl ?_
            refine ln rfl ?_
            refine lm (v := .bool true) rfl rfl ?_
            refine wpL_done (fun W10 hW10 => ?_)
            refine (show Code.wp _ _ _ _ _ from ?_)
            refine wp_cond_true rfl ?_
            refine wp_seq ?_
            refine wp_region_L (W0 := w) [(g5, .cells #[.int .i64 ((placeX y2).1), .int .i64 ((placeX y2).2.1), .int .i64 ((placeX y2).2.2)] 141 (0, 0)), (g3, .cells (colC y2).toArray 65 (0, 0)), (g1, .map es cl)] (hW10) ?_
            refine lm (v := .bool false) rfl rfl ?_
            refine wpL_done (fun W11 hW11 => ?_)
            refine (show Code.wp _ _ _ _ _ from ?_)
            refine wp_ret ?_
            try simp only [inBlock_ret, then_ret]
            refine bodyPost_ret (v := .bool false) ?_ rfl ?_
            · kernel_rfl
            · exact ⟨(bool_is (by unfold colsX; rw [decide_eq_false h1, decide_eq_false h2, hR, cols_step hy2, h4]; rfl)), hW11.1⟩
          | true =>
            refine lm (v := .map (some g1)) rfl rfl ?_
            refine lv (v := .agg #[.int .i64 ((placeX y2).1), .int .i64 ((placeX y2).2.1), .int .i64 ((placeX y2).2.2)]) rfl rfl (yb_load (n := 3) (off := 0) rfl (by kernel_rfl) (.head _) Tryd.underlying141 rfl (by kernel_rfl) (by first | (simp [Value.cells]; done) | exact Nat.le_of_ble_eq_true rfl) (by kernel_rfl)) ?_
            refine lv (v := .bool (decide ((placeX y2) ∈ ((cs.take k).map placeX)))) rfl rfl (yb_lookset key3 (k := (placeX y2)) (L := ((cs.take k).map placeX)) rfl (by kernel_rfl) (by kernel_rfl) (.tail _ (.tail _ (.head _))) Tryd.underlying160 (fun _ => by kernel_rfl) hS decide_eq_true_iff) ?_
            refine lm (v := .bool (decide ((placeX y2) ∈ ((cs.take k).map placeX)))) rfl rfl ?_
            refine wpL_done (fun W12 hW12 => ?_)
            refine (show Code.wp _ _ _ _ _ from ?_)
            cases hd5 : (decide ((placeX y2) ∈ ((cs.take k).map placeX))) with
            | false =>
              have h5 : ¬ ((placeX y2) ∈ ((cs.take k).map placeX)) := of_decide_eq_false hd5
              clear hd5
              refine wp_cond_false rfl ?_
              refine wp_skip ?_
              refine (show Code.wp _ _ _ _ _ from ?_)
              refine wp_region_L (W0 := w) [(g5, .cells #[.int .i64 ((placeX y2).1), .int .i64 ((placeX y2).2.1), .int .i64 ((placeX y2).2.2)] 141 (0, 0)), (g3, .cells (colC y2).toArray 65 (0, 0)), (g1, .map es cl)] (hW12) ?_
              refine lm (v := .map (some g1)) rfl rfl ?_
              refine lv (v := .agg #[.int .i64 ((placeX y2).1), .int .i64 ((placeX y2).2.1), .int .i64 ((placeX y2).2.2)]) rfl rfl (yb_load (n := 3) (off := 0) rfl (by kernel_rfl) (.head _) Tryd.underlying141 rfl (by kernel_rfl) (by first | (simp [Value.cells]; done) | exact Nat.le_of_ble_eq_true rfl) (by kernel_rfl)) ?_
              refine wpL_s [(g5, .cells #[.int .i64 ((placeX y2).1), .int .i64 ((placeX y2).2.1), .int .i64 ((placeX y2).2.2)] 141 (0, 0)), (g3, .cells (colC y2).toArray 65 (0, 0)), (g1, .map (addM kv3 es cl (placeX y2)) (cl + 1))] rfl rfl (st_addm key3 (k := (placeX y2)) (L := ((cs.take k).map placeX)) rfl (by kernel_rfl) (by kernel_rfl) (by kernel_rfl) (.tail _ (.tail _ (.head _))) Bg1 Tryd.underlying160 hS h5 (List.forall_mem_cons.2 ⟨.inr ⟨(.head _), (by first | assumption | exact Ne.symm (by assumption))⟩, (List.forall_mem_cons.2 ⟨.inr ⟨(.tail _ (.head _)), (by first | assumption | exact Ne.symm (by assumption))⟩, (List.forall_mem_cons.2 ⟨.inl rfl, (List.forall_mem_nil _)⟩)⟩)⟩)) ?_
              refine wpL_done (fun W13 hW13 => ?_)
              refine (show Code.wp _ _ _ _ _ from ?_)
              refine wp_region_L (W0 := w) [(g5, .cells #[.int .i64 ((placeX y2).1), .int .i64 ((placeX y2).2.1), .int .i64 ((placeX y2).2.2)] 141 (0, 0)), (g3, .cells (colC y2).toArray 65 (0, 0)), (g1, .map (addM kv3 es cl (placeX y2)) (cl + 1))] (hW13) ?_
              refine lp (v := .int .i64 (((k + 1) : Nat) : Int)) rfl rfl (run_bin rfl (vx := (.int .i64 ((k : Nat) : Int))) (vy := (.int .i64 ((1 : Nat) : Int))) (by kernel_rfl) (by kernel_rfl) fun w => bn_add (z := (k + 1)) rfl (wr_i64 (by omega)) w) ?_
              refine lm (v := .int .i64 (((k + 1) : Nat) : Int)) rfl rfl ?_
              refine wpL_done (fun W14 hW14 => ?_)
              go_roundw
              case rel =>
                repeat apply Exists.intro
                exact ⟨⟨k + 1, (addM kv3 es cl (placeX y2)), (cl + 1), (by omega), (by rw [hR, cols_step hy2, h4, decide_eq_false h5, map_snoc placeX hy2]; rfl), (by rw [map_snoc placeX hy2]; exact (SetM.add hS cl (placeX y2))), rfl, (hW14.sub (fun p hp => by first | exact hp | (simp only [List.mem_cons, List.mem_append, List.nil_append, List.not_mem_nil, or_assoc, or_false, false_or] at hp ⊢ <;> grind)))⟩, rfl⟩
              case measure => (show cs.length - (intOf (.int .i64 (((k + 1) : Nat) : Int))).toNat < cs.length - (intOf (.int .i64 ((k : Nat) : Int))).toNat); simp only [intOf]; omega
            | true =>
              have h5 : (placeX y2) ∈ ((cs.take k).map placeX) := of_decide_eq_true hd5
              clear hd5
              refine wp_cond_true rfl ?_
              refine wp_seq ?_
              refine wp_region_L (W0 := w) [(g5, .cells #[.int .i64 ((placeX y2).1), .int .i64 ((placeX y2).2.1), .int .i64 ((placeX y2).2.2)] 141 (0, 0)), (g3, .cells (colC y2).toArray 65 (0, 0)), (g1, .map es cl)] (hW12) ?_
              refine lm (v := .bool false) rfl rfl ?_
              refine wpL_done (fun W15 hW15 => ?_)
              refine (show Code.wp _ _ _ _ _ from ?_)
              refine wp_ret ?_
              try simp only [inBlock_ret, then_ret]
              refine bodyPost_ret (v := .bool false) ?_ rfl ?_
              · kernel_rfl
              · exact ⟨(bool_is (by unfold colsX; rw [decide_eq_false h1, decide_eq_false h2, hR, cols_step hy2, h4, decide_eq_true h5]; rfl)), hW15.1⟩
    | true =>
      have h2 : 200 < cs.length := of_decide_eq_true hd2
      clear hd2
      refine wp_cond_true rfl ?_
      refine wp_seq ?_
      refine wp_region_L (W0 := w) [] (hW2) ?_
      refine lm (v := .bool false) rfl rfl ?_
      refine wpL_done (fun W16 hW16 => ?_)
      refine (show Code.wp _ _ _ _ _ from ?_)
      refine wp_ret ?_
      try simp only [inBlock_ret, then_ret]
      refine bodyPost_ret (v := .bool false) ?_ rfl ?_
      · kernel_rfl
      · exact ⟨(bool_is (by unfold colsX; rw [decide_eq_false h1, decide_eq_true h2]; rfl)), hW16.1⟩
  | true =>
    have h1 : cs.length = 0 := of_decide_eq_true hd1
    clear hd1
    refine ln rfl ?_
    refine ln rfl ?_
    refine ln rfl ?_
    refine lm (v := .bool true) rfl rfl ?_
    refine wpL_done (fun W17 hW17 => ?_)
    refine (show Code.wp _ _ _ _ _ from ?_)
    refine wp_cond_true rfl ?_
    refine wp_seq ?_
    refine wp_region_L (W0 := w) [] (hW17) ?_
    refine lm (v := .bool false) rfl rfl ?_
    refine wpL_done (fun W18 hW18 => ?_)
    refine (show Code.wp _ _ _ _ _ from ?_)
    refine wp_ret ?_
    try simp only [inBlock_ret, then_ret]
    refine bodyPost_ret (v := .bool false) ?_ rfl ?_
    · kernel_rfl
    · exact ⟨(bool_is (by unfold colsX; rw [decide_eq_true h1]; rfl)), hW18.1⟩
end Go.Proofs.YthpooalhibedpaaDoor
namespace Go.Proofs.YthpooalhibedpaaDoor
open Go Go.RowKit Tw
set_option maxRecDepth 100000 in
set_option maxHeartbeats 4000000 in
theorem coversRight_any (os : List Cov) (po : Option Addr) (co : Nat) (w : World) (ho : SLV w po (os.flatMap covC)) (hr : RwR w os) (lr : ∀ o ∈ os, o.rows.length ≤ 4000000000) : Calls Tryd.prog 97 #[.slice po os.length co] w fun e w' => e = .returned (.bool (ovsX os)) ∧ Below w.heap.size w w' := by
  have HO := Lib.hid ho
  clear ho
  have HR := Lib.hid hr
  clear hr
  go_enter Tryd.func97, Tryd.ntmps97
  refine wp_seq ?_
  refine wp_region_L (W0 := w) [] (KS.start w) ?_
  refine lm (v := .bool false) rfl rfl ?_
  refine wpL_done (fun W1 hW1 => ?_)
  refine (show Code.wp _ _ _ _ _ from ?_)
  refine wp_seq ?_
  refine wp_seq ?_
  refine wp_region_L (W0 := w) [] (hW1) ?_
  refine lm (v := .slice po os.length co) rfl rfl ?_
  refine lp (v := .int .i64 ((os.length : Nat) : Int)) rfl rfl (run_lenL (p := po) (cap := co) (n := os.length) rfl Tryd.underlying23 (by kernel_rfl)) ?_
  refine lp (v := .bool (decide (40 < os.length))) rfl rfl (run_bin rfl (vx := (.int .i64 ((os.length : Nat) : Int))) (vy := (.int .i64 ((40 : Nat) : Int))) (by kernel_rfl) (by kernel_rfl) fun w => bn_gtr rfl w) ?_
  refine wpL_done (fun W2 hW2 => ?_)
  refine (show Code.wp _ _ _ _ _ from ?_)
  cases hd1 : (decide (40 < os.length)) with
  | false =>
    have h1 : ¬ (40 < os.length) := of_decide_eq_false hd1
    clear hd1
    refine wp_cond_false rfl ?_
    refine wp_skip ?_
    refine (show Code.wp _ _ _ _ _ from ?_)
    refine wp_seq ?_
    refine wp_region_L (W0 := w) [] (hW2) ?_
    refine wpL_new (fun g => .map (some g)) (obi := .map #[] 0) rfl rfl (fun _ => by kernel_rfl) (fun _ => by simp only [List.setIfInBounds_toArray, List.set_cons_succ, List.set_cons_zero] <;> rfl) fun g1 Bg1 Fg1 => ?_
    refine lm (v := .map (some g1)) rfl rfl ?_
    refine wpL_done (fun W3 hW3 => ?_)
    refine (show Code.wp _ _ _ _ _ from ?_)
    refine wp_seq ?_
    refine wp_seq ?_
    refine wp_region_L (W0 := w) [(g1, .map #[] 0)] (hW3) ?_
    refine lm (v := .slice po os.length co) rfl rfl ?_
    refine lp (v := .int .i64 ((os.length : Nat) : Int)) rfl rfl (run_lenL (p := po) (cap := co) (n := os.length) rfl Tryd.underlying23 (by kernel_rfl)) ?_
    refine lm (v := .int .i64 0) rfl rfl ?_
    refine wpL_done (fun W4 hW4 => ?_)
    refine (show Code.wp _ _ _ _ _ from ?_)
    refine wp_block ?_
    go_loopw [15] (fun u15 wr => ∃ (k : Nat) (es : Array MapEntry) (cl : Nat) (L : List I2), (k ≤ os.length) ∧ (ovsF [] os = ovsF L (os.drop k)) ∧ (SetM kv2 es L) ∧ u15 = .int .i64 ((k : Nat) : Int) ∧ KS w [(g1, .map es cl)] wr) (fun u15 _ => os.length - (intOf u15).toNat)
    case atStart => exact ⟨0, #[], 0, [], (Nat.zero_le _), rfl, SetM.nil, rfl, (hW4.sub (fun p hp => by first | exact hp | (simp only [List.mem_cons, List.mem_append, List.nil_append, List.not_mem_nil, or_assoc, or_false, false_or] at hp ⊢ <;> grind)))⟩
    case round =>
      obtain ⟨k, es, cl, L, hk, hR, hS, rfl, hL5⟩ := hrel
      refine wp_seq ?_
      refine wp_region_L (W0 := w) [(g1, .map es cl)] (hL5) ?_
      refine lp (v := .bool (decide (k < os.length))) rfl rfl (run_bin rfl (vx := (.int .i64 ((k : Nat) : Int))) (vy := (.int .i64 ((os.length : Nat) : Int))) (by kernel_rfl) (by kernel_rfl) fun w => bn_lss rfl w) ?_
      refine wpL_done (fun W6 hW6 => ?_)
      refine (show Code.wp _ _ _ _ _ from ?_)
      refine wp_seq ?_
      cases hd2 : (decide (k < os.length)) with
      | false =>
        have h2 : ¬ (k < os.length) := of_decide_eq_false hd2
        clear hd2
        refine wp_cond_false rfl ?_
        refine wp_exit ?_
        refine (show Code.wp _ _ _ _ _ from ?_)
        refine wp_seq ?_
        refine wp_region_L (W0 := w) [(g1, .map es cl)] (hW6) ?_
        refine lm (v := .bool true) rfl rfl ?_
        refine wpL_done (fun W7 hW7 => ?_)
        refine (show Code.wp _ _ _ _ _ from ?_)
        refine wp_ret ?_
        try simp only [inBlock_ret, then_ret]
        refine bodyPost_ret (v := .bool true) ?_ rfl ?_
        · kernel_rfl
        · exact ⟨(bool_is (by unfold ovsX; rw [decide_eq_false h1, hR, ovs_end h2]; rfl)), hW7.1⟩
      | true =>
        have h2 : k < os.length := of_decide_eq_true hd2
        clear hd2
        refine wp_cond_true rfl ?_
        refine wp_skip ?_
        refine (show Code.wp _ _ _ _ _ from ?_)
        refine wp_seq ?_
        refine wp_block ?_
        refine wp_seq ?_
        refine wp_region_L (W0 := w) [(g1, .map es cl)] (hW6) ?_
        obtain ⟨y2, g2_, f2_, hy2, hp2, hc2⟩ := RL.at (RL.base HO.out) covC_len (by decide) (hW6.sub (fun _ h => by cases h)) (k := k) (by omega)
        refine lp (v := .pointer (some ⟨g2_, f2_ + k * 2, none⟩)) rfl rfl (run_idxQ (p := po) (cap := co) (n := os.length) (j := .i64) (k := k) (sz := 2) rfl Tryd.underlying23 (by kernel_rfl) (by kernel_rfl) hp2 (by kernel_rfl) (by omega)) ?_
        refine lv (v := .agg (covC y2).toArray) rfl rfl (yb_rs (off := f2_ + k * 2) (cs := covC y2) rfl (by kernel_rfl) (fun W hW => hc2 W (hW.sub (fun _ h => by cases h))) Tryd.underlying67 rfl (by kernel_rfl)) ?_
        refine wpL_new (fun g => .pointer (some ⟨g, 0, none⟩)) (obi := .cells #[.int .i64 0, .slice none 0 0] 67 (0, 0)) rfl rfl (fun _ => by kernel_rfl) (fun _ => by simp only [List.setIfInBounds_toArray, List.set_cons_succ, List.set_cons_zero] <;> rfl) fun g3 Bg3 Fg3 => ?_
        obtain dj4_0 : g1 ≠ g3 := by simpa only [dj_app_l, dj_app_r, dj_cons_l, dj_cons_r, dj_nil_l, dj_nil_r, dk_app, dk_cons, dk_nil, and_true, true_and, and_assoc] using (show Dk g3 [(g1, .map es cl)] from Fg3)
        refine wpL_s [(g3, .cells (covC y2).toArray 67 (0, 0)), (g1, .map es cl)] rfl rfl (st_row (off := 0) (v := .agg (covC y2).toArray) rfl (by kernel_rfl) (by kernel_rfl) (.head _) Bg3 (by kernel_rfl) (by first | (simp [Value.cells]; done) | exact Nat.le_of_ble_eq_true rfl) (fun v hv => covC_one y2 v hv) (by kernel_rfl) (List.forall_mem_cons.2 ⟨.inl rfl, (List.forall_mem_cons.2 ⟨.inr ⟨(.tail _ (.head _)), (by first | assumption | exact Ne.symm (by assumption))⟩, (List.forall_mem_nil _)⟩)⟩)) ?_
        refine wpL_done (fun W8 hW8 => ?_)
        refine (show Code.wp _ _ _ _ _ from ?_)
        refine wp_seq ?_
        refine wp_seq ?_
        refine wp_region_L (W0 := w) [(g3, .cells (covC y2).toArray 67 (0, 0)), (g1, .map es cl)] (hW8) ?_
        refine lv (v := .agg (covC y2).toArray) rfl rfl (yb_load (n := 2) (off := 0) rfl (by kernel_rfl) (.head _) Tryd.underlying67 rfl (by kernel_rfl) (by first | (simp [Value.cells]; done) | exact Nat.le_of_ble_eq_true rfl) (by kernel_rfl)) ?_
        refine lv (v := .bool (ovX y2)) rfl rfl (yb_call (f := 113) (args := #[.agg (covC y2).toArray]) (fun _ => by kernel_rfl) fun W hW => coverRight_any y2 (lr y2 (List.mem_of_getElem? hy2)) W ((RL.base (HR.out y2 (List.mem_of_getElem? hy2))) _ (hW.sub (fun _ h => by cases h)))) ?_
        refine lp (v := .bool (!(ovX y2))) rfl rfl (run_un rfl (by kernel_rfl) fun w => un_not w) ?_
        refine wpL_done (fun W9 hW9 => ?_)
        refine (show Code.wp _ _ _ _ _ from ?_)
        cases h3 : (ovX y2) with
        | false =>
          refine wp_cond_true rfl ?_
          refine wp_seq ?_
          refine wp_region_L (W0 := w) [(g3, .cells (covC y2).toArray 67 (0, 0)), (g1, .map es cl)] (hW9) ?_
          refine lm (v := .bool false) rfl rfl ?_
          refine wpL_done (fun W10 hW10 => ?_)
          refine (show Code.wp _ _ _ _ _ from ?_)
          refine wp_ret ?_
          try simp only [inBlock_ret, then_ret]
          refine bodyPost_ret (v := .bool false) ?_ rfl ?_
          · kernel_rfl
          · exact ⟨(bool_is (by unfold ovsX; rw [decide_eq_false h1, hR, ovs_step hy2, h3]; rfl)), hW10.1⟩
        | true =>
          refine wp_cond_false rfl ?_
          refine wp_skip ?_
          refine (show Code.wp _ _ _ _ _ from ?_)
          refine wp_seq ?_
          refine wp_region_L (W0 := w) [(g3, .cells (covC y2).toArray 67 (0, 0)), (g1, .map es cl)] (hW9) ?_
          refine lm (v := .pointer (some ⟨g3, 1, none⟩)) rfl rfl ?_
          refine lv (v := .slice y2.rp y2.rows.length y2.rc) rfl rfl (yb_cell (off := 1) rfl (by kernel_rfl) (.head _) Tryd.underlying63 rfl (by kernel_rfl)) ?_
          refine lp (v := .int .i64 ((y2.rows.length : Nat) : Int)) rfl rfl (run_lenL (p := y2.rp) (cap := y2.rc) (n := y2.rows.length) rfl Tryd.underlying63 (by kernel_rfl)) ?_
          refine lm (v := .int .i64 0) rfl rfl ?_
          refine wpL_done (fun W11 hW11 => ?_)
          refine (show Code.wp _ _ _ _ _ from ?_)
          refine wp_block ?_
          have lz2 := lr y2 (List.mem_of_getElem? hy2)
          go_loopw [25] (fun u25 wr => ∃ (m : Nat) (es2 : Array MapEntry) (cl2 : Nat), (m ≤ y2.rows.length) ∧ (freshF y2.bay L y2.rows = freshF y2.bay (L ++ (y2.rows.take m).map (fun r => (y2.bay, r))) (y2.rows.drop m)) ∧ (SetM kv2 es2 (L ++ (y2.rows.take m).map (fun r => (y2.bay, r)))) ∧ u25 = .int .i64 ((m : Nat) : Int) ∧ KS w [(g3, .cells (covC y2).toArray 67 (0, 0)), (g1, .map es2 cl2)] wr) (fun u25 _ => y2.rows.length - (intOf u25).toNat)
          case atStart => exact ⟨0, es, cl, (Nat.zero_le _), (by rw [List.take_zero, List.map_nil, List.append_nil]; rfl), (by rw [List.take_zero, List.map_nil, List.append_nil]; exact hS), rfl, (hW11.sub (fun p hp => by first | exact hp | (simp only [List.mem_cons, List.mem_append, List.nil_append, List.not_mem_nil, or_assoc, or_false, false_or] at hp ⊢ <;> grind)))⟩
          case round =>
            obtain ⟨m, es2, cl2, hm, hI, hT, rfl, hL12⟩ := hrel
            refine wp_seq ?_
            refine wp_region_L (W0 := w) [(g3, .cells (covC y2).toArray 67 (0, 0)), (g1, .map es2 cl2)] (hL12) ?_
            refine lp (v := .bool (decide (m < y2.rows.length))) rfl rfl (run_bin rfl (vx := (.int .i64 ((m : Nat) : Int))) (vy := (.int .i64 ((y2.rows.length : Nat) : Int))) (by kernel_rfl) (by kernel_rfl) fun w => bn_lss rfl w) ?_
            refine wpL_done (fun W13 hW13 => ?_)
            refine (show Code.wp _ _ _ _ _ from ?_)
            refine wp_seq ?_
            cases hd4 : (decide (m < y2.rows.length)) with
            | false =>
              have h4 : ¬ (m < y2.rows.length) := of_decide_eq_false hd4
              clear hd4
              refine wp_cond_false rfl ?_
              refine wp_exit ?_
              refine (show Code.wp _ _ _ _ _ from ?_)
              refine wp_region_L (W0 := w) [(g3, .cells (covC y2).toArray 67 (0, 0)), (g1, .map es2 cl2)] (hW13) ?_
              refine lp (v := .int .i64 (((k + 1) : Nat) : Int)) rfl rfl (run_bin rfl (vx := (.int .i64 ((k : Nat) : Int))) (vy := (.int .i64 ((1 : Nat) : Int))) (by kernel_rfl) (by kernel_rfl) fun w => bn_add (z := (k + 1)) rfl (wr_i64 (by omega)) w) ?_
              refine lm (v := .int .i64 (((k + 1) : Nat) : Int)) rfl rfl ?_
              refine wpL_done (fun W14 hW14 => ?_)
              go_roundw
              case rel =>
                repeat apply Exists.intro
                exact ⟨⟨k + 1, es2, cl2, (L ++ y2.rows.map (fun r => (y2.bay, r))), (by omega), (by rw [hR, ovs_step hy2, h3, hI, fresh_end h4]; rfl), (by rw [show y2.rows.take m = y2.rows from List.take_of_length_le (by omega)] at hT; exact hT), rfl, (hW14.sub (fun p hp => by first | exact hp | (simp only [List.mem_cons, List.mem_append, List.nil_append, List.not_mem_nil, or_assoc, or_false, false_or] at hp ⊢ <;> grind)))⟩, rfl⟩
              case measure => (show os.length - (intOf (.int .i64 (((k + 1) : Nat) : Int))).toNat < os.length - (intOf (.int .i64 ((k : Nat) : Int))).toNat); simp only [intOf]; omega
            | true =>
              have h4 : m < y2.rows.length := of_decide_eq_true hd4
              clear hd4
              refine wp_cond_true rfl ?_
              refine wp_skip ?_
              refine (show Code.wp _ _ _ _ _ from ?_)
              refine wp_seq ?_
              refine wp_block ?_
              refine wp_seq ?_
              refine wp_region_L (W0 := w) [(g3, .cells (covC y2).toArray 67 (0, 0)), (g1, .map es2 cl2)] (hW13) ?_
              obtain ⟨y5, g5_, f5_, hy5, hp5, hc5⟩ := RL.at (RL.base (HR.out y2 (List.mem_of_getElem? hy2))) inC_len (by decide) (hW13.sub (fun _ h => by cases h)) (k := m) (by omega)
              refine lp (v := .pointer (some ⟨g5_, f5_ + m * 1, none⟩)) rfl rfl (run_idxQ (p := y2.rp) (cap := y2.rc) (n := y2.rows.length) (j := .i64) (k := m) (sz := 1) rfl Tryd.underlying63 (by kernel_rfl) (by kernel_rfl) hp5 (by kernel_rfl) (by omega)) ?_
              refine lv (v := .int .i64 y5) rfl rfl (yb_rf (v := .int .i64 y5) rfl (by kernel_rfl) (fun W hW => hc5 W (hW.sub (fun _ h => by cases h)) 0 _ rfl) Tryd.underlying3 rfl) ?_
              refine lm (v := .int .i64 y5) rfl rfl ?_
              refine wpL_done (fun W15 hW15 => ?_)
              refine (show Code.wp _ _ _ _ _ from ?_)
              refine wp_seq ?_
              refine wp_region_L (W0 := w) [(g3, .cells (covC y2).toArray 67 (0, 0)), (g1, .map es2 cl2)] (hW15) ?_
              refine lm (v := .pointer (some ⟨g3, 0, none⟩)) rfl rfl ?_
              refine lv (v := .int .i64 y2.bay) rfl rfl (yb_cell (off := 0) rfl (by kernel_rfl) (.head _) Tryd.underlying3 rfl (by kernel_rfl)) ?_
              refine lm (v := .int .i64 y5) rfl rfl ?_
              refine lm (v := .agg #[.int .i64 y2.bay, .int .i64 y5]) rfl rfl ?_
              refine wpL_new (fun g => .pointer (some ⟨g, 0, none⟩)) (obi := .cells #[.int .i64 0, .int .i64 0] 164 (0, 0)) rfl rfl (fun _ => by kernel_rfl) (fun _ => by simp only [List.setIfInBounds_toArray, List.set_cons_succ, List.set_cons_zero] <;> rfl) fun g6 Bg6 Fg6 => ?_
              obtain ⟨dj7_0, dj7_1⟩ : g3 ≠ g6 ∧ g1 ≠ g6 := by simpa only [dj_app_l, dj_app_r, dj_cons_l, dj_cons_r, dj_nil_l, dj_nil_r, dk_app, dk_cons, dk_nil, and_true, true_and, and_assoc] using (show Dk g6 [(g3, .cells (covC y2).toArray 67 (0, 0)), (g1, .map es2 cl2)] from Fg6)
              refine wpL_s [(g6, .cells #[.int .i64 y2.bay, .int .i64 y5] 164 (0, 0)), (g3, .cells (covC y2).toArray 67 (0, 0)), (g1, .map es2 cl2)] rfl rfl (st_row (off := 0) (v := .agg #[.int .i64 y2.bay, .int .i64 y5]) rfl (by kernel_rfl) (by kernel_rfl) (.head _) Bg6 (by kernel_rfl) (by first | (simp [Value.cells]; done) | exact Nat.le_of_ble_eq_true rfl) (by intro v hv; simp [Value.cells] at hv; first | (subst hv; rfl) | (rcases hv with rfl | rfl <;> rfl)) (by kernel_rfl) (List.forall_mem_cons.2 ⟨.inl rfl, (List.forall_mem_cons.2 ⟨.inr ⟨(.tail _ (.head _)), (by first | assumption | exact Ne.symm (by assumption))⟩, (List.forall_mem_cons.2 ⟨.inr ⟨(.tail _ (.tail _ (.head _))), (by first | assumption | exact Ne.symm (by assumption))⟩, (List.forall_mem_nil _)⟩)⟩)⟩)) ?_
              refine wpL_done (fun W16 hW16 => ?_)
              refine (show Code.wp _ _ _ _ _ from ?_)
              refine wp_seq ?_
              refine wp_seq ?_
              refine wp_region_L (W0 := w) [(g6, .cells #[.int .i64 y2.bay, .int .i64 y5] 164 (0, 0)), (g3, .cells (covC y2).toArray 67 (0, 0)), (g1, .map es2 cl2)] (hW16) ?_
              refine lm (v := .map (some g1)) rfl rfl ?_
              refine lv (v := .agg #[.int .i64 y2.bay, .int .i64 y5]) rfl rfl (yb_load (n := 2) (off := 0) rfl (by kernel_rfl) (.head _) Tryd.underlying164 rfl (by kernel_rfl) (by first | (simp [Value.cells]; done) | exact Nat.le_of_ble_eq_true rfl) (by kernel_rfl)) ?_
              refine lv (v := .bool (decide ((y2.bay, y5) ∈ (L ++ (y2.rows.take m).map (fun r => (y2.bay, r)))))) rfl rfl (yb_lookset key2 (k := (y2.bay, y5)) (L := (L ++ (y2.rows.take m).map (fun r => (y2.bay, r)))) rfl (by kernel_rfl) (by kernel_rfl) (.tail _ (.tail _ (.head _))) Tryd.underlying162 (fun _ => by kernel_rfl) hT decide_eq_true_iff) ?_
              refine wpL_done (fun W17 hW17 => ?_)
              refine (show Code.wp _ _ _ _ _ from ?_)
              cases hd5 : (decide ((y2.bay, y5) ∈ (L ++ (y2.rows.take m).map (fun r => (y2.bay, r))))) with
              | false =>
                have h5 : ¬ ((y2.bay, y5) ∈ (L ++ (y2.rows.take m).map (fun r => (y2.bay, r)))) := of_decide_eq_false hd5
                clear hd5
                refine wp_cond_false rfl ?_
                refine wp_skip ?_
                refine (show Code.wp _ _ _ _ _ from ?_)
                refine wp_region_L (W0 := w) [(g6, .cells #[.int .i64 y2.bay, .int .i64 y5] 164 (0, 0)), (g3, .cells (covC y2).toArray 67 (0, 0)), (g1, .map es2 cl2)] (hW17) ?_
                refine lm (v := .map (some g1)) rfl rfl ?_
                refine lv (v := .agg #[.int .i64 y2.bay, .int .i64 y5]) rfl rfl (yb_load (n := 2) (off := 0) rfl (by kernel_rfl) (.head _) Tryd.underlying164 rfl (by kernel_rfl) (by first | (simp [Value.cells]; done) | exact Nat.le_of_ble_eq_true rfl) (by kernel_rfl)) ?_
                refine wpL_s [(g6, .cells #[.int .i64 y2.bay, .int .i64 y5] 164 (0, 0)), (g3, .cells (covC y2).toArray 67 (0, 0)), (g1, .map (addM kv2 es2 cl2 (y2.bay, y5)) (cl2 + 1))] rfl rfl (st_addm key2 (k := (y2.bay, y5)) (L := (L ++ (y2.rows.take m).map (fun r => (y2.bay, r)))) rfl (by kernel_rfl) (by kernel_rfl) (by kernel_rfl) (.tail _ (.tail _ (.head _))) Bg1 Tryd.underlying162 hT h5 (List.forall_mem_cons.2 ⟨.inr ⟨(.head _), (by first | assumption | exact Ne.symm (by assumption))⟩, (List.forall_mem_cons.2 ⟨.inr ⟨(.tail _ (.head _)), (by first | assumption | exact Ne.symm (by assumption))⟩, (List.forall_mem_cons.2 ⟨.inl rfl, (List.forall_mem_nil _)⟩)⟩)⟩)) ?_
                refine wpL_done (fun W18 hW18 => ?_)
                refine (show Code.wp _ _ _ _ _ from ?_)
                refine wp_region_L (W0 := w) [(g6, .cells #[.int .i64 y2.bay, .int .i64 y5] 164 (0, 0)), (g3, .cells (covC y2).toArray 67 (0, 0)), (g1, .map (addM kv2 es2 cl2 (y2.bay, y5)) (cl2 + 1))] (hW18) ?_
                refine lp (v := .int .i64 (((m + 1) : Nat) : Int)) rfl rfl (run_bin rfl (vx := (.int .i64 ((m : Nat) : Int))) (vy := (.int .i64 ((1 : Nat) : Int))) (by kernel_rfl) (by kernel_rfl) fun w => bn_add (z := (m + 1)) rfl (wr_i64 (by omega)) w) ?_
                refine lm (v := .int .i64 (((m + 1) : Nat) : Int)) rfl rfl ?_
                refine wpL_done (fun W19 hW19 => ?_)
                go_roundw
                case rel =>
                  repeat apply Exists.intro
                  exact ⟨⟨m + 1, (addM kv2 es2 cl2 (y2.bay, y5)), (cl2 + 1), (by omega), (by rw [hI, fresh_step hy5, decide_eq_false h5, map_snoc (fun r => (y2.bay, r)) hy5, List.append_assoc]; rfl), (by rw [map_snoc (fun r => (y2.bay, r)) hy5, ← List.append_assoc]; exact (SetM.add hT cl2 (y2.bay, y5))), rfl, (hW19.sub (fun p hp => by first | exact hp | (simp only [List.mem_cons, List.mem_append, List.nil_append, List.not_mem_nil, or_assoc, or_false, false_or] at hp ⊢ <;> grind)))⟩, rfl⟩
                case measure => (show y2.rows.length - (intOf (.int .i64 (((m + 1) : Nat) : Int))).toNat < y2.rows.length - (intOf (.int .i64 ((m : Nat) : Int))).toNat); simp only [intOf]; omega
              | true =>
                have h5 : (y2.bay, y5) ∈ (L ++ (y2.rows.take m).map (fun r => (y2.bay, r))) := of_decide_eq_true hd5
                clear hd5
                refine wp_cond_true rfl ?_
                refine wp_seq ?_
                refine wp_region_L (W0 := w) [(g6, .cells #[.int .i64 y2.bay, .int .i64 y5] 164 (0, 0)), (g3, .cells (covC y2).toArray 67 (0, 0)), (g1, .map es2 cl2)] (hW17) ?_
                refine lm (v := .bool false) rfl rfl ?_
                refine wpL_done (fun W20 hW20 => ?_)
                refine (show Code.wp _ _ _ _ _ from ?_)
                refine wp_ret ?_
                try simp only [inBlock_ret, then_ret]
                refine bodyPost_ret (v := .bool false) ?_ rfl ?_
                · kernel_rfl
                · exact ⟨(bool_is (by unfold ovsX; rw [decide_eq_false h1, hR, ovs_step hy2, h3, hI, fresh_step hy5, decide_eq_true h5]; rfl)), hW20.1⟩
  | true =>
    have h1 : 40 < os.length := of_decide_eq_true hd1
    clear hd1
    refine wp_cond_true rfl ?_
    refine wp_seq ?_
    refine wp_region_L (W0 := w) [] (hW2) ?_
    refine lm (v := .bool false) rfl rfl ?_
    refine wpL_done (fun W21 hW21 => ?_)
    refine (show Code.wp _ _ _ _ _ from ?_)
    refine wp_ret ?_
    try simp only [inBlock_ret, then_ret]
    refine bodyPost_ret (v := .bool false) ?_ rfl ?_
    · kernel_rfl
    · exact ⟨(bool_is (by unfold ovsX; rw [decide_eq_true h1]; rfl)), hW21.1⟩
set_option maxRecDepth 100000 in
set_option maxHeartbeats 4000000 in
theorem Right_any (cs : List Col) (pc : Option Addr) (cc : Nat) (lc : cs.length ≤ 4000000000) (os : List Cov) (po : Option Addr) (co : Nat) (lo : os.length ≤ 4000000000) (t : Tl) (w : World) (hc : SLV w pc (cs.flatMap colC)) (ho : SLV w po (os.flatMap covC)) (hr : RwR w os) (lr : ∀ o ∈ os, o.rows.length ≤ 4000000000) (hq : PlR w cs) (lq : ∀ c ∈ cs, c.plugs.length ≤ 4000000000) : Calls Tryd.prog 66 #[.agg (shC (.slice pc cs.length cc) (.slice po os.length co) t).toArray] w fun e w' => e = .returned (.bool (rightX cs os)) ∧ Below w.heap.size w w' := by
  have HC := Lib.hid hc
  clear hc
  have HO := Lib.hid ho
  clear ho
  have HR := Lib.hid hr
  clear hr
  have HQ := Lib.hid hq
  clear hq
  go_enter Tryd.func66, Tryd.ntmps66
  refine wp_seq ?_
  refine wp_region_L (W0 := w) [] (KS.start w) ?_
  refine wpL_new (fun g => .pointer (some ⟨g, 0, none⟩)) (obi := .cells (shC (.slice pc cs.length cc) (.slice po os.length co) t).toArray 32 (0, 0)) rfl rfl (fun _ => by kernel_rfl) (fun _ => by simp only [List.setIfInBounds_toArray, List.set_cons_succ, List.set_cons_zero] <;> rfl) fun g1 Bg1 Fg1 => ?_
  refine lm (v := .bool false) rfl rfl ?_
  refine wpL_done (fun W1 hW1 => ?_)
  refine (show Code.wp _ _ _ _ _ from ?_)
  refine wp_seq ?_
  refine wp_region_L (W0 := w) [(g1, .cells (shC (.slice pc cs.length cc) (.slice po os.length co) t).toArray 32 (0, 0))] (hW1) ?_
  refine lm (v := .pointer (some ⟨g1, 0, none⟩)) rfl rfl ?_
  refine lv (v := .slice pc cs.length cc) rfl rfl (yb_cell (off := 0) rfl (by kernel_rfl) (.head _) Tryd.underlying22 rfl (by kernel_rfl)) ?_
  refine lv (v := .bool (colsX cs)) rfl rfl (yb_call (f := 96) (args := #[.slice pc cs.length cc]) (fun _ => by kernel_rfl) fun W hW => columnsRight_any cs pc cc W ((RL.base HC.out) _ (hW.sub (fun _ h => by cases h))) (HQ.out.keep hW.1) lq) ?_
  refine lm (v := .bool (colsX cs)) rfl rfl ?_
  cases h1 : (colsX cs) with
  | false =>
    refine ln rfl ?_
    refine ln rfl ?_
    refine ln rfl ?_
    refine lm (v := .bool false) rfl rfl ?_
    refine lm (v := .bool false) rfl rfl ?_
    refine wpL_done (fun W2 hW2 => ?_)
    refine (show Code.wp _ _ _ _ _ from ?_)
    refine wp_ret ?_
    try simp only [inBlock_ret, then_ret]
    refine bodyPost_ret (v := .bool false) ?_ rfl ?_
    · kernel_rfl
    · exact ⟨(bool_is (by unfold rightX; simp [*])), hW2.1⟩
  | true =>
    refine lm (v := .pointer (some ⟨g1, 1, none⟩)) rfl rfl ?_
    refine lv (v := .slice po os.length co) rfl rfl (yb_cell (off := 1) rfl (by kernel_rfl) (.head _) Tryd.underlying23 rfl (by kernel_rfl)) ?_
    refine lv (v := .bool (ovsX os)) rfl rfl (yb_call (f := 97) (args := #[.slice po os.length co]) (fun _ => by kernel_rfl) fun W hW => coversRight_any os po co W ((RL.base HO.out) _ (hW.sub (fun _ h => by cases h))) (HR.out.keep hW.1) lr) ?_
    refine lm (v := .bool (ovsX os)) rfl rfl ?_
    refine lm (v := .bool (ovsX os)) rfl rfl ?_
    refine wpL_done (fun W3 hW3 => ?_)
    refine (show Code.wp _ _ _ _ _ from ?_)
    refine wp_ret ?_
    try simp only [inBlock_ret, then_ret]
    refine bodyPost_ret (v := .bool (ovsX os)) ?_ rfl ?_
    · kernel_rfl
    · exact ⟨(bool_is (by unfold rightX; simp [*])), hW3.1⟩
end Go.Proofs.YthpooalhibedpaaDoor
namespace Go.Proofs.YthpooalhibedpaaDoor
open Go Go.RowKit Tw
set_option maxRecDepth 100000 in
set_option maxHeartbeats 4000000 in
theorem Example_any {W0 : Base} (w : World) (hw : KS W0 [] w) : Calls Tryd.prog 37 #[] w fun e w' => ∃ v T, e = .returned v ∧ KS W0 T w' ∧ ShipT W0 exCs [(0, [0, 1])] v T := by
  go_enter Tryd.func37, Tryd.ntmps37
  refine wp_seq ?_
  refine wp_region_L (W0 := W0) [] (hw) ?_
  refine wpL_new (fun g => .pointer (some ⟨g, 0, none⟩)) (obi := .cells (shC (.slice none 0 0) (.slice none 0 0) tl0).toArray 32 (0, 0)) rfl rfl (fun _ => by kernel_rfl) (fun _ => by simp only [List.setIfInBounds_toArray, List.set_cons_succ, List.set_cons_zero] <;> rfl) fun g1 Bg1 Fg1 => ?_
  refine wpL_done (fun W1 hW1 => ?_)
  refine (show Code.wp _ _ _ _ _ from ?_)
  refine wp_seq ?_
  refine wp_region_L (W0 := W0) [(g1, .cells (shC (.slice none 0 0) (.slice none 0 0) tl0).toArray 32 (0, 0))] (hW1) ?_
  refine lm (v := .agg #[.int .i64 0, .int .i64 0, .bool false, .int .i64 2, .int .i64 0, .int .i64 0, .int .i64 0, .int .i64 0, .slice none 0 0, .int .i64 0, .int .i64 0, .int .i64 0]) rfl rfl ?_
  refine lm (v := .agg #[.int .i64 0, .int .i64 1, .bool false, .int .i64 2, .int .i64 0, .int .i64 0, .int .i64 0, .int .i64 0, .slice none 0 0, .int .i64 0, .int .i64 0, .int .i64 0]) rfl rfl ?_
  refine lm (v := .agg #[.int .i64 0, .int .i64 0, .bool true, .int .i64 3, .int .i64 0, .int .i64 0, .int .i64 0, .int .i64 0, .slice none 0 0, .int .i64 0, .int .i64 0, .int .i64 0]) rfl rfl ?_
  refine lm (v := .agg #[.int .i64 0, .int .i64 1, .bool true, .int .i64 3, .int .i64 0, .int .i64 0, .int .i64 0, .int .i64 0, .slice none 0 0, .int .i64 0, .int .i64 0, .int .i64 0]) rfl rfl ?_
  refine lm (v := .agg #[.int .i64 1, .int .i64 1, .bool true, .int .i64 4, .int .i64 0, .int .i64 0, .int .i64 0, .int .i64 0, .slice none 0 0, .int .i64 0, .int .i64 0, .int .i64 0]) rfl rfl ?_
  refine wpL_new (fun g => .slice (some ⟨g, 0, none⟩) 5 5) (obi := .cells #[.int .i64 0, .int .i64 0, .bool false, .int .i64 2, .int .i64 0, .int .i64 0, .int .i64 0, .int .i64 0, .slice none 0 0, .int .i64 0, .int .i64 0, .int .i64 0, .int .i64 0, .int .i64 1, .bool false, .int .i64 2, .int .i64 0, .int .i64 0, .int .i64 0, .int .i64 0, .slice none 0 0, .int .i64 0, .int .i64 0, .int .i64 0, .int .i64 0, .int .i64 0, .bool true, .int .i64 3, .int .i64 0, .int .i64 0, .int .i64 0, .int .i64 0, .slice none 0 0, .int .i64 0, .int .i64 0, .int .i64 0, .int .i64 0, .int .i64 1, .bool true, .int .i64 3, .int .i64 0, .int .i64 0, .int .i64 0, .int .i64 0, .slice none 0 0, .int .i64 0, .int .i64 0, .int .i64 0, .int .i64 1, .int .i64 1, .bool true, .int .i64 4, .int .i64 0, .int .i64 0, .int .i64 0, .int .i64 0, .slice none 0 0, .int .i64 0, .int .i64 0, .int .i64 0] 65 (0, 0)) rfl rfl (fun _ => by kernel_rfl) (fun _ => by simp only [List.setIfInBounds_toArray, List.set_cons_succ, List.set_cons_zero] <;> rfl) fun g2 Bg2 Fg2 => ?_
  obtain dj3_0 : g1 ≠ g2 := by simpa only [dj_app_l, dj_app_r, dj_cons_l, dj_cons_r, dj_nil_l, dj_nil_r, dk_app, dk_cons, dk_nil, and_true, true_and, and_assoc] using (show Dk g2 [(g1, .cells (shC (.slice none 0 0) (.slice none 0 0) tl0).toArray 32 (0, 0))] from Fg2)
  refine wpL_new (fun g => .slice (some ⟨g, 0, none⟩) 2 2) (obi := .cells #[.int .i64 0, .int .i64 1] 3 (0, 0)) rfl rfl (fun _ => by kernel_rfl) (fun _ => by simp only [List.setIfInBounds_toArray, List.set_cons_succ, List.set_cons_zero] <;> rfl) fun g4 Bg4 Fg4 => ?_
  obtain ⟨dj5_0, dj5_1⟩ : g2 ≠ g4 ∧ g1 ≠ g4 := by simpa only [dj_app_l, dj_app_r, dj_cons_l, dj_cons_r, dj_nil_l, dj_nil_r, dk_app, dk_cons, dk_nil, and_true, true_and, and_assoc] using (show Dk g4 [(g2, .cells #[.int .i64 0, .int .i64 0, .bool false, .int .i64 2, .int .i64 0, .int .i64 0, .int .i64 0, .int .i64 0, .slice none 0 0, .int .i64 0, .int .i64 0, .int .i64 0, .int .i64 0, .int .i64 1, .bool false, .int .i64 2, .int .i64 0, .int .i64 0, .int .i64 0, .int .i64 0, .slice none 0 0, .int .i64 0, .int .i64 0, .int .i64 0, .int .i64 0, .int .i64 0, .bool true, .int .i64 3, .int .i64 0, .int .i64 0, .int .i64 0, .int .i64 0, .slice none 0 0, .int .i64 0, .int .i64 0, .int .i64 0, .int .i64 0, .int .i64 1, .bool true, .int .i64 3, .int .i64 0, .int .i64 0, .int .i64 0, .int .i64 0, .slice none 0 0, .int .i64 0, .int .i64 0, .int .i64 0, .int .i64 1, .int .i64 1, .bool true, .int .i64 4, .int .i64 0, .int .i64 0, .int .i64 0, .int .i64 0, .slice none 0 0, .int .i64 0, .int .i64 0, .int .i64 0] 65 (0, 0)), (g1, .cells (shC (.slice none 0 0) (.slice none 0 0) tl0).toArray 32 (0, 0))] from Fg4)
  refine lm (v := .agg #[.int .i64 0, .slice (some ⟨g4, 0, none⟩) 2 2]) rfl rfl ?_
  refine wpL_new (fun g => .slice (some ⟨g, 0, none⟩) 1 1) (obi := .cells #[.int .i64 0, .slice (some ⟨g4, 0, none⟩) 2 2] 67 (0, 0)) rfl rfl (fun _ => by kernel_rfl) (fun _ => by simp only [List.setIfInBounds_toArray, List.set_cons_succ, List.set_cons_zero] <;> rfl) fun g6 Bg6 Fg6 => ?_
  obtain ⟨dj7_0, dj7_1, dj7_2⟩ : g4 ≠ g6 ∧ g2 ≠ g6 ∧ g1 ≠ g6 := by simpa only [dj_app_l, dj_app_r, dj_cons_l, dj_cons_r, dj_nil_l, dj_nil_r, dk_app, dk_cons, dk_nil, and_true, true_and, and_assoc] using (show Dk g6 [(g4, .cells #[.int .i64 0, .int .i64 1] 3 (0, 0)), (g2, .cells #[.int .i64 0, .int .i64 0, .bool false, .int .i64 2, .int .i64 0, .int .i64 0, .int .i64 0, .int .i64 0, .slice none 0 0, .int .i64 0, .int .i64 0, .int .i64 0, .int .i64 0, .int .i64 1, .bool false, .int .i64 2, .int .i64 0, .int .i64 0, .int .i64 0, .int .i64 0, .slice none 0 0, .int .i64 0, .int .i64 0, .int .i64 0, .int .i64 0, .int .i64 0, .bool true, .int .i64 3, .int .i64 0, .int .i64 0, .int .i64 0, .int .i64 0, .slice none 0 0, .int .i64 0, .int .i64 0, .int .i64 0, .int .i64 0, .int .i64 1, .bool true, .int .i64 3, .int .i64 0, .int .i64 0, .int .i64 0, .int .i64 0, .slice none 0 0, .int .i64 0, .int .i64 0, .int .i64 0, .int .i64 1, .int .i64 1, .bool true, .int .i64 4, .int .i64 0, .int .i64 0, .int .i64 0, .int .i64 0, .slice none 0 0, .int .i64 0, .int .i64 0, .int .i64 0] 65 (0, 0)), (g1, .cells (shC (.slice none 0 0) (.slice none 0 0) tl0).toArray 32 (0, 0))] from Fg6)
  refine lm (v := .agg (shC (.slice (some ⟨g2, 0, none⟩) 5 5) (.slice (some ⟨g6, 0, none⟩) 1 1) tl0).toArray) rfl rfl ?_
  refine wpL_s [(g6, .cells #[.int .i64 0, .slice (some ⟨g4, 0, none⟩) 2 2] 67 (0, 0)), (g4, .cells #[.int .i64 0, .int .i64 1] 3 (0, 0)), (g2, .cells #[.int .i64 0, .int .i64 0, .bool false, .int .i64 2, .int .i64 0, .int .i64 0, .int .i64 0, .int .i64 0, .slice none 0 0, .int .i64 0, .int .i64 0, .int .i64 0, .int .i64 0, .int .i64 1, .bool false, .int .i64 2, .int .i64 0, .int .i64 0, .int .i64 0, .int .i64 0, .slice none 0 0, .int .i64 0, .int .i64 0, .int .i64 0, .int .i64 0, .int .i64 0, .bool true, .int .i64 3, .int .i64 0, .int .i64 0, .int .i64 0, .int .i64 0, .slice none 0 0, .int .i64 0, .int .i64 0, .int .i64 0, .int .i64 0, .int .i64 1, .bool true, .int .i64 3, .int .i64 0, .int .i64 0, .int .i64 0, .int .i64 0, .slice none 0 0, .int .i64 0, .int .i64 0, .int .i64 0, .int .i64 1, .int .i64 1, .bool true, .int .i64 4, .int .i64 0, .int .i64 0, .int .i64 0, .int .i64 0, .slice none 0 0, .int .i64 0, .int .i64 0, .int .i64 0] 65 (0, 0)), (g1, .cells (shC (.slice (some ⟨g2, 0, none⟩) 5 5) (.slice (some ⟨g6, 0, none⟩) 1 1) tl0).toArray 32 (0, 0))] rfl rfl (st_row (off := 0) (v := .agg (shC (.slice (some ⟨g2, 0, none⟩) 5 5) (.slice (some ⟨g6, 0, none⟩) 1 1) tl0).toArray) rfl (by kernel_rfl) (by kernel_rfl) (.tail _ (.tail _ (.tail _ (.head _)))) Bg1 (by kernel_rfl) (by first | (simp [Value.cells]; done) | exact Nat.le_of_ble_eq_true rfl) (fun v hv => shC_one v hv) (by kernel_rfl) (List.forall_mem_cons.2 ⟨.inr ⟨(.head _), (by first | assumption | exact Ne.symm (by assumption))⟩, (List.forall_mem_cons.2 ⟨.inr ⟨(.tail _ (.head _)), (by first | assumption | exact Ne.symm (by assumption))⟩, (List.forall_mem_cons.2 ⟨.inr ⟨(.tail _ (.tail _ (.head _))), (by first | assumption | exact Ne.symm (by assumption))⟩, (List.forall_mem_cons.2 ⟨.inl rfl, (List.forall_mem_nil _)⟩)⟩)⟩)⟩)) ?_
  refine wpL_done (fun W2 hW2 => ?_)
  refine (show Code.wp _ _ _ _ _ from ?_)
  refine wp_ret ?_
  try simp only [inBlock_ret, then_ret]
  refine bodyPost_ret (v := .agg (shC (.slice (some ⟨g2, 0, none⟩) 5 5) (.slice (some ⟨g6, 0, none⟩) 1 1) tl0).toArray) ?_ rfl ?_
  · exact (res_cell (p := 0) rfl rfl (hW2.2 _ (.tail _ (.tail _ (.tail _ (.head _))))) Tryd.underlying32 rfl (by kernel_rfl))
  · exact ⟨_, _, rfl, hW2, some ⟨g2, 0, none⟩, 5, [⟨0, [0, 1], some ⟨g4, 0, none⟩, 2⟩], some ⟨g6, 0, none⟩, 1, rfl, Nat.le_refl _, Nat.le_refl _, (fun W hW => blk_slv (cs := exCs.flatMap colC) hW (.tail _ (.tail _ (.head _)))), (fun W hW => blk_slv hW (.head _)), (fun W hW o ho => by cases List.mem_singleton.1 ho; exact blk_slv hW (.tail _ (.head _))), rfl⟩
set_option maxRecDepth 100000 in
set_option maxHeartbeats 4000000 in
theorem SameInts_any (l m : List Int) (p q : Option Addr) (c d : Nat) (hl : l.length ≤ 4000000000) (w : World) (hp : SLV w p (l.flatMap inC)) (hq : SLV w q (m.flatMap inC)) : Calls Tryd.prog 110 #[.slice p l.length c, .slice q m.length d] w fun e w' => e = .returned (.bool (decide (l = m))) ∧ Below w.heap.size w w' := by
  have HP := Lib.hid hp
  clear hp
  have HQ := Lib.hid hq
  clear hq
  go_enter Tryd.func110, Tryd.ntmps110
  refine wp_seq ?_
  refine wp_region_L (W0 := w) [] (KS.start w) ?_
  refine lm (v := .bool false) rfl rfl ?_
  refine wpL_done (fun W1 hW1 => ?_)
  refine (show Code.wp _ _ _ _ _ from ?_)
  refine wp_seq ?_
  refine wp_seq ?_
  refine wp_region_L (W0 := w) [] (hW1) ?_
  refine lm (v := .slice p l.length c) rfl rfl ?_
  refine lp (v := .int .i64 ((l.length : Nat) : Int)) rfl rfl (run_lenL (p := p) (cap := c) (n := l.length) rfl Tryd.underlying63 (by kernel_rfl)) ?_
  refine lm (v := .slice q m.length d) rfl rfl ?_
  refine lp (v := .int .i64 ((m.length : Nat) : Int)) rfl rfl (run_lenL (p := q) (cap := d) (n := m.length) rfl Tryd.underlying63 (by kernel_rfl)) ?_
  refine lp (v := .bool (!(decide (l.length = m.length)))) rfl rfl (run_bin rfl (vx := (.int .i64 ((l.length : Nat) : Int))) (vy := (.int .i64 ((m.length : Nat) : Int))) (by kernel_rfl) (by kernel_rfl) fun w => bn_neq rfl w) ?_
  refine wpL_done (fun W2 hW2 => ?_)
  refine (show Code.wp _ _ _ _ _ from ?_)
  cases hd1 : (decide (l.length = m.length)) with
  | false =>
    have h1 : ¬ (l.length = m.length) := of_decide_eq_false hd1
    clear hd1
    refine wp_cond_true rfl ?_
    refine wp_seq ?_
    refine wp_region_L (W0 := w) [] (hW2) ?_
    refine lm (v := .bool false) rfl rfl ?_
    refine wpL_done (fun W3 hW3 => ?_)
    refine (show Code.wp _ _ _ _ _ from ?_)
    refine wp_ret ?_
    try simp only [inBlock_ret, then_ret]
    refine bodyPost_ret (v := .bool false) ?_ rfl ?_
    · kernel_rfl
    · exact ⟨(bool_is (by rw [eq_comm, decide_eq_false_iff_not]; exact ne_len h1)), hW3.1⟩
  | true =>
    have h1 : l.length = m.length := of_decide_eq_true hd1
    clear hd1
    refine wp_cond_false rfl ?_
    refine wp_skip ?_
    refine (show Code.wp _ _ _ _ _ from ?_)
    refine wp_seq ?_
    refine wp_seq ?_
    refine wp_region_L (W0 := w) [] (hW2) ?_
    refine lm (v := .int .i64 0) rfl rfl ?_
    refine wpL_done (fun W4 hW4 => ?_)
    refine (show Code.wp _ _ _ _ _ from ?_)
    refine wp_block ?_
    go_loopw [5] (fun u5 wr => ∃ (k : Nat), (k ≤ l.length) ∧ (l.take k = m.take k) ∧ u5 = .int .i64 ((k : Nat) : Int) ∧ KS w [] wr) (fun u5 _ => l.length - (intOf u5).toNat)
    case atStart => exact ⟨0, (Nat.zero_le _), rfl, rfl, (hW4.sub (fun p hp => by first | exact hp | (simp only [List.mem_cons, List.mem_append, List.nil_append, List.not_mem_nil, or_assoc, or_false, false_or] at hp ⊢ <;> grind)))⟩
    case round =>
      obtain ⟨k, hk, hT, rfl, hL5⟩ := hrel
      refine wp_seq ?_
      refine wp_seq ?_
      refine wp_region_L (W0 := w) [] (hL5) ?_
      refine lm (v := .int .i64 ((k : Nat) : Int)) rfl rfl ?_
      refine lm (v := .slice p l.length c) rfl rfl ?_
      refine lp (v := .int .i64 ((l.length : Nat) : Int)) rfl rfl (run_lenL (p := p) (cap := c) (n := l.length) rfl Tryd.underlying63 (by kernel_rfl)) ?_
      refine lp (v := .bool (decide (k < l.length))) rfl rfl (run_bin rfl (vx := (.int .i64 ((k : Nat) : Int))) (vy := (.int .i64 ((l.length : Nat) : Int))) (by kernel_rfl) (by kernel_rfl) fun w => bn_lss rfl w) ?_
      refine wpL_done (fun W6 hW6 => ?_)
      refine (show Code.wp _ _ _ _ _ from ?_)
      cases hd2 : (decide (k < l.length)) with
      | false =>
        have h2 : ¬ (k < l.length) := of_decide_eq_false hd2
        clear hd2
        refine wp_cond_false rfl ?_
        refine wp_exit ?_
        refine (show Code.wp _ _ _ _ _ from ?_)
        refine wp_seq ?_
        refine wp_region_L (W0 := w) [] (hW6) ?_
        refine lm (v := .bool true) rfl rfl ?_
        refine wpL_done (fun W7 hW7 => ?_)
        refine (show Code.wp _ _ _ _ _ from ?_)
        refine wp_ret ?_
        try simp only [inBlock_ret, then_ret]
        refine bodyPost_ret (v := .bool true) ?_ rfl ?_
        · kernel_rfl
        · exact ⟨(bool_is (by rw [eq_comm, decide_eq_true_iff]; exact eq_of_take hT h2 h1)), hW7.1⟩
      | true =>
        have h2 : k < l.length := of_decide_eq_true hd2
        clear hd2
        refine wp_cond_true rfl ?_
        refine wp_skip ?_
        refine (show Code.wp _ _ _ _ _ from ?_)
        refine wp_seq ?_
        refine wp_block ?_
        refine wp_seq ?_
        refine wp_region_V (W0 := w) [] (by kernel_rfl) (hW6) ?_
        refine vm (i := 0) (v := .slice p l.length c) rfl rfl rfl ?_
        refine vm (i := 1) (v := .int .i64 ((k : Nat) : Int)) rfl rfl rfl ?_
        obtain ⟨y1, g1_, f1_, hy1, hp1, hc1⟩ := RL.at (RL.base HP.out) inC_len (by decide) (hW6.sub (fun _ h => by cases h)) (k := k) (by omega)
        refine vp (i := 2) (v := .pointer (some ⟨g1_, f1_ + k * 1, none⟩)) rfl rfl rfl (run_idxQ (p := p) (cap := c) (n := l.length) (j := .i64) (k := k) (sz := 1) rfl Tryd.underlying63 (by kernel_rfl) (by kernel_rfl) hp1 (by kernel_rfl) (by omega)) ?_
        refine vv (i := 3) (v := .int .i64 y1) rfl rfl rfl (yb_rf (v := .int .i64 y1) rfl (by kernel_rfl) (fun W hW => hc1 W (hW.sub (fun _ h => by cases h)) 0 _ rfl) Tryd.underlying3 rfl) ?_
        refine vm (i := 4) (v := .slice q m.length d) rfl rfl rfl ?_
        refine vm (i := 5) (v := .int .i64 ((k : Nat) : Int)) rfl rfl rfl ?_
        obtain ⟨y2, g2_, f2_, hy2, hp2, hc2⟩ := RL.at (RL.base HQ.out) inC_len (by decide) (hW6.sub (fun _ h => by cases h)) (k := k) (by omega)
        refine vp (i := 6) (v := .pointer (some ⟨g2_, f2_ + k * 1, none⟩)) rfl rfl rfl (run_idxQ (p := q) (cap := d) (n := m.length) (j := .i64) (k := k) (sz := 1) rfl Tryd.underlying63 (by kernel_rfl) (by kernel_rfl) hp2 (by kernel_rfl) (by omega)) ?_
        refine vv (i := 7) (v := .int .i64 y2) rfl rfl rfl (yb_rf (v := .int .i64 y2) rfl (by kernel_rfl) (fun W hW => hc2 W (hW.sub (fun _ h => by cases h)) 0 _ rfl) Tryd.underlying3 rfl) ?_
        refine vp (i := 8) (v := .bool (!(decide (y1 = y2)))) rfl rfl rfl (run_bin rfl (vx := (.int .i64 y1)) (vy := (.int .i64 y2)) (by kernel_rfl) (by kernel_rfl) fun w => bi_neq rfl w) ?_
        refine wpV_done (by kernel_rfl) (fun W8 hW8 => ?_) _
        refine (show Code.wp _ _ _ _ _ from ?_)
        cases hd3 : (decide (y1 = y2)) with
        | false =>
          have h3 : ¬ (y1 = y2) := of_decide_eq_false hd3
          clear hd3
          refine wp_cond_true rfl ?_
          refine wp_seq ?_
          refine wp_region_L (W0 := w) [] (hW8) ?_
          refine lm (v := .bool false) rfl rfl ?_
          refine wpL_done (fun W9 hW9 => ?_)
          refine (show Code.wp _ _ _ _ _ from ?_)
          refine wp_ret ?_
          try simp only [inBlock_ret, then_ret]
          refine bodyPost_ret (v := .bool false) ?_ rfl ?_
          · kernel_rfl
          · exact ⟨(bool_is (by rw [eq_comm, decide_eq_false_iff_not]; exact ne_at hy1 hy2 h3)), hW9.1⟩
        | true =>
          have h3 : y1 = y2 := of_decide_eq_true hd3
          clear hd3
          refine wp_cond_false rfl ?_
          refine wp_skip ?_
          refine (show Code.wp _ _ _ _ _ from ?_)
          refine wp_region_L (W0 := w) [] (hW8) ?_
          refine lm (v := .int .i64 ((k : Nat) : Int)) rfl rfl ?_
          refine lp (v := .int .i64 (((k + 1) : Nat) : Int)) rfl rfl (run_bin rfl (vx := (.int .i64 ((k : Nat) : Int))) (vy := (.int .i64 ((1 : Nat) : Int))) (by kernel_rfl) (by kernel_rfl) fun w => bn_add (z := (k + 1)) rfl (wr_i64 (by omega)) w) ?_
          refine lm (v := .int .i64 (((k + 1) : Nat) : Int)) rfl rfl ?_
          refine wpL_done (fun W10 hW10 => ?_)
          go_roundw
          case rel =>
            repeat apply Exists.intro
            exact ⟨⟨k + 1, (by omega), (take_snoc_eq hT hy1 hy2 h3), rfl, (hW10.sub (fun p hp => by first | exact hp | (simp only [List.mem_cons, List.mem_append, List.nil_append, List.not_mem_nil, or_assoc, or_false, false_or] at hp ⊢ <;> grind)))⟩, rfl⟩
          case measure => (show l.length - (intOf (.int .i64 (((k + 1) : Nat) : Int))).toNat < l.length - (intOf (.int .i64 ((k : Nat) : Int))).toNat); simp only [intOf]; omega
end Go.Proofs.YthpooalhibedpaaDoor
/- Ships that are built from places and bits: plain data. -/
namespace Go.Proofs.YthpooalhibedpaaDoor
open Go Go.RowKit Tw
structure Pl where
  bay : Nat
  row : Nat
  tiers : Nat
  deck : Bool
def plC (p : Pl) : List Value := [.int .u8 ((p.bay : Nat) : Int), .int .u8 ((p.row : Nat) : Int), .int .u8 ((p.tiers : Nat) : Int), .bool p.deck]
def plOk (p : Pl) : Prop := p.bay ≤ 255 ∧ p.row ≤ 255 ∧ p.tiers ≤ 255
theorem plC_len (p : Pl) : (plC p).length = 4 := rfl
theorem plC_one (p : Pl) : ∀ v ∈ plC p, v.oneCell' = true := fun v hv => by
  unfold plC at hv
  simp only [List.mem_cons, List.not_mem_nil, or_false] at hv
  rcases hv with rfl | rfl | rfl | rfl <;> rfl
def colD (p : Pl) (d : Bool) : Col := ⟨((p.bay % 5 : Nat) : Int), ((p.row % 5 : Nat) : Int), d, ((2 + p.tiers % 4 : Nat) : Int), 0, 500000000, 500000000, 0, [], none, 0, ((13000 * (p.bay % 5) : Nat) : Int) - 26000, ((2500 * (p.row % 5) : Nat) : Int) - 5000, if d = true then 20000 else 2000⟩
def colOf (p : Pl) : Col := colD p p.deck
def col1 : Col := ⟨0, 0, false, 3, 0, 500000000, 500000000, 0, [], none, 0, 0, 0, 2000⟩
def addC (cs : List Col) (c : Col) : List Col := if (fst (isAt c.bay c.row c.deck) cs).isSome = true then cs else cs ++ [c]
def bld (l : List Pl) : List Col := l.foldl (fun cs p => addC cs (colOf p)) []
theorem bld_snoc {l : List Pl} {k : Nat} {p : Pl} (h : l[k]? = some p) : bld (l.take (k + 1)) = addC (bld (l.take k)) (colOf p) := by
  obtain ⟨hk, rfl⟩ := List.getElem?_eq_some_iff.1 h
  unfold bld
  rw [List.take_succ_eq_append_getElem hk, List.foldl_append]; rfl
def builtC (l : List Pl) : List Col := if (bld (l.take (min l.length 12))).length = 0 then [col1] else bld (l.take (min l.length 12))
def bitO (n i : Nat) : Bool := decide (n / 2 ^ i % 2 = 1)
def covAt (n i : Nat) : List (Int × List Int) := (if bitO n (2 * i) = true then [(((i : Nat) : Int), [0, 1])] else []) ++ (if bitO n (2 * i + 1) = true then [(((i : Nat) : Int), [2, 3, 4])] else [])
def covTo (n : Nat) : Nat → List (Int × List Int)
  | 0 => []
  | i + 1 => covTo n i ++ covAt n i
def builtO (n : Nat) : List (Int × List Int) := covTo n 5
theorem covAt_len (n i : Nat) : (covAt n i).length ≤ 2 := by
  unfold covAt
  rw [List.length_append]
  split <;> split <;> simp
theorem covTo_len (n : Nat) : ∀ i, (covTo n i).length ≤ 2 * i
  | 0 => Nat.le_refl _
  | i + 1 => by
    have h1 := covTo_len n i
    have h2 := covAt_len n i
    show (covTo n i ++ covAt n i).length ≤ _
    rw [List.length_append]; omega
theorem bld_len (l : List Pl) : (bld l).length ≤ l.length := by
  have key : ∀ (l : List Pl) (cs : List Col), (l.foldl (fun cs p => addC cs (colOf p)) cs).length ≤ cs.length + l.length := by
    intro l
    induction l with
    | nil => intro cs; exact Nat.le_refl _
    | cons p l ih =>
      intro cs
      have h1 := ih (addC cs (colOf p))
      have h2 : (addC cs (colOf p)).length ≤ cs.length + 1 := by
        unfold addC
        split
        · omega
        · rw [List.length_append]; exact Nat.le_refl _
      rw [List.foldl_cons, List.length_cons]; omega
  simpa [bld] using key l []
theorem built_len (l : List Pl) : 0 < (builtC l).length ∧ (builtC l).length ≤ 12 := by
  unfold builtC
  split
  · exact ⟨by simp, by simp⟩
  · rename_i h
    have h1 := bld_len (l.take (min l.length 12))
    rw [List.length_take] at h1
    omega
theorem builtO_len (n : Nat) : (builtO n).length ≤ 10 := covTo_len n 5
section
variable {cs : List Col} {p : Pl} {d : Bool}
theorem add_yes (h : p.deck = d) (hf : (fst (isAt ((p.bay % 5 : Nat) : Int) ((p.row % 5 : Nat) : Int) d) cs).isSome = true) : addC cs (colOf p) = cs := by
  subst h
  exact if_pos hf
theorem add_no (h : p.deck = d) (hf : (fst (isAt ((p.bay % 5 : Nat) : Int) ((p.row % 5 : Nat) : Int) d) cs).isSome = false) : addC cs (colOf p) = cs ++ [colD p d] := by
  subst h
  exact if_neg (by rw [show (colOf p).bay = ((p.bay % 5 : Nat) : Int) from rfl, show (colOf p).row = ((p.row % 5 : Nat) : Int) from rfl, show (colOf p).deck = p.deck from rfl, hf]; simp)
end
section
variable {n i : Nat}
theorem cov_00 (h : ¬ (n / 2 ^ (2 * i) % 2 = 1)) (h2 : ¬ (n / 2 ^ (2 * i + 1) % 2 = 1)) : covTo n (i + 1) = covTo n i := by
  show covTo n i ++ covAt n i = _
  simp [covAt, bitO, h, h2]
theorem cov_10 (h : n / 2 ^ (2 * i) % 2 = 1) (h2 : ¬ (n / 2 ^ (2 * i + 1) % 2 = 1)) : covTo n (i + 1) = covTo n i ++ [(((i : Nat) : Int), [0, 1])] := by
  show covTo n i ++ covAt n i = _
  simp [covAt, bitO, h, h2]
theorem cov_01 (h : ¬ (n / 2 ^ (2 * i) % 2 = 1)) (h2 : n / 2 ^ (2 * i + 1) % 2 = 1) : covTo n (i + 1) = covTo n i ++ [(((i : Nat) : Int), [2, 3, 4])] := by
  show covTo n i ++ covAt n i = _
  simp [covAt, bitO, h, h2]
theorem cov_11 (h : n / 2 ^ (2 * i) % 2 = 1) (h2 : n / 2 ^ (2 * i + 1) % 2 = 1) : covTo n (i + 1) = covTo n i ++ [(((i : Nat) : Int), [0, 1]), (((i : Nat) : Int), [2, 3, 4])] := by
  show covTo n i ++ covAt n i = _
  simp [covAt, bitO, h, h2]
end
theorem own_app {α : Type} {cells : α → List Value} {sz : Nat} {W0 : Base} {E : TypeId} {v : Value} {n : Nat} {l' : List α} {xs : List Value} {K : List (Nat × Obj)} (h : OwnL W0 E sz v n xs K) (e : xs = l'.flatMap cells) (e2 : n = l'.length) : OwnL W0 E sz v l'.length (l'.flatMap cells) K := by
  subst e e2; exact h
theorem el_col : Elem Tryd.prog 22 65 12 112 (.agg #[.int .i64 0, .int .i64 0, .bool false, .int .i64 0, .int .i64 0, .int .i64 0, .int .i64 0, .int .i64 0, .slice none 0 0, .int .i64 0, .int .i64 0, .int .i64 0]) := Elem.mk' Tryd.underlying22 (by kernel_rfl) rfl
theorem el_cov : Elem Tryd.prog 23 67 2 32 (.agg #[.int .i64 0, .slice none 0 0]) := Elem.mk' Tryd.underlying23 (by kernel_rfl) rfl
theorem bn_and {P : Program} {T : TypeId} {px py : Operand} {k : IntKind} {x y z : Nat} (h : x &&& y = z) (hx : x < 2 ^ k.bits) (hy : y < 2 ^ k.bits) (hw : k.wrap (z : Int) = (z : Int)) (w : World) : (do eqGuard .and T px py (.int k (x : Int)) (.int k (y : Int)); binOp .and T (.int k (x : Int)) (.int k (y : Int)) : Sem Value).run P w = .ok (.int k (z : Int)) w := by
  simp [eqGuard, binOp, Op.intBits]
  rw [Nat.mod_eq_of_lt hx, Nat.mod_eq_of_lt hy, h, hw]
theorem rw_snoc {W : World} {os : List Cov} {o : Cov} (h : RwR W os) (h2 : SLV W o.rp (o.rows.flatMap inC)) : RwR W (os ++ [o]) := fun x hx => by
  rcases List.mem_append.1 hx with hx | hx
  · exact h x hx
  · cases List.mem_singleton.1 hx; exact h2
theorem rw_nil {W : World} : RwR W [] := fun _ h => by cases h
end Go.Proofs.YthpooalhibedpaaDoor
/- What ships that are built are: plain facts. -/
namespace Go.Proofs.YthpooalhibedpaaDoor
open Go Go.RowKit Tw
def Good (cs : List Col) : Prop := (∀ c ∈ cs, colX c = true ∧ c.plugs = []) ∧ (cs.map placeX).Nodup
theorem colx_in {c : Col} (h : colX c = true) : 0 ≤ c.bay ∧ c.bay ≤ 39 ∧ 0 ≤ c.row ∧ c.row ≤ 30 ∧ 1 ≤ c.tiers ∧ c.tiers ≤ 10 := by
  unfold colX rangesX at h
  simp only [rgsX, Bool.and_eq_true, Bool.not_eq_true', decide_eq_false_iff_not] at h
  omega
theorem colD_x (p : Pl) (d : Bool) : colX (colD p d) = true := by
  have h1 := Nat.mod_lt p.bay (show 0 < 5 by omega)
  have h2 := Nat.mod_lt p.row (show 0 < 5 by omega)
  have h3 := Nat.mod_lt p.tiers (show 0 < 4 by omega)
  unfold colX rangesX colD
  cases d <;> simp [rgsX, incX, incF] <;> omega
theorem isAt_place {b r : Int} {d : Bool} {c : Col} : isAt b r d c = true ↔ placeX c = (b, r, if d = true then 1 else 0) := by
  unfold isAt placeX
  cases d <;> cases hc : c.deck <;> simp [Bool.and_eq_true, Prod.ext_iff]
theorem add_good {cs : List Col} {p : Pl} (h : Good cs) : Good (addC cs (colOf p)) := by
  unfold addC
  split
  · exact h
  · rename_i hf
    refine ⟨fun c hc => ?_, ?_⟩
    · rcases List.mem_append.1 hc with hc | hc
      · exact h.1 c hc
      · cases List.mem_singleton.1 hc; exact ⟨colD_x _ _, rfl⟩
    · rw [List.map_append, List.nodup_append]
      refine ⟨h.2, by simp, fun x hx y hy => ?_⟩
      obtain ⟨c, hc, rfl⟩ := List.mem_map.1 hx
      have hy : y = placeX (colOf p) := by simpa using hy
      subst hy
      intro e
      apply hf
      have : isAt (colOf p).bay (colOf p).row (colOf p).deck c = true := isAt_place.2 e
      cases hh : fst (isAt (colOf p).bay (colOf p).row (colOf p).deck) cs with
      | some k => rfl
      | none => rw [fst_none hh c hc] at this; cases this
theorem bld_good (l : List Pl) : Good (bld l) := by
  have key : ∀ (l : List Pl) (cs : List Col), Good cs → Good (l.foldl (fun cs p => addC cs (colOf p)) cs) := by
    intro l
    induction l with
    | nil => intro cs h; exact h
    | cons p l ih => intro cs h; exact ih _ (add_good h)
  exact key l [] ⟨fun c hc => (by cases hc), by simp⟩
theorem built_good (l : List Pl) : Good (builtC l) := by
  unfold builtC
  split
  · exact ⟨fun c hc => by cases List.mem_singleton.1 hc; exact ⟨by decide, rfl⟩, by simp⟩
  · exact bld_good _
section
variable {cs : List Col}
theorem good_at (h : Good cs) {i : Nat} (hi : i < cs.length) : ∃ c, cs[i]? = some c ∧ colX c = true := ⟨cs[i], List.getElem?_eq_getElem hi, (h.1 _ (List.getElem_mem hi)).1⟩
theorem good_inj (h : Good cs) {i j : Nat} {a b : Col} (ha : cs[i]? = some a) (hb : cs[j]? = some b) (he : placeX a = placeX b) : i = j := by
  have h1 : (cs.map placeX)[i]? = some (placeX a) := by rw [List.getElem?_map, ha]; rfl
  have h2 : (cs.map placeX)[j]? = some (placeX a) := by rw [List.getElem?_map, hb, he]; rfl
  have hi := (List.getElem?_eq_some_iff.1 h1).1
  exact (List.getElem?_inj hi h.2).1 (h1.trans h2.symm)
theorem place_eq {a b : Col} (h1 : a.bay = b.bay) (h2 : a.row = b.row) (h3 : a.deck = b.deck) : placeX a = placeX b := by unfold placeX; rw [h1, h2, h3]
theorem idxF_ge {α : Type} {P : α → Bool} {l : List α} : ∀ {i : Nat}, ∀ x ∈ idxF P i l, ((i : Nat) : Int) ≤ x := by
  induction l with
  | nil => intro i x hx; cases hx
  | cons y l ih =>
    intro i x hx
    unfold idxF at hx
    split at hx
    · rcases List.mem_cons.1 hx with rfl | hx
      · omega
      · have := ih x hx; omega
    · have := ih x hx; omega
theorem idxF_pw {α : Type} {P : α → Bool} {l : List α} : ∀ {i : Nat}, (idxF P i l).Pairwise (· < ·) := by
  induction l with
  | nil => intro i; exact List.Pairwise.nil
  | cons y l ih =>
    intro i
    unfold idxF
    split
    · refine List.Pairwise.cons (fun x hx => ?_) ih
      have := idxF_ge x hx; omega
    · exact ih
theorem el_nat {α : Type} {d : α} {l : List α} {i : Nat} {y : α} (hy : l[i]? = some y) : elB l ((i : Nat) : Int) = true ∧ elC d l ((i : Nat) : Int) = y := el_in (by omega) (by simpa using hy)
theorem diff_in {a b : Int} (ha : 0 ≤ a ∧ a ≤ 39) (hb : 0 ≤ b ∧ b ≤ 39) : diffX a b = max a b - min a b := wi_i64 (by omega)
theorem bes_is {i : Nat} {c : Col} (hc : cs[i]? = some c) : besideX cs ((i : Nat) : Int) = idx (besideB c) cs := by
  obtain ⟨h1, h2⟩ := el_nat (d := col0) hc
  unfold besideX
  rw [h1, h2]; rfl
theorem bes_b (h : Good cs) {i j : Nat} {c y : Col} (hc : cs[i]? = some c) (hy : cs[j]? = some y) : besideB c y = true ↔ y.bay = c.bay ∧ y.deck = c.deck ∧ (y.row = c.row + 1 ∨ y.row = c.row - 1) := by
  have h1 := colx_in (h.1 c (List.mem_of_getElem? hc)).1
  have h2 := colx_in (h.1 y (List.mem_of_getElem? hy)).1
  unfold besideB
  rw [diff_in (by omega) (by omega)]
  simp only [Bool.and_eq_true, decide_eq_true_eq, beq_iff_eq]
  constructor
  · rintro ⟨h3, h4, h5⟩; exact ⟨h3, h4, by omega⟩
  · rintro ⟨h3, h4, h5⟩; exact ⟨h3, h4, by omega⟩
theorem bes_mem (h : Good cs) {i : Nat} {c : Col} {x : Int} (hc : cs[i]? = some c) : x ∈ besideX cs ((i : Nat) : Int) ↔ ∃ (j : Nat) (y : Col), x = ((j : Nat) : Int) ∧ cs[j]? = some y ∧ y.bay = c.bay ∧ y.deck = c.deck ∧ (y.row = c.row + 1 ∨ y.row = c.row - 1) := by
  rw [bes_is hc, idx_mem]
  constructor
  · rintro ⟨j, y, h1, h2, h3⟩; exact ⟨j, y, h1, h2, (bes_b h hc h2).1 h3⟩
  · rintro ⟨j, y, h1, h2, h3⟩; exact ⟨j, y, h1, h2, (bes_b h hc h2).2 h3⟩
theorem bes_len (h : Good cs) {i : Nat} (hi : i < cs.length) : (besideX cs ((i : Nat) : Int)).length ≤ 2 := by
  obtain ⟨c, hc, _⟩ := good_at h hi
  have hm := fun x => bes_mem (x := x) h hc
  have hp : (besideX cs ((i : Nat) : Int)).Pairwise (· < ·) := by rw [bes_is hc]; exact idxF_pw
  generalize besideX cs ((i : Nat) : Int) = L at hm hp ⊢
  rcases L with _ | ⟨x, _ | ⟨y, _ | ⟨z, L⟩⟩⟩
  · simp
  · simp
  · simp
  · exfalso
    simp only [List.pairwise_cons, List.mem_cons] at hp
    have hxy : x < y := hp.1 y (.inl rfl)
    have hxz : x < z := hp.1 z (.inr (.inl rfl))
    have hyz : y < z := hp.2.1 z (.inl rfl)
    obtain ⟨j1, c1, rfl, e1, b1, d1, r1⟩ := (hm x).1 (.head _)
    obtain ⟨j2, c2, rfl, e2, b2, d2, r2⟩ := (hm y).1 (.tail _ (.head _))
    obtain ⟨j3, c3, rfl, e3, b3, d3, r3⟩ := (hm z).1 (.tail _ (.tail _ (.head _)))
    have key : c1.row = c2.row ∨ c1.row = c3.row ∨ c2.row = c3.row := by omega
    rcases key with k | k | k
    · have := good_inj h e1 e2 (place_eq (b1.trans b2.symm) k (d1.trans d2.symm)); omega
    · have := good_inj h e1 e3 (place_eq (b1.trans b3.symm) k (d1.trans d3.symm)); omega
    · have := good_inj h e2 e3 (place_eq (b2.trans b3.symm) k (d2.trans d3.symm)); omega
theorem ap_is (h : Good cs) {i j : Nat} {a b : Col} (ha : cs[i]? = some a) (hb : cs[j]? = some b) : apB cs ((i : Nat) : Int) ((j : Nat) : Int) = true ∧ apN cs ((i : Nat) : Int) ((j : Nat) : Int) = max a.bay b.bay - min a.bay b.bay := by
  have h1 := colx_in (h.1 a (List.mem_of_getElem? ha)).1
  have h2 := colx_in (h.1 b (List.mem_of_getElem? hb)).1
  obtain ⟨e1, e2⟩ := el_nat (d := col0) ha
  obtain ⟨e3, e4⟩ := el_nat (d := col0) hb
  have hB : apB cs ((i : Nat) : Int) ((j : Nat) : Int) = true := by
    unfold apB bayB
    rw [e1, e2, e3, e4]
    simp only [Bool.true_and, Bool.and_eq_true, Bool.not_eq_true', decide_eq_false_iff_not]
    omega
  refine ⟨hB, ?_⟩
  unfold apN bayN
  rw [hB, e2, e4]
  exact diff_in (by omega) (by omega)
theorem bes_at (h : Good cs) {i k : Nat} {x : Int} (hi : i < cs.length) (hx : (besideX cs ((i : Nat) : Int))[k]? = some x) : ∃ j : Nat, x = ((j : Nat) : Int) ∧ j < cs.length ∧ j ≠ i ∧ apB cs ((i : Nat) : Int) ((j : Nat) : Int) = true ∧ apN cs ((i : Nat) : Int) ((j : Nat) : Int) = 0 ∧ ((i : Nat) : Int) ∈ besideX cs ((j : Nat) : Int) := by
  obtain ⟨c, hc, _⟩ := good_at h hi
  obtain ⟨j, y, rfl, hy, b, d, r⟩ := (bes_mem h hc).1 (List.mem_of_getElem? hx)
  obtain ⟨a1, a2⟩ := ap_is h hc hy
  refine ⟨j, rfl, (List.getElem?_eq_some_iff.1 hy).1, ?_, a1, by omega, (bes_mem h hy).2 ⟨i, c, rfl, hc, b.symm, d.symm, by omega⟩⟩
  rintro rfl
  rw [hc] at hy
  cases hy
  omega
-- what makes a ship right
theorem cols_iff {cs : List Col} : ∀ {L : List I3}, colsF L cs = true ↔ (∀ c ∈ cs, colX c = true) ∧ (cs.map placeX).Nodup ∧ ∀ c ∈ cs, placeX c ∉ L := by
  induction cs with
  | nil => intro L; simp [colsF]
  | cons c cs ih =>
    intro L
    show (colX c && (!decide (placeX c ∈ L) && colsF (L ++ [placeX c]) cs)) = true ↔ _
    simp only [Bool.and_eq_true, Bool.not_eq_true', decide_eq_false_iff_not, ih, List.mem_cons, forall_eq_or_imp, List.map_cons, List.nodup_cons, List.mem_append, List.mem_map, List.not_mem_nil, or_false, not_or]
    constructor
    · rintro ⟨h1, h2, h3, h4, h5⟩
      exact ⟨⟨h1, h3⟩, ⟨fun ⟨d, hd, he⟩ => (h5 d hd).2 he, h4⟩, h2, fun d hd => (h5 d hd).1⟩
    · rintro ⟨⟨h1, h3⟩, ⟨h6, h4⟩, h2, h5⟩
      exact ⟨h1, h2, h3, h4, fun d hd => ⟨h5 d hd, fun he => h6 ⟨d, hd, he⟩⟩⟩
theorem cols_good (h : Good cs) (h0 : 0 < cs.length) (h2 : cs.length ≤ 200) : colsX cs = true := by
  unfold colsX
  rw [decide_eq_false (by omega), decide_eq_false (by omega)]
  exact cols_iff.2 ⟨fun c hc => (h.1 c hc).1, h.2, fun _ _ h => by cases h⟩
theorem good_sub {l : List Col} (h : Good cs) (hs : l.Sublist cs) : Good l := ⟨fun c hc => h.1 c (hs.subset hc), (hs.map placeX).nodup h.2⟩
end
def keysO (os : List (Int × List Int)) : List I2 := os.flatMap fun o => o.2.map fun r => (o.1, r)
def ovP (o : Int × List Int) : Bool := decide (0 ≤ o.1) && (decide (o.1 ≤ 39) && (decide (0 < o.2.length) && incX o.2 30))
theorem fresh_iff {bay : Int} {l : List Int} : ∀ {L : List I2}, freshF bay L l = true ↔ l.Nodup ∧ ∀ r ∈ l, (bay, r) ∉ L := by
  induction l with
  | nil => intro L; simp [freshF]
  | cons r l ih =>
    intro L
    show (!decide ((bay, r) ∈ L) && freshF bay (L ++ [(bay, r)]) l) = true ↔ _
    simp only [Bool.and_eq_true, Bool.not_eq_true', decide_eq_false_iff_not, ih, List.mem_cons, forall_eq_or_imp, List.nodup_cons, List.mem_append, List.not_mem_nil, or_false, not_or, Prod.mk.injEq, true_and]
    constructor
    · rintro ⟨h1, h2, h3⟩; exact ⟨⟨fun hr => (h3 r hr).2 rfl, h2⟩, h1, fun x hx => (h3 x hx).1⟩
    · rintro ⟨⟨h4, h2⟩, h1, h3⟩; exact ⟨h1, h2, fun x hx => ⟨h3 x hx, fun e => h4 (e ▸ hx)⟩⟩
theorem ovs_of {os : List Cov} : ∀ {L : List I2}, (∀ o ∈ os, ovX o = true) → (keysO (os.map fun o => (o.bay, o.rows))).Nodup → (∀ k ∈ keysO (os.map fun o => (o.bay, o.rows)), k ∉ L) → ovsF L os = true := by
  induction os with
  | nil => intro L _ _ _; rfl
  | cons o os ih =>
    intro L h1 h2 h3
    have e : keysO ((o :: os).map fun o => (o.bay, o.rows)) = (o.rows.map fun r => (o.bay, r)) ++ keysO (os.map fun o => (o.bay, o.rows)) := rfl
    rw [e] at h2 h3
    obtain ⟨n1, n2, n3⟩ := List.nodup_append.1 h2
    show (ovX o && (freshF o.bay L o.rows && ovsF (L ++ o.rows.map (fun r => (o.bay, r))) os)) = true
    rw [h1 o (.head _), Bool.true_and, Bool.and_eq_true]
    refine ⟨fresh_iff.2 ⟨?_, fun r hr => h3 _ (List.mem_append_left _ (List.mem_map.2 ⟨r, hr, rfl⟩))⟩, ih (fun x hx => h1 x (.tail _ hx)) n2 fun k hk hL => ?_⟩
    · have := n1
      rw [List.Nodup, List.pairwise_map] at this
      exact this.imp fun {a b} h e => h (by rw [e])
    · rcases List.mem_append.1 hL with hL | hL
      · exact h3 k (List.mem_append_right _ hk) hL
      · exact n3 k hL k hk rfl
theorem ovs_right {os : List Cov} {ov : List (Int × List Int)} (h : os.map (fun o => (o.bay, o.rows)) = ov) (h1 : ∀ o ∈ ov, ovP o = true) (h2 : (keysO ov).Nodup) (h3 : ov.length ≤ 40) : ovsX os = true := by
  subst h
  unfold ovsX
  rw [decide_eq_false (by simpa using h3)]
  refine ovs_of (fun o ho => ?_) h2 (fun _ _ h => by cases h)
  have := h1 (o.bay, o.rows) (List.mem_map.2 ⟨o, ho, rfl⟩)
  exact this
def fullO : List (Int × List Int) := [(0, [0, 1]), (0, [2, 3, 4]), (1, [0, 1]), (1, [2, 3, 4]), (2, [0, 1]), (2, [2, 3, 4]), (3, [0, 1]), (3, [2, 3, 4]), (4, [0, 1]), (4, [2, 3, 4])]
theorem covAt_sub (n i : Nat) : (covAt n i).Sublist [(((i : Nat) : Int), [0, 1]), (((i : Nat) : Int), [2, 3, 4])] := by
  unfold covAt
  split <;> split <;> simp
theorem builtO_sub (n : Nat) : (builtO n).Sublist fullO := by
  have e : builtO n = covAt n 0 ++ (covAt n 1 ++ (covAt n 2 ++ (covAt n 3 ++ covAt n 4))) := by simp [builtO, covTo]
  rw [e]
  exact (covAt_sub n 0).append ((covAt_sub n 1).append ((covAt_sub n 2).append ((covAt_sub n 3).append (covAt_sub n 4))))
theorem keys_sub {a b : List (Int × List Int)} (h : a.Sublist b) : (keysO a).Sublist (keysO b) := by
  induction h with
  | slnil => exact List.Sublist.refl _
  | cons x _ ih => exact ih.trans (List.sublist_append_right _ _)
  | cons_cons x _ ih => exact (List.Sublist.refl _).append ih
def GoodO (ov : List (Int × List Int)) : Prop := ov.Sublist fullO
theorem goodO_in {ov : List (Int × List Int)} (h : GoodO ov) : (∀ o ∈ ov, ovP o = true) ∧ (keysO ov).Nodup ∧ ov.length ≤ 10 ∧ (∀ o ∈ ov, o.2.length ≤ 3) :=
  ⟨fun o ho => (show ∀ o ∈ fullO, ovP o = true by decide) o (h.subset ho), (keys_sub h).nodup (by decide), h.length_le, fun o ho => (show ∀ o ∈ fullO, o.2.length ≤ 3 by decide) o (h.subset ho)⟩
theorem goodO_right {os : List Cov} (h : GoodO (os.map fun o => (o.bay, o.rows))) : ovsX os = true := by
  obtain ⟨h1, h2, h3, _⟩ := goodO_in h
  exact ovs_right rfl h1 h2 (by omega)
theorem good_right {cs : List Col} {os : List Cov} (h : Good cs) (h0 : 0 < cs.length) (h2 : cs.length ≤ 12) (ho : GoodO (os.map fun o => (o.bay, o.rows))) : rightX cs os = true := by
  unfold rightX
  rw [cols_good h h0 (by omega), goodO_right ho]; rfl
theorem goodO_rows {os : List Cov} (h : GoodO (os.map fun o => (o.bay, o.rows))) : ∀ o ∈ os, o.rows.length ≤ 4000000000 := fun o ho => by
  have := (goodO_in h).2.2.2 (o.bay, o.rows) (List.mem_map.2 ⟨o, ho, rfl⟩)
  have this : o.rows.length ≤ 3 := this
  omega
theorem good_plugs {cs : List Col} (h : Good cs) : (∀ W, PlR W cs) ∧ ∀ c ∈ cs, c.plugs.length ≤ 4000000000 :=
  ⟨fun W => plr_nil fun c hc => (h.1 c hc).2, fun c hc => by rw [(h.1 c hc).2]; exact Nat.zero_le _⟩
end Go.Proofs.YthpooalhibedpaaDoor
