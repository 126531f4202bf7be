import Derived.Test.YtldhjhjomokkgaaG00
import Derived.Test.YtldhjhjomokkgaaG01
import Derived.Test.YtldhjhjomokkgaaG03
import Derived.Laws.OwnMore
import Derived.Laws.Small
/- ShipCovers: the law holds for every input; no condition but the row's own. -/
set_option linter.unusedVariables false
set_option linter.unusedSimpArgs false
set_option linter.unusedSectionVars false
/- Lists of numbers that are read, cut and handed on: over any program. -/
namespace Tw
open Go Go.RowKit Go.Proofs.Ytldhjhjomokkgaa
def nums (l : List Nat) : List Value := l.map fun n => .int .i64 ((n : Nat) : Int)
theorem nums_len (l : List Nat) : (nums l).length = l.length := by simp [nums]
theorem nums_app (l m : List Nat) : nums (l ++ m) = nums l ++ nums m := by simp [nums]
theorem nums_get {l : List Nat} {k x : Nat} (h : l[k]? = some x) : (nums l)[k]? = some (.int .i64 ((x : Nat) : Int)) := by simp [nums, h]
theorem nums_take (l : List Nat) (k : Nat) : nums (l.take k) = (nums l).take k := by simp [nums, List.map_take]
theorem nums_drop (l : List Nat) (k : Nat) : nums (l.drop k) = (nums l).drop k := by simp [nums, List.map_drop]
theorem nums_one (l : List Nat) : ∀ u ∈ nums l, u.oneCell' = true := by
  intro u hu
  obtain ⟨n, _, rfl⟩ := List.mem_map.1 hu
  rfl
theorem slv_take {W : World} {p : Option Addr} {xs : List Value} (h : SLV W p xs) (k : Nat) : SLV W p (xs.take k) := by
  rcases h with rfl | ⟨b, off, rfl, hlt, hc⟩
  · exact .inl (by simp)
  · refine .inr ⟨b, off, rfl, hlt, fun i u hu => hc i u ?_⟩
    rw [List.getElem?_take] at hu
    split at hu
    · exact hu
    · cases hu
def NS (W0 : Base) (p : Option Addr) (l : List Nat) (T : List (Nat × Obj)) : Prop := ∀ W, KS W0 T W → SLV W p (nums l)
section
variable {W0 : Base} {p : Option Addr} {l : List Nat} {K T : List (Nat × Obj)}
theorem NS.mono (h : NS W0 p l T) (hs : ∀ q ∈ T, q ∈ K) : NS W0 p l K := fun W hW => h W (hW.sub hs)
theorem NS.take (h : NS W0 p l T) (k : Nat) : NS W0 p (l.take k) T := fun W hW => by rw [nums_take]; exact slv_take (h W hW) k
theorem NS.nil : NS W0 p [] T := fun _ _ => .inl rfl
theorem NS.base {W : World} (h : SLV W p (nums l)) : NS (W : Base) p l [] := fun _ hW => h.keep hW.1
theorem NS.at {W : World} {k : Nat} (h : NS W0 p l T) (hW : KS W0 T W) (hk : k < l.length) : ∃ b off, p = some ⟨b, off, none⟩ ∧ ∀ W, KS W0 T W → ∀ (i x : Nat), l[i]? = some x → W.cell? ⟨b, off + i * 1, none⟩ = some (.int .i64 ((x : Nat) : Int)) := by
  have hne : nums l ≠ [] := fun e => by have := nums_len l; rw [e] at this; simp at this; omega
  rcases h W hW with h0 | ⟨b, off, rfl, _, _⟩
  · exact absurd h0 hne
  · refine ⟨b, off, rfl, fun W2 hW2 i x hx => ?_⟩
    rcases h W2 hW2 with h0 | ⟨b', off', he, _, hc⟩
    · exact absurd h0 hne
    · cases he
      rw [Nat.mul_one]
      exact hc i _ (nums_get hx)
theorem NS.drop {W : World} {c k : Nat} (h : NS W0 p l T) (hW : KS W0 T W) (hc : l.length ≤ c) : NS W0 (if c = k then p else p.map (·.add (k * 1))) (l.drop k) T := by
  rcases Nat.lt_or_ge k l.length with h1 | h1
  · obtain ⟨b, off, rfl, h2⟩ := h.at hW h1
    rw [if_neg (by omega)]
    intro W2 hW2
    rcases h W2 hW2 with h0 | ⟨b', off', he, hlt, hc⟩
    · have := nums_len l; rw [h0] at this; simp at this; omega
    · cases he
      refine .inr ⟨b, off + k * 1, by simp [addr_add], hlt, fun i u hu => ?_⟩
      rw [nums_drop, List.getElem?_drop] at hu
      rw [Nat.mul_one, Nat.add_assoc]
      exact hc _ u hu
  · rw [List.drop_of_length_le h1]; exact NS.nil
theorem cell_same {w w2 : World} {b off : Nat} (h : w.heap[b]? = w2.heap[b]?) : w.cell? ⟨b, off, none⟩ = w2.cell? ⟨b, off, none⟩ := by
  unfold World.cell?; simp only [h]
theorem ns_of {W w2 : World} (hW : KS W0 K W) (hB : Below W.heap.size W w2) (hs : SLV w2 p (nums l)) : ∃ K2, KS W0 K2 w2 ∧ (∀ q ∈ K, q ∈ K2) ∧ NS W0 p l K2 := by
  have hK := hW.below hB
  rcases hs with h0 | ⟨b, off, rfl, hlt, hc⟩
  · exact ⟨K, hK, fun _ h => h, fun _ _ => .inl h0⟩
  · have hb : w2.heap[b]? = some (w2.heap[b]) := Array.getElem?_eq_getElem hlt
    refine ⟨(b, w2.heap[b]) :: K, ⟨hK.1, fun q hq => ?_⟩, fun q hq => .tail _ hq, fun W3 hW3 => .inr ⟨b, off, rfl, ?_, fun i u hu => ?_⟩⟩
    · rcases List.mem_cons.1 hq with rfl | h
      · exact hb
      · exact hK.2 q h
    · have := hW3.2 _ (.head _); exact lt_of_block this
    · rw [cell_same (w2 := w2) (by rw [hW3.2 _ (.head _)]; exact hb.symm)]; exact hc i u hu
def SLF (W w2 : World) (p : Option Addr) (xs : List Value) : Prop := xs = [] ∨ ∃ b off, p = some ⟨b, off, none⟩ ∧ W.heap.size ≤ b ∧ b < w2.heap.size ∧ Cel w2 b off xs
theorem SLF.slv {W w2 : World} {xs : List Value} (h : SLF W w2 p xs) : SLV w2 p xs := h.imp id fun ⟨b, off, h1, _, h2, h3⟩ => ⟨b, off, h1, h2, h3⟩
theorem SLF.back {V W w2 : World} {xs : List Value} (h : SLF W w2 p xs) (hs : V.heap.size ≤ W.heap.size) : SLF V w2 p xs := h.imp id fun ⟨b, off, h1, h2, h3⟩ => ⟨b, off, h1, by omega, h3⟩
theorem SLF.take {W w2 : World} {xs : List Value} (h : SLF W w2 p xs) (k : Nat) : SLF W w2 p (xs.take k) := by
  rcases h with rfl | ⟨b, off, rfl, h1, h2, hc⟩
  · exact .inl (by simp)
  · refine .inr ⟨b, off, rfl, h1, h2, fun i u hu => hc i u ?_⟩
    rw [List.getElem?_take] at hu
    split at hu
    · exact hu
    · cases hu
theorem ns_new {W w2 : World} (hW : KS W0 K W) (hB : Below W.heap.size W w2) (hs : SLF W w2 p (nums l)) : ∃ T, KS W0 (K ++ T) w2 ∧ Dj K T ∧ NS W0 p l T ∧ ∀ W3, KS W0 T W3 → W0.B = W0.w.heap.size → SLF W0.w W3 p (nums l) := by
  have hK := hW.below hB
  rcases hs with h0 | ⟨b, off, rfl, hge, hlt, hc⟩
  · exact ⟨[], by rw [List.append_nil]; exact hK, fun _ _ _ h => (by cases h), fun _ _ => .inl h0, fun _ _ _ => .inl h0⟩
  · have hb : w2.heap[b]? = some (w2.heap[b]) := Array.getElem?_eq_getElem hlt
    refine ⟨[(b, w2.heap[b])], ⟨hK.1, fun q hq => ?_⟩, fun q hq r hr e => ?_, fun W3 hW3 => .inr ⟨b, off, rfl, ?_, fun i u hu => ?_⟩, fun W3 hW3 e => .inr ⟨b, off, rfl, ?_, ?_, fun i u hu => ?_⟩⟩
    · rcases List.mem_append.1 hq with h | h
      · exact hK.2 q h
      · cases List.mem_singleton.1 h; exact hb
    · cases List.mem_singleton.1 hr
      have := lt_of_block (hW.2 q hq)
      have e' : b = q.1 := e
      omega
    · have := hW3.2 _ (.head _); exact lt_of_block this
    · rw [cell_same (w2 := w2) (by rw [hW3.2 _ (.head _)]; exact hb.symm)]; exact hc i u hu
    · have := hW.size; omega
    · have := hW3.2 _ (.head _); exact lt_of_block this
    · rw [cell_same (w2 := w2) (by rw [hW3.2 _ (.head _)]; exact hb.symm)]; exact hc i u hu
theorem own_ns {E : TypeId} {v : Value} {n : Nat} (h : OwnL W0 E 1 v n (nums l) T) : ∃ p c, v = .slice p n c ∧ n ≤ c ∧ NS W0 p l T ∧ ∀ W w2, KS W0 T W → W0.B = W0.w.heap.size → Below W.heap.size W w2 → SLF W0.w w2 p (nums l) := by
  rcases h with ⟨rfl, h2, rfl, rfl⟩ | ⟨g, cap, cur, rfl, hB, hR, rfl⟩
  · exact ⟨none, 0, rfl, Nat.le_refl _, fun _ _ => .inl h2, fun _ _ _ _ _ => .inl h2⟩
  · refine ⟨_, cap, rfl, hR.2.2.1, fun W hW => ?_, fun W w2 hW e hb => ?_⟩
    · have hb := hW.2 _ (.head _)
      exact .inr ⟨g, 0, rfl, lt_of_block hb, hR.cel hb⟩
    · have h1 := (hW.below hb).2 _ (.head _)
      exact .inr ⟨g, 0, rfl, by omega, lt_of_block h1, hR.cel h1⟩
theorem own_ncap {E : TypeId} {v : Value} {n : Nat} {xs : List Value} (h : OwnL W0 E 1 v n xs T) : xs.length = n := by
  rcases h with ⟨rfl, h2, rfl, rfl⟩ | ⟨g, cap, cur, rfl, hB, hR, rfl⟩
  · simp [h2]
  · have := hR.2.2.2.1; omega
theorem own_row {E : TypeId} {g n : Nat} {xs : List Value} (hB : W0.B ≤ g) (hl : xs.length = n) (hm : n ≤ 4000000000) : OwnL W0 E 1 (.slice (some ⟨g, 0, none⟩) n n) n xs [(g, .cells xs.toArray E (0, 0))] :=
  .inr ⟨g, n, _, rfl, hB, ⟨by simp [hl], by unfold maxLen; omega, Nat.le_refl _, by simp [hl], by simp [← hl]⟩, rfl⟩
end
section
variable {P : Program} {T E : TypeId} {W0 : Base}
theorem yb_ns {o : Oper} {a : Act} {K : List (Nat × Obj)} {ty : TypeId} {x : Operand} {g off : Nat} {v : Value} {d : TypeDesc} (ho : o.op = .load ty x) (hx : a.eval x = .pointer (some ⟨g, off, none⟩))
    (hc : ∀ W, KS W0 K W → W.cell? ⟨g, off, none⟩ = some v) (hu : P.underlying ty = some d) (hd : aggD d = false) :
    ∀ w, KS W0 K w → ∀ K' : Act → World → Prop, (∀ w', Below w.heap.size w w' → K' (a.put o.dst v) w') → Oper.wp P o a w K' (fun _ _ _ => False) := by
  intro w hw K' hk
  have hagg : (isAgg ty).run P w = .ok false w := by
    unfold isAgg
    rw [Sem.run_bind, run_underlying hu w]
    unfold aggD at hd
    cases d <;> simp_all
  have hr : (loadVar ty ⟨g, off, none⟩).run P w = .ok v w := by
    simp [loadVar, Sem.run_bind, hagg, hc w hw]
  unfold Oper.wp execOp
  simp only [ho, hx, Instr.loadAt, Instr.sureAddr, Sem.run_bind, Sem.run_pure, Result.andThen_ok, hr]
  exact hk w (Below.refl _ _)
theorem run_cutH {o : Oper} {a : Act} {p : Option Addr} {n c j sz : Nat} {x p2 : Operand} {k2 : IntKind} (ho : o.op = .slice T x none (some p2) none) (hT : P.underlying T = some (.slice E)) (hsz : (P.info? E).map (·.size) = some sz) (hx : a.eval x = .slice p n c) (h2 : a.eval p2 = .int k2 ((j : Nat) : Int)) (hl : j ≤ c) (w : World) : (execOp a.eval o).run P w = .ok (.value (.slice p j c)) w := by
  unfold execOp
  rw [ho]
  have e2 := fun q => sl_bound (P := P) (k := k2) (c := q) hl w
  cases hq : P.info? E with
  | none => simp [hq] at hsz
  | some i =>
    have hp : (if c = 0 then p else p.map (·.add (0 * i.size))) = p := by
      split
      · rfl
      · cases p with
        | none => rfl
        | some q => obtain ⟨b, off, s⟩ := q; simp [Addr.add]
    simp [Instr.sliceAt, Instr.slice, Instr.sliceBounds, hx, h2, run_underlying hT, e2, Go.sizeOf, typeInfo, hq]
    cases p with
    | none => simp
    | some q => obtain ⟨b, off, s⟩ := q; simp [Addr.add]
theorem run_cutL {o : Oper} {a : Act} {p : Option Addr} {n c i : Nat} {x p1 : Operand} {k1 : IntKind} (ho : o.op = .slice T x (some p1) none none) (hT : P.underlying T = some (.slice E)) (hsz : (P.info? E).map (·.size) = some 1) (hx : a.eval x = .slice p n c) (h1 : a.eval p1 = .int k1 ((i : Nat) : Int)) (hl : i ≤ n) (w : World) : (execOp a.eval o).run P w = .ok (.value (.slice (if c = i then p else p.map (·.add (i * 1))) (n - i) (c - i))) w := by
  unfold execOp
  rw [ho]
  have e1 := fun q => sl_bound (P := P) (k := k1) (c := q) hl w
  cases hq : P.info? E with
  | none => simp [hq] at hsz
  | some j =>
    have hs : j.size = 1 := by simpa [hq] using hsz
    simp [Instr.sliceAt, Instr.slice, Instr.sliceBounds, hx, h1, run_underlying hT, e1, Go.sizeOf, typeInfo, hq, hs]
theorem src_ns {K : List (Nat × Obj)} {U : TypeId} {p : Option Addr} {l : List Nat} {m c : Nat} (hU : P.underlying U = some (.slice E)) (h : NS W0 p l K) (hm : m = l.length) : ∀ w, KS W0 K w → Src P 1 U (.slice p m c) m (nums l) w := by
  intro w hw
  subst hm
  rcases h w hw with h0 | ⟨b, off, rfl, hlt, hc⟩
  · have hl : l = [] := by
      have := nums_len l; rw [h0] at this; exact List.eq_nil_of_length_eq_zero this.symm
    subst hl
    cases p with
    | none => exact Src.ofNil w hU c
    | some ad => exact Src.ofSlice w hU ad 0 c [] (by simp) (fun j u h => by simp at h) (fun u hu => by cases hu)
  · exact Src.ofSlice w hU ⟨b, off, none⟩ l.length c (nums l) (by simp [nums_len]) (fun j u hj => by rw [addr_add]; exact hc j u hj) (nums_one l)
theorem run_mk {o : Oper} {a : Act} {n : Nat} {x y : Operand} {b : Nat} (ho : o.op = .makeSlice T x y) (hT : P.underlying T = some (.slice E)) (hi : (P.info? E).map (fun i => (i.zero, i.size, i.bytes)) = some (some (.int .i64 0), 1, b)) (hb : b ≤ 10000)
    (hx : a.eval x = .int .i64 ((n : Nat) : Int)) (hy : a.eval y = .int .i64 ((n : Nat) : Int)) (hn : n ≤ 4000000000) (w : World) : (execOp a.eval o).run P w = .ok (.value (.slice (some ⟨w.heap.size, 0, none⟩) n n)) (w.alloc (.cells (nums (List.replicate n 0)).toArray E (0, 0))) := by
  unfold execOp
  rw [ho]
  have h1 : b * n ≤ 281474976710656 := Nat.le_trans (Nat.mul_le_mul hb hn) (by decide)
  have h2 := run_make_row' (P := P) T E (.int .i64 0) b hT hi rfl .i64 .i64 n h1 (by omega) w
  have h3 : madeCells #[.int .i64 0] n = (nums (List.replicate n 0)).toArray := by
    apply Array.ext'
    rw [toList_madeCells_one]
    simp [nums]
  rw [h3] at h2
  simp [hx, hy, h2]
end
def Ans (w : World) (l : List Nat) (e : Ending) (w' : World) : Prop := ∃ q d, e = .returned (.slice q l.length d) ∧ l.length ≤ d ∧ SLF w w' q (nums l) ∧ Below w.heap.size w w'
def AnsV (w : World) (l : List Nat) (e : Ending) (w' : World) : Prop := ∃ q d, e = .returned (.slice q l.length d) ∧ l.length ≤ d ∧ SLV w' q (nums l) ∧ Below w.heap.size w w'
def AnsG (W0 : Base) (K : List (Nat × Obj)) (l : List Nat) (v : Value) (K2 : List (Nat × Obj)) : Prop := ∃ q d T, v = .slice q l.length d ∧ l.length ≤ d ∧ NS W0 q l T ∧ (∀ W3, KS W0 T W3 → W0.B = W0.w.heap.size → SLF W0.w W3 q (nums l)) ∧ Dj K T ∧ K2 = K ++ T
def AnsW (W0 : Base) (K : List (Nat × Obj)) (l : List Nat) (v : Value) (K2 : List (Nat × Obj)) : Prop := ∃ q d T, v = .slice q l.length d ∧ l.length ≤ d ∧ NS W0 q l T ∧ K2 = K ++ T
def Ans2 (w : World) (l m : List Nat) (e : Ending) (w' : World) : Prop := ∃ q d q2 d2, e = .returned (.tuple #[.slice q l.length d, .slice q2 m.length d2]) ∧ l.length ≤ d ∧ m.length ≤ d2 ∧ SLV w' q (nums l) ∧ SLV w' q2 (nums m) ∧ Below w.heap.size w w'
def AnsW2 (W0 : Base) (K : List (Nat × Obj)) (l m : List Nat) (v : Value) (K2 : List (Nat × Obj)) : Prop := ∃ q d q2 d2 T, v = .tuple #[.slice q l.length d, .slice q2 m.length d2] ∧ l.length ≤ d ∧ m.length ≤ d2 ∧ NS W0 q l T ∧ NS W0 q2 m T ∧ K2 = K ++ T
section
variable {W0 : Base} {K : List (Nat × Obj)} {W w2 : World} {l m : List Nat} {e : Ending}
theorem Ans.v (h : Ans W l e w2) : AnsV W l e w2 := by
  obtain ⟨q, d, h1, h2, h3, h4⟩ := h
  exact ⟨q, d, h1, h2, h3.slv, h4⟩
theorem Ans.g (h : Ans W l e w2) (hW : KS W0 K W) : ∃ v K2, e = .returned v ∧ KS W0 K2 w2 ∧ AnsG W0 K l v K2 := by
  obtain ⟨q, d, h1, h2, h3, h4⟩ := h
  obtain ⟨T, a1, a2, a3, a4⟩ := ns_new hW h4 h3
  exact ⟨_, _, h1, a1, q, d, T, rfl, h2, a3, a4, a2, rfl⟩
theorem ns_of' {p : Option Addr} (hW : KS W0 K W) (hB : Below W.heap.size W w2) (hs : SLV w2 p (nums l)) : ∃ T, KS W0 (K ++ T) w2 ∧ NS W0 p l T := by
  have hK := hW.below hB
  rcases hs with h0 | ⟨b, off, rfl, hlt, hc⟩
  · exact ⟨[], by rw [List.append_nil]; exact hK, fun _ _ => .inl h0⟩
  · have hb : w2.heap[b]? = some (w2.heap[b]) := Array.getElem?_eq_getElem hlt
    refine ⟨[(b, w2.heap[b])], ⟨hK.1, fun q hq => ?_⟩, fun W3 hW3 => .inr ⟨b, off, rfl, ?_, fun i u hu => ?_⟩⟩
    · rcases List.mem_append.1 hq with h | h
      · exact hK.2 q h
      · cases List.mem_singleton.1 h; exact hb
    · have := hW3.2 _ (.head _); exact lt_of_block this
    · rw [cell_same (w2 := w2) (by rw [hW3.2 _ (.head _)]; exact hb.symm)]; exact hc i u hu
theorem AnsV.g (h : AnsV W l e w2) (hW : KS W0 K W) : ∃ v K2, e = .returned v ∧ KS W0 K2 w2 ∧ AnsW W0 K l v K2 := by
  obtain ⟨q, d, h1, h2, h3, h4⟩ := h
  obtain ⟨T, a1, a3⟩ := ns_of' hW h4 h3
  exact ⟨_, _, h1, a1, q, d, T, rfl, h2, a3, rfl⟩
theorem Ans2.g (h : Ans2 W l m e w2) (hW : KS W0 K W) : ∃ v K2, e = .returned v ∧ KS W0 K2 w2 ∧ AnsW2 W0 K l m v K2 := by
  obtain ⟨q, d, q2, d2, h1, h2, h3, h4, h5, h6⟩ := h
  obtain ⟨T, a1, a3⟩ := ns_of' hW h6 h4
  obtain ⟨U, b1, b3⟩ := ns_of' a1 (Below.refl _ _) h5
  refine ⟨_, _, h1, b1, q, d, q2, d2, T ++ U, rfl, h2, h3, a3.mono (fun q hq => List.mem_append_left _ hq), b3.mono (fun q hq => List.mem_append_right _ hq), by rw [List.append_assoc]⟩
theorem ns_blk {g : Nat} {E : TypeId} {fr : Nat × Nat} : NS W0 (some ⟨g, 0, none⟩) l [(g, .cells (nums l).toArray E fr)] := fun W hW => by
  have hb := hW.2 _ (.head _)
  refine .inr ⟨g, 0, rfl, lt_of_block hb, fun i u hu => ?_⟩
  rw [Nat.zero_add, cell_of_row W g i _ _ fr hb]
  simpa using hu
theorem own_snoc {E : TypeId} {v : Value} {n d : Nat} (h : OwnL W0 E 1 v n (nums l ++ [.int .i64 ((d : Nat) : Int)]) K) : OwnL W0 E 1 v n (nums (l ++ [d])) K := by
  rw [nums_app]; exact h
theorem own_snocZ {E : TypeId} {v : Value} {n : Nat} {z : Int} (h : OwnL W0 E 1 v n (nums l ++ [.int .i64 z]) K) (hz : 0 ≤ z) : OwnL W0 E 1 v n (nums (l ++ [z.toNat])) K := by
  rw [nums_app]
  have e : ((z.toNat : Nat) : Int) = z := Int.toNat_of_nonneg hz
  simp only [nums, List.map_cons, List.map_nil, e]
  exact h
theorem own_len {E : TypeId} {v : Value} {n : Nat} (h : OwnL W0 E 1 v n (nums l) K) : l.length = n := by rw [← nums_len]; exact own_ncap h
theorem ret_sl {p : Option Addr} {a b c : Nat} (h : a = b) : Ending.returned (.slice p a c) = Ending.returned (.slice p b c) := by rw [h]
end
section
variable {P : Program} {W0 : Base}
theorem st_to {o : Oper} {a : Act} {K K' : List (Nat × Obj)} {ty t : TypeId} {x y : Operand} {g off : Nat} {cs cs' : Array Value} {fr : Nat × Nat} {v : Value} (hc' : cs.setIfInBounds off v = cs') (ho : o.op = .store ty x y) (hx : a.eval x = .pointer (some ⟨g, off, none⟩)) (hv : a.eval y = v)
    (hm : (g, .cells cs t fr) ∈ K) (hB : W0.B ≤ g) (hi : (P.info? ty).map (·.size) = some 1) (hvc : v.cells = #[v]) (h1 : v.oneCell' = true) (hfit : off < cs.size) (hfr : cs.size ≤ fr.1 ∨ fr.2 = 0)
    (hK : ∀ p ∈ K', p = (g, .cells cs' t fr) ∨ (p ∈ K ∧ p.1 ≠ g)) : ∀ w, KS W0 K w → ∃ w', (execOp a.eval o).run P w = .ok .skip w' ∧ KS W0 K' w' := by
  subst hc'
  exact st_at ho hx hv hm hB hi hvc h1 hfit hfr hK
theorem st_all {o : Oper} {a : Act} {K K' : List (Nat × Obj)} {ty t : TypeId} {x y : Operand} {g : Nat} {cs cs' : Array Value} (hs : cs.size = cs'.size) (h1 : ∀ x ∈ cs'.toList, x.oneCell' = true) (ho : o.op = .store ty x y) (hx : a.eval x = .pointer (some ⟨g, 0, none⟩)) (hv : a.eval y = .agg cs')
    (hm : (g, .cells cs t (0, 0)) ∈ K) (hB : W0.B ≤ g) (hi : (P.info? ty).map (·.size) = some cs'.size)
    (hK : ∀ p ∈ K', p = (g, .cells cs' t (0, 0)) ∨ (p ∈ K ∧ p.1 ≠ g)) : ∀ w, KS W0 K w → ∃ w', (execOp a.eval o).run P w = .ok .skip w' ∧ KS W0 K' w' := by
  refine st_row ho hx hv hm hB hi (by show 0 + cs'.size ≤ cs.size; omega) h1 ?_ hK
  show cs' = (cs.toList.take 0 ++ cs'.toList ++ cs.toList.drop (0 + cs'.toList.length)).toArray
  rw [List.take_zero, List.nil_append, Nat.zero_add, List.drop_of_length_le (by simp; omega), List.append_nil]
theorem yb_all {o : Oper} {a : Act} {K : List (Nat × Obj)} {ty t : TypeId} {x : Operand} {g : Nat} {cur : Array Value} {fr : Nat × Nat} {d : TypeDesc} (ho : o.op = .load ty x) (hx : a.eval x = .pointer (some ⟨g, 0, none⟩))
    (hm : (g, .cells cur t fr) ∈ K) (hu : P.underlying ty = some d) (hd : aggD d = true) (hi : (P.info? ty).map (·.size) = some cur.size) :
    ∀ w, KS W0 K w → ∀ K' : Act → World → Prop, (∀ w', Below w.heap.size w w' → K' (a.put o.dst (.agg cur)) w') → Oper.wp P o a w K' (fun _ _ _ => False) :=
  yb_cells (cs := cur.toList) ho hx hm (fun j v hj => by rw [Nat.zero_add]; simpa using hj) hu hd (by simpa using hi)
theorem un_neg {k : IntKind} {x z : Int} (h : -x = z) (hw : k.wrap z = z) (w : World) : (Op.unary .neg (.int k x) : Sem Value).run P w = .ok (.int k z) w := by
  subst h
  simp [Op.unary, Op.intArith, Int.zero_sub, hw]
theorem run_minN {o : Oper} {a : Act} {x y : Nat} {px py : Operand} {k : IntKind} {tt : Array TypeId} (ho : o.op = .call { callee := .builtin .min, args := #[px, py], argTypes := tt }) (hx : a.eval px = .int k ((x : Nat) : Int)) (hy : a.eval py = .int k ((y : Nat) : Int)) (w : World) : (execOp a.eval o).run P w = .ok (.value (.int k ((min x y : Nat) : Int))) w := by
  unfold execOp
  rw [ho]
  have h := run_min_int2 (P := P) w tt o.type k k x y
  simp only [resolve, invoke, builtin, Sem.run_bind, Sem.run_pure, Result.andThen_ok, List.map_toArray, List.map_cons, List.map_nil, hx, hy, h]
  congr 2
  simp only [Nat.min_def]
  split <;> split <;> first | rfl | (exfalso; omega)
theorem nums_set (l : List Nat) (i x : Nat) : (nums l).toArray.setIfInBounds (0 + i * 1) (.int .i64 ((x : Nat) : Int)) = (nums (l.set i x)).toArray := by
  rw [Nat.zero_add, Nat.mul_one, List.setIfInBounds_toArray]
  simp [nums, List.map_set]
end
end Tw
/- Which columns have which cover; how often a column is met: plain facts. -/
namespace Go.Proofs.Ytldhjhjomokkgaa
open Go Go.RowKit Tw
section
variable {cs : List Col} {os : List Cov}
theorem keys_uni : ∀ {ov : List (Int × List Int)} {a b : Nat} {o1 o2 : Int × List Int} {r : Int}, (keysO ov).Nodup → ov[a]? = some o1 → ov[b]? = some o2 → r ∈ o1.2 → r ∈ o2.2 → o1.1 = o2.1 → a = b
  | [], _, _, _, _, _, _, h, _, _, _, _ => by simp at h
  | o :: ov, a, b, o1, o2, r, hn, h1, h2, r1, r2, e => by
    have hk : keysO (o :: ov) = (o.2.map fun r => (o.1, r)) ++ keysO ov := rfl
    rw [hk] at hn
    obtain ⟨n1, n2, n3⟩ := List.nodup_append.1 hn
    have hin : ∀ {j : Nat} {x : Int × List Int}, ov[j]? = some x → ∀ {r : Int}, r ∈ x.2 → (x.1, r) ∈ keysO ov := fun {j x} hx {r} hr => List.mem_flatMap.2 ⟨x, List.mem_of_getElem? hx, List.mem_map.2 ⟨r, hr, rfl⟩⟩
    cases a with
    | zero =>
      cases b with
      | zero => rfl
      | succ b =>
        simp at h1 h2
        subst h1
        exact absurd (by rw [e]) (n3 (o.1, r) (List.mem_map.2 ⟨r, r1, rfl⟩) (o2.1, r) (hin h2 r2))
    | succ a =>
      cases b with
      | zero =>
        simp at h1 h2
        subst h2
        exact absurd (by rw [e]) (n3 (o.1, r) (List.mem_map.2 ⟨r, r2, rfl⟩) (o1.1, r) (hin h1 r1))
      | succ b =>
        simp at h1 h2
        rw [keys_uni n2 h1 h2 r1 r2 e]
theorem bel_uni (ho : GoodO (os.map fun o => (o.bay, o.rows))) {a b : Nat} {o1 o2 : Cov} {y : Col} (h1 : os[a]? = some o1) (h2 : os[b]? = some o2) (b1 : belX y o1 = true) (b2 : belX y o2 = true) : a = b := by
  unfold belX hasN at b1 b2
  simp only [Bool.and_eq_true, decide_eq_true_eq] at b1 b2
  exact keys_uni (goodO_in ho).2.1 (o1 := (o1.bay, o1.rows)) (o2 := (o2.bay, o2.rows)) (by rw [List.getElem?_map, h1]; rfl) (by rw [List.getElem?_map, h2]; rfl) b1.2 b2.2 (b1.1.trans b2.1.symm)
theorem cov_is {j : Nat} {y : Col} (hy : cs[j]? = some y) : covOf cs os ((j : Nat) : Int) = fst (belX y) os := by
  obtain ⟨h1, h2⟩ := el_nat (d := col0) hy
  unfold covOf
  rw [h1, h2]; rfl
theorem cov_at (ho : GoodO (os.map fun o => (o.bay, o.rows))) {j k : Nat} {y : Col} {o : Cov} (hy : cs[j]? = some y) (hk : os[k]? = some o) : covOf cs os ((j : Nat) : Int) = some k ↔ belX y o = true := by
  rw [cov_is hy]
  constructor
  · intro h
    obtain ⟨x, h1, h2, _⟩ := fst_some h
    rw [hk] at h1; cases h1; exact h2
  · intro h
    refine fst_is hk h fun i z hi hz => ?_
    cases e : belX y z with
    | false => rfl
    | true => have := bel_uni ho hz hk e h; omega
theorem al_is {k : Nat} {o : Cov} {deck : Bool} (hk : os[k]? = some o) : alongX cs os ((k : Nat) : Int) deck = idx (partOf deck o) cs := by
  obtain ⟨h1, h2⟩ := el_nat (d := cov0) hk
  unfold alongX
  rw [h1, h2]; rfl
theorem al_mem {k j : Nat} {o : Cov} {y : Col} {deck : Bool} (hk : os[k]? = some o) (hy : cs[j]? = some y) : ((j : Nat) : Int) ∈ alongX cs os ((k : Nat) : Int) deck ↔ y.deck = deck ∧ belX y o = true := by
  rw [al_is hk, idx_mem]
  unfold partOf
  constructor
  · rintro ⟨i, z, h1, h2, h3⟩
    have : i = j := by omega
    subst this
    rw [hy] at h2; cases h2
    simpa using h3
  · rintro ⟨h1, h2⟩
    exact ⟨j, y, rfl, hy, by simp [h1, h2]⟩
theorem al_at (ho : GoodO (os.map fun o => (o.bay, o.rows))) {k m : Nat} {o : Cov} {deck : Bool} {x : Int} (hk : os[k]? = some o) (hx : (alongX cs os ((k : Nat) : Int) deck)[m]? = some x) :
    ∃ (j : Nat) (y : Col), x = ((j : Nat) : Int) ∧ j < cs.length ∧ cs[j]? = some y ∧ y.deck = deck ∧ y.bay = o.bay ∧ covOf cs os ((j : Nat) : Int) = some k ∧ x ∉ (alongX cs os ((k : Nat) : Int) deck).take m := by
  have hpw : (alongX cs os ((k : Nat) : Int) deck).Pairwise (· < ·) := by rw [al_is hk]; exact idxF_pw
  have hm := List.mem_of_getElem? hx
  obtain ⟨hml, hmx⟩ := List.getElem?_eq_some_iff.1 hx
  have hnot : x ∉ (alongX cs os ((k : Nat) : Int) deck).take m := by
    intro hin
    obtain ⟨i, hi⟩ := List.mem_iff_getElem?.1 hin
    rw [List.getElem?_take] at hi
    split at hi
    · rename_i him
      obtain ⟨hil, hix⟩ := List.getElem?_eq_some_iff.1 hi
      have := (List.pairwise_iff_getElem.1 hpw) i m hil hml him
      omega
    · cases hi
  rw [al_is hk, idx_mem] at hm
  obtain ⟨j, y, rfl, hy, hp⟩ := hm
  have hp2 : y.deck = deck ∧ belX y o = true := by simpa [partOf] using hp
  refine ⟨j, y, rfl, (List.getElem?_eq_some_iff.1 hy).1, hy, hp2.1, ?_, (cov_at ho hy hk).2 hp2.2, hnot⟩
  have := hp2.2
  unfold belX at this
  simp only [Bool.and_eq_true, decide_eq_true_eq] at this
  exact this.1.symm
-- what has been met
def baseN (cs : List Col) (os : List Cov) (k c : Nat) : Nat := match covOf cs os ((c : Nat) : Int) with
  | some j => if j < k then 1 else 0
  | none => 0
def inN (L : List Int) (m c : Nat) : Nat := if ((c : Nat) : Int) ∈ L.take m then 1 else 0
def MetI (n : Nat) (f : Nat → Nat) (sl : List Nat) : Prop := sl.length = n ∧ ∀ c x, sl[c]? = some x → x = f c
theorem base_le (k c : Nat) : baseN cs os k c ≤ 1 := by
  unfold baseN
  split
  · split <;> omega
  · omega
theorem inN_le (L : List Int) (m c : Nat) : inN L m c ≤ 1 := by unfold inN; split <;> omega
section
variable {n m k j x : Nat} {f : Nat → Nat} {sl : List Nat} {L : List Int}
theorem met_0 : MetI n (baseN cs os 0) (List.replicate n 0) := by
  refine ⟨List.length_replicate, fun c x h => ?_⟩
  rw [List.getElem?_replicate] at h
  split at h
  · cases h
    unfold baseN
    split
    · rw [if_neg (by omega)]
    · rfl
  · cases h
theorem met_start (L : List Int) (h : MetI n f sl) : MetI n (fun c => f c + inN L 0 c) sl := ⟨h.1, fun c x hx => by have := h.2 c x hx; simp [inN, this]⟩
theorem met_step (h : MetI n (fun c => f c + inN L m c) sl) (hx : L[m]? = some ((j : Nat) : Int)) (hn : ((j : Nat) : Int) ∉ L.take m) (hs : sl[j]? = some x) : MetI n (fun c => f c + inN L (m + 1) c) (sl.set j (x + 1)) := by
  obtain ⟨hm, hmx⟩ := List.getElem?_eq_some_iff.1 hx
  have hj := (List.getElem?_eq_some_iff.1 hs).1
  refine ⟨by rw [List.length_set]; exact h.1, fun c y hy => ?_⟩
  have e : inN L (m + 1) c = if c = j then 1 else inN L m c := by
    unfold inN
    rw [List.take_succ_eq_append_getElem hm, hmx]
    simp only [List.mem_append, List.mem_singleton]
    by_cases hc : c = j
    · subst hc; simp
    · have : ¬ ((c : Nat) : Int) = ((j : Nat) : Int) := by omega
      simp [hc, this]
  rw [List.getElem?_set] at hy
  split at hy
  · rename_i hc
    subst hc
    have h1 := h.2 _ _ hs
    have h2 : inN L m j = 0 := by unfold inN; rw [if_neg hn]
    try rw [if_pos hj] at hy
    cases hy
    show x + 1 = f j + inN L (m + 1) j
    rw [e, if_pos rfl]
    have h1 : x = f j + inN L m j := h1
    omega
  · rename_i hc
    have h1 : y = f c + inN L m c := h.2 _ _ hy
    show y = f c + inN L (m + 1) c
    rw [e, if_neg (fun e => hc e.symm)]; exact h1
theorem met_end (hm : ¬ m < L.length) (h : MetI n (fun c => f c + inN L m c) sl) : MetI n (fun c => f c + inN L L.length c) sl := ⟨h.1, fun c x hx => by
  have := h.2 c x hx
  have e : inN L m c = inN L L.length c := by unfold inN; rw [List.take_of_length_le (by omega), List.take_length]
  rw [this]
  show f c + inN L m c = f c + inN L L.length c
  rw [e]⟩
theorem met_next {o : Cov} (ho : GoodO (os.map fun o => (o.bay, o.rows))) (hk : os[k]? = some o) (h : MetI cs.length (fun c => baseN cs os k c + inN (alongX cs os ((k : Nat) : Int) false) (alongX cs os ((k : Nat) : Int) false).length c + inN (alongX cs os ((k : Nat) : Int) true) (alongX cs os ((k : Nat) : Int) true).length c) sl) : MetI cs.length (baseN cs os (k + 1)) sl := ⟨h.1, fun c x hx => by
  have hc : c < cs.length := by rw [← h.1]; exact (List.getElem?_eq_some_iff.1 hx).1
  have hy : cs[c]? = some cs[c] := List.getElem?_eq_getElem hc
  have e : x = _ := h.2 c x hx
  rw [e]
  have hcov := cov_at (cs := cs) ho hy hk
  have hU := al_mem (deck := false) hk hy
  have hV := al_mem (deck := true) hk hy
  show baseN cs os k c + inN _ _ c + inN _ _ c = baseN cs os (k + 1) c
  unfold inN
  rw [List.take_length, List.take_length]
  by_cases hb : belX cs[c] o = true
  · have e1 := hcov.2 hb
    unfold baseN
    rw [e1]
    simp only [Nat.lt_irrefl, if_false, Nat.lt_succ_self, if_true]
    cases hd : cs[c].deck with
    | false => rw [if_pos (hU.2 ⟨hd, hb⟩), if_neg (fun h => by have := (hV.1 h).1; rw [hd] at this; cases this)]
    | true => rw [if_neg (fun h => by have := (hU.1 h).1; rw [hd] at this; cases this), if_pos (hV.2 ⟨hd, hb⟩)]
  · rw [if_neg (fun h => hb (hU.1 h).2), if_neg (fun h => hb (hV.1 h).2)]
    have e1 : covOf cs os ((c : Nat) : Int) ≠ some k := fun e => hb (hcov.1 e)
    unfold baseN
    cases hcv : covOf cs os ((c : Nat) : Int) with
    | none => rfl
    | some j =>
      have : j ≠ k := fun e => e1 (by rw [hcv, e])
      simp only
      by_cases hjk : j < k
      · rw [if_pos hjk, if_pos (by omega)]
      · rw [if_neg hjk, if_neg (by omega)]⟩
theorem met_fin (h : MetI cs.length (baseN cs os os.length) sl) {c : Nat} (hx : sl[c]? = some x) : x ≤ 1 ∧ (x = 0 ↔ fiN (covOf cs os ((c : Nat) : Int)) = -1) := by
  have hc : c < cs.length := by rw [← h.1]; exact (List.getElem?_eq_some_iff.1 hx).1
  have hy : cs[c]? = some cs[c] := List.getElem?_eq_getElem hc
  have e := h.2 c x hx
  rw [e]
  refine ⟨base_le _ _, ?_⟩
  unfold baseN
  cases hcv : covOf cs os ((c : Nat) : Int) with
  | none => simp [fiN]
  | some j =>
    rw [cov_is hy] at hcv
    obtain ⟨o, h1, _, _⟩ := fst_some hcv
    have hj := (List.getElem?_eq_some_iff.1 h1).1
    simp only [fiN, if_pos hj]
    constructor
    · intro h; omega
    · intro h; omega
end
end
end Go.Proofs.Ytldhjhjomokkgaa
/- Without a column, without a cover: plain facts; slices from a place on. -/
namespace Go.Proofs.Ytldhjhjomokkgaa
open Go Go.RowKit Tw
theorem own_rnone {α : Type} {cells : α → List Value} {sz : Nat} {W0 : Base} {E : TypeId} {g : Nat} (hB : W0.B ≤ g) : OwnL W0 E sz (.slice (some ⟨g, 0, none⟩) 0 0) 0 (([] : List α).flatMap cells) [(g, .cells #[] E (0, 0))] :=
  .inr ⟨g, 0, _, rfl, hB, ⟨by simp, by unfold maxLen; omega, Nat.le_refl _, by simp, by simp⟩, rfl⟩
theorem run_sll {P : Program} {T E : TypeId} {o : Oper} {a : Act} {p : Option Addr} {n c i sz : Nat} {x y : Operand} {k1 : IntKind} (ho : o.op = .slice T x (some y) none none) (hT : P.underlying T = some (.slice E)) (hsz : (P.info? E).map (·.size) = some sz) (hx : a.eval x = .slice p n c) (hy : a.eval y = .int k1 ((i : Nat) : Int)) (hi : i ≤ n) (hn : n ≤ c) (w : World) : (execOp a.eval o).run P w = .ok (.value (.slice (cutQ p c i sz) (n - i) (c - i))) w := by
  have e1 := fun q => sl_bound (P := P) (k := k1) (c := q) hi w
  have e2 := fun q => sl_bound (P := P) (k := .i64) (c := q) hn w
  unfold execOp cutQ
  cases hq : P.info? E with
  | none => simp [hq] at hsz
  | some q =>
    have hs : q.size = sz := by simpa [hq] using hsz
    simp [ho, hx, hy, Instr.sliceAt, Instr.slice, Instr.sliceBounds, run_underlying hT, e1, e2, Go.sizeOf, typeInfo, hq, hs]
-- without an element
section
variable {α : Type} {l : List α} {k : Nat} {x : α}
theorem er_sub (l : List α) (k : Nat) : (l.take k ++ l.drop (k + 1)).Sublist l := by
  rw [← List.eraseIdx_eq_take_drop_succ]; exact List.eraseIdx_sublist ..
theorem er_len (h : k < l.length) : (l.take k ++ l.drop (k + 1)).length = l.length - 1 := by
  rw [List.length_append, List.length_take, List.length_drop]; omega
theorem er_split (h : l[k]? = some x) : l = l.take k ++ x :: l.drop (k + 1) := by
  obtain ⟨hk, rfl⟩ := List.getElem?_eq_some_iff.1 h
  conv => lhs; rw [← List.take_append_drop k l, List.drop_eq_getElem_cons hk]
end
def sumT : List Col → Int
  | [] => 0
  | c :: cs => c.tiers + sumT cs
theorem sumT_app (a b : List Col) : sumT (a ++ b) = sumT a + sumT b := by
  induction a with
  | nil => simp [sumT]
  | cons c a ih => simp only [List.cons_append, sumT, ih]; omega
theorem tiers_sum {cs : List Col} : ∀ {m : Int}, (∀ c ∈ cs, 1 ≤ c.tiers ∧ c.tiers ≤ 10) → 0 ≤ m → m + 10 * ((cs.length : Nat) : Int) ≤ 1000000 → tiersF m cs = m + sumT cs ∧ 0 ≤ sumT cs ∧ sumT cs ≤ 10 * ((cs.length : Nat) : Int) := by
  induction cs with
  | nil => intro m _ _ _; exact ⟨by simp [tiersF, sumT], by simp [sumT], by simp [sumT]⟩
  | cons c cs ih =>
    intro m h h0 h1
    have hc := h c (.head _)
    rw [List.length_cons] at h1 ⊢
    have e : IntKind.i64.wrap (m + c.tiers) = m + c.tiers := wi_i64 (by omega)
    obtain ⟨i1, i2, i3⟩ := ih (m := m + c.tiers) (fun x hx => h x (.tail _ hx)) (by omega) (by omega)
    refine ⟨?_, ?_, ?_⟩
    · show tiersF (IntKind.i64.wrap (m + c.tiers)) cs = _
      rw [e, i1]; simp only [sumT]; omega
    · simp only [sumT]; omega
    · simp only [sumT]; omega
section
variable {cs : List Col}
theorem good_tiers (h : Good cs) : ∀ c ∈ cs, 1 ≤ c.tiers ∧ c.tiers ≤ 10 := fun c hc => by
  have := colx_in (h.1 c hc).1; omega
theorem places_is (h : Good cs) (h2 : cs.length ≤ 12) : placesX cs = 2 * sumT cs ∧ 0 ≤ sumT cs ∧ sumT cs ≤ 120 := by
  obtain ⟨h3, h4, h5⟩ := tiers_sum (m := 0) (good_tiers h) (by omega) (by omega)
  refine ⟨?_, h4, by omega⟩
  unfold placesX
  rw [h3, Int.zero_add]
  exact wi_i64 (by omega)
theorem less_good (h : Good cs) (k : Nat) : Good (cs.take k ++ cs.drop (k + 1)) := good_sub h (er_sub cs k)
theorem less_places (h : Good cs) (h2 : cs.length ≤ 12) {k : Nat} {c : Col} (hc : cs[k]? = some c) : placesX (cs.take k ++ cs.drop (k + 1)) = placesX cs - 2 * c.tiers := by
  have hk := (List.getElem?_eq_some_iff.1 hc).1
  obtain ⟨e1, _, _⟩ := places_is h h2
  obtain ⟨e2, _, _⟩ := places_is (less_good h k) (by rw [er_len hk]; omega)
  have e3 : sumT cs = sumT (cs.take k) + (c.tiers + sumT (cs.drop (k + 1))) := by
    conv => lhs; rw [er_split hc, sumT_app]
    rfl
  rw [e1, e2, sumT_app]; omega
theorem tallF_ge : ∀ (cs : List Col) (m : Int), m ≤ tallF m cs ∧ ∀ c ∈ cs, c.tiers ≤ tallF m cs
  | [], m => ⟨Int.le_refl _, fun _ h => by cases h⟩
  | c :: cs, m => by
    obtain ⟨h1, h2⟩ := tallF_ge cs (max m c.tiers)
    refine ⟨by show m ≤ tallF (max m c.tiers) cs; omega, fun x hx => ?_⟩
    show x.tiers ≤ tallF (max m c.tiers) cs
    rcases List.mem_cons.1 hx with rfl | hx
    · omega
    · exact h2 x hx
theorem tallF_in : ∀ (cs : List Col) (m : Int), tallF m cs = m ∨ ∃ c ∈ cs, tallF m cs = c.tiers
  | [], m => .inl rfl
  | c :: cs, m => by
    rcases tallF_in cs (max m c.tiers) with h | ⟨x, hx, h⟩
    · rcases Int.le_total m c.tiers with hm | hm
      · exact .inr ⟨c, .head _, by show tallF (max m c.tiers) cs = _; rw [h]; omega⟩
      · exact .inl (by show tallF (max m c.tiers) cs = _; rw [h]; omega)
    · exact .inr ⟨x, .tail _ hx, h⟩
theorem tall_ge {c : Col} (hc : c ∈ cs) : c.tiers ≤ tallX cs := by
  cases cs with
  | nil => cases hc
  | cons d cs =>
    obtain ⟨h1, h2⟩ := tallF_ge cs d.tiers
    rcases List.mem_cons.1 hc with rfl | hc
    · exact h1
    · exact h2 c hc
theorem tall_in : cs = [] ∨ ∃ c ∈ cs, tallX cs = c.tiers := by
  cases cs with
  | nil => exact .inl rfl
  | cons d cs =>
    rcases tallF_in cs d.tiers with h | ⟨x, hx, h⟩
    · exact .inr ⟨d, .head _, h⟩
    · exact .inr ⟨x, .tail _ hx, h⟩
theorem less_tall (h : Good cs) (h0 : 0 < cs.length) (k : Nat) : tallX (cs.take k ++ cs.drop (k + 1)) ≤ tallX cs := by
  rcases tall_in (cs := cs.take k ++ cs.drop (k + 1)) with e | ⟨c, hc, e⟩
  · rw [e]
    have hm : cs[0] ∈ cs := List.getElem_mem h0
    have h1 := tall_ge hm
    have h2 := good_tiers h _ hm
    show (0 : Int) ≤ _
    omega
  · rw [e]; exact tall_ge ((er_sub cs k).subset hc)
theorem less_right (h : Good cs) (h2 : cs.length ≤ 12) {k : Nat} (hk : k < cs.length) {os : List Cov} (ho : GoodO (os.map fun o => (o.bay, o.rows))) : rightX (cs.take k ++ cs.drop (k + 1)) os = decide (1 < cs.length) := by
  have hl := er_len hk
  by_cases h1 : 1 < cs.length
  · rw [decide_eq_true h1]
    exact good_right (less_good h k) (by omega) (by omega) ho
  · rw [decide_eq_false h1]
    have e : cs.take k ++ cs.drop (k + 1) = [] := List.eq_nil_of_length_eq_zero (by omega)
    rw [e]; rfl
theorem find_at (h : Good cs) {i : Nat} {c : Col} (hc : cs[i]? = some c) : fst (isAt c.bay c.row c.deck) cs = some i :=
  fst_is hc (isAt_place.2 rfl) fun j y hj hy => by
    cases e : isAt c.bay c.row c.deck y with
    | false => rfl
    | true =>
      have := good_inj h hy hc (isAt_place.1 e)
      omega
theorem less_find (h : Good cs) {i k : Nat} {c : Col} (hc : cs[i]? = some c) (hk : k < cs.length) : (fst (isAt c.bay c.row c.deck) (cs.take k ++ cs.drop (k + 1))).isSome = !decide (i = k) := by
  have hi := (List.getElem?_eq_some_iff.1 hc).1
  by_cases e : i = k
  · subst e
    rw [decide_eq_true rfl]
    have : fst (isAt c.bay c.row c.deck) (cs.take i ++ cs.drop (i + 1)) = none := fst_mem_none fun x hx => by
      cases e : isAt c.bay c.row c.deck x with
      | false => rfl
      | true =>
        exfalso
        have hp : placeX x = placeX c := isAt_place.1 e
        have hn := h.2
        rw [er_split hc, List.map_append, List.map_cons] at hn
        obtain ⟨_, n2, n3⟩ := List.nodup_append.1 hn
        rw [List.nodup_cons] at n2
        rcases List.mem_append.1 hx with hx | hx
        · exact n3 _ (List.mem_map.2 ⟨x, hx, rfl⟩) _ (.head _) hp
        · exact n2.1 (List.mem_map.2 ⟨x, hx, hp⟩)
    rw [this]; rfl
  · rw [decide_eq_false e]
    have hm : c ∈ cs.take k ++ cs.drop (k + 1) := by
      rw [List.mem_append]
      rcases Nat.lt_or_gt_of_ne e with e | e
      · left
        exact List.mem_of_getElem? (i := i) (by rw [List.getElem?_take, if_pos e]; exact hc)
      · right
        exact List.mem_of_getElem? (i := i - (k + 1)) (by rw [List.getElem?_drop, show k + 1 + (i - (k + 1)) = i from by omega]; exact hc)
    cases hf : fst (isAt c.bay c.row c.deck) (cs.take k ++ cs.drop (k + 1)) with
    | some j => rfl
    | none => have := fst_none hf c hm; rw [isAt_place.2 rfl] at this; cases this
end
theorem rw_sub {W : World} {os l : List Cov} (h : RwR W os) (hs : l.Sublist os) : RwR W l := fun o ho => h o (hs.subset ho)
theorem open_good {os : List Cov} (h : GoodO (os.map fun o => (o.bay, o.rows))) (k : Nat) : GoodO ((os.take k ++ os.drop (k + 1)).map fun o => (o.bay, o.rows)) := ((er_sub os k).map _).trans h
end Go.Proofs.Ytldhjhjomokkgaa
namespace Go.Proofs.Ytldhjhjomokkgaa
open Go Go.RowKit Tw
set_option maxRecDepth 100000 in
set_option maxHeartbeats 4000000 in
theorem ShipCovers_law (l : List Pl) (p : Option Addr) (c : Nat) (n : Nat) (hl : l.length ≤ 9223372036854775807) (hcap : l.length ≤ c) (hok : ∀ y ∈ l, plOk y) (hn : n ≤ 4294967295) (w : World) (hp : SLV w p (l.flatMap plC)) : Calls Try.prog 5 #[.slice p l.length c, .int .u32 ((n : Nat) : Int)] w fun e w' => e = .returned (.bool true) ∧ Below w.heap.size w w' := by
  have HP := Lib.hid hp
  clear hp
  obtain ⟨cs, hcs⟩ : ∃ cs, builtC l = cs := ⟨_, rfl⟩
  have hg : Good cs := hcs ▸ built_good l
  obtain ⟨h0, h12⟩ : 0 < cs.length ∧ cs.length ≤ 12 := hcs ▸ built_len l
  go_enter Try.func5, Try.ntmps5
  refine wp_seq ?_
  refine wp_region_L (W0 := w) [] (KS.start w) ?_
  refine lm (v := .bool false) rfl rfl ?_
  refine wpL_done (fun W1 hW1 => ?_)
  refine (show Code.wp _ _ _ _ _ from ?_)
  refine wp_seq ?_
  refine wp_region_L (W0 := w) [] (hW1) ?_
  refine lm (v := .slice p l.length c) rfl rfl ?_
  refine lm (v := .int .u32 ((n : Nat) : Int)) rfl rfl ?_
  refine wpL_c (f := 31) (args := #[.slice p l.length c, .int .u32 ((n : Nat) : Int)]) (ShipT w cs (builtO n)) rfl (by kernel_rfl) (fun _ => (by kernel_rfl)) (fun W hW => (by have h9 := Built_any l p c n hl hcap hok hn (RL.base HP.out) W hW; rw [hcs] at h9; exact h9)) (fun _ => by simp only [List.setIfInBounds_toArray, List.set_cons_succ, List.set_cons_zero] <;> rfl) ?_
  rintro _ TS ⟨pcS, ccS, osS, poS, coS, rfl, hccS, hcoS, hCS, hOS, hRS, hMS⟩
  refine wpL_rebase fun WB hWB => ?_
  have HCS := Lib.hid (hCS WB hWB)
  have HOS := Lib.hid (hOS WB hWB)
  have HRS := Lib.hid (hRS WB hWB)
  clear hCS hOS hRS
  have hoS : GoodO (osS.map fun o => (o.bay, o.rows)) := by rw [hMS]; exact builtO_sub n
  have lrS := goodO_rows hoS
  have HPS := Lib.hid ((good_plugs hg).1 WB)
  have lpS := (good_plugs hg).2
  have loS : osS.length ≤ 10 := by have h8 := congrArg List.length hMS; rw [List.length_map] at h8; have h9 := builtO_len n; omega
  refine wpL_new (fun g => .pointer (some ⟨g, 0, none⟩)) (obi := .cells (shC (.slice none 0 0) (.slice none 0 0) tl0).toArray 32 (0, 0)) rfl rfl (fun _ => by kernel_rfl) (fun _ => by simp only [List.setIfInBounds_toArray, List.set_cons_succ, List.set_cons_zero] <;> rfl) fun g1 Bg1 Fg1 => ?_
  refine wpL_s [(g1, .cells (shC (.slice pcS cs.length ccS) (.slice poS osS.length coS) tl0).toArray 32 (0, 0))] rfl rfl (st_row (off := 0) (v := .agg (shC (.slice pcS cs.length ccS) (.slice poS osS.length coS) tl0).toArray) rfl (by kernel_rfl) (by kernel_rfl) (.head _) Bg1 (by kernel_rfl) (by first | (simp [Value.cells]; done) | exact Nat.le_of_ble_eq_true rfl) (fun v hv => shC_one v hv) (by kernel_rfl) (List.forall_mem_cons.2 ⟨.inl rfl, (List.forall_mem_nil _)⟩)) ?_
  refine wpL_done (fun W2 hW2 => ?_)
  refine (show Code.wp _ _ _ _ _ from ?_)
  refine wp_seq ?_
  refine wp_seq ?_
  have hbZ := hWB.1.trans (hW2.1.mono hWB.1.size)
  have HCZ := Lib.hid (HCS.out.keep hW2.1)
  have HOZ := Lib.hid (HOS.out.keep hW2.1)
  have HRZ := Lib.hid (HRS.out.keep hW2.1)
  have HGZ := Lib.hid (CapR.of (cs := (shC (.slice pcS cs.length ccS) (.slice poS osS.length coS) tl0)) hW2 (.head _))
  clear HCS HOS HRS HPS
  refine wp_region_L (W0 := W2) [] ((KS.start W2)) ?_
  refine lv (v := .agg (shC (.slice pcS cs.length ccS) (.slice poS osS.length coS) tl0).toArray) rfl rfl (yb_rs (off := 0) (cs := _) rfl (by kernel_rfl) (fun W hW => ((HGZ.out).keep hW.1).2) Try.underlying32 rfl (by kernel_rfl)) ?_
  refine lv (v := .bool (rightX cs osS)) rfl rfl (yb_call (f := 14) (args := #[.agg (shC (.slice pcS cs.length ccS) (.slice poS osS.length coS) tl0).toArray]) (fun _ => by kernel_rfl) fun W hW => Right_any cs pcS ccS (by omega) osS poS coS (by omega) tl0 W ((RL.base HCZ.out) _ (hW.sub (fun _ h => by cases h))) ((RL.base HOZ.out) _ (hW.sub (fun _ h => by cases h))) (HRZ.out.keep hW.1) lrS (((good_plugs hg).1 W2).keep hW.1) (good_plugs hg).2) ?_
  refine lp (v := .bool (!(rightX cs osS))) rfl rfl (run_un rfl (by kernel_rfl) fun w => un_not w) ?_
  refine wpL_done (fun W3 hW3 => ?_)
  refine (show Code.wp _ _ _ _ _ from ?_)
  cases h1 : (rightX cs osS) with
  | false =>
    exact absurd (good_right hg h0 h12 hoS) (by rw [h1]; decide)
  | true =>
    refine wp_cond_false rfl ?_
    refine wp_skip ?_
    refine (show Code.wp _ _ _ _ _ from ?_)
    refine wp_seq ?_
    refine wp_region_L (W0 := W2) [] (hW3) ?_
    refine lm (v := .pointer (some ⟨g1, 0, none⟩)) rfl rfl ?_
    refine lv (v := .slice pcS cs.length ccS) rfl rfl (yb_rf (v := .slice pcS cs.length ccS) rfl (by kernel_rfl) (fun W hW => ((HGZ.out).keep hW.1).2 0 _ rfl) Try.underlying22 rfl) ?_
    refine lp (v := .int .i64 ((cs.length : Nat) : Int)) rfl rfl (run_lenL (p := pcS) (cap := ccS) (n := cs.length) rfl Try.underlying22 (by kernel_rfl)) ?_
    refine wpL_new (fun g => .slice (some ⟨g, 0, none⟩) cs.length cs.length) (obi := .cells (nums (List.replicate cs.length 0)).toArray 3 (0, 0)) rfl rfl (run_mk (b := 8) rfl Try.underlying39 (by kernel_rfl) (by decide) (by kernel_rfl) (by kernel_rfl) (by omega)) (fun _ => by simp only [List.setIfInBounds_toArray, List.set_cons_succ, List.set_cons_zero] <;> rfl) fun g2 Bg2 Fg2 => ?_
    refine lm (v := .slice (some ⟨g2, 0, none⟩) cs.length cs.length) rfl rfl ?_
    refine wpL_done (fun W4 hW4 => ?_)
    refine (show Code.wp _ _ _ _ _ from ?_)
    refine wp_seq ?_
    refine wp_seq ?_
    refine wp_region_L (W0 := W2) [(g2, .cells (nums (List.replicate cs.length 0)).toArray 3 (0, 0))] (hW4) ?_
    refine lm (v := .pointer (some ⟨g1, 1, none⟩)) rfl rfl ?_
    refine lv (v := .slice poS osS.length coS) rfl rfl (yb_rf (v := .slice poS osS.length coS) rfl (by kernel_rfl) (fun W hW => ((HGZ.out).keep hW.1).2 1 _ rfl) Try.underlying23 rfl) ?_
    refine lp (v := .int .i64 ((osS.length : Nat) : Int)) rfl rfl (run_lenL (p := poS) (cap := coS) (n := osS.length) rfl Try.underlying23 (by kernel_rfl)) ?_
    refine lm (v := .int .i64 0) rfl rfl ?_
    refine wpL_done (fun W5 hW5 => ?_)
    refine (show Code.wp _ _ _ _ _ from ?_)
    refine wp_block ?_
    go_loopw [27] (fun u27 wr => ∃ (k : Nat) (sl : List Nat), (k ≤ osS.length) ∧ (MetI cs.length (baseN cs osS k) sl) ∧ u27 = .int .i64 ((k : Nat) : Int) ∧ KS W2 [(g2, .cells (nums sl).toArray 3 (0, 0))] wr) (fun u27 _ => osS.length - (intOf u27).toNat)
    case atStart => exact ⟨0, (List.replicate cs.length 0), (Nat.zero_le _), met_0, rfl, (hW5.sub (fun p hp => by first | exact hp | (simp only [List.mem_cons, List.mem_append, List.nil_append, List.not_mem_nil, or_assoc, or_false, false_or] at hp ⊢ <;> grind)))⟩
    case round =>
      obtain ⟨k, sl, hk, hM, rfl, hL6⟩ := hrel
      refine wp_seq ?_
      refine wp_region_L (W0 := W2) [(g2, .cells (nums sl).toArray 3 (0, 0))] (hL6) ?_
      refine lp (v := .bool (decide (k < osS.length))) rfl rfl (run_bin rfl (vx := (.int .i64 ((k : Nat) : Int))) (vy := (.int .i64 ((osS.length : Nat) : Int))) (by kernel_rfl) (by kernel_rfl) fun w => bn_lss rfl w) ?_
      refine wpL_done (fun W7 hW7 => ?_)
      refine (show Code.wp _ _ _ _ _ from ?_)
      refine wp_seq ?_
      cases hd2 : (decide (k < osS.length)) with
      | false =>
        have h2 : ¬ (k < osS.length) := of_decide_eq_false hd2
        clear hd2
        refine wp_cond_false rfl ?_
        refine wp_exit ?_
        refine (show Code.wp _ _ _ _ _ from ?_)
        refine wp_seq ?_
        refine wp_seq ?_
        refine wp_region_L (W0 := W2) [(g2, .cells (nums sl).toArray 3 (0, 0))] (hW7) ?_
        refine lm (v := .slice (some ⟨g2, 0, none⟩) cs.length cs.length) rfl rfl ?_
        refine lp (v := .int .i64 ((cs.length : Nat) : Int)) rfl rfl (run_lenL (p := (some ⟨g2, 0, none⟩)) (cap := cs.length) (n := cs.length) rfl Try.underlying39 (by kernel_rfl)) ?_
        refine lm (v := .int .i64 0) rfl rfl ?_
        refine wpL_done (fun W8 hW8 => ?_)
        refine (show Code.wp _ _ _ _ _ from ?_)
        refine wp_block ?_
        obtain rfl : k = osS.length := by omega
        go_loopw [102] (fun u102 wr => ∃ (c : Nat), (c ≤ cs.length) ∧ u102 = .int .i64 ((c : Nat) : Int) ∧ KS W2 [(g2, .cells (nums sl).toArray 3 (0, 0))] wr) (fun u102 _ => cs.length - (intOf u102).toNat)
        case atStart => exact ⟨0, (Nat.zero_le _), rfl, (hW8.sub (fun p hp => by first | exact hp | (simp only [List.mem_cons, List.mem_append, List.nil_append, List.not_mem_nil, or_assoc, or_false, false_or] at hp ⊢ <;> grind)))⟩
        case round =>
          obtain ⟨c, hc, rfl, hL9⟩ := hrel
          refine wp_seq ?_
          refine wp_region_L (W0 := W2) [(g2, .cells (nums sl).toArray 3 (0, 0))] (hL9) ?_
          refine lp (v := .bool (decide (c < cs.length))) rfl rfl (run_bin rfl (vx := (.int .i64 ((c : Nat) : Int))) (vy := (.int .i64 ((cs.length : Nat) : Int))) (by kernel_rfl) (by kernel_rfl) fun w => bn_lss rfl w) ?_
          refine wpL_done (fun W10 hW10 => ?_)
          refine (show Code.wp _ _ _ _ _ from ?_)
          refine wp_seq ?_
          cases hd3 : (decide (c < cs.length)) with
          | false =>
            have h3 : ¬ (c < cs.length) := of_decide_eq_false hd3
            clear hd3
            refine wp_cond_false rfl ?_
            refine wp_exit ?_
            refine (show Code.wp _ _ _ _ _ from ?_)
            refine wp_seq ?_
            refine wp_region_L (W0 := W2) [(g2, .cells (nums sl).toArray 3 (0, 0))] (hW10) ?_
            refine lv (v := .bool true) rfl rfl (yb_call (f := 10) (args := #[]) (fun _ => by kernel_rfl) fun W hW => awake_any W) ?_
            refine lm (v := .bool true) rfl rfl ?_
            refine wpL_done (fun W11 hW11 => ?_)
            refine (show Code.wp _ _ _ _ _ from ?_)
            refine wp_ret ?_
            try simp only [inBlock_ret, then_ret]
            refine bodyPost_ret (v := .bool true) ?_ rfl ?_
            · kernel_rfl
            · exact ⟨rfl, (hbZ.trans (hW11.1.mono hbZ.size))⟩
          | true =>
            have h3 : c < cs.length := of_decide_eq_true hd3
            clear hd3
            refine wp_cond_true rfl ?_
            refine wp_skip ?_
            refine (show Code.wp _ _ _ _ _ from ?_)
            refine wp_seq ?_
            refine wp_block ?_
            refine wp_seq ?_
            refine wp_region_L (W0 := W2) [(g2, .cells (nums sl).toArray 3 (0, 0))] (hW10) ?_
            refine lm (v := .int .i64 ((c : Nat) : Int)) rfl rfl ?_
            refine lp (v := .pointer (some ⟨g2, 0 + c * 1, none⟩)) rfl rfl (run_idxL (j := .i64) (n := cs.length) (cap := cs.length) (b := g2) (off := 0) (k := c) (sz := 1) rfl Try.underlying39 (by kernel_rfl) (by kernel_rfl) (by kernel_rfl) (by omega)) ?_
            obtain ⟨n4, hn4⟩ : ∃ nz : Nat, (sl : List Nat)[c]? = some nz := ⟨_, List.getElem?_eq_getElem (by first | (rw [hM.1]; omega) | (rw [hP.1]; omega) | (rw [hQ.1]; omega))⟩
            obtain ⟨x14, x24⟩ := met_fin hM hn4
            refine lv (v := .int .i64 ((n4 : Nat) : Int)) rfl rfl (yb_cell (off := 0 + c * 1) (v := .int .i64 ((n4 : Nat) : Int)) rfl (by kernel_rfl) (.head _) Try.underlying3 rfl (by rw [Nat.zero_add, Nat.mul_one, List.getElem?_toArray]; exact nums_get hn4)) ?_
            refine lm (v := .int .i64 ((c : Nat) : Int)) rfl rfl ?_
            refine lm (v := .int .i64 ((n4 : Nat) : Int)) rfl rfl ?_
            refine wpL_done (fun W12 hW12 => ?_)
            refine (show Code.wp _ _ _ _ _ from ?_)
            refine wp_seq ?_
            refine wp_region_L (W0 := W2) [(g2, .cells (nums sl).toArray 3 (0, 0))] (hW12) ?_
            refine lm (v := .int .i64 ((n4 : Nat) : Int)) rfl rfl ?_
            refine lp (v := .bool false) rfl rfl (run_bin rfl (vx := (.int .i64 ((n4 : Nat) : Int))) (vy := (.int .i64 ((1 : Nat) : Int))) (by kernel_rfl) (by kernel_rfl) fun w => bn_gtr (decide_eq_false (by omega)) w) ?_
            refine lm (v := .bool false) rfl rfl ?_
            refine lm (v := .int .i64 ((n4 : Nat) : Int)) rfl rfl ?_
            refine lp (v := .bool (decide (n4 = 0))) rfl rfl (run_bin rfl (vx := (.int .i64 ((n4 : Nat) : Int))) (vy := (.int .i64 ((0 : Nat) : Int))) (by kernel_rfl) (by kernel_rfl) fun w => bn_eql rfl w) ?_
            refine lv (v := .agg (shC (.slice pcS cs.length ccS) (.slice poS osS.length coS) tl0).toArray) rfl rfl (yb_rs (off := 0) (cs := _) rfl (by kernel_rfl) (fun W hW => ((HGZ.out).keep hW.1).2) Try.underlying32 rfl (by kernel_rfl)) ?_
            refine lm (v := .int .i64 ((c : Nat) : Int)) rfl rfl ?_
            refine lv (v := .int .i64 (fiN (covOf cs osS ((c : Nat) : Int)))) rfl rfl (yb_call (f := 16) (args := #[.agg (shC (.slice pcS cs.length ccS) (.slice poS osS.length coS) tl0).toArray, .int .i64 ((c : Nat) : Int)]) (fun _ => by kernel_rfl) fun W hW => CoverOf_any cs pcS ccS (by omega) osS poS coS (by omega) tl0 ((c : Nat) : Int) W ((RL.base HCZ.out) _ (hW.sub (fun _ h => by cases h))) ((RL.base HOZ.out) _ (hW.sub (fun _ h => by cases h))) (HRZ.out.keep hW.1) lrS) ?_
            refine lp (v := .bool (decide ((fiN (covOf cs osS ((c : Nat) : Int))) = (-1)))) rfl rfl (run_bin rfl (vx := (.int .i64 (fiN (covOf cs osS ((c : Nat) : Int))))) (vy := (.int .i64 (-1))) (by kernel_rfl) (by kernel_rfl) fun w => bi_eql rfl w) ?_
            refine lp (v := .bool (!((decide (n4 = 0)) == (decide ((fiN (covOf cs osS ((c : Nat) : Int))) = (-1)))))) rfl rfl (run_bin rfl (vx := .bool (decide (n4 = 0))) (vy := .bool (decide ((fiN (covOf cs osS ((c : Nat) : Int))) = (-1)))) (by kernel_rfl) (by kernel_rfl) fun w => bn_bool_neq rfl Try.underlying4 w) ?_
            refine lm (v := .bool (!((decide (n4 = 0)) == (decide ((fiN (covOf cs osS ((c : Nat) : Int))) = (-1)))))) rfl rfl ?_
            refine wpL_done (fun W13 hW13 => ?_)
            refine (show Code.wp _ _ _ _ _ from ?_)
            cases h4 : ((decide (n4 = 0)) == (decide ((fiN (covOf cs osS ((c : Nat) : Int))) = (-1)))) with
            | false =>
              exact absurd (show ((decide (n4 = 0)) == (decide ((fiN (covOf cs osS ((c : Nat) : Int))) = (-1)))) = true by rw [decide_eq_decide.2 (show (n4 = 0) ↔ ((fiN (covOf cs osS ((c : Nat) : Int))) = (-1)) from x24)]; exact beq_self_eq_true _) (by rw [h4]; decide)
            | true =>
              refine wp_cond_false rfl ?_
              refine wp_skip ?_
              refine (show Code.wp _ _ _ _ _ from ?_)
              refine wp_region_L (W0 := W2) [(g2, .cells (nums sl).toArray 3 (0, 0))] (hW13) ?_
              refine lp (v := .int .i64 (((c + 1) : Nat) : Int)) rfl rfl (run_bin rfl (vx := (.int .i64 ((c : Nat) : Int))) (vy := (.int .i64 ((1 : Nat) : Int))) (by kernel_rfl) (by kernel_rfl) fun w => bn_add (z := (c + 1)) rfl (wr_i64 (by omega)) w) ?_
              refine lm (v := .int .i64 (((c + 1) : Nat) : Int)) rfl rfl ?_
              refine wpL_done (fun W14 hW14 => ?_)
              go_roundw
              case rel =>
                repeat apply Exists.intro
                exact ⟨⟨c + 1, (by omega), rfl, (hW14.sub (fun p hp => by first | exact hp | (simp only [List.mem_cons, List.mem_append, List.nil_append, List.not_mem_nil, or_assoc, or_false, false_or] at hp ⊢ <;> grind)))⟩, rfl⟩
              case measure => (show cs.length - (intOf (.int .i64 (((c + 1) : Nat) : Int))).toNat < cs.length - (intOf (.int .i64 ((c : Nat) : Int))).toNat); simp only [intOf]; omega
      | true =>
        have h2 : k < osS.length := of_decide_eq_true hd2
        clear hd2
        refine wp_cond_true rfl ?_
        refine wp_skip ?_
        refine (show Code.wp _ _ _ _ _ from ?_)
        refine wp_seq ?_
        refine wp_block ?_
        refine wp_seq ?_
        refine wp_region_L (W0 := W2) [(g2, .cells (nums sl).toArray 3 (0, 0))] (hW7) ?_
        refine lm (v := .int .i64 ((k : Nat) : Int)) rfl rfl ?_
        refine lm (v := .int .i64 ((k : Nat) : Int)) rfl rfl ?_
        refine wpL_done (fun W15 hW15 => ?_)
        refine (show Code.wp _ _ _ _ _ from ?_)
        refine wp_seq ?_
        refine wp_region_V (W0 := W2) [(g2, .cells (nums sl).toArray 3 (0, 0))] (by kernel_rfl) (hW15) ?_
        refine vb (i := 0) (v := .agg (shC (.slice pcS cs.length ccS) (.slice poS osS.length coS) tl0).toArray) rfl rfl rfl (yb_rs (off := 0) (cs := _) rfl (by kernel_rfl) (fun W hW => ((HGZ.out).keep hW.1).2) Try.underlying32 rfl (by kernel_rfl)) ?_
        refine vm (i := 1) (v := .int .i64 ((k : Nat) : Int)) rfl rfl rfl ?_
        refine vb (i := 3) (v := .agg (shC (.slice pcS cs.length ccS) (.slice poS osS.length coS) tl0).toArray) rfl rfl rfl (yb_rs (off := 0) (cs := _) rfl (by kernel_rfl) (fun W hW => ((HGZ.out).keep hW.1).2) Try.underlying32 rfl (by kernel_rfl)) ?_
        refine vm (i := 4) (v := .int .i64 ((k : Nat) : Int)) rfl rfl rfl ?_
        refine vm (i := 8) (v := .int .i64 0) rfl rfl rfl ?_
        refine wpV_c (i := 2) (OutRL inC W2 [(g2, .cells (nums sl).toArray 3 (0, 0))] (alongX cs osS ((k : Nat) : Int) false)) rfl rfl (by kernel_rfl) (by kernel_rfl) (fun _ => (by kernel_rfl)) (fun W hW => calls_r hW (Under_any cs pcS ccS (by omega) osS poS coS (by omega) tl0 ((k : Nat) : Int) W ((RL.base HCZ.out) _ (hW.sub (fun _ h => by cases h))) ((RL.base HOZ.out) _ (hW.sub (fun _ h => by cases h))) (HRZ.out.keep hW.1) lrS)) (fun v K9 hG => hG.sub) (fun _ => by simp only [List.setIfInBounds_toArray, List.set_cons_succ, List.set_cons_zero] <;> rfl) ?_
        rintro _ _ ⟨p5, c5, Kl5, rfl, n5, R5, N5, rfl⟩
        obtain dj6_0 : Dk g2 Kl5 := by simpa only [dj_app_l, dj_app_r, dj_cons_l, dj_cons_r, dj_nil_l, dj_nil_r, dk_app, dk_cons, dk_nil, and_true, true_and, and_assoc] using (show Dj [(g2, .cells (nums sl).toArray 3 (0, 0))] Kl5 from N5)
        refine wpV_c (i := 5) (OutRL inC W2 ((g2, .cells (nums sl).toArray 3 (0, 0)) :: Kl5) (alongX cs osS ((k : Nat) : Int) true)) rfl rfl (by kernel_rfl) (by kernel_rfl) (fun _ => (by kernel_rfl)) (fun W hW => calls_r hW (Upon_any cs pcS ccS (by omega) osS poS coS (by omega) tl0 ((k : Nat) : Int) W ((RL.base HCZ.out) _ (hW.sub (fun _ h => by cases h))) ((RL.base HOZ.out) _ (hW.sub (fun _ h => by cases h))) (HRZ.out.keep hW.1) lrS)) (fun v K9 hG => hG.sub) (fun _ => by simp only [List.setIfInBounds_toArray, List.set_cons_succ, List.set_cons_zero] <;> rfl) ?_
        rintro _ _ ⟨p7, c7, Kl7, rfl, n7, R7, N7, rfl⟩
        obtain ⟨dj8_0, dj8_1⟩ : Dk g2 Kl7 ∧ Dj Kl5 Kl7 := by simpa only [dj_app_l, dj_app_r, dj_cons_l, dj_cons_r, dj_nil_l, dj_nil_r, dk_app, dk_cons, dk_nil, and_true, true_and, and_assoc] using (show Dj ((g2, .cells (nums sl).toArray 3 (0, 0)) :: Kl5) Kl7 from N7)
        refine wpV_ns (fun g => .slice (some ⟨g, 0, none⟩) 2 2) (i := 6) (obi := .cells #[.slice p5 ((alongX cs osS ((k : Nat) : Int) false).length) c5, .slice p7 ((alongX cs osS ((k : Nat) : Int) true).length) c7] 39 (0, 0)) rfl rfl rfl (by kernel_rfl) (fun _ => by kernel_rfl) (fun _ => by simp only [List.setIfInBounds_toArray, List.set_cons_succ, List.set_cons_zero] <;> rfl) fun g9 Bg9 Fg9 => ?_
        obtain ⟨dj10_0, dj10_1, dj10_2⟩ : g2 ≠ g9 ∧ Dk g9 Kl5 ∧ Dk g9 Kl7 := by simpa only [dj_app_l, dj_app_r, dj_cons_l, dj_cons_r, dj_nil_l, dj_nil_r, dk_app, dk_cons, dk_nil, and_true, true_and, and_assoc] using (show Dk g9 ((g2, .cells (nums sl).toArray 3 (0, 0)) :: (Kl5 ++ Kl7)) from Fg9)
        refine vm (i := 7) (v := .int .i64 2) rfl rfl rfl ?_
        refine wpV_done (by kernel_rfl) (fun W16 hW16 => ?_) _
        refine (show Code.wp _ _ _ _ _ from ?_)
        refine wp_block ?_
        refine wp_loop_rounds 3 ?_
        refine (show Code.wp _ _ _ _ _ from ?_)
        refine wp_seq ?_
        refine wp_region_L (W0 := W2) ((g9, .cells #[.slice p5 ((alongX cs osS ((k : Nat) : Int) false).length) c5, .slice p7 ((alongX cs osS ((k : Nat) : Int) true).length) c7] 39 (0, 0)) :: (g2, .cells (nums sl).toArray 3 (0, 0)) :: (Kl5 ++ Kl7)) (hW16) ?_
        refine lm (v := .bool true) rfl rfl ?_
        refine wpL_done (fun W17 hW17 => ?_)
        refine (show Code.wp _ _ _ _ _ from ?_)
        refine wp_seq ?_
        refine wp_cond_true rfl ?_
        refine wp_skip ?_
        refine (show Code.wp _ _ _ _ _ from ?_)
        refine wp_seq ?_
        refine wp_block ?_
        refine wp_seq ?_
        refine wp_region_L (W0 := W2) ((g9, .cells #[.slice p5 ((alongX cs osS ((k : Nat) : Int) false).length) c5, .slice p7 ((alongX cs osS ((k : Nat) : Int) true).length) c7] 39 (0, 0)) :: (g2, .cells (nums sl).toArray 3 (0, 0)) :: (Kl5 ++ Kl7)) (hW17) ?_
        refine lm (v := .int .i64 0) rfl rfl ?_
        refine lm (v := .pointer (some ⟨g9, 0, none⟩)) rfl rfl ?_
        refine lv (v := .slice p5 ((alongX cs osS ((k : Nat) : Int) false).length) c5) rfl rfl (yb_cell (off := 0) rfl (by kernel_rfl) (.head _) Try.underlying39 rfl (by kernel_rfl)) ?_
        refine lm (v := .int .i64 0) rfl rfl ?_
        refine lm (v := .slice p5 ((alongX cs osS ((k : Nat) : Int) false).length) c5) rfl rfl ?_
        refine wpL_done (fun W18 hW18 => ?_)
        refine (show Code.wp _ _ _ _ _ from ?_)
        refine wp_seq ?_
        refine wp_region_L (W0 := W2) ((g9, .cells #[.slice p5 ((alongX cs osS ((k : Nat) : Int) false).length) c5, .slice p7 ((alongX cs osS ((k : Nat) : Int) true).length) c7] 39 (0, 0)) :: (g2, .cells (nums sl).toArray 3 (0, 0)) :: (Kl5 ++ Kl7)) (hW18) ?_
        refine lm (v := .slice p5 ((alongX cs osS ((k : Nat) : Int) false).length) c5) rfl rfl ?_
        refine lp (v := .int .i64 ((((alongX cs osS ((k : Nat) : Int) false).length) : Nat) : Int)) rfl rfl (run_lenL (p := p5) (cap := c5) (n := (alongX cs osS ((k : Nat) : Int) false).length) rfl Try.underlying39 (by kernel_rfl)) ?_
        refine lm (v := .int .i64 0) rfl rfl ?_
        refine wpL_done (fun W19 hW19 => ?_)
        refine (show Code.wp _ _ _ _ _ from ?_)
        refine wp_block ?_
        obtain ⟨ok, hok⟩ : ∃ o, osS[k]? = some o := ⟨_, List.getElem?_eq_getElem (by omega)⟩
        have lU := idxF_len (partOf false ok) cs 0
        rw [show idxF (partOf false ok) 0 cs = (alongX cs osS ((k : Nat) : Int) false) from (al_is hok).symm] at lU
        have lV := idxF_len (partOf true ok) cs 0
        rw [show idxF (partOf true ok) 0 cs = (alongX cs osS ((k : Nat) : Int) true) from (al_is hok).symm] at lV
        go_loopw [45] (fun u45 wr => ∃ (m : Nat) (s1 : List Nat), (m ≤ (alongX cs osS ((k : Nat) : Int) false).length) ∧ (MetI cs.length (fun c => baseN cs osS k c + inN (alongX cs osS ((k : Nat) : Int) false) m c) s1) ∧ u45 = .int .i64 ((m : Nat) : Int) ∧ KS W2 ((g9, .cells #[.slice p5 ((alongX cs osS ((k : Nat) : Int) false).length) c5, .slice p7 ((alongX cs osS ((k : Nat) : Int) true).length) c7] 39 (0, 0)) :: (g2, .cells (nums s1).toArray 3 (0, 0)) :: (Kl5 ++ Kl7)) wr) (fun u45 _ => (alongX cs osS ((k : Nat) : Int) false).length - (intOf u45).toNat)
        case atStart => exact ⟨0, sl, (Nat.zero_le _), (met_start (alongX cs osS ((k : Nat) : Int) false) hM), rfl, (hW19.sub (fun p hp => by first | exact hp | (simp only [List.mem_cons, List.mem_append, List.nil_append, List.not_mem_nil, or_assoc, or_false, false_or] at hp ⊢ <;> grind)))⟩
        case round =>
          obtain ⟨m, s1, hm, hP, rfl, hL20⟩ := hrel
          refine wp_seq ?_
          refine wp_region_L (W0 := W2) ((g9, .cells #[.slice p5 ((alongX cs osS ((k : Nat) : Int) false).length) c5, .slice p7 ((alongX cs osS ((k : Nat) : Int) true).length) c7] 39 (0, 0)) :: (g2, .cells (nums s1).toArray 3 (0, 0)) :: (Kl5 ++ Kl7)) (hL20) ?_
          refine lp (v := .bool (decide (m < ((alongX cs osS ((k : Nat) : Int) false).length)))) rfl rfl (run_bin rfl (vx := (.int .i64 ((m : Nat) : Int))) (vy := (.int .i64 ((((alongX cs osS ((k : Nat) : Int) false).length) : Nat) : Int))) (by kernel_rfl) (by kernel_rfl) fun w => bn_lss rfl w) ?_
          refine wpL_done (fun W21 hW21 => ?_)
          refine (show Code.wp _ _ _ _ _ from ?_)
          refine wp_seq ?_
          cases hd5 : (decide (m < ((alongX cs osS ((k : Nat) : Int) false).length))) with
          | false =>
            have h5 : ¬ (m < ((alongX cs osS ((k : Nat) : Int) false).length)) := of_decide_eq_false hd5
            clear hd5
            refine wp_cond_false rfl ?_
            refine wp_exit ?_
            refine (show Code.wp _ _ _ _ _ from ?_)
            refine wp_region_L (W0 := W2) ((g9, .cells #[.slice p5 ((alongX cs osS ((k : Nat) : Int) false).length) c5, .slice p7 ((alongX cs osS ((k : Nat) : Int) true).length) c7] 39 (0, 0)) :: (g2, .cells (nums s1).toArray 3 (0, 0)) :: (Kl5 ++ Kl7)) (hW21) ?_
            refine lm (v := .int .i64 1) rfl rfl ?_
            refine lm (v := .int .i64 1) rfl rfl ?_
            refine wpL_done (fun W22 hW22 => ?_)
            refine (show Code.wp _ _ _ _ _ from ?_)
            refine wp_seq ?_
            refine wp_region_L (W0 := W2) ((g9, .cells #[.slice p5 ((alongX cs osS ((k : Nat) : Int) false).length) c5, .slice p7 ((alongX cs osS ((k : Nat) : Int) true).length) c7] 39 (0, 0)) :: (g2, .cells (nums s1).toArray 3 (0, 0)) :: (Kl5 ++ Kl7)) (hW22) ?_
            refine lm (v := .bool true) rfl rfl ?_
            refine wpL_done (fun W23 hW23 => ?_)
            refine (show Code.wp _ _ _ _ _ from ?_)
            refine wp_seq ?_
            refine wp_cond_true rfl ?_
            refine wp_skip ?_
            refine (show Code.wp _ _ _ _ _ from ?_)
            refine wp_seq ?_
            refine wp_block ?_
            refine wp_seq ?_
            refine wp_region_L (W0 := W2) ((g9, .cells #[.slice p5 ((alongX cs osS ((k : Nat) : Int) false).length) c5, .slice p7 ((alongX cs osS ((k : Nat) : Int) true).length) c7] 39 (0, 0)) :: (g2, .cells (nums s1).toArray 3 (0, 0)) :: (Kl5 ++ Kl7)) (hW23) ?_
            refine lm (v := .int .i64 1) rfl rfl ?_
            refine lm (v := .pointer (some ⟨g9, 1, none⟩)) rfl rfl ?_
            refine lv (v := .slice p7 ((alongX cs osS ((k : Nat) : Int) true).length) c7) rfl rfl (yb_cell (off := 1) rfl (by kernel_rfl) (.head _) Try.underlying39 rfl (by kernel_rfl)) ?_
            refine lm (v := .int .i64 1) rfl rfl ?_
            refine lm (v := .slice p7 ((alongX cs osS ((k : Nat) : Int) true).length) c7) rfl rfl ?_
            refine wpL_done (fun W24 hW24 => ?_)
            refine (show Code.wp _ _ _ _ _ from ?_)
            refine wp_seq ?_
            refine wp_region_L (W0 := W2) ((g9, .cells #[.slice p5 ((alongX cs osS ((k : Nat) : Int) false).length) c5, .slice p7 ((alongX cs osS ((k : Nat) : Int) true).length) c7] 39 (0, 0)) :: (g2, .cells (nums s1).toArray 3 (0, 0)) :: (Kl5 ++ Kl7)) (hW24) ?_
            refine lm (v := .slice p7 ((alongX cs osS ((k : Nat) : Int) true).length) c7) rfl rfl ?_
            refine lp (v := .int .i64 ((((alongX cs osS ((k : Nat) : Int) true).length) : Nat) : Int)) rfl rfl (run_lenL (p := p7) (cap := c7) (n := (alongX cs osS ((k : Nat) : Int) true).length) rfl Try.underlying39 (by kernel_rfl)) ?_
            refine lm (v := .int .i64 0) rfl rfl ?_
            refine wpL_done (fun W25 hW25 => ?_)
            refine (show Code.wp _ _ _ _ _ from ?_)
            refine wp_block ?_
            go_loopw [45] (fun u45 wr => ∃ (r : Nat) (s2 : List Nat), (r ≤ (alongX cs osS ((k : Nat) : Int) true).length) ∧ (MetI cs.length (fun c => baseN cs osS k c + inN (alongX cs osS ((k : Nat) : Int) false) (alongX cs osS ((k : Nat) : Int) false).length c + inN (alongX cs osS ((k : Nat) : Int) true) r c) s2) ∧ u45 = .int .i64 ((r : Nat) : Int) ∧ KS W2 ((g9, .cells #[.slice p5 ((alongX cs osS ((k : Nat) : Int) false).length) c5, .slice p7 ((alongX cs osS ((k : Nat) : Int) true).length) c7] 39 (0, 0)) :: (g2, .cells (nums s2).toArray 3 (0, 0)) :: (Kl5 ++ Kl7)) wr) (fun u45 _ => (alongX cs osS ((k : Nat) : Int) true).length - (intOf u45).toNat)
            case atStart => exact ⟨0, s1, (Nat.zero_le _), (met_start (alongX cs osS ((k : Nat) : Int) true) (met_end h5 hP)), rfl, (hW25.sub (fun p hp => by first | exact hp | (simp only [List.mem_cons, List.mem_append, List.nil_append, List.not_mem_nil, or_assoc, or_false, false_or] at hp ⊢ <;> grind)))⟩
            case round =>
              obtain ⟨r, s2, hr, hQ, rfl, hL26⟩ := hrel
              refine wp_seq ?_
              refine wp_region_L (W0 := W2) ((g9, .cells #[.slice p5 ((alongX cs osS ((k : Nat) : Int) false).length) c5, .slice p7 ((alongX cs osS ((k : Nat) : Int) true).length) c7] 39 (0, 0)) :: (g2, .cells (nums s2).toArray 3 (0, 0)) :: (Kl5 ++ Kl7)) (hL26) ?_
              refine lp (v := .bool (decide (r < ((alongX cs osS ((k : Nat) : Int) true).length)))) rfl rfl (run_bin rfl (vx := (.int .i64 ((r : Nat) : Int))) (vy := (.int .i64 ((((alongX cs osS ((k : Nat) : Int) true).length) : Nat) : Int))) (by kernel_rfl) (by kernel_rfl) fun w => bn_lss rfl w) ?_
              refine wpL_done (fun W27 hW27 => ?_)
              refine (show Code.wp _ _ _ _ _ from ?_)
              refine wp_seq ?_
              cases hd6 : (decide (r < ((alongX cs osS ((k : Nat) : Int) true).length))) with
              | false =>
                have h6 : ¬ (r < ((alongX cs osS ((k : Nat) : Int) true).length)) := of_decide_eq_false hd6
                clear hd6
                refine wp_cond_false rfl ?_
                refine wp_exit ?_
                refine (show Code.wp _ _ _ _ _ from ?_)
                refine wp_region_L (W0 := W2) ((g9, .cells #[.slice p5 ((alongX cs osS ((k : Nat) : Int) false).length) c5, .slice p7 ((alongX cs osS ((k : Nat) : Int) true).length) c7] 39 (0, 0)) :: (g2, .cells (nums s2).toArray 3 (0, 0)) :: (Kl5 ++ Kl7)) (hW27) ?_
                refine lm (v := .int .i64 2) rfl rfl ?_
                refine lm (v := .int .i64 2) rfl rfl ?_
                refine wpL_done (fun W28 hW28 => ?_)
                refine (show Code.wp _ _ _ _ _ from ?_)
                refine wp_seq ?_
                refine wp_region_L (W0 := W2) ((g9, .cells #[.slice p5 ((alongX cs osS ((k : Nat) : Int) false).length) c5, .slice p7 ((alongX cs osS ((k : Nat) : Int) true).length) c7] 39 (0, 0)) :: (g2, .cells (nums s2).toArray 3 (0, 0)) :: (Kl5 ++ Kl7)) (hW28) ?_
                refine lm (v := .bool false) rfl rfl ?_
                refine wpL_done (fun W29 hW29 => ?_)
                refine (show Code.wp _ _ _ _ _ from ?_)
                refine wp_seq ?_
                refine wp_cond_false rfl ?_
                refine wp_exit ?_
                refine (show Code.wp _ _ _ _ _ from ?_)
                refine wp_region_L (W0 := W2) ((g9, .cells #[.slice p5 ((alongX cs osS ((k : Nat) : Int) false).length) c5, .slice p7 ((alongX cs osS ((k : Nat) : Int) true).length) c7] 39 (0, 0)) :: (g2, .cells (nums s2).toArray 3 (0, 0)) :: (Kl5 ++ Kl7)) (hW29) ?_
                refine lp (v := .int .i64 (((k + 1) : Nat) : Int)) rfl rfl (run_bin rfl (vx := (.int .i64 ((k : Nat) : Int))) (vy := (.int .i64 ((1 : Nat) : Int))) (by kernel_rfl) (by kernel_rfl) fun w => bn_add (z := (k + 1)) rfl (wr_i64 (by omega)) w) ?_
                refine lm (v := .int .i64 (((k + 1) : Nat) : Int)) rfl rfl ?_
                refine wpL_done (fun W30 hW30 => ?_)
                go_roundw
                case rel =>
                  repeat apply Exists.intro
                  exact ⟨⟨k + 1, s2, (by omega), (met_next hoS hok (met_end h6 hQ)), rfl, (hW30.sub (fun p hp => by first | exact hp | (simp only [List.mem_cons, List.mem_append, List.nil_append, List.not_mem_nil, or_assoc, or_false, false_or] at hp ⊢ <;> grind)))⟩, rfl⟩
                case measure => (show osS.length - (intOf (.int .i64 (((k + 1) : Nat) : Int))).toNat < osS.length - (intOf (.int .i64 ((k : Nat) : Int))).toNat); simp only [intOf]; omega
              | true =>
                have h6 : r < ((alongX cs osS ((k : Nat) : Int) true).length) := of_decide_eq_true hd6
                clear hd6
                refine wp_cond_true rfl ?_
                refine wp_skip ?_
                refine (show Code.wp _ _ _ _ _ from ?_)
                refine wp_seq ?_
                refine wp_block ?_
                refine wp_seq ?_
                refine wp_region_L (W0 := W2) ((g9, .cells #[.slice p5 ((alongX cs osS ((k : Nat) : Int) false).length) c5, .slice p7 ((alongX cs osS ((k : Nat) : Int) true).length) c7] 39 (0, 0)) :: (g2, .cells (nums s2).toArray 3 (0, 0)) :: (Kl5 ++ Kl7)) (hW27) ?_
                obtain ⟨y13, g13_, f13_, hy13, hp13, hc13⟩ := RL.at R7 inC_len (by decide) (hW27.sub (fun p hp => by simp only [List.mem_cons, List.mem_append, List.nil_append, List.not_mem_nil, or_assoc, or_false, false_or, hp, true_or, or_true])) (k := r) (by omega)
                obtain ⟨j13, e13, rfl, jl13, jy13, jd13, jb13, jc13, jt13⟩ := al_at (cs := cs) hoS hok hy13
                refine lp (v := .pointer (some ⟨g13_, f13_ + r * 1, none⟩)) rfl rfl (run_idxQ (p := p7) (cap := c7) (n := (alongX cs osS ((k : Nat) : Int) true).length) (j := .i64) (k := r) (sz := 1) rfl Try.underlying39 (by kernel_rfl) (by kernel_rfl) hp13 (by kernel_rfl) (by omega)) ?_
                refine lv (v := .int .i64 ((j13 : Nat) : Int)) rfl rfl (yb_rf (v := .int .i64 ((j13 : Nat) : Int)) rfl (by kernel_rfl) (fun W hW => hc13 W (hW.sub (fun p hp => by simp only [List.mem_cons, List.mem_append, List.nil_append, List.not_mem_nil, or_assoc, or_false, false_or, hp, true_or, or_true])) 0 _ rfl) Try.underlying3 rfl) ?_
                refine lm (v := .int .i64 ((j13 : Nat) : Int)) rfl rfl ?_
                refine wpL_done (fun W31 hW31 => ?_)
                refine (show Code.wp _ _ _ _ _ from ?_)
                refine wp_seq ?_
                refine wp_seq ?_
                refine wp_region_V (W0 := W2) ((g9, .cells #[.slice p5 ((alongX cs osS ((k : Nat) : Int) false).length) c5, .slice p7 ((alongX cs osS ((k : Nat) : Int) true).length) c7] 39 (0, 0)) :: (g2, .cells (nums s2).toArray 3 (0, 0)) :: (Kl5 ++ Kl7)) (by kernel_rfl) (hW31) ?_
                refine vm (i := 0) (v := .int .i64 ((j13 : Nat) : Int)) rfl rfl rfl ?_
                refine vp (i := 1) (v := .bool false) rfl rfl rfl (run_bin rfl (vx := (.int .i64 ((j13 : Nat) : Int))) (vy := (.int .i64 ((0 : Nat) : Int))) (by kernel_rfl) (by kernel_rfl) fun w => bn_lss (decide_eq_false (by omega)) w) ?_
                refine vm (i := 2) (v := .bool false) rfl rfl rfl ?_
                refine vm (i := 3) (v := .int .i64 ((j13 : Nat) : Int)) rfl rfl rfl ?_
                refine vm (i := 4) (v := .pointer (some ⟨g1, 0, none⟩)) rfl rfl rfl ?_
                refine vb (i := 5) (v := .slice pcS cs.length ccS) rfl rfl rfl (yb_rf (v := .slice pcS cs.length ccS) rfl (by kernel_rfl) (fun W hW => ((HGZ.out).keep hW.1).2 0 _ rfl) Try.underlying22 rfl) ?_
                refine vp (i := 6) (v := .int .i64 ((cs.length : Nat) : Int)) rfl rfl rfl (run_lenL (p := pcS) (cap := ccS) (n := cs.length) rfl Try.underlying22 (by kernel_rfl)) ?_
                refine vp (i := 7) (v := .bool false) rfl rfl rfl (run_bin rfl (vx := (.int .i64 ((j13 : Nat) : Int))) (vy := (.int .i64 ((cs.length : Nat) : Int))) (by kernel_rfl) (by kernel_rfl) fun w => bn_geq (decide_eq_true jl13) w) ?_
                refine vm (i := 8) (v := .bool false) rfl rfl rfl ?_
                refine vm (i := 9) (v := .bool false) rfl rfl rfl ?_
                refine vb (i := 10) (v := .agg (shC (.slice pcS cs.length ccS) (.slice poS osS.length coS) tl0).toArray) rfl rfl rfl (yb_rs (off := 0) (cs := _) rfl (by kernel_rfl) (fun W hW => ((HGZ.out).keep hW.1).2) Try.underlying32 rfl (by kernel_rfl)) ?_
                refine vm (i := 11) (v := .int .i64 ((j13 : Nat) : Int)) rfl rfl rfl ?_
                refine vv (i := 12) (v := .int .i64 (fiN (covOf cs osS ((j13 : Nat) : Int)))) rfl rfl rfl (yb_call (f := 16) (args := #[.agg (shC (.slice pcS cs.length ccS) (.slice poS osS.length coS) tl0).toArray, .int .i64 ((j13 : Nat) : Int)]) (fun _ => by kernel_rfl) fun W hW => CoverOf_any cs pcS ccS (by omega) osS poS coS (by omega) tl0 ((j13 : Nat) : Int) W ((RL.base HCZ.out) _ (hW.sub (fun _ h => by cases h))) ((RL.base HOZ.out) _ (hW.sub (fun _ h => by cases h))) (HRZ.out.keep hW.1) lrS) ?_
                refine vm (i := 13) (v := .int .i64 ((k : Nat) : Int)) rfl rfl rfl ?_
                refine vp (i := 14) (v := .bool false) rfl rfl rfl (run_bin rfl (vx := (.int .i64 (fiN (covOf cs osS ((j13 : Nat) : Int))))) (vy := (.int .i64 ((k : Nat) : Int))) (by kernel_rfl) (by kernel_rfl) fun w => bi_neq (decide_eq_true (by rw [jc13]; rfl)) w) ?_
                refine vm (i := 15) (v := .bool false) rfl rfl rfl ?_
                refine vm (i := 16) (v := .bool false) rfl rfl rfl ?_
                refine vm (i := 17) (v := .pointer (some ⟨g1, 0, none⟩)) rfl rfl rfl ?_
                refine vb (i := 18) (v := .slice pcS cs.length ccS) rfl rfl rfl (yb_rf (v := .slice pcS cs.length ccS) rfl (by kernel_rfl) (fun W hW => ((HGZ.out).keep hW.1).2 0 _ rfl) Try.underlying22 rfl) ?_
                refine vm (i := 19) (v := .int .i64 ((j13 : Nat) : Int)) rfl rfl rfl ?_
                obtain ⟨y14, g14_, f14_, hy14, hp14, hc14⟩ := RL.at (RL.base HCZ.out) colC_len (by decide) (hW31.sub (fun _ h => by cases h)) (k := j13) (by omega)
                have ey14 : y14 = e13 := by rw [jy13] at hy14; exact (Option.some.inj hy14).symm
                subst ey14
                refine vp (i := 20) (v := .pointer (some ⟨g14_, f14_ + j13 * 12, none⟩)) rfl rfl rfl (run_idxQ (p := pcS) (cap := ccS) (n := cs.length) (j := .i64) (k := j13) (sz := 12) rfl Try.underlying22 (by kernel_rfl) (by kernel_rfl) hp14 (by kernel_rfl) (by omega)) ?_
                refine vm (i := 21) (v := .pointer (some ⟨g14_, f14_ + j13 * 12 + 2, none⟩)) rfl rfl rfl ?_
                refine vb (i := 22) (v := .bool y14.deck) rfl rfl rfl (yb_rf (v := .bool y14.deck) rfl (by kernel_rfl) (fun W hW => hc14 W (hW.sub (fun _ h => by cases h)) 2 _ rfl) Try.underlying4 rfl) ?_
                refine vm (i := 23) (v := .int .i64 1) rfl rfl rfl ?_
                refine vm (i := 24) (v := .bool true) rfl rfl rfl ?_
                refine vp (i := 25) (v := .bool (!(y14.deck == true))) rfl rfl rfl (run_bin rfl (vx := .bool y14.deck) (vy := .bool true) (by kernel_rfl) (by kernel_rfl) fun w => bn_bool_neq rfl Try.underlying4 w) ?_
                refine vm (i := 26) (v := .bool (!(y14.deck == true))) rfl rfl rfl ?_
                refine vm (i := 27) (v := .bool (!(y14.deck == true))) rfl rfl rfl ?_
                cases h7 : (y14.deck == true) with
                | false =>
                  exact absurd (show (y14.deck == true) = true by rw [jd13]; rfl) (by rw [h7]; decide)
                | true =>
                  refine vm (i := 28) (v := .pointer (some ⟨g1, 0, none⟩)) rfl rfl rfl ?_
                  refine vb (i := 29) (v := .slice pcS cs.length ccS) rfl rfl rfl (yb_rf (v := .slice pcS cs.length ccS) rfl (by kernel_rfl) (fun W hW => ((HGZ.out).keep hW.1).2 0 _ rfl) Try.underlying22 rfl) ?_
                  refine vm (i := 30) (v := .int .i64 ((j13 : Nat) : Int)) rfl rfl rfl ?_
                  refine vp (i := 31) (v := .pointer (some ⟨g14_, f14_ + j13 * 12, none⟩)) rfl rfl rfl (run_idxQ (p := pcS) (cap := ccS) (n := cs.length) (j := .i64) (k := j13) (sz := 12) rfl Try.underlying22 (by kernel_rfl) (by kernel_rfl) hp14 (by kernel_rfl) (by omega)) ?_
                  refine vm (i := 32) (v := .pointer (some ⟨g14_, f14_ + j13 * 12, none⟩)) rfl rfl rfl ?_
                  refine vb (i := 33) (v := .int .i64 y14.bay) rfl rfl rfl (yb_rf (v := .int .i64 y14.bay) rfl (by kernel_rfl) (fun W hW => hc14 W (hW.sub (fun _ h => by cases h)) 0 _ rfl) Try.underlying3 rfl) ?_
                  refine vm (i := 34) (v := .pointer (some ⟨g1, 1, none⟩)) rfl rfl rfl ?_
                  refine vb (i := 35) (v := .slice poS osS.length coS) rfl rfl rfl (yb_rf (v := .slice poS osS.length coS) rfl (by kernel_rfl) (fun W hW => ((HGZ.out).keep hW.1).2 1 _ rfl) Try.underlying23 rfl) ?_
                  refine vm (i := 36) (v := .int .i64 ((k : Nat) : Int)) rfl rfl rfl ?_
                  obtain ⟨y15, g15_, f15_, hy15, hp15, hc15⟩ := RL.at (RL.base HOZ.out) covC_len (by decide) (hW31.sub (fun _ h => by cases h)) (k := k) (by omega)
                  have ey15 : y15 = ok := by rw [hok] at hy15; exact (Option.some.inj hy15).symm
                  subst ey15
                  refine vp (i := 37) (v := .pointer (some ⟨g15_, f15_ + k * 2, none⟩)) rfl rfl rfl (run_idxQ (p := poS) (cap := coS) (n := osS.length) (j := .i64) (k := k) (sz := 2) rfl Try.underlying23 (by kernel_rfl) (by kernel_rfl) hp15 (by kernel_rfl) (by omega)) ?_
                  refine vm (i := 38) (v := .pointer (some ⟨g15_, f15_ + k * 2, none⟩)) rfl rfl rfl ?_
                  refine vb (i := 39) (v := .int .i64 y15.bay) rfl rfl rfl (yb_rf (v := .int .i64 y15.bay) rfl (by kernel_rfl) (fun W hW => hc15 W (hW.sub (fun _ h => by cases h)) 0 _ rfl) Try.underlying3 rfl) ?_
                  refine vp (i := 40) (v := .bool (!(decide (y14.bay = y15.bay)))) rfl rfl rfl (run_bin rfl (vx := (.int .i64 y14.bay)) (vy := (.int .i64 y15.bay)) (by kernel_rfl) (by kernel_rfl) fun w => bi_neq rfl w) ?_
                  refine vm (i := 41) (v := .bool (!(decide (y14.bay = y15.bay)))) rfl rfl rfl ?_
                  refine wpV_done (by kernel_rfl) (fun W32 hW32 => ?_) _
                  refine (show Code.wp _ _ _ _ _ from ?_)
                  cases hd8 : (decide (y14.bay = y15.bay)) with
                  | false =>
                    have h8 : ¬ (y14.bay = y15.bay) := of_decide_eq_false hd8
                    clear hd8
                    exact absurd (show y14.bay = y15.bay by first | exact jb13 | omega) h8
                  | true =>
                    have h8 : y14.bay = y15.bay := of_decide_eq_true hd8
                    clear hd8
                    refine wp_cond_false rfl ?_
                    refine wp_skip ?_
                    refine (show Code.wp _ _ _ _ _ from ?_)
                    refine wp_region_L (W0 := W2) ((g9, .cells #[.slice p5 ((alongX cs osS ((k : Nat) : Int) false).length) c5, .slice p7 ((alongX cs osS ((k : Nat) : Int) true).length) c7] 39 (0, 0)) :: (g2, .cells (nums s2).toArray 3 (0, 0)) :: (Kl5 ++ Kl7)) (hW32) ?_
                    refine lm (v := .slice (some ⟨g2, 0, none⟩) cs.length cs.length) rfl rfl ?_
                    refine lm (v := .int .i64 ((j13 : Nat) : Int)) rfl rfl ?_
                    refine lp (v := .pointer (some ⟨g2, 0 + j13 * 1, none⟩)) rfl rfl (run_idxL (j := .i64) (n := cs.length) (cap := cs.length) (b := g2) (off := 0) (k := j13) (sz := 1) rfl Try.underlying39 (by kernel_rfl) (by kernel_rfl) (by kernel_rfl) (by omega)) ?_
                    obtain ⟨n16, hn16⟩ : ∃ nz : Nat, (s2 : List Nat)[j13]? = some nz := ⟨_, List.getElem?_eq_getElem (by first | (rw [hM.1]; omega) | (rw [hP.1]; omega) | (rw [hQ.1]; omega))⟩
                    have x116 : n16 ≤ 3 := by
                      have h1 := hQ.2 _ _ hn16
                      dsimp only at h1
                      have h2 := base_le (cs := cs) (os := osS) k j13
                      have h3 := inN_le (alongX cs osS ((k : Nat) : Int) true) r j13
                      have h4 := inN_le (alongX cs osS ((k : Nat) : Int) false) (alongX cs osS ((k : Nat) : Int) false).length j13
                      omega
                    refine lv (v := .int .i64 ((n16 : Nat) : Int)) rfl rfl (yb_cell (off := 0 + j13 * 1) (v := .int .i64 ((n16 : Nat) : Int)) rfl (by kernel_rfl) (.tail _ (.head _)) Try.underlying3 rfl (by rw [Nat.zero_add, Nat.mul_one, List.getElem?_toArray]; exact nums_get hn16)) ?_
                    refine lp (v := .int .i64 (((n16 + 1) : Nat) : Int)) rfl rfl (run_bin rfl (vx := (.int .i64 ((n16 : Nat) : Int))) (vy := (.int .i64 ((1 : Nat) : Int))) (by kernel_rfl) (by kernel_rfl) fun w => bn_add (z := (n16 + 1)) rfl (wr_i64 (by omega)) w) ?_
                    refine lp (v := .pointer (some ⟨g2, 0 + j13 * 1, none⟩)) rfl rfl (run_idxL (j := .i64) (n := cs.length) (cap := cs.length) (b := g2) (off := 0) (k := j13) (sz := 1) rfl Try.underlying39 (by kernel_rfl) (by kernel_rfl) (by kernel_rfl) (by omega)) ?_
                    refine wpL_s ((g9, .cells #[.slice p5 ((alongX cs osS ((k : Nat) : Int) false).length) c5, .slice p7 ((alongX cs osS ((k : Nat) : Int) true).length) c7] 39 (0, 0)) :: (g2, .cells (nums (s2.set j13 (n16 + 1))).toArray 3 (0, 0)) :: (Kl5 ++ Kl7)) rfl rfl (st_to (off := 0 + j13 * 1) (nums_set s2 j13 (n16 + 1)) rfl (by kernel_rfl) (by kernel_rfl) (.tail _ (.head _)) Bg2 (by kernel_rfl) rfl rfl (by simp only [List.size_toArray, nums_len]; first | (rw [hM.1]; omega) | (rw [hP.1]; omega) | (rw [hQ.1]; omega)) (.inr rfl) (List.forall_mem_cons.2 ⟨.inr ⟨(.head _), (by first | assumption | exact Ne.symm (by assumption))⟩, (List.forall_mem_cons.2 ⟨.inl rfl, (fun p hp => .inr ⟨(.tail _ (.tail _ hp)), ((show Dk g2 (Kl5 ++ Kl7) from (by (try simp only [dj_app_l, dj_app_r, dj_cons_l, dj_cons_r, dj_nil_l, dj_nil_r, dk_app, dk_cons, dk_nil, and_true, true_and, and_assoc]); repeat' (first | trivial | assumption | exact Dj.symm (by assumption) | exact Ne.symm (by assumption) | apply And.intro))) _ hp)⟩)⟩)⟩)) ?_
                    refine wpL_done (fun W33 hW33 => ?_)
                    refine (show Code.wp _ _ _ _ _ from ?_)
                    refine wp_region_L (W0 := W2) ((g9, .cells #[.slice p5 ((alongX cs osS ((k : Nat) : Int) false).length) c5, .slice p7 ((alongX cs osS ((k : Nat) : Int) true).length) c7] 39 (0, 0)) :: (g2, .cells (nums (s2.set j13 (n16 + 1))).toArray 3 (0, 0)) :: (Kl5 ++ Kl7)) (hW33) ?_
                    refine lp (v := .int .i64 (((r + 1) : Nat) : Int)) rfl rfl (run_bin rfl (vx := (.int .i64 ((r : Nat) : Int))) (vy := (.int .i64 ((1 : Nat) : Int))) (by kernel_rfl) (by kernel_rfl) fun w => bn_add (z := (r + 1)) rfl (wr_i64 (by omega)) w) ?_
                    refine lm (v := .int .i64 (((r + 1) : Nat) : Int)) rfl rfl ?_
                    refine wpL_done (fun W34 hW34 => ?_)
                    go_roundw
                    case rel =>
                      repeat apply Exists.intro
                      exact ⟨⟨r + 1, (s2.set j13 (n16 + 1)), (by omega), (met_step hQ hy13 jt13 hn16), rfl, (hW34.sub (fun p hp => by first | exact hp | (simp only [List.mem_cons, List.mem_append, List.nil_append, List.not_mem_nil, or_assoc, or_false, false_or] at hp ⊢ <;> grind)))⟩, rfl⟩
                    case measure => (show (alongX cs osS ((k : Nat) : Int) true).length - (intOf (.int .i64 (((r + 1) : Nat) : Int))).toNat < (alongX cs osS ((k : Nat) : Int) true).length - (intOf (.int .i64 ((r : Nat) : Int))).toNat); simp only [intOf]; omega
          | true =>
            have h5 : m < ((alongX cs osS ((k : Nat) : Int) false).length) := of_decide_eq_true hd5
            clear hd5
            refine wp_cond_true rfl ?_
            refine wp_skip ?_
            refine (show Code.wp _ _ _ _ _ from ?_)
            refine wp_seq ?_
            refine wp_block ?_
            refine wp_seq ?_
            refine wp_region_L (W0 := W2) ((g9, .cells #[.slice p5 ((alongX cs osS ((k : Nat) : Int) false).length) c5, .slice p7 ((alongX cs osS ((k : Nat) : Int) true).length) c7] 39 (0, 0)) :: (g2, .cells (nums s1).toArray 3 (0, 0)) :: (Kl5 ++ Kl7)) (hW21) ?_
            obtain ⟨y17, g17_, f17_, hy17, hp17, hc17⟩ := RL.at R5 inC_len (by decide) (hW21.sub (fun p hp => by simp only [List.mem_cons, List.mem_append, List.nil_append, List.not_mem_nil, or_assoc, or_false, false_or, hp, true_or, or_true])) (k := m) (by omega)
            obtain ⟨j17, e17, rfl, jl17, jy17, jd17, jb17, jc17, jt17⟩ := al_at (cs := cs) hoS hok hy17
            refine lp (v := .pointer (some ⟨g17_, f17_ + m * 1, none⟩)) rfl rfl (run_idxQ (p := p5) (cap := c5) (n := (alongX cs osS ((k : Nat) : Int) false).length) (j := .i64) (k := m) (sz := 1) rfl Try.underlying39 (by kernel_rfl) (by kernel_rfl) hp17 (by kernel_rfl) (by omega)) ?_
            refine lv (v := .int .i64 ((j17 : Nat) : Int)) rfl rfl (yb_rf (v := .int .i64 ((j17 : Nat) : Int)) rfl (by kernel_rfl) (fun W hW => hc17 W (hW.sub (fun p hp => by simp only [List.mem_cons, List.mem_append, List.nil_append, List.not_mem_nil, or_assoc, or_false, false_or, hp, true_or, or_true])) 0 _ rfl) Try.underlying3 rfl) ?_
            refine lm (v := .int .i64 ((j17 : Nat) : Int)) rfl rfl ?_
            refine wpL_done (fun W35 hW35 => ?_)
            refine (show Code.wp _ _ _ _ _ from ?_)
            refine wp_seq ?_
            refine wp_seq ?_
            refine wp_region_V (W0 := W2) ((g9, .cells #[.slice p5 ((alongX cs osS ((k : Nat) : Int) false).length) c5, .slice p7 ((alongX cs osS ((k : Nat) : Int) true).length) c7] 39 (0, 0)) :: (g2, .cells (nums s1).toArray 3 (0, 0)) :: (Kl5 ++ Kl7)) (by kernel_rfl) (hW35) ?_
            refine vm (i := 0) (v := .int .i64 ((j17 : Nat) : Int)) rfl rfl rfl ?_
            refine vp (i := 1) (v := .bool false) rfl rfl rfl (run_bin rfl (vx := (.int .i64 ((j17 : Nat) : Int))) (vy := (.int .i64 ((0 : Nat) : Int))) (by kernel_rfl) (by kernel_rfl) fun w => bn_lss (decide_eq_false (by omega)) w) ?_
            refine vm (i := 2) (v := .bool false) rfl rfl rfl ?_
            refine vm (i := 3) (v := .int .i64 ((j17 : Nat) : Int)) rfl rfl rfl ?_
            refine vm (i := 4) (v := .pointer (some ⟨g1, 0, none⟩)) rfl rfl rfl ?_
            refine vb (i := 5) (v := .slice pcS cs.length ccS) rfl rfl rfl (yb_rf (v := .slice pcS cs.length ccS) rfl (by kernel_rfl) (fun W hW => ((HGZ.out).keep hW.1).2 0 _ rfl) Try.underlying22 rfl) ?_
            refine vp (i := 6) (v := .int .i64 ((cs.length : Nat) : Int)) rfl rfl rfl (run_lenL (p := pcS) (cap := ccS) (n := cs.length) rfl Try.underlying22 (by kernel_rfl)) ?_
            refine vp (i := 7) (v := .bool false) rfl rfl rfl (run_bin rfl (vx := (.int .i64 ((j17 : Nat) : Int))) (vy := (.int .i64 ((cs.length : Nat) : Int))) (by kernel_rfl) (by kernel_rfl) fun w => bn_geq (decide_eq_true jl17) w) ?_
            refine vm (i := 8) (v := .bool false) rfl rfl rfl ?_
            refine vm (i := 9) (v := .bool false) rfl rfl rfl ?_
            refine vb (i := 10) (v := .agg (shC (.slice pcS cs.length ccS) (.slice poS osS.length coS) tl0).toArray) rfl rfl rfl (yb_rs (off := 0) (cs := _) rfl (by kernel_rfl) (fun W hW => ((HGZ.out).keep hW.1).2) Try.underlying32 rfl (by kernel_rfl)) ?_
            refine vm (i := 11) (v := .int .i64 ((j17 : Nat) : Int)) rfl rfl rfl ?_
            refine vv (i := 12) (v := .int .i64 (fiN (covOf cs osS ((j17 : Nat) : Int)))) rfl rfl rfl (yb_call (f := 16) (args := #[.agg (shC (.slice pcS cs.length ccS) (.slice poS osS.length coS) tl0).toArray, .int .i64 ((j17 : Nat) : Int)]) (fun _ => by kernel_rfl) fun W hW => CoverOf_any cs pcS ccS (by omega) osS poS coS (by omega) tl0 ((j17 : Nat) : Int) W ((RL.base HCZ.out) _ (hW.sub (fun _ h => by cases h))) ((RL.base HOZ.out) _ (hW.sub (fun _ h => by cases h))) (HRZ.out.keep hW.1) lrS) ?_
            refine vm (i := 13) (v := .int .i64 ((k : Nat) : Int)) rfl rfl rfl ?_
            refine vp (i := 14) (v := .bool false) rfl rfl rfl (run_bin rfl (vx := (.int .i64 (fiN (covOf cs osS ((j17 : Nat) : Int))))) (vy := (.int .i64 ((k : Nat) : Int))) (by kernel_rfl) (by kernel_rfl) fun w => bi_neq (decide_eq_true (by rw [jc17]; rfl)) w) ?_
            refine vm (i := 15) (v := .bool false) rfl rfl rfl ?_
            refine vm (i := 16) (v := .bool false) rfl rfl rfl ?_
            refine vm (i := 17) (v := .pointer (some ⟨g1, 0, none⟩)) rfl rfl rfl ?_
            refine vb (i := 18) (v := .slice pcS cs.length ccS) rfl rfl rfl (yb_rf (v := .slice pcS cs.length ccS) rfl (by kernel_rfl) (fun W hW => ((HGZ.out).keep hW.1).2 0 _ rfl) Try.underlying22 rfl) ?_
            refine vm (i := 19) (v := .int .i64 ((j17 : Nat) : Int)) rfl rfl rfl ?_
            obtain ⟨y18, g18_, f18_, hy18, hp18, hc18⟩ := RL.at (RL.base HCZ.out) colC_len (by decide) (hW35.sub (fun _ h => by cases h)) (k := j17) (by omega)
            have ey18 : y18 = e17 := by rw [jy17] at hy18; exact (Option.some.inj hy18).symm
            subst ey18
            refine vp (i := 20) (v := .pointer (some ⟨g18_, f18_ + j17 * 12, none⟩)) rfl rfl rfl (run_idxQ (p := pcS) (cap := ccS) (n := cs.length) (j := .i64) (k := j17) (sz := 12) rfl Try.underlying22 (by kernel_rfl) (by kernel_rfl) hp18 (by kernel_rfl) (by omega)) ?_
            refine vm (i := 21) (v := .pointer (some ⟨g18_, f18_ + j17 * 12 + 2, none⟩)) rfl rfl rfl ?_
            refine vb (i := 22) (v := .bool y18.deck) rfl rfl rfl (yb_rf (v := .bool y18.deck) rfl (by kernel_rfl) (fun W hW => hc18 W (hW.sub (fun _ h => by cases h)) 2 _ rfl) Try.underlying4 rfl) ?_
            refine vm (i := 23) (v := .int .i64 0) rfl rfl rfl ?_
            refine vm (i := 24) (v := .bool false) rfl rfl rfl ?_
            refine vp (i := 25) (v := .bool (!(y18.deck == false))) rfl rfl rfl (run_bin rfl (vx := .bool y18.deck) (vy := .bool false) (by kernel_rfl) (by kernel_rfl) fun w => bn_bool_neq rfl Try.underlying4 w) ?_
            refine vm (i := 26) (v := .bool (!(y18.deck == false))) rfl rfl rfl ?_
            refine vm (i := 27) (v := .bool (!(y18.deck == false))) rfl rfl rfl ?_
            cases h9 : (y18.deck == false) with
            | false =>
              exact absurd (show (y18.deck == false) = true by rw [jd17]; rfl) (by rw [h9]; decide)
            | true =>
              refine vm (i := 28) (v := .pointer (some ⟨g1, 0, none⟩)) rfl rfl rfl ?_
              refine vb (i := 29) (v := .slice pcS cs.length ccS) rfl rfl rfl (yb_rf (v := .slice pcS cs.length ccS) rfl (by kernel_rfl) (fun W hW => ((HGZ.out).keep hW.1).2 0 _ rfl) Try.underlying22 rfl) ?_
              refine vm (i := 30) (v := .int .i64 ((j17 : Nat) : Int)) rfl rfl rfl ?_
              refine vp (i := 31) (v := .pointer (some ⟨g18_, f18_ + j17 * 12, none⟩)) rfl rfl rfl (run_idxQ (p := pcS) (cap := ccS) (n := cs.length) (j := .i64) (k := j17) (sz := 12) rfl Try.underlying22 (by kernel_rfl) (by kernel_rfl) hp18 (by kernel_rfl) (by omega)) ?_
              refine vm (i := 32) (v := .pointer (some ⟨g18_, f18_ + j17 * 12, none⟩)) rfl rfl rfl ?_
              refine vb (i := 33) (v := .int .i64 y18.bay) rfl rfl rfl (yb_rf (v := .int .i64 y18.bay) rfl (by kernel_rfl) (fun W hW => hc18 W (hW.sub (fun _ h => by cases h)) 0 _ rfl) Try.underlying3 rfl) ?_
              refine vm (i := 34) (v := .pointer (some ⟨g1, 1, none⟩)) rfl rfl rfl ?_
              refine vb (i := 35) (v := .slice poS osS.length coS) rfl rfl rfl (yb_rf (v := .slice poS osS.length coS) rfl (by kernel_rfl) (fun W hW => ((HGZ.out).keep hW.1).2 1 _ rfl) Try.underlying23 rfl) ?_
              refine vm (i := 36) (v := .int .i64 ((k : Nat) : Int)) rfl rfl rfl ?_
              obtain ⟨y19, g19_, f19_, hy19, hp19, hc19⟩ := RL.at (RL.base HOZ.out) covC_len (by decide) (hW35.sub (fun _ h => by cases h)) (k := k) (by omega)
              have ey19 : y19 = ok := by rw [hok] at hy19; exact (Option.some.inj hy19).symm
              subst ey19
              refine vp (i := 37) (v := .pointer (some ⟨g19_, f19_ + k * 2, none⟩)) rfl rfl rfl (run_idxQ (p := poS) (cap := coS) (n := osS.length) (j := .i64) (k := k) (sz := 2) rfl Try.underlying23 (by kernel_rfl) (by kernel_rfl) hp19 (by kernel_rfl) (by omega)) ?_
              refine vm (i := 38) (v := .pointer (some ⟨g19_, f19_ + k * 2, none⟩)) rfl rfl rfl ?_
              refine vb (i := 39) (v := .int .i64 y19.bay) rfl rfl rfl (yb_rf (v := .int .i64 y19.bay) rfl (by kernel_rfl) (fun W hW => hc19 W (hW.sub (fun _ h => by cases h)) 0 _ rfl) Try.underlying3 rfl) ?_
              refine vp (i := 40) (v := .bool (!(decide (y18.bay = y19.bay)))) rfl rfl rfl (run_bin rfl (vx := (.int .i64 y18.bay)) (vy := (.int .i64 y19.bay)) (by kernel_rfl) (by kernel_rfl) fun w => bi_neq rfl w) ?_
              refine vm (i := 41) (v := .bool (!(decide (y18.bay = y19.bay)))) rfl rfl rfl ?_
              refine wpV_done (by kernel_rfl) (fun W36 hW36 => ?_) _
              refine (show Code.wp _ _ _ _ _ from ?_)
              cases hd10 : (decide (y18.bay = y19.bay)) with
              | false =>
                have h10 : ¬ (y18.bay = y19.bay) := of_decide_eq_false hd10
                clear hd10
                exact absurd (show y18.bay = y19.bay by first | exact jb17 | omega) h10
              | true =>
                have h10 : y18.bay = y19.bay := of_decide_eq_true hd10
                clear hd10
                refine wp_cond_false rfl ?_
                refine wp_skip ?_
                refine (show Code.wp _ _ _ _ _ from ?_)
                refine wp_region_L (W0 := W2) ((g9, .cells #[.slice p5 ((alongX cs osS ((k : Nat) : Int) false).length) c5, .slice p7 ((alongX cs osS ((k : Nat) : Int) true).length) c7] 39 (0, 0)) :: (g2, .cells (nums s1).toArray 3 (0, 0)) :: (Kl5 ++ Kl7)) (hW36) ?_
                refine lm (v := .slice (some ⟨g2, 0, none⟩) cs.length cs.length) rfl rfl ?_
                refine lm (v := .int .i64 ((j17 : Nat) : Int)) rfl rfl ?_
                refine lp (v := .pointer (some ⟨g2, 0 + j17 * 1, none⟩)) rfl rfl (run_idxL (j := .i64) (n := cs.length) (cap := cs.length) (b := g2) (off := 0) (k := j17) (sz := 1) rfl Try.underlying39 (by kernel_rfl) (by kernel_rfl) (by kernel_rfl) (by omega)) ?_
                obtain ⟨n20, hn20⟩ : ∃ nz : Nat, (s1 : List Nat)[j17]? = some nz := ⟨_, List.getElem?_eq_getElem (by first | (rw [hM.1]; omega) | (rw [hP.1]; omega) | (rw [hQ.1]; omega))⟩
                have x120 : n20 ≤ 3 := by
                  have h1 := hP.2 _ _ hn20
                  dsimp only at h1
                  have h2 := base_le (cs := cs) (os := osS) k j17
                  have h3 := inN_le (alongX cs osS ((k : Nat) : Int) false) m j17
                  have h4 := inN_le (alongX cs osS ((k : Nat) : Int) false) (alongX cs osS ((k : Nat) : Int) false).length j17
                  omega
                refine lv (v := .int .i64 ((n20 : Nat) : Int)) rfl rfl (yb_cell (off := 0 + j17 * 1) (v := .int .i64 ((n20 : Nat) : Int)) rfl (by kernel_rfl) (.tail _ (.head _)) Try.underlying3 rfl (by rw [Nat.zero_add, Nat.mul_one, List.getElem?_toArray]; exact nums_get hn20)) ?_
                refine lp (v := .int .i64 (((n20 + 1) : Nat) : Int)) rfl rfl (run_bin rfl (vx := (.int .i64 ((n20 : Nat) : Int))) (vy := (.int .i64 ((1 : Nat) : Int))) (by kernel_rfl) (by kernel_rfl) fun w => bn_add (z := (n20 + 1)) rfl (wr_i64 (by omega)) w) ?_
                refine lp (v := .pointer (some ⟨g2, 0 + j17 * 1, none⟩)) rfl rfl (run_idxL (j := .i64) (n := cs.length) (cap := cs.length) (b := g2) (off := 0) (k := j17) (sz := 1) rfl Try.underlying39 (by kernel_rfl) (by kernel_rfl) (by kernel_rfl) (by omega)) ?_
                refine wpL_s ((g9, .cells #[.slice p5 ((alongX cs osS ((k : Nat) : Int) false).length) c5, .slice p7 ((alongX cs osS ((k : Nat) : Int) true).length) c7] 39 (0, 0)) :: (g2, .cells (nums (s1.set j17 (n20 + 1))).toArray 3 (0, 0)) :: (Kl5 ++ Kl7)) rfl rfl (st_to (off := 0 + j17 * 1) (nums_set s1 j17 (n20 + 1)) rfl (by kernel_rfl) (by kernel_rfl) (.tail _ (.head _)) Bg2 (by kernel_rfl) rfl rfl (by simp only [List.size_toArray, nums_len]; first | (rw [hM.1]; omega) | (rw [hP.1]; omega) | (rw [hQ.1]; omega)) (.inr rfl) (List.forall_mem_cons.2 ⟨.inr ⟨(.head _), (by first | assumption | exact Ne.symm (by assumption))⟩, (List.forall_mem_cons.2 ⟨.inl rfl, (fun p hp => .inr ⟨(.tail _ (.tail _ hp)), ((show Dk g2 (Kl5 ++ Kl7) from (by (try simp only [dj_app_l, dj_app_r, dj_cons_l, dj_cons_r, dj_nil_l, dj_nil_r, dk_app, dk_cons, dk_nil, and_true, true_and, and_assoc]); repeat' (first | trivial | assumption | exact Dj.symm (by assumption) | exact Ne.symm (by assumption) | apply And.intro))) _ hp)⟩)⟩)⟩)) ?_
                refine wpL_done (fun W37 hW37 => ?_)
                refine (show Code.wp _ _ _ _ _ from ?_)
                refine wp_region_L (W0 := W2) ((g9, .cells #[.slice p5 ((alongX cs osS ((k : Nat) : Int) false).length) c5, .slice p7 ((alongX cs osS ((k : Nat) : Int) true).length) c7] 39 (0, 0)) :: (g2, .cells (nums (s1.set j17 (n20 + 1))).toArray 3 (0, 0)) :: (Kl5 ++ Kl7)) (hW37) ?_
                refine lp (v := .int .i64 (((m + 1) : Nat) : Int)) rfl rfl (run_bin rfl (vx := (.int .i64 ((m : Nat) : Int))) (vy := (.int .i64 ((1 : Nat) : Int))) (by kernel_rfl) (by kernel_rfl) fun w => bn_add (z := (m + 1)) rfl (wr_i64 (by omega)) w) ?_
                refine lm (v := .int .i64 (((m + 1) : Nat) : Int)) rfl rfl ?_
                refine wpL_done (fun W38 hW38 => ?_)
                go_roundw
                case rel =>
                  repeat apply Exists.intro
                  exact ⟨⟨m + 1, (s1.set j17 (n20 + 1)), (by omega), (met_step hP hy17 jt17 hn20), rfl, (hW38.sub (fun p hp => by first | exact hp | (simp only [List.mem_cons, List.mem_append, List.nil_append, List.not_mem_nil, or_assoc, or_false, false_or] at hp ⊢ <;> grind)))⟩, rfl⟩
                case measure => (show (alongX cs osS ((k : Nat) : Int) false).length - (intOf (.int .i64 (((m + 1) : Nat) : Int))).toNat < (alongX cs osS ((k : Nat) : Int) false).length - (intOf (.int .i64 ((m : Nat) : Int))).toNat); simp only [intOf]; omega
end Go.Proofs.Ytldhjhjomokkgaa
/- ShipCovers holds for every input: the program's own answer is true; each argument reads afterwards as it read before. -/
namespace Go.Proofs.Ytldhjhjomokkgaa
open Go.ChangeShapes Go.WideShapes Go.ChangeAt Go.RowKit Tw
set_option maxRecDepth 100000 in
theorem shipCovers_lifted (os : Os) (started : os.Started) (H : Type) (enc : TypeId × Value → H) :
    ReturnsInHanded {} Try.checked os 5 .any (Rows.shipCoversSpec.pre6 enc Try.prog Try.f5 Rows.shipCoversRow.domain false) (Rows.shipCoversSpec.post enc Try.prog Try.f5 false true false false) := by
  refine returnsInHanded_of_change (C := Try.checked) own started (by kernel_rfl) Try.func5
    (ChangeSpec.witness6 (enc := enc) (C := Try.checked) false ⟨#[], #[.slice none 0 0, .int .u32 0], []⟩ 8 (by kernel_rfl) (by kernel_rfl) (by kernel_rfl) (by kernel_rfl)) ?_
  intro W base args ds gs before hval0 hW _ _
  have hval : ∀ (j : Nat) t v, Try.f5.params[j]? = some t → args[j]? = some v → Value.okWide Try.prog W .any base t v := hval0
  have hW2 := hW
  obtain ⟨p, q, hA0, hV, rfl, hfz, hnd⟩ := hW2
  have hA : DataW.TrodAll enc Try.prog W 0 (fun _ => true) true Try.f5.params.toList args.toList ds p := hA0
  rw [Try.params5] at hA hval
  obtain ⟨v0, vs0, d0, ds0, p0, q0, hargs, rfl, rfl, h0, r0⟩ := trodAll_cons hA
  obtain ⟨v1, vs1, d1, ds1, p1, q1, rfl, rfl, rfl, h1, r1⟩ := trodAll_cons r0
  obtain ⟨rfl, rfl, rfl⟩ := trodAll_nil r1
  obtain rfl : args = #[v0, v1] := by cases args; simp_all
  obtain ⟨rfl, rfl⟩ := trodVars_none hV
  have k0 := h0
  have lt0 : ∀ x ∈ p0, x.block < W.heap.size := by obtain ⟨m, hm⟩ := k0; exact DataW.trod_lt m _ _ _ hm
  obtain ⟨p0_, c0, l0, rfl, hb0, hok0, hl0, hc0⟩ := open_recs (sz := 4) Try.underlying48 opens_pl (by kernel_rfl) (by omega) (fun _ => rfl) (hval 0 48 v0 rfl rfl) h0
  obtain ⟨a1, rfl, rfl, rfl, w1⟩ := open_int Try.underlying49 (hval 1 49 v1 rfl rfl) h1
  have rr1 : 0 ≤ a1 ∧ a1 ≤ 4294967295 := of_wf w1
  obtain ⟨n1, rfl⟩ : ∃ n : Nat, a1 = (n : Int) := ⟨a1.toNat, by omega⟩
  clear hA0 hval0
  refine (ShipCovers_law l0 p0_ c0 n1 (Nat.le_trans hl0 (by unfold maxLen; omega)) hc0 hok0 (by omega)   W hb0).mono fun e W' ⟨he, bel⟩ => ?_
  subst he
  exact ⟨_, rfl, _, _, _, [], _, [], hW, (trodAll_cons_mk (shut_bool Try.underlying4 _) trodAll_mk0), (trodAll_cons_mk (Below.trod laidOut (by kernel_rfl) (of_decide_eq_true (by kernel_rfl)) k0 bel lt0) (trodAll_cons_mk (shut_int Try.underlying49 w1) trodAll_mk0)), rfl, bel.frame _, fun h => by cases h⟩
theorem shipCovers_proved : Rows.ShipCoversSaid :=
  OpenClaim.holds_of_wide 5 Try.f5 rfl rfl rfl rfl rfl rfl rfl ⟨rfl, rfl, rfl, rfl, rfl⟩ rfl rfl rfl rfl rfl (by kernel_rfl) Try.func5 (by kernel_rfl)
    (of_decide_eq_true (by kernel_rfl)) (by unfold Func.isWrapper; first | (rw [if_pos (by decide +kernel)]; kernel_rfl) | (rw [if_neg (by decide +kernel)]; exact ⟨rfl, rfl⟩))
    (fun os started H enc _ => shipCovers_lifted os started H enc)
#print axioms shipCovers_proved
end Go.Proofs.Ytldhjhjomokkgaa
