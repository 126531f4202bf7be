import Derived.Test.YtalmflgkbmnghaaDoorKR00
import Derived.Test.YtalmflgkbmnghaaDoorG00
import Derived.Laws.OwnMore
import Derived.Laws.Small
/- Part of the proof: Y1, Y7, Y2, Y4, Y5, Y3, Y6, Y8, Y9. -/
set_option linter.unusedVariables false
set_option linter.unusedSimpArgs false
set_option linter.unusedSectionVars false
/- Lists of numbers that are read, cut and handed on: over any program. -/
namespace Tw
open Go Go.RowKit Go.Proofs.YtalmflgkbmnghaaDoor
def nums (l : List Nat) : List Value := l.map fun n => .int .i64 ((n : Nat) : Int)
theorem nums_len (l : List Nat) : (nums l).length = l.length := by simp [nums]
theorem nums_app (l m : List Nat) : nums (l ++ m) = nums l ++ nums m := by simp [nums]
theorem nums_get {l : List Nat} {k x : Nat} (h : l[k]? = some x) : (nums l)[k]? = some (.int .i64 ((x : Nat) : Int)) := by simp [nums, h]
theorem nums_take (l : List Nat) (k : Nat) : nums (l.take k) = (nums l).take k := by simp [nums, List.map_take]
theorem nums_drop (l : List Nat) (k : Nat) : nums (l.drop k) = (nums l).drop k := by simp [nums, List.map_drop]
theorem nums_one (l : List Nat) : ∀ u ∈ nums l, u.oneCell' = true := by
  intro u hu
  obtain ⟨n, _, rfl⟩ := List.mem_map.1 hu
  rfl
theorem slv_take {W : World} {p : Option Addr} {xs : List Value} (h : SLV W p xs) (k : Nat) : SLV W p (xs.take k) := by
  rcases h with rfl | ⟨b, off, rfl, hlt, hc⟩
  · exact .inl (by simp)
  · refine .inr ⟨b, off, rfl, hlt, fun i u hu => hc i u ?_⟩
    rw [List.getElem?_take] at hu
    split at hu
    · exact hu
    · cases hu
def NS (W0 : Base) (p : Option Addr) (l : List Nat) (T : List (Nat × Obj)) : Prop := ∀ W, KS W0 T W → SLV W p (nums l)
section
variable {W0 : Base} {p : Option Addr} {l : List Nat} {K T : List (Nat × Obj)}
theorem NS.mono (h : NS W0 p l T) (hs : ∀ q ∈ T, q ∈ K) : NS W0 p l K := fun W hW => h W (hW.sub hs)
theorem NS.take (h : NS W0 p l T) (k : Nat) : NS W0 p (l.take k) T := fun W hW => by rw [nums_take]; exact slv_take (h W hW) k
theorem NS.nil : NS W0 p [] T := fun _ _ => .inl rfl
theorem NS.base {W : World} (h : SLV W p (nums l)) : NS (W : Base) p l [] := fun _ hW => h.keep hW.1
theorem NS.at {W : World} {k : Nat} (h : NS W0 p l T) (hW : KS W0 T W) (hk : k < l.length) : ∃ b off, p = some ⟨b, off, none⟩ ∧ ∀ W, KS W0 T W → ∀ (i x : Nat), l[i]? = some x → W.cell? ⟨b, off + i * 1, none⟩ = some (.int .i64 ((x : Nat) : Int)) := by
  have hne : nums l ≠ [] := fun e => by have := nums_len l; rw [e] at this; simp at this; omega
  rcases h W hW with h0 | ⟨b, off, rfl, _, _⟩
  · exact absurd h0 hne
  · refine ⟨b, off, rfl, fun W2 hW2 i x hx => ?_⟩
    rcases h W2 hW2 with h0 | ⟨b', off', he, _, hc⟩
    · exact absurd h0 hne
    · cases he
      rw [Nat.mul_one]
      exact hc i _ (nums_get hx)
theorem NS.drop {W : World} {c k : Nat} (h : NS W0 p l T) (hW : KS W0 T W) (hc : l.length ≤ c) : NS W0 (if c = k then p else p.map (·.add (k * 1))) (l.drop k) T := by
  rcases Nat.lt_or_ge k l.length with h1 | h1
  · obtain ⟨b, off, rfl, h2⟩ := h.at hW h1
    rw [if_neg (by omega)]
    intro W2 hW2
    rcases h W2 hW2 with h0 | ⟨b', off', he, hlt, hc⟩
    · have := nums_len l; rw [h0] at this; simp at this; omega
    · cases he
      refine .inr ⟨b, off + k * 1, by simp [addr_add], hlt, fun i u hu => ?_⟩
      rw [nums_drop, List.getElem?_drop] at hu
      rw [Nat.mul_one, Nat.add_assoc]
      exact hc _ u hu
  · rw [List.drop_of_length_le h1]; exact NS.nil
theorem cell_same {w w2 : World} {b off : Nat} (h : w.heap[b]? = w2.heap[b]?) : w.cell? ⟨b, off, none⟩ = w2.cell? ⟨b, off, none⟩ := by
  unfold World.cell?; simp only [h]
theorem ns_of {W w2 : World} (hW : KS W0 K W) (hB : Below W.heap.size W w2) (hs : SLV w2 p (nums l)) : ∃ K2, KS W0 K2 w2 ∧ (∀ q ∈ K, q ∈ K2) ∧ NS W0 p l K2 := by
  have hK := hW.below hB
  rcases hs with h0 | ⟨b, off, rfl, hlt, hc⟩
  · exact ⟨K, hK, fun _ h => h, fun _ _ => .inl h0⟩
  · have hb : w2.heap[b]? = some (w2.heap[b]) := Array.getElem?_eq_getElem hlt
    refine ⟨(b, w2.heap[b]) :: K, ⟨hK.1, fun q hq => ?_⟩, fun q hq => .tail _ hq, fun W3 hW3 => .inr ⟨b, off, rfl, ?_, fun i u hu => ?_⟩⟩
    · rcases List.mem_cons.1 hq with rfl | h
      · exact hb
      · exact hK.2 q h
    · have := hW3.2 _ (.head _); exact lt_of_block this
    · rw [cell_same (w2 := w2) (by rw [hW3.2 _ (.head _)]; exact hb.symm)]; exact hc i u hu
def SLF (W w2 : World) (p : Option Addr) (xs : List Value) : Prop := xs = [] ∨ ∃ b off, p = some ⟨b, off, none⟩ ∧ W.heap.size ≤ b ∧ b < w2.heap.size ∧ Cel w2 b off xs
theorem SLF.slv {W w2 : World} {xs : List Value} (h : SLF W w2 p xs) : SLV w2 p xs := h.imp id fun ⟨b, off, h1, _, h2, h3⟩ => ⟨b, off, h1, h2, h3⟩
theorem SLF.back {V W w2 : World} {xs : List Value} (h : SLF W w2 p xs) (hs : V.heap.size ≤ W.heap.size) : SLF V w2 p xs := h.imp id fun ⟨b, off, h1, h2, h3⟩ => ⟨b, off, h1, by omega, h3⟩
theorem SLF.take {W w2 : World} {xs : List Value} (h : SLF W w2 p xs) (k : Nat) : SLF W w2 p (xs.take k) := by
  rcases h with rfl | ⟨b, off, rfl, h1, h2, hc⟩
  · exact .inl (by simp)
  · refine .inr ⟨b, off, rfl, h1, h2, fun i u hu => hc i u ?_⟩
    rw [List.getElem?_take] at hu
    split at hu
    · exact hu
    · cases hu
theorem ns_new {W w2 : World} (hW : KS W0 K W) (hB : Below W.heap.size W w2) (hs : SLF W w2 p (nums l)) : ∃ T, KS W0 (K ++ T) w2 ∧ Dj K T ∧ NS W0 p l T ∧ ∀ W3, KS W0 T W3 → W0.B = W0.w.heap.size → SLF W0.w W3 p (nums l) := by
  have hK := hW.below hB
  rcases hs with h0 | ⟨b, off, rfl, hge, hlt, hc⟩
  · exact ⟨[], by rw [List.append_nil]; exact hK, fun _ _ _ h => (by cases h), fun _ _ => .inl h0, fun _ _ _ => .inl h0⟩
  · have hb : w2.heap[b]? = some (w2.heap[b]) := Array.getElem?_eq_getElem hlt
    refine ⟨[(b, w2.heap[b])], ⟨hK.1, fun q hq => ?_⟩, fun q hq r hr e => ?_, fun W3 hW3 => .inr ⟨b, off, rfl, ?_, fun i u hu => ?_⟩, fun W3 hW3 e => .inr ⟨b, off, rfl, ?_, ?_, fun i u hu => ?_⟩⟩
    · rcases List.mem_append.1 hq with h | h
      · exact hK.2 q h
      · cases List.mem_singleton.1 h; exact hb
    · cases List.mem_singleton.1 hr
      have := lt_of_block (hW.2 q hq)
      have e' : b = q.1 := e
      omega
    · have := hW3.2 _ (.head _); exact lt_of_block this
    · rw [cell_same (w2 := w2) (by rw [hW3.2 _ (.head _)]; exact hb.symm)]; exact hc i u hu
    · have := hW.size; omega
    · have := hW3.2 _ (.head _); exact lt_of_block this
    · rw [cell_same (w2 := w2) (by rw [hW3.2 _ (.head _)]; exact hb.symm)]; exact hc i u hu
theorem own_ns {E : TypeId} {v : Value} {n : Nat} (h : OwnL W0 E 1 v n (nums l) T) : ∃ p c, v = .slice p n c ∧ n ≤ c ∧ NS W0 p l T ∧ ∀ W w2, KS W0 T W → W0.B = W0.w.heap.size → Below W.heap.size W w2 → SLF W0.w w2 p (nums l) := by
  rcases h with ⟨rfl, h2, rfl, rfl⟩ | ⟨g, cap, cur, rfl, hB, hR, rfl⟩
  · exact ⟨none, 0, rfl, Nat.le_refl _, fun _ _ => .inl h2, fun _ _ _ _ _ => .inl h2⟩
  · refine ⟨_, cap, rfl, hR.2.2.1, fun W hW => ?_, fun W w2 hW e hb => ?_⟩
    · have hb := hW.2 _ (.head _)
      exact .inr ⟨g, 0, rfl, lt_of_block hb, hR.cel hb⟩
    · have h1 := (hW.below hb).2 _ (.head _)
      exact .inr ⟨g, 0, rfl, by omega, lt_of_block h1, hR.cel h1⟩
theorem own_ncap {E : TypeId} {v : Value} {n : Nat} {xs : List Value} (h : OwnL W0 E 1 v n xs T) : xs.length = n := by
  rcases h with ⟨rfl, h2, rfl, rfl⟩ | ⟨g, cap, cur, rfl, hB, hR, rfl⟩
  · simp [h2]
  · have := hR.2.2.2.1; omega
theorem own_row {E : TypeId} {g n : Nat} {xs : List Value} (hB : W0.B ≤ g) (hl : xs.length = n) (hm : n ≤ 4000000000) : OwnL W0 E 1 (.slice (some ⟨g, 0, none⟩) n n) n xs [(g, .cells xs.toArray E (0, 0))] :=
  .inr ⟨g, n, _, rfl, hB, ⟨by simp [hl], by unfold maxLen; omega, Nat.le_refl _, by simp [hl], by simp [← hl]⟩, rfl⟩
end
section
variable {P : Program} {T E : TypeId} {W0 : Base}
theorem yb_ns {o : Oper} {a : Act} {K : List (Nat × Obj)} {ty : TypeId} {x : Operand} {g off : Nat} {v : Value} {d : TypeDesc} (ho : o.op = .load ty x) (hx : a.eval x = .pointer (some ⟨g, off, none⟩))
    (hc : ∀ W, KS W0 K W → W.cell? ⟨g, off, none⟩ = some v) (hu : P.underlying ty = some d) (hd : aggD d = false) :
    ∀ w, KS W0 K w → ∀ K' : Act → World → Prop, (∀ w', Below w.heap.size w w' → K' (a.put o.dst v) w') → Oper.wp P o a w K' (fun _ _ _ => False) := by
  intro w hw K' hk
  have hagg : (isAgg ty).run P w = .ok false w := by
    unfold isAgg
    rw [Sem.run_bind, run_underlying hu w]
    unfold aggD at hd
    cases d <;> simp_all
  have hr : (loadVar ty ⟨g, off, none⟩).run P w = .ok v w := by
    simp [loadVar, Sem.run_bind, hagg, hc w hw]
  unfold Oper.wp execOp
  simp only [ho, hx, Instr.loadAt, Instr.sureAddr, Sem.run_bind, Sem.run_pure, Result.andThen_ok, hr]
  exact hk w (Below.refl _ _)
theorem run_cutH {o : Oper} {a : Act} {p : Option Addr} {n c j sz : Nat} {x p2 : Operand} {k2 : IntKind} (ho : o.op = .slice T x none (some p2) none) (hT : P.underlying T = some (.slice E)) (hsz : (P.info? E).map (·.size) = some sz) (hx : a.eval x = .slice p n c) (h2 : a.eval p2 = .int k2 ((j : Nat) : Int)) (hl : j ≤ c) (w : World) : (execOp a.eval o).run P w = .ok (.value (.slice p j c)) w := by
  unfold execOp
  rw [ho]
  have e2 := fun q => sl_bound (P := P) (k := k2) (c := q) hl w
  cases hq : P.info? E with
  | none => simp [hq] at hsz
  | some i =>
    have hp : (if c = 0 then p else p.map (·.add (0 * i.size))) = p := by
      split
      · rfl
      · cases p with
        | none => rfl
        | some q => obtain ⟨b, off, s⟩ := q; simp [Addr.add]
    simp [Instr.sliceAt, Instr.slice, Instr.sliceBounds, hx, h2, run_underlying hT, e2, Go.sizeOf, typeInfo, hq]
    cases p with
    | none => simp
    | some q => obtain ⟨b, off, s⟩ := q; simp [Addr.add]
theorem run_cutL {o : Oper} {a : Act} {p : Option Addr} {n c i : Nat} {x p1 : Operand} {k1 : IntKind} (ho : o.op = .slice T x (some p1) none none) (hT : P.underlying T = some (.slice E)) (hsz : (P.info? E).map (·.size) = some 1) (hx : a.eval x = .slice p n c) (h1 : a.eval p1 = .int k1 ((i : Nat) : Int)) (hl : i ≤ n) (w : World) : (execOp a.eval o).run P w = .ok (.value (.slice (if c = i then p else p.map (·.add (i * 1))) (n - i) (c - i))) w := by
  unfold execOp
  rw [ho]
  have e1 := fun q => sl_bound (P := P) (k := k1) (c := q) hl w
  cases hq : P.info? E with
  | none => simp [hq] at hsz
  | some j =>
    have hs : j.size = 1 := by simpa [hq] using hsz
    simp [Instr.sliceAt, Instr.slice, Instr.sliceBounds, hx, h1, run_underlying hT, e1, Go.sizeOf, typeInfo, hq, hs]
theorem src_ns {K : List (Nat × Obj)} {U : TypeId} {p : Option Addr} {l : List Nat} {m c : Nat} (hU : P.underlying U = some (.slice E)) (h : NS W0 p l K) (hm : m = l.length) : ∀ w, KS W0 K w → Src P 1 U (.slice p m c) m (nums l) w := by
  intro w hw
  subst hm
  rcases h w hw with h0 | ⟨b, off, rfl, hlt, hc⟩
  · have hl : l = [] := by
      have := nums_len l; rw [h0] at this; exact List.eq_nil_of_length_eq_zero this.symm
    subst hl
    cases p with
    | none => exact Src.ofNil w hU c
    | some ad => exact Src.ofSlice w hU ad 0 c [] (by simp) (fun j u h => by simp at h) (fun u hu => by cases hu)
  · exact Src.ofSlice w hU ⟨b, off, none⟩ l.length c (nums l) (by simp [nums_len]) (fun j u hj => by rw [addr_add]; exact hc j u hj) (nums_one l)
theorem run_mk {o : Oper} {a : Act} {n : Nat} {x y : Operand} {b : Nat} (ho : o.op = .makeSlice T x y) (hT : P.underlying T = some (.slice E)) (hi : (P.info? E).map (fun i => (i.zero, i.size, i.bytes)) = some (some (.int .i64 0), 1, b)) (hb : b ≤ 10000)
    (hx : a.eval x = .int .i64 ((n : Nat) : Int)) (hy : a.eval y = .int .i64 ((n : Nat) : Int)) (hn : n ≤ 4000000000) (w : World) : (execOp a.eval o).run P w = .ok (.value (.slice (some ⟨w.heap.size, 0, none⟩) n n)) (w.alloc (.cells (nums (List.replicate n 0)).toArray E (0, 0))) := by
  unfold execOp
  rw [ho]
  have h1 : b * n ≤ 281474976710656 := Nat.le_trans (Nat.mul_le_mul hb hn) (by decide)
  have h2 := run_make_row' (P := P) T E (.int .i64 0) b hT hi rfl .i64 .i64 n h1 (by omega) w
  have h3 : madeCells #[.int .i64 0] n = (nums (List.replicate n 0)).toArray := by
    apply Array.ext'
    rw [toList_madeCells_one]
    simp [nums]
  rw [h3] at h2
  simp [hx, hy, h2]
end
def Ans (w : World) (l : List Nat) (e : Ending) (w' : World) : Prop := ∃ q d, e = .returned (.slice q l.length d) ∧ l.length ≤ d ∧ SLF w w' q (nums l) ∧ Below w.heap.size w w'
def AnsV (w : World) (l : List Nat) (e : Ending) (w' : World) : Prop := ∃ q d, e = .returned (.slice q l.length d) ∧ l.length ≤ d ∧ SLV w' q (nums l) ∧ Below w.heap.size w w'
def AnsG (W0 : Base) (K : List (Nat × Obj)) (l : List Nat) (v : Value) (K2 : List (Nat × Obj)) : Prop := ∃ q d T, v = .slice q l.length d ∧ l.length ≤ d ∧ NS W0 q l T ∧ (∀ W3, KS W0 T W3 → W0.B = W0.w.heap.size → SLF W0.w W3 q (nums l)) ∧ Dj K T ∧ K2 = K ++ T
def AnsW (W0 : Base) (K : List (Nat × Obj)) (l : List Nat) (v : Value) (K2 : List (Nat × Obj)) : Prop := ∃ q d T, v = .slice q l.length d ∧ l.length ≤ d ∧ NS W0 q l T ∧ K2 = K ++ T
def Ans2 (w : World) (l m : List Nat) (e : Ending) (w' : World) : Prop := ∃ q d q2 d2, e = .returned (.tuple #[.slice q l.length d, .slice q2 m.length d2]) ∧ l.length ≤ d ∧ m.length ≤ d2 ∧ SLV w' q (nums l) ∧ SLV w' q2 (nums m) ∧ Below w.heap.size w w'
def AnsW2 (W0 : Base) (K : List (Nat × Obj)) (l m : List Nat) (v : Value) (K2 : List (Nat × Obj)) : Prop := ∃ q d q2 d2 T, v = .tuple #[.slice q l.length d, .slice q2 m.length d2] ∧ l.length ≤ d ∧ m.length ≤ d2 ∧ NS W0 q l T ∧ NS W0 q2 m T ∧ K2 = K ++ T
section
variable {W0 : Base} {K : List (Nat × Obj)} {W w2 : World} {l m : List Nat} {e : Ending}
theorem Ans.v (h : Ans W l e w2) : AnsV W l e w2 := by
  obtain ⟨q, d, h1, h2, h3, h4⟩ := h
  exact ⟨q, d, h1, h2, h3.slv, h4⟩
theorem Ans.g (h : Ans W l e w2) (hW : KS W0 K W) : ∃ v K2, e = .returned v ∧ KS W0 K2 w2 ∧ AnsG W0 K l v K2 := by
  obtain ⟨q, d, h1, h2, h3, h4⟩ := h
  obtain ⟨T, a1, a2, a3, a4⟩ := ns_new hW h4 h3
  exact ⟨_, _, h1, a1, q, d, T, rfl, h2, a3, a4, a2, rfl⟩
theorem ns_of' {p : Option Addr} (hW : KS W0 K W) (hB : Below W.heap.size W w2) (hs : SLV w2 p (nums l)) : ∃ T, KS W0 (K ++ T) w2 ∧ NS W0 p l T := by
  have hK := hW.below hB
  rcases hs with h0 | ⟨b, off, rfl, hlt, hc⟩
  · exact ⟨[], by rw [List.append_nil]; exact hK, fun _ _ => .inl h0⟩
  · have hb : w2.heap[b]? = some (w2.heap[b]) := Array.getElem?_eq_getElem hlt
    refine ⟨[(b, w2.heap[b])], ⟨hK.1, fun q hq => ?_⟩, fun W3 hW3 => .inr ⟨b, off, rfl, ?_, fun i u hu => ?_⟩⟩
    · rcases List.mem_append.1 hq with h | h
      · exact hK.2 q h
      · cases List.mem_singleton.1 h; exact hb
    · have := hW3.2 _ (.head _); exact lt_of_block this
    · rw [cell_same (w2 := w2) (by rw [hW3.2 _ (.head _)]; exact hb.symm)]; exact hc i u hu
theorem AnsV.g (h : AnsV W l e w2) (hW : KS W0 K W) : ∃ v K2, e = .returned v ∧ KS W0 K2 w2 ∧ AnsW W0 K l v K2 := by
  obtain ⟨q, d, h1, h2, h3, h4⟩ := h
  obtain ⟨T, a1, a3⟩ := ns_of' hW h4 h3
  exact ⟨_, _, h1, a1, q, d, T, rfl, h2, a3, rfl⟩
theorem Ans2.g (h : Ans2 W l m e w2) (hW : KS W0 K W) : ∃ v K2, e = .returned v ∧ KS W0 K2 w2 ∧ AnsW2 W0 K l m v K2 := by
  obtain ⟨q, d, q2, d2, h1, h2, h3, h4, h5, h6⟩ := h
  obtain ⟨T, a1, a3⟩ := ns_of' hW h6 h4
  obtain ⟨U, b1, b3⟩ := ns_of' a1 (Below.refl _ _) h5
  refine ⟨_, _, h1, b1, q, d, q2, d2, T ++ U, rfl, h2, h3, a3.mono (fun q hq => List.mem_append_left _ hq), b3.mono (fun q hq => List.mem_append_right _ hq), by rw [List.append_assoc]⟩
theorem ns_blk {g : Nat} {E : TypeId} {fr : Nat × Nat} : NS W0 (some ⟨g, 0, none⟩) l [(g, .cells (nums l).toArray E fr)] := fun W hW => by
  have hb := hW.2 _ (.head _)
  refine .inr ⟨g, 0, rfl, lt_of_block hb, fun i u hu => ?_⟩
  rw [Nat.zero_add, cell_of_row W g i _ _ fr hb]
  simpa using hu
theorem own_snoc {E : TypeId} {v : Value} {n d : Nat} (h : OwnL W0 E 1 v n (nums l ++ [.int .i64 ((d : Nat) : Int)]) K) : OwnL W0 E 1 v n (nums (l ++ [d])) K := by
  rw [nums_app]; exact h
theorem own_snocZ {E : TypeId} {v : Value} {n : Nat} {z : Int} (h : OwnL W0 E 1 v n (nums l ++ [.int .i64 z]) K) (hz : 0 ≤ z) : OwnL W0 E 1 v n (nums (l ++ [z.toNat])) K := by
  rw [nums_app]
  have e : ((z.toNat : Nat) : Int) = z := Int.toNat_of_nonneg hz
  simp only [nums, List.map_cons, List.map_nil, e]
  exact h
theorem own_len {E : TypeId} {v : Value} {n : Nat} (h : OwnL W0 E 1 v n (nums l) K) : l.length = n := by rw [← nums_len]; exact own_ncap h
theorem ret_sl {p : Option Addr} {a b c : Nat} (h : a = b) : Ending.returned (.slice p a c) = Ending.returned (.slice p b c) := by rw [h]
end
section
variable {P : Program} {W0 : Base}
theorem st_to {o : Oper} {a : Act} {K K' : List (Nat × Obj)} {ty t : TypeId} {x y : Operand} {g off : Nat} {cs cs' : Array Value} {fr : Nat × Nat} {v : Value} (hc' : cs.setIfInBounds off v = cs') (ho : o.op = .store ty x y) (hx : a.eval x = .pointer (some ⟨g, off, none⟩)) (hv : a.eval y = v)
    (hm : (g, .cells cs t fr) ∈ K) (hB : W0.B ≤ g) (hi : (P.info? ty).map (·.size) = some 1) (hvc : v.cells = #[v]) (h1 : v.oneCell' = true) (hfit : off < cs.size) (hfr : cs.size ≤ fr.1 ∨ fr.2 = 0)
    (hK : ∀ p ∈ K', p = (g, .cells cs' t fr) ∨ (p ∈ K ∧ p.1 ≠ g)) : ∀ w, KS W0 K w → ∃ w', (execOp a.eval o).run P w = .ok .skip w' ∧ KS W0 K' w' := by
  subst hc'
  exact st_at ho hx hv hm hB hi hvc h1 hfit hfr hK
theorem st_all {o : Oper} {a : Act} {K K' : List (Nat × Obj)} {ty t : TypeId} {x y : Operand} {g : Nat} {cs cs' : Array Value} (hs : cs.size = cs'.size) (h1 : ∀ x ∈ cs'.toList, x.oneCell' = true) (ho : o.op = .store ty x y) (hx : a.eval x = .pointer (some ⟨g, 0, none⟩)) (hv : a.eval y = .agg cs')
    (hm : (g, .cells cs t (0, 0)) ∈ K) (hB : W0.B ≤ g) (hi : (P.info? ty).map (·.size) = some cs'.size)
    (hK : ∀ p ∈ K', p = (g, .cells cs' t (0, 0)) ∨ (p ∈ K ∧ p.1 ≠ g)) : ∀ w, KS W0 K w → ∃ w', (execOp a.eval o).run P w = .ok .skip w' ∧ KS W0 K' w' := by
  refine st_row ho hx hv hm hB hi (by show 0 + cs'.size ≤ cs.size; omega) h1 ?_ hK
  show cs' = (cs.toList.take 0 ++ cs'.toList ++ cs.toList.drop (0 + cs'.toList.length)).toArray
  rw [List.take_zero, List.nil_append, Nat.zero_add, List.drop_of_length_le (by simp; omega), List.append_nil]
theorem yb_all {o : Oper} {a : Act} {K : List (Nat × Obj)} {ty t : TypeId} {x : Operand} {g : Nat} {cur : Array Value} {fr : Nat × Nat} {d : TypeDesc} (ho : o.op = .load ty x) (hx : a.eval x = .pointer (some ⟨g, 0, none⟩))
    (hm : (g, .cells cur t fr) ∈ K) (hu : P.underlying ty = some d) (hd : aggD d = true) (hi : (P.info? ty).map (·.size) = some cur.size) :
    ∀ w, KS W0 K w → ∀ K' : Act → World → Prop, (∀ w', Below w.heap.size w w' → K' (a.put o.dst (.agg cur)) w') → Oper.wp P o a w K' (fun _ _ _ => False) :=
  yb_cells (cs := cur.toList) ho hx hm (fun j v hj => by rw [Nat.zero_add]; simpa using hj) hu hd (by simpa using hi)
theorem un_neg {k : IntKind} {x z : Int} (h : -x = z) (hw : k.wrap z = z) (w : World) : (Op.unary .neg (.int k x) : Sem Value).run P w = .ok (.int k z) w := by
  subst h
  simp [Op.unary, Op.intArith, Int.zero_sub, hw]
theorem run_minN {o : Oper} {a : Act} {x y : Nat} {px py : Operand} {k : IntKind} {tt : Array TypeId} (ho : o.op = .call { callee := .builtin .min, args := #[px, py], argTypes := tt }) (hx : a.eval px = .int k ((x : Nat) : Int)) (hy : a.eval py = .int k ((y : Nat) : Int)) (w : World) : (execOp a.eval o).run P w = .ok (.value (.int k ((min x y : Nat) : Int))) w := by
  unfold execOp
  rw [ho]
  have h := run_min_int2 (P := P) w tt o.type k k x y
  simp only [resolve, invoke, builtin, Sem.run_bind, Sem.run_pure, Result.andThen_ok, List.map_toArray, List.map_cons, List.map_nil, hx, hy, h]
  congr 2
  simp only [Nat.min_def]
  split <;> split <;> first | rfl | (exfalso; omega)
theorem nums_set (l : List Nat) (i x : Nat) : (nums l).toArray.setIfInBounds (0 + i * 1) (.int .i64 ((x : Nat) : Int)) = (nums (l.set i x)).toArray := by
  rw [Nat.zero_add, Nat.mul_one, List.setIfInBounds_toArray]
  simp [nums, List.map_set]
end
end Tw
namespace Go.Proofs.YtalmflgkbmnghaaDoor
open Go Go.RowKit Tw
theorem div_none {a b : Nat} (h : a < b) : a / b = 0 ∧ a % b = a := ⟨Nat.div_eq_of_lt h, Nat.mod_eq_of_lt h⟩
theorem div_len {a b : Nat} (h : ¬ a < b) : (cd b).length ≤ (cd a).length := cd_le.2 (Nat.lt_of_le_of_lt (Nat.le_of_not_lt h) (cd_hi a))
theorem cd_drop_ok {a i : Nat} : dOk ((cd a).drop i) := (cd_ok a).drop i
theorem start_lt {a b i : Nat} (hb : 0 < b) (hi : (cd a).length - i ≤ (cd b).length - 1) : dv ((cd a).drop i) < b :=
  Nat.lt_of_lt_of_le (drop_lt (cd_ok a) i _ hi) (low_pow hb)
theorem rep_drop (n i : Nat) : dv ((List.replicate n 0).drop i) = 0 := by
  rw [List.drop_replicate]
  induction n - i with
  | zero => rfl
  | succ k ih => rw [List.replicate_succ, dv, ih]
theorem div_bounds {x b n t lo hi : Nat} (hn : (cd b).length = n) (hn0 : 0 < n) (ht : (cd b)[n - 1]? = some t) (hlo : x / 65536 ^ (n - 1) / (t + 1) = lo) (hhi : min (x / 65536 ^ (n - 1) / t) 65535 = hi) (hq : x / b < 65536) (hb : 0 < b) : lo ≤ x / b ∧ x / b ≤ hi ∧ 0 < t := by
  obtain ⟨m, rfl⟩ : ∃ m, n = m + 1 := ⟨n - 1, by omega⟩
  rw [Nat.add_sub_cancel] at *
  obtain ⟨h1, h2, h3⟩ := top_digit hn ht
  refine ⟨(Nat.le_div_iff_mul_le hb).2 (top_low h3 hlo), ?_, h1⟩
  have h4 := top_high (x := x) (Nat.pow_pos (by omega : 0 < 65536) (n := m)) h1 h2
  rw [← hhi]
  omega
theorem cd_pos' {b : Nat} (h : 0 < (cd b).length) : 0 < b := by
  rcases Nat.eq_zero_or_pos b with rfl | h0
  · simp [cd_zero] at h
  · exact h0
theorem div_x {x r b n : Nat} (hx : x < 65536) (hr : r < b) (hn : (cd b).length = n) (hn0 : 0 < n) : (cd (x + 65536 * r)).length ≤ n - 1 + 2 := by
  rw [cd_le]
  have h1 := cd_hi b
  rw [hn] at h1
  have h2 : 65536 * (r + 1) ≤ 65536 * 65536 ^ n := Nat.mul_le_mul_left _ (by omega)
  rw [show n - 1 + 2 = n + 1 from by omega, Nat.pow_succ, Nat.mul_comm (65536 ^ n)]
  omega
theorem top_step {x n k tp y : Nat} (h : tp = dv ((cd x).drop (k + 1))) (hy : (cd x)[k]? = some y) : tp * 65536 + y = dv ((cd x).drop k) := by
  rw [dv_drop hy, h]; omega
theorem top_small {x n k : Nat} (h : (cd x).length ≤ n + 2) (hk : n ≤ k) : dv ((cd x).drop k) < 4294967296 :=
  Nat.lt_of_lt_of_le (drop_lt (cd_ok x) k 2 (by omega)) (by decide)
theorem top_end {x n tp : Nat} (h : (cd x).length ≤ n + 2) (ht : tp = dv ((cd x).drop n)) : tp = x / 65536 ^ n := top_val h ht
theorem drop_big {l : List Nat} {k : Nat} (h : l.length ≤ k) : dv (l.drop k) = 0 := by rw [List.drop_of_length_le h]; rfl
theorem cd_drop (a : Nat) : ∀ i, (cd a).drop i = cd (dv ((cd a).drop i))
  | 0 => by rw [List.drop_zero, dv_cd]
  | i + 1 => by
    rcases Nat.eq_zero_or_pos a with rfl | h
    · simp [cd_zero, dv]
    · rw [cd_pos h, List.drop_succ_cons]
      exact cd_drop (a / 65536) i
termination_by i => i
end Go.Proofs.YtalmflgkbmnghaaDoor
namespace Go.Proofs.YtalmflgkbmnghaaDoor
open Go Go.RowKit Tw
theorem el_int : Elem Tryd.prog 51 3 1 8 (.int .i64 0) := Elem.mk' Tryd.underlying51 (by kernel_rfl) rfl
theorem ans_end {w w2 : World} {E : TypeId} {v : Value} {i : Nat} {R L : List Nat} {K Kl : List (Nat × Obj)} (h : OwnL (w : Base) E 1 v i (nums R) Kl) (he : R = L) (hW : KS (w : Base) K w2) (hs : ∀ p ∈ Kl, p ∈ K) : Ans w L (.returned v) w2 := by
  subst he
  have e := own_len h
  obtain ⟨p, c, rfl, h1, h2, h3⟩ := own_ns h
  subst e
  exact ⟨p, c, rfl, h1, h3 w2 w2 (hW.sub hs) rfl (Below.refl _ _), hW.1⟩
theorem less_none {a b k : Nat} (hk : k = 0) (hE : (cd a).drop k = (cd b).drop k) : false = decide (a < b) := by
  subst hk
  simp only [List.drop_zero] at hE
  have h := congrArg dv hE
  rw [dv_cd, dv_cd] at h
  rw [h]; simp
theorem bool_is {b c : Bool} (h : b = c) : Ending.returned (.bool b) = .returned (.bool c) := by rw [h]
def lenOf : Value → Nat
  | .slice _ n _ => n
  | _ => 0
set_option maxRecDepth 100000 in
set_option maxHeartbeats 4000000 in
theorem trim_any (L : List Nat) (n m : Nat) (p : Option Addr) (c : Nat) (hL : dOk L) (hv : dv L = n) (hm : m = L.length) (hmc : m ≤ c) (hml : m ≤ 4000000000) (w : World) (hp : SLV w p (nums L)) : Calls Tryd.prog 66 #[.slice p m c] w fun e w' => e = .returned (.slice p (cd n).length c) ∧ Below w.heap.size w w' := by
  have HP : NS (w : Base) p L [] := NS.base hp
  clear hp
  go_enter Tryd.func66, Tryd.ntmps66
  refine wp_seq ?_
  refine wp_region_L (W0 := w) [] (KS.start w) ?_
  refine Tw.lm (v := .slice none 0 0) rfl rfl ?_
  refine wpL_done (fun W1 hW1 => ?_)
  refine (show Code.wp _ _ _ _ _ from ?_)
  refine wp_seq ?_
  refine wp_block ?_
  go_loopw [0] (fun u0 wr => ∃ (k : Nat), (k ≤ L.length) ∧ (dv (L.take k) = n) ∧ u0 = .slice p k c ∧ KS w [] wr) (fun u0 _ => lenOf u0)
  case atStart => exact ⟨m, (by omega), (by rw [hm, List.take_length]; exact hv), rfl, (hW1.sub (fun p hp => by first | exact hp | (simp only [List.mem_cons, List.mem_append, List.nil_append, List.not_mem_nil, or_assoc, or_false, false_or, List.cons_append, List.append_assoc] at hp ⊢ <;> grind)))⟩
  case round =>
    obtain ⟨k, hk, hk2, rfl, hL2⟩ := hrel
    refine wp_seq ?_
    refine wp_seq ?_
    refine wp_region_L (W0 := w) [] (hL2) ?_
    refine Tw.lm (v := .slice p k c) rfl rfl ?_
    refine Tw.lp (v := .int .i64 ((k : Nat) : Int)) rfl rfl (run_lenL (p := p) (cap := c) (n := k) rfl Tryd.underlying51 (by kernel_rfl)) ?_
    refine Tw.lp (v := .bool (decide (0 < k))) rfl rfl (run_bin rfl (vx := (.int .i64 ((k : Nat) : Int))) (vy := (.int .i64 ((0 : Nat) : Int))) (by kernel_rfl) (by kernel_rfl) fun w => bn_gtr rfl w) ?_
    refine Tw.lm (v := .bool (decide (0 < k))) rfl rfl ?_
    cases hd1 : (decide (0 < k)) with
    | false =>
      have h1 : ¬ (0 < k) := of_decide_eq_false hd1
      clear hd1
      refine Tw.ln rfl ?_
      refine Tw.ln rfl ?_
      refine Tw.ln rfl ?_
      refine Tw.ln rfl ?_
      refine Tw.ln rfl ?_
      refine Tw.ln rfl ?_
      refine Tw.ln rfl ?_
      refine Tw.lm (v := .bool false) rfl rfl ?_
      refine wpL_done (fun W3 hW3 => ?_)
      refine (show Code.wp _ _ _ _ _ from ?_)
      refine wp_cond_false rfl ?_
      refine wp_exit ?_
      refine (show Code.wp _ _ _ _ _ from ?_)
      refine wp_seq ?_
      refine wp_region_L (W0 := w) [] (hW3) ?_
      refine Tw.lm (v := .slice p k c) rfl rfl ?_
      refine Tw.lm (v := .slice p k c) rfl rfl ?_
      refine wpL_done (fun W4 hW4 => ?_)
      refine (show Code.wp _ _ _ _ _ from ?_)
      refine wp_ret ?_
      try simp only [inBlock_ret, then_ret]
      refine bodyPost_ret (v := .slice p k c) ?_ rfl ?_
      · kernel_rfl
      · exact ⟨(ret_sl (by rw [← hv, ← cd_trim hL hk (hk2.trans hv.symm) (fun h => absurd h h1), List.length_take, Nat.min_eq_left hk])), hW4.1⟩
    | true =>
      have h1 : 0 < k := of_decide_eq_true hd1
      clear hd1
      refine Tw.lm (v := .slice p k c) rfl rfl ?_
      refine Tw.lm (v := .slice p k c) rfl rfl ?_
      refine Tw.lp (v := .int .i64 ((k : Nat) : Int)) rfl rfl (run_lenL (p := p) (cap := c) (n := k) rfl Tryd.underlying51 (by kernel_rfl)) ?_
      refine Tw.lp (v := .int .i64 (((k - 1) : Nat) : Int)) rfl rfl (run_bin rfl (vx := (.int .i64 ((k : Nat) : Int))) (vy := (.int .i64 ((1 : Nat) : Int))) (by kernel_rfl) (by kernel_rfl) fun w => bn_sub (z := (k - 1)) rfl (by omega) (wr_i64 (by omega)) w) ?_
      obtain ⟨b1, f1, hp1, hc1⟩ := (HP.mono (fun q hq => by first | exact hq | (simp only [List.mem_cons, List.mem_append, List.nil_append, List.not_mem_nil, or_assoc, or_false, false_or] at hq ⊢ <;> grind))).at hL2 (k := (k - 1)) (by omega)
      refine Tw.lp (v := .pointer (some ⟨b1, f1 + (k - 1) * 1, none⟩)) rfl rfl (run_idxQ (p := p) (cap := c) (n := k) (j := .i64) (k := (k - 1)) (sz := 1) rfl Tryd.underlying51 (by kernel_rfl) (by kernel_rfl) hp1 (by kernel_rfl) (by omega)) ?_
      obtain ⟨x2, hx2⟩ : ∃ x, (L : List Nat)[(k - 1)]? = some x := ⟨_, List.getElem?_eq_getElem (by omega)⟩
      refine Tw.lv (v := .int .i64 ((x2 : Nat) : Int)) rfl rfl (yb_ns (off := f1 + (k - 1) * 1) rfl (by kernel_rfl) (fun W hW => hc1 W (hW.sub (fun q hq => by first | exact hq | (simp only [List.mem_cons, List.mem_append, List.nil_append, List.not_mem_nil, or_assoc, or_false, false_or] at hq ⊢ <;> grind))) _ _ hx2) Tryd.underlying3 rfl) ?_
      refine Tw.lp (v := .bool (decide (x2 = 0))) rfl rfl (run_bin rfl (vx := (.int .i64 ((x2 : Nat) : Int))) (vy := (.int .i64 ((0 : Nat) : Int))) (by kernel_rfl) (by kernel_rfl) fun w => bn_eql rfl w) ?_
      refine Tw.lm (v := .bool (decide (x2 = 0))) rfl rfl ?_
      refine wpL_done (fun W5 hW5 => ?_)
      refine (show Code.wp _ _ _ _ _ from ?_)
      cases hd2 : (decide (x2 = 0)) with
      | false =>
        have h2 : ¬ (x2 = 0) := of_decide_eq_false hd2
        clear hd2
        refine wp_cond_false rfl ?_
        refine wp_exit ?_
        refine (show Code.wp _ _ _ _ _ from ?_)
        refine wp_seq ?_
        refine wp_region_L (W0 := w) [] (hW5) ?_
        refine Tw.lm (v := .slice p k c) rfl rfl ?_
        refine Tw.lm (v := .slice p k c) rfl rfl ?_
        refine wpL_done (fun W6 hW6 => ?_)
        refine (show Code.wp _ _ _ _ _ from ?_)
        refine wp_ret ?_
        try simp only [inBlock_ret, then_ret]
        refine bodyPost_ret (v := .slice p k c) ?_ rfl ?_
        · kernel_rfl
        · exact ⟨(ret_sl (by rw [← hv, ← cd_trim hL hk (hk2.trans hv.symm) (fun _ => ⟨_, hx2, h2⟩), List.length_take, Nat.min_eq_left hk])), hW6.1⟩
      | true =>
        have h2 : x2 = 0 := of_decide_eq_true hd2
        clear hd2
        refine wp_cond_true rfl ?_
        refine wp_skip ?_
        refine (show Code.wp _ _ _ _ _ from ?_)
        refine wp_block ?_
        refine wp_region_L (W0 := w) [] (hW5) ?_
        refine Tw.lm (v := .slice p k c) rfl rfl ?_
        refine Tw.lm (v := .slice p k c) rfl rfl ?_
        refine Tw.lp (v := .int .i64 ((k : Nat) : Int)) rfl rfl (run_lenL (p := p) (cap := c) (n := k) rfl Tryd.underlying51 (by kernel_rfl)) ?_
        refine Tw.lp (v := .int .i64 (((k - 1) : Nat) : Int)) rfl rfl (run_bin rfl (vx := (.int .i64 ((k : Nat) : Int))) (vy := (.int .i64 ((1 : Nat) : Int))) (by kernel_rfl) (by kernel_rfl) fun w => bn_sub (z := (k - 1)) rfl (by omega) (wr_i64 (by omega)) w) ?_
        refine Tw.lp (v := .slice p (k - 1) c) rfl rfl (run_cutH (p := p) (n := k) (c := c) (j := (k - 1)) (k2 := .i64) (sz := 1) rfl Tryd.underlying51 (by kernel_rfl) (by kernel_rfl) (by kernel_rfl) (by omega)) ?_
        refine Tw.lm (v := .slice p (k - 1) c) rfl rfl ?_
        refine wpL_done (fun W7 hW7 => ?_)
        go_roundw
        case rel =>
          repeat apply Exists.intro
          exact ⟨⟨k - 1, (by omega), ((dv_zero (by omega) (by have := h2; subst this; exact hx2)).trans hk2), rfl, (hW7.sub (fun p hp => by first | exact hp | (simp only [List.mem_cons, List.mem_append, List.nil_append, List.not_mem_nil, or_assoc, or_false, false_or, List.cons_append, List.append_assoc] at hp ⊢ <;> grind)))⟩, rfl⟩
        case measure => (show lenOf (.slice p (k - 1) c) < lenOf (.slice p k c)); simp only [lenOf]; omega
set_option maxRecDepth 100000 in
set_option maxHeartbeats 4000000 in
theorem less_any (a b : Nat) (p q : Option Addr) (c d : Nat) (la : (cd a).length ≤ 4000000000) (w : World) (hp : SLV w p (nums (cd a))) (hq : SLV w q (nums (cd b))) : Calls Tryd.prog 65 #[.slice p (cd a).length c, .slice q (cd b).length d] w fun e w' => e = .returned (.bool (decide (a < b))) ∧ Below w.heap.size w w' := by
  have HP : NS (w : Base) p (cd a) [] := NS.base hp
  have HQ : NS (w : Base) q (cd b) [] := NS.base hq
  clear hp hq
  go_enter Tryd.func65, Tryd.ntmps65
  refine wp_seq ?_
  refine wp_region_L (W0 := w) [] (KS.start w) ?_
  refine Tw.lm (v := .bool false) rfl rfl ?_
  refine wpL_done (fun W1 hW1 => ?_)
  refine (show Code.wp _ _ _ _ _ from ?_)
  refine wp_seq ?_
  refine wp_seq ?_
  refine wp_region_L (W0 := w) [] (hW1) ?_
  refine Tw.lm (v := .slice p ((cd a).length) c) rfl rfl ?_
  refine Tw.lp (v := .int .i64 ((((cd a).length) : Nat) : Int)) rfl rfl (run_lenL (p := p) (cap := c) (n := ((cd a).length)) rfl Tryd.underlying51 (by kernel_rfl)) ?_
  refine Tw.lm (v := .slice q ((cd b).length) d) rfl rfl ?_
  refine Tw.lp (v := .int .i64 ((((cd b).length) : Nat) : Int)) rfl rfl (run_lenL (p := q) (cap := d) (n := ((cd b).length)) rfl Tryd.underlying51 (by kernel_rfl)) ?_
  refine Tw.lp (v := .bool (!(decide (((cd a).length) = ((cd b).length))))) rfl rfl (run_bin rfl (vx := (.int .i64 ((((cd a).length) : Nat) : Int))) (vy := (.int .i64 ((((cd b).length) : Nat) : Int))) (by kernel_rfl) (by kernel_rfl) fun w => bn_neq rfl w) ?_
  refine wpL_done (fun W2 hW2 => ?_)
  refine (show Code.wp _ _ _ _ _ from ?_)
  cases hd1 : (decide (((cd a).length) = ((cd b).length))) with
  | false =>
    have h1 : ¬ (((cd a).length) = ((cd b).length)) := of_decide_eq_false hd1
    clear hd1
    refine wp_cond_true rfl ?_
    refine wp_seq ?_
    refine wp_region_L (W0 := w) [] (hW2) ?_
    refine Tw.lm (v := .slice p ((cd a).length) c) rfl rfl ?_
    refine Tw.lp (v := .int .i64 ((((cd a).length) : Nat) : Int)) rfl rfl (run_lenL (p := p) (cap := c) (n := ((cd a).length)) rfl Tryd.underlying51 (by kernel_rfl)) ?_
    refine Tw.lm (v := .slice q ((cd b).length) d) rfl rfl ?_
    refine Tw.lp (v := .int .i64 ((((cd b).length) : Nat) : Int)) rfl rfl (run_lenL (p := q) (cap := d) (n := ((cd b).length)) rfl Tryd.underlying51 (by kernel_rfl)) ?_
    refine Tw.lp (v := .bool (decide (((cd a).length) < ((cd b).length)))) rfl rfl (run_bin rfl (vx := (.int .i64 ((((cd a).length) : Nat) : Int))) (vy := (.int .i64 ((((cd b).length) : Nat) : Int))) (by kernel_rfl) (by kernel_rfl) fun w => bn_lss rfl w) ?_
    refine Tw.lm (v := .bool (decide (((cd a).length) < ((cd b).length)))) rfl rfl ?_
    refine wpL_done (fun W3 hW3 => ?_)
    refine (show Code.wp _ _ _ _ _ from ?_)
    refine wp_ret ?_
    try simp only [inBlock_ret, then_ret]
    refine bodyPost_ret (v := .bool (decide (((cd a).length) < ((cd b).length)))) ?_ rfl ?_
    · kernel_rfl
    · exact ⟨(bool_is (less_len h1)), hW3.1⟩
  | true =>
    have h1 : ((cd a).length) = ((cd b).length) := of_decide_eq_true hd1
    clear hd1
    refine wp_cond_false rfl ?_
    refine wp_skip ?_
    refine (show Code.wp _ _ _ _ _ from ?_)
    refine wp_seq ?_
    refine wp_seq ?_
    refine wp_region_L (W0 := w) [] (hW2) ?_
    refine Tw.lm (v := .slice p ((cd a).length) c) rfl rfl ?_
    refine Tw.lp (v := .int .i64 ((((cd a).length) : Nat) : Int)) rfl rfl (run_lenL (p := p) (cap := c) (n := ((cd a).length)) rfl Tryd.underlying51 (by kernel_rfl)) ?_
    refine Tw.lp (v := .int .i64 (((((cd a).length) : Nat) : Int) - 1)) rfl rfl (run_bin rfl (vx := (.int .i64 ((((cd a).length) : Nat) : Int))) (vy := (.int .i64 ((1 : Nat) : Int))) (by kernel_rfl) (by kernel_rfl) fun w => bi_sub (z := (((((cd a).length) : Nat) : Int) - 1)) rfl (wi_i64 (by omega)) w) ?_
    refine Tw.lm (v := .int .i64 (((((cd a).length) : Nat) : Int) - 1)) rfl rfl ?_
    refine wpL_done (fun W4 hW4 => ?_)
    refine (show Code.wp _ _ _ _ _ from ?_)
    refine wp_block ?_
    go_loopw [5] (fun u5 wr => ∃ (z : Int) (k : Nat), (z = (k : Int) - 1) ∧ (k ≤ (cd a).length) ∧ ((cd a).drop k = (cd b).drop k) ∧ u5 = .int .i64 z ∧ KS w [] wr) (fun u5 _ => (intOf u5 + 1).toNat)
    case atStart => exact ⟨((((cd a).length : Nat) : Int) - 1), (cd a).length, rfl, (Nat.le_refl _), (by rw [List.drop_length, h1, List.drop_length]), rfl, (hW4.sub (fun p hp => by first | exact hp | (simp only [List.mem_cons, List.mem_append, List.nil_append, List.not_mem_nil, or_assoc, or_false, false_or, List.cons_append, List.append_assoc] at hp ⊢ <;> grind)))⟩
    case round =>
      obtain ⟨z, k, hz, hk, hE, rfl, hL5⟩ := hrel
      refine wp_seq ?_
      refine wp_seq ?_
      refine wp_region_L (W0 := w) [] (hL5) ?_
      refine Tw.lm (v := .int .i64 z) rfl rfl ?_
      refine Tw.lp (v := .bool (!(decide (z < 0)))) rfl rfl (run_bin rfl (vx := (.int .i64 z)) (vy := (.int .i64 0)) (by kernel_rfl) (by kernel_rfl) fun w => bi_geq rfl w) ?_
      refine wpL_done (fun W6 hW6 => ?_)
      refine (show Code.wp _ _ _ _ _ from ?_)
      cases hd2 : (decide (z < 0)) with
      | false =>
        have h2 : ¬ (z < 0) := of_decide_eq_false hd2
        clear hd2
        obtain ⟨j, rfl⟩ := Int.eq_ofNat_of_zero_le (show 0 ≤ z by omega)
        refine wp_cond_true rfl ?_
        refine wp_skip ?_
        refine (show Code.wp _ _ _ _ _ from ?_)
        refine wp_seq ?_
        refine wp_block ?_
        refine wp_seq ?_
        refine wp_region_V (W0 := w) [] (by kernel_rfl) (hW6) ?_
        refine vm (i := 0) (v := .slice p ((cd a).length) c) rfl rfl rfl ?_
        refine vm (i := 1) (v := .int .i64 ((j : Nat) : Int)) rfl rfl rfl ?_
        obtain ⟨b1, f1, hp1, hc1⟩ := (HP.mono (fun q hq => by first | exact hq | (simp only [List.mem_cons, List.mem_append, List.nil_append, List.not_mem_nil, or_assoc, or_false, false_or] at hq ⊢ <;> grind))).at hW6 (k := j) (by omega)
        refine vp (i := 2) (v := .pointer (some ⟨b1, f1 + j * 1, none⟩)) rfl rfl rfl (run_idxQ (p := p) (cap := c) (n := ((cd a).length)) (j := .i64) (k := j) (sz := 1) rfl Tryd.underlying51 (by kernel_rfl) (by kernel_rfl) hp1 (by kernel_rfl) (by omega)) ?_
        obtain ⟨x2, hx2⟩ : ∃ x, ((cd a) : List Nat)[j]? = some x := ⟨_, List.getElem?_eq_getElem (by omega)⟩
        have lx2 : x2 < 65536 := dOk.at (cd_ok a) hx2
        refine vv (i := 3) (v := .int .i64 ((x2 : Nat) : Int)) rfl rfl rfl (yb_ns (off := f1 + j * 1) rfl (by kernel_rfl) (fun W hW => hc1 W (hW.sub (fun q hq => by first | exact hq | (simp only [List.mem_cons, List.mem_append, List.nil_append, List.not_mem_nil, or_assoc, or_false, false_or] at hq ⊢ <;> grind))) _ _ hx2) Tryd.underlying3 rfl) ?_
        refine vm (i := 4) (v := .slice q ((cd b).length) d) rfl rfl rfl ?_
        refine vm (i := 5) (v := .int .i64 ((j : Nat) : Int)) rfl rfl rfl ?_
        obtain ⟨b3, f3, hp3, hc3⟩ := (HQ.mono (fun q hq => by first | exact hq | (simp only [List.mem_cons, List.mem_append, List.nil_append, List.not_mem_nil, or_assoc, or_false, false_or] at hq ⊢ <;> grind))).at hW6 (k := j) (by omega)
        refine vp (i := 6) (v := .pointer (some ⟨b3, f3 + j * 1, none⟩)) rfl rfl rfl (run_idxQ (p := q) (cap := d) (n := ((cd b).length)) (j := .i64) (k := j) (sz := 1) rfl Tryd.underlying51 (by kernel_rfl) (by kernel_rfl) hp3 (by kernel_rfl) (by omega)) ?_
        obtain ⟨x4, hx4⟩ : ∃ x, ((cd b) : List Nat)[j]? = some x := ⟨_, List.getElem?_eq_getElem (by omega)⟩
        have lx4 : x4 < 65536 := dOk.at (cd_ok b) hx4
        refine vv (i := 7) (v := .int .i64 ((x4 : Nat) : Int)) rfl rfl rfl (yb_ns (off := f3 + j * 1) rfl (by kernel_rfl) (fun W hW => hc3 W (hW.sub (fun q hq => by first | exact hq | (simp only [List.mem_cons, List.mem_append, List.nil_append, List.not_mem_nil, or_assoc, or_false, false_or] at hq ⊢ <;> grind))) _ _ hx4) Tryd.underlying3 rfl) ?_
        refine vp (i := 8) (v := .bool (!(decide (x2 = x4)))) rfl rfl rfl (run_bin rfl (vx := (.int .i64 ((x2 : Nat) : Int))) (vy := (.int .i64 ((x4 : Nat) : Int))) (by kernel_rfl) (by kernel_rfl) fun w => bn_neq rfl w) ?_
        refine wpV_done (by kernel_rfl) (fun W7 hW7 => ?_) _
        refine (show Code.wp _ _ _ _ _ from ?_)
        cases hd3 : (decide (x2 = x4)) with
        | false =>
          have h3 : ¬ (x2 = x4) := of_decide_eq_false hd3
          clear hd3
          refine wp_cond_true rfl ?_
          refine wp_seq ?_
          refine wp_region_V (W0 := w) [] (by kernel_rfl) (hW7) ?_
          refine vm (i := 0) (v := .slice p ((cd a).length) c) rfl rfl rfl ?_
          refine vm (i := 1) (v := .int .i64 ((j : Nat) : Int)) rfl rfl rfl ?_
          refine vp (i := 2) (v := .pointer (some ⟨b1, f1 + j * 1, none⟩)) rfl rfl rfl (run_idxQ (p := p) (cap := c) (n := ((cd a).length)) (j := .i64) (k := j) (sz := 1) rfl Tryd.underlying51 (by kernel_rfl) (by kernel_rfl) hp1 (by kernel_rfl) (by omega)) ?_
          refine vv (i := 3) (v := .int .i64 ((x2 : Nat) : Int)) rfl rfl rfl (yb_ns (off := f1 + j * 1) rfl (by kernel_rfl) (fun W hW => hc1 W (hW.sub (fun q hq => by first | exact hq | (simp only [List.mem_cons, List.mem_append, List.nil_append, List.not_mem_nil, or_assoc, or_false, false_or] at hq ⊢ <;> grind))) _ _ hx2) Tryd.underlying3 rfl) ?_
          refine vm (i := 4) (v := .slice q ((cd b).length) d) rfl rfl rfl ?_
          refine vm (i := 5) (v := .int .i64 ((j : Nat) : Int)) rfl rfl rfl ?_
          refine vp (i := 6) (v := .pointer (some ⟨b3, f3 + j * 1, none⟩)) rfl rfl rfl (run_idxQ (p := q) (cap := d) (n := ((cd b).length)) (j := .i64) (k := j) (sz := 1) rfl Tryd.underlying51 (by kernel_rfl) (by kernel_rfl) hp3 (by kernel_rfl) (by omega)) ?_
          refine vv (i := 7) (v := .int .i64 ((x4 : Nat) : Int)) rfl rfl rfl (yb_ns (off := f3 + j * 1) rfl (by kernel_rfl) (fun W hW => hc3 W (hW.sub (fun q hq => by first | exact hq | (simp only [List.mem_cons, List.mem_append, List.nil_append, List.not_mem_nil, or_assoc, or_false, false_or] at hq ⊢ <;> grind))) _ _ hx4) Tryd.underlying3 rfl) ?_
          refine vp (i := 8) (v := .bool (decide (x2 < x4))) rfl rfl rfl (run_bin rfl (vx := (.int .i64 ((x2 : Nat) : Int))) (vy := (.int .i64 ((x4 : Nat) : Int))) (by kernel_rfl) (by kernel_rfl) fun w => bn_lss rfl w) ?_
          refine vm (i := 9) (v := .bool (decide (x2 < x4))) rfl rfl rfl ?_
          refine wpV_done (by kernel_rfl) (fun W8 hW8 => ?_) _
          refine (show Code.wp _ _ _ _ _ from ?_)
          refine wp_ret ?_
          try simp only [inBlock_ret, then_ret]
          refine bodyPost_ret (v := .bool (decide (x2 < x4))) ?_ rfl ?_
          · kernel_rfl
          · exact ⟨(bool_is ((less_at (cd_ok a) (cd_ok b) hx2 hx4 h3 (by rw [show j + 1 = k from by omega]; exact hE)).trans (by rw [dv_cd, dv_cd]))), hW8.1⟩
        | true =>
          have h3 : x2 = x4 := of_decide_eq_true hd3
          clear hd3
          refine wp_cond_false rfl ?_
          refine wp_skip ?_
          refine (show Code.wp _ _ _ _ _ from ?_)
          refine wp_region_L (W0 := w) [] (hW7) ?_
          refine Tw.lm (v := .int .i64 ((j : Nat) : Int)) rfl rfl ?_
          refine Tw.lp (v := .int .i64 (((j : Nat) : Int) - 1)) rfl rfl (run_bin rfl (vx := (.int .i64 ((j : Nat) : Int))) (vy := (.int .i64 ((1 : Nat) : Int))) (by kernel_rfl) (by kernel_rfl) fun w => bi_sub (z := (((j : Nat) : Int) - 1)) rfl (wi_i64 (by omega)) w) ?_
          refine Tw.lm (v := .int .i64 (((j : Nat) : Int) - 1)) rfl rfl ?_
          refine wpL_done (fun W9 hW9 => ?_)
          go_roundw
          case rel =>
            repeat apply Exists.intro
            exact ⟨⟨(((j : Nat) : Int) - 1), j, rfl, (by omega), (drop_step hx2 (by rw [h3]; exact hx4) (by rw [show j + 1 = k from by omega]; exact hE)), rfl, (hW9.sub (fun p hp => by first | exact hp | (simp only [List.mem_cons, List.mem_append, List.nil_append, List.not_mem_nil, or_assoc, or_false, false_or, List.cons_append, List.append_assoc] at hp ⊢ <;> grind)))⟩, rfl⟩
          case measure => (show (intOf (.int .i64 (((j : Nat) : Int) - 1)) + 1).toNat < (intOf (.int .i64 ((j : Nat) : Int)) + 1).toNat); simp only [intOf]; omega
      | true =>
        have h2 : z < 0 := of_decide_eq_true hd2
        clear hd2
        refine wp_cond_false rfl ?_
        refine wp_exit ?_
        refine (show Code.wp _ _ _ _ _ from ?_)
        refine wp_seq ?_
        refine wp_region_L (W0 := w) [] (hW6) ?_
        refine Tw.lm (v := .bool false) rfl rfl ?_
        refine wpL_done (fun W10 hW10 => ?_)
        refine (show Code.wp _ _ _ _ _ from ?_)
        refine wp_ret ?_
        try simp only [inBlock_ret, then_ret]
        refine bodyPost_ret (v := .bool false) ?_ rfl ?_
        · kernel_rfl
        · exact ⟨(bool_is (less_none (k := k) (by omega) hE)), hW10.1⟩
end Go.Proofs.YtalmflgkbmnghaaDoor
namespace Go.Proofs.YtalmflgkbmnghaaDoor
open Go Go.RowKit Tw
theorem cd_pre {L : List Nat} {n : Nat} (hL : dOk L) (hv : dv L = n) : ∃ k, k ≤ L.length ∧ cd n = L.take k := by
  subst hv
  suffices h : ∀ k, k ≤ L.length → dv (L.take k) = dv L → ∃ j, j ≤ L.length ∧ cd (dv L) = L.take j from h L.length (Nat.le_refl _) (by rw [List.take_length])
  intro k
  induction k with
  | zero => intro h1 h2; exact ⟨0, h1, (cd_trim hL h1 h2 (fun h => absurd h (by omega))).symm⟩
  | succ k ih =>
    intro h1 h2
    obtain ⟨x, hx⟩ : ∃ x, L[k]? = some x := ⟨_, List.getElem?_eq_getElem (by omega)⟩
    by_cases h0 : x = 0
    · subst h0
      exact ih (by omega) ((dv_zero (k := k + 1) (by omega) hx).trans h2)
    · exact ⟨k + 1, h1, (cd_trim hL h1 h2 (fun _ => ⟨x, hx, h0⟩)).symm⟩
theorem ns_trim {W0 : Base} {p : Option Addr} {L : List Nat} {n : Nat} {K : List (Nat × Obj)} (h : NS W0 p L K) (hL : dOk L) (hv : dv L = n) : NS W0 p (cd n) K := by
  obtain ⟨k, _, e⟩ := cd_pre hL hv
  rw [e]
  exact h.take k
theorem cd_trim_le {L : List Nat} {n m : Nat} (hL : dOk L) (hv : dv L = n) (hm : m = L.length) : (cd n).length ≤ m := by
  obtain ⟨k, h, e⟩ := cd_pre hL hv
  rw [e, List.length_take]
  omega
theorem slf_trim {w w2 : World} {p : Option Addr} {L : List Nat} {n : Nat} (h : SLF w w2 p (nums L)) (hL : dOk L) (hv : dv L = n) : SLF w w2 p (nums (cd n)) := by
  obtain ⟨k, _, e⟩ := cd_pre hL hv
  rw [e, nums_take]
  exact h.take k
set_option maxRecDepth 100000 in
set_option maxHeartbeats 4000000 in
theorem scale_any (a b : Nat) (p : Option Addr) (c : Nat) (hb : b < 65536) (la : (cd a).length ≤ 100000) (w : World) (hp : SLV w p (nums (cd a))) : Calls Tryd.prog 67 #[.slice p (cd a).length c, .int .i64 ((b : Nat) : Int)] w fun e w' => Ans w (cd (a * b)) e w' := by
  have HP : NS (w : Base) p (cd a) [] := NS.base hp
  clear hp
  go_enter Tryd.func67, Tryd.ntmps67
  refine wp_seq ?_
  refine wp_region_L (W0 := w) [] (KS.start w) ?_
  refine Tw.lm (v := .slice none 0 0) rfl rfl ?_
  refine wpL_done (fun W1 hW1 => ?_)
  refine (show Code.wp _ _ _ _ _ from ?_)
  refine wp_seq ?_
  refine wp_region_L (W0 := w) [] (hW1) ?_
  refine Tw.lm (v := .slice none 0 0) rfl rfl ?_
  refine wpL_done (fun W2 hW2 => ?_)
  refine (show Code.wp _ _ _ _ _ from ?_)
  refine wp_seq ?_
  refine wp_region_L (W0 := w) [] (hW2) ?_
  refine Tw.lm (v := .int .i64 0) rfl rfl ?_
  refine wpL_done (fun W3 hW3 => ?_)
  refine (show Code.wp _ _ _ _ _ from ?_)
  refine wp_seq ?_
  refine wp_seq ?_
  refine wp_region_L (W0 := w) [] (hW3) ?_
  refine Tw.lm (v := .int .i64 0) rfl rfl ?_
  refine wpL_done (fun W4 hW4 => ?_)
  refine (show Code.wp _ _ _ _ _ from ?_)
  refine wp_block ?_
  go_loopw [7, 6, 5] (fun u7 u6 u5 wr => ∃ (i cy : Nat) (R : List Nat) (vo : Value) (Ko : List (Nat × Obj)), (OwnL (w : Base) 3 1 vo i (nums R) Ko) ∧ (ScI a b R i cy) ∧ (i ≤ (cd a).length ∨ (i = (cd a).length + 1 ∧ cy = 0)) ∧ u7 = .int .i64 ((i : Nat) : Int) ∧ u6 = .int .i64 ((cy : Nat) : Int) ∧ vo = u5 ∧ KS w Ko wr) (fun u7 _ _ _ => (cd a).length + 2 - (intOf u7).toNat)
  case atStart => exact ⟨0, 0, [], (.slice none 0 0), [], (OwnL.nil _ _ _), (ScI.start a b), (by omega), rfl, rfl, rfl, (hW4.sub (fun p hp => by first | exact hp | (simp only [List.mem_cons, List.mem_append, List.nil_append, List.not_mem_nil, or_assoc, or_false, false_or, List.cons_append, List.append_assoc] at hp ⊢ <;> grind)))⟩
  case round =>
    obtain ⟨i, cy, R, vo, Ko, hO, hI, hi, rfl, rfl, rfl, hL5⟩ := hrel
    have hcy := hI.c1
    refine wp_seq ?_
    refine wp_seq ?_
    refine wp_region_L (W0 := w) Ko (hL5) ?_
    refine Tw.lm (v := .int .i64 ((i : Nat) : Int)) rfl rfl ?_
    refine Tw.lm (v := .slice p ((cd a).length) c) rfl rfl ?_
    refine Tw.lp (v := .int .i64 ((((cd a).length) : Nat) : Int)) rfl rfl (run_lenL (p := p) (cap := c) (n := ((cd a).length)) rfl Tryd.underlying51 (by kernel_rfl)) ?_
    refine Tw.lp (v := .bool (decide (i < ((cd a).length)))) rfl rfl (run_bin rfl (vx := (.int .i64 ((i : Nat) : Int))) (vy := (.int .i64 ((((cd a).length) : Nat) : Int))) (by kernel_rfl) (by kernel_rfl) fun w => bn_lss rfl w) ?_
    refine Tw.lm (v := .bool (decide (i < ((cd a).length)))) rfl rfl ?_
    cases hd1 : (decide (i < ((cd a).length))) with
    | false =>
      have h1 : ¬ (i < ((cd a).length)) := of_decide_eq_false hd1
      clear hd1
      refine Tw.lm (v := .int .i64 ((cy : Nat) : Int)) rfl rfl ?_
      refine Tw.lp (v := .bool (decide (0 < cy))) rfl rfl (run_bin rfl (vx := (.int .i64 ((cy : Nat) : Int))) (vy := (.int .i64 ((0 : Nat) : Int))) (by kernel_rfl) (by kernel_rfl) fun w => bn_gtr rfl w) ?_
      refine Tw.lm (v := .bool (decide (0 < cy))) rfl rfl ?_
      refine wpL_done (fun W6 hW6 => ?_)
      refine (show Code.wp _ _ _ _ _ from ?_)
      cases hd2 : (decide (0 < cy)) with
      | false =>
        have h2 : ¬ (0 < cy) := of_decide_eq_false hd2
        clear hd2
        refine wp_cond_false rfl ?_
        refine wp_exit ?_
        refine (show Code.wp _ _ _ _ _ from ?_)
        refine wp_seq ?_
        have hcy0 : cy = 0 := by omega
        have hI0 : ScI a b R i 0 := by rw [← hcy0]; exact hI
        refine wp_region_L (W0 := w) Ko (hW6) ?_
        refine Tw.lm (v := vo) rfl rfl ?_
        obtain ⟨p2, c2, rfl, hc2, HN2, HF2⟩ := own_ns hO
        refine Tw.lv (v := .slice p2 ((cd (a * b)).length) c2) rfl rfl (yb_call (f := 66) (args := #[.slice p2 i c2]) (fun _ => by kernel_rfl) fun W hW => trim_any R (a * b) i p2 c2 hI.ok (hI0.end h1) (own_len hO).symm hc2 (by omega) W ((HN2.mono (fun q hq => by first | exact hq | (simp only [List.mem_cons, List.mem_append, List.nil_append, List.not_mem_nil, or_assoc, or_false, false_or] at hq ⊢ <;> grind))) W hW)) ?_
        refine Tw.lm (v := .slice p2 ((cd (a * b)).length) c2) rfl rfl ?_
        refine wpL_done (fun W7 hW7 => ?_)
        refine (show Code.wp _ _ _ _ _ from ?_)
        refine wp_ret ?_
        try simp only [inBlock_ret, then_ret]
        refine bodyPost_ret (v := .slice p2 ((cd (a * b)).length) c2) ?_ rfl ?_
        · kernel_rfl
        · exact ⟨_, _, rfl, (Nat.le_trans (cd_trim_le hI.ok (hI0.end h1) (own_len hO).symm) hc2), slf_trim (HF2 _ _ (hW7.sub (fun q hq => by first | exact hq | (simp only [List.mem_cons, List.mem_append, List.nil_append, List.not_mem_nil, or_assoc, or_false, false_or] at hq ⊢ <;> grind))) rfl (Below.refl _ _)) hI.ok (hI0.end h1), hW7.1⟩
      | true =>
        have h2 : 0 < cy := of_decide_eq_true hd2
        clear hd2
        refine wp_cond_true rfl ?_
        refine wp_skip ?_
        refine (show Code.wp _ _ _ _ _ from ?_)
        refine wp_seq ?_
        refine wp_block ?_
        refine wp_seq ?_
        refine wp_seq ?_
        refine wp_region_L (W0 := w) Ko (hW6) ?_
        refine Tw.lm (v := .int .i64 ((i : Nat) : Int)) rfl rfl ?_
        refine Tw.lm (v := .slice p ((cd a).length) c) rfl rfl ?_
        refine Tw.lp (v := .int .i64 ((((cd a).length) : Nat) : Int)) rfl rfl (run_lenL (p := p) (cap := c) (n := ((cd a).length)) rfl Tryd.underlying51 (by kernel_rfl)) ?_
        refine Tw.lp (v := .bool false) rfl rfl (run_bin rfl (vx := (.int .i64 ((i : Nat) : Int))) (vy := (.int .i64 ((((cd a).length) : Nat) : Int))) (by kernel_rfl) (by kernel_rfl) fun w => bn_lss (decide_eq_false (by assumption)) w) ?_
        refine wpL_done (fun W8 hW8 => ?_)
        refine (show Code.wp _ _ _ _ _ from ?_)
        refine wp_cond_false rfl ?_
        refine wp_skip ?_
        refine (show Code.wp _ _ _ _ _ from ?_)
        refine wp_seq ?_
        refine wp_region_L (W0 := w) Ko (hW8) ?_
        refine Tw.lm (v := vo) rfl rfl ?_
        refine Tw.lm (v := .int .i64 ((cy : Nat) : Int)) rfl rfl ?_
        refine Tw.lp (v := .int .i64 (((cy % 65536) : Nat) : Int)) rfl rfl (run_bin rfl (vx := (.int .i64 ((cy : Nat) : Int))) (vy := (.int .i64 ((65536 : Nat) : Int))) (by kernel_rfl) (by kernel_rfl) fun w => bn_rem (z := (cy % 65536)) rfl (by omega) w) ?_
        refine wpL_new (fun g => .slice (some ⟨g, 0, none⟩) 1 1) (obi := .cells #[.int .i64 (((cy % 65536) : Nat) : Int)] 3 (0, 0)) rfl rfl (fun _ => by kernel_rfl) (fun _ => by simp only [List.setIfInBounds_toArray, List.set_cons_succ, List.set_cons_zero] <;> rfl) fun g3 Bg3 Fg3 => ?_
        obtain dj4_0 : Dk g3 Ko := by simpa only [dj_app_l, dj_app_r, dj_cons_l, dj_cons_r, dj_nil_l, dj_nil_r, dk_app, dk_cons, dk_nil, and_true, true_and, and_assoc] using (show Dk g3 Ko from Fg3)
        refine wpL_g (AppO w 3 1 [] (i + 1) ((nums R) ++ [.int .i64 (((cy % 65536) : Nat) : Int)])) rfl rfl (app_own el_int (m := 1) (c := 1) (news := [.int .i64 (((cy % 65536) : Nat) : Int)]) rfl (by kernel_rfl) (by kernel_rfl) (.head _) hO (fun p hp => by simp only [List.mem_cons, List.mem_append, List.nil_append, List.not_mem_nil, or_assoc, or_false, false_or, hp, or_true, true_or]) (fun _ h => by cases h) rfl (by simp [strV, Value.oneCell']) (by omega) (by omega) (by omega)) (fun _ => by simp only [List.setIfInBounds_toArray, List.set_cons_succ, List.set_cons_zero] <;> rfl) ?_
        rintro v5 Kl5 ⟨_, O5, N5, rfl⟩
        refine Tw.lm (v := v5) rfl rfl ?_
        refine wpL_done (fun W9 hW9 => ?_)
        refine (show Code.wp _ _ _ _ _ from ?_)
        refine wp_region_L (W0 := w) Kl5 (hW9) ?_
        refine Tw.lm (v := .int .i64 ((cy : Nat) : Int)) rfl rfl ?_
        refine Tw.lp (v := .int .i64 (((cy / 65536) : Nat) : Int)) rfl rfl (run_bin rfl (vx := (.int .i64 ((cy : Nat) : Int))) (vy := (.int .i64 ((65536 : Nat) : Int))) (by kernel_rfl) (by kernel_rfl) fun w => bn_quo (z := (cy / 65536)) rfl (by omega) (wr_i64 (by omega)) w) ?_
        refine Tw.lm (v := .int .i64 (((cy / 65536) : Nat) : Int)) rfl rfl ?_
        refine wpL_done (fun W10 hW10 => ?_)
        refine (show Code.wp _ _ _ _ _ from ?_)
        refine wp_region_L (W0 := w) Kl5 (hW10) ?_
        refine Tw.lm (v := .int .i64 ((i : Nat) : Int)) rfl rfl ?_
        refine Tw.lp (v := .int .i64 (((i + 1) : Nat) : Int)) rfl rfl (run_bin rfl (vx := (.int .i64 ((i : Nat) : Int))) (vy := (.int .i64 ((1 : Nat) : Int))) (by kernel_rfl) (by kernel_rfl) fun w => bn_add (z := (i + 1)) rfl (wr_i64 (by omega)) w) ?_
        refine Tw.lm (v := .int .i64 (((i + 1) : Nat) : Int)) rfl rfl ?_
        refine wpL_done (fun W11 hW11 => ?_)
        go_roundw
        case rel =>
          repeat apply Exists.intro
          exact ⟨⟨i + 1, (cy / 65536), (R ++ [cy % 65536]), v5, Kl5, (own_snoc O5), (ScI.step hI hb (.inr ⟨h1, rfl⟩) (by omega)), (by omega), rfl, rfl, rfl, (hW11.sub (fun p hp => by first | exact hp | (simp only [List.mem_cons, List.mem_append, List.nil_append, List.not_mem_nil, or_assoc, or_false, false_or, List.cons_append, List.append_assoc] at hp ⊢ <;> grind)))⟩, rfl⟩
        case measure => (show (cd a).length + 2 - (intOf (.int .i64 (((i + 1) : Nat) : Int))).toNat < (cd a).length + 2 - (intOf (.int .i64 ((i : Nat) : Int))).toNat); simp only [intOf]; omega
    | true =>
      have h1 : i < ((cd a).length) := of_decide_eq_true hd1
      clear hd1
      refine Tw.ln rfl ?_
      refine Tw.ln rfl ?_
      refine Tw.lm (v := .bool true) rfl rfl ?_
      refine wpL_done (fun W12 hW12 => ?_)
      refine (show Code.wp _ _ _ _ _ from ?_)
      refine wp_cond_true rfl ?_
      refine wp_skip ?_
      refine (show Code.wp _ _ _ _ _ from ?_)
      refine wp_seq ?_
      refine wp_block ?_
      refine wp_seq ?_
      refine wp_seq ?_
      refine wp_region_L (W0 := w) Ko (hW12) ?_
      refine Tw.lm (v := .int .i64 ((i : Nat) : Int)) rfl rfl ?_
      refine Tw.lm (v := .slice p ((cd a).length) c) rfl rfl ?_
      refine Tw.lp (v := .int .i64 ((((cd a).length) : Nat) : Int)) rfl rfl (run_lenL (p := p) (cap := c) (n := ((cd a).length)) rfl Tryd.underlying51 (by kernel_rfl)) ?_
      refine Tw.lp (v := .bool true) rfl rfl (run_bin rfl (vx := (.int .i64 ((i : Nat) : Int))) (vy := (.int .i64 ((((cd a).length) : Nat) : Int))) (by kernel_rfl) (by kernel_rfl) fun w => bn_lss (decide_eq_true (by assumption)) w) ?_
      refine wpL_done (fun W13 hW13 => ?_)
      refine (show Code.wp _ _ _ _ _ from ?_)
      refine wp_cond_true rfl ?_
      refine wp_region_L (W0 := w) Ko (hW13) ?_
      refine Tw.lm (v := .int .i64 ((cy : Nat) : Int)) rfl rfl ?_
      refine Tw.lm (v := .slice p ((cd a).length) c) rfl rfl ?_
      refine Tw.lm (v := .int .i64 ((i : Nat) : Int)) rfl rfl ?_
      obtain ⟨b6, f6, hp6, hc6⟩ := (HP.mono (fun q hq => by first | exact hq | (simp only [List.mem_cons, List.mem_append, List.nil_append, List.not_mem_nil, or_assoc, or_false, false_or] at hq ⊢ <;> grind))).at hW13 (k := i) (by omega)
      refine Tw.lp (v := .pointer (some ⟨b6, f6 + i * 1, none⟩)) rfl rfl (run_idxQ (p := p) (cap := c) (n := ((cd a).length)) (j := .i64) (k := i) (sz := 1) rfl Tryd.underlying51 (by kernel_rfl) (by kernel_rfl) hp6 (by kernel_rfl) (by omega)) ?_
      obtain ⟨x7, hx7⟩ : ∃ x, ((cd a) : List Nat)[i]? = some x := ⟨_, List.getElem?_eq_getElem (by omega)⟩
      have lx7 : x7 < 65536 := dOk.at (cd_ok a) hx7
      refine Tw.lv (v := .int .i64 ((x7 : Nat) : Int)) rfl rfl (yb_ns (off := f6 + i * 1) rfl (by kernel_rfl) (fun W hW => hc6 W (hW.sub (fun q hq => by first | exact hq | (simp only [List.mem_cons, List.mem_append, List.nil_append, List.not_mem_nil, or_assoc, or_false, false_or] at hq ⊢ <;> grind))) _ _ hx7) Tryd.underlying3 rfl) ?_
      refine Tw.lm (v := .int .i64 ((b : Nat) : Int)) rfl rfl ?_
      have lmul : x7 * b ≤ 65535 * 65535 := Nat.mul_le_mul (by omega) (by omega)
      refine Tw.lp (v := .int .i64 (((x7 * b) : Nat) : Int)) rfl rfl (run_bin rfl (vx := (.int .i64 ((x7 : Nat) : Int))) (vy := (.int .i64 ((b : Nat) : Int))) (by kernel_rfl) (by kernel_rfl) fun w => bn_mul (z := (x7 * b)) rfl (wr_i64 (by omega)) w) ?_
      refine Tw.lp (v := .int .i64 (((cy + (x7 * b)) : Nat) : Int)) rfl rfl (run_bin rfl (vx := (.int .i64 ((cy : Nat) : Int))) (vy := (.int .i64 (((x7 * b) : Nat) : Int))) (by kernel_rfl) (by kernel_rfl) fun w => bn_add (z := (cy + (x7 * b))) rfl (wr_i64 (by omega)) w) ?_
      refine Tw.lm (v := .int .i64 (((cy + (x7 * b)) : Nat) : Int)) rfl rfl ?_
      refine wpL_done (fun W14 hW14 => ?_)
      refine (show Code.wp _ _ _ _ _ from ?_)
      refine wp_seq ?_
      refine wp_region_L (W0 := w) Ko (hW14) ?_
      refine Tw.lm (v := vo) rfl rfl ?_
      refine Tw.lm (v := .int .i64 (((cy + (x7 * b)) : Nat) : Int)) rfl rfl ?_
      refine Tw.lp (v := .int .i64 ((((cy + (x7 * b)) % 65536) : Nat) : Int)) rfl rfl (run_bin rfl (vx := (.int .i64 (((cy + (x7 * b)) : Nat) : Int))) (vy := (.int .i64 ((65536 : Nat) : Int))) (by kernel_rfl) (by kernel_rfl) fun w => bn_rem (z := ((cy + (x7 * b)) % 65536)) rfl (by omega) w) ?_
      refine wpL_new (fun g => .slice (some ⟨g, 0, none⟩) 1 1) (obi := .cells #[.int .i64 ((((cy + (x7 * b)) % 65536) : Nat) : Int)] 3 (0, 0)) rfl rfl (fun _ => by kernel_rfl) (fun _ => by simp only [List.setIfInBounds_toArray, List.set_cons_succ, List.set_cons_zero] <;> rfl) fun g8 Bg8 Fg8 => ?_
      obtain dj9_0 : Dk g8 Ko := by simpa only [dj_app_l, dj_app_r, dj_cons_l, dj_cons_r, dj_nil_l, dj_nil_r, dk_app, dk_cons, dk_nil, and_true, true_and, and_assoc] using (show Dk g8 Ko from Fg8)
      refine wpL_g (AppO w 3 1 [] (i + 1) ((nums R) ++ [.int .i64 ((((cy + (x7 * b)) % 65536) : Nat) : Int)])) rfl rfl (app_own el_int (m := 1) (c := 1) (news := [.int .i64 ((((cy + (x7 * b)) % 65536) : Nat) : Int)]) rfl (by kernel_rfl) (by kernel_rfl) (.head _) hO (fun p hp => by simp only [List.mem_cons, List.mem_append, List.nil_append, List.not_mem_nil, or_assoc, or_false, false_or, hp, or_true, true_or]) (fun _ h => by cases h) rfl (by simp [strV, Value.oneCell']) (by omega) (by omega) (by omega)) (fun _ => by simp only [List.setIfInBounds_toArray, List.set_cons_succ, List.set_cons_zero] <;> rfl) ?_
      rintro v10 Kl10 ⟨_, O10, N10, rfl⟩
      refine Tw.lm (v := v10) rfl rfl ?_
      refine wpL_done (fun W15 hW15 => ?_)
      refine (show Code.wp _ _ _ _ _ from ?_)
      refine wp_region_L (W0 := w) Kl10 (hW15) ?_
      refine Tw.lm (v := .int .i64 (((cy + (x7 * b)) : Nat) : Int)) rfl rfl ?_
      refine Tw.lp (v := .int .i64 ((((cy + (x7 * b)) / 65536) : Nat) : Int)) rfl rfl (run_bin rfl (vx := (.int .i64 (((cy + (x7 * b)) : Nat) : Int))) (vy := (.int .i64 ((65536 : Nat) : Int))) (by kernel_rfl) (by kernel_rfl) fun w => bn_quo (z := ((cy + (x7 * b)) / 65536)) rfl (by omega) (wr_i64 (by omega)) w) ?_
      refine Tw.lm (v := .int .i64 ((((cy + (x7 * b)) / 65536) : Nat) : Int)) rfl rfl ?_
      refine wpL_done (fun W16 hW16 => ?_)
      refine (show Code.wp _ _ _ _ _ from ?_)
      refine wp_region_L (W0 := w) Kl10 (hW16) ?_
      refine Tw.lm (v := .int .i64 ((i : Nat) : Int)) rfl rfl ?_
      refine Tw.lp (v := .int .i64 (((i + 1) : Nat) : Int)) rfl rfl (run_bin rfl (vx := (.int .i64 ((i : Nat) : Int))) (vy := (.int .i64 ((1 : Nat) : Int))) (by kernel_rfl) (by kernel_rfl) fun w => bn_add (z := (i + 1)) rfl (wr_i64 (by omega)) w) ?_
      refine Tw.lm (v := .int .i64 (((i + 1) : Nat) : Int)) rfl rfl ?_
      refine wpL_done (fun W17 hW17 => ?_)
      go_roundw
      case rel =>
        repeat apply Exists.intro
        exact ⟨⟨i + 1, ((cy + (x7 * b)) / 65536), (R ++ [(cy + (x7 * b)) % 65536]), v10, Kl10, (own_snoc O10), (ScI.step hI hb (.inl ⟨h1, hx7⟩) rfl), (by omega), rfl, rfl, rfl, (hW17.sub (fun p hp => by first | exact hp | (simp only [List.mem_cons, List.mem_append, List.nil_append, List.not_mem_nil, or_assoc, or_false, false_or, List.cons_append, List.append_assoc] at hp ⊢ <;> grind)))⟩, rfl⟩
      case measure => (show (cd a).length + 2 - (intOf (.int .i64 (((i + 1) : Nat) : Int))).toNat < (cd a).length + 2 - (intOf (.int .i64 ((i : Nat) : Int))).toNat); simp only [intOf]; omega
end Go.Proofs.YtalmflgkbmnghaaDoor
namespace Go.Proofs.YtalmflgkbmnghaaDoor
open Go Go.RowKit Tw
set_option maxRecDepth 100000 in
set_option maxHeartbeats 4000000 in
theorem sub_any (a b : Nat) (p q : Option Addr) (c d : Nat) (hba : b ≤ a) (la : (cd a).length ≤ 100000) (w : World) (hp : SLV w p (nums (cd a))) (hq : SLV w q (nums (cd b))) : Calls Tryd.prog 68 #[.slice p (cd a).length c, .slice q (cd b).length d] w fun e w' => Ans w (cd (a - b)) e w' := by
  have HP : NS (w : Base) p (cd a) [] := NS.base hp
  have HQ : NS (w : Base) q (cd b) [] := NS.base hq
  clear hp hq
  go_enter Tryd.func68, Tryd.ntmps68
  refine wp_seq ?_
  refine wp_region_L (W0 := w) [] (KS.start w) ?_
  refine Tw.lm (v := .slice none 0 0) rfl rfl ?_
  refine wpL_done (fun W1 hW1 => ?_)
  refine (show Code.wp _ _ _ _ _ from ?_)
  refine wp_seq ?_
  refine wp_region_L (W0 := w) [] (hW1) ?_
  refine Tw.lm (v := .slice none 0 0) rfl rfl ?_
  refine wpL_done (fun W2 hW2 => ?_)
  refine (show Code.wp _ _ _ _ _ from ?_)
  refine wp_seq ?_
  refine wp_region_L (W0 := w) [] (hW2) ?_
  refine Tw.lm (v := .int .i64 0) rfl rfl ?_
  refine wpL_done (fun W3 hW3 => ?_)
  refine (show Code.wp _ _ _ _ _ from ?_)
  refine wp_seq ?_
  refine wp_seq ?_
  refine wp_region_L (W0 := w) [] (hW3) ?_
  refine Tw.lm (v := .int .i64 0) rfl rfl ?_
  refine wpL_done (fun W4 hW4 => ?_)
  refine (show Code.wp _ _ _ _ _ from ?_)
  refine wp_block ?_
  go_loopw [7, 6, 5] (fun u7 u6 u5 wr => ∃ (i ow : Nat) (R : List Nat) (vo : Value) (Ko : List (Nat × Obj)), (OwnL (w : Base) 3 1 vo i (nums R) Ko) ∧ (SuI a b R i ow) ∧ (i ≤ (cd a).length) ∧ u7 = .int .i64 ((i : Nat) : Int) ∧ u6 = .int .i64 ((ow : Nat) : Int) ∧ vo = u5 ∧ KS w Ko wr) (fun u7 _ _ _ => (cd a).length - (intOf u7).toNat)
  case atStart => exact ⟨0, 0, [], (.slice none 0 0), [], (OwnL.nil _ _ _), (SuI.start a b), (by omega), rfl, rfl, rfl, (hW4.sub (fun p hp => by first | exact hp | (simp only [List.mem_cons, List.mem_append, List.nil_append, List.not_mem_nil, or_assoc, or_false, false_or, List.cons_append, List.append_assoc] at hp ⊢ <;> grind)))⟩
  case round =>
    obtain ⟨i, ow, R, vo, Ko, hO, hI, hi, rfl, rfl, rfl, hL5⟩ := hrel
    have how := hI.o1
    refine wp_seq ?_
    refine wp_seq ?_
    refine wp_region_L (W0 := w) Ko (hL5) ?_
    refine Tw.lm (v := .int .i64 ((i : Nat) : Int)) rfl rfl ?_
    refine Tw.lm (v := .slice p ((cd a).length) c) rfl rfl ?_
    refine Tw.lp (v := .int .i64 ((((cd a).length) : Nat) : Int)) rfl rfl (run_lenL (p := p) (cap := c) (n := ((cd a).length)) rfl Tryd.underlying51 (by kernel_rfl)) ?_
    refine Tw.lp (v := .bool (decide (i < ((cd a).length)))) rfl rfl (run_bin rfl (vx := (.int .i64 ((i : Nat) : Int))) (vy := (.int .i64 ((((cd a).length) : Nat) : Int))) (by kernel_rfl) (by kernel_rfl) fun w => bn_lss rfl w) ?_
    refine wpL_done (fun W6 hW6 => ?_)
    refine (show Code.wp _ _ _ _ _ from ?_)
    cases hd1 : (decide (i < ((cd a).length))) with
    | false =>
      have h1 : ¬ (i < ((cd a).length)) := of_decide_eq_false hd1
      clear hd1
      refine wp_cond_false rfl ?_
      refine wp_exit ?_
      refine (show Code.wp _ _ _ _ _ from ?_)
      refine wp_seq ?_
      refine wp_region_L (W0 := w) Ko (hW6) ?_
      refine Tw.lm (v := vo) rfl rfl ?_
      obtain ⟨p2, c2, rfl, hc2, HN2, HF2⟩ := own_ns hO
      refine Tw.lv (v := .slice p2 ((cd (a - b)).length) c2) rfl rfl (yb_call (f := 66) (args := #[.slice p2 i c2]) (fun _ => by kernel_rfl) fun W hW => trim_any R (a - b) i p2 c2 hI.ok (hI.end hba h1 hi) (own_len hO).symm hc2 (by omega) W ((HN2.mono (fun q hq => by first | exact hq | (simp only [List.mem_cons, List.mem_append, List.nil_append, List.not_mem_nil, or_assoc, or_false, false_or] at hq ⊢ <;> grind))) W hW)) ?_
      refine Tw.lm (v := .slice p2 ((cd (a - b)).length) c2) rfl rfl ?_
      refine wpL_done (fun W7 hW7 => ?_)
      refine (show Code.wp _ _ _ _ _ from ?_)
      refine wp_ret ?_
      try simp only [inBlock_ret, then_ret]
      refine bodyPost_ret (v := .slice p2 ((cd (a - b)).length) c2) ?_ rfl ?_
      · kernel_rfl
      · exact ⟨_, _, rfl, (Nat.le_trans (cd_trim_le hI.ok (hI.end hba h1 hi) (own_len hO).symm) hc2), slf_trim (HF2 _ _ (hW7.sub (fun q hq => by first | exact hq | (simp only [List.mem_cons, List.mem_append, List.nil_append, List.not_mem_nil, or_assoc, or_false, false_or] at hq ⊢ <;> grind))) rfl (Below.refl _ _)) hI.ok (hI.end hba h1 hi), hW7.1⟩
    | true =>
      have h1 : i < ((cd a).length) := of_decide_eq_true hd1
      clear hd1
      refine wp_cond_true rfl ?_
      refine wp_skip ?_
      refine (show Code.wp _ _ _ _ _ from ?_)
      refine wp_seq ?_
      refine wp_block ?_
      refine wp_seq ?_
      refine wp_region_L (W0 := w) Ko (hW6) ?_
      refine Tw.lm (v := .slice p ((cd a).length) c) rfl rfl ?_
      refine Tw.lm (v := .int .i64 ((i : Nat) : Int)) rfl rfl ?_
      obtain ⟨b3, f3, hp3, hc3⟩ := (HP.mono (fun q hq => by first | exact hq | (simp only [List.mem_cons, List.mem_append, List.nil_append, List.not_mem_nil, or_assoc, or_false, false_or] at hq ⊢ <;> grind))).at hW6 (k := i) (by omega)
      refine Tw.lp (v := .pointer (some ⟨b3, f3 + i * 1, none⟩)) rfl rfl (run_idxQ (p := p) (cap := c) (n := ((cd a).length)) (j := .i64) (k := i) (sz := 1) rfl Tryd.underlying51 (by kernel_rfl) (by kernel_rfl) hp3 (by kernel_rfl) (by omega)) ?_
      obtain ⟨x4, hx4⟩ : ∃ x, ((cd a) : List Nat)[i]? = some x := ⟨_, List.getElem?_eq_getElem (by omega)⟩
      have lx4 : x4 < 65536 := dOk.at (cd_ok a) hx4
      refine Tw.lv (v := .int .i64 ((x4 : Nat) : Int)) rfl rfl (yb_ns (off := f3 + i * 1) rfl (by kernel_rfl) (fun W hW => hc3 W (hW.sub (fun q hq => by first | exact hq | (simp only [List.mem_cons, List.mem_append, List.nil_append, List.not_mem_nil, or_assoc, or_false, false_or] at hq ⊢ <;> grind))) _ _ hx4) Tryd.underlying3 rfl) ?_
      refine Tw.lm (v := .int .i64 ((ow : Nat) : Int)) rfl rfl ?_
      refine Tw.lp (v := .int .i64 (((x4 : Nat) : Int) - ((ow : Nat) : Int))) rfl rfl (run_bin rfl (vx := (.int .i64 ((x4 : Nat) : Int))) (vy := (.int .i64 ((ow : Nat) : Int))) (by kernel_rfl) (by kernel_rfl) fun w => bi_sub (z := (((x4 : Nat) : Int) - ((ow : Nat) : Int))) rfl (wi_i64 (by omega)) w) ?_
      refine Tw.lm (v := .int .i64 (((x4 : Nat) : Int) - ((ow : Nat) : Int))) rfl rfl ?_
      refine wpL_done (fun W8 hW8 => ?_)
      refine (show Code.wp _ _ _ _ _ from ?_)
      refine wp_seq ?_
      refine wp_seq ?_
      refine wp_region_L (W0 := w) Ko (hW8) ?_
      refine Tw.lm (v := .int .i64 ((i : Nat) : Int)) rfl rfl ?_
      refine Tw.lm (v := .slice q ((cd b).length) d) rfl rfl ?_
      refine Tw.lp (v := .int .i64 ((((cd b).length) : Nat) : Int)) rfl rfl (run_lenL (p := q) (cap := d) (n := ((cd b).length)) rfl Tryd.underlying51 (by kernel_rfl)) ?_
      refine Tw.lp (v := .bool (decide (i < ((cd b).length)))) rfl rfl (run_bin rfl (vx := (.int .i64 ((i : Nat) : Int))) (vy := (.int .i64 ((((cd b).length) : Nat) : Int))) (by kernel_rfl) (by kernel_rfl) fun w => bn_lss rfl w) ?_
      refine wpL_done (fun W9 hW9 => ?_)
      refine (show Code.wp _ _ _ _ _ from ?_)
      cases hd2 : (decide (i < ((cd b).length))) with
      | false =>
        have h2 : ¬ (i < ((cd b).length)) := of_decide_eq_false hd2
        clear hd2
        refine wp_cond_false rfl ?_
        refine wp_skip ?_
        refine (show Code.wp _ _ _ _ _ from ?_)
        refine wp_seq ?_
        refine wp_region_L (W0 := w) Ko (hW9) ?_
        refine Tw.lm (v := .int .i64 0) rfl rfl ?_
        refine wpL_done (fun W10 hW10 => ?_)
        refine (show Code.wp _ _ _ _ _ from ?_)
        refine wp_seq ?_
        refine wp_seq ?_
        refine wp_region_L (W0 := w) Ko (hW10) ?_
        refine Tw.lm (v := .int .i64 (((x4 : Nat) : Int) - ((ow : Nat) : Int))) rfl rfl ?_
        refine Tw.lp (v := .bool (decide ((((x4 : Nat) : Int) - ((ow : Nat) : Int)) < 0))) rfl rfl (run_bin rfl (vx := (.int .i64 (((x4 : Nat) : Int) - ((ow : Nat) : Int)))) (vy := (.int .i64 0)) (by kernel_rfl) (by kernel_rfl) fun w => bi_lss rfl w) ?_
        refine wpL_done (fun W11 hW11 => ?_)
        refine (show Code.wp _ _ _ _ _ from ?_)
        cases hd3 : (decide ((((x4 : Nat) : Int) - ((ow : Nat) : Int)) < 0)) with
        | false =>
          have h3 : ¬ ((((x4 : Nat) : Int) - ((ow : Nat) : Int)) < 0) := of_decide_eq_false hd3
          clear hd3
          refine wp_cond_false rfl ?_
          refine wp_skip ?_
          refine (show Code.wp _ _ _ _ _ from ?_)
          refine wp_region_L (W0 := w) Ko (hW11) ?_
          refine Tw.lm (v := vo) rfl rfl ?_
          refine Tw.lm (v := .int .i64 (((x4 : Nat) : Int) - ((ow : Nat) : Int))) rfl rfl ?_
          refine wpL_new (fun g => .slice (some ⟨g, 0, none⟩) 1 1) (obi := .cells #[.int .i64 (((x4 : Nat) : Int) - ((ow : Nat) : Int))] 3 (0, 0)) rfl rfl (fun _ => by kernel_rfl) (fun _ => by simp only [List.setIfInBounds_toArray, List.set_cons_succ, List.set_cons_zero] <;> rfl) fun g5 Bg5 Fg5 => ?_
          obtain dj6_0 : Dk g5 Ko := by simpa only [dj_app_l, dj_app_r, dj_cons_l, dj_cons_r, dj_nil_l, dj_nil_r, dk_app, dk_cons, dk_nil, and_true, true_and, and_assoc] using (show Dk g5 Ko from Fg5)
          refine wpL_g (AppO w 3 1 [] (i + 1) ((nums R) ++ [.int .i64 (((x4 : Nat) : Int) - ((ow : Nat) : Int))])) rfl rfl (app_own el_int (m := 1) (c := 1) (news := [.int .i64 (((x4 : Nat) : Int) - ((ow : Nat) : Int))]) rfl (by kernel_rfl) (by kernel_rfl) (.head _) hO (fun p hp => by simp only [List.mem_cons, List.mem_append, List.nil_append, List.not_mem_nil, or_assoc, or_false, false_or, hp, or_true, true_or]) (fun _ h => by cases h) rfl (by simp [strV, Value.oneCell']) (by omega) (by omega) (by omega)) (fun _ => by simp only [List.setIfInBounds_toArray, List.set_cons_succ, List.set_cons_zero] <;> rfl) ?_
          rintro v7 Kl7 ⟨_, O7, N7, rfl⟩
          refine Tw.lm (v := v7) rfl rfl ?_
          refine wpL_done (fun W12 hW12 => ?_)
          refine (show Code.wp _ _ _ _ _ from ?_)
          refine wp_region_L (W0 := w) Kl7 (hW12) ?_
          refine Tw.lm (v := .int .i64 ((i : Nat) : Int)) rfl rfl ?_
          refine Tw.lp (v := .int .i64 (((i + 1) : Nat) : Int)) rfl rfl (run_bin rfl (vx := (.int .i64 ((i : Nat) : Int))) (vy := (.int .i64 ((1 : Nat) : Int))) (by kernel_rfl) (by kernel_rfl) fun w => bn_add (z := (i + 1)) rfl (wr_i64 (by omega)) w) ?_
          refine Tw.lm (v := .int .i64 (((i + 1) : Nat) : Int)) rfl rfl ?_
          refine wpL_done (fun W13 hW13 => ?_)
          go_roundw
          case rel =>
            repeat apply Exists.intro
            exact ⟨⟨i + 1, 0, (R ++ [((((x4 : Nat) : Int) - ((ow : Nat) : Int))).toNat]), v7, Kl7, (own_snocZ O7 (by omega)), (SuI.step hI hx4 (.inr ⟨h2, rfl⟩) (by omega) (by omega) (by omega)), (by omega), rfl, rfl, rfl, (hW13.sub (fun p hp => by first | exact hp | (simp only [List.mem_cons, List.mem_append, List.nil_append, List.not_mem_nil, or_assoc, or_false, false_or, List.cons_append, List.append_assoc] at hp ⊢ <;> grind)))⟩, rfl⟩
          case measure => (show (cd a).length - (intOf (.int .i64 (((i + 1) : Nat) : Int))).toNat < (cd a).length - (intOf (.int .i64 ((i : Nat) : Int))).toNat); simp only [intOf]; omega
        | true =>
          have h3 : (((x4 : Nat) : Int) - ((ow : Nat) : Int)) < 0 := of_decide_eq_true hd3
          clear hd3
          refine wp_cond_true rfl ?_
          refine wp_region_L (W0 := w) Ko (hW11) ?_
          refine Tw.lm (v := .int .i64 (((x4 : Nat) : Int) - ((ow : Nat) : Int))) rfl rfl ?_
          refine Tw.lp (v := .int .i64 ((((x4 : Nat) : Int) - ((ow : Nat) : Int)) + 65536)) rfl rfl (run_bin rfl (vx := (.int .i64 (((x4 : Nat) : Int) - ((ow : Nat) : Int)))) (vy := (.int .i64 65536)) (by kernel_rfl) (by kernel_rfl) fun w => bi_add (z := ((((x4 : Nat) : Int) - ((ow : Nat) : Int)) + 65536)) rfl (wi_i64 (by omega)) w) ?_
          refine Tw.lm (v := .int .i64 ((((x4 : Nat) : Int) - ((ow : Nat) : Int)) + 65536)) rfl rfl ?_
          refine Tw.lm (v := .int .i64 1) rfl rfl ?_
          refine wpL_done (fun W14 hW14 => ?_)
          refine (show Code.wp _ _ _ _ _ from ?_)
          refine wp_region_L (W0 := w) Ko (hW14) ?_
          refine Tw.lm (v := vo) rfl rfl ?_
          refine Tw.lm (v := .int .i64 ((((x4 : Nat) : Int) - ((ow : Nat) : Int)) + 65536)) rfl rfl ?_
          refine wpL_new (fun g => .slice (some ⟨g, 0, none⟩) 1 1) (obi := .cells #[.int .i64 ((((x4 : Nat) : Int) - ((ow : Nat) : Int)) + 65536)] 3 (0, 0)) rfl rfl (fun _ => by kernel_rfl) (fun _ => by simp only [List.setIfInBounds_toArray, List.set_cons_succ, List.set_cons_zero] <;> rfl) fun g8 Bg8 Fg8 => ?_
          obtain dj9_0 : Dk g8 Ko := by simpa only [dj_app_l, dj_app_r, dj_cons_l, dj_cons_r, dj_nil_l, dj_nil_r, dk_app, dk_cons, dk_nil, and_true, true_and, and_assoc] using (show Dk g8 Ko from Fg8)
          refine wpL_g (AppO w 3 1 [] (i + 1) ((nums R) ++ [.int .i64 ((((x4 : Nat) : Int) - ((ow : Nat) : Int)) + 65536)])) rfl rfl (app_own el_int (m := 1) (c := 1) (news := [.int .i64 ((((x4 : Nat) : Int) - ((ow : Nat) : Int)) + 65536)]) rfl (by kernel_rfl) (by kernel_rfl) (.head _) hO (fun p hp => by simp only [List.mem_cons, List.mem_append, List.nil_append, List.not_mem_nil, or_assoc, or_false, false_or, hp, or_true, true_or]) (fun _ h => by cases h) rfl (by simp [strV, Value.oneCell']) (by omega) (by omega) (by omega)) (fun _ => by simp only [List.setIfInBounds_toArray, List.set_cons_succ, List.set_cons_zero] <;> rfl) ?_
          rintro v10 Kl10 ⟨_, O10, N10, rfl⟩
          refine Tw.lm (v := v10) rfl rfl ?_
          refine wpL_done (fun W15 hW15 => ?_)
          refine (show Code.wp _ _ _ _ _ from ?_)
          refine wp_region_L (W0 := w) Kl10 (hW15) ?_
          refine Tw.lm (v := .int .i64 ((i : Nat) : Int)) rfl rfl ?_
          refine Tw.lp (v := .int .i64 (((i + 1) : Nat) : Int)) rfl rfl (run_bin rfl (vx := (.int .i64 ((i : Nat) : Int))) (vy := (.int .i64 ((1 : Nat) : Int))) (by kernel_rfl) (by kernel_rfl) fun w => bn_add (z := (i + 1)) rfl (wr_i64 (by omega)) w) ?_
          refine Tw.lm (v := .int .i64 (((i + 1) : Nat) : Int)) rfl rfl ?_
          refine wpL_done (fun W16 hW16 => ?_)
          go_roundw
          case rel =>
            repeat apply Exists.intro
            exact ⟨⟨i + 1, 1, (R ++ [(((((x4 : Nat) : Int) - ((ow : Nat) : Int)) + 65536)).toNat]), v10, Kl10, (own_snocZ O10 (by omega)), (SuI.step hI hx4 (.inr ⟨h2, rfl⟩) (by omega) (by omega) (by omega)), (by omega), rfl, rfl, rfl, (hW16.sub (fun p hp => by first | exact hp | (simp only [List.mem_cons, List.mem_append, List.nil_append, List.not_mem_nil, or_assoc, or_false, false_or, List.cons_append, List.append_assoc] at hp ⊢ <;> grind)))⟩, rfl⟩
          case measure => (show (cd a).length - (intOf (.int .i64 (((i + 1) : Nat) : Int))).toNat < (cd a).length - (intOf (.int .i64 ((i : Nat) : Int))).toNat); simp only [intOf]; omega
      | true =>
        have h2 : i < ((cd b).length) := of_decide_eq_true hd2
        clear hd2
        refine wp_cond_true rfl ?_
        refine wp_region_L (W0 := w) Ko (hW9) ?_
        refine Tw.lm (v := .int .i64 (((x4 : Nat) : Int) - ((ow : Nat) : Int))) rfl rfl ?_
        refine Tw.lm (v := .slice q ((cd b).length) d) rfl rfl ?_
        refine Tw.lm (v := .int .i64 ((i : Nat) : Int)) rfl rfl ?_
        obtain ⟨b11, f11, hp11, hc11⟩ := (HQ.mono (fun q hq => by first | exact hq | (simp only [List.mem_cons, List.mem_append, List.nil_append, List.not_mem_nil, or_assoc, or_false, false_or] at hq ⊢ <;> grind))).at hW9 (k := i) (by omega)
        refine Tw.lp (v := .pointer (some ⟨b11, f11 + i * 1, none⟩)) rfl rfl (run_idxQ (p := q) (cap := d) (n := ((cd b).length)) (j := .i64) (k := i) (sz := 1) rfl Tryd.underlying51 (by kernel_rfl) (by kernel_rfl) hp11 (by kernel_rfl) (by omega)) ?_
        obtain ⟨x12, hx12⟩ : ∃ x, ((cd b) : List Nat)[i]? = some x := ⟨_, List.getElem?_eq_getElem (by omega)⟩
        have lx12 : x12 < 65536 := dOk.at (cd_ok b) hx12
        refine Tw.lv (v := .int .i64 ((x12 : Nat) : Int)) rfl rfl (yb_ns (off := f11 + i * 1) rfl (by kernel_rfl) (fun W hW => hc11 W (hW.sub (fun q hq => by first | exact hq | (simp only [List.mem_cons, List.mem_append, List.nil_append, List.not_mem_nil, or_assoc, or_false, false_or] at hq ⊢ <;> grind))) _ _ hx12) Tryd.underlying3 rfl) ?_
        refine Tw.lp (v := .int .i64 ((((x4 : Nat) : Int) - ((ow : Nat) : Int)) - ((x12 : Nat) : Int))) rfl rfl (run_bin rfl (vx := (.int .i64 (((x4 : Nat) : Int) - ((ow : Nat) : Int)))) (vy := (.int .i64 ((x12 : Nat) : Int))) (by kernel_rfl) (by kernel_rfl) fun w => bi_sub (z := ((((x4 : Nat) : Int) - ((ow : Nat) : Int)) - ((x12 : Nat) : Int))) rfl (wi_i64 (by omega)) w) ?_
        refine Tw.lm (v := .int .i64 ((((x4 : Nat) : Int) - ((ow : Nat) : Int)) - ((x12 : Nat) : Int))) rfl rfl ?_
        refine wpL_done (fun W17 hW17 => ?_)
        refine (show Code.wp _ _ _ _ _ from ?_)
        refine wp_seq ?_
        refine wp_region_L (W0 := w) Ko (hW17) ?_
        refine Tw.lm (v := .int .i64 0) rfl rfl ?_
        refine wpL_done (fun W18 hW18 => ?_)
        refine (show Code.wp _ _ _ _ _ from ?_)
        refine wp_seq ?_
        refine wp_seq ?_
        refine wp_region_L (W0 := w) Ko (hW18) ?_
        refine Tw.lm (v := .int .i64 ((((x4 : Nat) : Int) - ((ow : Nat) : Int)) - ((x12 : Nat) : Int))) rfl rfl ?_
        refine Tw.lp (v := .bool (decide (((((x4 : Nat) : Int) - ((ow : Nat) : Int)) - ((x12 : Nat) : Int)) < 0))) rfl rfl (run_bin rfl (vx := (.int .i64 ((((x4 : Nat) : Int) - ((ow : Nat) : Int)) - ((x12 : Nat) : Int)))) (vy := (.int .i64 0)) (by kernel_rfl) (by kernel_rfl) fun w => bi_lss rfl w) ?_
        refine wpL_done (fun W19 hW19 => ?_)
        refine (show Code.wp _ _ _ _ _ from ?_)
        cases hd4 : (decide (((((x4 : Nat) : Int) - ((ow : Nat) : Int)) - ((x12 : Nat) : Int)) < 0)) with
        | false =>
          have h4 : ¬ (((((x4 : Nat) : Int) - ((ow : Nat) : Int)) - ((x12 : Nat) : Int)) < 0) := of_decide_eq_false hd4
          clear hd4
          refine wp_cond_false rfl ?_
          refine wp_skip ?_
          refine (show Code.wp _ _ _ _ _ from ?_)
          refine wp_region_L (W0 := w) Ko (hW19) ?_
          refine Tw.lm (v := vo) rfl rfl ?_
          refine Tw.lm (v := .int .i64 ((((x4 : Nat) : Int) - ((ow : Nat) : Int)) - ((x12 : Nat) : Int))) rfl rfl ?_
          refine wpL_new (fun g => .slice (some ⟨g, 0, none⟩) 1 1) (obi := .cells #[.int .i64 ((((x4 : Nat) : Int) - ((ow : Nat) : Int)) - ((x12 : Nat) : Int))] 3 (0, 0)) rfl rfl (fun _ => by kernel_rfl) (fun _ => by simp only [List.setIfInBounds_toArray, List.set_cons_succ, List.set_cons_zero] <;> rfl) fun g13 Bg13 Fg13 => ?_
          obtain dj14_0 : Dk g13 Ko := by simpa only [dj_app_l, dj_app_r, dj_cons_l, dj_cons_r, dj_nil_l, dj_nil_r, dk_app, dk_cons, dk_nil, and_true, true_and, and_assoc] using (show Dk g13 Ko from Fg13)
          refine wpL_g (AppO w 3 1 [] (i + 1) ((nums R) ++ [.int .i64 ((((x4 : Nat) : Int) - ((ow : Nat) : Int)) - ((x12 : Nat) : Int))])) rfl rfl (app_own el_int (m := 1) (c := 1) (news := [.int .i64 ((((x4 : Nat) : Int) - ((ow : Nat) : Int)) - ((x12 : Nat) : Int))]) rfl (by kernel_rfl) (by kernel_rfl) (.head _) hO (fun p hp => by simp only [List.mem_cons, List.mem_append, List.nil_append, List.not_mem_nil, or_assoc, or_false, false_or, hp, or_true, true_or]) (fun _ h => by cases h) rfl (by simp [strV, Value.oneCell']) (by omega) (by omega) (by omega)) (fun _ => by simp only [List.setIfInBounds_toArray, List.set_cons_succ, List.set_cons_zero] <;> rfl) ?_
          rintro v15 Kl15 ⟨_, O15, N15, rfl⟩
          refine Tw.lm (v := v15) rfl rfl ?_
          refine wpL_done (fun W20 hW20 => ?_)
          refine (show Code.wp _ _ _ _ _ from ?_)
          refine wp_region_L (W0 := w) Kl15 (hW20) ?_
          refine Tw.lm (v := .int .i64 ((i : Nat) : Int)) rfl rfl ?_
          refine Tw.lp (v := .int .i64 (((i + 1) : Nat) : Int)) rfl rfl (run_bin rfl (vx := (.int .i64 ((i : Nat) : Int))) (vy := (.int .i64 ((1 : Nat) : Int))) (by kernel_rfl) (by kernel_rfl) fun w => bn_add (z := (i + 1)) rfl (wr_i64 (by omega)) w) ?_
          refine Tw.lm (v := .int .i64 (((i + 1) : Nat) : Int)) rfl rfl ?_
          refine wpL_done (fun W21 hW21 => ?_)
          go_roundw
          case rel =>
            repeat apply Exists.intro
            exact ⟨⟨i + 1, 0, (R ++ [(((((x4 : Nat) : Int) - ((ow : Nat) : Int)) - ((x12 : Nat) : Int))).toNat]), v15, Kl15, (own_snocZ O15 (by omega)), (SuI.step hI hx4 (.inl ⟨h2, hx12⟩) (by omega) (by omega) (by omega)), (by omega), rfl, rfl, rfl, (hW21.sub (fun p hp => by first | exact hp | (simp only [List.mem_cons, List.mem_append, List.nil_append, List.not_mem_nil, or_assoc, or_false, false_or, List.cons_append, List.append_assoc] at hp ⊢ <;> grind)))⟩, rfl⟩
          case measure => (show (cd a).length - (intOf (.int .i64 (((i + 1) : Nat) : Int))).toNat < (cd a).length - (intOf (.int .i64 ((i : Nat) : Int))).toNat); simp only [intOf]; omega
        | true =>
          have h4 : ((((x4 : Nat) : Int) - ((ow : Nat) : Int)) - ((x12 : Nat) : Int)) < 0 := of_decide_eq_true hd4
          clear hd4
          refine wp_cond_true rfl ?_
          refine wp_region_L (W0 := w) Ko (hW19) ?_
          refine Tw.lm (v := .int .i64 ((((x4 : Nat) : Int) - ((ow : Nat) : Int)) - ((x12 : Nat) : Int))) rfl rfl ?_
          refine Tw.lp (v := .int .i64 (((((x4 : Nat) : Int) - ((ow : Nat) : Int)) - ((x12 : Nat) : Int)) + 65536)) rfl rfl (run_bin rfl (vx := (.int .i64 ((((x4 : Nat) : Int) - ((ow : Nat) : Int)) - ((x12 : Nat) : Int)))) (vy := (.int .i64 65536)) (by kernel_rfl) (by kernel_rfl) fun w => bi_add (z := (((((x4 : Nat) : Int) - ((ow : Nat) : Int)) - ((x12 : Nat) : Int)) + 65536)) rfl (wi_i64 (by omega)) w) ?_
          refine Tw.lm (v := .int .i64 (((((x4 : Nat) : Int) - ((ow : Nat) : Int)) - ((x12 : Nat) : Int)) + 65536)) rfl rfl ?_
          refine Tw.lm (v := .int .i64 1) rfl rfl ?_
          refine wpL_done (fun W22 hW22 => ?_)
          refine (show Code.wp _ _ _ _ _ from ?_)
          refine wp_region_L (W0 := w) Ko (hW22) ?_
          refine Tw.lm (v := vo) rfl rfl ?_
          refine Tw.lm (v := .int .i64 (((((x4 : Nat) : Int) - ((ow : Nat) : Int)) - ((x12 : Nat) : Int)) + 65536)) rfl rfl ?_
          refine wpL_new (fun g => .slice (some ⟨g, 0, none⟩) 1 1) (obi := .cells #[.int .i64 (((((x4 : Nat) : Int) - ((ow : Nat) : Int)) - ((x12 : Nat) : Int)) + 65536)] 3 (0, 0)) rfl rfl (fun _ => by kernel_rfl) (fun _ => by simp only [List.setIfInBounds_toArray, List.set_cons_succ, List.set_cons_zero] <;> rfl) fun g16 Bg16 Fg16 => ?_
          obtain dj17_0 : Dk g16 Ko := by simpa only [dj_app_l, dj_app_r, dj_cons_l, dj_cons_r, dj_nil_l, dj_nil_r, dk_app, dk_cons, dk_nil, and_true, true_and, and_assoc] using (show Dk g16 Ko from Fg16)
          refine wpL_g (AppO w 3 1 [] (i + 1) ((nums R) ++ [.int .i64 (((((x4 : Nat) : Int) - ((ow : Nat) : Int)) - ((x12 : Nat) : Int)) + 65536)])) rfl rfl (app_own el_int (m := 1) (c := 1) (news := [.int .i64 (((((x4 : Nat) : Int) - ((ow : Nat) : Int)) - ((x12 : Nat) : Int)) + 65536)]) rfl (by kernel_rfl) (by kernel_rfl) (.head _) hO (fun p hp => by simp only [List.mem_cons, List.mem_append, List.nil_append, List.not_mem_nil, or_assoc, or_false, false_or, hp, or_true, true_or]) (fun _ h => by cases h) rfl (by simp [strV, Value.oneCell']) (by omega) (by omega) (by omega)) (fun _ => by simp only [List.setIfInBounds_toArray, List.set_cons_succ, List.set_cons_zero] <;> rfl) ?_
          rintro v18 Kl18 ⟨_, O18, N18, rfl⟩
          refine Tw.lm (v := v18) rfl rfl ?_
          refine wpL_done (fun W23 hW23 => ?_)
          refine (show Code.wp _ _ _ _ _ from ?_)
          refine wp_region_L (W0 := w) Kl18 (hW23) ?_
          refine Tw.lm (v := .int .i64 ((i : Nat) : Int)) rfl rfl ?_
          refine Tw.lp (v := .int .i64 (((i + 1) : Nat) : Int)) rfl rfl (run_bin rfl (vx := (.int .i64 ((i : Nat) : Int))) (vy := (.int .i64 ((1 : Nat) : Int))) (by kernel_rfl) (by kernel_rfl) fun w => bn_add (z := (i + 1)) rfl (wr_i64 (by omega)) w) ?_
          refine Tw.lm (v := .int .i64 (((i + 1) : Nat) : Int)) rfl rfl ?_
          refine wpL_done (fun W24 hW24 => ?_)
          go_roundw
          case rel =>
            repeat apply Exists.intro
            exact ⟨⟨i + 1, 1, (R ++ [((((((x4 : Nat) : Int) - ((ow : Nat) : Int)) - ((x12 : Nat) : Int)) + 65536)).toNat]), v18, Kl18, (own_snocZ O18 (by omega)), (SuI.step hI hx4 (.inl ⟨h2, hx12⟩) (by omega) (by omega) (by omega)), (by omega), rfl, rfl, rfl, (hW24.sub (fun p hp => by first | exact hp | (simp only [List.mem_cons, List.mem_append, List.nil_append, List.not_mem_nil, or_assoc, or_false, false_or, List.cons_append, List.append_assoc] at hp ⊢ <;> grind)))⟩, rfl⟩
          case measure => (show (cd a).length - (intOf (.int .i64 (((i + 1) : Nat) : Int))).toNat < (cd a).length - (intOf (.int .i64 ((i : Nat) : Int))).toNat); simp only [intOf]; omega
end Go.Proofs.YtalmflgkbmnghaaDoor
namespace Go.Proofs.YtalmflgkbmnghaaDoor
open Go Go.RowKit Tw
set_option maxRecDepth 100000 in
set_option maxHeartbeats 4000000 in
theorem whole_any (z : Int) (n : Nat) (hz : z = (n : Int)) (ln : n ≤ 18446744073709551615) (w : World) : Calls Tryd.prog 47 #[.int .u64 z] w fun e w' => Ans w (cd n) e w' := by
  subst hz
  have l4 : (cd n).length ≤ 4 := cd_le.2 (Nat.lt_of_le_of_lt ln (by decide))
  go_enter Tryd.func47, Tryd.ntmps47
  refine wp_seq ?_
  refine wp_region_L (W0 := w) [] (KS.start w) ?_
  refine Tw.lm (v := .slice none 0 0) rfl rfl ?_
  refine wpL_done (fun W1 hW1 => ?_)
  refine (show Code.wp _ _ _ _ _ from ?_)
  refine wp_seq ?_
  refine wp_region_L (W0 := w) [] (hW1) ?_
  refine Tw.lm (v := .slice none 0 0) rfl rfl ?_
  refine wpL_done (fun W2 hW2 => ?_)
  refine (show Code.wp _ _ _ _ _ from ?_)
  refine wp_seq ?_
  refine wp_block ?_
  go_loopw [0, 3] (fun u0 u3 wr => ∃ (m i : Nat) (R : List Nat) (vo : Value) (Ko : List (Nat × Obj)), (OwnL (w : Base) 3 1 vo i (nums R) Ko) ∧ (R ++ cd m = cd n) ∧ u0 = .int .u64 ((m : Nat) : Int) ∧ vo = u3 ∧ KS w Ko wr) (fun u0 _ _ => (intOf u0).toNat)
  case atStart => exact ⟨n, 0, [], (.slice none 0 0), [], (OwnL.nil _ _ _), rfl, rfl, rfl, (hW2.sub (fun p hp => by first | exact hp | (simp only [List.mem_cons, List.mem_append, List.nil_append, List.not_mem_nil, or_assoc, or_false, false_or, List.cons_append, List.append_assoc] at hp ⊢ <;> grind)))⟩
  case round =>
    obtain ⟨m, i, R, vo, Ko, hO, hR, rfl, rfl, hL3⟩ := hrel
    have li : R.length + (cd m).length = (cd n).length := by rw [← hR, List.length_append]
    have lo := own_len hO
    have hmn : m ≤ n := by have := congrArg dv hR; rw [dv_app, dv_cd, dv_cd] at this; have h1 := Nat.mul_le_mul_right m (Nat.one_le_two_pow (n := 16 * R.length)); rw [Nat.pow_mul] at h1; simp only [Nat.reducePow] at h1; omega
    refine wp_seq ?_
    refine wp_seq ?_
    refine wp_region_L (W0 := w) Ko (hL3) ?_
    refine Tw.lm (v := .int .u64 ((m : Nat) : Int)) rfl rfl ?_
    refine Tw.lp (v := .bool (decide (0 < m))) rfl rfl (run_bin rfl (vx := (.int .u64 ((m : Nat) : Int))) (vy := (.int .u64 ((0 : Nat) : Int))) (by kernel_rfl) (by kernel_rfl) fun w => bn_gtr rfl w) ?_
    refine wpL_done (fun W4 hW4 => ?_)
    refine (show Code.wp _ _ _ _ _ from ?_)
    cases hd1 : (decide (0 < m)) with
    | false =>
      have h1 : ¬ (0 < m) := of_decide_eq_false hd1
      clear hd1
      refine wp_cond_false rfl ?_
      refine wp_exit ?_
      refine (show Code.wp _ _ _ _ _ from ?_)
      refine wp_seq ?_
      refine wp_region_L (W0 := w) Ko (hW4) ?_
      refine Tw.lm (v := vo) rfl rfl ?_
      refine Tw.lm (v := vo) rfl rfl ?_
      refine wpL_done (fun W5 hW5 => ?_)
      refine (show Code.wp _ _ _ _ _ from ?_)
      refine wp_ret ?_
      try simp only [inBlock_ret, then_ret]
      refine bodyPost_ret (v := vo) ?_ rfl ?_
      · kernel_rfl
      · exact ans_end hO (by have : m = 0 := (by omega); subst this; rw [cd_zero, List.append_nil] at hR; exact hR) hW5 (fun q hq => by first | exact hq | (simp only [List.mem_cons, List.mem_append, List.nil_append, List.not_mem_nil, or_assoc, or_false, false_or] at hq ⊢ <;> grind))
    | true =>
      have h1 : 0 < m := of_decide_eq_true hd1
      clear hd1
      refine wp_cond_true rfl ?_
      refine wp_skip ?_
      refine (show Code.wp _ _ _ _ _ from ?_)
      refine wp_block ?_
      refine wp_seq ?_
      refine wp_region_L (W0 := w) Ko (hW4) ?_
      refine Tw.lm (v := vo) rfl rfl ?_
      refine Tw.lm (v := .int .u64 ((m : Nat) : Int)) rfl rfl ?_
      refine Tw.lp (v := .int .u64 (((m % 65536) : Nat) : Int)) rfl rfl (run_bin rfl (vx := (.int .u64 ((m : Nat) : Int))) (vy := (.int .u64 ((65536 : Nat) : Int))) (by kernel_rfl) (by kernel_rfl) fun w => bn_rem (z := (m % 65536)) rfl (by omega) w) ?_
      refine Tw.lp (v := .int .i64 (((m % 65536) : Nat) : Int)) rfl rfl (run_conv rfl (vx := (.int .u64 (((m % 65536) : Nat) : Int))) (by kernel_rfl) fun w => cv_int Tryd.underlying46 Tryd.underlying3 (wr_i64 (by omega)) w) ?_
      refine wpL_new (fun g => .slice (some ⟨g, 0, none⟩) 1 1) (obi := .cells #[.int .i64 (((m % 65536) : Nat) : Int)] 3 (0, 0)) rfl rfl (fun _ => by kernel_rfl) (fun _ => by simp only [List.setIfInBounds_toArray, List.set_cons_succ, List.set_cons_zero] <;> rfl) fun g2 Bg2 Fg2 => ?_
      obtain dj3_0 : Dk g2 Ko := by simpa only [dj_app_l, dj_app_r, dj_cons_l, dj_cons_r, dj_nil_l, dj_nil_r, dk_app, dk_cons, dk_nil, and_true, true_and, and_assoc] using (show Dk g2 Ko from Fg2)
      refine wpL_g (AppO w 3 1 [] (i + 1) ((nums R) ++ [.int .i64 (((m % 65536) : Nat) : Int)])) rfl rfl (app_own el_int (m := 1) (c := 1) (news := [.int .i64 (((m % 65536) : Nat) : Int)]) rfl (by kernel_rfl) (by kernel_rfl) (.head _) hO (fun p hp => by simp only [List.mem_cons, List.mem_append, List.nil_append, List.not_mem_nil, or_assoc, or_false, false_or, hp, or_true, true_or]) (fun _ h => by cases h) rfl (by simp [strV, Value.oneCell']) (by omega) (by omega) (by omega)) (fun _ => by simp only [List.setIfInBounds_toArray, List.set_cons_succ, List.set_cons_zero] <;> rfl) ?_
      rintro v4 Kl4 ⟨_, O4, N4, rfl⟩
      refine Tw.lm (v := v4) rfl rfl ?_
      refine wpL_done (fun W6 hW6 => ?_)
      refine (show Code.wp _ _ _ _ _ from ?_)
      refine wp_region_L (W0 := w) Kl4 (hW6) ?_
      refine Tw.lm (v := .int .u64 ((m : Nat) : Int)) rfl rfl ?_
      refine Tw.lp (v := .int .u64 (((m / 65536) : Nat) : Int)) rfl rfl (run_bin rfl (vx := (.int .u64 ((m : Nat) : Int))) (vy := (.int .u64 ((65536 : Nat) : Int))) (by kernel_rfl) (by kernel_rfl) fun w => bn_quo (z := (m / 65536)) rfl (by omega) (wr_u64 (by omega)) w) ?_
      refine Tw.lm (v := .int .u64 (((m / 65536) : Nat) : Int)) rfl rfl ?_
      refine wpL_done (fun W7 hW7 => ?_)
      go_roundw
      case rel =>
        repeat apply Exists.intro
        exact ⟨⟨m / 65536, i + 1, (R ++ [m % 65536]), v4, Kl4, (own_snoc O4), (by rw [List.append_assoc, List.singleton_append, ← cd_pos (by omega)]; exact hR), rfl, rfl, (hW7.sub (fun p hp => by first | exact hp | (simp only [List.mem_cons, List.mem_append, List.nil_append, List.not_mem_nil, or_assoc, or_false, false_or, List.cons_append, List.append_assoc] at hp ⊢ <;> grind)))⟩, rfl⟩
      case measure => (show (intOf (.int .u64 (((m / 65536) : Nat) : Int))).toNat < (intOf (.int .u64 ((m : Nat) : Int))).toNat); simp only [intOf]; omega
end Go.Proofs.YtalmflgkbmnghaaDoor
namespace Go.Proofs.YtalmflgkbmnghaaDoor
open Go Go.RowKit Tw
open Tf (dg R R_pos R_le R_succ dg_of_lt setd setd_eq)
set_option maxRecDepth 100000 in
set_option maxHeartbeats 4000000 in
theorem size_any (z : Int) (z1 : -9223372036854775808 ≤ z) (z2 : z ≤ 9223372036854775807) (w : World) : Calls Tryd.prog 24 #[.int .i64 z] w fun e w' => Ans w (cd z.natAbs) e w' := by
  go_enter Tryd.func24, Tryd.ntmps24
  refine wp_seq ?_
  refine wp_region_L (W0 := w) [] (KS.start w) ?_
  refine Tw.lm (v := .slice none 0 0) rfl rfl ?_
  refine wpL_done (fun W1 hW1 => ?_)
  refine (show Code.wp _ _ _ _ _ from ?_)
  refine wp_seq ?_
  refine wp_seq ?_
  refine wp_region_L (W0 := w) [] (hW1) ?_
  refine Tw.lm (v := .int .i64 z) rfl rfl ?_
  refine Tw.lp (v := .bool (decide (z < 0))) rfl rfl (run_bin rfl (vx := (.int .i64 z)) (vy := (.int .i64 0)) (by kernel_rfl) (by kernel_rfl) fun w => bi_lss rfl w) ?_
  refine wpL_done (fun W2 hW2 => ?_)
  refine (show Code.wp _ _ _ _ _ from ?_)
  cases hd1 : (decide (z < 0)) with
  | false =>
    have h1 : ¬ (z < 0) := of_decide_eq_false hd1
    clear hd1
    refine wp_cond_false rfl ?_
    refine wp_skip ?_
    refine (show Code.wp _ _ _ _ _ from ?_)
    refine wp_seq ?_
    refine wp_region_L (W0 := w) [] (hW2) ?_
    refine Tw.lm (v := .int .i64 z) rfl rfl ?_
    refine Tw.lp (v := .int .u64 z) rfl rfl (run_conv rfl (vx := .int .i64 z) (by kernel_rfl) fun w => cv_int Tryd.underlying3 Tryd.underlying46 (wi_u64 (by omega)) w) ?_
    refine wpL_c (f := 47) (args := #[.int .u64 z]) (AnsG w [] (cd z.natAbs)) rfl (by kernel_rfl) (fun _ => (by kernel_rfl)) (fun W hW => (whole_any z z.natAbs (by omega) (by omega) W).mono fun e w2 h => Ans.g h hW) (fun _ => by simp only [List.setIfInBounds_toArray, List.set_cons_succ, List.set_cons_zero] <;> rfl) ?_
    rintro v1 _ ⟨q1, d1, T1, rfl, C1, H1, F1, J1, rfl⟩
    refine Tw.lm (v := .slice q1 ((cd z.natAbs).length) d1) rfl rfl ?_
    refine wpL_done (fun W3 hW3 => ?_)
    refine (show Code.wp _ _ _ _ _ from ?_)
    refine wp_ret ?_
    try simp only [inBlock_ret, then_ret]
    refine bodyPost_ret (v := .slice q1 ((cd z.natAbs).length) d1) ?_ rfl ?_
    · kernel_rfl
    · exact ⟨_, _, rfl, C1, F1 _ (hW3.sub (fun q hq => by first | exact hq | (simp only [List.mem_cons, List.mem_append, List.nil_append, List.not_mem_nil, or_assoc, or_false, false_or] at hq ⊢ <;> grind))) rfl, hW3.1⟩
  | true =>
    have h1 : z < 0 := of_decide_eq_true hd1
    clear hd1
    refine wp_cond_true rfl ?_
    refine wp_seq ?_
    refine wp_region_L (W0 := w) [] (hW2) ?_
    refine Tw.lm (v := .int .i64 z) rfl rfl ?_
    refine Tw.lp (v := .int .i64 (z + 1)) rfl rfl (run_bin rfl (vx := (.int .i64 z)) (vy := (.int .i64 1)) (by kernel_rfl) (by kernel_rfl) fun w => bi_add (z := (z + 1)) rfl (wi_i64 (by omega)) w) ?_
    refine Tw.lp (v := .int .i64 (-(z + 1))) rfl rfl (run_un rfl (by kernel_rfl) fun w => un_neg (z := (-(z + 1))) rfl (wi_i64 (by omega)) w) ?_
    refine Tw.lp (v := .int .u64 (-(z + 1))) rfl rfl (run_conv rfl (vx := .int .i64 (-(z + 1))) (by kernel_rfl) fun w => cv_int Tryd.underlying3 Tryd.underlying46 (wi_u64 (by omega)) w) ?_
    refine Tw.lp (v := .int .u64 ((-(z + 1)) + 1)) rfl rfl (run_bin rfl (vx := (.int .u64 (-(z + 1)))) (vy := (.int .u64 1)) (by kernel_rfl) (by kernel_rfl) fun w => bi_add (z := ((-(z + 1)) + 1)) rfl (wi_u64 (by omega)) w) ?_
    refine wpL_c (f := 47) (args := #[.int .u64 ((-(z + 1)) + 1)]) (AnsG w [] (cd z.natAbs)) rfl (by kernel_rfl) (fun _ => (by kernel_rfl)) (fun W hW => (whole_any ((-(z + 1)) + 1) z.natAbs (by omega) (by omega) W).mono fun e w2 h => Ans.g h hW) (fun _ => by simp only [List.setIfInBounds_toArray, List.set_cons_succ, List.set_cons_zero] <;> rfl) ?_
    rintro v2 _ ⟨q2, d2, T2, rfl, C2, H2, F2, J2, rfl⟩
    refine Tw.lm (v := .slice q2 ((cd z.natAbs).length) d2) rfl rfl ?_
    refine wpL_done (fun W4 hW4 => ?_)
    refine (show Code.wp _ _ _ _ _ from ?_)
    refine wp_ret ?_
    try simp only [inBlock_ret, then_ret]
    refine bodyPost_ret (v := .slice q2 ((cd z.natAbs).length) d2) ?_ rfl ?_
    · kernel_rfl
    · exact ⟨_, _, rfl, C2, F2 _ (hW4.sub (fun q hq => by first | exact hq | (simp only [List.mem_cons, List.mem_append, List.nil_append, List.not_mem_nil, or_assoc, or_false, false_or] at hq ⊢ <;> grind))) rfl, hW4.1⟩
theorem fa_at {f : Nat → Nat} {j : Nat} (h : j < 8) : (fa 8 f)[0 + j * 1]? = some (.int .u32 ((f j : Nat) : Int)) := by
  rw [Nat.zero_add, Nat.mul_one]; exact fa_get f h
theorem R_sq (k : Nat) : R k = 65536 ^ (2 * k) := by
  unfold R
  rw [Nat.pow_mul]
theorem lim_even {x j a : Nat} (hj : j < 8) (hx : x < 65536 ^ (2 * j)) (ha : a < 65536) : (fa 8 (dg x)).setIfInBounds (0 + j * 1) (.int .u32 ((a : Nat) : Int)) = fa 8 (dg (x + 65536 ^ (2 * j) * a)) := by
  rw [Nat.zero_add, Nat.mul_one, fa_setd hj (by omega)]
  have h := setd_eq x j a
  rw [dg_of_lt (by rw [R_sq]; exact hx), R_sq, Nat.zero_mul, Nat.add_zero] at h
  rw [h, Nat.mul_comm]
theorem lim_odd {x j a : Nat} (hj : j < 8) (hx : x < 65536 ^ (2 * j + 1)) (ha : a < 65536) : dg x j < 65536 ∧ (fa 8 (dg x)).setIfInBounds (0 + j * 1) (.int .u32 ((dg x j + a * 65536 : Nat) : Int)) = fa 8 (dg (x + 65536 ^ (2 * j + 1) * a)) := by
  have hd : dg x j < 65536 := by
    unfold dg
    have : x / R j < 65536 := by
      rw [Nat.div_lt_iff_lt_mul (R_pos j), R_sq]
      rw [Nat.pow_succ, Nat.mul_comm] at hx
      exact hx
    exact Nat.lt_of_le_of_lt (Nat.mod_le _ _) this
  refine ⟨hd, ?_⟩
  rw [Nat.zero_add, Nat.mul_one, fa_setd hj (by omega)]
  have h := setd_eq x j (dg x j + a * 65536)
  rw [Nat.add_mul, R_sq] at h
  have e : a * 65536 * 65536 ^ (2 * j) = 65536 ^ (2 * j + 1) * a := by rw [Nat.pow_succ, Nat.mul_assoc, Nat.mul_comm a, Nat.mul_comm 65536]
  rw [e] at h
  rw [show setd x j (dg x j + a * 65536) = x + 65536 ^ (2 * j + 1) * a from by omega]
theorem lim_e {x i a : Nat} (hi : i < 16) (hx : x < 65536 ^ i) (ha : a < 65536) (h : i % 2 = 0) : (fa 8 (dg x)).setIfInBounds (0 + (i / 2) * 1) (.int .u32 ((a : Nat) : Int)) = fa 8 (dg (x + 65536 ^ i * a)) := by
  have e : i = 2 * (i / 2) := by omega
  have h1 := lim_even (x := x) (j := i / 2) (a := a) (by omega) (by rw [← e]; exact hx) ha
  rw [← e] at h1
  exact h1
theorem lim_o {x i a : Nat} (hi : i < 16) (hx : x < 65536 ^ i) (ha : a < 65536) (h : ¬ i % 2 = 0) : dg x (i / 2) < 65536 ∧ (fa 8 (dg x)).setIfInBounds (0 + (i / 2) * 1) (.int .u32 ((dg x (i / 2) + a * 65536 : Nat) : Int)) = fa 8 (dg (x + 65536 ^ i * a)) := by
  have e : i = 2 * (i / 2) + 1 := by omega
  have h1 := lim_odd (x := x) (j := i / 2) (a := a) (by omega) (by rw [← e]; exact hx) ha
  rw [← e] at h1
  exact h1
def limV (n : Nat) : Value := if (cd n).length ≤ 16 then .tuple #[.agg (fa 8 (dg n)), .bool true] else .tuple #[.agg (fa 8 (dg 0)), .bool false]
set_option maxRecDepth 100000 in
set_option maxHeartbeats 4000000 in
theorem limbs_any (n : Nat) (p : Option Addr) (c : Nat) (la : (cd n).length ≤ 100000) (w : World) (hp : SLV w p (nums (cd n))) : Calls Tryd.prog 46 #[.slice p (cd n).length c] w fun e w' => e = .returned (limV n) ∧ Below w.heap.size w w' := by
  have HP : NS (w : Base) p (cd n) [] := NS.base hp
  clear hp
  go_enter Tryd.func46, Tryd.ntmps46
  refine wp_seq ?_
  refine wp_region_L (W0 := w) [] (KS.start w) ?_
  refine wpL_new (fun g => .pointer (some ⟨g, 0, none⟩)) (obi := .cells (fa 8 (dg 0)) 25 (0, 0)) rfl rfl (fun _ => by kernel_rfl) (fun _ => by simp only [List.setIfInBounds_toArray, List.set_cons_succ, List.set_cons_zero] <;> rfl) fun g1 Bg1 Fg1 => ?_
  refine Tw.lm (v := .bool false) rfl rfl ?_
  refine wpL_done (fun W1 hW1 => ?_)
  refine (show Code.wp _ _ _ _ _ from ?_)
  refine wp_seq ?_
  refine wp_region_L (W0 := w) [(g1, .cells (fa 8 (dg 0)) 25 (0, 0))] (hW1) ?_
  refine wpL_new (fun g => .pointer (some ⟨g, 0, none⟩)) (obi := .cells (fa 8 (dg 0)) 25 (0, 0)) rfl rfl (fun _ => by kernel_rfl) (fun _ => by simp only [List.setIfInBounds_toArray, List.set_cons_succ, List.set_cons_zero] <;> rfl) fun g2 Bg2 Fg2 => ?_
  obtain dj3_0 : g1 ≠ g2 := by simpa only [dj_app_l, dj_app_r, dj_cons_l, dj_cons_r, dj_nil_l, dj_nil_r, dk_app, dk_cons, dk_nil, and_true, true_and, and_assoc] using (show Dk g2 [(g1, .cells (fa 8 (dg 0)) 25 (0, 0))] from Fg2)
  refine wpL_done (fun W2 hW2 => ?_)
  refine (show Code.wp _ _ _ _ _ from ?_)
  refine wp_seq ?_
  refine wp_seq ?_
  refine wp_region_L (W0 := w) [(g2, .cells (fa 8 (dg 0)) 25 (0, 0)), (g1, .cells (fa 8 (dg 0)) 25 (0, 0))] (hW2) ?_
  refine Tw.lm (v := .slice p ((cd n).length) c) rfl rfl ?_
  refine Tw.lp (v := .int .i64 ((((cd n).length) : Nat) : Int)) rfl rfl (run_lenL (p := p) (cap := c) (n := ((cd n).length)) rfl Tryd.underlying51 (by kernel_rfl)) ?_
  refine Tw.lp (v := .bool (decide (16 < ((cd n).length)))) rfl rfl (run_bin rfl (vx := (.int .i64 ((((cd n).length) : Nat) : Int))) (vy := (.int .i64 ((16 : Nat) : Int))) (by kernel_rfl) (by kernel_rfl) fun w => bn_gtr rfl w) ?_
  refine wpL_done (fun W3 hW3 => ?_)
  refine (show Code.wp _ _ _ _ _ from ?_)
  cases hd1 : (decide (16 < ((cd n).length))) with
  | false =>
    have h1 : ¬ (16 < ((cd n).length)) := of_decide_eq_false hd1
    clear hd1
    refine wp_cond_false rfl ?_
    refine wp_skip ?_
    refine (show Code.wp _ _ _ _ _ from ?_)
    refine wp_seq ?_
    refine wp_seq ?_
    refine wp_region_L (W0 := w) [(g2, .cells (fa 8 (dg 0)) 25 (0, 0)), (g1, .cells (fa 8 (dg 0)) 25 (0, 0))] (hW3) ?_
    refine Tw.lm (v := .int .i64 0) rfl rfl ?_
    refine wpL_done (fun W4 hW4 => ?_)
    refine (show Code.wp _ _ _ _ _ from ?_)
    refine wp_block ?_
    go_loopw [5] (fun u5 wr => ∃ (i : Nat), (i ≤ (cd n).length) ∧ u5 = .int .i64 ((i : Nat) : Int) ∧ KS w [(g2, .cells (fa 8 (dg (dv ((cd n).take i)))) 25 (0, 0)), (g1, .cells (fa 8 (dg 0)) 25 (0, 0))] wr) (fun u5 _ => (cd n).length - (intOf u5).toNat)
    case atStart => exact ⟨0, (Nat.zero_le _), rfl, (hW4.sub (fun p hp => by first | exact hp | (simp only [List.mem_cons, List.mem_append, List.nil_append, List.not_mem_nil, or_assoc, or_false, false_or, List.cons_append, List.append_assoc] at hp ⊢ <;> grind)))⟩
    case round =>
      obtain ⟨i, hi, rfl, hL5⟩ := hrel
      have hx : dv ((cd n).take i) < 65536 ^ i := by
        have h := dv_lt ((cd_ok n).take i)
        rwa [List.length_take, Nat.min_eq_left hi] at h
      refine wp_seq ?_
      refine wp_seq ?_
      refine wp_region_L (W0 := w) [(g2, .cells (fa 8 (dg (dv ((cd n).take i)))) 25 (0, 0)), (g1, .cells (fa 8 (dg 0)) 25 (0, 0))] (hL5) ?_
      refine Tw.lm (v := .int .i64 ((i : Nat) : Int)) rfl rfl ?_
      refine Tw.lm (v := .slice p ((cd n).length) c) rfl rfl ?_
      refine Tw.lp (v := .int .i64 ((((cd n).length) : Nat) : Int)) rfl rfl (run_lenL (p := p) (cap := c) (n := ((cd n).length)) rfl Tryd.underlying51 (by kernel_rfl)) ?_
      refine Tw.lp (v := .bool (decide (i < ((cd n).length)))) rfl rfl (run_bin rfl (vx := (.int .i64 ((i : Nat) : Int))) (vy := (.int .i64 ((((cd n).length) : Nat) : Int))) (by kernel_rfl) (by kernel_rfl) fun w => bn_lss rfl w) ?_
      refine wpL_done (fun W6 hW6 => ?_)
      refine (show Code.wp _ _ _ _ _ from ?_)
      cases hd2 : (decide (i < ((cd n).length))) with
      | false =>
        have h2 : ¬ (i < ((cd n).length)) := of_decide_eq_false hd2
        clear hd2
        refine wp_cond_false rfl ?_
        refine wp_exit ?_
        refine (show Code.wp _ _ _ _ _ from ?_)
        refine wp_seq ?_
        refine wp_region_L (W0 := w) [(g2, .cells (fa 8 (dg (dv ((cd n).take i)))) 25 (0, 0)), (g1, .cells (fa 8 (dg 0)) 25 (0, 0))] (hW6) ?_
        refine Tw.lv (v := .agg (fa 8 (dg (dv ((cd n).take i))))) rfl rfl (yb_all rfl (by kernel_rfl) (.head _) Tryd.underlying25 rfl (by simp only [fa_size]; kernel_rfl)) ?_
        refine wpL_s [(g2, .cells (fa 8 (dg (dv ((cd n).take i)))) 25 (0, 0)), (g1, .cells (fa 8 (dg (dv ((cd n).take i)))) 25 (0, 0))] rfl rfl (st_all (by simp only [fa_size]) (by exact fa_one) rfl (by kernel_rfl) (by kernel_rfl) (.tail _ (.head _)) Bg1 (by simp only [fa_size]; kernel_rfl) (List.forall_mem_cons.2 ⟨.inr ⟨(.head _), (by first | assumption | exact Ne.symm (by assumption))⟩, (List.forall_mem_cons.2 ⟨.inl rfl, (List.forall_mem_nil _)⟩)⟩)) ?_
        refine Tw.lm (v := .bool true) rfl rfl ?_
        refine wpL_done (fun W7 hW7 => ?_)
        refine (show Code.wp _ _ _ _ _ from ?_)
        refine wp_ret ?_
        try simp only [inBlock_ret, then_ret]
        refine bodyPost_ret (v := .tuple #[.agg (fa 8 (dg (dv ((cd n).take i)))), .bool true]) ?_ rfl ?_
        · exact (res_cell_tmp (p := 2) (q := 3) rfl rfl (hW7.2 _ (.tail _ (.head _))) Tryd.underlying25 rfl (by simp only [fa_size]; kernel_rfl))
        · exact ⟨(by unfold limV; rw [if_pos (by omega), List.take_of_length_le (by omega), dv_cd]), hW7.1⟩
      | true =>
        have h2 : i < ((cd n).length) := of_decide_eq_true hd2
        clear hd2
        refine wp_cond_true rfl ?_
        refine wp_skip ?_
        refine (show Code.wp _ _ _ _ _ from ?_)
        refine wp_seq ?_
        refine wp_block ?_
        refine wp_seq ?_
        refine wp_region_L (W0 := w) [(g2, .cells (fa 8 (dg (dv ((cd n).take i)))) 25 (0, 0)), (g1, .cells (fa 8 (dg 0)) 25 (0, 0))] (hW6) ?_
        refine Tw.lm (v := .int .i64 ((i : Nat) : Int)) rfl rfl ?_
        refine Tw.lp (v := .int .i64 (((i % 2) : Nat) : Int)) rfl rfl (run_bin rfl (vx := (.int .i64 ((i : Nat) : Int))) (vy := (.int .i64 ((2 : Nat) : Int))) (by kernel_rfl) (by kernel_rfl) fun w => bn_rem (z := (i % 2)) rfl (by omega) w) ?_
        refine Tw.lp (v := .bool (decide ((i % 2) = 0))) rfl rfl (run_bin rfl (vx := (.int .i64 (((i % 2) : Nat) : Int))) (vy := (.int .i64 ((0 : Nat) : Int))) (by kernel_rfl) (by kernel_rfl) fun w => bn_eql rfl w) ?_
        refine wpL_done (fun W8 hW8 => ?_)
        refine (show Code.wp _ _ _ _ _ from ?_)
        cases hd3 : (decide ((i % 2) = 0)) with
        | false =>
          have h3 : ¬ ((i % 2) = 0) := of_decide_eq_false hd3
          clear hd3
          obtain ⟨xq, hxq⟩ : ∃ x, ((cd n) : List Nat)[i]? = some x := ⟨_, List.getElem?_eq_getElem (by omega)⟩
          have ldg := (lim_o (by omega) hx ((cd_ok n).at hxq) h3).1
          refine wp_cond_false rfl ?_
          refine wp_region_V (W0 := w) [(g2, .cells (fa 8 (dg (dv ((cd n).take i)))) 25 (0, 0)), (g1, .cells (fa 8 (dg 0)) 25 (0, 0))] (by kernel_rfl) (hW8) ?_
          refine vm (i := 0) (v := .int .i64 ((i : Nat) : Int)) rfl rfl rfl ?_
          refine vp (i := 1) (v := .int .i64 (((i / 2) : Nat) : Int)) rfl rfl rfl (run_bin rfl (vx := (.int .i64 ((i : Nat) : Int))) (vy := (.int .i64 ((2 : Nat) : Int))) (by kernel_rfl) (by kernel_rfl) fun w => bn_quo (z := (i / 2)) rfl (by omega) (wr_i64 (by omega)) w) ?_
          refine vm (i := 2) (v := .int .i64 ((i : Nat) : Int)) rfl rfl rfl ?_
          refine vp (i := 3) (v := .int .i64 (((i / 2) : Nat) : Int)) rfl rfl rfl (run_bin rfl (vx := (.int .i64 ((i : Nat) : Int))) (vy := (.int .i64 ((2 : Nat) : Int))) (by kernel_rfl) (by kernel_rfl) fun w => bn_quo (z := (i / 2)) rfl (by omega) (wr_i64 (by omega)) w) ?_
          refine vp (i := 4) (v := .pointer (some ⟨g2, 0 + (i / 2) * 1, none⟩)) rfl rfl rfl (run_idxA (j := .i64) (b := g2) (off := 0) (k := (i / 2)) (sz := 1) rfl Tryd.underlying25 (by kernel_rfl) (by kernel_rfl) (by kernel_rfl) (by omega)) ?_
          refine vv (i := 5) (v := .int .u32 (((dg (dv ((cd n).take i)) (i / 2)) : Nat) : Int)) rfl rfl rfl (yb_cell rfl (by kernel_rfl) (.head _) Tryd.underlying24 rfl (fa_at (by omega))) ?_
          refine vm (i := 6) (v := .slice p ((cd n).length) c) rfl rfl rfl ?_
          refine vm (i := 7) (v := .int .i64 ((i : Nat) : Int)) rfl rfl rfl ?_
          obtain ⟨b4, f4, hp4, hc4⟩ := (HP.mono (fun q hq => by first | exact hq | (simp only [List.mem_cons, List.mem_append, List.nil_append, List.not_mem_nil, or_assoc, or_false, false_or] at hq ⊢ <;> grind))).at hW8 (k := i) (by omega)
          refine vp (i := 8) (v := .pointer (some ⟨b4, f4 + i * 1, none⟩)) rfl rfl rfl (run_idxQ (p := p) (cap := c) (n := ((cd n).length)) (j := .i64) (k := i) (sz := 1) rfl Tryd.underlying51 (by kernel_rfl) (by kernel_rfl) hp4 (by kernel_rfl) (by omega)) ?_
          obtain ⟨x5, hx5⟩ : ∃ x, ((cd n) : List Nat)[i]? = some x := ⟨_, List.getElem?_eq_getElem (by omega)⟩
          have lx5 : x5 < 65536 := dOk.at (cd_ok n) hx5
          refine vv (i := 9) (v := .int .i64 ((x5 : Nat) : Int)) rfl rfl rfl (yb_ns (off := f4 + i * 1) rfl (by kernel_rfl) (fun W hW => hc4 W (hW.sub (fun q hq => by first | exact hq | (simp only [List.mem_cons, List.mem_append, List.nil_append, List.not_mem_nil, or_assoc, or_false, false_or] at hq ⊢ <;> grind))) _ _ hx5) Tryd.underlying3 rfl) ?_
          refine vp (i := 10) (v := .int .u32 ((x5 : Nat) : Int)) rfl rfl rfl (run_conv rfl (vx := (.int .i64 ((x5 : Nat) : Int))) (by kernel_rfl) fun w => cv_int Tryd.underlying3 Tryd.underlying24 (wr_u32 (by omega)) w) ?_
          refine vp (i := 11) (v := .int .u32 (((x5 * 65536) : Nat) : Int)) rfl rfl rfl (run_bin rfl (vx := (.int .u32 ((x5 : Nat) : Int))) (vy := (.int .u32 ((65536 : Nat) : Int))) (by kernel_rfl) (by kernel_rfl) fun w => bn_mul (z := (x5 * 65536)) rfl (wr_u32 (by omega)) w) ?_
          refine vp (i := 12) (v := .int .u32 ((((dg (dv ((cd n).take i)) (i / 2)) + (x5 * 65536)) : Nat) : Int)) rfl rfl rfl (run_bin rfl (vx := (.int .u32 (((dg (dv ((cd n).take i)) (i / 2)) : Nat) : Int))) (vy := (.int .u32 (((x5 * 65536) : Nat) : Int))) (by kernel_rfl) (by kernel_rfl) fun w => bn_add (z := ((dg (dv ((cd n).take i)) (i / 2)) + (x5 * 65536))) rfl (wr_u32 (by omega)) w) ?_
          refine vp (i := 13) (v := .pointer (some ⟨g2, 0 + (i / 2) * 1, none⟩)) rfl rfl rfl (run_idxA (j := .i64) (b := g2) (off := 0) (k := (i / 2)) (sz := 1) rfl Tryd.underlying25 (by kernel_rfl) (by kernel_rfl) (by kernel_rfl) (by omega)) ?_
          refine wpV_s [(g2, .cells (fa 8 (dg (dv ((cd n).take (i + 1))))) 25 (0, 0)), (g1, .cells (fa 8 (dg 0)) 25 (0, 0))] (i := 14) rfl (by kernel_rfl) rfl rfl rfl (st_to (off := 0 + (i / 2) * 1) ((lim_o (by omega) hx lx5 h3).2.trans (by rw [← dv_take hx5])) rfl (by kernel_rfl) (by kernel_rfl) (.head _) Bg2 (by kernel_rfl) rfl rfl (by simp only [fa_size]; omega) (.inr rfl) (List.forall_mem_cons.2 ⟨.inl rfl, (List.forall_mem_cons.2 ⟨.inr ⟨(.tail _ (.head _)), (by first | assumption | exact Ne.symm (by assumption))⟩, (List.forall_mem_nil _)⟩)⟩)) ?_
          refine wpV_done (by kernel_rfl) (fun W9 hW9 => ?_) _
          refine (show Code.wp _ _ _ _ _ from ?_)
          refine wp_region_L (W0 := w) [(g2, .cells (fa 8 (dg (dv ((cd n).take (i + 1))))) 25 (0, 0)), (g1, .cells (fa 8 (dg 0)) 25 (0, 0))] (hW9) ?_
          refine Tw.lm (v := .int .i64 ((i : Nat) : Int)) rfl rfl ?_
          refine Tw.lp (v := .int .i64 (((i + 1) : Nat) : Int)) rfl rfl (run_bin rfl (vx := (.int .i64 ((i : Nat) : Int))) (vy := (.int .i64 ((1 : Nat) : Int))) (by kernel_rfl) (by kernel_rfl) fun w => bn_add (z := (i + 1)) rfl (wr_i64 (by omega)) w) ?_
          refine Tw.lm (v := .int .i64 (((i + 1) : Nat) : Int)) rfl rfl ?_
          refine wpL_done (fun W10 hW10 => ?_)
          go_roundw
          case rel =>
            repeat apply Exists.intro
            exact ⟨⟨(i + 1), (by omega), rfl, (hW10.sub (fun p hp => by first | exact hp | (simp only [List.mem_cons, List.mem_append, List.nil_append, List.not_mem_nil, or_assoc, or_false, false_or, List.cons_append, List.append_assoc] at hp ⊢ <;> grind)))⟩, rfl⟩
          case measure => (show (cd n).length - (intOf (.int .i64 (((i + 1) : Nat) : Int))).toNat < (cd n).length - (intOf (.int .i64 ((i : Nat) : Int))).toNat); simp only [intOf]; omega
        | true =>
          have h3 : (i % 2) = 0 := of_decide_eq_true hd3
          clear hd3
          refine wp_cond_true rfl ?_
          refine wp_region_L (W0 := w) [(g2, .cells (fa 8 (dg (dv ((cd n).take i)))) 25 (0, 0)), (g1, .cells (fa 8 (dg 0)) 25 (0, 0))] (hW8) ?_
          refine Tw.lm (v := .int .i64 ((i : Nat) : Int)) rfl rfl ?_
          refine Tw.lp (v := .int .i64 (((i / 2) : Nat) : Int)) rfl rfl (run_bin rfl (vx := (.int .i64 ((i : Nat) : Int))) (vy := (.int .i64 ((2 : Nat) : Int))) (by kernel_rfl) (by kernel_rfl) fun w => bn_quo (z := (i / 2)) rfl (by omega) (wr_i64 (by omega)) w) ?_
          refine Tw.lm (v := .slice p ((cd n).length) c) rfl rfl ?_
          refine Tw.lm (v := .int .i64 ((i : Nat) : Int)) rfl rfl ?_
          obtain ⟨b6, f6, hp6, hc6⟩ := (HP.mono (fun q hq => by first | exact hq | (simp only [List.mem_cons, List.mem_append, List.nil_append, List.not_mem_nil, or_assoc, or_false, false_or] at hq ⊢ <;> grind))).at hW8 (k := i) (by omega)
          refine Tw.lp (v := .pointer (some ⟨b6, f6 + i * 1, none⟩)) rfl rfl (run_idxQ (p := p) (cap := c) (n := ((cd n).length)) (j := .i64) (k := i) (sz := 1) rfl Tryd.underlying51 (by kernel_rfl) (by kernel_rfl) hp6 (by kernel_rfl) (by omega)) ?_
          obtain ⟨x7, hx7⟩ : ∃ x, ((cd n) : List Nat)[i]? = some x := ⟨_, List.getElem?_eq_getElem (by omega)⟩
          have lx7 : x7 < 65536 := dOk.at (cd_ok n) hx7
          refine Tw.lv (v := .int .i64 ((x7 : Nat) : Int)) rfl rfl (yb_ns (off := f6 + i * 1) rfl (by kernel_rfl) (fun W hW => hc6 W (hW.sub (fun q hq => by first | exact hq | (simp only [List.mem_cons, List.mem_append, List.nil_append, List.not_mem_nil, or_assoc, or_false, false_or] at hq ⊢ <;> grind))) _ _ hx7) Tryd.underlying3 rfl) ?_
          refine Tw.lp (v := .int .u32 ((x7 : Nat) : Int)) rfl rfl (run_conv rfl (vx := (.int .i64 ((x7 : Nat) : Int))) (by kernel_rfl) fun w => cv_int Tryd.underlying3 Tryd.underlying24 (wr_u32 (by omega)) w) ?_
          refine Tw.lp (v := .pointer (some ⟨g2, 0 + (i / 2) * 1, none⟩)) rfl rfl (run_idxA (j := .i64) (b := g2) (off := 0) (k := (i / 2)) (sz := 1) rfl Tryd.underlying25 (by kernel_rfl) (by kernel_rfl) (by kernel_rfl) (by omega)) ?_
          refine wpL_s [(g2, .cells (fa 8 (dg (dv ((cd n).take (i + 1))))) 25 (0, 0)), (g1, .cells (fa 8 (dg 0)) 25 (0, 0))] rfl rfl (st_to (off := 0 + (i / 2) * 1) ((lim_e (by omega) hx lx7 h3).trans (by rw [← dv_take hx7])) rfl (by kernel_rfl) (by kernel_rfl) (.head _) Bg2 (by kernel_rfl) rfl rfl (by simp only [fa_size]; omega) (.inr rfl) (List.forall_mem_cons.2 ⟨.inl rfl, (List.forall_mem_cons.2 ⟨.inr ⟨(.tail _ (.head _)), (by first | assumption | exact Ne.symm (by assumption))⟩, (List.forall_mem_nil _)⟩)⟩)) ?_
          refine wpL_done (fun W11 hW11 => ?_)
          refine (show Code.wp _ _ _ _ _ from ?_)
          refine wp_region_L (W0 := w) [(g2, .cells (fa 8 (dg (dv ((cd n).take (i + 1))))) 25 (0, 0)), (g1, .cells (fa 8 (dg 0)) 25 (0, 0))] (hW11) ?_
          refine Tw.lm (v := .int .i64 ((i : Nat) : Int)) rfl rfl ?_
          refine Tw.lp (v := .int .i64 (((i + 1) : Nat) : Int)) rfl rfl (run_bin rfl (vx := (.int .i64 ((i : Nat) : Int))) (vy := (.int .i64 ((1 : Nat) : Int))) (by kernel_rfl) (by kernel_rfl) fun w => bn_add (z := (i + 1)) rfl (wr_i64 (by omega)) w) ?_
          refine Tw.lm (v := .int .i64 (((i + 1) : Nat) : Int)) rfl rfl ?_
          refine wpL_done (fun W12 hW12 => ?_)
          go_roundw
          case rel =>
            repeat apply Exists.intro
            exact ⟨⟨(i + 1), (by omega), rfl, (hW12.sub (fun p hp => by first | exact hp | (simp only [List.mem_cons, List.mem_append, List.nil_append, List.not_mem_nil, or_assoc, or_false, false_or, List.cons_append, List.append_assoc] at hp ⊢ <;> grind)))⟩, rfl⟩
          case measure => (show (cd n).length - (intOf (.int .i64 (((i + 1) : Nat) : Int))).toNat < (cd n).length - (intOf (.int .i64 ((i : Nat) : Int))).toNat); simp only [intOf]; omega
  | true =>
    have h1 : 16 < ((cd n).length) := of_decide_eq_true hd1
    clear hd1
    refine wp_cond_true rfl ?_
    refine wp_seq ?_
    refine wp_region_L (W0 := w) [(g2, .cells (fa 8 (dg 0)) 25 (0, 0)), (g1, .cells (fa 8 (dg 0)) 25 (0, 0))] (hW3) ?_
    refine Tw.lv (v := .agg (fa 8 (dg 0))) rfl rfl (yb_all rfl (by kernel_rfl) (.head _) Tryd.underlying25 rfl (by simp only [fa_size]; kernel_rfl)) ?_
    refine wpL_s [(g2, .cells (fa 8 (dg 0)) 25 (0, 0)), (g1, .cells (fa 8 (dg 0)) 25 (0, 0))] rfl rfl (st_all (by simp only [fa_size]) (by exact fa_one) rfl (by kernel_rfl) (by kernel_rfl) (.tail _ (.head _)) Bg1 (by simp only [fa_size]; kernel_rfl) (List.forall_mem_cons.2 ⟨.inr ⟨(.head _), (by first | assumption | exact Ne.symm (by assumption))⟩, (List.forall_mem_cons.2 ⟨.inl rfl, (List.forall_mem_nil _)⟩)⟩)) ?_
    refine Tw.lm (v := .bool false) rfl rfl ?_
    refine wpL_done (fun W13 hW13 => ?_)
    refine (show Code.wp _ _ _ _ _ from ?_)
    refine wp_ret ?_
    try simp only [inBlock_ret, then_ret]
    refine bodyPost_ret (v := .tuple #[.agg (fa 8 (dg 0)), .bool false]) ?_ rfl ?_
    · exact (res_cell_tmp (p := 2) (q := 3) rfl rfl (hW13.2 _ (.tail _ (.head _))) Tryd.underlying25 rfl (by simp only [fa_size]; kernel_rfl))
    · exact ⟨(by unfold limV; rw [if_neg (by omega)]), hW13.1⟩
end Go.Proofs.YtalmflgkbmnghaaDoor
namespace Go.Proofs.YtalmflgkbmnghaaDoor
open Go Go.RowKit Tw
set_option maxRecDepth 100000 in
set_option maxHeartbeats 20000000 in
theorem div_any (a b : Nat) (p q : Option Addr) (c d : Nat) (hb : 0 < b) (la : (cd a).length ≤ 90000) (hc : (cd a).length ≤ c) (w : World) (hp : SLV w p (nums (cd a))) (hq : SLV w q (nums (cd b))) : Calls Tryd.prog 45 #[.slice p (cd a).length c, .slice q (cd b).length d] w fun e w' => Ans2 w (cd (a / b)) (cd (a % b)) e w' := by
  have HP : NS (w : Base) p (cd a) [] := NS.base hp
  have HQ : NS (w : Base) q (cd b) [] := NS.base hq
  clear hp hq
  go_enter Tryd.func45, Tryd.ntmps45
  refine wp_seq ?_
  refine wp_region_L (W0 := w) [] (KS.start w) ?_
  refine Tw.lm (v := .slice none 0 0) rfl rfl ?_
  refine Tw.lm (v := .slice none 0 0) rfl rfl ?_
  refine wpL_done (fun W1 hW1 => ?_)
  refine (show Code.wp _ _ _ _ _ from ?_)
  refine wp_seq ?_
  refine wp_seq ?_
  refine wp_region_L (W0 := w) [] (hW1) ?_
  refine Tw.lm (v := .slice p ((cd a).length) c) rfl rfl ?_
  refine Tw.lm (v := .slice q ((cd b).length) d) rfl rfl ?_
  refine Tw.lv (v := .bool (decide (a < b))) rfl rfl (yb_call (f := 65) (args := #[.slice p ((cd a).length) c, .slice q ((cd b).length) d]) (fun _ => by kernel_rfl) fun W hW => less_any a b p q c d (by omega) W ((HP.mono (fun q hq => by first | exact hq | (simp only [List.mem_cons, List.mem_append, List.nil_append, List.not_mem_nil, or_assoc, or_false, false_or] at hq ⊢ <;> grind))) W hW) ((HQ.mono (fun q hq => by first | exact hq | (simp only [List.mem_cons, List.mem_append, List.nil_append, List.not_mem_nil, or_assoc, or_false, false_or] at hq ⊢ <;> grind))) W hW)) ?_
  refine wpL_done (fun W2 hW2 => ?_)
  refine (show Code.wp _ _ _ _ _ from ?_)
  cases hd1 : (decide (a < b)) with
  | false =>
    have h1 : ¬ (a < b) := of_decide_eq_false hd1
    clear hd1
    have ha := h1
    refine wp_cond_false rfl ?_
    refine wp_skip ?_
    refine (show Code.wp _ _ _ _ _ from ?_)
    refine wp_seq ?_
    refine wp_region_L (W0 := w) [] (hW2) ?_
    refine Tw.lm (v := .slice q ((cd b).length) d) rfl rfl ?_
    refine Tw.lp (v := .int .i64 ((((cd b).length) : Nat) : Int)) rfl rfl (run_lenL (p := q) (cap := d) (n := ((cd b).length)) rfl Tryd.underlying51 (by kernel_rfl)) ?_
    refine Tw.lm (v := .int .i64 ((((cd b).length) : Nat) : Int)) rfl rfl ?_
    refine wpL_done (fun W3 hW3 => ?_)
    refine (show Code.wp _ _ _ _ _ from ?_)
    refine wp_seq ?_
    have hlb := div_len ha
    have hl0 := cd_app hb
    refine wp_region_L (W0 := w) [] (hW3) ?_
    refine wpL_new (fun g => .slice (some ⟨g, 0, none⟩) 0 0) (obi := .cells #[] 3 (0, 0)) rfl rfl (fun _ => by kernel_rfl) (fun _ => by simp only [List.setIfInBounds_toArray, List.set_cons_succ, List.set_cons_zero] <;> rfl) fun g1 Bg1 Fg1 => ?_
    refine Tw.lm (v := .slice p ((cd a).length) c) rfl rfl ?_
    refine Tw.lm (v := .slice p ((cd a).length) c) rfl rfl ?_
    refine Tw.lp (v := .int .i64 ((((cd a).length) : Nat) : Int)) rfl rfl (run_lenL (p := p) (cap := c) (n := ((cd a).length)) rfl Tryd.underlying51 (by kernel_rfl)) ?_
    refine Tw.lm (v := .int .i64 ((((cd b).length) : Nat) : Int)) rfl rfl ?_
    refine Tw.lp (v := .int .i64 (((((cd a).length) - ((cd b).length)) : Nat) : Int)) rfl rfl (run_bin rfl (vx := (.int .i64 ((((cd a).length) : Nat) : Int))) (vy := (.int .i64 ((((cd b).length) : Nat) : Int))) (by kernel_rfl) (by kernel_rfl) fun w => bn_sub (z := (((cd a).length) - ((cd b).length))) rfl (by omega) (wr_i64 (by omega)) w) ?_
    refine Tw.lp (v := .int .i64 ((((((cd a).length) - ((cd b).length)) + 1) : Nat) : Int)) rfl rfl (run_bin rfl (vx := (.int .i64 (((((cd a).length) - ((cd b).length)) : Nat) : Int))) (vy := (.int .i64 ((1 : Nat) : Int))) (by kernel_rfl) (by kernel_rfl) fun w => bn_add (z := ((((cd a).length) - ((cd b).length)) + 1)) rfl (wr_i64 (by omega)) w) ?_
    refine Tw.lp (v := .slice (if c = ((((cd a).length) - ((cd b).length)) + 1) then p else p.map (·.add (((((cd a).length) - ((cd b).length)) + 1) * 1))) (((cd a).length) - ((((cd a).length) - ((cd b).length)) + 1)) (c - ((((cd a).length) - ((cd b).length)) + 1))) rfl rfl (run_cutL (p := p) (n := ((cd a).length)) (c := c) (i := ((((cd a).length) - ((cd b).length)) + 1)) (k1 := .i64) rfl Tryd.underlying51 (by kernel_rfl) (by kernel_rfl) (by kernel_rfl) (by omega)) ?_
    refine wpL_g (AppO w 3 1 [] (0 + (((cd a).length) - ((((cd a).length) - ((cd b).length)) + 1))) ((nums []) ++ nums ((cd a).drop ((((cd a).length) - ((cd b).length)) + 1)))) rfl rfl (app_any el_int (m := (((cd a).length) - ((((cd a).length) - ((cd b).length)) + 1))) (news := nums ((cd a).drop ((((cd a).length) - ((cd b).length)) + 1))) rfl (by kernel_rfl) (by kernel_rfl) (src_ns (c := (c - ((((cd a).length) - ((cd b).length)) + 1))) Tryd.underlying51 ((NS.drop (k := ((((cd a).length) - ((cd b).length)) + 1)) (HP.mono (fun q hq => by first | exact hq | (simp only [List.mem_cons, List.mem_append, List.nil_append, List.not_mem_nil, or_assoc, or_false, false_or] at hq ⊢ <;> grind))) hW3 hc).mono (fun q hq => by first | exact hq | (simp only [List.mem_cons, List.mem_append, List.nil_append, List.not_mem_nil, or_assoc, or_false, false_or] at hq ⊢ <;> grind))) (by simp)) (own_row (xs := (nums [])) Bg1 rfl (by omega)) (fun p hp => by cases List.mem_singleton.1 hp; exact (.head _)) (fun _ h => by cases h) (by omega) (by omega)) (fun _ => by simp only [List.setIfInBounds_toArray, List.set_cons_succ, List.set_cons_zero] <;> rfl) ?_
    rintro v2 Kl2 ⟨_, O2, N2, rfl⟩
    replace O2 : OwnL w 3 1 v2 (0 + (((cd a).length) - ((((cd a).length) - ((cd b).length)) + 1))) (nums ([] ++ ((cd a).drop ((((cd a).length) - ((cd b).length)) + 1)))) Kl2 := by rw [nums_app]; exact O2
    refine Tw.lm (v := v2) rfl rfl ?_
    refine wpL_done (fun W4 hW4 => ?_)
    refine (show Code.wp _ _ _ _ _ from ?_)
    refine wp_seq ?_
    refine wp_region_L (W0 := w) Kl2 (hW4) ?_
    refine Tw.lm (v := .slice p ((cd a).length) c) rfl rfl ?_
    refine Tw.lp (v := .int .i64 ((((cd a).length) : Nat) : Int)) rfl rfl (run_lenL (p := p) (cap := c) (n := ((cd a).length)) rfl Tryd.underlying51 (by kernel_rfl)) ?_
    refine Tw.lm (v := .int .i64 ((((cd b).length) : Nat) : Int)) rfl rfl ?_
    refine Tw.lp (v := .int .i64 (((((cd a).length) - ((cd b).length)) : Nat) : Int)) rfl rfl (run_bin rfl (vx := (.int .i64 ((((cd a).length) : Nat) : Int))) (vy := (.int .i64 ((((cd b).length) : Nat) : Int))) (by kernel_rfl) (by kernel_rfl) fun w => bn_sub (z := (((cd a).length) - ((cd b).length))) rfl (by omega) (wr_i64 (by omega)) w) ?_
    refine Tw.lp (v := .int .i64 ((((((cd a).length) - ((cd b).length)) + 1) : Nat) : Int)) rfl rfl (run_bin rfl (vx := (.int .i64 (((((cd a).length) - ((cd b).length)) : Nat) : Int))) (vy := (.int .i64 ((1 : Nat) : Int))) (by kernel_rfl) (by kernel_rfl) fun w => bn_add (z := ((((cd a).length) - ((cd b).length)) + 1)) rfl (wr_i64 (by omega)) w) ?_
    refine wpL_new (fun g => .slice (some ⟨g, 0, none⟩) ((((cd a).length) - ((cd b).length)) + 1) ((((cd a).length) - ((cd b).length)) + 1)) (obi := .cells (nums (List.replicate ((((cd a).length) - ((cd b).length)) + 1) 0)).toArray 3 (0, 0)) rfl rfl (run_mk (b := 8) rfl Tryd.underlying51 (by kernel_rfl) (by decide) (by kernel_rfl) (by kernel_rfl) (by omega)) (fun _ => by simp only [List.setIfInBounds_toArray, List.set_cons_succ, List.set_cons_zero] <;> rfl) fun g3 Bg3 Fg3 => ?_
    obtain dj4_0 : Dk g3 Kl2 := by simpa only [dj_app_l, dj_app_r, dj_cons_l, dj_cons_r, dj_nil_l, dj_nil_r, dk_app, dk_cons, dk_nil, and_true, true_and, and_assoc] using (show Dk g3 Kl2 from Fg3)
    refine Tw.lm (v := .slice (some ⟨g3, 0, none⟩) ((((cd a).length) - ((cd b).length)) + 1) ((((cd a).length) - ((cd b).length)) + 1)) rfl rfl ?_
    refine wpL_done (fun W5 hW5 => ?_)
    refine (show Code.wp _ _ _ _ _ from ?_)
    refine wp_seq ?_
    refine wp_seq ?_
    refine wp_region_L (W0 := w) ((g3, .cells (nums (List.replicate ((((cd a).length) - ((cd b).length)) + 1) 0)).toArray 3 (0, 0)) :: Kl2) (hW5) ?_
    refine Tw.lm (v := .slice p ((cd a).length) c) rfl rfl ?_
    refine Tw.lp (v := .int .i64 ((((cd a).length) : Nat) : Int)) rfl rfl (run_lenL (p := p) (cap := c) (n := ((cd a).length)) rfl Tryd.underlying51 (by kernel_rfl)) ?_
    refine Tw.lm (v := .int .i64 ((((cd b).length) : Nat) : Int)) rfl rfl ?_
    refine Tw.lp (v := .int .i64 (((((cd a).length) - ((cd b).length)) : Nat) : Int)) rfl rfl (run_bin rfl (vx := (.int .i64 ((((cd a).length) : Nat) : Int))) (vy := (.int .i64 ((((cd b).length) : Nat) : Int))) (by kernel_rfl) (by kernel_rfl) fun w => bn_sub (z := (((cd a).length) - ((cd b).length))) rfl (by omega) (wr_i64 (by omega)) w) ?_
    refine Tw.lm (v := .int .i64 (((((cd a).length) - ((cd b).length)) : Nat) : Int)) rfl rfl ?_
    refine wpL_done (fun W6 hW6 => ?_)
    refine (show Code.wp _ _ _ _ _ from ?_)
    refine wp_block ?_
    obtain ⟨p5, c5, rfl, hc5, HN5, HF5⟩ := own_ns O2
    have hD : ([] ++ ((cd a).drop (((cd a).length - (cd b).length) + 1)) : List Nat) = cd (dv ((cd a).drop (((cd a).length - (cd b).length) + 1))) := (List.nil_append _).trans (cd_drop a _)
    have hDn : (0 + (((cd a).length) - ((((cd a).length) - ((cd b).length)) + 1))) = (cd (dv ((cd a).drop (((cd a).length - (cd b).length) + 1)))).length := by rw [← cd_drop a]; simp
    rw [hDn]
    rw [hD] at HN5
    rw [hDn] at hc5
    have hst := start_lt (a := a) (b := b) (i := (((cd a).length - (cd b).length) + 1)) hb (by omega)
    go_loopw [9, 7] (fun u9 u7 wr => ∃ (z : Int) (k : Nat) (pr : Option Addr) (cr : Nat) (r : Nat) (O : List Nat) (Kt : List (Nat × Obj)), (NS (w : Base) pr (cd r) Kt) ∧ ((cd r).length ≤ cr) ∧ (z = (k : Int) - 1) ∧ (O.length = (((cd a).length - (cd b).length) + 1)) ∧ (k ≤ (((cd a).length - (cd b).length) + 1)) ∧ (r = dv ((cd a).drop k) % b) ∧ (dv (O.drop k) = dv ((cd a).drop k) / b) ∧ (dOk O) ∧ (Dk g3 Kt) ∧ u9 = .int .i64 z ∧ u7 = .slice pr ((cd r).length) cr ∧ KS w ((g3, .cells (nums O).toArray 3 (0, 0)) :: Kt) wr) (fun u9 _ _ => (intOf u9 + 1).toNat)
    case atStart => exact ⟨(((((cd a).length - (cd b).length) : Nat) : Int)), (((cd a).length - (cd b).length) + 1), p5, c5, (dv ((cd a).drop (((cd a).length - (cd b).length) + 1))), (List.replicate ((((cd a).length) - ((cd b).length)) + 1) 0), Kl2, (HN5.mono (fun q hq => by first | exact hq | (simp only [List.mem_cons, List.mem_append, List.nil_append, List.not_mem_nil, or_assoc, or_false, false_or] at hq ⊢ <;> grind))), hc5, (by omega), (by simp), (Nat.le_refl _), (Nat.mod_eq_of_lt hst).symm, (by rw [rep_drop, Nat.div_eq_of_lt hst]), (dOk.rep _), (show Dk g3 Kl2 from (by (try simp only [dj_app_l, dj_app_r, dj_cons_l, dj_cons_r, dj_nil_l, dj_nil_r, dk_app, dk_cons, dk_nil, and_true, true_and, and_assoc]); repeat' (first | trivial | assumption | exact Dj.symm (by assumption) | exact Ne.symm (by assumption) | apply And.intro))), rfl, rfl, (hW6.sub (fun p hp => by first | exact hp | (simp only [List.mem_cons, List.mem_append, List.nil_append, List.not_mem_nil, or_assoc, or_false, false_or, List.cons_append, List.append_assoc] at hp ⊢ <;> grind)))⟩
    case round =>
      obtain ⟨z, k, pr, cr, r, O, Kt, HR, hcr, hz, hOl, hk, hr, hOv, hOk, hDk, rfl, rfl, hL7⟩ := hrel
      refine wp_seq ?_
      refine wp_seq ?_
      refine wp_region_L (W0 := w) ((g3, .cells (nums O).toArray 3 (0, 0)) :: Kt) (hL7) ?_
      refine Tw.lm (v := .int .i64 z) rfl rfl ?_
      refine Tw.lp (v := .bool (!(decide (z < 0)))) rfl rfl (run_bin rfl (vx := (.int .i64 z)) (vy := (.int .i64 0)) (by kernel_rfl) (by kernel_rfl) fun w => bi_geq rfl w) ?_
      refine wpL_done (fun W8 hW8 => ?_)
      refine (show Code.wp _ _ _ _ _ from ?_)
      cases hd2 : (decide (z < 0)) with
      | false =>
        have h2 : ¬ (z < 0) := of_decide_eq_false hd2
        clear hd2
        obtain ⟨j, rfl⟩ := Int.eq_ofNat_of_zero_le (show 0 ≤ z by omega)
        obtain rfl : k = j + 1 := by omega
        have hrb : r < b := by rw [hr]; exact Nat.mod_lt _ hb
        have hrl : (cd r).length ≤ (cd b).length := cd_le.2 (Nat.lt_trans hrb (cd_hi b))
        refine wp_cond_true rfl ?_
        refine wp_skip ?_
        refine (show Code.wp _ _ _ _ _ from ?_)
        refine wp_seq ?_
        refine wp_block ?_
        refine wp_seq ?_
        refine wp_region_L (W0 := w) ((g3, .cells (nums O).toArray 3 (0, 0)) :: Kt) (hW8) ?_
        refine Tw.lm (v := .slice p ((cd a).length) c) rfl rfl ?_
        refine Tw.lm (v := .int .i64 ((j : Nat) : Int)) rfl rfl ?_
        obtain ⟨b6, f6, hp6, hc6⟩ := (HP.mono (fun q hq => by first | exact hq | (simp only [List.mem_cons, List.mem_append, List.nil_append, List.not_mem_nil, or_assoc, or_false, false_or] at hq ⊢ <;> grind))).at hW8 (k := j) (by omega)
        refine Tw.lp (v := .pointer (some ⟨b6, f6 + j * 1, none⟩)) rfl rfl (run_idxQ (p := p) (cap := c) (n := ((cd a).length)) (j := .i64) (k := j) (sz := 1) rfl Tryd.underlying51 (by kernel_rfl) (by kernel_rfl) hp6 (by kernel_rfl) (by omega)) ?_
        obtain ⟨x7, hx7⟩ : ∃ x, ((cd a) : List Nat)[j]? = some x := ⟨_, List.getElem?_eq_getElem (by omega)⟩
        have lx7 : x7 < 65536 := dOk.at (cd_ok a) hx7
        refine Tw.lv (v := .int .i64 ((x7 : Nat) : Int)) rfl rfl (yb_ns (off := f6 + j * 1) rfl (by kernel_rfl) (fun W hW => hc6 W (hW.sub (fun q hq => by first | exact hq | (simp only [List.mem_cons, List.mem_append, List.nil_append, List.not_mem_nil, or_assoc, or_false, false_or] at hq ⊢ <;> grind))) _ _ hx7) Tryd.underlying3 rfl) ?_
        refine wpL_new (fun g => .slice (some ⟨g, 0, none⟩) 1 1) (obi := .cells #[.int .i64 ((x7 : Nat) : Int)] 3 (0, 0)) rfl rfl (fun _ => by kernel_rfl) (fun _ => by simp only [List.setIfInBounds_toArray, List.set_cons_succ, List.set_cons_zero] <;> rfl) fun g8 Bg8 Fg8 => ?_
        obtain ⟨dj9_0, dj9_1⟩ : g3 ≠ g8 ∧ Dk g8 Kt := by simpa only [dj_app_l, dj_app_r, dj_cons_l, dj_cons_r, dj_nil_l, dj_nil_r, dk_app, dk_cons, dk_nil, and_true, true_and, and_assoc] using (show Dk g8 ((g3, .cells (nums O).toArray 3 (0, 0)) :: Kt) from Fg8)
        refine Tw.lm (v := .slice pr ((cd r).length) cr) rfl rfl ?_
        refine wpL_g (AppO w 3 1 ((g3, .cells (nums O).toArray 3 (0, 0)) :: Kt) (1 + ((cd r).length)) ((nums [x7]) ++ nums (cd r))) rfl rfl (app_any el_int (m := ((cd r).length)) (news := nums (cd r)) rfl (by kernel_rfl) (by kernel_rfl) (src_ns (c := cr) Tryd.underlying51 (HR.mono (fun q hq => by first | exact hq | (simp only [List.mem_cons, List.mem_append, List.nil_append, List.not_mem_nil, or_assoc, or_false, false_or] at hq ⊢ <;> grind))) rfl) (own_row (xs := (nums [x7])) Bg8 rfl (by omega)) (fun p hp => by cases List.mem_singleton.1 hp; exact (.head _)) (fun p hp => ⟨by simp only [List.mem_cons, List.mem_append, List.nil_append, List.not_mem_nil, or_assoc, or_false, false_or] at hp ⊢ <;> grind, (show Dj ((g3, .cells (nums O).toArray 3 (0, 0)) :: Kt) [(g8, .cells #[.int .i64 ((x7 : Nat) : Int)] 3 (0, 0))] from (by (try simp only [dj_app_l, dj_app_r, dj_cons_l, dj_cons_r, dj_nil_l, dj_nil_r, dk_app, dk_cons, dk_nil, and_true, true_and, and_assoc]); repeat' (first | trivial | assumption | exact Dj.symm (by assumption) | exact Ne.symm (by assumption) | apply And.intro))) p hp⟩) (by omega) (by omega)) (fun _ => by simp only [List.setIfInBounds_toArray, List.set_cons_succ, List.set_cons_zero] <;> rfl) ?_
        rintro v10 K9 ⟨Kl10, O10, N10, rfl⟩
        replace O10 : OwnL w 3 1 v10 (1 + ((cd r).length)) (nums ([x7] ++ (cd r))) Kl10 := by rw [nums_app]; exact O10
        obtain ⟨dj11_0, dj11_1⟩ : Dk g3 Kl10 ∧ Dj Kt Kl10 := by simpa only [dj_app_l, dj_app_r, dj_cons_l, dj_cons_r, dj_nil_l, dj_nil_r, dk_app, dk_cons, dk_nil, and_true, true_and, and_assoc] using (show Dj ((g3, .cells (nums O).toArray 3 (0, 0)) :: Kt) Kl10 from N10)
        obtain ⟨p12, c12, rfl, hc12, HN12, HF12⟩ := own_ns O10
        obtain ⟨y, hy⟩ : ∃ y, y = x7 + 65536 * r := ⟨_, rfl⟩
        have hyl : (cd y).length ≤ (cd b).length - 1 + 2 := by rw [hy]; exact div_x lx7 hrb rfl hl0
        have hq : y / b < 65536 := by rw [hy]; exact quo_lt hb lx7 hrb
        refine Tw.lv (v := .slice p12 ((cd y).length) c12) rfl rfl (yb_call (f := 66) (args := #[.slice p12 (1 + ((cd r).length)) c12]) (fun _ => by kernel_rfl) fun W hW => trim_any ([x7] ++ (cd r)) y (1 + ((cd r).length)) p12 c12 ((show dOk [x7] from fun z hz => by cases List.mem_singleton.1 hz; exact lx7).app (cd_ok r)) ((dv_cons x7 r).trans hy.symm) (own_len O10).symm hc12 (by omega) W ((HN12.mono (fun q hq => by first | exact hq | (simp only [List.mem_cons, List.mem_append, List.nil_append, List.not_mem_nil, or_assoc, or_false, false_or] at hq ⊢ <;> grind))) W hW)) ?_
        refine Tw.lm (v := .slice p12 ((cd y).length) c12) rfl rfl ?_
        refine wpL_done (fun W9 hW9 => ?_)
        refine (show Code.wp _ _ _ _ _ from ?_)
        refine wp_seq ?_
        refine wp_region_L (W0 := w) ((g3, .cells (nums O).toArray 3 (0, 0)) :: (Kt ++ Kl10)) (hW9) ?_
        refine Tw.lm (v := .int .i64 0) rfl rfl ?_
        refine wpL_done (fun W10 hW10 => ?_)
        refine (show Code.wp _ _ _ _ _ from ?_)
        refine wp_seq ?_
        refine wp_seq ?_
        refine wp_region_L (W0 := w) ((g3, .cells (nums O).toArray 3 (0, 0)) :: (Kt ++ Kl10)) (hW10) ?_
        refine Tw.lm (v := .slice p12 ((cd y).length) c12) rfl rfl ?_
        refine Tw.lp (v := .int .i64 ((((cd y).length) : Nat) : Int)) rfl rfl (run_lenL (p := p12) (cap := c12) (n := ((cd y).length)) rfl Tryd.underlying51 (by kernel_rfl)) ?_
        refine Tw.lp (v := .int .i64 (((((cd y).length) : Nat) : Int) - 1)) rfl rfl (run_bin rfl (vx := (.int .i64 ((((cd y).length) : Nat) : Int))) (vy := (.int .i64 ((1 : Nat) : Int))) (by kernel_rfl) (by kernel_rfl) fun w => bi_sub (z := (((((cd y).length) : Nat) : Int) - 1)) rfl (wi_i64 (by omega)) w) ?_
        refine Tw.lm (v := .int .i64 (((((cd y).length) : Nat) : Int) - 1)) rfl rfl ?_
        refine wpL_done (fun W11 hW11 => ?_)
        refine (show Code.wp _ _ _ _ _ from ?_)
        refine wp_block ?_
        go_loopw [10, 11] (fun u10 u11 wr => ∃ (tp : Nat) (z2 : Int) (k2 : Nat), (z2 = (k2 : Int) - 1) ∧ (k2 ≤ (cd y).length) ∧ (tp = dv ((cd y).drop k2)) ∧ (((cd b).length - 1 ≤ k2 ∨ k2 = (cd y).length)) ∧ u10 = .int .i64 ((tp : Nat) : Int) ∧ u11 = .int .i64 z2 ∧ KS w ((g3, .cells (nums O).toArray 3 (0, 0)) :: (Kt ++ Kl10)) wr) (fun _ u11 _ => (intOf u11 + 1).toNat)
        case atStart => exact ⟨0, ((((cd y).length : Nat) : Int) - 1), (cd y).length, rfl, (Nat.le_refl _), (drop_big (Nat.le_refl _)).symm, (.inr rfl), rfl, rfl, (hW11.sub (fun p hp => by first | exact hp | (simp only [List.mem_cons, List.mem_append, List.nil_append, List.not_mem_nil, or_assoc, or_false, false_or, List.cons_append, List.append_assoc] at hp ⊢ <;> grind)))⟩
        case round =>
          obtain ⟨tp, z2, k2, hz2, hk2, htp, hkk, rfl, rfl, hL12⟩ := hrel
          refine wp_seq ?_
          refine wp_seq ?_
          refine wp_region_L (W0 := w) ((g3, .cells (nums O).toArray 3 (0, 0)) :: (Kt ++ Kl10)) (hL12) ?_
          refine Tw.lm (v := .int .i64 z2) rfl rfl ?_
          refine Tw.lm (v := .int .i64 ((((cd b).length) : Nat) : Int)) rfl rfl ?_
          refine Tw.lp (v := .int .i64 (((((cd b).length) : Nat) : Int) - 1)) rfl rfl (run_bin rfl (vx := (.int .i64 ((((cd b).length) : Nat) : Int))) (vy := (.int .i64 ((1 : Nat) : Int))) (by kernel_rfl) (by kernel_rfl) fun w => bi_sub (z := (((((cd b).length) : Nat) : Int) - 1)) rfl (wi_i64 (by omega)) w) ?_
          refine Tw.lp (v := .bool (!(decide (z2 < (((((cd b).length) : Nat) : Int) - 1))))) rfl rfl (run_bin rfl (vx := (.int .i64 z2)) (vy := (.int .i64 (((((cd b).length) : Nat) : Int) - 1))) (by kernel_rfl) (by kernel_rfl) fun w => bi_geq rfl w) ?_
          refine wpL_done (fun W13 hW13 => ?_)
          refine (show Code.wp _ _ _ _ _ from ?_)
          cases hd3 : (decide (z2 < (((((cd b).length) : Nat) : Int) - 1))) with
          | false =>
            have h3 : ¬ (z2 < (((((cd b).length) : Nat) : Int) - 1)) := of_decide_eq_false hd3
            clear hd3
            obtain ⟨j2, rfl⟩ := Int.eq_ofNat_of_zero_le (show 0 ≤ z2 by omega)
            obtain rfl : k2 = j2 + 1 := by omega
            have htb : tp < 65536 := by rw [htp]; exact drop_lt (cd_ok y) (j2 + 1) 1 (by omega)
            refine wp_cond_true rfl ?_
            refine wp_skip ?_
            refine (show Code.wp _ _ _ _ _ from ?_)
            refine wp_seq ?_
            refine wp_block ?_
            refine wp_region_L (W0 := w) ((g3, .cells (nums O).toArray 3 (0, 0)) :: (Kt ++ Kl10)) (hW13) ?_
            refine Tw.lm (v := .int .i64 ((tp : Nat) : Int)) rfl rfl ?_
            refine Tw.lp (v := .int .i64 (((tp * 65536) : Nat) : Int)) rfl rfl (run_bin rfl (vx := (.int .i64 ((tp : Nat) : Int))) (vy := (.int .i64 ((65536 : Nat) : Int))) (by kernel_rfl) (by kernel_rfl) fun w => bn_mul (z := (tp * 65536)) rfl (wr_i64 (by omega)) w) ?_
            refine Tw.lm (v := .slice p12 ((cd y).length) c12) rfl rfl ?_
            refine Tw.lm (v := .int .i64 ((j2 : Nat) : Int)) rfl rfl ?_
            obtain ⟨b13, f13, hp13, hc13⟩ := ((ns_trim HN12 ((show dOk [x7] from fun z hz => by cases List.mem_singleton.1 hz; exact lx7).app (cd_ok r)) ((dv_cons x7 r).trans hy.symm)).mono (fun q hq => by first | exact hq | (simp only [List.mem_cons, List.mem_append, List.nil_append, List.not_mem_nil, or_assoc, or_false, false_or] at hq ⊢ <;> grind))).at hW13 (k := j2) (by omega)
            refine Tw.lp (v := .pointer (some ⟨b13, f13 + j2 * 1, none⟩)) rfl rfl (run_idxQ (p := p12) (cap := c12) (n := ((cd y).length)) (j := .i64) (k := j2) (sz := 1) rfl Tryd.underlying51 (by kernel_rfl) (by kernel_rfl) hp13 (by kernel_rfl) (by omega)) ?_
            obtain ⟨x14, hx14⟩ : ∃ x, ((cd y) : List Nat)[j2]? = some x := ⟨_, List.getElem?_eq_getElem (by omega)⟩
            have lx14 : x14 < 65536 := dOk.at (cd_ok y) hx14
            refine Tw.lv (v := .int .i64 ((x14 : Nat) : Int)) rfl rfl (yb_ns (off := f13 + j2 * 1) rfl (by kernel_rfl) (fun W hW => hc13 W (hW.sub (fun q hq => by first | exact hq | (simp only [List.mem_cons, List.mem_append, List.nil_append, List.not_mem_nil, or_assoc, or_false, false_or] at hq ⊢ <;> grind))) _ _ hx14) Tryd.underlying3 rfl) ?_
            refine Tw.lp (v := .int .i64 ((((tp * 65536) + x14) : Nat) : Int)) rfl rfl (run_bin rfl (vx := (.int .i64 (((tp * 65536) : Nat) : Int))) (vy := (.int .i64 ((x14 : Nat) : Int))) (by kernel_rfl) (by kernel_rfl) fun w => bn_add (z := ((tp * 65536) + x14)) rfl (wr_i64 (by omega)) w) ?_
            refine Tw.lm (v := .int .i64 ((((tp * 65536) + x14) : Nat) : Int)) rfl rfl ?_
            refine wpL_done (fun W14 hW14 => ?_)
            refine (show Code.wp _ _ _ _ _ from ?_)
            refine wp_region_L (W0 := w) ((g3, .cells (nums O).toArray 3 (0, 0)) :: (Kt ++ Kl10)) (hW14) ?_
            refine Tw.lm (v := .int .i64 ((j2 : Nat) : Int)) rfl rfl ?_
            refine Tw.lp (v := .int .i64 (((j2 : Nat) : Int) - 1)) rfl rfl (run_bin rfl (vx := (.int .i64 ((j2 : Nat) : Int))) (vy := (.int .i64 ((1 : Nat) : Int))) (by kernel_rfl) (by kernel_rfl) fun w => bi_sub (z := (((j2 : Nat) : Int) - 1)) rfl (wi_i64 (by omega)) w) ?_
            refine Tw.lm (v := .int .i64 (((j2 : Nat) : Int) - 1)) rfl rfl ?_
            refine wpL_done (fun W15 hW15 => ?_)
            go_roundw
            case rel =>
              repeat apply Exists.intro
              exact ⟨⟨((tp * 65536) + x14), (((j2 : Nat) : Int) - 1), j2, rfl, (by omega), (by have e := dv_drop hx14; rw [← htp] at e; omega), (.inl (by omega)), rfl, rfl, (hW15.sub (fun p hp => by first | exact hp | (simp only [List.mem_cons, List.mem_append, List.nil_append, List.not_mem_nil, or_assoc, or_false, false_or, List.cons_append, List.append_assoc] at hp ⊢ <;> grind)))⟩, rfl⟩
            case measure => (show (intOf (.int .i64 (((j2 : Nat) : Int) - 1)) + 1).toNat < (intOf (.int .i64 ((j2 : Nat) : Int)) + 1).toNat); simp only [intOf]; omega
          | true =>
            have h3 : z2 < (((((cd b).length) : Nat) : Int) - 1) := of_decide_eq_true hd3
            clear hd3
            refine wp_cond_false rfl ?_
            refine wp_exit ?_
            refine (show Code.wp _ _ _ _ _ from ?_)
            refine wp_seq ?_
            have htop : tp = y / 65536 ^ ((cd b).length - 1) := by
              refine top_val hyl ?_
              rcases hkk with h | h
              · rw [htp, show k2 = (cd b).length - 1 from by omega]
              · rcases Nat.lt_or_ge k2 ((cd b).length - 1) with h3 | h3
                · rw [htp, drop_big (Nat.le_of_eq h.symm), drop_big (by omega)]
                · rw [htp, show k2 = (cd b).length - 1 from by omega]
            have htb2 : tp < 4294967296 := by rw [htp]; exact drop_lt (cd_ok y) k2 2 (by omega)
            obtain ⟨x15, hx15⟩ : ∃ x, ((cd b) : List Nat)[(((cd b).length) - 1)]? = some x := ⟨_, List.getElem?_eq_getElem (by omega)⟩
            have lx15 : x15 < 65536 := dOk.at (cd_ok b) hx15
            have hd1 : tp / (x15 + 1) ≤ tp := Nat.div_le_self _ _
            have hd2 : tp / x15 ≤ tp := Nat.div_le_self _ _
            have ht0 : 0 < x15 := (top_digit (n := (cd b).length - 1) (by omega) hx15).1
            refine wp_region_V (W0 := w) ((g3, .cells (nums O).toArray 3 (0, 0)) :: (Kt ++ Kl10)) (by kernel_rfl) (hW13) ?_
            refine vm (i := 0) (v := .int .i64 ((tp : Nat) : Int)) rfl rfl rfl ?_
            refine vm (i := 1) (v := .slice q ((cd b).length) d) rfl rfl rfl ?_
            refine vm (i := 2) (v := .int .i64 ((((cd b).length) : Nat) : Int)) rfl rfl rfl ?_
            refine vp (i := 3) (v := .int .i64 (((((cd b).length) - 1) : Nat) : Int)) rfl rfl rfl (run_bin rfl (vx := (.int .i64 ((((cd b).length) : Nat) : Int))) (vy := (.int .i64 ((1 : Nat) : Int))) (by kernel_rfl) (by kernel_rfl) fun w => bn_sub (z := (((cd b).length) - 1)) rfl (by omega) (wr_i64 (by omega)) w) ?_
            obtain ⟨b16, f16, hp16, hc16⟩ := (HQ.mono (fun q hq => by first | exact hq | (simp only [List.mem_cons, List.mem_append, List.nil_append, List.not_mem_nil, or_assoc, or_false, false_or] at hq ⊢ <;> grind))).at hW13 (k := (((cd b).length) - 1)) (by omega)
            refine vp (i := 4) (v := .pointer (some ⟨b16, f16 + (((cd b).length) - 1) * 1, none⟩)) rfl rfl rfl (run_idxQ (p := q) (cap := d) (n := ((cd b).length)) (j := .i64) (k := (((cd b).length) - 1)) (sz := 1) rfl Tryd.underlying51 (by kernel_rfl) (by kernel_rfl) hp16 (by kernel_rfl) (by omega)) ?_
            refine vv (i := 5) (v := .int .i64 ((x15 : Nat) : Int)) rfl rfl rfl (yb_ns (off := f16 + (((cd b).length) - 1) * 1) rfl (by kernel_rfl) (fun W hW => hc16 W (hW.sub (fun q hq => by first | exact hq | (simp only [List.mem_cons, List.mem_append, List.nil_append, List.not_mem_nil, or_assoc, or_false, false_or] at hq ⊢ <;> grind))) _ _ hx15) Tryd.underlying3 rfl) ?_
            refine vp (i := 6) (v := .int .i64 (((x15 + 1) : Nat) : Int)) rfl rfl rfl (run_bin rfl (vx := (.int .i64 ((x15 : Nat) : Int))) (vy := (.int .i64 ((1 : Nat) : Int))) (by kernel_rfl) (by kernel_rfl) fun w => bn_add (z := (x15 + 1)) rfl (wr_i64 (by omega)) w) ?_
            refine vp (i := 7) (v := .int .i64 (((tp / (x15 + 1)) : Nat) : Int)) rfl rfl rfl (run_bin rfl (vx := (.int .i64 ((tp : Nat) : Int))) (vy := (.int .i64 (((x15 + 1) : Nat) : Int))) (by kernel_rfl) (by kernel_rfl) fun w => bn_quo (z := (tp / (x15 + 1))) rfl (by omega) (wr_i64 (by omega)) w) ?_
            refine vm (i := 8) (v := .int .i64 ((tp : Nat) : Int)) rfl rfl rfl ?_
            refine vm (i := 9) (v := .slice q ((cd b).length) d) rfl rfl rfl ?_
            refine vm (i := 10) (v := .int .i64 ((((cd b).length) : Nat) : Int)) rfl rfl rfl ?_
            refine vp (i := 11) (v := .int .i64 (((((cd b).length) - 1) : Nat) : Int)) rfl rfl rfl (run_bin rfl (vx := (.int .i64 ((((cd b).length) : Nat) : Int))) (vy := (.int .i64 ((1 : Nat) : Int))) (by kernel_rfl) (by kernel_rfl) fun w => bn_sub (z := (((cd b).length) - 1)) rfl (by omega) (wr_i64 (by omega)) w) ?_
            refine vp (i := 12) (v := .pointer (some ⟨b16, f16 + (((cd b).length) - 1) * 1, none⟩)) rfl rfl rfl (run_idxQ (p := q) (cap := d) (n := ((cd b).length)) (j := .i64) (k := (((cd b).length) - 1)) (sz := 1) rfl Tryd.underlying51 (by kernel_rfl) (by kernel_rfl) hp16 (by kernel_rfl) (by omega)) ?_
            refine vv (i := 13) (v := .int .i64 ((x15 : Nat) : Int)) rfl rfl rfl (yb_ns (off := f16 + (((cd b).length) - 1) * 1) rfl (by kernel_rfl) (fun W hW => hc16 W (hW.sub (fun q hq => by first | exact hq | (simp only [List.mem_cons, List.mem_append, List.nil_append, List.not_mem_nil, or_assoc, or_false, false_or] at hq ⊢ <;> grind))) _ _ hx15) Tryd.underlying3 rfl) ?_
            refine vp (i := 14) (v := .int .i64 (((tp / x15) : Nat) : Int)) rfl rfl rfl (run_bin rfl (vx := (.int .i64 ((tp : Nat) : Int))) (vy := (.int .i64 ((x15 : Nat) : Int))) (by kernel_rfl) (by kernel_rfl) fun w => bn_quo (z := (tp / x15)) rfl (by omega) (wr_i64 (by omega)) w) ?_
            refine vp (i := 15) (v := .int .i64 (((min (tp / x15) 65535) : Nat) : Int)) rfl rfl rfl (run_minN rfl (x := (tp / x15)) (y := 65535) (by kernel_rfl) (by kernel_rfl)) ?_
            refine vm (i := 16) (v := .int .i64 (((tp / (x15 + 1)) : Nat) : Int)) rfl rfl rfl ?_
            refine vm (i := 17) (v := .int .i64 (((min (tp / x15) 65535) : Nat) : Int)) rfl rfl rfl ?_
            refine wpV_done (by kernel_rfl) (fun W16 hW16 => ?_) _
            refine (show Code.wp _ _ _ _ _ from ?_)
            refine wp_seq ?_
            refine wp_block ?_
            obtain ⟨hlo0, hhi0, ht0⟩ := div_bounds (x := y) rfl hl0 hx15 (lo := (tp / (x15 + 1))) (hi := (min (tp / x15) 65535)) (by rw [← htop]) (by rw [← htop]) hq hb
            go_loopw [12, 13] (fun u12 u13 wr => ∃ (lo hi : Nat), (lo ≤ y / b) ∧ (y / b ≤ hi) ∧ (hi ≤ 65535) ∧ u12 = .int .i64 ((lo : Nat) : Int) ∧ u13 = .int .i64 ((hi : Nat) : Int) ∧ KS w ((g3, .cells (nums O).toArray 3 (0, 0)) :: (Kt ++ Kl10)) wr) (fun u12 u13 _ => (intOf u13 - intOf u12).toNat)
            case atStart => exact ⟨(tp / (x15 + 1)), (min (tp / x15) 65535), hlo0, hhi0, (by omega), rfl, rfl, (hW16.sub (fun p hp => by first | exact hp | (simp only [List.mem_cons, List.mem_append, List.nil_append, List.not_mem_nil, or_assoc, or_false, false_or, List.cons_append, List.append_assoc] at hp ⊢ <;> grind)))⟩
            case round =>
              obtain ⟨lo, hi, hlo, hhi, hh, rfl, rfl, hL17⟩ := hrel
              refine wp_seq ?_
              refine wp_seq ?_
              refine wp_region_L (W0 := w) ((g3, .cells (nums O).toArray 3 (0, 0)) :: (Kt ++ Kl10)) (hL17) ?_
              refine Tw.lm (v := .int .i64 ((lo : Nat) : Int)) rfl rfl ?_
              refine Tw.lm (v := .int .i64 ((hi : Nat) : Int)) rfl rfl ?_
              refine Tw.lp (v := .bool (decide (lo < hi))) rfl rfl (run_bin rfl (vx := (.int .i64 ((lo : Nat) : Int))) (vy := (.int .i64 ((hi : Nat) : Int))) (by kernel_rfl) (by kernel_rfl) fun w => bn_lss rfl w) ?_
              refine wpL_done (fun W18 hW18 => ?_)
              refine (show Code.wp _ _ _ _ _ from ?_)
              cases hd4 : (decide (lo < hi)) with
              | false =>
                have h4 : ¬ (lo < hi) := of_decide_eq_false hd4
                clear hd4
                refine wp_cond_false rfl ?_
                refine wp_exit ?_
                refine (show Code.wp _ _ _ _ _ from ?_)
                refine wp_seq ?_
                refine wp_region_L (W0 := w) ((g3, .cells (nums O).toArray 3 (0, 0)) :: (Kt ++ Kl10)) (hW18) ?_
                refine Tw.lm (v := .slice (some ⟨g3, 0, none⟩) ((((cd a).length) - ((cd b).length)) + 1) ((((cd a).length) - ((cd b).length)) + 1)) rfl rfl ?_
                refine Tw.lm (v := .int .i64 ((j : Nat) : Int)) rfl rfl ?_
                refine Tw.lm (v := .int .i64 ((lo : Nat) : Int)) rfl rfl ?_
                refine Tw.lp (v := .pointer (some ⟨g3, 0 + j * 1, none⟩)) rfl rfl (run_idxL (j := .i64) (n := ((((cd a).length) - ((cd b).length)) + 1)) (cap := ((((cd a).length) - ((cd b).length)) + 1)) (b := g3) (off := 0) (k := j) (sz := 1) rfl Tryd.underlying51 (by kernel_rfl) (by kernel_rfl) (by kernel_rfl) (by omega)) ?_
                refine wpL_s ((g3, .cells (nums (O.set j lo)).toArray 3 (0, 0)) :: (Kt ++ Kl10)) rfl rfl (st_to (off := 0 + j * 1) (nums_set O j lo) rfl (by kernel_rfl) (by kernel_rfl) (.head _) Bg3 (by kernel_rfl) rfl rfl (by simp only [List.size_toArray, nums_len]; omega) (.inr rfl) (List.forall_mem_cons.2 ⟨.inl rfl, (fun p hp => .inr ⟨(.tail _ hp), ((show Dk g3 (Kt ++ Kl10) from (by (try simp only [dj_app_l, dj_app_r, dj_cons_l, dj_cons_r, dj_nil_l, dj_nil_r, dk_app, dk_cons, dk_nil, and_true, true_and, and_assoc]); repeat' (first | trivial | assumption | exact Dj.symm (by assumption) | exact Ne.symm (by assumption) | apply And.intro))) _ hp)⟩)⟩)) ?_
                refine wpL_done (fun W19 hW19 => ?_)
                refine (show Code.wp _ _ _ _ _ from ?_)
                refine wp_region_L (W0 := w) ((g3, .cells (nums (O.set j lo)).toArray 3 (0, 0)) :: (Kt ++ Kl10)) (hW19) ?_
                refine Tw.lm (v := .slice p12 ((cd y).length) c12) rfl rfl ?_
                refine Tw.lm (v := .slice q ((cd b).length) d) rfl rfl ?_
                refine Tw.lm (v := .int .i64 ((lo : Nat) : Int)) rfl rfl ?_
                refine wpL_c (f := 67) (args := #[.slice q ((cd b).length) d, .int .i64 ((lo : Nat) : Int)]) (AnsG w ((g3, .cells (nums (O.set j lo)).toArray 3 (0, 0)) :: (Kt ++ Kl10)) (cd (b * lo))) rfl (by kernel_rfl) (fun _ => (by kernel_rfl)) (fun W hW => (scale_any b lo q d (by omega) (by omega) W ((HQ.mono (fun q hq => by first | exact hq | (simp only [List.mem_cons, List.mem_append, List.nil_append, List.not_mem_nil, or_assoc, or_false, false_or] at hq ⊢ <;> grind))) W hW)).mono fun e w2 h => Ans.g h hW) (fun _ => by simp only [List.setIfInBounds_toArray, List.set_cons_succ, List.set_cons_zero] <;> rfl) ?_
                rintro v17 _ ⟨q17, d17, T17, rfl, C17, H17, F17, J17, rfl⟩
                obtain ⟨dj18_0, dj18_1, dj18_2⟩ : Dk g3 T17 ∧ Dj Kt T17 ∧ Dj Kl10 T17 := by simpa only [dj_app_l, dj_app_r, dj_cons_l, dj_cons_r, dj_nil_l, dj_nil_r, dk_app, dk_cons, dk_nil, and_true, true_and, and_assoc] using (show Dj ((g3, .cells (nums (O.set j lo)).toArray 3 (0, 0)) :: (Kt ++ Kl10)) T17 from J17)
                have hlq : lo = y / b := by omega
                refine wpL_c (f := 68) (args := #[.slice p12 ((cd y).length) c12, .slice q17 ((cd (b * lo)).length) d17]) (AnsG w ((g3, .cells (nums (O.set j lo)).toArray 3 (0, 0)) :: ((Kt ++ Kl10) ++ T17)) (cd (y - (b * lo)))) rfl (by kernel_rfl) (fun _ => (by kernel_rfl)) (fun W hW => (sub_any y (b * lo) p12 q17 c12 d17 (by rw [hlq]; exact Nat.mul_div_le y b) (by omega) W (((ns_trim HN12 ((show dOk [x7] from fun z hz => by cases List.mem_singleton.1 hz; exact lx7).app (cd_ok r)) ((dv_cons x7 r).trans hy.symm)).mono (fun q hq => by first | exact hq | (simp only [List.mem_cons, List.mem_append, List.nil_append, List.not_mem_nil, or_assoc, or_false, false_or] at hq ⊢ <;> grind))) W hW) ((H17.mono (fun q hq => by first | exact hq | (simp only [List.mem_cons, List.mem_append, List.nil_append, List.not_mem_nil, or_assoc, or_false, false_or] at hq ⊢ <;> grind))) W hW)).mono fun e w2 h => Ans.g h hW) (fun _ => by simp only [List.setIfInBounds_toArray, List.set_cons_succ, List.set_cons_zero] <;> rfl) ?_
                rintro v19 _ ⟨q19, d19, T19, rfl, C19, H19, F19, J19, rfl⟩
                obtain ⟨dj20_0, dj20_1, dj20_2, dj20_3⟩ : Dk g3 T19 ∧ Dj Kt T19 ∧ Dj Kl10 T19 ∧ Dj T17 T19 := by simpa only [dj_app_l, dj_app_r, dj_cons_l, dj_cons_r, dj_nil_l, dj_nil_r, dk_app, dk_cons, dk_nil, and_true, true_and, and_assoc] using (show Dj ((g3, .cells (nums (O.set j lo)).toArray 3 (0, 0)) :: ((Kt ++ Kl10) ++ T17)) T19 from J19)
                refine Tw.lm (v := .slice q19 ((cd (y - (b * lo))).length) d19) rfl rfl ?_
                refine wpL_done (fun W20 hW20 => ?_)
                refine (show Code.wp _ _ _ _ _ from ?_)
                refine wp_region_L (W0 := w) ((g3, .cells (nums (O.set j lo)).toArray 3 (0, 0)) :: (((Kt ++ Kl10) ++ T17) ++ T19)) (hW20) ?_
                refine Tw.lm (v := .int .i64 ((j : Nat) : Int)) rfl rfl ?_
                refine Tw.lp (v := .int .i64 (((j : Nat) : Int) - 1)) rfl rfl (run_bin rfl (vx := (.int .i64 ((j : Nat) : Int))) (vy := (.int .i64 ((1 : Nat) : Int))) (by kernel_rfl) (by kernel_rfl) fun w => bi_sub (z := (((j : Nat) : Int) - 1)) rfl (wi_i64 (by omega)) w) ?_
                refine Tw.lm (v := .int .i64 (((j : Nat) : Int) - 1)) rfl rfl ?_
                refine wpL_done (fun W21 hW21 => ?_)
                go_roundw
                case rel =>
                  repeat apply Exists.intro
                  exact ⟨⟨(((j : Nat) : Int) - 1), j, q19, d19, (y - (b * lo)), (O.set j lo), (Kt ++ (Kl10 ++ (T17 ++ T19))), (H19.mono (fun q hq => by first | exact hq | (simp only [List.mem_cons, List.mem_append, List.nil_append, List.not_mem_nil, or_assoc, or_false, false_or] at hq ⊢ <;> grind))), C19, rfl, (by simpa using hOl), (by omega), (by rw [hy]; exact (quo_digit hx7 hr hb (show lo = _ from by rw [← hy]; omega) (by omega) hOv).2), (quo_digit hx7 hr hb (show lo = _ from by rw [← hy]; omega) (by omega) hOv).1, (hOk.set (by omega)), (show Dk g3 (Kt ++ (Kl10 ++ (T17 ++ T19))) from (by (try simp only [dj_app_l, dj_app_r, dj_cons_l, dj_cons_r, dj_nil_l, dj_nil_r, dk_app, dk_cons, dk_nil, and_true, true_and, and_assoc]); repeat' (first | trivial | assumption | exact Dj.symm (by assumption) | exact Ne.symm (by assumption) | apply And.intro))), rfl, rfl, (hW21.sub (fun p hp => by first | exact hp | (simp only [List.mem_cons, List.mem_append, List.nil_append, List.not_mem_nil, or_assoc, or_false, false_or, List.cons_append, List.append_assoc] at hp ⊢ <;> grind)))⟩, rfl⟩
                case measure => (show (intOf (.int .i64 (((j : Nat) : Int) - 1)) + 1).toNat < (intOf (.int .i64 ((j : Nat) : Int)) + 1).toNat); simp only [intOf]; omega
              | true =>
                have h4 : lo < hi := of_decide_eq_true hd4
                clear hd4
                refine wp_cond_true rfl ?_
                refine wp_skip ?_
                refine (show Code.wp _ _ _ _ _ from ?_)
                refine wp_block ?_
                refine wp_seq ?_
                refine wp_region_L (W0 := w) ((g3, .cells (nums O).toArray 3 (0, 0)) :: (Kt ++ Kl10)) (hW18) ?_
                refine Tw.lm (v := .int .i64 ((lo : Nat) : Int)) rfl rfl ?_
                refine Tw.lm (v := .int .i64 ((hi : Nat) : Int)) rfl rfl ?_
                refine Tw.lp (v := .int .i64 (((lo + hi) : Nat) : Int)) rfl rfl (run_bin rfl (vx := (.int .i64 ((lo : Nat) : Int))) (vy := (.int .i64 ((hi : Nat) : Int))) (by kernel_rfl) (by kernel_rfl) fun w => bn_add (z := (lo + hi)) rfl (wr_i64 (by omega)) w) ?_
                refine Tw.lp (v := .int .i64 ((((lo + hi) + 1) : Nat) : Int)) rfl rfl (run_bin rfl (vx := (.int .i64 (((lo + hi) : Nat) : Int))) (vy := (.int .i64 ((1 : Nat) : Int))) (by kernel_rfl) (by kernel_rfl) fun w => bn_add (z := ((lo + hi) + 1)) rfl (wr_i64 (by omega)) w) ?_
                refine Tw.lp (v := .int .i64 (((((lo + hi) + 1) / 2) : Nat) : Int)) rfl rfl (run_bin rfl (vx := (.int .i64 ((((lo + hi) + 1) : Nat) : Int))) (vy := (.int .i64 ((2 : Nat) : Int))) (by kernel_rfl) (by kernel_rfl) fun w => bn_quo (z := (((lo + hi) + 1) / 2)) rfl (by omega) (wr_i64 (by omega)) w) ?_
                refine Tw.lm (v := .int .i64 (((((lo + hi) + 1) / 2) : Nat) : Int)) rfl rfl ?_
                refine wpL_done (fun W22 hW22 => ?_)
                refine (show Code.wp _ _ _ _ _ from ?_)
                refine wp_seq ?_
                refine wp_region_L (W0 := w) ((g3, .cells (nums O).toArray 3 (0, 0)) :: (Kt ++ Kl10)) (hW22) ?_
                refine Tw.lm (v := .slice p12 ((cd y).length) c12) rfl rfl ?_
                refine Tw.lm (v := .slice q ((cd b).length) d) rfl rfl ?_
                refine Tw.lm (v := .int .i64 (((((lo + hi) + 1) / 2) : Nat) : Int)) rfl rfl ?_
                refine wpL_c (f := 67) (args := #[.slice q ((cd b).length) d, .int .i64 (((((lo + hi) + 1) / 2) : Nat) : Int)]) (AnsG w ((g3, .cells (nums O).toArray 3 (0, 0)) :: (Kt ++ Kl10)) (cd (b * (((lo + hi) + 1) / 2)))) rfl (by kernel_rfl) (fun _ => (by kernel_rfl)) (fun W hW => (scale_any b (((lo + hi) + 1) / 2) q d (by omega) (by omega) W ((HQ.mono (fun q hq => by first | exact hq | (simp only [List.mem_cons, List.mem_append, List.nil_append, List.not_mem_nil, or_assoc, or_false, false_or] at hq ⊢ <;> grind))) W hW)).mono fun e w2 h => Ans.g h hW) (fun _ => by simp only [List.setIfInBounds_toArray, List.set_cons_succ, List.set_cons_zero] <;> rfl) ?_
                rintro v21 _ ⟨q21, d21, T21, rfl, C21, H21, F21, J21, rfl⟩
                obtain ⟨dj22_0, dj22_1, dj22_2⟩ : Dk g3 T21 ∧ Dj Kt T21 ∧ Dj Kl10 T21 := by simpa only [dj_app_l, dj_app_r, dj_cons_l, dj_cons_r, dj_nil_l, dj_nil_r, dk_app, dk_cons, dk_nil, and_true, true_and, and_assoc] using (show Dj ((g3, .cells (nums O).toArray 3 (0, 0)) :: (Kt ++ Kl10)) T21 from J21)
                refine Tw.lv (v := .bool (decide (y < (b * (((lo + hi) + 1) / 2))))) rfl rfl (yb_call (f := 65) (args := #[.slice p12 ((cd y).length) c12, .slice q21 ((cd (b * (((lo + hi) + 1) / 2))).length) d21]) (fun _ => by kernel_rfl) fun W hW => less_any y (b * (((lo + hi) + 1) / 2)) p12 q21 c12 d21 (by omega) W (((ns_trim HN12 ((show dOk [x7] from fun z hz => by cases List.mem_singleton.1 hz; exact lx7).app (cd_ok r)) ((dv_cons x7 r).trans hy.symm)).mono (fun q hq => by first | exact hq | (simp only [List.mem_cons, List.mem_append, List.nil_append, List.not_mem_nil, or_assoc, or_false, false_or] at hq ⊢ <;> grind))) W hW) ((H21.mono (fun q hq => by first | exact hq | (simp only [List.mem_cons, List.mem_append, List.nil_append, List.not_mem_nil, or_assoc, or_false, false_or] at hq ⊢ <;> grind))) W hW)) ?_
                refine wpL_done (fun W23 hW23 => ?_)
                refine (show Code.wp _ _ _ _ _ from ?_)
                cases hd5 : (decide (y < (b * (((lo + hi) + 1) / 2)))) with
                | false =>
                  have h5 : ¬ (y < (b * (((lo + hi) + 1) / 2))) := of_decide_eq_false hd5
                  clear hd5
                  refine wp_cond_false rfl ?_
                  refine wp_region_L (W0 := w) ((g3, .cells (nums O).toArray 3 (0, 0)) :: ((Kt ++ Kl10) ++ T21)) (hW23) ?_
                  refine Tw.lm (v := .int .i64 (((((lo + hi) + 1) / 2) : Nat) : Int)) rfl rfl ?_
                  refine Tw.lm (v := .int .i64 (((((lo + hi) + 1) / 2) : Nat) : Int)) rfl rfl ?_
                  refine wpL_done (fun W24 hW24 => ?_)
                  go_roundw
                  case rel =>
                    repeat apply Exists.intro
                    exact ⟨⟨(((lo + hi) + 1) / 2), hi, (mid_geq hb h5), hhi, (by omega), rfl, rfl, (hW24.sub (fun p hp => by first | exact hp | (simp only [List.mem_cons, List.mem_append, List.nil_append, List.not_mem_nil, or_assoc, or_false, false_or, List.cons_append, List.append_assoc] at hp ⊢ <;> grind)))⟩, rfl⟩
                  case measure => (show (intOf (.int .i64 ((hi : Nat) : Int)) - intOf (.int .i64 (((((lo + hi) + 1) / 2) : Nat) : Int))).toNat < (intOf (.int .i64 ((hi : Nat) : Int)) - intOf (.int .i64 ((lo : Nat) : Int))).toNat); simp only [intOf]; omega
                | true =>
                  have h5 : y < (b * (((lo + hi) + 1) / 2)) := of_decide_eq_true hd5
                  clear hd5
                  refine wp_cond_true rfl ?_
                  refine wp_region_L (W0 := w) ((g3, .cells (nums O).toArray 3 (0, 0)) :: ((Kt ++ Kl10) ++ T21)) (hW23) ?_
                  refine Tw.lm (v := .int .i64 (((((lo + hi) + 1) / 2) : Nat) : Int)) rfl rfl ?_
                  refine Tw.lp (v := .int .i64 ((((((lo + hi) + 1) / 2) - 1) : Nat) : Int)) rfl rfl (run_bin rfl (vx := (.int .i64 (((((lo + hi) + 1) / 2) : Nat) : Int))) (vy := (.int .i64 ((1 : Nat) : Int))) (by kernel_rfl) (by kernel_rfl) fun w => bn_sub (z := ((((lo + hi) + 1) / 2) - 1)) rfl (by omega) (wr_i64 (by omega)) w) ?_
                  refine Tw.lm (v := .int .i64 ((((((lo + hi) + 1) / 2) - 1) : Nat) : Int)) rfl rfl ?_
                  refine wpL_done (fun W25 hW25 => ?_)
                  go_roundw
                  case rel =>
                    repeat apply Exists.intro
                    exact ⟨⟨lo, ((((lo + hi) + 1) / 2) - 1), hlo, (by have := mid_less hb h5; omega), (by omega), rfl, rfl, (hW25.sub (fun p hp => by first | exact hp | (simp only [List.mem_cons, List.mem_append, List.nil_append, List.not_mem_nil, or_assoc, or_false, false_or, List.cons_append, List.append_assoc] at hp ⊢ <;> grind)))⟩, rfl⟩
                  case measure => (show (intOf (.int .i64 ((((((lo + hi) + 1) / 2) - 1) : Nat) : Int)) - intOf (.int .i64 ((lo : Nat) : Int))).toNat < (intOf (.int .i64 ((hi : Nat) : Int)) - intOf (.int .i64 ((lo : Nat) : Int))).toNat); simp only [intOf]; omega
      | true =>
        have h2 : z < 0 := of_decide_eq_true hd2
        clear hd2
        refine wp_cond_false rfl ?_
        refine wp_exit ?_
        refine (show Code.wp _ _ _ _ _ from ?_)
        refine wp_seq ?_
        obtain rfl : k = 0 := by omega
        have hQ : dv O = a / b := cd_quo a b O hOv
        have hR2 : r = a % b := by rw [hr, List.drop_zero, dv_cd]
        clear hr
        subst hR2
        refine wp_region_L (W0 := w) ((g3, .cells (nums O).toArray 3 (0, 0)) :: Kt) (hW8) ?_
        refine Tw.lm (v := .slice (some ⟨g3, 0, none⟩) ((((cd a).length) - ((cd b).length)) + 1) ((((cd a).length) - ((cd b).length)) + 1)) rfl rfl ?_
        refine Tw.lv (v := .slice (some ⟨g3, 0, none⟩) ((cd (a / b)).length) ((((cd a).length) - ((cd b).length)) + 1)) rfl rfl (yb_call (f := 66) (args := #[.slice (some ⟨g3, 0, none⟩) ((((cd a).length) - ((cd b).length)) + 1) ((((cd a).length) - ((cd b).length)) + 1)]) (fun _ => by kernel_rfl) fun W hW => trim_any O (a / b) ((((cd a).length) - ((cd b).length)) + 1) (some ⟨g3, 0, none⟩) ((((cd a).length) - ((cd b).length)) + 1) hOk hQ hOl.symm (Nat.le_refl _) (by omega) W (((show NS (w : Base) (some ⟨g3, 0, none⟩) O [(g3, .cells (nums O).toArray 3 (0, 0))] from ns_blk).mono (fun q hq => by first | exact hq | (simp only [List.mem_cons, List.mem_append, List.nil_append, List.not_mem_nil, or_assoc, or_false, false_or] at hq ⊢ <;> grind))) W hW)) ?_
        refine Tw.lm (v := .slice pr ((cd (a % b)).length) cr) rfl rfl ?_
        refine Tw.lm (v := .slice (some ⟨g3, 0, none⟩) ((cd (a / b)).length) ((((cd a).length) - ((cd b).length)) + 1)) rfl rfl ?_
        refine Tw.lm (v := .slice pr ((cd (a % b)).length) cr) rfl rfl ?_
        refine wpL_done (fun W26 hW26 => ?_)
        refine (show Code.wp _ _ _ _ _ from ?_)
        refine wp_ret ?_
        try simp only [inBlock_ret, then_ret]
        refine bodyPost_ret (v := .tuple #[.slice (some ⟨g3, 0, none⟩) ((cd (a / b)).length) ((((cd a).length) - ((cd b).length)) + 1), .slice pr ((cd (a % b)).length) cr]) ?_ rfl ?_
        · kernel_rfl
        · exact ⟨_, _, _, _, rfl, (Nat.le_trans (cd_trim_le hOk hQ hOl.symm) (Nat.le_refl _)), hcr, (((ns_trim (show NS (w : Base) (some ⟨g3, 0, none⟩) O [(g3, .cells (nums O).toArray 3 (0, 0))] from ns_blk) hOk hQ).mono (fun q hq => by first | exact hq | (simp only [List.mem_cons, List.mem_append, List.nil_append, List.not_mem_nil, or_assoc, or_false, false_or] at hq ⊢ <;> grind)))) _ hW26, ((HR.mono (fun q hq => by first | exact hq | (simp only [List.mem_cons, List.mem_append, List.nil_append, List.not_mem_nil, or_assoc, or_false, false_or] at hq ⊢ <;> grind)))) _ hW26, hW26.1⟩
  | true =>
    have h1 : a < b := of_decide_eq_true hd1
    clear hd1
    have ha := h1
    refine wp_cond_true rfl ?_
    refine wp_seq ?_
    refine wp_region_L (W0 := w) [] (hW2) ?_
    refine Tw.lm (v := .slice p ((cd a).length) c) rfl rfl ?_
    refine Tw.lm (v := .slice none 0 0) rfl rfl ?_
    refine Tw.lm (v := .slice p ((cd a).length) c) rfl rfl ?_
    refine wpL_done (fun W27 hW27 => ?_)
    refine (show Code.wp _ _ _ _ _ from ?_)
    refine wp_ret ?_
    try simp only [inBlock_ret, then_ret]
    refine bodyPost_ret (v := .tuple #[.slice none 0 0, .slice p ((cd a).length) c]) ?_ rfl ?_
    · kernel_rfl
    · exact (by rw [(div_none ha).1, (div_none ha).2]; exact ⟨none, 0, p, c, rfl, Nat.zero_le _, hc, .inl rfl, (HP.mono (fun q hq => by cases hq)) _ (hW27.sub (fun q hq => hq)), hW27.1⟩)
end Go.Proofs.YtalmflgkbmnghaaDoor
namespace Go.Proofs.YtalmflgkbmnghaaDoor
open Go Go.RowKit Tw
noncomputable def valOf (w : World) (v : Value) : Nat := Classical.epsilon fun y => ∃ p c, v = .slice p (cd y).length c ∧ SLV w p (nums (cd y))
theorem nums_inj : ∀ {l m : List Nat}, nums l = nums m → l = m
  | [], [], _ => rfl
  | [], _ :: _, h => by simp [nums] at h
  | _ :: _, [], h => by simp [nums] at h
  | x :: r, y :: q, h => by
    simp only [nums, List.map_cons, List.cons.injEq, Value.int.injEq, true_and] at h
    have e : x = y := by omega
    rw [e, nums_inj (l := r) (m := q) h.2]
theorem slv_same {w : World} {p : Option Addr} {l m : List Nat} (h : SLV w p (nums l)) (h2 : SLV w p (nums m)) (hl : l.length = m.length) : l = m := by
  rcases h with h | ⟨b, off, rfl, _, hc⟩
  · have : l = [] := nums_inj (h.trans rfl)
    subst this
    exact (List.eq_nil_of_length_eq_zero (by simpa using hl.symm)).symm
  · rcases h2 with h2 | ⟨b2, off2, e, _, hc2⟩
    · have : m = [] := nums_inj (h2.trans rfl)
      subst this
      exact List.eq_nil_of_length_eq_zero (by simpa using hl)
    · cases e
      refine nums_inj (List.ext_getElem? fun i => ?_)
      rcases Nat.lt_or_ge i l.length with hi | hi
      · obtain ⟨u, hu⟩ : ∃ u, (nums l)[i]? = some u := ⟨_, List.getElem?_eq_getElem (by rw [nums_len]; exact hi)⟩
        obtain ⟨v, hv⟩ : ∃ u, (nums m)[i]? = some u := ⟨_, List.getElem?_eq_getElem (by rw [nums_len]; omega)⟩
        have e1 := hc i u hu
        have e2 := hc2 i v hv
        rw [e1] at e2
        rw [hu, hv, Option.some.inj e2]
      · rw [List.getElem?_eq_none (by rw [nums_len]; exact hi), List.getElem?_eq_none (by rw [nums_len]; omega)]
theorem valOf_eq {w : World} {p : Option Addr} {c y : Nat} (h : SLV w p (nums (cd y))) : valOf w (.slice p (cd y).length c) = y := by
  have hs := Classical.epsilon_spec (p := fun z => ∃ p' c', (Value.slice p (cd y).length c) = .slice p' (cd z).length c' ∧ SLV w p' (nums (cd z))) ⟨y, p, c, rfl, h⟩
  show Classical.epsilon (fun z => ∃ p' c', (Value.slice p (cd y).length c) = .slice p' (cd z).length c' ∧ SLV w p' (nums (cd z))) = y
  revert hs
  generalize Classical.epsilon (fun z => ∃ p' c', (Value.slice p (cd y).length c) = .slice p' (cd z).length c' ∧ SLV w p' (nums (cd z))) = z
  rintro ⟨p', c', e, hz⟩
  injection e with e1 e2 e3
  subst e1
  have := congrArg dv (slv_same hz h e2.symm)
  rwa [dv_cd, dv_cd] at this
theorem cd_mod_len {x y n : Nat} (h0 : 0 < y) (h : (cd y).length ≤ n) : (cd (x % y)).length ≤ n := by
  exact cd_le.2 (Nat.lt_trans (Nat.mod_lt x h0) (cd_le.1 h))
theorem gcd_end {x y g : Nat} (h : Nat.gcd x y = g) (hy : (cd y).length = 0) : x = g := by
  rw [cd_len0.1 hy, Nat.gcd_zero_right] at h
  exact h
set_option maxRecDepth 100000 in
set_option maxHeartbeats 4000000 in
theorem common_any (a b : Nat) (p q : Option Addr) (c d : Nat) (la : (cd a).length ≤ 90000) (lb : (cd b).length ≤ 90000) (hca : (cd a).length ≤ c) (hcb : (cd b).length ≤ d) (w : World) (hp : SLV w p (nums (cd a))) (hq : SLV w q (nums (cd b))) : Calls Tryd.prog 44 #[.slice p (cd a).length c, .slice q (cd b).length d] w fun e w' => AnsV w (cd (Nat.gcd a b)) e w' := by
  have HP : NS (w : Base) p (cd a) [] := NS.base hp
  have HQ : NS (w : Base) q (cd b) [] := NS.base hq
  clear hp hq
  go_enter Tryd.func44, Tryd.ntmps44
  refine wp_seq ?_
  refine wp_region_L (W0 := w) [] (KS.start w) ?_
  refine Tw.lm (v := .slice none 0 0) rfl rfl ?_
  refine wpL_done (fun W1 hW1 => ?_)
  refine (show Code.wp _ _ _ _ _ from ?_)
  refine wp_seq ?_
  refine wp_block ?_
  go_loopw [0, 1] (fun u0 u1 wr => ∃ (x y : Nat) (px py : Option Addr) (cx cy : Nat) (Kt : List (Nat × Obj)), (NS (w : Base) px (cd x) Kt) ∧ (NS (w : Base) py (cd y) Kt) ∧ ((cd x).length ≤ cx) ∧ ((cd y).length ≤ cy) ∧ (Nat.gcd x y = Nat.gcd a b) ∧ ((cd x).length ≤ 90000) ∧ ((cd y).length ≤ 90000) ∧ u0 = .slice px ((cd x).length) cx ∧ u1 = .slice py ((cd y).length) cy ∧ KS w Kt wr) (fun _ u1 wz => valOf wz u1)
  case atStart => exact ⟨a, b, p, q, c, d, [], HP, HQ, hca, hcb, rfl, la, lb, rfl, rfl, (hW1.sub (fun p hp => by first | exact hp | (simp only [List.mem_cons, List.mem_append, List.nil_append, List.not_mem_nil, or_assoc, or_false, false_or, List.cons_append, List.append_assoc] at hp ⊢ <;> grind)))⟩
  case round =>
    obtain ⟨x, y, px, py, cx, cy, Kt, HX, HY, hcx, hcy, hg, hlx, hly, rfl, rfl, hL2⟩ := hrel
    refine wp_seq ?_
    refine wp_seq ?_
    refine wp_region_L (W0 := w) Kt (hL2) ?_
    refine Tw.lm (v := .slice py ((cd y).length) cy) rfl rfl ?_
    refine Tw.lp (v := .int .i64 ((((cd y).length) : Nat) : Int)) rfl rfl (run_lenL (p := py) (cap := cy) (n := ((cd y).length)) rfl Tryd.underlying51 (by kernel_rfl)) ?_
    refine Tw.lp (v := .bool (decide (0 < ((cd y).length)))) rfl rfl (run_bin rfl (vx := (.int .i64 ((((cd y).length) : Nat) : Int))) (vy := (.int .i64 ((0 : Nat) : Int))) (by kernel_rfl) (by kernel_rfl) fun w => bn_gtr rfl w) ?_
    refine wpL_done (fun W3 hW3 => ?_)
    refine (show Code.wp _ _ _ _ _ from ?_)
    cases hd1 : (decide (0 < ((cd y).length))) with
    | false =>
      have h1 : ¬ (0 < ((cd y).length)) := of_decide_eq_false hd1
      clear hd1
      refine wp_cond_false rfl ?_
      refine wp_exit ?_
      refine (show Code.wp _ _ _ _ _ from ?_)
      refine wp_seq ?_
      refine wp_region_L (W0 := w) Kt (hW3) ?_
      refine Tw.lm (v := .slice px ((cd x).length) cx) rfl rfl ?_
      refine Tw.lm (v := .slice px ((cd x).length) cx) rfl rfl ?_
      refine wpL_done (fun W4 hW4 => ?_)
      refine (show Code.wp _ _ _ _ _ from ?_)
      refine wp_ret ?_
      try simp only [inBlock_ret, then_ret]
      refine bodyPost_ret (v := .slice px ((cd x).length) cx) ?_ rfl ?_
      · kernel_rfl
      · exact (gcd_end hg (by omega) ▸ ⟨_, _, rfl, hcx, ((HX.mono (fun q hq => by first | exact hq | (simp only [List.mem_cons, List.mem_append, List.nil_append, List.not_mem_nil, or_assoc, or_false, false_or] at hq ⊢ <;> grind)))) _ hW4, hW4.1⟩)
    | true =>
      have h1 : 0 < ((cd y).length) := of_decide_eq_true hd1
      clear hd1
      refine wp_cond_true rfl ?_
      refine wp_skip ?_
      refine (show Code.wp _ _ _ _ _ from ?_)
      refine wp_block ?_
      refine wp_seq ?_
      refine wp_region_L (W0 := w) Kt (hW3) ?_
      refine Tw.lm (v := .slice px ((cd x).length) cx) rfl rfl ?_
      refine Tw.lm (v := .slice py ((cd y).length) cy) rfl rfl ?_
      refine wpL_c (f := 45) (args := #[.slice px ((cd x).length) cx, .slice py ((cd y).length) cy]) (AnsW2 w Kt (cd (x / y)) (cd (x % y))) rfl (by kernel_rfl) (fun _ => (by kernel_rfl)) (fun W hW => (div_any x y px py cx cy (cd_pos' (by omega)) hlx hcx W ((HX.mono (fun q hq => by first | exact hq | (simp only [List.mem_cons, List.mem_append, List.nil_append, List.not_mem_nil, or_assoc, or_false, false_or] at hq ⊢ <;> grind))) W hW) ((HY.mono (fun q hq => by first | exact hq | (simp only [List.mem_cons, List.mem_append, List.nil_append, List.not_mem_nil, or_assoc, or_false, false_or] at hq ⊢ <;> grind))) W hW)).mono fun e w2 h => Ans2.g h hW) (fun _ => by simp only [List.setIfInBounds_toArray, List.set_cons_succ, List.set_cons_zero] <;> rfl) ?_
      rintro v1 _ ⟨q1, d1, r1, g1, T1, rfl, C1, E1, H1, G1, rfl⟩
      refine Tw.lm (v := .tuple #[.slice q1 ((cd (x / y)).length) d1, .slice r1 ((cd (x % y)).length) g1]) rfl rfl ?_
      refine Tw.lm (v := .slice q1 ((cd (x / y)).length) d1) rfl rfl ?_
      refine Tw.lm (v := .slice r1 ((cd (x % y)).length) g1) rfl rfl ?_
      refine Tw.lm (v := .slice q1 ((cd (x / y)).length) d1) rfl rfl ?_
      refine Tw.lm (v := .slice r1 ((cd (x % y)).length) g1) rfl rfl ?_
      refine wpL_done (fun W5 hW5 => ?_)
      refine (show Code.wp _ _ _ _ _ from ?_)
      refine wp_region_L (W0 := w) (Kt ++ T1) (hW5) ?_
      refine Tw.lm (v := .slice py ((cd y).length) cy) rfl rfl ?_
      refine Tw.lm (v := .slice r1 ((cd (x % y)).length) g1) rfl rfl ?_
      refine Tw.lm (v := .slice py ((cd y).length) cy) rfl rfl ?_
      refine Tw.lm (v := .slice r1 ((cd (x % y)).length) g1) rfl rfl ?_
      refine wpL_done (fun W6 hW6 => ?_)
      go_roundw
      case rel =>
        repeat apply Exists.intro
        exact ⟨⟨y, (x % y), py, r1, cy, g1, (Kt ++ T1), (HY.mono (fun q hq => by first | exact hq | (simp only [List.mem_cons, List.mem_append, List.nil_append, List.not_mem_nil, or_assoc, or_false, false_or] at hq ⊢ <;> grind))), (G1.mono (fun q hq => by first | exact hq | (simp only [List.mem_cons, List.mem_append, List.nil_append, List.not_mem_nil, or_assoc, or_false, false_or] at hq ⊢ <;> grind))), hcy, E1, ((Nat.gcd_comm y ((x % y))).trans ((Nat.gcd_rec y x).symm.trans ((Nat.gcd_comm y x).trans hg))), hly, (cd_mod_len (cd_pos' (by omega)) hly), rfl, rfl, (hW6.sub (fun p hp => by first | exact hp | (simp only [List.mem_cons, List.mem_append, List.nil_append, List.not_mem_nil, or_assoc, or_false, false_or, List.cons_append, List.append_assoc] at hp ⊢ <;> grind)))⟩, rfl⟩
      case measure => show valOf _ (.slice r1 ((cd (x % y)).length) g1) < valOf _ (.slice py ((cd y).length) cy); rw [valOf_eq ((G1.mono (fun q hq => by first | exact hq | (simp only [List.mem_cons, List.mem_append, List.nil_append, List.not_mem_nil, or_assoc, or_false, false_or] at hq ⊢ <;> grind))) _ hW6), valOf_eq (HY _ hL2)]; exact Nat.mod_lt _ (cd_pos' (by omega))
end Go.Proofs.YtalmflgkbmnghaaDoor
